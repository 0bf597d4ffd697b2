import PyProof.Rows.All
import Wide.All
import OpenK.AllK
import Wide.FinOn
import Lean
import PyProof.EqAt
import PyProof.EqKinds
import Open.Tops
import PyProof.SliceStr2
import PyProof.StrWalks
import PyProof.Rows.MinMaxN
import PyProof.Rows.SetFrom
import KE.KUnpackStar
import KE.KIntText
import PyProof.CallStr
import PyProof.Rows.ChunkEnd
import PyProof.Rows.Range3
import PyProof.Rows.SeqGen
import PyProof.ConsumeWalk
import PyProof.ListRange
import PyProof.NeKinds
import PyProof.TupleCall
import PySem.Challenge.RW_slipcurve_k35_two_reasons_which_first
set_option maxHeartbeats 3999000
open Or renaming inr→aa,inl→ae
open PySem.W renaming Frag→af,mg_of→ao,findIn→aG,kitOne→aP,mg_none_of→aQ,kia_one→aY,excIn→bj,mroIn→bq,emptyDict→br,callWith_K→bw,keepIn→bC,instObj→bN,fnOf→bP,hideAll→bY,hideAll_get→cL,codeIn→cZ,cellsFrom_some→db,plainGet→dg,methodCall_KW→dk,looks_findIn→dy,plainGet_of→dF,looks_mroIn→dG,lookIn→dH,kitCls→dM,of_hideAll→dQ,Looks→eg,methodObj→ei,hasDictIn→ej,takerIn→eR,OpenLaw→eT,hideAll_none→fv,callWith_K0→fK,isFn→fW,codeRec_of→fZ,plainOver→gh,kitx_list→gi,kitx_dict→gj,handedIn→gz,makesIn→gM,kit_cls→gX,WalkO→hZ
open PySem renaming wpAny_bind→ag,wpAny_pure→al,sizeLine_eq→aM,wpAny_holding→a8,boot_len→bf,wpAny_mono→bg,wpAny_truthy_bool→bh,wpAny_Call_Name_kw→bn,wpAny_setField_rec→bA,wpAny_field→bB,wpAny_ite_false→bF,codeAny_mono→bO,call_meets→bQ,wpAny_seqItems→bT,mem_of_lookup→ck,wpAny_callSpecial?_slot→cm,wpAny_pyIter_list→cu,wpAny_call→cA,typeIs_str→cC,wpAny_call_entry→cF,codeAny_call_builtin→cG,wpAny_standAt→cI,wpAny_execs_nil→cO,wpAny_passesOwn→cP,wpAny_rule→c8,wpAny_onRaise→df,wpAny_updateSeq_pair→dC,wpAny_ite_true→dL,isSubtype_type→dN,wpAny_pyIter_tuple→dR,wpAny_newFunctionEnv_cells→d9,wpAny_attempt→ef,wpAny_newObj_type→el,wpAny_execs_cons→eE,wpAny_comprehension_free→eF,codeAny_of_tree→eU,codeAny_builtin→eV,seqIndex_of→eY,codeAny_call_function→fg,weight_type_call_type→fj,call→fB,wpAny_specialOf_val→fO,Within→fU,seqIndex_neg→f7,tupleKind_room_in1→gf,list_append→gl,wpAny_letGo→gv,wpAny_Name→gK,typeIs_int→gS
open List renaming length_map→ah,size_toArray→aj,mem_cons→am,replicate→aq,not_mem_nil→ar,getElem?_map→aw,mem_append_right→ax,getElem?_eq_some_iff→aC,mem_of_getElem?→aE,lookup_cons→aH,mem_cons_of_mem→aI,mem_append_left→aJ,length_cons→aN,forall_mem_cons→aS,mem_cons_self→aT,range→aV,getElem?_eq_getElem→a7,length_append→bc,mem_singleton→bo,map_cons→bp,mem_append→bt,length_replicate→bv,all_eq_true→bz,forIn_cons→bE,replicate_succ→bG,lookup→bH,take_of_length_le→bI,getElem?_append_left→bM,map_append→bR,mem_range→bS,forIn_nil→cf,filterMap_cons→cj,getElem?_set_self→cp,drop_eq_nil_of_le→cq,flatten_cons→cw,getElem?_set_ne→cy,length_take→cB,getElem?_append_right→cJ,getD_eq_getElem?_getD→cK,length_take_le→cN,foldl_cons→cQ,length_nil→cT,length_drop→dh,eraseIdxIfInBounds_toArray→du,nodup_cons→dz,of_mem_zip→dA,mem_map→dB,all_map→dD,foldl_nil→dP,mem_filterMap→dS,nodup_iff_pairwise_ne→ee,take_length→eH,any_eq_true→eJ,getElem?_replicate→eL,length_eq_zero_iff→eN,mem_filter→eQ,range_succ_eq_map→e7,length_singleton→fh,contains_iff_mem→fk,eq_nil_or_concat→fm,concat_eq_append→fo,length_filter_le→fq,getLast?_append→fF,all_cons→fI,map_nil→f6,map_map→gb,forIn_toArray→gc,map_set→gg,append_assoc→gk,nodup_append→gr,length_range→gt,getElem_inj→gy,zipIdx_cons→gF,append_nil→gN,length_set→gP,foldl→gT,zipIdx_nil→gU,find?_cons→g7,drop_zero→hG
open PySem.Heap renaming get?_push_of_some→ai,get?_push_size→au,lt_size→av,size_push→aD,SameBut→aR,get?_update_other→de,get?_update_self→dm
open Nat renaming le_refl→ak,ne_of_lt→aA,lt_of_lt_of_le→aB,le_trans→aZ,lt_irrefl→bi,lt_succ_of_lt→cb,zero_le→cc,lt_succ_self→cz,ne_of_gt→dw,le_of_succ_le→en,le_of_lt→eD,mul_le_mul_left→fP,min_eq_left→g6,ble→hJ
open PySem.Value.ref renaming inj→ap
open Bool renaming false_ne_true→ay,and_eq_true→aF,eq_iff_iff→bu,false_eq_true→bx,not_eq_true'→c9,and_false→dJ,and_eq_true_iff→fG,and_true→fH,false_or→ia,true_and→ib,not_true→ic
open Option.some renaming inj→az
open PySem.Builtin.SmallTypes renaming nextOf→aK,ownedTupleIsFree→bD,ownedTupleHandOut→cW
open PySem.Value renaming ref→aL,none→bU,bool→cn,str→dj,type→dv,int→eP,float→gu,isStrOf→hW
open PyProof.Rows renaming boot_isinstance→aO,callWith_type1→bW,IntsAre→cH,codeAny_set_update_loopS→cU,setObjOf_fresh→dZ,SetOf_congr→eI,subscriptTail_builtinR→eZ,firstMet→fi,boot_tuple→fE,firstMet_succ→fJ,step_length→gx,boot_all→gJ,boot_range→gL,Subscript_→gO
open Int renaming emod_lt_of_pos→aU,emod_nonneg→be,toNat_natCast→ca
open False renaming elim→aW
open PySem.F renaming plainAttrs_list→aX,plainAttrs_str→bV,slot_tuple_iterator_next→bZ,slot_list_append→cg,type_list_append→ci,slot_list_pop→dq,type_list_pop→dt,slot_zip_next→dE,args_tuple_iterator_next_1→dI,entry_tuple_iterator_next→dU,args_str_split_2→d6,entry_str_split→eA,slot_str_split→eK,slot_str_split→fb,type_str_split→fe,args_list_append_2→fA,excBase_ValueError→fC,entry_list_append→fL,slot_list_append→f8,args_zip_next_1→gm,entry_type_call→gq,entry_list_pop→gC,entry_zip_next→gG,typeCall_set_1→gH,entry_set_init→gI
open PySem.NameKind renaming free→ba,cell→bJ
open PySem.Around renaming in1_units→bK,under→fX,under_plain→ge
open Ne renaming symm→bL
open PySem.Str renaming ofString→bX,empty→hU
open PySem.Txt renaming split→ce,split→gZ
open Option renaming map_eq_some_iff→cr,getD_none→gA,getD_some→gD,none→il
open Array renaming getElem?_toList→cx,length_toList→cM,all_eq_true'→cX,mem_of_getElem?→fu,mem_toList_iff→fw,append_assoc→fV,size_push→g8,toList→ig
open PySem.Obj renaming mapSeq→cD,mapDictKeys→eX,data_mapFields→f'
open ForInStep renaming yield→cR
open PySem.Unicode renaming isDigit→cS
open PySem.Builtin.List renaming listTooLong→cV
open True renaming intro→cY
open Prod renaming ext→di
open PySem.W.KF renaming type_class→dn
open PySem.Builtin.Frozenset renaming updateFrom→dO
open PySem.SeqAt.EqAt renaming of_refs→dW,int_str→fS,str_int→fT,same→gR
open PySem.Code renaming quiet_builtin→dX,isFrame→fY
open PyProof.Rows.IntsAre renaming int_at→dY
open PySem.Shared renaming mk→d7,TypeIs→eh,heap→gw
open PySem.Calls renaming Name_function_global→d8,callWith_builtin→e6,evalArgs_plain→fz
open PySem.SeqAt.RcAt renaming tuples→et,lists_lengths→eG,lists→gE
open Sum renaming inl→eB,inr→eC
open Classical renaming axiomOfChoice→eM,em→f9
open PySem.pyHashByItsType renaming reduced→eO
open PySem.PassesOwn renaming never→eW
open PySem.Builtin.Getset_descriptor renaming descrCheckInstance→e8,descrNameAndClass→ff,descrGetter→fR,descrGet→gn
open PySem.Heap.SameBut renaming update→fM
open PySem.SeqAt.RcNeAt renaming tuples→fN
open PySem.ItemsAre renaming cons→fQ
open PySem.Builtin.ObjectAttr renaming dataDescriptor?→gp,takesStores→gW,attrName→hV,bindTo→ie,getOf→ij,find→ik
open PySem.IsL renaming update→gB
open PySem.SeqAt renaming EqAt→gQ
open PySem.Walks renaming list→gV
open PUnit renaming unit→g9
open PyProof.Rows.Boot renaming ValueError→hI
open PySem.Paired renaming length→hX
open PySem.Manifest.AttrKind renaming slot→im
open PySem.PyData renaming bool→io
local macro_rules | `(tactic| trivial)=>`(tactic| first | exact .inl rfl | exact .inr rfl | assumption)
local macro_rules|`(#[$xs,*])=>do
 let a:=xs.getElems
 if h:a.size=0 then Lean.Macro.throwUnsupported else
 let s:=a[0].raw.getId.eraseMacroScopes.toString
 if s=="O" then `(by lia) else if s=="D" then `(by decide) else if s=="N" then `(by decide +kernel) else if s=="S" then `(⟨rfl,rfl,rfl,by decide +kernel,rfl,by decide +kernel,by decide +kernel⟩) else if s=="A" then `(Or.inl rfl) else if s=="M" then `(by simp) else
 match [("_____eb","ze"),("________eee","zY zt"),("________eeee","zB zcO"),("_","zhD zv zM zy zcw zaK za8 zas z7 zmI zgO zd zcG zfY zcj zb2 zcy zaB zaN zcN zhE zjj za0 zdO zcx zeX zc8 zdG zeY zV"),("_________ereeeddrr","zm zaM"),("___er","ya"),("___e","zk zch"),("____e","zF zaa zaf za6 zbd ze9"),("_______eeeu","zZ"),("____","zh zq za1"),("__e____efeert","zC"),("_____e","zaL zgJ zau"),("______b","zdP"),("_____eer","za zG"),("________________eefeeeneedrr","zH"),("________efeeei","zgN"),("______feer","zc6"),("__e_efet","zr"),("____er","zam"),("____________eeeeeerrrrr","zcz"),("_f","zeI zco"),("_____________efeeeeei","zaQ"),("__f","zaP"),("_ef","zdQ"),("_______ee","zi4 zbt zgI"),("__e__feefdd","zbL"),("_____ef","zU"),("___ei","zaz"),("_________effeeedrr","zac"),("________eef","zb3"),("______eerrr","za7"),("_______eeei","zgK"),("____________________eeeeeeneerrr","zbe"),("_______________","zW"),("___","zc4"),("___ee","zfZ"),("_________eeeeerr","zfg"),("______ferr","zbM"),("____________eeeeee","zcP"),("__e__feed","z8"),("__________eeee","zb5"),("_e","zdc"),("___fe","zf7"),("__","zbg"),("_________________eeeeeener","zb4"),("_________________eeefeeneedrr","zfb"),("_e_______eeefeeb","zb7"),("____e________ffffeeeffeed","zg4"),("__________eee","zdU"),("______er","zaY"),("______________________eeeeeeneerrr","zbQ"),("____________eefeeeedrr","zdV"),("______ee","zmH")].find? fun q=>(q.2.splitOn " ").contains s with
 |none=>Lean.Macro.throwUnsupported
 |some (p,_)=>do
  let mut r:=#[]
  let mut i:=1
  for c in p.toList do
   if c=='e' then
    r:=r.push (a[i]!)
    i:=i+1
   else if c=='b' then
    r:=r.push (←`((by exact $(a[i]!))))
    i:=i+1
   else r:=r.push (←match c with|'_'=>`(_)|'r'=>`((by rfl))|'d'=>`((by decide))|'f'=>`(rfl)|'t'=>`((by trivial))|'i'=>`((by intro _; rfl))|'u'=>`((fun _ _=>rfl))|'n'=>`(.nil)|'l'=>`(Or.inl rfl)|'o'=>`(Or.inr rfl)|_=>`(nomark _))
  return Lean.Syntax.mkApp (←`(@$(⟨a[0].raw⟩):ident)) r
set_option Elab.async false
set_option linter.all false
set_option maxRecDepth 100000
namespace L2
open PySem PySem.Spec PyProof.Rows
abbrev Key:=Sum Int Str
def zeD:Key→Value→Bool
 | .inl k,v=>Value.isInt k v
 | .inr x,v=>hW x v
def zoB (w:World):Key→Int
 | .inl k=>hashInt k
 | .inr x=>hashStr w x
theorem zaj:∀ {k:Key} {v:Value},zeD k v=true→(∃ i t,k=eB i∧v=eP i t)∨(∃ x t,k=eC x∧v=dj x t)
 | .inl i,v,h=>by
  obtain⟨t,e⟩:=Value.isInt_shape (k:=i) (v:=v) h;exact .inl ⟨i,t,rfl,e⟩
 | .inr x,v,h=>by
  obtain⟨t,e⟩:=Value.isStrOf_shape (x:=x) (v:=v) h;exact .inr ⟨x,t,rfl,e⟩
theorem zeE (i:Int) (t:Tok):zeD (.inl i) (.int i t)=true:=by simp [zeD,Value.isInt]
theorem zeF (x:Str) (t:Tok):zeD (.inr x) (.str x t)=true:=by simp [zeD,hW]
theorem zmP (a b:Int):decide ((eB a:Key)=eB b)=(a == b):=by
 by_cases e:a=b
 ·subst e; simp
 ·have h:¬ (eB a:Key)=eB b:=fun q=>e (Sum.inl.inj q)
  rw [decide_eq_false h];exact (beq_eq_false_iff_ne.mpr e).symm
theorem zmQ (a b:Str):decide ((eC a:Key)=eC b)=decide (a=b):=by
 by_cases e:a=b
 ·subst e; simp
 ·have h:¬ (eC a:Key)=eC b:=fun q=>e (Sum.inr.inj q)
  rw [decide_eq_false h,decide_eq_false e]
theorem zmR (a:Int) (b:Str):decide ((eB a:Key)=eC b)=false:=decide_eq_false (fun q=>nomatch q)
theorem zmS (a:Str) (b:Int):decide ((eC a:Key)=eB b)=false:=decide_eq_false (fun q=>nomatch q)
def zaI (prog:Program) (w:World):PySem.KeyKind prog w Key where
 is:=zeD
 hash:=zoB w
 inj:=fun v a b ha hb=>by
  rcases zaj ha with ⟨i,t,rfl,rfl⟩ | ⟨x,t,rfl,rfl⟩
  ·rcases zaj hb with ⟨j,u,rfl,e⟩ | ⟨y,u,rfl,e⟩
   ·injection e with e1 _; rw [e1]
   ·exact nomatch e
  ·rcases zaj hb with ⟨j,u,rfl,e⟩ | ⟨y,u,rfl,e⟩
   ·exact nomatch e
   ·injection e with e1 _; rw [e1]
 byValue:=fun k v h=>by
  rcases zaj h with ⟨i,t,rfl,rfl⟩ | ⟨x,t,rfl,rfl⟩ <;> rfl
 pyHash:=fun hv h=>by
  rcases zaj hv with ⟨i,t,rfl,rfl⟩ | ⟨x,t,rfl,rfl⟩
  ·exact wpAny_pyHash_int h
  ·exact wpAny_pyHash_str h
 eqBool:=fun hu hv h=>by
  rcases zaj hu with ⟨i,t,rfl,rfl⟩ | ⟨x,t,rfl,rfl⟩
  ·rcases zaj hv with ⟨j,u,rfl,rfl⟩ | ⟨y,u,rfl,rfl⟩
   ·rw [zmP] at h; exact wpAny_eqBool_int h
   ·rw [zmR] at h; exact fS i t y u _ _ _ _ h
  ·rcases zaj hv with ⟨j,u,rfl,rfl⟩ | ⟨y,u,rfl,rfl⟩
   ·rw [zmS] at h; exact fT x t j u _ _ _ _ h
   ·rw [zmQ] at h; exact wpAny_eqBool_str h
 «strs»:=fun k x t v h=>by
  rcases zaj h with ⟨i,u,rfl,e⟩ | ⟨y,u,rfl,e⟩
  ·exact nomatch e
  ·injection e with e1 _
   subst e1;cases v <;> rfl
theorem zfU (prog:Program) (w:World) (i:Int) (t:Tok):(zaI prog w).is (.inl i) (.int i t)=true:=zeE i t
theorem zfV (prog:Program) (w:World) (x:Str) (t:Tok):(zaI prog w).is (.inr x) (.str x t)=true:=zeF x t
inductive V where
 | non | bl (b:Bool) | int (i:Int) | str (x:Str) | byt (b:Array UInt8) | flt (b:UInt64) | ref (a:Addr) | ty (n:String)
 deriving DecidableEq
def RelV:V→Value→Prop
 | .non,u=>u=bU
 | .bl b,u=>u=cn b
 | .int i,u=>∃ t,u=eP i t
 | .str x,u=>∃ t,u=dj x t
 | .byt b,u=>∃ t,u=Value.bytes b t
 | .flt b,u=>∃ t,u=gu b t
 | .ref a,u=>u=aL a
 | .ty n,u=>u=dv n
abbrev zx:List V→List Value→Prop:=Paired RelV
theorem zx.length {xs:List V} {us:List Value} (r:zx xs us):xs.length=us.length:=hX r
theorem zx.get:∀ {xs:List V} {us:List Value} {i:Nat} {x:V},zx xs us→xs[i]? = some x→∃ u,us[i]? = some u∧RelV x u
 | _,_,_,_,.nil,e=>by simp at e
 | _,_,0,_,.cons r _,e=>by simp at e; subst e; exact⟨_,rfl,r⟩
 | _,_,i+1,x,.cons _ t,e=>by
  obtain⟨u,h1,h2⟩:=zx.get (i:=i) (x:=x) t (by simpa using e);exact⟨u,by simpa using h1,h2⟩
theorem zx.set {x:V} {u:Value} (r:RelV x u):∀ {xs:List V} {us:List Value} (i:Nat),zx xs us→zx (xs.set i x) (us.set i u)
 | _,_,_,.nil=>.nil
 | _,_,0,.cons _ t=>.cons r t
 | _,_,i+1,.cons q t=>.cons q (zx.set r i t)
theorem zx.append:∀ {xs ys:List V} {us ws:List Value},zx xs us→zx ys ws→zx (xs++ys) (us++ws)
 | _,_,_,_,.nil,s=>s
 | _,_,_,_,.cons r t,s=>.cons r (zx.append t s)
theorem zx.take:∀ {xs:List V} {us:List Value} (n:Nat),zx xs us→zx (xs.take n) (us.take n)
 | _,_,0,_=>.nil
 | _,_,_+1,.nil=>.nil
 | _,_,n+1,.cons r t=>.cons r (zx.take n t)
theorem zx.drop:∀ {xs:List V} {us:List Value} (n:Nat),zx xs us→zx (xs.drop n) (us.drop n)
 | _,_,0,r=>r
 | _,_,_+1,.nil=>.nil
 | _,_,n+1,.cons _ t=>zx.drop n t
def zem:Option V→Option Value→Prop
 | some v,some u=>RelV v u
 | none,none=>True
 | _,_=>False
def KV {κ:Type}:List (κ×V)→List (κ×Value)→Prop:=Paired fun (p:κ×V) (q:κ×Value)=>p.1=q.1∧RelV p.2 q.2
def kV:Key→V
 | .inl i=>.int i
 | .inr x=>.str x
inductive HO where
 | lst (xs:List V)
 | tup (xs:List V)
 | dK (iX:List (Key×V)) | dT (iX:List (List Key×V))
 | set (S:Int→Bool) (n:Nat)
 | ins (C dx:Addr) (fs:List (Str×V))
 | own (x:Addr)
 | xd (fs:List (Str×V))
 | met (f x:Addr)
 | rng (lo hi:Int)
 | frz (o:Obj) (u:HO)
 | tbl (ps:Array Value)
 | ext (φ:Heap→Prop)
abbrev Hp:=Addr→Option HO
def upd (H:Hp) (a:Addr) (o:HO):Hp:=fun b=>if b=a then some o else H b
theorem zb {H:Hp} {a:Addr} {o:HO}:upd H a o a=some o:=by unfold upd; rw [if_pos rfl]
theorem zc {H:Hp} {a b:Addr} {o:HO} (h:b≠a):upd H a o b=H b:=by unfold upd; rw [if_neg h]
theorem zlh {H:Hp} {a:Addr} {o u:HO}:upd (upd H a o) a u=upd H a u:=by
 funext b; unfold upd; split <;> rfl
theorem zaO {H:Hp} {a b:Addr} {o u:HO} (h:H a=some o) (h':H b=some u) (d:o≠u):a≠b:=by
 intro e; subst e; rw [h] at h'; exact d (az h')
theorem zi {H:Hp} {a b:Addr} {o:HO} (h:H a=some o) (h':H b=none):a≠b:=by
 intro e; subst e; rw [h] at h'; cases h'
section
variable (P:Program) (w:World)
def zal (H:Hp) (h:Heap) (a:Addr):HO→Prop
 | .lst xs=>xs.length≤sizeLine∧∃ (ir:List Value) (n:Nat),zx xs ir∧h.get? a=some { cls:=.type "list",data:=.seq ir.toArray n }
 | .tup xs=>xs.length≤sizeLine∧∃ ir:List Value,zx xs ir∧IsTup h a ir.toArray
 | .dK iX=>iX.length≤sizeLine∧(a == sysModules)=false∧∃ vs,KV iX vs∧h.DictOf (zaI P w) a vs
 | .dT iX=>iX.length≤sizeLine∧(a == sysModules)=false∧∃ xs:List (List Key×Addr×Value),
   Paired (fun (p:List Key×V) (q:List Key×Addr×Value)=>p.1=q.1∧H q.2.1=some (.tup (p.1.map kV))∧RelV p.2 q.2.2) iX xs ∧
   ∃ o es ep,h.get? a=some o∧o.ExactDict∧o.data = .dict es ep∧es.toList=xs.map (entryOfKey (tupleKind (zaI P w)))∧(xs.map (·.1)).Nodup
 | .set S n=>h.SetOf (intKind P w) a S n
 | .ins C dx fs=>H dx=some (.own a)∧fs.length≤1000∧dx≠a∧h.get? a=some (bN C dx) ∧
   ∃ mA,h.Ns1 dx mA∧(∀ f,zem (fs.lookup f) (mA f))∧fU mA (fs.map (·.1))
 | .own _=>∃ o,h.get? a=some o
 | .xd fs=>∃ mA,h.Ns1 a mA∧∀ f,zem (fs.lookup f) (mA f)
 | .rng lo hi=>∃ t u v,h.get? a=some { cls:=.type "range",data:=.fields #[.int lo t,.int hi u,.int 1 v] }
 | .frz o u=>h.get? a=some o∧zal H h a u
 | .tbl ps=>h.get? a=some { cls:=.none,data:=.fields ps }
 | .met f x=>h.get? a=some (ei (.ref f) (.ref x))
 | .ext φ=>φ h∧(∃ o,h.get? a=some o)∧∀ h1 h2:Heap,φ h1→(∀ o,h1.get? a=some o→h2.get? a=some o)→φ h2
def HOk (H:Hp) (h:Heap):Prop:=∀ a o,H a=some o→zal P w H h a o
end
section
variable {P:Program} {w:World} {H H':Hp} {h h':Heap} {a:Addr} {o:HO}
theorem zal.lt (x:zal P w H h a o):a < h.objs.size:=by
 cases o with
 | lst xs=>obtain⟨_,_,_,_,e⟩:=x; exact av e
 | tup xs=>obtain⟨_,_,_,p⟩:=x; exact p.lt
 | dK iX=>obtain⟨_,_,_,_,o,_,_,e,_⟩:=x; exact av e
 | dT iX=>obtain⟨_,_,_,_,o,_,_,e,_⟩:=x; exact av e
 | set S n=>obtain⟨o,_,_,_,e,_⟩:=x; exact av e
 | ins C dx fs=>obtain⟨_,_,_,e,_⟩:=x; exact av e
 | own y=>obtain⟨_,e⟩:=x; exact av e
 | xd fs=>obtain⟨_,⟨_,_,_,e,_⟩,_⟩:=x; exact av e
 | rng lo hi=>obtain⟨_,_,_,e⟩:=x; exact av e
 | frz ob u=>obtain⟨e,_⟩:=x; exact av e
 | tbl ps=>exact av (show h.get? a=some _ from x)
 | met f y=>exact av (show h.get? a=some _ from x)
 | ext φ=>obtain⟨_,⟨_,e⟩,_⟩:=x; exact av e
theorem Paired.mapP {α β:Type} {F G:α→β→Prop}:∀ {l₁:List α} {l₂:List β},Paired F l₁ l₂→(∀ a b,F a b→G a b)→Paired G l₁ l₂
 | _,_,.nil,_=>.nil
 | _,_,.cons r t,f=>.cons (f _ _ r) (Paired.mapP t f)
theorem zal.stay (x:zal P w H h a o) (k:∀ b u,(b=a∨H b=some (.own a))→h.get? b=some u→h'.get? b=some u)
  (ho:∀ b,H b=some (.own a)→H' b=some (.own a)) (ht:∀ b xs,H b=some (.tup xs)→H' b=some (.tup xs)):zal P w H' h' a o:=by
 induction o with
 | lst xs=>obtain⟨z,ir,n,r,e⟩:=x; exact⟨z,ir,n,r,k _ _ (.inl rfl) e⟩
 | tup xs=>obtain⟨z,ir,r,ob,e,c⟩:=x; exact⟨z,ir,r,ob,k _ _ (.inl rfl) e,c⟩
 | dK iX=>obtain⟨z,y,vs,r,ob,es,ep,e,c⟩:=x; exact⟨z,y,vs,r,ob,es,ep,k _ _ (.inl rfl) e,c⟩
 | dT iX =>
  obtain⟨z,y,xs,r,ob,es,ep,e,c⟩:=x;exact⟨z,y,xs,Paired.mapP r fun p q z=>⟨z.1,ht _ _ z.2.1,z.2.2⟩,ob,es,ep,k _ _ (.inl rfl) e,c⟩
 | set S n=>obtain⟨ob,es,ep,t,e,c⟩:=x; exact⟨ob,es,ep,t,k _ _ (.inl rfl) e,c⟩
 | ins C dx fs =>
  obtain⟨d,z,ne,e,mA,⟨od,es,ep,e2,c⟩,r⟩:=x;exact⟨ho _ d,z,ne,k _ _ (.inl rfl) e,mA,⟨od,es,ep,k _ _ (.inr d) e2,c⟩,r⟩
 | own y=>obtain⟨ob,e⟩:=x; exact⟨ob,k _ _ (.inl rfl) e⟩
 | xd fs=>obtain⟨mA,⟨od,es,ep,e,c⟩,r⟩:=x; exact⟨mA,⟨od,es,ep,k _ _ (.inl rfl) e,c⟩,r⟩
 | rng lo hi=>obtain⟨t,u,v,e⟩:=x; exact⟨t,u,v,k _ _ (.inl rfl) e⟩
 | frz ob u ih=>obtain⟨e,q⟩:=x; exact⟨k _ _ (.inl rfl) e,ih q⟩
 | tbl ps =>
  have e:h.get? a=some { cls:=.none,data:=.fields ps }:=x;show h'.get? a=some { cls:=.none,data:=.fields ps };exact k a _ (.inl rfl) e
 | met f y =>
  have e:h.get? a=some (ei (.ref f) (.ref y)):=x;show h'.get? a=some (ei (.ref f) (.ref y));exact k a _ (.inl rfl) e
 | ext φ=>obtain⟨p,⟨o,e⟩,st⟩:=x; exact⟨st _ _ p fun o q=>k _ _ (.inl rfl) q,⟨o,k _ _ (.inl rfl) e⟩,st⟩
theorem HOk.lt (x:HOk P w H h) (e:H a=some o):a < h.objs.size:=(x a o e).lt
theorem HOk.fresh (x:HOk P w H h) (e:h.objs.size≤a):H a=none:=by
 cases q:H a with
 | none=>rfl
 | some u=>exact absurd (aB (x.lt q) e) (bi _)
theorem HOk.kept (x:HOk P w H h) (k:∀ b u,h.get? b=some u→h'.get? b=some u):HOk P w H h':=fun a o e =>
 (x a o e).stay (fun b u _ q=>k b u q) (fun _ q=>q) fun _ _ q=>q
theorem HOk.laid (x:HOk P w H h) (k:∀ b u,h.get? b=some u→h'.get? b=some u) (hp:h.objs.size≤a) (new:zal P w (upd H a o) h' a o):HOk P w (upd H a o) h':=fun b u e=>by
 have hn:=x.fresh hp;by_cases hb:b=a
 ·subst hb; rw [zb] at e; cases e; exact new
 ·rw [zc hb] at e;exact (x b u e).stay (fun c v _ q=>k c v q) (fun c q=>by rw [zc (zi q hn)]; exact q) fun c xs q=>by rw [zc (zi q hn)]; exact q
end
def Rd (H:Hp) (a:Addr) (u:HO):Prop:=H a=some u∨∃ o,H a=some (.frz o u)
theorem Rd.ok {P:Program} {w:World} {H:Hp} {h:Heap} {a:Addr} {u:HO} (r:Rd H a u) (x:HOk P w H h):zal P w H h a u:=by
 rcases r with r | ⟨o,r⟩
 ·exact x a u r
 ·obtain⟨_,q⟩:=x a _ r;exact q
def Mut:Option HO→Prop
 | some (.lst _)=>True
 | some (.dK _)=>True
 | some (.dT _)=>True
 | some (.set _ _)=>True
 | some (.ins _ _ _)=>True
 | some (.ext _)=>True
 | _=>False
section
variable {P:Program} {w:World} {H:Hp} {h h':Heap} {x e:Addr} {o':HO}
theorem HOk.write (ok:HOk P w H h) (mu:Mut (H x)) (he:e=x∨H e=some (.own x)) (k:∀ b u,b≠e→h.get? b=some u→h'.get? b=some u) (oH:∃ u,h'.get? e=some u)
  (new:zal P w (upd H x o') h' x o'):HOk P w (upd H x o') h':=fun b u q=>by
 have o9:∀ c y,H c=some (.own y)→c≠x:=fun c y r z=>by subst z; rw [r] at mu; exact mu
 have ra:∀ c xs,H c=some (.tup xs)→c≠x:=fun c xs r z=>by subst z; rw [r] at mu; exact mu
 by_cases hb:b=x
 ·subst hb; rw [zb] at q; cases q; exact new
 ·rw [zc hb] at q;by_cases nN:b=e
  ·have q':H b=some (.own x):=by
    rcases he with z | z
    ·exact absurd (nN.trans z) hb
    ·rw [nN]; exact z
   rw [q] at q'; cases q';obtain⟨v,hv⟩:=oH;exact⟨v,by rw [nN]; exact hv⟩
  ·refine (ok b u q).stay (fun c v hc r=>k c v ?_ r) (fun c r=>by rw [zc (o9 c b r)]; exact r) fun c xs r=>by rw [zc (ra c xs r)]; exact r
   rcases hc with rfl | hc
   ·exact nN
   ·rintro rfl;rcases he with z | z
    ·exact o9 c b hc z
    ·rw [hc] at z; cases z; exact hb rfl
end
structure Un (fs ex:List Addr) (H H':Hp) (h h':Heap):Prop where
 keep:∀ b o,h.get? b=some o→H b=none→b∉fs→b∉ex→h'.get? b=some o
 slot:∀ b o,h.get? b=some o→H b=none→b∈fs→b∉ex→∃ sl,h'.get? b=some { o with slots:=sl }
 free:∀ b o,h.get? b=some o→H b=none→b∉ex→H' b=none
 there:∀ b o,h.get? b=some o→b∉ex→∃ o',h'.get? b=some o'
 tups:∀ b xs,H b=some (.tup xs)→H' b=some (.tup xs)
 frzs:∀ b o u,H b=some (.frz o u)→H' b=some (.frz o u)
 tbls:∀ b ps,H b=some (.tbl ps)→∃ more,H' b=some (.tbl (ps++more))
section
variable {fs fs' ex ex':List Addr} {H H1 H2:Hp} {h h1 h2 h':Heap} {a x e:Addr} {o:HO}
theorem Un.any (u:Un fs ex H H1 h h1) {b:Addr} {ob:Obj} (q:h.get? b=some ob) (n:H b=none) (hx:b∉ex):∃ sl,h1.get? b=some { ob with slots:=sl }:=by
 by_cases hb:b∈fs
 ·exact u.slot b ob q n hb hx
 ·exact⟨ob.slots,u.keep b ob q n hb hx⟩
theorem Un.kept (k:∀ b u,h.get? b=some u→h'.get? b=some u):Un fs ex H H h h' :=
 ⟨fun b ob q _ _ _=>k b ob q,fun b ob q _ _ _=>⟨ob.slots,k b ob q⟩,fun _ _ _ n _=>n,fun b ob q _=>⟨ob,k b ob q⟩,fun _ _ q=>q,fun _ _ _ q=>q,fun _ ps q=>⟨#[],by rw [q]; simp⟩⟩
theorem Un.refl:Un fs ex H H h h:=Un.kept fun _ _ q=>q
theorem Un.laid (k:∀ b u,h.get? b=some u→h'.get? b=some u) (hp:h.objs.size≤a) (hn:H a=none):Un fs ex H (upd H a o) h h' where
 keep:=fun b u q _ _ _=>k b u q
 slot:=fun b u q _ _ _=>⟨u.slots,k b u q⟩
 free:=fun b u q n _=>by rw [zc (aA (aB (av q) hp))]; exact n
 there:=fun b u q _=>⟨u,k b u q⟩
 tups:=fun b xs q=>by rw [zc (zi q hn)]; exact q
 frzs:=fun b u xs q=>by rw [zc (zi q hn)]; exact q
 tbls:=fun b ps q=>⟨#[],by rw [zc (zi q hn),q]; simp⟩
theorem Un.write (mu:Mut (H x)) (he:e=x∨H e=some (.own x)) (k:∀ b u,b≠e→h.get? b=some u→h'.get? b=some u) (oH:∃ u,h'.get? e=some u):Un fs ex H (upd H x o) h h':=by
 have hx:∀ b,H b=none→b≠x:=fun b n z=>by subst z; rw [n] at mu; exact mu
 have hb:∀ b,H b=none→b≠e:=fun b n z=>by
  subst z;rcases he with r | r
  ·exact hx b n r
  ·rw [n] at r; cases r
 have hm:∀ b u,H b=some u→¬ Mut (some u)→b≠x:=fun b u q nm z=>by subst z; rw [q] at mu; exact nm mu
 refine⟨fun b u q n _ _=>k b u (hb b n) q,fun b u q n _ _=>⟨u.slots,k b u (hb b n) q⟩,fun b u q n _=>by rw [zc (hx b n)]; exact n,fun b u q _=>?_,
  fun b xs q=>by rw [zc (hm b _ q fun z=>z)]; exact q,fun b u xs q=>by rw [zc (hm b _ q fun z=>z)]; exact q,fun b ps q=>⟨#[],by rw [zc (hm b _ q fun z=>z),q]; simp⟩⟩
 by_cases nN:b=e
 ·subst nN; exact oH
 ·exact⟨u,k b u nN q⟩
end
def trk (h:Heap) (H:Hp):List Addr:=(aV h.objs.size).filter fun a=>(H a).isSome
def ze8 (h:Heap) (H:Hp):Heap:=bY h (trk h H)
theorem zhS (h:Heap) (H:Hp):(ze8 h H).objs.size=h.objs.size:=PySem.W.hideAll_size _ _
theorem zi3 {h:Heap} {H:Hp} {b:Addr} {o:Obj} (e:h.get? b=some o) (n:H b=none):(ze8 h H).get? b=some o :=
 cL _ e fun hm=>by
  have q:(H b).isSome=true:=(eQ.mp hm).2;rw [n] at q; simp at q
theorem zli {h:Heap} {H:Hp} {b:Addr} {o:Obj} (e:(ze8 h H).get? b=some o):h.get? b=some o∧H b=none:=by
 have e':h.get? b=some o:=dQ (trk h H) e;refine⟨e',?_⟩;cases q:H b with
 | none=>rfl
 | some x =>
  have hm:b∈trk h H:=eQ.mpr ⟨bS.mpr (av e'),by simp [q]⟩;have z:(ze8 h H).get? b=none:=fv (trk h H) hm;rw [z] at e; cases e
structure Mod (K:af) (mg:Str→Option Value) (base:Heap):Prop where
 kin:K.In base
 glob:base.Ns mainGlobals mg
 blt:∃ mb,base.Ns builtinsNs mb∧∀ x:Str,x≠"__name__"→mb x=bootBuiltins x
 nolimit:base.NoLimit
structure Cx where
 prog:Program
 w:World
 K:af
 mg:Str→Option Value
 base:Heap
 A:Around
 N:List Str
 s₀:Shared
 H₀:Hp
 env:Env
 outer:List Env
 stack:List Env
 ex:List Addr
 fn:Str→Bool
 calm:Bool
 pn:List (Addr×Obj)
 xe:Value→Shared→Prop
def frs (l:List Env):List Addr:=l.filterMap (·.frame)
abbrev Cx.fs (X:Cx):List Addr:=frs X.outer
def Vis (sc:Scope) (x:Str):Prop:=sc.names.lookup x=some .local∨sc.names.lookup x=some .cell∨sc.names.lookup x=some .free
def Loc (sc:Scope) (x:Str):Prop:=sc.names.lookup x=some .local∨sc.names.lookup x=some .cell
def Look (env:Env) (h:Heap) (m:Str→Option Value) (x:Str) (u:Value):Prop :=
 (env.kindOf x=some .local∧m x=some u)∨((env.kindOf x=some .cell∨env.kindOf x=some .free)∧∃ c,env.cells.lookup x=some c∧h.IsCell c (some u))
structure Cx.Ok (X:Cx):Prop where
 mod:Mod X.K X.mg X.base
 kind:X.env.scope.kind = .function
 glob:X.env.globals=mainGlobals
 blt:X.env.builtins=builtinsNs
 above:X.s₀.heap.objs.size≤X.env.locals
 inj:∀ x y c,X.env.cells.lookup x=some c→X.env.cells.lookup y=some c→x=y
 has:∀ x,(X.env.kindOf x=some .cell∨X.env.kindOf x=some .free)→∃ c,X.env.cells.lookup x=some c
 cab:∀ x c,X.fn x=true→X.env.cells.lookup x=some c→X.s₀.heap.objs.size≤c
 hd:X.calm=true→X.A.handled=none
 frames:X.A.frames=some X.stack
 stk:X.stack=X.outer∨(X.stack=X.env :: X.outer∧X.env.frame=some X.env.locals)
 exf:∀ b∈X.ex,b≠X.env.locals∧∀ x c,X.env.cells.lookup x=some c→c≠b
 bs:∀ b o,X.base.get? b=some o→X.s₀.heap.get? b=some o∧X.H₀ b=none
 bsz:X.base.objs.size≤X.s₀.heap.objs.size
 noex:∀ b o,X.base.get? b=some o→b∉X.ex
 exfs:∀ b∈X.ex,b∉X.fs
 funs:X.s₀.heap.FunFrames X.base X.outer
 frf:∀ b∈X.fs,X.H₀ b=none
structure Inv (X:Cx) (ip:List (Addr×Obj)) (σ:List (Option V)) (H:Hp) (s:Shared):Prop where
 ok:X.Ok
 os:s.os=X.s₀.os
 bare:AllBare s.gens
 base:Un X.fs X.ex X.H₀ H X.s₀.heap s.heap
 loc:∃ m,s.heap.Ns X.env.locals m∧∀ (i:Nat) (x:Str) (v:V),X.N[i]? = some x→σ[i]? = some (some v)→Vis X.env.scope x→∃ u,RelV v u∧Look X.env s.heap m x u
 cell:∀ x c,X.env.cells.lookup x=some c→∃ v,s.heap.IsCell c v
 free:H X.env.locals=none
 freeC:∀ x c,X.env.cells.lookup x=some c→H c=none
 pin:∀ p∈X.pn++ip,s.heap.get? p.1=some p.2∧H p.1=none∧p.1≠X.env.locals∧p.1∉X.fs∧∀ v,p.2.data≠.cell v
 hok:HOk X.prog X.w H s.heap
 len:σ.length=X.N.length
section
variable {X:Cx} {ip:List (Addr×Obj)} {σ:List (Option V)} {H H':Hp} {s:Shared} {h':Heap}
theorem Cx.Ok.nofr (ok:X.Ok) {b:Addr} {o:Obj} (e:X.base.get? b=some o):b∉X.fs:=fun hb=>by
 have:=(ok.funs.mem hb).1;rw [e] at this; cases this
theorem Inv.bs (I:Inv X ip σ H s):∀ b o,X.base.get? b=some o→s.heap.get? b=some o∧H b=none:=fun b o e =>
 ⟨I.base.keep b o (I.ok.bs b o e).1 (I.ok.bs b o e).2 (I.ok.nofr e) (I.ok.noex b o e),I.base.free b o (I.ok.bs b o e).1 (I.ok.bs b o e).2 (I.ok.noex b o e)⟩
theorem Inv.bk (I:Inv X ip σ H s):∀ b o,X.base.get? b=some o→s.heap.get? b=some o:=fun b o e=>(I.bs b o e).1
theorem Inv.mod (I:Inv X ip σ H s):Mod X.K X.mg X.base:=I.ok.mod
theorem Inv.kIn (I:Inv X ip σ H s):X.K.In s.heap:=I.ok.mod.kin.keeps I.bk
theorem Inv.lt (I:Inv X ip σ H s):X.env.locals < s.heap.objs.size:=let ⟨_,hn,_⟩:=I.loc; hn.lt
theorem Inv.sz (I:Inv X ip σ H s):X.s₀.heap.objs.size≤s.heap.objs.size:=aZ I.ok.above (eD I.lt)
theorem Inv.nofs (I:Inv X ip σ H s) {a:Addr} (h:s.heap.objs.size≤a):a∉X.fs:=fun hb=>by
 obtain⟨_,o,ho,_⟩:=I.ok.funs.mem hb;exact absurd (aB (av ho) (aZ I.sz h)) (bi _)
theorem Inv.cne (I:Inv X ip σ H s):∀ x c,X.env.cells.lookup x=some c→c≠X.env.locals:=fun x c e z=>by
 obtain⟨v,o,ho,hd⟩:=I.cell x c e;obtain⟨m,⟨o',es,ep,kP,lQ,_⟩,_⟩:=I.loc;rw [z,kP] at ho; cases ho; rw [lQ] at hd; cases hd
theorem Inv.funs (I:Inv X ip σ H s):s.heap.FunFrames X.base X.outer:=by
 have all:∀ (l:List Env),(∀ b∈frs l,b∈X.fs)→X.s₀.heap.FunFrames X.base l→s.heap.FunFrames X.base l:=by
  intro l;induction l with
  | nil=>intro _ _; trivial
  | cons env r ih =>
   intro hs hl;obtain⟨hk,⟨L,o,hf,hn,ho,hd⟩,hr⟩:=hl;have hL:L∈X.fs:=hs L (by unfold frs; rw [cj,hf]; exact aT);obtain⟨sl,e⟩:=I.base.slot L o ho (I.ok.frf L hL) hL fun z=>I.ok.exfs L z hL
   exact⟨hk,⟨L,_,hf,hn,e,hd⟩,ih (fun b hb=>hs b (by unfold frs; rw [cj,hf]; exact aI _ hb)) hr⟩
 exact all X.outer (fun _ hb=>hb) I.ok.funs
theorem Inv.stack (I:Inv X ip σ H s):s.heap.FunFrames X.base X.stack:=by
 rcases I.ok.stk with e | ⟨e,hf⟩
 ·rw [e]; exact I.funs
 ·rw [e];obtain⟨m,hn,_⟩:=I.loc;refine .cons (by rw [I.ok.kind]; decide) hf hn ?_ I.funs;exact Heap.get?_none_of_le (aZ I.ok.bsz I.ok.above)
theorem Inv.stkSub (I:Inv X ip σ H s):∀ b∈frs X.stack,b∈X.env.locals :: X.fs:=fun b hb=>by
 rcases I.ok.stk with e | ⟨e,hf⟩
 ·rw [e] at hb; exact aI _ hb
 ·rw [e] at hb;unfold frs at hb;rw [cj,hf] at hb;exact hb
theorem Inv.stkFree (I:Inv X ip σ H s):∀ b∈frs X.stack,H b=none:=fun b hb=>by
 rcases am.mp (I.stkSub b hb) with e | hb
 ·rw [e]; exact I.free
 ·obtain⟨_,o,ho,_⟩:=I.ok.funs.mem hb;exact I.base.free b o ho (I.ok.frf b hb) fun z=>I.ok.exfs b z hb
theorem Inv.step {g':Array GenState} {t':Nat} {d':Drawn} {ch:List Addr} (I:Inv X ip σ H s)
  (mK:∀ b∈ch,(b∈X.ex∨X.s₀.heap.objs.size≤b)∧b≠X.env.locals∧(∀ x c,X.env.cells.lookup x=some c→c≠b)∧∀ p∈X.pn++ip,p.1≠b)
  (keep:∀ b o,b≠X.env.locals→b∉X.fs→b∉ch→s.heap.get? b=some o→H b=none→h'.get? b=some o)
  (slot:∀ b o,b≠X.env.locals→b∈X.fs→b∉ch→s.heap.get? b=some o→H b=none→∃ sl,h'.get? b=some { o with slots:=sl }) (free:∀ b o,b∉ch→s.heap.get? b=some o→H b=none→H' b=none)
  (there:∀ b o,b∉ch→s.heap.get? b=some o→∃ o',h'.get? b=some o')
  (tups:∀ b xs,H b=some (.tup xs)→H' b=some (.tup xs)) (frzs:∀ b o u,H b=some (.frz o u)→H' b=some (.frz o u)) (tbls:∀ b ps,H b=some (.tbl ps)→∃ more,H' b=some (.tbl (ps++more)))
  (ns:∀ m,s.heap.Ns X.env.locals m→h'.Ns X.env.locals m) (hok:HOk X.prog X.w H' h') (hg:AllBare g') :
  Inv X ip σ H' { s with heap:=h',gens:=g',drawn:=d',toks:=t' }:=by
 have neL:∀ b o,X.s₀.heap.get? b=some o→b≠X.env.locals:=fun b o e=>aA (aB (av e) I.ok.above)
 have qv:∀ b o,X.s₀.heap.get? b=some o→b∉X.ex→b∉ch:=fun b o e hx hb=>by
  rcases (mK b hb).1 with z | z
  ·exact hx z
  ·exact absurd (aB (av e) z) (bi _)
 have cellK:∀ x c,X.env.cells.lookup x=some c→∀ v,s.heap.IsCell c v→h'.IsCell c v:=fun x c e v ⟨o,ho,hd⟩=>by
  have pb:c∉ch:=fun z=>(mK c z).2.2.1 x c e rfl
  by_cases hc:c∈X.fs
  ·obtain⟨sl,q⟩:=slot c o (I.cne x c e) hc pb ho (I.freeC x c e);exact⟨_,q,hd⟩
  ·exact⟨o,keep c o (I.cne x c e) hc pb ho (I.freeC x c e),hd⟩
 refine⟨I.ok,I.os,hg,⟨fun b o e n hb hx=>?_,fun b o e n hb hx=>?_,fun b o e n hx=>?_,fun b o e hx=>?_,fun b xs e=>tups b xs (I.base.tups b xs e),fun b o xs e=>frzs b o xs (I.base.frzs b o xs e),fun b ps e=>?_⟩,?_,fun x c e=>?_,?_,fun x c e=>?_,fun p hp=>?_,hok,I.len⟩
 ·exact keep b o (neL b o e) hb (qv b o e hx) (I.base.keep b o e n hb hx) (I.base.free b o e n hx)
 ·obtain⟨sl,e1⟩:=I.base.slot b o e n hb hx;obtain⟨qw,e2⟩:=slot b _ (neL b o e) hb (qv b o e hx) e1 (I.base.free b o e n hx);exact⟨qw,e2⟩
 ·obtain⟨o',e1⟩:=I.base.there b o e hx;exact free b o' (qv b o e hx) e1 (I.base.free b o e n hx)
 ·obtain⟨o',e1⟩:=I.base.there b o e hx;exact there b o' (qv b o e hx) e1
 ·obtain⟨m1,e1⟩:=I.base.tbls b ps e;obtain⟨m2,e2⟩:=tbls b _ e1;exact⟨m1++m2,by rw [e2,fV]⟩
 ·obtain⟨m,hn,hl⟩:=I.loc;refine⟨m,ns m hn,fun i x v e1 e2 e3=>?_⟩;obtain⟨u,r,l⟩:=hl i x v e1 e2 e3;refine⟨u,r,?_⟩;rcases l with l | ⟨k,c,e,z⟩
  ·exact .inl l
  ·exact .inr ⟨k,c,e,cellK x c e _ z⟩
 ·obtain⟨v,z⟩:=I.cell x c e;exact⟨v,cellK x c e v z⟩
 ·obtain⟨m,⟨o,_,_,ho,_⟩,_⟩:=I.loc;exact free _ o (fun z=>(mK _ z).2.1 rfl) ho I.free
 ·obtain⟨v,o,ho,hd⟩:=I.cell x c e;exact free c o (fun z=>(mK c z).2.2.1 x c e rfl) ho (I.freeC x c e)
 ·obtain⟨e,n,ne,nf,d⟩:=I.pin p hp;have pb:p.1∉ch:=fun z=>(mK p.1 z).2.2.2 p hp rfl
  exact⟨keep p.1 p.2 ne nf pb e n,free p.1 p.2 pb e n,ne,nf,d⟩
theorem Inv.un {t':Nat} (I:Inv X ip σ H s) (u:Un X.fs [] H H' s.heap h') (hok:HOk X.prog X.w H' h'):Inv X ip σ H' { s with heap:=h',toks:=t' }:=by
 obtain⟨m,⟨o,es,ep,ho,r⟩,_⟩:=id I.loc;obtain⟨sl,hL⟩:=u.any ho I.free #[M];exact I.step (g':=s.gens) (d':=s.drawn) (ch:=[]) (fun _ z=>nomatch z) (fun b o _ hb _ e n=>u.keep b o e n hb #[M]) (fun b o _ hb _ e n=>u.slot b o e n hb #[M]) (fun b o _ e n=>u.free b o e n #[M]) (fun b o _ e=>u.there b o e #[M]) u.tups u.frzs u.tbls (fun m' hm=>by
  obtain⟨o',j2,rb,kP,r'⟩:=hm;rw [ho] at kP; cases kP;exact⟨_,j2,rb,hL,r'⟩) hok I.bare
theorem Inv.call {g':Array GenState} {t':Nat} {d':Drawn} {ch:List Addr} (I:Inv X ip σ H s) (u:Un (frs X.stack) ch H H' s.heap h') (hok:HOk X.prog X.w H' h') (hg:AllBare g')
  (mK:∀ b∈ch,(b∈X.ex∨X.s₀.heap.objs.size≤b)∧b≠X.env.locals∧(∀ x c,X.env.cells.lookup x=some c→c≠b)∧∀ p∈X.pn++ip,p.1≠b) :
  Inv X ip σ H' { s with heap:=h',gens:=g',drawn:=d',toks:=t' }:=by
 obtain⟨m,⟨o,es,ep,ho,r⟩,_⟩:=id I.loc;obtain⟨sl,hL⟩:=u.any ho I.free fun z=>(mK _ z).2.1 rfl
 exact I.step (ch:=ch) mK (fun b o hL hb hc e n=>u.keep b o e n (fun z=>(am.mp (I.stkSub b z)).elim hL hb) hc) (fun b o _ _ hc e n=>u.any e n hc) (fun b o hc e n=>u.free b o e n hc) (fun b o hc e=>u.there b o e hc) u.tups u.frzs u.tbls (fun m' hm=>by
  obtain⟨o',j2,rb,kP,r'⟩:=hm;rw [ho] at kP; cases kP;exact⟨_,j2,rb,hL,r'⟩) hok hg
theorem Inv.turned {t':Nat} {it:Addr} (I:Inv X ip σ H s) (k:∀ b o,b≠it→s.heap.get? b=some o→h'.get? b=some o) (hn:H it=none) (hL:it≠X.env.locals)
  (h1:it∈X.ex∨X.s₀.heap.objs.size≤it) (h2:∀ x c,X.env.cells.lookup x=some c→c≠it) (h3:∀ p∈X.pn++ip,p.1≠it):Inv X ip σ H { s with heap:=h',toks:=t' }:=by
 have nv:∀ b u,H b=some u→b≠it:=fun b u e z=>by rw [z,hn] at e; cases e
 refine I.step (g':=s.gens) (d':=s.drawn) (ch:=[it]) (fun b hb=>?_) (fun b o _ _ hc e _=>k b o (fun z=>hc (by simp [z])) e) (fun b o _ _ hc e _=>⟨o.slots,k b o (fun z=>hc (by simp [z])) e⟩) (fun _ _ _ _ n=>n)
  (fun b o hc e=>⟨o,k b o (fun z=>hc (by simp [z])) e⟩) (fun _ _ e=>e) (fun _ _ _ e=>e) (fun b ps e=>⟨#[],by rw [e]; simp⟩) (fun m hm=>?_) (fun b u e=>?_) I.bare
 ·have e:b=it:=by simpa using hb
  subst e;exact⟨h1,hL,h2,h3⟩
 ·obtain⟨o,es,ep,ho,r⟩:=hm;exact⟨o,es,ep,k _ o (bL hL) ho,r⟩
 ·refine (I.hok b u e).stay (fun c v hc q=>k c v ?_ q) (fun _ q=>q) fun _ _ q=>q
  rcases hc with z | z
  ·rw [z]; exact nv b u e
  ·exact nv c _ z
theorem Inv.tok (I:Inv X ip σ H s) (t:Nat):Inv X ip σ H { s with toks:=t }:=I.un (h':=s.heap) (t':=t) Un.refl I.hok
theorem Inv.kept {t':Nat} (I:Inv X ip σ H s) (k:∀ b u,s.heap.get? b=some u→h'.get? b=some u):Inv X ip σ H { s with heap:=h',toks:=t' }:=I.un (Un.kept k) (I.hok.kept k)
theorem Inv.laid {a:Addr} {o:HO} {t':Nat} (I:Inv X ip σ H s) (k:∀ b u,s.heap.get? b=some u→h'.get? b=some u) (hp:s.heap.objs.size≤a) (new:zal X.prog X.w (upd H a o) h' a o) :
  Inv X ip σ (upd H a o) { s with heap:=h',toks:=t' }:=I.un (Un.laid k hp (I.hok.fresh hp)) (I.hok.laid k hp new)
theorem Inv.write {x e:Addr} {o:HO} {t':Nat} (I:Inv X ip σ H s) (mu:Mut (H x)) (he:e=x∨H e=some (.own x)) (k:∀ b u,b≠e→s.heap.get? b=some u→h'.get? b=some u) (oH:∃ u,h'.get? e=some u)
  (new:zal X.prog X.w (upd H x o) h' x o):Inv X ip σ (upd H x o) { s with heap:=h',toks:=t' }:=I.un (Un.write mu he k oH) (I.hok.write mu he k oH new)
theorem Inv.weak {σ':List (Option V)} (I:Inv X ip σ H s) (hl:σ'.length=σ.length) (w:∀ (i:Nat) v,σ'[i]? = some (some v)→σ[i]? = some (some v)):Inv X ip σ' H s :=
 ⟨I.ok,I.os,I.bare,I.base,let ⟨m,hn,l0⟩:=I.loc; ⟨m,hn,fun i x v e1 e2 e3=>l0 i x v e1 (w i v e2) e3⟩,I.cell,I.free,I.freeC,I.pin,I.hok,hl.trans I.len⟩
theorem Inv.pins_of {jt:List (Addr×Obj)} (I:Inv X ip σ H s) (h:∀ p∈jt,s.heap.get? p.1=some p.2∧H p.1=none∧p.1≠X.env.locals∧p.1∉X.fs∧∀ v,p.2.data≠.cell v):Inv X jt σ H s :=
 ⟨I.ok,I.os,I.bare,I.base,I.loc,I.cell,I.free,I.freeC,fun p hp=>(bt.mp hp).elim (fun z=>I.pin p (aJ _ z)) (h p),I.hok,I.len⟩
theorem zdL {N:List Str} (hN:N.Nodup) {i j:Nat} {x:Str} (a:N[i]? = some x) (b:N[j]? = some x):i=j:=by
 obtain⟨h1,e1⟩:=aC.mp a;obtain⟨h2,e2⟩:=aC.mp b;exact (gy hN).mp (e1.trans e2.symm)
theorem zeG {M:Model} {A:Around} {E:Value→Shared→Prop} {i:Nat} {x:Str} {v:V} {u:Value} {Q:Unit→Shared→Prop} (I:Inv X ip σ H s) (hN:X.N.Nodup) (hi:X.N[i]? = some x) (hx:Loc X.env.scope x) (r:RelV v u)
  (h:∀ s',Inv X ip (σ.set i (some v)) H s'→(∃ a,aR a s.heap s'.heap∧(a=X.env.locals∨X.env.cells.lookup x=some a))→Q () s') (hf:X.fn x=true∨X.env.scope.names.lookup x=some .local:=by first | exact .inl rfl | exact .inr rfl | assumption):wpAny M A (storeName X.env x u) Q E s:=by
 obtain⟨m,hn,hl⟩:=id I.loc;have l7:(X.env.scope.kind == .class || (X.env.scope.kind == .module && X.env.locals != X.env.globals))=false:=by rw [I.ok.kind]; rfl
 have hiσ:i < σ.length:=by rw [I.len]; exact (aC.mp hi).1
 have cne:=I.cne;have tracked:∀ {a:Addr} {h':Heap},(∃ o,s.heap.get? a=some o∧H a=none)→aR a s.heap h'→HOk X.prog X.w H h':=fun {a h'} ha hs b ob e=>by
  obtain⟨_,_,jF⟩:=ha;refine (I.hok b ob e).stay (fun c w' hc q=>(hs.2 c ?_).trans q) (fun _ q=>q) fun _ _ q=>q
  rintro rfl;rcases hc with rfl | hc
  ·rw [jF] at e; cases e
  ·rw [jF] at hc; cases hc
 rcases hx with hk | hk
 ·refine wpAny_storeName_local hk hn (fun h' pe hs=>?_) l7;obtain⟨oL,_,_,hoL,_⟩:=id hn;refine h _ ⟨I.ok,I.os,I.bare,⟨fun b o e n hb hx=>?_,fun b o e n hb hx=>?_,I.base.free,fun b o e hx=>?_,I.base.tups,I.base.frzs,I.base.tbls⟩,⟨_,pe,fun j y v' e1 e2 e3=>?_⟩,fun y c e=>?_,I.free,I.freeC,fun p hp=>?_,tracked ⟨oL,hoL,I.free⟩ hs,by simpa using I.len⟩ ⟨_,hs,.inl rfl⟩
  ·exact (hs.2 b (aA (aB (av e) I.ok.above))).trans (I.base.keep b o e n hb hx)
  ·obtain⟨sl,e1⟩:=I.base.slot b o e n hb hx;exact⟨sl,(hs.2 b (aA (aB (av e) I.ok.above))).trans e1⟩
  ·obtain⟨o',e1⟩:=I.base.there b o e hx;exact⟨o',(hs.2 b (aA (aB (av e) I.ok.above))).trans e1⟩
  ·by_cases hj:j=i
   ·subst hj;rw [hi] at e1; cases e1;rw [cp hiσ] at e2;cases e2;exact⟨u,r,.inl ⟨hk,#[M]⟩⟩
   ·rw [cy (bL hj)] at e2;obtain⟨u',r',q⟩:=hl j y v' e1 e2 e3;refine⟨u',r',?_⟩;rcases q with ⟨k,e⟩ | ⟨k,c,e,z⟩
    ·refine .inl ⟨k,?_⟩;have:y≠x:=fun e=>hj (zdL hN e1 (e ▸ hi))
     simp [this,e]
    ·exact .inr ⟨k,c,e,z.sameBut hs (cne y c e)⟩
  ·obtain⟨w',z⟩:=I.cell y c e;exact⟨w',z.sameBut hs (cne y c e)⟩
  ·obtain⟨e,n,ne,nf,d⟩:=I.pin p hp;exact⟨(hs.2 p.1 ne).trans e,n,ne,nf,d⟩
 ·have rd:X.fn x=true:=by
   rcases hf with z | z
   ·exact z
   ·rw [z] at hk; cases hk
  obtain⟨c,hc⟩:=I.ok.has x (.inl hk);obtain⟨w',z⟩:=I.cell x c hc;refine wpAny_storeName_cell I.ok.kind hk hc z (fun h' iO hs=>?_);obtain⟨oc,hoc,rf⟩:=id z;refine h { s with heap:=h' } ⟨I.ok,I.os,I.bare,⟨fun b o e n hb hx=>?_,fun b o e n hb hx=>?_,I.base.free,fun b o e hx=>?_,I.base.tups,I.base.frzs,I.base.tbls⟩,⟨m,hn.sameBut hs (bL (cne x c hc)),fun j y v' e1 e2 e3=>?_⟩,fun y c' e=>?_,I.free,I.freeC,fun p hp=>?_,tracked ⟨oc,hoc,I.freeC x c hc⟩ hs,by simpa using I.len⟩ ⟨c,hs,.inr hc⟩
  ·exact (hs.2 b (aA (aB (av e) (I.ok.cab x c rd hc)))).trans (I.base.keep b o e n hb hx)
  ·obtain⟨sl,e1⟩:=I.base.slot b o e n hb hx;exact⟨sl,(hs.2 b (aA (aB (av e) (I.ok.cab x c rd hc)))).trans e1⟩
  ·obtain⟨o',e1⟩:=I.base.there b o e hx;exact⟨o',(hs.2 b (aA (aB (av e) (I.ok.cab x c rd hc)))).trans e1⟩
  ·by_cases hj:j=i
   ·subst hj;rw [hi] at e1; cases e1;rw [cp hiσ] at e2;cases e2;exact⟨u,r,.inr ⟨.inl hk,c,hc,iO⟩⟩
   ·rw [cy (bL hj)] at e2;obtain⟨u',r',q⟩:=hl j y v' e1 e2 e3;refine⟨u',r',?_⟩;rcases q with q | ⟨k,c',e,z'⟩
    ·exact .inl q
    ·refine .inr ⟨k,c',e,z'.sameBut hs ?_⟩;rintro rfl;exact hj (zdL hN e1 (I.ok.inj _ _ _ e hc ▸ hi))
  ·by_cases lj:c'=c
   ·subst lj; exact⟨_,iO⟩
   ·obtain⟨w2,z2⟩:=I.cell y c' e;exact⟨w2,z2.sameBut hs lj⟩
  ·obtain⟨e,n,ne,nf,d⟩:=I.pin p hp;refine⟨(hs.2 p.1 ?_).trans e,n,ne,nf,d⟩;intro q;rw [q,hoc] at e;have q':oc=p.2:=az e;exact d w' (by rw [← q']; exact rf)
theorem zcM {M:Model} {A:Around} {E:Value→Shared→Prop} {i:Nat} {x:Str} {v:V} {u:Value} {Q:Unit→Shared→Prop} (I:Inv X ip σ H s) (hN:X.N.Nodup) (hi:X.N[i]? = some x) (hx:Loc X.env.scope x) (r:RelV v u)
  (h:∀ s',Inv X ip (σ.set i (some v)) H s'→Q () s') (hf:X.fn x=true∨X.env.scope.names.lookup x=some .local:=by first | exact .inl rfl | exact .inr rfl | assumption):wpAny M A (storeName X.env x u) Q E s :=
 zeG I hN hi hx r (fun s' I' _=>h s' I') hf
theorem Inv.call' {s':Shared} {ch:List Addr} (I:Inv X ip σ H s) (ho:s'.os=s.os) (u:Un (frs X.stack) ch H H' s.heap s'.heap) (hok:HOk X.prog X.w H' s'.heap) (hg:AllBare s'.gens)
  (mK:∀ b∈ch,(b∈X.ex∨X.s₀.heap.objs.size≤b)∧b≠X.env.locals∧(∀ x c,X.env.cells.lookup x=some c→c≠b)∧∀ p∈X.pn++ip,p.1≠b):Inv X ip σ H' s':=by
 obtain⟨h',g',d',t',o'⟩:=s';have e:o'=s.os:=ho;subst e;exact I.call (g':=g') (t':=t') (d':=d') u hok hg mK
end
abbrev XK:=Value→Option Addr→Hp→Prop
abbrev St:=List (Option V)
abbrev VK:=V→Hp→Prop
abbrev TE:=St→Hp→VK→Prop
abbrev TT:=St→Hp→(Bool→Hp→Prop)→Prop
abbrev TA:=St→Hp→(List V→Hp→Prop)→Prop
structure Ends where
 nx:St→Hp→Prop
 rt:VK
 bk:St→Hp→Prop:=fun _ _=>False
 ct:St→Hp→Prop:=fun _ _=>False
abbrev TS:=Ends→St→Hp→Prop
def EP (X:Cx) (ip:List (Addr×Obj)) (σ:St) (Q:VK) (u:Value) (s':Shared):Prop:=∃ v H',Inv X ip σ H' s'∧RelV v u∧Q v H'
def TP (X:Cx) (ip:List (Addr×Obj)) (σ:St) (Q:Bool→Hp→Prop) (b:Bool) (s':Shared):Prop:=∃ H',Inv X ip σ H' s'∧Q b H'
def AP (X:Cx) (ip:List (Addr×Obj)) (σ:St) (Q:List V→Hp→Prop) (us:List Value) (s':Shared):Prop:=∃ vs H',Inv X ip σ H' s'∧zx vs us∧Q vs H'
def SP (X:Cx) (ip:List (Addr×Obj)) (D:Ends) (f:Flow) (s':Shared):Prop :=
 match f with
 | .next=>∃ σ' H',Inv X ip σ' H' s'∧D.nx σ' H'
 | .brk=>∃ σ' H',Inv X ip σ' H' s'∧D.bk σ' H'
 | .cont=>∃ σ' H',Inv X ip σ' H' s'∧D.ct σ' H'
 | .ret u=>∃ v σ' H',Inv X ip σ' H' s'∧RelV v u∧D.rt v H'
def PE (X:Cx) (e:Expr) (t:TE):Prop :=
 ∀ (ip:List (Addr×Obj)) (s:Shared) (σ:St) (H:Hp) (Q:VK),Inv X ip σ H s→t σ H Q→wpAny (model X.prog X.w) X.A (eval e X.env) (EP X ip σ Q) X.xe s
def PT (X:Cx) (e:Expr) (t:TT):Prop :=
 ∀ (ip:List (Addr×Obj)) (s:Shared) (σ:St) (H:Hp) (Q:Bool→Hp→Prop),Inv X ip σ H s→t σ H Q→wpAny (model X.prog X.w) X.A (isTrue e X.env (eval e X.env)) (TP X ip σ Q) X.xe s
def PW (X:Cx) (e:Expr) (t:TT):Prop :=
 ∀ (whole:Sem Value) (ip:List (Addr×Obj)) (s:Shared) (σ:St) (H:Hp) (Q:Bool→Hp→Prop),Inv X ip σ H s→t σ H Q→wpAny (model X.prog X.w) X.A (isTrue e X.env whole) (TP X ip σ Q) X.xe s
theorem PW.pt {X:Cx} {e:Expr} {t:TT} (h:PW X e t):PT X e t:=h _
def PA (X:Cx) (es:List Expr) (t:TA):Prop :=
 ∀ (pos:Pos) (ip:List (Addr×Obj)) (s:Shared) (σ:St) (H:Hp) (Q:List V→Hp→Prop),Inv X ip σ H s→t σ H Q→wpAny (model X.prog X.w) X.A (spliced (backTo pos (starEach es X.env))) (AP X ip σ Q) X.xe s
def PS (X:Cx) (st:Stmt) (t:TS):Prop :=
 ∀ (ip:List (Addr×Obj)) (s:Shared) (σ:St) (H:Hp) (D:Ends),Inv X ip σ H s→t D σ H→wpAny (model X.prog X.w) X.A (exec st X.env) (SP X ip D) X.xe s
def PSs (X:Cx) (st:List Stmt) (t:TS):Prop :=
 ∀ (ip:List (Addr×Obj)) (s:Shared) (σ:St) (H:Hp) (D:Ends),Inv X ip σ H s→t D σ H→wpAny (model X.prog X.w) X.A (execs st X.env) (SP X ip D) X.xe s
theorem thn {α:Type} {t:Sem α} {Q Q':α→Shared→Prop} {M:Model} {A:Around} {E:Value→Shared→Prop} {s:Shared} (h:wpAny M A t Q E s) (hQ:∀ a s,Q a s→Q' a s):wpAny M A t Q' E s:=bg h hQ fun _ _ x=>x
section
variable {X:Cx}
def zn2 (i:Nat):TE:=fun σ H Q=>∃ v,σ[i]? = some (some v)∧Q v H
def tC (v:V):TE:=fun _ H Q=>Q v H
theorem zmT {i:Nat} {x:Str} {pos:Pos} (hN:X.N[i]? = some x) (hv:Vis X.env.scope x) (hd:(x == ("__debug__" : Str))=false:=by decide) (j9:(x == ("__classdict__" : Str))=false:=by decide):PE X (.Name x pos) (zn2 i):=by
 intro ip s σ H Q I h;obtain⟨v,e,h⟩:=h;obtain⟨m,hn,hl⟩:=I.loc;obtain⟨u,r,l⟩:=hl i x v hN e hv;have fin:EP X ip σ Q u s:=⟨v,H,I,r,h⟩;rcases l with ⟨hk,hm⟩ | ⟨hk,c,hc,ka⟩
 ·exact gK (wpAny_loadName_local I.ok.kind hk hn hm fin) hd
 ·rcases hk with hk | hk
  ·exact gK (wpAny_loadName_cell I.ok.kind hk hc ka fin) hd
  ·exact gK (wpAny_loadName_free I.ok.kind hk hc ka fin j9) hd
theorem zh {i j pos}:PE X (.Constant (.int i) j pos) (tC (.int i)):=fun _ _ _ H _ I h=>wpAny_Constant_int ⟨.int i,H,I.tok _,⟨_,rfl⟩,h⟩
theorem za1 {b j pos}:PE X (.Constant (.bool b) j pos) (tC (.bl b)):=fun _ _ _ H _ I h=>Constant_bool ⟨.bl b,H,I,rfl,h⟩
theorem zc4 {j pos}:PE X (.Constant .none j pos) (tC .non):=fun _ _ _ H _ I h=>Constant_none ⟨.non,H,I,rfl,h⟩
theorem zq {x j pos}:PE X (.Constant (.str x) j pos) (tC (.str x)):=fun _ _ _ H _ I h=>Calls.Constant_str ⟨.str x,H,I.tok _,⟨_,rfl⟩,h⟩
def Gl (X:Cx) (x:Str):Prop:=X.env.kindOf x=some .globalImplicit
theorem zbc {E:Value→Shared→Prop} {ip:List (Addr×Obj)} {s:Shared} {σ:St} {H:Hp} {x:Str} {u:Value} {pos:Pos} {Q:Value→Shared→Prop} (I:Inv X ip σ H s) (hg:Gl X x) (hm:X.mg x=some u) (h:Q u s)
  (hd:(x == ("__debug__" : Str))=false:=by decide):wpAny (model X.prog X.w) X.A (eval (.Name x pos) X.env) Q E s :=
 d8 I.ok.kind hg (Calls.loadGlobal_global (by rw [I.ok.glob]; exact I.mod.glob.keeps I.bk) hm h) hd
theorem zc5 {E:Value→Shared→Prop} {ip:List (Addr×Obj)} {s:Shared} {σ:St} {H:Hp} {x:Str} {u:Value} {pos:Pos} {Q:Value→Shared→Prop} (I:Inv X ip σ H s) (hg:Gl X x) (hm:X.mg x=none) (hv:bootBuiltins x=some u) (h:Q u s)
  (hn:x≠"__name__":=by decide) (hd:(x == ("__debug__" : Str))=false:=by decide):wpAny (model X.prog X.w) X.A (eval (.Name x pos) X.env) Q E s:=by
 obtain⟨mb,h1,h2⟩:=I.mod.blt;exact d8 I.ok.kind hg (Calls.loadGlobal_builtin (by rw [I.ok.glob]; exact I.mod.glob.keeps I.bk) hm (by rw [I.ok.blt]; exact h1.keeps I.bk) ((h2 x hn).trans hv) h) hd
theorem z8 {x:Str} {v:V} {u:Value} {pos:Pos} (hg:Gl X x) (hm:X.mg x=some u) (r:RelV v u) (hd:(x == ("__debug__" : Str))=false:=by decide):PE X (.Name x pos) (tC v) :=
 fun _ _ _ H _ I h=>zbc I hg hm ⟨v,H,I,r,h⟩ hd
theorem zbL {x:Str} {v:V} {u:Value} {pos:Pos} (hg:Gl X x) (hm:X.mg x=none) (hv:bootBuiltins x=some u) (r:RelV v u) (hn:x≠"__name__":=by decide) (hd:(x == ("__debug__" : Str))=false:=by decide):PE X (.Name x pos) (tC v) :=
 fun _ _ _ H _ I h=>zc5 I hg hm hv ⟨v,H,I,r,h⟩ hn hd
variable {a b:Expr} {ta tb:TE} {pos:Pos}
def tB (t:TE):TT:=fun σ H Q=>t σ H fun x H1=>∃ c,x = .bl c∧Q c H1
theorem zaz {e:Expr} {t:TE} (h:PE X e t) (he:∀ whole,isTrue e X.env whole=(do let v ← whole; standAt e.pos; holding [v] (truthy v)):=by intro _; rfl):PT X e (tB t):=by
 intro ip s σ H Q I hw;refine isTrue_plain (thn (h ip s σ H _ I hw) fun v s1 ⟨x,H1,I1,r1,q1⟩=>?_) (he _);obtain⟨d,rfl,q⟩:=q1;cases r1;exact bh ⟨H1,I1,q⟩
variable {tA qx:TT} {rest:List Expr}
def zoC (t u:TT):TT:=fun σ H Q=>t σ H fun c H1=>if c=true then u σ H1 Q else Q false H1
def tOr (t u:TT):TT:=fun σ H Q=>t σ H fun c H1=>if c=true then Q true H1 else u σ H1 Q
def zoD (t:TT):TT:=fun σ H Q=>t σ H fun c H1=>Q (!c) H1
theorem ze9 (ha:PT X a tA):PW X (.BoolOp .And [a] pos) tA:=by
 intro wh ip s σ H Q I h;refine isTrue_and (thn (ha ip s σ H Q I h) fun c s1 e=>?_);cases c with
 | true=>exact isTrue_and_nil e
 | false=>exact e
theorem za6 (ha:PT X a tA):PW X (.BoolOp .Or [a] pos) tA:=by
 intro wh ip s σ H Q I h;refine isTrue_or (thn (ha ip s σ H Q I h) fun c s1 e=>?_);cases c with
 | false=>exact isTrue_or_nil e
 | true=>exact e
theorem zgI (ha:PT X a tA) (hb:PW X (.BoolOp .And (b :: rest) pos) qx):PW X (.BoolOp .And (a :: b :: rest) pos) (zoC tA qx):=by
 intro wh ip s σ H Q I h;refine isTrue_and (thn (ha ip s σ H _ I h) fun c s1 ⟨H1,I1,q1⟩=>?_);cases c with
 | true=>exact hb wh ip s1 σ H1 Q I1 q1
 | false=>exact⟨H1,I1,q1⟩
theorem zbt (ha:PT X a tA) (hb:PW X (.BoolOp .Or (b :: rest) pos) qx):PW X (.BoolOp .Or (a :: b :: rest) pos) (tOr tA qx):=by
 intro wh ip s σ H Q I h;refine isTrue_or (thn (ha ip s σ H _ I h) fun c s1 ⟨H1,I1,q1⟩=>?_);cases c with
 | true=>exact⟨H1,I1,q1⟩
 | false=>exact hb wh ip s1 σ H1 Q I1 q1
theorem zaf (ha:PT X a tA):PT X (.UnaryOp .Not a pos) (zoD tA):=by
 intro ip s σ H Q I h;exact isTrue_not (ha ip s σ H (fun c H1=>Q (!c) H1) I h)
def zn3 (ta tb:TE):TE:=fun σ H Q=>ta σ H fun x H1=>∃ c,x = .bl c∧if c=true then tb σ H1 Q else Q (.bl false) H1
def zoE (ta tb:TE):TE:=fun σ H Q=>ta σ H fun x H1=>∃ c,x = .bl c∧if c=true then Q (.bl true) H1 else tb σ H1 Q
def zn4 (ta:TE):TE:=fun σ H Q=>ta σ H fun x H1=>∃ c,x = .bl c∧Q (.bl (!c)) H1
theorem zgJ {op} {t:TE} (h:PE X a t):PE X (.BoolOp op [a] pos) t:=fun ip s σ H Q I hw=>BoolOp_one (h ip s σ H Q I hw)
theorem zi4 (ha:PE X a ta) (hb:PE X (.BoolOp .And (b :: rest) pos) tb):PE X (.BoolOp .And (a :: b :: rest) pos) (zn3 ta tb):=by
 intro ip s σ H Q I h;refine BoolOp_and (thn (ha ip s σ H _ I h) fun v s1 ⟨x,H1,I1,r1,q1⟩=>?_);obtain⟨c,rfl,q1⟩:=q1;cases r1;refine bh ?_;cases c with
 | true=>exact hb ip s1 σ H1 Q I1 q1
 | false=>exact⟨.bl false,H1,I1,rfl,q1⟩
theorem zn5 (ha:PE X a ta) (hb:PE X (.BoolOp .Or (b :: rest) pos) tb):PE X (.BoolOp .Or (a :: b :: rest) pos) (zoE ta tb):=by
 intro ip s σ H Q I h;refine BoolOp_or (thn (ha ip s σ H _ I h) fun v s1 ⟨x,H1,I1,r1,q1⟩=>?_);obtain⟨c,rfl,q1⟩:=q1;cases r1;refine bh ?_;cases c with
 | false=>exact hb ip s1 σ H1 Q I1 q1
 | true=>exact⟨.bl true,H1,I1,rfl,q1⟩
theorem zmU (ha:PE X a ta):PE X (.UnaryOp .Not a pos) (zn4 ta):=by
 intro ip s σ H Q I h;refine UnaryOp_ (thn (ha ip s σ H _ I h) fun v s1 ⟨x,H1,I1,r1,q1⟩=>?_);obtain⟨c,rfl,q1⟩:=q1;cases r1;exact not_of (bh ⟨.bl (!c),H1,I1,rfl,q1⟩)
def tIf (t:TT) (ta tb:TE):TE:=fun σ H Q=>t σ H fun c H1=>if c=true then ta σ H1 Q else tb σ H1 Q
theorem zi5 {c:Expr} (hc:PT X c tA) (ha:PE X a ta) (hb:PE X b tb):PE X (.IfExp c a b pos) (tIf tA ta tb):=by
 intro ip s σ H Q I h;refine wpAny_IfExp (thn (hc ip s σ H _ I h) fun d s1 ⟨H1,I1,q1⟩=>?_);cases d with
 | true=>exact ha ip s1 σ H1 Q I1 q1
 | false=>exact hb ip s1 σ H1 Q I1 q1
end
def iw (K:af) (H:Hp) (a:Addr) (xs:List V):Prop :=
 Rd H a (.lst xs) ∨
  ∃ (o:Obj) (ir:Array Value) (n:Nat),K.lookup a=some o∧o.cls = .type "list"∧o.dict=none∧o.data = .seq ir n∧ir.size≤sizeLine∧zx xs ir.toList
def iI (K:af) (H:Hp) (a:Addr) (xs:List V):Prop :=
 Rd H a (.tup xs) ∨
  ∃ (o:Obj) (ir:Array Value) (n:Nat),K.lookup a=some o∧o.cls = .type "tuple"∧o.data = .seq ir n∧ir.size≤sizeLine∧zx xs ir.toList
def zoF:Value→Option V
 | .none=>some .non
 | .bool b=>some (.bl b)
 | .int i _=>some (.int i)
 | .str x _=>some (.str x)
 | .bytes b _=>some (.byt b)
 | .float b _=>some (.flt b)
 | .ref a=>some (.ref a)
 | .type n=>some (.ty n)
 | _=>none
theorem RelV.abs {x:V} {u:Value} (r:RelV x u):zoF u=some x:=by
 cases x with
 | non=>cases r; rfl
 | bl _=>cases r; rfl
 | int _=>obtain⟨t,rfl⟩:=r; rfl
 | str _=>obtain⟨t,rfl⟩:=r; rfl
 | byt _=>obtain⟨t,rfl⟩:=r; rfl
 | flt _=>obtain⟨t,rfl⟩:=r; rfl
 | ref _=>cases r; rfl
 | ty _=>cases r; rfl
theorem RelV.inj {x y:V} {u:Value} (r:RelV x u) (q:RelV y u):x=y:=az (r.abs.symm.trans q.abs)
theorem zx.inj:∀ {xs ys:List V} {us:List Value},zx xs us→zx ys us→xs=ys
 | _,_,_,.nil,.nil=>rfl
 | _,_,_,.cons r t,.cons r' t'=>by rw [r.inj r',zx.inj t t']
section
variable {X:Cx} {ip:List (Addr×Obj)} {σ:St} {H:Hp} {s:Shared} {a:Addr} {xs ys:List V}
theorem iw.of {K:af} (h:H a=some (.lst xs)):iw K H a xs:=.inl (.inl h)
theorem iI.of {K:af} (h:H a=some (.tup xs)):iI K H a xs:=.inl (.inl h)
theorem Inv.list (I:Inv X ip σ H s) (h:iw X.K H a xs):∃ ir:List Value,zx xs ir∧PlainL s.heap a ir.toArray∧xs.length≤sizeLine:=by
 rcases h with h | ⟨o,ir,n,hk,hc,hd,hs,hz,r⟩
 ·obtain⟨z,ir,n,r,e⟩:=h.ok I.hok;exact⟨ir,r,⟨_,n,e,rfl,rfl,rfl⟩,z⟩
 ·refine⟨ir.toList,r,⟨o,n,I.kIn a o hk,hc,hd,by simpa using hs⟩,?_⟩;have e:=r.length;simp only [cM] at e;lia
theorem Inv.tuple (I:Inv X ip σ H s) (h:iI X.K H a xs):∃ ir:List Value,zx xs ir∧IsTup s.heap a ir.toArray∧xs.length≤sizeLine:=by
 rcases h with h | ⟨o,ir,n,hk,hc,hs,hz,r⟩
 ·obtain⟨z,ir,r,p⟩:=h.ok I.hok;exact⟨ir,r,p,z⟩
 ·refine⟨ir.toList,r,⟨o,I.kIn a o hk,hc,n,by simpa using hs⟩,?_⟩;have e:=r.length;simp only [cM] at e;lia
theorem Inv.list_inj (I:Inv X ip σ H s) (h:iw X.K H a xs) (h':iw X.K H a ys):xs=ys:=by
 obtain⟨ir,r,⟨o,n,e,_,_,d⟩,_⟩:=I.list h;obtain⟨its',r',⟨o',n',e',_,_,d'⟩,_⟩:=I.list h';rw [e] at e'; cases e';rw [d] at d';injection d' with d1 _
 have:ir=its':=by simpa using congrArg ig d1
 subst this;exact r.inj r'
theorem Inv.tuple_inj (I:Inv X ip σ H s) (h:iI X.K H a xs) (h':iI X.K H a ys):xs=ys:=by
 obtain⟨ir,r,⟨o,e,_,n,d⟩,_⟩:=I.tuple h;obtain⟨its',r',⟨o',e',_,n',d'⟩,_⟩:=I.tuple h';rw [e] at e'; cases e';rw [d] at d';injection d' with d1 _
 have:ir=its':=by simpa using congrArg ig d1
 subst this;exact r.inj r'
end
abbrev Cx.wish (X:Cx) (E:Value→Shared→Prop):Cx:={ X with xe:=E }
abbrev Cx.nox (X:Cx):Cx:=X.wish fun _ _=>False
theorem Cx.Ok.wish {X:Cx} (ok:X.Ok) (E:Value→Shared→Prop):(X.wish E).Ok :=
 ⟨ok.mod,ok.kind,ok.glob,ok.blt,ok.above,ok.inj,ok.has,ok.cab,ok.hd,ok.frames,ok.stk,ok.exf,ok.bs,ok.bsz,ok.noex,ok.exfs,ok.funs,ok.frf⟩
theorem Cx.Ok.unwish {X:Cx} {E:Value→Shared→Prop} (ok:(X.wish E).Ok):X.Ok :=
 ⟨ok.mod,ok.kind,ok.glob,ok.blt,ok.above,ok.inj,ok.has,ok.cab,ok.hd,ok.frames,ok.stk,ok.exf,ok.bs,ok.bsz,ok.noex,ok.exfs,ok.funs,ok.frf⟩
section
variable {X:Cx} {ip:List (Addr×Obj)} {σ:St} {H:Hp} {s:Shared} {E:Value→Shared→Prop}
theorem Inv.wish (I:Inv X ip σ H s) (E:Value→Shared→Prop):Inv (X.wish E) ip σ H s:=⟨I.ok.wish E,I.os,I.bare,I.base,I.loc,I.cell,I.free,I.freeC,I.pin,I.hok,I.len⟩
theorem Inv.unwish (I:Inv (X.wish E) ip σ H s):Inv X ip σ H s:=⟨I.ok.unwish,I.os,I.bare,I.base,I.loc,I.cell,I.free,I.freeC,I.pin,I.hok,I.len⟩
theorem SP.unwish {D:Ends} {f:Flow} {s':Shared} (h:SP (X.wish E) ip D f s'):SP X ip D f s':=by
 cases f with
 | next=>obtain⟨σ',H',I,q⟩:=h; exact⟨σ',H',I.unwish,q⟩
 | brk=>obtain⟨σ',H',I,q⟩:=h; exact⟨σ',H',I.unwish,q⟩
 | cont=>obtain⟨σ',H',I,q⟩:=h; exact⟨σ',H',I.unwish,q⟩
 | ret u=>obtain⟨v,σ',H',I,r,q⟩:=h; exact⟨v,σ',H',I.unwish,r,q⟩
theorem PSs.nox {st:List Stmt} {t:TS} (h:PSs X.nox st t):PSs X st t:=fun ip s σ H D I hw =>
 bg (h ip s σ H D (I.wish _) hw) (fun _ _ q=>q.unwish) fun _ _ z=>aW z
end
section
variable {X:Cx} {st:Stmt} {rest:List Stmt} {t u:TS} {e:Expr} {te:TE} {pos:Pos}
def zn6:TS:=fun D σ H=>D.nx σ H
def zbA (t u:TS):TS:=fun D σ H=>t { D with nx:=u D } σ H
theorem zy:PSs X [] zn6:=fun _ _ σ H _ I h=>cO ⟨σ,H,I,h⟩
theorem ze (h1:PS X st t) (h2:PSs X rest u):PSs X (st :: rest) (zbA t u):=by
 intro ip s σ H D I h;refine eE (thn (h1 ip s σ H { D with nx:=u D } I h) fun f s1 q=>?_);cases f with
 | next =>
  obtain⟨σ',H',I',q⟩:=q;exact h2 ip s1 σ' H' D I' q
 | ret v=>exact q
 | brk=>exact q
 | cont=>exact q
theorem zk (h1:PS X st t):PSs X [st] t:=by
 intro ip s σ H D I h;refine eE (thn (h1 ip s σ H D I h) fun f s1 q=>?_);cases f with
 | next=>exact cO q
 | ret v=>exact q
 | brk=>exact q
 | cont=>exact q
theorem Inv.quiet {ip:List (Addr×Obj)} {σ:St} {H:Hp} {s:Shared} (I:Inv X ip σ H s):interactive X.env=false:=by simp [interactive,I.ok.kind]
def zmG (te:TE):TS:=fun D σ H=>te σ H fun _ H1=>D.nx σ H1
theorem zam (he:PE X e te) (hs:swapsWith e none pos.line X.env=pure false:=by rfl):PS X (.Expr e pos) (zmG te):=by
 intro ip s σ H D I h;exact wpAny_Expr_any (thn (he ip s σ H _ I h) fun v s1 ⟨x,H1,I1,r1,q1⟩=>⟨σ,H1,I1,q1⟩) I.quiet hs
def zoG (te:TE):TS:=fun D σ H=>te σ H D.rt
theorem zF (he:PE X e te):PS X (.Return (some e) pos) (zoG te):=by
 intro ip s σ H D I h;exact wpAny_Return_some (thn (he ip s σ H _ I h) fun v s1 ⟨x,H1,I1,r1,q1⟩=>⟨x,σ,H1,I1,r1,q1⟩)
def zn7 (c:TT) (t u:TS):TS:=fun D σ H=>c σ H fun b H1=>if b=true then t D σ H1 else u D σ H1
theorem zY {c:Expr} {a b:List Stmt} {tc:TT} (hc:PT X c tc) (ha:PSs X a t) (hb:PSs X b u):PS X (.If c a b pos) (zn7 tc t u):=by
 intro ip s σ H D I h;refine wpAny_If (thn (hc ip s σ H _ I h) fun d s1 ⟨H1,I1,q1⟩=>?_);cases d with
 | true=>exact ha ip s1 σ H1 D I1 q1
 | false=>exact hb ip s1 σ H1 D I1 q1
def zmV:TS:=fun _ _ _=>False
theorem zbg {sts:List Stmt}:PSs X sts zmV:=fun _ _ _ _ _ _ h=>h.elim
end
abbrev TG:=V→St→Hp→(St→Hp→Prop)→Prop
abbrev TGs:=List V→St→Hp→(St→Hp→Prop)→Prop
def PG (X:Cx) (target:Expr) (t:TG):Prop :=
 ∀ (ip:List (Addr×Obj)) (s:Shared) (σ:St) (H:Hp) (v:V) (u:Value) (Q:St→Hp→Prop),Inv X ip σ H s→RelV v u→t v σ H Q →
  wpAny (model X.prog X.w) X.A (assign target X.env u) (fun _ s'=>∃ σ' H',Inv X ip σ' H' s'∧Q σ' H') X.xe s
def PGs (X:Cx) (ts:List Expr) (t:TGs):Prop :=
 ∀ (ip:List (Addr×Obj)) (s:Shared) (σ:St) (H:Hp) (vs:List V) (us:List Value) (Q:St→Hp→Prop),Inv X ip σ H s→zx vs us→t vs σ H Q →
  wpAny (model X.prog X.w) X.A (assignInOrder ((assignEach ts X.env).map (·.2)) us) (fun _ s'=>∃ σ' H',Inv X ip σ' H' s'∧Q σ' H') X.xe s
abbrev zmW:=V→V→V→Hp→(Hp→Prop)→Prop
def zn8 (X:Cx) (t:zmW):Prop :=
 ∀ (ip:List (Addr×Obj)) (s:Shared) (σ:St) (H:Hp) (o i v:V) (ov iv u:Value) (Q:Hp→Prop),Inv X ip σ H s→RelV o ov→RelV i iv→RelV v u→t o i v H Q →
  wpAny (model X.prog X.w) X.A (setItem ov iv u) (fun _ s'=>∃ H',Inv X ip σ H' s'∧Q H') X.xe s
section
variable {X:Cx} {pos:Pos}
def zaW (i:Nat):TG:=fun v σ H Q=>Q (σ.set i (some v)) H
theorem zr {i:Nat} {x:Str} (hN:X.N.Nodup) (hi:X.N[i]? = some x) (hx:Loc X.env.scope x) (hf:X.fn x=true∨X.env.scope.names.lookup x=some .local:=by first | exact .inl rfl | exact .inr rfl | assumption):PG X (.Name x pos) (zaW i):=by
 intro ip s σ H v u Q I r h;exact wpAny_assign_Name (zcM I hN hi hx r (fun s' I'=>⟨_,H,I',h⟩) hf)
def zmX:TGs:=fun vs σ H Q=>vs = []∧Q σ H
def zi6 (t:TG) (u:TGs):TGs:=fun vs σ H Q=>∃ v r,vs=v :: r∧t v σ H fun σ' H'=>u r σ' H' Q
theorem za0:PGs X [] zmX:=by
 intro ip s σ H vs us Q I r h;obtain⟨e,h⟩:=h;subst e;cases r;exact assignInOrder_nil ⟨σ,H,I,h⟩
theorem zG {e:Expr} {es:List Expr} {t:TG} {u:TGs} (h1:PG X e t) (h2:PGs X es u)
  (hs:(assignEach (e :: es) X.env).map (·.2)=assign e X.env :: (assignEach es X.env).map (·.2):=by rfl):PGs X (e :: es) (zi6 t u):=by
 intro ip s σ H vs us Q I r h;obtain⟨v,vr,e1,h⟩:=h;subst e1;cases r with
 | cons r rr =>
  rw [hs];refine assignInOrder_cons (thn (h1 ip s σ H _ _ _ I r h) fun _ s1 ⟨σ1,H1,I1,q1⟩=>?_);exact h2 ip s1 σ1 H1 _ _ Q I1 rr q1
def zlj (K:af) (n:Nat) (t:TGs):TG:=fun v σ H Q=>∃ a xs,v = .ref a∧iI K H a xs∧xs.length=n∧t xs σ H Q
theorem zbM {es:List Expr} {k:Nat} {t:TGs} {n:Nat} (hc:X.calm=true) (h:PGs X es t)
  (hn:(assignEach es X.env).length=n:=by rfl) (j3:(assignEach es X.env).findIdx? (·.1)=none:=by rfl):PG X (.Tuple es k pos) (zlj X.K n t):=by
 intro ip s σ H v u Q I r hw;obtain⟨a,xs,e1,hq,hl,hw⟩:=hw;subst e1;cases r;obtain⟨ir,rv,ht,hz⟩:=I.tuple hq;refine assign_Tuple_tuple (I.ok.hd hc) ht (by simp [hn,← hl,rv.length]) j3 fun h' hx=>?_
 have I1:Inv X ip σ H { s with heap:=h' }:=I.kept (t':=s.toks) fun b o e=>hx b o (aA (av e)) e
 exact h ip _ σ H xs _ Q I1 (by simpa using rv) hw
def zoH (to ti:TE) (t:zmW):TG:=fun v σ H Q=>to σ H fun o H1=>ti σ H1 fun i H2=>t o i v H2 fun H3=>Q σ H3
theorem zgK {o i:Expr} {to ti:TE} {t:zmW} (ho:PE X o to) (hi:PE X i ti) (hs:zn8 X t)
  (ha:∀ v,assign (.Subscript o i pos) X.env v=(do
   let ov ← holding [v] (eval o X.env)
   let iv ← holding [v,ov] (eval i X.env)
   standAt pos
   holding [v,ov,iv] (setItem ov iv v)
   release [v,ov,iv] []):=by intro _; rfl):PG X (.Subscript o i pos) (zoH to ti t):=by
 intro ip s σ H v u Q I r h;rw [ha];refine ag (a8 (thn (ho ip s σ H _ I h) fun ov s1 ⟨x,H1,I1,r1,q1⟩=>?_));refine ag (a8 (thn (hi ip s1 σ H1 _ I1 q1) fun iv s2 ⟨y,H2,I2,r2,q2⟩=>?_));refine ag (cI (ag (a8 (thn (hs ip s2 σ H2 x y v ov iv u _ I2 r1 r2 r q2) fun _ s3 ⟨H3,I3,q3⟩=>?_))));exact wpAny_release ⟨σ,H3,I3,q3⟩
def zfW (te:TE) (g:TG):TS:=fun D σ H=>te σ H fun x H1=>g x σ H1 D.nx
theorem za7 {tg e:Expr} {te:TE} {g:TG} (he:PE X e te) (hg:PG X tg g) (hs:swapsWithSole [tg] e pos.line X.env=pure false:=by rfl) (hw:swappedStores [tg] e X.env=pure none:=by rfl)
  (h1:(assignEach [tg] X.env).map (·.2) = [assign tg X.env]:=by rfl):PS X (.Assign [tg] e pos) (zfW te g):=by
 intro ip s σ H D I h;refine wpAny_Assign_stores (thn (he ip s σ H _ I h) fun v s1 ⟨x,H1,I1,r1,q1⟩=>?_) hs hw;rw [h1];exact thn (hg ip s1 σ H1 x v _ I1 r1 q1) fun _ s2 q=>q
theorem zC {i:Nat} {x:Str} {e:Expr} {te:TE} {pos':Pos} (hN:X.N.Nodup) (hi:X.N[i]? = some x) (hx:Loc X.env.scope x) (he:PE X e te) (hs:swapsWith e (some (.Name x pos')) pos.line X.env=pure false:=by rfl) (hf:X.fn x=true∨X.env.scope.names.lookup x=some .local:=by first | exact .inl rfl | exact .inr rfl | assumption) :
  PS X (.Assign [.Name x pos'] e pos) (zfW te (zaW i)):=by
 intro ip s σ H D I h;refine wpAny_Assign_Name (thn (he ip s σ H _ I h) fun v s1 ⟨y,H1,I1,r1,q1⟩=>?_) hs;exact zcM I1 hN hi hx r1 (fun s2 I2=>⟨_,H1,I2,q1⟩) hf
end
structure It where
 go:Nat→Hp→Prop
 yld:Nat→Hp→V→Hp→Prop
 stop:Nat→Hp→Prop
def zcs (X:Cx) (ip:List (Addr×Obj)) (H:Hp) (b:Addr):Prop :=
 H b=none∧b≠X.env.locals∧b∉X.fs∧(b∈X.ex∨X.s₀.heap.objs.size≤b)∧(∀ x c,X.env.cells.lookup x=some c→c≠b)∧∀ p∈X.pn++ip,p.1≠b
theorem Inv.fpOk {X:Cx} {ip:List (Addr×Obj)} {σ:St} {H H':Hp} {s:Shared} {b:Addr} (I:Inv X ip σ H s) (hb:s.heap.objs.size≤b) (hn:H' b=none):zcs X ip H' b:=by
 refine⟨hn,dw (aB I.lt hb),I.nofs hb,.inr (aZ I.sz hb),fun x c e z=>?_,fun p hp z=>?_⟩
 ·obtain⟨v,q⟩:=I.cell x c e;exact absurd (aB q.lt (by rw [z]; exact hb)) (bi _)
 ·exact absurd (aB (av (I.pin p hp).1) (by rw [z]; exact hb)) (bi _)
structure Turn (P:Program) (w:World) (K:af) (tg:Expr) (J:It) (fp:List Addr) (it:Addr) (tn:Nat→Heap→Prop):Prop where
 mem:it∈fp
 obj:∀ i h,tn i h→∀ b∈fp,∃ o,h.get? b=some o∧∀ v,o.data≠.cell v
 keep:∀ i h h',tn i h→(∀ b∈fp,∀ o,h.get? b=some o→h'.get? b=some o)→tn i h'
 item:∀ (X:Cx),X.prog=P→X.w=w→X.K=K→X.calm=true→∀ (i:Nat) (ip:List (Addr×Obj)) (s:Shared) (σ:St) (H:Hp) (E:Value→Shared→Prop),Inv X ip σ H s→(∀ b∈fp,zcs X ip H b)→tn i s.heap→J.go i H →
  wpAny (model P w) X.A (pyNext (.ref it)) (fun r s1=>∃ u,r=some u ∧
   wpAny (model P w) X.A (letOwnedTupleGo tg (.ref it) u) (fun _ s2=>∃ x H',Inv X ip σ H' s2∧RelV x u∧J.yld i H x H'∧tn (i+1) s2.heap∧∀ b∈fp,H' b=none) E s1) E s
 done:∀ (X:Cx),X.prog=P→X.w=w→X.K=K→X.calm=true→∀ (i:Nat) (ip:List (Addr×Obj)) (s:Shared) (σ:St) (H:Hp) (E:Value→Shared→Prop),Inv X ip σ H s→(∀ b∈fp,zcs X ip H b)→tn i s.heap→J.stop i H →
  wpAny (model P w) X.A (pyNext (.ref it)) (fun r s1=>r=none∧Inv X ip σ H s1) E s
 self:∀ (A:Around) (i:Nat) (s:Shared) (Q:Value→Shared→Prop) (E:Value→Shared→Prop),tn i s.heap→Q (.ref it) s→wpAny (model P w) A (pyIter (.ref it)) Q E s
abbrev TI:=St→Hp→(It→Hp→Prop)→Prop
def PIE (X:Cx) (ip:List (Addr×Obj)) (σ:St) (tg:Expr) (R:It→Hp→Prop) (qy:Value) (s2:Shared):Prop :=
 ∃ (it:Addr) (fp:List Addr) (tn:Nat→Heap→Prop) (J:It) (H':Hp),qy = .ref it∧Inv X ip σ H' s2∧Turn X.prog X.w X.K tg J fp it tn∧tn 0 s2.heap∧(∀ b∈fp,zcs X ip H' b)∧R J H'
def PI (X:Cx) (tg iter:Expr) (wi:TI):Prop :=
 ∀ (ip:List (Addr×Obj)) (s:Shared) (σ:St) (H:Hp) (R:It→Hp→Prop),Inv X ip σ H s→wi σ H R →
  wpAny (model X.prog X.w) X.A (eval iter X.env) (fun v s1=>wpAny (model X.prog X.w) X.A (pyIter v) (PIE X ip σ tg R) X.xe s1) X.xe s
theorem zi7 {M:Model} {A:Around} {E:Value→Shared→Prop} {s:Shared} {tg:Expr} {it:Addr} {u:Value} {o:Obj} {n:String} {vs:Array Value} {Q:Unit→Shared→Prop} (ho:s.heap.get? it=some o) (hc:o.cls = .type n) (hd:o.data = .fields vs)
  (hn:["enumerate","zip","dict_itemiterator","dict_reverseitemiterator","odict_iterator","itertools.zip_longest","itertools.pairwise"].contains n=false) (hQ:Q () s):wpAny M A (letOwnedTupleGo tg (.ref it) u) Q E s:=by
 unfold letOwnedTupleGo;cases tg <;> first
  | exact al hQ
  | (cases u <;> first
    | exact al hQ
    | (refine ag (wpAny_load ho ?_)
       rw [hc,hd];show wpAny M A (if (["enumerate","zip","dict_itemiterator","dict_reverseitemiterator","odict_iterator","itertools.zip_longest","itertools.pairwise"].contains n && vs[0]? == some (rawInt _))=true then _ else _) Q E s;rw [if_neg (by intro h; rw [hn,Bool.false_and] at h; cases h)];exact al hQ))
def Itl (K:af) (a:Addr):It :=
 ⟨fun i H=>∃ xs x,iw K H a xs∧xs[i]? = some x,fun i H x H'=>H'=H∧∀ xs,iw K H a xs→xs[i]? = some x,fun i H=>∃ xs,iw K H a xs∧xs.length≤i⟩
def Itt (K:af) (a:Addr):It :=
 ⟨fun i H=>∃ xs x,iI K H a xs∧xs[i]? = some x,fun i H x H'=>H'=H∧∀ xs,iI K H a xs→xs[i]? = some x,fun i H=>∃ xs,iI K H a xs∧xs.length≤i⟩
def Itr (lo:Int) (n:Nat):It:=⟨fun i _=>i < n,fun i H x H'=>H'=H∧x = .int (lo+i),fun i _=>n≤i⟩
theorem zhT {P:Program} {w:World} {K:af} {tg:Expr} (a it:Addr):Turn P w K tg (Itl K a) [it] it (fun i h=>h.IsListIter it a i) where
 mem:=by simp
 obj:=fun i h st b hb=>by
  have e:b=it:=by simpa using hb
  subst e;obtain⟨o,e,c,d⟩:=st;exact⟨o,e,fun v z=>by rw [d] at z; cases z⟩
 keep:=fun i h h' st k=>st.at fun o e=>k it #[M] o e
 item:=by
  intro X hP hw hK hc i ip s σ H E I hf st hg;subst hP hw hK;obtain⟨xs,x,hq,hx⟩:=hg;obtain⟨ir,rv,p,hz⟩:=I.list hq;obtain⟨u,hu,ru⟩:=rv.get hx;obtain⟨f0,f1,f2,f3,f4,f5⟩:=hf it #[M];refine wpAny_pyNext_list_item st p.isList (x:=u) (by simpa using hu) fun h' ny sb=>?_
  have I1:Inv X ip σ H { s with heap:=h' }:=I.turned (t':=s.toks) (fun b o hb e=>(sb.2 b hb).trans e) f0 f1 f3 f4 f5;obtain⟨o,e,c,d⟩:=id ny;exact⟨u,rfl,zi7 (s:={ s with heap:=h' }) e c d #[D] ⟨x,H,I1,ru,⟨rfl,fun ys hy=>by rw [I.list_inj hy hq]; exact hx⟩,ny,fun b hb=>(hf b hb).1⟩⟩
 done:=by
  intro X hP hw hK hc i ip s σ H E I hf st hg;subst hP hw hK;obtain⟨xs,hq,hx⟩:=hg;obtain⟨ir,rv,p,hz⟩:=I.list hq;obtain⟨f0,f1,f2,f3,f4,f5⟩:=hf it #[M];have hl:=rv.length;exact wpAny_pyNext_list_end (I.ok.hd hc) st p.isList (by simp; lia) fun h' eb=>⟨rfl,I.turned (t':=s.toks) (fun b o hb e=>eb b o hb e) f0 f1 f3 f4 f5⟩
 self:=fun _ _ _ _ _ st h=>wpAny_pyIter_listiter st h
theorem zgL {P:Program} {w:World} {K:af} {tg:Expr} (a it:Addr):Turn P w K tg (Itt K a) [it] it (fun i h=>h.IsTupleIter it a i) where
 mem:=by simp
 obj:=fun i h st b hb=>by
  have e:b=it:=by simpa using hb
  subst e;obtain⟨o,e,c,d⟩:=st;exact⟨o,e,fun v z=>by rw [d] at z; cases z⟩
 keep:=fun i h h' st k=>st.at fun o e=>k it #[M] o e
 item:=by
  intro X hP hw hK hc i ip s σ H E I hf st hg;subst hP hw hK;obtain⟨xs,x,hq,hx⟩:=hg;obtain⟨ir,rv,p,hz⟩:=I.tuple hq;obtain⟨u,hu,ru⟩:=rv.get hx;obtain⟨f0,f1,f2,f3,f4,f5⟩:=hf it #[M];refine wpAny_pyNext_tuple_item st (show s.heap.IsTuple a ir.toArray from p) (x:=u) (by simpa using hu) fun h' ny sb=>?_
  have I1:Inv X ip σ H { s with heap:=h' }:=I.turned (t':=s.toks) (fun b o hb e=>(sb.2 b hb).trans e) f0 f1 f3 f4 f5;obtain⟨o,e,c,d⟩:=id ny;exact⟨u,rfl,zi7 (s:={ s with heap:=h' }) e c d #[D] ⟨x,H,I1,ru,⟨rfl,fun ys hy=>by rw [I.tuple_inj hy hq]; exact hx⟩,ny,fun b hb=>(hf b hb).1⟩⟩
 done:=by
  intro X hP hw hK hc i ip s σ H E I hf st hg;subst hP hw hK;obtain⟨xs,hq,hx⟩:=hg;obtain⟨ir,rv,p,hz⟩:=I.tuple hq;obtain⟨f0,f1,f2,f3,f4,f5⟩:=hf it #[M];have hl:=rv.length;exact wpAny_pyNext_tuple_end (I.ok.hd hc) st (show s.heap.IsTuple a ir.toArray from p) (by simp; lia) fun h' eb=>⟨rfl,I.turned (t':=s.toks) (fun b o hb e=>eb b o hb e) f0 f1 f3 f4 f5⟩
 self:=fun _ _ _ _ _ st h=>wpAny_pyIter_tupleiter st h
theorem zgM {P:Program} {w:World} {K:af} {tg:Expr} (it:Addr) (lo:Int) (n:Nat):Turn P w K tg (Itr lo n) [it] it (fun i h=>IsRangeIter h it (lo+(i:Nat)*1) ((n:Int) - (i:Nat)) 1) where
 mem:=by simp
 obj:=fun i h st b hb=>by
  have e:b=it:=by simpa using hb
  subst e;exact⟨_,st,fun v z=>by
   have z':Data.fields _=Data.cell v:=z;cases z'⟩
 keep:=fun i h h' st k=>k it #[M] _ st
 item:=by
  intro X hP hw hK hc i ip s σ H E I hf st hg;subst hP hw hK;obtain⟨f0,f1,f2,f3,f4,f5⟩:=hf it #[M];have W:=Walks.range (prog:=X.prog) (w:=X.w) (I.ok.hd hc) it lo 1 n;refine W.item i s _ _ hg st fun v h' tk hv ny kk=>?_
  obtain⟨t,rfl⟩:=hv;have I1:Inv X ip σ H { s with heap:=h',toks:=tk }:=I.turned (fun b o hb e=>kk b o (by simpa using hb) e) f0 f1 f3 f4 f5;refine⟨_,rfl,zi7 (s:={ s with heap:=h',toks:=tk }) (n:="range_iterator") ny rfl rfl #[D] ⟨.int (lo+i),H,I1,⟨t,?_⟩,⟨rfl,rfl⟩,ny,fun b hb=>(hf b hb).1⟩⟩;rw [Int.mul_one]
 done:=by
  intro X hP hw hK hc i ip s σ H E I hf st hg;subst hP hw hK;obtain⟨f0,f1,f2,f3,f4,f5⟩:=hf it #[M];exact wpAny_pyNext_range_end (I.ok.hd hc) st (by have:n≤i:=hg; lia) fun h' eb=>⟨rfl,I.turned (t':=s.toks) (fun b o hb e=>eb b o hb e) f0 f1 f3 f4 f5⟩
 self:=fun _ _ _ _ _ st h=>wpAny_pyIter_rangeiter st h
section
variable {X:Cx} {tg:Expr}
def zn9 (K:af) (tl:TE):TI:=fun σ H R=>tl σ H fun x H1=>∃ a,x = .ref a∧(∃ xs,iw K H1 a xs)∧R (Itl K a) H1
def zoI (K:af) (tl:TE):TI:=fun σ H R=>tl σ H fun x H1=>∃ a,x = .ref a∧(∃ xs,iI K H1 a xs)∧R (Itt K a) H1
theorem zbd {l:Expr} {tl:TE} (hl:PE X l tl):PI X tg l (zn9 X.K tl):=by
 intro ip s σ H R I h;refine thn (hl ip s σ H _ I h) fun v s1 ⟨x,H1,I1,r1,q1⟩=>?_
 obtain⟨a,e,⟨xs,hq⟩,q⟩:=q1;subst e;cases r1;obtain⟨ir,rv,p,hz⟩:=I1.list hq;refine cu p.isList ?_;refine⟨s1.heap.objs.size,[s1.heap.objs.size],_,_,H1,rfl,I1.kept (t':=s1.toks) fun b o e=>ai _ e,zhT a _,⟨_,au _ rfl,rfl,rfl⟩,fun b hb=>?_,q⟩;have e:b=s1.heap.objs.size:=by simpa using hb
 subst e;exact I1.fpOk (ak _) (I1.hok.fresh (ak _))
theorem zmY {l:Expr} {tl:TE} (hl:PE X l tl):PI X tg l (zoI X.K tl):=by
 intro ip s σ H R I h;refine thn (hl ip s σ H _ I h) fun v s1 ⟨x,H1,I1,r1,q1⟩=>?_
 obtain⟨a,e,⟨xs,hq⟩,q⟩:=q1;subst e;cases r1;obtain⟨ir,rv,p,hz⟩:=I1.tuple hq;refine dR (show s1.heap.IsTuple a ir.toArray from p) ?_;refine⟨s1.heap.objs.size,[s1.heap.objs.size],_,_,H1,rfl,I1.kept (t':=s1.toks) fun b o e=>ai _ e,zgL a _,⟨_,au _ rfl,rfl,rfl⟩,fun b hb=>?_,q⟩;have e:b=s1.heap.objs.size:=by simpa using hb
 subst e;exact I1.fpOk (ak _) (I1.hok.fresh (ak _))
theorem zfX {ip:List (Addr×Obj)} {σ:St} {H:Hp} {s:Shared} {R:It→Hp→Prop} {E:Value→Shared→Prop} {lo hi:Int} {t u v:Tok} {tk:Nat} (I:Inv X ip σ H s) (h1:-(2 ^ 62)≤lo) (h2:lo < 2 ^ 62) (h3:-(2 ^ 62)≤hi) (h4:hi < 2 ^ 62)
  (q:R (Itr lo (hi - lo).toNat) H):wpAny (model X.prog X.w) X.A (pyIter (.ref s.heap.objs.size)) (PIE X ip σ tg R) E { s with heap:=s.heap.push { cls:=.type "range",data:=.fields #[.int lo t,.int hi u,.int 1 v] },toks:=tk }:=by
 refine wpAny_pyIter_range (IsRange.new ..) (small_one h1 h2 h3 h4) ?_;have I1:Inv X ip σ H { s with heap:=s.heap.push { cls:=.type "range",data:=.fields #[.int lo t,.int hi u,.int 1 v] },toks:=tk }:=I.kept fun b o e=>ai _ e
 refine⟨(s.heap.push { cls:=.type "range",data:=.fields #[.int lo t,.int hi u,.int 1 v] }).objs.size,[(s.heap.push { cls:=.type "range",data:=.fields #[.int lo t,.int hi u,.int 1 v] }).objs.size],_,_,H,rfl,
  I1.kept (t':=tk) fun b o e=>ai _ e,zgM _ lo (hi - lo).toNat,?_,fun b hb=>?_,q⟩
 ·have e1:lo+((0:Nat):Int)*1=lo:=by simp
  have e2:(((hi - lo).toNat:Nat):Int) - ((0:Nat):Int)=Builtin.Range.rangeSize lo hi 1:=by rw [rangeSize_one]; split <;> lia
  show IsRangeIter _ _ (lo+((0:Nat):Int)*1) ((((hi - lo).toNat:Nat):Int) - ((0:Nat):Int)) 1;rw [e1,e2];exact au _ rfl
 ·have e:b=(s.heap.push { cls:=.type "range",data:=.fields #[.int lo t,.int hi u,.int 1 v] }).objs.size:=by simpa using hb
  subst e;exact I1.fpOk (ak _) (I1.hok.fresh (ak _))
def zoa (ta:TA):TI:=fun σ H R=>ta σ H fun vs H1=>∃ j:Int,vs = [.int j]∧-(2 ^ 62)≤j∧j < 2 ^ 62∧R (Itr 0 j.toNat) H1
def zob (ta:TA):TI:=fun σ H R=>ta σ H fun vs H1=>∃ i j:Int,vs = [.int i,.int j]∧(-(2 ^ 62)≤i∧i < 2 ^ 62∧-(2 ^ 62)≤j∧j < 2 ^ 62)∧R (Itr i (j - i).toNat) H1
theorem zc6 {a:Expr} {ta:TA} {p pos:Pos} (hg:Gl X "range") (hm:X.mg "range" = none) (ha:PA X [a] ta) (hs:starEach [a] X.env = [(false,eval a X.env)]:=by rfl):PI X tg (.Call (.Name "range" p) [a] [] pos) (zoa ta):=by
 intro ip s σ H R I h;refine Call_ (zc5 I hg hm gL (bW (thn (ha pos ip s σ H _ I h) fun us s1 ⟨vs,H1,I1,r1,q1⟩=>?_) hs rfl));obtain⟨j,e,q1,q2,q⟩:=q1;subst e;cases r1 with
 | cons r rr =>
  cases rr;obtain⟨t,rfl⟩:=r;exact call_range_1 (zfX I1 #[O] #[O] q1 q2 (by simpa using q))
theorem zhU {a b:Expr} {ta:TA} {p pos:Pos} (hg:Gl X "range") (hm:X.mg "range" = none) (ha:PA X [a,b] ta) (hs:starEach [a,b] X.env = [(false,eval a X.env),(false,eval b X.env)]:=by rfl) (mL:starEach [b] X.env = [(false,eval b X.env)]:=by rfl) :
  PI X tg (.Call (.Name "range" p) [a,b] [] pos) (zob ta):=by
 intro ip s σ H R I h;refine Call_ (zc5 I hg hm gL (bW (thn (ha pos ip s σ H _ I h) fun us s1 ⟨vs,H1,I1,r1,q1⟩=>?_) (by rw [hs,mL]) (by rw [mL]; rfl)));obtain⟨i,j,e,⟨q1,q2,q3,q4⟩,q⟩:=q1;subst e;cases r1 with
 | cons r rr =>
  cases rr with
  | cons r' rr =>
   cases rr;obtain⟨t,rfl⟩:=r;obtain⟨t',rfl⟩:=r';exact call_range_2 (zfX I1 q1 q2 q3 q4 q)
def zoJ (wi:TI) (g:TG) (tb:TS):TS:=fun D σ H=>wi σ H fun J H1=>∃ W:Nat→Nat→St→Hp→Prop,(∃ m,W 0 m σ H1)∧∀ i m σ H,W i m σ H →
 (J.stop i H∧D.nx σ H)∨(J.go i H∧∃ N:St→Hp→Prop,(∀ σ' H',N σ' H'→∃ m',m' < m∧W (i+1) m' σ' H')∧∀ x H',J.yld i H x H'→g x σ H' fun σ2 H2=>tb { D with nx:=N,ct:=N,bk:=D.nx } σ2 H2)
def zb1 (fp:List Addr) (h:Heap):List (Addr×Obj):=fp.filterMap fun b=>(h.get? b).map fun o=>(b,o)
theorem zbN {fp:List Addr} {h:Heap} {b:Addr} {o:Obj} (hb:b∈fp) (e:h.get? b=some o):(b,o)∈zb1 fp h:=dS.mpr ⟨b,hb,by rw [e]; rfl⟩
theorem zeH {fp:List Addr} {h:Heap} {p:Addr×Obj} (hp:p∈zb1 fp h):p.1∈fp∧h.get? p.1=some p.2:=by
 obtain⟨b,hb,e⟩:=dS.mp hp;cases q:h.get? b with
 | none=>rw [q] at e; cases e
 | some o =>
  rw [q] at e;have e':(b,o)=p:=az e;subst e';exact⟨hb,q⟩
theorem Inv.pinned {ip:List (Addr×Obj)} {σ:St} {H:Hp} {s:Shared} {fp:List Addr} (I:Inv X ip σ H s) (hf:∀ b∈fp,zcs X ip H b) (ho:∀ b∈fp,∃ o,s.heap.get? b=some o∧∀ v,o.data≠.cell v):Inv X (ip++zb1 fp s.heap) σ H s :=
 I.pins_of fun p hp=>(bt.mp hp).elim (fun z=>I.pin p (ax _ z)) fun z=>by
  obtain⟨hb,e⟩:=zeH z;obtain⟨f0,f1,f2,_⟩:=hf p.1 hb;obtain⟨o,e',d⟩:=ho p.1 hb;rw [e] at e'; cases e';exact⟨e,f0,f1,f2,d⟩
theorem Inv.unpinned {ip pl:List (Addr×Obj)} {σ:St} {H:Hp} {s:Shared} (I:Inv X (ip++pl) σ H s):Inv X ip σ H s:=I.pins_of fun p hp=>I.pin p (ax _ (aJ _ hp))
theorem zgN {iter:Expr} {body:List Stmt} {wi:TI} {g:TG} {tb:TS} {pos:Pos} (hp:PassesOwn (model X.prog X.w) X.A X.env X.xe) (hc:X.calm=true) (hi:PI X tg iter wi) (hg:PG X tg g) (hb:PSs X body tb)
  (hs:∀ x,foldedSetIterable iter X.env x=pure x:=by intro _; rfl):PS X (.For tg iter body [] pos) (zoJ wi g tb):=by
 intro ip s σ H D I h;refine wpAny_For (thn (hi ip s σ H _ I h) fun v s1 h1=>thn h1 fun qy s2 h2=>?_) hs;obtain⟨it,fp,tn,J,H2,e,I2,T,j4,f2,W,⟨m0,w0⟩,turn⟩:=h2;subst e;have nO:∀ {H':Hp},(∀ b∈fp,H' b=none)→∀ b∈fp,zcs X ip H' b:=fun hn b hb=>⟨hn b hb,(f2 b hb).2⟩
 refine codeAny_forLoop_any (fun n s'=>∃ i σ' H',Inv X ip σ' H' s'∧tn i s'.heap∧(∀ b∈fp,H' b=none)∧W i n σ' H') ?_ m0 ⟨0,σ,H2,I2,j4,fun b hb=>(f2 b hb).1,w0⟩;rintro n s3 ⟨i,σ3,H3,I3,nP,fr3,w3⟩;rcases turn i n σ3 H3 w3 with ⟨stop,qn⟩ | ⟨go,N,hN,step⟩
 ·refine cP hp (thn (T.done X rfl rfl rfl hc i ip s3 σ3 H3 X.xe I3 (nO fr3) nP stop) fun r s4 ⟨hr,I4⟩=>?_);subst hr;exact cO ⟨σ3,H3,I4,qn⟩
 ·refine cP hp (thn (T.item X rfl rfl rfl hc i ip s3 σ3 H3 X.xe I3 (nO fr3) nP go) fun r s4 ⟨u,hr,h4⟩=>?_);subst hr;refine cP hp (thn h4 fun _ s5 ⟨x,H5,I5,r5,y5,oI,qz⟩=>?_);have I5':=I5.pinned (nO qz) (T.obj _ _ oI);refine cP hp (thn (hg _ s5 σ3 H5 x u _ I5' r5 (step x H5 y5)) fun _ s6 ⟨σ6,H6,I6,q6⟩=>?_);refine cP hp (thn (hb _ s6 σ6 H6 _ I6 q6) fun f s7 q7=>?_);have again:∀ {σ7:St} {H7:Hp},Inv X (ip++zb1 fp s5.heap) σ7 H7 s7→N σ7 H7→∃ m,m < n∧∃ i σ' H',Inv X ip σ' H' s7∧tn i s7.heap∧(∀ b∈fp,H' b=none)∧W i m σ' H':=fun {σ7 H7} I7 n7=>by
   obtain⟨m',hm,w7⟩:=hN σ7 H7 n7;refine⟨m',hm,i+1,σ7,H7,I7.unpinned,T.keep _ _ _ oI fun b hb o e=>(I7.pin (b,o) (ax _ (ax _ (zbN hb e)))).1,fun b hb=>?_,w7⟩;obtain⟨o,e,d⟩:=T.obj _ _ oI b hb;exact (I7.pin (b,o) (ax _ (ax _ (zbN hb e)))).2.1
  cases f with
  | next=>obtain⟨σ7,H7,I7,n7⟩:=q7; exact again I7 n7
  | cont=>obtain⟨σ7,H7,I7,n7⟩:=q7; exact again I7 n7
  | brk=>obtain⟨σ7,H7,I7,q7⟩:=q7; exact⟨σ7,H7,I7.unpinned,q7⟩
  | ret v=>obtain⟨x7,σ7,H7,I7,r7,q7⟩:=q7; exact⟨x7,σ7,H7,I7.unpinned,r7,q7⟩
end
theorem zi8 {K:af} {a:Addr} {xs:List V} {g:TG} {tb:TS} {D:Ends} {σ:St} {H:Hp} (Pv:Nat→St→Hp→Prop) (h0:Pv 0 σ H) (hl:∀ i σ H,i≤xs.length→Pv i σ H→iw K H a xs)
  (hs:∀ i x σ H,xs[i]? = some x→Pv i σ H→g x σ H fun σ2 H2=>tb { D with nx:=Pv (i+1),ct:=Pv (i+1),bk:=D.nx } σ2 H2) (hd:∀ σ H,Pv xs.length σ H→D.nx σ H) :
  ∃ W:Nat→Nat→St→Hp→Prop,(∃ m,W 0 m σ H)∧∀ i m σ H,W i m σ H →
   ((Itl K a).stop i H∧D.nx σ H)∨((Itl K a).go i H∧∃ N:St→Hp→Prop,(∀ σ' H',N σ' H'→∃ m',m' < m∧W (i+1) m' σ' H')∧∀ x H',(Itl K a).yld i H x H'→g x σ H' fun σ2 H2=>tb { D with nx:=N,ct:=N,bk:=D.nx } σ2 H2):=by
 refine⟨fun i m σ H=>m=xs.length - i∧i≤xs.length∧Pv i σ H,⟨xs.length,#[M],cc _,h0⟩,?_⟩;rintro i m σ H ⟨rfl,hi,p⟩;have q:=hl i σ H hi p;by_cases jE:i < xs.length
 ·refine .inr ⟨⟨xs,xs[i],q,by simp [jE]⟩,Pv (i+1),fun σ' H' p'=>⟨xs.length - (i+1),#[O],rfl,jE,p'⟩,fun x H' y=>?_⟩;obtain⟨e,y⟩:=y;subst e;exact hs i x σ _ (y xs q) p
 ·have e:i=xs.length:=by lia
  subst e;exact .inl ⟨⟨xs,q,ak _⟩,hd σ H p⟩
theorem zhV {lo:Int} {n:Nat} {g:TG} {tb:TS} {D:Ends} {σ:St} {H:Hp} (Pv:Nat→St→Hp→Prop) (h0:Pv 0 σ H)
  (hs:∀ i σ H,i < n→Pv i σ H→g (.int (lo+i)) σ H fun σ2 H2=>tb { D with nx:=Pv (i+1),ct:=Pv (i+1),bk:=D.nx } σ2 H2) (hd:∀ σ H,Pv n σ H→D.nx σ H) :
  ∃ W:Nat→Nat→St→Hp→Prop,(∃ m,W 0 m σ H)∧∀ i m σ H,W i m σ H →
   ((Itr lo n).stop i H∧D.nx σ H)∨((Itr lo n).go i H∧∃ N:St→Hp→Prop,(∀ σ' H',N σ' H'→∃ m',m' < m∧W (i+1) m' σ' H')∧∀ x H',(Itr lo n).yld i H x H'→g x σ H' fun σ2 H2=>tb { D with nx:=N,ct:=N,bk:=D.nx } σ2 H2):=by
 refine⟨fun i m σ H=>m=n - i∧i≤n∧Pv i σ H,⟨n,#[M],cc _,h0⟩,?_⟩;rintro i m σ H ⟨rfl,hi,p⟩;by_cases jE:i < n
 ·refine .inr ⟨jE,Pv (i+1),fun σ' H' p'=>⟨n - (i+1),#[O],rfl,jE,p'⟩,fun x H' y=>?_⟩;obtain⟨e,y⟩:=y;subst e y;exact hs i σ _ jE p
 ·have e:i=n:=by lia
  subst e;exact .inl ⟨ak _,hd σ H p⟩
abbrev R2:=V→V→Hp→VK→Prop
def OpR (X:Cx) (f:Value→Value→Sem Value) (r:R2):Prop :=
 ∀ (ip:List (Addr×Obj)) (s:Shared) (σ:St) (H:Hp) (x y:V) (v u:Value) (Q:VK),Inv X ip σ H s→RelV x v→RelV y u→r x y H Q →
  wpAny (model X.prog X.w) X.A (f v u) (EP X ip σ Q) X.xe s
def UnR (X:Cx) (f:Value→Sem Value) (r:V→Hp→VK→Prop):Prop :=
 ∀ (ip:List (Addr×Obj)) (s:Shared) (σ:St) (H:Hp) (x:V) (v:Value) (Q:VK),Inv X ip σ H s→RelV x v→r x H Q →
  wpAny (model X.prog X.w) X.A (f v) (EP X ip σ Q) X.xe s
def zba (X:Cx) (f:Value) (r:List V→Hp→VK→Prop):Prop :=
 ∀ (ip:List (Addr×Obj)) (s:Shared) (σ:St) (H:Hp) (xs:List V) (us:List Value) (Q:VK),Inv X ip σ H s→zx xs us→r xs H Q →
  wpAny (model X.prog X.w) X.A (call f us) (EP X ip σ Q) X.xe s
def zoK (X:Cx) (r:V→Hp→(Bool→Hp→Prop)→Prop):Prop :=
 ∀ (ip:List (Addr×Obj)) (s:Shared) (σ:St) (H:Hp) (x:V) (v:Value) (Q:Bool→Hp→Prop),Inv X ip σ H s→RelV x v→r x H Q →
  wpAny (model X.prog X.w) X.A (truthy v) (TP X ip σ Q) X.xe s
def tOp (r:R2) (ta tb:TE):TE:=fun σ H Q=>ta σ H fun x H1=>tb σ H1 fun y H2=>r x y H2 Q
def tUn (r:V→Hp→VK→Prop) (ta:TE):TE:=fun σ H Q=>ta σ H fun x H1=>r x H1 Q
def rI (C:Int→Int→Prop) (g:Int→Int→V):R2:=fun x y H Q=>∃ i j,x = .int i∧y = .int j∧C i j∧Q (g i j) H
def rI0 (g:Int→Int→V):R2:=fun x y H Q=>∃ i j,x = .int i∧y = .int j∧Q (g i j) H
def rU (g:Int→V):V→Hp→VK→Prop:=fun x H Q=>∃ i,x = .int i∧Q (g i) H
section
variable {X:Cx} {a b c:Expr} {ta tb tc:TE} {pos:Pos}
theorem zmZ (ha:PE X a ta) (hb:PE X b tb) {ip:List (Addr×Obj)} {s:Shared} {σ:St} {H:Hp} {R:V→V→Hp→Prop} (I:Inv X ip σ H s)
  (h:ta σ H fun x H1=>tb σ H1 fun y H2=>R x y H2) {Q:Value→Shared→Prop} {f:Value→Value→Sem Value}
  (hf:∀ v u s2 x y H2,Inv X ip σ H2 s2→RelV x v→RelV y u→R x y H2→wpAny (model X.prog X.w) X.A (f v u) Q X.xe s2) :
  wpAny (model X.prog X.w) X.A (eval a X.env) (fun v s₁=>wpAny (model X.prog X.w) X.A (eval b X.env) (fun u s₂=>wpAny (model X.prog X.w) X.A (f v u) Q X.xe s₂) X.xe s₁) X.xe s:=by
 refine thn (ha ip s σ H _ I h) fun v s1 ⟨x,H1,I1,r1,q1⟩=>?_
 refine thn (hb ip s1 σ H1 _ I1 q1) fun u s2 ⟨y,H2,I2,r2,q2⟩=>?_
 exact hf v u s2 x y H2 I2 r1 r2 q2
theorem zt {op:Operator} {r:R2} (ho:OpR X (binaryOp op) r) (ha:PE X a ta) (hb:PE X b tb):PE X (.BinOp a op b pos) (tOp r ta tb):=by
 intro ip s σ H Q I h;exact wpAny_BinOp (zmZ ha hb I h fun v u s2 x y H2 I2 rx ry q=>ho ip s2 σ H2 x y v u Q I2 rx ry q)
theorem zmH {op:UnaryOp} {r:V→Hp→VK→Prop} (ho:UnR X (unaryOp op) r) (ha:PE X a ta):PE X (.UnaryOp op a pos) (tUn r ta):=by
 intro ip s σ H Q I h;exact UnaryOp_ (thn (ha ip s σ H _ I h) fun v s1 ⟨x,H1,I1,r1,q1⟩=>ho ip s1 σ H1 x v Q I1 r1 q1)
theorem opI {f:Value→Value→Sem Value} {C:Int→Int→Prop} {g:Int→Int→Int}
  (rule:∀ (i j:Int) (t u:Tok) (s:Shared) (Q:Value→Shared→Prop) (E:Value→Shared→Prop),C i j→Q (.int (g i j) s.toks) { s with toks:=s.toks+1 }→wpAny (model X.prog X.w) X.A (f (.int i t) (.int j u)) Q E s) :
  OpR X f (rI C fun i j=>.int (g i j)):=by
 intro ip s σ H x y v u Q I rx ry h;obtain⟨i,j,rfl,rfl,hc,q⟩:=h;obtain⟨t,rfl⟩:=rx;obtain⟨t',rfl⟩:=ry;exact rule i j t t' s _ _ hc ⟨.int (g i j),H,I.tok _,⟨_,rfl⟩,q⟩
theorem zoc {f:Value→Value→Sem Value} {g:Int→Int→Int}
  (rule:∀ (i j:Int) (t u:Tok) (s:Shared) (Q:Value→Shared→Prop) (E:Value→Shared→Prop),Q (.int (g i j) s.toks) { s with toks:=s.toks+1 }→wpAny (model X.prog X.w) X.A (f (.int i t) (.int j u)) Q E s) :
  OpR X f (rI0 fun i j=>.int (g i j)):=by
 intro ip s σ H x y v u Q I rx ry h;obtain⟨i,j,rfl,rfl,q⟩:=h;obtain⟨t,rfl⟩:=rx;obtain⟨t',rfl⟩:=ry;exact rule i j t t' s _ _ ⟨.int (g i j),H,I.tok _,⟨_,rfl⟩,q⟩
theorem zlk {f:Value→Value→Sem Value} {g:Int→Int→Bool}
  (rule:∀ (i j:Int) (t u:Tok) (s:Shared) (Q:Value→Shared→Prop) (E:Value→Shared→Prop),Q (.bool (g i j)) s→wpAny (model X.prog X.w) X.A (f (.int i t) (.int j u)) Q E s) :
  OpR X f (rI0 fun i j=>.bl (g i j)):=by
 intro ip s σ H x y v u Q I rx ry h;obtain⟨i,j,rfl,rfl,q⟩:=h;obtain⟨t,rfl⟩:=rx;obtain⟨t',rfl⟩:=ry;exact rule i j t t' s _ _ ⟨.bl (g i j),H,I,rfl,q⟩
def zoL (i j:Int):Prop:=0 < j∧j < 1073741824
def zoM (i j:Int):Prop:=0≤j∧j≤1000000∧i.natAbs < 2 ^ 64
def zm0 (i j:Int):Prop:=(-(2 ^ 64) < i∧i < 2 ^ 64)∨(-(2 ^ 64) < j∧j < 2 ^ 64)
theorem zm0.ok {i j:Int} (h:zm0 i j):IntMulOk i j:=by
 rcases h with ⟨h1,h2⟩ | ⟨h1,h2⟩
 ·exact .of_left (intBits_le_64 h1 h2)
 ·exact .of_right (intBits_le_64 h1 h2)
theorem zaK:OpR X (binaryOp .Add) (rI0 fun i j=>.int (i+j)):=zoc fun _ _ _ _ _ _ _ q=>add_int q
theorem zb2:OpR X (binaryOp .Sub) (rI0 fun i j=>.int (i - j)):=zoc fun _ _ _ _ _ _ _ q=>sub_int q
theorem za8:OpR X (binaryOp .Mult) (rI zm0 fun i j=>.int (i*j)):=opI fun _ _ _ _ _ _ _ hc q=>mul_int q hc.ok
theorem zll:OpR X (binaryOp .FloorDiv) (rI zoL fun i j=>.int (i / j)):=opI fun i j _ _ _ _ _ hc q=>by
 have h1:(0:Int) < j:=hc.1;have h2:j < 1073741824:=hc.2;exact floordiv_int #[O] (by rw [Int.fdiv_eq_ediv_of_nonneg i #[O]]; exact q) (.inl (PyProof.noPylong_small #[O]))
theorem zas:OpR X (binaryOp .Mod) (rI (fun _ j=>0 < j) fun i j=>.int (i % j)):=opI fun i j _ _ _ _ _ hc q=>by
 have h1:(0:Int) < j:=hc;exact mod_int' #[O] (by rw [Int.fmod_eq_emod_of_nonneg i #[O]]; exact q)
theorem zgO:OpR X (binaryOp .Pow) (rI zoM fun i j=>.int (i ^ j.toNat)):=opI fun _ _ _ _ _ _ _ hc q=>pow_int_small hc.1 hc.2.1 hc.2.2 q
theorem unI {f:Value→Sem Value} {g:Int→Int}
  (rule:∀ (i:Int) (t:Tok) (s:Shared) (Q:Value→Shared→Prop) (E:Value→Shared→Prop),Q (.int (g i) s.toks) { s with toks:=s.toks+1 }→wpAny (model X.prog X.w) X.A (f (.int i t)) Q E s) :
  UnR X f (rU fun i=>.int (g i)):=by
 intro ip s σ H x v Q I rx h;obtain⟨i,rfl,q⟩:=h;obtain⟨t,rfl⟩:=rx;exact rule i t s _ _ ⟨.int (g i),H,I.tok _,⟨_,rfl⟩,q⟩
theorem zi9:UnR X (unaryOp .USub) (rU fun i=>.int (-i)):=unI fun _ _ _ _ _ q=>neg_int q
end
def zod:V→V→Bool
 | .non,.non=>true | .non,.int _=>true | .int _,.non=>true | .non,.bl _=>true | .bl _,.non=>true | .non,.str _=>true | .str _,.non=>true
 | .int _,.int _=>true | .bl _,.bl _=>true | .str _,.str _=>true | .byt _,.byt _=>true
 | .int _,.str _=>true | .str _,.int _=>true | .bl _,.str _=>true | .str _,.bl _=>true
 | _,_=>false
def rEq:R2:=fun x y H Q=>zod x y=true∧Q (.bl (decide (x=y))) H
def rNe:R2:=fun x y H Q=>zod x y=true∧Q (.bl (!decide (x=y))) H
theorem zhA {i j:Int}:decide (V.int i=V.int j)=(i == j):=by
 rw [bu];simp
theorem zja {i j:Bool}:decide (V.bl i=V.bl j)=(i == j):=by
 rw [bu];simp
theorem zhB {i j:Str}:decide (V.str i=V.str j)=(i == j):=by
 rw [bu];simp
theorem zhC {i j:Array UInt8}:decide (V.byt i=V.byt j)=(i.toList == j.toList):=by
 rw [bu];cases i;cases j;simp
section
variable {X:Cx} {a b c:Expr} {ta tb tc:TE} {pos:Pos}
theorem zP {ip:List (Addr×Obj)} {σ:St} {H:Hp} {s:Shared} {Q:VK} {k k':Bool} (I:Inv X ip σ H s) (q:Q (.bl k) H) (e:k=k'):EP X ip σ Q (.bool k') s:=by
 subst e;exact⟨.bl k,H,I,rfl,q⟩
theorem zcw:OpR X (compareOp .Eq) rEq:=by
 intro ip s σ H x y v u Q I rx ry h;obtain⟨hs,q⟩:=h;cases x with
 | non =>
  cases rx;cases y with
  | non=>cases ry; exact PySem.EqNone.eq_none_none (zP I q #[M])
  | bl j=>cases ry; exact PySem.EqNone.eq_none_bool (zP I q #[M])
  | int j=>obtain⟨t',rfl⟩:=ry; exact PySem.EqNone.eq_none_int (zP I q #[M])
  | str j=>obtain⟨t',rfl⟩:=ry; exact PySem.EqNone.eq_none_str (zP I q #[M])
  | _=>exact absurd (show false=true from hs) ay
 | bl i =>
  cases rx;cases y with
  | non=>cases ry; exact PySem.EqNone.eq_bool_none (zP I q #[M])
  | bl j=>cases ry; exact eq_bool (zP I q zja)
  | str j=>obtain⟨t',rfl⟩:=ry; exact PySem.EqMixed.eq_bool_str (zP I q #[M])
  | _=>exact absurd (show false=true from hs) ay
 | int i =>
  obtain⟨t,rfl⟩:=rx;cases y with
  | non=>cases ry; exact PySem.EqNone.eq_int_none (zP I q #[M])
  | int j=>obtain⟨t',rfl⟩:=ry; exact eq_int (zP I q zhA)
  | str j=>obtain⟨t',rfl⟩:=ry; exact PySem.EqMixed.eq_int_str (zP I q #[M])
  | _=>exact absurd (show false=true from hs) ay
 | str i =>
  obtain⟨t,rfl⟩:=rx;cases y with
  | non=>cases ry; exact PySem.EqNone.eq_str_none (zP I q #[M])
  | bl j=>cases ry; exact PySem.EqMixed.eq_str_bool (zP I q #[M])
  | int j=>obtain⟨t',rfl⟩:=ry; exact PySem.EqMixed.eq_str_int (zP I q #[M])
  | str j=>obtain⟨t',rfl⟩:=ry; exact eq_str (zP I q zhB)
  | _=>exact absurd (show false=true from hs) ay
 | byt i =>
  obtain⟨t,rfl⟩:=rx;cases y with
  | byt j=>obtain⟨t',rfl⟩:=ry; exact PySem.W.eq_bytes (zP I q zhC)
  | _=>exact absurd (show false=true from hs) ay
 | _=>cases y <;> exact absurd (show false=true from hs) ay
theorem zcx:OpR X (compareOp .NotEq) rNe:=by
 intro ip s σ H x y v u Q I rx ry h;obtain⟨hs,q⟩:=h;cases x with
 | non =>
  cases rx;cases y with
  | non=>cases ry; exact PySem.EqNone.ne_none_none (zP I q #[M])
  | bl j=>cases ry; exact PySem.EqNone.ne_none_bool (zP I q #[M])
  | int j=>obtain⟨t',rfl⟩:=ry; exact PySem.EqNone.ne_none_int (zP I q #[M])
  | str j=>obtain⟨t',rfl⟩:=ry; exact PySem.EqNone.ne_none_str (zP I q #[M])
  | _=>exact absurd (show false=true from hs) ay
 | bl i =>
  cases rx;cases y with
  | non=>cases ry; exact PySem.EqNone.ne_bool_none (zP I q #[M])
  | bl j=>cases ry; exact ne_bool (zP I q (congrArg not zja))
  | str j=>obtain⟨t',rfl⟩:=ry; exact PySem.EqMixed.ne_bool_str (zP I q #[M])
  | _=>exact absurd (show false=true from hs) ay
 | int i =>
  obtain⟨t,rfl⟩:=rx;cases y with
  | non=>cases ry; exact PySem.EqNone.ne_int_none (zP I q #[M])
  | int j=>obtain⟨t',rfl⟩:=ry; exact ne_int (zP I q (congrArg not zhA))
  | str j=>obtain⟨t',rfl⟩:=ry; exact PySem.EqMixed.ne_int_str (zP I q #[M])
  | _=>exact absurd (show false=true from hs) ay
 | str i =>
  obtain⟨t,rfl⟩:=rx;cases y with
  | non=>cases ry; exact PySem.EqNone.ne_str_none (zP I q #[M])
  | bl j=>cases ry; exact PySem.EqMixed.ne_str_bool (zP I q #[M])
  | int j=>obtain⟨t',rfl⟩:=ry; exact PySem.EqMixed.ne_str_int (zP I q #[M])
  | str j=>obtain⟨t',rfl⟩:=ry; exact ne_str (zP I q (congrArg not zhB))
  | _=>exact absurd (show false=true from hs) ay
 | byt i =>
  obtain⟨t,rfl⟩:=rx;cases y with
  | byt j=>obtain⟨t',rfl⟩:=ry; exact PySem.W.ne_bytes (zP I q (congrArg not zhC))
  | _=>exact absurd (show false=true from hs) ay
 | _=>cases y <;> exact absurd (show false=true from hs) ay
theorem zhD:OpR X (compareOp .Lt) (rI0 fun i j=>.bl (decide (i < j))):=zlk fun _ _ _ _ _ _ _ q=>lt_int q
theorem zcN:OpR X (compareOp .LtE) (rI0 fun i j=>.bl (decide (i≤j))):=zlk fun _ _ _ _ _ _ _ q=>le_int q
theorem zfY:OpR X (compareOp .Gt) (rI0 fun i j=>.bl (decide (j < i))):=zlk fun _ _ _ _ _ _ _ q=>gt_int q
theorem zmI:OpR X (compareOp .GtE) (rI0 fun i j=>.bl (decide (j≤i))):=zlk fun _ _ _ _ _ _ _ q=>ge_int q
theorem zm1:OpR X (compareOp .Is) (fun x y H Q=>y = .non∧Q (.bl (decide (x = .non))) H):=by
 intro ip s σ H x y v u Q I rx ry h;obtain⟨rfl,q⟩:=h;cases ry;refine is_none_gen (zP I q ?_);cases x <;> first
  | (cases rx; rfl)
  | (obtain⟨t,rfl⟩:=rx; rfl)
theorem zhE:OpR X (compareOp .IsNot) (fun x y H Q=>y = .non∧Q (.bl (!decide (x = .non))) H):=by
 intro ip s σ H x y v u Q I rx ry h;obtain⟨rfl,q⟩:=h;cases ry;refine isnot_none_gen (zP I q ?_);cases x <;> first
  | (cases rx; rfl)
  | (obtain⟨t,rfl⟩:=rx; rfl)
theorem zI (b:Expr) {op:CmpOp} (h:op≠.In:=by decide) (h2:op≠.NotIn:=by decide):behindInMarks op b=false:=by
 have e1:(op == CmpOp.In)=false:=by cases op <;> first | rfl | exact absurd rfl h
 have e2:(op == CmpOp.NotIn)=false:=by cases op <;> first | rfl | exact absurd rfl h2
 cases b <;> simp [behindInMarks,e1,e2]
theorem zcO {op:CmpOp} {r:R2} (ho:OpR X (compareOp op) r) (ha:PE X a ta) (hb:PE X b tb) (hm:behindInMarks op b=false):PE X (.Compare a [op] [b] pos) (tOp r ta tb):=by
 intro ip s σ H Q I h;exact wpAny_Compare1 (zmZ ha hb I h fun v u s2 x y H2 I2 rx ry q=>ho ip s2 σ H2 x y v u Q I2 rx ry q) hm
def zmJ (t:TE):TT:=fun σ H Q=>t σ H fun x H'=>∃ k,x = .bl k∧Q k H'
theorem zB {op:CmpOp} {r:R2} (ho:OpR X (compareOp op) r) (ha:PE X a ta) (hb:PE X b tb) (hm:behindInMarks op b=false):PT X (.Compare a [op] [b] pos) (zmJ (tOp r ta tb)):=by
 intro ip s σ H Q I h;refine wpAny_isTrue_Compare1 (thn (ha ip s σ H _ I h) fun v s1 ⟨x,H1,I1,r1,q1⟩=>thn (hb ip s1 σ H1 _ I1 q1) fun u s2 ⟨y,H2,I2,r2,q2⟩ =>
  thn (ho ip s2 σ H2 x y v u _ I2 r1 r2 q2) fun c s3 ⟨z,H3,I3,r3,k,e,q3⟩=>?_) hm
 subst e;cases r3;exact bh ⟨H3,I3,q3⟩
def zjb (r r':R2) (ta tb tc:TE):TE:=fun σ H Q=>ta σ H fun x H1=>tb σ H1 fun y H2=>r x y H2 fun z H3=>∃ k,z = .bl k ∧
 (if k=true then tc σ H3 fun w' H4=>r' y w' H4 Q else Q (.bl false) H3)
theorem zjc {op nQ:CmpOp} {r r':R2} (ho:OpR X (compareOp op) r) (kP:OpR X (compareOp nQ) r') (ha:PE X a ta) (hb:PE X b tb) (hc:PE X c tc)
  (hm:lastMarks [op,nQ] [b,c]=false:=by with_unfolding_all rfl):PE X (.Compare a [op,nQ] [b,c] pos) (zjb r r' ta tb tc):=by
 intro ip s σ H Q I h;refine Compare_chain (thn (ha ip s σ H _ I h) fun v s1 ⟨x,H1,I1,r1,q1⟩=>chain_link (thn (hb ip s1 σ H1 _ I1 q1) fun u s2 ⟨y,H2,I2,r2,q2⟩ =>
  thn (ho ip s2 σ H2 x y v u _ I2 r1 r2 q2) fun d s3 ⟨z,H3,I3,r3,k,e,q3⟩=>?_)) hm
 subst e;cases r3;refine bh ?_;cases k with
 | false=>exact ite_ff ⟨.bl false,H3,I3,rfl,q3⟩
 | true=>exact ite_tt (chain_last (thn (hc ip s3 σ H3 _ I3 q3) fun w' s4 ⟨z',H4,I4,r4,q4⟩=>kP ip s4 σ H4 y z' u w' Q I4 r2 r4 q4))
theorem zcP {op nQ:CmpOp} {r r':R2} (ho:OpR X (compareOp op) r) (kP:OpR X (compareOp nQ) r') (ha:PE X a ta) (hb:PE X b tb) (hc:PE X c tc)
  (hm:lastMarks [op,nQ] [b,c]=false:=by with_unfolding_all rfl):PT X (.Compare a [op,nQ] [b,c] pos) (zmJ (zjb r r' ta tb tc)):=by
 intro ip s σ H Q I h;refine isTrue_chain (thn (ha ip s σ H _ I h) fun v s1 ⟨x,H1,I1,r1,q1⟩=>test_link (thn (hb ip s1 σ H1 _ I1 q1) fun u s2 ⟨y,H2,I2,r2,q2⟩ =>
  thn (ho ip s2 σ H2 x y v u _ I2 r1 r2 q2) fun d s3 ⟨z,H3,I3,r3,k,e,q3⟩=>?_)) hm
 subst e;cases r3;refine bh ?_;cases k with
 | false =>
  obtain⟨k',e',q'⟩:=q3;cases e';exact ite_ff ⟨H3,I3,q'⟩
 | true =>
  refine ite_tt (test_last (thn (hc ip s3 σ H3 _ I3 q3) fun w' s4 ⟨z',H4,I4,r4,q4⟩=>thn (kP ip s4 σ H4 y z' u w' _ I4 r2 r4 q4) fun d' s5 ⟨z2,H5,I5,r5,k2,e2,q5⟩=>?_));subst e2;cases r5;exact bh ⟨H5,I5,q5⟩
def zoe (K:af) (x:V) (H:Hp) (k:Bool):Prop :=
 match x with
 | .non=>k=false
 | .bl b=>k=b
 | .int i=>k=(i != 0)
 | .str y=>y.length≤sizeLine∧k=((y.length:Int) != 0)
 | .byt y=>y.size≤sizeLine∧k=((y.size:Int) != 0)
 | .ref p=>(∃ xs,iw K H p xs∧k = !xs.isEmpty)∨(∃ xs,iI K H p xs∧k = !xs.isEmpty)∨∃ iX,H p=some (.dK iX)∧k = !iX.isEmpty
 | _=>False
theorem zgP {κ:Type} {iX:List (κ×V)} {vs:List (κ×Value)} (r:KV iX vs):(!vs.isEmpty) = !iX.isEmpty:=by
 cases r <;> rfl
theorem zdM {xs:List V} {ir:List Value} (r:zx xs ir):(!ir.toArray.isEmpty) = !xs.isEmpty:=by
 cases r <;> simp
theorem zcE:(sizeLine:Nat) < 2 ^ 63:=by rw [aM]; decide
theorem zm2:zoK X (fun x H Q=>∃ k,zoe X.K x H k∧Q k H):=by
 intro ip s σ H x v Q I rx h;obtain⟨k,e,q⟩:=h;have hl:=zcE;have hs:sizeLine=16777216:=aM;cases x with
 | non =>
  cases rx;have e':k=false:=e;subst e';exact truthy_none ⟨H,I,q⟩
 | bl b =>
  cases rx;have e':k=b:=e;subst e';exact bh ⟨H,I,q⟩
 | int i =>
  obtain⟨t,rfl⟩:=rx;have e':k=(i != 0):=e;subst e';exact PySem.P.truthy_int ⟨H,I,q⟩
 | str y =>
  obtain⟨t,rfl⟩:=rx;obtain⟨hy,e'⟩:y.length≤sizeLine∧k=((y.length:Int) != 0):=e;subst e';exact PySem.P.truthy_str #[O] ⟨H,I.tok _,q⟩
 | byt y =>
  obtain⟨t,rfl⟩:=rx;obtain⟨hy,e'⟩:y.size≤sizeLine∧k=((y.size:Int) != 0):=e;subst e';exact PySem.W.truthy_bytes #[O] ⟨H,I.tok _,q⟩
 | ref p =>
  cases rx;have e':(∃ xs,iw X.K H p xs∧k = !xs.isEmpty)∨(∃ xs,iI X.K H p xs∧k = !xs.isEmpty)∨∃ iX,H p=some (.dK iX)∧k = !iX.isEmpty:=e;rcases e' with ⟨xs,hx,e'⟩ | ⟨xs,hx,e'⟩ | ⟨iX,hx,e'⟩
  ·subst e';obtain⟨ir,r,pl,hz⟩:=I.list hx;have iJ:=r.length;exact wpAny_truthy_list pl.isList (by simp only [aj]; lia) ⟨H,I.tok _,by rw [zdM r]; exact q⟩
  ·subst e';obtain⟨ir,r,pl,hz⟩:=I.tuple hx;have iJ:=r.length;exact truthy_tuple pl (by simp only [aj]; lia) ⟨H,I.tok _,by rw [zdM r]; exact q⟩
  ·subst e';obtain⟨hz,hS,vs,r,m⟩:iX.length≤sizeLine∧(p == sysModules)=false∧∃ vs,KV iX vs∧s.heap.DictOf (zaI X.prog X.w) p vs:=I.hok p _ hx;have iJ:iX.length=vs.length:=hX r;exact wpAny_truthy_dict hS m #[O] ⟨H,I.tok _,by rw [zgP r]; exact q⟩
 | _=>exact (show False from e).elim
theorem zfZ (ha:PE X a ta) (he:∀ whole,isTrue a X.env whole=(do let v ← whole; standAt a.pos; holding [v] (truthy v))) :
  PT X a (fun σ H Q=>ta σ H fun x H'=>∃ k,zoe X.K x H' k∧Q k H'):=by
 intro ip s σ H Q I h;exact isTrue_plain (thn (ha ip s σ H _ I h) fun v s1 ⟨x,H1,I1,r1,q1⟩=>zm2 ip s1 σ H1 x v Q I1 r1 q1) (he _)
theorem vals1 {x:V} {us:List Value} (r:zx [x] us):∃ u,us = [u]∧RelV x u:=by
 cases r with
 | cons r1 r2=>cases r2; exact⟨_,rfl,r1⟩
theorem vals2 {x y:V} {us:List Value} (r:zx [x,y] us):∃ u w',us = [u,w']∧RelV x u∧RelV y w':=by
 cases r with
 | cons r1 r2 =>
  cases r2 with
  | cons r3 r4=>cases r4; exact⟨_,_,rfl,r1,r3⟩
theorem zeI (hc:X.calm=true):zba X (.builtin "min") (fun xs H Q=>∃ i j,xs = [.int i,.int j]∧Q (.int (if j < i then j else i)) H):=by
 intro ip s σ H xs us Q I r h;obtain⟨i,j,rfl,q⟩:=h;obtain⟨u,w',rfl,⟨t,rfl⟩,⟨t',rfl⟩⟩:=vals2 r;refine min_two_ints (I.ok.hd hc) fun h' tk k=>⟨_,H,I.kept k,?_,q⟩
 by_cases hj:j < i
 ·rw [if_pos hj,if_pos hj]; exact⟨_,rfl⟩
 ·rw [if_neg hj,if_neg hj]; exact⟨_,rfl⟩
end
structure ObjM (h:Heap) (x dx C:Addr) (mA:Str→Option Value):Prop where
 obj:h.get? x=some (bN C dx)
 ns:h.Ns1 dx mA
 ne:dx≠x
theorem zhW {h:Heap} {dx:Addr} {mA:Str→Option Value} (n:h.Ns1 dx mA):∃ od,h.get? dx=some od∧∀ name,dH name od=some (mA name):=by
 obtain⟨o,es,ep,ho,hd,hk,_,hm⟩:=n;refine⟨o,ho,fun name=>?_⟩;have e:=hm name;unfold nsFind findBy at e;rw [← Array.find?_toList] at e;unfold dH;rw [hd];dsimp only;split
 ·rename_i y q
  rw [q] at e;exact congrArg some e
 ·rename_i q
  rw [q] at e;have a:es.toList.any (·.refKey)=false:=by
   rw [List.any_eq_false];intro y hy;obtain⟨z,t,rh⟩:=hk y (fw.mp hy);simp [DictEntry.refKey,rh]
  have a':¬ es.toList.any (·.refKey)=true:=by rw [a]; exact ay
  rw [if_neg a'];exact congrArg some e
theorem ObjM.look {h:Heap} {x dx C:Addr} {mA:Str→Option Value} (I:ObjM h x dx C mA):∃ od,PySem.W.InstAt h x (bN C dx) C (some od)∧∀ name,dH name od=some (mA name) :=
 let ⟨od,ho,hl⟩:=zhW I.ns
 ⟨od,⟨I.obj,rfl,rfl,ho⟩,hl⟩
section
variable {prog:Program} {w:World} {A:Around} {E:Value→Shared→Prop} {s:Shared} {K:af} {x dx C f:Addr} {mA:Str→Option Value} {name:Str} {v:Value}
theorem zlm {expr:Bool} {Q:Value→Shared→Prop} (X:K.In s.heap) (I:ObjM s.heap x dx C mA) (hg:dg K C name=true) (hh:ej K C=true)
  (ha:aG K (.ref C) name=some none) (hv:mA name=some v) (hv':gz v=true) (h:Q v { s with toks:=s.toks+1 }) :
  wpAny (model prog w) A (getAttr (.ref x) name expr) Q E s:=by
 obtain⟨od,J,hl⟩:=I.look;exact PySem.W.get_value X J (dF hg).1 (PySem.W.findObj_own hh ha rfl (by rw [hl,hv])) hv' h
theorem zjd {pl:Sem Bool} {Q:Value×List Value→Shared→Prop} (X:K.In s.heap) (I:ObjM s.heap x dx C mA) (hg:dg K C name=true)
  (hf:aG K (.ref C) name=some (some (.ref f))) (ht:fW K (.ref f)=true) (hv:mA name=none) (h:Q (.ref f,[.ref x]) s) :
  wpAny (model prog w) A (getMethod (.ref x) name pl) Q E s:=by
 obtain⟨od,J,hl⟩:=I.look;exact PySem.W.method_fn X J (dF hg).1 (dF hg).2 hf (beq_iff_eq.mp ht) (by show (dH name od).map (·.isSome)=some false; rw [hl,hv]; rfl) h
theorem zln {ns:List Str} {Q:Unit→Shared→Prop} (X:K.In s.heap) (I:ObjM s.heap x dx C mA)
  (hs:aG K (.ref C) "__setattr__" = some (some (.builtin "object.__setattr__"))) (hp:gh K C=true) (ht:eR K C name=some none) (hh:ej K C=true)
  (hw:fU mA ns) (hsz:ns.length≤sizeLine)
  (h:∀ h',ObjM h' x dx C (fun y=>if y=name then some v else mA y)→aR dx s.heap h'→Q () { s with heap:=h',toks:=s.toks+2 }) :
  wpAny (model prog w) A (setAttr (.ref x) name v) Q E s:=by
 obtain⟨od,J,hl⟩:=I.look;refine PySem.W.set_plain X J hs (PySem.W.osa_open (s:={ s with toks:=s.toks+1 }) (r:=none) X J hp ht fun b=>?_);obtain⟨cd,hc,lQ⟩:=PySem.W.any_some hh;have hx:s.heap.get? x=some ⟨.ref C,some dx,.plain,#[]⟩:=I.obj;refine ag (al (ag (ag (wpAny_loadPart hx (ag (PySem.W.Looks.here (s:={ s with toks:=s.toks+1 }) (PySem.W.looks_clsIn X hc) ?_))))));rw [lQ];refine al (a:=some dx) (ag (al (ag ?_)));refine wpAny_nsSet1 (s:={ s with toks:=s.toks+1 }) I.ns fun h' oJ mL=>?_
 obtain⟨oD,esD,epD,hoD,hdD,hcD⟩:=oJ.count (PySem.Within.cons name v hw);refine ag (wpAny_lookBehind hoD (by rw [hdD]; exact pastItsLine_dict (aZ hcD (by rw [aN]; lia))) ?_);exact al (h _ ⟨(mL.2 _ (bL I.ne)).trans I.obj,oJ,I.ne⟩ mL)
theorem zje {R:Result→Shared→Prop} {vs:List Value} {kw:List (Str×Value)} (X:K.In s.heap) (hm:gM K C=true)
  (hi:aG K (.ref C) "__init__" = some (some (.ref f))) (hf:PySem.W.typeIn K (.ref f)=some (.type "function"))
  (h:codeAny (model prog w) (A.under (.builtin "type.__call__" ⟨.ref C :: vs,kw⟩)) (.call (.ref f) ⟨.ref (s.heap.objs.size+1) :: vs,kw⟩) (PySem.W.InitBack (s.heap.objs.size+1) R)
   { s with heap:=(s.heap.push br).push (bN C s.heap.objs.size) }) :
  codeAny (model prog w) A (.call (.ref C) ⟨vs,kw⟩) R s:=by
 obtain⟨hh,g,d,t,os⟩:=s;exact PySem.W.make_core (PySem.W.makes_of X hm) (dy X hi) (fun self=>PySem.W.bind_fn X self hf) (.inl rfl) h
end
def zao (f:Str) (v:V):List (Str×V)→List (Str×V)
 | []=>[(f,v)]
 | (g,x) :: r=>if g=f then (g,v) :: r else (g,x) :: zao f v r
theorem zdm (f g:Str) (v:V):∀ fs:List (Str×V),(zao f v fs).lookup g=if g=f then some v else fs.lookup g
 | []=>by
  show bH g [(f,v)]=_;by_cases h:g=f
  ·have hb:(g == f)=true:=beq_iff_eq.mpr h;simp only [bH,hb,if_pos h]
  ·have hb:(g == f)=false:=beq_eq_false_iff_ne.mpr h;simp only [bH,hb,if_neg h]
 | (k,x) :: r=>by
  have ih:=zdm f g v r;rw [show zao f v ((k,x) :: r)=(if k=f then (k,v) :: r else (k,x) :: zao f v r) from rfl];by_cases hk:k=f
  ·rw [if_pos hk];by_cases h:g=k
   ·have hb:(g == k)=true:=beq_iff_eq.mpr h;simp only [bH,hb,if_pos (h.trans hk)]
   ·have hb:(g == k)=false:=beq_eq_false_iff_ne.mpr h;simp only [bH,hb,if_neg (fun e:g=f=>h (e.trans hk.symm))]
  ·rw [if_neg hk];by_cases h:g=k
   ·have hb:(g == k)=true:=beq_iff_eq.mpr h;simp only [bH,hb,if_neg (fun e:g=f=>hk (h.symm.trans e))]
   ·have hb:(g == k)=false:=beq_eq_false_iff_ne.mpr h;simp only [bH,hb];exact ih
theorem zc7 (f:Str) (v:V):∀ fs:List (Str×V),f∈(zao f v fs).map (·.1)∧∀ g,g∈fs.map (·.1)→g∈(zao f v fs).map (·.1)
 | []=>⟨by simp [zao],fun g h=>by simp at h⟩
 | (k,x) :: r=>by
  obtain⟨i1,i2⟩:=zc7 f v r;rw [show zao f v ((k,x) :: r)=(if k=f then (k,v) :: r else (k,x) :: zao f v r) from rfl];by_cases hk:k=f
  ·rw [if_pos hk];subst hk;exact⟨#[M],fun g h=>by simpa using h⟩
  ·rw [if_neg hk];refine⟨?_,fun g h=>?_⟩
   ·rw [bp];exact aI _ i1
   ·rw [bp] at h ⊢;rcases am.mp h with e | e
    ·exact am.mpr (.inl e)
    ·exact aI _ (i2 g e)
theorem zdn (f:Str) (v:V):∀ fs:List (Str×V),(zao f v fs).length≤fs.length+1
 | []=>by simp [zao]
 | (k,x) :: r=>by
  have ih:=zdn f v r;rw [show zao f v ((k,x) :: r)=(if k=f then (k,v) :: r else (k,x) :: zao f v r) from rfl];by_cases hk:k=f
  ·rw [if_pos hk,aN,aN]; lia
  ·rw [if_neg hk,aN,aN]; lia
theorem zem.some_of {v:V} {o:Option Value} (r:zem (some v) o):∃ u,o=some u∧RelV v u:=by
 cases o with
 | none=>exact (show False from r).elim
 | some u=>exact⟨u,rfl,r⟩
theorem zem.none_of {o:Option Value} (r:zem none o):o=none:=by
 cases o with
 | none=>rfl
 | some u=>exact (show False from r).elim
theorem zhX {v:V} {u:Value} (r:RelV v u):gz u=true:=by
 cases v with
 | non=>cases (show u=bU from r); rfl
 | bl b=>cases (show u=cn b from r); rfl
 | int i=>obtain⟨t,e⟩:=(show ∃ t,u=eP i t from r); cases e; rfl
 | str x=>obtain⟨t,e⟩:=(show ∃ t,u=dj x t from r); cases e; rfl
 | byt b=>obtain⟨t,e⟩:=(show ∃ t,u=Value.bytes b t from r); cases e; rfl
 | flt b=>obtain⟨t,e⟩:=(show ∃ t,u=gu b t from r); cases e; rfl
 | ref a=>cases (show u=aL a from r); rfl
 | ty n=>cases (show u=dv n from r); rfl
section
variable {P:Program} {w:World} {H H':Hp} {h h':Heap} {a C dx:Addr} {fs fs':List (Str×V)}
theorem zdF (hok:HOk P w H h) (e:H a=some (.ins C dx fs)):∃ mA,ObjM h a dx C mA∧(∀ f,zem (fs.lookup f) (mA f))∧fU mA (fs.map (·.1))∧fs.length≤1000∧H dx=some (.own a):=by
 obtain⟨d,z,ne,ob,mA,n,r,q⟩:=(show zal P w H h a (.ins C dx fs) from hok a _ e);exact⟨mA,⟨ob,n,ne⟩,r,q,z,d⟩
end
structure Cls (K:af) (C:Addr):Prop where
 pg:dg K C hU=true
 hd:ej K C=true
 po:gh K C=true
 sa:aG K (.ref C) "__setattr__" = some (some (.builtin "object.__setattr__"))
theorem Cls.get {K:af} {C:Addr} (c:Cls K C) (f:Str):dg K C f=true:=c.pg
def za9 (K:af) (C:Addr) (f:Str):Prop:=aG K (.ref C) f=some none
theorem za9.taker {K:af} {C:Addr} {f:Str} (n:za9 K C f):eR K C f=some none:=by
 unfold eR;rw [show aG K (.ref C) f=some none from n];rfl
structure Meth (K:af) (C:Addr) (m:Str) (f:Addr):Prop where
 at_:aG K (.ref C) m=some (some (.ref f))
 fn:fW K (.ref f)=true
 kp:bC K (.ref f)=true
section
variable {X:Cx} {ip:List (Addr×Obj)} {σ:St} {H:Hp} {s:Shared} {a C dx:Addr} {fs:List (Str×V)} {f:Str} {v:V} {A:Around} {E:Value→Shared→Prop}
theorem zgQ {b:Bool} {Q:Value→Shared→Prop} (I:Inv X ip σ H s) (e:H a=some (.ins C dx fs)) (c:Cls X.K C) (n:za9 X.K C f) (l:fs.lookup f=some v)
  (h:∀ u s',Inv X ip σ H s'→RelV v u→Q u s'):wpAny (model X.prog X.w) A (getAttr (.ref a) f b) Q E s:=by
 obtain⟨mA,O,r,_,_,_⟩:=zdF I.hok e;obtain⟨u,hu,ru⟩:=zem.some_of (v:=v) (o:=mA f) (by rw [← l]; exact r f);exact zlm I.kIn O (c.get f) c.hd n hu (zhX ru) (h u _ (I.tok _) ru)
theorem zcF {m:Str} {g:Addr} {pl:Sem Bool} {Q:Value×List Value→Shared→Prop} (I:Inv X ip σ H s) (e:H a=some (.ins C dx fs)) (c:Cls X.K C) (k:Meth X.K C m g) (l:fs.lookup m=none)
  (h:Q (.ref g,[.ref a]) s):wpAny (model X.prog X.w) A (getMethod (.ref a) m pl) Q E s:=by
 obtain⟨mA,O,r,_,_,_⟩:=zdF I.hok e;have hn:mA m=none:=zem.none_of (by rw [← l]; exact r m);exact zjd I.kIn O (c.get m) k.at_ k.fn hn h
theorem zgR {y:V} {u:Value} {Q:Unit→Shared→Prop} (I:Inv X ip σ H s) (e:H a=some (.ins C dx fs)) (c:Cls X.K C) (n:za9 X.K C f) (hl:fs.length < 1000) (ry:RelV y u)
  (h:∀ s',Inv X ip σ (upd H a (.ins C dx (zao f y fs))) s'→Q () s'):wpAny (model X.prog X.w) A (setAttr (.ref a) f u) Q E s:=by
 obtain⟨mA,O,r,wi,_,ho⟩:=zdF I.hok e;have hz:(fs.map (·.1)).length≤sizeLine:=by rw [ah,aM]; lia
 refine zln I.kIn O c.sa c.po n.taker c.hd wi hz fun h' O' sb=>h _ ?_
 have hd:∃ o,h'.get? dx=some o:=let ⟨o,_,_,e',_⟩:=O'.ns; ⟨o,e'⟩
 refine I.write (x:=a) (e:=dx) (by rw [e]; exact cY) (.inr ho) (fun b q hb z=>(sb.2 b hb).trans z) hd ?_;refine⟨by rw [zc O.ne]; exact ho,?_,O.ne,O'.obj,_,O'.ns,fun g=>?_,fun g hg=>?_⟩
 ·have:=zdn f y fs; lia
 ·show zem ((zao f y fs).lookup g) (if g=f then some u else mA g);rw [zdm];by_cases q:g=f
  ·rw [if_pos q,if_pos q]; exact ry
  ·rw [if_neg q,if_neg q]; exact r g
 ·by_cases q:g=f
  ·rw [q]; exact (zc7 f y fs).1
  ·refine (zc7 f y fs).2 g (wi g fun z=>hg ?_);show (if g=f then some u else mA g)=none;rw [if_neg q]; exact z
theorem Inv.made (I:Inv X ip σ H s):Inv X ip σ (upd (upd H s.heap.objs.size (.own (s.heap.objs.size+1))) (s.heap.objs.size+1) (.ins C s.heap.objs.size []))
  { s with heap:=(s.heap.push br).push (bN C s.heap.objs.size) }:=by
 have e1:(s.heap.push br).get? s.heap.objs.size=some br:=au s.heap rfl;have e2:((s.heap.push br).push (bN C s.heap.objs.size)).get? (s.heap.objs.size+1)=some (bN C s.heap.objs.size):=by
  have:=au (s.heap.push br) (o:=bN C s.heap.objs.size) rfl
  rwa [aD] at this
 have e3:(s.heap.push br).Ns s.heap.objs.size (fun _=>none):=⟨br,#[],_,e1,rfl,(fun e he=>absurd he #[M]),fun _=>rfl⟩;have I1:=I.laid (a:=s.heap.objs.size) (o:=.own (s.heap.objs.size+1)) (h':=s.heap.push br) (t':=s.toks) (fun b u q=>ai _ q) (ak _) ⟨_,e1⟩;refine I1.laid (a:=s.heap.objs.size+1) (o:=.ins C s.heap.objs.size []) (t':=s.toks) (fun b u q=>ai _ q) (Nat.le_of_eq (aD _ _)) ?_;have ne:s.heap.objs.size≠s.heap.objs.size+1:=aA (cz _);refine⟨by rw [zc ne,zb],cc _,ne,e2,fun _=>none,(Heap.Ns1.of_empty e3).at fun o q=>ai _ q,fun _=>cY,fun y hy=>absurd rfl hy⟩
theorem zlo {prog:Program} {w:World} {env:Env} {e:Expr} {f:Str} {pos:Pos} {s:Shared} {Q:Value→Shared→Prop} (hb:attributeBase e f env (eval e env)=eval e env)
  (h:wpAny (model prog w) A (eval e env) (fun o s₁=>wpAny (model prog w) A (getAttr o f true) Q E s₁) E s):wpAny (model prog w) A (eval (.Attribute e f pos) env) Q E s :=
 Attribute_any_ h (by rw [arm_eval_Attribute,hb])
end
def zoN (K:af) (ta:TE) (f:Str):TE:=fun σ H Q=>ta σ H fun x H1=>∃ a C dx fs v,x = .ref a∧H1 a=some (.ins C dx fs)∧Cls K C∧za9 K C f∧fs.lookup f=some v∧Q v H1
def zoO (K:af) (ta tv:TE) (f:Str):TS:=fun D σ H=>tv σ H fun y H1=>ta σ H1 fun x H2=>∃ a C dx fs,x = .ref a∧H2 a=some (.ins C dx fs)∧Cls K C∧za9 K C f∧fs.length < 1000 ∧
 D.nx σ (upd H2 a (.ins C dx (zao f y fs)))
section
variable {X:Cx} {o e value:Expr} {f:Str} {pos pos' mR:Pos} {ta tv:TE}
theorem zU (he:PE X e ta) (hb:attributeBase e f X.env (eval e X.env)=eval e X.env):PE X (.Attribute e f pos) (zoN X.K ta f):=by
 intro ip s σ H Q I h;refine zlo hb (thn (he ip s σ H _ I h) fun u s1 ⟨x,H1,I1,rx,a,C,dx,fs,v,ex,ea,c,n,l,q⟩=>?_);subst ex;obtain rfl:u=aL a:=rx;exact zgQ I1 ea c n l fun u' s2 I2 ru=>⟨v,H1,I2,ru,q⟩
theorem zb3 (ha:PE X o ta) (hv:PE X value tv) (hs:swapsWith value (some (.Attribute o f pos')) pos.line X.env=pure false):PS X (.Assign [.Attribute o f pos'] value pos) (zoO X.K ta tv f):=by
 intro ip s σ H D I h;refine plainObj_wpAny_Assign_Attribute (thn (hv ip s σ H _ I h) fun u s1 ⟨y,H1,I1,ry,q⟩=>thn (ha ip s1 σ H1 _ I1 q) fun ov s2 ⟨x,H2,I2,rx,a,C,dx,fs,ex,ea,c,n,l,q2⟩=>?_) hs;subst ex;obtain rfl:ov=aL a:=rx;exact zgR I2 ea c n l ry fun s3 I3=>⟨σ,_,I3,q2⟩
end
section
variable {X:Cx} {ip:List (Addr×Obj)} {σ:St} {H:Hp} {s:Shared} {A:Around} {E:Value→Shared→Prop} {Q:Value→Shared→Prop} {c:Value} {b:Bool}
inductive TyOf (K:af) (H:Hp):V→Value→Prop where
 | non:TyOf K H .non (.type "NoneType")
 | bl (x:Bool):TyOf K H (.bl x) (.type "bool")
 | int (i:Int):TyOf K H (.int i) (.type "int")
 | str (x:Str):TyOf K H (.str x) (.type "str")
 | flt (x:UInt64):TyOf K H (.flt x) (.type "float")
 | lst {a:Addr} {xs:List V} (e:H a=some (.lst xs)):TyOf K H (.ref a) (.type "list")
 | frz {a:Addr} {o:Obj} {xs:List V} (e:H a=some (.frz o (.lst xs))):TyOf K H (.ref a) (.type "list")
 | tup {a:Addr} {xs:List V} (e:H a=some (.tup xs)):TyOf K H (.ref a) (.type "tuple")
 | dK {a:Addr} {iX:List (Key×V)} (e:H a=some (.dK iX)):TyOf K H (.ref a) (.type "dict")
 | dT {a:Addr} {iX:List (List Key×V)} (e:H a=some (.dT iX)):TyOf K H (.ref a) (.type "dict")
 | ins {a C dx:Addr} {fs:List (Str×V)} (e:H a=some (.ins C dx fs)) (cl:Cls K C) (ha:aG K (.ref C) "__class__" = some (some (.builtin "object.__class__")))
   (hn:PySem.W.specialIn K (.builtin "object.__class__") "__get__" = some (some (.builtin "getset_descriptor.__get__"))) (htk:PySem.W.takesIn K (.builtin "object.__class__")=some true)
   (hm:bq K C (.type "object")=some true):TyOf K H (.ref a) (.ref C)
theorem zhY {x:V} {u t:Value} (I:Inv X ip σ H s) (rx:RelV x u) (ty:TyOf X.K H x t) (e:aP X.K t c=some b) (h:∀ tk,Q (.bool b) { s with toks:=tk }) :
  wpAny (model X.prog X.w) A (call (.builtin "isinstance") [u,c]) Q E s:=by
 cases ty with
 | non=>cases (show u=bU from rx); exact aY PySem.W.kitx_none I.kIn cY e (fun z=>nomatch z) h
 | bl y=>cases (show u=cn y from rx); exact aY PySem.W.kitx_bool I.kIn cY e (fun z=>nomatch z) h
 | int i=>obtain⟨t,q⟩:=(show ∃ t,u=eP i t from rx); cases q; exact aY PySem.W.kitx_int I.kIn cY e (fun z=>nomatch z) h
 | str y=>obtain⟨t,q⟩:=(show ∃ t,u=dj y t from rx); cases q; exact aY PySem.W.kitx_str I.kIn cY e (fun z=>nomatch z) h
 | flt y=>obtain⟨t,q⟩:=(show ∃ t,u=gu y t from rx); cases q; exact aY PySem.W.kitx_float I.kIn cY e (fun z=>nomatch z) h
 | @lst a xs ea =>
  cases (show u=aL a from rx);obtain⟨_,_,n,_,h1⟩:=(show zal X.prog X.w H s.heap a (.lst xs) from I.hok a _ ea);exact aY gi I.kIn ⟨_,h1,rfl⟩ e (fun z=>nomatch z) h
 | @frz a ob xs ea =>
  cases (show u=aL a from rx);obtain⟨_,_,_,n,_,h1⟩:=(show zal X.prog X.w H s.heap a (.frz ob (.lst xs)) from I.hok a _ ea);exact aY gi I.kIn ⟨_,h1,rfl⟩ e (fun z=>nomatch z) h
 | @tup a xs ea =>
  cases (show u=aL a from rx);obtain⟨_,_,_,p⟩:=(show zal X.prog X.w H s.heap a (.tup xs) from I.hok a _ ea);obtain⟨o,h1,h2,_⟩:=p;exact aY PySem.W.kitx_tuple I.kIn ⟨o,h1,h2⟩ e (fun z=>nomatch z) h
 | @dK a iX ea =>
  cases (show u=aL a from rx);obtain⟨_,_,vs,_,p⟩:=(show zal X.prog X.w H s.heap a (.dK iX) from I.hok a _ ea);obtain⟨o,es,ep,h1,h2,_⟩:=p;exact aY gj I.kIn ⟨o,h1,h2.1⟩ e (fun z=>nomatch z) h
 | @dT a iX ea =>
  cases (show u=aL a from rx);obtain⟨_,_,xs,_,o,es,ep,h1,h2,_⟩:=(show zal X.prog X.w H s.heap a (.dT iX) from I.hok a _ ea);exact aY gj I.kIn ⟨o,h1,h2.1⟩ e (fun z=>nomatch z) h
 | @ins a C dx fs ea cl ha hn htk hm =>
  cases (show u=aL a from rx);obtain⟨mA,O,_⟩:=zdF I.hok ea;obtain⟨od,J,_⟩:=O.look;exact aY (PySem.W.kitx_own (cl.get _) cl.hd ha hn htk hm) I.kIn J e (fun z=>nomatch z) h
end
structure Room (k:Nat) (A:Around):Prop where
 hd:A.handled=none
 dp:A.depth+3*k+5 < recursionLimit
 un:A.units+16*k+200 < cLine
theorem Room.mono {j k:Nat} {A:Around} (r:Room k A) (h:j≤k):Room j A:=⟨r.hd,by have:=r.dp; lia,by have:=r.un; lia⟩
theorem Room.deeper {k:Nat} {A:Around} (r:Room (k+1) A) (env:Env):Room k (A.deeper env) :=
 ⟨r.hd,by have:=r.dp; show A.depth+1+3*k+5 < _; lia,by have:=r.un; show A.units+3+16*k+200 < _; lia⟩
theorem zgS {A:Around} {C:Addr} {us:List Value} {kw:List (Str×Value)}:(A.under (.builtin "type.__call__" ⟨.ref C :: us,kw⟩)).depth=A.depth+1:=by
 first | rfl | simp [fX,Code.weight,Code.isCreation,Code.isGuard,Code.isCaller,Code.frames,fY,guardIds]
theorem zgT {A:Around} {C:Addr} {us:List Value} {kw:List (Str×Value)}:(A.under (.builtin "type.__call__" ⟨.ref C :: us,kw⟩)).units=A.units+1:=by
 first | rfl | simp [fX,Code.cUnits,Code.frames,fY]
theorem Room.make {k:Nat} {A:Around} (r:Room (k+1) A) (C:Addr) (us:List Value) (kw:List (Str×Value)):Room k (A.under (.builtin "type.__call__" ⟨.ref C :: us,kw⟩)) :=
 ⟨r.hd,by have:=r.dp; rw [zgS]; lia,by have:=r.un; rw [zgT]; lia⟩
theorem Room.depth {k:Nat} {A:Around} (r:Room k A):A.depth < recursionLimit:=by have:=r.dp; lia
theorem Room.units {k:Nat} {A:Around} (r:Room k A):A.units+64 < cLine:=by have:=r.un; lia
def zhZ:TA:=fun _ H Q=>Q [] H
def zhF (ta:TE) (tr:TA):TA:=fun σ H Q=>ta σ H fun x H1=>tr σ H1 fun xs H2=>Q (x :: xs) H2
section
variable {X:Cx} {e:Expr} {es:List Expr} {te:TE} {t:TA} {pos:Pos}
theorem zd:PA X [] zhZ:=fun _ _ _ _ H Q I h=>Calls.spliced_nil ⟨[],H,I,.nil,h⟩
theorem za (ha:PE X e te) (hr:PA X es t) (hs:starEach (e :: es) X.env=(false,eval e X.env) :: starEach es X.env:=by rfl):PA X (e :: es) (zhF te t):=by
 intro pos ip s σ H Q I h;rw [hs];show wpAny _ _ (spliced ((false,eval e X.env) :: backTo pos (starEach es X.env))) _ _ s;refine Calls.spliced_cons (thn (ha ip s σ H _ I h) fun u s1 ⟨x,H1,I1,r1,q1⟩=>?_);exact thn (hr pos ip s1 σ H1 _ I1 q1) fun us s2 ⟨xs,H2,I2,r2,q2⟩=>⟨x :: xs,H2,I2,.cons r1 r2,q2⟩
theorem ya {X:Cx} {e:Expr} {te:TE} (a:PE X e te) (b:starEach [e] X.env=(false,eval e X.env) :: starEach [] X.env):PA X [e] (zhF te zhZ):=za a zd b
def zoP (t:TA):TE:=fun σ H Q=>t σ H fun xs H1=>xs.length≤sizeLine∧∀ p,H1 p=none→Q (.ref p) (upd H1 p (.tup xs))
def zgU (t:TA):TE:=fun σ H Q=>t σ H fun xs H1=>xs.length≤sizeLine∧∀ p,H1 p=none→Q (.ref p) (upd H1 p (.lst xs))
theorem zaL {x1} (h:PA X es t):PE X (.Tuple es x1 pos) (zoP t):=by
 intro ip s σ H Q I hq;refine wpAny_Tuple_spliced (thn (h pos ip s σ H _ I hq) fun us s1 ⟨xs,H1,I1,r,z,q⟩=>⟨by rw [← r.length]; exact z,?_⟩);have hf:H1 s1.heap.objs.size=none:=I1.hok.fresh (ak _);refine⟨.ref s1.heap.objs.size,upd H1 s1.heap.objs.size (.tup xs),I1.laid (t':=s1.toks) (fun b u e=>ai _ e) (ak _) ?_,rfl,q _ hf⟩;exact⟨z,us,r,⟨_,au _ rfl,rfl,_,rfl⟩⟩
theorem zaa (h:PA X es t):PE X (.List es pos) (zgU t):=by
 intro ip s σ H Q I hq;refine wpAny_List_spliced (thn (h pos ip s σ H _ I hq) fun us s1 ⟨xs,H1,I1,r,z,q⟩=>⟨by rw [← r.length]; exact z,?_⟩);have hf:H1 s1.heap.objs.size=none:=I1.hok.fresh (ak _);refine⟨.ref s1.heap.objs.size,upd H1 s1.heap.objs.size (.lst xs),I1.laid (t':=s1.toks) (fun b u e=>ai _ e) (ak _) ?_,rfl,q _ hf⟩;exact⟨z,us,0,r,au _ rfl⟩
end
abbrev Sp:=List V→Hp→VK→XK→Prop
abbrev CXT:=List Env→Hp→Shared→XK→Value→Shared→Prop
structure Env0 (P:Program) (w:World) (K:af) (mg:Str→Option Value) (base:Heap) (A:Around) (outer:List Env) (s:Shared) (H:Hp):Prop where
 frames:A.frames=some outer
 mod:Mod K mg base
 bs:∀ b o,base.get? b=some o→s.heap.get? b=some o∧H b=none
 bsz:base.objs.size≤s.heap.objs.size
 funs:s.heap.FunFrames base outer
 frf:∀ b∈frs outer,H b=none
 hok:HOk P w H s.heap
 bare:AllBare s.gens
def CE (outer:List Env) (P:Program) (w:World) (H:Hp) (s:Shared) (Q:VK) (u:Value) (s':Shared):Prop :=
 ∃ v H',s'.os=s.os∧AllBare s'.gens∧Un (frs outer) [] H H' s.heap s'.heap∧HOk P w H' s'.heap∧RelV v u∧Q v H'
def CR (CX:CXT) (outer:List Env) (P:Program) (w:World) (H:Hp) (s:Shared) (Q:VK) (E:XK) (r:Result) (s':Shared):Prop :=
 match r with
 | .ok (.ret u)=>CE outer P w H s Q u s'
 | .ok _=>False
 | .error e=>CX outer H s E e s'
structure FnOk (P:Program) (w:World) (K:af) (mg:Str→Option Value) (base:Heap) (CX:CXT) (k:Nat) (f:Addr) (fd:FuncData) (ps:List Str) (sp:Sp):Prop where
 len:∀ vs H Q E,sp vs H Q E→vs.length=ps.length
 run:∀ (A:Around) (outer:List Env) (s:Shared) (H:Hp) (args:Args) (us:List Value) (vs:List V) (Q:VK) (E:XK),Room k A→Env0 P w K mg base A outer s H→BindsTo s fd args (ps.zip us)→zx vs us→sp vs H Q E →
  codeAny (model P w) A (.call (.ref f) args) (CR CX outer P w H s Q E) s
theorem Env0.make {P:Program} {w:World} {K:af} {mg:Str→Option Value} {base:Heap} {A:Around} {outer:List Env} {s:Shared} {H:Hp} (e:Env0 P w K mg base A outer s H) (C:Addr) (us:List Value) (kw:List (Str×Value)) :
  Env0 P w K mg base (A.under (.builtin "type.__call__" ⟨.ref C :: us,kw⟩)) outer s H:=⟨by first | exact e.frames | (simpa [fX,Code.envs,fY,pushEnvs] using e.frames),e.mod,e.bs,e.bsz,e.funs,e.frf,e.hok,e.bare⟩
section
variable {X:Cx} {ip:List (Addr×Obj)} {σ:St} {H:Hp} {s s':Shared}
theorem Inv.env0 (I:Inv X ip σ H s):Env0 X.prog X.w X.K X.mg X.base X.A X.stack s H :=
 ⟨I.ok.frames,I.ok.mod,I.bs,aZ I.ok.bsz I.sz,I.stack,I.stkFree,I.hok,I.bare⟩
theorem Inv.after {Q:VK} {u:Value} (I:Inv X ip σ H s) (h:CE X.stack X.prog X.w H s Q u s'):EP X ip σ Q u s':=by
 obtain⟨v,H',os,bare,un,hok,r,q⟩:=h;obtain⟨hh,g,d,t,pf⟩:=s';obtain rfl:pf=s.os:=os;exact⟨v,H',I.call (h':=hh) (g':=g) (d':=d) (t':=t) (ch:=[]) un hok bare (fun b z=>absurd z #[M]),r,q⟩
end
def zhG (sp:Sp) (jh:List V) (E:XK) (t:TA):TE:=fun σ H Q=>t σ H fun vs H1=>sp (vs++jh) H1 Q E
def zjf (C:Addr) (m:Str) (sp:Sp) (jh:List V) (E:XK) (ta:TE) (t:TA):TE:=fun σ H Q=>ta σ H fun x H1=>∃ a dx fs,x = .ref a∧H1 a=some (.ins C dx fs)∧fs.lookup m=none ∧
 t σ H1 fun vs H2=>sp (x :: (vs++jh)) H2 Q E
def zmK (C:Addr) (sp:Sp) (jh:List V) (E:XK) (t:TA):TE:=fun σ H Q=>t σ H fun vs H1=>∀ x dx,H1 x=none→H1 dx=none→dx≠x →
 sp (.ref x :: (vs++jh)) (upd (upd H1 dx (.own x)) x (.ins C dx [])) (fun v H2=>v = .non∧Q (.ref x) H2) E
def Binds (K:af) (fd:FuncData) (ps:List Str) (ds:List Value):Prop :=
 ∀ (s:Shared) (us:List Value),K.In s.heap→(us++ds).length=ps.length→BindsTo s fd ⟨us,[]⟩ (ps.zip (us++ds))
theorem Binds.all {K:af} {fd:FuncData} {ps:List Str} (h:∀ us:List Value,us.length=ps.length→bindArgs fd ⟨us,[]⟩=pure (ps.zip us)):Binds K fd ps []:=fun s us _ hl=>by
 rw [gN] at hl ⊢;exact .of_eq (h us hl)
def zbh (CX:CXT) (X:Cx) (E:XK):Prop:=∀ (ip:List (Addr×Obj)) (σ:St) (H:Hp) (s:Shared) (e:Value) (s':Shared),Inv X ip σ H s→CX X.stack H s E e s'→X.xe e s'
section
variable {X:Cx} {CX:CXT} {k:Nat} {f C:Addr} {fd:FuncData} {ps:List Str} {sp:Sp} {jh:List V} {ds:List Value} {E:XK} {x m:Str} {p pos apos:Pos} {e o:Expr} {es:List Expr} {ta:TE} {t:TA}
theorem zfa {ip:List (Addr×Obj)} {σ:St} {H:Hp} {s:Shared} {Q:VK} {us:List Value} {vs:List V} (F:FnOk X.prog X.w X.K X.mg X.base CX k f fd ps sp) (hr:Room k X.A) (hb:Binds X.K fd ps ds) (hd:zx jh ds) (hx:zbh CX X E)
  (I:Inv X ip σ H s) (r:zx vs us) (h:sp (vs++jh) H Q E):wpAny (model X.prog X.w) X.A (call (.ref f) us) (EP X ip σ Q) X.xe s:=by
 have r2:zx (vs++jh) (us++ds):=r.append hd;have hl:(us++ds).length=ps.length:=by rw [← r2.length]; exact F.len _ _ _ _ h
 refine cA (bO (F.run X.A X.stack s H ⟨us,[]⟩ (us++ds) (vs++jh) Q E hr I.env0 (hb s us I.kIn hl) r2 h) fun r s' hq=>?_);cases r with
 | error e=>exact hx ip σ H s e s' I hq
 | ok fl =>
  cases fl with
  | ret u=>exact I.after hq
  | next=>exact aW hq
  | brk=>exact aW hq
  | cont=>exact aW hq
theorem zH (F:FnOk X.prog X.w X.K X.mg X.base CX k f fd ps sp) (hr:Room k X.A) (hg:Gl X x) (hm:X.mg x=some (.ref f)) (hk:bC X.K (.ref f)=true) (hb:Binds X.K fd ps ds) (hd:zx jh ds) (hx:zbh CX X E)
  (ha:PA X (e :: es) t) (kQ:(x == ("__debug__" : Str))=false:=by decide) (he:starEach (e :: es) X.env=(false,eval e X.env) :: starEach es X.env:=by rfl) (ju:(backTo pos (starEach es X.env)).any (·.1)=false:=by rfl) :
  PE X (.Call (.Name x p) (e :: es) [] pos) (zhG sp jh E t):=by
 intro ip s σ H Q I h;refine bn (zbc I hg hm ?_ kQ);refine bw (h₀:=X.base) I.ok.mod.kin hk (thn (ha pos ip s σ H _ I h) fun us s1 ⟨vs,H1,I1,r,q⟩=>⟨I1.kIn,?_⟩) he ju;exact zfa F hr hb hd hx I1 r q
theorem zbe {pl:Sem Bool} (he:PE X o ta) (c:Cls X.K C) (hm:Meth X.K C m f) (F:FnOk X.prog X.w X.K X.mg X.base CX k f fd ps sp) (hr:Room k X.A) (hb:Binds X.K fd ps ds) (hd:zx jh ds) (hx:zbh CX X E) (ha:PA X (e :: es) t)
  (j3:starEach (e :: es) X.env=(false,eval e X.env) :: starEach es X.env:=by rfl) (ju:(backTo pos (starEach es X.env)).any (·.1)=false:=by rfl)
  (ht:eval (.Call (.Attribute o m apos) (e :: es) [] pos) X.env=(do
   let ov ← eval o X.env
   standAt apos.atName
   let (f,first) ← holding [ov] (getMethod ov m pl)
   callWith pos f first (backTo pos (starEach (e :: es) X.env)) (backToKw pos (keywordEach [] X.env))):=by rfl) :
  PE X (.Call (.Attribute o m apos) (e :: es) [] pos) (zjf C m sp jh E ta t):=by
 intro ip s σ H Q I h;refine dk (pl:=pl) (thn (he ip s σ H _ I h) fun u s1 ⟨x,H1,I1,rx,a,dx,fs,ex,ea,l,q⟩=>?_) ht;subst ex;obtain rfl:u=aL a:=rx;refine zcF I1 ea c hm l ?_;refine bw (first:=[.ref a]) (h₀:=X.base) I.ok.mod.kin hm.kp (thn (ha pos ip s1 σ H1 _ I1 q) fun us s2 ⟨vs,H2,I2,r,q2⟩=>⟨I2.kIn,?_⟩) j3 ju;exact zfa (us:=.ref a :: us) (vs:=.ref a :: vs) F hr hb hd hx I2 (.cons rfl r) q2
theorem zb4 {pl:Sem Bool} (he:PE X o ta) (c:Cls X.K C) (hm:Meth X.K C m f) (F:FnOk X.prog X.w X.K X.mg X.base CX k f fd ps sp) (hr:Room k X.A) (hb:Binds X.K fd ps ds) (hd:zx jh ds) (hx:zbh CX X E)
  (ht:eval (.Call (.Attribute o m apos) [] [] pos) X.env=(do
   let ov ← eval o X.env
   standAt apos.atName
   let (f,first) ← holding [ov] (getMethod ov m pl)
   callWith pos f first (backTo pos (starEach [] X.env)) (backToKw pos (keywordEach [] X.env))):=by rfl) :
  PE X (.Call (.Attribute o m apos) [] [] pos) (zjf C m sp jh E ta zhZ):=by
 intro ip s σ H Q I h;refine dk (pl:=pl) (thn (he ip s σ H _ I h) fun u s1 ⟨x,H1,I1,rx,a,dx,fs,ex,ea,l,q⟩=>?_) ht;subst ex;obtain rfl:u=aL a:=rx;refine zcF I1 ea c hm l ?_;exact fK (first:=[.ref a]) I1.kIn hm.kp (zfa (us:=[.ref a]) (vs:=[.ref a]) F hr hb hd hx I1 (.cons rfl .nil) q)
structure Mk (K:af) (C f:Addr):Prop where
 makes:gM K C=true
 init:aG K (.ref C) "__init__" = some (some (.ref f))
 fn:fW K (.ref f)=true
 kp:bC K (.ref C)=true
theorem zf0 {ip:List (Addr×Obj)} {σ:St} {H:Hp} {s:Shared} {Q:VK} {us:List Value} {vs:List V} (M:Mk X.K C f) (F:FnOk X.prog X.w X.K X.mg X.base CX k f fd ps sp) (hr:Room (k+1) X.A) (hb:Binds X.K fd ps ds) (hd:zx jh ds)
  (hx:zbh CX X E) (I:Inv X ip σ H s) (r:zx vs us)
  (h:∀ x dx,H x=none→H dx=none→dx≠x→sp (.ref x :: (vs++jh)) (upd (upd H dx (.own x)) x (.ins C dx [])) (fun v H2=>v = .non∧Q (.ref x) H2) E) :
  wpAny (model X.prog X.w) X.A (call (.ref C) us) (EP X ip σ Q) X.xe s:=by
 have hq:=h (s.heap.objs.size+1) s.heap.objs.size (I.hok.fresh (Nat.le_succ _)) (I.hok.fresh (ak _)) (aA (cz _));have I2:=Inv.made (C:=C) I;have r2:zx (V.ref (s.heap.objs.size+1) :: (vs++jh)) (aL (s.heap.objs.size+1) :: (us++ds)):=.cons rfl (r.append hd);have hl:(aL (s.heap.objs.size+1) :: us++ds).length=ps.length:=by
  have e:=r2.length;rw [F.len _ _ _ _ hq] at e;exact e.symm
 refine cA (zje (f:=f) I.kIn M.makes M.init (beq_iff_eq.mp M.fn) (bO (F.run _ X.stack _ _ ⟨aL (s.heap.objs.size+1) :: us,[]⟩ (aL (s.heap.objs.size+1) :: (us++ds)) _ _ E (hr.make C us [])
  (I2.env0.make C us []) (hb _ (aL (s.heap.objs.size+1) :: us) I2.kIn hl) r2 hq) fun r s' ph=>?_))
 cases r with
 | error e=>exact hx ip σ _ _ e s' I2 ph
 | ok fl =>
  cases fl with
  | ret u =>
   obtain⟨v,H',I3,rv,ev,q3⟩:=I2.after ph;subst ev;exact⟨rv,⟨V.ref (s.heap.objs.size+1),H',I3,rfl,q3⟩⟩
  | next=>exact aW ph
  | brk=>exact aW ph
  | cont=>exact aW ph
theorem zfb (M:Mk X.K C f) (F:FnOk X.prog X.w X.K X.mg X.base CX k f fd ps sp) (hr:Room (k+1) X.A) (hg:Gl X x) (hm:X.mg x=some (.ref C)) (hb:Binds X.K fd ps ds) (hd:zx jh ds) (hx:zbh CX X E)
  (ha:PA X (e :: es) t) (kQ:(x == ("__debug__" : Str))=false:=by decide) (he:starEach (e :: es) X.env=(false,eval e X.env) :: starEach es X.env:=by rfl) (ju:(backTo pos (starEach es X.env)).any (·.1)=false:=by rfl) :
  PE X (.Call (.Name x p) (e :: es) [] pos) (zmK C sp jh E t):=by
 intro ip s σ H Q I h;refine bn (zbc I hg hm ?_ kQ);refine bw (h₀:=X.base) I.ok.mod.kin M.kp (thn (ha pos ip s σ H _ I h) fun us s1 ⟨vs,H1,I1,r,q⟩=>⟨I1.kIn,?_⟩) he ju;exact zf0 M F hr hb hd hx I1 r q
theorem zjg (M:Mk X.K C f) (F:FnOk X.prog X.w X.K X.mg X.base CX k f fd ps sp) (hr:Room (k+1) X.A) (hg:Gl X x) (hm:X.mg x=some (.ref C)) (hb:Binds X.K fd ps ds) (hd:zx jh ds) (hx:zbh CX X E)
  (kQ:(x == ("__debug__" : Str))=false:=by decide):PE X (.Call (.Name x p) [] [] pos) (zmK C sp jh E zhZ):=by
 intro ip s σ H Q I h;refine bn (zbc I hg hm ?_ kQ);exact fK I.kIn M.kp (zf0 (us:=[]) M F hr hb hd hx I .nil h)
end
structure FnScope (N P:List Str) (sc:Scope):Prop where
 kind:sc.kind = .function
 co:sc.isCoroutine=false
 gen:sc.isGenerator=false
 nd:N.Nodup
 pre:N.take P.length=P
 par:∀ x∈P,sc.names.lookup x=some .local∨sc.names.lookup x=some .cell
 nofree:∀ y∈sc.names,y.2≠.free
theorem zeJ {kindOf:Str→Option NameKind} {x:Str}:∀ {binds:List (Str×Value)} {m:Str→Option Value},(∀ v,(x,v)∉binds)→bindL kindOf binds m x=m x
 | [],_,_=>rfl
 | (n,v) :: r,m,h=>by
  unfold bindL;rw [zeJ fun w hw=>h w (aI _ hw)];split
  ·have:x≠n:=by rintro rfl; exact h v aT
   simp [this]
  ·rfl
theorem zeK {kindOf:Str→Option NameKind} {x:Str}:∀ {binds:List (Str×Value)} {m:Str→Option Value},(∀ v,(x,v)∉binds)→bindC kindOf binds m x=m x
 | [],_,_=>rfl
 | (n,v) :: r,m,h=>by
  unfold bindC;rw [zeK fun w hw=>h w (aI _ hw)];split
  ·rfl
  ·have:x≠n:=by rintro rfl; exact h v aT
   simp [this]
theorem zeL {kindOf:Str→Option NameKind} {x:Str} {v:Value}:∀ {P:List Str} {vs:List Value} {i:Nat} {m:Str→Option Value},P.Nodup→P[i]? = some x→vs[i]? = some v→kindOf x=some .local →
  bindL kindOf (P.zip vs) m x=some v
 | [],_,_,_,_,h,_,_=>by simp at h
 | _ :: _,[],_,_,_,_,h,_=>by simp at h
 | p :: P,w :: vs,0,m,nd,h1,h2,hk=>by
  simp at h1 h2; subst h1; subst h2;show bindL kindOf ((p,w) :: P.zip vs) m p=_;unfold bindL;rw [zeJ fun v hv=>(dz.mp nd).1 (dA hv).1,if_pos hk];simp
 | p :: P,w :: vs,i+1,m,nd,h1,h2,hk=>by
  show bindL kindOf ((p,w) :: P.zip vs) m x=_;unfold bindL;exact zeL (i:=i) (dz.mp nd).2 (by simpa using h1) (by simpa using h2) hk
theorem zeM {kindOf:Str→Option NameKind} {x:Str} {v:Value}:∀ {P:List Str} {vs:List Value} {i:Nat} {m:Str→Option Value},P.Nodup→P[i]? = some x→vs[i]? = some v→kindOf x≠some .local →
  bindC kindOf (P.zip vs) m x=some v
 | [],_,_,_,_,h,_,_=>by simp at h
 | _ :: _,[],_,_,_,_,h,_=>by simp at h
 | p :: P,w :: vs,0,m,nd,h1,h2,hk=>by
  simp at h1 h2; subst h1; subst h2;show bindC kindOf ((p,w) :: P.zip vs) m p=_;unfold bindC;rw [zeK fun v hv=>(dz.mp nd).1 (dA hv).1,if_neg hk];simp
 | p :: P,w :: vs,i+1,m,nd,h1,h2,hk=>by
  show bindC kindOf ((p,w) :: P.zip vs) m x=_;unfold bindC;exact zeM (i:=i) (dz.mp nd).2 (by simpa using h1) (by simpa using h2) hk
def start (N:List Str) (vs:List V):St:=vs.map some++aq (N.length - vs.length) none
def zbs (CX:CXT) (P:Program) (w:World) (K:af) (mg:Str→Option Value) (base:Heap) (N:List Str) (qual:Str) (scope:Scope) (f:Addr) (cd:Value) (A:Around) (outer:List Env) (s:Shared) (H:Hp) (E:XK):Cx where
 prog:=P
 w:=w
 K:=K
 mg:=mg
 base:=base
 A:=A.deeper (envOfC qual scope s.heap.objs.size f cd)
 N:=N
 s₀:=s
 H₀:=H
 env:=envOfC qual scope s.heap.objs.size f cd
 outer:=outer
 stack:=envOfC qual scope s.heap.objs.size f cd :: outer
 ex:=[]
 calm:=true
 fn:=fun _=>true
 pn:=[]
 xe:=fun e s'=>wpAny (model P w) (A.deeper (envOfC qual scope s.heap.objs.size f cd)) («leaving» (envOfC qual scope s.heap.objs.size f cd) e) (fun _ l8=>CX outer H s E e l8) (fun e' l8=>CX outer H s E e' l8) s'
theorem zf1 {sc:Scope} {n:Nat} {x:Str} (h:sc.names.lookup x=some .cell):∃ c,(cellsFrom n sc.names []).lookup x=some c:=by
 have q:=db sc.names n [] (.inl h);exact Option.isSome_iff_exists.mp q
theorem zeN {CX:CXT} {P:Program} {w:World} {K:af} {mg:Str→Option Value} {base:Heap} {N ps:List Str} {qual:Str} {scope:Scope} {f:Addr} {cd:Value} {A:Around} {outer:List Env} {s s1:Shared} {H:Hp} {E:XK} {us:List Value} {vs:List V}
  (S:FnScope N ps scope) (hd:A.handled=none) (e0:Env0 P w K mg base A outer s H) (hl:vs.length=ps.length) (r:zx vs us)
  (x:InCallC s s.heap.objs.size (bindL (envOfC qual scope s.heap.objs.size f cd).kindOf (ps.zip us) fun _=>none) (cellsFrom (s.heap.objs.size+1) scope.names []) (bindC (envOfC qual scope s.heap.objs.size f cd).kindOf (ps.zip us) fun _=>none) s1) :
  Inv (zbs CX P w K mg base N qual scope f cd A outer s H E) [] (start N vs) H s1:=by
 have ju:ps.length≤N.length:=by have:=congrArg List.length S.pre; rw [cB] at this; lia
 obtain⟨h1,tk,rfl,hk⟩:=x.done;have nR:∀ b:Addr,b∉(zbs CX P w K mg base N qual scope f cd A outer s H E).ex:=fun b z=>absurd (show b∈([]:List Addr) from z) #[M]
 refine⟨⟨e0.mod,S.kind,rfl,rfl,ak _,fun y z c h1 h2=>?_,fun y hy=>?_,fun y c _ h=>?_,fun _=>hd,Around.frames_deeper e0.frames,.inr ⟨rfl,rfl⟩,fun b z=>absurd z (nR b),e0.bs,e0.bsz,fun b _ _=>nR b,fun b z=>absurd z (nR b),e0.funs,e0.frf⟩,
  rfl,e0.bare,Un.kept hk,⟨_,x.toInCall.ns,fun i y v h1 h2 h3=>?_⟩,fun y c h=>⟨_,x.cell y c h⟩,e0.hok.fresh (ak _),fun y c h=>?_,fun p hp=>absurd (show p∈([]:List (Addr×Obj)) from hp) #[M],e0.hok.kept hk,?_⟩
 ·exact name_of_addr x.apart (ck h1) (ck h2)
 ·have hy:scope.names.lookup y=some .cell∨scope.names.lookup y=some .free:=hy;rcases hy with hy | hy
  ·exact zf1 hy
  ·exact absurd rfl (S.nofree _ (ck hy))
 ·exact eD (x.above y c (ck h))
 ·have hi:i < vs.length:=by
   unfold start at h2;by_cases hi:i < vs.length
   ·exact hi
   ·rw [cJ (by simpa using hi)] at h2;rw [eL] at h2;split at h2 <;> cases h2
  have ha:vs[i]? = some v:=by
   unfold start at h2;rw [bM (by simpa using hi),aw] at h2;cases e:vs[i]? with
   | none=>rw [e] at h2; cases h2
   | some a=>rw [e] at h2; cases h2; rfl
  obtain⟨u,hu,rv⟩:=r.get ha;have hp:ps[i]? = some y:=by
   rw [← S.pre,List.getElem?_take_of_lt #[O]]; exact h1
  have ndP:ps.Nodup:=by rw [← S.pre]; exact S.nd.sublist (List.take_sublist _ _)
  refine⟨u,rv,?_⟩;rcases S.par y (aE hp) with k | k
  ·exact .inl ⟨k,zeL ndP hp hu k⟩
  ·obtain⟨c,e⟩:=zf1 (n:=s.heap.objs.size+1) k;refine .inr ⟨.inl k,c,e,?_⟩;have q:=x.cell y c e;rw [zeM ndP hp hu (by show scope.names.lookup y≠_; rw [k]; decide)] at q;exact q
 ·exact e0.hok.fresh (eD (x.above y c (ck h)))
 ·unfold start;show _=N.length;rw [bc,ah,bv];lia
theorem zmL {CX:CXT} {P:Program} {w:World} {K:af} {mg:Str→Option Value} {base:Heap} {k:Nat} {f:Addr} {name qual:Str} {params:Arguments} {body:List Stmt} {scope:Scope} {dV kV doc pm iy ct oc:Value} {an od:Option Addr}
  {lR:Array (Option Value)} {N ps:List Str} {sp:Sp} (lk:K.lookup f=some ⟨oc,od,.func (bP name qual params body scope dV kV doc pm an iy ct),lR⟩) (j9:cZ K iy qual=true) (S:FnScope N ps scope)
  (len:∀ vs H Q E,sp vs H Q E→vs.length=ps.length)
  (jk:∀ (A:Around) (outer:List Env) (s:Shared) (H:Hp) (vs:List V) (Q:VK) (E:XK),Room k (A.deeper (envOfC qual scope s.heap.objs.size f iy))→sp vs H Q E →
   ∃ t,PSs (zbs CX P w K mg base N qual scope f iy A outer s H E) body t∧t { nx:=fun _ H'=>Q .non H',rt:=Q } (start N vs) H) :
  FnOk P w K mg base CX (k+1) f (bP name qual params body scope dV kV doc pm an iy ct) ps sp:=by
 refine⟨len,fun A outer s H args us vs Q E hr e0 hb r kb=>?_⟩;have hl:=len _ _ _ _ kb;have KX:K.In s.heap:=e0.mod.kin.keeps fun b o e=>(e0.bs b o e).1
 have lim:s.heap.NoLimit:=e0.mod.nolimit.keeps fun b o e=>(e0.bs b o e).1
 have l9:∀ y∈ps.zip us,scope.names.lookup y.1=some .local∨(scope.names.lookup y.1=some .cell∧((cellsFrom (s.heap.objs.size+1) scope.names []).lookup y.1).isSome=true):=fun ⟨n,v⟩ hy=>by
  rcases S.par n (dA hy).1 with q | q
  ·exact .inl q
  ·exact .inr ⟨q,db _ _ _ (.inl q)⟩
 refine fg hr.depth (KX _ _ lk) rfl S.co S.gen rfl (fZ KX j9) (hb _ _ _ _ ?_);refine d9 S.kind l9 fun env he s1 x=>?_
 subst he;refine⟨lim.keeps x.toInCall.keep,codeAny_func ?_⟩;obtain⟨t,ht,hq⟩:=jk A outer s H vs Q E (hr.deeper _) kb;have I:Inv (zbs CX P w K mg base N qual scope f iy A outer s H E) [] (start N vs) H s1:=zeN S hr.hd e0 hl r x;refine bg (ht [] s1 (start N vs) H _ I hq) (fun fl s' hs=>?_) fun e s' hs=>hs
 have fin:∀ {σ':St} {H':Hp} {v:V} {u:Value},Inv (zbs CX P w K mg base N qual scope f iy A outer s H E) [] σ' H' s'→RelV v u→Q v H'→CE outer P w H s Q u s' :=
  fun {σ' H' v u} J rv q=>⟨v,H',J.os,J.bare,J.base,J.hok,rv,q⟩
 cases fl with
 | ret u =>
  obtain⟨v,σ',H',J,rv,q⟩:=hs;exact fin J rv q
 | next =>
  obtain⟨σ',H',J,q⟩:=hs;exact fin (v:=V.non) (u:=bU) J rfl q
 | brk =>
  obtain⟨_,_,_,q⟩:=hs;exact aW q
 | cont =>
  obtain⟨_,_,_,q⟩:=hs;exact aW q
section
variable {X:Cx} {x:Str} {p pos:Pos} {e:Expr} {es:List Expr} {t:TA} {id T:String} {r:List V→Hp→VK→Prop}
def tCB (r:List V→Hp→VK→Prop) (t:TA):TE:=fun σ H Q=>t σ H fun vs H1=>r vs H1 Q
theorem zm (hc:zba X (.builtin id) r) (hg:Gl X x) (hm:X.mg x=none) (hv:bootBuiltins x=some (.builtin id)) (ha:PA X (e :: es) t) (hn:x≠"__name__":=by decide) (kQ:(x == ("__debug__" : Str))=false:=by decide)
  (he:starEach (e :: es) X.env=(false,eval e X.env) :: starEach es X.env:=by rfl) (ju:(backTo pos (starEach es X.env)).any (·.1)=false:=by rfl):PE X (.Call (.Name x p) (e :: es) [] pos) (tCB r t):=by
 intro ip s σ H Q I h;refine bn (zc5 I hg hm hv ?_ hn kQ);exact PyProof.Rows.callWith_builtin1 (thn (ha pos ip s σ H _ I h) fun us s1 ⟨vs,H1,I1,r1,q1⟩=>hc ip s1 σ H1 vs us Q I1 r1 q1) he ju
theorem zaM (hc:zba X (.type T) r) (hg:Gl X x) (hm:X.mg x=none) (hv:bootBuiltins x=some (.type T)) (ha:PA X (e :: es) t) (hn:x≠"__name__":=by decide) (kQ:(x == ("__debug__" : Str))=false:=by decide)
  (he:starEach (e :: es) X.env=(false,eval e X.env) :: starEach es X.env:=by rfl) (ju:(backTo pos (starEach es X.env)).any (·.1)=false:=by rfl):PE X (.Call (.Name x p) (e :: es) [] pos) (tCB r t):=by
 intro ip s σ H Q I h;refine bn (zc5 I hg hm hv ?_ hn kQ);exact bW (thn (ha pos ip s σ H _ I h) fun us s1 ⟨vs,H1,I1,r1,q1⟩=>hc ip s1 σ H1 vs us Q I1 r1 q1) he ju
end
end L2
namespace HT
open PySem PyProof.Rows
section
variable {prog:Program} {w:World} {A:Around} {E:Value→Shared→Prop} {s:Shared}
def sIx (n d:Nat):Option Int→Nat
 | none=>d
 | some v=>if v < 0 then (v+(n:Int)).toNat else min v.toNat n
theorem sIx_none (n d:Nat):sIx n d none=d:=rfl
theorem sIx_nat (n d k:Nat):sIx n d (some (k:Int))=min k n:=by
 show (if (k:Int) < 0 then ((k:Int)+(n:Int)).toNat else min (k:Int).toNat n)=min k n;rw [if_neg #[O],ca]
end
end HT
namespace L2
open PySem PySem.Spec PyProof.Rows
abbrev TO:=St→Hp→(Option Int→Hp→Prop)→Prop
def PO (X:Cx) (e:Option Expr) (t:TO):Prop :=
 ∀ (ip:List (Addr×Obj)) (s:Shared) (σ:St) (H:Hp) (Q:Option Int→Hp→Prop),Inv X ip σ H s→t σ H Q →
  wpAny (model X.prog X.w) X.A (evalPart e X.env) (fun u s'=>∃ o H',Inv X ip σ H' s'∧IsPart u o∧Q o H') X.xe s
def zlp:TO:=fun _ H Q=>Q none H
def zof (t:TE):TO:=fun σ H Q=>t σ H fun x H1=>∃ i,x = .int i∧Q (some i) H1
theorem intsAre_of {ns:List Int}:∀ {us:List Value},zx (ns.map V.int) us→IntsAre us ns:=by
 induction ns with
 | nil=>intro us r; rw [f6] at r; cases r; exact .nil
 | cons n ns ih =>
  intro us r;rw [bp] at r;cases r with
  | cons r1 r2 =>
   obtain⟨t,e⟩:=r1;subst e;exact .cons n t (ih r2)
section
variable {X:Cx} {e:Expr} {te:TE} {lo hi:Option Expr} {tl th:TO} {pos p2:Pos}
theorem zdG:PO X none zlp:=by
 intro ip s σ H Q I h;rw [evalPart_none];exact al ⟨none,H,I,.none,h⟩
theorem zch (h:PE X e te):PO X (some e) (zof te):=by
 intro ip s σ H Q I hw;rw [evalPart_some];refine thn (h ip s σ H _ I hw) fun u s1 ⟨x,H1,I1,r1,q1⟩=>?_
 obtain⟨i,rfl,q⟩:=q1;obtain⟨t,rfl⟩:=r1;exact⟨some i,H1,I1,.int i t,q⟩
def SlR (X:Cx) (r:V→Option Int→Option Int→Hp→VK→Prop):Prop :=
 ∀ (ip:List (Addr×Obj)) (s:Shared) (σ:St) (H:Hp) (x:V) (v vl vu:Value) (lo hi:Option Int) (sl:Addr) (Q:VK),Inv X ip σ H s→RelV x v→s.heap.IsSliceOf sl vl vu .none→IsPart vl lo→IsPart vu hi→r x lo hi H Q →
  ∃ T id,typeLookup (.type T) "__getitem__" = pure (some (.builtin id))∧s.TypeIs v T∧wpAny (model X.prog X.w) X.A (getItem v (.ref sl)) (EP X ip σ Q) X.xe s
def tSl (r:V→Option Int→Option Int→Hp→VK→Prop) (te:TE) (tl th:TO):TE:=fun σ H Q=>te σ H fun x H1=>tl σ H1 fun l H2=>th σ H2 fun u H3=>r x l u H3 Q
theorem zb5 {r:V→Option Int→Option Int→Hp→VK→Prop} (hr:SlR X r) (he:PE X e te) (hl:PO X lo tl) (hu:PO X hi th):PE X (.Subscript e (.Slice lo hi none p2) pos) (tSl r te tl th):=by
 intro ip s σ H Q I h;refine gO (thn (he ip s σ H _ I h) fun v s1 ⟨x,H1,I1,r1,q1⟩=>?_);refine wpAny_Slice (thn (hl ip s1 σ H1 _ I1 q1) fun vl s2 ⟨l,H2,I2,pl,q2⟩=>thn (hu ip s2 σ H2 _ I2 q2) fun vu s3 ⟨u,H3,I3,pu,q3⟩=>?_);rw [evalPart_none];refine al ?_;have I4:Inv X ip σ H3 { s3 with heap:=s3.heap.push { cls:=.type "slice",data:=.fields #[vl,vu,.none] } }:=I3.kept (t':=s3.toks) fun b ob q=>ai _ q
 obtain⟨T,id,hT,ht,hg⟩:=hr ip { s3 with heap:=s3.heap.push { cls:=.type "slice",data:=.fields #[vl,vu,.none] } } σ H3 x v vl vu l u s3.heap.objs.size Q I4 r1 (Heap.IsSliceOf.new ..) pl pu q3;show wpAny (model X.prog X.w) X.A (subscriptTail e (.Slice lo hi none p2) v (.ref s3.heap.objs.size)) (EP X ip σ Q) X.xe { s3 with heap:=s3.heap.push { cls:=.type "slice",data:=.fields #[vl,vu,.none] } };exact tail_any (ops:=[.ref s3.heap.objs.size,v]) ht hT hg (by with_unfolding_all rfl)
def zct (xs:List V) (lo hi:Option Int):List V:=(xs.drop (HT.sIx xs.length 0 lo)).take (HT.sIx xs.length xs.length hi - HT.sIx xs.length 0 lo)
theorem zf2 (xs:List V) (lo hi:Option Int):(zct xs lo hi).length≤xs.length:=by
 unfold zct;rw [cB,dh];lia
end
def ixN (n:Nat) (i:Int):Option Nat:=if 0≤i then (if i < n then some i.toNat else none) else if -(n:Int)≤i then some (i+n).toNat else none
def atI {α:Type} (xs:List α) (i:Int):Option α:=(ixN xs.length i).bind fun j=>xs[j]?
theorem zhH {n:Nat} {i:Int} {j:Nat} (h:ixN n i=some j):seqIndex? i n=some j∧j < n∧-(n:Int)≤i∧i < n:=by
 unfold ixN at h;by_cases h0:0≤i
 ·rw [if_pos h0] at h;by_cases h1:i < n
  ·rw [if_pos h1] at h;have e:i.toNat=j:=az h;exact⟨by rw [eY h0 h1,e],#[O],#[O],h1⟩
  ·rw [if_neg h1] at h; cases h
 ·rw [if_neg h0] at h;by_cases h1:-(n:Int)≤i
  ·rw [if_pos h1] at h;have e:(i+n).toNat=j:=az h;exact⟨by rw [f7 #[O] h1,e],#[O],h1,#[O]⟩
  ·rw [if_neg h1] at h; cases h
theorem zfc {α:Type} {xs:List α} {i:Int} {v:α} (h:atI xs i=some v):∃ j,seqIndex? i xs.length=some j∧xs[j]? = some v∧j < xs.length∧-(xs.length:Int)≤i∧i < xs.length:=by
 unfold atI at h;cases e:ixN xs.length i with
 | none=>rw [e] at h; cases h
 | some j =>
  rw [e] at h;obtain⟨h1,h2,h3,h4⟩:=zhH e;exact⟨j,h1,h,h2,h3,h4⟩
theorem zci {α:Type} {xs:List α} {j:Nat} {v:α} (h:xs[j]? = some v):atI xs (j:Int)=some v:=by
 have hj:j < xs.length:=(aC.mp h).1;have e:ixN xs.length (j:Int)=some j:=by
  unfold ixN;rw [if_pos #[O],if_pos #[O]]; simp
 unfold atI; rw [e]; exact h
def zlq (b:Expr):Prop:=∀ o i,subscripted b false o i=operate [o,i] (getItem o i)
def IxR (X:Cx) (r:R2):Prop :=
 ∀ (value slice:Expr) (ip:List (Addr×Obj)) (s:Shared) (σ:St) (H:Hp) (x y:V) (v u:Value) (Q:VK),Inv X ip σ H s→RelV x v→RelV y u→r x y H Q →
  subscripted slice false v u=operate [v,u] (getItem v u)→wpAny (model X.prog X.w) X.A (subscriptTail value slice v u) (EP X ip σ Q) X.xe s
def MtR (X:Cx) (id:String) (r:V→List V→Hp→VK→Prop):Prop :=
 ∀ (ip:List (Addr×Obj)) (s:Shared) (σ:St) (H:Hp) (x:V) (xs:List V) (v:Value) (us:List Value) (Q:VK),Inv X ip σ H s→RelV x v→zx xs us→r x xs H Q →
  wpAny (model X.prog X.w) X.A (call (.builtin id) (v :: us)) (EP X ip σ Q) X.xe s
section
variable {X:Cx} {a b:Expr} {ta tb:TE} {pos:Pos}
theorem zZ {r:R2} (hr:IxR X r) (ha:PE X a ta) (hb:PE X b tb) (hs:zlq b):PE X (.Subscript a b pos) (tOp r ta tb):=by
 intro ip s σ H Q I h;exact gO (zmZ ha hb I h fun v u s2 x y H2 I2 rx ry q=>hr a b ip s2 σ H2 x y v u Q I2 rx ry q (hs _ _))
def zog (K:af):R2:=fun x y H Q=>∃ p xs i v,x = .ref p∧y = .int i∧iw K H p xs∧atI xs i=some v∧Q v H
def zoQ (K:af):R2:=fun x y H Q=>∃ p xs i v,x = .ref p∧y = .int i∧iI K H p xs∧atI xs i=some v∧Q v H
def zoR:R2:=fun x y H Q=>∃ z i c,x = .str z∧y = .int i∧z.length≤sizeLine∧atI z.cps.toList i=some c∧Q (.str ⟨#[c]⟩) H
theorem zM:IxR X (zog X.K):=by
 intro value slice ip s σ H x y v u Q I rx ry h hs;obtain⟨p,xs,i,z,rfl,rfl,hq,he,q⟩:=h;cases rx;obtain⟨t,rfl⟩:=ry;obtain⟨ir,r,pl,hz⟩:=I.list hq;obtain⟨j,h1,h2,h3,h4,h5⟩:=zfc he;obtain⟨w,ew,pj⟩:=r.get h2;have hl:=r.length;have hn:=zcE;have fin:EP X ip σ Q w s:=⟨z,H,I,pj,q⟩;by_cases h0:0≤i
 ·have hj:i.toNat=j:=by
   rw [eY h0 h5] at h1;exact az h1
  exact item_listR pl.isList h0 #[O] (by rw [hj]; simpa using ew) fin hs
 ·have hj:(i+(ir.toArray.size:Int)).toNat=j:=by
   rw [f7 #[O] h4] at h1;rw [aj,← hl];exact az h1
  exact eZ (x:=w) pl.isList.typeIs slot_list_getitem.lookup
   (wpAny_getItem_list_neg (Q:=fun r s'=>r=w∧EP X ip σ Q r s') pl.isList #[O] (by rw [aj] <;> lia) #[O] (by rw [hj]; simpa using ew) ⟨rfl,fin⟩) hs
theorem zcG:IxR X (zoQ X.K):=by
 intro value slice ip s σ H x y v u Q I rx ry h hs;obtain⟨p,xs,i,z,rfl,rfl,hq,he,q⟩:=h;cases rx;obtain⟨t,rfl⟩:=ry;obtain⟨ir,r,pl,hz⟩:=I.tuple hq;obtain⟨j,h1,h2,h3,h4,h5⟩:=zfc he;obtain⟨w,ew,pj⟩:=r.get h2;have hl:=r.length;have hn:=zcE;have fin:EP X ip σ Q w s:=⟨z,H,I,pj,q⟩;exact eZ (x:=w) pl.typeIs slot_tuple_getitem.lookup
  (getItem_tuple (j:=j) (Q:=fun r s'=>r=w∧EP X ip σ Q r s') pl #[O] #[O] (by rw [aj,← hl]; exact h1) (by simpa using ew) ⟨rfl,fin⟩) hs
theorem zm3:IxR X zoR:=by
 intro value slice ip s σ H x y v u Q I rx ry h hs;obtain⟨z,i,c,rfl,rfl,hz,he,q⟩:=h;obtain⟨t,rfl⟩:=rx;obtain⟨t',rfl⟩:=ry;obtain⟨j,h1,h2,h3,h4,h5⟩:=zfc he;have hl:z.cps.toList.length=z.length:=by simp [Str.length]
 rw [hl] at h1 h4 h5;have hn:=zcE;exact tail_any (cC s z t) slot_str_getitem.lookup (getItem_str (c:=c) (by
  have e1:decide (i < -(2 ^ 63:Int))=false:=decide_eq_false #[O];have e2:decide (i≥2 ^ 63)=false:=decide_eq_false #[O];rw [e1,e2,Bool.or_false]) (by rw [h1]; simpa using h2) ⟨.str ⟨#[c]⟩,H,I.tok _,⟨_,rfl⟩,q⟩) hs
theorem zgV (ir:List Value) (n j:Nat) (u:Value):cD (·.setIfInBounds j u) { cls:=.type "list",data:=.seq ir.toArray n } = { cls:=.type "list",data:=.seq (ir.set j u).toArray n }:=by
 simp [cD]
theorem Inv.lst {ip:List (Addr×Obj)} {σ:St} {H:Hp} {s:Shared} {p:Addr} {xs:List V} (I:Inv X ip σ H s) (h:H p=some (.lst xs)) :
  ∃ (ir:List Value) (n:Nat),zx xs ir∧s.heap.get? p=some { cls:=.type "list",data:=.seq ir.toArray n }∧xs.length≤sizeLine:=by
 obtain⟨z,ir,n,r,e⟩:=I.hok p _ h;exact⟨ir,n,r,e,z⟩
theorem Inv.lstUpd {ip:List (Addr×Obj)} {σ:St} {H:Hp} {s:Shared} {p:Addr} {xs ys:List V} {ir its':List Value} {n n':Nat} {f:Obj→Obj} (I:Inv X ip σ H s) (h:H p=some (.lst xs))
  (ho:s.heap.get? p=some { cls:=.type "list",data:=.seq ir.toArray n }) (hf:f { cls:=.type "list",data:=.seq ir.toArray n } = { cls:=.type "list",data:=.seq its'.toArray n' }) (r:zx ys its') (hz:ys.length≤sizeLine) (t:Nat) :
  Inv X ip σ (upd H p (.lst ys)) { s with heap:=s.heap.update p f,toks:=t }:=by
 have e:(s.heap.update p f).get? p=some { cls:=.type "list",data:=.seq its'.toArray n' }:=by
  rw [dm f ho (by rw [hf] <;> rfl),hf]
 refine I.write (x:=p) (e:=p) (by rw [h]; trivial) (.inl rfl) (fun b u hb q=>(de _ _ (bL hb)).trans q) ⟨_,e⟩ ?_;exact⟨hz,its',n',r,e⟩
def zoh:V→V→V→Hp→(Hp→Prop)→Prop:=fun o i v H Q=>∃ p xs k j,o = .ref p∧i = .int k∧H p=some (.lst xs)∧ixN xs.length k=some j∧Q (upd H p (.lst (xs.set j v)))
theorem set_list:zn8 X zoh:=by
 intro ip s σ H o i v ov iv u Q I ro ri rv h;obtain⟨p,xs,k,j,rfl,rfl,hp,hj,q⟩:=h;cases ro;obtain⟨t,rfl⟩:=ri;obtain⟨ir,n,r,ho,hz⟩:=I.lst hp;obtain⟨h1,h2,h3,h4⟩:=zhH hj;have hl:=r.length;have hn:=zcE;have I':Inv X ip σ (upd H p (.lst (xs.set j v))) { s with heap:=s.heap.update p (cD (·.setIfInBounds j u)) } :=
  I.lstUpd hp ho (zgV ir n j u) (r.set rv j) (by rw [gP]; exact hz) s.toks
 by_cases h0:0≤k
 ·have hk:k.toNat=j:=by
   rw [eY h0 h4] at h1;exact az h1
  exact PySem.W.ki_setAt ho h0 #[O] (by rw [aj,← hl]; exact h4) (by rw [hk]; exact⟨_,I',q⟩)
 ·have hk:(k+(ir.toArray.size:Int)).toNat=j:=by
   rw [f7 #[O] h3] at h1;rw [aj,← hl];exact az h1
  exact PySem.W.ki_setBack ho #[O] (by rw [aj,← hl]; exact h3) #[O] (by rw [hk]; exact⟨_,I',q⟩)
theorem zfd (lo hi:Option Int) (n:Nat):(sliceBounds lo hi none n).1=((HT.sIx n 0 lo:Nat):Int)∧(sliceBounds lo hi none n).2.1=((HT.sIx n n hi:Nat):Int)∧(sliceBounds lo hi none n).2.2=1:=by
 refine⟨?_,?_,rfl⟩
 ·cases lo with
  | none=>simp [sliceBounds,HT.sIx]
  | some i =>
   simp only [sliceBounds,HT.sIx,gA,show (1:Int) > 0 by decide,if_true];by_cases h:i < 0
   ·simp only [h,if_true] <;> lia
   ·simp only [h,if_false] <;> lia
 ·cases hi with
  | none=>simp [sliceBounds,HT.sIx]
  | some i =>
   simp only [sliceBounds,HT.sIx,gA,show (1:Int) > 0 by decide,if_true];by_cases h:i < 0
   ·simp only [h,if_true] <;> lia
   ·simp only [h,if_false] <;> lia
theorem zen (ir:List Value) (lo hi:Option Int):slicePick ir.toArray lo hi none=((ir.drop (HT.sIx ir.length 0 lo)).take (HT.sIx ir.length ir.length hi - HT.sIx ir.length 0 lo)).toArray:=by
 obtain⟨h1,h2,h3⟩:=zfd lo hi ir.toArray.size;unfold slicePick;rw [h1,h2,h3];simp only [sliceRange_one,pick_run,aj] <;> rfl
def zoS (K:af):V→Option Int→Option Int→Hp→VK→Prop:=fun x lo hi H Q=>∃ a xs,x = .ref a∧iw K H a xs∧∀ p,H p=none→Q (.ref p) (upd H p (.lst (zct xs lo hi)))
theorem zcQ:SlR X (zoS X.K):=by
 intro ip s σ H x v vl vu lo hi sl Q I rx hs pl pu h;obtain⟨a,xs,rfl,hx,q⟩:=h;cases rx;obtain⟨ir,r,ht,hz⟩:=I.list hx;have iJ:=r.length;refine⟨"list",_,slot_list_getitem.lookup,ht.isList.typeIs,?_⟩;refine wpAny_getItem_list_slice ht.isList hs pl pu .none #[M] ?_ (by rw [aj] <;> lia);rw [zen,← iJ];refine⟨.ref s.heap.objs.size,_,I.laid (t':=s.toks) (o:=.lst (zct xs lo hi)) (fun b ob q=>ai _ q) (ak _) ?_,rfl,q _ (I.hok.fresh (ak _))⟩;exact⟨aZ (zf2 xs lo hi) hz,_,0,(r.drop (HT.sIx xs.length 0 lo)).take (HT.sIx xs.length xs.length hi - HT.sIx xs.length 0 lo),au _ rfl⟩
def zdN:V→Bool
 | .non=>true
 | .bl _=>true
 | .int _=>true
 | .str _=>true
 | _=>false
def eqV:V→V→Bool
 | .non,.non=>true
 | .bl a,.bl b=>a == b
 | .bl a,.int b=>(if a then 1 else 0) == b
 | .int a,.bl b=>a == (if b then 1 else 0)
 | .int a,.int b=>a == b
 | .str a,.str b=>a == b
 | _,_=>false
theorem zm4 {A:Around} {s:Shared} {y x:V} {u v:Value} (ry:RelV y u) (rx:RelV x v) (fy:zdN y=true) (fx:zdN x=true):gQ A s u v (eqV y x):=by
 cases y with
 | non =>
  cases ry;cases x with
  | non=>cases rx; exact gR _
  | bl b=>cases rx; exact SeqAt.EqAt.none_bool b
  | int b=>obtain⟨t,rfl⟩:=rx; exact SeqAt.EqAt.none_int b t
  | str b=>obtain⟨t,rfl⟩:=rx; exact SeqAt.EqAt.none_str b t
  | _=>exact absurd (show false=true from fx) ay
 | bl a =>
  cases ry;cases x with
  | non=>cases rx; exact SeqAt.EqAt.bool_none a
  | bl b=>cases rx; exact SeqAt.EqAt.bool_bool a b
  | int b=>obtain⟨t,rfl⟩:=rx; exact SeqAt.EqAt.bool_int a b t
  | str b=>obtain⟨t,rfl⟩:=rx; exact SeqAt.EqAt.bool_str a b t
  | _=>exact absurd (show false=true from fx) ay
 | int a =>
  obtain⟨t',rfl⟩:=ry;cases x with
  | non=>cases rx; exact SeqAt.EqAt.int_none a t'
  | bl b=>cases rx; exact SeqAt.EqAt.int_bool a t' b
  | int b=>obtain⟨t,rfl⟩:=rx; exact SeqAt.EqAt.int_int a t' b t
  | str b=>obtain⟨t,rfl⟩:=rx; exact fS a t' b t
  | _=>exact absurd (show false=true from fx) ay
 | str a =>
  obtain⟨t',rfl⟩:=ry;cases x with
  | non=>cases rx; exact SeqAt.EqAt.str_none a t'
  | bl b=>cases rx; exact SeqAt.EqAt.str_bool a t' b
  | int b=>obtain⟨t,rfl⟩:=rx; exact fT a t' b t
  | str b=>obtain⟨t,rfl⟩:=rx; exact SeqAt.EqAt.str_str a t' b t
  | _=>exact absurd (show false=true from fx) ay
 | _=>exact absurd (show false=true from fy) ay
theorem zv:zba X (.builtin "len") (fun xs H Q=>∃ p ys,xs = [.ref p]∧(iw X.K H p ys∨iI X.K H p ys)∧Q (.int ys.length) H):=by
 intro ip s σ H xs us Q I r h;obtain⟨p,ys,rfl,hq,q⟩:=h;obtain⟨u,rfl,rx⟩:=vals1 r;cases rx;have hn:=zcE;rcases hq with hq | hq
 ·obtain⟨ir,r',pl,hz⟩:=I.list hq;have iJ:=r'.length;exact Calls.call_len_list pl.isList (by simp only [aj] <;> lia) ⟨.int ys.length,H,I.tok _,⟨s.toks+1,by rw [aj,iJ]⟩,q⟩
 ·obtain⟨ir,r',pl,hz⟩:=I.tuple hq;have iJ:=r'.length;exact len_tuple pl (by simp only [aj] <;> lia) ⟨.int ys.length,H,I.tok _,⟨s.toks+1,by rw [aj,iJ]⟩,q⟩
theorem zfe:zba X (.builtin "len") (fun xs H Q=>∃ z,xs = [.str z]∧z.length≤sizeLine∧Q (.int z.length) H):=by
 intro ip s σ H xs us Q I r h;obtain⟨z,rfl,hz,q⟩:=h;obtain⟨u,rfl,t,rfl⟩:=vals1 r;have hn:=zcE;exact len_str #[O] ⟨.int z.length,H,I.tok _,⟨_,rfl⟩,q⟩
theorem zff:zba X (.type "list") (fun xs H Q=>∃ p ys,xs = [.ref p]∧(iw X.K H p ys∨iI X.K H p ys)∧∀ l,H l=none→Q (.ref l) (upd H l (.lst ys))):=by
 intro ip s σ H xs us Q I r h;obtain⟨p,ys,rfl,hq,q⟩:=h;obtain⟨u,rfl,rx⟩:=vals1 r;cases rx;have fin:∀ (ir:List Value),zx ys ir→ys.length≤sizeLine→∀ (h':Heap) (c':Nat),(∀ b o',s.heap.get? b=some o'→h'.get? b=some o') →
   h'.get? s.heap.objs.size=some { cls:=.type "list",dict:=none,data:=.seq ir.toArray c',slots:=#[] }→EP X ip σ Q (.ref s.heap.objs.size) { s with heap:=h' }:=fun ir r' hz h' c' kp e =>
  ⟨.ref s.heap.objs.size,_,I.laid (t':=s.toks) kp (ak _) (show zal X.prog X.w _ h' _ (.lst ys) from ⟨hz,ir,c',r',e⟩),rfl,q _ (I.hok.fresh (ak _))⟩
 rcases hq with hq | hq
 ·obtain⟨ir,r',pl,hz⟩:=I.list hq;have iJ:=r'.length;obtain⟨o,ho,hc,n,hd⟩:=pl.isList;exact call_list_seq p (.inl rfl) ho hc hd (fun h' c' kp e=>fin ir r' hz h' c' kp e) (by simp only [aj] <;> lia)
 ·obtain⟨ir,r',pl,hz⟩:=I.tuple hq;have iJ:=r'.length;obtain⟨o,ho,hc,n,hd⟩:=pl;exact call_list_seq p (.inr rfl) ho hc hd (fun h' c' kp e=>fin ir r' hz h' c' kp e) (by simp only [aj] <;> lia)
theorem zcy:zba X (.type "tuple") (fun xs H Q=>∃ p ys,xs = [.ref p]∧((iw X.K H p ys∧∀ l,H l=none→Q (.ref l) (upd H l (.tup ys)))∨(iI X.K H p ys∧Q (.ref p) H))):=by
 intro ip s σ H xs us Q I r h;obtain⟨p,ys,rfl,h⟩:=h;obtain⟨u,rfl,rx⟩:=vals1 r;cases rx;rcases h with ⟨hq,q⟩ | ⟨hq,q⟩
 ·obtain⟨ir,r',pl,hz⟩:=I.list hq;have iJ:=r'.length;refine call_tuple_list pl.isList (fun h' kp=>?_) (by simp only [aj] <;> lia);have I1:Inv X ip σ H { s with heap:=h' }:=I.kept (t':=s.toks) kp;have I2:Inv X ip σ (upd H h'.objs.size (.tup ys)) { s with heap:=h'.push { cls:=.type "tuple",data:=.seq ir.toArray } } :=
   I1.laid (t':=s.toks) (fun b o e=>ai _ e) (ak _) (show zal X.prog X.w _ _ _ (.tup ys) from ⟨hz,ir,r',IsTup.new _ _⟩)
  exact⟨.ref h'.objs.size,_,I2,rfl,q _ (I1.hok.fresh (ak _))⟩
 ·obtain⟨ir,r',pl,hz⟩:=I.tuple hq;exact call_tuple_same pl ⟨.ref p,H,I,rfl,q⟩
def tyV (K:af) (T:String) (x:V) (H:Hp):Prop:=match x with
 | .str _=>T = "str"
 | .int _=>T = "int"
 | .ref p=>(T = "list"∧∃ xs,iw K H p xs)∨(T = "tuple"∧∃ o,K.lookup p=some o∧o.cls = .type "tuple"∧o.dict=none) ∨
   (T = "dict"∧((∃ iX,H p=some (.dK iX))∨∃ iX,H p=some (.dT iX)))∨(T = "set"∧∃ S n,H p=some (.set S n))
 | _=>False
theorem zjh {ip:List (Addr×Obj)} {σ:St} {H:Hp} {s:Shared} {T:String} {x:V} {v:Value} (I:Inv X ip σ H s) (r:RelV x v) (ty:tyV X.K T x H) :
  s.TypeIs v T∧∀ a,v = .ref a→∃ ob,s.heap.get? a=some ob∧ob.dict=none:=by
 cases x with
 | str z =>
  obtain⟨t,rfl⟩:=r;cases (show T = "str" from ty);exact⟨cC s z t,fun _ e=>nomatch e⟩
 | int i =>
  obtain⟨t,rfl⟩:=r;cases (show T = "int" from ty);exact⟨gS s i t,fun _ e=>nomatch e⟩
 | ref p =>
  cases r;rcases ty with ⟨rfl,xs,hq⟩ | ⟨rfl,o,hk,hc,hd⟩ | ⟨rfl,hk⟩ | ⟨rfl,S,n,hk⟩
  ·obtain⟨ir,_,pl,_⟩:=I.list hq;refine⟨pl.isList.typeIs,fun a e=>?_⟩;cases e;obtain⟨o,n,e,c,hd,_⟩:=pl;exact⟨o,e,hd⟩
  ·refine⟨⟨o,I.kIn p o hk,hc⟩,fun a e=>?_⟩;cases e;exact⟨o,I.kIn _ o hk,hd⟩
  ·have z:∃ o,s.heap.get? p=some o∧o.ExactDict:=by
    rcases hk with ⟨iX,hk⟩ | ⟨iX,hk⟩
    ·obtain⟨_,_,_,_,o,_,_,e,ex,_⟩:=I.hok p _ hk;exact⟨o,e,ex⟩
    ·obtain⟨_,_,_,_,o,_,_,e,ex,_⟩:=I.hok p _ hk;exact⟨o,e,ex⟩
   obtain⟨o,e,ex⟩:=z;refine⟨⟨o,e,ex.1⟩,fun a e2=>?_⟩;cases e2;exact⟨o,e,ex.2.1⟩
  ·obtain⟨o,_,_,_,e,ex,_⟩:=I.hok p _ hk;refine⟨⟨o,e,ex.1⟩,fun a e2=>?_⟩;cases e2;exact⟨o,e,ex.2.1⟩
 | _=>exact aW ty
def zoT (K:af) (T:String) (r:V→List V→Hp→VK→Prop) (to:TE):TE:=fun σ H Q=>to σ H fun x H1=>tyV K T x H1∧r x [] H1 Q
def tBM (K:af) (T:String) (r:V→List V→Hp→VK→Prop) (to:TE) (t:TA):TE:=fun σ H Q=>to σ H fun x H1=>tyV K T x H1∧t σ H1 fun xs H2=>r x xs H2 Q
variable {o e:Expr} {es:List Expr} {to:TE} {t:TA} {name:Str} {apos iY:Pos} {T id:String} {r:V→List V→Hp→VK→Prop}
theorem zfg (pa:PlainAttrs T) (slot:Slot T name id) (pk:typeOf (.builtin id)=pure (.type "method_descriptor")) (hm:MtR X id r) (ho:PE X o to)
  (kA:attributeBase o name X.env (eval o X.env)=eval o X.env:=by rfl) (kB:(apos.endLine == iY.line)=true:=by rfl):PE X (.Call (.Attribute o name apos) [] [] iY) (zoT X.K T r to):=by
 intro ip s σ H Q I h;refine wpAny_Call_method0_late kA kB (thn (ho ip s σ H _ I h) fun v s1 ⟨x,H1,I1,r1,ty,q1⟩=>?_);obtain⟨h1,h2⟩:=zjh I1 r1 ty;exact⟨T,id,pa,slot,pk,h1,h2,e6 rfl (PySem.evalArgs_none (hm ip s1 σ H1 x [] v [] Q I1 r1 .nil q1))⟩
theorem zcz (pa:PlainAttrs T) (slot:Slot T name id) (pk:typeOf (.builtin id)=pure (.type "method_descriptor")) (hm:MtR X id r) (ho:PE X o to) (ha:PA X (e :: es) t)
  (kA:attributeBase o name X.env (eval o X.env)=eval o X.env:=by rfl)
  (ma:((backTo iY (starEach (e :: es) X.env)).all (fun x=>!x.1) && (backToKw iY (keywordEach [] X.env)).all (fun x=>x.1.isSome)
   && decide ((e :: es).length+([]:List Keyword).length+(if ([]:List Keyword).isEmpty then 0 else 1) < 30))=true:=by rfl)
  (kB:(apos.endLine == iY.line)=true:=by rfl) (hs:starEach (e :: es) X.env=(false,eval e X.env) :: starEach es X.env:=by rfl) (kR:(backTo iY (starEach es X.env)).any (·.1)=false:=by rfl) :
  PE X (.Call (.Attribute o name apos) (e :: es) [] iY) (tBM X.K T r to t):=by
 intro ip s σ H Q I h;refine wpAny_Call_method_late kA ma kB rfl (thn (ho ip s σ H _ I h) fun v s1 ⟨x,H1,I1,r1,ty,q1⟩=>?_);obtain⟨h1,h2⟩:=zjh I1 r1 ty;refine⟨T,id,pa,slot,pk,h1,h2,?_⟩;have hA:=ha iY ip s1 σ H1 _ I1 q1;rw [hs] at hA ⊢;refine e6 (by show (false || (backTo iY (starEach es X.env)).any (·.1))=false; rw [kR] <;> rfl) (fz ?_);exact thn hA fun us s2 ⟨vs,H2,I2,r2,q2⟩=>hm ip s2 σ H2 x vs v us Q I2 r1 r2 q2
end
def MtM (X:Cx) (id:String) (r:V→List V→Hp→VK→Prop):Prop :=
 ∀ (ip:List (Addr×Obj)) (s:Shared) (σ:St) (H:Hp) (x:V) (xs:List V) (v:Value) (us:List Value) (Q:VK),Inv X ip σ H s→RelV x v→zx xs us→r x xs H Q →
  wpAny (model X.prog X.w) X.A (call (.builtin id) (v :: us)) (EP X ip σ Q) X.xe s
theorem zx.one:∀ {x:V} {us:List Value},zx [x] us→∃ u,us = [u]∧RelV x u
 | _,_,.cons r .nil=>⟨_,rfl,r⟩
theorem zx.zero:∀ {us:List Value},zx [] us→us = []
 | _,.nil=>rfl
theorem zx.dropLast {xs:List V} {us:List Value} (h:zx xs us):zx xs.dropLast us.dropLast:=by
 induction h with
 | nil=>exact .nil
 | cons r t ih =>
  cases t with
  | nil=>exact .nil
  | cons q t'=>exact .cons r ih
theorem zx.eraseIdx:∀ {xs:List V} {us:List Value} (i:Nat),zx xs us→zx (xs.eraseIdx i) (us.eraseIdx i)
 | _,_,_,.nil=>.nil
 | _,_,0,.cons _ t=>t
 | _,_,i+1,.cons r t=>.cons r (zx.eraseIdx i t)
theorem zx.rep {xs:List V} {us:List Value} (h:zx xs us):∀ k:Nat,zx (aq k xs).flatten (aq k us).flatten
 | 0=>.nil
 | k+1=>by
  rw [bG,bG,cw,cw];exact zx.append h (zx.rep h k)
theorem zgW {α:Type} (l:List α):l.eraseIdx (l.length - 1)=l.dropLast:=by
 induction l with
 | nil=>rfl
 | cons a r ih =>
  cases r with
  | nil=>rfl
  | cons b r =>
   have e:(a :: b :: r).length - 1=((b :: r).length - 1)+1:=by
    have h1:(a :: b :: r).length=r.length+2:=rfl;have h2:(b :: r).length=r.length+1:=rfl;lia
   rw [e,List.eraseIdx_cons_succ,ih]
   all_goals rfl
theorem zeO {α:Type}:∀ (l:List α) (i:Nat),(l.eraseIdx i).length≤l.length
 | [],_=>ak _
 | _ :: _,0=>Nat.le_succ _
 | _ :: r,i+1=>Nat.succ_le_succ (zeO r i)
theorem foldl_rep (ir:List Value):∀ (k:Nat) (acc:List Value),
  gT (fun x1 x2=>x1++x2) acc.toArray (aq k ir.toArray)=(acc++(aq k ir).flatten).toArray
 | 0,acc=>by simp
 | k+1,acc=>by
  have e:acc.toArray++ir.toArray=(acc++ir).toArray:=by simp
  have e2:(acc++ir)++(aq k ir).flatten=acc++(aq (k+1) ir).flatten:=by
   rw [bG,cw,gk]
  rw [← e2,← foldl_rep ir k (acc++ir),← e,bG,cQ]
section
variable {X:Cx} {ip:List (Addr×Obj)} {σ:St} {H:Hp} {s:Shared} {l b:Addr} {xs ys zs:List V}
theorem Inv.lset {ir its':List Value} {n:Nat} {f:Array Value→Array Value} {t':Nat} (I:Inv X ip σ H s) (hH:H l=some (.lst xs))
  (e:s.heap.get? l=some { cls:=.type "list",data:=.seq ir.toArray n }) (hf:f ir.toArray=its'.toArray) (hv:zx ys its') (hz:ys.length≤sizeLine) :
  Inv X ip σ (upd H l (.lst ys)) { s with heap:=s.heap.update l (cD f),toks:=t' }:=by
 have q:=gB e f;rw [hf] at q;refine I.write (x:=l) (e:=l) (by rw [hH]; exact trivial) (.inl rfl) (fun b' u hb hu=>(de s.heap (cD f) (bL hb)).trans hu) ⟨_,q⟩ ?_;exact⟨hz,its',_,hv,q⟩
theorem Inv.lnew {ir:List Value} {t':Nat} (I:Inv X ip σ H s) (hv:zx ys ir) (hz:ys.length≤sizeLine) :
  Inv X ip σ (upd H s.heap.objs.size (.lst ys)) { s with heap:=s.heap.push { cls:=.type "list",data:=.seq ir.toArray },toks:=t' } :=
 I.laid (fun _ _ q=>ai _ q) (ak _) ⟨hz,ir,0,hv,au _ rfl⟩
theorem Inv.fresh (I:Inv X ip σ H s):H s.heap.objs.size=none:=I.hok.fresh (ak _)
theorem Inv.lstM (I:Inv X ip σ H s) (hH:H l=some (.lst xs)):xs.length≤sizeLine∧∃ (ir:List Value) (n:Nat),zx xs ir∧xs.length=ir.length∧s.heap.get? l=some { cls:=.type "list",data:=.seq ir.toArray n }:=by
 obtain⟨z,ir,n,r,e⟩:=I.hok l _ hH;exact⟨z,ir,n,r,r.length,e⟩
theorem zji {n:Nat} (h:n≤sizeLine):cV n=false:=by
 unfold cV;exact decide_eq_false #[O]
end
section
variable {X:Cx}
def zlr:V→List V→Hp→VK→Prop:=fun x vs H Q=>∃ l xs y,x = .ref l∧vs = [y]∧H l=some (.lst xs)∧xs.length < sizeLine∧Q .non (upd H l (.lst (xs++[y])))
theorem zcj:MtM X "list.append" zlr:=by
 intro ip s σ H x vs v us Q I rx rv h;obtain⟨l,xs,y,rfl,rfl,hH,hz,q⟩:=h;cases rx;obtain⟨u,rfl,ru⟩:=rv.one;obtain⟨z,ir,n,r,hl,e⟩:=I.lstM hH;refine bQ f8 ⟨_,e,rfl⟩ fL (fA _ _) (gl l ir.toArray n u (by rw [aj]; lia)) ⟨e,?_⟩;refine⟨.non,_,I.lset (its':=ir++[u]) hH e #[M] (r.append (.cons ru .nil)) ?_,rfl,q⟩;rw [bc,fh];lia
def zoU:V→List V→Hp→VK→Prop:=fun x vs H Q=>∃ l xs y,x = .ref l∧vs = []∧H l=some (.lst xs)∧xs[xs.length - 1]? = some y∧Q y (upd H l (.lst xs.dropLast))
theorem zjj:MtM X "list.pop" zoU:=by
 intro ip s σ H x vs v us Q I rx rv h;obtain⟨l,xs,y,rfl,rfl,hH,hy,q⟩:=h;cases rx;have kN:=rv.zero;subst kN;obtain⟨z,ir,n,r,hl,e⟩:=I.lstM hH;obtain⟨u,hu,ru⟩:=r.get hy;have nS:ir.toArray[ir.toArray.size - 1]? = some u:=by
  show ir.toArray[ir.length - 1]? = some u;rw [← cx,← hl];exact hu
 refine bQ F.slot_list_pop ⟨_,e,rfl⟩ gC (F.args_list_pop_1 _) (MeetsSeq.list_pop_last l ir.toArray n u nS (by rw [aj]; lia)) ⟨e,?_⟩;refine⟨y,_,I.lset (its':=ir.dropLast) hH e ?_ r.dropLast ?_,ru,q⟩
 ·show ir.toArray.eraseIdxIfInBounds (ir.toArray.size - 1)=ir.dropLast.toArray;rw [aj,du,zgW]
 ·rw [List.length_dropLast];lia
def zm5:V→List V→Hp→VK→Prop:=fun x vs H Q=>∃ l xs i k y,x = .ref l∧vs = [.int i]∧H l=some (.lst xs)∧-(2 ^ 63)≤i∧i < 2 ^ 63∧seqIndex? i xs.length=some k∧xs[k]? = some y∧Q y (upd H l (.lst (xs.eraseIdx k)))
theorem zjk:MtM X "list.pop" zm5:=by
 intro ip s σ H x vs v us Q I rx rv h;obtain⟨l,xs,i,k,y,rfl,rfl,hH,h1,h2,hk,hy,q⟩:=h;cases rx;obtain⟨u,rfl,ru⟩:=rv.one;obtain⟨t,rfl⟩:=ru;obtain⟨z,ir,n,r,hl,e⟩:=I.lstM hH;obtain⟨w,hw,pj⟩:=r.get hy;refine bQ F.slot_list_pop ⟨_,e,rfl⟩ gC (F.args_list_pop_2 _ _)
  (MeetsSeq.list_pop_at l ir.toArray n i t k w (fitsIndex_both h1 h2) (by rw [aj,← hl]; exact hk) (by rw [← cx]; exact hw) (by rw [aj]; lia)) ⟨e,?_⟩
 refine⟨y,_,I.lset (its':=ir.eraseIdx k) hH e ?_ (r.eraseIdx k) ?_,pj,q⟩
 ·show ir.toArray.eraseIdxIfInBounds k=(ir.eraseIdx k).toArray;rw [du]
 ·have:=zeO xs k;lia
def zoV:R2:=fun x y H Q=>∃ l b xs zs,x = .ref l∧y = .ref b∧H l=some (.lst xs)∧H b=some (.lst zs)∧xs.length+zs.length≤sizeLine∧∀ p,H p=none→Q (.ref p) (upd H p (.lst (xs++zs)))
theorem zc8:OpR X (binaryOp .Add) zoV:=by
 intro ip s σ H x y v u Q I rx ry h;obtain⟨l,b,xs,zs,rfl,rfl,hH,hB,hz,q⟩:=h;cases rx;cases ry;obtain⟨z,ir,n,r,hl,e⟩:=I.lstM hH;obtain⟨z2,kh,n2,r2,lz,e2⟩:=I.lstM hB;refine PySem.P.add_list e e2 ?_ (by rw [aj,aj]; lia);have ea:ir.toArray++kh.toArray=(ir++kh).toArray:=by simp
 rw [ea];exact⟨.ref _,_,I.lnew (t':=s.toks) (r.append r2) (by rw [bc]; lia),rfl,q _ I.fresh⟩
def zoW:R2:=fun x y H Q=>∃ l k xs,x = .ref l∧y = .int k∧H l=some (.lst xs)∧-(2 ^ 63)≤k∧k < 2 ^ 63∧xs.length*k.toNat≤sizeLine ∧
 ∀ p,H p=none→Q (.ref p) (upd H p (.lst (aq k.toNat xs).flatten))
theorem len_rep {α:Type} (xs:List α) (k:Nat):(aq k xs).flatten.length=k*xs.length:=by
 induction k with
 | zero=>simp
 | succ k ih=>rw [bG,cw,bc,ih,Nat.succ_mul,Nat.add_comm]
theorem zdO:OpR X (binaryOp .Mult) zoW:=by
 intro ip s σ H x y v u Q I rx ry h;obtain⟨l,k,xs,rfl,rfl,hH,h1,h2,hz,q⟩:=h;cases rx;obtain⟨t,rfl⟩:=ry;obtain⟨z,ir,n,r,hl,e⟩:=I.lstM hH;have iJ:ir.toArray.size*k.toNat≤sizeLine:=by rw [aj,← hl]; exact hz
 have rj:¬ ir.toArray.size*k.toNat > (2 ^ 63 - 1) / 8:=by
  have:(sizeLine:Nat)≤(2 ^ 63 - 1) / 8:=by decide
  lia
 have rk:¬ (!Builtin.List.listFitsIndex k)=true:=by
  rw [fitsIndex_both h1 h2];exact ay
 have pq:¬ cV (ir.toArray.size*k.toNat)=true:=by
  rw [zji iJ];exact ay
 have rm:gT (fun x1 x2=>x1++x2) #[] (aq (if ir.toArray.isEmpty=true then 0 else k.toNat) ir.toArray)=(aq k.toNat ir).flatten.toArray:=by
  have f0:∀ m:Nat,gT (fun x1 x2=>x1++x2) #[] (aq m ir.toArray)=(aq m ir).flatten.toArray:=fun m=>by
   have:=foldl_rep ir m [];rw [List.nil_append] at this;exact this
  rw [f0];cases ir with
  | nil=>simp
  | cons a r'=>rw [if_neg #[M]]
 refine wpAny_binaryOp_repeat_ref (T:="list") (U:="int") #[D] ⟨_,e,rfl⟩ (fun s'=>gS s' k t) noFill_list_mul F.fills_int_mul F.slot_int_rmul repeat_list F.slot_int_index.lookup
  (bQ F.slot_int_rmul (gS s k t) F.entry_int_rmul (F.args_int_rmul_2 _ _) (int___rmul___int_list k t l ir.toArray n)
   ⟨e,rfl,⟨_,e,rfl⟩,bQ F.slot_list_mul ⟨_,e,rfl⟩ F.entry_list_mul (F.args_list_mul_2 _ _) (AutoListH.list___mul___list_int_3 l ir.toArray n k t rk rj pq) ⟨e,?_⟩⟩)
 rw [rm];exact⟨.ref _,_,I.lnew (t':=s.toks) (r.rep k.toNat) (by rw [len_rep,Nat.mul_comm]; exact hz),rfl,q _ I.fresh⟩
end
end L2
namespace Att
open PySem PySem.W PySem.Calls PyProof.Rows
theorem zdy {P:Params} {h:Heap}:∀ (ns:List Int) (vs:List Value),WellAll P h vs (ns.map WData.int)→IntsAre vs ns:=by
 intro ns;induction ns with
 | nil =>
  intro vs w;rw [f6] at w;cases w;exact .nil
 | cons n ns ih =>
  intro vs w;rw [bp] at w;cases w with
  | cons a b =>
   cases a;exact .cons _ _ (ih _ b)
theorem zh0 {l:OpenLaw} {n:Nat} (hn:l.most=some n) {P:Params} {h:Heap} {args:List WData} {vals:List Value}
  (mS:l.row.toRowW.claim.pre args=true) (nT:WellAll P h vals args) :
  ∃ a vs ns,vals = [aL a]∧args = [WData.list (ns.map WData.int)]∧h.get? a=some { cls:=.type "list",data:=.seq vs.toArray }∧IntsAre vs ns∧ns.length≤n:=by
 have hsh:WShape.hasAll [] args [.list .int]=true:=(pre_splitW mS).1;have hc:l.pre.holds [] { args:=args }=true:=(pre_splitW mS).2;obtain⟨d,r,rfl,h1,h2⟩:=hasAllW_cons hsh;obtain rfl:=hasAllW_nil h2;obtain⟨xs,rfl,h3⟩:=hasW_list h1;obtain⟨ns,rfl⟩:=items_int h3;have iJ:ns.length≤n:=by
  unfold OpenLaw.pre at hc;have h4:(WTm.not (.lt (.lit (.int (n:Int))) (.len (.arg 0)))).holds [] { args:=[.list (ns.map .int)] }=true:=by
   have h4:=(holds_andW hc).1;rw [hn] at h4;exact h4
  have h5:=condW_of h4 (w_not (w_lt w_lit (w_len_list (w_arg rfl))));rw [ah] at h5;refine Nat.le_of_not_lt fun q=>?_
  have q':(n:Int) < ((ns.length:Nat):Int):=by lia
  first
   | (rw [decide_eq_true q'] at h5; exact absurd h5 #[D])
   | (simp at h5; lia)
 cases nT with
 | cons w1 w2 =>
  cases w2;cases w1 with
  | list ho jz=>exact⟨_,_,ns,rfl,rfl,ho,zdy ns _ jz,iJ⟩
theorem zh1 (l:OpenLaw) (args:List WData):l.row.toRowW.claim.post args (.bool true) args=true :=
 postW_of (r:=l.row.toRowW) (X:=(true == true))
  (show WShape.has [] (.bool true) .bool=true by first | rfl | decide | simp [WShape.has,WShape.arms,WShape.armsAll])
  (show (WTm.eq .res (.lit (.bool true))).value [] { args:=args,res:=some (.bool true),after:=args }=some (.bool (true == true)) from w_eq_bool (w_res rfl) w_lit) rfl
theorem attach_call {l:OpenLaw} {n:Nat} {q:Program} {loose:List Str} {XP:(Str→Option Value)→Heap→Prop} {YP:World→Heap→Prop} {d:DefRec}
  (hn:l.most=some n) (pw:d.params.defaults = [])
  (call:∀ (w:World) (s₀ s₁:Shared) (mg mb:Str→Option Value) (fa:Addr) (o:Obj) (pm cd doc:Value) (a:Addr) (vs:List Value) (ns:List Int),
   Ground q loose [] XP w s₀ mg mb s₁.heap→YP w s₁.heap →
   s₁.heap.get? fa=some o→o.data = .func (docDef d.name d.params d.body d.scope pm cd doc)→s₁.heap.CodeRec cd d.name→mg d.name=some (.ref fa) →
   s₁.heap.get? a=some { cls:=.type "list",data:=.seq vs.toArray }→IntsAre vs ns→ns.length≤n→s₁.gens = #[] →
   codeAny (model l.prog w) callerA (.call (.ref fa) ⟨[.ref a],[]⟩) (fun r s'=>r = .ok (.ret (.bool true))∧OldK s₁.heap s'.heap∧s'.os=s₁.os∧AllBare s'.gens) s₁) :
  WalkO q loose XP YP l.row.toRowW d [] (fun f vs=>fB f vs):=by
 intro w s₀ s₁ mg mb G Y fa o pm cd doc dV kV ho hd j9 hD rn hg args vals as mS hlay qA nT hlo;obtain rfl:dV = .none:=Dflts.none hD pw;obtain rfl:kV = .none:=Dflts.noKw hD;obtain⟨a,vs,ns,rfl,rfl,nU,hints,iJ⟩:=zh0 hn mS nT;refine enter_call (bO (call w s₀ s₁ mg mb fa o pm cd doc a vs ns G Y ho (fd_plain hd) j9 rn nU hints iJ hg) fun r s' hq=>?_);obtain⟨rfl,h2,h3,h4⟩:=hq;exact⟨.inl ⟨.bool true,.bool true,[],rfl,fun _=>rfl,.bool true,zh1 l _,fun _=>⟨List.Pairwise.nil,fun _ hm=>(nomatch hm)⟩⟩,h2,h3,h4⟩
end Att
namespace L2
open PySem PySem.Spec PyProof.Rows
theorem zeP:∀ {vs:List Value} {ns:List Int},IntsAre vs ns→zx (ns.map V.int) vs
 | _,_,.nil=>.nil
 | _,_,.cons n t h=>.cons ⟨t,rfl⟩ (zeP h)
def zm6 (H:Hp):Prop:=∀ b,H b=none∨∃ o xs,H b=some (.frz o (.lst xs))
theorem zjl {P:Program} {w:World} {K:af} {mg mb:Str→Option Value} {CX:CXT} {k:Nat} {fa a:Addr} {fd:FuncData} {x:Str} {sp:Sp} {s₁:Shared} {vs:List Value} {ns:List Int}
  (KX:K.In s₁.heap) (qB:s₁.heap.Ns mainGlobals mg) (hb:s₁.heap.Ns builtinsNs mb) (hbb:∀ x:Str,x≠"__name__"→mb x=bootBuiltins x) (rq:s₁.heap.NoLimit) (hg:s₁.gens = #[])
  (ha:s₁.heap.get? a=some { cls:=.type "list",data:=.seq vs.toArray }) (hi:IntsAre vs ns) (hl:ns.length≤sizeLine) (hr:Room k callerA)
  (F:∀ base:Heap,K.In base→base.Ns mainGlobals mg→FnOk P w K mg base CX k fa fd [x] sp) (pA:∀ (s:Shared) (u:Value),BindsTo s fd ⟨[u],[]⟩ [(x,u)])
  (kb:∀ H:Hp,zm6 H→iw K H a (ns.map V.int)→sp [.ref a] H (fun v _=>v = .bl true) fun _ _ _=>False)
  (rA:∀ H e s',CX [] H s₁ (fun _ _ _=>False) e s'→False) :
  codeAny (model P w) callerA (.call (.ref fa) ⟨[.ref a],[]⟩) (fun r s'=>r = .ok (.ret (.bool true))∧OldK s₁.heap s'.heap∧s'.os=s₁.os∧AllBare s'.gens) s₁:=by
 have rv:=zeP hi;have rB:=hi.length;have core:∀ H:Hp,zm6 H→iw K H a (ns.map V.int)→HOk P w H s₁.heap→(∀ b,H b≠none→b=a)→(H a≠none→K.lookup a=none) →
   codeAny (model P w) callerA (.call (.ref fa) ⟨[.ref a],[]⟩) (fun r s'=>r = .ok (.ret (.bool true))∧OldK s₁.heap s'.heap∧s'.os=s₁.os∧AllBare s'.gens) s₁:=by
  intro H hO hS hok hA hK;have ll:∀ {b:Addr} {o:Obj},s₁.heap.get? b=some o→H b=none→(ze8 s₁.heap H).get? b=some o:=fun e n=>zi3 e n
  have nR:∀ {b:Addr} {o:Obj} {es:Array DictEntry} {ep:Nat},s₁.heap.get? b=some o→o.data = .dict es ep→H b=none:=fun {b o es ep} e d=>by
   cases q:H b with
   | none=>rfl
   | some u =>
    have e':b=a:=hA b (by rw [q]; simp);subst e';rw [ha] at e; cases e;have d':Data.seq vs.toArray _=Data.dict es ep:=d;cases d'
  have qC:∀ {b:Addr} {m:Str→Option Value},s₁.heap.Ns b m→(ze8 s₁.heap H).Ns b m:=fun {b m} ⟨o,es,ep,e,d,r⟩=>⟨o,es,ep,ll e (nR e d),d,r⟩
  have hKb:K.In (ze8 s₁.heap H):=fun b o e=>ll (KX b o e) (by
   cases q:H b with
   | none=>rfl
   | some u =>
    have e':b=a:=hA b (by rw [q]; simp);subst e';rw [hK (by rw [q]; simp)] at e; cases e)
  have hM:Mod K mg (ze8 s₁.heap H):=⟨hKb,qC qB,⟨mb,qC hb,hbb⟩,let ⟨mc,h1,h2⟩:=rq; ⟨mc,qC h1,h2⟩⟩;have e0:Env0 P w K mg (ze8 s₁.heap H) callerA [] s₁ H:=⟨rfl,hM,fun b o e=>zli e,Nat.le_of_eq (zhS _ _),trivial,fun b hb=>absurd (show b∈([]:List Addr) from hb) #[M],hok,.of_eq hg⟩;refine bO ((F _ hKb (qC qB)).run callerA [] s₁ H ⟨[.ref a],[]⟩ [.ref a] [.ref a] _ _ hr e0 (pA s₁ (.ref a)) (.cons rfl .nil) (kb H hO hS)) fun r s' h=>?_
  cases r with
  | error e=>exact (rA H e s' h).elim
  | ok fl =>
   cases fl with
   | next=>exact aW h
   | brk=>exact aW h
   | cont=>exact aW h
   | ret u =>
    obtain⟨v,H',os,bare,un,rC,r',q⟩:=h;have q':v = .bl true:=q;subst q';obtain rfl:u=cn true:=r';refine⟨rfl,OldK.of_keep fun b o e=>?_,os,bare⟩;cases q:H b with
    | none=>exact un.keep b o e q (by intro z; exact absurd (show b∈([]:List Addr) from z) #[M]) #[M]
    | some u =>
     rcases hO b with z | ⟨ob,xs,z⟩
     ·rw [q] at z; cases z
     ·have z2:=un.frzs b ob _ z;obtain⟨e1,_⟩:=hok b _ z;obtain⟨e2,_⟩:=rC b _ z2;rw [e] at e1; cases e1;exact e2
 cases hk:K.lookup a with
 | some o =>
  have e:=KX a o hk;rw [ha] at e;cases e;refine core (fun _=>none) (fun _=>.inl rfl) (.inr ⟨_,vs.toArray,_,hk,rfl,rfl,rfl,by rw [aj,rB]; exact hl,by simpa using rv⟩) (fun b u z=>by have z':(none:Option HO)=some u:=z; cases z') (fun b z=>absurd rfl z) fun z=>absurd rfl z
 | none =>
  refine core (fun b=>if b=a then some (.frz { cls:=.type "list",data:=.seq vs.toArray } (.lst (ns.map V.int))) else none) (fun b=>?_) (.inl (.inr ⟨{ cls:=.type "list",data:=.seq vs.toArray },if_pos rfl⟩)) (fun b u z=>?_) (fun b z=>?_) fun _=>hk
  ·by_cases hb:b=a
   ·exact .inr ⟨_,_,if_pos hb⟩
   ·exact .inl (if_neg hb)
  ·by_cases hb:b=a
   ·have z':=(if_pos hb).symm.trans z;cases z';subst hb;exact⟨ha,by rw [ah]; exact hl,vs,_,rv,ha⟩
   ·have z':=(if_neg hb).symm.trans z;cases z'
  ·by_cases hb:b=a
   ·exact hb
   ·exact absurd (if_neg hb) z
theorem zls {l:eT} {n k:Nat} {q:Program} {loose:List Str} {XP:(Str→Option Value)→Heap→Prop} {YP:World→Heap→Prop} {d:DefRec} {K:Params→af} {CX:World→CXT} {sp:World→Sp} {x:Str}
  (hn:l.most=some n) (oJ:n≤sizeLine) (pw:d.params.defaults = []) (hr:Room k callerA)
  (hY:∀ (w:World) (h:Heap),YP w h→(K w.params).In h)
  (F:∀ (w:World) (mg:Str→Option Value) (fa:Addr) (h:Heap),(K w.params).In h→h.Ns mainGlobals mg→mg d.name=some (.ref fa) →
   ∃ fd:FuncData,(∀ (s:Shared) (u:Value),BindsTo s fd ⟨[u],[]⟩ [(x,u)]) ∧
    ∀ base:Heap,(K w.params).In base→base.Ns mainGlobals mg→FnOk l.prog w (K w.params) mg base (CX w) k fa fd [x] (sp w))
  (kb:∀ (w:World) (H:Hp) (a:Addr) (ns:List Int),ns.length≤n→zm6 H→iw (K w.params) H a (ns.map V.int)→sp w [.ref a] H (fun v _=>v = .bl true) fun _ _ _=>False)
  (rA:∀ (w:World) (H:Hp) (s:Shared) (e:Value) (s':Shared),CX w [] H s (fun _ _ _=>False) e s'→False) :
  hZ q loose XP YP l.row.toRowW d [] (fun f vs=>fB f vs):=by
 refine Att.attach_call hn pw fun w s₀ s₁ mg mb fa o pm cd doc a vs ns G Y ho hd j9 rn nU hints iJ hg=>?_
 have KX:=hY w _ Y;obtain⟨fd,hb,hF⟩:=F w mg fa _ KX G.T.g rn;exact zjl KX G.T.g G.T.b G.T.builtins G.T.nolimit hg nU hints (aZ iJ oJ) hr hF hb (fun H hO hS=>kb w H a ns iJ hO hS) fun H e s'=>rA w H s₁ e s'
def inClass (s:Stmt) (j:Nat):Stmt:=match s with
 | .ClassDef _ _ _ body _ _ _ _ _ _ _=>body.getD j (.Pass ⟨0,0,0,0⟩)
 | _=>.Pass ⟨0,0,0,0⟩
def zck (s:Stmt):Arguments:=match s with
 | .FunctionDef _ a _ _ _ _ _ _ _ _=>a
 | _=>{ posonlyargs:=[],args:=[],vararg:=none,kwonlyargs:=[],kw_defaults:=[],kwarg:=none,defaults:=[] }
def zbf (s:Stmt):List Stmt:=match s with
 | .FunctionDef _ _ b _ _ _ _ _ _ _=>b
 | _=>[]
def zj (s:Stmt):Scope:=match s with
 | .FunctionDef _ _ _ _ _ _ sc _ _ _=>sc
 | _=>{ kind:=.function,names:=[],isGenerator:=false,isCoroutine:=false }
abbrev CX0:CXT:=fun _ _ _ _ _ _=>False
abbrev E0:XK:=fun _ _ _=>False
theorem z7 {X:Cx}:zbh CX0 X E0:=fun _ _ _ _ _ _ _ h=>h.elim
structure Fun (K:af) (x qual:Str) (st:Stmt) (f:Addr) (fd:FuncData):Prop where
 ex:∃ (oc:Value) (od:Option Addr) (kV doc pm:Value) (an:Option Addr) (iy ct:Value) (lR:Array (Option Value)),
  fd=bP x qual (zck st) (zbf st) (zj st) .none kV doc pm an iy ct∧K.lookup f=some ⟨oc,od,.func fd,lR⟩∧cZ K iy qual=true
 kp:bC K (.ref f)=true
section
variable {P:Program} {w:World} {K:af} {mg:Str→Option Value} {base:Heap}
theorem Fun.ok {x qual:Str} {st:Stmt} {f:Addr} {fd:FuncData} {N ps:List Str} {k:Nat} {sp:Sp} (F:Fun K x qual st f fd) (S:FnScope N ps (zj st)) (len:∀ vs H Q E,sp vs H Q E→vs.length=ps.length)
  (jk:∀ (iy:Value) (A:Around) (outer:List Env) (s:Shared) (H:Hp) (vs:List V) (Q:VK) (E:XK),Room k (A.deeper (envOfC qual (zj st) s.heap.objs.size f iy))→sp vs H Q E →
   ∃ t,PSs (zbs CX0 P w K mg base N qual (zj st) f iy A outer s H E).nox (zbf st) t∧t { nx:=fun _ H'=>Q .non H',rt:=Q } (start N vs) H):FnOk P w K mg base CX0 (k+1) f fd ps sp:=by
 obtain⟨oc,od,kV,doc,pm,an,iy,ct,lR,rfl,lk,j9⟩:=F.ex;refine zmL lk j9 S len fun A outer s H vs Q E hr kb=>?_
 obtain⟨t,h,q⟩:=jk iy A outer s H vs Q E hr kb;exact⟨t,h.nox,q⟩
theorem Fun.binds {x qual:Str} {st:Stmt} {f:Addr} {fd:FuncData} {ps:List Str} (F:Fun K x qual st f fd)
  (h:∀ (kV doc pm:Value) (an:Option Addr) (iy ct:Value) (us:List Value),us.length=ps.length→bindArgs (bP x qual (zck st) (zbf st) (zj st) .none kV doc pm an iy ct) ⟨us,[]⟩=pure (ps.zip us)):Binds K fd ps []:=by
 obtain⟨oc,od,kV,doc,pm,an,iy,ct,lR,rfl,lk,j9⟩:=F.ex;exact .all (h kV doc pm an iy ct)
theorem zm7 {x qual:Str} {st:Stmt} {f:Addr} {oc:Value} {od an:Option Addr} {lR:Array (Option Value)} {kV doc pm iy ct:Value} (l:K.lookup f=some ⟨oc,od,.func (bP x qual (zck st) (zbf st) (zj st) .none kV doc pm an iy ct),lR⟩)
  (c:cZ K iy qual=true) (k:bC K (.ref f)=true):Fun K x qual st f (bP x qual (zck st) (zbf st) (zj st) .none kV doc pm an iy ct):=⟨⟨oc,od,kV,doc,pm,an,iy,ct,lR,rfl,l,c⟩,k⟩
end
section
variable {X:Cx}
theorem pv (i:Nat) {x:Str} {pos:Pos} (hN:X.N[i]? = some x:=by rfl) (hv:Vis X.env.scope x:=by first | exact ae rfl | exact aa #[A] | exact aa (aa rfl)) (hd:(x == ("__debug__" : Str))=false:=by decide)
  (j9:(x == ("__classdict__" : Str))=false:=by decide):PE X (.Name x pos) (zn2 i):=zmT hN hv hd j9
end
theorem zag {A B:Prop} (h:B):if false=true then A else B:=by
 rw [if_neg ay];exact h
theorem zaA {A B:Prop} (h:A):if true=true then A else B:=by
 rw [if_pos rfl];exact h
theorem zcu {c A B:Prop} [Decidable c] (h1:c→A) (h2:¬ c→B):if c then A else B:=by
 by_cases h:c
 ·rw [if_pos h];exact h1 h
 ·rw [if_neg h];exact h2 h
theorem zeQ {c A B:Prop} [Decidable c] (hc:c) (h:B):if (!decide c)=true then A else B:=by
 rw [decide_eq_true hc];exact zag h
def zJ (H H':Hp):Prop:=∀ b o,H b=some o→H' b=some o
theorem zJ.trans {H H1 H2:Hp} (a:zJ H H1) (b:zJ H1 H2):zJ H H2:=fun c o h=>b c o (a c o h)
theorem zJ.free {H H':Hp} (e:zJ H H') {l:Addr} (h:H' l=il):H l=il:=by
 cases q:H l with
 | none=>rfl
 | some o =>
  rw [e l o q] at h;cases h
theorem zJ.seq {K:af} {H H':Hp} {a:Addr} {xs:List V} (e:zJ H H') (h:iw K H a xs):iw K H' a xs:=by
 rcases h with (h | ⟨o,h⟩) | h
 ·exact .inl (.inl (e _ _ h))
 ·exact .inl (.inr ⟨o,e _ _ h⟩)
 ·exact .inr h
end L2
section
namespace L2
open PySem
abbrev Ends.n (D:Ends) (N:St→Hp→Prop):Ends:={ D with nx:=N }
section
variable {r1 r2 r3 r4 r5 r6 r7 r8 r9 r10 r11 r12 r13 r14 r15:TS} {D:Ends} {σ:St} {H:Hp}
theorem zm8 (h:let N2:=r2 D; r1 (D.n N2) σ H):(zbA r1 r2) D σ H:=h
theorem zm9 (h:let N3:=r3 D; let N2:=r2 (D.n N3); r1 (D.n N2) σ H):(zbA r1 (zbA r2 r3)) D σ H:=h
theorem zlu (h:let N4:=r4 D; let N3:=r3 (D.n N4); let N2:=r2 (D.n N3); r1 (D.n N2) σ H):(zbA r1 (zbA r2 (zbA r3 r4))) D σ H:=h
theorem zoX (h:let N5:=r5 D; let N4:=r4 (D.n N5); let N3:=r3 (D.n N4); let N2:=r2 (D.n N3); r1 (D.n N2) σ H):(zbA r1 (zbA r2 (zbA r3 (zbA r4 r5)))) D σ H:=h
theorem zoY (h:let N8:=r8 D; let N7:=r7 (D.n N8); let N6:=r6 (D.n N7); let N5:=r5 (D.n N6); let N4:=r4 (D.n N5); let N3:=r3 (D.n N4); let N2:=r2 (D.n N3); r1 (D.n N2) σ H):(zbA r1 (zbA r2 (zbA r3 (zbA r4 (zbA r5 (zbA r6 (zbA r7 r8))))))) D σ H:=h
theorem zb0 {X0:Cx} {B:List PySem.Stmt} (h:let X:=X0; ∃ t,PSs X B t∧t D σ H):∃ t,PSs X0 B t∧t D σ H:=h
end
end L2
end
section
namespace L2
open PySem PySem.Spec PyProof.Rows
def zad (cs:List (Str×Addr)):List (Str×NameKind)→List (Str×Addr)→List (Str×Addr)
 | [],acc=>acc
 | (n,k) :: r,acc=>if k == .free then zad cs r ((n,(cs.lookup n).getD 0) :: acc) else zad cs r acc
theorem zcA {scope:Scope} {env:Env} (h:∀ y∈scope.names,y.2 = .free→∃ c,env.cells.lookup y.1=some c) :
  closureFor scope env=pure (zad env.cells scope.names []):=by
 have go:∀ (names:List (Str×NameKind)) (acc:List (Str×Addr)),(∀ y∈names,y.2 = .free→∃ c,env.cells.lookup y.1=some c) →
   (forIn names acc (fun (x:Str×NameKind) (cs:List (Str×Addr))=>(if (x.2 == ba)=true then do
    let a ← cellOf env x.1
    pure (cR ((x.1,a) :: cs)) else pure (cR cs):Sem (ForInStep (List (Str×Addr))))))=(pure (zad env.cells names acc):Sem _):=by
  intro names;induction names with
  | nil=>intro acc _; rfl
  | cons y r ih =>
   intro acc hy;obtain⟨n,k⟩:=y;rw [bE];cases hk:(k == ba) with
   | true =>
    obtain⟨c,hc⟩:=hy (n,k) aT (by simpa using hk);have ka:cellOf env n=pure c:=by
     unfold cellOf;have iO:env.cells.lookup n=some c:=hc;rw [iO]
    simp only [hk,if_true,ka];have e:=ih ((n,c) :: acc) fun y nS=>hy y (aI _ nS)
    have iO:env.cells.lookup n=some c:=hc;simp only [zad,hk,if_true,iO,gD];exact e
   | false =>
    simp only [hk,bx,if_false];have e:=ih acc fun y nS=>hy y (aI _ nS)
    simp only [zad,hk,bx,if_false];exact e
 have e:=go scope.names [] h;unfold closureFor;show (forIn scope.names [] _ >>= fun cs=>pure cs)=_
 first
  | (rw [e]; rfl)
  | (simp only []; rw [e]; rfl)
  | (have e':=e; simp at e' ⊢; exact e')
theorem zbx {cs:List (Str×Addr)}:∀ (names:List (Str×NameKind)) (acc:List (Str×Addr)),
  (∀ y∈names,y.2 = .free→∃ c,cs.lookup y.1=some c)→(∀ x c,acc.lookup x=some c→cs.lookup x=some c) →
  ∀ x c,(zad cs names acc).lookup x=some c→cs.lookup x=some c
 | [],acc,_,h,x,c,e=>h x c e
 | (n,k) :: r,acc,hy,h,x,c,e=>by
  have hr:∀ y∈r,y.2 = .free→∃ c,cs.lookup y.1=some c:=fun y nS=>hy y (aI _ nS)
  unfold zad at e;cases hk:(k == ba) with
  | false =>
   rw [hk] at e;exact zbx r acc hr h x c e
  | true =>
   rw [hk] at e;obtain⟨d,hd⟩:=hy (n,k) aT (by simpa using hk);have lQ:cs.lookup n=some d:=hd;refine zbx r _ hr (fun x c e'=>?_) x c e;rw [lQ,gD,aH] at e';cases hx:(x == n) with
   | true =>
    rw [hx] at e';have:x=n:=by simpa using hx
    subst this;rw [lQ];exact e'
   | false =>
    rw [hx] at e';exact h x c e'
theorem zbO {cs:List (Str×Addr)}:∀ (names:List (Str×NameKind)) (acc:List (Str×Addr)) (x:Str),
  ((∃ c,acc.lookup x=some c)∨(x,ba)∈names)→∃ c,(zad cs names acc).lookup x=some c
 | [],acc,x,h=>by
  rcases h with h | h
  ·exact h
  ·cases h
 | (n,k) :: r,acc,x,h=>by
  unfold zad;cases hk:(k == ba) with
  | false =>
   refine zbO r acc x ?_;rcases h with h | h
   ·exact .inl h
   ·rcases am.mp h with h | h
    ·cases h;exact absurd hk #[D]
    ·exact .inr h
  | true =>
   refine zbO r _ x ?_;cases hx:(x == n) with
   | true=>exact .inl ⟨_,by rw [aH,hx]⟩
   | false =>
    rcases h with ⟨c,h⟩ | h
    ·exact .inl ⟨c,by rw [aH,hx]; exact h⟩
    ·rcases am.mp h with h | h
     ·cases h;simp at hx
     ·exact .inr h
theorem lookup_mem {α:Type}:∀ {l:List (Str×α)} {x:Str} {k:α},l.lookup x=some k→(x,k)∈l
 | [],x,k,h=>by simp at h
 | (n,j) :: r,x,k,h=>by
  rw [aH] at h;cases hx:(x == n) with
  | true =>
   rw [hx] at h;have:x=n:=by simpa using hx
   subst this;cases h;exact aT
  | false =>
   rw [hx] at h;exact aI _ (lookup_mem h)
theorem zbb {env:Env}:∀ {names:List (Str×NameKind)} {x:Str},names.lookup x=some .free →
  (names.map fun (n,k)=>if (k == ba && env.scope.kind == .function && env.kindOf n == some .cell) then (n,bJ) else (n,k)).lookup x=some .cell ∨
  (names.map fun (n,k)=>if (k == ba && env.scope.kind == .function && env.kindOf n == some .cell) then (n,bJ) else (n,k)).lookup x=some .free
 | [],_,h=>by simp at h
 | (n,k) :: r,x,h=>by
  have ih:=@zbb env r x;simp only [bp];cases hx:x == n with
  | true =>
   simp only [aH,hx] at h; cases h;by_cases hc:(ba == ba && env.scope.kind == .function && env.kindOf n == some .cell)=true
   ·rw [if_pos hc]; left; simp only [aH,hx]
   ·rw [if_neg hc]; right; simp only [aH,hx]
  | false =>
   simp only [aH,hx] at h; rcases f9 ((k == ba && env.scope.kind == .function && env.kindOf n == some .cell)=true) with hc | hc
   ·exact (by rw [if_pos hc]; simp only [aH,hx]; exact ih h)
   ·exact (by rw [if_neg hc]; simp only [aH,hx]; exact ih h)
theorem zcR {env:Env}:∀ {names:List (Str×NameKind)} {x:Str},
  ((names.map fun (n,k)=>if (k == ba && env.scope.kind == .function && env.kindOf n == some .cell) then (n,bJ) else (n,k)).lookup x=some .cell ∨
  (names.map fun (n,k)=>if (k == ba && env.scope.kind == .function && env.kindOf n == some .cell) then (n,bJ) else (n,k)).lookup x=some .free) →
  names.lookup x=some .free∨names.lookup x=some .cell
 | [],_,h=>by simp at h
 | (n,k) :: r,x,h=>by
  have ih:=@zcR env r x;simp only [bp] at h;cases hx:x == n with
  | true =>
   rcases f9 ((k == ba && env.scope.kind == .function && env.kindOf n == some .cell)=true) with hc | hc
   ·have hk:k = .free:=by
     simp only [aF] at hc; simpa using hc.1.1
    subst hk;exact .inl (by simp only [aH,hx])
   ·rw [if_neg hc] at h;simp only [aH,hx] at h ⊢;rcases h with h | h
    ·exact .inr h
    ·exact .inl h
  | false =>
   rcases f9 ((k == ba && env.scope.kind == .function && env.kindOf n == some .cell)=true) with hc | hc
   ·rw [if_pos hc] at h;simp only [aH,hx] at h ⊢;exact ih h
   ·rw [if_neg hc] at h;simp only [aH,hx] at h ⊢;exact ih h
theorem zfh:∀ (names:List (Str×NameKind)) (n:Nat) (acc:List (Str×Addr)) (x:Str),(x,bJ)∉names→(cellsFrom n names acc).lookup x=acc.lookup x
 | [],_,_,_,_=>rfl
 | (y,k) :: r,n,acc,x,h=>by
  have hr:(x,bJ)∉r:=fun z=>h (aI _ z)
  unfold cellsFrom;split
  ·rename_i hk
   have oK:k = .cell:=by simpa using hk
   rw [zfh r _ _ x hr,aH];cases hx:(x == y) with
   | true =>
    have:x=y:=by simpa using hx
    subst this;subst oK;exact absurd aT h
   | false=>rfl
  ·exact zfh r _ _ x hr
theorem zfi:∀ (names:List (Str×NameKind)) (n:Nat) (acc:List (Str×Addr)) (x:Str),(x,bJ)∈names→∃ c,(cellsFrom n names acc).lookup x=some c∧n≤c
 | (y,k) :: r,n,acc,x,h=>by
  by_cases hr:(x,bJ)∈r
  ·unfold cellsFrom;split
   ·obtain⟨c,e,l⟩:=zfi r (n+1) ((y,n) :: acc) x hr;exact⟨c,e,#[O]⟩
   ·exact zfi r n acc x hr
  ·rcases am.mp h with e | e
   ·cases e;unfold cellsFrom;rw [if_pos #[D],zfh r _ _ _ hr,aH,beq_self_eq_true];exact⟨n,rfl,ak _⟩
   ·exact absurd e hr
structure CO (h:Heap) (lo:Nat) (old cs:List (Str×Addr)):Prop where
 each:∀ x c,cs.lookup x=some c→(h.IsCell c none∧lo≤c)∨(old.lookup x=some c∧c < lo)
 inj:∀ x y c,cs.lookup x=some c→cs.lookup y=some c→x=y
theorem zjm {lo:Nat} {old:List (Str×Addr)}:∀ (names:List (Str×NameKind)) (h:Heap) (acc:List (Str×Addr)),CO h lo old acc→lo≤h.objs.size→CO (pushCells h names) lo old (cellsFrom h.objs.size names acc)
 | [],_,_,a,_=>a
 | (y,k) :: r,h,acc,a,hl=>by
  unfold pushCells cellsFrom;split
  ·have lt:∀ x c,acc.lookup x=some c→c < h.objs.size:=fun x c e=>(a.each x c e).elim (fun z=>z.1.lt) fun z=>aB z.2 hl
   have key:∀ x c,bH x ((y,h.objs.size) :: acc)=some c→(x=y∧c=h.objs.size)∨acc.lookup x=some c:=fun x c e=>by
    rw [aH] at e;cases hx:(x == y) with
    | true =>
     rw [hx] at e;exact .inl ⟨by simpa using hx,(az e).symm⟩
    | false =>
     rw [hx] at e;exact .inr e
   have:=zjm (lo:=lo) (old:=old) r (h.push { cls:=.type "cell",data:=.cell none }) ((y,h.objs.size) :: acc) ⟨fun x c e=>?_,fun x z c e1 e2=>?_⟩ (by rw [aD]; lia)
   ·rw [aD] at this;exact this
   ·rcases key x c e with ⟨_,rfl⟩ | e
    ·exact .inl ⟨⟨_,au _ rfl,rfl⟩,hl⟩
    ·rcases a.each x c e with z | z
     ·exact .inl ⟨z.1.keeps fun b o e=>ai _ e,z.2⟩
     ·exact .inr z
   ·rcases key x c e1 with ⟨p1,q1⟩ | f1 <;> rcases key z c e2 with ⟨p2,q2⟩ | f2
    ·exact p1.trans p2.symm
    ·exact absurd (lt _ _ f2) (by rw [q1]; exact bi _)
    ·exact absurd (lt _ _ f1) (by rw [q2]; exact bi _)
    ·exact a.inj x z c f1 f2
  ·exact zjm r h acc a hl
theorem zh2 {M:Model} {A:Around} {E:Value→Shared→Prop} {s:Shared} {scope:Scope} {globals:Addr} {closure:List (Str×Addr)} {qual:Str} {env:Env} {Q:Env→Shared→Prop}
  (h:Q (newEnv scope s.heap.objs.size globals (cellsFrom (s.heap.objs.size+1) scope.names closure) qual none .none (some env) builtinsNs) { s with heap:=pushCells (s.heap.push { cls:=.type "dict",data:=.dict #[] }) scope.names }) :
  wpAny M A (newFunctionEnv scope globals closure [] qual none .none (some env)) Q E s:=by
 (simp only [newFunctionEnv,Option.isSome_some,if_true])
 (refine ag (wpAny_alloc ?_))
 (refine ag (wpAny_layCells _ (fun name kind cells=>by cases hkc:kind == bJ <;> simp [hkc]) _ _ _ _ ?_))
 rw [show ({ s with heap:=s.heap.push { cls:=.type "dict",data:=.dict #[] } }:Shared).heap.objs.size=s.heap.objs.size+1 from aD ..]
 (exact ag (al (al h)))
abbrev zat (X:Cx) (N':List Str) (scope:Scope) (s₃:Shared) (H₃:Hp) (ex:List Addr) (ip:List (Addr×Obj)):Cx :=
 { X with N:=N',s₀:=s₃,H₀:=H₃,env:=compEnvC scope (cellsFrom (s₃.heap.objs.size+1) scope.names (zad X.env.cells scope.names [])) s₃.heap.objs.size X.env,outer:=X.stack,stack:=X.stack,ex:=ex,fn:=fun x=>scope.names.lookup x == some .cell,pn:=X.pn++ip,xe:=fun _ _=>False }
def zgX (ifs:List Expr) (env:Env):Sem Bool :=
 forIn ifs true fun c r=>if r=true then do let ok ← isTrue c env (eval c env); pure (cR ok) else pure (cR r)
def zf3 (X:Cx) (ifs:List Expr) (t:TT):Prop :=
 ∀ (ip:List (Addr×Obj)) (s:Shared) (σ:St) (H:Hp) (Q:Bool→Hp→Prop),Inv X ip σ H s→t σ H Q→wpAny (model X.prog X.w) X.A (zgX ifs X.env) (TP X ip σ Q) X.xe s
def zh3:TT:=fun _ H Q=>Q true H
theorem zaB {X:Cx}:zf3 X [] zh3:=fun _ _ _ H _ I h=>al ⟨H,I,h⟩
theorem zjn {X:Cx} {c:Expr} {t:TT} (h:PT X c t):zf3 X [c] t:=by
 intro ip s σ H Q I hw;unfold zgX;rw [bE];simp only [if_true];exact ag (ag (thn (h ip s σ H _ I hw) fun b s1 q=>al (al q)))
structure CompSc (X:Cx) (N':List Str) (ix:List (Option Nat)) (scope:Scope):Prop where
 kind:scope.kind = .function
 cells:∀ y∈scope.names,y.2 = .cell→scope.names.lookup y.1=some .cell
 names:∀ y∈scope.names,y.2 = .local→scope.names.lookup y.1=some .local
 free:∀ y∈scope.names,y.2 = .free→X.env.kindOf y.1=some .cell∨X.env.kindOf y.1=some .free
 len:N'.length=ix.length
 cap:∀ j i:Nat,ix[j]? = some (some i)→∃ x,N'[j]? = some x∧X.N[i]? = some x∧scope.names.lookup x=some .free
def zhI (oM:Scope) (oN N':List Str) (ix:List (Option Nat)) (scope:Scope):Bool :=
 (scope.kind == .function) && (scope.names.all fun y=>y.2 != .cell || scope.names.lookup y.1 == some .cell) && (scope.names.all fun y=>y.2 != .local || scope.names.lookup y.1 == some .local) &&
 (scope.names.all fun y=>y.2 != .free || (oM.names.lookup y.1 == some .cell || oM.names.lookup y.1 == some .free)) && (N'.length == ix.length) &&
 ((aV ix.length).all fun j=>match ix[j]? with
  | some (some i)=>(match N'[j]? with
   | some x=>oN[i]? == some x && scope.names.lookup x == some .free
   | none=>false)
  | _=>true)
theorem CompSc.of {X:Cx} {N':List Str} {ix:List (Option Nat)} {scope:Scope} (oM:Scope) (oN:List Str) (h1:X.env.scope=oM) (h2:X.N=oN) (hb:zhI oM oN N' ix scope=true):CompSc X N' ix scope:=by
 unfold zhI at hb;simp only [aF,bz] at hb;obtain⟨⟨⟨⟨⟨a,b⟩,c⟩,d⟩,e⟩,f⟩:=hb;refine⟨?_,fun y hy hl=>?_,fun y hy hl=>?_,fun y hy hf=>?_,by simpa using e,fun j i hj=>?_⟩
 ·revert a
  cases scope.kind <;> first | (intro _; rfl) | (intro h; exact absurd h #[D])
 ·have:=b y hy;rw [hl] at this;simpa using this
 ·have:=c y hy;rw [hl] at this;simpa using this
 ·have:=d y hy;rw [hf] at this;have e1:X.env.kindOf y.1=oM.names.lookup y.1:=by rw [← h1]; rfl
  rw [e1];simpa using this
 ·have jE:j < ix.length:=(aC.mp hj).1;have:=f j (bS.mpr jE);rw [hj] at this;cases hN:N'[j]? with
  | none =>
   rw [hN] at this;simp at this
  | some x =>
   rw [hN] at this;refine⟨x,rfl,?_⟩;rw [h2];simpa using this
def zcS (ix:List (Option Nat)) (σ:St):St:=ix.map fun o=>match o with
 | none=>none
 | some i=>(σ[i]?).join
theorem Inv.track {X:Cx} {ip:List (Addr×Obj)} {σ:St} {H:Hp} {s:Shared} {D:Addr} {o:HO} (I:Inv X ip σ H s) (hn:H D=none) (hs:X.s₀.heap.objs.size≤D) (hL:X.env.locals≠D)
  (hC:∀ x c,X.env.cells.lookup x=some c→c≠D) (hp:∀ p∈X.pn++ip,p.1≠D) (ok:zal X.prog X.w (upd H D o) s.heap D o):Inv X ip σ (upd H D o) s:=by
 have ne:∀ b u,H b=some u→b≠D:=fun b u e=>zi e hn
 refine⟨I.ok,I.os,I.bare,⟨I.base.keep,I.base.slot,fun b u e n hx=>?_,I.base.there,fun b xs e=>?_,fun b u xs e=>?_,fun b ps e=>?_⟩,I.loc,I.cell,?_,fun x c e=>?_,fun p mT=>?_,fun b u e=>?_,I.len⟩
 ·have:b≠D:=aA (aB (av e) hs);rw [zc this];exact I.base.free b u e n hx
 ·have:=I.base.tups b xs e;rw [zc (ne b _ this)];exact this
 ·have:=I.base.frzs b u xs e;rw [zc (ne b _ this)];exact this
 ·obtain⟨more,q⟩:=I.base.tbls b ps e;exact⟨more,by rw [zc (ne b _ q)]; exact q⟩
 ·rw [zc hL];exact I.free
 ·rw [zc (hC x c e)];exact I.freeC x c e
 ·obtain⟨a1,a2,a3⟩:=I.pin p mT;exact⟨a1,by rw [zc (hp p mT)]; exact a2,a3⟩
 ·by_cases hb:b=D
  ·subst hb;rw [zb] at e;cases e;exact ok
  ·rw [zc hb] at e;exact (I.hok b u e).stay (fun c v _ q=>q) (fun c q=>by rw [zc (ne c _ q)]; exact q) fun c xs q=>by rw [zc (ne c _ q)]; exact q
def cGo (g:TG) (ts:TT) (te:TE) (σ0:St) (J:It) (Q:VK) (H1:Hp):Prop :=
 ∃ W:Nat→Nat→List V→Hp→Prop,(∃ m,W 0 m [] H1)∧∀ i m ys H,W i m ys H →
  (J.stop i H∧∀ D,H D=none→Q (.ref D) (upd H D (.lst ys))) ∨
  (J.go i H∧∃ N:List V→Hp→Prop,(∀ lp H',N lp H'→∃ m',m' < m∧W (i+1) m' lp H')∧∀ x H',J.yld i H x H'→g x σ0 H' fun σ2 H2=>ts σ2 H2 fun b H3 =>
   if b=true then te σ2 H3 fun y H4=>ys.length < sizeLine∧N (ys++[y]) H4 else N ys H3)
def zmM (ix:List (Option Nat)) (wi:TI) (g:TG) (ts:TT) (te:TE):TE:=fun σ H Q=>wi σ H fun J H1=>cGo g ts te (zcS ix σ) J Q H1
theorem zcl {J:It} {n:Nat} {g:TG} {ts:TT} {te:TE} {σ0:St} {Q:VK} {H:Hp} (Pv:Nat→List V→Hp→Prop) (h0:Pv 0 [] H) (rD:∀ i ys H,i < n→Pv i ys H→J.go i H) (j3:∀ ys H,Pv n ys H→J.stop n H)
  (hs:∀ i x ys H H',i < n→Pv i ys H→J.yld i H x H'→g x σ0 H' fun σ2 H2=>ts σ2 H2 fun b H3=>if b=true then te σ2 H3 fun y H4=>ys.length < sizeLine∧Pv (i+1) (ys++[y]) H4 else Pv (i+1) ys H3)
  (hd:∀ ys H D,Pv n ys H→H D=none→Q (.ref D) (upd H D (.lst ys))):cGo g ts te σ0 J Q H:=by
 refine⟨fun i m ys H=>m=n - i∧i≤n∧Pv i ys H,⟨n,#[M],cc _,h0⟩,?_⟩;rintro i m ys H ⟨rfl,hi,p⟩;by_cases jE:i < n
 ·exact .inr ⟨rD i ys H jE p,Pv (i+1),fun lp H' p'=>⟨n - (i+1),#[O],rfl,jE,p'⟩,fun x H' y=>hs i x ys H H' jE p y⟩
 ·have e:i=n:=by lia
  subst e;exact .inl ⟨j3 ys H p,fun D hD=>hd ys H D p hD⟩
end L2
end
section
namespace L2
open PySem
abbrev Lp (J:It) (g:TG) (tb:TS) (D:Ends) (σ:St) (H:Hp):Prop:=∃ W:Nat→Nat→St→Hp→Prop,(∃ m,W 0 m σ H)∧∀ i m σ H,W i m σ H→(J.stop i H∧D.nx σ H)∨(J.go i H∧∃ N:St→Hp→Prop,(∀ σ' H',N σ' H'→∃ m',m' < m∧W (i+1) m' σ' H')∧∀ x H',J.yld i H x H'→g x σ H' fun σ2 H2=>tb { D with nx:=N,ct:=N,bk:=D.nx } σ2 H2)
abbrev Ends.l (D:Ends) (Pv:Nat→St→Hp→Prop) (i:Nat):Ends:={ D with nx:=Pv (i+1),ct:=Pv (i+1),bk:=D.nx }
section
variable {g:TG} {tb:TS} {D:Ends} {σ:St} {H:Hp} (Pv:Nat→St→Hp→Prop) {n:Nat} {K:af} {a:Addr} {xs:List V}
theorem zeR (h0:Pv 0 σ H) (hl:∀ i σ H,i≤xs.length→Pv i σ H→iw K H a xs) (hs:let N:=D.l Pv; let T:=tb; ∀ i x σ H,xs[i]? = some x→Pv i σ H→g x σ H (T (N i))) (hd:∀ σ H,Pv xs.length σ H→D.nx σ H):Lp (Itl K a) g tb D σ H:=zi8 Pv h0 hl hs hd
end
theorem zf4 {J:It} {n:Nat} {g:TG} {ts:TT} {te:TE} {σ0:St} {Q:VK} {H:Hp} (Pv:Nat→List V→Hp→Prop) (h0:Pv 0 [] H) (rD:∀ i ys H,i < n→Pv i ys H→J.go i H) (j3:∀ ys H,Pv n ys H→J.stop n H)
  (hs:let S:=σ0; let T:=ts; let E:=te; ∀ i x ys H H',i < n→Pv i ys H→J.yld i H x H'→g x S H' fun σ2 H2=>T σ2 H2 fun b H3=>if b=true then E σ2 H3 fun y H4=>ys.length < sizeLine∧Pv (i+1) (ys++[y]) H4 else Pv (i+1) ys H3)
  (hd:∀ ys H D,Pv n ys H→H D=none→Q (.ref D) (upd H D (.lst ys))):cGo g ts te σ0 J Q H:=zcl Pv h0 rD j3 hs hd
end L2
end
section
namespace L2
theorem iq {α β:Type} {a:β} {f:α→β} {B:α→Prop} {v:α} (h:a=f v) (hb:B v):∃ v,a=f v∧B v:=⟨v,h,hb⟩
theorem iD {α β γ δ:Type} {a:γ} {b:δ} {f:α→γ} {g:β→δ} {B:α→β→Prop} {v:α} {w:β} (h:a=f v) (h':b=g w) (hb:B v w):∃ v w,a=f v∧b=g w∧B v w:=⟨v,w,h,h',hb⟩
theorem ex3 {A0 A1 A2:Type} {P:A0→A1→A2→Prop} (x0:A0) (x1:A1) (x2:A2) (h:P x0 x1 x2):∃ x0 x1 x2,P x0 x1 x2:=⟨x0,x1,x2,h⟩
theorem ex4 {A0 A1 A2 A3:Type} {P:A0→A1→A2→A3→Prop} (x0:A0) (x1:A1) (x2:A2) (x3:A3) (h:P x0 x1 x2 x3):∃ x0 x1 x2 x3,P x0 x1 x2 x3:=⟨x0,x1,x2,x3,h⟩
theorem ex5 {A0 A1 A2 A3 A4:Type} {P:A0→A1→A2→A3→A4→Prop} (x0:A0) (x1:A1) (x2:A2) (x3:A3) (x4:A4) (h:P x0 x1 x2 x3 x4):∃ x0 x1 x2 x3 x4,P x0 x1 x2 x3 x4:=⟨x0,x1,x2,x3,x4,h⟩
theorem ex7 {A0 A1 A2 A3 A4 A5 A6:Type} {P:A0→A1→A2→A3→A4→A5→A6→Prop} (x0:A0) (x1:A1) (x2:A2) (x3:A3) (x4:A4) (x5:A5) (x6:A6) (h:P x0 x1 x2 x3 x4 x5 x6):∃ x0 x1 x2 x3 x4 x5 x6,P x0 x1 x2 x3 x4 x5 x6:=⟨x0,x1,x2,x3,x4,x5,x6,h⟩
theorem ex8 {A0 A1 A2 A3 A4 A5 A6 A7:Type} {P:A0→A1→A2→A3→A4→A5→A6→A7→Prop} (x0:A0) (x1:A1) (x2:A2) (x3:A3) (x4:A4) (x5:A5) (x6:A6) (x7:A7) (h:P x0 x1 x2 x3 x4 x5 x6 x7):∃ x0 x1 x2 x3 x4 x5 x6 x7,P x0 x1 x2 x3 x4 x5 x6 x7:=⟨x0,x1,x2,x3,x4,x5,x6,x7,h⟩
theorem ex9 {A0 A1 A2 A3 A4 A5 A6 A7 A8:Type} {P:A0→A1→A2→A3→A4→A5→A6→A7→A8→Prop} (x0:A0) (x1:A1) (x2:A2) (x3:A3) (x4:A4) (x5:A5) (x6:A6) (x7:A7) (x8:A8) (h:P x0 x1 x2 x3 x4 x5 x6 x7 x8):∃ x0 x1 x2 x3 x4 x5 x6 x7 x8,P x0 x1 x2 x3 x4 x5 x6 x7 x8:=⟨x0,x1,x2,x3,x4,x5,x6,x7,x8,h⟩
theorem zoZ {A0 A1 A2 A3 A4 A5 A6 A7 A8 A9:Type} {P:A0→A1→A2→A3→A4→A5→A6→A7→A8→A9→Prop} (x0:A0) (x1:A1) (x2:A2) (x3:A3) (x4:A4) (x5:A5) (x6:A6) (x7:A7) (x8:A8) (x9:A9) (h:P x0 x1 x2 x3 x4 x5 x6 x7 x8 x9):∃ x0 x1 x2 x3 x4 x5 x6 x7 x8 x9,P x0 x1 x2 x3 x4 x5 x6 x7 x8 x9:=⟨x0,x1,x2,x3,x4,x5,x6,x7,x8,x9,h⟩
theorem zoi {A0 A1 A2 A3 A4 A5 A6 A7 A8 A9 nA:Type} {P:A0→A1→A2→A3→A4→A5→A6→A7→A8→A9→nA→Prop} (x0:A0) (x1:A1) (x2:A2) (x3:A3) (x4:A4) (x5:A5) (x6:A6) (x7:A7) (x8:A8) (x9:A9) (jo:nA) (h:P x0 x1 x2 x3 x4 x5 x6 x7 x8 x9 jo):∃ x0 x1 x2 x3 x4 x5 x6 x7 x8 x9 jo,P x0 x1 x2 x3 x4 x5 x6 x7 x8 x9 jo:=⟨x0,x1,x2,x3,x4,x5,x6,x7,x8,x9,jo,h⟩
theorem zh4 {A0 A1 A2 A3 A4 A5 A6 A7 A8 A9 nA pB:Type} {P:A0→A1→A2→A3→A4→A5→A6→A7→A8→A9→nA→pB→Prop} (x0:A0) (x1:A1) (x2:A2) (x3:A3) (x4:A4) (x5:A5) (x6:A6) (x7:A7) (x8:A8) (x9:A9) (jo:nA) (jG:pB) (h:P x0 x1 x2 x3 x4 x5 x6 x7 x8 x9 jo jG):∃ x0 x1 x2 x3 x4 x5 x6 x7 x8 x9 jo jG,P x0 x1 x2 x3 x4 x5 x6 x7 x8 x9 jo jG:=⟨x0,x1,x2,x3,x4,x5,x6,x7,x8,x9,jo,jG,h⟩
theorem zh5 {A0 A1 A2 A3 A4 A5 A6 A7 A8 A9 nA pB A12 A13:Type} {P:A0→A1→A2→A3→A4→A5→A6→A7→A8→A9→nA→pB→A12→A13→Prop} (x0:A0) (x1:A1) (x2:A2) (x3:A3) (x4:A4) (x5:A5) (x6:A6) (x7:A7) (x8:A8) (x9:A9) (jo:nA) (jG:pB) (kv:A12) (ky:A13) (h:P x0 x1 x2 x3 x4 x5 x6 x7 x8 x9 jo jG kv ky):∃ x0 x1 x2 x3 x4 x5 x6 x7 x8 x9 jo jG kv ky,P x0 x1 x2 x3 x4 x5 x6 x7 x8 x9 jo jG kv ky:=⟨x0,x1,x2,x3,x4,x5,x6,x7,x8,x9,jo,jG,kv,ky,h⟩
end L2
end
section
namespace L2
open PySem PySem.Spec PyProof.Rows
abbrev TM:=List V→St→Hp→(List V→Hp→Prop)→Prop
abbrev zeo (ir:List Value) (nn:Nat):Obj:={ cls:=.type "list",data:=.seq ir.toArray nn }
structure AccAt (Y:Cx) (ip:List (Addr×Obj)) (H:Hp) (s:Shared) (D:Addr) (ys:List V) (ir:List Value) (nn:Nat):Prop where
 fp:zcs Y ip H D
 here:s.heap.get? D=some (zeo ir nn)
 vals:zx ys ir
 len:ys.length≤sizeLine
def zfj (js:List Nat) (σ:St):Prop:=∀ j∈js,∀ v,σ[j]?≠some (some v)
def Kp (js:List Nat) (σ σ2:St):Prop:=σ2.length=σ.length∧∀ j,j∉js→σ2[j]? = σ[j]?
theorem Kp.refl {js:List Nat} {σ:St}:Kp js σ σ:=⟨rfl,fun _ _=>rfl⟩
theorem Kp.set {js:List Nat} {σ σ2:St} {i:Nat} {v:Option V} (hi:i∈js) (h:Kp js σ σ2):Kp js σ (σ2.set i v):=by
 refine⟨by rw [gP]; exact h.1,fun j hj=>?_⟩;rw [cy (fun z=>hj (by rw [← z]; exact hi))];exact h.2 j hj
def GS (js:List Nat) (g:TG):Prop:=∀ (σ σ1:St) (x:V) (H:Hp) (Q:St→Hp→Prop),Kp js σ σ1→g x σ1 H Q→g x σ1 H fun σ2 H2=>Kp js σ σ2∧Q σ2 H2
def GSs (js:List Nat) (g:TGs):Prop:=∀ (σ σ1:St) (xs:List V) (H:Hp) (Q:St→Hp→Prop),Kp js σ σ1→g xs σ1 H Q→g xs σ1 H fun σ2 H2=>Kp js σ σ2∧Q σ2 H2
theorem zlv {js:List Nat} {i:Nat} (hi:i∈js):GS js (zaW i):=fun σ σ1 x H Q hw h=>⟨hw.set hi,h⟩
theorem zlw {js:List Nat}:GSs js zmX:=fun σ σ1 xs H Q hw h=>⟨h.1,hw,h.2⟩
theorem zjo {js:List Nat} {i:Nat} {u:TGs} (hi:i∈js) (h2:GSs js u):GSs js (zi6 (zaW i) u):=fun σ σ1 xs H Q hw h=>by
 obtain⟨v,r,e,h⟩:=h;exact⟨v,r,e,h2 σ _ r H Q (hw.set hi) h⟩
theorem zna {js:List Nat} {K:af} {n:Nat} {t:TGs} (h:GSs js t):GS js (zlj K n t):=fun σ σ1 x H Q hw hg=>by
 obtain⟨a,xs,e,hq,hl,hg⟩:=hg;exact⟨a,xs,e,hq,hl,h σ σ1 xs H Q hw hg⟩
theorem Inv.fewer {X:Cx} {ip jt:List (Addr×Obj)} {σ:St} {H:Hp} {s:Shared} (I:Inv X ip σ H s) (h:∀ p∈jt,p∈ip):Inv X jt σ H s :=
 I.pins_of fun p hp=>I.pin p (ax _ (h p hp))
section
variable {Y:Cx} {ip:List (Addr×Obj)} {σ:St} {H:Hp} {s:Shared} {D:Addr} {ys:List V} {ir:List Value} {nn:Nat}
theorem AccAt.pin (a:AccAt Y ip H s D ys ir nn) (I:Inv Y ip σ H s):Inv Y (ip++[(D,zeo ir nn)]) σ H s :=
 I.pins_of fun p hp=>by
  rcases (bt.mp hp) with hp | hp
  ·exact I.pin p (ax _ hp)
  ·obtain rfl:p=(D,zeo ir nn):=by simpa using hp
   obtain⟨a0,a1,a2,_⟩:=a.fp;exact⟨a.here,a0,a1,a2,fun v z=>by cases z⟩
theorem AccAt.back {jt:List (Addr×Obj)} {σ':St} {H':Hp} {s':Shared} (a:AccAt Y ip H s D ys ir nn) (I:Inv Y jt σ' H' s') (hm:(D,zeo ir nn)∈jt):AccAt Y ip H' s' D ys ir nn:=by
 have p:=I.pin (D,zeo ir nn) (ax _ hm);exact⟨⟨p.2.1,a.fp.2⟩,p.1,a.vals,a.len⟩
end
def PM (Y:Cx) (D:Addr) (js:List Nat) (mk:Sem Fin→Sem Fin) (tm:TM):Prop :=
 ∀ (last:Sem Fin) (ip:List (Addr×Obj)) (s:Shared) (σ:St) (H:Hp) (ys:List V) (ir:List Value) (nn:Nat) (Q:List V→Hp→Prop) (Φ:Fin→Shared→Prop),Inv Y ip σ H s→AccAt Y ip H s D ys ir nn→zfj js σ→tm ys σ H Q →
  (∀ (s':Shared) (lp:List V) (its':List Value) (pC:Nat) (H':Hp),Inv Y ip σ H' s'→AccAt Y ip H' s' D lp its' pC→Q lp H'→wpAny (model Y.prog Y.w) Y.A last Φ (fun _ _=>False) s') →
  wpAny (model Y.prog Y.w) Y.A (mk last) Φ (fun _ _=>False) s
def zf5 (elt:Expr) (acc:Value) (env:Env) (last:Sem Fin):Sem Fin:=(eval elt env >>= fun x=>call (.builtin "list.append") [acc,x] >>= fun _=>pure ()) >>= fun _=>last
def zoj (te:TE):TM:=fun ys σ H Q=>te σ H fun y H4=>ys.length < sizeLine∧Q (ys++[y]) H4
def cIn (g:TG) (ts:TT) (tm:TM) (σ:St) (J:It) (Q:List V→Hp→Prop) (ys:List V) (H1:Hp):Prop :=
 ∃ W:Nat→Nat→List V→Hp→Prop,(∃ m,W 0 m ys H1)∧∀ i m ys H,W i m ys H →
  (J.stop i H∧Q ys H) ∨
  (J.go i H∧∃ N:List V→Hp→Prop,(∀ lp H',N lp H'→∃ m',m' < m∧W (i+1) m' lp H')∧∀ x H',J.yld i H x H'→g x σ H' fun σ2 H2=>ts σ2 H2 fun b H3 =>
   if b=true then tm ys σ2 H3 N else N ys H3)
def zjp (ix:List (Option Nat)) (wi:TI) (g:TG) (ts:TT) (tm:TM):TE:=fun σ H Q=>wi σ H fun J H1=>cIn g ts tm (zcS ix σ) J (fun ys H'=>∀ D,H' D=none→Q (.ref D) (upd H' D (.lst ys))) [] H1
theorem thx {α:Type} {X:Cx} {m:Sem α} {P Q:α→Shared→Prop} {E:Value→Shared→Prop} {s:Shared} (hx:X.xe=fun _ _=>False) (h:wpAny (model X.prog X.w) X.A m P X.xe s) (k:∀ a s',P a s'→Q a s'):wpAny (model X.prog X.w) X.A m Q E s :=
 bg h k fun _ _ z=>by rw [hx] at z; exact z.elim
theorem zjq {Y:Cx} {D:Addr} {elt:Expr} {te:TE} (hx:Y.xe=fun _ _=>False) (he:PE Y elt te):PM Y D [] (zf5 elt (.ref D) Y.env) (zoj te):=by
 intro last ip s σ H ys ir nn Q Φ I a no h k;unfold zf5;refine ag (ag (thx hx (he (ip++[(D,zeo ir nn)]) s σ H _ (a.pin I) h) fun yv s1 ⟨y,H1,I1,r1,hz,q1⟩=>ag ?_));have a1:=a.back I1 (ax _ aT);have J1:Inv Y ip σ H1 s1:=I1.fewer fun p hp=>aJ _ hp
 have hvl:=a1.vals.length;refine bQ f8 ⟨_,a1.here,rfl⟩ fL (fA _ _) (gl D ir.toArray nn yv (by rw [aj]; lia)) ⟨a1.here,?_⟩;refine al ?_;have q:=gB a1.here (·.push yv);have md:∀ b o,b≠D→s1.heap.get? b=some o→(s1.heap.update D (cD (·.push yv))).get? b=some o:=fun b o hb e=>(de s1.heap (cD (·.push yv)) (bL hb)).trans e
 obtain⟨b0,b1,b2,b3,b4,b5⟩:=a1.fp;have I11:Inv Y ip σ H1 { s1 with heap:=s1.heap.update D (cD (·.push yv)) }:=J1.turned (t':=s1.toks) md b0 b1 b3 b4 b5;have e1:ir.toArray.push yv=(ir++[yv]).toArray:=by simp
 rw [e1] at q;refine k _ (ys++[y]) (ir++[yv]) _ H1 I11 ⟨a1.fp,q,a1.vals.append (.cons r1 .nil),?_⟩ q1;rw [bc,fh];lia
section
variable {Y:Cx} {D:Addr} {js js':List Nat} {elt:Expr} {gens:List Comprehension} {scope:Scope} {pos:Pos} {d:Nat} {tg:Expr} {ifs:List Expr} {p:Pos} {mk:Sem Fin→Sem Fin} {g:TG} {ts:TT} {tm:TM}
def zc9 (tg:Expr) (ifs:List Expr) (p:Pos) (mk:Sem Fin→Sem Fin) (c:Code) (it:Value) (env:Env):Sem Fin :=
 standAt p >>= fun _=>pyNext it >>= fun r=>match r with
  | none=>pure (.done .next)
  | some v=>letOwnedTupleGo tg it v >>= fun _=>assign tg env v >>= fun _=>zgX ifs env >>= fun ok=>if ok=true then mk (again c) else again c
theorem zlx (hc:Y.calm=true) (hx:Y.xe=fun _ _=>False) (nV:GS js g) (kS:∀ j∈js,j∉js') (hg:PG Y tg g) (ht:zf3 Y ifs ts) (hm:PM Y D js' mk tm)
  (jH:∀ it,compTurn (.ListComp elt gens scope pos) d it (.ref D) Y.env=zc9 tg ifs p mk (.compLoop (.ListComp elt gens scope pos) d it (.ref D) Y.env) it Y.env)
  {ip:List (Addr×Obj)} {σ:St} {H2:Hp} {s2:Shared} {it:Addr} {fp:List Addr} {tn:Nat→Heap→Prop} {J:It} {Q:List V→Hp→Prop} {R:Result→Shared→Prop} {ys:List V} {ir:List Value} {nn:Nat}
  (I2:Inv Y ip σ H2 s2) (a2:AccAt Y ip H2 s2 D ys ir nn) (no:zfj (js++js') σ) (T:Turn Y.prog Y.w Y.K tg J fp it tn) (j4:tn 0 s2.heap) (f2:∀ b∈fp,zcs Y ip H2 b) (fD:∀ b∈fp,b≠D) (q:cIn g ts tm σ J Q ys H2)
  (hR:∀ (s':Shared) (lp:List V) (its':List Value) (pC:Nat) (H':Hp),Inv Y ip σ H' s'→AccAt Y ip H' s' D lp its' pC→Q lp H'→R (.ok .next) s') :
  codeAny (model Y.prog Y.w) Y.A (.compLoop (.ListComp elt gens scope pos) d (.ref it) (.ref D) Y.env) R s2:=by
 obtain⟨W,⟨m0,w0⟩,turn⟩:=q;have oO:∀ {H':Hp} {ir:List Value} {nn:Nat},(∀ b∈fp,H' b=none)→∀ b∈fp,zcs Y (ip++[(D,zeo ir nn)]) H' b:=fun {H' ir nn} hn b hb=>by
  obtain⟨_,a1,a2,a3,a4,a5⟩:=f2 b hb;refine⟨hn b hb,a1,a2,a3,a4,fun p hp=>?_⟩;rcases (bt.mp hp) with hp | hp
  ·exact a5 p (aJ _ hp)
  ·rcases (bt.mp hp) with hp | hp
   ·exact a5 p (ax _ hp)
   ·obtain rfl:p=(D,zeo ir nn):=by simpa using hp
    exact (fD b hb).symm
 refine codeAny_loop rfl (fun n s'=>∃ i ys H' ir nn,Inv Y ip σ H' s'∧tn i s'.heap∧(∀ b∈fp,H' b=none)∧AccAt Y ip H' s' D ys ir nn∧W i n ys H') ?_ m0
  ⟨0,ys,H2,ir,nn,I2,j4,fun b hb=>(f2 b hb).1,a2,w0⟩
 rintro n s5 ⟨i,ys,H5,ir,nn,I5,oI,qz,a5,w5⟩;show wpAny _ Y.A ((compTurn (.ListComp elt gens scope pos) d (.ref it) (.ref D) Y.env).onRaise (fun x=>do noteFrame x Y.env; theTreesLotGoes x)) _ _ s5;refine wpAny_noted ?_;rw [jH];unfold zc9;have I5p:=a5.pin I5
 (refine ag (cI (ag ?_)))
 rcases turn i n ys H5 w5 with ⟨stop,qn⟩ | ⟨go,N,hN,step⟩
 ·refine bg (T.done Y rfl rfl rfl hc i _ s5 _ H5 (fun _ _=>False) I5p (oO qz) oI stop) (fun r s6 ⟨hr,I6⟩=>?_) fun _ _ z=>z.elim
  subst hr;exact al (hR s6 ys ir nn H5 (I6.fewer fun p hp=>aJ _ hp) (a5.back I6 (ax _ aT)) qn)
 ·refine bg (T.item Y rfl rfl rfl hc i _ s5 _ H5 (fun _ _=>False) I5p (oO qz) oI go) (fun r s6 ⟨u,hr,h6⟩=>?_) fun _ _ z=>z.elim
  subst hr;refine ag (bg h6 (fun _ s7 ⟨x,H7,I7,r7,y7,rE,fr7⟩=>?_) fun _ _ z=>z.elim);have I7':=I7.pinned (oO fr7) (T.obj _ _ rE);refine ag (thx hx (hg _ s7 _ H7 x u _ I7' r7 (nV σ σ x H7 _ Kp.refl (step x H7 y7))) fun _ s8 ⟨σ8,H8,I8,kp,q8⟩=>?_);refine ag (thx hx (ht _ s8 σ8 H8 _ I8 q8) fun ok s9 ⟨H9,I9,q9⟩=>?_);have mD:(D,zeo ir nn)∈(ip++[(D,zeo ir nn)])++zb1 fp s7.heap:=aJ _ (ax _ aT);have a9:=a5.back I9 mD;have K9:Inv Y (ip++zb1 fp s7.heap) σ8 H9 s9:=I9.fewer fun p hp=>(bt.mp hp).elim (fun z=>aJ _ (aJ _ z)) fun z=>ax _ z
  have wk:∀ (j:Nat) v,σ[j]? = some (some v)→σ8[j]? = some (some v):=fun j v e=>by
   have hj:j∉js:=fun z=>no j (aJ _ z) v e
   rw [kp.2 j hj];exact e
  have back:∀ {H':Hp} {s':Shared},Inv Y (ip++zb1 fp s7.heap) σ8 H' s'→Inv Y ip σ H' s'∧tn (i+1) s'.heap∧∀ b∈fp,H' b=none:=fun {H' s'} I'=>by
   refine⟨(I'.fewer fun p hp=>aJ _ hp).weak kp.1.symm wk,T.keep _ _ _ rE fun b hb o e=>(I'.pin (b,o) (ax _ (ax _ (zbN hb e)))).1,fun b hb=>?_⟩;obtain⟨o,e,d⟩:=T.obj _ _ rE b hb;exact (I'.pin (b,o) (ax _ (ax _ (zbN hb e)))).2.1
  cases ok with
  | false =>
   rw [if_neg ay] at q9 ⊢;obtain⟨m',rF,w9⟩:=hN _ _ q9;obtain⟨b1,b2,b3⟩:=back K9;exact al ⟨rfl,m',rF,i+1,ys,H9,ir,nn,b1,b2,b3,a9,w9⟩
  | true =>
   rw [if_pos rfl] at q9 ⊢;have a9':AccAt Y (ip++zb1 fp s7.heap) H9 s9 D ys ir nn:=by
    obtain⟨b0,b1,b2,b3,b4,b5⟩:=a9.fp;refine⟨⟨b0,b1,b2,b3,b4,fun p hp=>?_⟩,a9.here,a9.vals,a9.len⟩;rcases (bt.mp hp) with hp | hp
    ·exact b5 p (aJ _ hp)
    ·rcases (bt.mp hp) with hp | hp
     ·exact b5 p (ax _ hp)
     ·exact fD _ (zeH hp).1
   have no':zfj js' σ8:=fun j hj v e=>by
    have hj':j∉js:=fun z=>kS j z hj
    rw [kp.2 j hj'] at e;exact no j (ax _ hj) v e
   refine bg (hm (again _) _ s9 σ8 H9 ys ir nn N (fun fin s'=>match fin with | .done f=>R (.ok f) s' | .again c'=>c'=_∧∃ m,m < n∧_) K9 a9' no' q9 fun s' lp its' pC H' I' a' n'=>?_) (fun _ _ z=>z) fun _ _ z=>z.elim
   obtain⟨m',rF,w'⟩:=hN _ _ n';obtain⟨b1,b2,b3⟩:=back I';obtain⟨c0,c1,c2,c3,c4,c5⟩:=a'.fp;refine al ⟨rfl,m',rF,i+1,lp,H',its',pC,b1,b2,b3,⟨⟨c0,c1,c2,c3,c4,fun p hp=>?_⟩,a'.here,a'.vals,a'.len⟩,w'⟩;rcases (bt.mp hp) with hp | hp
   ·exact c5 p (aJ _ hp)
   ·exact c5 p (ax _ (aJ _ hp))
theorem zjr {prog:Program} {w:World} {A:Around} {R:Result→Shared→Prop} {s:Shared} {iter:Expr} {it acc:Value} {env:Env} (hd:gens[d]? = some ⟨tg,iter,ifs,0⟩)
  (h0:codeAny (model prog w) A (.compLoop (.ListComp elt gens scope pos) d it acc env) R s)
  (h:wpAny (model prog w) A (pyIter it) (fun rG s'=>codeAny (model prog w) A (.compLoop (.ListComp elt gens scope pos) d rG acc env) R s') (fun _ _=>False) s) :
  codeAny (model prog w) A (.compStart (.ListComp elt gens scope pos) d it acc env) R s:=by
 refine eU ?_;show wpAny _ _ ((compStart (.ListComp elt gens scope pos) d it acc env).onRaise (fun x=>do noteFrame x env; standAt theWindowsPlace)) _ _ s;refine wpAny_notedAt ?_;unfold compStart;have e1:(clausesOf (.ListComp elt gens scope pos))[d]? = some ⟨tg,iter,ifs,0⟩:=hd;rw [e1]
 (show wpAny _ _ (ask >>= _) _ _ s)
 (refine ag (wpAny_askSetting (wpAny_ite ?_)))
 split
 ·first
   | (exact ag (al (al ⟨rfl,h0⟩)))
   | (exact al ⟨rfl,h0⟩)
 ·first
   | exact ag (c8 (ag (cI (ag (bg h (fun rG s' h'=>al (And.intro rfl h')) fun _ _ x=>x.elim)))))
   | (refine ag (c8 ?_); show wpAny _ _ (standAt iter.pos >>= _) _ _ s; exact ag (cI (ag (bg h (fun rG s' h'=>al (And.intro rfl h')) fun _ _ x=>x.elim))))
end
section
variable {X:Cx} {elt tg iter:Expr} {ifs:List Expr} {gs:List Comprehension} {scope:Scope} {pos:Pos} {N':List Str} {ix:List (Option Nat)} {js js':List Nat} {g:TG} {ts:TT} {tm:TM} {mk:Addr→Env→Sem Fin→Sem Fin}
theorem zdo {ip:List (Addr×Obj)} {σ:St} {H2:Hp} {s2:Shared} {it:Addr} {fp:List Addr} {tn:Nat→Heap→Prop} {J:It} {Q:VK} {E:Value→Shared→Prop} {RR:Value→Addr→Result→Shared→Prop}
  (SC:CompSc X N' ix scope) (hc:X.calm=true) (nV:GS js g) (kS:∀ j∈js,j∉js') (pD:∀ j∈js++js',ix[j]? = some none)
  (hg:∀ s₃ H₃ ex ip,PG (zat X N' scope s₃ H₃ ex ip) tg g) (ht:∀ s₃ H₃ ex ip,zf3 (zat X N' scope s₃ H₃ ex ip) ifs ts) (hm:∀ s₃ H₃ ex ip D,PM (zat X N' scope s₃ H₃ ex ip) D js' (mk D (zat X N' scope s₃ H₃ ex ip).env) tm)
  (jH:∀ it D env,compTurn (.ListComp elt (⟨tg,iter,ifs,0⟩ :: gs) scope pos) 0 it (.ref D) env=zc9 tg ifs iter.pos (mk D env) (.compLoop (.ListComp elt (⟨tg,iter,ifs,0⟩ :: gs) scope pos) 0 it (.ref D) env) it env)
  (I2:Inv X ip σ H2 s2) (T:Turn X.prog X.w X.K tg J fp it tn) (j4:tn 0 s2.heap) (f2:∀ b∈fp,zcs X ip H2 b) (q:cIn g ts tm (zcS ix σ) J (fun ys H'=>∀ D,H' D=none→Q (.ref D) (upd H' D (.lst ys))) [] H2)
  (hRR:∀ (D C:Addr) (s':Shared) (ys:List V) (H':Hp) (m:Str→Option Value),Inv X ip σ (upd H' D (.lst ys)) s'→zcs X ip (upd H' D (.lst ys)) C→s'.heap.Ns C m→Q (.ref D) (upd H' D (.lst ys))→RR (.ref D) C (.ok .next) s') :
  wpAny (model X.prog X.w) X.A (newList []) (fun acc s₃=>wpAny (model X.prog X.w) X.A (newFunctionEnv scope X.env.globals (zad X.env.cells scope.names []) [] X.env.qual none .none (some X.env)) (fun pE s₄ =>
   codeAny (model X.prog X.w) X.A (.compStart (.ListComp elt (⟨tg,iter,ifs,0⟩ :: gs) scope pos) 0 (.ref it) acc { pE with scope:=relabel scope X.env }) (RR acc pE.locals) s₄) E s₃) E s2:=by
 have nW:∀ y∈scope.names,y.2 = .free→∃ c,X.env.cells.lookup y.1=some c:=fun y hy hf=>I2.ok.has y.1 (SC.free y hy hf)
 have lA:∀ x c,(zad X.env.cells scope.names []).lookup x=some c→X.env.cells.lookup x=some c:=zbx scope.names [] nW (fun x c e=>by simp at e);refine el (zh2 ?_);have I3:Inv X ip σ H2 { s2 with heap:=s2.heap.push { cls:=.type "list",dict:=none,data:=.seq ([]:List Value).toArray } }:=I2.kept (t':=s2.toks) fun b o e=>ai _ e
 have hD3:(s2.heap.push { cls:=.type "list",dict:=none,data:=.seq ([]:List Value).toArray }).get? s2.heap.objs.size=some { cls:=.type "list",dict:=none,data:=.seq ([]:List Value).toArray }:=au _ rfl;have pF:tn 0 (s2.heap.push { cls:=.type "list",dict:=none,data:=.seq ([]:List Value).toArray }):=T.keep _ _ _ j4 fun b hb o e=>ai _ e
 have pG:(s2.heap.push { cls:=.type "list",dict:=none,data:=.seq ([]:List Value).toArray }).objs.size=s2.heap.objs.size+1:=aD _ _;generalize hh3:s2.heap.push { cls:=.type "list",dict:=none,data:=.seq ([]:List Value).toArray }=h3 at *;have rH:=T.obj _ _ j4;have nB:∀ b∈fp,b < s2.heap.objs.size:=fun b hb=>by obtain⟨o,e,_⟩:=rH b hb; exact av e
 have stk:∀ b∈frs X.stack,b=X.env.locals∨b∈X.fs:=fun b hb=>am.mp (I2.stkSub b hb)
 have pH:zcs X ip H2 s2.heap.objs.size:=I2.fpOk (ak _) I2.fresh;have lB:∀ b∈s2.heap.objs.size :: fp,zcs X ip H2 b:=fun b hb=>by
  rcases (am.mp hb) with e | hb
  ·rw [e]; exact pH
  ·exact f2 b hb
 have nX:∀ b∈s2.heap.objs.size :: fp,b < h3.objs.size:=fun b hb=>by
  rw [pG];rcases (am.mp hb) with e | hb; · rw [e]; exact cz _
  ·exact cb (nB b hb)
 have nC:∀ b∈s2.heap.objs.size :: fp,b∉frs X.stack:=fun b hb z=>by
  obtain⟨_,a1,a2,_⟩:=lB b hb;rcases stk b z with e | e
  ·exact a1 e
  ·exact a2 e
 have hns₁:(pushCells (h3.push { cls:=.type "dict",data:=.dict #[] }) scope.names).Ns h3.objs.size (fun _=>none):=(Heap.Ns.new h3 (.type "dict")).keeps (pushCells_keeps _ _);have old:∀ b o,h3.get? b=some o→(pushCells (h3.push { cls:=.type "dict",data:=.dict #[] }) scope.names).get? b=some o:=fun b o e=>pushCells_keeps _ _ b o (ai _ e)
 have rJ:∀ x c,X.env.cells.lookup x=some c→c < h3.objs.size:=fun x c e=>by
  obtain⟨v,q⟩:=I3.cell x c e;exact q.lt
 have co:CO (pushCells (h3.push { cls:=.type "dict",data:=.dict #[] }) scope.names) (h3.objs.size+1) (zad X.env.cells scope.names []) (cellsFrom (h3.objs.size+1) scope.names (zad X.env.cells scope.names [])):=by
  have:=zjm (lo:=h3.objs.size+1) (old:=zad X.env.cells scope.names []) scope.names (h3.push { cls:=.type "dict",data:=.dict #[] }) (zad X.env.cells scope.names [])
   ⟨fun x c e=>.inr ⟨e,cb (rJ x c (lA x c e))⟩,fun x y c e1 e2=>I2.ok.inj x y c (lA x c e1) (lA y c e2)⟩ (by rw [aD]; exact ak _)
  rw [aD] at this;exact this
 generalize pushCells (h3.push { cls:=.type "dict",data:=.dict #[] }) scope.names=h₁ at hns₁ old co ⊢;have rK:∀ {x c},(cellsFrom (h3.objs.size+1) scope.names (zad X.env.cells scope.names [])).lookup x=some c→(h₁.IsCell c none∧h3.objs.size+1≤c)∨X.env.cells.lookup x=some c:=fun {x c} e=>(co.each x c e).elim .inl fun z=>.inr (lA x c z.1)
 have cfr:∀ x,scope.names.lookup x=some .free→(cellsFrom (h3.objs.size+1) scope.names (zad X.env.cells scope.names [])).lookup x=(zad X.env.cells scope.names []).lookup x:=fun x hx=>zfh _ _ _ _ fun z=>by
  have:=SC.cells _ z rfl;rw [hx] at this;cases this
 let s3:Shared:={ s2 with heap:=h3 }
 let Y:Cx:=zat X N' scope s3 H2 (s2.heap.objs.size :: fp) ip
 have lS:Inv X ip σ H2 s3:=I3;have okY:Y.Ok:=by
  refine⟨I2.ok.mod,SC.kind,I2.ok.glob,I2.ok.blt,ak _,co.inj,fun x hx=>?_,fun x c z e=>?_,I2.ok.hd,I2.ok.frames,.inl rfl,fun b hb=>?_,fun b o e=>lS.bs b o e,?_,fun b o e hb=>?_,nC,lS.stack,lS.stkFree⟩
  ·have oP:=zcR (env:=X.env) (names:=scope.names) (x:=x) hx;rcases oP with oP | oP
   ·obtain⟨c,e⟩:=zbO (cs:=X.env.cells) scope.names [] x (.inr (lookup_mem oP));exact⟨c,(cfr x oP).trans e⟩
   ·obtain⟨c,e,_⟩:=zfi scope.names (h3.objs.size+1) (zad X.env.cells scope.names []) x (lookup_mem oP);exact⟨c,e⟩
  ·obtain⟨c',e',l'⟩:=zfi scope.names (h3.objs.size+1) (zad X.env.cells scope.names []) x (lookup_mem (by have z':(scope.names.lookup x == some bJ)=true:=z; simpa using z'));have e2:(cellsFrom (h3.objs.size+1) scope.names (zad X.env.cells scope.names [])).lookup x=some c:=e;rw [e'] at e2;cases e2;exact en l'
  ·refine⟨aA (nX b hb),fun x c e=>(rK e).elim (fun z y=>?_) fun z=>(lB b hb).2.2.2.2.1 x c z⟩;subst y;exact bi _ (aB (nX _ hb) (en z.2))
  ·exact aZ I2.ok.bsz lS.sz
  ·obtain⟨_,_,_,a3,_⟩:=lB b hb;rcases a3 with z | z
   ·exact I2.ok.noex b o e z
   ·have:=(I2.ok.bs b o e).1;exact absurd (aB (av this) z) (bi _)
 have rL:Inv Y [] (zcS ix σ) H2 { s3 with heap:=h₁ }:=by
  refine⟨okY,rfl,I2.bare,Un.kept old,⟨_,hns₁,fun j x v e1 e2 e3=>?_⟩,fun x c e=>?_,lS.fresh,fun x c e=>(rK e).elim (fun z=>lS.hok.fresh (en z.2)) fun z=>I2.freeC x c z,fun p hp=>?_,lS.hok.kept old,?_⟩
  ·unfold zcS at e2;rw [aw] at e2;cases hj:ix[j]? with
   | none=>rw [hj] at e2; simp at e2
   | some oi =>
    rw [hj] at e2;cases oi with
    | none=>simp at e2
    | some i =>
     obtain⟨y,h1,h2,qD⟩:=SC.cap j i hj;have hxy:y=x:=by
      have e1':N'[j]? = some x:=e1;rw [h1] at e1';exact az e1'
     subst hxy;have pI:(σ[i]?).join=some v:=by simpa using e2
     have rM:σ[i]? = some (some v):=by
      cases hs:σ[i]? with
      | none=>rw [hs] at pI; simp at pI
      | some w=>rw [hs] at pI; simp at pI; rw [pI]
     obtain⟨m,hn,hl⟩:=lS.loc;have hk:=SC.free (y,.free) (lookup_mem qD) rfl;have rN:Vis X.env.scope y:=hk.elim (fun z=>.inr (.inl z)) fun z=>.inr (.inr z)
     obtain⟨u,r,l⟩:=hl i y v h2 rM rN;refine⟨u,r,.inr ⟨zbb qD,?_⟩⟩;obtain⟨c,lj⟩:=zbO (cs:=X.env.cells) scope.names [] y (.inr (lookup_mem qD));refine⟨c,(cfr y qD).trans lj,?_⟩;rcases l with ⟨oK,_⟩ | ⟨_,c',iO,ka⟩
     ·rcases hk with hk | hk
      ·have pJ:X.env.kindOf y=some .cell:=hk;rw [pJ] at oK; cases oK
      ·have pJ:X.env.kindOf y=some .free:=hk;rw [pJ] at oK; cases oK
     ·have:=lA y c lj;rw [iO] at this;cases this;obtain⟨o,ho,hd⟩:=ka;exact⟨o,old _ _ ho,hd⟩
  ·rcases rK e with z | z
   ·exact⟨_,z.1⟩
   ·obtain⟨v,o,ho,hd⟩:=lS.cell x c z;exact⟨v,o,old _ _ ho,hd⟩
  ·have mT:p∈X.pn++ip:=by
    have:p∈(X.pn++ip)++([]:List (Addr×Obj)):=hp;simpa using this
   obtain⟨a1,a2,a3,a4,a5⟩:=lS.pin p mT;exact⟨old _ _ a1,a2,aA (av a1),fun z=>(stk _ z).elim a3 a4,a5⟩
  ·unfold zcS;rw [ah];exact SC.len.symm
 have oO:∀ {H':Hp},(∀ b∈s2.heap.objs.size :: fp,H' b=none)→∀ b∈s2.heap.objs.size :: fp,zcs Y [] H' b:=fun {H'} hn b hb=>by
  obtain⟨_,a1,a2,a3,a4,a5⟩:=lB b hb;refine⟨hn b hb,aA (nX b hb),nC b hb,.inl hb,(okY.exf b hb).2,fun p hp=>?_⟩;have:p∈(X.pn++ip)++([]:List (Addr×Obj)):=hp;exact a5 p (by simpa using this)
 have nn2:∀ b∈s2.heap.objs.size :: fp,H2 b=none:=fun b hb=>(lB b hb).1
 have nR:zfj (js++js') (zcS ix σ):=fun j hj v e=>by
  unfold zcS at e;rw [aw,pD j hj] at e;simp at e
 have loop:∀ s₅:Shared,s₅ = { s2 with heap:=h₁ } →
   codeAny (model X.prog X.w) X.A (.compLoop (.ListComp elt (⟨tg,iter,ifs,0⟩ :: gs) scope pos) 0 (.ref it) (.ref s2.heap.objs.size) (compEnvC scope (cellsFrom (h3.objs.size+1) scope.names (zad X.env.cells scope.names [])) h3.objs.size X.env)) (RR (.ref s2.heap.objs.size) h3.objs.size) s₅:=by
  rintro s₅ rfl;refine zlx (Y:=Y) (ip:=[]) (σ:=zcS ix σ) (ir:=[]) (nn:=0) hc rfl nV kS (hg s3 H2 _ ip) (ht s3 H2 _ ip) (hm s3 H2 _ ip s2.heap.objs.size) (fun it=>jH it _ _) rL ⟨oO nn2 _ aT,old _ _ hD3,.nil,cc _⟩ nR T (T.keep _ _ _ pF fun b hb o e=>old b o e)
   (fun b hb=>oO nn2 b (aI _ hb)) (fun b hb=>aA (nB b hb)) q fun s6 ys ir nn H5 I6 a6 qn=>?_
  have dn5:H5 s2.heap.objs.size=none:=a6.fp.1;have I7:Inv X ip σ H5 s6:=by
   refine lS.call' (s':=s6) (ch:=s2.heap.objs.size :: fp) I6.os I6.base I6.hok I6.bare fun b hb=>?_
   obtain⟨_,a1,a2,a3,a4,a5⟩:=lB b hb;exact⟨a3,a1,a4,a5⟩
  have I8:Inv X ip σ (upd H5 s2.heap.objs.size (.lst ys)) s6:=by
   obtain⟨_,a1,a2,a3,a4,a5⟩:=pH;exact I7.track dn5 I2.sz (bL a1) a4 a5 ⟨a6.len,ir,nn,a6.vals,a6.here⟩
  obtain⟨mm,hmm,_⟩:=I6.loc;have dne:h3.objs.size≠s2.heap.objs.size:=by rw [pG]; exact Nat.succ_ne_self _
  refine hRR _ _ s6 ys H5 mm I8 (lS.fpOk (H':=upd H5 s2.heap.objs.size (.lst ys)) (ak _) ?_) hmm (qn _ dn5);show upd H5 s2.heap.objs.size (.lst ys) h3.objs.size=none;rw [zc dne];exact I6.free
 exact zjr rfl (loop _ rfl) (T.self _ 0 _ _ _ (T.keep _ _ _ pF fun b hb o e=>old b o e) (loop _ rfl))
theorem zjs {wi:TI} (SC:CompSc X N' ix scope) (hc:X.calm=true) (nV:GS js g) (kS:∀ j∈js,j∉js') (pD:∀ j∈js++js',ix[j]? = some none) (hi:PI X tg iter wi)
  (hg:∀ s₃ H₃ ex ip,PG (zat X N' scope s₃ H₃ ex ip) tg g) (ht:∀ s₃ H₃ ex ip,zf3 (zat X N' scope s₃ H₃ ex ip) ifs ts) (hm:∀ s₃ H₃ ex ip D,PM (zat X N' scope s₃ H₃ ex ip) D js' (mk D (zat X N' scope s₃ H₃ ex ip).env) tm)
  (jH:∀ it D env,compTurn (.ListComp elt (⟨tg,iter,ifs,0⟩ :: gs) scope pos) 0 it (.ref D) env=zc9 tg ifs iter.pos (mk D env) (.compLoop (.ListComp elt (⟨tg,iter,ifs,0⟩ :: gs) scope pos) 0 it (.ref D) env) it env)
  (hs:∀ x,foldedSetIterable iter X.env x=pure x:=by intro _; rfl):PE X (.ListComp elt (⟨tg,iter,ifs,0⟩ :: gs) scope pos) (zjp ix wi g ts tm):=by
 intro ip s σ H Q I h;rw [eval_ListComp];have nW:∀ y∈scope.names,y.2 = .free→∃ c,X.env.cells.lookup y.1=some c:=fun y hy hf=>I.ok.has y.1 (SC.free y hy hf)
 refine eF (use:=none) rfl hs (zcA nW) SC.kind SC.names (thn (hi ip s σ H _ I h) fun v s1 h1=>thn h1 fun qy s2 h2=>?_);obtain⟨it,fp,tn,J,H2,e,I2,T,j4,f2,q⟩:=h2;subst e;refine zdo (RR:=fun acc C=>compPost (model X.prog X.w) X.A X.xe none (EP X ip σ Q) acc C) SC hc nV kS pD hg ht hm jH I2 T j4 f2 q ?_;intro D C s' ys H' m I' rO hm q';refine⟨m,hm,fun rP mU=>⟨.ref D,_,?_,rfl,q'⟩⟩;obtain⟨f0,f1,f2',f3,f4,f5⟩:=rO;exact I'.turned (t':=s'.toks) (fun b o hb e=>mU.extBut b o hb e) f0 f1 f3 f4 f5
theorem zf6 {wi:TI} {i:Nat} {x:Str} {pos' jI:Pos} (hN:X.N.Nodup) (rQ:X.N[i]? = some x) (hx:Loc X.env.scope x) (SC:CompSc X N' ix scope) (hc:X.calm=true) (nV:GS js g) (kS:∀ j∈js,j∉js') (pD:∀ j∈js++js',ix[j]? = some none) (hi:PI X tg iter wi)
  (hg:∀ s₃ H₃ ex ip,PG (zat X N' scope s₃ H₃ ex ip) tg g) (ht:∀ s₃ H₃ ex ip,zf3 (zat X N' scope s₃ H₃ ex ip) ifs ts) (hm:∀ s₃ H₃ ex ip D,PM (zat X N' scope s₃ H₃ ex ip) D js' (mk D (zat X N' scope s₃ H₃ ex ip).env) tm)
  (jH:∀ it D env,compTurn (.ListComp elt (⟨tg,iter,ifs,0⟩ :: gs) scope pos) 0 it (.ref D) env=zc9 tg ifs iter.pos (mk D env) (.compLoop (.ListComp elt (⟨tg,iter,ifs,0⟩ :: gs) scope pos) 0 it (.ref D) env) it env)
  (rR:swapsWith (.ListComp elt (⟨tg,iter,ifs,0⟩ :: gs) scope pos) (some (.Name x pos')) jI.line X.env=pure true:=by rfl)
  (hs:∀ x,foldedSetIterable iter X.env x=pure x:=by intro _; rfl) (hf:X.fn x=true∨X.env.scope.names.lookup x=some .local:=by first | exact .inl rfl | exact .inr rfl | assumption) :
  PS X (.Assign [.Name x pos'] (.ListComp elt (⟨tg,iter,ifs,0⟩ :: gs) scope pos) jI) (zfW (zjp ix wi g ts tm) (zaW i)):=by
 intro ip s σ H D I h;have nW:∀ y∈scope.names,y.2 = .free→∃ c,X.env.cells.lookup y.1=some c:=fun y hy hf=>I.ok.has y.1 (SC.free y hy hf)
 rw [exec_Assign_Name_used _ _ _ _ rR]; refine ag (cI (ag ?_));show wpAny _ X.A (do let _ ← comprehension (.ListComp elt (⟨tg,iter,ifs,0⟩ :: gs) scope pos) scope X.env _ (newList []) false (eval iter X.env) (some (assign (.Name x pos') X.env))) _ _ s;refine ag (bg (eF (use:=some (assign (.Name x pos') X.env)) (Q:=fun _ s'=>SP X ip D .next s') rfl hs (zcA nW) SC.kind SC.names
  (thn (hi ip s σ H _ I h) fun v s1 h1=>thn h1 fun qy s2 h2=>?_)) (fun _ s' hq=>al (al hq)) fun _ _ e=>e)
 obtain⟨it,fp,tn,J,H2,e,I2,T,j4,f2,q⟩:=h2;subst e;refine zdo (Q:=fun x H1=>zaW i x σ H1 D.nx) (RR:=fun acc C=>compPost (model X.prog X.w) X.A X.xe (some (assign (.Name x pos') X.env)) (fun _ s'=>SP X ip D .next s') acc C) SC hc nV kS pD hg ht hm jH I2 T j4 f2 q ?_;intro Da C s' ys H' m I' rO hm q';show wpAny _ X.A (assign (.Name x pos') X.env (.ref Da)) _ _ _;refine wpAny_assign_Name (zeG I' hN rQ hx (show RelV (.ref Da) (.ref Da) from rfl) (fun l8 I'' ⟨a,jf,ha⟩=>?_) hf);obtain⟨f0,f1,f2',f3,f4,f5⟩:=rO;have hCa:C≠a:=by
  rcases ha with e | e
  ·rw [e]; exact f1
  ·exact bL (f4 x a e)
 refine⟨m,hm.sameBut jf hCa,fun h₃ hs₃=>⟨_,_,?_,q'⟩⟩;exact I''.turned (t':=l8.toks) (fun b o hb e=>hs₃.extBut b o hb e) f0 f1 f3 f4 f5
end
def zdb (ix:List (Option Nat)):List Nat:=(aV ix.length).filter fun j=>ix[j]? == some none
theorem zbP {ix:List (Option Nat)} {i:Nat}:i∈zdb ix↔ix[i]? = some none:=by
 unfold zdb;rw [eQ,bS,beq_iff_eq];exact⟨fun h=>h.2,fun h=>⟨(aC.mp h).1,h⟩⟩
def GK (ix:List (Option Nat)) (g:TG):Prop:=GS (zdb ix) g
def GKs (ix:List (Option Nat)) (g:TGs):Prop:=GSs (zdb ix) g
theorem zaP {ix:List (Option Nat)} {i:Nat} (hi:ix[i]? = some none):GK ix (zaW i):=zlv (zbP.2 hi)
theorem zly {ix:List (Option Nat)}:GKs ix zmX:=zlw
theorem zf7 {ix:List (Option Nat)} {i:Nat} {u:TGs} (hi:ix[i]? = some none) (h2:GKs ix u):GKs ix (zi6 (zaW i) u):=zjo (zbP.2 hi) h2
theorem znb {ix:List (Option Nat)} {K:af} {n:Nat} {t:TGs} (h:GKs ix t):GK ix (zlj K n t):=zna h
theorem zmN {elt t1 i1:Expr} {f1:List Expr} {scope:Scope} {pos:Pos} (it:Value) (D:Addr) (env:Env):compTurn (.ListComp elt [⟨t1,i1,f1,0⟩] scope pos) 0 it (.ref D) env =
  zc9 t1 f1 i1.pos (zf5 elt (.ref D) env) (.compLoop (.ListComp elt [⟨t1,i1,f1,0⟩] scope pos) 0 it (.ref D) env) it env:=by rfl
section
variable {X:Cx} {elt tg iter:Expr} {ifs:List Expr} {scope:Scope} {pos:Pos} {N':List Str} {ix:List (Option Nat)} {g:TG} {ts:TT} {te:TE}
theorem zaQ {wi:TI} (SC:CompSc X N' ix scope) (hc:X.calm=true) (hk:GK ix g) (hi:PI X tg iter wi)
  (hg:∀ s₃ H₃ ex ip,PG (zat X N' scope s₃ H₃ ex ip) tg g) (ht:∀ s₃ H₃ ex ip,zf3 (zat X N' scope s₃ H₃ ex ip) ifs ts) (he:∀ s₃ H₃ ex ip,PE (zat X N' scope s₃ H₃ ex ip) elt te)
  (hs:∀ x,foldedSetIterable iter X.env x=pure x:=by intro _; rfl):PE X (.ListComp elt [⟨tg,iter,ifs,0⟩] scope pos) (zmM ix wi g ts te) :=
 zjs (mk:=fun D env=>zf5 elt (.ref D) env) (js:=zdb ix) (js':=[]) SC hc hk (fun _ _ h=>nomatch h) (fun j h=>zbP.1 (by simpa using h)) hi hg ht (fun s₃ H₃ ex ip D=>zjq rfl (he s₃ H₃ ex ip)) (fun _ _ _=>zmN _ _ _) hs
theorem zgY {wi:TI} {i:Nat} {x:Str} {pos' jI:Pos} (hN:X.N.Nodup) (rQ:X.N[i]? = some x) (hx:Loc X.env.scope x) (SC:CompSc X N' ix scope) (hc:X.calm=true) (hk:GK ix g) (hi:PI X tg iter wi)
  (hg:∀ s₃ H₃ ex ip,PG (zat X N' scope s₃ H₃ ex ip) tg g) (ht:∀ s₃ H₃ ex ip,zf3 (zat X N' scope s₃ H₃ ex ip) ifs ts) (he:∀ s₃ H₃ ex ip,PE (zat X N' scope s₃ H₃ ex ip) elt te)
  (rR:swapsWith (.ListComp elt [⟨tg,iter,ifs,0⟩] scope pos) (some (.Name x pos')) jI.line X.env=pure true:=by rfl)
  (hs:∀ x,foldedSetIterable iter X.env x=pure x:=by intro _; rfl) (hf:X.fn x=true∨X.env.scope.names.lookup x=some .local:=by first | exact .inl rfl | exact .inr rfl | assumption) :
  PS X (.Assign [.Name x pos'] (.ListComp elt [⟨tg,iter,ifs,0⟩] scope pos) jI) (zfW (zmM ix wi g ts te) (zaW i)) :=
 zf6 (mk:=fun D env=>zf5 elt (.ref D) env) (js:=zdb ix) (js':=[]) hN rQ hx SC hc hk (fun _ _ h=>nomatch h) (fun j h=>zbP.1 (by simpa using h)) hi hg ht (fun s₃ H₃ ex ip D=>zjq rfl (he s₃ H₃ ex ip)) (fun _ _ _=>zmN _ _ _) rR hs hf
end
section
variable {X:Cx} {ip:List (Addr×Obj)} {σ:St} {H:Hp} {s:Shared} {h':Heap}
theorem Inv.turnedL {t':Nat} {ch:List Addr} (I:Inv X ip σ H s) (k:∀ b o,b∉ch→s.heap.get? b=some o→h'.get? b=some o) (hf:∀ b∈ch,zcs X ip H b)
  (th:∀ b∈ch,∃ o,h'.get? b=some o):Inv X ip σ H { s with heap:=h',toks:=t' }:=by
 have nv:∀ b u,H b=some u→b∉ch:=fun b u e z=>by rw [(hf b z).1] at e; cases e
 refine I.step (g':=s.gens) (d':=s.drawn) (ch:=ch) (fun b hb=>?_) (fun b o _ _ hc e _=>k b o hc e) (fun b o _ _ hc e _=>⟨o.slots,k b o hc e⟩) (fun _ _ _ _ n=>n)
  (fun b o hc e=>⟨o,k b o hc e⟩) (fun _ _ e=>e) (fun _ _ _ e=>e) (fun b ps e=>⟨#[],by rw [e]; simp⟩) (fun m hm=>?_) (fun b u e=>?_) I.bare
 ·obtain⟨_,a1,_,a3,a4,a5⟩:=hf b hb;exact⟨a3,a1,a4,a5⟩
 ·obtain⟨o,es,ep,ho,r⟩:=hm;exact⟨o,es,ep,k _ o (fun z=>(hf _ z).2.1 rfl) ho,r⟩
 ·refine (I.hok b u e).stay (fun c v hc q=>k c v ?_ q) (fun _ q=>q) fun _ _ q=>q
  rcases hc with z | z
  ·rw [z]; exact nv b u e
  ·exact nv c _ z
theorem Inv.turnedNew {t':Nat} {ch:List Addr} {T:Addr} {o:HO} (I:Inv X ip σ H s) (k:∀ b o,b∉ch→s.heap.get? b=some o→h'.get? b=some o) (hf:∀ b∈ch,zcs X ip H b)
  (th:∀ b∈ch,∃ o,h'.get? b=some o) (hT:s.heap.objs.size≤T) (ok:zal X.prog X.w (upd H T o) h' T o):Inv X ip σ (upd H T o) { s with heap:=h',toks:=t' }:=by
 have I1:Inv X ip σ H { s with heap:=h',toks:=t' }:=I.turnedL k hf th;have hn:H T=none:=I.hok.fresh hT;obtain⟨_,a1,a2,a3,a4,a5⟩:=I.fpOk (H':=H) hT hn;exact I1.track hn (aZ I.sz hT) (bL a1) a4 a5 ok
end
theorem zgZ {h:Heap} {T:Addr} {a b:Value} (e:h.get? T=some { cls:=.type "tuple",data:=.seq #[a,b] }):IsTup h T ([a,b]:List Value).toArray:=⟨_,e,rfl,_,rfl⟩
theorem zdp:2≤sizeLine:=by rw [aM]; decide
def zok (mM mO:Hp→Addr→List V→Prop) (a b:Addr):It :=
 ⟨fun i H=>∃ xs ys x y,mM H a xs∧mO H b ys∧xs[i]? = some x∧ys[i]? = some y,
  fun i H x H'=>∃ T u v,H T=none∧x = .ref T∧H'=upd H T (.tup [u,v])∧(∀ xs,mM H a xs→xs[i]? = some u)∧∀ ys,mO H b ys→ys[i]? = some v,
  fun i H=>∃ xs ys,mM H a xs∧mO H b ys∧(xs.length≤i∨ys.length≤i)⟩
end L2
end
section
namespace PySem
namespace F
end F
section
variable {prog:Program} {w:World} {A:Around} {E:Value→Shared→Prop} {s:Shared}
theorem zf8 {it t:Addr} {i:Nat} {iu:Array Value} {x:Value} {Q:Value→Shared→Prop} (hit:s.heap.IsTupleIter it t i) (ht:s.heap.IsTuple t iu) (hx:iu[i]? = some x)
  (hQ:∀ h',h'.IsTupleIter it t (i+1)→aR it s.heap h'→Q x { s with heap:=h' }):wpAny (model prog w) A (aK (.ref it)) Q E s:=by
 obtain⟨o,ho,hc,hd⟩:=id hit; obtain⟨ot,rS,_,nt,rT⟩:=ht;unfold aK; refine ag (cm (name:=bX "__next__") hit.typeIs bZ (cF bZ hit.typeIs dU ?_ (dI _)));show wpAny _ _ (field (.ref it) 0 >>= _) _ _ s; refine ag (bB ho hd (x:=.ref t) rfl ?_); show wpAny _ _ (if (aL t == bU)=true then _ else _) _ _ _; rw [if_neg (by exact ay)];refine ag (bB ho hd (x:=.int _ 0) rfl ?_); refine ag (m:=seqItems? _) (bT rS rT ?_); simp only [ca,hx];have hn:=dm (Obj.mapFields (·.setIfInBounds 1 (rawInt ((i+1:Nat):Int)))) ho (Obj.isFreed_of_fields (f' hd _));refine ag (wpAny_setField ho hd #[M] (al ⟨x,rfl,al (hQ _ ⟨_,hn,(Obj.cls_mapFields ..).trans hc,?_⟩ (fM ..))⟩)); rw [f' hd]; simp [rawInt]
theorem zf9 {it t:Addr} {i:Nat} {iu:Array Value} {Q:Value→Shared→Prop} (hh:A.handled=none) (hit:s.heap.IsTupleIter it t i) (ht:s.heap.IsTuple t iu) (hx:iu[i]? = none)
  (hE:∀ h' e,Heap.ExtBut it s.heap h'→(∃ o,h'.get? e=some o∧o.cls = .type "StopIteration")→E (.ref e) { s with heap:=h' }):wpAny (model prog w) A (aK (.ref it)) Q E s:=by
 obtain⟨o,ho,hc,hd⟩:=id hit; obtain⟨ot,rS,_,nt,rT⟩:=ht;unfold aK; refine ag (cm (name:=bX "__next__") hit.typeIs bZ (cF bZ hit.typeIs dU ?_ (dI _)));show wpAny _ _ (field (.ref it) 0 >>= _) _ _ s; refine ag (bB ho hd (x:=.ref t) rfl ?_); show wpAny _ _ (if (aL t == bU)=true then _ else _) _ _ _; rw [if_neg (by exact ay)];refine ag (bB ho hd (x:=.int _ 0) rfl ?_); refine ag (m:=seqItems? _) (bT rS rT ?_); simp only [ca,hx];refine ag (c8 (ag (wpAny_setField ho hd #[M] ?_))); show wpAny _ _ (newExc (.type "StopIteration") [] >>= _) _ _ _; refine ag ?_;simp only [newExc,newTuple]; refine ag (el ?_ (by size_fits)); refine ag (m:=firstArgMember _ _) (wpAny_of_eq (a:=bU) (by first | rfl | (simp only [firstArgMember]; rfl)) ?_);refine el ?_ (by size_fits); simp only [raiseNew]; refine ag (wpAny_handled ?_); first | rw [show A.in1.handled=none from hh] | rw [hh]
 refine ag (al (wpAny_throw ?_)); exact hE _ _ (((fM ..).extBut.push _).push _) ⟨_,au _ rfl,rfl⟩
end
theorem Draws.tuple {prog:Program} {w:World} {A:Around} (hh:A.handled=none) (it t:Addr) (jv:t≠it) (iu:Array Value):Draws prog w A it [it,t] iu.size (fun i v=>iu[i]? = some v) (fun i h=>h.IsTupleIter it t i∧h.IsTuple t iu) where
 live:=fun i h st=>st.1.imp fun o r=>r.1
 frame:=fun i h h' st kk=>⟨st.1.at fun o=>kk it #[M] o,st.2.at fun o=>kk t #[M] o⟩
 item:=fun i s Q E hi st hQ=>zf8 st.1 st.2 (x:=iu[i]) (by simp [hi]) fun h' a b=>hQ _ h' s.toks (by simp [hi]) ⟨a,st.2.extBut b.extBut jv⟩ b
 done:=fun s Q E st hE=>zf9 hh st.1 st.2 #[M] hE
def zbX (t:Addr):Obj:={ cls:=.type "tuple_iterator",data:=.fields #[.ref t,.int 0 0] }
end PySem
namespace L2
open PySem PySem.Spec PyProof.Rows
inductive EqD (K:af) (H:Hp):Nat→V→V→Bool→Prop where
 | flat {d:Nat} {x y:V} (hx:zdN x=true) (hy:zdN y=true):EqD K H d x y (eqV x y)
 | same {d:Nat} {a:Addr}:EqD K H d (.ref a) (.ref a) true
 | lists {d:Nat} {a b:Addr} {xs ys:List V} {e:Nat→Bool} (jv:a≠b) (ha:iw K H a xs) (hb:iw K H b ys) (hl:xs.length=ys.length)
   (he:∀ (j:Nat) x y,xs[j]? = some x→ys[j]? = some y→EqD K H d x y (e j)):EqD K H (d+1) (.ref a) (.ref b) ((aV xs.length).all e)
 | lens {d:Nat} {a b:Addr} {xs ys:List V} (jv:a≠b) (ha:iw K H a xs) (hb:iw K H b ys) (hl:xs.length≠ys.length):EqD K H (d+1) (.ref a) (.ref b) false
 | tups {d:Nat} {a b:Addr} {xs ys:List V} {e:Nat→Bool} (jv:a≠b) (ha:iI K H a xs) (hb:iI K H b ys)
   (he:∀ (j:Nat) x y,xs[j]? = some x→ys[j]? = some y→EqD K H d x y (e j)):EqD K H (d+1) (.ref a) (.ref b) ((aV (min xs.length ys.length)).all e && xs.length == ys.length)
theorem zx.getE {xs:List V} {us:List Value} (r:zx xs us) {j:Nat} (h:j < us.toArray.size):∃ x,xs[j]? = some x∧RelV x us.toArray[j]:=by
 have hl:=r.length;have hj:j < xs.length:=by rw [hl]; simpa using h
 obtain⟨u,hu,ru⟩:=r.get (i:=j) (x:=xs[j]) #[M];refine⟨xs[j],#[M],?_⟩;have:us.toArray[j]=u:=by
  have h2:j < us.length:=by simpa using h
  rw [a7 h2] at hu;simpa using az hu
 rw [this];exact ru
theorem EqD.at {X:Cx} {ip:List (Addr×Obj)} {σ:St} {H:Hp} {s:Shared} (I:Inv X ip σ H s) {d:Nat} {x y:V} {b:Bool} (h:EqD X.K H d x y b) :
  ∀ (A:Around) (u v:Value),RelV x u→RelV y v→A.units+d < cLine→gQ A s u v b:=by
 induction h with
 | flat hx hy=>exact fun A u v rx ry _=>zm4 rx ry hx hy
 | same=>intro A u v rx ry _; cases rx; cases ry; exact gR _
 | lists jv ha hb hl he ih =>
  intro A u v rx ry hu;cases rx; cases ry;obtain⟨lT,r1,p1,_⟩:=I.list ha;obtain⟨lU,r2,p2,_⟩:=I.list hb;have l1:=r1.length;have l2:=r2.length;refine dW jv ?_;have q:=gE (A:=A) p1.isList p2.isList (by simp only [aj]; lia) #[O] fun j h1 h2=>by
   obtain⟨x,hx,rx⟩:=r1.getE h1;obtain⟨y,hy,ry⟩:=r2.getE h2;exact ih j x y hx hy A.in1 _ _ rx ry (by simp only [bK]; lia)
  rw [aj,← l1] at q;exact q
 | lens jv ha hb hl =>
  intro A u v rx ry hu;cases rx; cases ry;obtain⟨lT,r1,p1,_⟩:=I.list ha;obtain⟨lU,r2,p2,_⟩:=I.list hb;have l1:=r1.length;have l2:=r2.length;exact dW jv (eG p1.isList p2.isList (by simp only [aj,bne_iff_ne]; lia) #[O])
 | tups jv ha hb he ih =>
  intro A u v rx ry hu;cases rx; cases ry;obtain⟨lT,r1,p1,_⟩:=I.tuple ha;obtain⟨lU,r2,p2,_⟩:=I.tuple hb;have l1:=r1.length;have l2:=r2.length;refine dW jv ?_;have q:=et (A:=A) (s:=s) p1 p2 #[O] fun j h1 h2=>by
   obtain⟨x,hx,rx⟩:=r1.getE h1;obtain⟨y,hy,ry⟩:=r2.getE h2;exact ih j x y hx hy A.in1 _ _ rx ry (by simp only [bK]; lia)
  rw [aj,aj,← l1,← l2] at q;exact q
def zjt (K:af) (neg:Bool):R2:=fun x y H Q=>∃ a b xs ys,x = .ref a∧y = .ref b∧((iw K H a xs∧iw K H b ys)∨(iI K H a xs∧iI K H b ys)) ∧
 ((xs.length≠ys.length∧(∀ (j:Nat) x y,xs[j]? = some x→ys[j]? = some y→∃ c,EqD K H 8 x y c)∧Q (.bl neg) H) ∨
  (xs.length=ys.length∧∃ e:Nat→Bool,(∀ (j:Nat) x y,xs[j]? = some x→ys[j]? = some y→EqD K H 8 x y (e j))∧Q (.bl (if neg then !(aV xs.length).all e else (aV xs.length).all e)) H))
theorem znc {X:Cx} (hu:X.A.units+20 < cLine):OpR X (compareOp .Eq) (zjt X.K false):=by
 intro ip s σ H x y v u Q I rx ry h;obtain⟨a,b,xs,ys,rfl,rfl,hk,h⟩:=h;cases rx; cases ry;rcases hk with ⟨ha,hb⟩ | ⟨ha,hb⟩
 ·obtain⟨lT,r1,p1,_⟩:=I.list ha;obtain⟨lU,r2,p2,_⟩:=I.list hb;have l1:=r1.length;have l2:=r2.length;rcases h with ⟨hl,_,q⟩ | ⟨hl,e,he,q⟩
  ·exact eG p1.isList p2.isList (by simp only [aj,bne_iff_ne]; lia) #[O] _ _ _ _ ⟨.bl false,H,I,rfl,q⟩
  ·refine gE p1.isList p2.isList (e:=e) (by simp only [aj]; lia) #[O] (fun j h1 h2=>?_) _ _ _ _ ⟨.bl _,H,I,rfl,?_⟩
   ·obtain⟨x,hx,rx⟩:=r1.getE h1;obtain⟨y,hy,ry⟩:=r2.getE h2;exact (he j x y hx hy).at I _ _ _ rx ry (by simp only [bK]; lia)
   ·rw [aj,← l1];exact q
 ·obtain⟨lT,r1,p1,_⟩:=I.tuple ha;obtain⟨lU,r2,p2,_⟩:=I.tuple hb;have l1:=r1.length;have l2:=r2.length;rcases h with ⟨hl,he,q⟩ | ⟨hl,e,he,q⟩
  ·have rV:∀ j:Nat,∃ c:Bool,∀ x y,xs[j]? = some x→ys[j]? = some y→EqD X.K H 8 x y c:=fun j=>by
    cases hx:xs[j]? with
    | none=>exact⟨true,fun x y z=>by cases z⟩
    | some x =>
     cases hy:ys[j]? with
     | none=>exact⟨true,fun x y _ z=>by cases z⟩
     | some y =>
      obtain⟨c,hc⟩:=he j x y hx hy;exact⟨c,fun x' y' z1 z2=>by cases z1; cases z2; exact hc⟩
   obtain⟨e,nY⟩:=eM rV;refine et (s:=s) p1 p2 (e:=e) #[O] (fun j h1 h2=>?_) _ _ _ _ ⟨.bl _,H,I,rfl,?_⟩
   ·obtain⟨x,hx,rx⟩:=r1.getE h1;obtain⟨y,hy,ry⟩:=r2.getE h2;exact (nY j x y hx hy).at I _ _ _ rx ry (by simp only [bK]; lia)
   ·have kT:(lT.toArray.size == lU.toArray.size)=false:=by
     rw [aj,aj]; exact beq_eq_false_iff_ne.mpr #[O]
    rw [kT,dJ];exact q
  ·refine et (s:=s) p1 p2 (e:=e) #[O] (fun j h1 h2=>?_) _ _ _ _ ⟨.bl _,H,I,rfl,?_⟩
   ·obtain⟨x,hx,rx⟩:=r1.getE h1;obtain⟨y,hy,ry⟩:=r2.getE h2;exact (he j x y hx hy).at I _ _ _ rx ry (by simp only [bK]; lia)
   ·have kT:(lT.toArray.size == lU.toArray.size)=true:=by
     rw [aj,aj]; exact beq_iff_eq.mpr #[O]
    have nZ:min lT.toArray.size lU.toArray.size=xs.length:=by rw [aj,aj]; lia
    rw [kT,fH,nZ];exact q
theorem zdc {X:Cx} (hu:X.A.units+20 < cLine):OpR X (compareOp .NotEq) (zjt X.K true):=by
 intro ip s σ H x y v u Q I rx ry h;obtain⟨a,b,xs,ys,rfl,rfl,hk,h⟩:=h;cases rx; cases ry;rcases hk with ⟨ha,hb⟩ | ⟨ha,hb⟩
 ·obtain⟨lT,r1,p1,_⟩:=I.list ha;obtain⟨lU,r2,p2,_⟩:=I.list hb;have l1:=r1.length;have l2:=r2.length;rcases h with ⟨hl,_,q⟩ | ⟨hl,e,he,q⟩
  ·exact SeqAt.RcNeAt.lists_lengths p1.isList p2.isList (by simp only [aj,bne_iff_ne]; lia) #[O] _ _ _ _ ⟨.bl true,H,I,rfl,q⟩
  ·refine SeqAt.RcNeAt.lists p1.isList p2.isList (e:=e) (by simp only [aj]; lia) #[O] (fun j h1 h2=>?_) _ _ _ _ ⟨.bl _,H,I,rfl,?_⟩
   ·obtain⟨x,hx,rx⟩:=r1.getE h1;obtain⟨y,hy,ry⟩:=r2.getE h2;exact (he j x y hx hy).at I _ _ _ rx ry (by simp only [bK]; lia)
   ·rw [aj,← l1];exact q
 ·obtain⟨lT,r1,p1,_⟩:=I.tuple ha;obtain⟨lU,r2,p2,_⟩:=I.tuple hb;have l1:=r1.length;have l2:=r2.length;rcases h with ⟨hl,he,q⟩ | ⟨hl,e,he,q⟩
  ·have rV:∀ j:Nat,∃ c:Bool,∀ x y,xs[j]? = some x→ys[j]? = some y→EqD X.K H 8 x y c:=fun j=>by
    cases hx:xs[j]? with
    | none=>exact⟨true,fun x y z=>by cases z⟩
    | some x =>
     cases hy:ys[j]? with
     | none=>exact⟨true,fun x y _ z=>by cases z⟩
     | some y =>
      obtain⟨c,hc⟩:=he j x y hx hy;exact⟨c,fun x' y' z1 z2=>by cases z1; cases z2; exact hc⟩
   obtain⟨e,nY⟩:=eM rV;refine fN (s:=s) p1 p2 (e:=e) #[O] (fun j h1 h2=>?_) _ _ _ _ ⟨.bl _,H,I,rfl,?_⟩
   ·obtain⟨x,hx,rx⟩:=r1.getE h1;obtain⟨y,hy,ry⟩:=r2.getE h2;exact (nY j x y hx hy).at I _ _ _ rx ry (by simp only [bK]; lia)
   ·have kT:(lT.toArray.size == lU.toArray.size)=false:=by
     rw [aj,aj]; exact beq_eq_false_iff_ne.mpr #[O]
    rw [kT,dJ];exact q
  ·refine fN (s:=s) p1 p2 (e:=e) #[O] (fun j h1 h2=>?_) _ _ _ _ ⟨.bl _,H,I,rfl,?_⟩
   ·obtain⟨x,hx,rx⟩:=r1.getE h1;obtain⟨y,hy,ry⟩:=r2.getE h2;exact (he j x y hx hy).at I _ _ _ rx ry (by simp only [bK]; lia)
   ·have kT:(lT.toArray.size == lU.toArray.size)=true:=by
     rw [aj,aj]; exact beq_iff_eq.mpr #[O]
    have nZ:min lT.toArray.size lU.toArray.size=xs.length:=by rw [aj,aj]; lia
    rw [kT,fH,nZ];exact q
theorem zaN {X:Cx}:zba X (.builtin "isinstance") (fun xs H Q=>∃ x t n b,xs = [x,.ty n]∧TyOf X.K H x t∧aP X.K t (.type n)=some b∧Q (.bl b) H):=by
 intro ip s σ H xs us Q I r h;obtain⟨x,t,n,b,rfl,ty,hk,q⟩:=h;obtain⟨u,u',rfl,rx,r2⟩:=vals2 r;cases r2;exact zhY I rx ty hk fun tk=>⟨.bl b,H,I.tok tk,rfl,q⟩
theorem zga {X:Cx}:zba X (.type "range") (fun xs H Q=>∃ j:Int,xs = [.int j]∧∀ l,H l=none→Q (.ref l) (upd H l (.rng 0 j))):=by
 intro ip s σ H xs us Q I r h;obtain⟨j,rfl,q⟩:=h;obtain⟨u,rfl,t,rfl⟩:=vals1 r;refine call_range_1 ?_;exact⟨.ref s.heap.objs.size,_,I.laid (o:=.rng 0 j) (fun b o e=>ai _ e) (ak _) ⟨_,_,_,au _ rfl⟩,rfl,q _ I.fresh⟩
def zby (lo:Int) (n:Nat):List Int:=(aV n).map fun (i:Nat)=>lo+(i:Int)
theorem zcB (lo:Int) (n:Nat):(zby lo n).length=n:=by simp [zby]
theorem zep {acc:Array Value} {lo:Int} {n:Nat} (h:ItemsOf (fun i v=>∃ t,v = .int (lo+(i:Nat)*1) t) acc n):zx ((zby lo n).map V.int) acc.toList:=by
 obtain⟨hsz,hv⟩:=h;have go:∀ (us:List Value) (k:Nat),(∀ (j:Nat) v,us[j]? = some v→∃ t,v = .int (lo+((k+j:Nat):Int)) t)→zx (((aV us.length).map fun (i:Nat)=>V.int (lo+((k+i:Nat):Int)))) us:=by
  intro us;induction us with
  | nil=>intro k _; exact .nil
  | cons u us ih =>
   intro k hu;rw [aN,e7,bp,gb];refine .cons ?_ ?_
   ·obtain⟨t,e⟩:=hu 0 u rfl;exact⟨t,e⟩
   ·have:=ih (k+1) fun j v e=>by
     obtain⟨t,z⟩:=hu (j+1) v (by simpa using e);exact⟨t,by rw [z]; congr 1; lia⟩
    have e2:(fun (i:Nat)=>V.int (lo+((k+1+i:Nat):Int)))=((fun (i:Nat)=>V.int (lo+((k+i:Nat):Int))) ∘ Nat.succ):=by
     funext i;show V.int _=V.int _;congr 2;show ((k+1+i:Nat):Int)=((k+(i+1):Nat):Int);lia
    rw [← e2];exact this
 have h1:=go acc.toList 0 fun j v e=>by
  obtain⟨t,z⟩:=hv j v (by simpa using e);exact⟨t,by rw [z]; simp⟩
 have e1:acc.toList.length=n:=by simpa using hsz
 rw [e1] at h1;unfold zby;rw [gb];have e2:(V.int ∘ fun (i:Nat)=>lo+(i:Int))=fun (i:Nat)=>V.int (lo+((0+i:Nat):Int)):=by
  funext i;show V.int (lo+(i:Int))=V.int (lo+((0+i:Nat):Int));rw [Nat.zero_add]
 rw [e2];exact h1
theorem zeq {X:Cx} (hc:X.calm=true):zba X (.type "list") (fun xs H Q=>∃ p hi,xs = [.ref p]∧H p=some (.rng 0 hi)∧0≤hi∧hi≤1000∧∀ l,H l=none→Q (.ref l) (upd H l (.lst ((zby 0 hi.toNat).map V.int)))):=by
 intro ip s σ H xs us Q I r h;obtain⟨p,hi,rfl,hp,h0,h1,q⟩:=h;obtain⟨u,rfl,rx⟩:=vals1 r;cases rx;obtain⟨t,u',v,e⟩:=(show zal X.prog X.w H s.heap p (.rng 0 hi) from I.hok p _ hp);have kz:=aM;refine call_list_range (n:=hi.toNat) (I.ok.hd hc) (show IsRange s.heap p 0 hi 1 t u' v from e) (small_one #[O] #[O] #[O] #[O]) (by rw [rangeSize_one]; split <;> lia) #[O] fun h' tk rW c' kk ho rX=>?_
 have hv:=zep (lo:=0) (n:=hi.toNat) rX;refine⟨.ref s.heap.objs.size,_,I.laid kk (ak _) ?_,rfl,q _ I.fresh⟩;exact⟨by rw [ah,zcB]; lia,rW.toList,c',hv,by simpa using ho⟩
def intsOf:List Expr→Option (List Int)
 | []=>some []
 | .Constant (.int i) _ _ :: r=>(intsOf r).map (i :: ·)
 | _=>none
def zeS (ns:List Int):TA:=fun _ H Q=>Q (ns.map V.int) H
theorem zju {X:Cx}:∀ (es:List Expr) (ns:List Int),intsOf es=some ns→PA X es (zeS ns):=by
 intro es;induction es with
 | nil =>
  intro ns h;have e:ns = []:=(az h).symm;subst e;exact zd
 | cons e r ih =>
  intro ns h;unfold intsOf at h;split at h
  ·rename_i heq
   cases heq
  ·rename_i i j p r' heq
   injection heq with e1 e2
   subst e1 e2;cases hr:intsOf r with
   | none=>rw [hr] at h; cases h
   | some ms =>
    rw [hr] at h;have e:i :: ms=ns:=az h;subst e;exact za zh (ih ms hr)
  ·cases h
theorem zlz {X:Cx} {es:List Expr} {ns:List Int} (h:intsOf es=some ns):PA X es (zeS ns):=zju es ns h
theorem zdP {X:Cx} {i:Int} {j:Nat} {p:Pos} {es:List Expr} {t:TA} (hr:PA X es t):PA X (.Constant (.int i) j p :: es) (zhF (tC (.int i)) t):=za zh hr
theorem zjv {X:Cx} {i:Nat} {x:Str} {pos' ki jI:Pos} {rest:List Stmt} {u:TS} {es:List Expr} {ns:List Int} (h:intsOf es=some ns) (hN:X.N.Nodup) (hi:X.N[i]? = some x) (hx:Loc X.env.scope x)
  (hf:X.fn x=true∨X.env.scope.names.lookup x=some .local) (hr:PSs X rest u):PSs X (.Assign [.Name x pos'] (.List es ki) jI :: rest) (zbA (zfW (zgU (zeS ns)) (zaW i)) u):=by
 have h1:PE X (.List es ki) (zgU (zeS ns)):=@zaa X es (zeS ns) ki (@zlz X es ns h);have h2:PS X (.Assign [.Name x pos'] (.List es ki) jI) (zfW (zgU (zeS ns)) (zaW i)):=zC hN hi hx h1 (by rfl) hf;exact ze h2 hr
section
variable {X:Cx} {K:af}
theorem zdQ (hK:X.K=K):IxR X (zog K):=by subst hK; exact zM
def zol (K:af):List V→Hp→VK→Prop:=fun xs H Q=>∃ p ys,xs = [.ref p]∧(iw K H p ys∨iI K H p ys)∧Q (.int ys.length) H
theorem zer (hK:X.K=K):zba X (.builtin "len") (zol K):=by subst hK; exact zv
theorem zlA {es:List Expr} {k:Nat} {t:TGs} {n:Nat} {pos:Pos} (hK:X.K=K) (hc:X.calm=true) (h:PGs X es t)
  (hn:(assignEach es X.env).length=n:=by rfl) (j3:(assignEach es X.env).findIdx? (·.1)=none:=by rfl):PG X (.Tuple es k pos) (zlj K n t):=by subst hK; exact zbM hc h hn j3
theorem znd {o e:Expr} {es:List Expr} {to:TE} {t:TA} {name:Str} {apos iY:Pos} {T id:String} {r:V→List V→Hp→VK→Prop} (hK:X.K=K) (pa:PlainAttrs T) (slot:Slot T name id) (pk:typeOf (.builtin id)=pure (.type "method_descriptor")) (hm:MtR X id r) (ho:PE X o to) (ha:PA X (e :: es) t)
  (kA:attributeBase o name X.env (eval o X.env)=eval o X.env:=by rfl)
  (ma:((backTo iY (starEach (e :: es) X.env)).all (fun x=>!x.1) && (backToKw iY (keywordEach [] X.env)).all (fun x=>x.1.isSome)
   && decide ((e :: es).length+([]:List Keyword).length+(if ([]:List Keyword).isEmpty then 0 else 1) < 30))=true:=by rfl)
  (kB:(apos.endLine == iY.line)=true:=by rfl) (hs:starEach (e :: es) X.env=(false,eval e X.env) :: starEach es X.env:=by rfl) (kR:(backTo iY (starEach es X.env)).any (·.1)=false:=by rfl) :
  PE X (.Call (.Attribute o name apos) (e :: es) [] iY) (tBM K T r to t):=by subst hK; exact zcz pa slot pk hm ho ha kA ma kB hs kR
end
end L2
end
section
namespace My
def zab:List Int:=[5,7,11,13,17,19,23,29,31,37,41,43,47,53,59,61,67,71,73,79,83,89,97]
theorem zcm {p:Int} (hp:p∈zab):5≤p∧p≤97:=by
 have:zab.all (fun p=>decide (5≤p∧p≤97))=true:=by decide +kernel
 have:=bz.mp this p hp;simpa using this
end My
end
section
namespace My
open PySem L2 PyProof.Rows
section
variable {K:af}
theorem zb6 {ns:List Int} {k:Int} (h0:0≤k) (h1:k < ns.length):∃ c:Int,ns[k.toNat]? = some c∧atI (ns.map V.int) k=some (.int c):=by
 have jE:k.toNat < ns.length:=by lia
 have e:atI (ns.map V.int) ((k.toNat:Nat):Int)=some (.int ns[k.toNat]):=zci (by simp [aw,a7 jE]);have hk:((k.toNat:Nat):Int)=k:=by lia
 rw [hk] at e;exact⟨ns[k.toNat],#[M],e⟩
theorem zdH {ns:List Int} {k:Int} (h0:0≤k) (h1:k < ns.length):∃ c:Int,atI (ns.map V.int) k=some (.int c):=let ⟨c,_,e⟩:=zb6 h0 h1; ⟨c,e⟩
theorem zf {H:Hp} {a:Addr} {o:HO} (h:H a=none):zJ H (upd H a o):=fun b u e=>by rw [zc (zi e h)]; exact e
theorem zdd {H H':Hp} {a:Addr} {o:HO} (s:zJ H H') (h:H a=none):zJ H (upd H' a o):=fun b u e=>by rw [zc (zi e h)]; exact s b u e
theorem zaX {n:Nat} (h:n≤10000):n < sizeLine:=by rw [aM]; lia
def zh6 (K:af):Sp:=fun vs H Q _=>∃ (a:Addr) (ns:List Int) (k:Int),vs = [.ref a,.int k]∧iw K H a (ns.map V.int)∧ns.length≤63∧0≤k∧k≤1000∧∀ c:Int,Q (.int c) H
def zhJ (many:Nat) (base:Int) (ds:List Int):Prop:=ds.length=many∧∀ d∈ds,0≤d∧d < base
def zg0 (K:af):Sp:=fun vs H Q _=>∃ (a:Addr) (ns:List Int) (k many base:Int),vs = [.ref a,.int k,.int many,.int base]∧iw K H a (ns.map V.int)∧ns.length≤63∧0≤k∧k≤1000∧0≤many∧many≤1000∧0 < base∧base < 1073741824 ∧
 ∀ (l:Addr) (ds:List Int) (H':Hp),H l=none→zJ H H'→zhJ many.toNat base ds→H' l=some (.lst (ds.map V.int))→Q (.ref l) H'
abbrev zlB:List V:=[.int 2147483647,.int 2147483629,.int 2147483587,.int 2147483579,.int 2147483563,.int 2147483549,.int 2147483543,.int 2147483497]
theorem zlC {m:Int} (h0:0≤m) (h1:m < 8):∃ q:Int,atI zlB m=some (.int q)∧0 < q∧q < 2147483648:=by
 have:m=0∨m=1∨m=2∨m=3∨m=4∨m=5∨m=6∨m=7:=by lia
 rcases this with e | e | e | e | e | e | e | e <;> subst e <;> exact⟨_,rfl,#[D],#[D]⟩
theorem zdR (j:Int):∃ q:Int,atI zlB (j % 8)=some (.int q)∧0 < q∧q < 2147483648:=zlC (be _ #[D]) (aU _ #[D])
theorem gY {i:Nat} {x:V} {σ:L2.St} {H:Hp} {A B:L2.St→Hp→Prop} (h:A (σ.set i (some x)) H):zaW i x σ H (fun σ2 H2=>zh3 σ2 H2 fun b H3=>if b=true then A σ2 H3 else B σ2 H3):=by
 show (if true=true then A (σ.set i (some x)) H else B (σ.set i (some x)) H);rw [if_pos rfl];exact h
structure CodeOk (mk mn p k:Int) (pl:List Int):Prop where
 pr:p∈zab
 k1:1≤k
 kk:k≤mk
 kl:k≤pl.length
 ln:(pl.length:Int)≤mn
 nd:pl.Nodup
 rg:∀ x∈pl,0≤x∧x < p
def zh7 (K:af):Sp:=fun vs H Q _=>∃ (a:Addr) (ns:List Int) (at' mk mn:Int),vs = [.ref a,.int at',.int mk,.int mn]∧iw K H a (ns.map V.int)∧ns.length≤63∧0≤at'∧at'≤1000∧1≤mk∧mk≤5∧mk≤mn∧mn≤16 ∧
 ∀ (c tt:Addr) (p k:Int) (pl:List Int) (H':Hp),H c=none→zJ H H'→CodeOk mk mn p k pl→H' c=some (.tup [.int p,.int k,.ref tt])→H' tt=some (.tup (pl.map V.int))→Q (.ref c) H'
theorem zne {x y m:Int} (h0:0≤m) (h1:m < 2):∃ z:Int,atI [V.int x,V.int y] m=some (.int z)∧(z=x∨z=y):=by
 have:m=0∨m=1:=by lia
 rcases this with e | e <;> subst e
 ·exact⟨x,rfl,.inl rfl⟩
 ·exact⟨y,rfl,.inr rfl⟩
theorem zjw {ns:List Int} {k:Int} (h0:0≤k) (h1:k < ns.length):∃ c:Int,c∈ns∧atI (ns.map V.int) k=some (.int c):=by
 obtain⟨c,e,h⟩:=zb6 h0 h1;exact⟨c,aE e,h⟩
theorem zeT {α β:Type} (f:α→β):∀ (l:List α) (k:Nat),(l.map f).eraseIdx k=(l.eraseIdx k).map f
 | [],_=>rfl
 | _ :: _,0=>rfl
 | a :: l,k+1=>by show f a :: (l.map f).eraseIdx k=f a :: (l.eraseIdx k).map f; rw [zeT f l k]
theorem zdS {α:Type}:∀ {l:List α} {k:Nat} {x:α},l[k]? = some x→(x :: l.eraseIdx k).Perm l
 | [],_,_,h=>by simp at h
 | a :: l,0,x,h=>by
  have e:a=x:=by simpa using h
  subst e;exact List.Perm.refl _
 | a :: l,k+1,x,h=>by
  have ih:=zdS (l:=l) (k:=k) (x:=x) (by simpa using h);exact (List.Perm.swap a x _).trans (ih.cons a)
theorem zlD {p:Int} {xs ls:List Int} {k:Nat} {x:Int} (h:ls[k]? = some x) (nd:(xs++ls).Nodup) (rg:∀ y∈xs++ls,0≤y∧y < p):((xs++[x])++ls.eraseIdx k).Nodup∧∀ y∈(xs++[x])++ls.eraseIdx k,0≤y∧y < p:=by
 have hp:((xs++[x])++ls.eraseIdx k).Perm (xs++ls):=by
  rw [gk];exact (zdS h).append_left xs
 exact⟨hp.nodup_iff.mpr nd,fun y hy=>rg y (hp.mem_iff.mp hy)⟩
theorem zh8 (p:Int):(zby 0 p.toNat).Nodup∧∀ y∈zby 0 p.toNat,0≤y∧y < p:=by
 unfold zby;constructor
 ·rw [ee,List.pairwise_map];exact (ee.mp (List.nodup_range (n:=p.toNat))).imp fun {a b} hab=>by lia
 ·intro y hy;obtain⟨i,hi,e⟩:=dB.mp hy;have:=bS.mp hi;lia
theorem zdI {cs:List Int} {j:Nat} {x:V} (h:(cs.map V.int)[j]? = some x):∃ c,x = .int c∧cs[j]? = some c:=by
 rw [aw] at h;cases e:cs[j]? with
 | none=>rw [e] at h; cases h
 | some c=>rw [e] at h; exact⟨c,(az h).symm,rfl⟩
theorem zfk {n j:Nat} (h:j < n):ixN n (j:Int)=some j:=by
 unfold ixN;rw [if_pos #[O],if_pos #[O]];rfl
theorem take_snoc {α:Type} {l:List α} {i:Nat} {x:α} (h:l[i]? = some x):l.take (i+1)=l.take i++[x]:=by
 rw [List.take_add_one,h,Option.toList]
theorem zcn {a:Addr} {xs fs:List V} {g:TG} {ts:TT} {te:TE} {σ0:L2.St} {Q:VK} {H:Hp} (ha:iw K H a xs) (hl:fs.length=xs.length) (hn:xs.length≤10000)
  (hs:∀ (i:Nat) (x y:V) (R:VK) (B:L2.St→Hp→Prop),xs[i]? = some x→fs[i]? = some y→R y H→g x σ0 H fun σ2 H2=>ts σ2 H2 fun b H3=>if b=true then te σ2 H3 R else B σ2 H3)
  (hd:∀ D,H D=none→Q (.ref D) (upd H D (.lst fs))):cGo g ts te σ0 (Itl K a) Q H:=by
 refine zcl (n:=xs.length) (fun i ys H'=>ys=fs.take i∧H'=H) ⟨#[M],rfl⟩ ?_ ?_ ?_ ?_
 ·rintro i ys H3 hi ⟨_,rfl⟩;exact⟨_,xs[i],ha,#[M]⟩
 ·rintro ys H3 ⟨_,rfl⟩;exact⟨_,ha,ak _⟩
 ·rintro i x ys H3 H4 hi ⟨rfl,rfl⟩ ⟨rfl,hx⟩;have hy:fs[i]? = some fs[i]:=by simp
  refine hs i x fs[i] _ _ (hx _ ha) hy ⟨zaX (aZ (cN _ _) #[O]),?_,rfl⟩;rw [take_snoc hy]
 ·rintro ys H3 D ⟨rfl,rfl⟩ hD;rw [bI #[O]];exact hd D hD
theorem zh9 {a:Addr} {xs fs:List V} {g:TG} {ts:TT} {te:TE} {σ0:L2.St} {Q:VK} {H:Hp} (ha:iI K H a xs) (hl:fs.length=xs.length) (hn:xs.length≤10000)
  (hs:∀ (i:Nat) (x y:V) (R:VK) (B:L2.St→Hp→Prop),xs[i]? = some x→fs[i]? = some y→R y H→g x σ0 H fun σ2 H2=>ts σ2 H2 fun b H3=>if b=true then te σ2 H3 R else B σ2 H3)
  (hd:∀ D,H D=none→Q (.ref D) (upd H D (.lst fs))):cGo g ts te σ0 (Itt K a) Q H:=by
 refine zcl (n:=xs.length) (fun i ys H'=>ys=fs.take i∧H'=H) ⟨#[M],rfl⟩ ?_ ?_ ?_ ?_
 ·rintro i ys H3 hi ⟨_,rfl⟩;exact⟨_,xs[i],ha,#[M]⟩
 ·rintro ys H3 ⟨_,rfl⟩;exact⟨_,ha,ak _⟩
 ·rintro i x ys H3 H4 hi ⟨rfl,rfl⟩ ⟨rfl,hx⟩;have hy:fs[i]? = some fs[i]:=by simp
  refine hs i x fs[i] _ _ (hx _ ha) hy ⟨zaX (aZ (cN _ _) #[O]),?_,rfl⟩;rw [take_snoc hy]
 ·rintro ys H3 D ⟨rfl,rfl⟩ hD;rw [bI #[O]];exact hd D hD
theorem zgb {ms:List Int} {f:Int→V} {i:Nat} {x y:V} (hx:(ms.map V.int)[i]? = some x) (hy:(ms.map f)[i]? = some y):∃ c,ms[i]? = some c∧x = .int c∧y=f c:=by
 obtain⟨c,rfl,hc⟩:=zdI hx;rw [aw,hc] at hy;exact⟨c,hc,rfl,(az hy).symm⟩
def zfl (K:af):Sp:=fun vs H Q _=>∃ (a:Addr) (ns:List Int),vs = [.ref a]∧iw K H a (ns.map V.int)∧ns.length≤63∧∀ H',Q (.bl true) H'
end
end My
end
section
namespace PySem
abbrev IsZ (h:Heap) (z TI TO:Addr) (f0 f1:Value):Prop:=h.get? z=some { cls:=.type "zip",dict:=none,data:=.fields #[f0,f1,.bool false,.ref TI,.ref TO],slots:=#[] }
def ZF (f0 f1:Value):Prop:=(f0 = .none∨∃ a t,f0 = .int a t)∧∃ b,f1 = .bool b
structure Zap (z TI TO i1 i2:Addr) (kU kW:List Addr):Prop where
 zTI:TI≠z
 zTO:TO≠z
 z1:i1≠z
 z2:i2≠z
 TT:TI≠TO
 T1:TI≠i1
 T2:TI≠i2
 O1:TO≠i1
 O2:TO≠i2
 ii:i1≠i2
 a1:z∉kU
 a2:TO∉kU
 a3:i2∉kU
 b1:z∉kW
 b2:TO∉kW
 b3:i1∉kW
section
variable {prog:Program} {w:World} {A:Around} {E:Value→Shared→Prop} {s:Shared}
theorem zia {a:Addr} {Q:Option Obj→Shared→Prop} (h:Q (s.heap.get? a) s):wpAny (model prog w) A (loadIfAlive a) Q E s:=fun _ _ _=>h
theorem zjx {z TI TO:Addr} {f0 f1:Value} {Q:Bool→Shared→Prop} (hz:IsZ s.heap z TI TO f0 f1) (hf:ZF f0 f1) (h1:Q true s)
  (h2:∀ h',IsZ h' z TI TO f0 (.bool true)→aR z s.heap h'→Q false { s with heap:=h' }):wpAny (model prog w) A (bD (.ref z)) Q E s:=by
 obtain⟨hf,b,rfl⟩:=hf;unfold bD; rcases hf with rfl | ⟨a,t,rfl⟩
 ·exact ag (bB hz rfl (x:=.none) rfl (al h1))
 ·refine ag (bB hz rfl (x:=.int a t) rfl ?_);refine ag (zia ?_);cases s.heap.get? a.toNat with
  | none=>exact al h1
  | some o =>
   refine ag (bB hz rfl (x:=.bool b) rfl ?_);cases b with
   | true=>exact al (h2 s.heap hz ⟨rfl,fun _ _=>rfl⟩)
   | false=>exact ag (bA hz #[M] fun h' a' b'=>al (h2 h' a' b'))
theorem zlE {z TI TO i1 i2:Addr} {kU kW:List Addr} {n1 n2 k1 k2:Nat} {P1 P2:Nat→Value→Prop} {S1 S2:Nat→Heap→Prop} {f0 f1 a b:Value} {Q:Value→Shared→Prop} (D1:Draws prog w A i1 kU n1 P1 S1) (D2:Draws prog w A i2 kW n2 P2 S2) (Z:Zap z TI TO i1 i2 kU kW)
  (hz:IsZ s.heap z TI TO f0 f1) (hf:ZF f0 f1) (mV:IsPair s.heap TI (.ref i1) (.ref i2)) (nD:IsPair s.heap TO a b) (mW:S1 k1 s.heap) (j4:S2 k2 s.heap) (l1:k1 < n1) (l2:k2 < n2)
  (hQ:∀ x y h' tk g0 g1 a' b',P1 k1 x→P2 k2 y→IsZ h' z TI TO g0 g1→ZF g0 g1→IsPair h' TI (.ref i1) (.ref i2)→IsPair h' TO a' b'→S1 (k1+1) h'→S2 (k2+1) h'→IsPair h' s.heap.objs.size x y→h'.objs.size=s.heap.objs.size+1 →
   (∀ c o,c≠z→c≠TO→c≠i1→c≠i2→s.heap.get? c=some o→h'.get? c=some o)→Q (.ref s.heap.objs.size) { s with heap:=h',toks:=tk }):wpAny (model prog w) A (Builtin.«zip.__next__» ⟨[.ref z],[]⟩) (fun fin s'=>∃ v,fin = .done (.ret v)∧Q v s') E s:=by
 obtain⟨hp,g,d,rY,os⟩:=s;show wpAny _ _ (field (.ref z) 2 >>= _) _ _ _; refine ag (bB hz rfl (x:=.bool false) rfl ?_); show wpAny _ _ (field (.ref z) 3 >>= _) _ _ _;refine ag (bB hz rfl (x:=.ref TI) rfl ?_); refine ag (bT mV rfl ?_);show wpAny _ _ (bD (.ref z) >>= _) _ _ _; refine ag (zjx hz hf ?_ fun h0 hz0 lq=>?_)
 ·simp only [if_true];refine ag (c8 (ag (bB hz rfl (x:=.ref TO) rfl ?_)));refine ag (bA hz #[M] fun ha nE kX=>?_);replace nE:IsZ ha z TI TO .ellipsis f1:=nE;replace kX:aR z hp ha:=kX;refine ag ?_;simp only [gF,gU,bE,cf]; refine ag (ag (df ?_)); show wpAny _ _ (aK (.ref i1) >>= _) _ _ _;refine ag (D1.item k1 _ _ _ l1 (D1.frame _ _ _ mW fun c hc o e=>kX.extBut c o (fun q=>Z.a1 (q ▸ hc)) e) fun x hb pK px pL jf=>al ?_);replace jf:aR i1 ha hb:=jf;have me:IsPair hb TO a b:=jf.extBut _ _ Z.O1 (kX.extBut _ _ Z.zTO nD);refine ag (bT me rfl (ag (dC me fun hc mX lC=>?_)));replace mX:IsPair hc TO x b:=mX;replace lC:aR TO hb hc:=lC;refine ag (gv (al (ag (ag (df ?_))))); show wpAny _ _ (aK (.ref i2) >>= _) _ _ _;refine ag (D2.item k2 _ _ _ l2 (D2.frame _ _ _ j4 fun c jA o e=>lC.extBut c o (fun q=>Z.b2 (q ▸ jA)) (jf.extBut c o (fun q=>Z.b3 (q ▸ jA)) (kX.extBut c o (fun q=>Z.b1 (q ▸ jA)) e))) fun y hd rZ py r0 kd=>al ?_);replace kd:aR i2 hc hd:=kd;have mY:IsPair hd TO x b:=kd.extBut _ _ Z.O2 mX;refine ag (bT mY rfl (ag (dC mY fun he mZ n0=>?_)));replace mZ:IsPair he TO x y:=mZ;replace n0:aR TO hd he:=n0;refine ag (gv (al (al ?_))); refine ag (bT mZ rfl (ag (wpAny_newTuple ?_)));have hsz:he.objs.size=hp.objs.size:=by rw [n0.1,kd.1,lC.1,jf.1,kX.1]
  have hze:IsZ he z TI TO .ellipsis f1:=n0.extBut _ _ Z.zTO.symm (kd.extBut _ _ Z.z2.symm (lC.extBut _ _ Z.zTO.symm (jf.extBut _ _ Z.z1.symm nE)));have kk:∀ c o,c≠z→c≠TO→c≠i1→c≠i2→hp.get? c=some o→he.get? c=some o:=fun c o c1 c2 c3 c4 e=>n0.extBut _ _ c2 (kd.extBut _ _ c4 (lC.extBut _ _ c2 (jf.extBut _ _ c3 (kX.extBut _ _ c1 e))))
  have sd:S1 (k1+1) he:=D1.frame _ _ _ pL fun c jA o e=>n0.extBut c o (fun q=>Z.a2 (q ▸ jA)) (kd.extBut c o (fun q=>Z.a3 (q ▸ jA)) (lC.extBut c o (fun q=>Z.a2 (q ▸ jA)) e))
  have se:S2 (k2+1) he:=D2.frame _ _ _ r0 fun c jA o e=>n0.extBut c o (fun q=>Z.b2 (q ▸ jA)) e
  have zlt:z < he.objs.size:=av hze;show wpAny _ _ (cW (.ref z) (.ref he.objs.size) >>= _) _ _ _;refine ag ?_;unfold cW; have pM:IsZ (he.push { cls:=.type "tuple",data:=.seq #[x,y] }) z TI TO .ellipsis f1:=ai _ hze;refine ag (bA pM #[M] fun h7 sf sh=>?_);replace sf:IsZ h7 z TI TO (rawInt he.objs.size) f1:=sf;refine bA sf #[M] fun h8 qF si=>al ⟨_,rfl,?_⟩
  replace qF:IsZ h8 z TI TO (rawInt he.objs.size) (.bool false):=qF;have up:∀ c o,c≠z→he.get? c=some o→h8.get? c=some o:=fun c o c1 e=>si.extBut _ _ c1 (sh.extBut _ _ c1 (ai _ e))
  have pN:IsPair h8 he.objs.size x y:=si.extBut _ _ (dw zlt) (sh.extBut _ _ (dw zlt) (au _ rfl));have mf:h8.objs.size=he.objs.size+1:=by rw [si.1,sh.1,aD]
  show Q (.ref he.objs.size) _;rw [hsz] at qF pN mf ⊢;exact hQ x y h8 rZ _ _ _ _ px py qF ⟨.inr ⟨_,_,rfl⟩,_,rfl⟩ (up _ _ Z.zTI (kk _ _ Z.zTI Z.TT Z.T1 Z.T2 mV)) (up _ _ Z.zTO mZ) (D1.frame _ _ _ sd fun c jA o e=>up c o (fun q=>Z.a1 (q ▸ jA)) e) (D2.frame _ _ _ se fun c jA o e=>up c o (fun q=>Z.b1 (q ▸ jA)) e) pN mf fun c o c1 c2 c3 c4 e=>up c o c1 (kk c o c1 c2 c3 c4 e)
 ·simp only [bx,if_false]; replace lq:aR z hp h0:=lq;rw [show (#[aL i1,aL i2]:Array Value) = [aL i1,aL i2].toArray from rfl];simp only [gc,bE,cf];refine ag (ag (ag (a8 ?_))); show wpAny _ _ (aK (.ref i1) >>= _) _ _ _;refine ag (D1.item k1 _ _ _ l1 (D1.frame _ _ _ mW fun c hc o e=>lq.extBut c o (fun q=>Z.a1 (q ▸ hc)) e) fun x hb pK px pL jf=>al (al ?_));replace jf:aR i1 h0 hb:=jf;refine ag (ag (a8 ?_)); show wpAny _ _ (aK (.ref i2) >>= _) _ _ _;refine ag (D2.item k2 _ _ _ l2 (D2.frame _ _ _ j4 fun c jA o e=>jf.extBut c o (fun q=>Z.b3 (q ▸ jA)) (lq.extBut c o (fun q=>Z.b1 (q ▸ jA)) e)) fun y hd rZ py r0 kd=>al (al (al ?_)));replace kd:aR i2 hb hd:=kd;show wpAny _ _ (newTuple [x,y] >>= _) _ _ _;refine ag (wpAny_newTuple (al ⟨_,rfl,?_⟩));have hsz:hd.objs.size=hp.objs.size:=by rw [kd.1,jf.1,lq.1]
  have kk:∀ c o,c≠z→c≠TO→c≠i1→c≠i2→hp.get? c=some o→hd.get? c=some o:=fun c o c1 c2 c3 c4 e=>kd.extBut _ _ c4 (jf.extBut _ _ c3 (lq.extBut _ _ c1 e))
  have qH:IsZ hd z TI TO f0 (.bool true):=kd.extBut _ _ Z.z2.symm (jf.extBut _ _ Z.z1.symm hz0);have mY:IsPair hd TO a b:=kd.extBut _ _ Z.O2 (jf.extBut _ _ Z.O1 (lq.extBut _ _ Z.zTO nD));have sj:S1 (k1+1) hd:=D1.frame _ _ _ pL fun c jA o e=>kd.extBut c o (fun q=>Z.a3 (q ▸ jA)) e
  have up:∀ c o,hd.get? c=some o→(hd.push { cls:=.type "tuple",data:=.seq #[x,y] }).get? c=some o:=fun c o e=>ai _ e
  have pN:IsPair (hd.push { cls:=.type "tuple",data:=.seq #[x,y] }) hd.objs.size x y:=au _ rfl;have mf:(hd.push { cls:=.type "tuple",data:=.seq #[x,y] }).objs.size=hd.objs.size+1:=aD ..;show Q (.ref hd.objs.size) _;rw [hsz] at pN mf ⊢;exact hQ x y _ rZ _ _ _ _ px py (up _ _ qH) ⟨hf.1,_,rfl⟩ (up _ _ (kk _ _ Z.zTI Z.TT Z.T1 Z.T2 mV)) (up _ _ mY) (D1.frame _ _ _ sj fun c _ o e=>up c o e) (D2.frame _ _ _ r0 fun c _ o e=>up c o e) pN mf fun c o c1 c2 c3 c4 e=>up c o (kk c o c1 c2 c3 c4 e)
theorem znf {z TI TO i1 i2:Addr} {kU kW:List Addr} {n1 n2 k1 k2:Nat} {P1 P2:Nat→Value→Prop} {S1 S2:Nat→Heap→Prop} {f0 f1 a b:Value} {Q:Fin→Shared→Prop} (D1:Draws prog w A i1 kU n1 P1 S1) (D2:Draws prog w A i2 kW n2 P2 S2) (Z:Zap z TI TO i1 i2 kU kW)
  (hz:IsZ s.heap z TI TO f0 f1) (hf:ZF f0 f1) (mV:IsPair s.heap TI (.ref i1) (.ref i2)) (nD:IsPair s.heap TO a b) (mW:S1 k1 s.heap) (j4:S2 k2 s.heap) (l1:k1=n1∨(k1 < n1∧k2=n2))
  (hE:∀ h' tk e,(∀ c o,c≠z→c≠TO→c≠i1→c≠i2→s.heap.get? c=some o→h'.get? c=some o)→(∃ o,h'.get? e=some o∧o.cls = .type "StopIteration")→E (.ref e) { s with heap:=h',toks:=tk }):wpAny (model prog w) A (Builtin.«zip.__next__» ⟨[.ref z],[]⟩) Q E s:=by
 obtain⟨hp,g,d,rY,os⟩:=s;have nz:∀ {h:Heap} {e:Addr} {o:Obj} {x y:Value},IsZ h z TI TO x y→h.get? e=some o→o.cls = .type "StopIteration"→e≠z:=fun h1 h2 h3 q=>by subst q; rw [h1] at h2; cases h2; simp at h3
 show wpAny _ _ (field (.ref z) 2 >>= _) _ _ _; refine ag (bB hz rfl (x:=.bool false) rfl ?_); show wpAny _ _ (field (.ref z) 3 >>= _) _ _ _;refine ag (bB hz rfl (x:=.ref TI) rfl ?_); refine ag (bT mV rfl ?_);show wpAny _ _ (bD (.ref z) >>= _) _ _ _; refine ag (zjx hz hf ?_ fun h0 hz0 lq=>?_)
 ·simp only [if_true];refine ag (c8 (ag (bB hz rfl (x:=.ref TO) rfl ?_)));refine ag (bA hz #[M] fun ha nE kX=>?_);replace nE:IsZ ha z TI TO .ellipsis f1:=nE;replace kX:aR z hp ha:=kX;refine ag ?_;simp only [gF,gU,bE,cf]; refine ag (ag (df ?_)); show wpAny _ _ (aK (.ref i1) >>= _) _ _ _;have mh:S1 k1 ha:=D1.frame _ _ _ mW fun c hc o e=>kX.extBut c o (fun q=>Z.a1 (q ▸ hc)) e
  rcases l1 with rfl | ⟨l1,rfl⟩
  ·refine ag (D1.done _ _ _ mh fun hb e jf ⟨oe,pO,pP⟩=>?_);have hzb:IsZ hb z TI TO .ellipsis f1:=jf _ _ Z.z1.symm nE;exact bA hzb #[M] fun h3 _ pQ=>hE h3 rY e (fun c o c1 _ c3 _ x=>pQ.extBut _ _ c1 (jf _ _ c3 (kX.extBut _ _ c1 x))) ⟨oe,pQ.extBut _ _ (nz hzb pO pP) pO,pP⟩
  ·refine ag (D1.item k1 _ _ _ l1 mh fun x hb pK px pL jf=>al ?_);replace jf:aR i1 ha hb:=jf;have me:IsPair hb TO a b:=jf.extBut _ _ Z.O1 (kX.extBut _ _ Z.zTO nD);refine ag (bT me rfl (ag (dC me fun hc mX lC=>?_)));replace lC:aR TO hb hc:=lC;refine ag (gv (al (ag (ag (df ?_))))); show wpAny _ _ (aK (.ref i2) >>= _) _ _ _;refine ag (D2.done _ _ _ (D2.frame _ _ _ j4 fun c jA o e=>lC.extBut c o (fun q=>Z.b2 (q ▸ jA)) (jf.extBut c o (fun q=>Z.b3 (q ▸ jA)) (kX.extBut c o (fun q=>Z.b1 (q ▸ jA)) e))) fun hd e kd ⟨oe,pO,pP⟩=>?_);have qH:IsZ hd z TI TO .ellipsis f1:=kd _ _ Z.z2.symm (lC.extBut _ _ Z.zTO.symm (jf.extBut _ _ Z.z1.symm nE));exact bA qH #[M] fun h3 _ pQ=>hE h3 pK e (fun c o c1 c2 c3 c4 x=>pQ.extBut _ _ c1 (kd _ _ c4 (lC.extBut _ _ c2 (jf.extBut _ _ c3 (kX.extBut _ _ c1 x))))) ⟨oe,pQ.extBut _ _ (nz qH pO pP) pO,pP⟩
 ·simp only [bx,if_false]; replace lq:aR z hp h0:=lq;rw [show (#[aL i1,aL i2]:Array Value) = [aL i1,aL i2].toArray from rfl];simp only [gc,bE,cf];refine ag (ag (ag (a8 ?_))); show wpAny _ _ (aK (.ref i1) >>= _) _ _ _;have mh:S1 k1 h0:=D1.frame _ _ _ mW fun c hc o e=>lq.extBut c o (fun q=>Z.a1 (q ▸ hc)) e
  rcases l1 with rfl | ⟨l1,rfl⟩
  ·exact ag (D1.done _ _ _ mh fun hb e jf he=>hE hb rY e (fun c o c1 _ c3 _ x=>jf _ _ c3 (lq.extBut _ _ c1 x)) he)
  ·refine ag (D1.item k1 _ _ _ l1 mh fun x hb pK px pL jf=>al (al ?_));replace jf:aR i1 h0 hb:=jf;refine ag (ag (a8 ?_)); show wpAny _ _ (aK (.ref i2) >>= _) _ _ _;exact ag (D2.done _ _ _ (D2.frame _ _ _ j4 fun c jA o e=>jf.extBut c o (fun q=>Z.b3 (q ▸ jA)) (lq.extBut c o (fun q=>Z.b1 (q ▸ jA)) e)) fun hd e kd he=>hE hd pK e (fun c o c1 _ c3 c4 x=>kd _ _ c4 (jf.extBut _ _ c3 (lq.extBut _ _ c1 x))) he)
end
def zfm (x y:Value):Obj:={ cls:=.type "tuple",data:=.seq #[x,y] }
def zom (a b:Addr):Obj:={ cls:=.type "zip",data:=.fields #[.none,.bool false,.bool false,.ref a,.ref b] }
def itO (C:String) (l:Addr):Obj:={ cls:=.type C,data:=.fields #[.ref l,.int 0 0] }
abbrev zt2 (C:String) (h:Heap) (l1 l2:Addr):Heap:=(h.push (zbX l1)).push (itO C l2)
abbrev zt4 (C:String) (h:Heap) (l1 l2:Addr):Heap:=((zt2 C h l1 l2).push (zfm (.ref h.objs.size) (.ref (h.push (zbX l1)).objs.size))).push (zfm .none .none)
abbrev zt5 (C:String) (h:Heap) (l1 l2:Addr):Heap:=(zt4 C h l1 l2).push (zom (zt2 C h l1 l2).objs.size ((zt2 C h l1 l2).push (zfm (.ref h.objs.size) (.ref (h.push (zbX l1)).objs.size))).objs.size)
def ItC (C:String) (h:Heap) (a l:Addr) (i:Nat):Prop:=∃ o,h.get? a=some o∧o.cls = .type C∧o.data = .fields #[.ref l,.int i 0]
structure SkH (C:String) (Is:Heap→Addr→Array Value→Prop):Prop where
 it:∀ {prog:Program} {w:World} {A:Around} {E:Value→Shared→Prop} {s:Shared} {l:Addr} {iu:Array Value} {Q:Value→Shared→Prop},Is s.heap l iu→Q (.ref s.heap.objs.size) { s with heap:=s.heap.push (itO C l) }→wpAny (model prog w) A (pyIter (.ref l)) Q E s
 pu:∀ {h:Heap} {l:Addr} {iu:Array Value} (o:Obj),Is h l iu→Is (h.push o) l iu
 dr:∀ {prog:Program} {w:World} {A:Around},A.handled=none→∀ (it l:Addr),l≠it→∀ (iu:Array Value),Draws prog w A it [it,l] iu.size (fun i v=>iu[i]? = some v) fun i h=>ItC C h it l i∧Is h l iu
theorem skL:SkH "list_iterator" Heap.IsList:=⟨fun h q=>cu h q,fun o h=>Heap.IsList.push h o,fun hh it l ne iu=>Draws.list hh it l ne iu⟩
theorem zgc {C:String} {Is:Heap→Addr→Array Value→Prop} (S:SkH C Is) (l1 l2:Addr) (xs ys:Array Value):Meets (Builtin.«zip.__new__» ⟨[.type "zip",.ref l1,.ref l2],[]⟩) (fun _ R s=>s.heap.IsTuple l1 xs∧Is s.heap l2 ys∧R (.ok (.ret (.ref (zt4 C s.heap l1 l2).objs.size))) { s with heap:=zt5 C s.heap l1 l2 }) :=
 .of_wp fun prog w A R s h=>by
  obtain⟨hp,g,d,tk,os⟩:=s; obtain⟨j5,lz,h⟩:=h; have hsub:=sub_zip;have hL1:Heap.IsTuple (gw ⟨hp,g,d,tk,os⟩) l1 xs:=j5;have hL2:Is (gw ⟨hp.push { cls:=.type "tuple_iterator",data:=.fields #[.ref l1,.int 0 0] },g,d,tk,os⟩) l2 ys:=S.pu _ lz
  wp_walk using dR hL1,S.it hL2
  exact⟨_,rfl,h⟩
section
variable {prog:Program} {w:World} {A:Around} {E:Value→Shared→Prop} {s:Shared}
theorem zg1 {C:String} {Is:Heap→Addr→Array Value→Prop} (S:SkH C Is) {l1 l2:Addr} {xs ys:Array Value} {Q:Value→Shared→Prop} (j5:s.heap.IsTuple l1 xs) (lz:Is s.heap l2 ys)
  (h:∀ h' n,n=s.heap.objs.size→IsZ h' (n+4) (n+2) (n+3) .none (.bool false)→IsPair h' (n+2) (.ref n) (.ref (n+1))→IsPair h' (n+3) .none .none→h'.IsTupleIter n l1 0→ItC C h' (n+1) l2 0→h'.objs.size=n+5 →
   (∀ c o,s.heap.get? c=some o→h'.get? c=some o)→Q (.ref (n+4)) { s with heap:=h' }):wpAny (model prog w) A (call (.type "zip") [.ref l1,.ref l2]) Q E s:=by
 refine callType_new F.called_zip #[D] (F.typeCall_zip_2 _ _) (F.newCall_zip_2 _ _) (fun obj=>F.args_object_init_3 obj _ _) F.entry_zip_new (zgc S l1 l2 xs ys) ⟨j5,lz,?_⟩;have z1:(s.heap.push (zbX l1)).objs.size=s.heap.objs.size+1:=aD ..;have z2:(zt2 C s.heap l1 l2).objs.size=s.heap.objs.size+2:=by rw [aD,z1]
 have z3:((zt2 C s.heap l1 l2).push (zfm (.ref s.heap.objs.size) (.ref (s.heap.push (zbX l1)).objs.size))).objs.size=s.heap.objs.size+3:=by rw [aD,z2]
 have z4:(zt4 C s.heap l1 l2).objs.size=s.heap.objs.size+4:=by rw [aD,z3]
 have g5:=au (zt4 C s.heap l1 l2) (o:=zom (zt2 C s.heap l1 l2).objs.size ((zt2 C s.heap l1 l2).push (zfm (.ref s.heap.objs.size) (.ref (s.heap.push (zbX l1)).objs.size))).objs.size) rfl;have g4:(zt5 C s.heap l1 l2).get? _=some _:=ai _ (au ((zt2 C s.heap l1 l2).push (zfm (.ref s.heap.objs.size) (.ref (s.heap.push (zbX l1)).objs.size))) (o:=zfm .none .none) rfl);have g3:(zt5 C s.heap l1 l2).get? _=some _:=ai _ (ai _ (au (zt2 C s.heap l1 l2) (o:=zfm (.ref s.heap.objs.size) (.ref (s.heap.push (zbX l1)).objs.size)) rfl));have g2:(zt5 C s.heap l1 l2).get? _=some _:=ai _ (ai _ (ai _ (au (s.heap.push (zbX l1)) (o:=itO C l2) rfl)));have g1:(zt5 C s.heap l1 l2).get? s.heap.objs.size=some (zbX l1):=ai _ (ai _ (ai _ (ai _ (au _ rfl))));have z5:(zt5 C s.heap l1 l2).objs.size=s.heap.objs.size+5:=by rw [aD,z4]
 have k5:∀ c o,s.heap.get? c=some o→(zt5 C s.heap l1 l2).get? c=some o:=fun c o x=>ai _ (ai _ (ai _ (ai _ (ai _ x))))
 show _∧_;rw [z4] at g5 ⊢;rw [z3] at g4;rw [z2] at g3;rw [z1] at g2;refine⟨⟨_,g5,rfl⟩,h _ _ rfl ?_ ?_ g4 ⟨_,g1,rfl,rfl⟩ ⟨_,g2,rfl,rfl⟩ z5 k5⟩
 ·have:IsZ (zt5 C s.heap l1 l2) (s.heap.objs.size+4) (zt2 C s.heap l1 l2).objs.size ((zt2 C s.heap l1 l2).push (zfm (.ref s.heap.objs.size) (.ref (s.heap.push (zbX l1)).objs.size))).objs.size .none (.bool false):=g5;rw [z2,z3] at this;exact this
 ·have:IsPair (zt5 C s.heap l1 l2) (s.heap.objs.size+2) (.ref s.heap.objs.size) (.ref (s.heap.push (zbX l1)).objs.size):=g3;rw [z1] at this;exact this
end
end PySem
end
section
namespace L2
open PySem PySem.Spec PyProof.Rows
theorem nq {x y:Nat} (h:x≠y):@Ne Addr x y:=h
theorem nl {x y:Nat} (h:x < y):@LT.lt Nat _ x y:=h
theorem nm2 {c x y:Nat} (h1:c≠x) (h2:c≠y):¬ @Membership.mem Addr (List Addr) _ [x,y] c:=fun h=>by
 rcases am.mp h with e | e
 ·exact h1 e
 ·exact h2 (bo.mp e)
theorem zhK {n a b:Nat} (ha:a < n) (hb:b < n):Zap (n+4) (n+2) (n+3) n (n+1) [n,a] [n+1,b] :=
 ⟨nq #[O],nq #[O],nq #[O],nq #[O],nq #[O],nq #[O],nq #[O],nq #[O],nq #[O],nq #[O],nm2 #[O] #[O],nm2 #[O] #[O],nm2 #[O] #[O],nm2 #[O] #[O],nm2 #[O] #[O],nm2 #[O] #[O]⟩
theorem zcT:∀ (bs:List Bool),(aV bs.length).all (fun i=>bs.getD i false)=bs.all id
 | []=>rfl
 | b :: bs=>by
  rw [aN,e7,fI,dD,fI];have ih:=zcT bs;have e:((fun i=>(b :: bs).getD i false) ∘ Nat.succ)=fun i=>bs.getD i false:=by funext i; rfl
  rw [e,ih];rfl
theorem zco {X:Cx} (hc:X.calm=true):zba X (.builtin "all") (fun xs H Q=>∃ (p:Addr) (bs:List Bool),xs = [.ref p]∧iw X.K H p (bs.map V.bl)∧Q (.bl (bs.all id)) H):=by
 intro ip s σ H xs us Q I r h;obtain⟨p,bs,rfl,hq,q⟩:=h;obtain⟨u,rfl,rx⟩:=vals1 r;cases rx;obtain⟨ir,rv,pl,hz⟩:=I.list hq;have hl:=rv.length;rw [ah] at hl;have jE:p < s.heap.objs.size:=by obtain⟨_,_,e,_⟩:=pl; exact av e
 refine call_all_walk (cu pl.isList ?_);refine⟨s.heap.objs.size,_,_,ir.toArray.size,_,_,fun i=>bs.getD i false,rfl,gV (by simp [I.ok.hd hc]) s.heap.objs.size p (aA jE) ir.toArray,⟨⟨_,au _ rfl,rfl,rfl⟩,pl.isList.push _⟩,fun i v s' Q' E' hP hQ=>?_,fun h' tk kk=>?_⟩
 ·have e1:ir[i]? = some v:=by simpa using hP
  obtain⟨hi,_⟩:=aC.mp e1;have sk:i < bs.length:=by lia
  obtain⟨u,hu,ru⟩:=rv.get (i:=i) (x:=V.bl bs[i]) (by rw [aw,a7 sk]; rfl);rw [e1] at hu;cases hu;have ru:v=cn bs[i]:=ru;subst ru;have e2:bs.getD i false=bs[i]:=by simp [sk]
  have hQ:Q' (bs.getD i false) s':=hQ;rw [e2] at hQ;exact bh hQ
 ·rw [aj,← hl,zcT];exact⟨.bl (bs.all id),H,I.kept fun b o e=>kk b o (fun z=>by
   have z:b=s.heap.objs.size:=by simpa using z
   exact absurd (av e) (by rw [z]; exact bi _)) (ai _ e),rfl,q⟩
end L2
end
section
namespace My
open PySem L2 PyProof.Rows
section
variable {K:af}
inductive Any1 (H:Hp):V→Prop where
 | non:Any1 H .non
 | bl (b:Bool):Any1 H (.bl b)
 | int (i:Int):Any1 H (.int i)
 | str (x:Str):Any1 H (.str x)
 | lst {a:Addr} {xs:List V} (e:H a=some (.lst xs)):Any1 H (.ref a)
 | tup {a:Addr} {xs:List V} (e:H a=some (.tup xs)):Any1 H (.ref a)
def isI:V→Bool
 | .int _=>true
 | .bl _=>true
 | _=>false
def isB:V→Bool
 | .bl _=>true
 | _=>false
def isW:V→Bool
 | .int _=>true
 | _=>false
def zjy (H:Hp):V→Option (List V)
 | .ref a=>match H a with
  | some (.lst xs)=>some xs
  | _=>none
 | _=>none
theorem zng {H:Hp} {v:V} (h:Any1 H v):∃ t,TyOf K H v t∧aP K t (.type "int")=some (isI v)∧aP K t (.type "bool")=some (isB v)∧aP K t (.type "list")=some (zjy H v).isSome:=by
 cases h with
 | non=>exact⟨_,.non,rfl,rfl,rfl⟩
 | bl b=>exact⟨_,.bl b,rfl,rfl,rfl⟩
 | int i=>exact⟨_,.int i,rfl,rfl,rfl⟩
 | str x=>exact⟨_,.str x,rfl,rfl,rfl⟩
 | lst e=>exact⟨_,.lst e,rfl,rfl,by simp only [zjy,e]; rfl⟩
 | tup e=>exact⟨_,.tup e,rfl,rfl,by simp only [zjy,e]; rfl⟩
def zde (H:Hp) (c tt:Addr) (p k:Int) (pl:List Int):Prop:=H c=some (.tup [.int p,.int k,.ref tt])∧H tt=some (.tup (pl.map V.int))
theorem zde.same {H H':Hp} {c tt:Addr} {p k:Int} {pl:List Int} (s:zJ H H') (h:zde H c tt p k pl):zde H' c tt p k pl:=⟨s _ _ h.1,s _ _ h.2⟩
def zfn (p:Int):V→Bool
 | .int i=>decide (0≤i) && decide (i < p)
 | _=>false
def zfo (K:af):Sp:=fun vs H Q _=>∃ v,vs = [v]∧Any1 H v∧Q (.bl (isW v)) H
def zfp (K:af):Sp:=fun vs H Q _=>∃ (p:Int) (v:V),vs = [.int p,v]∧Any1 H v∧Q (.bl (zfn p v)) H
theorem zlF {v:V} (h:isW v=true):∃ i,v = .int i:=by
 cases v with
 | int i=>exact⟨i,rfl⟩
 | _=>cases h
def iA:Option Int→V
 | none=>.non
 | some i=>.int i
theorem zlG {rw:List (Option Int)} {j:Nat} {x:V} (h:(rw.map iA)[j]? = some x):∃ o,x=iA o∧rw[j]? = some o:=by
 rw [aw] at h;cases e:rw[j]? with
 | none=>rw [e] at h; cases h
 | some c=>rw [e] at h; exact⟨c,(az h).symm,rfl⟩
end
end My
end
section
namespace PySem
section
variable {prog:Program} {w:World} {A:Around} {E:Value→Shared→Prop} {s:Shared}
theorem zlH {z TI TO i1 i2:Addr} {kU kW:List Addr} {n1 n2 k1 k2:Nat} {P1 P2:Nat→Value→Prop} {S1 S2:Nat→Heap→Prop} {f0 f1 a b:Value} {Q:Option Value→Shared→Prop} (D1:Draws prog w A.in1 i1 kU n1 P1 S1) (D2:Draws prog w A.in1 i2 kW n2 P2 S2) (Z:Zap z TI TO i1 i2 kU kW)
  (hz:IsZ s.heap z TI TO f0 f1) (hf:ZF f0 f1) (mV:IsPair s.heap TI (.ref i1) (.ref i2)) (nD:IsPair s.heap TO a b) (mW:S1 k1 s.heap) (j4:S2 k2 s.heap) (l1:k1 < n1) (l2:k2 < n2)
  (hQ:∀ x y h' tk g0 g1 a' b',P1 k1 x→P2 k2 y→IsZ h' z TI TO g0 g1→ZF g0 g1→IsPair h' TI (.ref i1) (.ref i2)→IsPair h' TO a' b'→S1 (k1+1) h'→S2 (k2+1) h'→IsPair h' s.heap.objs.size x y→h'.objs.size=s.heap.objs.size+1 →
   (∀ c o,c≠z→c≠TO→c≠i1→c≠i2→s.heap.get? c=some o→h'.get? c=some o)→Q (some (.ref s.heap.objs.size)) { s with heap:=h',toks:=tk }):wpAny (model prog w) A (pyNext (.ref z)) Q E s:=by
 have pR:s.TypeIs (.ref z) "zip":=⟨_,hz,rfl⟩;unfold pyNext;refine ag (ef (cm (name:=bX "__next__") pR dE (cF dE pR gG ?_ (gm _))));exact zlE D1 D2 Z hz hf mV nD mW j4 l1 l2 fun x y h1 tk g0 g1 a' b' px py qI hf1 sm so sr su hp1 sv kk=>al (hQ x y h1 tk g0 g1 a' b' px py qI hf1 sm so sr su hp1 sv kk)
theorem znh {z TI TO i1 i2:Addr} {kU kW:List Addr} {n1 n2 k1 k2:Nat} {P1 P2:Nat→Value→Prop} {S1 S2:Nat→Heap→Prop} {f0 f1 a b:Value} {Q:Option Value→Shared→Prop} (D1:Draws prog w A.in1 i1 kU n1 P1 S1) (D2:Draws prog w A.in1 i2 kW n2 P2 S2) (Z:Zap z TI TO i1 i2 kU kW)
  (hz:IsZ s.heap z TI TO f0 f1) (hf:ZF f0 f1) (mV:IsPair s.heap TI (.ref i1) (.ref i2)) (nD:IsPair s.heap TO a b) (mW:S1 k1 s.heap) (j4:S2 k2 s.heap) (l1:k1=n1∨(k1 < n1∧k2=n2))
  (hQ:∀ h' tk,(∀ c o,c≠z→c≠TO→c≠i1→c≠i2→s.heap.get? c=some o→h'.get? c=some o)→Q none { s with heap:=h',toks:=tk }):wpAny (model prog w) A (pyNext (.ref z)) Q E s:=by
 have pR:s.TypeIs (.ref z) "zip":=⟨_,hz,rfl⟩;unfold pyNext;refine ag (ef (cm (name:=bX "__next__") pR dE (cF dE pR gG ?_ (gm _))));refine znf D1 D2 Z hz hf mV nD mW j4 l1 fun h' tk x kk ⟨o,ho,hc⟩=>?_
 exact ag (wpAny_isInstance (T:="StopIteration") (b:=true) ⟨o,ho,hc⟩ isSubtype_stop (al (hQ h' tk kk)))
theorem zhL {z TI TO:Addr} {f0 f1:Value} {Q:Value→Shared→Prop} (hz:IsZ s.heap z TI TO f0 f1) (h:Q (.ref z) s):wpAny (model prog w) A (pyIter (.ref z)) Q E s:=by
 have hT:s.TypeIs (.ref z) "zip":=⟨_,hz,rfl⟩; refine wpAny_pyIter_slot hT F.slot_zip_iter (cF F.slot_zip_iter hT F.entry_zip_iter ?_ (F.args_zip_iter_1 _));show wpAny _ _ (ret (.ref z)) _ _ s; exact al ⟨_,rfl,"zip",_,hT,F.slot_zip_next.lookup,h⟩
theorem zon {elts:List Expr} {x1} {pos:Pos} {z TI TO T:Addr} {f0 f1:Value} {Q:Unit→Shared→Prop} (hz:IsZ s.heap z TI TO f0 f1) (hf:ZF f0 f1)
  (hQ:∀ h' g0,IsZ h' z TI TO g0 f1→ZF g0 f1→aR z s.heap h'→Q () { s with heap:=h' }):wpAny (model prog w) A (letOwnedTupleGo (.Tuple elts x1 pos) (.ref z) (.ref T)) Q E s:=by
 unfold letOwnedTupleGo; refine ag (wpAny_load hz ?_);show wpAny _ _ (if _ then _ else _) Q E s;split
 ·refine ag (c8 ?_); show wpAny _ _ (setField (.ref z) 0 .none) Q E s;exact bA hz #[M] fun h' hz' hs'=>hQ h' .none hz' ⟨.inl rfl,hf.2⟩ hs'
 ·exact al (hQ s.heap f0 hz hf ⟨rfl,fun _ _=>rfl⟩)
end
end PySem
namespace L2
open PySem PySem.Spec PyProof.Rows
def zni (mM mO:Hp→Addr→List V→Prop) (a b:Addr):It :=
 ⟨(zok mM mO a b).go,(zok mM mO a b).yld,fun i H=>∃ xs ys,mM H a xs∧mO H b ys∧(xs.length=i∨(i < xs.length∧ys.length=i))⟩
abbrev zes (n:Nat):List Addr:=[n+4,n+2,n+3,n,n+1]
abbrev zoo (C:String) (n a b:Nat) (i:Nat) (h:Heap):Prop:=(∃ f0 f1,IsZ h (n+4) (n+2) (n+3) f0 f1∧ZF f0 f1)∧IsPair h (n+2) (.ref n) (.ref (n+1))∧(∃ u v,IsPair h (n+3) u v)∧h.IsTupleIter n a i∧ItC C h (n+1) b i
structure Sk (C:String) (Is:Heap→Addr→Array Value→Prop) (Sq:af→Hp→Addr→List V→Prop):Prop where
 h:SkH C Is
 inv:∀ {X:Cx} {ip:List (Addr×Obj)} {σ:St} {H:Hp} {s:Shared} {a:Addr} {xs:List V},Inv X ip σ H s→Sq X.K H a xs→∃ ir:List Value,zx xs ir∧Is s.heap a ir.toArray∧a < s.heap.objs.size
 inj:∀ {X:Cx} {ip:List (Addr×Obj)} {σ:St} {H:Hp} {s:Shared} {a:Addr} {xs ys:List V},Inv X ip σ H s→Sq X.K H a xs→Sq X.K H a ys→xs=ys
theorem sqL:Sk "list_iterator" Heap.IsList iw:=⟨skL,fun I h=>let ⟨ir,r,p,_⟩:=I.list h; ⟨ir,r,p.isList,by obtain⟨_,_,e,_⟩:=p; exact av e⟩,fun I h h'=>I.list_inj h h'⟩
theorem zjz {C:String} {Is:Heap→Addr→Array Value→Prop} {Sq:af→Hp→Addr→List V→Prop} (S:Sk C Is Sq) {P:Program} {w:World} {K:af} {es:List Expr} {k:Nat} {pos:Pos} (a b n:Nat) (ha:a < n) (hb:b < n):Turn P w K (.Tuple es k pos) (zni (iI K) (Sq K) a b) (zes n) (n+4) (zoo C n a b) where
 mem:=by simp
 obj:=fun i h st c hc=>by
  obtain⟨⟨f0,f1,h1,_⟩,h2,⟨u,v,h3⟩,⟨o4,e4,_,d4⟩,⟨o5,e5,_,d5⟩⟩:=st;simp only [zes,am,ar,or_false] at hc;rcases hc with z | z | z | z | z <;> subst z
  ·exact⟨_,h1,fun v z=>by cases z⟩
  ·exact⟨_,h2,fun v z=>by cases z⟩
  ·exact⟨_,h3,fun v z=>by cases z⟩
  ·exact⟨_,e4,fun v z=>by rw [d4] at z; cases z⟩
  ·exact⟨_,e5,fun v z=>by rw [d5] at z; cases z⟩
 keep:=fun i h h' st kk=>by
  obtain⟨⟨f0,f1,h1,hf⟩,h2,⟨u,v,h3⟩,h4,h5⟩:=st;obtain⟨o5,e5,r5⟩:=h5;exact⟨⟨f0,f1,kk _ #[M] _ h1,hf⟩,kk _ #[M] _ h2,⟨u,v,kk _ #[M] _ h3⟩,h4.at fun o eo=>kk _ #[M] o eo,o5,kk _ #[M] _ e5,r5⟩
 item:=by
  intro X hP hw hK hc i ip s σ H E I hf st hg;subst hP hw hK;obtain⟨xs,ys,x,y,oa,oQ,hx,hy⟩:=hg;obtain⟨⟨f0,f1,h1,pM⟩,h2,⟨u0,v0,h3⟩,h4,h5⟩:=st;obtain⟨ko,qJ,p1,qI⟩:=I.tuple oa;obtain⟨kh,qK,p2,_⟩:=S.inv I oQ;obtain⟨u,hu,ru⟩:=qJ.get hx;obtain⟨v,hv,rv⟩:=qK.get hy;have hes:n+4 < s.heap.objs.size:=av h1;have hh:X.A.in1.handled=none:=by simp [I.ok.hd hc]
  have og:i < ko.toArray.size:=by have:=(aC.mp hu).1; simpa using this
  have oh:i < kh.toArray.size:=by have:=(aC.mp hv).1; simpa using this
  refine zlH (Draws.tuple hh n a (nq #[O]) ko.toArray) (S.h.dr hh (n+1) b (nq #[O]) kh.toArray) (zhK ha hb) h1 pM h2 h3 ⟨h4,(show s.heap.IsTuple a ko.toArray from p1)⟩ ⟨h5,p2⟩ og oh
   fun x' y' h' tk g0 g1 a' b' px py ez ezf e2 e3 t4 t5 pp hsz kk=>?_
  have eu:x'=u:=by
   have e1:ko[i]? = some x':=by simpa using px
   rw [hu] at e1; exact (az e1).symm
  have ev:y'=v:=by
   have e1:kh[i]? = some y':=by simpa using py
   rw [hv] at e1; exact (az e1).symm
  subst eu ev;have ch:∀ c∈[n+4,n+3,n,n+1],c∈zes n:=fun c iO=>by
   simp only [zes,am,ar,or_false] at iO ⊢;rcases iO with z | z | z | z <;> subst z <;> simp
  have k1:∀ c o,c∉[n+4,n+3,n,n+1]→s.heap.get? c=some o→h'.get? c=some o:=fun c o iO eo=>by
   simp only [am,ar,or_false,not_or] at iO;exact kk c o iO.1 iO.2.1 iO.2.2.1 iO.2.2.2 eo
  have th1:∀ c∈[n+4,n+3,n,n+1],∃ o,h'.get? c=some o:=fun c iO=>by
   simp only [am,ar,or_false] at iO;rcases iO with z | z | z | z <;> subst z
   ·exact⟨_,ez⟩
   ·exact⟨_,e3⟩
   ·obtain⟨o,e,_⟩:=t4.1; exact⟨o,e⟩
   ·obtain⟨o,e,_⟩:=t5.1; exact⟨o,e⟩
  have I1:Inv X ip σ (upd H s.heap.objs.size (.tup [x,y])) { s with heap:=h',toks:=tk } :=
   I.turnedNew k1 (fun c iO=>hf c (ch c iO)) th1 (ak _) ⟨zdp,_,.cons ru (.cons rv .nil),zgZ pp⟩
  refine⟨_,rfl,zon (s:={ s with heap:=h',toks:=tk }) ez ezf fun rP g2 pS pT mU=>?_⟩;have fr:∀ c∈zes n,upd H s.heap.objs.size (.tup [x,y]) c=none:=fun c iO=>by
   have jE:c < s.heap.objs.size:=by
    simp only [zes,am,ar,or_false] at iO;rcases iO with z | z | z | z | z <;> subst z <;> exact nl #[O]
   rw [zc (aA jE)];exact (hf c iO).1
  have I2:Inv X ip σ (upd H s.heap.objs.size (.tup [x,y])) { s with heap:=rP,toks:=tk } :=
   Inv.turnedL (s:={ s with heap:=h',toks:=tk }) (ch:=[n+4]) (t':=tk) I1 (fun c o iO eo=>mU.extBut c o (by simpa using iO) eo) (fun c iO=>by
    have z:c=n+4:=by simpa using iO
    subst z;exact⟨fr _ #[M],(hf _ #[M]).2⟩) (fun c iO=>by
    have z:c=n+4:=by simpa using iO
    subst z;exact⟨_,pS⟩)
  have up:∀ c o,c≠n+4→h'.get? c=some o→rP.get? c=some o:=fun c o iO e=>mU.extBut c o iO e
  exact⟨.ref s.heap.objs.size,_,I2,rfl,⟨_,x,y,I.fresh,rfl,rfl,fun zs hz=>by rw [I.tuple_inj hz oa]; exact hx,fun zs hz=>by rw [S.inj I hz oQ]; exact hy⟩,
   ⟨⟨g2,g1,pS,pT⟩,up _ _ (nq #[O]) e2,⟨_,_,up _ _ (nq #[O]) e3⟩,t4.1.at fun o e=>up _ o (nq #[O]) e,⟨t5.1.choose,up _ _ (nq #[O]) t5.1.choose_spec.1,t5.1.choose_spec.2⟩⟩,fr⟩
 done:=by
  intro X hP hw hK hc i ip s σ H E I hf st hg;subst hP hw hK;obtain⟨xs,ys,oa,oQ,hx⟩:=hg;obtain⟨⟨f0,f1,h1,pM⟩,h2,⟨u0,v0,h3⟩,h4,h5⟩:=st;obtain⟨ko,qJ,p1,qI⟩:=I.tuple oa;obtain⟨kh,qK,p2,_⟩:=S.inv I oQ;have hh:X.A.in1.handled=none:=by simp [I.ok.hd hc]
  have j5:=qJ.length;have lz:=qK.length;refine znh (Draws.tuple hh n a (nq #[O]) ko.toArray) (S.h.dr hh (n+1) b (nq #[O]) kh.toArray) (zhK ha hb) h1 pM h2 h3 ⟨h4,(show s.heap.IsTuple a ko.toArray from p1)⟩ ⟨h5,p2⟩ (by rw [aj,aj]; lia) fun h' tk kk=>⟨rfl,?_⟩
  have sub:∀ c∈[n+4,n+3,n,n+1],c∈zes n:=fun c iO=>by
   simp only [zes,am,ar,or_false] at iO ⊢;rcases iO with z | z | z | z <;> subst z <;> simp
  have k1:∀ c o,c∉[n+4,n+3,n,n+1]→s.heap.get? c=some o→h'.get? c=some o:=fun c o iO e=>by
   simp only [am,ar,or_false,not_or] at iO;exact kk c o iO.1 iO.2.1 iO.2.2.1 iO.2.2.2 e
  have nv:∀ d u',H d=some u'→d∉[n+4,n+3,n,n+1]:=fun d u' e' hd=>by rw [(hf d (sub d hd)).1] at e'; cases e'
  refine I.step (g':=s.gens) (d':=s.drawn) (t':=tk) (ch:=[n+4,n+3,n,n+1]) (fun c iO=>?_) (fun c o _ _ lj e _=>k1 c o lj e) (fun c o _ _ lj e _=>⟨o.slots,k1 c o lj e⟩) (fun _ _ _ _ n=>n)
   (fun c o lj e=>⟨o,k1 c o lj e⟩) (fun _ _ e=>e) (fun _ _ _ e=>e) (fun c ps e=>⟨#[],by rw [e]; simp⟩) (fun m hm=>?_) (fun c u e=>?_) I.bare
  ·obtain⟨_,a1,_,a3,a4,a5⟩:=hf c (sub c iO);exact⟨a3,a1,a4,a5⟩
  ·obtain⟨o,j2,ep,ho,r⟩:=hm;exact⟨o,j2,ep,k1 _ o (fun z=>(hf _ (sub _ z)).2.1 rfl) ho,r⟩
  ·refine (I.hok c u e).stay (fun d v' hd q=>k1 d v' ?_ q) (fun _ q=>q) fun _ _ q=>q
   rcases hd with z | z
   ·rw [z]; exact nv c u e
   ·exact nv d _ z
 self:=fun _ _ _ _ _ st h=>by
  obtain⟨⟨f0,f1,hz,_⟩,_⟩:=st;exact zhL hz h
def iZq (mM mO:Hp→Addr→List V→Prop) (ta:TA):TI:=fun σ H R=>ta σ H fun vs H1=>∃ a b xs ys,vs = [.ref a,.ref b]∧mM H1 a xs∧mO H1 b ys∧R (zni mM mO a b) H1
theorem zjA {C:String} {Is:Heap→Addr→Array Value→Prop} {Sq:af→Hp→Addr→List V→Prop} (S:Sk C Is Sq) {X:Cx} {es:List Expr} {k:Nat} {mR p pos:Pos} {a b:Expr} {ta:TA} (hg:Gl X "zip") (hm:X.mg "zip" = none) (ha:PA X [a,b] ta) (hs:starEach [a,b] X.env = [(false,eval a X.env),(false,eval b X.env)]:=by rfl) (mL:starEach [b] X.env = [(false,eval b X.env)]:=by rfl) :
  PI X (.Tuple es k mR) (.Call (.Name "zip" p) [a,b] [] pos) (iZq (iI X.K) (Sq X.K) ta):=by
 intro ip s σ H R I h;refine Call_ (zc5 I hg hm boot_zip (bW (thn (ha pos ip s σ H _ I h) fun us s1 ⟨vs,H1,I1,r1,q1⟩=>?_) (by rw [hs,mL]) (by rw [mL]; rfl)));obtain⟨l1,l2,xs,ys,e,oa,oQ,q⟩:=q1;subst e;cases r1 with
 | cons r rr =>
  cases rr with
  | cons r' rr =>
   cases rr;cases r;cases r';obtain⟨ko,qJ,pl1,qI⟩:=I1.tuple oa;obtain⟨kh,qK,pl2,oh⟩:=S.inv I1 oQ;have og:l1 < s1.heap.objs.size:=by obtain⟨_,e,_⟩:=pl1; exact av e
   refine zg1 S.h (show s1.heap.IsTuple l1 ko.toArray from pl1) pl2 fun h' n hn b1 b2 b3 b4 b5 b6 kk=>?_
   have I2:Inv X ip σ H1 { s1 with heap:=h' }:=I1.kept (t':=s1.toks) kk;refine zhL b1 ?_;refine⟨_,zes n,zoo C n l1 l2,zni (iI X.K) (Sq X.K) l1 l2,H1,rfl,I2,zjz S l1 l2 n (by rw [hn]; exact og) (by rw [hn]; exact oh),⟨⟨_,_,b1,.inl rfl,_,rfl⟩,b2,⟨_,_,b3⟩,b4,b5⟩,fun c hc=>?_,q⟩;have hle:s1.heap.objs.size≤c:=by
    simp only [zes,am,ar,or_false] at hc;rw [← hn];rcases hc with z | z | z | z | z <;> subst z
    all_goals first | exact Nat.le_add_right _ _ | exact ak _
   exact I1.fpOk hle (I1.hok.fresh hle)
theorem zjB {X:Cx} {es:List Expr} {k:Nat} {mR p pos:Pos} {a b:Expr} {ta:TA} (hg:Gl X "zip") (hm:X.mg "zip" = none) (ha:PA X [a,b] ta) (hs:starEach [a,b] X.env = [(false,eval a X.env),(false,eval b X.env)]:=by rfl) (mL:starEach [b] X.env = [(false,eval b X.env)]:=by rfl) :
  PI X (.Tuple es k mR) (.Call (.Name "zip" p) [a,b] [] pos) (iZq (iI X.K) (iw X.K) ta):=zjA sqL hg hm ha hs mL
section
variable {prog:Program} {w:World} {A:Around} {h:Heap} {g:Array GenState} {d:Drawn} {tk:Nat} {os:OsState} {K:af} {x C:Addr} {E:Value→Shared→Prop}
theorem zg2 {R:Result→Shared→Prop} {tp:Value} (J:∀ M,eg M h (typeOf (.ref x)) (.ref C)) (X:K.In h)
  (hm:bq K C (.type "object")=some true) (q:R (.ok (.ret (.ref C))) ⟨h,g,d,tk,os⟩) :
  codeAny (model prog w) A (Code.call (.builtin "getset_descriptor.__get__") { pos:=[.builtin "object.__class__",.ref x,tp] }) R ⟨h,g,d,tk,os⟩:=by
 refine cG PySem.W.KF.slot_gs.plain PySem.W.KF.entry_gs (PySem.W.KF.slot_gs.check _ _ _ _ _ _ _ _ ?_ (PySem.W.KF.args_gs _ _ _) ?_)
 ·exact dn
 ·unfold Builtin.«getset_descriptor.__get__» gn;rw [PySem.W.dga_obj];refine ag (al ?_)
  try dsimp only
  unfold fR
  try dsimp only
  refine ag ?_;unfold e8 ff
  try dsimp only
  rw [PySem.W.KF.owner_class];refine ag (al ?_)
  try dsimp only
  unfold isInstance;refine ag (ag ((J _).at ((dG X hm).at ?_)));refine bF rfl (al ?_);unfold again;refine al ⟨dX _ #[N],?_⟩;refine eV PySem.W.KF.entry_class ?_;unfold Builtin.«object.__class__»
  try dsimp only
  unfold shownTypeOf;refine ag (ag ((J _).at ?_));refine bF rfl (al ?_);unfold ret;exact al q
theorem zib {M:Model} {nF:Value} {Q:Unit→Shared→Prop} (J:∀ M,eg M h (typeOf (.ref x)) (.ref C)) (X:K.In h) (hm:bq K C (.type "BaseException")=some true) (q:Q () ⟨h,g,d,tk,os⟩) :
  wpAny M A (checkBuiltinCall "BaseException.__getattribute__" { pos:=[.ref x,nF] }) Q E ⟨h,g,d,tk,os⟩:=by
 have hk:builtinKind "BaseException.__getattribute__" = some im:=#[N];have hs:splitId "BaseException.__getattribute__" = some ("BaseException","__getattribute__"):=by decide +kernel
 unfold checkBuiltinCall;rw [hk,hs]
 try dsimp only
 unfold isInstance;refine ag (ag ((J _).at ((dG X hm).at ?_)));refine bF rfl ?_;have ok:=F.args_bexc_ga (.ref x) nF;unfold argsOk at ok;generalize Manifest.signature? "BaseException.__getattribute__" = sg at ok ⊢;cases sg with
 | none=>exact al q
 | some sig =>
  dsimp only at ok ⊢;rw [ok];exact al q
theorem zic {Q:Option Value→Shared→Prop} (J:∀ M,eg M h (typeOf (.ref x)) (.ref C)) (X:K.In h)
  (F1:aG K (.ref C) "__getattribute__" = some (some (.builtin "BaseException.__getattribute__"))) (F2:aG K (.ref C) "__getattr__" = some none)
  (F3:aG K (.ref C) "__class__" = some (some (.builtin "object.__class__"))) (hm:bq K C (.type "object")=some true) (hb:bq K C (.type "BaseException")=some true)
  (q:Q (some (.ref C)) ⟨h,g,d,tk+1,os⟩):wpAny (model prog w) A (getAttr? (.ref x) "__class__") Q E ⟨h,g,d,tk,os⟩:=by
 unfold getAttr?
 (refine ag (wpAny_mkText ?_))
 unfold getAttrBy?
 (refine ag (ef ?_))
 unfold getAttrBy;refine a8 (ag ((J _).at (ag ((dy X F1).at ?_))))
 try dsimp only
 refine bF rfl ?_;unfold getAttrByItsOwn;refine ag ((PySem.W.looks_hook (mc:=.ref C) X (r:=none) (by rw [show onTheHeap (aL C)=true from rfl,if_pos rfl]; exact F2)).at ?_)
 (refine ag (ef (a8 ?_)))
 unfold callGetattribute;refine bF rfl ?_;unfold boundAndCalled;rw [F.attrBase_ValueError.ga.bind];refine ag (al ?_)
 try dsimp only
 refine cA ?_;refine cG F.attrBase_ValueError.ga.plain F.entry_bexc_ga (zib J X hb ?_)
 (unfold Builtin.«object.__getattribute__»)
 refine ag ?_;unfold slotArgs
 try dsimp only
 refine bF rfl (bF rfl (al ?_))
 try dsimp only
 unfold hV
 try dsimp only
 refine ag (al (ag ((J _).at (ag ?_))));unfold ik;refine ag ((dy X F3).at ?_);unfold ij
 try dsimp only
 refine ag (fO dn F.slot_gs_get.lookup ?_);unfold gp
 try dsimp only
 refine ag ?_;unfold gW;refine ag (ag (fO dn F.slot_gs_set.lookup ?_));refine dL rfl (al ?_);refine dL rfl (al ?_)
 try dsimp only
 (refine ag (c8 (al ?_)))
 try dsimp only
 unfold ie
 try dsimp only
 refine ag (a8 (cA (zg2 J X hm ?_)))
 try dsimp only
 unfold ret;refine al ?_
 try dsimp only
 unfold handedOut
 try dsimp only
 refine al ?_
 try dsimp only
 exact al q
end
structure Xc (K:af) (C:Addr):Prop where
 f1:aG K (.ref C) "__getattribute__" = some (some (.builtin "BaseException.__getattribute__"))
 f2:aG K (.ref C) "__getattr__" = some none
 f3:aG K (.ref C) "__class__" = some (some (.builtin "object.__class__"))
 ob:bq K C (.type "object")=some true
 bb:bq K C (.type "BaseException")=some true
 kc:dM K (.ref C) (.ref C)=some true
theorem zdT {h:Heap} {x C:Addr} (e:∃ o,h.get? x=some o∧o.cls = .ref C) (M:Model):eg M h (typeOf (.ref x)) (.ref C):=by
 obtain⟨o,e,c⟩:=e;intro A Q E s k q;obtain⟨h',g,d,t,os⟩:=s;unfold typeOf;refine ag (wpAny_loadPart_at (k _ _ e) (al ?_));rw [c];exact q
theorem znj {K:af} {C:Addr} {b:Value} {r:Bool} (m:bq K C b=some r):∃ oc dd cd sl,K.lookup C=some ⟨oc,dd,.cls cd,sl⟩:=by
 unfold bq PySem.W.clsIn at m;cases e:bH C K with
 | none=>rw [e] at m; cases m
 | some o =>
  obtain⟨oc,dd,da,sl⟩:=o;cases da with
  | cls cd=>exact⟨oc,dd,cd,sl,rfl⟩
  | _=>rw [e] at m; cases m
theorem zgd {K:af} {x C:Addr} (c:Xc K C):PySem.W.KitX K (.ref x) (.ref C) (fun h=>∃ o,h.get? x=some o∧o.cls = .ref C):=by
 refine⟨fun M h _ e=>zdT e M,fun M h X e=>(gX X c.kc).2.1,fun h tp dd ir n sl X e=>?_,fun {prog w A E Q s} X e q=>?_⟩
 ·obtain⟨oc,dd',cd,qw,l⟩:=znj c.ob;have e2:=X _ _ l;have ne:C≠tp:=fun z=>by
   rw [z,e] at e2;cases e2
  exact decide_eq_false fun z=>ne (by injection z)
 ·obtain⟨h,g,d,tk,os⟩:=s;exact zic (fun M=>zdT e M) X c.f1 c.f2 c.f3 c.ob c.bb q
def zjC (a C:Addr):HO:=.ext fun h=>∃ o,h.get? a=some o∧o.cls = .ref C
theorem zV {X:Cx}:zba X (.builtin "isinstance") (fun xs H Q=>∃ a C y b,xs = [.ref a,y]∧H a=some (zjC a C)∧Xc X.K C∧((∃ D,y = .ref D∧aP X.K (.ref C) (.ref D)=some b)∨∃ n,y = .ty n∧aP X.K (.ref C) (.type n)=some b)∧Q (.bl b) H):=by
 intro ip s σ H xs us Q I r h;obtain⟨a,C,y,b,rfl,ha,c,hy,q⟩:=h;obtain⟨u,u',rfl,rx,r2⟩:=vals2 r;cases rx;obtain⟨he,_,_⟩:=(show zal X.prog X.w H s.heap a (zjC a C) from I.hok a _ ha);rcases hy with ⟨D,rfl,hk⟩ | ⟨n,rfl,hk⟩
 ·cases r2;exact aY (zgd c) I.kIn he hk (fun z=>nomatch z) fun tk=>⟨.bl b,H,I.tok tk,rfl,q⟩
 ·cases r2;exact aY (zgd c) I.kIn he hk (fun z=>nomatch z) fun tk=>⟨.bl b,H,I.tok tk,rfl,q⟩
abbrev zdf:List Value:=[.type "ValueError",.type "Exception",.type "BaseException",.type "object"]
structure XcAt (C:Addr) (h:Heap) (bmB:List Value) (newId:String):Prop where
 ex:∃ nm q N bs bm hdct sn sub ab col dd k0 k1 k2 k3 k5,∃ mN:Str→Option Value,h.get? C=some (excClassObj nm q C N bs bm hdct sn sub ab col dd k0 k1 k2 k3 k5 newId)∧h.Ns N mN∧mN "__init__" = none∧OwnTail h bmB bm
theorem zid {K:af} {h:Heap} {C:Addr} {bmB:List Value} {newId:String} (X:K.In h) (e:bj K C bmB newId=true):XcAt C h bmB newId:=by
 unfold bj at e;split at e
 ·rename_i dict cd sl hl
  split at e
  ·rename_i C' bm a0 a1 a2 a3 n a5 hm hs
   simp only [aF,beq_iff_eq] at e;obtain⟨⟨⟨⟨⟨rfl,rfl⟩,oj⟩,ht⟩,hn⟩,hi⟩:=e;obtain⟨sll⟩:=sl;have hs:sll = [a0,a1,a2,a3,some (Value.builtin n),a5]:=hs;subst hs;have ho:=X _ _ hl;cases cd;dsimp only at hm hn hi oj;subst hm;simp only [c9] at oj;subst oj;exact⟨_,_,_,_,_,_,_,_,_,_,_,_,_,_,_,_,_,ho,Heap.Ns.of_isNs (PySem.W.isNs_of_in X hn),PySem.W.nsMap_none_of_in X hn hi,PySem.W.tail_of_in X ht⟩
  ·cases e
 ·cases e
theorem zdq {h h' base B:Heap} (k:∀ b o,h.get? b=some o→h'.get? b=some o):∀ {l:List Env},h.FunFrames base l→(∀ b∈frs l,B.get? b=none)→h'.FunFrames B l
 | [],_,_=>trivial
 | env :: r,hl,hb=>by
  obtain⟨hk,⟨L,o,hf,hn,ho,hd⟩,hr⟩:=hl;have e:frs (env :: r)=L :: frs r:=by unfold frs; rw [cj,hf]
  rw [e] at hb;exact⟨hk,⟨L,o,hf,hb L #[M],k _ _ ho,hd⟩,zdq k hr fun b z=>hb b (aI _ z)⟩
structure Xl (P:Program) (w:World) (outer:List Env) (H:Hp) (h:Heap) (H':Hp) (h' B:Heap) (e C:Addr):Prop where
 new:h.get? e=none
 hok:HOk P w H' B
 fly:∃ t,B.FlyingW outer e (.ref C) t h'
 keep:∀ b o,h.get? b=some o→H b=none→b∉frs outer→B.get? b=some o
 slot:∀ b o,h.get? b=some o→H b=none→b∈frs outer→∃ sl,h'.get? b=some { o with slots:=sl }
 free:∀ b o,h.get? b=some o→H b=none→H' b=none
 there:∀ b o,h.get? b=some o→b∉frs outer→∃ o',B.get? b=some o'
 tups:∀ b xs,H b=some (.tup xs)→H' b=some (.tup xs)
 frzs:∀ b o u,H b=some (.frz o u)→H' b=some (.frz o u)
 tbls:∀ b ps,H b=some (.tbl ps)→∃ more,H' b=some (.tbl (ps++more))
def CX1 (P:Program) (w:World):CXT:=fun outer H s E ev s'=>∃ (e C:Addr) (H':Hp) (B:Heap),ev = .ref e∧s'.os=s.os∧AllBare s'.gens∧Xl P w outer H s.heap H' s'.heap B e C∧E (.ref C) none H'
section
variable {P:Program} {w:World} {outer:List Env} {H H':Hp} {h h' B:Heap} {e C:Addr}
theorem zjD {o:HO} {a:Addr} (x:zal P w H h a o):∃ ob,h.get? a=some ob:=by
 cases o with
 | lst xs=>obtain⟨_,_,_,_,e⟩:=x; exact⟨_,e⟩
 | tup xs=>obtain⟨_,_,_,o,e,_⟩:=x; exact⟨_,e⟩
 | dK iX=>obtain⟨_,_,_,_,o,_,_,e,_⟩:=x; exact⟨_,e⟩
 | dT iX=>obtain⟨_,_,_,_,o,_,_,e,_⟩:=x; exact⟨_,e⟩
 | set S n=>obtain⟨o,_,_,_,e,_⟩:=x; exact⟨_,e⟩
 | ins C dx fs=>obtain⟨_,_,_,e,_⟩:=x; exact⟨_,e⟩
 | own y=>obtain⟨_,e⟩:=x; exact⟨_,e⟩
 | xd fs=>obtain⟨_,⟨_,_,_,e,_⟩,_⟩:=x; exact⟨_,e⟩
 | rng lo hi=>obtain⟨_,_,_,e⟩:=x; exact⟨_,e⟩
 | frz ob u=>obtain⟨e,_⟩:=x; exact⟨_,e⟩
 | tbl ps=>exact⟨_,(show h.get? a=some _ from x)⟩
 | met f y=>exact⟨_,(show h.get? a=some _ from x)⟩
 | ext φ=>obtain⟨_,⟨_,e⟩,_⟩:=x; exact⟨_,e⟩
theorem Xl.fresh (x:Xl P w outer H h H' h' B e C):H' e=none:=by
 obtain⟨t,_,hb,_⟩:=x.fly;cases q:H' e with
 | none=>rfl
 | some u =>
  obtain⟨ob,z⟩:=zjD (x.hok e u q);rw [hb] at z;cases z
theorem Xl.un (x:Xl P w outer H h H' h' B e C) (hf:∀ b∈frs outer,H b=none):Un (frs outer) [] H H' h h' where
 keep:=fun b o q n hb _=>by
  obtain⟨t,st,_⟩:=x.fly;exact st _ _ (x.keep b o q n hb)
 slot:=fun b o q n hb _=>x.slot b o q n hb
 free:=fun b o q n _=>x.free b o q n
 there:=fun b o q _=>by
  by_cases hb:b∈frs outer
  ·obtain⟨sl,z⟩:=x.slot b o q (hf b hb) hb;exact⟨_,z⟩
  ·obtain⟨o',z⟩:=x.there b o q hb;obtain⟨t,st,_⟩:=x.fly;exact⟨o',st _ _ z⟩
 tups:=x.tups
 frzs:=x.frzs
 tbls:=x.tbls
end
section
variable {X:Cx} {σ:St} {H:Hp} {s:Shared} {ip:List (Addr×Obj)}
theorem Inv.hid (I:Inv X ip σ H s):HOk X.prog X.w H (bY s.heap (frs X.stack)):=fun a o q =>
 (I.hok a o q).stay (fun b u hb z=>cL _ z fun m=>by
  have n:=I.stkFree b m;rcases hb with rfl | hb
  ·rw [q] at n; cases n
  ·rw [hb] at n; cases n) (fun _ z=>z) fun _ _ z=>z
theorem zge {env:Env} {outer:List Env} {L:Addr} (hf:env.frame=some L):frs (env :: outer)=L :: frs outer:=by unfold frs; rw [cj,hf]
theorem Inv.notHere (I:Inv X ip σ H s) {b:Addr} {o:Obj} (q:X.s₀.heap.get? b=some o):b≠X.env.locals:=aA (aB (av q) I.ok.above)
end
section
variable {P:Program} {w:World} {K:af} {mg:Str→Option Value} {base:Heap} {N:List Str} {qual:Str} {scope:Scope} {f:Addr} {cd:Value} {A:Around} {outer:List Env} {s₀:Shared} {H₀:Hp} {E:XK}
abbrev cxX (P:Program) (w:World) (K:af) (mg:Str→Option Value) (base:Heap) (N:List Str) (qual:Str) (scope:Scope) (f:Addr) (cd:Value) (A:Around) (outer:List Env) (s:Shared) (H:Hp) (E:XK):Cx:=zbs (CX1 P w) P w K mg base N qual scope f cd A outer s H E
theorem zN {ip:List (Addr×Obj)} {σ:St} {H:Hp} {s:Shared} {h1:Heap} {e C:Addr} {vs:List Value} (I:Inv (cxX P w K mg base N qual scope f cd A outer s₀ H₀ E) ip σ H s) (m:s.heap.MadeExcOf h1 e (.ref C) vs) (q:E (.ref C) none H) :
  (cxX P w K mg base N qual scope f cd A outer s₀ H₀ E).xe (.ref e) { s with heap:=h1 }:=by
 have oR:frs (cxX P w K mg base N qual scope f cd A outer s₀ H₀ E).stack=s₀.heap.objs.size :: frs outer:=zge rfl;obtain⟨t,he,_,_⟩:=m.there;have stays:(bY s.heap (frs (cxX P w K mg base N qual scope f cd A outer s₀ H₀ E).stack)).StaysIn h1:=fun b o z=>m.keeps _ _ (dQ _ z)
 have kq:(bY s.heap (frs (cxX P w K mg base N qual scope f cd A outer s₀ H₀ E).stack)).get? e=none:=by
  cases z:(bY s.heap (frs (cxX P w K mg base N qual scope f cd A outer s₀ H₀ E).stack)).get? e with
  | none=>rfl
  | some o=>have:=dQ _ z; rw [m.new] at this; cases this
 refine wpAny_leaving_firstW (base:=bY s.heap (frs (cxX P w K mg base N qual scope f cd A outer s₀ H₀ E).stack)) (outer:=outer) I.ok.frames (zdq m.keeps I.stack fun b z=>fv _ z) rfl he stays kq rfl rfl rfl fun h2 left=>?_
 obtain⟨j4,ff2,tr2,pU⟩:=left;refine⟨e,C,H,bY s.heap (frs (cxX P w K mg base N qual scope f cd A outer s₀ H₀ E).stack),rfl,I.os,I.bare,⟨?_,I.hid,⟨_,j4,kq,ff2.2.2,tr2⟩,fun b o z n hb=>?_,fun b o z n hb=>?_,fun b o z n=>I.base.free b o z n (by simp [cxX,zbs]),fun b o z hb=>?_,I.base.tups,I.base.frzs,I.base.tbls⟩,q⟩
 ·cases z:s₀.heap.get? e with
  | none=>rfl
  | some o =>
   obtain⟨o',z'⟩:=I.base.there e o z (by simp [cxX,zbs]);rw [m.new] at z'; cases z'
 ·refine cL _ (I.base.keep b o z n hb (by simp [cxX,zbs])) fun hm=>?_
  rw [oR] at hm;rcases am.mp hm with z' | z'
  ·exact I.notHere z z'
  ·exact hb z'
 ·obtain⟨sl,z1⟩:=I.base.slot b o z n hb (by simp [cxX,zbs]);obtain⟨_,ob,zo,nd⟩:=I.ok.funs.mem hb;have eo:ob=o:=by
   have z3:s₀.heap.get? b=some ob:=zo;rw [z] at z3; exact (az z3).symm
  subst eo;obtain⟨qw,z2⟩:=pU b _ (m.keeps _ _ z1) nd;exact⟨qw,z2⟩
 ·obtain⟨o',z1⟩:=I.base.there b o z (by simp [cxX,zbs]);refine⟨o',cL _ z1 fun hm=>?_⟩;rw [oR] at hm;rcases am.mp hm with z' | z'
  ·exact I.notHere z z'
  ·exact hb z'
theorem zW:zbh (CX1 P w) (cxX P w K mg base N qual scope f cd A outer s₀ H₀ E) E:=by
 intro ip σ H s ev s' I hq;obtain⟨e,C,H',B,rfl,os,bare,L,q⟩:=hq;have oR:frs (cxX P w K mg base N qual scope f cd A outer s₀ H₀ E).stack=s₀.heap.objs.size :: frs outer:=zge rfl;obtain⟨t,fl⟩:=L.fly;show wpAny _ _ («leaving» _ _) _ _ _;unfold «leaving»;refine ag (wpAny_looks_onW (base:=B) (outer:=outer) I.ok.frames rfl fl fun h2 held u2=>?_);refine wpAny_landsW held fun h3 pV u3=>?_
 obtain⟨nP,kq,ff3,tr3⟩:=pV;refine⟨e,C,H',B,rfl,os.trans I.os,bare,⟨?_,L.hok,⟨_,nP,kq,ff3.2.2,tr3⟩,fun b o z n hb=>?_,fun b o z n hb=>?_,fun b o z n=>?_,fun b o z hb=>?_,fun b xs z=>L.tups b xs (I.base.tups b xs z),fun b o u z=>L.frzs b o u (I.base.frzs b o u z),fun b ps z=>?_⟩,q⟩
 ·cases z:s₀.heap.get? e with
  | none=>rfl
  | some o =>
   obtain⟨o',z'⟩:=I.base.there e o z (by simp [cxX,zbs]);rw [L.new] at z'; cases z'
 ·refine L.keep b o (I.base.keep b o z n hb (by simp [cxX,zbs])) (I.base.free b o z n (by simp [cxX,zbs])) fun hm=>?_
  rw [oR] at hm;rcases am.mp hm with z' | z'
  ·exact I.notHere z z'
  ·exact hb z'
 ·obtain⟨sl,z1⟩:=I.base.slot b o z n hb (by simp [cxX,zbs]);obtain⟨_,ob,zo,nd⟩:=I.ok.funs.mem hb;have eo:ob=o:=by
   have z3:s₀.heap.get? b=some ob:=zo;rw [z] at z3; exact (az z3).symm
  subst eo;obtain⟨pU,z2⟩:=L.slot b _ z1 (I.base.free b _ z n (by simp [cxX,zbs])) (by rw [oR]; exact aI _ hb);obtain⟨sl3,z3⟩:=u2 b _ z2 nd;obtain⟨sl4,z4⟩:=u3 b _ z3 nd;exact⟨sl4,z4⟩
 ·obtain⟨o',z'⟩:=I.base.there b o z (by simp [cxX,zbs]);exact L.free b o' z' (I.base.free b o z n (by simp [cxX,zbs]))
 ·obtain⟨o',z'⟩:=I.base.there b o z (by simp [cxX,zbs]);refine L.there b o' z' fun hm=>?_
  rw [oR] at hm;rcases am.mp hm with z' | z'
  ·exact I.notHere z z'
  ·exact hb z'
 ·obtain⟨m1,e1⟩:=I.base.tbls b ps z;obtain⟨m2,e2⟩:=L.tbls b _ e1;exact⟨m1++m2,by rw [e2,fV]⟩
theorem Fun.okX {x:Str} {st:Stmt} {fd:FuncData} {ps:List Str} {k:Nat} {sp:Sp} (F:Fun K x qual st f fd) (S:FnScope N ps (zj st)) (len:∀ vs H Q E,sp vs H Q E→vs.length=ps.length)
  (jk:∀ (iy:Value) (A:Around) (outer:List Env) (s:Shared) (H:Hp) (vs:List V) (Q:VK) (E:XK),Room k (A.deeper (envOfC qual (zj st) s.heap.objs.size f iy))→sp vs H Q E →
   ∃ t,PSs (cxX P w K mg base N qual (zj st) f iy A outer s H E) (zbf st) t∧t { nx:=fun _ H'=>Q .non H',rt:=Q } (start N vs) H):FnOk P w K mg base (CX1 P w) (k+1) f fd ps sp:=by
 obtain⟨oc,od,kV,doc,pm,an,iy,ct,lR,rfl,lk,j9⟩:=F.ex;exact zmL lk j9 S len fun A outer s H vs Q E hr kb=>jk iy A outer s H vs Q E hr kb
end
section
variable {X:Cx} {x:Str} {C:Addr} {e:Expr} {te:TE} {np iY pos:Pos} {E:XK}
def zjE (X:Cx) (E:XK):Prop:=∀ (ip:List (Addr×Obj)) (σ:St) (H:Hp) (s:Shared) (h1:Heap) (e C:Addr) (vs:List Value),Inv X ip σ H s→s.heap.MadeExcOf h1 e (.ref C) vs→E (.ref C) none H→X.xe (.ref e) { s with heap:=h1 }
def znk (C:Addr) (E:XK) (te:TE):TS:=fun _ σ H=>zhF te zhZ σ H fun vs H1=>vs.length=1∧E (.ref C) none H1
theorem zac (hx:zjE X E) (hc:X.calm=true) (hg:Gl X x) (hm:X.mg x=some (.ref C)) (xc:bj X.K C zdf "ValueError.__new__" = true) (he:PE X e te) (hd:(x == ("__debug__" : Str))=false:=by decide)
  (ju:((backTo iY (starEach [e] X.env)).any fun x=>x.fst)=false:=by rfl) (j3:starEach [e] X.env=(false,eval e X.env) :: starEach [] X.env:=by rfl) :
  PS X (.Raise (some (.Call (.Name x np) [e] [] iY)) none pos) (znk C E te):=by
 intro ip s σ H D I h;obtain⟨nm,q,N,bs,bm,hdct,sn,sub,ab,col,dd,k0,k1,k2,k3,k5,mN,hob,qB,kC,pW⟩:=(zid I.mod.kin xc).ex;refine wpAny_Raise_call_subU (nm:=nm) (q:=q) (N:=N) (bs:=bs) (hdct:=hdct) (sn:=sn) (sub:=sub) (ab:=ab) (col:=col) (dd:=dd) (k0:=k0) (k1:=k1) (k2:=k2) (k3:=k3) (k5:=k5) (bm:=bm) (bmB:=zdf) (bmN:=zdf) fC rfl fC (OwnTail.hasType pW rfl) (I.ok.hd hc) ju kC (zbc I hg hm ⟨rfl,?_⟩ hd);have pa:PA X [e] (zhF te zhZ):=za he zd j3;have go:=pa iY ip s σ H (fun vs H1=>vs.length=1∧E (.ref C) none H1) I h;rw [j3] at go ⊢;refine fz (thn go fun us s2 ⟨vs,H2,I2,r2,ql,q2⟩=>⟨rfl,?_,I2.bk _ _ hob,qB.keeps I2.bk,pW.keeps I2.bk,fun h1 ea m=>hx ip σ H2 s2 h1 ea C _ I2 m q2⟩);have:=r2.length;have kz:1≤sizeLine:=by decide
 show us.length≤sizeLine;lia
end
def zlI (X:Cx) (ip:List (Addr×Obj)) (σ:St) (e:Expr) (t:TE):Prop:=∀ (s:Shared) (H:Hp) (Q:VK),Inv X ip σ H s→t σ H Q→wpAny (model X.prog X.w) X.A (eval e X.env) (EP X ip σ Q) X.xe s
def znl (X:Cx) (ip:List (Addr×Obj)) (σ:St) (st:Stmt) (t:TS):Prop:=∀ (s:Shared) (H:Hp) (D:Ends),Inv X ip σ H s→t D σ H→wpAny (model X.prog X.w) X.A (exec st X.env) (SP X ip D) X.xe s
def zhM (X:Cx) (ip:List (Addr×Obj)) (σ:St) (st:List Stmt) (t:TS):Prop:=∀ (s:Shared) (H:Hp) (D:Ends),Inv X ip σ H s→t D σ H→wpAny (model X.prog X.w) X.A (execs st X.env) (SP X ip D) X.xe s
def zcU (CX:CXT) (X:Cx) (ip:List (Addr×Obj)) (σ:St) (E:XK):Prop:=∀ (H:Hp) (s:Shared) (e:Value) (s':Shared),Inv X ip σ H s→CX X.stack H s E e s'→X.xe e s'
section
variable {X:Cx} {ip:List (Addr×Obj)} {σ:St} {CX:CXT} {k:Nat} {f C:Addr} {fd:FuncData} {ps:List Str} {sp:Sp} {jh:List V} {ds:List Value} {E:XK} {x m:Str} {p pos apos:Pos} {e o:Expr} {es:List Expr} {ta te:TE} {t:TA}
theorem zeU {H:Hp} {s:Shared} {Q:VK} {us:List Value} {vs:List V} (F:FnOk X.prog X.w X.K X.mg X.base CX k f fd ps sp) (hr:Room k X.A) (hb:Binds X.K fd ps ds) (hd:zx jh ds) (hx:zcU CX X ip σ E)
  (I:Inv X ip σ H s) (r:zx vs us) (h:sp (vs++jh) H Q E):wpAny (model X.prog X.w) X.A (call (.ref f) us) (EP X ip σ Q) X.xe s:=by
 have r2:zx (vs++jh) (us++ds):=r.append hd;have hl:(us++ds).length=ps.length:=by rw [← r2.length]; exact F.len _ _ _ _ h
 refine cA (bO (F.run X.A X.stack s H ⟨us,[]⟩ (us++ds) (vs++jh) Q E hr I.env0 (hb s us I.kIn hl) r2 h) fun r s' hq=>?_);cases r with
 | error e=>exact hx H s e s' I hq
 | ok fl =>
  cases fl with
  | ret u=>exact I.after hq
  | next=>exact aW hq
  | brk=>exact aW hq
  | cont=>exact aW hq
theorem zg3 (F:FnOk X.prog X.w X.K X.mg X.base CX k f fd ps sp) (hr:Room k X.A) (hg:Gl X x) (hm:X.mg x=some (.ref f)) (hk:bC X.K (.ref f)=true) (hb:Binds X.K fd ps ds) (hd:zx jh ds) (hx:zcU CX X ip σ E)
  (ha:PA X (e :: es) t) (kQ:(x == ("__debug__" : Str))=false:=by decide) (he:starEach (e :: es) X.env=(false,eval e X.env) :: starEach es X.env:=by rfl) (ju:(backTo pos (starEach es X.env)).any (·.1)=false:=by rfl) :
  zlI X ip σ (.Call (.Name x p) (e :: es) [] pos) (zhG sp jh E t):=by
 intro s H Q I h;refine bn (zbc I hg hm ?_ kQ);refine bw (h₀:=X.base) I.ok.mod.kin hk (thn (ha pos ip s σ H _ I h) fun us s1 ⟨vs,H1,I1,r,q⟩=>⟨I1.kIn,?_⟩) he ju;exact zeU F hr hb hd hx I1 r q
theorem zbQ {pl:Sem Bool} (he:PE X o ta) (c:Cls X.K C) (hm:Meth X.K C m f) (F:FnOk X.prog X.w X.K X.mg X.base CX k f fd ps sp) (hr:Room k X.A) (hb:Binds X.K fd ps ds) (hd:zx jh ds) (hx:zcU CX X ip σ E) (ha:PA X (e :: es) t)
  (j3:starEach (e :: es) X.env=(false,eval e X.env) :: starEach es X.env:=by rfl) (ju:(backTo pos (starEach es X.env)).any (·.1)=false:=by rfl)
  (ht:eval (.Call (.Attribute o m apos) (e :: es) [] pos) X.env=(do
   let ov ← eval o X.env
   standAt apos.atName
   let (f,first) ← holding [ov] (getMethod ov m pl)
   callWith pos f first (backTo pos (starEach (e :: es) X.env)) (backToKw pos (keywordEach [] X.env))):=by rfl) :
  zlI X ip σ (.Call (.Attribute o m apos) (e :: es) [] pos) (zjf C m sp jh E ta t):=by
 intro s H Q I h;refine dk (pl:=pl) (thn (he ip s σ H _ I h) fun u s1 ⟨x,H1,I1,rx,a,dx,fs,ex,ea,l,q⟩=>?_) ht;subst ex;obtain rfl:u=aL a:=rx;refine zcF I1 ea c hm l ?_;refine bw (first:=[.ref a]) (h₀:=X.base) I.ok.mod.kin hm.kp (thn (ha pos ip s1 σ H1 _ I1 q) fun us s2 ⟨vs,H2,I2,r,q2⟩=>⟨I2.kIn,?_⟩) j3 ju;exact zeU (us:=.ref a :: us) (vs:=.ref a :: vs) F hr hb hd hx I2 (.cons rfl r) q2
theorem zdU {c:Expr} {a b:List Stmt} {tc:TT} {ts u:TS} (hc:PT X c tc) (ha:zhM X ip σ a ts) (hb:zhM X ip σ b u):znl X ip σ (.If c a b pos) (zn7 tc ts u):=by
 intro s H D I h;refine wpAny_If (thn (hc ip s σ H _ I h) fun d s1 ⟨H1,I1,q1⟩=>?_);cases d with
 | true=>exact ha s1 H1 D I1 q1
 | false=>exact hb s1 H1 D I1 q1
theorem zau {st:Stmt} {ts:TS} (h:znl X ip σ st ts):zhM X ip σ [st] ts:=by
 intro s H D I h1;refine eE (thn (h s H D I h1) fun f s1 q=>?_);cases f with
 | next=>exact cO q
 | ret v=>exact q
 | brk=>exact q
 | cont=>exact q
end
section
variable {X:Cx} {σ:St} {H:Hp} {s:Shared} {ip:List (Addr×Obj)}
theorem zie {M:Model} {A:Around} {E:Value→Shared→Prop} {i:Nat} {x:Str} {v:V} {Q:Unit→Shared→Prop} (I:Inv X ip σ H s) (hN:X.N.Nodup) (hi:X.N[i]? = some x) (hk:X.env.scope.names.lookup x=some .local) (hv:σ[i]? = some (some v))
  (h:∀ s',Inv X ip (σ.set i none) H s'→Q () s'):wpAny M A (unbindName X.env x) Q E s:=by
 obtain⟨m,hn,hl⟩:=id I.loc;have l7:(X.env.scope.kind == .class || (X.env.scope.kind == .module && X.env.locals != X.env.globals))=false:=by rw [I.ok.kind]; rfl
 have hiσ:i < σ.length:=by rw [I.len]; exact (aC.mp hi).1
 have cne:=I.cne;obtain⟨u,r,lk⟩:=hl i x v hi hv (.inl hk);have hm:m x=some u:=by
  rcases lk with ⟨_,z⟩ | ⟨z,_⟩
  ·exact z
  ·have z:X.env.scope.names.lookup x=some .cell∨X.env.scope.names.lookup x=some .free:=z;rw [hk] at z;rcases z with z | z <;> cases z
 refine wpAny_unbindName_local hk hn hm l7 fun h' u' pe hs=>?_
 obtain⟨oL,_,_,hoL,_⟩:=id hn;refine h _ ⟨I.ok,I.os,I.bare,⟨fun b o e n hb hx=>?_,fun b o e n hb hx=>?_,I.base.free,fun b o e hx=>?_,I.base.tups,I.base.frzs,I.base.tbls⟩,⟨_,pe,fun j y v' e1 e2 e3=>?_⟩,fun y c e=>?_,I.free,I.freeC,fun p hp=>?_,fun b ob e=>?_,by simpa using I.len⟩
 ·exact (hs.2 b (aA (aB (av e) I.ok.above))).trans (I.base.keep b o e n hb hx)
 ·obtain⟨sl,e1⟩:=I.base.slot b o e n hb hx;exact⟨sl,(hs.2 b (aA (aB (av e) I.ok.above))).trans e1⟩
 ·obtain⟨o',e1⟩:=I.base.there b o e hx;exact⟨o',(hs.2 b (aA (aB (av e) I.ok.above))).trans e1⟩
 ·by_cases hj:j=i
  ·subst hj;rw [cp hiσ] at e2;cases e2
  ·rw [cy (bL hj)] at e2;obtain⟨u',r',q⟩:=hl j y v' e1 e2 e3;refine⟨u',r',?_⟩;rcases q with ⟨k,e⟩ | ⟨k,c,e,z⟩
   ·refine .inl ⟨k,?_⟩;have:y≠x:=fun e=>hj (zdL hN e1 (e ▸ hi))
    simp [this,e]
   ·exact .inr ⟨k,c,e,z.sameBut hs (cne y c e)⟩
 ·obtain⟨w',z⟩:=I.cell y c e;exact⟨w',z.sameBut hs (cne y c e)⟩
 ·obtain⟨e,n,ne,nf,d⟩:=I.pin p hp;exact⟨(hs.2 p.1 ne).trans e,n,ne,nf,d⟩
 ·refine (I.hok b ob e).stay (fun c w' hc q=>(hs.2 c ?_).trans q) (fun _ q=>q) fun _ _ q=>q
  rintro rfl;rcases hc with rfl | hc
  ·rw [I.free] at e; cases e
  ·rw [I.free] at hc; cases hc
theorem Inv.trackX {a:Addr} {o:HO} (I:Inv X ip σ H s) (hn:H a=none) (h0:X.s₀.heap.get? a=none) (hL:a≠X.env.locals) (hc:∀ x c,X.env.cells.lookup x=some c→c≠a) (hp:∀ p∈X.pn++ip,p.1≠a) (new:zal X.prog X.w (upd H a o) s.heap a o) :
  Inv X ip σ (upd H a o) s:=by
 have hok:HOk X.prog X.w (upd H a o) s.heap:=fun b u e=>by
  by_cases hb:b=a
  ·subst hb;rw [zb] at e;cases e;exact new
  ·rw [zc hb] at e;exact (I.hok b u e).stay (fun c v _ q=>q) (fun c q=>by rw [zc (zi q hn)]; exact q) fun c xs q=>by rw [zc (zi q hn)]; exact q
 refine⟨I.ok,I.os,I.bare,⟨I.base.keep,I.base.slot,fun b u e n hx=>?_,I.base.there,fun b xs e=>?_,fun b u xs e=>?_,fun b ps e=>?_⟩,I.loc,I.cell,?_,fun x c e=>?_,fun p om=>?_,hok,I.len⟩
 ·rw [zc (fun z=>by rw [z,h0] at e; cases e)];exact I.base.free b u e n hx
 ·have:=I.base.tups b xs e;rw [zc (zi this hn)]; exact this
 ·have:=I.base.frzs b u xs e;rw [zc (zi this hn)]; exact this
 ·obtain⟨m1,this⟩:=I.base.tbls b ps e;exact⟨m1,by rw [zc (zi this hn)]; exact this⟩
 ·rw [zc (bL hL)]; exact I.free
 ·rw [zc (hc x c e)]; exact I.freeC x c e
 ·obtain⟨e,n,ne,nf,d⟩:=I.pin p om;exact⟨e,by rw [zc (hp p om)]; exact n,ne,nf,d⟩
end
abbrev Cx.inExc (X:Cx) (e:Addr):Cx:={ X with A:=X.A.mark (some (.ref e)),calm:=false,xe:=fun _ _=>False }
section
variable {X:Cx} {ip:List (Addr×Obj)} {σ:St} {H:Hp} {s:Shared} {e:Addr}
theorem Cx.Ok.inExc (ok:X.Ok) (e:Addr):(X.inExc e).Ok :=
 ⟨ok.mod,ok.kind,ok.glob,ok.blt,ok.above,ok.inj,ok.has,ok.cab,fun z=>(by cases z),ok.frames,ok.stk,ok.exf,ok.bs,ok.bsz,ok.noex,ok.exfs,ok.funs,ok.frf⟩
theorem Inv.inExc (I:Inv X ip σ H s) (e:Addr):Inv (X.inExc e) ip σ H s:=⟨I.ok.inExc e,I.os,I.bare,I.base,I.loc,I.cell,I.free,I.freeC,I.pin,I.hok,I.len⟩
theorem Inv.outExc (I:Inv (X.inExc e) ip σ H s) (ok:X.Ok):Inv X ip σ H s:=⟨ok,I.os,I.bare,I.base,I.loc,I.cell,I.free,I.freeC,I.pin,I.hok,I.len⟩
theorem zgf {M:Model} {A:Around} {E:Value→Shared→Prop} {h:Heap} {g:Array GenState} {d:Drawn} {tk:Nat} {os:OsState} {K:af} {C S:Addr} {Q:Bool→Shared→Prop} (X:K.In h) (he:∃ o,h.get? e=some o∧o.cls = .ref C) (hk:dM K (.ref C) (.ref S)=some true)
  (hs:bq K S (.type "BaseException")=some true) (q:Q true ⟨h,g,d,tk,os⟩):wpAny M A (excMatches (.ref e) (.ref S)) Q E ⟨h,g,d,tk,os⟩:=by
 obtain⟨l1,l2,l3⟩:=gX (M:=M) X hk;unfold excMatches isInstance;refine ag (ag (l1.at ?_));rw [tc_notTuple];refine al (bF rfl (ag (al ?_)));dsimp only
 (simp only [bE,cf])
 refine ag (ag (ag ?_));unfold isExcClass;refine ag (l2.at (dL rfl ((dG X hs).at ?_)));refine bF rfl (al (al ?_));refine ag ((zdT he M).at ?_);refine ag (ag (ag (l3.at (dL rfl (al (al ?_))))));exact al q
end
def Ends.but (D:Ends) (i:Nat):Ends:={ nx:=fun σ H=>D.nx (σ.set i none) H,rt:=D.rt,bk:=fun σ H=>D.bk (σ.set i none) H,ct:=fun σ H=>D.ct (σ.set i none) H }
def zo0 (K:af) (S:Addr) (i:Nat) (tb:XK→TS) (th:TS):TS:=fun D σ H =>
 tb (fun cls _ H'=>∃ C,cls = .ref C∧dM K (.ref C) (.ref S)=some true∧∀ e,H' e=none→th (D.but i) (σ.set i (some (.ref e))) (upd H' e (zjC e C))) D σ H
section
variable {X:Cx} {x n:Str} {S:Addr} {i:Nat} {body mi:List Stmt} {b₀:Stmt} {tb:XK→TS} {th:TS} {np lD pos:Pos}
theorem zg4 (hex:X.ex = []) (pX:X.stack=X.env :: X.outer) (nW:X.env.frame=some X.env.locals) (hg:Gl X x) (hm:X.mg x=some (.ref S)) (hS:bq X.K S (.type "BaseException")=some true)
  (hN:X.N.Nodup) (hi:X.N[i]? = some n) (hk:X.env.scope.names.lookup n=some .local)
  (hb:∀ (xe:Value→Shared→Prop) (ip:List (Addr×Obj)) (σ:St) (E:XK),zcU (CX1 X.prog X.w) (X.wish xe) ip σ E→zhM (X.wish xe) ip σ body (tb E))
  (hh:∀ e:Addr,PSs (X.inExc e) (b₀ :: mi) th) (hd:(x == ("__debug__" : Str))=false:=by decide) :
  PS X (.Try body [.ExceptHandler (some (.Name x np)) (some n) (b₀ :: mi) lD] [] [] pos) (zo0 X.K S i tb th):=by
 intro ip s σ H D I h;refine wpAny_Try_except ?_;refine bg (hb (fun ev s1=>wpAny (model X.prog X.w) X.A (noteFrame ev X.env) (fun _ s₂=>wpAny (model X.prog X.w) X.A (setFlight ev none) (fun _ s₃=>wpAny (model X.prog X.w) X.A (handleBy ev X.env [ExceptHandler.ExceptHandler (some (Expr.Name x np)) (some n) (b₀ :: mi) lD]) (SP X ip D) X.xe s₃) X.xe s₂) X.xe s1) ip σ _ ?_ s H D (I.wish _) h) (fun f s1 q=>?_) fun ev s1 z=>z
 ·
  intro H1 s1 ev s2 I1 hq;have I1:=I1.unwish;obtain⟨e,C,H',B,rfl,os,bare,L,C',hC,lA,q⟩:=hq;cases hC;obtain⟨t,fl⟩:=L.fly;have kD:∀ b∈frs X.stack,H1 b=none:=I1.stkFree;show wpAny _ _ (noteFrame _ _) _ _ _;have fl0:B.FlyingW (X.env :: X.outer) e (.ref C) t s2.heap:=by rw [← pX]; exact fl
  refine wpAny_looks_onW (base:=B) (outer:=X.outer) (by rw [← pX]; exact I1.ok.frames) nW fl0 fun h2 held u2=>?_
  refine wpAny_landsW held fun h3 pV u3=>?_
  have nP:∀ (h4:Heap),B.FlyingW (X.env :: X.outer) e (.ref C) t h4→s2.heap.UpToSlots h4→∀ (tk:Nat),Inv X ip σ H' ⟨h4,s2.gens,s2.drawn,tk,s2.os⟩:=by
   intro h4 oS u4 tk;refine I1.call' (s':=⟨h4,s2.gens,s2.drawn,tk,s2.os⟩) (ch:=[]) os ?_ (L.hok.kept oS.1) bare (fun b z=>absurd z #[M]);have U:=L.un kD;refine⟨fun b o z nn hb _=>oS.1 _ _ (L.keep b o z nn hb),fun b o z nn hb _=>?_,U.free,fun b o z _=>?_,L.tups,L.frzs,L.tbls⟩
   ·obtain⟨sl,z1⟩:=L.slot b o z nn hb;obtain⟨_,ob,zo,nd⟩:=I1.stack.mem hb;rw [z] at zo;cases zo;obtain⟨pU,z2⟩:=u4 b _ z1 nd;exact⟨pU,z2⟩
   ·by_cases hb:b∈frs X.stack
    ·obtain⟨sl,z1⟩:=L.slot b o z (kD b hb) hb;obtain⟨_,ob,zo,nd⟩:=I1.stack.mem hb;rw [z] at zo;cases zo;obtain⟨pU,z2⟩:=u4 b _ z1 nd;exact⟨_,z2⟩
    ·obtain⟨o',z1⟩:=L.there b o z hb;exact⟨o',oS.1 _ _ z1⟩
  have I3:=nP h3 pV (u2.trans u3) s2.toks;refine wpAny_handleBy_cons (codeAny_handlers_test ?_) (by intro z; cases z);refine zbc (X:=X.inExc e) (I3.inExc e) hg hm ?_ hd;refine zgf I3.kIn pV.there lA hS ?_;rw [if_pos rfl]
  (refine codeAny_handlers_suite_as ?_)
  refine PyProof.Rows.lands_againW pV fun h4 oS u4=>?_
  have I4:=nP h4 oS ((u2.trans u3).trans u4) s2.toks;have ne:H' e=none:=L.fresh;have e0:X.s₀.heap.get? e=none:=by
   cases z:X.s₀.heap.get? e with
   | none=>rfl
   | some o =>
    obtain⟨o',z'⟩:=I1.base.there e o z (by rw [hex]; simp);rw [L.new] at z'; cases z'
  have I5:Inv X ip σ (upd H' e (zjC e C)) ⟨h4,s2.gens,s2.drawn,s2.toks,s2.os⟩:=by
   refine I4.trackX ne e0 (fun z=>?_) (fun y c hc z=>?_) (fun p hp z=>?_) ?_
   ·obtain⟨m,⟨o,_,_,ho,_⟩,_⟩:=I1.loc;rw [← z,L.new] at ho;cases ho
   ·obtain⟨v,o,ho,_⟩:=I1.cell y c hc;rw [z,L.new] at ho;cases ho
   ·have:=(I1.pin p hp).1;rw [z,L.new] at this;cases this
   ·obtain⟨ob,ho,l7⟩:=oS.there;exact⟨⟨ob,ho,l7⟩,⟨ob,ho⟩,fun h1 h2 ⟨o,z,c⟩ k=>⟨o,k o z,c⟩⟩
  refine zcM (X:=X.inExc e) (v:=.ref e) (I5.inExc e) hN hi (.inl hk) rfl (fun s6 I6=>?_) (.inr hk);refine bg (hh e ip s6 _ _ (D.but i) I6 (q e ne)) (fun f s7 q7=>?_) fun _ _ z=>z.elim
  have fin:∀ {σ':St} {H7:Hp} {R:Shared→Prop},Inv (X.inExc e) ip σ' H7 s7→(∀ s8,Inv X ip (σ'.set i none) H7 s8→R s8)→wpAny (model X.prog X.w) X.A (do bindName X.env n bU; unbindBehindTheSuite X.env n lD) (fun _ s8=>R s8) X.xe s7:=by
   intro σ' H7 R I7 hR;have I7:=I7.outExc I.ok;refine ag (wpAny_bindName (zcM (v:=.non) I7 hN hi (.inl hk) rfl (fun s8 I8=>?_) (.inr hk)));unfold unbindBehindTheSuite;refine df ?_;have hil:i < σ'.length:=by rw [I7.len]; exact (aC.mp hi).1
   refine zie (v:=.non) I8 hN hi hk (by rw [cp hil]) fun s9 I9=>hR s9 ?_
   rw [List.set_set] at I9;exact I9
  cases f with
  | next =>
   obtain⟨σ',H7,I7,q8⟩:=q7;exact fin I7 fun s8 I8=>⟨_,_,I8,q8⟩
  | brk =>
   obtain⟨σ',H7,I7,q8⟩:=q7;exact fin I7 fun s8 I8=>⟨_,_,I8,q8⟩
  | cont =>
   obtain⟨σ',H7,I7,q8⟩:=q7;exact fin I7 fun s8 I8=>⟨_,_,I8,q8⟩
  | ret v =>
   obtain⟨u,σ',H7,I7,r,q8⟩:=q7;exact fin I7 fun s8 I8=>⟨u,_,_,I8,r,q8⟩
 ·cases f with
  | next=>exact cO (SP.unwish q)
  | ret v=>exact SP.unwish q
  | brk=>exact SP.unwish q
  | cont=>exact SP.unwish q
end
structure RoomH (k:Nat) (A:Around):Prop where
 dp:A.depth+3*k+5 < recursionLimit
 un:A.units+16*k+200 < cLine
theorem RoomH.of {k:Nat} {A:Around} {e:Addr} (r:Room k A):RoomH k (A.mark (some (.ref e))):=⟨r.dp,r.un⟩
theorem RoomH.deeper {k:Nat} {A:Around} (r:RoomH (k+1) A) (env:Env):RoomH k (A.deeper env) :=
 ⟨by have:=r.dp; show A.depth+1+3*k+5 < _; lia,by have:=r.un; show A.units+3+16*k+200 < _; lia⟩
structure FnOkH (P:Program) (w:World) (K:af) (mg:Str→Option Value) (base:Heap) (k:Nat) (f:Addr) (fd:FuncData) (ps:List Str) (sp:Sp):Prop where
 len:∀ vs H Q E,sp vs H Q E→vs.length=ps.length
 run:∀ (A:Around) (outer:List Env) (s:Shared) (H:Hp) (args:Args) (us:List Value) (vs:List V) (Q:VK) (E:XK),RoomH k A→Env0 P w K mg base A outer s H→BindsTo s fd args (ps.zip us)→zx vs us→sp vs H Q E →
  codeAny (model P w) A (.call (.ref f) args) (CR CX0 outer P w H s Q E) s
abbrev cxH (P:Program) (w:World) (K:af) (mg:Str→Option Value) (base:Heap) (N:List Str) (qual:Str) (scope:Scope) (f:Addr) (cd:Value) (A:Around) (outer:List Env) (s:Shared) (H:Hp) (E:XK):Cx :=
 { zbs CX0 P w K mg base N qual scope f cd A outer s H E with calm:=false,xe:=fun _ _=>False }
section
variable {P:Program} {w:World} {K:af} {mg:Str→Option Value} {base:Heap}
theorem znm {k:Nat} {f:Addr} {name qual:Str} {params:Arguments} {body:List Stmt} {scope:Scope} {dV kV doc pm iy ct oc:Value} {an od:Option Addr}
  {lR:Array (Option Value)} {N ps:List Str} {sp:Sp} (lk:K.lookup f=some ⟨oc,od,.func (bP name qual params body scope dV kV doc pm an iy ct),lR⟩) (j9:cZ K iy qual=true) (S:FnScope N ps scope)
  (len:∀ vs H Q E,sp vs H Q E→vs.length=ps.length)
  (jk:∀ (A:Around) (outer:List Env) (s:Shared) (H:Hp) (vs:List V) (Q:VK) (E:XK),RoomH k (A.deeper (envOfC qual scope s.heap.objs.size f iy))→sp vs H Q E →
   ∃ t,PSs (cxH P w K mg base N qual scope f iy A outer s H E) body t∧t { nx:=fun _ H'=>Q .non H',rt:=Q } (start N vs) H) :
  FnOkH P w K mg base (k+1) f (bP name qual params body scope dV kV doc pm an iy ct) ps sp:=by
 refine⟨len,fun A outer s H args us vs Q E hr e0 hb r kb=>?_⟩;have hl:=len _ _ _ _ kb;have KX:K.In s.heap:=e0.mod.kin.keeps fun b o e=>(e0.bs b o e).1
 have lim:s.heap.NoLimit:=e0.mod.nolimit.keeps fun b o e=>(e0.bs b o e).1
 have l9:∀ y∈ps.zip us,scope.names.lookup y.1=some .local∨(scope.names.lookup y.1=some .cell∧((cellsFrom (s.heap.objs.size+1) scope.names []).lookup y.1).isSome=true):=fun ⟨n,v⟩ hy=>by
  rcases S.par n (dA hy).1 with q | q
  ·exact .inl q
  ·exact .inr ⟨q,db _ _ _ (.inl q)⟩
 refine fg (by have:=hr.dp; lia) (KX _ _ lk) rfl S.co S.gen rfl (fZ KX j9) (hb _ _ _ _ ?_);refine d9 S.kind l9 fun env he s1 x=>?_
 subst he;refine⟨lim.keeps x.toInCall.keep,codeAny_func ?_⟩;obtain⟨t,ht,hq⟩:=jk A outer s H vs Q E (hr.deeper _) kb;have e1:Env0 P w K mg base { A with handled:=none } outer s H:=⟨e0.frames,e0.mod,e0.bs,e0.bsz,e0.funs,e0.frf,e0.hok,e0.bare⟩;have I0:Inv (zbs CX0 P w K mg base N qual scope f iy { A with handled:=none } outer s H E) [] (start N vs) H s1:=zeN S rfl e1 hl r x;have I:Inv (cxH P w K mg base N qual scope f iy A outer s H E) [] (start N vs) H s1 :=
  ⟨⟨I0.ok.mod,I0.ok.kind,I0.ok.glob,I0.ok.blt,I0.ok.above,I0.ok.inj,I0.ok.has,I0.ok.cab,fun z=>(by cases z),I0.ok.frames,I0.ok.stk,I0.ok.exf,I0.ok.bs,I0.ok.bsz,I0.ok.noex,I0.ok.exfs,I0.ok.funs,I0.ok.frf⟩,I0.os,I0.bare,I0.base,I0.loc,I0.cell,I0.free,I0.freeC,I0.pin,I0.hok,I0.len⟩
 refine bg (ht [] s1 (start N vs) H _ I hq) (fun fl s' hs=>?_) fun e s' hs=>hs.elim
 have fin:∀ {σ':St} {H':Hp} {v:V} {u:Value},Inv (cxH P w K mg base N qual scope f iy A outer s H E) [] σ' H' s'→RelV v u→Q v H'→CE outer P w H s Q u s' :=
  fun {σ' H' v u} J rv q=>⟨v,H',J.os,J.bare,J.base,J.hok,rv,q⟩
 cases fl with
 | ret u =>
  obtain⟨v,σ',H',J,rv,q⟩:=hs;exact fin J rv q
 | next =>
  obtain⟨σ',H',J,q⟩:=hs;exact fin (v:=V.non) (u:=bU) J rfl q
 | brk =>
  obtain⟨_,_,_,q⟩:=hs;exact aW q
 | cont =>
  obtain⟨_,_,_,q⟩:=hs;exact aW q
theorem Fun.okH {x qual:Str} {st:Stmt} {f:Addr} {fd:FuncData} {N ps:List Str} {k:Nat} {sp:Sp} (F:Fun K x qual st f fd) (S:FnScope N ps (zj st)) (len:∀ vs H Q E,sp vs H Q E→vs.length=ps.length)
  (jk:∀ (iy:Value) (A:Around) (outer:List Env) (s:Shared) (H:Hp) (vs:List V) (Q:VK) (E:XK),RoomH k (A.deeper (envOfC qual (zj st) s.heap.objs.size f iy))→sp vs H Q E →
   ∃ t,PSs (cxH P w K mg base N qual (zj st) f iy A outer s H E) (zbf st) t∧t { nx:=fun _ H'=>Q .non H',rt:=Q } (start N vs) H):FnOkH P w K mg base (k+1) f fd ps sp:=by
 obtain⟨oc,od,kV,doc,pm,an,iy,ct,lR,rfl,lk,j9⟩:=F.ex;exact znm lk j9 S len fun A outer s H vs Q E hr kb=>jk iy A outer s H vs Q E hr kb
end
section
variable {X:Cx} {k:Nat} {f:Addr} {fd:FuncData} {ps:List Str} {sp:Sp} {x:Str} {p pos:Pos} {e:Expr} {es:List Expr} {t:TA}
theorem zdV (F:FnOkH X.prog X.w X.K X.mg X.base k f fd ps sp) (hr:RoomH k X.A) (hg:Gl X x) (hm:X.mg x=some (.ref f)) (hk:bC X.K (.ref f)=true) (hb:Binds X.K fd ps [])
  (ha:PA X (e :: es) t) (kQ:(x == ("__debug__" : Str))=false:=by decide) (he:starEach (e :: es) X.env=(false,eval e X.env) :: starEach es X.env:=by rfl) (ju:(backTo pos (starEach es X.env)).any (·.1)=false:=by rfl) :
  PE X (.Call (.Name x p) (e :: es) [] pos) (zhG sp [] E0 t):=by
 intro ip s σ H Q I h;refine bn (zbc I hg hm ?_ kQ);refine bw (h₀:=X.base) I.ok.mod.kin hk (thn (ha pos ip s σ H _ I h) fun us s1 ⟨vs,H1,I1,r,q⟩=>⟨I1.kIn,?_⟩) he ju;have r2:zx (vs++[]) (us++[]):=r.append .nil;have hl:(us++[]).length=ps.length:=by rw [← r2.length]; exact F.len _ _ _ _ q
 refine cA (bO (F.run X.A X.stack s1 H1 ⟨us,[]⟩ (us++[]) (vs++[]) Q E0 hr I1.env0 (hb s1 us I1.kIn hl) r2 q) fun r s' hq=>?_);cases r with
 | error e=>exact hq.elim
 | ok fl =>
  cases fl with
  | ret u=>exact I1.after hq
  | next=>exact aW hq
  | brk=>exact aW hq
  | cont=>exact aW hq
end
theorem zcH:∀ {bs:List Bool} {us:List Value},zx (bs.map V.bl) us→us=bs.map cn
 | [],_,r=>by cases r; rfl
 | b :: bs,_,r=>by
  cases r with
  | cons r1 r2 =>
   rw [zcH r2];cases r1;rfl
theorem zdr {h:Heap}:∀ (bs:List Bool),∃ as,ReadsAll h (bs.map cn) (bs.map io) as
 | []=>⟨_,.nil⟩
 | b :: bs=>by
  obtain⟨as,r⟩:=zdr (h:=h) bs;exact⟨_,.cons (by constructor) r⟩
theorem zds:∀ (bs:List Bool),(bs.map io).all Spec.Shape.bool.has=true
 | []=>rfl
 | _ :: bs=>by
  rw [bp,fI,zds bs];rfl
theorem zgg {bs:List Bool} (k:Bool) (y:Value) (hy:y∈bs.map cn) (A:Around) (s:Shared):gQ A s y (.bool k) (isBoolOf k y):=by
 obtain⟨as,r⟩:=zdr (h:=s.heap) bs;exact eq_isBoolOf k r (zds bs) y hy A s
theorem zcV (k:Bool):∀ bs:List Bool,List.countP (isBoolOf k) (bs.map cn)=bs.count k
 | []=>rfl
 | b :: bs=>by
  rw [bp,List.countP_cons,List.count_cons,zcV k bs];rfl
section
variable {X:Cx}
def zlJ:V→List V→Hp→VK→Prop:=fun x vs H Q=>∃ (l:Addr) (bs:List Bool) (k:Bool),x = .ref l∧vs = [.bl k]∧H l=some (.lst (bs.map V.bl))∧Q (.int ((bs.count k:Nat):Int)) H
theorem zif:MtM X "list.count" zlJ:=by
 intro ip s σ H x vs v us Q I rx rv h;obtain⟨l,bs,k,rfl,rfl,hH,q⟩:=h;cases rx;obtain⟨u,rfl,ru⟩:=rv.one;cases ru;obtain⟨z,ir,n,r,hl,e⟩:=I.lstM hH;have hi:=zcH r;subst hi;refine bQ F.slot_list_count ⟨_,e,rfl⟩ F.entry_list_count (F.args_list_count_2 _ _) (SeqAt.list_countAt l _ n _ _ (.bool k) (isBoolOf k)) ⟨e,fun y hy=>zgg (bs:=bs) k y (by simpa using hy) _ _,?_⟩;rw [List.toList_toArray,zcV];exact⟨.int ((bs.count k:Nat):Int),H,I.tok _,⟨_,rfl⟩,q⟩
def zlK:V→List V→Hp→VK→Prop:=fun x vs H Q=>∃ (l:Addr) (bs:List Bool) (k:Bool) (j:Nat),x = .ref l∧vs = [.bl k]∧H l=some (.lst (bs.map V.bl))∧bs[j]? = some k∧(∀ m,m < j→bs[m]? = some (!k))∧j < 1000∧Q (.int (j:Int)) H
theorem zig:MtM X "list.index" zlK:=by
 intro ip s σ H x vs v us Q I rx rv h;obtain⟨l,bs,k,j,rfl,rfl,hH,hj,hm,h1000,q⟩:=h;cases rx;obtain⟨u,rfl,ru⟩:=rv.one;cases ru;obtain⟨z,ir,n,r,hl,e⟩:=I.lstM hH;have hi:=zcH r;subst hi;obtain⟨hjl,hje⟩:=aC.mp hj;refine bQ F.slot_list_index ⟨_,e,rfl⟩ F.entry_list_index (F.args_list_index_2 _ _) (SeqAt.list_indexAt l _ n _ _ (.bool k) (isBoolOf k) j (by simpa using hjl) #[O] ?_ ?_) ⟨e,fun y hy=>zgg (bs:=bs) k y (by simpa using hy) _ _,?_⟩
 ·simp [isBoolOf,hje]
 ·intro m h1 h2;have:=hm m h2;obtain⟨_,hme⟩:=aC.mp this;simp [isBoolOf,hme]
 ·exact⟨.int (j:Int),H,I.tok _,⟨_,rfl⟩,q⟩
end
def strsOf:List Expr→Option (List Str)
 | []=>some []
 | .Constant (.str i) _ _ :: r=>(strsOf r).map (i :: ·)
 | _=>none
def zgh (ns:List Str):TA:=fun _ H Q=>Q (ns.map V.str) H
theorem zlL {X:Cx}:∀ (es:List Expr) (ns:List Str),strsOf es=some ns→PA X es (zgh ns):=by
 intro es;induction es with
 | nil =>
  intro ns h;have e:ns = []:=(az h).symm;subst e;exact zd
 | cons e r ih =>
  intro ns h;unfold strsOf at h;split at h
  ·rename_i heq
   cases heq
  ·rename_i i j p r' heq
   injection heq with e1 e2
   subst e1 e2;cases hr:strsOf r with
   | none=>rw [hr] at h; cases h
   | some ms =>
    rw [hr] at h;have e:i :: ms=ns:=az h;subst e;exact za zq (ih ms hr)
  ·cases h
theorem zb7 {X:Cx} {i:Nat} {x:Str} {pos' ki jI:Pos} {rest:List Stmt} {u:TS} {es:List Expr} {ns:List Str} (h:strsOf es=some ns) (hN:X.N.Nodup) (hi:X.N[i]? = some x) (hx:Loc X.env.scope x)
  (hf:X.fn x=true∨X.env.scope.names.lookup x=some .local) (hr:PSs X rest u):PSs X (.Assign [.Name x pos'] (.List es ki) jI :: rest) (zbA (zfW (zgU (zgh ns)) (zaW i)) u):=by
 have h1:PE X (.List es ki) (zgU (zgh ns)):=@zaa X es (zgh ns) ki (@zlL X es ns h);have h2:PS X (.Assign [.Name x pos'] (.List es ki) jI) (zfW (zgU (zgh ns)) (zaW i)):=zC hN hi hx h1 (by rfl) hf;exact ze h2 hr
theorem zop {P:Program} {w:World} {k:Key} {u:Value} (r:RelV (kV k) u):(zaI P w).is k u=true:=by
 cases k with
 | inl i=>obtain⟨t,e⟩:=(show ∃ t,u=eP i t from r); subst e; exact zfU P w i t
 | inr x=>obtain⟨t,e⟩:=(show ∃ t,u=dj x t from r); subst e; exact zfV P w x t
theorem zeV {P:Program} {w:World}:∀ {ks:List Key} {us:List Value},zx (ks.map kV) us→ItemsAre (zaI P w) ks us
 | [],_,r=>by rw [f6] at r; cases r; exact .nil
 | k :: ks,_,r=>by
  rw [bp] at r;cases r with
  | cons h t=>exact .cons (zop h) (zeV t)
section
variable {P:Program} {w:World} {H:Hp} {h:Heap} {a:Addr}
theorem zjF {ks:List Key} (ok:HOk P w H h) (e:H a=some (.tup (ks.map kV))):(tupleKind (zaI P w)).is h ks a:=by
 obtain⟨_,ir,r,o,h1,h2,n,h3⟩:=(show zal P w H h a (.tup (ks.map kV)) from ok a _ e);exact⟨o,ir.toArray,n,h1,h2,h3,by simpa using zeV r⟩
end
def zoq (i:Expr):Prop:=∀ ov iv,subscripted i false ov iv=operate [ov,iv] (getItem ov iv)
theorem zlM {prog:Program} {w:World} {A:Around} {E:Value→Shared→Prop} {s:Shared} {env:Env} {value slice:Expr} {pos:Pos} {T id:String} {Q:Value→Shared→Prop}
  (hl:typeLookup (.type T) "__getitem__" = pure (some (.builtin id))) (hs:zoq slice)
  (h:wpAny (model prog w) A (eval value env) (fun o s₁=>wpAny (model prog w) A (eval slice env) (fun i s₂=>s₂.TypeIs o T∧wpAny (model prog w) A (getItem o i) Q E s₂) E s₁) E s) :
  wpAny (model prog w) A (eval (.Subscript value slice pos) env) Q E s:=by
 refine gO (bg h (fun o s₁ h₁=>bg h₁ (fun i s₂ h₂=>?_) fun _ _ x=>x) fun _ _ x=>x);obtain⟨hT,h₂⟩:=h₂;unfold subscriptTail;refine ag ?_;rw [getitemInPython_of_ne hT.not_modules];refine ag (wpAny_specialOf hT hl ?_);have fin:wpAny (model prog w) A (subscripted slice false o i) (fun r s₃=>wpAny (model prog w) A (letTemporaryGo value o r >>= fun _=>pure r) Q E s₃) E s₂:=by
  rw [hs o i];exact wpAny_operating (bg h₂ (fun r s₃ h₃=>ag (wpAny_letTemporaryGo (al h₃))) fun _ _ x=>x)
 first
  | exact al (ag fin)
  | exact ag (al (ag fin))
  | exact ag fin
end L2
namespace PySem
open PyProof.Rows
end PySem
namespace L2
open PySem PySem.Spec PyProof.Rows
end L2
namespace My
open PySem L2 PyProof.Rows
end My
end
section
namespace L2
open PySem PySem.Spec PyProof.Rows PySem.Builtin.Str
theorem zeW:∀ (ws:List Str) (n:Nat),zx (ws.map V.str) (strsFrom n ws)
 | [],_=>.nil
 | w :: ws,n=>.cons ⟨_,rfl⟩ (zeW ws (n+1))
def znn:V→List V→Hp→VK→Prop:=fun x vs H Q=>∃ z:Str,x = .str z∧vs = []∧Q (.bl (z.cps.all (· < 128))) H
def zno:V→List V→Hp→VK→Prop:=fun x vs H Q=>∃ z:Str,x = .str z∧vs = []∧Q (.bl (z.length > 0 && z.cps.all cS)) H
theorem zg5 {X:Cx}:MtR X "str.isascii" znn:=by
 intro ip s σ H x vs v us Q I rx rv h;obtain⟨z,rfl,rfl,q⟩:=h;obtain⟨t,rfl⟩:=rx;cases rv;exact call_gives F.slot_str_isascii (cC _ _ _) F.entry_str_isascii (F.args_str_isascii_1 _) (gives_str_isascii z t) ⟨.bl _,H,I,rfl,q⟩
theorem zg6 {X:Cx}:MtR X "str.isdigit" zno:=by
 intro ip s σ H x vs v us Q I rx rv h;obtain⟨z,rfl,rfl,q⟩:=h;obtain⟨t,rfl⟩:=rx;cases rv;exact call_gives F.slot_str_isdigit (cC _ _ _) F.entry_str_isdigit (F.args_str_isdigit_1 _) (gives_str_isdigit z t) ⟨.bl _,H,I,rfl,q⟩
theorem zih {prog:Program} {w:World} {A:Around} {E:Value→Shared→Prop} {s:Shared} {l:Addr} {iu:Array Value} {Q:List Value→Shared→Prop} (hl:s.heap.IsList l iu) (hh:A.handled=none) (h2:2≤iu.size) (hz:iu.size≤10000)
  (h:∀ (h':Heap) (tk:Nat) (D:Addr),(∀ b o,s.heap.get? b=some o→h'.get? b=some o)→(∀ b o,s.heap.get? b=some o→b < D)→h'.get? D=some { cls:=.type "list",data:=.seq (iu.toList.drop 2).toArray }→Q (iu.toList.take 2++[.ref D]) { s with heap:=h',toks:=tk }) :
  wpAny (model prog w) A (unpackItems (.ref l) 3 (some 2)) Q E s:=by
 (have sx:l < s.heap.objs.size:=by obtain⟨o,ho,_⟩:=hl; exact av ho)
 have jv:l≠s.heap.objs.size:=aA sx;have kz:=aM;unfold unpackItems; refine ag ?_; unfold notIterableAtAll;refine ag (wpAny_specialOf hl.typeIs slot_list_iter.lookup (al ?_)); simp only [bx,if_false]
 (refine ag (a8 (cu hl ?_)))
 refine ag (a8 (PySem.W.kun_draw jv 2 0 _ _ ⟨_,au _ rfl,rfl,rfl⟩ (hl.push _) #[O] fun h1 hit hs1=>?_));have j5:h1.IsList l iu:=(hl.push _).extBut hs1.extBut jv;rw [Nat.zero_add] at hit;obtain⟨oi,hoi,_⟩:=id hit;obtain⟨ol,oo,_⟩:=id j5;have hfl:(iu.toList.take 2).length=2:=by rw [cB,cM]; lia
 rw [hG,if_neg (show ¬ ((iu.toList.take 2).length < 2) by rw [hfl]; decide)];refine ag (a8 (PySem.W.kun_collect (s:={ s with heap:=h1 }) (T:="list_iterator") (.inr (.inr (.inl rfl))) (gV (A:=A.in1) hh s.heap.objs.size l jv iu) (fun j u st=>st.1.typeIs) (k:=2) #[O] ⟨hit,j5⟩ (av hoi) (av oo) (fun h3 tk hk=>?_) #[O]));show wpAny _ _ (if (iu.toList.drop 2).length < 0 then _ else _) _ _ _;rw [if_neg (Nat.not_lt_zero _)];show wpAny _ _ (newList ((iu.toList.drop 2).take ((iu.toList.drop 2).length - 0)) >>= fun d=>pure (iu.toList.take 2++[d]++(iu.toList.drop 2).drop ((iu.toList.drop 2).length - 0))) _ _ _;rw [Nat.sub_zero,eH,List.drop_length];simp only [gN];have he:∀ b o,s.heap.get? b=some o→h3.get? b=some o:=fun b o e=>hk b o (aA (av e)) (hs1.extBut b o (aA (av e)) (ai _ e))
 exact ag (wpAny_newList (al (h _ tk _ (fun b o e=>ai _ (he b o e)) (fun b o e=>av (he b o e)) (au _ rfl))) (hsz:=by rw [dh,cM]; lia))
theorem Inv.above {X:Cx} {ip:List (Addr×Obj)} {σ:St} {H:Hp} {s:Shared} {h':Heap} {tk:Nat} {D:Addr} {o:HO} (I:Inv X ip σ H s) (k:∀ b o,s.heap.get? b=some o→h'.get? b=some o) (hD:∀ b o,s.heap.get? b=some o→b < D)
  (new:zal X.prog X.w (upd H D o) h' D o):H D=none∧Inv X ip σ (upd H D o) { s with heap:=h',toks:=tk }:=by
 have hn:H D=none:=by
  cases e:H D with
  | none=>rfl
  | some u =>
   obtain⟨ob,z⟩:=zjD (I.hok D u e);exact absurd (hD D ob z) (bi _)
 have hL:X.env.locals < D:=by
  obtain⟨m,⟨o,es,ep,ho,_⟩,_⟩:=I.loc;exact hD _ _ ho
 have I1:Inv X ip σ H { s with heap:=h',toks:=tk }:=I.kept k;refine⟨hn,I1.track hn (eD (Nat.lt_of_le_of_lt I.ok.above hL)) (aA hL) (fun x c e z=>?_) (fun p hp z=>?_) new⟩
 ·obtain⟨v,oc,q,_⟩:=I.cell x c e;exact absurd (hD c oc q) (by rw [z]; exact bi _)
 ·exact absurd (hD p.1 _ (I.pin p hp).1) (by rw [z]; exact bi _)
def zor (K:af) (t:TGs):TG:=fun v σ H Q=>∃ (a:Addr) (x y:V) (r:List V),v = .ref a∧iw K H a (x :: y :: r)∧r.length≤1000∧∀ l,H l=none→t [x,y,.ref l] σ (upd H l (.lst r)) Q
theorem zlN {X:Cx} {es j2:List Expr} {k:Nat} {t:TGs} {pos:Pos} (hc:X.calm=true) (h:PGs X j2 t) (he:(assignEach es X.env).map (·.2)=(assignEach j2 X.env).map (·.2):=by rfl)
  (hn:(assignEach es X.env).length=3:=by rfl) (j3:(assignEach es X.env).findIdx? (·.1)=some 2:=by rfl):PG X (.Tuple es k pos) (zor X.K t):=by
 intro ip s σ H v u Q I r hw;obtain⟨a,x,y,rs,e1,hq,hl,hw⟩:=hw;subst e1;cases r;obtain⟨ir,rv,pl,hz⟩:=I.list hq;rw [assign_Tuple];refine ag (cI ?_);unfold unpack;rw [hn,j3,he];have iJ:=rv.length;simp only [aN] at iJ;refine ag (a8 (zih pl.isList (I.ok.hd hc) (by rw [aj]; lia) (by rw [aj]; lia) fun h' tk D kk hD sy=>?_));cases rv with
 | cons r1 rv =>
  cases rv with
  | cons r2 rv =>
   have kz:=aM;obtain⟨pe,I2⟩:=I.above (tk:=tk) (o:=.lst rs) kk hD ⟨#[O],_,0,rv,sy⟩;exact h ip _ σ _ [x,y,.ref D] _ Q I2 (.cons r1 (.cons r2 (.cons rfl .nil))) (hw D pe)
end L2
end
section
namespace PySem
def zO (led:Bool):Obj:={ cls:=.type "set",dict:=none,data:=.set #[] 0 (.fresh 0 0 led) }
theorem zii:isSubtype (.type "tuple") (.type "set")=pure false:=by rw [dN]; kernel_rfl
theorem zjG:isSubtype (.type "tuple") (.type "frozenset")=pure false:=by rw [dN]; kernel_rfl
section
variable {prog:Program} {w:World} {A:Around} {E:Value→Shared→Prop} {s:Shared}
abbrev Filled (prog:Program) (w:World) (s:Shared) (ns:List Int) (n:Nat) (h':Heap):Prop :=
 h'.SetOf (intKind prog w) s.heap.objs.size (fun k'=>(fi (fun i=>ns.getD i 0) n).any (· == k')) (fi (fun i=>ns.getD i 0) n).length∧∀ b o,b < s.heap.objs.size→s.heap.get? b=some o→h'.get? b=some o
theorem zfq {l:Addr} {iu:Array Value} {ns:List Int} {led:Bool} {R:Result→Shared→Prop} (hh:A.handled=none) (hl:s.heap.IsTuple l iu) (hi:cH iu.toList ns) (hb:iu.size+1 < scanBound)
  (h:∀ h' tk,Filled prog w s ns iu.size h'→R (.ok (.ret .none)) { s with heap:=h',toks:=tk }) :
  wpAny (model prog w) A.in1 (Builtin.«set.__init__» ⟨[.ref s.heap.objs.size,.ref l],[]⟩) (fun fin s'=>match fin with | .done f=>R (.ok f) s' | .again c'=>c'.quiet=true∧codeAny (model prog w) A c' R s') (fun e s'=>R (.error e) s') { s with heap:=s.heap.push (zO led) }:=by
 have hS:(s.heap.push (zO led)).get? s.heap.objs.size=some (zO led):=au _ rfl;have jE:l < s.heap.objs.size:=by obtain⟨o,ho,_⟩:=hl; exact av ho
 have zz:(s.heap.push (zO led)).objs.size=s.heap.objs.size+1:=aD ..;have j5:(s.heap.push (zO led)).IsTuple l iu:=hl.push _;have hT:eh { s with heap:=s.heap.push (zO led) } (.ref s.heap.objs.size) "set":=⟨_,hS,rfl⟩;have q1:=zii;have q2:=zjG;have q3:(dv "tuple" == dv "dict")=false:=by decide
 obtain⟨ol,oo,lA,nl,lV⟩:=id j5
 (obtain⟨sC,pY,pZ,oq⟩:=ol)
 simp only at lA lV;subst lA lV;unfold Builtin.«set.__init__» noKeywords dO zO;unfold zO at hS hT oo j5 zz;generalize sD:pyIter=PI
 wp_walk
 subst sD;refine dR j5 (ag (wpAny_runValue ?_));have z0:s.heap.objs.size≠s.heap.objs.size+1:=aA (cz _);refine cU ((Walks.tuple (show A.in1.in1.handled=none by simp [hh]) (s.heap.push (zO led)).objs.size l (by rw [aD]; exact aA (cb jE)) iu).toS) s.heap.objs.size (by
   rw [aD];intro m;rcases (am.mp m) with e | e
   ·exact z0 e
   ·exact dw jE (bo.mp e)) (fun i=>ns.getD i 0) (fun i v hv=>dY hi i v (by rw [cx]; exact hv)) hb (iu.size - 0) 0 _ #[O] (cc _) ⟨⟨_,au _ rfl,rfl,rfl⟩,j5.push _⟩
  (eI ((dZ (knd:=intKind prog w) led).setOf (ai _ hS) (by unfold scanBound; lia)) (fun _=>rfl) rfl) fun s' hm p8=>?_
 (obtain⟨h',g',d',sE,pf⟩:=s')
 obtain rfl:g'=s.gens:=hm.gens;obtain rfl:d'=s.drawn:=hm.drawn;obtain rfl:pf=s.os:=hm.os;refine al ?_
 (show wpAny _ _ (ret bU) _ _ _)
 refine al (h h' sE ⟨p8,fun b o kT e=>?_⟩);refine hm.heap b o ?_ (ai _ (ai _ e));intro m;rcases (am.mp m) with e | e
 ·exact aA kT e
 ·have e:=bo.mp e;rw [aD] at e;exact aA (cb kT) e
theorem zfr {l:Addr} {iu:Array Value} {ns:List Int} {Q:Value→Shared→Prop} (hh:A.handled=none) (hl:s.heap.IsTuple l iu) (hi:cH iu.toList ns) (hb:iu.size+1 < scanBound)
  (h:∀ h' tk,Filled prog w s ns iu.size h'→Q (.ref s.heap.objs.size) { s with heap:=h',toks:=tk }):wpAny (model prog w) A (call (.type "set") [.ref l]) Q E s:=by
 have ft:=F.called_set
 (obtain⟨c,tl,sF⟩:=ft.mro)
 have p1:=ft.made;have p2:=ft.sub;have p3:=ft.notType;have p4:=ft.canCreate;have p5:=gH (.ref l);refine cA (eU ?_); show wpAny _ _ (callAny (.type "set") _) _ _ _;refine al ⟨dX _ #[N],eV gq ?_⟩; rw [ge (fj "set" [.ref l] []) rfl]; repeat (any_goals (first | assumption | wp_step))
 refine bO (code_set_new_1 (.ref l) (E:=E) (Q₁:=fun obj s₁=>∃ led:Bool,obj = .ref s.heap.objs.size∧s₁ = { s with heap:=s.heap.push (zO led) }) fun led=>⟨led,rfl,rfl⟩) fun r s₁ hr=>?_
 cases r with
 | error e=>exact hr
 | ok fl =>
  cases fl with
  | ret obj =>
   obtain⟨led,rfl,rfl⟩:=hr;have hS:(s.heap.push (zO led)).get? s.heap.objs.size=some (zO led):=au _ rfl;have hT:eh { s with heap:=s.heap.push (zO led) } (.ref s.heap.objs.size) "set":=⟨_,hS,rfl⟩;have p6:=ft.init.lookup;have p7:=ft.init.bind (.ref s.heap.objs.size); repeat (any_goals (first | assumption | wp_step))
   refine bO (cG (R:=wants (fun r s₂=>r = .none∧∃ h' tk,s₂ = { s with heap:=h',toks:=tk }∧Filled prog w s ns iu.size h') E) ft.init.plain gI (check_set_init_1 hT (zfq (A:=A.in1) (by simp [hh]) hl hi hb fun h' tk fl=>⟨rfl,h',tk,rfl,fl⟩))) fun r₂ s₂ hr₂=>?_
   cases r₂ with
   | error e=>exact hr₂
   | ok fl₂ =>
    cases fl₂ with
    | ret r =>
     obtain⟨rfl,h',tk,rfl,fl⟩:=hr₂; repeat (any_goals (first | assumption | wp_step))
     exact h _ _ fl
    | _=>exact hr₂.elim
  | _=>exact hr.elim
end
end PySem
namespace L2
open PySem PySem.Spec PyProof.Rows PySem.Builtin.Str
theorem zhN {ns:List Int} (nd:ns.Nodup):∀ i,i≤ns.length→(firstMet (fun j=>ns.getD j 0) i).length=i
 | 0,_=>rfl
 | i+1,h=>by
  have ih:=zhN nd i #[O];rw [fJ,gx,ih];have sG:(firstMet (fun j=>ns.getD j 0) i).any (· == ns.getD i 0)=false:=by
   rw [firstMet_any];cases e:((aV i).map fun j=>ns.getD j 0).any (· == ns.getD i 0) with
   | false=>rfl
   | true =>
    obtain⟨x,hx,hxe⟩:=eJ.mp e;obtain⟨j,hj,rfl⟩:=dB.mp hx;have hj:=bS.mp hj;have h1:ns.getD j 0=ns[j]'#[O]:=by simp [cK,a7 (show j < ns.length by lia)]
    have h2:ns.getD i 0=ns[i]'#[O]:=by simp [cK,a7 (show i < ns.length by lia)]
    have h3:ns[j]'#[O]=ns[i]'#[O]:=by rw [← h1,← h2]; exact beq_iff_eq.mp hxe
    exact absurd ((gy nd).mp h3) #[O]
  rw [sG];rfl
theorem zgi {X:Cx}:zba X (.builtin "len") (fun xs H Q=>∃ l S n,xs = [.ref l]∧H l=some (.set S n)∧Q (.int (n:Nat)) H):=by
 intro ip s σ H xs us Q I r h;obtain⟨l,S,n,rfl,hH,q⟩:=h;obtain⟨u,rfl,rx⟩:=vals1 r;cases rx;obtain⟨o,es,ep,t,ho,hex,hd,_,_,hb,hf,hn⟩:=I.hok l _ hH;subst hn;exact call_len_set ho hex hd hf (by unfold scanBound at hb; lia) ⟨.int (es.size:Nat),H,I.tok _,⟨_,rfl⟩,q⟩
end L2
end
section
namespace L2
open PySem PySem.Spec PyProof.Rows
end L2
end
section
namespace L2
open PySem PySem.Spec PyProof.Rows PySem.Builtin.Str
end L2
end
section
namespace PySem
theorem zij:isSubtype (.type "list") (.type "set")=pure false:=by rw [dN]; kernel_rfl
theorem zjH:isSubtype (.type "list") (.type "frozenset")=pure false:=by rw [dN]; kernel_rfl
section
variable {prog:Program} {w:World} {A:Around} {E:Value→Shared→Prop} {s:Shared}
theorem zfs {l:Addr} {iu:Array Value} {ns:List Int} {led:Bool} {R:Result→Shared→Prop} (hh:A.handled=none) (hl:s.heap.IsList l iu) (hi:cH iu.toList ns) (hb:iu.size+1 < scanBound)
  (h:∀ h' tk,Filled prog w s ns iu.size h'→R (.ok (.ret .none)) { s with heap:=h',toks:=tk }) :
  wpAny (model prog w) A.in1 (Builtin.«set.__init__» ⟨[.ref s.heap.objs.size,.ref l],[]⟩) (fun fin s'=>match fin with | .done f=>R (.ok f) s' | .again c'=>c'.quiet=true∧codeAny (model prog w) A c' R s') (fun e s'=>R (.error e) s') { s with heap:=s.heap.push (zO led) }:=by
 have hS:(s.heap.push (zO led)).get? s.heap.objs.size=some (zO led):=au _ rfl;have jE:l < s.heap.objs.size:=(by obtain⟨o,ho,_⟩:=hl; exact av ho);have zz:(s.heap.push (zO led)).objs.size=s.heap.objs.size+1:=aD ..;have j5:(s.heap.push (zO led)).IsList l iu:=hl.push _;have hT:eh { s with heap:=s.heap.push (zO led) } (.ref s.heap.objs.size) "set":=⟨_,hS,rfl⟩;have q1:=zij;have q2:=zjH;have q3:(dv "list" == dv "dict")=false:=by decide
 obtain⟨ol,oo,lA,nl,lV⟩:=id j5
 (obtain⟨sC,pY,pZ,oq⟩:=ol)
 simp only at lA lV;subst lA lV;unfold Builtin.«set.__init__» noKeywords dO zO;unfold zO at hS hT oo j5 zz;generalize sD:pyIter=PI
 wp_walk
 subst sD;refine cu j5 (ag (wpAny_runValue ?_));have z0:s.heap.objs.size≠s.heap.objs.size+1:=aA (cz _);refine cU ((gV (show A.in1.in1.handled=none by simp [hh]) (s.heap.push (zO led)).objs.size l (by rw [aD]; exact aA (cb jE)) iu).toS) s.heap.objs.size (by
   rw [aD];intro m;rcases (am.mp m) with e | e
   ·exact z0 e
   ·exact dw jE (bo.mp e)) (fun i=>ns.getD i 0) (fun i v hv=>dY hi i v (by rw [cx]; exact hv)) hb (iu.size - 0) 0 _ #[O] (cc _) ⟨⟨_,au _ rfl,rfl,rfl⟩,j5.push _⟩
  (eI ((dZ (knd:=intKind prog w) led).setOf (ai _ hS) (by unfold scanBound; lia)) (fun _=>rfl) rfl) fun s' hm p8=>?_
 (obtain⟨h',g',d',sE,pf⟩:=s')
 obtain rfl:g'=s.gens:=hm.gens;obtain rfl:d'=s.drawn:=hm.drawn;obtain rfl:pf=s.os:=hm.os;refine al ?_
 (show wpAny _ _ (ret bU) _ _ _)
 refine al (h h' sE ⟨p8,fun b o kT e=>?_⟩);refine hm.heap b o ?_ (ai _ (ai _ e));intro m;rcases (am.mp m) with e | e
 ·exact aA kT e
 ·have e:=bo.mp e;rw [aD] at e;exact aA (cb kT) e
theorem zft {l:Addr} {iu:Array Value} {ns:List Int} {Q:Value→Shared→Prop} (hh:A.handled=none) (hl:s.heap.IsList l iu) (hi:cH iu.toList ns) (hb:iu.size+1 < scanBound)
  (h:∀ h' tk,Filled prog w s ns iu.size h'→Q (.ref s.heap.objs.size) { s with heap:=h',toks:=tk }):wpAny (model prog w) A (call (.type "set") [.ref l]) Q E s:=by
 have ft:=F.called_set
 (obtain⟨c,tl,sF⟩:=ft.mro)
 have p1:=ft.made;have p2:=ft.sub;have p3:=ft.notType;have p4:=ft.canCreate;have p5:=gH (.ref l);refine cA (eU ?_); show wpAny _ _ (callAny (.type "set") _) _ _ _;refine al ⟨dX _ #[N],eV gq ?_⟩; rw [ge (fj "set" [.ref l] []) rfl]; repeat (any_goals (first | assumption | wp_step))
 refine bO (code_set_new_1 (.ref l) (E:=E) (Q₁:=fun obj s₁=>∃ led:Bool,obj = .ref s.heap.objs.size∧s₁ = { s with heap:=s.heap.push (zO led) }) fun led=>⟨led,rfl,rfl⟩) fun r s₁ hr=>?_
 cases r with
 | error e=>exact hr
 | ok fl =>
  cases fl with
  | ret obj =>
   obtain⟨led,rfl,rfl⟩:=hr;have hS:(s.heap.push (zO led)).get? s.heap.objs.size=some (zO led):=au _ rfl;have hT:eh { s with heap:=s.heap.push (zO led) } (.ref s.heap.objs.size) "set":=⟨_,hS,rfl⟩;have p6:=ft.init.lookup;have p7:=ft.init.bind (.ref s.heap.objs.size); repeat (any_goals (first | assumption | wp_step))
   refine bO (cG (R:=wants (fun r s₂=>r = .none∧∃ h' tk,s₂ = { s with heap:=h',toks:=tk }∧Filled prog w s ns iu.size h') E) ft.init.plain gI (check_set_init_1 hT (zfs (A:=A.in1) (by simp [hh]) hl hi hb fun h' tk fl=>⟨rfl,h',tk,rfl,fl⟩))) fun r₂ s₂ hr₂=>?_
   cases r₂ with
   | error e=>exact hr₂
   | ok fl₂ =>
    cases fl₂ with
    | ret r =>
     obtain⟨rfl,h',tk,rfl,fl⟩:=hr₂; repeat (any_goals (first | assumption | wp_step))
     exact h _ _ fl
    | _=>exact hr₂.elim
  | _=>exact hr.elim
end
end PySem
namespace L2
open PySem PySem.Spec PyProof.Rows PySem.Builtin.Str
theorem zjI {ns:List Int}:∀ i,(firstMet (fun j=>ns.getD j 0) i).length≤i
 | 0=>ak _
 | i+1=>by
  have ih:=zjI (ns:=ns) i;rw [fJ,gx];split <;> lia
theorem getD_at {ns:List Int} {i:Nat} (h:i < ns.length):ns.getD i 0=ns[i]:=by simp [cK,a7 h]
theorem zgj {ns:List Int}:∀ i,i≤ns.length→(firstMet (fun j=>ns.getD j 0) i).length=i→(ns.take i).Nodup
 | 0,_,_=>by simp
 | i+1,hi,h=>by
  have hle:=zjI (ns:=ns) i;rw [fJ,gx] at h;split at h
  ·lia
  ·rename_i sG
   have ih:=zgj (ns:=ns) i #[O] #[O];rw [List.take_succ_eq_append_getElem #[O],gr];refine⟨ih,#[M],fun a ha b hb=>?_⟩;rw [bo] at hb;subst hb;intro e;apply sG;rw [firstMet_any,eJ];obtain⟨j,hj,rfl⟩:=List.getElem_of_mem ha;have hj2:j < i:=by rw [cB] at hj; lia
   refine⟨ns.getD j 0,dB.mpr ⟨j,bS.mpr hj2,rfl⟩,?_⟩;rw [getD_at (show j < ns.length by lia),getD_at (show i < ns.length by lia)];rw [List.getElem_take] at e;rw [e];exact beq_self_eq_true _
def zjJ (ns:List Int):Nat:=(firstMet (fun j=>ns.getD j 0) ns.length).length
theorem zjK {ns:List Int}:zjJ ns=ns.length↔ns.Nodup:=by
 constructor
 ·intro h;have:=zgj ns.length (ak _) h
  rwa [eH] at this
 ·intro h;exact zhN h _ (ak _)
theorem zik {X:Cx} (hc:X.calm=true):zba X (.type "set") (fun xs H Q=>∃ (p:Addr) (ns:List Int),xs = [.ref p]∧(iI X.K H p (ns.map V.int)∨iw X.K H p (ns.map V.int))∧ns.length≤4000∧∀ l S,H l=none→Q (.ref l) (upd H l (.set S (zjJ ns)))):=by
 intro ip s σ H xs us Q I r h;obtain⟨p,ns,rfl,hq,hn,q⟩:=h;obtain⟨u,rfl,rx⟩:=vals1 r;cases rx;rcases hq with hq | hq
 ·obtain⟨ir,rv,pl,hz⟩:=I.tuple hq;have hl:=rv.length;rw [ah] at hl;refine zfr (ns:=ns) (I.ok.hd hc) (show s.heap.IsTuple p ir.toArray from pl) (by simpa using intsAre_of rv) (by rw [aj]; unfold scanBound; lia) fun h' tk fl=>?_
  obtain⟨f1,f2⟩:=fl;have sH:ir.toArray.size=ns.length:=by rw [aj]; exact hl.symm
  rw [sH] at f1;have k:∀ b o,s.heap.get? b=some o→h'.get? b=some o:=fun b o e=>f2 b o (av e) e
  exact⟨.ref s.heap.objs.size,_,I.laid (o:=.set _ (zjJ ns)) k (ak _) f1,rfl,q _ _ I.fresh⟩
 ·obtain⟨ir,rv,pl,hz⟩:=I.list hq;have hl:=rv.length;rw [ah] at hl;refine zft (ns:=ns) (I.ok.hd hc) pl.isList (by simpa using intsAre_of rv) (by rw [aj]; unfold scanBound; lia) fun h' tk fl=>?_
  obtain⟨f1,f2⟩:=fl;have sH:ir.toArray.size=ns.length:=by rw [aj]; exact hl.symm
  rw [sH] at f1;have k:∀ b o,s.heap.get? b=some o→h'.get? b=some o:=fun b o e=>f2 b o (av e) e
  exact⟨.ref s.heap.objs.size,_,I.laid (o:=.set _ (zjJ ns)) k (ak _) f1,rfl,q _ _ I.fresh⟩
end L2
end
section
namespace L2
open PySem PySem.Spec PyProof.Rows
theorem znp {P:Program} {w:World} {X:Cx}:zbh (CX1 P w) X E0:=by
 intro ip σ H s ev s' I hq;obtain⟨e,C,H',B,_,_,_,_,q⟩:=hq;exact q.elim
theorem zaY {X:Cx} {ip:List (Addr×Obj)} {σ:St} {e:Expr} {te:TE} {pos:Pos} (he:zlI X ip σ e te) (hs:swapsWith e none pos.line X.env=pure false:=by rfl):znl X ip σ (.Expr e pos) (zmG te):=by
 intro s H D I h;exact wpAny_Expr_any (thn (he s H _ I h) fun v s1 ⟨x,H1,I1,r1,q1⟩=>⟨σ,H1,I1,q1⟩) I.quiet hs
end L2
namespace My
open PySem L2 PyProof.Rows PySem.Builtin.Str
end My
end
section
namespace L2
open PySem PySem.Spec PyProof.Rows PySem.Builtin.Str
theorem zlO:(" " : Str).length=1:=by decide +kernel
def SL (ws:List Str):Nat:=(ws.map (·.length)).sum
theorem zlP (ws:List Str):(Str.join " " ws).length=SL ws+(ws.length - 1):=by
 rw [← StrLaws.glued_eq_join,size_glued,zlO,Nat.mul_one];rfl
theorem zdW (z:Str):SL (ce z " ")+((ce z " ").length - 1)=z.length:=by
 rw [← zlP,StrLaws.join_split]
theorem zg7:∀ {ws:List Str} {w:Str},w∈ws→w.length≤SL ws
 | [],_,h=>by cases h
 | a :: ws,w,h=>by
  have e:SL (a :: ws)=a.length+SL ws:=by unfold SL; simp
  rw [e];rcases (am.mp h) with rfl | h
  ·lia
  ·have:=zg7 h;lia
theorem split_le (z:Str):(ce z " ").length≤z.length+1:=by
 have:=zdW z;lia
def zlQ:V→List V→Hp→VK→Prop:=fun x vs H Q=>∃ (z:Str),x = .str z∧vs = [.str " "]∧z.length≤10000∧∀ l,H l=none→Q (.ref l) (upd H l (.lst ((ce z " ").map V.str)))
theorem zeX {X:Cx}:MtR X "str.split" zlQ:=by
 intro ip s σ H x vs v us Q I rx rv h;obtain⟨z,rfl,rfl,hz,q⟩:=h;obtain⟨t,rfl⟩:=rx;obtain⟨u,rfl,ru⟩:=rv.one;obtain⟨t2,rfl⟩:=ru;have kz:=aM;have kb:=split_le z;have m3:((" " : Str).length == 0)=false:=by decide +kernel
 cases h1:(decide (z.length < (" " : Str).length) || decide (strKind z < strKind (" " : Str)))
 ·cases hf:(occurrences z " " 0 z.length (z.length+1)).isEmpty
  ·have hw:ce z " " = partsBetween z (occurrences z " " 0 z.length (z.length+1)) (" " : Str).length:=by
    unfold ce;rw [if_neg (by rw [h1]; decide),if_neg (by rw [hf]; decide)]
   refine bQ eK (cC _ _ _) eA (d6 _ _) (meets_str_split_sep z " " t t2 h1 m3 hf #[O] (by rw [← hw]; lia)) ?_;rw [← hw];exact⟨.ref s.heap.objs.size,_,I.lnew (zeW _ s.toks) (by rw [ah]; lia),rfl,q _ I.fresh⟩
  ·have hw:ce z " " = [z]:=by
    unfold ce;rw [if_neg (by rw [h1]; decide),if_pos hf]
   rw [hw] at q;refine bQ eK (cC _ _ _) eA (d6 _ _) (meets_str_split_not_found z " " t t2 h1 m3 hf) ?_;exact⟨.ref s.heap.objs.size,_,I.lnew (show zx [V.str z] [dj z t] from .cons ⟨_,rfl⟩ .nil) (by show 1≤sizeLine; lia),rfl,q _ I.fresh⟩
 ·have hw:ce z " " = [z]:=by
   unfold ce;rw [if_pos h1]
  rw [hw] at q;refine bQ eK (cC _ _ _) eA (d6 _ _) (meets_str_split_cannot_occur z " " t t2 h1) ?_;exact⟨.ref s.heap.objs.size,_,I.lnew (show zx [V.str z] [dj z t] from .cons ⟨_,rfl⟩ .nil) (by show 1≤sizeLine; lia),rfl,q _ I.fresh⟩
end L2
namespace My
open PySem L2 PyProof.Rows PySem.Builtin.Str
section
variable {K:af}
def zdX (c:Nat):Bool:=decide (48≤c) && decide (c≤57)
def zah (m:Nat) (z:Str):Bool:=decide (1≤z.length) && (decide (z.length≤m) && (z.cps.all zdX && (decide (z = "0") || decide (z.cps.toList[0]?≠some 48))))
def z9 (z:Str):Int:=((z.cps.toList.foldl (fun acc c=>acc*10+(c - 48)) 0:Nat):Int)
structure DigS (z:Str):Prop where
 all:∀ c∈z.cps.toList,48≤c∧c≤57
 ne:z.cps.toList≠[]
 len:z.length≤640
theorem zeY {X:Cx}:zba X (.type "int") (fun xs H Q=>∃ z:Str,xs = [.str z]∧DigS z∧Q (.int (z9 z)) H):=by
 intro ip s σ H xs us Q I r h;obtain⟨z,rfl,d,q⟩:=h;obtain⟨u,rfl,t,rfl⟩:=vals1 r;exact PySem.W.KIN.call_text (PySem.intText_digits d.all d.ne (aZ d.len #[D])) d.len ⟨.int (z9 z),H,I.tok _,⟨_,rfl⟩,q⟩
structure OkW (z:Str):Prop where
 d:DigS z
 lo:0≤z9 z
 hi:z9 z < 10000
 two:z.length≤2↔z9 z < 100
theorem zfu {z:Str} (h:OkW z):DigS z∧0≤z9 z∧z9 z < 10000∧(z.length≤2↔z9 z < 100):=⟨h.d,h.lo,h.hi,h.two⟩
theorem zfv {z:Str} (h:zah 4 z=true):OkW z:=by
 unfold zah at h;simp only [aF,Bool.or_eq_true,decide_eq_true_eq] at h;obtain⟨h1,h2,h3,h4⟩:=h;obtain⟨⟨l⟩⟩:=z;have h1:1≤l.length:=h1;have h2:l.length≤4:=h2;have h3:∀ x∈l,zdX x=true:=by simpa using h3
 have rg:∀ x∈l,48≤x∧x≤57:=fun x hx=>by
  have:=h3 x hx;unfold zdX at this;simpa only [aF,decide_eq_true_eq] using this
 have hz:l.length=1∨l[0]?≠some 48:=by
  rcases h4 with h4 | h4
  ·left;have:(⟨⟨l⟩⟩:Str).cps.size=1:=by rw [h4]; rfl
   exact this
  ·right;exact h4
 have ds:DigS ⟨⟨l⟩⟩:=⟨rg,by intro e; have e:l = []:=e; rw [e] at h1; simp at h1,by show l.length≤640; lia⟩;have key:∀ n:Nat,l.foldl (fun acc c=>acc*10+(c - 48)) 0=n→n < 10000∧(l.length≤2↔n < 100):=by
  intro n hn
  match l,h1,h2,rg,hz,hn with
  | [a],_,_,rg,_,hn =>
   have:=rg a #[M];simp only [cQ,dP] at hn
   (simp only [aN,cT])
   lia
  | [a,b],_,_,rg,hz,hn =>
   have:=rg a #[M];have:=rg b #[M];simp only [cQ,dP] at hn
   (simp only [aN,cT])
   lia
  | [a,b,c],_,_,rg,hz,hn =>
   have:=rg a #[M];have:=rg b #[M];have:=rg c #[M];have h48:a≠48:=by rintro rfl; simp at hz
   simp only [cQ,dP] at hn
   (simp only [aN,cT])
   lia
  | [a,b,c,f],_,_,rg,hz,hn =>
   have:=rg a #[M];have:=rg b #[M];have:=rg c #[M];have:=rg f #[M];have h48:a≠48:=by rintro rfl; simp at hz
   simp only [cQ,dP] at hn
   (simp only [aN,cT])
   lia
  | (_ :: _ :: _ :: _ :: _ :: r),_,h2,_,_,_=>simp at h2
 obtain⟨k1,k2⟩:=key _ rfl;refine⟨ds,?_,?_,?_⟩
 ·exact Int.natCast_nonneg _
 ·show ((l.foldl (fun acc c=>acc*10+(c - 48)) 0:Nat):Int) < 10000;lia
 ·show l.length≤2↔((l.foldl (fun acc c=>acc*10+(c - 48)) 0:Nat):Int) < 100;lia
theorem zjL {z:Str}:zah 2 z=(zah 4 z && decide (z.length≤2)):=by
 unfold zah;by_cases h:z.length≤2
 ·rw [decide_eq_true h,decide_eq_true (show z.length≤4 by lia),fH]
 ·rw [decide_eq_false h];simp
theorem znq:(aV 128).all (fun c=>cS c == zdX c)=true:=by decide +kernel
theorem zeZ {c:Nat} (h:c < 128):cS c=zdX c:=by simpa using bz.mp znq c (bS.mpr h)
theorem zg8 {z:Str} (h:z.cps.all (· < 128)=true):z.cps.all cS=z.cps.all zdX:=by
 rw [cX] at h;rw [bu,cX,cX];constructor
 ·intro g x hx;rw [← zeZ (by simpa using h x hx)];exact g x hx
 ·intro g x hx;rw [zeZ (by simpa using h x hx)];exact g x hx
theorem zjM {z:Str} (h:z.cps.all zdX=true):z.cps.all (· < 128)=true:=by
 rw [cX] at h ⊢;intro x hx;have:=h x hx;unfold zdX at this;simp only [aF,decide_eq_true_eq] at this;simp;lia
def codeB (p k:Int) (pl:List Int):Bool:=zab.contains p && (decide (1≤k) && (decide (k≤5) && (decide (k≤pl.length) && (decide (pl.length≤16) && (pl.all (fun x=>decide (0≤x) && decide (x < p)) && decide pl.Nodup)))))
theorem zil {p k:Int} {pl:List Int}:codeB p k pl=true↔CodeOk 5 16 p k pl:=by
 unfold codeB;simp only [aF,decide_eq_true_eq,fk,bz];constructor
 ·rintro⟨h1,h2,h3,h4,h5,h6,h7⟩;exact { pr:=h1,k1:=h2,kk:=h3,kl:=h4,ln:=by lia,rg:=h6,nd:=h7 }
 ·intro h;have:=h.ln;exact⟨h.pr,h.k1,h.kk,h.kl,#[O],h.rg,h.nd⟩
def zjN:List Str→Option (Int×Int×List Int)
 | a :: b :: c :: r=>if (decide (c = ":") && ((a :: b :: r).all (zah 2) && codeB (z9 a) (z9 b) (r.map z9)))=true then some (z9 a,z9 b,r.map z9) else none
 | _=>none
def zdY (z:Str):Option (Int×Int×List Int):=zjN (gZ z " ")
theorem zg9 {z:Str} (h:zah 4 z=true) (hv:z9 z < 100):zah 2 z=true:=by
 rw [zjL,h,decide_eq_true ((zfu (zfv h)).2.2.2.mpr hv)];rfl
theorem zjO {a b c:Str} {r:List Str}:(decide (c = ":") && ((a :: b :: r).all (zah 4) && codeB (z9 a) (z9 b) (r.map z9)))=(decide (c = ":") && ((a :: b :: r).all (zah 2) && codeB (z9 a) (z9 b) (r.map z9))):=by
 rw [bu];simp only [aF,bz];constructor
 ·rintro⟨h1,h2,h3⟩;refine⟨h1,fun z hz=>?_,h3⟩;have co:=zil.mp h3;have rp:=zcm co.pr;have kk:=co.kk;refine zg9 (h2 z hz) ?_;rcases (am.mp hz) with rfl | hz
  ·lia
  rcases (am.mp hz) with rfl | hz
  ·lia
  ·have:=co.rg (z9 z) (List.mem_map_of_mem hz);lia
 ·rintro⟨h1,h2,h3⟩;refine⟨h1,fun z hz=>?_,h3⟩;have:=h2 z hz;rw [zjL,aF] at this;exact this.1
theorem zha:(aV 93).all (fun n=>((aV (n+3)).all fun i=>decide (((n:Int)+5) % (2+(i:Nat):Int)≠0)) == zab.contains ((n:Int)+5))=true:=by decide +kernel
theorem zjP {p:Int} (h0:5≤p) (h1:p≤97):((aV (p - 2).toNat).all fun i=>decide (p % (2+(i:Nat):Int)≠0))=zab.contains p:=by
 have h:=bz.mp zha (p - 5).toNat (bS.mpr #[O]);have e:(((p - 5).toNat:Nat):Int)+5=p:=by lia
 have e2:(p - 5).toNat+3=(p - 2).toNat:=by lia
 rw [e,e2] at h;simpa using h
theorem ze0 {p:Int} (h:¬ (5≤p∧p≤97)):zab.contains p=false:=by
 cases e:zab.contains p with
 | false=>rfl
 | true =>
  have:=zcm (fk.mp e);exact absurd ⟨#[O],#[O]⟩ h
end
end My
end
section
namespace My
open PySem L2 PyProof.Rows
def hid (S:List Addr) (H:Hp):Hp:=fun b=>if b∈S then none else H b
theorem zcI {S:List Addr} {H:Hp} {b:Addr} {o:HO} (h:H b=some o) (n:b∉S):hid S H b=some o:=by unfold hid; rw [if_neg n]; exact h
theorem zcJ {S:List Addr} {H:Hp} {b:Addr} {o:HO} (h:hid S H b=some o):H b=some o∧b∉S:=by
 unfold hid at h;by_cases n:b∈S
 ·rw [if_pos n] at h; cases h
 ·rw [if_neg n] at h; exact⟨h,n⟩
theorem zlR (S:List Addr) (H:Hp):zJ (hid S H) H:=fun b o e=>(zcJ e).1
def fl (c:Addr) (sl:Int) (ea da ua:Addr):List (Str×V):=[("code",.ref c),("slips",.int sl),("entries",.ref ea),("deeds",.ref da),("undone",.ref ua)]
theorem n1:¬ (("code" : Str) = "slips"):=by decide +kernel
theorem n2:¬ (("code" : Str) = "entries"):=by decide +kernel
theorem n3:¬ (("code" : Str) = "deeds"):=by decide +kernel
theorem n4:¬ (("code" : Str) = "undone"):=by decide +kernel
theorem n5:¬ (("slips" : Str) = "entries"):=by decide +kernel
theorem n6:¬ (("slips" : Str) = "deeds"):=by decide +kernel
theorem n7:¬ (("slips" : Str) = "undone"):=by decide +kernel
theorem n8:¬ (("entries" : Str) = "deeds"):=by decide +kernel
theorem n9:¬ (("entries" : Str) = "undone"):=by decide +kernel
theorem n10:¬ (("deeds" : Str) = "undone"):=by decide +kernel
section
variable {c ea da ua:Addr} {sl:Int}
theorem znr:zao "undone" (.ref ua) (zao "deeds" (.ref da) (zao "entries" (.ref ea) (zao "slips" (.int sl) (zao "code" (.ref c) []))))=fl c sl ea da ua:=by
 simp only [zao,if_neg n1,if_neg n2,if_neg n3,if_neg n4,if_neg n5,if_neg n6,if_neg n7,if_neg n8,if_neg n9,if_neg n10];rfl
theorem zim {u:Addr}:zao "undone" (.ref u) (fl c sl ea da ua)=fl c sl ea da u:=by
 unfold fl;simp only [zao,if_neg n4,if_neg n7,if_neg n9,if_neg n10,if_true]
theorem zan {f g:Str} {v:V} {r:List (Str×V)} (h:¬ g=f):bH f ((g,v) :: r)=bH f r:=by
 rw [aH];have:(f == g)=false:=beq_eq_false_iff_ne.mpr (bL h);rw [this]
theorem zav {f:Str} {v:V} {r:List (Str×V)}:bH f ((f,v) :: r)=some v:=by
 rw [aH,beq_self_eq_true]
theorem zcK:(fl c sl ea da ua).lookup ("code" : Str)=some (.ref c):=zav
theorem zae:(fl c sl ea da ua).lookup ("entries" : Str)=some (.ref ea):=by unfold fl; rw [zan n2,zan n5,zav]
theorem zbu:(fl c sl ea da ua).lookup ("deeds" : Str)=some (.ref da):=by unfold fl; rw [zan n3,zan n6,zan n8,zav]
theorem zbR:(fl c sl ea da ua).lookup ("undone" : Str)=some (.ref ua):=by unfold fl; rw [zan n4,zan n7,zan n9,zan n10,zav]
theorem zos {m:Str} (h1:¬ ("code" : Str)=m) (h2:¬ ("slips" : Str)=m) (h3:¬ ("entries" : Str)=m) (h4:¬ ("deeds" : Str)=m) (h5:¬ ("undone" : Str)=m):(fl c sl ea da ua).lookup m=none:=by
 unfold fl;rw [zan h1,zan h2,zan h3,zan h4,zan h5];rfl
end
abbrev Dt:=Nat×Option Int×Option Int
def zjQ (d:Dt):List V:=[.int (d.1:Int),iA d.2.1,iA d.2.2]
def Dts (H:Hp) (rs:List Addr) (ds:List Dt):Prop:=rs.length=ds.length∧∀ (i:Nat) (r:Addr) (d:Dt),rs[i]? = some r→ds[i]? = some d→H r=some (.tup (zjQ d))
theorem Dts.nil {H:Hp}:Dts H [] []:=⟨rfl,fun i r d h=>by simp at h⟩
theorem Dts.same {H H':Hp} {rs:List Addr} {ds:List Dt} (h:Dts H rs ds) (k:∀ b xs,H b=some (.tup xs)→H' b=some (.tup xs)):Dts H' rs ds:=⟨h.1,fun i r d e1 e2=>k _ _ (h.2 i r d e1 e2)⟩
theorem Dts.snoc {H:Hp} {rs:List Addr} {ds:List Dt} {r:Addr} {d:Dt} (h:Dts H rs ds) (e:H r=some (.tup (zjQ d))):Dts H (rs++[r]) (ds++[d]):=by
 obtain⟨hl,ha⟩:=h;refine⟨by simp [hl],fun i r' d' e1 e2=>?_⟩;rcases Nat.lt_trichotomy i rs.length with hi | hi | hi
 ·rw [bM hi] at e1;rw [bM #[O]] at e2;exact ha i r' d' e1 e2
 ·subst hi;rw [cJ (ak _)] at e1;rw [cJ #[O]] at e2;simp at e1;rw [hl,Nat.sub_self] at e2;simp at e2;subst e1 e2;exact e
 ·rw [List.getElem?_eq_none (by simp; lia)] at e1;cases e1
theorem Dts.unsnoc {H:Hp} {rs:List Addr} {ds:List Dt} {d:Dt} (h:Dts H rs (ds++[d])):∃ nG r,rs=nG++[r]∧Dts H nG ds∧H r=some (.tup (zjQ d)):=by
 obtain⟨hl,ha⟩:=h;have jv:rs≠[]:=by
  intro z;subst z;simp at hl
 obtain⟨nG,r,rfl⟩:∃ nG r,rs=nG++[r]:=⟨rs.dropLast,rs.getLast jv,(List.dropLast_concat_getLast jv).symm⟩;have l0:nG.length=ds.length:=by simpa using hl
 refine⟨nG,r,rfl,⟨l0,fun i r' d' e1 e2=>?_⟩,?_⟩
 ·have hi:=(aC.mp e1).1;exact ha i r' d' (by rw [bM hi]; exact e1) (by rw [bM #[O]]; exact e2)
 ·exact ha nG.length r d #[M] (by rw [l0]; simp)
def zcv (K:af) (H:Hp) (a:Addr) (xs:List V):Prop:=H a=some (.tup xs)∨iI K (fun _=>none) a xs
theorem zcv.sq {K:af} {H:Hp} {a:Addr} {xs:List V} (h:zcv K H a xs):iI K H a xs:=by
 rcases h with h | h | h
 ·exact iI.of h
 ·rcases h with h | ⟨o,h⟩ <;> cases h
 ·exact .inr h
theorem zcv.kt {K:af} {H H':Hp} {a:Addr} {xs:List V} (h:zcv K H a xs) (k:H a=some (.tup xs)→H' a=some (.tup xs)):zcv K H' a xs:=h.imp k id
theorem zcv.same {K:af} {H H':Hp} {a:Addr} {xs:List V} (h:zcv K H a xs) (s:zJ H H'):zcv K H' a xs:=h.kt (s _ _)
theorem zcv.upd {K:af} {H:Hp} {a b:Addr} {o:HO} {xs:List V} (h:zcv K H a xs) (hb:∀ ys,H b≠some (.tup ys)):zcv K (L2.upd H b o) a xs:=h.kt fun e=>by
 rw [zc (fun q=>hb xs (by rw [← q]; exact e))]; exact e
def zbY (K:af) (H:Hp) (c tt:Addr) (pp k:Int) (pl:List Int):Prop:=zcv K H c [.int pp,.int k,.ref tt]∧zcv K H tt (pl.map V.int)
theorem zbY.same {K:af} {H H':Hp} {c tt:Addr} {pp k:Int} {pl:List Int} (h:zbY K H c tt pp k pl) (s:zJ H H'):zbY K H' c tt pp k pl:=⟨h.1.same s,h.2.same s⟩
structure Ls (K:af) (C:Addr) (H:Hp) (S:List Addr) (p c:Addr) (pp sl:Int) (es:List (Option Int)) (ds us:List Dt):Prop where
 ex:∃ dx ea da ua k tt dr ur,S = [p,ea,da,ua]∧ea≠da∧ea≠ua∧da≠ua∧H p=some (.ins C dx (fl c sl ea da ua))∧H ea=some (.lst (es.map iA))∧H da=some (.lst (dr.map V.ref))∧H ua=some (.lst (ur.map V.ref))∧Dts H dr ds∧Dts H ur us∧zcv K H c [.int pp,.int k,.ref tt]
theorem Ls.same {K:af} {C:Addr} {H H':Hp} {S:List Addr} {p c:Addr} {pp sl:Int} {es:List (Option Int)} {ds us:List Dt} (h:Ls K C H S p c pp sl es ds us) (s:zJ H H'):Ls K C H' S p c pp sl es ds us:=by
 obtain⟨dx,ea,da,ua,k,tt,dr,ur,e,h1,h2,h3,h4,h5,h6,h7,h8,h9,jw⟩:=h.ex;exact⟨dx,ea,da,ua,k,tt,dr,ur,e,h1,h2,h3,s _ _ h4,s _ _ h5,s _ _ h6,s _ _ h7,h8.same fun b xs z=>s _ _ z,h9.same fun b xs z=>s _ _ z,jw.same s⟩
theorem Ls.own {K:af} {C:Addr} {H:Hp} {S:List Addr} {p c:Addr} {pp sl:Int} {es:List (Option Int)} {ds us:List Dt} (h:Ls K C H S p c pp sl es ds us):∀ b∈S,(∃ xs,H b=some (.lst xs))∨∃ C dx fs,H b=some (.ins C dx fs):=by
 obtain⟨dx,ea,da,ua,k,tt,dr,ur,rfl,h1,h2,h3,h4,h5,h6,h7,_⟩:=h.ex;intro b hb;simp at hb;rcases (hb) with rfl | rfl | rfl | rfl
 ·exact .inr ⟨_,_,_,h4⟩
 ·exact .inl ⟨_,h5⟩
 ·exact .inl ⟨_,h6⟩
 ·exact .inl ⟨_,h7⟩
theorem Ls.tup {K:af} {C:Addr} {H:Hp} {S:List Addr} {p c b:Addr} {pp sl:Int} {es:List (Option Int)} {ds us:List Dt} {xs:List V} (h:Ls K C H S p c pp sl es ds us) (e:H b=some (.tup xs)):b∉S:=fun hb=>by
 rcases h.own b hb with ⟨_,z⟩ | ⟨_,_,_,z⟩ <;> (rw [e] at z; cases z)
theorem Ls.fresh {K:af} {C:Addr} {H:Hp} {S:List Addr} {p c b:Addr} {pp sl:Int} {es:List (Option Int)} {ds us:List Dt} (h:Ls K C H S p c pp sl es ds us) (e:H b=none):b∉S:=fun hb=>by
 rcases h.own b hb with ⟨_,z⟩ | ⟨_,_,_,z⟩ <;> (rw [e] at z; cases z)
inductive Dd where
 | hear (n x:Int) | forget (n:Int) | back | again
inductive Wd where
 | place | number | heard | notHeard | nothing
def Wd.txt:Wd→Str
 | .place=>"place"
 | .number=>"number"
 | .heard=>"heard"
 | .notHeard=>"not heard"
 | .nothing=>"nothing"
abbrev Rw:=List (Option Int)
def inB (es:Rw) (n:Int):Bool:=decide (0≤n) && decide (n < (es.length:Int))
def zdz (pp x:Int):Bool:=decide (0≤x) && decide (x < pp)
def stp (pp:Int) (es:Rw) (ds us:List Dt):Dd→Wd ⊕ (Rw×List Dt×List Dt)
 | .hear n x=>if inB es n=false then .inl .place else if zdz pp x=false then .inl .number else match (es[n.toNat]?).getD none with
  | some _=>.inl .heard
  | none=>.inr (es.set n.toNat (some x),ds++[(n.toNat,none,some x)],[])
 | .forget n=>if inB es n=false then .inl .place else match (es[n.toNat]?).getD none with
  | some v=>.inr (es.set n.toNat none,ds++[(n.toNat,some v,none)],[])
  | none=>.inl .notHeard
 | .back=>match ds.getLast? with
  | none=>.inl .nothing
  | some d=>.inr (es.set d.1 d.2.1,ds.dropLast,us++[d])
 | .again=>match us.getLast? with
  | none=>.inl .nothing
  | some d=>.inr (es.set d.1 d.2.2,ds++[d],us.dropLast)
end My
end
section
namespace L2
open PySem PySem.Spec PyProof.Rows PySem.W PySem.Builtin PySem.Builtin.Str
def zay (z y:Str):Str×Str×Str:=match occurrences z y 0 z.length 1 with
 | i :: _=>(strSub z 0 i,y,strSub z (i+y.length) z.length)
 | []=>(z,hU,hU)
def zot:V→List V→Hp→VK→Prop:=fun x vs H Q=>∃ (z y:Str) (a b c:Str),x = .str z∧vs = [.str y]∧(y.length == 0)=false∧z.length≤10000∧zay z y=(a,b,c)∧∀ l,H l=none→Q (.ref l) (upd H l (.tup [.str a,.str b,.str c]))
theorem zlS {X:Cx}:MtR X "str.partition" zot:=by
 intro ip s σ H x vs v us Q I rx rv h;obtain⟨z,y,a,b,c,rfl,rfl,hy,hz,hp,q⟩:=h;obtain⟨t,rfl⟩:=rx;obtain⟨u,rfl,ru⟩:=rv.one;obtain⟨t2,rfl⟩:=ru;have kz:=aM;refine bQ F.slot_str_partition (cC _ _ _) F.entry_str_partition (F.args_str_partition_2 _ _) (meets_str_partition z y t t2 hy #[O]) ?_;unfold zay at hp;cases ho:occurrences z y 0 z.length 1 with
 | cons i r =>
  rw [ho] at hp;cases hp;exact⟨.ref s.heap.objs.size,_,I.laid (a:=s.heap.objs.size) (o:=.tup [.str _,.str _,.str _]) (fun _ _ e=>ai _ e) (ak _) ⟨by show 3≤sizeLine; lia,_,.cons ⟨_,rfl⟩ (.cons ⟨_,rfl⟩ (.cons ⟨_,rfl⟩ .nil)),_,au _ rfl,rfl,0,rfl⟩,rfl,q _ I.fresh⟩
 | nil =>
  rw [ho] at hp;cases hp;exact⟨.ref s.heap.objs.size,_,I.laid (a:=s.heap.objs.size) (o:=.tup [.str _,.str _,.str _]) (fun _ _ e=>ai _ e) (ak _) ⟨by show 3≤sizeLine; lia,_,.cons ⟨_,rfl⟩ (.cons ⟨_,rfl⟩ (.cons ⟨_,rfl⟩ .nil)),_,au _ rfl,rfl,0,rfl⟩,rfl,q _ I.fresh⟩
end L2
end
section
namespace L2
open PySem PySem.Spec PyProof.Rows
structure AnsK (P:Program) (w:World) (K:af) (d:Addr) (xs:List (List Key×Addr×Value)):Prop where
 ob:∃ es ep,K.lookup d=some { cls:=.type "dict",data:=.dict es ep }∧es.toList=xs.map (entryOfKey (tupleKind (zaI P w)))
 ks:∀ x∈xs,∃ o ir n,K.lookup x.2.1=some o∧o.cls = .type "tuple"∧o.data = .seq ir n∧ItemsAre (zaI P w) x.1 ir.toList
 nd:(xs.map (·.1)).Nodup
 ne:(d == sysModules)=false
section
variable {X:Cx} {ip:List (Addr×Obj)} {σ:St} {H:Hp} {s:Shared} {d:Addr} {xs:List (List Key×Addr×Value)}
theorem AnsK.dict (A:AnsK X.prog X.w X.K d xs) (I:Inv X ip σ H s):s.heap.DictOfH (tupleKind (zaI X.prog X.w)) d xs:=by
 obtain⟨es,ep,l,he⟩:=A.ob;refine⟨_,es,ep,I.kIn d _ l,⟨rfl,rfl,rfl⟩,rfl,he,fun x hx=>?_,A.nd⟩;obtain⟨o,ir,n,l,hc,hd,hi⟩:=A.ks x hx;exact⟨o,ir,n,I.kIn _ _ l,hc,hd,hi⟩
end
theorem zin {X:Cx} {d:Addr} {xs:List (List Key×Addr×Value)} (hu:X.A.units+20 < cLine) (A:AnsK X.prog X.w X.K d xs) :
  OpR X (compareOp .NotIn) (fun x y H Q=>∃ (b:Addr) (ks:List Key),x = .ref b∧y = .ref d∧H b=some (.tup (ks.map kV))∧Q (.bl (!(atKey xs ks).isSome)) H):=by
 intro ip s σ H x y v u Q I rx ry h;obtain⟨b,ks,rfl,rfl,hb,q⟩:=h;cases rx;cases ry;exact wpAny_notIn_heap (gf #[O]) (zjF I.hok hb) A.ne (A.dict I) ⟨.bl _,H,I.tok _,rfl,q⟩
theorem zns {X:Cx} {d:Addr} {xs:List (List Key×Addr×Value)} {o i:Expr} {pos:Pos} {td ty:TE} (hu:X.A.units+20 < cLine) (A:AnsK X.prog X.w X.K d xs) (ho:PE X o td) (hi:PE X i ty) (hs:zoq i) :
  PE X (.Subscript o i pos) (fun σ H Q=>td σ H fun x H1=>ty σ H1 fun y H2=>∃ (b:Addr) (ks:List Key) (p:Addr×Value) (z:V),x = .ref d∧y = .ref b∧H2 b=some (.tup (ks.map kV))∧atKey xs ks=some p∧RelV z p.2∧Q z H2):=by
 intro ip s σ H Q I h;refine zlM PySem.F.slot_dict_getitem.lookup hs (thn (ho ip s σ H _ I h) fun u s1 ⟨x,H1,I1,rx,q1⟩=>thn (hi ip s1 σ H1 _ I1 q1) fun iv s2 ⟨y,H2,I2,ry,b,ks,p,z,ex,ey,hb,hp,rz,q2⟩=>?_);subst ex ey;cases rx;cases ry;exact⟨(A.dict I2).typeIs,wpAny_getItem_heap (gf #[O]) (zjF I2.hok hb) (A.dict I2) hp ⟨z,H2,I2.tok _,rz,q2⟩⟩
structure Callee (X:Cx) (CX:CXT) (E:XK) (f:Addr) (sp:Sp):Prop where
 ex:∃ fd ps k,FnOk X.prog X.w X.K X.mg X.base CX k f fd ps sp∧Room k X.A∧bC X.K (.ref f)=true∧Binds X.K fd ps []
theorem zjR {X:Cx} {CX:CXT} {E:XK} {x:Str} {p pos:Pos} {e:Expr} {es:List Expr} {t:TA} {tv:TE} (hv:PE X (.Name x p) tv) (hx:zbh CX X E) (ha:PA X (e :: es) t)
  (he:starEach (e :: es) X.env=(false,eval e X.env) :: starEach es X.env:=by rfl) (ju:(backTo pos (starEach es X.env)).any (·.1)=false:=by rfl) :
  PE X (.Call (.Name x p) (e :: es) [] pos) (fun σ H Q=>tv σ H fun z H1=>∃ (f:Addr) (sp:Sp),z = .ref f∧Callee X CX E f sp∧zhG sp [] E t σ H1 Q):=by
 intro ip s σ H Q I h;refine bn (thn (hv ip s σ H _ I h) fun u s1 ⟨z,H1,I1,rz,f,sp,ez,c,q⟩=>?_);subst ez;cases rz;obtain⟨fd,ps,k,F,hr,hk,hb⟩:=c.ex;refine bw (h₀:=X.base) I.ok.mod.kin hk (thn (ha pos ip s1 σ H1 _ I1 q) fun us s2 ⟨vs,H2,I2,r,q2⟩=>⟨I2.kIn,?_⟩) he ju;exact zfa F hr hb .nil hx I2 r q2
theorem zio {X:Cx} {e:Expr}:PE X e (fun _ _ _=>False):=fun ip s σ H Q I h=>h.elim
theorem zgk {X:Cx} {x:Str} {f:Addr} {p pos:Pos} {e:Expr} {es:List Expr} {t:TA} (hg:Gl X x) (hm:X.mg x=some (.ref f)) (hk:bC X.K (.ref f)=true) (ha:PA X (e :: es) t)
  (kQ:(x == ("__debug__" : Str))=false:=by decide) (he:starEach (e :: es) X.env=(false,eval e X.env) :: starEach es X.env:=by rfl) (ju:(backTo pos (starEach es X.env)).any (·.1)=false:=by rfl) :
  PE X (.Call (.Name x p) (e :: es) [] pos) (fun σ H _=>t σ H fun _ _=>False):=by
 intro ip s σ H Q I h;refine bn (zbc I hg hm ?_ kQ);exact bw (h₀:=X.base) I.ok.mod.kin hk (thn (ha pos ip s σ H _ I h) fun us s1 ⟨vs,H1,I1,r,q⟩=>⟨I1.kIn,q.elim⟩) he ju
end L2
end
section
namespace My
open PySem L2 PyProof.Rows
def top (i:Nat):Stmt:=PySem.Challenge.pw_slipcurve_k35_two_reasons_which_first.main.body.getD i (.Pass ⟨0,0,0,0⟩)
abbrev zbi:Stmt:=top 5
abbrev za2:Stmt:=top 6
abbrev zai:Stmt:=top 7
abbrev zaE:Stmt:=top 8
abbrev zbB:Stmt:=top 9
abbrev zap:Stmt:=top 28
abbrev zbj:Stmt:=top 33
abbrev zaC:Stmt:=top 54
abbrev zcL:Stmt:=top 72
abbrev zaR:Stmt:=top 74
abbrev zar:Stmt:=top 75
abbrev zdZ:Stmt:=top 80
abbrev zbk:Stmt:=top 81
abbrev zbC:Stmt:=top 82
abbrev za3:Stmt:=top 83
abbrev zbD:Stmt:=top 84
abbrev zbl:Stmt:=top 85
abbrev za4:Stmt:=top 88
abbrev za5:Stmt:=top 89
abbrev zaS:Stmt:=top 91
abbrev zaF:Stmt:=top 102
abbrev zbE:Stmt:=top 103
abbrev zb8:Stmt:=top 105
abbrev zbF:Stmt:=top 106
abbrev zbG:Stmt:=top 107
abbrev zb9:Stmt:=top 108
abbrev zca:Stmt:=top 109
abbrev zcb:Stmt:=top 110
abbrev zbm:Stmt:=top 111
abbrev zdt:Stmt:=top 112
abbrev zd0:Stmt:=inClass (top 35) 0
abbrev zaG:Stmt:=inClass (top 35) 1
abbrev zcc:Stmt:=inClass (top 35) 2
abbrev zd1:Stmt:=inClass (top 35) 3
abbrev zcd:Stmt:=inClass (top 35) 4
abbrev zd2:Stmt:=inClass (top 35) 5
abbrev s_again:Stmt:=inClass (top 35) 6
abbrev s_row:Stmt:=inClass (top 35) 7
abbrev zd3:Stmt:=inClass (top 35) 9
abbrev zce:Stmt:=inClass (top 93) 0
abbrev zbv:Stmt:=inClass (top 93) 1
structure Adr where
 FIRST_CODE:Addr
 ANSWERS:Addr
 tell_row:Addr
 tell_can:Addr
 tell_half:Addr
 Desk:Addr
 d_init:Addr
 d_say:Addr
 SlipError:Addr
 TooFew:Addr
 NoCurve:Addr
 NoPaper:Addr
 NoPlace:Addr
 NoNumber:Addr
 Heard:Addr
 NotHeard:Addr
 NothingLeft:Addr
 NoText:Addr
 NoRow:Addr
 Listener:Addr
 init:Addr
 check_place:Addr
 change:Addr
 hear:Addr
 forget:Addr
 back:Addr
 again:Addr
 row:Addr
 sure:Addr
 is_whole:Addr
 is_number:Addr
 is_code_prime:Addr
 are_places:Addr
 is_code:Addr
 heard_points:Addr
 all_near:Addr
 check_curves:Addr
 row_text:Addr
 is_written:Addr
 read_code:Addr
 listed:Addr
 do_slips:Addr
 do_hear:Addr
 do_forget:Addr
 do_back:Addr
 do_again:Addr
 tell_sure:Addr
 tell_near:Addr
 tell_reach:Addr
 paper_holds:Addr
 near_by:Addr
 l_cell:Addr
 l_draws:Addr
 l_code:Addr
 l_word:Addr
 l_done:Addr
 l_said:Addr
 l_papers:Addr
 law:Addr
structure KW (K:af) (t:Adr) (C:Addr) (b0 b1 b2 b3 b4 b5 b6 b7 b8 b9:Bool):Prop where
 i0:aP K (.ref C) (.ref t.TooFew)=some b0
 i1:aP K (.ref C) (.ref t.NoCurve)=some b1
 i2:aP K (.ref C) (.ref t.NoPaper)=some b2
 i3:aP K (.ref C) (.ref t.NoPlace)=some b3
 i4:aP K (.ref C) (.ref t.NoNumber)=some b4
 i5:aP K (.ref C) (.ref t.Heard)=some b5
 i6:aP K (.ref C) (.ref t.NotHeard)=some b6
 i7:aP K (.ref C) (.ref t.NothingLeft)=some b7
 i8:aP K (.ref C) (.ref t.NoText)=some b8
 i9:aP K (.ref C) (.ref t.NoRow)=some b9
 iv:aP K (.ref C) (.type "ValueError")=some true
 xc:Xc K C
 sl:dM K (.ref C) (.ref t.SlipError)=some true
structure Txt (K:af) (mg:Str→Option Value) (t:Adr):Prop where
 len_:mg "len" = none
 range_:mg "range" = none
 list_:mg "list" = none
 tuple_:mg "tuple" = none
 min_:mg "min" = none
 max_:mg "max" = none
 isinstance_:mg "isinstance" = none
 int_:mg "int" = none
 bool_:mg "bool" = none
 str_:mg "str" = none
 set_:mg "set" = none
 all_:mg "all" = none
 zip_:mg "zip" = none
 ValueError_:mg "ValueError" = none
 g_LEAST_P:∃ q,mg "LEAST_P" = some (.int 5 q)
 g_GREATEST_P:∃ q,mg "GREATEST_P" = some (.int 97 q)
 g_MOST_NUMBERS:∃ q,mg "MOST_NUMBERS" = some (.int 5 q)
 g_MOST_PLACES:∃ q,mg "MOST_PLACES" = some (.int 16 q)
 g_MOST_WEIGHT:∃ q,mg "MOST_WEIGHT" = some (.int 60 q)
 g_MOST_FIGURES:∃ q,mg "MOST_FIGURES" = some (.int 4 q)
 g_FIRST_SLIPS:∃ q,mg "FIRST_SLIPS" = some (.int 1 q)
 g_MOST_SLIPS:∃ q,mg "MOST_SLIPS" = some (.int 8 q)
 g_MOST_PAPER_WEIGHT:∃ q,mg "MOST_PAPER_WEIGHT" = some (.int 4 q)
 x_SlipError:mg "SlipError" = some (.ref t.SlipError)
 x_TooFew:mg "TooFew" = some (.ref t.TooFew)
 x_NoCurve:mg "NoCurve" = some (.ref t.NoCurve)
 x_NoPaper:mg "NoPaper" = some (.ref t.NoPaper)
 x_NoPlace:mg "NoPlace" = some (.ref t.NoPlace)
 x_NoNumber:mg "NoNumber" = some (.ref t.NoNumber)
 x_Heard:mg "Heard" = some (.ref t.Heard)
 x_NotHeard:mg "NotHeard" = some (.ref t.NotHeard)
 x_NothingLeft:mg "NothingLeft" = some (.ref t.NothingLeft)
 x_NoText:mg "NoText" = some (.ref t.NoText)
 x_NoRow:mg "NoRow" = some (.ref t.NoRow)
 xi_TooFew:bj K t.TooFew zdf "ValueError.__new__" = true
 xi_NoCurve:bj K t.NoCurve zdf "ValueError.__new__" = true
 xi_NoPaper:bj K t.NoPaper zdf "ValueError.__new__" = true
 xi_NoPlace:bj K t.NoPlace zdf "ValueError.__new__" = true
 xi_NoNumber:bj K t.NoNumber zdf "ValueError.__new__" = true
 xi_Heard:bj K t.Heard zdf "ValueError.__new__" = true
 xi_NotHeard:bj K t.NotHeard zdf "ValueError.__new__" = true
 xi_NothingLeft:bj K t.NothingLeft zdf "ValueError.__new__" = true
 xi_NoText:bj K t.NoText zdf "ValueError.__new__" = true
 xi_NoRow:bj K t.NoRow zdf "ValueError.__new__" = true
 kw_TooFew:KW K t t.TooFew true false false false false false false false false false
 kw_NoCurve:KW K t t.NoCurve false true false false false false false false false false
 kw_NoPaper:KW K t t.NoPaper false false true false false false false false false false
 kw_NoPlace:KW K t t.NoPlace false false false true false false false false false false
 kw_NoNumber:KW K t t.NoNumber false false false false true false false false false false
 kw_Heard:KW K t t.Heard false false false false false true false false false false
 kw_NotHeard:KW K t t.NotHeard false false false false false false true false false false
 kw_NothingLeft:KW K t t.NothingLeft false false false false false false false true false false
 kw_NoText:KW K t t.NoText false false false false false false false false true false
 kw_NoRow:KW K t t.NoRow false false false false false false false false false true
 sb:bq K t.SlipError (.type "BaseException")=some true
 cl:Cls K t.Listener
 x_Listener:mg "Listener" = some (.ref t.Listener)
 mkr:Mk K t.Listener t.init
 na_code:za9 K t.Listener "code"
 na_slips:za9 K t.Listener "slips"
 na_entries:za9 K t.Listener "entries"
 na_deeds:za9 K t.Listener "deeds"
 na_undone:za9 K t.Listener "undone"
 me_check_place:Meth K t.Listener "check_place" t.check_place
 me_change:Meth K t.Listener "change" t.change
 me_hear:Meth K t.Listener "hear" t.hear
 me_forget:Meth K t.Listener "forget" t.forget
 me_back:Meth K t.Listener "back" t.back
 me_again:Meth K t.Listener "again" t.again
 me_row:Meth K t.Listener "row" t.row
 me_sure:Meth K t.Listener "sure" t.sure
 f_init:∃ fd,Fun K "__init__" "Listener.__init__" zd0 t.init fd∧Binds K fd ["self","code","slips"] []
 f_check_place:∃ fd,Fun K "check_place" "Listener.check_place" zaG t.check_place fd∧Binds K fd ["self","number"] []
 f_change:∃ fd,Fun K "change" "Listener.change" zcc t.change fd∧Binds K fd ["self","number","entry"] []
 f_hear:∃ fd,Fun K "hear" "Listener.hear" zd1 t.hear fd∧Binds K fd ["self","number","entry"] []
 f_forget:∃ fd,Fun K "forget" "Listener.forget" zcd t.forget fd∧Binds K fd ["self","number"] []
 f_back:∃ fd,Fun K "back" "Listener.back" zd2 t.back fd∧Binds K fd ["self"] []
 f_again:∃ fd,Fun K "again" "Listener.again" s_again t.again fd∧Binds K fd ["self"] []
 f_row:∃ fd,Fun K "row" "Listener.row" s_row t.row fd∧Binds K fd ["self"] []
 f_sure:∃ fd,Fun K "sure" "Listener.sure" zd3 t.sure fd∧Binds K fd ["self","number"] []
 clD:Cls K t.Desk
 x_Desk:mg "Desk" = some (.ref t.Desk)
 mkrD:Mk K t.Desk t.d_init
 na_listener:za9 K t.Desk "listener"
 me_say:Meth K t.Desk "say" t.d_say
 f_d_init:∃ fd,Fun K "__init__" "Desk.__init__" zce t.d_init fd∧Binds K fd ["self"] []
 f_d_say:∃ fd,Fun K "say" "Desk.say" zbv t.d_say fd∧Binds K fd ["self","row"] []
 x_FIRST_CODE:mg "FIRST_CODE" = some (.ref t.FIRST_CODE)
 x_ANSWERS:mg "ANSWERS" = some (.ref t.ANSWERS)
 x_tell_row:mg "tell_row" = some (.ref t.tell_row)
 x_tell_can:mg "tell_can" = some (.ref t.tell_can)
 x_tell_half:mg "tell_half" = some (.ref t.tell_half)
 m_is_whole:mg "is_whole" = some (.ref t.is_whole)
 m_is_number:mg "is_number" = some (.ref t.is_number)
 m_is_code_prime:mg "is_code_prime" = some (.ref t.is_code_prime)
 m_are_places:mg "are_places" = some (.ref t.are_places)
 m_is_code:mg "is_code" = some (.ref t.is_code)
 m_heard_points:mg "heard_points" = some (.ref t.heard_points)
 m_all_near:mg "all_near" = some (.ref t.all_near)
 m_check_curves:mg "check_curves" = some (.ref t.check_curves)
 m_row_text:mg "row_text" = some (.ref t.row_text)
 m_is_written:mg "is_written" = some (.ref t.is_written)
 m_read_code:mg "read_code" = some (.ref t.read_code)
 m_listed:mg "listed" = some (.ref t.listed)
 m_do_slips:mg "do_slips" = some (.ref t.do_slips)
 m_do_hear:mg "do_hear" = some (.ref t.do_hear)
 m_do_forget:mg "do_forget" = some (.ref t.do_forget)
 m_do_back:mg "do_back" = some (.ref t.do_back)
 m_do_again:mg "do_again" = some (.ref t.do_again)
 m_tell_sure:mg "tell_sure" = some (.ref t.tell_sure)
 m_tell_near:mg "tell_near" = some (.ref t.tell_near)
 m_tell_reach:mg "tell_reach" = some (.ref t.tell_reach)
 m_paper_holds:mg "paper_holds" = some (.ref t.paper_holds)
 m_near_by:mg "near_by" = some (.ref t.near_by)
 m_l_cell:mg "_law_cell" = some (.ref t.l_cell)
 m_l_draws:mg "_law_draws" = some (.ref t.l_draws)
 m_l_code:mg "_law_code" = some (.ref t.l_code)
 m_l_word:mg "_law_word" = some (.ref t.l_word)
 m_l_done:mg "_law_done" = some (.ref t.l_done)
 m_l_said:mg "_law_said" = some (.ref t.l_said)
 m_l_papers:mg "_law_papers" = some (.ref t.l_papers)
 f_is_whole:∃ fd,Fun K "is_whole" "is_whole" zbi t.is_whole fd∧Binds K fd ["thing"] []
 f_is_number:∃ fd,Fun K "is_number" "is_number" za2 t.is_number fd∧Binds K fd ["p","thing"] []
 f_is_code_prime:∃ fd,Fun K "is_code_prime" "is_code_prime" zai t.is_code_prime fd∧Binds K fd ["thing"] []
 f_are_places:∃ fd,Fun K "are_places" "are_places" zaE t.are_places fd∧Binds K fd ["p","k","thing"] []
 f_is_code:∃ fd,Fun K "is_code" "is_code" zbB t.is_code fd∧Binds K fd ["thing"] []
 f_heard_points:∃ fd,Fun K "heard_points" "heard_points" zap t.heard_points fd∧Binds K fd ["code","row"] []
 f_all_near:∃ fd,Fun K "all_near" "all_near" zbj t.all_near fd∧Binds K fd ["code","row","t"] []
 f_check_curves:∃ fd,Fun K "check_curves" "check_curves" zaC t.check_curves fd∧Binds K fd ["k"] []
 f_row_text:∃ fd,Fun K "row_text" "row_text" zcL t.row_text fd∧Binds K fd ["row"] []
 f_is_written:∃ fd,Fun K "is_written" "is_written" zaR t.is_written fd∧Binds K fd ["word"] []
 f_read_code:∃ fd,Fun K "read_code" "read_code" zar t.read_code fd∧Binds K fd ["text"] []
 f_listed:∃ fd,Fun K "listed" "listed" zdZ t.listed fd∧Binds K fd ["polynomials"] []
 f_do_slips:∃ fd,Fun K "do_slips" "do_slips" zbk t.do_slips fd∧Binds K fd ["desk","numbers"] []
 f_do_hear:∃ fd,Fun K "do_hear" "do_hear" zbC t.do_hear fd∧Binds K fd ["desk","numbers"] []
 f_do_forget:∃ fd,Fun K "do_forget" "do_forget" za3 t.do_forget fd∧Binds K fd ["desk","numbers"] []
 f_do_back:∃ fd,Fun K "do_back" "do_back" zbD t.do_back fd∧Binds K fd ["desk","numbers"] []
 f_do_again:∃ fd,Fun K "do_again" "do_again" zbl t.do_again fd∧Binds K fd ["desk","numbers"] []
 f_tell_sure:∃ fd,Fun K "tell_sure" "tell_sure" za4 t.tell_sure fd∧Binds K fd ["desk","numbers"] []
 f_tell_near:∃ fd,Fun K "tell_near" "tell_near" za5 t.tell_near fd∧Binds K fd ["desk","numbers"] []
 f_tell_reach:∃ fd,Fun K "tell_reach" "tell_reach" zaS t.tell_reach fd∧Binds K fd ["desk","numbers"] []
 f_paper_holds:∃ fd,Fun K "paper_holds" "paper_holds" zaF t.paper_holds fd∧Binds K fd ["code","row","t","paper"] []
 f_near_by:∃ fd,Fun K "near_by" "near_by" zbE t.near_by fd∧Binds K fd ["code","row","t","paper"] []
 f_l_cell:∃ fd,Fun K "_law_cell" "_law_cell" zb8 t.l_cell fd∧Binds K fd ["script","k"] []
 f_l_draws:∃ fd,Fun K "_law_draws" "_law_draws" zbF t.l_draws fd∧Binds K fd ["script","k","many","base"] []
 f_l_code:∃ fd,Fun K "_law_code" "_law_code" zbG t.l_code fd∧Binds K fd ["script","at","most_k","most_n"] []
 f_l_word:∃ fd,Fun K "_law_word" "_law_word" zb9 t.l_word fd∧Binds K fd ["e"] []
 f_l_done:∃ fd,Fun K "_law_done" "_law_done" zca t.l_done fd∧Binds K fd ["listener","way","number","entry"] []
 f_l_said:∃ fd,Fun K "_law_said" "_law_said" zcb t.l_said fd∧Binds K fd ["desk","row"] []
 f_l_papers:∃ fd,Fun K "_law_papers" "_law_papers" zbm t.l_papers fd∧Binds K fd ["way","code","row","paper"] []
section
variable {P:Program} {w:World} {K:af} {mg:Str→Option Value} {base:Heap} {t:Adr}
theorem ziq:FnScope ["script","k"] ["script","k"] (zj zb8):=#[S]
theorem zir {fd:FuncData} (T:Txt K mg t) (F:Fun K "_law_cell" "_law_cell" zb8 t.l_cell fd):FnOk P w K mg base CX0 1 t.l_cell fd ["script","k"] (zh6 K):=by
 refine F.ok ziq (fun vs H Q E h=>?_) (fun iy A outer s H vs Q E hr h=>?_)
 ·obtain⟨a,ns,k,rfl,_⟩:=h; rfl
 ·obtain⟨a,ns,k,rfl,hS,iJ,k0,k1,q⟩:=h;refine⟨_,#[ze,#[zY,#[zB,#[zhD],(@L2.pv _ 1 _ _ (by rfl) (by first | exact ae rfl | exact aa #[A] | exact aa (aa rfl)) #[D] #[D]),#[zm,#[zv],T.len_,bf,#[ya,(@L2.pv _ 0 _ _ (by rfl) (by first | exact ae rfl | exact aa #[A] | exact aa (aa rfl)) #[D] #[D])]],(zI _)],#[zk,#[zF,#[zZ,#[zM],(@L2.pv _ 0 _ _ (by rfl) (by first | exact ae rfl | exact aa #[A] | exact aa (aa rfl)) #[D] #[D]),(@L2.pv _ 1 _ _ (by rfl) (by first | exact ae rfl | exact aa #[A] | exact aa (aa rfl)) #[D] #[D])]]],#[zy]],#[ze,#[zY,#[zB,#[zcw],#[zm,#[zv],T.len_,bf,#[ya,(@L2.pv _ 0 _ _ (by rfl) (by first | exact ae rfl | exact aa #[A] | exact aa (aa rfl)) #[D] #[D])]],#[zh],(zI _)],#[zk,#[zF,#[zt,#[zaK],#[zt,#[za8],#[zh],(@L2.pv _ 1 _ _ (by rfl) (by first | exact ae rfl | exact aa #[A] | exact aa (aa rfl)) #[D] #[D])],#[zh]]]],#[zy]],#[zk,#[zF,#[zt,#[zaK],#[zt,#[zas],#[zZ,#[zM],(@L2.pv _ 0 _ _ (by rfl) (by first | exact ae rfl | exact aa #[A] | exact aa (aa rfl)) #[D] #[D]),#[zt,#[zas],(@L2.pv _ 1 _ _ (by rfl) (by first | exact ae rfl | exact aa #[A] | exact aa (aa rfl)) #[D] #[D]),#[zm,#[zv],T.len_,bf,#[ya,(@L2.pv _ 0 _ _ (by rfl) (by first | exact ae rfl | exact aa #[A] | exact aa (aa rfl)) #[D] #[D])]]]],#[zh]],#[zt,#[za8],#[zh],(@L2.pv _ 1 _ _ (by rfl) (by first | exact ae rfl | exact aa #[A] | exact aa (aa rfl)) #[D] #[D])]]]]]],?_⟩;refine (iq rfl (iq rfl ⟨a,(iq rfl ⟨.inl hS,(iD rfl rfl (iq rfl ?_))⟩)⟩)); rw [ah];refine zcu (fun h=>?_) (fun h=>?_)
  ·have h:k < (ns.length:Int):=by simpa using h
   obtain⟨c,hc⟩:=zdH k0 h;exact (iq rfl (iq rfl (ex4 a _ k _ ⟨rfl,rfl,hS,hc,q c⟩)))
  ·have h:¬ k < (ns.length:Int):=by simpa using h
   refine (iq rfl ⟨a,(iq rfl ⟨.inl hS,rfl,(iq rfl ?_)⟩)⟩);rw [ah];refine zcu (fun h2=>?_) (fun h2=>?_)
   ·exact (iq rfl (iD rfl rfl ⟨.inl ⟨#[D],#[D]⟩,(iD rfl rfl (q _))⟩))
   ·have h2:¬ V.int (ns.length:Int)=V.int 0:=by simpa using h2
    have lD:0 < (ns.length:Int):=by
     have:(ns.length:Int)≠0:=fun z=>h2 (by rw [z])
     lia
    have m0:=be k (show (ns.length:Int)≠0 by lia);have m1:=aU k lD;obtain⟨c,hc⟩:=zdH m0 m1;refine (iq rfl (iq rfl (iq rfl ⟨a,(iq rfl ⟨.inl hS,(iD rfl rfl ⟨by rw [ah]; exact lD,a,_,_,_,rfl,rfl,hS,by rw [ah]; exact hc,(iD rfl rfl ⟨(by show (0:Int) < 1000003; decide),?_⟩)⟩)⟩)⟩)));exact (iq rfl (iD rfl rfl ⟨.inl ⟨#[D],#[D]⟩,(iD rfl rfl (q _))⟩))
theorem z6:FnScope ["script","k","many","base","primes","cell","rest","row","j","mash"] ["script","k","many","base"] (zj zbF):=#[S]
theorem zd4 {fd:FuncData} (T:Txt K mg t) (F:Fun K "_law_draws" "_law_draws" zbF t.l_draws fd):FnOk P w K mg base CX0 2 t.l_draws fd ["script","k","many","base"] (zg0 K):=by
 obtain⟨oT,kE,mj⟩:=T.f_l_cell;have ml:=zir (P:=P) (w:=w) (base:=base) T kE;refine F.ok z6 (fun vs H Q E h=>?_) (fun iy A outer s H vs Q E hr h=>?_)
 ·obtain⟨a,ns,k,many,base,rfl,_⟩:=h;rfl
 ·obtain⟨a,ns,k,many,bs,rfl,hS,iJ,k0,k1,m0,m1,b0,b1,q⟩:=h;refine⟨_,#[ze,#[zC,4,z6.nd,#[A],#[zaL,#[zdP,#[zdP,#[zdP,#[zdP,#[zdP,#[za,#[zh],#[za,#[zh],#[ya,#[zh]]]]]]]]]]],#[ze,#[zC,5,z6.nd,#[A],#[zH,ml,(hr.mono #[D]),T.m_l_cell,kE.kp,mj,#[z7],#[za,(@L2.pv _ 0 _ _ (by rfl) (by first | exact ae rfl | exact aa #[A] | exact aa (aa rfl)) #[D] #[D]),#[ya,(@L2.pv _ 1 _ _ (by rfl) (by first | exact ae rfl | exact aa #[A] | exact aa (aa rfl)) #[D] #[D])]]]],#[ze,#[zC,6,z6.nd,#[A],#[zh]],#[ze,#[zY,#[zB,#[zmI],(@L2.pv _ 5 _ _ (by rfl) (by first | exact ae rfl | exact aa #[A] | exact aa (aa rfl)) #[D] #[D]),#[zt,#[zgO],#[zh],#[zh]],(zI _)],#[zk,#[zC,6,z6.nd,#[A],(@L2.pv _ 5 _ _ (by rfl) (by first | exact ae rfl | exact aa #[A] | exact aa (aa rfl)) #[D] #[D])]],#[zy]],#[ze,#[zC,7,z6.nd,#[A],#[zaa,#[zd]]],#[ze,#[zgN,eW,#[zc6,T.range_,#[ya,(@L2.pv _ 2 _ _ (by rfl) (by first | exact ae rfl | exact aa #[A] | exact aa (aa rfl)) #[D] #[D])]],#[zr,8,z6.nd,#[A]],#[ze,#[zC,9,z6.nd,#[A],#[zt,#[za8],#[zt,#[zas],(@L2.pv _ 5 _ _ (by rfl) (by first | exact ae rfl | exact aa #[A] | exact aa (aa rfl)) #[D] #[D]),#[zZ,#[zcG],(@L2.pv _ 4 _ _ (by rfl) (by first | exact ae rfl | exact aa #[A] | exact aa (aa rfl)) #[D] #[D]),#[zt,#[zas],(@L2.pv _ 8 _ _ (by rfl) (by first | exact ae rfl | exact aa #[A] | exact aa (aa rfl)) #[D] #[D]),#[zh]]]],#[zt,#[zaK],#[zh],#[zt,#[za8],#[zt,#[za8],#[zh],(@L2.pv _ 8 _ _ (by rfl) (by first | exact ae rfl | exact aa #[A] | exact aa (aa rfl)) #[D] #[D])],(@L2.pv _ 8 _ _ (by rfl) (by first | exact ae rfl | exact aa #[A] | exact aa (aa rfl)) #[D] #[D])]]]],#[ze,#[zC,9,z6.nd,#[A],#[zt,#[zaK],#[zt,#[zaK],(@L2.pv _ 9 _ _ (by rfl) (by first | exact ae rfl | exact aa #[A] | exact aa (aa rfl)) #[D] #[D]),#[zt,#[za8],#[zt,#[za8],#[zh],#[zt,#[zaK],(@L2.pv _ 8 _ _ (by rfl) (by first | exact ae rfl | exact aa #[A] | exact aa (aa rfl)) #[D] #[D]),#[zh]]],#[zt,#[zaK],(@L2.pv _ 8 _ _ (by rfl) (by first | exact ae rfl | exact aa #[A] | exact aa (aa rfl)) #[D] #[D]),#[zh]]]],#[zt,#[za8],#[zh],(@L2.pv _ 1 _ _ (by rfl) (by first | exact ae rfl | exact aa #[A] | exact aa (aa rfl)) #[D] #[D])]]],#[ze,#[zC,9,z6.nd,#[A],#[zt,#[zas],(@L2.pv _ 9 _ _ (by rfl) (by first | exact ae rfl | exact aa #[A] | exact aa (aa rfl)) #[D] #[D]),#[zZ,#[zcG],(@L2.pv _ 4 _ _ (by rfl) (by first | exact ae rfl | exact aa #[A] | exact aa (aa rfl)) #[D] #[D]),#[zt,#[zas],#[zt,#[zaK],#[zt,#[za8],#[zh],(@L2.pv _ 8 _ _ (by rfl) (by first | exact ae rfl | exact aa #[A] | exact aa (aa rfl)) #[D] #[D])],(@L2.pv _ 1 _ _ (by rfl) (by first | exact ae rfl | exact aa #[A] | exact aa (aa rfl)) #[D] #[D])],#[zh]]]]],#[ze,#[zC,9,z6.nd,#[A],#[zt,#[zas],#[zt,#[za8],#[zt,#[za8],(@L2.pv _ 9 _ _ (by rfl) (by first | exact ae rfl | exact aa #[A] | exact aa (aa rfl)) #[D] #[D]),(@L2.pv _ 9 _ _ (by rfl) (by first | exact ae rfl | exact aa #[A] | exact aa (aa rfl)) #[D] #[D])],(@L2.pv _ 9 _ _ (by rfl) (by first | exact ae rfl | exact aa #[A] | exact aa (aa rfl)) #[D] #[D])],#[zZ,#[zcG],(@L2.pv _ 4 _ _ (by rfl) (by first | exact ae rfl | exact aa #[A] | exact aa (aa rfl)) #[D] #[D]),#[zt,#[zas],#[zt,#[zaK],(@L2.pv _ 8 _ _ (by rfl) (by first | exact ae rfl | exact aa #[A] | exact aa (aa rfl)) #[D] #[D]),#[zh]],#[zh]]]]],#[ze,#[zY,#[zB,#[zfY],(@L2.pv _ 6 _ _ (by rfl) (by first | exact ae rfl | exact aa #[A] | exact aa (aa rfl)) #[D] #[D]),#[zh],(zI _)],#[zk,#[zC,9,z6.nd,#[A],(@L2.pv _ 6 _ _ (by rfl) (by first | exact ae rfl | exact aa #[A] | exact aa (aa rfl)) #[D] #[D])]],#[zy]],#[ze,#[zam,#[zcz,aX,cg,ci,#[zcj],(@L2.pv _ 7 _ _ (by rfl) (by first | exact ae rfl | exact aa #[A] | exact aa (aa rfl)) #[D] #[D]),#[ya,#[zt,#[zas],(@L2.pv _ 9 _ _ (by rfl) (by first | exact ae rfl | exact aa #[A] | exact aa (aa rfl)) #[D] #[D]),(@L2.pv _ 3 _ _ (by rfl) (by first | exact ae rfl | exact aa #[A] | exact aa (aa rfl)) #[D] #[D])]]]],#[zk,#[zC,6,z6.nd,#[A],#[zt,(@zll _),(@L2.pv _ 6 _ _ (by rfl) (by first | exact ae rfl | exact aa #[A] | exact aa (aa rfl)) #[D] #[D]),(@L2.pv _ 3 _ _ (by rfl) (by first | exact ae rfl | exact aa #[A] | exact aa (aa rfl)) #[D] #[D])]]]]]]]]]],#[zk,#[zF,(@L2.pv _ 7 _ _ (by rfl) (by first | exact ae rfl | exact aa #[A] | exact aa (aa rfl)) #[D] #[D])]]]]]]]],?_⟩;refine⟨by show 8≤sizeLine; rw [aM]; decide,fun tp ht=>?_⟩;have s1:zJ H (upd H tp (.tup zlB)):=zf ht;refine (iq rfl (iq rfl (ex3 a ns k ⟨rfl,s1.seq hS,iJ,k0,k1,fun c=>?_⟩)));refine (iq rfl (iD rfl rfl ⟨⟨#[D],#[D],#[D]⟩,(iD rfl rfl (iq rfl ?_))⟩));refine zcu (fun _=>(iq rfl ?_)) (fun _=>?_)
  all_goals
   refine⟨cc _,fun l hl=>?_⟩;have p9:H l=none:=zJ.free s1 hl;have pW:tp≠l:=zi zb hl;refine⟨_,rfl,many,rfl,#[O],#[O],zhV (lo:=0) (n:=many.toNat) (fun i σ H'=>∃ (r:Int) (v8 v9:Option V) (ds:List Int),σ = [some (.ref a),some (.int k),some (.int many),some (.int bs),some (.ref tp),some (.int c),some (.int r),some (.ref l),v8,v9]∧zhJ i bs ds∧zJ H H'∧H' tp=some (.tup zlB)∧H' l=some (.lst (ds.map V.int)))
    ⟨_,none,none,[],rfl,⟨rfl,#[M]⟩,zdd s1 p9,by rw [zc pW]; exact zb,zb⟩ ?_ ?_⟩
   ·rintro i σ H2 hi ⟨r,v8,v9,ds,rfl,hd,s2,ou,m4⟩;obtain⟨q1,e1,q1p,q1l⟩:=zdR (0+(i:Int));obtain⟨q2,e2,q2p,q2l⟩:=zdR (3*(0+(i:Int))+k);obtain⟨q3,e3,q3p,q3l⟩:=zdR (0+(i:Int)+5);have c1:=be c (show q1≠0 by lia);have c2:=aU c q1p;have sk:(i:Int) < 1000:=by lia
    refine (iq rfl (iq rfl (iq rfl (iD rfl rfl ⟨(by show (0:Int) < 8; decide),tp,_,_,_,rfl,rfl,iI.of ou,e1,(iD rfl rfl ⟨q1p,(iq rfl (iD rfl rfl ⟨.inl ⟨#[D],#[D]⟩,(iq rfl (iD rfl rfl ⟨.inl ⟨#[O],#[O]⟩,(iD rfl rfl (iD rfl rfl ⟨.inl ⟨#[O],#[O]⟩,?_⟩))⟩))⟩))⟩)⟩))));refine (iq rfl (iq rfl (iD rfl rfl (iD rfl rfl ⟨.inl ⟨#[D],#[D]⟩,(iq rfl (iD rfl rfl (iD rfl rfl ⟨.inl ⟨#[O],#[O]⟩,(iD rfl rfl (iq rfl (iD rfl rfl ⟨.inl ⟨#[D],#[D]⟩,(iD rfl rfl ?_)⟩)))⟩)))⟩))));refine (iq rfl (iq rfl (iq rfl (iD rfl rfl ⟨.inl ⟨#[D],#[D]⟩,(iq rfl (iD rfl rfl (iD rfl rfl ⟨(by show (0:Int) < 8; decide),tp,_,_,_,rfl,rfl,iI.of ou,e2,(iD rfl rfl ⟨q2p,?_⟩)⟩)))⟩))));generalize c % q1*(48271+2*(0+(i:Int))*(0+(i:Int)))+7919*(0+(i:Int)+1)*(0+(i:Int)+1)+104729*k=ms;have d1:=be ms (show q2≠0 by lia);have d2:=aU ms q2p;refine (iq rfl (iq rfl (iD rfl rfl ⟨.inl ⟨#[O],#[O]⟩,(iq rfl (iD rfl rfl ⟨.inr ⟨#[O],#[O]⟩,(iq rfl (iq rfl (iD rfl rfl (iD rfl rfl ⟨(by show (0:Int) < 8; decide),tp,_,_,_,rfl,rfl,iI.of ou,e3,(iD rfl rfl ⟨q3p,?_⟩)⟩))))⟩))⟩)));refine (iq rfl (iD rfl rfl (iq rfl ?_)));have lV:=hd.1;refine zcu (fun _=>(iq rfl ?_)) (fun _=>?_)
    all_goals
     refine⟨_,rfl,.inl ⟨rfl,_,iw.of m4⟩,_,rfl,_,rfl,_,_,rfl,rfl,b0,l,_,_,rfl,rfl,m4,zaX (by rw [ah]; lia),?_⟩;refine (iq rfl (iq rfl (iD rfl rfl ⟨⟨b0,b1⟩,?_⟩)));refine (ex4 _ _ _ (ds++[_]) ⟨rfl,⟨by rw [bc,lV]; rfl,fun d hm=>?_⟩,zdd s2 p9,by rw [zc pW]; exact ou,by rw [zb,bR]; rfl⟩); rcases bt.mp hm with hm | hm
     ·exact hd.2 d hm
     ·have e:=bo.mp hm;rw [e];exact⟨be _ #[O],aU _ b0⟩
   ·rintro σ H2 ⟨r,v8,v9,ds,rfl,hd,s2,ou,m4⟩;exact (iq rfl (q l ds H2 p9 s2 hd m4))
theorem zaZ:FnScope ["script","at","most_k","most_n","plan","primes","p","k","many","left"] ["script","at","most_k","most_n"] (zj zbG):=#[S]
theorem zis {fd:FuncData} (T:Txt K mg t) (F:Fun K "_law_code" "_law_code" zbG t.l_code fd):FnOk P w K mg base CX0 3 t.l_code fd ["script","at","most_k","most_n"] (zh7 K):=by
 obtain⟨kY,iU,jq⟩:=T.f_l_draws;have jr:=zd4 (P:=P) (w:=w) (base:=base) T iU;refine F.ok zaZ (fun vs H Q E h=>?_) (fun iy A outer s H vs Q E hr h=>?_)
 ·obtain⟨a,ns,at',mk,mn,rfl,_⟩:=h;rfl
 ·obtain⟨a,ns,at',mk,mn,rfl,hS,iJ,a0,a1,k1,k5,kn,n16,q⟩:=h;refine⟨_,#[ze,#[zC,4,zaZ.nd,(aa rfl),#[zH,jr,(hr.mono #[D]),T.m_l_draws,iU.kp,jq,#[z7],#[za,(@L2.pv _ 0 _ _ (by rfl) (by first | exact ae rfl | exact aa #[A] | exact aa (aa rfl)) #[D] #[D]),by exact #[za,(@L2.pv _ 1 _ _ (by rfl) (by first | exact ae rfl | exact aa #[A] | exact aa (aa rfl)) #[D] #[D]),#[za,#[zh],#[ya,#[zh]]]]]]],(by exact (@zjv _ 5 _ _ _ _ _ _ _ [5,7,11,13,17,19,23,29,31,37,41,43,47,53,59,61,67,71,73,79,83,89,97] #[N] zaZ.nd rfl #[A] (by first | exact .inl rfl | exact .inr rfl) (by exact #[ze,#[zC,6,zaZ.nd,#[A],#[zZ,#[zM],#[zaa,#[za,#[zZ,#[zM],(@L2.pv _ 5 _ _ (by rfl) (by first | exact ae rfl | exact aa #[A] | exact aa (aa rfl)) #[D] #[D]),#[zt,#[zas],#[zZ,#[zM],(@L2.pv _ 4 _ _ (by rfl) (by first | exact ae rfl | exact aa #[A] | exact aa (aa rfl)) #[D] #[D]),#[zh]],#[zh]]],#[ya,#[zZ,#[zM],(@L2.pv _ 5 _ _ (by rfl) (by first | exact ae rfl | exact aa #[A] | exact aa (aa rfl)) #[D] #[D]),#[zt,#[zas],#[zZ,#[zM],(@L2.pv _ 4 _ _ (by rfl) (by first | exact ae rfl | exact aa #[A] | exact aa (aa rfl)) #[D] #[D]),#[zh]],#[zh]]]]]],#[zt,#[zas],#[zZ,#[zM],(@L2.pv _ 4 _ _ (by rfl) (by first | exact ae rfl | exact aa #[A] | exact aa (aa rfl)) #[D] #[D]),#[zh]],#[zh]]]],#[ze,#[zC,7,zaZ.nd,#[A],#[zt,#[zaK],#[zh],#[zt,#[zas],#[zZ,#[zM],(@L2.pv _ 4 _ _ (by rfl) (by first | exact ae rfl | exact aa #[A] | exact aa (aa rfl)) #[D] #[D]),#[zh]],#[zm,#[zeI],T.min_,boot_min,#[za,(@L2.pv _ 2 _ _ (by rfl) (by first | exact ae rfl | exact aa #[A] | exact aa (aa rfl)) #[D] #[D]),#[ya,(@L2.pv _ 6 _ _ (by rfl) (by first | exact ae rfl | exact aa #[A] | exact aa (aa rfl)) #[D] #[D])]]]]]],#[ze,#[zC,8,zaZ.nd,#[A],#[zt,#[zaK],(@L2.pv _ 7 _ _ (by rfl) (by first | exact ae rfl | exact aa #[A] | exact aa (aa rfl)) #[D] #[D]),#[zt,#[zas],#[zZ,#[zM],(@L2.pv _ 4 _ _ (by rfl) (by first | exact ae rfl | exact aa #[A] | exact aa (aa rfl)) #[D] #[D]),#[zh]],#[zt,#[zaK],#[zt,#[zb2],#[zm,#[zeI],T.min_,boot_min,#[za,(@L2.pv _ 3 _ _ (by rfl) (by first | exact ae rfl | exact aa #[A] | exact aa (aa rfl)) #[D] #[D]),#[ya,(@L2.pv _ 6 _ _ (by rfl) (by first | exact ae rfl | exact aa #[A] | exact aa (aa rfl)) #[D] #[D])]]],(@L2.pv _ 7 _ _ (by rfl) (by first | exact ae rfl | exact aa #[A] | exact aa (aa rfl)) #[D] #[D])],#[zh]]]]],#[ze,#[zC,9,zaZ.nd,(aa rfl),#[zaM,(@zeq _ rfl),T.list_,boot_list,#[ya,#[zaM,(@zga _),T.range_,gL,#[ya,(@L2.pv _ 6 _ _ (by rfl) (by first | exact ae rfl | exact aa #[A] | exact aa (aa rfl)) #[D] #[D])]]]]],#[zk,#[zF,#[zaL,#[za,(@L2.pv _ 6 _ _ (by rfl) (by first | exact ae rfl | exact aa #[A] | exact aa (aa rfl)) #[D] #[D]),#[za,(@L2.pv _ 7 _ _ (by rfl) (by first | exact ae rfl | exact aa #[A] | exact aa (aa rfl)) #[D] #[D]),#[ya,#[zaM,#[zcy],T.tuple_,fE,#[ya,#[zaQ,(CompSc.of (N':=["j","left","plan"]) (ix:=[none,some 9,some 4]) (zj zbG) ["script","at","most_k","most_n","plan","primes","p","k","many","left"] rfl rfl #[N]),#[zaP],#[zc6,T.range_,#[ya,(@L2.pv _ 8 _ _ (by rfl) (by first | exact ae rfl | exact aa #[A] | exact aa (aa rfl)) #[D] #[D])]],(fun _ _ _ _=>#[zr,0,(show (["j","left","plan"]:List Str).Nodup from #[N]),#[A]]),(fun _ _ _ _=>#[zaB]),(fun _ _ _ _=>(@znd _ (K) _ _ _ _ _ _ _ _ _ _ _ rfl aX dq dt (@zjk _) (@L2.pv _ 1 _ _ (by rfl) (by first | exact ae rfl | exact aa #[A] | exact aa (aa rfl)) #[D] #[D]) #[ya,#[zt,#[zas],#[zZ,#[zdQ,(K)],(@L2.pv _ 2 _ _ (by rfl) (by first | exact ae rfl | exact aa #[A] | exact aa (aa rfl)) #[D] #[D]),#[zt,#[zaK],#[zh],(@L2.pv _ 0 _ _ (by rfl) (by first | exact ae rfl | exact aa #[A] | exact aa (aa rfl)) #[D] #[D])]],#[zm,(@zer _ (K) rfl),T.len_,bf,#[ya,(@L2.pv _ 1 _ _ (by rfl) (by first | exact ae rfl | exact aa #[A] | exact aa (aa rfl)) #[D] #[D])]]]] (by rfl) (by rfl) (by rfl) (by rfl) (by rfl)))]]]]]]]]]]]]])))],?_⟩;refine (iq rfl (iq rfl (ex5 a ns at' 20 27720 ⟨rfl,hS,iJ,a0,a1,#[D],#[D],#[D],#[D],fun l ds H1 hl s1 hd ju=>?_⟩)));have lV:ds.length=20:=hd.1;have dat:∀ m:Int,0≤m→m < 20→∃ c:Int,atI (ds.map V.int) m=some (.int c):=fun m h0 h1=>zdH h0 #[O]
  refine⟨by show 23≤sizeLine; rw [aM]; decide,fun pr oU=>?_⟩;have sI:l≠pr:=zi ju oU;obtain⟨d0,ed0⟩:=dat 0 #[D] #[D];obtain⟨d1,ed1⟩:=dat 1 #[D] #[D];obtain⟨d2,ed2⟩:=dat 2 #[D] #[D];obtain⟨d3,ed3⟩:=dat 3 #[D] #[D];have qL:(upd H1 pr (.lst (zab.map V.int))) l=some (.lst (ds.map V.int)):=by rw [zc sI]; exact ju
  obtain⟨p1,mp1,ep1⟩:=zjw (ns:=zab) (k:=d0 % 23) (be _ #[D]) (aU _ #[D]);obtain⟨p2,mp2,ep2⟩:=zjw (ns:=zab) (k:=d0 % 3) (be _ #[D]) (by have:=aU d0 (show (0:Int) < 3 by decide); have e:(zab.length:Int)=23:=rfl; lia);obtain⟨p,ep,om⟩:=zne (x:=p1) (y:=p2) (m:=d1 % 2) (be _ #[D]) (aU _ #[D]);have mp:p∈zab:=by rcases om with e | e <;> rw [e] <;> assumption
  have rp:=zcm mp;refine⟨_,rfl,_,rfl,l,_,_,_,rfl,rfl,iw.of qL,ed0,_,_,rfl,rfl,(by show (0:Int) < 23; decide),pr,_,_,_,rfl,rfl,iw.of zb,ep1,
   _,rfl,_,rfl,l,_,_,_,rfl,rfl,iw.of qL,ed0,_,_,rfl,rfl,(by show (0:Int) < 3; decide),pr,_,_,_,rfl,rfl,iw.of zb,ep2,zdp,fun l2 lz=>?_⟩
  have sJ:l≠l2:=zi qL lz;have oV:(upd (upd H1 pr (.lst (zab.map V.int))) l2 (.lst [.int p1,.int p2])) l=some (.lst (ds.map V.int)):=by rw [zc sJ]; exact qL
  refine (iq rfl (ex4 l _ _ _ ⟨rfl,rfl,iw.of oV,ed1,(iD rfl rfl ⟨(by show (0:Int) < 2; decide),l2,_,_,_,rfl,rfl,iw.of zb,ep,?_⟩)⟩));have qa:(0:Int) < (if p < mk then p else mk):=by split <;> lia
  have sL:(if p < mk then p else mk)≤mk:=by split <;> lia
  have sM:(if p < mk then p else mk)≤p:=by split <;> lia
  refine⟨_,rfl,l,_,_,_,rfl,rfl,iw.of oV,ed2,_,rfl,_,rfl,_,_,rfl,_,_,rfl,rfl,qa,_,_,rfl,rfl,?_⟩;generalize (if p < mk then p else mk)=mm at qa sL sM ⊢;have hk0:=be d2 (show mm≠0 by lia);have hk1:=aU d2 qa;have hn1:(if p < mn then p else mn)≤mn:=by split <;> lia
  have oJ:(if p < mn then p else mn)≤p:=by split <;> lia
  have hn3:mm≤(if p < mn then p else mn):=by split <;> lia
  refine (iq rfl (iq rfl (ex4 l _ _ _ ⟨rfl,rfl,iw.of oV,ed3,(iq rfl (iq rfl ⟨_,_,rfl,(iq rfl (iD rfl rfl (iD rfl rfl (iD rfl rfl ⟨#[O],(iD rfl rfl ?_)⟩))))⟩))⟩)));generalize (if p < mn then p else mn)=nn at hn1 oJ hn3 ⊢;have hq0:=be d3 (show nn - (1+d2 % mm)+1≠0 by lia);have oa:=aU d3 (show 0 < nn - (1+d2 % mm)+1 by lia);refine (iq rfl ⟨p,rfl,fun r qb=>⟨r,p,rfl,zb,#[O],#[O],fun lf sN=>?_⟩⟩);have qM:l≠r:=zi oV qb;have qc:l≠lf:=by
   refine zi (H:=upd (upd (upd H1 pr (.lst (zab.map V.int))) l2 (.lst [.int p1,.int p2])) r (.rng 0 p)) (o:=.lst (ds.map V.int)) ?_ sN;rw [zc qM]; exact oV
  have sA:zJ H (upd (upd H1 pr (.lst (zab.map V.int))) l2 (.lst [.int p1,.int p2])):=(s1.trans (zf oU)).trans (zf lz);have sB:=(sA.trans (zf (o:=.rng 0 p) qb)).trans (zf (o:=.lst ((zby 0 p.toNat).map V.int)) sN);have sO:H lf=none:=(sA.trans (zf (o:=.rng 0 p) qb)).free sN;obtain⟨nd0,rg0⟩:=zh8 p;refine⟨_,rfl,_,rfl,_,rfl,_,rfl,#[O],#[O],zcl (n:=(1+d2 % mm+d3 % (nn - (1+d2 % mm)+1)).toNat) (fun i ys H'=>∃ xs ls:List Int,ys=xs.map V.int∧xs.length=i∧zJ H H'∧H' l=some (.lst (ds.map V.int))∧H' lf=some (.lst (ls.map V.int))∧ls.length+i=p.toNat∧(xs++ls).Nodup∧∀ y∈xs++ls,0≤y∧y < p)
   ⟨[],zby 0 p.toNat,rfl,rfl,sB,by rw [zc qc,zc qM]; exact oV,zb,by rw [zcB]; rfl,by simpa using nd0,by simpa using rg0⟩ (fun i ys H' hi _=>hi) (fun ys H' _=>ak _) ?_ ?_⟩
  ·rintro i x ys H4 H5 hi ⟨xs,ls,rfl,hxl,s4,ow,m5,sx,nd,rg⟩ ⟨rfl,rfl⟩;refine gY ?_;obtain⟨c,ec⟩:=dat (4+(0+(i:Int))) #[O] #[O];have lpos:0 < ls.length:=by lia
   have lm:((ls.map V.int).length:Int)=(ls.length:Int):=by rw [ah]
   have c0:=be c (show (ls.length:Int)≠0 by lia);have c1:=aU c (show (0:Int) < ls.length by lia);have kz:=aM;obtain⟨y,ey⟩:∃ y,ls[(c % (ls.length:Int)).toNat]? = some y:=⟨ls[(c % (ls.length:Int)).toNat]'#[O],#[M]⟩;refine (iq rfl ⟨.inl ⟨rfl,_,iw.of m5⟩,(iq rfl (iq rfl (iD rfl rfl (ex4 l _ _ _ ⟨rfl,rfl,iw.of ow,ec,(iq rfl ⟨lf,(iq rfl ⟨.inl (iw.of m5),(iD rfl rfl ⟨(by rw [lm]; lia),lf,_,_,(c % (ls.length:Int)).toNat,.int y,rfl,rfl,m5,?_⟩)⟩)⟩)⟩))))⟩);rw [lm];refine⟨#[O],#[O],by rw [ah]; exact eY c0 c1,by rw [aw,ey]; rfl,zaX (by rw [ah]; lia),xs++[y],ls.eraseIdx (c % (ls.length:Int)).toNat,by rw [bR]; rfl,by rw [bc,hxl]; rfl,zdd s4 sO,by rw [zc qc]; exact ow,by rw [zb,zeT],?_,zlD ey nd rg⟩;rw [List.length_eraseIdx];split <;> lia
  ·rintro ys H4 D ⟨xs,ls,rfl,hxl,s4,ow,m5,sx,nd,rg⟩ hD;refine⟨D,(iq rfl (.inl ⟨iw.of zb,fun tt sP=>⟨by show 3≤sizeLine; rw [aM]; decide,fun c hc=>?_⟩⟩))⟩;have s5:=(s4.trans (zf (o:=.lst (xs.map V.int)) hD)).trans (zf (o:=.tup (xs.map V.int)) sP);refine q c tt p _ xs _ (s5.free hc) (s5.trans (zf hc)) ⟨mp,#[O],#[O],#[O],#[O],(gr.mp nd).1,fun y hy=>rg y (aJ _ hy)⟩ zb ?_;rw [zc (zi zb hc)];exact zb
theorem zgl:FnScope ["thing"] ["thing"] (zj zbi):=#[S]
theorem zcf {fd:FuncData} (T:Txt K mg t) (F:Fun K "is_whole" "is_whole" zbi t.is_whole fd):FnOk P w K mg base CX0 1 t.is_whole fd ["thing"] (zfo K):=by
 refine F.ok zgl (fun vs H Q E h=>?_) (fun iy A outer s H vs Q E hr h=>?_)
 ·obtain⟨v,rfl,_⟩:=h;rfl
 ·obtain⟨v,rfl,hv,q⟩:=h;refine⟨_,#[zk,#[zF,#[zi4,#[zm,#[zaN],T.isinstance_,aO,#[za,(@L2.pv _ 0 _ _ (by rfl) (by first | exact ae rfl | exact aa #[A] | exact aa (aa rfl)) #[D] #[D]),#[ya,#[zbL,(.ty "int"),T.int_,boot_int]]]],#[zgJ,(@zmU _ _ _ _ #[zm,#[zaN],T.isinstance_,aO,#[za,(@L2.pv _ 0 _ _ (by rfl) (by first | exact ae rfl | exact aa #[A] | exact aa (aa rfl)) #[D] #[D]),#[ya,#[zbL,(.ty "bool"),T.bool_,boot_bool]]]])]]]],?_⟩;obtain⟨ty,ht,hi,hb,_⟩:=zng (K:=K) hv;refine (iq rfl (ex4 _ _ _ _ ⟨rfl,ht,hi,(iq rfl ?_)⟩));refine zcu (fun h=>(iq rfl (ex4 _ _ _ _ ⟨rfl,ht,hb,(iq rfl ?_)⟩))) (fun h=>?_)
  ·have e:isW v = !isB v:=by cases v <;> simp_all [isI,isB,isW]
   rw [← e];exact q
  ·have e:isW v=false:=by cases v <;> simp_all [isI,isB,isW]
   rw [← e];exact q
theorem zfw:FnScope ["p","thing"] ["p","thing"] (zj za2):=#[S]
theorem zbS {fd:FuncData} (T:Txt K mg t) (F:Fun K "is_number" "is_number" za2 t.is_number fd):FnOk P w K mg base CX0 2 t.is_number fd ["p","thing"] (zfp K):=by
 obtain⟨jx,iB,iP⟩:=T.f_is_whole;have iQ:=zcf (P:=P) (w:=w) (base:=base) T iB;refine F.ok zfw (fun vs H Q E h=>?_) (fun iy A outer s H vs Q E hr h=>?_)
 ·obtain⟨p,v,rfl,_⟩:=h;rfl
 ·obtain⟨p,v,rfl,hv,q⟩:=h;refine⟨_,#[zk,#[zF,#[zi4,#[zH,iQ,(hr.mono #[D]),T.m_is_whole,iB.kp,iP,#[z7],#[ya,(@L2.pv _ 1 _ _ (by rfl) (by first | exact ae rfl | exact aa #[A] | exact aa (aa rfl)) #[D] #[D])]],#[zgJ,(@zjc _ _ _ _ _ _ _ _ _ _ _ _ #[zcN] #[zhD] #[zh] (@L2.pv _ 1 _ _ (by rfl) (by first | exact ae rfl | exact aa #[A] | exact aa (aa rfl)) #[D] #[D]) (@L2.pv _ 0 _ _ (by rfl) (by first | exact ae rfl | exact aa #[A] | exact aa (aa rfl)) #[D] #[D]) (by with_unfolding_all rfl))]]]],?_⟩;refine (iq rfl ⟨v,rfl,hv,(iq rfl ?_)⟩);refine zcu (fun h=>?_) (fun h=>?_)
  ·obtain⟨i,rfl⟩:=zlF h;refine (iq rfl (iD rfl rfl (iq rfl ?_)));refine zcu (fun h0=>(iq rfl (iD rfl rfl ?_))) (fun h0=>?_)
   ·have e:zfn p (.int i)=decide (i < p):=by simp only [zfn]; rw [h0]; rfl
    rw [e] at q;exact q
   ·have e:zfn p (.int i)=false:=by simp only [zfn]; rw [Bool.eq_false_iff.mpr h0]; rfl
    rw [e] at q;exact q
  ·have e:zfn p v=false:=by cases v <;> simp_all [zfn,isW]
   rw [← e];exact q
end
section
variable {P:Program} {w:World} {K:af} {mg:Str→Option Value} {base:Heap} {t:Adr}
section
variable (t:Adr)
def zlT (K:af):Sp:=fun vs H Q _=>∃ (p dx c tt:Addr) (sl pp k:Int) (pl:List Int),vs = [.ref p,.ref c,.int sl]∧H p=some (.ins t.Listener dx [])∧H dx=some (.own p)∧zbY K H c tt pp k pl∧pl.length≤16 ∧
 ∀ (S:List Addr) (H':Hp),Ls K t.Listener H' S p c pp sl (aq pl.length none) [] []→(∀ b o,H b=some o→b≠p→H' b=some o)→(∀ b∈S,b=p∨H b=none)→Q .non H'
def zd5 (K:af):Sp:=fun vs H Q E=>∃ (S:List Addr) (p c:Addr) (pp sl n:Int) (es:Rw) (ds us:List Dt),vs = [.ref p,.int n]∧Ls K t.Listener H S p c pp sl es ds us∧es.length≤16 ∧
 (inB es n=false→E (.ref t.NoPlace) none H)∧(inB es n=true→Q .non H)
def Goes (K:af) (t:Adr) (H:Hp) (S:List Addr) (p c:Addr) (pp sl:Int) (es:Rw) (ds us:List Dt) (Q:VK):Prop:=∀ (S':List Addr) (H':Hp),Ls K t.Listener H' S' p c pp sl es ds us→zJ (hid S H) (hid S' H')→(∀ b∈S',b∈S∨H b=none)→Q .non H'
def zit (K:af):Sp:=fun vs H Q _=>∃ (S:List Addr) (p c:Addr) (pp sl:Int) (n:Nat) (x b:Option Int) (es:Rw) (ds us:List Dt),vs = [.ref p,.int (n:Int),iA x]∧Ls K t.Listener H S p c pp sl es ds us∧es.length≤16∧ds.length≤1000∧es[n]? = some b ∧
 Goes K t H S p c pp sl (es.set n x) (ds++[(n,b,x)]) [] Q
def znt (t:Adr):Wd→Addr
 | .place=>t.NoPlace
 | .number=>t.NoNumber
 | .heard=>t.Heard
 | .notHeard=>t.NotHeard
 | .nothing=>t.NothingLeft
def zdg (K:af) (t:Adr) (H:Hp) (S:List Addr) (p c:Addr) (pp sl:Int) (es:Rw) (ds us:List Dt) (D:Dd) (Q:VK) (E:XK):Prop:=match stp pp es ds us D with
 | .inl w=>E (.ref (znt t w)) none H
 | .inr (j2,lW,lX)=>Goes K t H S p c pp sl j2 lW lX Q
def zlU (K:af):Sp:=fun vs H Q E=>∃ (S:List Addr) (p c:Addr) (pp sl n x:Int) (es:Rw) (ds us:List Dt),vs = [.ref p,.int n,.int x]∧Ls K t.Listener H S p c pp sl es ds us∧es.length≤16∧ds.length≤1000∧us.length≤1000∧zdg K t H S p c pp sl es ds us (.hear n x) Q E
def ziu (K:af):Sp:=fun vs H Q E=>∃ (S:List Addr) (p c:Addr) (pp sl n:Int) (es:Rw) (ds us:List Dt),vs = [.ref p,.int n]∧Ls K t.Listener H S p c pp sl es ds us∧es.length≤16∧ds.length≤1000∧us.length≤1000∧zdg K t H S p c pp sl es ds us (.forget n) Q E
def zlV (K:af):Sp:=fun vs H Q E=>∃ (S:List Addr) (p c:Addr) (pp sl:Int) (es:Rw) (ds us:List Dt),vs = [.ref p]∧Ls K t.Listener H S p c pp sl es ds us∧es.length≤16∧ds.length≤1000∧us.length≤1000∧(∀ d∈ds,d.1 < es.length)∧zdg K t H S p c pp sl es ds us .back Q E
def zjS (K:af):Sp:=fun vs H Q E=>∃ (S:List Addr) (p c:Addr) (pp sl:Int) (es:Rw) (ds us:List Dt),vs = [.ref p]∧Ls K t.Listener H S p c pp sl es ds us∧es.length≤16∧ds.length≤1000∧us.length≤1000∧(∀ d∈us,d.1 < es.length)∧zdg K t H S p c pp sl es ds us .again Q E
def znu (K:af):Sp:=fun vs H Q _=>∃ (S:List Addr) (p c:Addr) (pp sl:Int) (es:Rw) (ds us:List Dt),vs = [.ref p]∧Ls K t.Listener H S p c pp sl es ds us∧∀ l,H l=none→Q (.ref l) (upd H l (.lst (es.map iA)))
end
section
variable {P:Program} {w:World} {K:af} {mg:Str→Option Value} {base:Heap} {t:Adr}
theorem znv:FnScope ["self"] ["self"] (zj s_row):=#[S]
theorem zhb {fd:FuncData} (T:Txt K mg t) (F:Fun K "row" "Listener.row" s_row t.row fd):FnOk P w K mg base CX0 1 t.row fd ["self"] (znu t K):=by
 refine F.ok znv (fun vs H Q E h=>?_) (fun iy A outer s H vs Q E hr h=>?_)
 ·obtain⟨S,p,c,pp,sl,es,ds,us,rfl,_⟩:=h;rfl
 ·obtain⟨S,p,c,pp,sl,es,ds,us,rfl,L,q⟩:=h;obtain⟨dx,ea,da,ua,k,tt,dr,ur,rfl,h1,h2,h3,h4,h5,h6,h7,h8,h9,jw⟩:=L.ex;refine zb0 ?_; intro zX;refine⟨_,#[zk,#[zF,#[zaM,(@zff _),T.list_,boot_list,#[ya,#[zU,(@L2.pv _ 0 _ _ (by rfl) (by first | exact ae rfl | exact aa #[A] | exact aa (aa rfl)) #[D] #[D])]]]]],?_⟩;exact (iq rfl (ex5 p t.Listener dx _ _ ⟨rfl,h4,T.cl,T.na_entries,zae,ea,(iq rfl ⟨.inl (iw.of h5),q⟩)⟩))
theorem zd6:FnScope ["self","number"] ["self","number"] (zj zaG):=#[S]
theorem zbn {fd:FuncData} (T:Txt K mg t) (F:Fun K "check_place" "Listener.check_place" zaG t.check_place fd):FnOk P w K mg base (CX1 P w) 3 t.check_place fd ["self","number"] (zd5 t K):=by
 obtain⟨jl,iz,iL⟩:=T.f_is_number;have iM:=zbS (P:=P) (w:=w) (base:=base) T iz;refine F.okX zd6 (fun vs H Q E h=>?_) (fun iy A outer s H vs Q E hr h=>?_)
 ·obtain⟨S,p,c,pp,sl,n,es,ds,us,rfl,_⟩:=h;rfl
 ·obtain⟨S,p,c,pp,sl,n,es,ds,us,rfl,L,kZ,qE,qQ⟩:=h;obtain⟨dx,ea,da,ua,k,tt,dr,ur,rfl,h1,h2,h3,h4,h5,h6,h7,h8,h9,jw⟩:=L.ex;refine zb0 ?_; intro zX;refine⟨_,#[zk,#[zY,#[zaf,#[zaz,#[zH,iM,(hr.mono #[D]),T.m_is_number,iz.kp,iL,#[z7],#[za,#[zm,#[zv],T.len_,bf,#[ya,#[zU,(@L2.pv _ 0 _ _ (by rfl) (by first | exact ae rfl | exact aa #[A] | exact aa (aa rfl)) #[D] #[D])]]],#[ya,(@L2.pv _ 1 _ _ (by rfl) (by first | exact ae rfl | exact aa #[A] | exact aa (aa rfl)) #[D] #[D])]]]]],#[zk,#[zac,(fun _ _ _ _ _ _ _ _ I m q=>zN I m q),T.x_NoPlace,T.xi_NoPlace,#[zq]]],#[zy]]],?_⟩;refine (iq rfl (ex5 p t.Listener dx _ _ ⟨rfl,h4,T.cl,T.na_entries,zae,ea,(iq rfl ⟨.inl (iw.of h5),(iq rfl ⟨_,.int n,rfl,.int n,(iq rfl ?_)⟩)⟩)⟩));have e:zfn ((es.map iA).length:Int) (.int n)=inB es n:=by rw [ah]; rfl
  rw [e];cases hb:inB es n with
  | false =>
   refine zaA ?_;exact⟨rfl,qE hb⟩
  | true =>
   refine zag ?_;exact qQ hb
theorem ziv:FnScope ["self","number","entry"] ["self","number","entry"] (zj zcc):=#[S]
theorem ze1 {fd:FuncData} (T:Txt K mg t) (F:Fun K "change" "Listener.change" zcc t.change fd):FnOk P w K mg base CX0 1 t.change fd ["self","number","entry"] (zit t K):=by
 refine F.ok ziv (fun vs H Q E h=>?_) (fun iy A outer s H vs Q E hr h=>?_)
 ·obtain⟨S,p,c,pp,sl,n,x,b,es,ds,us,rfl,_⟩:=h;rfl
 ·obtain⟨S,p,c,pp,sl,n,x,b,es,ds,us,rfl,L,kZ,kF,hb,q⟩:=h;obtain⟨dx,ea,da,ua,k,tt,dr,ur,rfl,h1,h2,h3,h4,h5,h6,h7,h8,h9,jw⟩:=L.ex;refine zb0 ?_; intro zX;refine⟨_,#[ze,#[zam,#[zcz,aX,cg,ci,#[zcj],#[zU,(@L2.pv _ 0 _ _ (by rfl) (by first | exact ae rfl | exact aa #[A] | exact aa (aa rfl)) #[D] #[D])],#[ya,#[zaL,#[za,(@L2.pv _ 1 _ _ (by rfl) (by first | exact ae rfl | exact aa #[A] | exact aa (aa rfl)) #[D] #[D]),#[za,#[zZ,#[zM],#[zU,(@L2.pv _ 0 _ _ (by rfl) (by first | exact ae rfl | exact aa #[A] | exact aa (aa rfl)) #[D] #[D])],(@L2.pv _ 1 _ _ (by rfl) (by first | exact ae rfl | exact aa #[A] | exact aa (aa rfl)) #[D] #[D])],#[ya,(@L2.pv _ 2 _ _ (by rfl) (by first | exact ae rfl | exact aa #[A] | exact aa (aa rfl)) #[D] #[D])]]]]]]],#[ze,#[zb3,(@L2.pv _ 0 _ _ (by rfl) (by first | exact ae rfl | exact aa #[A] | exact aa (aa rfl)) #[D] #[D]),#[zaa,#[zd]]],#[zk,#[za7,(@L2.pv _ 2 _ _ (by rfl) (by first | exact ae rfl | exact aa #[A] | exact aa (aa rfl)) #[D] #[D]),#[zgK,#[zU,(@L2.pv _ 0 _ _ (by rfl) (by first | exact ae rfl | exact aa #[A] | exact aa (aa rfl)) #[D] #[D])],(@L2.pv _ 1 _ _ (by rfl) (by first | exact ae rfl | exact aa #[A] | exact aa (aa rfl)) #[D] #[D]),set_list]]]]],?_⟩;refine zm9 ?_; intro nH mo;have kz:=aM;have sQ:=(aC.mp hb).1;refine⟨_,rfl,p,t.Listener,dx,_,_,rfl,h4,T.cl,T.na_deeds,zbu,.inl ⟨rfl,_,iw.of h6⟩,_,rfl,_,rfl,p,t.Listener,dx,_,_,rfl,h4,T.cl,T.na_entries,zae,_,rfl,ea,_,_,iA b,rfl,rfl,iw.of h5,zci (by rw [aw,hb]; rfl),_,rfl,by show 3≤sizeLine; lia,fun u hu=>?_⟩;have t1:=zf (o:=.tup [.int (n:Int),iA b,iA x]) hu;refine⟨da,_,_,rfl,rfl,t1 _ _ h6,by rw [ah,h8.1]; lia,?_⟩;have lY:p≠da:=zaO h4 h6 (by intro z; cases z);have nI:p≠ea:=zaO h4 h5 (by intro z; cases z);have npu:p≠u:=zi h4 hu;refine⟨by show 0≤sizeLine; lia,fun z hz=>?_⟩;have sR:z≠da:=fun e=>by rw [e,zb] at hz; cases hz
  rw [zc sR] at hz;have zu:z≠u:=fun e=>by rw [e,zb] at hz; cases hz
  rw [zc zu] at hz;have npz:p≠z:=zi h4 hz;have sS:ea≠z:=zi h5 hz;have sU:ea≠u:=zi h5 hu;refine⟨_,rfl,p,t.Listener,dx,_,rfl,by rw [zc npz,zc lY,zc npu]; exact h4,T.cl,T.na_undone,by show 5 < 1000; decide,?_⟩;rw [zim];refine⟨_,rfl,_,rfl,p,t.Listener,dx,_,_,rfl,zb,T.cl,T.na_entries,zae,_,rfl,ea,_,_,n,rfl,rfl,by rw [zc nI.symm,zc sS,zc h1,zc sU]; exact h5,zfk (by rw [ah]; exact sQ),?_⟩;have kp:∀ a o,H a=some o→a≠p→a≠ea→a≠da→upd (upd (upd (upd (upd H u (.tup [.int (n:Int),iA b,iA x])) da (.lst (dr.map V.ref++[.ref u]))) z (.lst [])) p (.ins t.Listener dx (fl c sl ea da z))) ea (.lst ((es.map iA).set n (iA x))) a=some o:=fun a o e n1 n2 n3=>by
   rw [zc n2,zc n1,zc (zi e hz),zc n3,zc (zi e hu)];exact e
  have tp:∀ a xs,H a=some (.tup xs)→a≠p∧a≠ea∧a≠da:=fun a xs e=>⟨zaO e h4 (by intro z; cases z),zaO e h5 (by intro z; cases z),zaO e h6 (by intro z; cases z)⟩
  refine q [p,ea,da,z] _ ⟨dx,ea,da,z,k,tt,dr++[u],[],rfl,h1,sS,sR.symm,by rw [zc nI]; exact zb,by rw [zb,gg],by rw [zc h1.symm,zc lY.symm,zc sR.symm,zb,bR]; rfl,by rw [zc sS.symm,zc npz.symm,zb]; rfl,(h8.same fun a xs e=>kp a _ e (tp a xs e).1 (tp a xs e).2.1 (tp a xs e).2.2).snoc ?_,.nil,jw.kt fun e=>kp c _ e (tp c _ e).1 (tp c _ e).2.1 (tp c _ e).2.2⟩ (fun a o e=>?_) (fun a ha=>?_)
  ·have nue:u≠ea:=sU.symm;rw [zc sU.symm,zc npu.symm,zc zu.symm,zc (zi h6 hu).symm,zb];rfl
  ·obtain⟨e,hn⟩:=zcJ e;simp at hn;refine zcI (kp a o e hn.1 hn.2.1 hn.2.2.1) ?_;simp;exact⟨hn.1,hn.2.1,hn.2.2.1,zi e hz⟩
  ·simp at ha ⊢;rcases ha with rfl | rfl | rfl | rfl
   ·exact .inl (.inl rfl)
   ·exact .inl (.inr (.inl rfl))
   ·exact .inl (.inr (.inr (.inl rfl)))
   ·exact .inr hz
theorem zak {c ea da ua:Addr} {sl:Int} {m:Str} (h:m = "check_place"∨m = "change"∨m = "hear"∨m = "forget"∨m = "back"∨m = "again"∨m = "row"∨m = "sure"):(fl c sl ea da ua).lookup m=none:=by
 rcases h with rfl | rfl | rfl | rfl | rfl | rfl | rfl | rfl <;> exact zos #[N] #[N] #[N] #[N] #[N]
theorem zjT {es:Rw} {n:Int} (h:inB es n=true):∃ (m:Nat) (b:Option Int),n=(m:Int)∧n.toNat=m∧es[m]? = some b:=by
 unfold inB at h;simp only [aF,decide_eq_true_eq] at h;have hk:n.toNat < es.length:=by lia
 exact⟨n.toNat,es[n.toNat],#[O],rfl,#[M]⟩
theorem zlW:FnScope ["self","number","entry"] ["self","number","entry"] (zj zd1):=#[S]
theorem zfx {fd:FuncData} (T:Txt K mg t) (F:Fun K "hear" "Listener.hear" zd1 t.hear fd):FnOk P w K mg base (CX1 P w) 4 t.hear fd ["self","number","entry"] (zlU t K):=by
 obtain⟨jb,iE,iF⟩:=T.f_check_place;have iG:=zbn (P:=P) (w:=w) (base:=base) T iE;obtain⟨jl,iz,iL⟩:=T.f_is_number;have iM:=zbS (P:=P) (w:=w) (base:=base) T iz;obtain⟨lE,jJ,jK⟩:=T.f_change;have jL:=ze1 (P:=P) (w:=w) (base:=base) T jJ;refine F.okX zlW (fun vs H Q E h=>?_) (fun iy A outer s H vs Q E hr h=>?_)
 ·obtain⟨S,p,c,pp,sl,n,x,es,ds,us,rfl,_⟩:=h;rfl
 ·obtain⟨S,p,c,pp,sl,n,x,es,ds,us,rfl,L,kZ,kF,kN,q⟩:=h;obtain⟨dx,ea,da,ua,k,tt,dr,ur,eS,h1,h2,h3,h4,h5,h6,h7,h8,h9,jw⟩:=L.ex;refine zb0 ?_; intro zX;refine⟨_,#[ze,#[zam,#[zbe,(@L2.pv _ 0 _ _ (by rfl) (by first | exact ae rfl | exact aa #[A] | exact aa (aa rfl)) #[D] #[D]),T.cl,T.me_check_place,iG,(hr.mono #[D]),iF,#[zW],#[ya,(@L2.pv _ 1 _ _ (by rfl) (by first | exact ae rfl | exact aa #[A] | exact aa (aa rfl)) #[D] #[D])]]],#[ze,#[zY,#[zaf,#[zaz,#[zH,iM,(hr.mono #[D]),T.m_is_number,iz.kp,iL,#[z7],#[za,#[zZ,#[zcG],#[zU,(@L2.pv _ 0 _ _ (by rfl) (by first | exact ae rfl | exact aa #[A] | exact aa (aa rfl)) #[D] #[D])],#[zh]],#[ya,(@L2.pv _ 2 _ _ (by rfl) (by first | exact ae rfl | exact aa #[A] | exact aa (aa rfl)) #[D] #[D])]]]]],#[zk,#[zac,(fun _ _ _ _ _ _ _ _ I m q=>zN I m q),T.x_NoNumber,T.xi_NoNumber,#[zq]]],#[zy]],#[ze,#[zY,#[zB,#[zhE],#[zZ,#[zM],#[zU,(@L2.pv _ 0 _ _ (by rfl) (by first | exact ae rfl | exact aa #[A] | exact aa (aa rfl)) #[D] #[D])],(@L2.pv _ 1 _ _ (by rfl) (by first | exact ae rfl | exact aa #[A] | exact aa (aa rfl)) #[D] #[D])],#[zc4],(zI _)],#[zk,#[zac,(fun _ _ _ _ _ _ _ _ I m q=>zN I m q),T.x_Heard,T.xi_Heard,#[zq]]],#[zy]],#[zk,#[zam,#[zbe,(@L2.pv _ 0 _ _ (by rfl) (by first | exact ae rfl | exact aa #[A] | exact aa (aa rfl)) #[D] #[D]),T.cl,T.me_change,jL,(hr.mono #[D]),jK,#[z7],#[za,(@L2.pv _ 1 _ _ (by rfl) (by first | exact ae rfl | exact aa #[A] | exact aa (aa rfl)) #[D] #[D]),#[ya,(@L2.pv _ 2 _ _ (by rfl) (by first | exact ae rfl | exact aa #[A] | exact aa (aa rfl)) #[D] #[D])]]]]]]]],?_⟩;refine zlu ?_; intro qd nH mo;unfold zdg stp at q;dsimp only at q;refine (iq rfl (ex3 p dx _ ⟨rfl,h4,zak (.inl rfl),(iq rfl (ex9 S p c pp sl n es ds us ⟨rfl,L,kZ,fun hb=>?_,fun hb=>?_⟩))⟩))
  ·rw [if_pos hb] at q;exact q
  ·rw [if_neg (by simp [hb])] at q;refine (iq rfl (ex5 p t.Listener dx _ _ ⟨rfl,h4,T.cl,T.na_code,zcK,c,_,_,_,rfl,rfl,jw.sq,rfl,(iq rfl ⟨_,.int x,rfl,.int x,(iq rfl ?_)⟩)⟩));have e:zfn pp (.int x)=zdz pp x:=rfl;rw [e];cases hn:zdz pp x with
   | false =>
    rw [if_pos hn] at q;refine zaA ?_;exact⟨rfl,q⟩
   | true =>
    rw [if_neg (by simp [hn])] at q;refine zag ?_;obtain⟨m,b,rfl,hm,hb⟩:=zjT hb;rw [hm,hb] at q;refine (iq rfl (ex5 p t.Listener dx _ _ ⟨rfl,h4,T.cl,T.na_entries,zae,(iq rfl (ex4 ea _ _ (iA b) ⟨rfl,rfl,iw.of h5,zci (by rw [aw,hb]; rfl),?_⟩))⟩));refine⟨rfl,(iq rfl ?_)⟩;cases b with
    | some v =>
     refine zaA ?_;exact⟨rfl,q⟩
    | none =>
     refine zag ?_;exact (iq rfl (ex3 p dx _ ⟨rfl,h4,zak (.inr (.inl rfl)),(iq rfl (iq rfl (zoi S p c pp sl m (some x) none es ds us ⟨rfl,L,kZ,kF,hb,q⟩)))⟩))
theorem ziw:FnScope ["self","number"] ["self","number"] (zj zcd):=#[S]
theorem ze2 {fd:FuncData} (T:Txt K mg t) (F:Fun K "forget" "Listener.forget" zcd t.forget fd):FnOk P w K mg base (CX1 P w) 4 t.forget fd ["self","number"] (ziu t K):=by
 obtain⟨jb,iE,iF⟩:=T.f_check_place;have iG:=zbn (P:=P) (w:=w) (base:=base) T iE;obtain⟨lE,jJ,jK⟩:=T.f_change;have jL:=ze1 (P:=P) (w:=w) (base:=base) T jJ;refine F.okX ziw (fun vs H Q E h=>?_) (fun iy A outer s H vs Q E hr h=>?_)
 ·obtain⟨S,p,c,pp,sl,n,es,ds,us,rfl,_⟩:=h;rfl
 ·obtain⟨S,p,c,pp,sl,n,es,ds,us,rfl,L,kZ,kF,kN,q⟩:=h;obtain⟨dx,ea,da,ua,k,tt,dr,ur,eS,h1,h2,h3,h4,h5,h6,h7,h8,h9,jw⟩:=L.ex;refine zb0 ?_; intro zX;refine⟨_,#[ze,#[zam,#[zbe,(@L2.pv _ 0 _ _ (by rfl) (by first | exact ae rfl | exact aa #[A] | exact aa (aa rfl)) #[D] #[D]),T.cl,T.me_check_place,iG,(hr.mono #[D]),iF,#[zW],#[ya,(@L2.pv _ 1 _ _ (by rfl) (by first | exact ae rfl | exact aa #[A] | exact aa (aa rfl)) #[D] #[D])]]],#[ze,#[zY,#[zB,(@zm1 _),#[zZ,#[zM],#[zU,(@L2.pv _ 0 _ _ (by rfl) (by first | exact ae rfl | exact aa #[A] | exact aa (aa rfl)) #[D] #[D])],(@L2.pv _ 1 _ _ (by rfl) (by first | exact ae rfl | exact aa #[A] | exact aa (aa rfl)) #[D] #[D])],#[zc4],(zI _)],#[zk,#[zac,(fun _ _ _ _ _ _ _ _ I m q=>zN I m q),T.x_NotHeard,T.xi_NotHeard,#[zq]]],#[zy]],#[zk,#[zam,#[zbe,(@L2.pv _ 0 _ _ (by rfl) (by first | exact ae rfl | exact aa #[A] | exact aa (aa rfl)) #[D] #[D]),T.cl,T.me_change,jL,(hr.mono #[D]),jK,#[z7],#[za,(@L2.pv _ 1 _ _ (by rfl) (by first | exact ae rfl | exact aa #[A] | exact aa (aa rfl)) #[D] #[D]),#[ya,#[zc4]]]]]]]],?_⟩;refine zm9 ?_; intro nH mo;unfold zdg stp at q;dsimp only at q;refine (iq rfl (ex3 p dx _ ⟨rfl,h4,zak (.inl rfl),(iq rfl (ex9 S p c pp sl n es ds us ⟨rfl,L,kZ,fun hb=>?_,fun hb=>?_⟩))⟩))
  ·rw [if_pos hb] at q;exact q
  ·rw [if_neg (by simp [hb])] at q;obtain⟨m,b,rfl,hm,hb⟩:=zjT hb;rw [hm,hb] at q;refine (iq rfl (ex5 p t.Listener dx _ _ ⟨rfl,h4,T.cl,T.na_entries,zae,(iq rfl (ex4 ea _ _ (iA b) ⟨rfl,rfl,iw.of h5,zci (by rw [aw,hb]; rfl),?_⟩))⟩));refine⟨rfl,(iq rfl ?_)⟩;cases b with
   | none =>
    refine zaA ?_;exact⟨rfl,q⟩
   | some v =>
    refine zag ?_;exact (iq rfl (ex3 p dx _ ⟨rfl,h4,zak (.inr (.inl rfl)),(iq rfl (zoi S p c pp sl m none (some v) es ds us ⟨rfl,L,kZ,kF,hb,q⟩))⟩))
theorem zdJ:FnScope ["self","number","before","behind"] ["self"] (zj zd2):=#[S]
theorem zlX {fd:FuncData} (T:Txt K mg t) (F:Fun K "back" "Listener.back" zd2 t.back fd):FnOk P w K mg base (CX1 P w) 1 t.back fd ["self"] (zlV t K):=by
 refine F.okX zdJ (fun vs H Q E h=>?_) (fun iy A outer s H vs Q E hr h=>?_)
 ·obtain⟨S,p,c,pp,sl,es,ds,us,rfl,_⟩:=h;rfl
 ·obtain⟨S,p,c,pp,sl,es,ds,us,rfl,L,kZ,kF,kN,kC,q⟩:=h;obtain⟨dx,ea,da,ua,k,tt,dr,ur,rfl,h1,h2,h3,h4,h5,h6,h7,h8,h9,jw⟩:=L.ex;refine zb0 ?_; intro zX;refine⟨_,#[ze,#[zY,#[zaf,#[zfZ,#[zU,(@L2.pv _ 0 _ _ (by rfl) (by first | exact ae rfl | exact aa #[A] | exact aa (aa rfl)) #[D] #[D])],(fun _=>rfl)]],#[zk,#[zac,(fun _ _ _ _ _ _ _ _ I m q=>zN I m q),T.x_NothingLeft,T.xi_NothingLeft,#[zq]]],#[zy]],#[ze,#[za7,#[zfg,aX,dq,dt,#[zjj],#[zU,(@L2.pv _ 0 _ _ (by rfl) (by first | exact ae rfl | exact aa #[A] | exact aa (aa rfl)) #[D] #[D])]],#[zbM,#[zG,#[zr,1,zdJ.nd,#[A]],#[zG,#[zr,2,zdJ.nd,#[A]],#[zG,#[zr,3,zdJ.nd,#[A]],#[za0]]]]]],#[ze,#[za7,(@L2.pv _ 2 _ _ (by rfl) (by first | exact ae rfl | exact aa #[A] | exact aa (aa rfl)) #[D] #[D]),#[zgK,#[zU,(@L2.pv _ 0 _ _ (by rfl) (by first | exact ae rfl | exact aa #[A] | exact aa (aa rfl)) #[D] #[D])],(@L2.pv _ 1 _ _ (by rfl) (by first | exact ae rfl | exact aa #[A] | exact aa (aa rfl)) #[D] #[D]),set_list]],#[zk,#[zam,#[zcz,aX,cg,ci,#[zcj],#[zU,(@L2.pv _ 0 _ _ (by rfl) (by first | exact ae rfl | exact aa #[A] | exact aa (aa rfl)) #[D] #[D])],#[ya,#[zaL,#[za,(@L2.pv _ 1 _ _ (by rfl) (by first | exact ae rfl | exact aa #[A] | exact aa (aa rfl)) #[D] #[D]),#[za,(@L2.pv _ 2 _ _ (by rfl) (by first | exact ae rfl | exact aa #[A] | exact aa (aa rfl)) #[D] #[D]),#[ya,(@L2.pv _ 3 _ _ (by rfl) (by first | exact ae rfl | exact aa #[A] | exact aa (aa rfl)) #[D] #[D])]]]]]]]]]]],?_⟩;refine zlu ?_; intro qd nH mo;have kz:=aM;unfold zdg stp at q;dsimp only at q;refine (iq rfl (ex5 p t.Listener dx _ _ ⟨rfl,h4,T.cl,T.na_deeds,zbu,_,.inl ⟨_,iw.of h6,rfl⟩,?_⟩));rcases fm ds with hd | ⟨lW,d,hd⟩
  ·subst hd;have:dr = []:=eN.mp h8.1;subst this;refine zaA ?_;exact⟨rfl,q⟩
  ·rw [fo] at hd;subst hd;obtain⟨rs,r,rfl,sV,hr⟩:=h8.unsnoc;rw [fF] at q;simp at q;have lV:d.1 < es.length:=kC d #[M];have em:((rs++[r]).map V.ref).isEmpty=false:=by simp
   rw [em];refine zag ?_;have lY:p≠da:=zaO h4 h6 (by intro z; cases z);have nI:p≠ea:=zaO h4 h5 (by intro z; cases z);have sW:p≠ua:=zaO h4 h7 (by intro z; cases z);have qA:r≠da:=zaO hr h6 (by intro z; cases z);refine (iq rfl (ex5 p t.Listener dx _ _ ⟨rfl,h4,T.cl,T.na_deeds,zbu,.inl ⟨rfl,_,iw.of h6⟩,da,_,.ref r,rfl,rfl,h6,#[M],?_⟩));have ed:((rs++[r]).map V.ref).dropLast=rs.map V.ref:=by simp
   rw [ed];refine⟨r,_,rfl,iI.of (by rw [zc qA]; exact hr),rfl,_,_,rfl,_,_,rfl,_,_,rfl,rfl,?_⟩;refine (iq rfl (iq rfl (ex5 p t.Listener dx _ _ ⟨rfl,by rw [zc lY]; exact h4,T.cl,T.na_entries,zae,(iq rfl (ex4 ea _ _ d.1 ⟨rfl,rfl,by rw [zc h1]; exact h5,zfk (by rw [ah]; exact lV),?_⟩))⟩)));refine (iq rfl (ex5 p t.Listener dx _ _ ⟨rfl,by rw [zc nI,zc lY]; exact h4,T.cl,T.na_undone,zbR,.inl ⟨rfl,_,iw.of (by rw [zc h2.symm,zc h3.symm]; exact h7)⟩,(iq rfl (iq rfl (iq rfl ⟨by show 3≤sizeLine; lia,fun u hu=>?_⟩)))⟩));have ue:u≠ea:=fun e=>by rw [e,zb] at hu; cases hu
   rw [zc ue] at hu;have ud:u≠da:=fun e=>by rw [e,zb] at hu; cases hu
   rw [zc ud] at hu;have uu:u≠ua:=(zi h7 hu).symm;have up:u≠p:=(zi h4 hu).symm;refine (ex3 ua _ _ ⟨rfl,rfl,by rw [zc uu.symm,zc h2.symm,zc h3.symm]; exact h7,by rw [ah,h9.1]; lia,?_⟩);have kp:∀ a o,H a=some o→a≠ea→a≠da→a≠ua→upd (upd (upd (upd H da (.lst (rs.map V.ref))) ea (.lst ((es.map iA).set d.1 (iA d.2.1)))) u (.tup [.int (d.1:Int),iA d.2.1,iA d.2.2])) ua (.lst (ur.map V.ref++[.ref u])) a=some o:=fun a o e n1 n2 n3=>by
    rw [zc n3,zc (zi e hu),zc n1,zc n2];exact e
   have tp:∀ a xs,H a=some (.tup xs)→a≠ea∧a≠da∧a≠ua:=fun a xs e=>⟨zaO e h5 (by intro z; cases z),zaO e h6 (by intro z; cases z),zaO e h7 (by intro z; cases z)⟩
   have kt:∀ a xs,H a=some (.tup xs)→upd (upd (upd (upd H da (.lst (rs.map V.ref))) ea (.lst ((es.map iA).set d.1 (iA d.2.1)))) u (.tup [.int (d.1:Int),iA d.2.1,iA d.2.2])) ua (.lst (ur.map V.ref++[.ref u])) a=some (.tup xs):=fun a xs e=>kp a _ e (tp a xs e).1 (tp a xs e).2.1 (tp a xs e).2.2
   have sY:upd (upd (upd (upd H da (.lst (rs.map V.ref))) ea (.lst ((es.map iA).set d.1 (iA d.2.1)))) u (.tup [.int (d.1:Int),iA d.2.1,iA d.2.2])) ua (.lst (ur.map V.ref++[.ref u])) u=some (.tup (zjQ d)):=by
    rw [zc uu,zb];rfl
   have sZ:upd (upd (upd (upd H da (.lst (rs.map V.ref))) ea (.lst ((es.map iA).set d.1 (iA d.2.1)))) u (.tup [.int (d.1:Int),iA d.2.1,iA d.2.2])) ua (.lst (ur.map V.ref++[.ref u])) da=some (.lst (rs.map V.ref)):=by
    rw [zc h3,zc ud.symm,zc h1.symm,zb]
   have tf:upd (upd (upd (upd H da (.lst (rs.map V.ref))) ea (.lst ((es.map iA).set d.1 (iA d.2.1)))) u (.tup [.int (d.1:Int),iA d.2.1,iA d.2.2])) ua (.lst (ur.map V.ref++[.ref u])) ua=some (.lst ((ur++[u]).map V.ref)):=by
    rw [zb,bR];rfl
   refine q [p,ea,da,ua] _ ⟨dx,ea,da,ua,k,tt,rs,ur++[u],rfl,h1,h2,h3,kp p _ h4 nI lY sW,by rw [zc h2,zc ue.symm,zb,gg],sZ,tf,sV.same kt,(h9.same kt).snoc sY,jw.kt (kt c _)⟩ (fun a o e=>?_) (fun a ha=>.inl ha);obtain⟨e,hn⟩:=zcJ e;simp at hn;exact zcI (kp a o e hn.2.1 hn.2.2.1 hn.2.2.2) (by simp; exact hn)
theorem zcW:FnScope ["self","number","before","behind"] ["self"] (zj s_again):=#[S]
theorem zjU {fd:FuncData} (T:Txt K mg t) (F:Fun K "again" "Listener.again" s_again t.again fd):FnOk P w K mg base (CX1 P w) 1 t.again fd ["self"] (zjS t K):=by
 refine F.okX zcW (fun vs H Q E h=>?_) (fun iy A outer s H vs Q E hr h=>?_)
 ·obtain⟨S,p,c,pp,sl,es,ds,us,rfl,_⟩:=h;rfl
 ·obtain⟨S,p,c,pp,sl,es,ds,us,rfl,L,kZ,kF,kN,kC,q⟩:=h;obtain⟨dx,ea,da,ua,k,tt,dr,ur,rfl,h1,h2,h3,h4,h5,h6,h7,h8,h9,jw⟩:=L.ex;refine zb0 ?_; intro zX;refine⟨_,#[ze,#[zY,#[zaf,#[zfZ,#[zU,(@L2.pv _ 0 _ _ (by rfl) (by first | exact ae rfl | exact aa #[A] | exact aa (aa rfl)) #[D] #[D])],(fun _=>rfl)]],#[zk,#[zac,(fun _ _ _ _ _ _ _ _ I m q=>zN I m q),T.x_NothingLeft,T.xi_NothingLeft,#[zq]]],#[zy]],#[ze,#[za7,#[zfg,aX,dq,dt,#[zjj],#[zU,(@L2.pv _ 0 _ _ (by rfl) (by first | exact ae rfl | exact aa #[A] | exact aa (aa rfl)) #[D] #[D])]],#[zbM,#[zG,#[zr,1,zcW.nd,#[A]],#[zG,#[zr,2,zcW.nd,#[A]],#[zG,#[zr,3,zcW.nd,#[A]],#[za0]]]]]],#[ze,#[za7,(@L2.pv _ 3 _ _ (by rfl) (by first | exact ae rfl | exact aa #[A] | exact aa (aa rfl)) #[D] #[D]),#[zgK,#[zU,(@L2.pv _ 0 _ _ (by rfl) (by first | exact ae rfl | exact aa #[A] | exact aa (aa rfl)) #[D] #[D])],(@L2.pv _ 1 _ _ (by rfl) (by first | exact ae rfl | exact aa #[A] | exact aa (aa rfl)) #[D] #[D]),set_list]],#[zk,#[zam,#[zcz,aX,cg,ci,#[zcj],#[zU,(@L2.pv _ 0 _ _ (by rfl) (by first | exact ae rfl | exact aa #[A] | exact aa (aa rfl)) #[D] #[D])],#[ya,#[zaL,#[za,(@L2.pv _ 1 _ _ (by rfl) (by first | exact ae rfl | exact aa #[A] | exact aa (aa rfl)) #[D] #[D]),#[za,(@L2.pv _ 2 _ _ (by rfl) (by first | exact ae rfl | exact aa #[A] | exact aa (aa rfl)) #[D] #[D]),#[ya,(@L2.pv _ 3 _ _ (by rfl) (by first | exact ae rfl | exact aa #[A] | exact aa (aa rfl)) #[D] #[D])]]]]]]]]]]],?_⟩;refine zlu ?_; intro qd nH mo;have kz:=aM;unfold zdg stp at q;dsimp only at q;refine (iq rfl (ex5 p t.Listener dx _ _ ⟨rfl,h4,T.cl,T.na_undone,zbR,_,.inl ⟨_,iw.of h7,rfl⟩,?_⟩));rcases fm us with hd | ⟨lX,d,hd⟩
  ·subst hd;have:ur = []:=eN.mp h9.1;subst this;refine zaA ?_;exact⟨rfl,q⟩
  ·rw [fo] at hd;subst hd;obtain⟨rs,r,rfl,sV,hr⟩:=h9.unsnoc;rw [fF] at q;simp at q;have lV:d.1 < es.length:=kC d #[M];have em:((rs++[r]).map V.ref).isEmpty=false:=by simp
   rw [em];refine zag ?_;have lY:p≠ua:=zaO h4 h7 (by intro z; cases z);have nI:p≠ea:=zaO h4 h5 (by intro z; cases z);have sW:p≠da:=zaO h4 h6 (by intro z; cases z);have qA:r≠ua:=zaO hr h7 (by intro z; cases z);refine (iq rfl (ex5 p t.Listener dx _ _ ⟨rfl,h4,T.cl,T.na_undone,zbR,.inl ⟨rfl,_,iw.of h7⟩,ua,_,.ref r,rfl,rfl,h7,#[M],?_⟩));have ed:((rs++[r]).map V.ref).dropLast=rs.map V.ref:=by simp
   rw [ed];refine⟨r,_,rfl,iI.of (by rw [zc qA]; exact hr),rfl,_,_,rfl,_,_,rfl,_,_,rfl,rfl,?_⟩;refine (iq rfl (iq rfl (ex5 p t.Listener dx _ _ ⟨rfl,by rw [zc lY]; exact h4,T.cl,T.na_entries,zae,(iq rfl (ex4 ea _ _ d.1 ⟨rfl,rfl,by rw [zc h2]; exact h5,zfk (by rw [ah]; exact lV),?_⟩))⟩)));refine (iq rfl (ex5 p t.Listener dx _ _ ⟨rfl,by rw [zc nI,zc lY]; exact h4,T.cl,T.na_deeds,zbu,.inl ⟨rfl,_,iw.of (by rw [zc h1.symm,zc h3]; exact h6)⟩,(iq rfl (iq rfl (iq rfl ⟨by show 3≤sizeLine; lia,fun u hu=>?_⟩)))⟩));have ue:u≠ea:=fun e=>by rw [e,zb] at hu; cases hu
   rw [zc ue] at hu;have ud:u≠ua:=fun e=>by rw [e,zb] at hu; cases hu
   rw [zc ud] at hu;have uu:u≠da:=(zi h6 hu).symm;have up:u≠p:=(zi h4 hu).symm;refine (ex3 da _ _ ⟨rfl,rfl,by rw [zc uu.symm,zc h1.symm,zc h3]; exact h6,by rw [ah,h8.1]; lia,?_⟩);have kp:∀ a o,H a=some o→a≠ea→a≠ua→a≠da→upd (upd (upd (upd H ua (.lst (rs.map V.ref))) ea (.lst ((es.map iA).set d.1 (iA d.2.2)))) u (.tup [.int (d.1:Int),iA d.2.1,iA d.2.2])) da (.lst (dr.map V.ref++[.ref u])) a=some o:=fun a o e n1 n2 n3=>by
    rw [zc n3,zc (zi e hu),zc n1,zc n2];exact e
   have tp:∀ a xs,H a=some (.tup xs)→a≠ea∧a≠ua∧a≠da:=fun a xs e=>⟨zaO e h5 (by intro z; cases z),zaO e h7 (by intro z; cases z),zaO e h6 (by intro z; cases z)⟩
   have kt:∀ a xs,H a=some (.tup xs)→upd (upd (upd (upd H ua (.lst (rs.map V.ref))) ea (.lst ((es.map iA).set d.1 (iA d.2.2)))) u (.tup [.int (d.1:Int),iA d.2.1,iA d.2.2])) da (.lst (dr.map V.ref++[.ref u])) a=some (.tup xs):=fun a xs e=>kp a _ e (tp a xs e).1 (tp a xs e).2.1 (tp a xs e).2.2
   have sY:upd (upd (upd (upd H ua (.lst (rs.map V.ref))) ea (.lst ((es.map iA).set d.1 (iA d.2.2)))) u (.tup [.int (d.1:Int),iA d.2.1,iA d.2.2])) da (.lst (dr.map V.ref++[.ref u])) u=some (.tup (zjQ d)):=by
    rw [zc uu,zb];rfl
   have sZ:upd (upd (upd (upd H ua (.lst (rs.map V.ref))) ea (.lst ((es.map iA).set d.1 (iA d.2.2)))) u (.tup [.int (d.1:Int),iA d.2.1,iA d.2.2])) da (.lst (dr.map V.ref++[.ref u])) ua=some (.lst (rs.map V.ref)):=by
    rw [zc h3.symm,zc ud.symm,zc h2.symm,zb]
   have tf:upd (upd (upd (upd H ua (.lst (rs.map V.ref))) ea (.lst ((es.map iA).set d.1 (iA d.2.2)))) u (.tup [.int (d.1:Int),iA d.2.1,iA d.2.2])) da (.lst (dr.map V.ref++[.ref u])) da=some (.lst ((dr++[u]).map V.ref)):=by
    rw [zb,bR];rfl
   refine q [p,ea,da,ua] _ ⟨dx,ea,da,ua,k,tt,dr++[u],rs,rfl,h1,h2,h3,kp p _ h4 nI lY sW,by rw [zc h1,zc ue.symm,zb,gg],tf,sZ,(h8.same kt).snoc sY,sV.same kt,jw.kt (kt c _)⟩ (fun a o e=>?_) (fun a ha=>.inl ha);obtain⟨e,hn⟩:=zcJ e;simp at hn;exact zcI (kp a o e hn.2.1 hn.2.2.2 hn.2.2.1) (by simp; exact hn)
theorem zcX (f:Str) (v:V):∀ fs:List (Str×V),(zao f v fs).length≤fs.length+1
 | []=>ak _
 | (g,x) :: r=>by
  unfold zao;split
  ·simp
  ·have:=zcX f v r;simp;lia
theorem zhO (n:Nat):(aq n [V.non]).flatten=(aq n (none:Option Int)).map iA:=by
 induction n with
 | zero=>rfl
 | succ n ih=>rw [bG,cw,ih,bG]; rfl
theorem zlY:FnScope ["self","code","slips"] ["self","code","slips"] (zj zd0):=#[S]
theorem zfy {fd:FuncData} (T:Txt K mg t) (F:Fun K "__init__" "Listener.__init__" zd0 t.init fd):FnOk P w K mg base CX0 1 t.init fd ["self","code","slips"] (zlT t K):=by
 refine F.ok zlY (fun vs H Q E h=>?_) (fun iy A outer s H vs Q E hr h=>?_)
 ·obtain⟨p,dx,c,tt,sl,pp,k,pl,rfl,_⟩:=h;rfl
 ·obtain⟨p,dx,c,tt,sl,pp,k,pl,rfl,hp,qN,hc,ju,q⟩:=h;refine zb0 ?_; intro zX;refine⟨_,#[ze,#[zb3,(@L2.pv _ 0 _ _ (by rfl) (by first | exact ae rfl | exact aa #[A] | exact aa (aa rfl)) #[D] #[D]),(@L2.pv _ 1 _ _ (by rfl) (by first | exact ae rfl | exact aa #[A] | exact aa (aa rfl)) #[D] #[D])],#[ze,#[zb3,(@L2.pv _ 0 _ _ (by rfl) (by first | exact ae rfl | exact aa #[A] | exact aa (aa rfl)) #[D] #[D]),(@L2.pv _ 2 _ _ (by rfl) (by first | exact ae rfl | exact aa #[A] | exact aa (aa rfl)) #[D] #[D])],#[ze,#[zb3,(@L2.pv _ 0 _ _ (by rfl) (by first | exact ae rfl | exact aa #[A] | exact aa (aa rfl)) #[D] #[D]),#[zt,#[zdO],#[zaa,#[ya,#[zc4]]],#[zm,#[zv],T.len_,bf,#[ya,#[zZ,#[zcG],(@L2.pv _ 1 _ _ (by rfl) (by first | exact ae rfl | exact aa #[A] | exact aa (aa rfl)) #[D] #[D]),#[zh]]]]]],#[ze,#[zb3,(@L2.pv _ 0 _ _ (by rfl) (by first | exact ae rfl | exact aa #[A] | exact aa (aa rfl)) #[D] #[D]),#[zaa,#[zd]]],#[zk,#[zb3,(@L2.pv _ 0 _ _ (by rfl) (by first | exact ae rfl | exact aa #[A] | exact aa (aa rfl)) #[D] #[D]),#[zaa,#[zd]]]]]]]],?_⟩;have kz:=aM;have l1:=zcX "code" (.ref c) [];have l2:=zcX "slips" (.int sl) (zao "code" (.ref c) []);have tj:∀ ys,H p≠some (.tup ys):=fun ys e=>by rw [hp] at e; cases e
  simp only [cT] at l1;refine (iq rfl (iq rfl (ex4 p t.Listener dx ([]) ⟨rfl,hp,T.cl,T.na_code,by show 0 < 1000; decide,?_⟩)));refine (iq rfl (iq rfl (ex4 p t.Listener dx _ ⟨rfl,zb,T.cl,T.na_slips,#[O],?_⟩)));rw [zlh];refine⟨by show 1≤sizeLine; lia,fun z hz=>(iq rfl (ex4 c _ _ _ ⟨rfl,rfl,((hc.1.upd tj).upd (fun ys e=>by rw [hz] at e; cases e)).sq,rfl,tt,(iq rfl ⟨.inr (((hc.2.upd tj).upd (fun ys e=>by rw [hz] at e; cases e)).sq),z,_,[.non],rfl,rfl,zb,by rw [ah]; lia,by rw [ah]; lia,by rw [ah]; show 1*_≤sizeLine; lia,fun ea nJ=>?_⟩)⟩))⟩;rw [ah,zhO,ca];have zp:z≠p:=fun e=>by rw [e,zb] at hz; cases hz
  rw [zc zp] at hz;have eaz:ea≠z:=fun e=>by rw [e,zb] at nJ; cases nJ
  rw [zc eaz] at nJ;have qe:ea≠p:=fun e=>by rw [e,zb] at nJ; cases nJ
  rw [zc qe] at nJ;have l3:=zcX "entries" (.ref ea) (zao "slips" (.int sl) (zao "code" (.ref c) []));refine (iq rfl (ex4 p t.Listener dx _ ⟨rfl,by rw [zc qe.symm,zc zp.symm,zb],T.cl,T.na_entries,#[O],?_⟩));refine⟨by show 0≤sizeLine; lia,fun da mq=>?_⟩;have qf:da≠p:=fun e=>by rw [e,zb] at mq; cases mq
  rw [zc qf] at mq;have tq:da≠ea:=fun e=>by rw [e,zb] at mq; cases mq
  rw [zc tq] at mq;have daz:da≠z:=fun e=>by rw [e,zb] at mq; cases mq
  rw [zc daz,zc qf] at mq;have l4:=zcX "deeds" (.ref da) (zao "entries" (.ref ea) (zao "slips" (.int sl) (zao "code" (.ref c) [])));refine⟨_,rfl,p,t.Listener,dx,_,rfl,by rw [zc qf.symm,zb],T.cl,T.na_deeds,#[O],?_⟩;refine⟨by show 0≤sizeLine; lia,fun ua lu=>?_⟩;have qg:ua≠p:=fun e=>by rw [e,zb] at lu; cases lu
  rw [zc qg] at lu;have tu:ua≠da:=fun e=>by rw [e,zb] at lu; cases lu
  rw [zc tu,zc qg] at lu;have tw:ua≠ea:=fun e=>by rw [e,zb] at lu; cases lu
  rw [zc tw] at lu;have uaz:ua≠z:=fun e=>by rw [e,zb] at lu; cases lu
  rw [zc uaz,zc qg] at lu;refine⟨_,rfl,p,t.Listener,dx,_,rfl,by rw [zc qg.symm,zb],T.cl,T.na_undone,#[O],?_⟩;rw [znr];have kp:∀ a o,H a=some o→a≠p→upd (upd (upd (upd (upd (upd (upd (upd H p (.ins t.Listener dx (zao "slips" (.int sl) (zao "code" (.ref c) [])))) z (.lst [.non])) ea (.lst ((aq pl.length (none:Option Int)).map iA))) p (.ins t.Listener dx (zao "entries" (.ref ea) (zao "slips" (.int sl) (zao "code" (.ref c) []))))) da (.lst [])) p (.ins t.Listener dx (zao "deeds" (.ref da) (zao "entries" (.ref ea) (zao "slips" (.int sl) (zao "code" (.ref c) [])))))) ua (.lst [])) p (.ins t.Listener dx (fl c sl ea da ua)) a=some o:=fun a o e n=>by
   rw [zc n,zc (zi e lu),zc n,zc (zi e mq),zc n,zc (zi e nJ),zc (zi e hz),zc n];exact e
  refine q [p,ea,da,ua] _ ⟨dx,ea,da,ua,k,tt,[],[],rfl,tq.symm,tw.symm,tu.symm,zb,?_,?_,?_,.nil,.nil,hc.1.kt fun e=>kp c _ e (fun q=>tj _ (by rw [← q]; exact e))⟩ kp (fun a ha=>?_)
  ·rw [zc qe,zc tw.symm,zc qe,zc tq.symm,zc qe,zb]
  ·rw [zc qf,zc tu.symm,zc qf,zb];rfl
  ·rw [zc qg,zb];rfl
  ·simp at ha;rcases ha with rfl | rfl | rfl | rfl
   ·exact .inl rfl
   ·exact .inr nJ
   ·exact .inr mq
   ·exact .inr lu
end
end
section
variable {P:Program} {w:World} {K:af} {mg:Str→Option Value} {base:Heap} {t:Adr}
def zcY (K:af):Sp:=fun vs H Q _=>∃ p:Int,vs = [.int p]∧∀ H',zJ H H'→Q (.bl (zab.contains p)) H'
def zaT (p k:Int) (pl:List Int):Bool:=decide (k≤pl.length) && (decide (pl.length≤16) && (pl.all (fun x=>decide (0≤x) && decide (x < p)) && decide pl.Nodup))
def zd7 (K:af):Sp:=fun vs H Q _=>∃ (p k:Int) (tt:Addr) (pl:List Int),vs = [.int p,.int k,.ref tt]∧H tt=some (.tup (pl.map V.int))∧∀ H',zJ H H'→Q (.bl (zaT p k pl)) H'
def zgm (K:af):Sp:=fun vs H Q _=>∃ (c tt:Addr) (p k:Int) (pl:List Int),vs = [.ref c]∧zde H c tt p k pl∧∀ H',zJ H H'→Q (.bl (codeB p k pl)) H'
theorem zdh:FnScope ["thing"] ["thing"] (zj zai):=#[S]
theorem zdi {fd:FuncData} (T:Txt K mg t) (F:Fun K "is_code_prime" "is_code_prime" zai t.is_code_prime fd):FnOk P w K mg base CX0 2 t.is_code_prime fd ["thing"] (zcY K):=by
 obtain⟨jx,iB,iP⟩:=T.f_is_whole;have iQ:=zcf (P:=P) (w:=w) (base:=base) T iB;refine F.ok zdh (fun vs H Q E h=>?_) (fun iy A outer s H vs Q E hr h=>?_)
 ·obtain⟨p,rfl,_⟩:=h;rfl
 ·obtain⟨p,rfl,q⟩:=h;refine zb0 ?_; intro zX;refine⟨_,#[ze,#[zY,(@PW.pt _ _ _ #[zbt,#[zaf,#[zaz,#[zH,iQ,(hr.mono #[D]),T.m_is_whole,iB.kp,iP,#[z7],#[ya,(@L2.pv _ 0 _ _ (by rfl) (by first | exact ae rfl | exact aa #[A] | exact aa (aa rfl)) #[D] #[D])]]]],#[za6,#[zaf,#[zcP,#[zcN],#[zcN],#[z8,(.int 5),T.g_LEAST_P.choose_spec,⟨_,rfl⟩],(@L2.pv _ 0 _ _ (by rfl) (by first | exact ae rfl | exact aa #[A] | exact aa (aa rfl)) #[D] #[D]),#[z8,(.int 97),T.g_GREATEST_P.choose_spec,⟨_,rfl⟩],(by with_unfolding_all rfl)]]]]),#[zk,#[zF,#[za1]]],#[zy]],#[zk,#[zF,#[zm,#[zco],T.all_,gJ,#[ya,#[zaQ,(CompSc.of (N':=["divisor","thing"]) (ix:=[none,some 0]) (zj zai) ["thing"] rfl rfl #[N]),#[zaP],(@zhU _ _ _ _ _ _ _ rfl T.range_ #[za,#[zh],#[ya,(@L2.pv _ 0 _ _ (by rfl) (by first | exact ae rfl | exact aa #[A] | exact aa (aa rfl)) #[D] #[D])]] (by rfl) (by rfl)),(fun _ _ _ _=>#[zr,0,(show (["divisor","thing"]:List Str).Nodup from #[N]),#[A]]),(fun _ _ _ _=>#[zaB]),(fun _ _ _ _=>#[zcO,#[zcx],#[zt,#[zas],(@L2.pv _ 1 _ _ (by rfl) (by first | exact ae rfl | exact aa #[A] | exact aa (aa rfl)) #[D] #[D]),(@L2.pv _ 0 _ _ (by rfl) (by first | exact ae rfl | exact aa #[A] | exact aa (aa rfl)) #[D] #[D])],#[zh],(zI _)])]]]]]],?_⟩;refine zm8 ?_; intro mo;have kz:=aM;refine (iq rfl ⟨.int p,rfl,.int p,(iq rfl (zag ?_))⟩);refine (iq rfl (iD rfl rfl (iq rfl (zcu (fun h1=>?_) (fun h1=>?_)))));rotate_left
  ·have h1:¬ (5:Int)≤p:=by simpa using h1
   rw [ze0 (fun z=>h1 z.1)] at q;exact (iq rfl (zaA (q _ (fun _ _ e=>e))))
  have h1:(5:Int)≤p:=by simpa using h1
  refine (iD rfl rfl (iq rfl ?_));by_cases h2:p≤97;rotate_left
  ·rw [decide_eq_false h2];rw [ze0 (fun z=>h2 z.2)] at q;exact zaA (q _ (fun _ _ e=>e))
  rw [decide_eq_true h2];refine zag ?_;refine (iq rfl ⟨2,p,rfl,⟨#[O],#[O],#[O],#[O]⟩,zf4 (n:=(p - 2).toNat) (fun i ys H'=>ys=((aV i).map fun i=>decide (p % (2+(i:Nat):Int)≠0)).map V.bl∧H'=H) ⟨rfl,rfl⟩ (fun i ys H' hi _=>hi) (fun ys H' _=>ak _) ?_ ?_⟩)
  ·rintro zS zT zE i xx ys H3 H4 hi ⟨rfl,rfl⟩ ⟨rfl,rfl⟩;refine gY ?_;refine (iq rfl (iq rfl (iD rfl rfl ⟨#[O],rfl,?_⟩)));refine⟨by rw [ah,ah,gt]; lia,?_,rfl⟩;rw [List.range_succ,bR,bR];have e:(!decide (V.int (p % (2+(i:Int)))=V.int 0))=decide (p % (2+(i:Int))≠0):=by
    rw [bu];simp
   rw [e];rfl
  ·rintro ys H3 D ⟨rfl,rfl⟩ hD;refine⟨D,(aV (p - 2).toNat).map fun i=>decide (p % (2+(i:Nat):Int)≠0),rfl,iw.of zb,?_⟩;have e:((aV (p - 2).toNat).map fun i=>decide (p % (2+(i:Nat):Int)≠0)).all id=zab.contains p:=by
    rw [← zjP h1 h2,dD];rfl
   rw [e];exact q _ (zf hD)
theorem zet:FnScope ["p","k","thing"] ["p","k","thing"] (zj zaE):=#[S]
theorem zeu {fd:FuncData} (T:Txt K mg t) (F:Fun K "are_places" "are_places" zaE t.are_places fd):FnOk P w K mg base CX0 3 t.are_places fd ["p","k","thing"] (zd7 K):=by
 obtain⟨jl,iz,iL⟩:=T.f_is_number;have iM:=zbS (P:=P) (w:=w) (base:=base) T iz;refine F.ok zet (fun vs H Q E h=>?_) (fun iy A outer s H vs Q E hr h=>?_)
 ·obtain⟨p,k,tt,pl,rfl,_⟩:=h;rfl
 ·obtain⟨p,k,tt,pl,rfl,ht,q⟩:=h;refine zb0 ?_; intro zX;refine⟨_,#[ze,#[zY,(@PW.pt _ _ _ #[zbt,#[zaf,#[zaz,#[zm,#[zaN],T.isinstance_,aO,#[za,(@L2.pv _ 2 _ _ (by rfl) (by first | exact ae rfl | exact aa #[A] | exact aa (aa rfl)) #[D] #[D]),#[ya,#[zbL,(.ty "tuple"),T.tuple_,fE]]]]]],#[za6,#[zaf,#[zcP,#[zcN],#[zcN],(@L2.pv _ 1 _ _ (by rfl) (by first | exact ae rfl | exact aa #[A] | exact aa (aa rfl)) #[D] #[D]),#[zm,#[zv],T.len_,bf,#[ya,(@L2.pv _ 2 _ _ (by rfl) (by first | exact ae rfl | exact aa #[A] | exact aa (aa rfl)) #[D] #[D])]],#[z8,(.int 16),T.g_MOST_PLACES.choose_spec,⟨_,rfl⟩],(by with_unfolding_all rfl)]]]]),#[zk,#[zF,#[za1]]],#[zy]],#[ze,#[zY,#[zaf,#[zaz,#[zm,#[zco],T.all_,gJ,#[ya,#[zaQ,(CompSc.of (N':=["place","p"]) (ix:=[none,some 0]) (zj zaE) ["p","k","thing"] rfl rfl #[N]),#[zaP],(@zmY _ _ _ _ (@L2.pv _ 2 _ _ (by rfl) (by first | exact ae rfl | exact aa #[A] | exact aa (aa rfl)) #[D] #[D])),(fun _ _ _ _=>#[zr,0,(show (["place","p"]:List Str).Nodup from #[N]),#[A]]),(fun _ _ _ _=>#[zaB]),(fun _ _ _ _=>#[zH,iM,(hr.mono #[D]),T.m_is_number,iz.kp,iL,#[z7],#[za,(@L2.pv _ 1 _ _ (by rfl) (by first | exact ae rfl | exact aa #[A] | exact aa (aa rfl)) #[D] #[D]),#[ya,(@L2.pv _ 0 _ _ (by rfl) (by first | exact ae rfl | exact aa #[A] | exact aa (aa rfl)) #[D] #[D])]]])]]]]],#[zk,#[zF,#[za1]]],#[zy]],#[zk,#[zF,#[zcO,#[zcw],#[zm,(@zgi _),T.len_,bf,#[ya,#[zaM,(@zik _ rfl),T.set_,boot_set,#[ya,(@L2.pv _ 2 _ _ (by rfl) (by first | exact ae rfl | exact aa #[A] | exact aa (aa rfl)) #[D] #[D])]]]],#[zm,#[zv],T.len_,bf,#[ya,(@L2.pv _ 2 _ _ (by rfl) (by first | exact ae rfl | exact aa #[A] | exact aa (aa rfl)) #[D] #[D])]],(zI _)]]]]],?_⟩;refine zm9 ?_; intro nH mo;have kz:=aM;refine (iq rfl (ex4 _ _ _ _ ⟨rfl,.tup ht,rfl,(iq rfl (zag ?_))⟩));refine (iq rfl (iq rfl ⟨tt,(iq rfl ⟨.inr (iI.of ht),(iD rfl rfl (iq rfl (zcu (fun h1=>?_) (fun h1=>?_))))⟩)⟩));rotate_left
  ·have h1:¬ k≤(pl.length:Int):=by
    rw [ah] at h1;simpa using h1
   have e:zaT p k pl=false:=by unfold zaT; rw [decide_eq_false h1]; rfl
   rw [e] at q;exact (iq rfl (zaA (q _ (fun _ _ e=>e))))
  have h1:k≤(pl.length:Int):=by
   rw [ah] at h1;simpa using h1
  refine (iD rfl rfl (iq rfl ?_));by_cases h2:pl.length≤16;rotate_left
  ·rw [decide_eq_false (show ¬ ((((pl.map V.int).length:Nat):Int)≤16) by rw [ah]; lia)];have e:zaT p k pl=false:=by unfold zaT; rw [decide_eq_true h1,decide_eq_false h2]; rfl
   rw [e] at q;exact zaA (q _ (fun _ _ e=>e))
  rw [decide_eq_true (show (((pl.map V.int).length:Nat):Int)≤16 by rw [ah]; lia)];refine zag ?_;refine (iq rfl ⟨tt,rfl,⟨_,iI.of ht⟩,zh9 (K:=K) (xs:=pl.map V.int) (fs:=pl.map fun x=>V.bl (decide (0≤x) && decide (x < p))) (iI.of ht) (by rw [ah,ah]) (by rw [ah]; lia) ?_ ?_⟩)
  ·intro j x y R B hx hy hR;obtain⟨i,hi,rfl,rfl⟩:=zgb hx hy;refine gY ?_;exact (iq rfl (iq rfl ⟨p,.int i,rfl,.int i,hR⟩))
  ·intro D hD;have e1:(pl.map fun x=>V.bl (decide (0≤x) && decide (x < p)))=(pl.map fun x=>decide (0≤x) && decide (x < p)).map V.bl:=by rw [gb]; rfl
   rw [e1];refine⟨D,(iq rfl ⟨iw.of zb,?_⟩)⟩;have e:(pl.map fun x=>decide (0≤x) && decide (x < p)).all id=pl.all (fun x=>decide (0≤x) && decide (x < p)):=by rw [dD]; rfl
   rw [e];have s1:=zf (o:=.lst ((pl.map fun x=>decide (0≤x) && decide (x < p)).map V.bl)) hD;by_cases h3:pl.all (fun x=>decide (0≤x) && decide (x < p))=true;rotate_left
   ·have h3:pl.all (fun x=>decide (0≤x) && decide (x < p))=false:=by simpa using h3
    rw [h3];have e:zaT p k pl=false:=by unfold zaT; rw [decide_eq_true h1,decide_eq_true h2,h3]; rfl
    rw [e] at q;exact (iq rfl (zaA (q _ s1)))
   rw [h3];refine (iq rfl (zag ?_));refine (iq rfl ⟨tt,pl,rfl,.inl (iI.of (s1 _ _ ht)),#[O],fun l S hl=>?_⟩);refine (ex3 l S _ ⟨rfl,zb,(iq rfl ⟨tt,(iq rfl ⟨.inr (iI.of ((zf hl) _ _ (s1 _ _ ht))),rfl,?_⟩)⟩)⟩);have e4:decide (V.int ((zjJ pl:Nat):Int)=V.int (((pl.map V.int).length:Nat):Int))=decide pl.Nodup:=by
    rw [bu,decide_eq_true_eq,decide_eq_true_eq,ah,← zjK];constructor
    ·intro z;injection z with z
     lia
    ·intro z;rw [z]
   rw [e4];have e5:zaT p k pl=decide pl.Nodup:=by unfold zaT; rw [decide_eq_true h1,decide_eq_true h2,h3]; rfl
   rw [e5] at q;exact q _ (s1.trans (zf hl))
theorem zbT:FnScope ["thing","p","k","places"] ["thing"] (zj zbB):=#[S]
theorem zhc {fd:FuncData} (T:Txt K mg t) (F:Fun K "is_code" "is_code" zbB t.is_code fd):FnOk P w K mg base CX0 4 t.is_code fd ["thing"] (zgm K):=by
 obtain⟨jx,iB,iP⟩:=T.f_is_whole;have iQ:=zcf (P:=P) (w:=w) (base:=base) T iB;obtain⟨lF,ja,jB⟩:=T.f_is_code_prime;have jC:=zdi (P:=P) (w:=w) (base:=base) T ja;obtain⟨mP,jm,kr⟩:=T.f_are_places;have ku:=zeu (P:=P) (w:=w) (base:=base) T jm;refine F.ok zbT (fun vs H Q E h=>?_) (fun iy A outer s H vs Q E hr h=>?_)
 ·obtain⟨c,tt,p,k,pl,rfl,_⟩:=h;rfl
 ·obtain⟨c,tt,p,k,pl,rfl,hc,q⟩:=h;refine zb0 ?_; intro zX;refine⟨_,#[ze,#[zY,(@PW.pt _ _ _ #[zbt,#[zaf,#[zaz,#[zm,#[zaN],T.isinstance_,aO,#[za,(@L2.pv _ 0 _ _ (by rfl) (by first | exact ae rfl | exact aa #[A] | exact aa (aa rfl)) #[D] #[D]),#[ya,#[zbL,(.ty "tuple"),T.tuple_,fE]]]]]],#[za6,#[zB,#[zcx],#[zm,#[zv],T.len_,bf,#[ya,(@L2.pv _ 0 _ _ (by rfl) (by first | exact ae rfl | exact aa #[A] | exact aa (aa rfl)) #[D] #[D])]],#[zh],(zI _)]]]),#[zk,#[zF,#[za1]]],#[zy]],#[ze,#[za7,(@L2.pv _ 0 _ _ (by rfl) (by first | exact ae rfl | exact aa #[A] | exact aa (aa rfl)) #[D] #[D]),#[zbM,#[zG,#[zr,1,zbT.nd,#[A]],#[zG,#[zr,2,zbT.nd,#[A]],#[zG,#[zr,3,zbT.nd,#[A]],#[za0]]]]]],#[ze,#[zY,(@PW.pt _ _ _ #[zbt,#[zaf,#[zaz,#[zH,jC,(hr.mono #[D]),T.m_is_code_prime,ja.kp,jB,#[z7],#[ya,(@L2.pv _ 1 _ _ (by rfl) (by first | exact ae rfl | exact aa #[A] | exact aa (aa rfl)) #[D] #[D])]]]],#[zbt,#[zaf,#[zaz,#[zH,iQ,(hr.mono #[D]),T.m_is_whole,iB.kp,iP,#[z7],#[ya,(@L2.pv _ 2 _ _ (by rfl) (by first | exact ae rfl | exact aa #[A] | exact aa (aa rfl)) #[D] #[D])]]]],#[za6,#[zaf,#[zcP,#[zcN],#[zcN],#[zh],(@L2.pv _ 2 _ _ (by rfl) (by first | exact ae rfl | exact aa #[A] | exact aa (aa rfl)) #[D] #[D]),#[z8,(.int 5),T.g_MOST_NUMBERS.choose_spec,⟨_,rfl⟩],(by with_unfolding_all rfl)]]]]]),#[zk,#[zF,#[za1]]],#[zy]],#[zk,#[zF,#[zH,ku,(hr.mono #[D]),T.m_are_places,jm.kp,kr,#[z7],#[za,(@L2.pv _ 1 _ _ (by rfl) (by first | exact ae rfl | exact aa #[A] | exact aa (aa rfl)) #[D] #[D]),#[za,(@L2.pv _ 2 _ _ (by rfl) (by first | exact ae rfl | exact aa #[A] | exact aa (aa rfl)) #[D] #[D]),#[ya,(@L2.pv _ 3 _ _ (by rfl) (by first | exact ae rfl | exact aa #[A] | exact aa (aa rfl)) #[D] #[D])]]]]]]]]],?_⟩;refine zlu ?_; intro qd nH mo;refine (iq rfl (ex4 _ _ _ _ ⟨rfl,.tup hc.1,rfl,(iq rfl (zag ?_))⟩));refine (iq rfl ⟨c,(iq rfl ⟨.inr (iI.of hc.1),rfl,(iq rfl (zag ?_))⟩)⟩);refine⟨_,rfl,c,_,rfl,iI.of hc.1,rfl,_,_,rfl,_,_,rfl,_,_,rfl,rfl,?_⟩;refine (iq rfl ⟨p,rfl,fun H1 s1=>(iq rfl ?_)⟩);by_cases h1:zab.contains p=true;rotate_left
  ·have h1:zab.contains p=false:=by simpa using h1
   rw [h1];have e:codeB p k pl=false:=by unfold codeB; rw [h1]; rfl
   rw [e] at q;exact zaA (q _ s1)
  rw [h1];refine zag ?_;refine (iq rfl ⟨.int k,rfl,.int k,(iq rfl (zag ?_))⟩);refine (iq rfl (iD rfl rfl (iq rfl (zcu (fun h2=>?_) (fun h2=>?_)))));rotate_left
  ·have h2:¬ (1:Int)≤k:=by simpa using h2
   have e:codeB p k pl=false:=by unfold codeB; rw [h1,decide_eq_false h2]; rfl
   rw [e] at q;exact (iq rfl (zaA (q _ s1)))
  have h2:(1:Int)≤k:=by simpa using h2
  refine (iD rfl rfl (iq rfl ?_));by_cases h3:k≤5;rotate_left
  ·rw [decide_eq_false h3];have e:codeB p k pl=false:=by unfold codeB; rw [h1,decide_eq_true h2,decide_eq_false h3]; rfl
   rw [e] at q;exact zaA (q _ s1)
  rw [decide_eq_true h3];refine zag ?_;have e:codeB p k pl=zaT p k pl:=by unfold codeB zaT; rw [h1,decide_eq_true h2,decide_eq_true h3]; rfl
  rw [e] at q;exact (iq rfl (iq rfl (iq rfl (ex4 p k tt pl ⟨rfl,s1 _ _ hc.2,fun H' s'=>q H' (s1.trans s')⟩))))
theorem zfz {X:Cx} {st:Stmt} {ts:TS} (h:PS X st ts):PS X st (fun D σ H=>∃ Pv:L2.St→Hp→Prop,ts { D with nx:=Pv } σ H∧∀ σ' H',Pv σ' H'→D.nx σ' H'):=by
 intro ip s σ H D I hq;obtain⟨Pv,h1,h2⟩:=hq;refine thn (h ip s σ H _ I h1) fun f s1 q=>?_
 cases f with
 | next =>
  obtain⟨σ',H',I',p⟩:=q;exact⟨σ',H',I',h2 _ _ p⟩
 | ret v=>exact q
 | brk=>exact q
 | cont=>exact q
theorem zlZ:("0" : Str)=⟨#[48]⟩:=by decide +kernel
theorem zjV {c:Nat}:((⟨#[c]⟩:Str) = "0")↔c=48:=by
 rw [zlZ];constructor
 ·intro h;injection h with h
  injection h with h
  injection h
 ·intro h;rw [h]
theorem str_len (z:Str):z.cps.toList.length=z.length:=by simp [Str.length]
def zd8 (K:af):Sp:=fun vs H Q _=>∃ z:Str,vs = [.str z]∧z.length≤100000∧Q (.bl (zah 4 z)) H
theorem zew:FnScope ["word"] ["word"] (zj zaR):=#[S]
theorem zcC {fd:FuncData} (T:Txt K mg t) (F:Fun K "is_written" "is_written" zaR t.is_written fd):FnOk P w K mg base CX0 1 t.is_written fd ["word"] (zd8 K):=by
 refine F.ok zew (fun vs H Q E h=>?_) (fun iy A outer s H vs Q E hr h=>?_)
 ·obtain⟨z,rfl,_⟩:=h;rfl
 ·obtain⟨z,rfl,hz,q⟩:=h;refine zb0 ?_; intro zX;refine⟨_,#[ze,#[zY,(@PW.pt _ _ _ #[zbt,#[zB,#[zfY],#[zm,(@zfe _),T.len_,bf,#[ya,(@L2.pv _ 0 _ _ (by rfl) (by first | exact ae rfl | exact aa #[A] | exact aa (aa rfl)) #[D] #[D])]],#[z8,(.int 4),T.g_MOST_FIGURES.choose_spec,⟨_,rfl⟩],(zI _)],#[zbt,#[zaf,#[zaz,#[zfg,bV,PySem.F.slot_str_isascii,PySem.F.type_str_isascii,(@zg5 _),(@L2.pv _ 0 _ _ (by rfl) (by first | exact ae rfl | exact aa #[A] | exact aa (aa rfl)) #[D] #[D])]]],#[za6,#[zaf,#[zaz,#[zfg,bV,PySem.F.slot_str_isdigit,PySem.F.type_str_isdigit,(@zg6 _),(@L2.pv _ 0 _ _ (by rfl) (by first | exact ae rfl | exact aa #[A] | exact aa (aa rfl)) #[D] #[D])]]]]]]),#[zk,#[zF,#[za1]]],#[zy]],#[zk,#[zF,(@zn5 _ _ _ _ _ _ _ #[zcO,#[zcw],(@L2.pv _ 0 _ _ (by rfl) (by first | exact ae rfl | exact aa #[A] | exact aa (aa rfl)) #[D] #[D]),#[zq],(zI _)] #[zgJ,#[zcO,#[zcx],#[zZ,(@zm3 _),(@L2.pv _ 0 _ _ (by rfl) (by first | exact ae rfl | exact aa #[A] | exact aa (aa rfl)) #[D] #[D]),#[zh]],#[zq],(zI _)]])]]],?_⟩;refine zm8 ?_; intro mo;have kz:=aM;refine (iq rfl ⟨z,rfl,#[O],(iD rfl rfl (iq rfl ?_))⟩);by_cases h1:z.length≤4;rotate_left
  ·rw [decide_eq_true (show ((4:Int) < (z.length:Nat)) by lia)];have e:zah 4 z=false:=by unfold zah; rw [decide_eq_false h1]; simp
   rw [e] at q;exact zaA q
  rw [decide_eq_false (show ¬ ((4:Int) < (z.length:Nat)) by lia)];refine zag ?_;refine (iq rfl ⟨rfl,z,rfl,rfl,(iq rfl ?_)⟩);cases h2:z.cps.all (fun x=>decide (x < 128)) with
  | false =>
   have e:zah 4 z=false:=by
    unfold zah;cases h3:z.cps.all zdX with
    | false=>simp
    | true=>rw [zjM h3] at h2; cases h2
   rw [e] at q;exact zaA q
  | true =>
  refine zag ?_;refine (iq rfl ⟨rfl,z,rfl,rfl,(iq rfl ?_)⟩);have e2:(decide (z.length > 0) && z.cps.all cS)=(decide (1≤z.length) && z.cps.all zdX):=by rw [zg8 h2]; rfl
  rw [e2];cases h3:(decide (1≤z.length) && z.cps.all zdX) with
  | false =>
   have e:zah 4 z=false:=by
    unfold zah;rw [Bool.and_eq_false_iff] at h3;rcases h3 with h3 | h3 <;> rw [h3] <;> simp
   rw [e] at q;exact zaA q
  | true =>
  rw [aF] at h3;refine zag ?_;have ew:zah 4 z=(decide (z = "0") || decide (z.cps.toList[0]?≠some 48)):=by unfold zah; rw [h3.1,h3.2,decide_eq_true h1]; rfl
  have h0:1≤z.length:=by simpa using h3.1
  rw [ew] at q;refine (iq rfl ⟨rfl,(iq rfl ?_)⟩);by_cases e:z = "0"
  ·rw [decide_eq_true (by rw [e])];rw [decide_eq_true e] at q;exact zaA q
  ·rw [decide_eq_false (fun w'=>e (by injection w'))];rw [decide_eq_false e] at q;refine zag ?_;have hl:=str_len z;have hc:z.cps.toList[0]? = some (z.cps.toList[0]'#[O]):=a7 #[O];have hat:atI z.cps.toList 0=some (z.cps.toList[0]'#[O]):=zci (j:=0) hc;refine (iq rfl (ex3 z 0 _ ⟨rfl,rfl,#[O],hat,rfl,?_⟩));rw [hc] at q;generalize z.cps.toList[0]'#[O]=c at q ⊢;have e5:(!decide (V.str (⟨#[c]⟩:Str)=V.str "0"))=(false || decide (some c≠some 48)):=by
    rw [bu];simp only [c9,decide_eq_false_iff_not,ia,decide_eq_true_eq,ne_eq,Option.some.injEq,V.str.injEq];rw [zjV]
   rw [e5];exact q
def zfA (t:Adr) (K:af):Sp:=fun vs H Q E=>∃ z:Str,vs = [.str z]∧z.length≤900 ∧
 (∀ (p k:Int) (pl:List Int),zdY z=some (p,k,pl)→∀ (c tt:Addr) (H':Hp),H c=none→zJ H H'→zde H' c tt p k pl→Q (.ref c) H')∧(zdY z=none→∀ H',zJ H H'→E (.ref t.NoText) none H')
theorem zou (xs:List V) (j:Nat):zct xs none (some (j:Int))=xs.take j:=by
 unfold zct;rw [HT.sIx_nat,HT.sIx_none,Nat.sub_zero,hG];by_cases h:j≤xs.length
 ·rw [g6 h]
 ·rw [show min j xs.length=xs.length by lia,bI (ak _),bI (show xs.length≤j by lia)]
theorem zl0 (xs:List V) (i:Nat):zct xs (some (i:Int)) none=xs.drop i:=by
 unfold zct;rw [HT.sIx_nat,HT.sIx_none];by_cases h:i≤xs.length
 ·rw [g6 h];exact bI (by rw [dh]; exact ak _)
 ·rw [Nat.min_eq_right #[O],cq (ak _),cq #[O]];simp
theorem znw (xs:List V):zct xs (some 2) (some 3)=(xs.drop 2).take 1:=by
 show zct xs (some ((2:Nat):Int)) (some ((3:Nat):Int))=_;unfold zct;rw [HT.sIx_nat,HT.sIx_nat];by_cases h:3≤xs.length
 ·have e2:min 2 xs.length=2:=by lia
  have e3:min 3 xs.length=3:=by lia
  rw [e2,e3]
 ·have e1:min 3 xs.length - min 2 xs.length=0:=by lia
  rw [e1,List.take_zero,cq (show xs.length≤2 by lia)];rfl
theorem zjW {H:Hp} {d:Nat} (x y:Str):EqD K H d (.str x) (.str y) (decide (x=y)):=by
 have h:=EqD.flat (K:=K) (H:=H) (d:=d) (x:=.str x) (y:=.str y) rfl rfl;have e:eqV (.str x) (.str y)=decide (x=y):=by
  simp only [eqV];rw [bu];simp
 rw [e] at h;exact h
theorem zjX (ws:List Str):(∃ a b c r,ws=a :: b :: c :: r)∨ws.length≤2:=by
 match ws with
 | a :: b :: c :: r=>exact .inl ⟨a,b,c,r,rfl⟩
 | []=>exact .inr #[M]
 | [_]=>exact .inr #[M]
 | [_,_]=>exact .inr #[M]
theorem zix {ws:List Str} (h:ws.length≤2):zjN ws=none:=by
 match ws,h with
 | [],_=>rfl
 | [_],_=>rfl
 | [_,_],_=>rfl
 | _ :: _ :: _ :: _,h=>simp at h
theorem zaw:FnScope ["text","words","numbers","p","k","places","code"] ["text"] (zj zar):=#[S]
theorem zfB {fd:FuncData} (T:Txt K mg t) (F:Fun K "read_code" "read_code" zar t.read_code fd):FnOk P w K mg base (CX1 P w) 5 t.read_code fd ["text"] (zfA t K):=by
 obtain⟨j6,iK,iZ⟩:=T.f_is_written;have i':=zcC (P:=P) (w:=w) (base:=base) T iK;obtain⟨oy,ke,lG⟩:=T.f_is_code;have lH:=zhc (P:=P) (w:=w) (base:=base) T ke;refine F.okX zaw (fun vs H Q E h=>?_) (fun iy A outer s H vs Q E hr h=>?_)
 ·obtain⟨z,rfl,_⟩:=h;rfl
 ·have hu:(A.deeper (envOfC (bX "read_code") (zj zar) s.heap.objs.size t.read_code iy)).units+20 < cLine:=by have:=hr.units; lia
  refine zb0 ?_; intro zX;refine⟨_,#[ze,#[zY,#[zaf,#[zaz,#[zm,#[zaN],T.isinstance_,aO,#[za,(@L2.pv _ 0 _ _ (by rfl) (by first | exact ae rfl | exact aa #[A] | exact aa (aa rfl)) #[D] #[D]),#[ya,#[zbL,(.ty "str"),T.str_,boot_str]]]]]],#[zk,#[zac,(fun _ _ _ _ _ _ _ _ I m q=>zN I m q),T.x_NoText,T.xi_NoText,#[zq]]],#[zy]],#[ze,#[zC,1,zaw.nd,#[A],#[zcz,bV,fb,fe,#[zeX],(@L2.pv _ 0 _ _ (by rfl) (by first | exact ae rfl | exact aa #[A] | exact aa (aa rfl)) #[D] #[D]),#[ya,#[zq]]]],#[ze,#[zC,2,zaw.nd,#[A],#[zt,#[zc8],#[zb5,zcQ,(@L2.pv _ 1 _ _ (by rfl) (by first | exact ae rfl | exact aa #[A] | exact aa (aa rfl)) #[D] #[D]),#[zdG],#[zch,#[zh]]],#[zb5,zcQ,(@L2.pv _ 1 _ _ (by rfl) (by first | exact ae rfl | exact aa #[A] | exact aa (aa rfl)) #[D] #[D]),#[zch,#[zh]],#[zdG]]]],#[ze,#[zY,(@PW.pt _ _ _ #[zbt,#[zB,#[zdc,hu],#[zb5,zcQ,(@L2.pv _ 1 _ _ (by rfl) (by first | exact ae rfl | exact aa #[A] | exact aa (aa rfl)) #[D] #[D]),#[zch,#[zh]],#[zch,#[zh]]],#[zaa,#[ya,#[zq]]],(zI _)],#[za6,#[zaf,#[zaz,#[zm,#[zco],T.all_,gJ,#[ya,#[zaQ,(CompSc.of (N':=["word"]) (ix:=[none]) (zj zar) ["text","words","numbers","p","k","places","code"] rfl rfl #[N]),#[zaP],#[zbd,(@L2.pv _ 2 _ _ (by rfl) (by first | exact ae rfl | exact aa #[A] | exact aa (aa rfl)) #[D] #[D])],(fun _ _ _ _=>#[zr,0,(show (["word"]:List Str).Nodup from #[N]),#[A]]),(fun _ _ _ _=>#[zaB]),(fun _ _ _ _=>#[zH,i',(hr.mono #[D]),T.m_is_written,iK.kp,iZ,#[z7],#[ya,(@L2.pv _ 0 _ _ (by rfl) (by first | exact ae rfl | exact aa #[A] | exact aa (aa rfl)) #[D] #[D])]])]]]]]]]),#[zk,#[zac,(fun _ _ _ _ _ _ _ _ I m q=>zN I m q),T.x_NoText,T.xi_NoText,#[zq]]],#[zy]],#[ze,#[za7,#[zaQ,(CompSc.of (N':=["word"]) (ix:=[none]) (zj zar) ["text","words","numbers","p","k","places","code"] rfl rfl #[N]),#[zaP],#[zbd,(@L2.pv _ 2 _ _ (by rfl) (by first | exact ae rfl | exact aa #[A] | exact aa (aa rfl)) #[D] #[D])],(fun _ _ _ _=>#[zr,0,(show (["word"]:List Str).Nodup from #[N]),#[A]]),(fun _ _ _ _=>#[zaB]),(fun _ _ _ _=>#[zaM,#[zeY],T.int_,boot_int,#[ya,(@L2.pv _ 0 _ _ (by rfl) (by first | exact ae rfl | exact aa #[A] | exact aa (aa rfl)) #[D] #[D])]])],(@zlN _ _ _ _ _ _ rfl #[zG,#[zr,3,zaw.nd,#[A]],#[zG,#[zr,4,zaw.nd,#[A]],#[zG,#[zr,5,zaw.nd,#[A]],#[za0]]]] (by rfl) (by rfl) (by rfl))],#[ze,#[zC,6,zaw.nd,#[A],#[zaL,#[za,(@L2.pv _ 3 _ _ (by rfl) (by first | exact ae rfl | exact aa #[A] | exact aa (aa rfl)) #[D] #[D]),#[za,(@L2.pv _ 4 _ _ (by rfl) (by first | exact ae rfl | exact aa #[A] | exact aa (aa rfl)) #[D] #[D]),#[ya,#[zaM,#[zcy],T.tuple_,fE,#[ya,(@L2.pv _ 5 _ _ (by rfl) (by first | exact ae rfl | exact aa #[A] | exact aa (aa rfl)) #[D] #[D])]]]]]]],#[ze,#[zY,#[zaf,#[zaz,#[zH,lH,(hr.mono #[D]),T.m_is_code,ke.kp,lG,#[z7],#[ya,(@L2.pv _ 6 _ _ (by rfl) (by first | exact ae rfl | exact aa #[A] | exact aa (aa rfl)) #[D] #[D])]]]],#[zk,#[zac,(fun _ _ _ _ _ _ _ _ I m q=>zN I m q),T.x_NoText,T.xi_NoText,#[zq]]],#[zy]],#[zk,#[zF,(@L2.pv _ 6 _ _ (by rfl) (by first | exact ae rfl | exact aa #[A] | exact aa (aa rfl)) #[D] #[D])]]]]]]]]],?_⟩;refine zoY ?_; intro zN8 zN7 zN6 zN5 qd nH mo;have kz:=aM;obtain⟨z,rfl,hz,q1,q2⟩:=h;refine (iq rfl (ex4 _ _ _ _ ⟨rfl,.str _,rfl,(iq rfl (zag ?_))⟩));refine (iq rfl ⟨rfl,z,rfl,rfl,#[O],fun l hl=>?_⟩);have kb:=L2.split_le z;have hSL:=zdW z;unfold zdY at q1 q2;generalize gZ z " " = ws at kb hSL q1 q2 ⊢;have hwd:∀ w∈ws,w.length≤900:=fun w hw=>by have:=zg7 hw; lia
  have s1:=zf (o:=.lst (ws.map V.str)) hl;have h1:upd H l (.lst (ws.map V.str)) l=some (.lst (ws.map V.str)):=zb;generalize upd H l (.lst (ws.map V.str))=H1 at s1 h1 ⊢;refine (iq rfl (iq rfl ⟨l,(iq rfl ⟨iw.of h1,fun a1 ha1=>?_⟩)⟩));have c1:zct (ws.map V.str) none (some 2)=(ws.map V.str).take 2:=zou _ 2;have c2:zct (ws.map V.str) (some 3) none=(ws.map V.str).drop 3:=zl0 _ 3;have c3:zct (ws.map V.str) (some 2) (some 3)=((ws.map V.str).drop 2).take 1:=znw _;rw [c1];have s2:=zf (o:=.lst ((ws.map V.str).take 2)) ha1;refine (iq rfl (iq rfl ⟨l,(iq rfl ⟨iw.of (s2 _ _ h1),fun a2 ha2=>?_⟩)⟩));rw [c2];have s3:=zf (o:=.lst ((ws.map V.str).drop 3)) ha2;refine (ex4 a1 a2 _ _ ⟨rfl,rfl,s3 _ _ zb,zb,by rw [cB,dh,ah]; lia,fun a3 ha3=>?_⟩);have sA:=s2.trans (s3.trans (zf (o:=.lst ((ws.map V.str).take 2++(ws.map V.str).drop 3)) ha3));have h3:upd (upd (upd H1 a1 (.lst ((ws.map V.str).take 2))) a2 (.lst ((ws.map V.str).drop 3))) a3 (.lst ((ws.map V.str).take 2++(ws.map V.str).drop 3)) a3=some (.lst ((ws.map V.str).take 2++(ws.map V.str).drop 3)):=zb;have h2:=sA _ _ h1;generalize upd (upd (upd H1 a1 (.lst ((ws.map V.str).take 2))) a2 (.lst ((ws.map V.str).drop 3))) a3 (.lst ((ws.map V.str).take 2++(ws.map V.str).drop 3))=H3 at sA h2 h3 ⊢;have qO:=s1.trans sA;refine (iq rfl (iq rfl (iq rfl ⟨l,(iq rfl ⟨iw.of h2,fun a4 ha4=>?_⟩)⟩)));rw [c3];refine⟨by show 1≤sizeLine; lia,fun a5 ha5=>?_⟩;have t4:=zf (o:=.lst (((ws.map V.str).drop 2).take 1)) ha4;have t5:=zf (o:=.lst [.str ":"]) ha5;have m6:=qO.trans (t4.trans t5);have h5:=t5 _ _ (t4 _ _ h3);have h4:upd (upd H3 a4 (.lst (((ws.map V.str).drop 2).take 1))) a5 (.lst [.str ":"]) a4=some (.lst (((ws.map V.str).drop 2).take 1)):=t5 _ _ zb;have tx:upd (upd H3 a4 (.lst (((ws.map V.str).drop 2).take 1))) a5 (.lst [.str ":"]) a5=some (.lst [.str ":"]):=zb;generalize upd (upd H3 a4 (.lst (((ws.map V.str).drop 2).take 1))) a5 (.lst [.str ":"])=H5 at m6 h5 h4 tx ⊢;rcases zjX ws with ⟨a,b,c,r,rfl⟩ | ma
  rotate_left
  ·have e0:((ws.map V.str).drop 2).take 1 = []:=by rw [cq (by rw [ah]; lia)]; rfl
   rw [e0] at h4;refine (ex4 a4 a5 ([]) ([.str ":"]) ⟨rfl,rfl,.inl ⟨iw.of h4,iw.of tx⟩,.inl ⟨#[D],fun j x y hx=>by simp at hx,?_⟩⟩);refine (iq rfl (zaA ?_));exact⟨rfl,q2 (zix ma) _ m6⟩
  have e0:(((a :: b :: c :: r).map V.str).drop 2).take 1 = [.str c]:=rfl;rw [e0] at h4;have e3:(((a :: b :: c :: r).map V.str).take 2++((a :: b :: c :: r).map V.str).drop 3)=(a :: b :: r).map V.str:=rfl;rw [e3] at h5;refine (ex4 a4 a5 ([.str c]) ([.str ":"]) ⟨rfl,rfl,.inl ⟨iw.of h4,iw.of tx⟩,.inr ⟨rfl,fun _=>decide (c = ":"),fun j x y hx hy=>?_,?_⟩⟩)
  ·match j,hx,hy with
   | 0,hx,hy=>cases hx; cases hy; exact zjW c ":"
   | (j+1),hx,hy=>simp at hx
  have er:(aV [V.str c].length).all (fun _=>decide (c = ":"))=decide (c = ":"):=by
   show (aV 1).all (fun _=>decide (c = ":"))=_;simp
  rw [er,if_pos rfl];refine (iq rfl ?_);have tz:zjN (a :: b :: c :: r)=if (decide (c = ":") && ((a :: b :: r).all (zah 4) && codeB (z9 a) (z9 b) (r.map z9)))=true then some (z9 a,z9 b,r.map z9) else none:=by rw [zjO]; rfl
  rw [tz] at q1 q2;cases hc:decide (c = ":") with
  | false =>
   rw [hc] at q2;refine zaA ?_;exact⟨rfl,q2 (if_neg #[M]) _ m6⟩
  | true =>
  rw [hc,ib] at q1 q2;refine zag ?_;have m7:∀ w∈a :: b :: r,w.length≤900:=fun w hw=>hwd w (by
   rcases (am.mp hw) with rfl | hw
   ·simp
   rcases (am.mp hw) with rfl | hw
   ·simp
   ·simp [hw])
  have lI:r.length≤900:=by simp only [aN] at kb; lia
  refine (iq rfl ⟨a3,rfl,⟨_,iw.of h5⟩,zcn (K:=K) (xs:=(a :: b :: r).map V.str) (fs:=((a :: b :: r).map (zah 4)).map V.bl) (iw.of h5) (by rw [ah,ah,ah]) (by rw [ah]; simp only [aN]; lia) ?_ ?_⟩)
  ·intro j x y R B hx hy hR;rw [aw] at hx;obtain⟨w1,mr,rfl⟩:=cr.mp hx;rw [aw,aw,mr] at hy;obtain rfl:V.bl (zah 4 w1)=y:=az hy;refine gY ?_;exact (iq rfl ⟨w1,rfl,by have:=m7 w1 (aE mr); lia,hR⟩)
  intro D hD;refine⟨D,(a :: b :: r).map (zah 4),rfl,iw.of zb,?_⟩;have e:((a :: b :: r).map (zah 4)).all id=(a :: b :: r).all (zah 4):=by rw [dD]; rfl
  rw [e];have oW:=m6.trans (zf (o:=.lst (((a :: b :: r).map (zah 4)).map V.bl)) hD);have h6:=(zf (o:=.lst (((a :: b :: r).map (zah 4)).map V.bl)) hD) _ _ h5;generalize upd H5 D (.lst (((a :: b :: r).map (zah 4)).map V.bl))=H6 at oW h6 ⊢;cases jz:(a :: b :: r).all (zah 4) with
  | false =>
   rw [jz] at q2;refine (iq rfl (zaA ?_));exact⟨rfl,q2 (if_neg #[M]) _ oW⟩
  | true =>
  rw [jz,ib] at q1 q2;refine (iq rfl (zag ?_));refine (iq rfl ⟨a3,rfl,⟨_,iw.of h6⟩,zcn (K:=K) (xs:=(a :: b :: r).map V.str) (fs:=((a :: b :: r).map z9).map V.int) (iw.of h6) (by rw [ah,ah,ah]) (by rw [ah]; simp only [aN]; lia) ?_ ?_⟩)
  ·intro j x y R B hx hy hR;rw [aw] at hx;obtain⟨w1,mr,rfl⟩:=cr.mp hx;rw [aw,aw,mr] at hy;obtain rfl:V.int (z9 w1)=y:=az hy;obtain⟨g1,g2,g3,_⟩:=zfu (zfv (bz.mp jz w1 (aE mr)));refine gY ?_;exact (iq rfl ⟨w1,rfl,g1,hR⟩)
  intro D2 oX;have s17:=oW.trans (zf (o:=.lst (((a :: b :: r).map z9).map V.int)) oX);refine (ex4 D2 (.int (z9 a)) (.int (z9 b)) ((r.map z9).map V.int) ⟨rfl,iw.of zb,by rw [ah,ah]; lia,fun l5 qP=>?_⟩);have qh:=s17.trans (zf (o:=.lst ((r.map z9).map V.int)) qP);refine⟨_,_,rfl,_,_,rfl,_,_,rfl,rfl,?_⟩;refine (iq rfl (iq rfl (iq rfl ⟨l5,(iq rfl (.inl ⟨iw.of zb,fun tt sP=>?_⟩))⟩)));have qi:=qh.trans (zf (o:=.tup ((r.map z9).map V.int)) sP);refine⟨by show 3≤sizeLine; lia,fun c' iO=>?_⟩;have qj:=qi.trans (zf (o:=.tup [.int (z9 a),.int (z9 b),.ref tt]) iO);have lj:zde (upd (upd (upd (upd H6 D2 (.lst (((a :: b :: r).map z9).map V.int))) l5 (.lst ((r.map z9).map V.int))) tt (.tup ((r.map z9).map V.int))) c' (.tup [.int (z9 a),.int (z9 b),.ref tt])) c' tt (z9 a) (z9 b) (r.map z9):=⟨zb,(zf iO) _ _ zb⟩;refine (iq rfl (ex5 c' tt _ _ _ ⟨rfl,lj,fun H' s'=>(iq rfl ?_)⟩));cases hcb:codeB (z9 a) (z9 b) (r.map z9) with
  | false =>
   rw [hcb] at q2;refine zaA ?_;exact⟨rfl,q2 (if_neg #[M]) _ (qj.trans s')⟩
  | true =>
   rw [hcb] at q1;refine zag ?_;exact (iq rfl (q1 _ _ _ (if_pos rfl) c' tt H' (qi.free iO) (qj.trans s') (lj.same s')))
end
section
variable {P:Program} {w:World} {K:af} {mg:Str→Option Value} {base:Heap} {t:Adr}
def nh5 (rw:List (Option Int)):Nat:=(rw.filter Option.isSome).length
theorem zjY {rw:List (Option Int)} {i:Nat} {o:Option Int} (h:rw[i]? = some o):nh5 (rw.take (i+1))=nh5 (rw.take i)+if o.isSome then 1 else 0:=by
 unfold nh5;rw [List.take_succ,h,List.filter_append,bc];cases o <;> rfl
theorem zjZ (rw:List (Option Int)) (i:Nat):nh5 (rw.take i)≤i:=by
 unfold nh5;exact aZ (fq _ _) (cN _ _)
def ziy (K:af):Sp:=fun vs H Q _=>∃ (c tt r:Addr) (p k:Int) (pl:List Int) (rw:List (Option Int)),vs = [.ref c,.ref r]∧zbY K H c tt p k pl∧iw K H r (rw.map iA)∧rw.length=pl.length∧pl.length≤1000 ∧
 ∀ (l:Addr) (ys:List V) (H':Hp),H l=none→zJ H H'→ys.length=nh5 rw→H' l=some (.lst ys)→Q (.ref l) H'
theorem zaJ:FnScope ["code","row","p","k","places"] ["code","row"] (zj zap):=#[S]
theorem zdA {fd:FuncData} (T:Txt K mg t) (F:Fun K "heard_points" "heard_points" zap t.heard_points fd):FnOk P w K mg base CX0 1 t.heard_points fd ["code","row"] (ziy K):=by
 refine F.ok zaJ (fun vs H Q E h=>?_) (fun iy A outer s H vs Q E hr h=>?_)
 ·obtain⟨c,tt,r,p,k,pl,rw,rfl,_⟩:=h;rfl
 ·obtain⟨c,tt,r,p,k,pl,rw,rfl,hc,mv,hl,hn,q⟩:=h;refine zb0 ?_; intro zX;refine⟨_,#[ze,#[za7,(@L2.pv _ 0 _ _ (by rfl) (by first | exact ae rfl | exact aa #[A] | exact aa (aa rfl)) #[D] #[D]),#[zbM,#[zG,#[zr,2,zaJ.nd,#[A]],#[zG,#[zr,3,zaJ.nd,#[A]],#[zG,#[zr,4,zaJ.nd,#[A]],#[za0]]]]]],#[zk,#[zF,#[zaQ,(CompSc.of (N':=["place","entry"]) (ix:=[none,none]) (zj zap) ["code","row","p","k","places"] rfl rfl #[N]),(@znb _ _ _ _ #[zf7,#[zf7,(@zly _)]]),(@zjB _ _ _ _ _ _ _ _ _ rfl T.zip_ #[za,(@L2.pv _ 4 _ _ (by rfl) (by first | exact ae rfl | exact aa #[A] | exact aa (aa rfl)) #[D] #[D]),#[ya,(@L2.pv _ 1 _ _ (by rfl) (by first | exact ae rfl | exact aa #[A] | exact aa (aa rfl)) #[D] #[D])]] (by rfl) (by rfl)),(fun _ _ _ _=>(@zlA _ (K) _ _ _ (2) _ rfl rfl #[zG,#[zr,0,(show (["place","entry"]:List Str).Nodup from #[N]),#[A]],#[zG,#[zr,1,(show (["place","entry"]:List Str).Nodup from #[N]),#[A]],#[za0]]] (by rfl) (by rfl))),(fun _ _ _ _=>(@zjn _ _ _ #[zB,#[zhE],(@L2.pv _ 1 _ _ (by rfl) (by first | exact ae rfl | exact aa #[A] | exact aa (aa rfl)) #[D] #[D]),#[zc4],(zI _)])),(fun _ _ _ _=>#[zaL,#[za,(@L2.pv _ 0 _ _ (by rfl) (by first | exact ae rfl | exact aa #[A] | exact aa (aa rfl)) #[D] #[D]),#[ya,(@L2.pv _ 1 _ _ (by rfl) (by first | exact ae rfl | exact aa #[A] | exact aa (aa rfl)) #[D] #[D])]]])]]]],?_⟩;refine zm8 ?_; intro mo;have kz:=aM;refine⟨_,rfl,c,_,rfl,hc.1.sq,rfl,_,_,rfl,_,_,rfl,_,_,rfl,rfl,?_⟩;refine (iq rfl (iq rfl (ex4 tt r _ _ ⟨rfl,hc.2.sq,mv,zf4 (n:=pl.length) (fun i ys H'=>ys.length=nh5 (rw.take i)∧zJ H H') ⟨rfl,fun _ _ e=>e⟩ ?_ ?_ ?_ ?_⟩)))
  ·rintro i ys H3 hi ⟨_,s3⟩;obtain⟨o,ho⟩:∃ o,rw[i]? = some o:=⟨rw[i]'#[O],#[M]⟩;exact⟨_,_,.int pl[i],iA o,(hc.2.same s3).sq,s3.seq mv,by rw [aw,a7 hi]; rfl,by rw [aw,ho]; rfl⟩
  ·rintro ys H3 ⟨_,s3⟩;exact⟨_,_,(hc.2.same s3).sq,s3.seq mv,.inl (by rw [ah])⟩
  ·rintro zS zT zE i xx ys H3 H4 hi ⟨hy,s3⟩ ⟨T,u,v,hT,rfl,rfl,hu,hv⟩;obtain⟨x,rfl,hx⟩:=zdI (hu _ (hc.2.same s3).sq);obtain⟨o,rfl,ho⟩:=zlG (hv _ (s3.seq mv));have s4:=s3.trans (zf (o:=.tup [.int x,iA o]) hT);have hs:=zjY ho;have hb:=zjZ rw i;refine⟨T,_,rfl,iI.of zb,rfl,_,_,rfl,_,_,rfl,rfl,?_⟩;refine (iq rfl ⟨rfl,(iq rfl ?_)⟩);cases o with
   | none =>
    refine zag ⟨?_,s4⟩;rw [hs];exact hy
   | some z =>
    refine zaA (iq rfl (iq rfl ⟨by show 2≤sizeLine; lia,fun T2 hT2=>⟨#[O],?_,s4.trans (zf hT2)⟩⟩));rw [bc,hs,hy];rfl
  ·rintro ys H3 D ⟨hy,s3⟩ hD;refine q D ys _ (s3.free hD) (s3.trans (zf hD)) ?_ zb;rw [hy,← hl,eH]
def zdj (t:Adr) (K:af):Sp:=fun vs H Q E=>∃ (k:Int),vs = [.int k]∧((k < 2∧E (.ref t.NoCurve) none H)∨(2≤k∧Q .non H))
theorem zdB:FnScope ["k"] ["k"] (zj zaC):=#[S]
theorem zbZ {fd:FuncData} (T:Txt K mg t) (F:Fun K "check_curves" "check_curves" zaC t.check_curves fd):FnOk P w K mg base (CX1 P w) 1 t.check_curves fd ["k"] (zdj t K):=by
 refine F.okX zdB (fun vs H Q E h=>?_) (fun iy A outer s H vs Q E hr h=>?_)
 ·obtain⟨k,rfl,_⟩:=h;rfl
 ·obtain⟨k,rfl,q⟩:=h;refine zb0 ?_; intro zX;refine⟨_,#[zk,#[zY,#[zB,#[zhD],(@L2.pv _ 0 _ _ (by rfl) (by first | exact ae rfl | exact aa #[A] | exact aa (aa rfl)) #[D] #[D]),#[zh],(zI _)],#[zk,#[zac,(fun _ _ _ _ _ _ _ _ I m q=>zN I m q),T.x_NoCurve,T.xi_NoCurve,#[zq]]],#[zy]]],?_⟩;refine (iq rfl (iD rfl rfl (iq rfl ?_)));rcases q with ⟨h1,q⟩ | ⟨h1,q⟩
  ·refine zcu (fun _=>?_) (fun h=>absurd (decide_eq_true #[O]) h);exact⟨rfl,q⟩
  ·exact zcu (fun h=>absurd (of_decide_eq_true h) #[O]) (fun _=>q)
def zdC (t:Adr) (K:af):Sp:=fun vs H Q E=>∃ (c tt pa cv:Addr) (p k:Int) (pl:List Int) (v1 v2:V),vs = [.ref c,v1,v2,.ref pa]∧zbY K H c tt p k pl∧iI K H pa [.int 9,.ref cv] ∧
 ((k < 2∧E (.ref t.NoCurve) none H)∨(2≤k∧Q (.bl false) H))
theorem zaq:FnScope ["code","row","t","paper","p","k","places","m","curve"] ["code","row","t","paper"] (zj zaF):=#[S]
theorem zd9 {fd:FuncData} (T:Txt K mg t) (F:Fun K "paper_holds" "paper_holds" zaF t.paper_holds fd):FnOk P w K mg base (CX1 P w) 2 t.paper_holds fd ["code","row","t","paper"] (zdC t K):=by
 obtain⟨jD,iC,iR⟩:=T.f_check_curves;have iS:=zbZ (P:=P) (w:=w) (base:=base) T iC;refine F.okX zaq (fun vs H Q E h=>?_) (fun iy A outer s H vs Q E hr h=>?_)
 ·obtain⟨c,tt,pa,cv,p,k,pl,v1,v2,rfl,_⟩:=h;rfl
 ·obtain⟨c,tt,pa,cv,p,k,pl,v1,v2,rfl,hc,oY,q⟩:=h;refine zb0 ?_; intro zX;refine⟨_,#[ze,#[za7,(@L2.pv _ 0 _ _ (by rfl) (by first | exact ae rfl | exact aa #[A] | exact aa (aa rfl)) #[D] #[D]),#[zbM,#[zG,#[zr,4,zaq.nd,(aa rfl)],#[zG,#[zr,5,zaq.nd,#[A]],#[zG,#[zr,6,zaq.nd,#[A]],#[za0]]]]]],#[ze,#[zam,#[zH,iS,(hr.mono #[D]),T.m_check_curves,iC.kp,iR,#[zW],#[ya,(@L2.pv _ 5 _ _ (by rfl) (by first | exact ae rfl | exact aa #[A] | exact aa (aa rfl)) #[D] #[D])]]],#[ze,#[za7,(@L2.pv _ 3 _ _ (by rfl) (by first | exact ae rfl | exact aa #[A] | exact aa (aa rfl)) #[D] #[D]),#[zbM,#[zG,#[zr,7,zaq.nd,(aa rfl)],#[zG,#[zr,8,zaq.nd,(aa rfl)],#[za0]]]]],#[ze,#[zY,(@PW.pt _ _ _ #[zbt,#[zaf,#[zcP,#[zcN],#[zcN],#[zh],(@L2.pv _ 7 _ _ (by rfl) (by first | exact ae rfl | exact aa #[A] | exact aa (aa rfl)) #[D] #[D]),#[z8,(.int 4),T.g_MOST_PAPER_WEIGHT.choose_spec,⟨_,rfl⟩],(by with_unfolding_all rfl)]],#[za6,#[zB,#[zmI],zio,#[zt,#[za8],(@L2.pv _ 7 _ _ (by rfl) (by first | exact ae rfl | exact aa #[A] | exact aa (aa rfl)) #[D] #[D]),(@L2.pv _ 2 _ _ (by rfl) (by first | exact ae rfl | exact aa #[A] | exact aa (aa rfl)) #[D] #[D])],(zI _)]]]),#[zk,#[zF,#[za1]]],#[zy]],#[zbg]]]]],?_⟩;refine zoX ?_; intro zN5 qd nH mo;refine⟨_,rfl,c,_,rfl,hc.1.sq,rfl,_,_,rfl,_,_,rfl,_,_,rfl,rfl,?_⟩;refine (iq rfl ⟨k,rfl,?_⟩);rcases q with ⟨h1,q⟩ | ⟨h1,q⟩
  ·exact .inl ⟨h1,q⟩
  refine .inr ⟨h1,?_⟩;refine⟨_,rfl,pa,_,rfl,oY,rfl,_,_,rfl,_,_,rfl,rfl,?_⟩;refine (iq rfl (iD rfl rfl (iq rfl ?_)));rw [if_pos #[D]];refine (iD rfl rfl (iq rfl ?_));show (if (!decide ((9:Int)≤4))=true then _ else _);rw [if_pos #[D]];exact zaA q
end
section
variable {P:Program} {w:World} {K:af} {mg:Str→Option Value} {base:Heap} {t:Adr}
def zgn (t:Adr) (K:af):Sp:=fun vs H Q E=>∃ (c tt pa cv:Addr) (p k:Int) (pl:List Int) (v1 v2:V),vs = [.ref c,v1,v2,.ref pa]∧zbY K H c tt p k pl∧iI K H pa [.int 9,.ref cv] ∧
 ((k < 2∧E (.ref t.NoCurve) none H)∨(2≤k∧E (.ref t.NoPaper) none H))
theorem zhd:FnScope ["code","row","t","paper","p","k","places","m","curve"] ["code","row","t","paper"] (zj zbE):=#[S]
theorem zhe {fd:FuncData} (T:Txt K mg t) (F:Fun K "near_by" "near_by" zbE t.near_by fd):FnOk P w K mg base (CX1 P w) 3 t.near_by fd ["code","row","t","paper"] (zgn t K):=by
 obtain⟨mw,ji,j7⟩:=T.f_paper_holds;have j8:=zd9 (P:=P) (w:=w) (base:=base) T ji;refine F.okX zhd (fun vs H Q E h=>?_) (fun iy A outer s H vs Q E hr h=>?_)
 ·obtain⟨c,tt,pa,cv,p,k,pl,v1,v2,rfl,_⟩:=h;rfl
 ·obtain⟨c,tt,pa,cv,p,k,pl,v1,v2,rfl,hc,oY,q⟩:=h;refine⟨_,#[ze,#[zY,#[zaf,#[zaz,#[zH,j8,(hr.mono #[D]),T.m_paper_holds,ji.kp,j7,#[zW],#[za,(@L2.pv _ 0 _ _ (by rfl) (by first | exact ae rfl | exact aa #[A] | exact aa (aa rfl)) #[D] #[D]),by exact #[za,(@L2.pv _ 1 _ _ (by rfl) (by first | exact ae rfl | exact aa #[A] | exact aa (aa rfl)) #[D] #[D]),#[za,(@L2.pv _ 2 _ _ (by rfl) (by first | exact ae rfl | exact aa #[A] | exact aa (aa rfl)) #[D] #[D]),#[ya,(@L2.pv _ 3 _ _ (by rfl) (by first | exact ae rfl | exact aa #[A] | exact aa (aa rfl)) #[D] #[D])]]]]]]],#[zk,#[zac,(fun _ _ _ _ _ _ _ _ I m q=>zN I m q),T.x_NoPaper,T.xi_NoPaper,#[zq]]],#[zy]],#[zbg]],?_⟩;refine (iq rfl (iq rfl (iq rfl (iq rfl (ex9 c tt pa cv p k pl v1 v2 ⟨rfl,hc,oY,?_⟩)))));rcases q with ⟨h1,q⟩ | ⟨h1,q⟩
  ·exact .inl ⟨h1,q⟩
  refine .inr ⟨h1,?_⟩;exact⟨false,rfl,zaA ⟨rfl,q⟩⟩
def zfC (t:Adr) (K:af):Sp:=fun vs H Q E=>∃ (c tt r:Addr) (p k T:Int) (pl:List Int),vs = [.ref c,.ref r,.int T]∧zbY K H c tt p k pl∧T < k∧E (.ref t.TooFew) none H
theorem zdu:FnScope ["code","row","t","k","points","first"] ["code","row","t"] (zj zbj):=#[S]
theorem zgo {fd:FuncData} (T:Txt K mg t) (F:Fun K "all_near" "all_near" zbj t.all_near fd):FnOk P w K mg base (CX1 P w) 2 t.all_near fd ["code","row","t"] (zfC t K):=by
 refine F.okX zdu (fun vs H Q E h=>?_) (fun iy A outer s H vs Q E hr h=>?_)
 ·obtain⟨c,tt,r,p,k,T',pl,rfl,_⟩:=h;rfl
 ·obtain⟨c,tt,r,p,k,T',pl,rfl,hc,h1,q⟩:=h;refine⟨_,#[ze,#[zC,3,zdu.nd,#[A],#[zZ,#[zcG],(@L2.pv _ 0 _ _ (by rfl) (by first | exact ae rfl | exact aa #[A] | exact aa (aa rfl)) #[D] #[D]),#[zh]]],#[ze,#[zY,#[zB,#[zhD],(@L2.pv _ 2 _ _ (by rfl) (by first | exact ae rfl | exact aa #[A] | exact aa (aa rfl)) #[D] #[D]),(@L2.pv _ 3 _ _ (by rfl) (by first | exact ae rfl | exact aa #[A] | exact aa (aa rfl)) #[D] #[D]),(zI _)],#[zk,#[zac,(fun _ _ _ _ _ _ _ _ I m q=>zN I m q),T.x_TooFew,T.xi_TooFew,#[zq]]],#[zy]],#[zbg]]],?_⟩;refine (iq rfl (ex4 c _ _ _ ⟨rfl,rfl,hc.1.sq,rfl,?_⟩));refine (iq rfl (iq rfl (iD rfl rfl (iq rfl ?_))));refine zcu (fun _=>?_) (fun h=>absurd (decide_eq_true h1) h);exact⟨rfl,q⟩
end
section
variable {P:Program} {w:World} {K:af} {mg:Str→Option Value} {base:Heap} {t:Adr}
def zj0 (t:Adr) (K:af):Sp:=fun vs H _ E=>∃ (S:List Addr) (p c:Addr) (pp sl n:Int) (es:Rw) (ds us:List Dt),vs = [.ref p,.int n]∧Ls K t.Listener H S p c pp sl es ds us∧es.length≤16∧inB es n=false∧E (.ref t.NoPlace) none H
theorem zl1:FnScope ["self","number","p","k","places","values"] ["self","number"] (zj zd3):=#[S]
theorem zhP {fd:FuncData} (T:Txt K mg t) (F:Fun K "sure" "Listener.sure" zd3 t.sure fd):FnOk P w K mg base (CX1 P w) 4 t.sure fd ["self","number"] (zj0 t K):=by
 obtain⟨jb,iE,iF⟩:=T.f_check_place;have iG:=zbn (P:=P) (w:=w) (base:=base) T iE;refine F.okX zl1 (fun vs H Q E h=>?_) (fun iy A outer s H vs Q E hr h=>?_)
 ·obtain⟨S,p,c,pp,sl,n,es,ds,us,rfl,_⟩:=h;rfl
 ·obtain⟨S,p,c,pp,sl,n,es,ds,us,rfl,L,kZ,hb,q⟩:=h;obtain⟨dx,ea,da,ua,k,tt,dr,ur,eS,h1,h2,h3,h4,h5,h6,h7,h8,h9,jw⟩:=L.ex;refine⟨_,#[ze,#[zam,#[zbe,(@L2.pv _ 0 _ _ (by rfl) (by first | exact ae rfl | exact aa #[A] | exact aa (aa rfl)) #[D] #[D]),T.cl,T.me_check_place,iG,(hr.mono #[D]),iF,#[zW],#[ya,(@L2.pv _ 1 _ _ (by rfl) (by first | exact ae rfl | exact aa #[A] | exact aa (aa rfl)) #[D] #[D])]]],#[zbg]],?_⟩;exact (iq rfl (ex3 p dx _ ⟨rfl,h4,zak (.inl rfl),(iq rfl (ex9 S p c pp sl n es ds us ⟨rfl,L,kZ,fun _=>q,fun h=>by rw [hb] at h; cases h⟩))⟩))
structure Dk (K:af) (t:Adr) (H:Hp) (S:List Addr) (dp p c tt:Addr) (pp k sl:Int) (pl:List Int) (es:Rw) (ds us:List Dt):Prop where
 at':∃ iH,H dp=some (.ins t.Desk iH [("listener",.ref p)])
 out:dp∉S
 ls:Ls K t.Listener H S p c pp sl es ds us
 code:zbY K H c tt pp k pl
 len:es.length=pl.length
 le:pl.length≤16
theorem Ls.tup' {C:Addr} {H:Hp} {S:List Addr} {p c b:Addr} {pp sl:Int} {es:List (Option Int)} {ds us:List Dt} {xs:List V} (h:Ls K C H S p c pp sl es ds us) (e:zcv K H b xs) {S':List Addr} {H':Hp} (s:zJ (hid S H) (hid S' H')):zcv K H' b xs :=
 e.kt fun e=>(zcJ (s _ _ (zcI e (h.tup e)))).1
theorem Dk.goes {H:Hp} {S:List Addr} {dp p c tt:Addr} {pp k sl:Int} {pl:List Int} {es j2:Rw} {ds us lW lX:List Dt} (D:Dk K t H S dp p c tt pp k sl pl es ds us) {S':List Addr} {H':Hp} (L:Ls K t.Listener H' S' p c pp sl j2 lW lX) (s:zJ (hid S H) (hid S' H')) (hl:j2.length=es.length) :
  Dk K t H' S' dp p c tt pp k sl pl j2 lW lX:=by
 obtain⟨iH,hd⟩:=D.at';obtain⟨e,n⟩:=zcJ (s _ _ (zcI hd D.out));exact⟨⟨iH,e⟩,n,L,⟨D.ls.tup' D.code.1 s,D.ls.tup' D.code.2 s⟩,by rw [hl]; exact D.len,D.le⟩
theorem Dk.same {H H':Hp} {S:List Addr} {dp p c tt:Addr} {pp k sl:Int} {pl:List Int} {es:Rw} {ds us:List Dt} (D:Dk K t H S dp p c tt pp k sl pl es ds us) (s:zJ H H'):Dk K t H' S dp p c tt pp k sl pl es ds us:=by
 obtain⟨iH,hd⟩:=D.at';exact⟨⟨iH,s _ _ hd⟩,D.out,D.ls.same s,D.code.same s,D.len,D.le⟩
def DDeed (K:af) (t:Adr) (H:Hp) (S:List Addr) (dp p c tt:Addr) (pp k sl:Int) (pl:List Int) (es:Rw) (ds us:List Dt) (D:Dd) (Q:VK) (E:XK):Prop:=match stp pp es ds us D with
 | .inl w=>E (.ref (znt t w)) none H
 | .inr (j2,lW,lX)=>∀ (S':List Addr) (H':Hp),Ls K t.Listener H' S' p c pp sl j2 lW lX→zJ (hid S H) (hid S' H')→(∀ b∈S',b∈S∨H b=none)→Q (.str "ok") H'
theorem DDeed.of {H:Hp} {S:List Addr} {dp p c tt:Addr} {pp k sl:Int} {pl:List Int} {es:Rw} {ds us:List Dt} {D:Dd} {Q:VK} {E:XK} {Q':VK} (q:DDeed K t H S dp p c tt pp k sl pl es ds us D Q E) (hq:∀ H',Q (.str "ok") H'→Q' .non H'):zdg K t H S p c pp sl es ds us D Q' E:=by
 unfold DDeed at q;unfold zdg
 revert q
 generalize stp pp es ds us D=st;intro q;cases st with
 | inl w=>exact q
 | inr r =>
  obtain⟨j2,lW,lX⟩:=r;exact fun S' H' L s hS=>hq _ (q S' H' L s hS)
def zea (t:Adr) (K:af):Sp:=fun vs H Q E=>∃ (S:List Addr) (dp p c tt nl:Addr) (pp k sl n x:Int) (pl:List Int) (es:Rw) (ds us:List Dt),vs = [.ref dp,.ref nl]∧Dk K t H S dp p c tt pp k sl pl es ds us∧iw K H nl [.int n,.int x]∧ds.length≤1000∧us.length≤1000∧DDeed K t H S dp p c tt pp k sl pl es ds us (.hear n x) Q E
theorem zhf:FnScope ["desk","numbers"] ["desk","numbers"] (zj zbC):=#[S]
theorem zhg {fd:FuncData} (T:Txt K mg t) (F:Fun K "do_hear" "do_hear" zbC t.do_hear fd):FnOk P w K mg base (CX1 P w) 5 t.do_hear fd ["desk","numbers"] (zea t K):=by
 obtain⟨lx,jM,jN⟩:=T.f_hear;have jO:=zfx (P:=P) (w:=w) (base:=base) T jM;refine F.okX zhf (fun vs H Q E h=>?_) (fun iy A outer s H vs Q E hr h=>?_)
 ·obtain⟨S,dp,p,c,tt,nl,pp,k,sl,n,x,pl,es,ds,us,rfl,_⟩:=h;rfl
 ·obtain⟨S,dp,p,c,tt,nl,pp,k,sl,n,x,pl,es,ds,us,rfl,D,hn,kF,kN,q⟩:=h;obtain⟨iH,hd⟩:=D.at';obtain⟨dx,ea,da,ua,k',kO,dr,ur,eS,h1,h2,h3,h4,h5,h6,h7,h8,h9,jw⟩:=D.ls.ex;refine⟨_,#[ze,#[zam,#[zbe,#[zU,(@L2.pv _ 0 _ _ (by rfl) (by first | exact ae rfl | exact aa #[A] | exact aa (aa rfl)) #[D] #[D])],T.cl,T.me_hear,jO,(hr.mono #[D]),jN,#[zW],#[za,#[zZ,#[zM],(@L2.pv _ 1 _ _ (by rfl) (by first | exact ae rfl | exact aa #[A] | exact aa (aa rfl)) #[D] #[D]),#[zh]],#[ya,#[zZ,#[zM],(@L2.pv _ 1 _ _ (by rfl) (by first | exact ae rfl | exact aa #[A] | exact aa (aa rfl)) #[D] #[D]),#[zh]]]]]],#[zk,#[zF,#[zq]]]],?_⟩;refine (iq rfl (ex5 dp t.Desk iH _ _ ⟨rfl,hd,T.clD,T.na_listener,zav,p,dx,(iq rfl ⟨h4,zak (.inr (.inr (.inl rfl))),?_⟩)⟩));refine (iq rfl (ex4 nl _ _ (.int n) ⟨rfl,rfl,hn,rfl,(iq rfl (ex4 nl _ _ (.int x) ⟨rfl,rfl,hn,rfl,S,p,c,pp,sl,n,x,es,ds,us,rfl,D.ls,by have:=D.len; have:=D.le; lia,kF,kN,q.of fun H' z=>z⟩))⟩))
def zcZ (t:Adr) (K:af):Sp:=fun vs H Q E=>∃ (S:List Addr) (dp p c tt nl:Addr) (pp k sl n:Int) (pl:List Int) (es:Rw) (ds us:List Dt),vs = [.ref dp,.ref nl]∧Dk K t H S dp p c tt pp k sl pl es ds us∧iw K H nl [.int n]∧ds.length≤1000∧us.length≤1000∧DDeed K t H S dp p c tt pp k sl pl es ds us (.forget n) Q E
theorem zfD:FnScope ["desk","numbers"] ["desk","numbers"] (zj za3):=#[S]
theorem zfE {fd:FuncData} (T:Txt K mg t) (F:Fun K "do_forget" "do_forget" za3 t.do_forget fd):FnOk P w K mg base (CX1 P w) 5 t.do_forget fd ["desk","numbers"] (zcZ t K):=by
 obtain⟨lJ,jP,jQ⟩:=T.f_forget;have jR:=ze2 (P:=P) (w:=w) (base:=base) T jP;refine F.okX zfD (fun vs H Q E h=>?_) (fun iy A outer s H vs Q E hr h=>?_)
 ·obtain⟨S,dp,p,c,tt,nl,pp,k,sl,n,pl,es,ds,us,rfl,_⟩:=h;rfl
 ·obtain⟨S,dp,p,c,tt,nl,pp,k,sl,n,pl,es,ds,us,rfl,D,hn,kF,kN,q⟩:=h;obtain⟨iH,hd⟩:=D.at';obtain⟨dx,ea,da,ua,k',kO,dr,ur,eS,h1,h2,h3,h4,h5,h6,h7,h8,h9,jw⟩:=D.ls.ex;refine⟨_,#[ze,#[zam,#[zbe,#[zU,(@L2.pv _ 0 _ _ (by rfl) (by first | exact ae rfl | exact aa #[A] | exact aa (aa rfl)) #[D] #[D])],T.cl,T.me_forget,jR,(hr.mono #[D]),jQ,#[zW],#[ya,#[zZ,#[zM],(@L2.pv _ 1 _ _ (by rfl) (by first | exact ae rfl | exact aa #[A] | exact aa (aa rfl)) #[D] #[D]),#[zh]]]]],#[zk,#[zF,#[zq]]]],?_⟩;refine (iq rfl (ex5 dp t.Desk iH _ _ ⟨rfl,hd,T.clD,T.na_listener,zav,p,dx,(iq rfl ⟨h4,zak (.inr (.inr (.inr (.inl rfl)))),?_⟩)⟩));refine (iq rfl (ex4 nl _ _ (.int n) ⟨rfl,rfl,hn,rfl,S,p,c,pp,sl,n,es,ds,us,rfl,D.ls,by have:=D.len; have:=D.le; lia,kF,kN,q.of fun H' z=>z⟩))
def zeb (t:Adr) (K:af):Sp:=fun vs H Q E=>∃ (S:List Addr) (dp p c tt nl:Addr) (pp k sl:Int) (pl:List Int) (es:Rw) (ds us:List Dt),vs = [.ref dp,.ref nl]∧Dk K t H S dp p c tt pp k sl pl es ds us∧ds.length≤1000∧us.length≤1000∧(∀ d∈ds,d.1 < es.length)∧DDeed K t H S dp p c tt pp k sl pl es ds us .back Q E
theorem zhh:FnScope ["desk","numbers"] ["desk","numbers"] (zj zbD):=#[S]
theorem zhi {fd:FuncData} (T:Txt K mg t) (F:Fun K "do_back" "do_back" zbD t.do_back fd):FnOk P w K mg base (CX1 P w) 2 t.do_back fd ["desk","numbers"] (zeb t K):=by
 obtain⟨qR,oz,oA⟩:=T.f_back;have oB:=zlX (P:=P) (w:=w) (base:=base) T oz;refine F.okX zhh (fun vs H Q E h=>?_) (fun iy A outer s H vs Q E hr h=>?_)
 ·obtain⟨S,dp,p,c,tt,nl,pp,k,sl,pl,es,ds,us,rfl,_⟩:=h;rfl
 ·obtain⟨S,dp,p,c,tt,nl,pp,k,sl,pl,es,ds,us,rfl,D,kF,kN,kC,q⟩:=h;obtain⟨iH,hd⟩:=D.at';obtain⟨dx,ea,da,ua,k',kO,dr,ur,eS,h1,h2,h3,h4,h5,h6,h7,h8,h9,jw⟩:=D.ls.ex;refine⟨_,#[ze,#[zam,#[zb4,#[zU,(@L2.pv _ 0 _ _ (by rfl) (by first | exact ae rfl | exact aa #[A] | exact aa (aa rfl)) #[D] #[D])],T.cl,T.me_back,oB,(hr.mono #[D]),oA,#[zW]]],#[zk,#[zF,#[zq]]]],?_⟩;refine (iq rfl (ex5 dp t.Desk iH _ _ ⟨rfl,hd,T.clD,T.na_listener,zav,p,dx,(iq rfl ⟨h4,zak (.inr (.inr (.inr (.inr (.inl rfl))))),?_⟩)⟩));exact (ex8 S p c pp sl es ds us ⟨rfl,D.ls,by have:=D.len; have:=D.le; lia,kF,kN,kC,q.of fun H' z=>z⟩)
def zdv (t:Adr) (K:af):Sp:=fun vs H Q E=>∃ (S:List Addr) (dp p c tt nl:Addr) (pp k sl:Int) (pl:List Int) (es:Rw) (ds us:List Dt),vs = [.ref dp,.ref nl]∧Dk K t H S dp p c tt pp k sl pl es ds us∧ds.length≤1000∧us.length≤1000∧(∀ d∈us,d.1 < es.length)∧DDeed K t H S dp p c tt pp k sl pl es ds us .again Q E
theorem zgp:FnScope ["desk","numbers"] ["desk","numbers"] (zj zbl):=#[S]
theorem zgq {fd:FuncData} (T:Txt K mg t) (F:Fun K "do_again" "do_again" zbl t.do_again fd):FnOk P w K mg base (CX1 P w) 2 t.do_again fd ["desk","numbers"] (zdv t K):=by
 obtain⟨qk,m8,m9⟩:=T.f_again;have nc:=zjU (P:=P) (w:=w) (base:=base) T m8;refine F.okX zgp (fun vs H Q E h=>?_) (fun iy A outer s H vs Q E hr h=>?_)
 ·obtain⟨S,dp,p,c,tt,nl,pp,k,sl,pl,es,ds,us,rfl,_⟩:=h;rfl
 ·obtain⟨S,dp,p,c,tt,nl,pp,k,sl,pl,es,ds,us,rfl,D,kF,kN,kC,q⟩:=h;obtain⟨iH,hd⟩:=D.at';obtain⟨dx,ea,da,ua,k',kO,dr,ur,eS,h1,h2,h3,h4,h5,h6,h7,h8,h9,jw⟩:=D.ls.ex;refine⟨_,#[ze,#[zam,#[zb4,#[zU,(@L2.pv _ 0 _ _ (by rfl) (by first | exact ae rfl | exact aa #[A] | exact aa (aa rfl)) #[D] #[D])],T.cl,T.me_again,nc,(hr.mono #[D]),m9,#[zW]]],#[zk,#[zF,#[zq]]]],?_⟩;refine (iq rfl (ex5 dp t.Desk iH _ _ ⟨rfl,hd,T.clD,T.na_listener,zav,p,dx,(iq rfl ⟨h4,zak (.inr (.inr (.inr (.inr (.inr (.inl rfl)))))),?_⟩)⟩));exact (ex8 S p c pp sl es ds us ⟨rfl,D.ls,by have:=D.len; have:=D.le; lia,kF,kN,kC,q.of fun H' z=>z⟩)
def zdw (t:Adr) (K:af):Sp:=fun vs H Q E=>∃ (dp nl:Addr) (n:Int),vs = [.ref dp,.ref nl]∧iw K H nl [.int n]∧8 < n∧E (.ref t.NoNumber) none H
theorem zgr:FnScope ["desk","numbers"] ["desk","numbers"] (zj zbk):=#[S]
theorem zgs {fd:FuncData} (T:Txt K mg t) (F:Fun K "do_slips" "do_slips" zbk t.do_slips fd):FnOk P w K mg base (CX1 P w) 1 t.do_slips fd ["desk","numbers"] (zdw t K):=by
 refine F.okX zgr (fun vs H Q E h=>?_) (fun iy A outer s H vs Q E hr h=>?_)
 ·obtain⟨dp,nl,n,rfl,_⟩:=h;rfl
 ·obtain⟨dp,nl,n,rfl,hn,h8,q⟩:=h;refine⟨_,#[ze,#[zY,#[zB,#[zfY],#[zZ,#[zM],(@L2.pv _ 1 _ _ (by rfl) (by first | exact ae rfl | exact aa #[A] | exact aa (aa rfl)) #[D] #[D]),#[zh]],#[z8,(.int 8),T.g_MOST_SLIPS.choose_spec,⟨_,rfl⟩],(zI _)],#[zk,#[zac,(fun _ _ _ _ _ _ _ _ I m q=>zN I m q),T.x_NoNumber,T.xi_NoNumber,#[zq]]],#[zy]],#[zbg]],?_⟩;refine (iq rfl (ex4 nl _ _ (.int n) ⟨rfl,rfl,hn,rfl,(iD rfl rfl (iq rfl (zcu (fun _=>⟨rfl,q⟩) (fun h=>absurd (decide_eq_true #[O]) h))))⟩))
end
section
variable {P:Program} {w:World} {K:af} {mg:Str→Option Value} {base:Heap} {t:Adr}
def zc0 (t:Adr) (K:af):Sp:=fun vs H _ E=>∃ (S:List Addr) (dp p c tt nl:Addr) (pp k sl n:Int) (pl:List Int) (es:Rw) (ds us:List Dt),vs = [.ref dp,.ref nl]∧Dk K t H S dp p c tt pp k sl pl es ds us∧iw K H nl [.int n]∧inB es n=false∧E (.ref t.NoPlace) none H
theorem zfF:FnScope ["desk","numbers"] ["desk","numbers"] (zj za4):=#[S]
theorem zfG {fd:FuncData} (T:Txt K mg t) (F:Fun K "tell_sure" "tell_sure" za4 t.tell_sure fd):FnOk P w K mg base (CX1 P w) 5 t.tell_sure fd ["desk","numbers"] (zc0 t K):=by
 obtain⟨ng,k8,la⟩:=T.f_sure;have lb:=zhP (P:=P) (w:=w) (base:=base) T k8;refine F.okX zfF (fun vs H Q E h=>?_) (fun iy A outer s H vs Q E hr h=>?_)
 ·obtain⟨S,dp,p,c,tt,nl,pp,k,sl,n,pl,es,ds,us,rfl,_⟩:=h;rfl
 ·obtain⟨S,dp,p,c,tt,nl,pp,k,sl,n,pl,es,ds,us,rfl,D,hn,hb,q⟩:=h;obtain⟨iH,hd⟩:=D.at';obtain⟨dx,ea,da,ua,k',kO,dr,ur,eS,h1,h2,h3,h4,h5,h6,h7,h8,h9,jw⟩:=D.ls.ex;refine⟨_,#[zk,#[zF,(zgk rfl T.m_row_text T.f_row_text.choose_spec.1.kp #[ya,#[zaa,#[ya,#[zbe,#[zU,(@L2.pv _ 0 _ _ (by rfl) (by first | exact ae rfl | exact aa #[A] | exact aa (aa rfl)) #[D] #[D])],T.cl,T.me_sure,lb,(hr.mono #[D]),la,#[zW],#[ya,#[zZ,#[zM],(@L2.pv _ 1 _ _ (by rfl) (by first | exact ae rfl | exact aa #[A] | exact aa (aa rfl)) #[D] #[D]),#[zh]]]]]]])]],?_⟩;refine (iq rfl (ex5 dp t.Desk iH _ _ ⟨rfl,hd,T.clD,T.na_listener,zav,p,dx,(iq rfl ⟨h4,zak (.inr (.inr (.inr (.inr (.inr (.inr (.inr rfl))))))),?_⟩)⟩));exact (iq rfl (ex4 nl _ _ (.int n) ⟨rfl,rfl,hn,rfl,S,p,c,pp,sl,n,es,ds,us,rfl,D.ls,by have:=D.len; have:=D.le; lia,hb,q⟩))
def zc1 (t:Adr) (K:af):Sp:=fun vs H _ E=>∃ (S:List Addr) (dp p c tt nl:Addr) (pp k sl n:Int) (pl:List Int) (es:Rw) (ds us:List Dt),vs = [.ref dp,.ref nl]∧Dk K t H S dp p c tt pp k sl pl es ds us∧H nl=some (.lst [.int n])∧n < k∧∀ H',zJ H H'→E (.ref t.TooFew) none H'
theorem zfH:FnScope ["desk","numbers"] ["desk","numbers"] (zj za5):=#[S]
theorem zfI {fd:FuncData} (T:Txt K mg t) (F:Fun K "tell_near" "tell_near" za5 t.tell_near fd):FnOk P w K mg base (CX1 P w) 3 t.tell_near fd ["desk","numbers"] (zc1 t K):=by
 obtain⟨nK,jS,lg⟩:=T.f_all_near;have lh:=zgo (P:=P) (w:=w) (base:=base) T jS;obtain⟨mx,kG,kH⟩:=T.f_row;have kJ:=zhb (P:=P) (w:=w) (base:=base) T kG;refine F.okX zfH (fun vs H Q E h=>?_) (fun iy A outer s H vs Q E hr h=>?_)
 ·obtain⟨S,dp,p,c,tt,nl,pp,k,sl,n,pl,es,ds,us,rfl,_⟩:=h;rfl
 ·obtain⟨S,dp,p,c,tt,nl,pp,k,sl,n,pl,es,ds,us,rfl,D,hn,hb,q⟩:=h;obtain⟨iH,hd⟩:=D.at';obtain⟨dx,ea,da,ua,k',kO,dr,ur,eS,h1,h2,h3,h4,h5,h6,h7,h8,h9,jw⟩:=D.ls.ex;refine⟨_,#[zk,#[zF,(zgk rfl T.m_listed T.f_listed.choose_spec.1.kp #[ya,#[zH,lh,(hr.mono #[D]),T.m_all_near,jS.kp,lg,#[zW],#[za,#[zU,#[zU,(@L2.pv _ 0 _ _ (by rfl) (by first | exact ae rfl | exact aa #[A] | exact aa (aa rfl)) #[D] #[D])]],#[za,#[zb4,#[zU,(@L2.pv _ 0 _ _ (by rfl) (by first | exact ae rfl | exact aa #[A] | exact aa (aa rfl)) #[D] #[D])],T.cl,T.me_row,kJ,(hr.mono #[D]),kH,#[z7]],#[ya,#[zZ,#[zM],(@L2.pv _ 1 _ _ (by rfl) (by first | exact ae rfl | exact aa #[A] | exact aa (aa rfl)) #[D] #[D]),#[zh]]]]]]])]],?_⟩;refine (iq rfl (ex5 dp t.Desk iH _ _ ⟨rfl,hd,T.clD,T.na_listener,zav,p,t.Listener,dx,_,_,rfl,h4,T.cl,T.na_code,zcK,?_⟩));refine (iq rfl (ex5 dp t.Desk iH _ _ ⟨rfl,hd,T.clD,T.na_listener,zav,p,dx,(iq rfl ⟨h4,zak (.inr (.inr (.inr (.inr (.inr (.inr (.inl rfl))))))),?_⟩)⟩));refine (ex8 S p c pp sl es ds us ⟨rfl,D.ls,fun l hl=>?_⟩);have s1:=zf (o:=.lst (es.map iA)) hl;exact (iq rfl (ex4 nl _ _ (.int n) ⟨rfl,rfl,iw.of (s1 _ _ hn),rfl,c,tt,l,pp,k,n,pl,rfl,D.code.same s1,hb,q _ s1⟩))
def zcD (t:Adr) (K:af):Sp:=fun vs H _ E=>∃ (S:List Addr) (dp p c tt nl:Addr) (pp k sl n:Int) (pl:List Int) (es:Rw) (ds us:List Dt),vs = [.ref dp,.ref nl]∧Dk K t H S dp p c tt pp k sl pl es ds us ∧
 ((nh5 es=0∧∀ H',zJ H H'→E (.ref t.TooFew) none H')∨(0 < nh5 es∧k < 2∧∀ H',zJ H H'→E (.ref t.NoCurve) none H'))
theorem zbz:FnScope ["desk","numbers","code","heard","weight"] ["desk","numbers"] (zj zaS):=#[S]
theorem zex {fd:FuncData} (T:Txt K mg t) (F:Fun K "tell_reach" "tell_reach" zaS t.tell_reach fd):FnOk P w K mg base (CX1 P w) 3 t.tell_reach fd ["desk","numbers"] (zcD t K):=by
 obtain⟨lZ,jc,jT⟩:=T.f_heard_points;have jU:=zdA (P:=P) (w:=w) (base:=base) T jc;obtain⟨mx,kG,kH⟩:=T.f_row;have kJ:=zhb (P:=P) (w:=w) (base:=base) T kG;obtain⟨jD,iC,iR⟩:=T.f_check_curves;have iS:=zbZ (P:=P) (w:=w) (base:=base) T iC;refine F.okX zbz (fun vs H Q E h=>?_) (fun iy A outer s H vs Q E hr h=>?_)
 ·obtain⟨S,dp,p,c,tt,nl,pp,k,sl,n,pl,es,ds,us,rfl,_⟩:=h;rfl
 ·obtain⟨S,dp,p,c,tt,nl,pp,k,sl,n,pl,es,ds,us,rfl,D,q⟩:=h;obtain⟨iH,hd⟩:=D.at';obtain⟨dx,ea,da,ua,k',kO,dr,ur,eS,h1,h2,h3,h4,h5,h6,h7,h8,h9,jw⟩:=D.ls.ex;refine⟨_,#[ze,#[zC,2,zbz.nd,#[A],#[zU,#[zU,(@L2.pv _ 0 _ _ (by rfl) (by first | exact ae rfl | exact aa #[A] | exact aa (aa rfl)) #[D] #[D])]]],#[ze,#[zC,3,zbz.nd,#[A],#[zm,#[zv],T.len_,bf,#[ya,#[zH,jU,(hr.mono #[D]),T.m_heard_points,jc.kp,jT,#[z7],#[za,(@L2.pv _ 2 _ _ (by rfl) (by first | exact ae rfl | exact aa #[A] | exact aa (aa rfl)) #[D] #[D]),#[ya,#[zb4,#[zU,(@L2.pv _ 0 _ _ (by rfl) (by first | exact ae rfl | exact aa #[A] | exact aa (aa rfl)) #[D] #[D])],T.cl,T.me_row,kJ,(hr.mono #[D]),kH,#[z7]]]]]]]],#[ze,#[zY,#[zB,#[zcw],(@L2.pv _ 3 _ _ (by rfl) (by first | exact ae rfl | exact aa #[A] | exact aa (aa rfl)) #[D] #[D]),#[zh],(zI _)],#[zk,#[zac,(fun _ _ _ _ _ _ _ _ I m q=>zN I m q),T.x_TooFew,T.xi_TooFew,#[zq]]],#[zy]],#[ze,#[zam,#[zH,iS,(hr.mono #[D]),T.m_check_curves,iC.kp,iR,#[zW],#[ya,#[zZ,#[zcG],(@L2.pv _ 2 _ _ (by rfl) (by first | exact ae rfl | exact aa #[A] | exact aa (aa rfl)) #[D] #[D]),#[zh]]]]],#[zbg]]]]],?_⟩;refine (iq rfl (ex5 dp t.Desk iH _ _ ⟨rfl,hd,T.clD,T.na_listener,zav,p,t.Listener,dx,_,_,rfl,h4,T.cl,T.na_code,zcK,?_⟩));refine (iq rfl (iq rfl (ex5 dp t.Desk iH _ _ ⟨rfl,hd,T.clD,T.na_listener,zav,p,dx,(iq rfl ⟨h4,zak (.inr (.inr (.inr (.inr (.inr (.inr (.inl rfl))))))),?_⟩)⟩)));refine (ex8 S p c pp sl es ds us ⟨rfl,D.ls,fun l hl=>?_⟩);have s1:=zf (o:=.lst (es.map iA)) hl;refine (ex7 c tt l pp k pl es ⟨rfl,D.code.same s1,iw.of zb,D.len,by have:=D.le; lia,fun l2 ys H2 lz s2 hy h2'=>?_⟩);have oZ:=s1.trans s2;refine⟨l2,ys,rfl,.inl (iw.of h2'),?_⟩;refine (iq rfl ⟨rfl,(iq rfl ?_)⟩);rw [hy];rcases q with ⟨z,q⟩ | ⟨z,hk,q⟩
  ·rw [z];exact zaA ⟨rfl,q _ oZ⟩
  ·rw [decide_eq_false (fun e=>by injection e; lia)];refine zag ?_;refine (iq rfl (ex4 c _ _ _ ⟨rfl,rfl,(D.code.same oZ).1.sq,rfl,k,rfl,.inl ⟨hk,q _ oZ⟩⟩))
end
section
variable {P:Program} {w:World} {K:af} {mg:Str→Option Value} {base:Heap} {t:Adr}
def zey (t:Adr):List (List Key×Addr×Value):=[([.inr "slips",.inl 1],584,.ref t.do_slips),([.inr "hear",.inl 2],585,.ref t.do_hear),([.inr "forget",.inl 1],586,.ref t.do_forget),([.inr "back",.inl 0],587,.ref t.do_back),([.inr "again",.inl 0],588,.ref t.do_again),([.inr "row",.inl 0],589,.ref t.tell_row),([.inr "can",.inl 0],590,.ref t.tell_can),([.inr "sure",.inl 1],591,.ref t.tell_sure),([.inr "near",.inl 1],592,.ref t.tell_near),([.inr "half",.inl 0],593,.ref t.tell_half),([.inr "reach",.inl 1],594,.ref t.tell_reach)]
class my (P:Program) (w:World) (K:af) (t:Adr):Prop where
 ans:AnsK P w K t.ANSWERS (zey t)
 fc:∃ tt,iI K (fun _=>none) t.FIRST_CODE [.int 7,.int 2,.ref tt]∧iI K (fun _=>none) tt (([0,1,2,3,4,5,6]:List Int).map V.int)
variable [AN:my P w K t]
theorem Ls.put {C:Addr} {H:Hp} {S:List Addr} {p c b:Addr} {o:HO} {pp sl:Int} {es:List (Option Int)} {ds us:List Dt} (h:Ls K C H S p c pp sl es ds us) (hb:b∉S) (ht:∀ ys,H b≠some (.tup ys)):Ls K C (upd H b o) S p c pp sl es ds us:=by
 obtain⟨dx,ea,da,ua,k,tt,dr,ur,e,h1,h2,h3,h4,h5,h6,h7,h8,h9,jw⟩:=h.ex;subst e;simp at hb;have kt:∀ a ys,H a=some (.tup ys)→upd H b o a=some (.tup ys):=fun a ys e=>by rw [zc (fun q=>ht ys (by rw [← q]; exact e))]; exact e
 exact⟨dx,ea,da,ua,k,tt,dr,ur,rfl,h1,h2,h3,by rw [zc (bL hb.1)]; exact h4,by rw [zc (bL hb.2.1)]; exact h5,by rw [zc (bL hb.2.2.1)]; exact h6,by rw [zc (bL hb.2.2.2)]; exact h7,h8.same kt,h9.same kt,jw.kt (kt c _)⟩
def ziz (t:Adr) (K:af):Sp:=fun vs H Q _=>∃ (dp iH:Addr),vs = [.ref dp]∧H dp=some (.ins t.Desk iH [])∧H iH=some (.own dp) ∧
 ∀ (S:List Addr) (p tt:Addr) (H':Hp),Dk K t H' S dp p t.FIRST_CODE tt 7 2 1 [0,1,2,3,4,5,6] (aq 7 none) [] []→(∀ b o,H b=some o→b≠dp→H' b=some o)→(∀ b∈S,H b=none)→Q .non H'
theorem ziA:FnScope ["self"] ["self"] (zj zce):=#[S]
theorem ziB {fd:FuncData} (T:Txt K mg t) (F:Fun K "__init__" "Desk.__init__" zce t.d_init fd):FnOk P w K mg base CX0 3 t.d_init fd ["self"] (ziz t K):=by
 obtain⟨ly,jV,jW⟩:=T.f_init;have jX:=zfy (P:=P) (w:=w) (base:=base) T jV;refine F.ok ziA (fun vs H Q E h=>?_) (fun iy A outer s H vs Q E hr h=>?_)
 ·obtain⟨dp,iH,rfl,_⟩:=h;rfl
 ·obtain⟨dp,iH,rfl,hd,ho,q⟩:=h;refine⟨_,#[zk,#[zb3,(@L2.pv _ 0 _ _ (by rfl) (by first | exact ae rfl | exact aa #[A] | exact aa (aa rfl)) #[D] #[D]),#[zfb,T.mkr,jX,(hr.mono #[D]),T.x_Listener,jW,#[z7],#[za,#[z8,(.ref t.FIRST_CODE),T.x_FIRST_CODE,rfl],#[ya,#[z8,(.int 1),T.g_FIRST_SLIPS.choose_spec,⟨_,rfl⟩]]]]]],?_⟩;obtain⟨tt,f1,f2⟩:=AN.fc;refine fun p dx hp qN jv=>?_
  have lY:dp≠p:=zi hd hp;have ndd:dp≠dx:=zi hd qN;refine (ex8 p dx t.FIRST_CODE tt 1 7 2 ([0,1,2,3,4,5,6]) ⟨rfl,zb,by rw [zc jv]; exact zb,⟨.inr f1,.inr f2⟩,#[D],fun S H' L kp hS=>⟨rfl,?_⟩⟩);have oC:∀ b o,H b=some o→H' b=some o:=fun b o e=>kp b o (by rw [zc (zi e hp),zc (zi e qN)]; exact e) (zi e hp)
  have lQ:=oC _ _ hd;have jF:∀ b∈S,H b=none:=fun b hb=>by
   rcases hS b hb with rfl | e
   ·exact hp
   ·cases q:H b with
    | none=>rfl
    | some u=>rw [zc (zi q hp),zc (zi q qN),q] at e; cases e
  have qm:dp∉S:=fun h=>by rw [jF dp h] at hd; cases hd
  refine (iq rfl (ex4 dp t.Desk iH ([]) ⟨rfl,lQ,T.clD,T.na_listener,by show 0 < 1000; decide,?_⟩));have nt:∀ ys,H' dp≠some (.tup ys):=fun ys e=>by rw [lQ] at e; cases e
  exact q S p tt _ ⟨⟨iH,zb⟩,qm,L.put qm nt,⟨.inr f1,.inr f2⟩,rfl,#[D]⟩ (fun b o e n=>by rw [zc n]; exact oC b o e) jF
end
section
variable {P:Program} {w:World} {K:af} {mg:Str→Option Value} {base:Heap} {t:Adr}
theorem zgt {c ea da ua:Addr} {sl:Int}:(fl c sl ea da ua).lookup ("slips" : Str)=some (.int sl):=by unfold fl; rw [zan n1,zav]
inductive Ans (t:Adr) (K:af):Addr→Sp→Prop
 | slips:Ans t K t.do_slips (zdw t K)
 | hear:Ans t K t.do_hear (zea t K)
 | forget:Ans t K t.do_forget (zcZ t K)
 | back:Ans t K t.do_back (zeb t K)
 | again:Ans t K t.do_again (zdv t K)
 | sure:Ans t K t.tell_sure (zc0 t K)
 | near:Ans t K t.tell_near (zc1 t K)
 | reach:Ans t K t.tell_reach (zcD t K)
theorem znx {X:Cx} {E:XK} {f:Addr} {sp:Sp} (T:Txt X.K X.mg t) (A:Ans t X.K f sp) (hr:Room 5 X.A):Callee X (CX1 X.prog X.w) E f sp:=by
 cases A with
 | slips=>obtain⟨fd,F,b⟩:=T.f_do_slips; exact⟨_,_,_,zgs T F,hr.mono #[D],F.kp,b⟩
 | hear=>obtain⟨fd,F,b⟩:=T.f_do_hear; exact⟨_,_,_,zhg T F,hr.mono #[D],F.kp,b⟩
 | forget=>obtain⟨fd,F,b⟩:=T.f_do_forget; exact⟨_,_,_,zfE T F,hr.mono #[D],F.kp,b⟩
 | back=>obtain⟨fd,F,b⟩:=T.f_do_back; exact⟨_,_,_,zhi T F,hr.mono #[D],F.kp,b⟩
 | again=>obtain⟨fd,F,b⟩:=T.f_do_again; exact⟨_,_,_,zgq T F,hr.mono #[D],F.kp,b⟩
 | sure=>obtain⟨fd,F,b⟩:=T.f_tell_sure; exact⟨_,_,_,zfG T F,hr.mono #[D],F.kp,b⟩
 | near=>obtain⟨fd,F,b⟩:=T.f_tell_near; exact⟨_,_,_,zfI T F,hr.mono #[D],F.kp,b⟩
 | reach=>obtain⟨fd,F,b⟩:=T.f_tell_reach; exact⟨_,_,_,zex T F,hr.mono #[D],F.kp,b⟩
def wordsOf (blank rest:Str):List Str:=if blank = " " then ce rest " " else []
def zec (word blank rest:Str):List Key:=[.inr word,.inl ((wordsOf blank rest).length:Int)]
variable [AN:my P w K t]
def zcg (t:Adr) (K:af):Sp:=fun vs H Q E=>∃ (dp:Addr) (z word blank rest:Str),vs = [.ref dp,.str z]∧z.length≤800∧zay z " " = (word,blank,rest)∧rest.length≤800 ∧
 ((¬ (word = "code"∧blank = " ")∧((atKey (zey t) (zec word blank rest)).isSome=false∨(wordsOf blank rest).all (zah 4)=false)∧∀ H',zJ H H'→E (.ref t.NoRow) none H') ∨
  (¬ (word = "code"∧blank = " ")∧∃ (a f:Addr) (sp:Sp),atKey (zey t) (zec word blank rest)=some (a,.ref f)∧(wordsOf blank rest).all (zah 4)=true∧Ans t K f sp∧∀ H1 nl,zJ H H1→H nl=none→H1 nl=some (.lst (((wordsOf blank rest).map z9).map V.int))→sp [.ref dp,.ref nl] H1 Q E) ∨
  (word = "code"∧blank = " "∧zdY rest=none∧∀ H',zJ H H'→E (.ref t.NoText) none H') ∨
  (word = "code"∧blank = " "∧∃ (nL k':Int) (mQ:List Int) (S:List Addr) (p c tt:Addr) (pp k sl:Int) (pl:List Int) (es:Rw) (ds us:List Dt),zdY rest=some (nL,k',mQ)∧mQ.length≤16∧Dk K t H S dp p c tt pp k sl pl es ds us ∧
    ∀ (S':List Addr) (p' c' kO:Addr) (H':Hp),Dk K t H' S' dp p' c' kO nL k' sl mQ (aq mQ.length none) [] []→(∀ b o,H b=some o→b≠dp→H' b=some o)→(∀ b∈S',H b=none)→Q (.str "ok") H'))
theorem zbo:FnScope ["self","row","word","blank","rest","words","asked","answer"] ["self","row"] (zj zbv):=#[S]
theorem zj1 {fd:FuncData} (T:Txt K mg t) (F:Fun K "say" "Desk.say" zbv t.d_say fd):FnOk P w K mg base (CX1 P w) 6 t.d_say fd ["self","row"] (zcg t K):=by
 obtain⟨ly,jV,jW⟩:=T.f_init;have jX:=zfy (P:=P) (w:=w) (base:=base) T jV;obtain⟨nh,jy,kK⟩:=T.f_read_code;have kL:=zfB (P:=P) (w:=w) (base:=base) T jy;obtain⟨j6,iK,iZ⟩:=T.f_is_written;have i':=zcC (P:=P) (w:=w) (base:=base) T iK;refine F.okX zbo (fun vs H Q E h=>?_) (fun iy A outer s H vs Q E hr h=>?_)
 ·obtain⟨dp,z,word,blank,rest,rfl,_⟩:=h;rfl
 ·have hu:(A.deeper (envOfC (bX "Desk.say") (zj zbv) s.heap.objs.size t.d_say iy)).units+20 < cLine:=by have:=hr.units; lia
  refine zb0 ?_; intro zX;refine⟨_,#[ze,#[zY,#[zaf,#[zaz,#[zm,#[zaN],T.isinstance_,aO,#[za,(@L2.pv _ 1 _ _ (by rfl) (by first | exact ae rfl | exact aa #[A] | exact aa (aa rfl)) #[D] #[D]),#[ya,#[zbL,(.ty "str"),T.str_,boot_str]]]]]],#[zk,#[zac,(fun _ _ _ _ _ _ _ _ I m q=>zN I m q),T.x_NoRow,T.xi_NoRow,#[zq]]],#[zy]],#[ze,#[za7,#[zcz,bV,PySem.F.slot_str_partition,PySem.F.type_str_partition,zlS,(@L2.pv _ 1 _ _ (by rfl) (by first | exact ae rfl | exact aa #[A] | exact aa (aa rfl)) #[D] #[D]),#[ya,#[zq]]],#[zbM,#[zG,#[zr,2,zbo.nd,#[A]],#[zG,#[zr,3,zbo.nd,#[A]],#[zG,#[zr,4,zbo.nd,#[A]],#[za0]]]]]],#[ze,(zfz #[zY,(@PW.pt _ _ _ #[zgI,#[zB,#[zcw],(@L2.pv _ 2 _ _ (by rfl) (by first | exact ae rfl | exact aa #[A] | exact aa (aa rfl)) #[D] #[D]),#[zq],(zI _)],#[ze9,#[zB,#[zcw],(@L2.pv _ 3 _ _ (by rfl) (by first | exact ae rfl | exact aa #[A] | exact aa (aa rfl)) #[D] #[D]),#[zq],(zI _)]]]),#[ze,#[zb3,(@L2.pv _ 0 _ _ (by rfl) (by first | exact ae rfl | exact aa #[A] | exact aa (aa rfl)) #[D] #[D]),#[zfb,T.mkr,jX,(hr.mono #[D]),T.x_Listener,jW,#[z7],#[za,#[zH,kL,(hr.mono #[D]),T.m_read_code,jy.kp,kK,#[zW],#[ya,(@L2.pv _ 4 _ _ (by rfl) (by first | exact ae rfl | exact aa #[A] | exact aa (aa rfl)) #[D] #[D])]],#[ya,#[zU,#[zU,(@L2.pv _ 0 _ _ (by rfl) (by first | exact ae rfl | exact aa #[A] | exact aa (aa rfl)) #[D] #[D])]]]]]],#[zk,#[zF,#[zq]]]],#[zy]]),#[ze,(zfz #[zC,5,zbo.nd,#[A],(@zi5 _ _ _ _ _ _ _ _ #[zB,#[zcw],(@L2.pv _ 3 _ _ (by rfl) (by first | exact ae rfl | exact aa #[A] | exact aa (aa rfl)) #[D] #[D]),#[zq],(zI _)] #[zcz,bV,fb,fe,#[zeX],(@L2.pv _ 4 _ _ (by rfl) (by first | exact ae rfl | exact aa #[A] | exact aa (aa rfl)) #[D] #[D]),#[ya,#[zq]]] #[zaa,#[zd]])]),#[ze,#[zC,6,zbo.nd,#[A],#[zaL,#[za,(@L2.pv _ 2 _ _ (by rfl) (by first | exact ae rfl | exact aa #[A] | exact aa (aa rfl)) #[D] #[D]),#[ya,#[zm,#[zv],T.len_,bf,#[ya,(@L2.pv _ 5 _ _ (by rfl) (by first | exact ae rfl | exact aa #[A] | exact aa (aa rfl)) #[D] #[D])]]]]]],#[ze,#[zY,(@PW.pt _ _ _ #[zbt,#[zB,(zin hu AN.ans),(@L2.pv _ 6 _ _ (by rfl) (by first | exact ae rfl | exact aa #[A] | exact aa (aa rfl)) #[D] #[D]),#[z8,(.ref t.ANSWERS),T.x_ANSWERS,rfl],(by with_unfolding_all rfl)],#[za6,#[zaf,#[zaz,#[zm,#[zco],T.all_,gJ,#[ya,#[zaQ,(CompSc.of (N':=["one"]) (ix:=[none]) (zj zbv) ["self","row","word","blank","rest","words","asked","answer"] rfl rfl #[N]),#[zaP],#[zbd,(@L2.pv _ 5 _ _ (by rfl) (by first | exact ae rfl | exact aa #[A] | exact aa (aa rfl)) #[D] #[D])],(fun _ _ _ _=>#[zr,0,(show (["one"]:List Str).Nodup from #[N]),#[A]]),(fun _ _ _ _=>#[zaB]),(fun _ _ _ _=>#[zH,i',(hr.mono #[D]),T.m_is_written,iK.kp,iZ,#[z7],#[ya,(@L2.pv _ 0 _ _ (by rfl) (by first | exact ae rfl | exact aa #[A] | exact aa (aa rfl)) #[D] #[D])]])]]]]]]]),#[zk,#[zac,(fun _ _ _ _ _ _ _ _ I m q=>zN I m q),T.x_NoRow,T.xi_NoRow,#[zq]]],#[zy]],#[ze,#[zC,7,zbo.nd,#[A],(zns hu AN.ans #[z8,(.ref t.ANSWERS),T.x_ANSWERS,rfl] (@L2.pv _ 6 _ _ (by rfl) (by first | exact ae rfl | exact aa #[A] | exact aa (aa rfl)) #[D] #[D]) (fun _ _=>rfl))],#[zk,#[zF,(zjR (@L2.pv _ 7 _ _ (by rfl) (by first | exact ae rfl | exact aa #[A] | exact aa (aa rfl)) #[D] #[D]) #[zW] #[za,(@L2.pv _ 0 _ _ (by rfl) (by first | exact ae rfl | exact aa #[A] | exact aa (aa rfl)) #[D] #[D]),#[ya,#[zaQ,(CompSc.of (N':=["one"]) (ix:=[none]) (zj zbv) ["self","row","word","blank","rest","words","asked","answer"] rfl rfl #[N]),#[zaP],#[zbd,(@L2.pv _ 5 _ _ (by rfl) (by first | exact ae rfl | exact aa #[A] | exact aa (aa rfl)) #[D] #[D])],(fun _ _ _ _=>#[zr,0,(show (["one"]:List Str).Nodup from #[N]),#[A]]),(fun _ _ _ _=>#[zaB]),(fun _ _ _ _=>#[zaM,#[zeY],T.int_,boot_int,#[ya,(@L2.pv _ 0 _ _ (by rfl) (by first | exact ae rfl | exact aa #[A] | exact aa (aa rfl)) #[D] #[D])]])]]])]]]]]]]]],?_⟩;have kz:=aM;obtain⟨dp,z,word,blank,rest,rfl,hz,hp,lI,q⟩:=h;refine (iq rfl (ex4 _ _ _ _ ⟨rfl,.str _,rfl,(iq rfl (zag ?_))⟩));refine (iq rfl ⟨rfl,z," ",word,blank,rest,rfl,rfl,rfl,#[O],hp,fun tp ou=>?_⟩);have s1:=zf (o:=.tup [.str word,.str blank,.str rest]) ou;refine⟨tp,_,rfl,iI.of zb,rfl,_,_,rfl,_,_,rfl,_,_,rfl,rfl,?_⟩;refine⟨fun σ' H'=>σ' = [some (.ref dp),some (.str z),some (.str word),some (.str blank),some (.str rest),none,none,none]∧H'=upd H tp (.tup [.str word,.str blank,.str rest])∧¬ (word = "code"∧blank = " "),?_,?_⟩
  ·refine (iq rfl ⟨rfl,(iq rfl ?_)⟩);by_cases hw:word = "code";rotate_left
   ·rw [decide_eq_false (fun e=>hw (by injection e))];exact zag (zag ⟨rfl,rfl,fun e=>hw e.1⟩)
   rw [decide_eq_true (by rw [hw])];refine zaA ?_;refine (iq rfl ⟨rfl,(iq rfl ?_)⟩);by_cases hb:blank = " ";rotate_left
   ·rw [decide_eq_false (fun e=>hb (by injection e))];exact zag ⟨rfl,rfl,fun e=>hb e.2⟩
   rw [decide_eq_true (by rw [hb])];refine zaA ?_;rcases q with ⟨n,_⟩ | ⟨n,_⟩ | ⟨_,_,mv,q⟩ | ⟨_,_,nL,k',mQ,S,p,c,tt,pp,k,sl,pl,es,ds,us,mv,l0,D,q⟩
   ·exact absurd ⟨hw,hb⟩ n
   ·exact absurd ⟨hw,hb⟩ n
   ·exact (iq rfl ⟨rest,rfl,#[O],fun p k pl e=>(by rw [mv] at e; cases e),fun _ H' s'=>q H' (s1.trans s')⟩)
   ·refine (iq rfl ⟨rest,rfl,#[O],fun p2 k2 pl2 e c2 qS H2 hc2 s2 j9=>?_,fun e=>(by rw [mv] at e; cases e)⟩);rw [mv] at e;cases e;have D2:=D.same (s1.trans s2);obtain⟨iH,hd⟩:=D2.at';obtain⟨dx,ea,da,ua,k9,tt9,dr,ur,eS,h1,h2,h3,h4,h5,h6,h7,h8,h9,jw⟩:=D2.ls.ex;refine (iq rfl (ex5 dp t.Desk iH _ _ ⟨rfl,hd,T.clD,T.na_listener,zav,p,t.Listener,dx,_,_,rfl,h4,T.cl,T.na_slips,zgt,fun p' qT mT qo jv=>?_⟩));have hd0:=hd;have lY:dp≠p':=zi hd mT;have ndd:dp≠qT:=zi hd qo;have ni:zbY K H2 c2 qS nL k' mQ:=⟨.inl j9.1,.inl j9.2⟩;have qp:∀ b o,H2 b=some o→upd (upd H2 qT (.own p')) p' (.ins t.Listener qT []) b=some o:=fun b o e=>by rw [zc (zi e mT),zc (zi e qo)]; exact e
    refine (ex8 p' qT c2 qS sl nL k' mQ ⟨rfl,zb,by rw [zc jv]; exact zb,⟨ni.1.kt (qp _ _),ni.2.kt (qp _ _)⟩,l0,fun S' H' L kp hS=>⟨rfl,?_⟩⟩);have oC:∀ b o,H2 b=some o→H' b=some o:=fun b o e=>kp b o (qp b o e) (zi e mT)
    have lQ:=oC _ _ hd;have mz:∀ b∈S',H2 b=none:=fun b hb=>by
     rcases hS b hb with rfl | e
     ·exact mT
     ·cases q:H2 b with
      | none=>rfl
      | some u=>rw [qp b u q] at e; cases e
    have jF:∀ b∈S',H b=none:=fun b hb=>by
     cases q:H b with
     | none=>rfl
     | some u=>have:=(s1.trans s2) _ _ q; rw [mz b hb] at this; cases this
    have qm:dp∉S':=fun h=>by rw [mz dp h] at hd; cases hd
    refine (iq rfl (ex4 dp t.Desk iH ([("listener",.ref p)]) ⟨rfl,lQ,T.clD,T.na_listener,by show 1 < 1000; decide,?_⟩));have nt:∀ ys,H' dp≠some (.tup ys):=fun ys e=>by rw [lQ] at e; cases e
    have hc3:zbY K H' c2 qS nL k' mQ:=⟨ni.1.kt (oC _ _),ni.2.kt (oC _ _)⟩;exact q S' p' c2 qS _ ⟨⟨iH,by rw [zb]; rfl⟩,qm,L.put qm nt,⟨hc3.1.upd nt,hc3.2.upd nt⟩,by rw [bv],l0⟩ (fun b o e n=>by rw [zc n]; exact oC b o (s2 _ _ (s1 _ _ e))) jF
  ·rintro σ' H' ⟨rfl,rfl,hn⟩;have hq:((atKey (zey t) (zec word blank rest)).isSome=false∨(wordsOf blank rest).all (zah 4)=false)∧(∀ H',zJ H H'→E (.ref t.NoRow) none H') ∨
     ∃ (a f:Addr) (sp:Sp),atKey (zey t) (zec word blank rest)=some (a,.ref f)∧(wordsOf blank rest).all (zah 4)=true∧Ans t K f sp∧∀ H1 nl,zJ H H1→H nl=none→H1 nl=some (.lst (((wordsOf blank rest).map z9).map V.int))→sp [.ref dp,.ref nl] H1 Q E:=by
    rcases q with ⟨_,q⟩ | ⟨_,q⟩ | ⟨h1,h2,_⟩ | ⟨h1,h2,_⟩
    ·exact .inl q
    ·exact .inr q
    ·exact absurd ⟨h1,h2⟩ hn
    ·exact absurd ⟨h1,h2⟩ hn
   clear q;have nT:(wordsOf blank rest).length≤801∧∀ x∈wordsOf blank rest,x.length≤801:=by
    unfold wordsOf;by_cases hb:blank = " "
    ·rw [if_pos hb];have kb:=L2.split_le rest;have hSL:=zdW rest;exact⟨#[O],fun x hx=>by have:=zg7 hx; lia⟩
    ·rw [if_neg hb];exact⟨cc _,fun x hx=>nomatch hx⟩
   refine⟨fun σ' H'=>∃ l,upd H tp (.tup [.str word,.str blank,.str rest]) l=none∧σ' = [some (.ref dp),some (.str z),some (.str word),some (.str blank),some (.str rest),some (.ref l),none,none]∧H'=upd (upd H tp (.tup [.str word,.str blank,.str rest])) l (.lst ((wordsOf blank rest).map V.str)),?_,?_⟩
   ·refine (iq rfl ⟨rfl,(iq rfl ?_)⟩);by_cases hb:blank = " "
    ·rw [decide_eq_true (by rw [hb])];refine zaA ?_;refine (iq rfl ⟨rfl,rest,rfl,rfl,#[O],fun l hl=>⟨l,hl,rfl,?_⟩⟩);unfold wordsOf;rw [if_pos hb]
    ·rw [decide_eq_false (fun e=>hb (by injection e))];refine zag ⟨by show 0≤sizeLine; lia,fun l hl=>⟨l,hl,rfl,?_⟩⟩;unfold wordsOf;rw [if_neg hb];rfl
   rintro σ' H' ⟨l,hl,rfl,rfl⟩;have s2:=s1.trans (zf (o:=.lst ((wordsOf blank rest).map V.str)) hl);have h2:upd (upd H tp (.tup [.str word,.str blank,.str rest])) l (.lst ((wordsOf blank rest).map V.str)) l=some (.lst ((wordsOf blank rest).map V.str)):=zb;generalize upd (upd H tp (.tup [.str word,.str blank,.str rest])) l (.lst ((wordsOf blank rest).map V.str))=H2 at s2 h2 ⊢;refine (iq rfl (iq rfl ⟨l,(iq rfl ⟨.inl (iw.of h2),by show 2≤sizeLine; lia,fun b hb=>?_⟩)⟩));have s3:=s2.trans (zf (o:=.tup [.str word,.int ((((wordsOf blank rest).map V.str).length:Nat):Int)]) hb);have h3:=(zf (o:=.tup [.str word,.int ((((wordsOf blank rest).map V.str).length:Nat):Int)]) hb) _ _ h2;have hk:upd H2 b (.tup [.str word,.int ((((wordsOf blank rest).map V.str).length:Nat):Int)]) b=some (.tup ((zec word blank rest).map kV)):=by
    rw [zb];unfold zec;rw [ah];rfl
   generalize upd H2 b (.tup [.str word,.int ((((wordsOf blank rest).map V.str).length:Nat):Int)])=H3 at s3 h3 hk ⊢;refine (iq rfl ⟨b,zec word blank rest,rfl,rfl,hk,(iq rfl ?_)⟩);cases kC:(atKey (zey t) (zec word blank rest)).isSome with
   | false =>
    refine zaA (zaA ?_);rcases hq with ⟨_,q⟩ | ⟨a,f,sp,e,_⟩
    ·exact⟨rfl,q _ s3⟩
    ·rw [e] at kC;cases kC
   | true =>
   refine zag ?_;refine (iq rfl ⟨l,rfl,⟨_,iw.of h3⟩,zcn (K:=K) (xs:=(wordsOf blank rest).map V.str) (fs:=((wordsOf blank rest).map (zah 4)).map V.bl) (iw.of h3) (by rw [ah,ah,ah]) (by rw [ah]; have:=nT.1; lia) ?_ ?_⟩)
   ·intro j x y R B hx hy hR;rw [aw] at hx;obtain⟨w1,mr,rfl⟩:=cr.mp hx;rw [aw,aw,mr] at hy;obtain rfl:V.bl (zah 4 w1)=y:=az hy;refine gY ?_;exact (iq rfl ⟨w1,rfl,by have:=nT.2 w1 (aE mr); lia,hR⟩)
   intro D hD;refine⟨D,(wordsOf blank rest).map (zah 4),rfl,iw.of zb,?_⟩;have e:((wordsOf blank rest).map (zah 4)).all id=(wordsOf blank rest).all (zah 4):=by rw [dD]; rfl
   rw [e];have s4:=s3.trans (zf (o:=.lst (((wordsOf blank rest).map (zah 4)).map V.bl)) hD);have h4:=(zf (o:=.lst (((wordsOf blank rest).map (zah 4)).map V.bl)) hD) _ _ h3;have qU:=(zf (o:=.lst (((wordsOf blank rest).map (zah 4)).map V.bl)) hD) _ _ hk;generalize upd H3 D (.lst (((wordsOf blank rest).map (zah 4)).map V.bl))=H4 at s4 h4 qU ⊢;cases jz:(wordsOf blank rest).all (zah 4) with
   | false =>
    rcases hq with ⟨_,q⟩ | ⟨a,f,sp,_,e,_⟩
    ·exact (iq rfl (zaA ⟨rfl,q _ s4⟩))
    ·rw [e] at jz;cases jz
   | true =>
   rcases hq with ⟨e | e,_⟩ | ⟨a,f,sp,ek,_,hA,q⟩
   ·rw [kC] at e; cases e
   ·rw [jz] at e; cases e
   refine (iq rfl (zag ?_));refine (iq rfl (ex4 b (zec word blank rest) (a,.ref f) (.ref f) ⟨rfl,rfl,qU,ek,rfl,?_⟩));refine (iq rfl ⟨f,sp,rfl,znx T hA hr,?_⟩);refine (iq rfl (iq rfl ⟨l,rfl,⟨_,iw.of h4⟩,zcn (K:=K) (xs:=(wordsOf blank rest).map V.str) (fs:=((wordsOf blank rest).map z9).map V.int) (iw.of h4) (by rw [ah,ah,ah]) (by rw [ah]; have:=nT.1; lia) ?_ ?_⟩))
   ·intro j x y R B hx hy hR;rw [aw] at hx;obtain⟨w1,mr,rfl⟩:=cr.mp hx;rw [aw,aw,mr] at hy;obtain rfl:V.int (z9 w1)=y:=az hy;obtain⟨g1,g2,g3,_⟩:=zfu (zfv (bz.mp jz w1 (aE mr)));refine gY ?_;exact (iq rfl ⟨w1,rfl,g1,hR⟩)
   intro D2 oX;exact q _ D2 (s4.trans (zf oX)) (s4.free oX) zb
end
section
variable {P:Program} {w:World} {K:af} {mg:Str→Option Value} {base:Heap} {t:Adr}
def zfJ:List Str:=["few","curve","paper","place","number","heard","not heard","nothing","text","row"]
def ziC (t:Adr) (K:af):Sp:=fun vs H Q _=>∃ (e C:Addr) (b0 b1 b2 b3 b4 b5 b6 b7 b8 b9:Bool) (j:Nat) (x:Str),vs = [.ref e]∧H e=some (zjC e C)∧KW K t C b0 b1 b2 b3 b4 b5 b6 b7 b8 b9∧[b0,b1,b2,b3,b4,b5,b6,b7,b8,b9].count true=1∧[b0,b1,b2,b3,b4,b5,b6,b7,b8,b9][j]? = some true∧(∀ m,m < j→[b0,b1,b2,b3,b4,b5,b6,b7,b8,b9][m]? = some false)∧j < 10∧zfJ[j]? = some x∧∀ H',zJ H H'→Q (.str x) H'
theorem zbH:FnScope ["e","kinds","words"] ["e"] (zj zb9):=#[S]
theorem zdk {fd:FuncData} (T:Txt K mg t) (F:Fun K "_law_word" "_law_word" zb9 t.l_word fd):FnOkH P w K mg base 1 t.l_word fd ["e"] (ziC t K):=by
 refine F.okH zbH (fun vs H Q E h=>?_) (fun iy A outer s H vs Q E hr h=>?_)
 ·obtain⟨e,C,b0,b1,b2,b3,b4,b5,b6,b7,b8,b9,j,x,rfl,_⟩:=h;rfl
 ·obtain⟨e,C,b0,b1,b2,b3,b4,b5,b6,b7,b8,b9,j,x,rfl,he,kw,hc,hj,hm,hj10,hx,q⟩:=h;refine⟨_,#[ze,#[zC,1,zbH.nd,#[A],#[zaa,#[za,#[zm,#[zV],T.isinstance_,aO,#[za,(@L2.pv _ 0 _ _ (by rfl) (by first | exact ae rfl | exact aa #[A] | exact aa (aa rfl)) #[D] #[D]),#[ya,#[z8,(.ref t.TooFew),T.x_TooFew,rfl]]]],by exact #[za,#[zm,#[zV],T.isinstance_,aO,#[za,(@L2.pv _ 0 _ _ (by rfl) (by first | exact ae rfl | exact aa #[A] | exact aa (aa rfl)) #[D] #[D]),#[ya,#[z8,(.ref t.NoCurve),T.x_NoCurve,rfl]]]],#[za,#[zm,#[zV],T.isinstance_,aO,#[za,(@L2.pv _ 0 _ _ (by rfl) (by first | exact ae rfl | exact aa #[A] | exact aa (aa rfl)) #[D] #[D]),#[ya,#[z8,(.ref t.NoPaper),T.x_NoPaper,rfl]]]],#[ya,#[zm,#[zV],T.isinstance_,aO,#[za,(@L2.pv _ 0 _ _ (by rfl) (by first | exact ae rfl | exact aa #[A] | exact aa (aa rfl)) #[D] #[D]),#[ya,#[z8,(.ref t.NoPlace),T.x_NoPlace,rfl]]]]]]]]]],#[ze,#[zC,1,zbH.nd,#[A],#[zt,#[zc8],(@L2.pv _ 1 _ _ (by rfl) (by first | exact ae rfl | exact aa #[A] | exact aa (aa rfl)) #[D] #[D]),#[zaa,#[za,#[zm,#[zV],T.isinstance_,aO,#[za,(@L2.pv _ 0 _ _ (by rfl) (by first | exact ae rfl | exact aa #[A] | exact aa (aa rfl)) #[D] #[D]),#[ya,#[z8,(.ref t.NoNumber),T.x_NoNumber,rfl]]]],#[za,#[zm,#[zV],T.isinstance_,aO,#[za,(@L2.pv _ 0 _ _ (by rfl) (by first | exact ae rfl | exact aa #[A] | exact aa (aa rfl)) #[D] #[D]),#[ya,#[z8,(.ref t.Heard),T.x_Heard,rfl]]]],#[ya,#[zm,#[zV],T.isinstance_,aO,#[za,(@L2.pv _ 0 _ _ (by rfl) (by first | exact ae rfl | exact aa #[A] | exact aa (aa rfl)) #[D] #[D]),#[ya,#[z8,(.ref t.NotHeard),T.x_NotHeard,rfl]]]]]]]]]],#[ze,#[zC,1,zbH.nd,#[A],#[zt,#[zc8],(@L2.pv _ 1 _ _ (by rfl) (by first | exact ae rfl | exact aa #[A] | exact aa (aa rfl)) #[D] #[D]),#[zaa,#[za,#[zm,#[zV],T.isinstance_,aO,#[za,(@L2.pv _ 0 _ _ (by rfl) (by first | exact ae rfl | exact aa #[A] | exact aa (aa rfl)) #[D] #[D]),#[ya,#[z8,(.ref t.NothingLeft),T.x_NothingLeft,rfl]]]],#[za,#[zm,#[zV],T.isinstance_,aO,#[za,(@L2.pv _ 0 _ _ (by rfl) (by first | exact ae rfl | exact aa #[A] | exact aa (aa rfl)) #[D] #[D]),#[ya,#[z8,(.ref t.NoText),T.x_NoText,rfl]]]],#[ya,#[zm,#[zV],T.isinstance_,aO,#[za,(@L2.pv _ 0 _ _ (by rfl) (by first | exact ae rfl | exact aa #[A] | exact aa (aa rfl)) #[D] #[D]),#[ya,#[z8,(.ref t.NoRow),T.x_NoRow,rfl]]]]]]]]]],#[ze,#[zY,(@PW.pt _ _ _ #[zbt,#[zB,#[zcx],#[zcz,aX,PySem.F.slot_list_count,PySem.F.type_list_count,(@zif _),(@L2.pv _ 1 _ _ (by rfl) (by first | exact ae rfl | exact aa #[A] | exact aa (aa rfl)) #[D] #[D]),#[ya,#[za1]]],#[zh],(zI _)],#[za6,#[zaf,#[zaz,#[zm,#[zV],T.isinstance_,aO,#[za,(@L2.pv _ 0 _ _ (by rfl) (by first | exact ae rfl | exact aa #[A] | exact aa (aa rfl)) #[D] #[D]),#[ya,#[zbL,(.ty "ValueError"),T.ValueError_,hI]]]]]]]]),#[zk,#[zF,#[zq]]],#[zy]],(by exact #[zb7,2,["few","curve","paper","place","number","heard","not heard","nothing","text","row"],#[N],zbH.nd,#[A],(by first | exact .inl rfl | exact .inr rfl),#[zk,#[zF,#[zZ,#[zM],(@L2.pv _ 2 _ _ (by rfl) (by first | exact ae rfl | exact aa #[A] | exact aa (aa rfl)) #[D] #[D]),#[zcz,aX,PySem.F.slot_list_index,PySem.F.type_list_index,(@zig _),(@L2.pv _ 1 _ _ (by rfl) (by first | exact ae rfl | exact aa #[A] | exact aa (aa rfl)) #[D] #[D]),#[ya,#[za1]]]]]]])]]]],?_⟩;have kz:=aM;have xc:=kw.xc;refine (iq rfl (ex4 e C _ _ ⟨rfl,he,xc,.inl (iq rfl kw.i0),(iq rfl (ex4 e C _ _ ⟨rfl,he,xc,.inl (iq rfl kw.i1),(iq rfl (ex4 e C _ _ ⟨rfl,he,xc,.inl (iq rfl kw.i2),(iq rfl (ex4 e C _ _ ⟨rfl,he,xc,.inl (iq rfl kw.i3),by show 4≤sizeLine; lia,fun l1 j5=>?_⟩))⟩))⟩))⟩));have s1:=zf (o:=.lst [.bl b0,.bl b1,.bl b2,.bl b3]) j5;have qV:=s1 _ _ he;refine (iq rfl (iq rfl (ex4 e C _ _ ⟨rfl,qV,xc,.inl (iq rfl kw.i4),(iq rfl (ex4 e C _ _ ⟨rfl,qV,xc,.inl (iq rfl kw.i5),(iq rfl (ex4 e C _ _ ⟨rfl,qV,xc,.inl (iq rfl kw.i6),by show 3≤sizeLine; lia,fun l2 lz=>?_⟩))⟩))⟩)));have s2:=zf (o:=.lst [.bl b4,.bl b5,.bl b6]) lz;refine (ex4 l1 l2 _ _ ⟨rfl,rfl,s2 _ _ zb,zb,by show 7≤sizeLine; lia,fun l3 tD=>?_⟩);have s3:=zf (o:=.lst ([V.bl b0,.bl b1,.bl b2,.bl b3]++[.bl b4,.bl b5,.bl b6])) tD;have qW:=s3 _ _ (s2 _ _ qV);refine (iq rfl (iq rfl (ex4 e C _ _ ⟨rfl,qW,xc,.inl (iq rfl kw.i7),(iq rfl (ex4 e C _ _ ⟨rfl,qW,xc,.inl (iq rfl kw.i8),(iq rfl (ex4 e C _ _ ⟨rfl,qW,xc,.inl (iq rfl kw.i9),by show 3≤sizeLine; lia,fun l4 qX=>?_⟩))⟩))⟩)));have s4:=zf (o:=.lst [.bl b7,.bl b8,.bl b9]) qX;refine (ex4 l3 l4 _ _ ⟨rfl,rfl,s4 _ _ zb,zb,by show 10≤sizeLine; lia,fun l5 qP=>?_⟩);have s5:=zf (o:=.lst ([V.bl b0,.bl b1,.bl b2,.bl b3]++[.bl b4,.bl b5,.bl b6]++[.bl b7,.bl b8,.bl b9])) qP;have he5:=s5 _ _ (s4 _ _ qW);have sA:=s1.trans (s2.trans (s3.trans (s4.trans s5)));have h5:upd (upd (upd (upd (upd H l1 (.lst [.bl b0,.bl b1,.bl b2,.bl b3])) l2 (.lst [.bl b4,.bl b5,.bl b6])) l3 (.lst ([V.bl b0,.bl b1,.bl b2,.bl b3]++[.bl b4,.bl b5,.bl b6]))) l4 (.lst [.bl b7,.bl b8,.bl b9])) l5 (.lst ([V.bl b0,.bl b1,.bl b2,.bl b3]++[.bl b4,.bl b5,.bl b6]++[.bl b7,.bl b8,.bl b9])) l5=some (.lst ([b0,b1,b2,b3,b4,b5,b6,b7,b8,b9].map V.bl)):=zb;generalize upd (upd (upd (upd (upd H l1 (.lst [.bl b0,.bl b1,.bl b2,.bl b3])) l2 (.lst [.bl b4,.bl b5,.bl b6])) l3 (.lst ([V.bl b0,.bl b1,.bl b2,.bl b3]++[.bl b4,.bl b5,.bl b6]))) l4 (.lst [.bl b7,.bl b8,.bl b9])) l5 (.lst ([V.bl b0,.bl b1,.bl b2,.bl b3]++[.bl b4,.bl b5,.bl b6]++[.bl b7,.bl b8,.bl b9]))=H5 at he5 sA h5 ⊢;refine (iq rfl ⟨.inl ⟨rfl,_,iw.of h5⟩,l5,_,true,rfl,rfl,h5,?_⟩);rw [hc];refine⟨rfl,(iq rfl ?_)⟩;refine zag ?_;refine (iq rfl (ex4 e C _ _ ⟨rfl,he5,xc,.inr (iq rfl kw.iv),(iq rfl ?_)⟩));refine zag ?_;refine⟨by show 10≤sizeLine; lia,fun lw hlw=>?_⟩;have s6:=zf (o:=.lst (zfJ.map V.str)) hlw;refine (iq rfl (iq rfl ⟨.inl ⟨rfl,_,iw.of (s6 _ _ h5)⟩,l5,_,true,j,rfl,rfl,s6 _ _ h5,hj,hm,#[O],?_⟩));refine (ex4 lw _ _ (.str x) ⟨rfl,rfl,iw.of zb,?_,q _ (sA.trans s6)⟩);exact zci (xs:=zfJ.map V.str) (by rw [aw,hx]; rfl)
theorem ziD {X:Cx} {ip:List (Addr×Obj)} {σ:L2.St} {e:Expr}:zlI X ip σ e (fun _ _ _=>False):=fun s H Q I h=>h.elim
def Wx (t:Adr) (C:Addr) (x:Str):Prop:=(C=t.TooFew∧x = "few")∨(C=t.NoCurve∧x = "curve")∨(C=t.NoPaper∧x = "paper")∨(C=t.NoPlace∧x = "place")∨(C=t.NoNumber∧x = "number")∨(C=t.Heard∧x = "heard")∨(C=t.NotHeard∧x = "not heard")∨(C=t.NothingLeft∧x = "nothing")∨(C=t.NoText∧x = "text")∨(C=t.NoRow∧x = "row")
theorem zhQ (T:Txt K mg t) {C:Addr} {x:Str} (h:Wx t C x):∃ (b0 b1 b2 b3 b4 b5 b6 b7 b8 b9:Bool) (j:Nat),KW K t C b0 b1 b2 b3 b4 b5 b6 b7 b8 b9∧[b0,b1,b2,b3,b4,b5,b6,b7,b8,b9].count true=1∧[b0,b1,b2,b3,b4,b5,b6,b7,b8,b9][j]? = some true∧(∀ m,m < j→[b0,b1,b2,b3,b4,b5,b6,b7,b8,b9][m]? = some false)∧j < 10∧zfJ[j]? = some x:=by
 rcases h with ⟨rfl,rfl⟩ | ⟨rfl,rfl⟩ | ⟨rfl,rfl⟩ | ⟨rfl,rfl⟩ | ⟨rfl,rfl⟩ | ⟨rfl,rfl⟩ | ⟨rfl,rfl⟩ | ⟨rfl,rfl⟩ | ⟨rfl,rfl⟩ | ⟨rfl,rfl⟩
 ·exact⟨_,_,_,_,_,_,_,_,_,_,0,T.kw_TooFew,rfl,rfl,#[D],#[D],rfl⟩
 ·exact⟨_,_,_,_,_,_,_,_,_,_,1,T.kw_NoCurve,rfl,rfl,#[D],#[D],rfl⟩
 ·exact⟨_,_,_,_,_,_,_,_,_,_,2,T.kw_NoPaper,rfl,rfl,#[D],#[D],rfl⟩
 ·exact⟨_,_,_,_,_,_,_,_,_,_,3,T.kw_NoPlace,rfl,rfl,#[D],#[D],rfl⟩
 ·exact⟨_,_,_,_,_,_,_,_,_,_,4,T.kw_NoNumber,rfl,rfl,#[D],#[D],rfl⟩
 ·exact⟨_,_,_,_,_,_,_,_,_,_,5,T.kw_Heard,rfl,rfl,#[D],#[D],rfl⟩
 ·exact⟨_,_,_,_,_,_,_,_,_,_,6,T.kw_NotHeard,rfl,rfl,#[D],#[D],rfl⟩
 ·exact⟨_,_,_,_,_,_,_,_,_,_,7,T.kw_NothingLeft,rfl,rfl,#[D],#[D],rfl⟩
 ·exact⟨_,_,_,_,_,_,_,_,_,_,8,T.kw_NoText,rfl,rfl,#[D],#[D],rfl⟩
 ·exact⟨_,_,_,_,_,_,_,_,_,_,9,T.kw_NoRow,rfl,rfl,#[D],#[D],rfl⟩
theorem zmO (w:Wd):Wx t (znt t w) w.txt:=by
 cases w with
 | place=>exact .inr (.inr (.inr (.inl ⟨rfl,rfl⟩)))
 | number=>exact .inr (.inr (.inr (.inr (.inl ⟨rfl,rfl⟩))))
 | heard=>exact .inr (.inr (.inr (.inr (.inr (.inl ⟨rfl,rfl⟩)))))
 | notHeard=>exact .inr (.inr (.inr (.inr (.inr (.inr (.inl ⟨rfl,rfl⟩))))))
 | nothing=>exact .inr (.inr (.inr (.inr (.inr (.inr (.inr (.inl ⟨rfl,rfl⟩)))))))
def zhj (t:Adr) (K:af):Sp:=fun vs H Q _=>∃ (S:List Addr) (p c:Addr) (pp sl way n x:Int) (es:Rw) (ds us:List Dt) (w:Wd),vs = [.ref p,.int way,.int n,.int x]∧Ls K t.Listener H S p c pp sl es ds us∧es.length≤16∧ds.length≤1000∧us.length≤1000 ∧
 ((way=0∧stp pp es ds us (.hear n x) = .inl w)∨(way=1∧stp pp es ds us (.forget n) = .inl w)∨(way=2∧inB es n=false∧w = .place))∧∀ H',zJ H H'→Q (.str w.txt) H'
theorem zcp:FnScope ["listener","way","number","entry","name","e"] ["listener","way","number","entry"] (zj zca):=#[S]
theorem ziE {fd:FuncData} (T:Txt K mg t) (F:Fun K "_law_done" "_law_done" zca t.l_done fd):FnOk P w K mg base CX0 5 t.l_done fd ["listener","way","number","entry"] (zhj t K):=by
 obtain⟨lx,jM,jN⟩:=T.f_hear;have jO:=zfx (P:=P) (w:=w) (base:=base) T jM;obtain⟨lJ,jP,jQ⟩:=T.f_forget;have jR:=ze2 (P:=P) (w:=w) (base:=base) T jP;obtain⟨ng,k8,la⟩:=T.f_sure;have lb:=zhP (P:=P) (w:=w) (base:=base) T k8;obtain⟨kf,iN,jd⟩:=T.f_l_word;have je:=zdk (P:=P) (w:=w) (base:=base) T iN;refine F.ok zcp (fun vs H Q E h=>?_) (fun iy A outer s H vs Q E hr h=>?_)
 ·obtain⟨S,p,c,pp,sl,way,n,x,es,ds,us,w',rfl,_⟩:=h;rfl
 ·obtain⟨S,p,c,pp,sl,way,n,x,es,ds,us,w',rfl,L,kZ,kF,kN,hw,q⟩:=h;obtain⟨dx,ea,da,ua,k,tt,dr,ur,eS,h1,h2,h3,h4,h5,h6,h7,h8,h9,jw⟩:=L.ex;refine⟨_,#[ze,#[zC,4,zcp.nd,#[A],#[zq]],#[ze,#[zg4,5,T.x_SlipError,T.sb,zcp.nd,(fun xe ip σ E hp=>#[zau,#[zdU,#[zB,#[zcw],(@L2.pv _ 1 _ _ (by rfl) (by first | exact ae rfl | exact aa #[A] | exact aa (aa rfl)) #[D] #[D]),#[zh],(zI _)],#[zau,#[zaY,#[zbQ,(@L2.pv _ 0 _ _ (by rfl) (by first | exact ae rfl | exact aa #[A] | exact aa (aa rfl)) #[D] #[D]),T.cl,T.me_hear,jO,(hr.mono #[D]),jN,hp,#[za,(@L2.pv _ 2 _ _ (by rfl) (by first | exact ae rfl | exact aa #[A] | exact aa (aa rfl)) #[D] #[D]),#[ya,(@L2.pv _ 3 _ _ (by rfl) (by first | exact ae rfl | exact aa #[A] | exact aa (aa rfl)) #[D] #[D])]]]]],#[zau,#[zdU,#[zB,#[zcw],(@L2.pv _ 1 _ _ (by rfl) (by first | exact ae rfl | exact aa #[A] | exact aa (aa rfl)) #[D] #[D]),#[zh],(zI _)],#[zau,#[zaY,#[zbQ,(@L2.pv _ 0 _ _ (by rfl) (by first | exact ae rfl | exact aa #[A] | exact aa (aa rfl)) #[D] #[D]),T.cl,T.me_forget,jR,(hr.mono #[D]),jQ,hp,#[ya,(@L2.pv _ 2 _ _ (by rfl) (by first | exact ae rfl | exact aa #[A] | exact aa (aa rfl)) #[D] #[D])]]]],#[zau,#[zaY,#[zbQ,(@L2.pv _ 0 _ _ (by rfl) (by first | exact ae rfl | exact aa #[A] | exact aa (aa rfl)) #[D] #[D]),T.cl,T.me_sure,lb,(hr.mono #[D]),la,hp,#[ya,(@L2.pv _ 2 _ _ (by rfl) (by first | exact ae rfl | exact aa #[A] | exact aa (aa rfl)) #[D] #[D])]]]]]]]]),(fun e=>zk #[zC,4,zcp.nd,#[A],#[zdV,je,(RoomH.of (hr.mono #[D])),T.m_l_word,iN.kp,jd,#[ya,(@L2.pv _ 5 _ _ (by rfl) (by first | exact ae rfl | exact aa #[A] | exact aa (aa rfl)) #[D] #[D])]]])],#[zk,#[zF,(@L2.pv _ 4 _ _ (by rfl) (by first | exact ae rfl | exact aa #[A] | exact aa (aa rfl)) #[D] #[D])]]]],?_⟩;obtain⟨b0,b1,b2,b3,b4,b5,b6,b7,b8,b9,j,kw,kc,kj,km,md,kx⟩:=zhQ T (zmO (t:=t) w');rcases hw with ⟨rfl,e⟩ | ⟨rfl,e⟩ | ⟨rfl,hb,rfl⟩
  ·refine (iq rfl ⟨rfl,(iq rfl (zaA ?_))⟩);refine (iq rfl (ex3 p dx _ ⟨rfl,h4,zak (.inr (.inr (.inl rfl))),(iq rfl (iq rfl (zoZ S p c pp sl n x es ds us ⟨rfl,L,kZ,kF,kN,?_⟩)))⟩));unfold zdg;rw [e];refine (iq rfl ⟨kw.sl,fun e he=>?_⟩);refine (iq rfl (zh5 e _ b0 b1 b2 b3 b4 b5 b6 b7 b8 b9 j _ ⟨rfl,zb,kw,kc,kj,km,md,kx,fun H' s'=>?_⟩));exact (iq rfl (q H' ((zf he).trans s')))
  ·refine (iq rfl ⟨rfl,(iq rfl (zag ?_))⟩);refine (iq rfl ⟨rfl,(iq rfl (zaA ?_))⟩);refine (iq rfl (ex3 p dx _ ⟨rfl,h4,zak (.inr (.inr (.inr (.inl rfl)))),(iq rfl (ex9 S p c pp sl n es ds us ⟨rfl,L,kZ,kF,kN,?_⟩))⟩));unfold zdg;rw [e];refine (iq rfl ⟨kw.sl,fun e he=>?_⟩);refine (iq rfl (zh5 e _ b0 b1 b2 b3 b4 b5 b6 b7 b8 b9 j _ ⟨rfl,zb,kw,kc,kj,km,md,kx,fun H' s'=>?_⟩));exact (iq rfl (q H' ((zf he).trans s')))
  ·refine (iq rfl ⟨rfl,(iq rfl (zag ?_))⟩);refine (iq rfl ⟨rfl,(iq rfl (zag ?_))⟩);refine (iq rfl (ex3 p dx _ ⟨rfl,h4,zak (.inr (.inr (.inr (.inr (.inr (.inr (.inr rfl))))))),(iq rfl (ex9 S p c pp sl n es ds us ⟨rfl,L,kZ,hb,?_⟩))⟩));refine (iq rfl ⟨kw.sl,fun e he=>?_⟩);refine (iq rfl (zh5 e _ b0 b1 b2 b3 b4 b5 b6 b7 b8 b9 j _ ⟨rfl,zb,kw,kc,kj,km,md,kx,fun H' s'=>?_⟩));exact (iq rfl (q H' ((zf he).trans s')))
def zgu (t:Adr) (K:af):Sp:=fun vs H Q _=>∃ (c tt pa cv:Addr) (p k:Int) (pl:List Int) (v1:V) (x:Str),vs = [.int 0,.ref c,v1,.ref pa]∧zbY K H c tt p k pl∧iI K H pa [.int 9,.ref cv]∧((k < 2∧x = "curve")∨(2≤k∧x = "paper"))∧∀ H',zJ H H'→Q (.str x) H'
theorem zbw:FnScope ["way","code","row","paper","name","e"] ["way","code","row","paper"] (zj zbm):=#[S]
theorem zgv {fd:FuncData} (T:Txt K mg t) (F:Fun K "_law_papers" "_law_papers" zbm t.l_papers fd):FnOk P w K mg base CX0 4 t.l_papers fd ["way","code","row","paper"] (zgu t K):=by
 obtain⟨oE,kg,lK⟩:=T.f_near_by;have lL:=zhe (P:=P) (w:=w) (base:=base) T kg;obtain⟨kf,iN,jd⟩:=T.f_l_word;have je:=zdk (P:=P) (w:=w) (base:=base) T iN;refine F.ok zbw (fun vs H Q E h=>?_) (fun iy A outer s H vs Q E hr h=>?_)
 ·obtain⟨c,tt,pa,cv,p,k,pl,v1,x,rfl,_⟩:=h;rfl
 ·obtain⟨c,tt,pa,cv,p,k,pl,v1,x,rfl,hc,oY,hx,q⟩:=h;refine⟨_,#[ze,#[zC,4,zbw.nd,#[A],#[zq]],#[ze,#[zg4,5,T.x_SlipError,T.sb,zbw.nd,(fun xe ip σ E hp=>#[zau,#[zdU,#[zB,#[zcw],(@L2.pv _ 0 _ _ (by rfl) (by first | exact ae rfl | exact aa #[A] | exact aa (aa rfl)) #[D] #[D]),#[zh],(zI _)],#[zau,#[zaY,(@zg3 _ _ _ _ _ _ _ _ _ _ _ _ _ _ _ _ _ _ lL (hr.mono #[D]) rfl T.m_near_by kg.kp lK .nil hp #[za,(@L2.pv _ 1 _ _ (by rfl) (by first | exact ae rfl | exact aa #[A] | exact aa (aa rfl)) #[D] #[D]),#[za,(@L2.pv _ 2 _ _ (by rfl) (by first | exact ae rfl | exact aa #[A] | exact aa (aa rfl)) #[D] #[D]),#[za,#[zh],#[ya,(@L2.pv _ 3 _ _ (by rfl) (by first | exact ae rfl | exact aa #[A] | exact aa (aa rfl)) #[D] #[D])]]]] #[D] (by rfl) (by rfl))]],#[zau,#[zaY,ziD]]]]),(fun e=>zk #[zC,4,zbw.nd,#[A],#[zdV,je,(RoomH.of (hr.mono #[D])),T.m_l_word,iN.kp,jd,#[ya,(@L2.pv _ 5 _ _ (by rfl) (by first | exact ae rfl | exact aa #[A] | exact aa (aa rfl)) #[D] #[D])]]])],#[zk,#[zF,(@L2.pv _ 4 _ _ (by rfl) (by first | exact ae rfl | exact aa #[A] | exact aa (aa rfl)) #[D] #[D])]]]],?_⟩;refine (iq rfl ⟨rfl,(iq rfl (zaA ?_))⟩);refine (iq rfl (iq rfl (iq rfl (ex9 c tt pa cv p k pl v1 (.int 1) ⟨rfl,hc,oY,?_⟩))));rcases hx with ⟨hk,rfl⟩ | ⟨hk,rfl⟩
  ·obtain⟨b0,b1,b2,b3,b4,b5,b6,b7,b8,b9,j,kw,kc,kj,km,md,kx⟩:=zhQ T (C:=t.NoCurve) (x:="curve") (.inr (.inl ⟨rfl,rfl⟩));refine .inl ⟨hk,?_⟩;refine (iq rfl ⟨kw.sl,fun e he=>?_⟩);refine (iq rfl (zh5 e _ b0 b1 b2 b3 b4 b5 b6 b7 b8 b9 j _ ⟨rfl,zb,kw,kc,kj,km,md,kx,fun H' s'=>?_⟩));exact (iq rfl (q H' ((zf he).trans s')))
  ·obtain⟨b0,b1,b2,b3,b4,b5,b6,b7,b8,b9,j,kw,kc,kj,km,md,kx⟩:=zhQ T (C:=t.NoPaper) (x:="paper") (.inr (.inr (.inl ⟨rfl,rfl⟩)));refine .inr ⟨hk,?_⟩;refine (iq rfl ⟨kw.sl,fun e he=>?_⟩);refine (iq rfl (zh5 e _ b0 b1 b2 b3 b4 b5 b6 b7 b8 b9 j _ ⟨rfl,zb,kw,kc,kj,km,md,kx,fun H' s'=>?_⟩));exact (iq rfl (q H' ((zf he).trans s')))
theorem DDeed.mono {H:Hp} {S:List Addr} {dp p c tt:Addr} {pp k sl:Int} {pl:List Int} {es:Rw} {ds us:List Dt} {D:Dd} {Q Q':VK} {E E':XK} (q:DDeed K t H S dp p c tt pp k sl pl es ds us D Q E) (hQ:∀ v H',Q v H'→Q' v H') (hE:∀ u xd H',E u xd H'→E' u xd H'):DDeed K t H S dp p c tt pp k sl pl es ds us D Q' E':=by
 unfold DDeed at q ⊢
 revert q
 generalize stp pp es ds us D=st;intro q;cases st with
 | inl w=>exact hE _ _ _ q
 | inr r =>
  obtain⟨j2,lW,lX⟩:=r;exact fun S' H' L s hS=>hQ _ _ (q S' H' L s hS)
theorem Ans.mono {f:Addr} {sp:Sp} (A:Ans t K f sp) {vs:List V} {H:Hp} {Q Q':VK} {E E':XK} (h:sp vs H Q E) (hQ:∀ v H',Q v H'→Q' v H') (hE:∀ u xd H',E u xd H'→E' u xd H'):sp vs H Q' E':=by
 cases A with
 | slips=>obtain⟨a1,a2,a3,a4,a5,a6,q⟩:=h; exact⟨a1,a2,a3,a4,a5,a6,hE _ _ _ q⟩
 | hear=>obtain⟨x0,x1,x2,x3,x4,x5,x6,x7,x8,x9,jo,jG,kv,ky,lM,lN,mB,mC,tE,x19,q⟩:=h; exact⟨x0,x1,x2,x3,x4,x5,x6,x7,x8,x9,jo,jG,kv,ky,lM,lN,mB,mC,tE,x19,q.mono hQ hE⟩
 | forget=>obtain⟨x0,x1,x2,x3,x4,x5,x6,x7,x8,x9,jo,jG,kv,ky,lM,lN,mB,mC,tE,q⟩:=h; exact⟨x0,x1,x2,x3,x4,x5,x6,x7,x8,x9,jo,jG,kv,ky,lM,lN,mB,mC,tE,q.mono hQ hE⟩
 | back=>obtain⟨x0,x1,x2,x3,x4,x5,x6,x7,x8,x9,jo,jG,kv,ky,lM,lN,mB,mC,q⟩:=h; exact⟨x0,x1,x2,x3,x4,x5,x6,x7,x8,x9,jo,jG,kv,ky,lM,lN,mB,mC,q.mono hQ hE⟩
 | again=>obtain⟨x0,x1,x2,x3,x4,x5,x6,x7,x8,x9,jo,jG,kv,ky,lM,lN,mB,mC,q⟩:=h; exact⟨x0,x1,x2,x3,x4,x5,x6,x7,x8,x9,jo,jG,kv,ky,lM,lN,mB,mC,q.mono hQ hE⟩
 | sure=>obtain⟨x0,x1,x2,x3,x4,x5,x6,x7,x8,x9,jo,jG,kv,ky,lM,lN,mB,mC,q⟩:=h; exact⟨x0,x1,x2,x3,x4,x5,x6,x7,x8,x9,jo,jG,kv,ky,lM,lN,mB,mC,hE _ _ _ q⟩
 | near=>obtain⟨x0,x1,x2,x3,x4,x5,x6,x7,x8,x9,jo,jG,kv,ky,lM,lN,mB,mC,q⟩:=h; exact⟨x0,x1,x2,x3,x4,x5,x6,x7,x8,x9,jo,jG,kv,ky,lM,lN,mB,mC,fun H' s=>hE _ _ _ (q H' s)⟩
 | reach=>obtain⟨x0,x1,x2,x3,x4,x5,x6,x7,x8,x9,jo,jG,kv,ky,lM,lN,q⟩:=h; exact⟨x0,x1,x2,x3,x4,x5,x6,x7,x8,x9,jo,jG,kv,ky,lM,lN,q.imp (fun z=>⟨z.1,fun H' s=>hE _ _ _ (z.2 H' s)⟩) (fun z=>⟨z.1,z.2.1,fun H' s=>hE _ _ _ (z.2.2 H' s)⟩)⟩
theorem zj2 {vs:List V} {H:Hp} {Q Q':VK} {E E':XK} (h:zcg t K vs H Q E) (hQ:∀ v H',Q v H'→Q' v H') (hE:∀ u xd H',E u xd H'→E' u xd H'):zcg t K vs H Q' E':=by
 obtain⟨dp,z,word,blank,rest,e,hz,hp,hr,q⟩:=h;refine⟨dp,z,word,blank,rest,e,hz,hp,hr,?_⟩;rcases q with ⟨n,c,q⟩ | ⟨n,a,f,sp,ek,jz,A,q⟩ | ⟨h1,h2,h3,q⟩ | ⟨h1,h2,nL,k',mQ,S,p,c,tt,pp,k,sl,pl,es,ds,us,mv,l0,D,q⟩
 ·exact .inl ⟨n,c,fun H' s=>hE _ _ _ (q H' s)⟩
 ·exact .inr (.inl ⟨n,a,f,sp,ek,jz,A,fun H1 nl s h1 h2=>A.mono (q H1 nl s h1 h2) hQ hE⟩)
 ·exact .inr (.inr (.inl ⟨h1,h2,h3,fun H' s=>hE _ _ _ (q H' s)⟩))
 ·exact .inr (.inr (.inr ⟨h1,h2,nL,k',mQ,S,p,c,tt,pp,k,sl,pl,es,ds,us,mv,l0,D,fun S' p' c' kO H' D' kp hS=>hQ _ _ (q S' p' c' kO H' D' kp hS)⟩))
variable [AN:my P w K t]
def zQ (t:Adr) (K:af):Sp:=fun vs H Q _=>∃ (dp iH p:Addr) (z:Str),vs = [.ref dp,.str z]∧H dp=some (.ins t.Desk iH [("listener",.ref p)]) ∧
 zcg t K [.ref dp,.str z] H (fun _ H'=>∀ jg,zJ H' jg→Q (.str "") jg) (fun u xd H'=>∃ C x,u = .ref C∧xd=none∧Wx t C x∧∀ jg,zJ H' jg→Q (.str x) jg)
theorem zny {p:Addr}:([("listener",V.ref p)]:List (Str×V)).lookup ("say" : Str)=none:=by
 rw [zan #[N]];rfl
theorem zcq:FnScope ["desk","row","name","e"] ["desk","row"] (zj zcb):=#[S]
theorem ziF {fd:FuncData} (T:Txt K mg t) (F:Fun K "_law_said" "_law_said" zcb t.l_said fd):FnOk P w K mg base CX0 7 t.l_said fd ["desk","row"] (zQ t K):=by
 obtain⟨qq,nj,nk⟩:=T.f_d_say;have nr:=zj1 (P:=P) (w:=w) (base:=base) T nj;obtain⟨kf,iN,jd⟩:=T.f_l_word;have je:=zdk (P:=P) (w:=w) (base:=base) T iN;refine F.ok zcq (fun vs H Q E h=>?_) (fun iy A outer s H vs Q E hr h=>?_)
 ·obtain⟨dp,iH,p,z,rfl,_⟩:=h;rfl
 ·obtain⟨dp,iH,p,z,rfl,hd,q⟩:=h;refine⟨_,#[ze,#[zC,2,zcq.nd,#[A],#[zq]],#[ze,#[zg4,3,T.x_SlipError,T.sb,zcq.nd,(fun xe ip σ E hp=>#[zau,#[zaY,#[zbQ,(@L2.pv _ 0 _ _ (by rfl) (by first | exact ae rfl | exact aa #[A] | exact aa (aa rfl)) #[D] #[D]),T.clD,T.me_say,nr,(hr.mono #[D]),nk,hp,#[ya,(@L2.pv _ 1 _ _ (by rfl) (by first | exact ae rfl | exact aa #[A] | exact aa (aa rfl)) #[D] #[D])]]]]),(fun e=>zk #[zC,2,zcq.nd,#[A],#[zdV,je,(RoomH.of (hr.mono #[D])),T.m_l_word,iN.kp,jd,#[ya,(@L2.pv _ 3 _ _ (by rfl) (by first | exact ae rfl | exact aa #[A] | exact aa (aa rfl)) #[D] #[D])]]])],#[zk,#[zF,(@L2.pv _ 2 _ _ (by rfl) (by first | exact ae rfl | exact aa #[A] | exact aa (aa rfl)) #[D] #[D])]]]],?_⟩;refine (iq rfl (ex3 dp iH _ ⟨rfl,hd,zny,(iq rfl ?_)⟩));dsimp only [zhZ];show zcg t K ([V.ref dp,V.str z]:List V) H _ _;refine zj2 q (fun v H' z=>?_) (fun u xd H' z=>?_)
  ·exact (iq rfl (z H' fun _ _ e=>e))
  ·obtain⟨C,x,rfl,rfl,hx,q⟩:=z;obtain⟨b0,b1,b2,b3,b4,b5,b6,b7,b8,b9,j,kw,kc,kj,km,md,kx⟩:=zhQ T hx;refine (iq rfl ⟨kw.sl,fun e he=>?_⟩);refine (iq rfl (zh5 e _ b0 b1 b2 b3 b4 b5 b6 b7 b8 b9 j _ ⟨rfl,zb,kw,kc,kj,km,md,kx,fun H' s'=>?_⟩));exact (iq rfl (q H' ((zf he).trans s')))
end
section
variable {P:Program} {w:World} {K:af} {mg:Str→Option Value} {base:Heap} {t:Adr}
theorem zl2 {zs:List Str} {i:Nat} {x:V} (h:(zs.map V.str)[i]? = some x):∃ z,x = .str z∧zs[i]? = some z:=by
 rw [aw] at h;cases e:zs[i]? with
 | none=>rw [e] at h; cases h
 | some z=>rw [e] at h; cases h; exact⟨z,rfl,rfl⟩
theorem zj3 {H:Hp} {d:Nat} {x:V} (hx:zdN x=true):EqD K H d x x true:=by
 have h:=EqD.flat (K:=K) (H:=H) (d:=d) (x:=x) (y:=x) hx hx;have e:eqV x x=true:=by
  cases x <;> simp_all [eqV,zdN]
 rw [e] at h;exact h
theorem ze3 {neg:Bool} {H:Hp} {Q:VK} {a b:Addr} {xs:List V} (hf:∀ x∈xs,zdN x=true) (ha:iw K H a xs) (hb:iw K H b xs) (q:Q (.bl (!neg)) H):zjt K neg (.ref a) (.ref b) H Q:=by
 refine⟨a,b,_,_,rfl,rfl,.inl ⟨ha,hb⟩,.inr ⟨rfl,fun _=>true,fun j x y h1 h2=>?_,?_⟩⟩
 ·rw [h1] at h2;cases h2;exact zj3 (hf x (aE h1))
 ·have:(aV xs.length).all (fun _=>true)=true:=by simp
  rw [this];cases neg <;> exact q
theorem zbI {neg:Bool} {H:Hp} {Q:VK} {a b:Addr} {xs:List Str} (ha:iw K H a (xs.map V.str)) (hb:iw K H b (xs.map V.str)) (q:Q (.bl (!neg)) H):zjt K neg (.ref a) (.ref b) H Q :=
 ze3 (fun x hx=>by obtain⟨z,_,rfl⟩:=dB.mp hx; rfl) ha hb q
theorem zl3 {neg:Bool} {H:Hp} {Q:VK} {a b:Addr} {ms:Rw} (ha:iw K H a (ms.map iA)) (hb:iw K H b (ms.map iA)) (q:Q (.bl (!neg)) H):zjt K neg (.ref a) (.ref b) H Q :=
 ze3 (fun x hx=>by obtain⟨z,_,rfl⟩:=dB.mp hx; cases z <;> rfl) ha hb q
theorem zfK {a:Addr} {zs ys:List Str} {te:TE} {σ0:L2.St} {Q:VK} {H:Hp} (hl:ys.length=zs.length) (hn:zs.length≤100) (J:Nat→Hp→Prop) (h0:J 0 H) (ha:∀ i H',J i H'→iw K H' a (zs.map V.str))
  (hs:∀ i z y H' (R:VK),zs[i]? = some z→ys[i]? = some y→J i H'→(∀ jg,J (i+1) jg→R (.str y) jg)→te (σ0.set 0 (some (.str z))) H' R)
  (hd:∀ D H',J zs.length H'→H' D=none→Q (.ref D) (upd H' D (.lst (ys.map V.str)))):cGo (zaW 0) zh3 te σ0 (Itl K a) Q H:=by
 refine zcl (n:=zs.length) (fun i ws H'=>ws=(ys.map V.str).take i∧J i H') ⟨#[M],h0⟩ ?_ ?_ ?_ ?_
 ·rintro i ws H3 hi ⟨_,j⟩;exact⟨_,.str zs[i],ha i H3 j,by simp [hi]⟩
 ·rintro ws H3 ⟨_,j⟩;exact⟨_,ha _ _ j,by rw [ah]; exact ak _⟩
 ·rintro i x ws H3 H4 hi ⟨rfl,j⟩ ⟨rfl,hx⟩;obtain⟨z,rfl,hz⟩:=zl2 (hx _ (ha i _ j));have hy:ys[i]? = some ys[i]:=by simp
  unfold zh3 zaW;dsimp only;rw [if_pos rfl];refine hs i z ys[i] _ _ hz hy j fun jg j'=>⟨zaX ?_,?_,j'⟩
  ·have:=cN i (ys.map V.str);lia
  ·rw [take_snoc (x:=V.str ys[i]) #[M]]
 ·rintro ws H3 D ⟨rfl,j⟩ hD;rw [bI (by rw [ah]; lia)];exact hd D H3 j hD
theorem zl4 {n:Nat} {y:Str} {te:TE} {σ0:L2.St} {Q:VK} {H:Hp} (hn:n≤100)
  (hs:∀ (i:Nat) H' (R:VK),i < n→zJ H H'→(∀ jg,zJ H jg→R (.str y) jg)→te (σ0.set 0 (some (.int (0+(i:Int))))) H' R)
  (hd:∀ D H',zJ H H'→H' D=none→Q (.ref D) (upd H' D (.lst ((aq n y).map V.str)))):cGo (zaW 0) zh3 te σ0 (Itr 0 n) Q H:=by
 refine zcl (n:=n) (fun i ws H'=>ws=(aq i y).map V.str∧zJ H H') ⟨rfl,fun _ _ e=>e⟩ ?_ ?_ ?_ ?_
 ·rintro i ws H3 hi ⟨_,j⟩;exact hi
 ·rintro ws H3 ⟨_,j⟩;exact ak _
 ·rintro i x ws H3 H4 hi ⟨rfl,j⟩ ⟨rfl,rfl⟩;unfold zh3 zaW;dsimp only;rw [if_pos rfl];refine hs i _ _ hi j fun jg j'=>⟨zaX ?_,?_,j'⟩
  ·rw [ah,bv];lia
  ·rw [List.replicate_succ',bR];rfl
 ·rintro ws H3 D ⟨rfl,j⟩ hD;exact hd D H3 j hD
theorem ziG {pp:Int} {m:Nat} (h:1 < pp):stp pp (aq (m+1) none) [] [] (.hear 0 1) = .inr (some 1 :: aq m none,[(0,none,some 1)],[]):=by
 have e1:inB (aq (m+1) none) 0=true:=by
  unfold inB;rw [bv,decide_eq_true #[O],decide_eq_true #[O]];rfl
 have e2:zdz pp 1=true:=by
  unfold zdz;rw [decide_eq_true #[O],decide_eq_true h];rfl
 unfold stp;dsimp only;rw [if_neg (by rw [e1]; decide),if_neg (by rw [e2]; decide)];rfl
theorem zl5 {es:Rw} {n:Int} (h:n < 0∨(es.length:Int)≤n):inB es n=false:=by
 unfold inB;rcases h with h | h
 ·rw [decide_eq_false #[O]];rfl
 ·rw [decide_eq_false (p:=n < (es.length:Int)) #[O],dJ]
theorem zfL {es:Rw} {n:Int} (h0:0≤n) (h:n < (es.length:Int)):inB es n=true:=by
 unfold inB;rw [decide_eq_true h0,decide_eq_true h];rfl
theorem zj4 {pp x:Int} (h:x < 0∨pp≤x):zdz pp x=false:=by
 unfold zdz;rcases h with h | h
 ·rw [decide_eq_false #[O]];rfl
 ·rw [decide_eq_false (p:=x < pp) #[O],dJ]
theorem zl6 {pp x:Int} (h0:0≤x) (h:x < pp):zdz pp x=true:=by
 unfold zdz;rw [decide_eq_true h0,decide_eq_true h];rfl
theorem zcr {pp n x:Int} {es:Rw} {ds us:List Dt} (h:inB es n=false):stp pp es ds us (.hear n x) = .inl .place:=by
 unfold stp;dsimp only;rw [if_pos h]
theorem zed {pp n:Int} {es:Rw} {ds us:List Dt} (h:inB es n=false):stp pp es ds us (.forget n) = .inl .place:=by
 unfold stp;dsimp only;rw [if_pos h]
theorem zbU {pp n x:Int} {es:Rw} {ds us:List Dt} (h:inB es n=true) (h2:zdz pp x=false):stp pp es ds us (.hear n x) = .inl .number:=by
 unfold stp;dsimp only;rw [if_neg (by rw [h]; decide),if_pos h2]
theorem ze4 {pp n x y:Int} {es:Rw} {ds us:List Dt} (h:inB es n=true) (h2:zdz pp x=true) (h3:es[n.toNat]? = some (some y)):stp pp es ds us (.hear n x) = .inl .heard:=by
 unfold stp;dsimp only;rw [if_neg (by rw [h]; decide),if_neg (by rw [h2]; decide),h3];rfl
theorem zhR {pp n:Int} {es:Rw} {ds us:List Dt} (h:inB es n=true) (h3:es[n.toNat]? = some none):stp pp es ds us (.forget n) = .inl .notHeard:=by
 unfold stp;dsimp only;rw [if_neg (by rw [h]; decide),h3];rfl
def zj5:List (List Key):=[[.inr "slips",.inl 1],[.inr "hear",.inl 2],[.inr "forget",.inl 1],[.inr "back",.inl 0],[.inr "again",.inl 0],[.inr "row",.inl 0],[.inr "can",.inl 0],[.inr "sure",.inl 1],[.inr "near",.inl 1],[.inr "half",.inl 0],[.inr "reach",.inl 1]]
theorem zhk {xs:List (List Key×Addr×Value)} {ks:List Key}:(atKey xs ks).isSome=(xs.map (·.1)).any (fun q=>decide (q=ks)):=by
 unfold atKey;induction xs with
 | nil=>rfl
 | cons x xs ih =>
  rw [g7,bp,List.any_cons];cases e:decide (x.1=ks) with
  | true=>rfl
  | false=>rw [ia,← ih]
theorem zj6 {xs:List (List Key×Addr×Value)} {ks:List Key}:∀ {j:Nat} {p:Addr×Value},(xs.map (·.1)).findIdx? (fun q=>decide (q=ks))=some j→(xs.map (·.2))[j]? = some p→atKey xs ks=some p:=by
 unfold atKey;induction xs with
 | nil=>intro j p h; cases h
 | cons x xs ih =>
  intro j p h hp;rw [bp,List.findIdx?_cons] at h;rw [g7];cases e:decide (x.1=ks) with
  | true =>
   rw [e,if_pos rfl] at h;cases h;exact hp
  | false =>
   rw [e,if_neg #[D]] at h;cases e2:(xs.map (·.1)).findIdx? (fun q=>decide (q=ks)) with
   | none=>rw [e2] at h; cases h
   | some j' =>
    rw [e2] at h;cases h;exact ih e2 hp
theorem zl7 {ks:List Key} {j:Nat} {p:Addr×Value} (h:zj5.findIdx? (fun q=>decide (q=ks))=some j) (hp:((zey t).map (·.2))[j]? = some p):atKey (zey t) ks=some p:=zj6 (xs:=zey t) h hp
def zhl (z:Str):Bool:=decide (z.length≤800) && (decide ((zay z " ").2.2.length≤800) && (!(decide ((zay z " ").1 = "code") && decide ((zay z " ").2.1 = " ")) && (!(zj5.any fun q=>decide (q=zec (zay z " ").1 (zay z " ").2.1 (zay z " ").2.2)) || !((wordsOf (zay z " ").2.1 (zay z " ").2.2).all (zah 4)))))
theorem zl8 {dp iH p:Addr} {z:Str} {H:Hp} {Q:VK} {E:XK} (hd:H dp=some (.ins t.Desk iH [("listener",.ref p)])) (h:zhl z=true) (q:∀ H',zJ H H'→Q (.str "row") H'):zQ t K [.ref dp,.str z] H Q E:=by
 unfold zhl at h;rcases hp:zay z " " with ⟨w',b',r'⟩
 rw [hp] at h;dsimp only at h;rw [aF,aF,aF] at h;obtain⟨h1,h2,h3,h4⟩:=h;refine⟨dp,iH,p,z,rfl,hd,dp,z,_,_,_,rfl,of_decide_eq_true h1,hp,of_decide_eq_true h2,.inl ⟨fun hc=>?_,?_,fun H' s=>⟨t.NoRow,"row",rfl,rfl,.inr (.inr (.inr (.inr (.inr (.inr (.inr (.inr (.inr ⟨rfl,rfl⟩)))))))),fun jg s'=>q jg (s.trans s')⟩⟩⟩
 ·rw [hc.1,hc.2] at h3;cases h3
 ·rcases Bool.or_eq_true_iff.mp h4 with g | g
  ·refine .inl ?_;rw [zhk];exact (c9 _).mp g
  ·exact .inr ((c9 _).mp g)
def zbJ (z:Str) (j:Nat) (ns:List Int):Bool:=decide (z.length≤800) && (decide ((zay z " ").2.2.length≤800) && (!(decide ((zay z " ").1 = "code") && decide ((zay z " ").2.1 = " ")) && (decide (zj5.findIdx? (fun q=>decide (q=zec (zay z " ").1 (zay z " ").2.1 (zay z " ").2.2))=some j) && ((wordsOf (zay z " ").2.1 (zay z " ").2.2).all (zah 4) && decide ((wordsOf (zay z " ").2.1 (zay z " ").2.2).map z9=ns)))))
theorem zaH {dp iH p:Addr} {z:Str} {j:Nat} {ns:List Int} {H:Hp} {Q:VK} {E:XK} {a f:Addr} {sp:Sp} (hd:H dp=some (.ins t.Desk iH [("listener",.ref p)])) (h:zbJ z j ns=true) (hp:((zey t).map (·.2))[j]? = some (a,.ref f)) (A:Ans t K f sp)
  (q:∀ H1 nl,zJ H H1→H1 nl=some (.lst (ns.map V.int))→sp [.ref dp,.ref nl] H1 (fun _ H'=>∀ jg,zJ H' jg→Q (.str "") jg) (fun u xd H'=>∃ C x,u = .ref C∧xd=none∧Wx t C x∧∀ jg,zJ H' jg→Q (.str x) jg)):zQ t K [.ref dp,.str z] H Q E:=by
 unfold zbJ at h;rcases om:zay z " " with ⟨w',b',r'⟩
 rw [om] at h;dsimp only at h;rw [aF,aF,aF,aF,aF] at h;obtain⟨h1,h2,h3,h4,h5,h6⟩:=h;refine⟨dp,iH,p,z,rfl,hd,dp,z,_,_,_,rfl,of_decide_eq_true h1,om,of_decide_eq_true h2,.inr (.inl ⟨fun hc=>?_,a,f,sp,zl7 (of_decide_eq_true h4) hp,h5,A,fun H1 nl s _ hl=>q H1 nl s ?_⟩)⟩
 ·rw [hc.1,hc.2] at h3;cases h3
 ·rw [← of_decide_eq_true h6];exact hl
theorem zc2 {H:Hp} {S:List Addr} {dp p c tt:Addr} {pp k sl:Int} {pl:List Int} {es:Rw} {ds us:List Dt} {D:Dd} {Q:VK} {Q':VK} {wd:Wd} (h:stp pp es ds us D = .inl wd) (q:∀ H',zJ H H'→Q (.str wd.txt) H') :
  DDeed K t H S dp p c tt pp k sl pl es ds us D Q' (fun u xd H'=>∃ C x,u = .ref C∧xd=none∧Wx t C x∧∀ jg,zJ H' jg→Q (.str x) jg):=by
 unfold DDeed;rw [h];exact⟨_,_,rfl,rfl,zmO wd,fun jg s'=>q jg s'⟩
def ze5:List Str:=["hear 9 9 9","hear 99999 1","hear -1 1","hear 01 1","forget","sure","near x","reach","slips -1"]
theorem zj7:ze5.all zhl=true:=by decide +kernel
def ze6:List Str:=["reach 3","hear 9 9","hear 0 9","forget 9","forget 0","sure 7","near 1","back","again","slips 9","code 7"]
def zee:List Str:=["few","place","number","place","not heard","place","few","nothing","nothing","number","text"]
def zgw:List Str:=["code 7 1 : 0 1","reach 3","hear 1 1","reach 3","hear 1 1","hear 1 8","hear 2 8"]
def zfM:List Str:=["","few","","curve","heard","number","place"]
theorem zgx:zbJ "reach 3" 10 [3]=true:=by decide +kernel
theorem zj8:zbJ "hear 9 9" 1 [9,9]=true:=by decide +kernel
theorem zj9:zbJ "hear 0 9" 1 [0,9]=true:=by decide +kernel
theorem ziH:zbJ "forget 9" 2 [9]=true:=by decide +kernel
theorem ziI:zbJ "forget 0" 2 [0]=true:=by decide +kernel
theorem zl9:zbJ "sure 7" 7 [7]=true:=by decide +kernel
theorem zma:zbJ "near 1" 8 [1]=true:=by decide +kernel
theorem znz:zbJ "back" 3 []=true:=by decide +kernel
theorem zmb:zbJ "again" 4 []=true:=by decide +kernel
theorem zka:zbJ "slips 9" 0 [9]=true:=by decide +kernel
theorem zgy:zbJ "hear 1 1" 1 [1,1]=true:=by decide +kernel
theorem zkb:zbJ "hear 1 8" 1 [1,8]=true:=by decide +kernel
theorem zkc:zbJ "hear 2 8" 1 [2,8]=true:=by decide +kernel
theorem zmc:zay "code 7" " " = (("code" : Str),(" " : Str),("7" : Str)):=by decide +kernel
theorem zmd:zdY "7" = none:=by decide +kernel
theorem zkd:zay "code 7 1 : 0 1" " " = (("code" : Str),(" " : Str),("7 1 : 0 1" : Str)):=by decide +kernel
theorem zke:zdY "7 1 : 0 1" = some (7,1,[0,1]):=by decide +kernel
section
variable {H:Hp} {S:List Addr} {dp p c tt:Addr} {pp k sl:Int} {pl:List Int} {es:Rw} {ds us:List Dt} {Q:VK} {E:XK}
theorem zbK {z:Str} {n x:Int} {wd:Wd} (D:Dk K t H S dp p c tt pp k sl pl es ds us) (h1:ds.length≤1000) (h2:us.length≤1000) (h:zbJ z 1 [n,x]=true) (e:stp pp es ds us (.hear n x) = .inl wd) (q:∀ H',zJ H H'→Q (.str wd.txt) H'):zQ t K [.ref dp,.str z] H Q E:=by
 obtain⟨iH,hd⟩:=D.at';exact zaH hd h rfl .hear fun H1 nl s hl=>⟨S,dp,p,c,tt,nl,pp,k,sl,n,x,pl,es,ds,us,rfl,D.same s,iw.of hl,h1,h2,zc2 e fun H' s'=>q H' (s.trans s')⟩
theorem zdx {z:Str} {n:Int} {wd:Wd} (D:Dk K t H S dp p c tt pp k sl pl es ds us) (h1:ds.length≤1000) (h2:us.length≤1000) (h:zbJ z 2 [n]=true) (e:stp pp es ds us (.forget n) = .inl wd) (q:∀ H',zJ H H'→Q (.str wd.txt) H'):zQ t K [.ref dp,.str z] H Q E:=by
 obtain⟨iH,hd⟩:=D.at';exact zaH hd h rfl .forget fun H1 nl s hl=>⟨S,dp,p,c,tt,nl,pp,k,sl,n,pl,es,ds,us,rfl,D.same s,iw.of hl,h1,h2,zc2 e fun H' s'=>q H' (s.trans s')⟩
theorem ziJ (D:Dk K t H S dp p c tt pp k sl pl es [] us) (h2:us.length≤1000) (q:∀ H',zJ H H'→Q (.str "nothing") H'):zQ t K [.ref dp,.str "back"] H Q E:=by
 obtain⟨iH,hd⟩:=D.at';exact zaH hd znz rfl .back fun H1 nl s hl=>⟨S,dp,p,c,tt,nl,pp,k,sl,pl,es,[],us,rfl,D.same s,#[D],h2,fun d hd=>(by cases hd),zc2 (wd:=.nothing) rfl fun H' s'=>q H' (s.trans s')⟩
theorem zhm (D:Dk K t H S dp p c tt pp k sl pl es ds []) (h1:ds.length≤1000) (q:∀ H',zJ H H'→Q (.str "nothing") H'):zQ t K [.ref dp,.str "again"] H Q E:=by
 obtain⟨iH,hd⟩:=D.at';exact zaH hd zmb rfl .again fun H1 nl s hl=>⟨S,dp,p,c,tt,nl,pp,k,sl,pl,es,ds,[],rfl,D.same s,h1,#[D],fun d hd=>(by cases hd),zc2 (wd:=.nothing) rfl fun H' s'=>q H' (s.trans s')⟩
theorem zhn (hd:∃ iH,H dp=some (.ins t.Desk iH [("listener",.ref p)])) (q:∀ H',zJ H H'→Q (.str "number") H'):zQ t K [.ref dp,.str "slips 9"] H Q E:=by
 obtain⟨iH,hd⟩:=hd;exact zaH hd zka rfl .slips fun H1 nl s hl=>⟨dp,nl,9,rfl,iw.of hl,#[D],t.NoNumber,_,rfl,rfl,.inr (.inr (.inr (.inr (.inl ⟨rfl,rfl⟩)))),fun H' s'=>q H' (s.trans s')⟩
theorem ziK {z:Str} {n:Int} (D:Dk K t H S dp p c tt pp k sl pl es ds us) (h:zbJ z 7 [n]=true) (e:inB es n=false) (q:∀ H',zJ H H'→Q (.str "place") H'):zQ t K [.ref dp,.str z] H Q E:=by
 obtain⟨iH,hd⟩:=D.at';exact zaH hd h rfl .sure fun H1 nl s hl=>⟨S,dp,p,c,tt,nl,pp,k,sl,n,pl,es,ds,us,rfl,D.same s,iw.of hl,e,t.NoPlace,_,rfl,rfl,.inr (.inr (.inr (.inl ⟨rfl,rfl⟩))),fun H' s'=>q H' (s.trans s')⟩
theorem ziL {z:Str} {n:Int} (D:Dk K t H S dp p c tt pp k sl pl es ds us) (h:zbJ z 8 [n]=true) (e:n < k) (q:∀ H',zJ H H'→Q (.str "few") H'):zQ t K [.ref dp,.str z] H Q E:=by
 obtain⟨iH,hd⟩:=D.at';exact zaH hd h rfl .near fun H1 nl s hl=>⟨S,dp,p,c,tt,nl,pp,k,sl,n,pl,es,ds,us,rfl,D.same s,hl,e,fun H2 s2=>⟨t.TooFew,_,rfl,rfl,.inl ⟨rfl,rfl⟩,fun H' s'=>q H' (s.trans (s2.trans s'))⟩⟩
theorem zgz (D:Dk K t H S dp p c tt pp k sl pl es ds us) (e:nh5 es=0) (q:∀ H',zJ H H'→Q (.str "few") H'):zQ t K [.ref dp,.str "reach 3"] H Q E:=by
 obtain⟨iH,hd⟩:=D.at';exact zaH hd zgx rfl .reach fun H1 nl s hl=>⟨S,dp,p,c,tt,nl,pp,k,sl,3,pl,es,ds,us,rfl,D.same s,.inl ⟨e,fun H2 s2=>⟨t.TooFew,_,rfl,rfl,.inl ⟨rfl,rfl⟩,fun H' s'=>q H' (s.trans (s2.trans s'))⟩⟩⟩
theorem zho (D:Dk K t H S dp p c tt pp k sl pl es ds us) (e:0 < nh5 es) (hk:k < 2) (q:∀ H',zJ H H'→Q (.str "curve") H'):zQ t K [.ref dp,.str "reach 3"] H Q E:=by
 obtain⟨iH,hd⟩:=D.at';exact zaH hd zgx rfl .reach fun H1 nl s hl=>⟨S,dp,p,c,tt,nl,pp,k,sl,3,pl,es,ds,us,rfl,D.same s,.inr ⟨e,hk,fun H2 s2=>⟨t.NoCurve,_,rfl,rfl,.inr (.inl ⟨rfl,rfl⟩),fun H' s'=>q H' (s.trans (s2.trans s'))⟩⟩⟩
theorem ziM (hd:∃ iH,H dp=some (.ins t.Desk iH [("listener",.ref p)])) (q:∀ H',zJ H H'→Q (.str "text") H'):zQ t K [.ref dp,.str "code 7"] H Q E:=by
 obtain⟨iH,hd⟩:=hd;exact⟨dp,iH,p,_,rfl,hd,dp,_,_,_,_,rfl,#[N],zmc,#[N],.inr (.inr (.inl ⟨rfl,rfl,zmd,fun H1 s=>⟨t.NoText,_,rfl,rfl,.inr (.inr (.inr (.inr (.inr (.inr (.inr (.inr (.inl ⟨rfl,rfl⟩)))))))),fun H' s'=>q H' (s.trans s')⟩⟩))⟩
theorem ziN (D:Dk K t H S dp p c tt pp k sl pl es ds us) (q:∀ (S':List Addr) (p' c' kO:Addr) (H':Hp),Dk K t H' S' dp p' c' kO 7 1 sl [0,1] [none,none] [] []→(∀ b o,H b=some o→b≠dp→H' b=some o)→(∀ b∈S',H b=none)→Q (.str "") H'):zQ t K [.ref dp,.str "code 7 1 : 0 1"] H Q E:=by
 obtain⟨iH,hd⟩:=D.at';refine⟨dp,iH,p,_,rfl,hd,dp,_,_,_,_,rfl,#[N],zkd,#[N],.inr (.inr (.inr ⟨rfl,rfl,7,1,[0,1],S,p,c,tt,pp,k,sl,pl,es,ds,us,zke,#[D],D,fun S' p' c' kO H' D' kp hS jg s=>?_⟩))⟩;exact q S' p' c' kO jg (D'.same s) (fun b o e n=>s _ _ (kp b o e n)) hS
theorem zhp {z:Str} {n x:Int} {j2:Rw} {lW lX:List Dt} (D:Dk K t H S dp p c tt pp k sl pl es ds us) (h1:ds.length≤1000) (h2:us.length≤1000) (h:zbJ z 1 [n,x]=true) (e:stp pp es ds us (.hear n x) = .inr (j2,lW,lX)) (l0:j2.length=es.length)
  (q:∀ (S':List Addr) H',Dk K t H' S' dp p c tt pp k sl pl j2 lW lX→(∀ b o,H b=some o→b∉S→H' b=some o∧b∉S')→Q (.str "") H'):zQ t K [.ref dp,.str z] H Q E:=by
 obtain⟨iH,hd⟩:=D.at';refine zaH hd h rfl .hear fun H1 nl s hl=>⟨S,dp,p,c,tt,nl,pp,k,sl,n,x,pl,es,ds,us,rfl,D.same s,iw.of hl,h1,h2,?_⟩
 unfold DDeed;rw [e];intro S' H' L s6 hS jg s7;have D':=((D.same s).goes L s6 l0).same s7;refine q S' jg D' fun b o eb hb=>?_
 obtain⟨e2,e3⟩:=zcJ (s6 _ _ (zcI (s _ _ eb) hb));exact⟨s7 _ _ e2,e3⟩
end
def J3 (t:Adr) (K:af) (d rl:Addr) (i:Nat) (H:Hp):Prop:=H rl=some (.lst (zgw.map V.str))∧∃ (S:List Addr) (p c tt:Addr),rl∉S∧(match i with
 | 0=>Dk K t H S d p c tt 7 2 1 [0,1,2,3,4,5,6] (aq 7 none) [] []
 | 1=>Dk K t H S d p c tt 7 1 1 [0,1] [none,none] [] []
 | 2=>Dk K t H S d p c tt 7 1 1 [0,1] [none,none] [] []
 | _+3=>Dk K t H S d p c tt 7 1 1 [0,1] [none,some 1] [(1,none,some 1)] [])
theorem Dk.ne {H:Hp} {S:List Addr} {dp p c tt rl:Addr} {xs:List V} {pp k sl:Int} {pl:List Int} {es:Rw} {ds us:List Dt} (D:Dk K t H S dp p c tt pp k sl pl es ds us) (h:H rl=some (.lst xs)):rl≠dp:=fun e=>by
 obtain⟨iH,hd⟩:=D.at';rw [e,hd] at h;cases h
theorem zov {H:Hp} {S:List Addr} {dp p c tt:Addr} {R:VK} {E:XK} (D:Dk K t H S dp p c tt 7 2 1 [0,1,2,3,4,5,6] (aq 7 none) [] []) {i:Nat} {z y:Str} (hz:ze6[i]? = some z) (hy:zee[i]? = some y) (r:∀ H',zJ H H'→R (.str y) H'):zQ t K [.ref dp,.str z] H R E:=by
 rcases i with _ | _ | _ | _ | _ | _ | _ | _ | _ | _ | _ | i
 ·cases hz; cases hy;exact zgz D #[D] r
 ·cases hz; cases hy;exact zbK D #[D] #[D] zj8 (zcr #[D]) r
 ·cases hz; cases hy;exact zbK D #[D] #[D] zj9 (zbU #[D] #[D]) r
 ·cases hz; cases hy;exact zdx D #[D] #[D] ziH (zed #[D]) r
 ·cases hz; cases hy;exact zdx D #[D] #[D] ziI (zhR #[D] rfl) r
 ·cases hz; cases hy;exact ziK D zl9 #[D] r
 ·cases hz; cases hy;exact ziL D zma #[D] r
 ·cases hz; cases hy;exact ziJ D #[D] r
 ·cases hz; cases hy;exact zhm D #[D] r
 ·cases hz; cases hy;exact zhn D.at' r
 ·cases hz; cases hy;exact ziM D.at' r
 ·cases hz
theorem zow {H:Hp} {dp rl:Addr} {R:VK} {E:XK} {i:Nat} (J:J3 t K dp rl i H) {z y:Str} (hz:zgw[i]? = some z) (hy:zfM[i]? = some y) (r:∀ H',J3 t K dp rl (i+1) H'→R (.str y) H'):zQ t K [.ref dp,.str z] H R E:=by
 obtain⟨lI,S,p,c,tt,hS,D⟩:=J;rcases i with _ | _ | _ | _ | _ | _ | _ | i
 ·cases hz; cases hy;refine ziN D fun S' p' c' kO H' D' kp p8=>r H' ⟨kp _ _ lI (D.ne lI),S',p',c',kO,fun hb=>?_,D'⟩
  rw [p8 _ hb] at lI;cases lI
 ·cases hz; cases hy;exact zgz D #[D] fun H' s=>r H' ⟨s _ _ lI,S,p,c,tt,hS,D.same s⟩
 ·cases hz; cases hy;exact zhp D #[D] #[D] zgy rfl rfl fun S' H' D' kp=>r H' ⟨(kp _ _ lI hS).1,S',p,c,tt,(kp _ _ lI hS).2,D'⟩
 ·cases hz; cases hy;exact zho D #[D] #[D] fun H' s=>r H' ⟨s _ _ lI,S,p,c,tt,hS,D.same s⟩
 ·cases hz; cases hy;exact zbK D #[D] #[D] zgy (ze4 #[D] #[D] rfl) fun H' s=>r H' ⟨s _ _ lI,S,p,c,tt,hS,D.same s⟩
 ·cases hz; cases hy;exact zbK D #[D] #[D] zkb (zbU #[D] #[D]) fun H' s=>r H' ⟨s _ _ lI,S,p,c,tt,hS,D.same s⟩
 ·cases hz; cases hy;exact zbK D #[D] #[D] zkc (zcr #[D]) fun H' s=>r H' ⟨s _ _ lI,S,p,c,tt,hS,D.same s⟩
 ·cases hz
end
section
variable {P:Program} {w:World} {K:af} {mg:Str→Option Value} {base:Heap} {t:Adr}
variable [AN:my P w K t]
theorem zax:FnScope ["script","code","p","k","places","plan","listener","bad","odd","number","names","entry","row","desk","rows","due"] ["script"] (zj zdt):=#[S]
theorem znA {fd:FuncData} (T:Txt K mg t) (F:Fun K "law" "law" zdt t.law fd):FnOk P w K mg base CX0 8 t.law fd ["script"] (zfl K):=by
 obtain⟨o1,kM,mE⟩:=T.f_l_code;have mF:=zis (P:=P) (w:=w) (base:=base) T kM;obtain⟨kY,iU,jq⟩:=T.f_l_draws;have jr:=zd4 (P:=P) (w:=w) (base:=base) T iU;obtain⟨ly,jV,jW⟩:=T.f_init;have jX:=zfy (P:=P) (w:=w) (base:=base) T jV;obtain⟨lx,jM,jN⟩:=T.f_hear;have jO:=zfx (P:=P) (w:=w) (base:=base) T jM;obtain⟨o2,iT,iV⟩:=T.f_l_done;have iW:=ziE (P:=P) (w:=w) (base:=base) T iT;obtain⟨mx,kG,kH⟩:=T.f_row;have kJ:=zhb (P:=P) (w:=w) (base:=base) T kG;obtain⟨nM,jj,jY⟩:=T.f_l_papers;have jZ:=zgv (P:=P) (w:=w) (base:=base) T jj;obtain⟨o3,mG,mH⟩:=T.f_d_init;have mI:=ziB (P:=P) (w:=w) (base:=base) T mG;obtain⟨o6,jn,j0⟩:=T.f_l_said;have j1:=ziF (P:=P) (w:=w) (base:=base) T jn;refine F.ok zax (fun vs H Q E h=>?_) (fun iy A outer s H vs Q E hr h=>?_)
 ·obtain⟨a,ns,rfl,_⟩:=h;rfl
 ·obtain⟨a,ns,rfl,hS,iJ,q⟩:=h;have hu:(A.deeper (envOfC (bX "law") (zj zdt) s.heap.objs.size t.law iy)).units+20 < cLine:=by have:=hr.units; lia
  refine zb0 ?_; intro zX;refine⟨_,#[ze,#[zC,1,zax.nd,#[A],#[zH,mF,(hr.mono #[D]),T.m_l_code,kM.kp,mE,#[z7],#[za,(@L2.pv _ 0 _ _ (by rfl) (by first | exact ae rfl | exact aa #[A] | exact aa (aa rfl)) #[D] #[D]),by exact #[za,#[zh],#[za,#[zh],#[ya,#[zh]]]]]]],#[ze,#[za7,(@L2.pv _ 1 _ _ (by rfl) (by first | exact ae rfl | exact aa #[A] | exact aa (aa rfl)) #[D] #[D]),#[zbM,#[zG,#[zr,2,zax.nd,#[A]],#[zG,#[zr,3,zax.nd,#[A]],#[zG,#[zr,4,zax.nd,#[A]],#[za0]]]]]],#[ze,#[zC,5,zax.nd,(aa rfl),#[zH,jr,(hr.mono #[D]),T.m_l_draws,iU.kp,jq,#[z7],#[za,(@L2.pv _ 0 _ _ (by rfl) (by first | exact ae rfl | exact aa #[A] | exact aa (aa rfl)) #[D] #[D]),by exact #[za,#[zh],#[za,#[zh],#[ya,#[zh]]]]]]],#[ze,#[zC,6,zax.nd,(aa rfl),#[zfb,T.mkr,jX,(hr.mono #[D]),T.x_Listener,jW,#[z7],#[za,(@L2.pv _ 1 _ _ (by rfl) (by first | exact ae rfl | exact aa #[A] | exact aa (aa rfl)) #[D] #[D]),#[ya,#[zt,#[zas],#[zZ,#[zM],(@L2.pv _ 5 _ _ (by rfl) (by first | exact ae rfl | exact aa #[A] | exact aa (aa rfl)) #[D] #[D]),#[zh]],#[zh]]]]]],#[ze,#[zam,#[zbe,(@L2.pv _ 6 _ _ (by rfl) (by first | exact ae rfl | exact aa #[A] | exact aa (aa rfl)) #[D] #[D]),T.cl,T.me_hear,jO,(hr.mono #[D]),jN,(@znp _ _ _),#[za,#[zh],#[ya,#[zh]]]]],#[ze,#[zC,7,zax.nd,#[A],#[zaa,#[za,#[zt,#[zb2],#[zmH,zi9,#[zh]],#[zZ,#[zM],(@L2.pv _ 5 _ _ (by rfl) (by first | exact ae rfl | exact aa #[A] | exact aa (aa rfl)) #[D] #[D]),#[zh]]],by exact #[za,#[zm,#[zv],T.len_,bf,#[ya,(@L2.pv _ 4 _ _ (by rfl) (by first | exact ae rfl | exact aa #[A] | exact aa (aa rfl)) #[D] #[D])]],#[za,#[zt,#[zaK],#[zm,#[zv],T.len_,bf,#[ya,(@L2.pv _ 4 _ _ (by rfl) (by first | exact ae rfl | exact aa #[A] | exact aa (aa rfl)) #[D] #[D])]],#[zZ,#[zM],(@L2.pv _ 5 _ _ (by rfl) (by first | exact ae rfl | exact aa #[A] | exact aa (aa rfl)) #[D] #[D]),#[zh]]],#[ya,#[zt,#[zgO],#[zh],#[zh]]]]]]]],#[ze,#[zC,8,zax.nd,(aa rfl),#[zaa,#[za,#[zt,#[zb2],#[zmH,zi9,#[zh]],#[zZ,#[zM],(@L2.pv _ 5 _ _ (by rfl) (by first | exact ae rfl | exact aa #[A] | exact aa (aa rfl)) #[D] #[D]),#[zh]]],by exact #[za,(@L2.pv _ 2 _ _ (by rfl) (by first | exact ae rfl | exact aa #[A] | exact aa (aa rfl)) #[D] #[D]),#[za,#[zt,#[zaK],(@L2.pv _ 2 _ _ (by rfl) (by first | exact ae rfl | exact aa #[A] | exact aa (aa rfl)) #[D] #[D]),#[zZ,#[zM],(@L2.pv _ 5 _ _ (by rfl) (by first | exact ae rfl | exact aa #[A] | exact aa (aa rfl)) #[D] #[D]),#[zh]]],#[ya,#[zt,#[zgO],#[zh],#[zh]]]]]]]],#[ze,#[zgN,eW,#[zbd,(@L2.pv _ 7 _ _ (by rfl) (by first | exact ae rfl | exact aa #[A] | exact aa (aa rfl)) #[D] #[D])],#[zr,9,zax.nd,(aa rfl)],#[ze,(@zgY _ _ _ _ _ _ _ _ _ _ _ _ _ (10) _ _ _ zax.nd rfl #[A] (CompSc.of (N':=["way","listener","number","odd","plan"]) (ix:=[none,some 6,some 9,some 8,some 5]) (zj zdt) ["script","code","p","k","places","plan","listener","bad","odd","number","names","entry","row","desk","rows","due"] rfl rfl #[N]) rfl #[zaP] #[zc6,T.range_,#[ya,#[zh]]] (fun _ _ _ _=>#[zr,0,(show (["way","listener","number","odd","plan"]:List Str).Nodup from #[N]),#[A]]) (fun _ _ _ _=>#[zaB]) (fun _ _ _ _=>#[zH,iW,(hr.mono #[D]),T.m_l_done,iT.kp,iV,#[z7],#[za,(@L2.pv _ 1 _ _ (by rfl) (by first | exact ae rfl | exact aa #[A] | exact aa (aa rfl)) #[D] #[D]),by exact #[za,(@L2.pv _ 0 _ _ (by rfl) (by first | exact ae rfl | exact aa #[A] | exact aa (aa rfl)) #[D] #[D]),#[za,(@L2.pv _ 2 _ _ (by rfl) (by first | exact ae rfl | exact aa #[A] | exact aa (aa rfl)) #[D] #[D]),#[ya,#[zZ,#[zdQ,(K)],(@L2.pv _ 3 _ _ (by rfl) (by first | exact ae rfl | exact aa #[A] | exact aa (aa rfl)) #[D] #[D]),#[zt,#[zas],#[zZ,#[zdQ,(K)],(@L2.pv _ 4 _ _ (by rfl) (by first | exact ae rfl | exact aa #[A] | exact aa (aa rfl)) #[D] #[D]),#[zh]],#[zh]]]]]]]]) (by rfl) (by intro _; rfl) (by trivial)),#[zk,#[zY,(@PW.pt _ _ _ #[zbt,#[zB,#[zdc,hu],(@L2.pv _ 10 _ _ (by rfl) (by first | exact ae rfl | exact aa #[A] | exact aa (aa rfl)) #[D] #[D]),#[zt,#[zdO],#[zaa,#[ya,#[zq]]],#[zh]],(zI _)],#[za6,#[zB,#[zcx],#[zH,iW,(hr.mono #[D]),T.m_l_done,iT.kp,iV,#[z7],#[za,(@L2.pv _ 6 _ _ (by rfl) (by first | exact ae rfl | exact aa #[A] | exact aa (aa rfl)) #[D] #[D]),by exact #[za,#[zh],#[za,(@L2.pv _ 9 _ _ (by rfl) (by first | exact ae rfl | exact aa #[A] | exact aa (aa rfl)) #[D] #[D]),#[ya,#[zh]]]]]],#[zq],(zI _)]]]),#[zk,#[zF,#[za1]]],#[zy]]]]],#[ze,#[zgN,eW,#[zbd,(@L2.pv _ 8 _ _ (by rfl) (by first | exact ae rfl | exact aa #[A] | exact aa (aa rfl)) #[D] #[D])],#[zr,11,zax.nd,#[A]],#[zk,#[zY,(@PW.pt _ _ _ #[zbt,#[zB,#[zcx],#[zH,iW,(hr.mono #[D]),T.m_l_done,iT.kp,iV,#[z7],#[za,(@L2.pv _ 6 _ _ (by rfl) (by first | exact ae rfl | exact aa #[A] | exact aa (aa rfl)) #[D] #[D]),by exact #[za,#[zh],#[za,#[zh],#[ya,(@L2.pv _ 11 _ _ (by rfl) (by first | exact ae rfl | exact aa #[A] | exact aa (aa rfl)) #[D] #[D])]]]]],#[zq],(zI _)],#[za6,#[zB,#[zcx],#[zH,iW,(hr.mono #[D]),T.m_l_done,iT.kp,iV,#[z7],#[za,(@L2.pv _ 6 _ _ (by rfl) (by first | exact ae rfl | exact aa #[A] | exact aa (aa rfl)) #[D] #[D]),by exact #[za,#[zh],#[za,#[zt,#[zb2],#[zm,#[zv],T.len_,bf,#[ya,(@L2.pv _ 4 _ _ (by rfl) (by first | exact ae rfl | exact aa #[A] | exact aa (aa rfl)) #[D] #[D])]],#[zh]],#[ya,(@L2.pv _ 11 _ _ (by rfl) (by first | exact ae rfl | exact aa #[A] | exact aa (aa rfl)) #[D] #[D])]]]]],#[zq],(zI _)]]]),#[zk,#[zF,#[za1]]],#[zy]]]],#[ze,#[zY,(@PW.pt _ _ _ #[zbt,#[zB,#[zcx],#[zH,iW,(hr.mono #[D]),T.m_l_done,iT.kp,iV,#[z7],#[za,(@L2.pv _ 6 _ _ (by rfl) (by first | exact ae rfl | exact aa #[A] | exact aa (aa rfl)) #[D] #[D]),by exact #[za,#[zh],#[za,#[zh],#[ya,#[zt,#[zb2],(@L2.pv _ 2 _ _ (by rfl) (by first | exact ae rfl | exact aa #[A] | exact aa (aa rfl)) #[D] #[D]),#[zh]]]]]]],#[zq],(zI _)],#[za6,#[zB,#[zdc,hu],#[zb4,(@L2.pv _ 6 _ _ (by rfl) (by first | exact ae rfl | exact aa #[A] | exact aa (aa rfl)) #[D] #[D]),T.cl,T.me_row,kJ,(hr.mono #[D]),kH,#[z7]],#[zt,#[zc8],#[zaa,#[ya,#[zh]]],#[zt,#[zdO],#[zaa,#[ya,#[zc4]]],#[zt,#[zb2],#[zm,#[zv],T.len_,bf,#[ya,(@L2.pv _ 4 _ _ (by rfl) (by first | exact ae rfl | exact aa #[A] | exact aa (aa rfl)) #[D] #[D])]],#[zh]]]],(zI _)]]]),#[zk,#[zF,#[za1]]],#[zy]],#[ze,(zfz #[zY,(@PW.pt _ _ _ #[zgI,#[zB,#[zfY],#[zm,#[zv],T.len_,bf,#[ya,(@L2.pv _ 4 _ _ (by rfl) (by first | exact ae rfl | exact aa #[A] | exact aa (aa rfl)) #[D] #[D])]],#[zh],(zI _)],#[ze9,#[zB,#[zcx],#[zH,iW,(hr.mono #[D]),T.m_l_done,iT.kp,iV,#[z7],#[za,(@L2.pv _ 6 _ _ (by rfl) (by first | exact ae rfl | exact aa #[A] | exact aa (aa rfl)) #[D] #[D]),by exact #[za,#[zh],#[za,#[zt,#[zb2],#[zm,#[zv],T.len_,bf,#[ya,(@L2.pv _ 4 _ _ (by rfl) (by first | exact ae rfl | exact aa #[A] | exact aa (aa rfl)) #[D] #[D])]],#[zh]],#[ya,#[zh]]]]]],#[zq],(zI _)]]]),#[zk,#[zF,#[za1]]],#[zy]]),#[ze,#[zC,12,zax.nd,#[A],#[zt,#[zc8],#[zaa,#[za,#[zh],#[ya,#[zh]]]],#[zt,#[zdO],#[zaa,#[ya,#[zt,#[zas],#[zZ,#[zM],(@L2.pv _ 5 _ _ (by rfl) (by first | exact ae rfl | exact aa #[A] | exact aa (aa rfl)) #[D] #[D]),#[zh]],(@L2.pv _ 2 _ _ (by rfl) (by first | exact ae rfl | exact aa #[A] | exact aa (aa rfl)) #[D] #[D])]]],#[zt,#[zb2],#[zm,#[zv],T.len_,bf,#[ya,(@L2.pv _ 4 _ _ (by rfl) (by first | exact ae rfl | exact aa #[A] | exact aa (aa rfl)) #[D] #[D])]],#[zh]]]]],#[ze,#[zY,#[zB,#[zcx],#[zH,jZ,(hr.mono #[D]),T.m_l_papers,jj.kp,jY,#[z7],#[zdP,#[za,#[zaL,#[za,(@L2.pv _ 2 _ _ (by rfl) (by first | exact ae rfl | exact aa #[A] | exact aa (aa rfl)) #[D] #[D]),#[za,#[zh],#[ya,(@L2.pv _ 4 _ _ (by rfl) (by first | exact ae rfl | exact aa #[A] | exact aa (aa rfl)) #[D] #[D])]]]],#[za,#[zb5,zcQ,(@L2.pv _ 12 _ _ (by rfl) (by first | exact ae rfl | exact aa #[A] | exact aa (aa rfl)) #[D] #[D]),#[zdG],#[zch,#[zm,#[zv],T.len_,bf,#[ya,(@L2.pv _ 4 _ _ (by rfl) (by first | exact ae rfl | exact aa #[A] | exact aa (aa rfl)) #[D] #[D])]]]],#[ya,#[zaL,#[za,#[zh],#[ya,#[zaL,#[ya,#[zaL,#[ya,#[zh]]]]]]]]]]]]],#[zq],(zI _)],#[zk,#[zF,#[za1]]],#[zy]],#[ze,(zfz #[zY,(@PW.pt _ _ _ #[zgI,#[zB,#[zfY],(@L2.pv _ 3 _ _ (by rfl) (by first | exact ae rfl | exact aa #[A] | exact aa (aa rfl)) #[D] #[D]),#[zh],(zI _)],#[ze9,#[zB,#[zdc,hu],#[zaa,#[ya,#[zH,jZ,(hr.mono #[D]),T.m_l_papers,jj.kp,jY,#[z7],#[zdP,#[za,(@L2.pv _ 1 _ _ (by rfl) (by first | exact ae rfl | exact aa #[A] | exact aa (aa rfl)) #[D] #[D]),#[za,#[zb5,zcQ,(@L2.pv _ 12 _ _ (by rfl) (by first | exact ae rfl | exact aa #[A] | exact aa (aa rfl)) #[D] #[D]),#[zdG],#[zch,#[zm,#[zv],T.len_,bf,#[ya,(@L2.pv _ 4 _ _ (by rfl) (by first | exact ae rfl | exact aa #[A] | exact aa (aa rfl)) #[D] #[D])]]]],#[ya,#[zaL,#[za,#[zh],#[ya,#[zaL,#[ya,#[zaL,#[za,#[zh],#[ya,#[zh]]]]]]]]]]]]]]]],#[zaa,#[ya,#[zq]]],(zI _)]]]),#[zk,#[zF,#[za1]]],#[zy]]),#[ze,#[zC,13,zax.nd,(aa rfl),(@zjg _ _ _ _ _ _ _ _ _ _ _ _ _ _ T.mkrD mI (hr.mono #[D]) rfl T.x_Desk mH .nil #[z7] #[D])],(by exact #[zb7,14,["hear 9 9 9","hear 99999 1","hear -1 1","hear 01 1","forget","sure","near x","reach","slips -1"],#[N],zax.nd,#[A],(by first | exact .inl rfl | exact .inr rfl),#[ze,#[zY,#[zB,#[zdc,hu],#[zaQ,(CompSc.of (N':=["each","desk"]) (ix:=[none,some 13]) (zj zdt) ["script","code","p","k","places","plan","listener","bad","odd","number","names","entry","row","desk","rows","due"] rfl rfl #[N]),#[zaP],#[zbd,(@L2.pv _ 14 _ _ (by rfl) (by first | exact ae rfl | exact aa #[A] | exact aa (aa rfl)) #[D] #[D])],(fun _ _ _ _=>#[zr,0,(show (["each","desk"]:List Str).Nodup from #[N]),#[A]]),(fun _ _ _ _=>#[zaB]),(fun _ _ _ _=>#[zH,j1,(hr.mono #[D]),T.m_l_said,jn.kp,j0,#[z7],#[za,(@L2.pv _ 1 _ _ (by rfl) (by first | exact ae rfl | exact aa #[A] | exact aa (aa rfl)) #[D] #[D]),#[ya,(@L2.pv _ 0 _ _ (by rfl) (by first | exact ae rfl | exact aa #[A] | exact aa (aa rfl)) #[D] #[D])]]])],#[zt,#[zdO],#[zaa,#[ya,#[zq]]],#[zh]],(zI _)],#[zk,#[zF,#[za1]]],#[zy]],(by exact #[zb7,14,["reach 3","hear 9 9","hear 0 9","forget 9","forget 0","sure 7","near 1","back","again"],#[N],zax.nd,#[A],(by first | exact .inl rfl | exact .inr rfl),#[ze,#[zC,14,zax.nd,#[A],#[zt,#[zc8],(@L2.pv _ 14 _ _ (by rfl) (by first | exact ae rfl | exact aa #[A] | exact aa (aa rfl)) #[D] #[D]),#[zaa,#[za,#[zq],#[ya,#[zq]]]]]],(by exact #[zb7,15,["few","place","number","place","not heard","place","few","nothing","nothing","number","text"],#[N],zax.nd,#[A],(by first | exact .inl rfl | exact .inr rfl),#[ze,#[zY,#[zB,#[zdc,hu],#[zaQ,(CompSc.of (N':=["each","desk"]) (ix:=[none,some 13]) (zj zdt) ["script","code","p","k","places","plan","listener","bad","odd","number","names","entry","row","desk","rows","due"] rfl rfl #[N]),#[zaP],#[zbd,(@L2.pv _ 14 _ _ (by rfl) (by first | exact ae rfl | exact aa #[A] | exact aa (aa rfl)) #[D] #[D])],(fun _ _ _ _=>#[zr,0,(show (["each","desk"]:List Str).Nodup from #[N]),#[A]]),(fun _ _ _ _=>#[zaB]),(fun _ _ _ _=>#[zH,j1,(hr.mono #[D]),T.m_l_said,jn.kp,j0,#[z7],#[za,(@L2.pv _ 1 _ _ (by rfl) (by first | exact ae rfl | exact aa #[A] | exact aa (aa rfl)) #[D] #[D]),#[ya,(@L2.pv _ 0 _ _ (by rfl) (by first | exact ae rfl | exact aa #[A] | exact aa (aa rfl)) #[D] #[D])]]])],(@L2.pv _ 15 _ _ (by rfl) (by first | exact ae rfl | exact aa #[A] | exact aa (aa rfl)) #[D] #[D]),(zI _)],#[zk,#[zF,#[za1]]],#[zy]],(by exact #[zb7,14,["code 7 1 : 0 1","reach 3","hear 1 1","reach 3","hear 1 1","hear 1 8","hear 2 8"],#[N],zax.nd,#[A],(by first | exact .inl rfl | exact .inr rfl),#[zk,#[zF,#[zcO,(@znc _ hu),#[zaQ,(CompSc.of (N':=["each","desk"]) (ix:=[none,some 13]) (zj zdt) ["script","code","p","k","places","plan","listener","bad","odd","number","names","entry","row","desk","rows","due"] rfl rfl #[N]),#[zaP],#[zbd,(@L2.pv _ 14 _ _ (by rfl) (by first | exact ae rfl | exact aa #[A] | exact aa (aa rfl)) #[D] #[D])],(fun _ _ _ _=>#[zr,0,(show (["each","desk"]:List Str).Nodup from #[N]),#[A]]),(fun _ _ _ _=>#[zaB]),(fun _ _ _ _=>#[zH,j1,(hr.mono #[D]),T.m_l_said,jn.kp,j0,#[z7],#[za,(@L2.pv _ 1 _ _ (by rfl) (by first | exact ae rfl | exact aa #[A] | exact aa (aa rfl)) #[D] #[D]),#[ya,(@L2.pv _ 0 _ _ (by rfl) (by first | exact ae rfl | exact aa #[A] | exact aa (aa rfl)) #[D] #[D])]]])],#[zaa,#[za,#[zq],by exact #[za,#[zq],by exact #[za,#[zq],by exact #[za,#[zq],by exact #[za,#[zq],#[za,#[zq],#[ya,#[zq]]]]]]]]],(zI _)]]]])]])]])]])]]]]]]]]]]]]]]],?_⟩;have kz:=aM;refine (iq rfl (ex5 a ns 0 5 16 ⟨rfl,hS,iJ,#[D],#[D],#[D],#[D],#[D],#[D],fun c tt p kI pl H1 hc s1 ok h1c h1t=>?_⟩));have mp:=ok.pr;have rp:=zcm mp;have hk1:=ok.k1;have hkl:=ok.kl;have l16:pl.length≤16:=by have:=ok.ln; lia
  have l1:1≤pl.length:=by lia
  refine⟨_,rfl,c,_,rfl,iI.of h1c,rfl,_,_,rfl,_,_,rfl,_,_,rfl,rfl,?_⟩;refine (iq rfl (ex5 a ns 1 6 27720 ⟨rfl,s1.seq hS,iJ,#[D],#[D],#[D],#[D],#[D],#[D],fun pa pd H2 oY s2 o7 h2p=>?_⟩));have p6:pd.length=6:=o7.1;obtain⟨v0,hm0,hv0⟩:=zb6 (ns:=pd) (k:=0) #[D] #[O];obtain⟨v1,qa,hv1⟩:=zb6 (ns:=pd) (k:=1) #[D] #[O];obtain⟨v2,sL,hv2⟩:=zb6 (ns:=pd) (k:=2) #[D] #[O];obtain⟨v3,sM,hv3⟩:=zb6 (ns:=pd) (k:=3) #[D] #[O];obtain⟨v4,hm4,hv4⟩:=zb6 (ns:=pd) (k:=4) #[D] #[O];obtain⟨v5,hm5,hv5⟩:=zb6 (ns:=pd) (k:=5) #[D] #[O];have g1:=o7.2 _ (aE qa);have g2:=o7.2 _ (aE sL);have g3:=o7.2 _ (aE sM);have g4:=o7.2 _ (aE hm4);have g5:=o7.2 _ (aE hm5);have h2c:=s2 _ _ h1c;have h2t:=s2 _ _ h1t;obtain⟨m,hm⟩:∃ m:Nat,pl.length=m+1:=⟨pl.length - 1,#[O]⟩;refine (iq rfl (iq rfl (ex4 pa _ _ (.int v0) ⟨rfl,rfl,iw.of h2p,hv0,(iD rfl rfl ⟨(by show (0:Int) < 9; decide),?_⟩)⟩)));intro x dx nx ndx nex;have sX:zJ H2 (upd (upd H2 dx (.own x)) x (.ins t.Listener dx [])):=fun b o e=>by
   (rw [zc (zi e nx),zc (zi e ndx)])
   exact e
  refine (ex8 x dx c tt (v0 % 9) p kI pl ⟨rfl,zb,by rw [zc nex]; exact zb,⟨.inl (sX _ _ h2c),.inl (sX _ _ h2t)⟩,l16,fun S H5 L5 kp hS5=>⟨rfl,?_⟩⟩);have g5':zJ H2 (hid S H5):=fun b o e=>by
   have nb:b≠x:=zi e nx;refine zcI (kp b o (sX b o e) nb) fun hb=>?_
   rcases hS5 b hb with z | z
   ·exact nb z
   ·rw [sX b o e] at z; cases z
  obtain⟨dxx,ea,da,ua,kk,ttt,drr,urr,eS,_,_,_,hx5,_⟩:=L5.ex;refine (iq rfl (ex3 x dxx _ ⟨rfl,hx5,zak (.inr (.inr (.inl rfl))),S,x,c,p,v0 % 9,0,1,_,[],[],rfl,L5,by rw [bv]; lia,#[D],#[D],?_⟩));unfold zdg;rw [hm,ziG #[O]];intro S6 H6 L6 s6 hS6;have q6:zJ H2 H6:=g5'.trans (s6.trans (zlR S6 H6));have tF:=q6 _ _ h2t;have h6c:=q6 _ _ h2c;have qY:=q6 _ _ h2p;have hE:(some 1 :: aq m (none:Option Int)).length=m+1:=by rw [aN,bv]
  have lO:(some 1 :: aq m (none:Option Int)).length≤16:=by lia
  have hpw:(10:Int) ^ (39:Int).toNat=1000000000000000000000000000000000000000:=by decide
  refine (iq rfl (iq rfl (ex4 pa _ _ (.int v1) ⟨rfl,rfl,iw.of qY,hv1,(iD rfl rfl (iq rfl ⟨tt,(iq rfl ⟨.inr (iI.of tF),(iq rfl ⟨tt,(iq rfl ⟨.inr (iI.of tF),(iq rfl (ex4 pa _ _ (.int v2) ⟨rfl,rfl,iw.of qY,hv2,(iD rfl rfl ⟨10,39,rfl,rfl,⟨#[D],#[D],#[D]⟩,by show 4≤sizeLine; lia,fun bl hbl=>?_⟩)⟩))⟩)⟩)⟩)⟩))⟩)));obtain⟨bd,hbd⟩:∃ bd:List Int,bd = [-1 - v1,((pl.map V.int).length:Int),((pl.map V.int).length:Int)+v2,(10:Int) ^ (39:Int).toNat]:=⟨_,rfl⟩;have u7:zJ H6 (upd H6 bl (.lst [V.int (-1 - v1),V.int ((pl.map V.int).length:Int),V.int (((pl.map V.int).length:Int)+v2),V.int ((10:Int) ^ (39:Int).toNat)])):=zf hbl;have h7b:upd H6 bl (.lst [V.int (-1 - v1),V.int ((pl.map V.int).length:Int),V.int (((pl.map V.int).length:Int)+v2),V.int ((10:Int) ^ (39:Int).toNat)]) bl=some (.lst (bd.map V.int)):=by rw [hbd]; exact zb
  generalize upd H6 bl (.lst [V.int (-1 - v1),V.int ((pl.map V.int).length:Int),V.int (((pl.map V.int).length:Int)+v2),V.int ((10:Int) ^ (39:Int).toNat)])=H7 at u7 h7b ⊢;have h7p:=u7 _ _ qY;refine (iq rfl (iq rfl (ex4 pa _ _ (.int v3) ⟨rfl,rfl,iw.of h7p,hv3,(iD rfl rfl (iq rfl (iq rfl (iq rfl (ex4 pa _ _ (.int v4) ⟨rfl,rfl,iw.of h7p,hv4,(iD rfl rfl ⟨10,39,rfl,rfl,⟨#[D],#[D],#[D]⟩,by show 4≤sizeLine; lia,fun ol oo=>?_⟩)⟩)))))⟩)));obtain⟨od,tG⟩:∃ od:List Int,od = [-1 - v3,p,p+v4,(10:Int) ^ (39:Int).toNat]:=⟨_,rfl⟩;have u8:zJ H7 (upd H7 ol (.lst [V.int (-1 - v3),V.int p,V.int (p+v4),V.int ((10:Int) ^ (39:Int).toNat)])):=zf oo;have qZ:upd H7 ol (.lst [V.int (-1 - v3),V.int p,V.int (p+v4),V.int ((10:Int) ^ (39:Int).toNat)]) ol=some (.lst (od.map V.int)):=by rw [tG]; exact zb
  generalize upd H7 ol (.lst [V.int (-1 - v3),V.int p,V.int (p+v4),V.int ((10:Int) ^ (39:Int).toNat)])=H8 at u8 qZ ⊢;have h8b:=u8 _ _ h7b;have q8:=u7.trans u8;have h8p:=q8 _ _ qY;have h8c:=q8 _ _ h6c;have nu:=q8 _ _ tF;have L8:=L6.same q8;have tH:∀ b∈bd,inB (some 1 :: aq m (none:Option Int)) b=false:=fun b hb=>by
   rw [hbd,ah,hpw] at hb;refine zl5 ?_;rw [hE];simp at hb;lia
  have tI:∀ z∈od,zdz p z=false:=fun z hz=>by
   rw [tG,hpw] at hz;refine zj4 ?_;simp at hz;lia
  have qX:od.length=4:=by rw [tG]; rfl
  refine (iq rfl ⟨bl,rfl,⟨_,iw.of h8b⟩,zeR (K:=K) (a:=bl) (xs:=bd.map V.int) (fun i σ H'=>∃ e9 o8:Option V,σ = [some (.ref a),some (.ref c),some (.int p),some (.int kI),some (.ref tt),some (.ref pa),some (.ref x),some (.ref bl),some (.ref ol),e9,o8,none,none,none,none,none]∧zJ H8 H') ⟨none,none,rfl,fun _ _ e=>e⟩ (fun i σ H' _ ⟨_,_,_,s⟩=>iw.of (s _ _ h8b)) ?_ ?_⟩)
  ·rintro zD zT i y σ H9 hy ⟨e9,o8,rfl,s9⟩;obtain⟨b,rfl,hb⟩:=zdI hy;have hb:=tH b (aE hb);obtain⟨ox,hox⟩:=zdH (ns:=od) (k:=v5 % 4) (be _ #[D]) (by have:=aU v5 (show (0:Int) < 4 by decide); lia);refine⟨3,rfl,#[D],#[D],zl4 (n:=(3:Int).toNat) (y:="place") #[D] (fun i H' R hi s r=>?_) (fun nl q0 lP sQ=>?_)⟩
   ·have s':=s9.trans s;have L':=L8.same s';refine (iq rfl (iq rfl (iq rfl (iq rfl (iq rfl (ex4 pa _ _ (.int v5) ⟨rfl,rfl,iw.of (s' _ _ h8p),hv5,(iD rfl rfl ⟨(by show (0:Int) < 4; decide),ol,_,_,.int ox,rfl,rfl,iw.of (s' _ _ qZ),hox,?_⟩)⟩))))));have hi3:i < 3:=hi;refine (zh4 S6 x c p (v0 % 9) (0+(i:Int)) b ox _ _ _ .place ⟨rfl,L',lO,#[D],#[D],?_,fun jg l8=>r jg (s.trans l8)⟩);obtain rfl | rfl | rfl:i=0∨i=1∨i=2:=by lia
    ·exact .inl ⟨rfl,zcr hb⟩
    ·exact .inr (.inl ⟨rfl,zed hb⟩)
    ·exact .inr (.inr ⟨rfl,hb,rfl⟩)
   ·refine (iq rfl ⟨by show 1≤sizeLine; lia,fun pz tJ=>(ex3 pz 3 _ ⟨rfl,rfl,zb,#[D],#[D],by show 1*3≤sizeLine; lia,fun pr oU=>?_⟩)⟩);have w0:=zf (o:=.lst ((aq (3:Int).toNat ("place" : Str)).map V.str)) sQ;have w1:=zf (o:=.lst [.str "place"]) tJ;have w2:=zf (o:=.lst (aq (3:Int).toNat [V.str "place"]).flatten) oU;refine zbI (xs:=["place","place","place"]) (iw.of (w2 _ _ (w1 _ _ zb))) (iw.of zb) (iq rfl (zag ?_));have qO:=s9.trans (lP.trans (w0.trans (w1.trans w2)));refine (iq rfl (iq rfl (zh4 S6 x c p (v0 % 9) 0 b 1 _ _ _ .place ⟨rfl,L8.same qO,lO,#[D],#[D],.inl ⟨rfl,zcr hb⟩,fun H14 oF=>⟨rfl,(iq rfl (zeQ rfl ?_))⟩⟩)));exact⟨_,_,rfl,qO.trans oF⟩
  rintro σ Ha ⟨e9,o8,rfl,sa⟩;refine (iq rfl ⟨ol,rfl,⟨_,iw.of (sa _ _ qZ)⟩,zeR (K:=K) (a:=ol) (xs:=od.map V.int) (fun i σ H'=>∃ qr:Option V,σ = [some (.ref a),some (.ref c),some (.int p),some (.int kI),some (.ref tt),some (.ref pa),some (.ref x),some (.ref bl),some (.ref ol),e9,o8,qr,none,none,none,none]∧zJ H8 H') ⟨none,rfl,sa⟩ (fun i σ H' _ ⟨_,_,s⟩=>iw.of (s _ _ qZ)) ?_ ?_⟩)
  ·rintro zD zT i y σ H9 hy ⟨qr,rfl,s9⟩;obtain⟨z,rfl,hz⟩:=zdI hy;have hz:=tI z (aE hz);refine (iq rfl (iq rfl (zh4 S6 x c p (v0 % 9) 0 0 z _ _ _ .number ⟨rfl,L8.same s9,lO,#[D],#[D],.inl ⟨rfl,zbU (zfL #[O] (by rw [hE]; lia)) hz⟩,fun q0 lP=>⟨rfl,(iq rfl (zeQ rfl ?_))⟩⟩)));have lP:=s9.trans lP;refine (iq rfl (iq rfl ⟨tt,(iq rfl ⟨.inr (iI.of (lP _ _ nu)),(iD rfl rfl (iq rfl (zh4 S6 x c p (v0 % 9) 0 (((pl.map V.int).length:Int) - 1) z _ _ _ .number ⟨rfl,L8.same lP,lO,#[D],#[D],.inl ⟨rfl,zbU (zfL (by rw [ah]; lia) (by rw [hE,ah]; lia)) hz⟩,fun H11 tK=>⟨rfl,(iq rfl (zeQ rfl ?_))⟩⟩)))⟩)⟩));exact (iq rfl (lP.trans tK))
  rintro σ Hb ⟨qr,rfl,sb⟩;refine (iq rfl (iq rfl (iD rfl rfl (zh4 S6 x c p (v0 % 9) 0 0 (p - 1) _ _ _ .heard ⟨rfl,L8.same sb,lO,#[D],#[D],.inl ⟨rfl,ze4 (y:=1) (zfL #[O] (by rw [hE]; lia)) (zl6 #[O] #[O]) rfl⟩,fun q0 lP=>⟨rfl,(iq rfl (zeQ rfl ?_))⟩⟩))));have lP:=sb.trans lP;obtain⟨dx9,ea9,da9,ua9,k9,tt9,dr9,ur9,eS9,_,_,_,hx9,_⟩:=(L8.same lP).ex;refine (iq rfl (ex3 x dx9 _ ⟨rfl,hx9,zak (.inr (.inr (.inr (.inr (.inr (.inr (.inl rfl))))))),S6,x,c,p,v0 % 9,_,_,_,rfl,L8.same lP,fun lr qM=>?_⟩));have w1:=zf (o:=.lst ((some 1 :: aq m (none:Option Int)).map iA)) qM;have qs:upd q0 lr (.lst ((some 1 :: aq m (none:Option Int)).map iA)) lr=some (.lst ((some 1 :: aq m (none:Option Int)).map iA)):=zb;generalize upd q0 lr (.lst ((some 1 :: aq m (none:Option Int)).map iA))=H11 at w1 qs ⊢;have tK:=lP.trans w1;have qt:((pl.map V.int).length:Int) - 1=(m:Int):=by rw [ah,hm]; lia
  refine⟨by show 1≤sizeLine; lia,fun l1 j5=>⟨by show 1≤sizeLine; lia,fun l2 lz=>?_⟩⟩;have x1:=zf (o:=.lst [.int 1]) j5;have x2:=zf (o:=.lst [.non]) lz;have oZ:=tK.trans (x1.trans x2);refine (iq rfl ⟨tt,(iq rfl ⟨.inr (iI.of (oZ _ _ nu)),(iD rfl rfl (ex3 l2 _ ([.non]) ⟨rfl,rfl,zb,by rw [qt]; lia,by rw [qt]; lia,by rw [qt]; show 1*_≤sizeLine; lia,fun l3 tD=>?_⟩))⟩)⟩);rw [qt,zhO,ca];have x3:=zf (o:=.lst ((aq m (none:Option Int)).map iA)) tD;refine (ex4 l1 l3 _ _ ⟨rfl,rfl,x3 _ _ (x2 _ _ zb),zb,by rw [ah,bv]; show 1+m≤sizeLine; lia,fun l4 qX=>?_⟩);have x4:=zf (o:=.lst ([.int 1]++(aq m (none:Option Int)).map iA)) qX;refine zl3 (ms:=some 1 :: aq m none) (iw.of (x4 _ _ (x3 _ _ (x2 _ _ (x1 _ _ qs))))) (iw.of zb) (iq rfl (zag ?_));have oF:=oZ.trans (x3.trans x4);refine⟨fun σ' H'=>σ' = [some (.ref a),some (.ref c),some (.int p),some (.int kI),some (.ref tt),some (.ref pa),some (.ref x),some (.ref bl),some (.ref ol),e9,o8,qr,none,none,none,none]∧zJ H8 H',?_,?_⟩
  ·refine (iq rfl ⟨tt,(iq rfl ⟨.inr (iI.of (oF _ _ nu)),(iD rfl rfl (iq rfl ?_))⟩)⟩);refine zcu (fun g=>?_) (fun g=>zag ⟨rfl,oF⟩);have g:(1:Int) < ((pl.map V.int).length:Int):=of_decide_eq_true g;rw [ah,hm] at g;refine (iq rfl (iq rfl ⟨tt,(iq rfl ⟨.inr (iI.of (oF _ _ nu)),(iD rfl rfl (zh4 S6 x c p (v0 % 9) 1 (((pl.map V.int).length:Int) - 1) 0 _ _ _ .notHeard ⟨rfl,L8.same oF,lO,#[D],#[D],.inr (.inl ⟨rfl,zhR (zfL #[O] (by rw [hE]; lia)) ?_⟩),fun H15 m6=>⟨rfl,(iq rfl (zeQ rfl ⟨rfl,oF.trans m6⟩))⟩⟩))⟩)⟩));rw [qt,ca];obtain⟨m',rfl⟩:∃ m',m=m'+1:=⟨m - 1,#[O]⟩;rw [List.getElem?_cons_succ,eL];rw [if_pos #[O]]
  rintro σ Hc ⟨rfl,sc⟩;refine⟨by show 2≤sizeLine; lia,fun r1 hr1=>?_⟩;have y1:=zf (o:=.lst [.int 0,.int 1]) hr1;have m6:=sc.trans y1;refine (iq rfl (ex4 pa _ _ (.int v2) ⟨rfl,rfl,iw.of (m6 _ _ h8p),hv2,(iq rfl (iD rfl rfl ⟨(by show (0:Int) < p; lia),by show 1≤sizeLine; lia,fun r2 qb=>?_⟩))⟩));have y2:=zf (o:=.lst [.int (v2 % p)]) qb;have oW:=m6.trans y2;refine (iq rfl ⟨tt,(iq rfl ⟨.inr (iI.of (oW _ _ nu)),(iD rfl rfl (ex3 r2 _ ([.int (v2 % p)]) ⟨rfl,rfl,zb,by rw [ah]; lia,by rw [ah]; lia,by rw [ah]; show 1*_≤sizeLine; lia,fun r3 hr3=>?_⟩))⟩)⟩);have y3:=zf (o:=.lst (aq (((pl.map V.int).length:Int) - 2).toNat [V.int (v2 % p)]).flatten) hr3;refine (ex4 r1 r3 _ _ ⟨rfl,rfl,y3 _ _ (y2 _ _ zb),zb,by rw [len_rep]; show 2+_*1≤sizeLine; rw [ah]; lia,fun rw tz=>?_⟩);have y4:=zf (o:=.lst ([.int 0,.int 1]++(aq (((pl.map V.int).length:Int) - 2).toNat [V.int (v2 % p)]).flatten)) tz;have qh:=oW.trans (y3.trans y4);obtain⟨qu,tL⟩:∃ qu,qu = [V.int 0,V.int 1]++(aq (((pl.map V.int).length:Int) - 2).toNat [V.int (v2 % p)]).flatten:=⟨_,rfl⟩;have oG:upd (upd (upd (upd Hc r1 (.lst [.int 0,.int 1])) r2 (.lst [.int (v2 % p)])) r3 (.lst (aq (((pl.map V.int).length:Int) - 2).toNat [V.int (v2 % p)]).flatten)) rw (.lst ([.int 0,.int 1]++(aq (((pl.map V.int).length:Int) - 2).toNat [V.int (v2 % p)]).flatten)) rw=some (.lst qu):=by rw [tL]; exact zb
  generalize upd (upd (upd (upd Hc r1 (.lst [.int 0,.int 1])) r2 (.lst [.int (v2 % p)])) r3 (.lst (aq (((pl.map V.int).length:Int) - 2).toNat [V.int (v2 % p)]).flatten)) rw (.lst ([.int 0,.int 1]++(aq (((pl.map V.int).length:Int) - 2).toNat [V.int (v2 % p)]).flatten))=H18 at qh oG ⊢;refine (iq rfl (iq rfl ⟨by show 3≤sizeLine; lia,fun t1 ht1=>?_⟩));have z1:=zf (o:=.tup [.int p,.int 1,.ref tt]) ht1;refine (iq rfl (iq rfl ⟨tt,(iq rfl ⟨.inr (iI.of (z1 _ _ (qh _ _ nu))),(iq rfl ⟨rw,(iq rfl ⟨iw.of (z1 _ _ oG),fun t2 ht2=>?_⟩)⟩)⟩)⟩));have z2:=zf (o:=.lst (zct qu none (some ((pl.map V.int).length:Int)))) ht2;refine⟨by show 1≤sizeLine; lia,fun t3 ht3=>⟨by show 1≤sizeLine; lia,fun t4 ht4=>⟨by show 2≤sizeLine; lia,fun t5 ht5=>?_⟩⟩⟩;have z3:=zf (o:=.tup [.int 1]) ht3;have z4:=zf (o:=.tup [.ref t3]) ht4;have z5:=zf (o:=.tup [.int 9,.ref t4]) ht5;have zA:=z2.trans (z3.trans (z4.trans z5));have qi:=qh.trans (z1.trans zA);refine (ex9 t1 tt t5 t4 p 1 pl (.ref t2) ("curve") ⟨rfl,⟨.inl (zA _ _ zb),.inl (qi _ _ nu)⟩,iI.of zb,.inl ⟨#[D],rfl⟩,fun H19 qj=>⟨rfl,(iq rfl (zeQ rfl ?_))⟩⟩);have s21:=qi.trans qj;have tM:=qj _ _ (zA _ _ (z1 _ _ oG));refine⟨fun σ' H'=>σ' = [some (.ref a),some (.ref c),some (.int p),some (.int kI),some (.ref tt),some (.ref pa),some (.ref x),some (.ref bl),some (.ref ol),e9,o8,qr,some (.ref rw),none,none,none],?_,?_⟩
  ·refine (iq rfl (iD rfl rfl (iq rfl ?_)));refine zcu (fun g=>?_) (fun g=>zag rfl);have g:(1:Int) < kI:=of_decide_eq_true g;refine (iq rfl (iq rfl (iq rfl ⟨tt,(iq rfl ⟨.inr (iI.of (s21 _ _ nu)),(iq rfl ⟨rw,(iq rfl ⟨iw.of tM,fun t6 ht6=>?_⟩)⟩)⟩)⟩)));have v1':=zf (o:=.lst (zct qu none (some ((pl.map V.int).length:Int)))) ht6;refine⟨by show 2≤sizeLine; lia,fun t7 ht7=>⟨by show 1≤sizeLine; lia,fun t8 ht8=>⟨by show 2≤sizeLine; lia,fun t9 ht9=>?_⟩⟩⟩;have v2':=zf (o:=.tup [.int 0,.int 1]) ht7;have v3':=zf (o:=.tup [.ref t7]) ht8;have v4':=zf (o:=.tup [.int 9,.ref t8]) ht9;have s22:=s21.trans (v1'.trans (v2'.trans (v3'.trans v4')));refine (ex9 c tt t9 t8 p kI pl (.ref t6) ("paper") ⟨rfl,⟨.inl (s22 _ _ h8c),.inl (s22 _ _ nu)⟩,iI.of zb,.inr ⟨#[O],rfl⟩,fun H22 s23=>⟨by show 1≤sizeLine; lia,fun l5 qP=>⟨by show 1≤sizeLine; lia,fun l6 hl6=>?_⟩⟩⟩);have v5':=zf (o:=.lst [.str "paper"]) hl6;exact zbI (xs:=["paper"]) (iw.of (v5' _ _ zb)) (iw.of zb) (iq rfl (zag rfl))
  rintro σ Hd rfl;intro d iH nd nddx ned;refine⟨d,iH,rfl,zb,by rw [zc ned]; exact zb,fun S0 p0 tt0 H0 D0 qp hS0=>⟨rfl,?_⟩⟩;refine⟨by show 9≤sizeLine; lia,fun k1 tN=>?_⟩;have a1:=zf (o:=.lst (ze5.map V.str)) tN;have b1:upd H0 k1 (.lst (ze5.map V.str)) k1=some (.lst (ze5.map V.str)):=zb;have D1:=D0.same a1;obtain⟨ddx1,hd1⟩:=D1.at';refine (iq rfl ⟨k1,rfl,⟨_,iw.of b1⟩,zfK (zs:=ze5) (ys:=aq 9 "row") rfl #[D] (fun _ H'=>zJ (upd H0 k1 (.lst (ze5.map V.str))) H') (fun _ _ e=>e) (fun i H' s=>iw.of (s _ _ b1)) (fun i z y H' R hz hy s r=>?_) (fun D H' s hD=>?_)⟩)
  ·have hy:=List.eq_of_mem_replicate (aE hy);subst hy;exact (iq rfl (iq rfl (zl8 (E:=E0) (s _ _ hd1) (bz.mp zj7 z (aE hz)) fun jg l8=>r _ (s.trans l8))))
  refine⟨by show 1≤sizeLine; lia,fun pz tJ=>(ex3 pz 9 _ ⟨rfl,rfl,zb,#[D],#[D],by show 1*9≤sizeLine; lia,fun pr oU=>?_⟩)⟩;have a2:=zf (o:=.lst ((aq 9 ("row" : Str)).map V.str)) hD;have a3:=zf (o:=.lst [.str "row"]) tJ;have a4:=zf (o:=.lst (aq (9:Int).toNat [V.str "row"]).flatten) oU;refine zbI (xs:=aq 9 "row") (iw.of (a4 _ _ (a3 _ _ zb))) (iw.of zb) (iq rfl (zag ?_));have D4:=D1.same (s.trans (a2.trans (a3.trans a4)));refine⟨by show 9≤sizeLine; lia,fun k2 pJ=>?_⟩;have c1:=zf (o:=.lst ((ze6.take 9).map V.str)) pJ;refine (iq rfl ⟨by show 2≤sizeLine; lia,fun k3 hk3=>?_⟩);have c2:=zf (o:=.lst [.str "slips 9",.str "code 7"]) hk3;refine (ex4 k2 k3 ((ze6.take 9).map V.str) _ ⟨rfl,rfl,c2 _ _ zb,zb,by show 9+2≤sizeLine; lia,fun k4 qU=>?_⟩);have c3:=zf (o:=.lst (ze6.map V.str)) qU;refine⟨by show 11≤sizeLine; lia,fun k5 hk5=>?_⟩;have c4:=zf (o:=.lst (zee.map V.str)) hk5;have D5:=D4.same (c1.trans (c2.trans (c3.trans c4)));have e4:=c4 _ _ (zb (a:=k4) (o:=.lst (ze6.map V.str)));refine (iq rfl ⟨k4,rfl,⟨_,iw.of e4⟩,zfK (zs:=ze6) (ys:=zee) rfl #[D] (fun _ H'=>zJ _ H') (fun _ _ e=>e) (fun i H' s=>iw.of (s _ _ e4)) (fun i z y H' R hz hy s r=>(iq rfl (iq rfl (zov (E:=E0) (D5.same s) hz hy fun jg l8=>r _ (s.trans l8))))) (fun D2 H2' s2' oX=>?_)⟩);have c5:=zf (o:=.lst (zee.map V.str)) oX;refine (iq rfl (zbI (xs:=zee) (iw.of zb) (iw.of (c5 _ _ (s2' _ _ zb))) (iq rfl (zag ?_))));have D6:=D5.same (s2'.trans c5);refine⟨by show 7≤sizeLine; lia,fun k6 hk6=>?_⟩;have c6:=zf (o:=.lst (zgw.map V.str)) hk6;have D7:=D6.same c6;refine (iq rfl ⟨k6,rfl,⟨_,iw.of (zb (a:=k6) (o:=.lst (zgw.map V.str)))⟩,zfK (zs:=zgw) (ys:=zfM) rfl #[D] (J3 t K d k6) ⟨zb,_,_,_,_,D6.ls.fresh hk6,D7⟩ (fun i H' s=>iw.of s.1) (fun i z y H' R hz hy s r=>(iq rfl (iq rfl (zow (E:=E0) s hz hy r)))) (fun D8 H8' s8 hD8=>?_)⟩);refine⟨by show 7≤sizeLine; lia,fun k7 hk7=>?_⟩;have c7:=zf (o:=.lst (zfM.map V.str)) hk7;exact zbI (xs:=zfM) (iw.of (c7 _ _ zb)) (iw.of zb) (q _)
end
end My
end
section
namespace PySem.W.Fast
def tw6944935335022244654:Unit:=()
def tw4702678410433201572:Unit:=()
def tw4911285873551577966:Unit:=()
def tw9849853004081178929:Unit:=()
def tw13337441007454379982:Unit:=()
def tw616304834474600845:Unit:=()
def tw17275254066344357164:Unit:=()
def tw10921263889743961899:Unit:=()
def tw3689711177330153455:Unit:=()
def tw15305825580310162138:Unit:=()
def tw15224787687902343739:Unit:=()
def tw328666375606904691:Unit:=()
def tw3689916057893506850:Unit:=()
def tw13412333280419741751:Unit:=()
def tw12527909943760299571:Unit:=()
def tw4922969395299446264:Unit:=()
def tw6347846158668542111:Unit:=()
def tw14794714935365285249:Unit:=()
def tw4415645411336958907:Unit:=()
def tw6099740024923860227:Unit:=()
def tw1393498580863346187:Unit:=()
def tw276839842106058568:Unit:=()
def tw15092347301636334880:Unit:=()
def tw6572013790631886046:Unit:=()
def tw9831308709968821603:Unit:=()
def tw5866294257996963526:Unit:=()
def tw9823015904741190715:Unit:=()
def tw12558155927060694312:Unit:=()
def tw10425347703819042554:Unit:=()
def tw6668371354709604566:Unit:=()
def tw906007740762688199:Unit:=()
def tw9688291835748504311:Unit:=()
def tw13948482251222582141:Unit:=()
def tw7248795819636871495:Unit:=()
def tw18059240619760097065:Unit:=()
def tw4258978016028409935:Unit:=()
def tw7724285837141501519:Unit:=()
def tw5789211440815621541:Unit:=()
def tw16766220742722797927:Unit:=()
def tw12049295262637923771:Unit:=()
def tw11224925232330534261:Unit:=()
def tw4063535920994875493:Unit:=()
def tw13857684146153505371:Unit:=()
def tw6676953433144339953:Unit:=()
def tw1834106891369939491:Unit:=()
def tw11655765132174266224:Unit:=()
def tw14043789880871987587:Unit:=()
def tw12410355988025512321:Unit:=()
def tw1039399280538124668:Unit:=()
def tw11283763542565951882:Unit:=()
def tw14231618594744200316:Unit:=()
def tw7008823542697331257:Unit:=()
def tw14707202479072426539:Unit:=()
def tw7808629577226965771:Unit:=()
def tw14291556858671622046:Unit:=()
def tw17714297604855026709:Unit:=()
def tw17211138884738818351:Unit:=()
def tw11910849985892621382:Unit:=()
def tw4797237264702257197:Unit:=()
def tw565642180501657296:Unit:=()
def tw16984411137773559344:Unit:=()
def tw16196348983975775215:Unit:=()
def tw274149174587756557:Unit:=()
def tw745374142798401996:Unit:=()
def tw6024052283453382171:Unit:=()
def tw2367624531066026765:Unit:=()
def tw5094770088014345735:Unit:=()
def tw15081956569187184760:Unit:=()
def tw9725701392485651779:Unit:=()
def tw1585779239908134133:Unit:=()
def tw8448892647960712648:Unit:=()
def tw13854286389900675493:Unit:=()
def tw1166908428925039576:Unit:=()
def tw8233457898235772530:Unit:=()
def tw2980194773029700773:Unit:=()
def tw11788790251594135045:Unit:=()
def tw3491177747516469781:Unit:=()
def tw7405595858200396925:Unit:=()
def tw9167163195614156136:Unit:=()
def tw5532928644963408436:Unit:=()
end PySem.W.Fast
namespace PySem.W
open PySem
def zo1:Stmt→Stmt
 | .Assign ts (.Dict ks vs p) q=>.Assign ts (.Dict ((ks.zip vs).map fun x=>match x.1 with | some (.Tuple (a :: _) _ _)=>some a | k=>k)
   ((ks.zip vs).map fun x=>match x.1 with | some (.Tuple [_,b] k r)=>.Tuple [b,x.2,b,b] k r | _=>x.2) p) q
 | s=>s
def kpr (P:Program) (i:Nat):Program:={ P with main:={ P.main with body:=P.main.body.modify i zo1 } }
def p35:Program:=kpr PySem.Challenge.pw_slipcurve_k35_two_reasons_which_first 92
open_shared g35 for p35 leaving 0
end PySem.W
end
section
namespace Ht
open PySem PySem.W
structure Cx where
 p:Program
 w:World
 n₀:Nat
 ann:Option Value
 q:Pos
 b:List Stmt
 env:Env
abbrev Cx.c (X:Cx):Code:=.body X.b X.env
abbrev Cx.B (X:Cx):List Frame:=[topFrame X.q]
abbrev Cx.run (X:Cx) (n:Nat) (s:Shared) (cur:Sem Fin) (pos:Pos):Option (Flow×Shared×Code×Pos) :=
 segRun treeTable X.p X.w X.n₀ X.ann 1 n s ⟨cur,X.c,pos,X.B⟩
theorem zef {tb:String→Option Builtin} {p:Program} {w:World} {n₀:Nat} {ann:Option Value} {b:Nat}:∀ {n m:Nat} (_:n≤m) {s:Shared} {t:Thread} {r:Flow×Shared×Code×Pos},
  segRun tb p w n₀ ann b n s t=some r→segRun tb p w n₀ ann b m s t=some r
 | 0,_,_,_,_,_,h=>by simp [segRun] at h
 | n+1,0,le,_,_,_,_=>absurd le #[O]
 | n+1,m+1,le,s,t,r,h=>by
  unfold segRun at h ⊢;cases he:endAt b t with
  | some f=>rw [he] at h; exact h
  | none =>
   rw [he] at h;cases hkq:stepOk n₀ ann t with
   | false=>rw [hkq] at h; cases h
   | true =>
    rw [hkq] at h;cases hsq:step (denote tb) p w s t with
    | halt o s₂=>rw [hsq] at h; cases h
    | go s₂ t₂=>rw [hsq] at h; exact zef (Nat.le_of_succ_le_succ le) h
variable {X:Cx} {α β:Type} {s:Shared} {pos:Pos}
def WT (X:Cx) (n:Nat) (m:Sem α) (pos:Pos) (s:Shared) (Q:α→Pos→Shared→Prop):Prop :=
 ∀ (K:α→Sem Fin) (H:Value→Sem Fin) (gd:Bool→Bool) (lv:List Value→List Value) (N:Nat) (R:Flow×Shared×Code×Pos),
  (∀ a pos' s',Q a pos' s'→X.run N s' (K a) pos'=some R)→X.run (n+N) s (m.wrap K H gd lv) pos=some R
theorem zK {a:α} {n:Nat} {Q:α→Pos→Shared→Prop} (h:Q a pos s):WT X n (Pure.pure a:Sem α) pos s Q :=
 fun K H gd lv N R k=>zef (Nat.le_add_left N n) (k a pos s h)
theorem zn {n k:Nat} {m:Sem α} {f:α→Sem β} {Q:β→Pos→Shared→Prop} (h:WT X n m pos s (fun a pos' s'=>WT X k (f a) pos' s' Q)):WT X (n+k) (m >>= f) pos s Q :=
 fun K H gd lv N R hN=>by
  have e:(m >>= f).wrap K H gd lv=m.wrap (fun a=>(f a).wrap K H gd lv) H gd lv:=by
   rw [Sem.bind_eq_wrap',Sem.wrap_wrap]; rfl
  rw [e,Nat.add_assoc];exact h _ H gd lv (k+N) R fun a pos' s' h'=>h' K H gd lv N R hN
theorem zl {n k:Nat} {m:Sem α} {Q Q':α→Pos→Shared→Prop} (h:WT X n m pos s Q) (le:n≤k) (hq:∀ a pos' s',Q a pos' s'→Q' a pos' s'):WT X k m pos s Q' :=
 fun K H gd lv N R hN=>zef #[O] (h K H gd lv N R fun a pos' s' x=>hN a pos' s' (hq a pos' s' x))
theorem zme {n:Nat} {vs:List Value} {m:Sem α} {Q:α→Pos→Shared→Prop} (h:WT X n m pos s Q):WT X n (m.keep vs) pos s Q:=fun K H gd lv N R hN=>by
 rw [Sem.keep_eq_wrap,Sem.wrap_wrap];exact h K H _ _ N R hN
theorem zbp {n:Nat} {vs:List Value} {m:Sem α} {Q:α→Pos→Shared→Prop} (h:WT X n m pos s Q):WT X n (holding vs m) pos s Q:=by
 rw [holding_eq_keep]; exact zme h
def Det (X:Cx) (n:Nat) (m:Sem α) (pos:Pos) (S:SharedT) (a:α) (S':SharedT) (pos':Pos):Prop :=
 ∀ (K:α→Sem Fin) (H:Value→Sem Fin) (gd:Bool→Bool) (lv:List Value→List Value),segGoT treeTable X.p X.w X.n₀ X.ann 1 n S ⟨m.wrap K H gd lv,X.c,pos,X.B⟩=some (S',⟨K a,X.c,pos',X.B⟩)
theorem zbV {n:Nat} {m:Sem α} {S S':SharedT} {a:α} {pos':Pos} {Q:α→Pos→Shared→Prop} (h:Det X n m pos S a S' pos') (hq:Q a pos' S'.abs):WT X n m pos S.abs Q :=
 fun K H gd lv N R hN=>seg_go (segGo_of (h K H gd lv)) (hN a pos' _ hq)
theorem zc3 {n:Nat} {s s':Shared} {cur cur':Sem Fin} {pos pos':Pos} {R:Flow×Shared×Code×Pos} (e1:endAt 1 ⟨cur,X.c,pos,X.B⟩=none) (e2:stepOk X.n₀ X.ann ⟨cur,X.c,pos,X.B⟩=true)
  (e3:step (denote treeTable) X.p X.w s ⟨cur,X.c,pos,X.B⟩ = .go s' ⟨cur',X.c,pos',X.B⟩) (h:X.run n s' cur' pos'=some R):X.run (1+n) s cur pos=some R:=by
 rw [Nat.add_comm];show segRun treeTable X.p X.w X.n₀ X.ann 1 (n+1) _ _=_;unfold segRun;rw [e1,e2,e3];exact h
theorem zdK {a:Addr} {pt:Option Value} {o:Obj} {Q:Obj→Pos→Shared→Prop} (ho:s.heap.get? a=some o) (h:Q o pos s):WT X 1 (loadPart a pt) pos s Q:=fun K H gd lv N R hN=>by
 (obtain⟨hp,g,d,tk,os⟩:=s)
 refine zc3 (cur:=.load a pt fun x=>K x) (cur':=K o) rfl rfl ?_ (hN _ _ _ h);have kP:hp.get? a=some o:=ho;simp only [step,kP]
theorem zfN {t:String} {Q:Unit→Pos→Shared→Prop} (h:Q () pos s):WT X 1 (rule t) pos s Q:=fun K H gd lv N R hN=>by
 (obtain⟨hp,g,d,tk,os⟩:=s)
 exact zc3 (cur:=.rule t fun x=>K x) (cur':=K ()) rfl rfl rfl (hN _ _ _ h)
theorem zhq {d:Addr} {pt:Option Value} {o:Obj} {es:Array DictEntry} {ep:Nat} {Q:Array DictEntry→Pos→Shared→Prop} (ho:s.heap.get? d=some o) (hd:o.data = .dict es ep) (h:Q es pos s):WT X 1 (dictEntries d pt) pos s Q:=by
 unfold dictEntries;exact zn (k:=0) (zdK ho (by rw [hd]; exact zK h))
theorem zgA {d:Addr} {pt:Option Value} {o:Obj} {es:Array DictEntry} {ep:Nat} {Q:Nat→Pos→Shared→Prop} (ho:s.heap.get? d=some o) (hd:o.data = .dict es ep) (h:Q ep pos s):WT X 1 (dictEpoch d pt) pos s Q:=by
 unfold dictEpoch;exact zn (k:=0) (zdK ho (by rw [hd]; exact zK h))
theorem zhr {γ:Type} {n:Nat} {f:γ→β→Sem (ForInStep β)} {I:β→Prop}:∀ (l:List γ) (b:β) (_:I b) (_:∀ x∈l,∀ b,I b→WT X n (f x b) pos s fun r pos' s'=>∃ b',r = .yield b'∧I b'∧pos'=pos∧s'=s),
  WT X (n*l.length) (forIn l b f) pos s fun r pos' s'=>I r∧pos'=pos∧s'=s
 | [],b,hb,_=>by
  rw [cf];exact zK ⟨hb,rfl,rfl⟩
 | x :: l,b,hb,hf=>by
  rw [bE];refine zl (n:=n+n*l.length) (zn (zl (hf x aT b hb) (ak _) ?_)) (by rw [aN,Nat.mul_succ]; lia) fun _ _ _ h=>h
  rintro r pos' s' ⟨b',er,kT,e1,e2⟩;rw [er,e1,e2];exact zhr l b' kT fun y hy=>hf y (aI _ hy)
abbrev zbq (v:α) (pos:Pos) (s:Shared):α→Pos→Shared→Prop:=fun r pos' s'=>r=v∧pos'=pos∧s'=s
theorem zmf {m:Nat} {key:Value} {stored:List Value} (hk:WT X m (eqIsQuiet 8 key) pos s (zbq true pos s)) (j3:∀ v∈stored,WT X m (eqIsQuiet 8 v) pos s (zbq true pos s)) :
  WT X (m+m*stored.length) (tableMayTell key stored) pos s (zbq false pos s):=by
 unfold tableMayTell;split
 ·exact zK ⟨rfl,rfl,rfl⟩
 ·refine zn (zl hk (ak _) ?_);rintro _ _ _ ⟨rfl,rfl,rfl⟩
  (simp only [ic,bx,if_false])
  refine zl (n:=m*stored.length+0) (zn (zl (zhr (n:=m) (I:=fun r=>r=(none,())) _ _ rfl ?_) (ak _) ?_)) #[O] fun _ _ _ h=>h
  ·rintro v hv _ rfl;refine zl (n:=m+0) (zn (zl (j3 v hv) (ak _) ?_)) #[O] fun _ _ _ h=>h
   rintro _ _ _ ⟨rfl,rfl,rfl⟩
   (simp only [ic,bx,if_false])
   exact zK ⟨_,rfl,rfl,rfl,rfl⟩
  ·rintro r _ _ ⟨rfl,rfl,rfl⟩;exact zK ⟨rfl,rfl,rfl⟩
theorem ze7 (n:Nat) (f:Nat→Option Int) (h:Int):(placesWithHash n f h).length≤n:=by
 unfold placesWithHash;exact aZ (fq _ _) (by rw [gt]; exact ak _)
theorem zmg {m:Nat} {d a:Addr} {h:Int} {o:Obj} {es:Array DictEntry} {ep:Nat} (ho:s.heap.get? d=some o) (hd:o.data = .dict es ep) (jv:∀ e∈es,e.key≠.ref a)
  (hq:WT X m (eqIsQuiet 8 (.ref a)) pos s (zbq true pos s)) (tO:∀ e∈es,WT X m (eqIsQuiet 8 e.key) pos s (zbq true pos s))
  (heq:∀ e∈es,WT X m (eqBool e.key (.ref a)) pos s (zbq false pos s)):WT X (1+(m+m*es.size)+(m+3)*es.size) (dictFind d (.ref a) h) pos s (zbq none pos s):=by
 have tP:¬ (es.any fun e=>e.key == aL a && e.hash != h)=true:=by
  (rw [← Array.any_toList,eJ])
  rintro⟨e,kC,hc⟩;rw [aF,beq_iff_eq] at hc;exact jv e (fw.mp kC) hc.1
 generalize j3:(placesWithHash es.size (fun i=>es[i]?.map (·.hash)) h).filterMap (fun i=>es[i]?.map (·.key))=st;have m7:∀ v∈st,∃ e∈es,e.key=v:=by
  intro v hv;rw [← j3] at hv
  (obtain⟨i,_,hi⟩:=dS.mp hv)
  cases mJ:es[i]? with
  | none=>rw [mJ] at hi; cases hi
  | some e=>rw [mJ] at hi; exact⟨e,fu mJ,by simpa using hi⟩
 have p9:st.length≤es.size:=by
  rw [← j3];exact aZ (List.length_filterMap_le _ _) (ze7 _ _ _)
 have m3:¬ (st == [aL a])=true:=by
  intro e;rw [beq_iff_eq] at e;obtain⟨x,hx,he⟩:=m7 (.ref a) (by rw [e]; exact bo.mpr rfl);exact jv x hx he
 unfold dictFind;refine zbp ?_;rw [Nat.add_assoc];refine zn (zhq ho hd ?_);dsimp only;rw [j3,if_neg (show ¬ ((aL a :: st).all carriedByValue)=true by simp [carriedByValue]),if_neg tP,if_neg m3];refine zn (zl (zmf hq fun v hv=>?_) (Nat.add_le_add_left (fP _ p9) _) ?_)
 ·obtain⟨e,he,rfl⟩:=m7 v hv;exact tO e he
 rintro _ _ _ ⟨rfl,rfl,rfl⟩;rw [if_neg #[M]];refine zl (n:=(m+3)*(placesWithHash es.size (fun i=>es[i]?.map (·.hash)) h).length+0) (zn (zl (zhr (n:=m+3) (I:=fun r=>r=(none,none)) _ _ rfl ?_) (ak _) ?_)) (by have:=fP (m+3) (ze7 es.size (fun i=>es[i]?.map (·.hash)) h); lia) fun _ _ _ h=>h
 ·rintro i hi _ rfl;cases mJ:es[i]? with
  | none=>exact zK ⟨_,rfl,rfl,rfl,rfl⟩
  | some e =>
   have kC:=fu mJ;dsimp only;by_cases hh:(e.hash == h)=true
   ·rw [if_pos hh];refine zl (n:=1+(m+(1+(1+0)))) (zn (zgA ho hd (zn (zl (heq e kC) (ak _) ?_)))) #[O] fun _ _ _ h=>h
    rintro _ _ _ ⟨rfl,rfl,rfl⟩;refine zn (zgA ho hd ?_);rw [if_neg #[M]]
    (simp only [bx,if_false])
    refine zn (zfN ?_);rw [if_neg #[M]];exact zK ⟨_,rfl,rfl,rfl,rfl⟩
   ·rw [if_neg hh];exact zK ⟨_,rfl,rfl,rfl,rfl⟩
 ·rintro r _ _ ⟨rfl,rfl,rfl⟩;exact zK ⟨rfl,rfl,rfl⟩
end Ht
end
section
namespace Ht
open PySem PySem.W
noncomputable def tup (x:String) (k:Tok) (n:Int) (m:Tok):Obj:={ cls:=.type "tuple",data:=.seq #[.str (bX x) k,.int n m] 0 }
noncomputable def TA (D:Obj) (P:Params):BT:=(((((((((((((g35.tree_628 P).ins 583 D).ins 584 (tup "slips" 971 1 972)).ins 585 (tup "hear" 973 2 974)).ins 586 (tup "forget" 975 1 976)).ins 587 (tup "back" 977 0 978)).ins 588 (tup "again" 979 0 980)).ins 589 (tup "row" 981 0 982)).ins 590 (tup "can" 983 0 984)).ins 591 (tup "sure" 985 1 986)).ins 592 (tup "near" 987 1 988)).ins 593 (tup "half" 989 0 990)).ins 594 (tup "reach" 991 1 992))
noncomputable abbrev X35 (p:Program) (w:World) (b:List Stmt):Cx:=⟨p,w,11,some (.ref 6),⟨0,0,0,0⟩,b,g35.env_1⟩
noncomputable abbrev SA (w:World) (D:Obj) (k:Nat) (os:OsState):SharedT:=⟨TA D w.params,595,{},⟨[]⟩,{},k,os⟩
noncomputable abbrev DD (es:Array DictEntry) (ep:Nat):Obj:={ cls:=.type "dict",data:=.dict es ep }
noncomputable def th (P:Params) (x:String) (n:Int):Int:=Builtin.Tuple.tupleHashOf [reduceHash (P.strHash (bX x).cps),n]
theorem zg {X:Cx} {α:Type} {n:Nat} {m:Sem α} {S S':SharedT} {a:α} {pos pos':Pos}
  (h:∀ (K:α→Sem Fin) (H:Value→Sem Fin) (gd:Bool→Bool) (lv:List Value→List Value),Fast.tw10295753902157049106 Fast.tw14364793385576792824 X.p X.w X.n₀ X.ann 1 n S ⟨m.wrap K H gd lv,X.c,pos,X.B⟩=some (S',⟨K a,X.c,pos',X.B⟩)):Det X n m pos S a S' pos':=fun K H gd lv=>by
 rw [Fast.te10295753902157049106,Fast.te14364793385576792824]; exact h K H gd lv
section
variable {p:Program} {w:World} {b:List Stmt} {D:Obj} {k:Nat} {os:OsState} {pos:Pos}
abbrev zL {α:Type} (p:Program) (w:World) (b:List Stmt) (n:Nat) (m:Sem α) (pos:Pos) (S:World→SharedT) (a:World→α) (S':World→SharedT):Prop:=Det (X35 p w b) n m pos (S w) (a w) (S' w) pos
theorem zw {α:Type} {n:Nat} {m:Sem α} {S S':World→SharedT} {a:World→α} (hf:∀ w:World,zL p (w.withFollow "special-get-raises" false) b n m pos S a S') (ht:∀ w:World,zL p (w.withFollow "special-get-raises" true) b n m pos S a S') (w:World):zL p w b n m pos S a S' :=
 byRow2 "special-get-raises" (P:=fun w=>zL p w b n m pos S a S') hf ht w
theorem zeg:Det (X35 p w b) 3 (eqIsQuiet 8 (.ref 584)) pos (SA w D k os) true (SA w D k os) pos:=zg fun _ _ _ _=>by kernel_rfl
theorem zo2:Det (X35 p w b) 1 (cRoomFor "hash" [.ref 584]) pos (SA w D k os) () (SA w D k os) pos:=zg fun _ _ _ _=>by kernel_rfl
theorem zo3:Det (X35 p w b) 1 (specialOf (.ref 584) "__hash__") pos (SA w D k os) (some (.builtin "tuple.__hash__")) (SA w D k os) pos:=zg fun _ _ _ _=>by kernel_rfl
theorem zo4 (r:Sem Value) (w:World):zL p w b 20 (callSpecialIfBoundUnlessNone? (.ref 584) "__hash__" r) pos (fun w=>SA w D k os) (fun w=>some (.int (th w.params "slips" 1) (k+2))) (fun w=>SA w D (k+3) os) :=
 zw (fun w=>zg fun _ _ _ _=>by kernel_rfl) (fun w=>zg fun _ _ _ _=>by kernel_rfl) w
theorem zez:Det (X35 p w b) 3 (eqIsQuiet 8 (.ref 585)) pos (SA w D k os) true (SA w D k os) pos:=zg fun _ _ _ _=>by kernel_rfl
theorem zo5:Det (X35 p w b) 1 (cRoomFor "hash" [.ref 585]) pos (SA w D k os) () (SA w D k os) pos:=zg fun _ _ _ _=>by kernel_rfl
theorem zo6:Det (X35 p w b) 1 (specialOf (.ref 585) "__hash__") pos (SA w D k os) (some (.builtin "tuple.__hash__")) (SA w D k os) pos:=zg fun _ _ _ _=>by kernel_rfl
theorem zo7 (r:Sem Value) (w:World):zL p w b 20 (callSpecialIfBoundUnlessNone? (.ref 585) "__hash__" r) pos (fun w=>SA w D k os) (fun w=>some (.int (th w.params "hear" 2) (k+2))) (fun w=>SA w D (k+3) os) :=
 zw (fun w=>zg fun _ _ _ _=>by kernel_rfl) (fun w=>zg fun _ _ _ _=>by kernel_rfl) w
theorem zfO:Det (X35 p w b) 3 (eqIsQuiet 8 (.ref 586)) pos (SA w D k os) true (SA w D k os) pos:=zg fun _ _ _ _=>by kernel_rfl
theorem zo8:Det (X35 p w b) 1 (cRoomFor "hash" [.ref 586]) pos (SA w D k os) () (SA w D k os) pos:=zg fun _ _ _ _=>by kernel_rfl
theorem zo9:Det (X35 p w b) 1 (specialOf (.ref 586) "__hash__") pos (SA w D k os) (some (.builtin "tuple.__hash__")) (SA w D k os) pos:=zg fun _ _ _ _=>by kernel_rfl
theorem zpa (r:Sem Value) (w:World):zL p w b 20 (callSpecialIfBoundUnlessNone? (.ref 586) "__hash__" r) pos (fun w=>SA w D k os) (fun w=>some (.int (th w.params "forget" 1) (k+2))) (fun w=>SA w D (k+3) os) :=
 zw (fun w=>zg fun _ _ _ _=>by kernel_rfl) (fun w=>zg fun _ _ _ _=>by kernel_rfl) w
theorem zgB:Det (X35 p w b) 3 (eqIsQuiet 8 (.ref 587)) pos (SA w D k os) true (SA w D k os) pos:=zg fun _ _ _ _=>by kernel_rfl
theorem zpb:Det (X35 p w b) 1 (cRoomFor "hash" [.ref 587]) pos (SA w D k os) () (SA w D k os) pos:=zg fun _ _ _ _=>by kernel_rfl
theorem zpc:Det (X35 p w b) 1 (specialOf (.ref 587) "__hash__") pos (SA w D k os) (some (.builtin "tuple.__hash__")) (SA w D k os) pos:=zg fun _ _ _ _=>by kernel_rfl
theorem zpd (r:Sem Value) (w:World):zL p w b 20 (callSpecialIfBoundUnlessNone? (.ref 587) "__hash__" r) pos (fun w=>SA w D k os) (fun w=>some (.int (th w.params "back" 0) (k+2))) (fun w=>SA w D (k+3) os) :=
 zw (fun w=>zg fun _ _ _ _=>by kernel_rfl) (fun w=>zg fun _ _ _ _=>by kernel_rfl) w
theorem zhs:Det (X35 p w b) 3 (eqIsQuiet 8 (.ref 588)) pos (SA w D k os) true (SA w D k os) pos:=zg fun _ _ _ _=>by kernel_rfl
theorem zpe:Det (X35 p w b) 1 (cRoomFor "hash" [.ref 588]) pos (SA w D k os) () (SA w D k os) pos:=zg fun _ _ _ _=>by kernel_rfl
theorem zpf:Det (X35 p w b) 1 (specialOf (.ref 588) "__hash__") pos (SA w D k os) (some (.builtin "tuple.__hash__")) (SA w D k os) pos:=zg fun _ _ _ _=>by kernel_rfl
theorem zpg (r:Sem Value) (w:World):zL p w b 20 (callSpecialIfBoundUnlessNone? (.ref 588) "__hash__" r) pos (fun w=>SA w D k os) (fun w=>some (.int (th w.params "again" 0) (k+2))) (fun w=>SA w D (k+3) os) :=
 zw (fun w=>zg fun _ _ _ _=>by kernel_rfl) (fun w=>zg fun _ _ _ _=>by kernel_rfl) w
theorem ziO:Det (X35 p w b) 3 (eqIsQuiet 8 (.ref 589)) pos (SA w D k os) true (SA w D k os) pos:=zg fun _ _ _ _=>by kernel_rfl
theorem zph:Det (X35 p w b) 1 (cRoomFor "hash" [.ref 589]) pos (SA w D k os) () (SA w D k os) pos:=zg fun _ _ _ _=>by kernel_rfl
theorem zpi:Det (X35 p w b) 1 (specialOf (.ref 589) "__hash__") pos (SA w D k os) (some (.builtin "tuple.__hash__")) (SA w D k os) pos:=zg fun _ _ _ _=>by kernel_rfl
theorem zpj (r:Sem Value) (w:World):zL p w b 20 (callSpecialIfBoundUnlessNone? (.ref 589) "__hash__" r) pos (fun w=>SA w D k os) (fun w=>some (.int (th w.params "row" 0) (k+2))) (fun w=>SA w D (k+3) os) :=
 zw (fun w=>zg fun _ _ _ _=>by kernel_rfl) (fun w=>zg fun _ _ _ _=>by kernel_rfl) w
theorem zkf:Det (X35 p w b) 3 (eqIsQuiet 8 (.ref 590)) pos (SA w D k os) true (SA w D k os) pos:=zg fun _ _ _ _=>by kernel_rfl
theorem zpk:Det (X35 p w b) 1 (cRoomFor "hash" [.ref 590]) pos (SA w D k os) () (SA w D k os) pos:=zg fun _ _ _ _=>by kernel_rfl
theorem zpl:Det (X35 p w b) 1 (specialOf (.ref 590) "__hash__") pos (SA w D k os) (some (.builtin "tuple.__hash__")) (SA w D k os) pos:=zg fun _ _ _ _=>by kernel_rfl
theorem zpm (r:Sem Value) (w:World):zL p w b 20 (callSpecialIfBoundUnlessNone? (.ref 590) "__hash__" r) pos (fun w=>SA w D k os) (fun w=>some (.int (th w.params "can" 0) (k+2))) (fun w=>SA w D (k+3) os) :=
 zw (fun w=>zg fun _ _ _ _=>by kernel_rfl) (fun w=>zg fun _ _ _ _=>by kernel_rfl) w
theorem zmh:Det (X35 p w b) 3 (eqIsQuiet 8 (.ref 591)) pos (SA w D k os) true (SA w D k os) pos:=zg fun _ _ _ _=>by kernel_rfl
theorem zpn:Det (X35 p w b) 1 (cRoomFor "hash" [.ref 591]) pos (SA w D k os) () (SA w D k os) pos:=zg fun _ _ _ _=>by kernel_rfl
theorem zpo:Det (X35 p w b) 1 (specialOf (.ref 591) "__hash__") pos (SA w D k os) (some (.builtin "tuple.__hash__")) (SA w D k os) pos:=zg fun _ _ _ _=>by kernel_rfl
theorem zpp (r:Sem Value) (w:World):zL p w b 20 (callSpecialIfBoundUnlessNone? (.ref 591) "__hash__" r) pos (fun w=>SA w D k os) (fun w=>some (.int (th w.params "sure" 1) (k+2))) (fun w=>SA w D (k+3) os) :=
 zw (fun w=>zg fun _ _ _ _=>by kernel_rfl) (fun w=>zg fun _ _ _ _=>by kernel_rfl) w
theorem znB:Det (X35 p w b) 3 (eqIsQuiet 8 (.ref 592)) pos (SA w D k os) true (SA w D k os) pos:=zg fun _ _ _ _=>by kernel_rfl
theorem zpq:Det (X35 p w b) 1 (cRoomFor "hash" [.ref 592]) pos (SA w D k os) () (SA w D k os) pos:=zg fun _ _ _ _=>by kernel_rfl
theorem zpr:Det (X35 p w b) 1 (specialOf (.ref 592) "__hash__") pos (SA w D k os) (some (.builtin "tuple.__hash__")) (SA w D k os) pos:=zg fun _ _ _ _=>by kernel_rfl
theorem zps (r:Sem Value) (w:World):zL p w b 20 (callSpecialIfBoundUnlessNone? (.ref 592) "__hash__" r) pos (fun w=>SA w D k os) (fun w=>some (.int (th w.params "near" 1) (k+2))) (fun w=>SA w D (k+3) os) :=
 zw (fun w=>zg fun _ _ _ _=>by kernel_rfl) (fun w=>zg fun _ _ _ _=>by kernel_rfl) w
theorem zox:Det (X35 p w b) 3 (eqIsQuiet 8 (.ref 593)) pos (SA w D k os) true (SA w D k os) pos:=zg fun _ _ _ _=>by kernel_rfl
theorem zpt:Det (X35 p w b) 1 (cRoomFor "hash" [.ref 593]) pos (SA w D k os) () (SA w D k os) pos:=zg fun _ _ _ _=>by kernel_rfl
theorem zpu:Det (X35 p w b) 1 (specialOf (.ref 593) "__hash__") pos (SA w D k os) (some (.builtin "tuple.__hash__")) (SA w D k os) pos:=zg fun _ _ _ _=>by kernel_rfl
theorem zpv (r:Sem Value) (w:World):zL p w b 20 (callSpecialIfBoundUnlessNone? (.ref 593) "__hash__" r) pos (fun w=>SA w D k os) (fun w=>some (.int (th w.params "half" 0) (k+2))) (fun w=>SA w D (k+3) os) :=
 zw (fun w=>zg fun _ _ _ _=>by kernel_rfl) (fun w=>zg fun _ _ _ _=>by kernel_rfl) w
theorem zpw:Det (X35 p w b) 3 (eqIsQuiet 8 (.ref 594)) pos (SA w D k os) true (SA w D k os) pos:=zg fun _ _ _ _=>by kernel_rfl
theorem zpx:Det (X35 p w b) 1 (cRoomFor "hash" [.ref 594]) pos (SA w D k os) () (SA w D k os) pos:=zg fun _ _ _ _=>by kernel_rfl
theorem zpy:Det (X35 p w b) 1 (specialOf (.ref 594) "__hash__") pos (SA w D k os) (some (.builtin "tuple.__hash__")) (SA w D k os) pos:=zg fun _ _ _ _=>by kernel_rfl
theorem zpz (r:Sem Value) (w:World):zL p w b 20 (callSpecialIfBoundUnlessNone? (.ref 594) "__hash__" r) pos (fun w=>SA w D k os) (fun w=>some (.int (th w.params "reach" 1) (k+2))) (fun w=>SA w D (k+3) os) :=
 zw (fun w=>zg fun _ _ _ _=>by kernel_rfl) (fun w=>zg fun _ _ _ _=>by kernel_rfl) w
theorem zkg (w:World):zL p w b 16 (eqBool (.ref 584) (.ref 585)) pos (fun w=>SA w D k os) (fun _=>false) (fun w=>SA w D k os) :=
 zw (fun w=>zg fun _ _ _ _=>by kernel_rfl) (fun w=>zg fun _ _ _ _=>by kernel_rfl) w
theorem zkh (w:World):zL p w b 16 (eqBool (.ref 584) (.ref 586)) pos (fun w=>SA w D k os) (fun _=>false) (fun w=>SA w D k os) :=
 zw (fun w=>zg fun _ _ _ _=>by kernel_rfl) (fun w=>zg fun _ _ _ _=>by kernel_rfl) w
theorem zki (w:World):zL p w b 16 (eqBool (.ref 585) (.ref 586)) pos (fun w=>SA w D k os) (fun _=>false) (fun w=>SA w D k os) :=
 zw (fun w=>zg fun _ _ _ _=>by kernel_rfl) (fun w=>zg fun _ _ _ _=>by kernel_rfl) w
theorem zkj (w:World):zL p w b 16 (eqBool (.ref 584) (.ref 587)) pos (fun w=>SA w D k os) (fun _=>false) (fun w=>SA w D k os) :=
 zw (fun w=>zg fun _ _ _ _=>by kernel_rfl) (fun w=>zg fun _ _ _ _=>by kernel_rfl) w
theorem zkk (w:World):zL p w b 16 (eqBool (.ref 585) (.ref 587)) pos (fun w=>SA w D k os) (fun _=>false) (fun w=>SA w D k os) :=
 zw (fun w=>zg fun _ _ _ _=>by kernel_rfl) (fun w=>zg fun _ _ _ _=>by kernel_rfl) w
theorem zkl (w:World):zL p w b 16 (eqBool (.ref 586) (.ref 587)) pos (fun w=>SA w D k os) (fun _=>false) (fun w=>SA w D k os) :=
 zw (fun w=>zg fun _ _ _ _=>by kernel_rfl) (fun w=>zg fun _ _ _ _=>by kernel_rfl) w
theorem zkm (w:World):zL p w b 16 (eqBool (.ref 584) (.ref 588)) pos (fun w=>SA w D k os) (fun _=>false) (fun w=>SA w D k os) :=
 zw (fun w=>zg fun _ _ _ _=>by kernel_rfl) (fun w=>zg fun _ _ _ _=>by kernel_rfl) w
theorem zkn (w:World):zL p w b 16 (eqBool (.ref 585) (.ref 588)) pos (fun w=>SA w D k os) (fun _=>false) (fun w=>SA w D k os) :=
 zw (fun w=>zg fun _ _ _ _=>by kernel_rfl) (fun w=>zg fun _ _ _ _=>by kernel_rfl) w
theorem zko (w:World):zL p w b 16 (eqBool (.ref 586) (.ref 588)) pos (fun w=>SA w D k os) (fun _=>false) (fun w=>SA w D k os) :=
 zw (fun w=>zg fun _ _ _ _=>by kernel_rfl) (fun w=>zg fun _ _ _ _=>by kernel_rfl) w
theorem zkp (w:World):zL p w b 16 (eqBool (.ref 587) (.ref 588)) pos (fun w=>SA w D k os) (fun _=>false) (fun w=>SA w D k os) :=
 zw (fun w=>zg fun _ _ _ _=>by kernel_rfl) (fun w=>zg fun _ _ _ _=>by kernel_rfl) w
theorem zkq (w:World):zL p w b 16 (eqBool (.ref 584) (.ref 589)) pos (fun w=>SA w D k os) (fun _=>false) (fun w=>SA w D k os) :=
 zw (fun w=>zg fun _ _ _ _=>by kernel_rfl) (fun w=>zg fun _ _ _ _=>by kernel_rfl) w
theorem zkr (w:World):zL p w b 16 (eqBool (.ref 585) (.ref 589)) pos (fun w=>SA w D k os) (fun _=>false) (fun w=>SA w D k os) :=
 zw (fun w=>zg fun _ _ _ _=>by kernel_rfl) (fun w=>zg fun _ _ _ _=>by kernel_rfl) w
theorem zks (w:World):zL p w b 16 (eqBool (.ref 586) (.ref 589)) pos (fun w=>SA w D k os) (fun _=>false) (fun w=>SA w D k os) :=
 zw (fun w=>zg fun _ _ _ _=>by kernel_rfl) (fun w=>zg fun _ _ _ _=>by kernel_rfl) w
theorem zkt (w:World):zL p w b 16 (eqBool (.ref 587) (.ref 589)) pos (fun w=>SA w D k os) (fun _=>false) (fun w=>SA w D k os) :=
 zw (fun w=>zg fun _ _ _ _=>by kernel_rfl) (fun w=>zg fun _ _ _ _=>by kernel_rfl) w
theorem zku (w:World):zL p w b 16 (eqBool (.ref 588) (.ref 589)) pos (fun w=>SA w D k os) (fun _=>false) (fun w=>SA w D k os) :=
 zw (fun w=>zg fun _ _ _ _=>by kernel_rfl) (fun w=>zg fun _ _ _ _=>by kernel_rfl) w
theorem zkv (w:World):zL p w b 16 (eqBool (.ref 584) (.ref 590)) pos (fun w=>SA w D k os) (fun _=>false) (fun w=>SA w D k os) :=
 zw (fun w=>zg fun _ _ _ _=>by kernel_rfl) (fun w=>zg fun _ _ _ _=>by kernel_rfl) w
theorem zkw (w:World):zL p w b 16 (eqBool (.ref 585) (.ref 590)) pos (fun w=>SA w D k os) (fun _=>false) (fun w=>SA w D k os) :=
 zw (fun w=>zg fun _ _ _ _=>by kernel_rfl) (fun w=>zg fun _ _ _ _=>by kernel_rfl) w
theorem zkx (w:World):zL p w b 16 (eqBool (.ref 586) (.ref 590)) pos (fun w=>SA w D k os) (fun _=>false) (fun w=>SA w D k os) :=
 zw (fun w=>zg fun _ _ _ _=>by kernel_rfl) (fun w=>zg fun _ _ _ _=>by kernel_rfl) w
theorem zky (w:World):zL p w b 16 (eqBool (.ref 587) (.ref 590)) pos (fun w=>SA w D k os) (fun _=>false) (fun w=>SA w D k os) :=
 zw (fun w=>zg fun _ _ _ _=>by kernel_rfl) (fun w=>zg fun _ _ _ _=>by kernel_rfl) w
theorem zkz (w:World):zL p w b 16 (eqBool (.ref 588) (.ref 590)) pos (fun w=>SA w D k os) (fun _=>false) (fun w=>SA w D k os) :=
 zw (fun w=>zg fun _ _ _ _=>by kernel_rfl) (fun w=>zg fun _ _ _ _=>by kernel_rfl) w
theorem zkA (w:World):zL p w b 16 (eqBool (.ref 589) (.ref 590)) pos (fun w=>SA w D k os) (fun _=>false) (fun w=>SA w D k os) :=
 zw (fun w=>zg fun _ _ _ _=>by kernel_rfl) (fun w=>zg fun _ _ _ _=>by kernel_rfl) w
theorem zkB (w:World):zL p w b 16 (eqBool (.ref 584) (.ref 591)) pos (fun w=>SA w D k os) (fun _=>false) (fun w=>SA w D k os) :=
 zw (fun w=>zg fun _ _ _ _=>by kernel_rfl) (fun w=>zg fun _ _ _ _=>by kernel_rfl) w
theorem zkC (w:World):zL p w b 16 (eqBool (.ref 585) (.ref 591)) pos (fun w=>SA w D k os) (fun _=>false) (fun w=>SA w D k os) :=
 zw (fun w=>zg fun _ _ _ _=>by kernel_rfl) (fun w=>zg fun _ _ _ _=>by kernel_rfl) w
theorem zkD (w:World):zL p w b 16 (eqBool (.ref 586) (.ref 591)) pos (fun w=>SA w D k os) (fun _=>false) (fun w=>SA w D k os) :=
 zw (fun w=>zg fun _ _ _ _=>by kernel_rfl) (fun w=>zg fun _ _ _ _=>by kernel_rfl) w
theorem zkE (w:World):zL p w b 16 (eqBool (.ref 587) (.ref 591)) pos (fun w=>SA w D k os) (fun _=>false) (fun w=>SA w D k os) :=
 zw (fun w=>zg fun _ _ _ _=>by kernel_rfl) (fun w=>zg fun _ _ _ _=>by kernel_rfl) w
theorem zkF (w:World):zL p w b 16 (eqBool (.ref 588) (.ref 591)) pos (fun w=>SA w D k os) (fun _=>false) (fun w=>SA w D k os) :=
 zw (fun w=>zg fun _ _ _ _=>by kernel_rfl) (fun w=>zg fun _ _ _ _=>by kernel_rfl) w
theorem zkG (w:World):zL p w b 16 (eqBool (.ref 589) (.ref 591)) pos (fun w=>SA w D k os) (fun _=>false) (fun w=>SA w D k os) :=
 zw (fun w=>zg fun _ _ _ _=>by kernel_rfl) (fun w=>zg fun _ _ _ _=>by kernel_rfl) w
theorem zkH (w:World):zL p w b 16 (eqBool (.ref 590) (.ref 591)) pos (fun w=>SA w D k os) (fun _=>false) (fun w=>SA w D k os) :=
 zw (fun w=>zg fun _ _ _ _=>by kernel_rfl) (fun w=>zg fun _ _ _ _=>by kernel_rfl) w
theorem zkI (w:World):zL p w b 16 (eqBool (.ref 584) (.ref 592)) pos (fun w=>SA w D k os) (fun _=>false) (fun w=>SA w D k os) :=
 zw (fun w=>zg fun _ _ _ _=>by kernel_rfl) (fun w=>zg fun _ _ _ _=>by kernel_rfl) w
theorem zkJ (w:World):zL p w b 16 (eqBool (.ref 585) (.ref 592)) pos (fun w=>SA w D k os) (fun _=>false) (fun w=>SA w D k os) :=
 zw (fun w=>zg fun _ _ _ _=>by kernel_rfl) (fun w=>zg fun _ _ _ _=>by kernel_rfl) w
theorem zkK (w:World):zL p w b 16 (eqBool (.ref 586) (.ref 592)) pos (fun w=>SA w D k os) (fun _=>false) (fun w=>SA w D k os) :=
 zw (fun w=>zg fun _ _ _ _=>by kernel_rfl) (fun w=>zg fun _ _ _ _=>by kernel_rfl) w
theorem zkL (w:World):zL p w b 16 (eqBool (.ref 587) (.ref 592)) pos (fun w=>SA w D k os) (fun _=>false) (fun w=>SA w D k os) :=
 zw (fun w=>zg fun _ _ _ _=>by kernel_rfl) (fun w=>zg fun _ _ _ _=>by kernel_rfl) w
theorem zkM (w:World):zL p w b 16 (eqBool (.ref 588) (.ref 592)) pos (fun w=>SA w D k os) (fun _=>false) (fun w=>SA w D k os) :=
 zw (fun w=>zg fun _ _ _ _=>by kernel_rfl) (fun w=>zg fun _ _ _ _=>by kernel_rfl) w
theorem zkN (w:World):zL p w b 16 (eqBool (.ref 589) (.ref 592)) pos (fun w=>SA w D k os) (fun _=>false) (fun w=>SA w D k os) :=
 zw (fun w=>zg fun _ _ _ _=>by kernel_rfl) (fun w=>zg fun _ _ _ _=>by kernel_rfl) w
theorem zkO (w:World):zL p w b 16 (eqBool (.ref 590) (.ref 592)) pos (fun w=>SA w D k os) (fun _=>false) (fun w=>SA w D k os) :=
 zw (fun w=>zg fun _ _ _ _=>by kernel_rfl) (fun w=>zg fun _ _ _ _=>by kernel_rfl) w
theorem zkP (w:World):zL p w b 16 (eqBool (.ref 591) (.ref 592)) pos (fun w=>SA w D k os) (fun _=>false) (fun w=>SA w D k os) :=
 zw (fun w=>zg fun _ _ _ _=>by kernel_rfl) (fun w=>zg fun _ _ _ _=>by kernel_rfl) w
theorem zkQ (w:World):zL p w b 16 (eqBool (.ref 584) (.ref 593)) pos (fun w=>SA w D k os) (fun _=>false) (fun w=>SA w D k os) :=
 zw (fun w=>zg fun _ _ _ _=>by kernel_rfl) (fun w=>zg fun _ _ _ _=>by kernel_rfl) w
theorem zkR (w:World):zL p w b 16 (eqBool (.ref 585) (.ref 593)) pos (fun w=>SA w D k os) (fun _=>false) (fun w=>SA w D k os) :=
 zw (fun w=>zg fun _ _ _ _=>by kernel_rfl) (fun w=>zg fun _ _ _ _=>by kernel_rfl) w
theorem zkS (w:World):zL p w b 16 (eqBool (.ref 586) (.ref 593)) pos (fun w=>SA w D k os) (fun _=>false) (fun w=>SA w D k os) :=
 zw (fun w=>zg fun _ _ _ _=>by kernel_rfl) (fun w=>zg fun _ _ _ _=>by kernel_rfl) w
theorem zkT (w:World):zL p w b 16 (eqBool (.ref 587) (.ref 593)) pos (fun w=>SA w D k os) (fun _=>false) (fun w=>SA w D k os) :=
 zw (fun w=>zg fun _ _ _ _=>by kernel_rfl) (fun w=>zg fun _ _ _ _=>by kernel_rfl) w
theorem zkU (w:World):zL p w b 16 (eqBool (.ref 588) (.ref 593)) pos (fun w=>SA w D k os) (fun _=>false) (fun w=>SA w D k os) :=
 zw (fun w=>zg fun _ _ _ _=>by kernel_rfl) (fun w=>zg fun _ _ _ _=>by kernel_rfl) w
theorem zkV (w:World):zL p w b 16 (eqBool (.ref 589) (.ref 593)) pos (fun w=>SA w D k os) (fun _=>false) (fun w=>SA w D k os) :=
 zw (fun w=>zg fun _ _ _ _=>by kernel_rfl) (fun w=>zg fun _ _ _ _=>by kernel_rfl) w
theorem zkW (w:World):zL p w b 16 (eqBool (.ref 590) (.ref 593)) pos (fun w=>SA w D k os) (fun _=>false) (fun w=>SA w D k os) :=
 zw (fun w=>zg fun _ _ _ _=>by kernel_rfl) (fun w=>zg fun _ _ _ _=>by kernel_rfl) w
theorem zkX (w:World):zL p w b 16 (eqBool (.ref 591) (.ref 593)) pos (fun w=>SA w D k os) (fun _=>false) (fun w=>SA w D k os) :=
 zw (fun w=>zg fun _ _ _ _=>by kernel_rfl) (fun w=>zg fun _ _ _ _=>by kernel_rfl) w
theorem zkY (w:World):zL p w b 16 (eqBool (.ref 592) (.ref 593)) pos (fun w=>SA w D k os) (fun _=>false) (fun w=>SA w D k os) :=
 zw (fun w=>zg fun _ _ _ _=>by kernel_rfl) (fun w=>zg fun _ _ _ _=>by kernel_rfl) w
theorem zkZ (w:World):zL p w b 16 (eqBool (.ref 584) (.ref 594)) pos (fun w=>SA w D k os) (fun _=>false) (fun w=>SA w D k os) :=
 zw (fun w=>zg fun _ _ _ _=>by kernel_rfl) (fun w=>zg fun _ _ _ _=>by kernel_rfl) w
theorem zk0 (w:World):zL p w b 16 (eqBool (.ref 585) (.ref 594)) pos (fun w=>SA w D k os) (fun _=>false) (fun w=>SA w D k os) :=
 zw (fun w=>zg fun _ _ _ _=>by kernel_rfl) (fun w=>zg fun _ _ _ _=>by kernel_rfl) w
theorem zk1 (w:World):zL p w b 16 (eqBool (.ref 586) (.ref 594)) pos (fun w=>SA w D k os) (fun _=>false) (fun w=>SA w D k os) :=
 zw (fun w=>zg fun _ _ _ _=>by kernel_rfl) (fun w=>zg fun _ _ _ _=>by kernel_rfl) w
theorem zk2 (w:World):zL p w b 16 (eqBool (.ref 587) (.ref 594)) pos (fun w=>SA w D k os) (fun _=>false) (fun w=>SA w D k os) :=
 zw (fun w=>zg fun _ _ _ _=>by kernel_rfl) (fun w=>zg fun _ _ _ _=>by kernel_rfl) w
theorem zk3 (w:World):zL p w b 16 (eqBool (.ref 588) (.ref 594)) pos (fun w=>SA w D k os) (fun _=>false) (fun w=>SA w D k os) :=
 zw (fun w=>zg fun _ _ _ _=>by kernel_rfl) (fun w=>zg fun _ _ _ _=>by kernel_rfl) w
theorem zk4 (w:World):zL p w b 16 (eqBool (.ref 589) (.ref 594)) pos (fun w=>SA w D k os) (fun _=>false) (fun w=>SA w D k os) :=
 zw (fun w=>zg fun _ _ _ _=>by kernel_rfl) (fun w=>zg fun _ _ _ _=>by kernel_rfl) w
theorem zk5 (w:World):zL p w b 16 (eqBool (.ref 590) (.ref 594)) pos (fun w=>SA w D k os) (fun _=>false) (fun w=>SA w D k os) :=
 zw (fun w=>zg fun _ _ _ _=>by kernel_rfl) (fun w=>zg fun _ _ _ _=>by kernel_rfl) w
theorem zk6 (w:World):zL p w b 16 (eqBool (.ref 591) (.ref 594)) pos (fun w=>SA w D k os) (fun _=>false) (fun w=>SA w D k os) :=
 zw (fun w=>zg fun _ _ _ _=>by kernel_rfl) (fun w=>zg fun _ _ _ _=>by kernel_rfl) w
theorem zk7 (w:World):zL p w b 16 (eqBool (.ref 592) (.ref 594)) pos (fun w=>SA w D k os) (fun _=>false) (fun w=>SA w D k os) :=
 zw (fun w=>zg fun _ _ _ _=>by kernel_rfl) (fun w=>zg fun _ _ _ _=>by kernel_rfl) w
theorem zk8 (w:World):zL p w b 16 (eqBool (.ref 593) (.ref 594)) pos (fun w=>SA w D k os) (fun _=>false) (fun w=>SA w D k os) :=
 zw (fun w=>zg fun _ _ _ _=>by kernel_rfl) (fun w=>zg fun _ _ _ _=>by kernel_rfl) w
end
end Ht
end
section
namespace Ht
open PySem PySem.W
section
variable {X:Cx} {s:Shared} {pos:Pos}
theorem ziP {a:Addr} {pt:Option Value} {f:Obj→Obj} {o:Obj} {Q:Unit→Pos→Shared→Prop} (hn:hJ X.n₀ a=true) (ho:s.heap.get? a=some o) (h:Q () pos { s with heap:=s.heap.update a f }):WT X 1 (updatePart a pt f) pos s Q:=fun K H gd lv N R hN=>by
 (obtain⟨hp,g,d,tk,os⟩:=s)
 refine zc3 (cur:=.update a pt f fun x=>K x) (cur':=K ()) rfl ?_ ?_ (hN _ _ _ h)
 ·show (_ && (_ || _ || _ || _))=true;rw [hn]; rfl
 ·have kP:(hp.get? a).isSome=true:=by show (gw ⟨hp,g,d,tk,os⟩ |>.get? a).isSome=true; rw [ho]; rfl
  simp only [step,kP,if_true]
theorem zht {i:Int}:WT X 1 (eO i) pos s (zbq (reduceHash i) pos s):=by
 unfold eO reduceHash;split
 ·exact zK ⟨rfl,rfl,rfl⟩
 ·refine zl (n:=1+0) (zn (zfN (zK ?_))) (ak _) fun _ _ _ h=>h
  exact⟨rfl,rfl,rfl⟩
theorem zeh {p':Pos} {Q:Unit→Pos→Shared→Prop} (h:Q () p' s):WT X 1 (standAt p') pos s Q:=fun K H gd lv N R hN=>by
 (obtain⟨hp,g,d,tk,os⟩:=s)
 exact zc3 (cur:=.at p' fun x=>K x) (cur':=K ()) rfl rfl rfl (hN _ _ _ h)
theorem zk9 {o:Obj} {Q:Addr→Pos→Shared→Prop} (h:Q s.heap.objs.size pos { s with heap:=s.heap.push o }):WT X 1 (alloc o) pos s Q:=fun K H gd lv N R hN=>by
 (obtain⟨hp,g,d,tk,os⟩:=s)
 exact zc3 (cur:=.alloc o fun x=>K x) (cur':=K hp.objs.size) rfl rfl rfl (hN _ _ _ h)
theorem zaU {γ β:Type} {n k:Nat} {x:γ} {l:List γ} {b:β} {f:γ→β→Sem (ForInStep β)} {Q:β→Pos→Shared→Prop} (h:WT X n (f x b) pos s fun r pos' s'=>∃ b',r = .yield b'∧WT X k (forIn l b' f) pos' s' Q) :
  WT X (n+k) (forIn (x :: l) b f) pos s Q:=by
 rw [bE];refine zn (zl h (ak _) ?_);rintro r pos' s' ⟨b',rfl,h'⟩;exact h'
theorem zmi {d:Addr} {pt:Option Value} {f:Array DictEntry→Array DictEntry} {c:Value} {dc:Option Addr} {sl:Array (Option Value)} {es:Array DictEntry} {ep:Nat} {Q:Unit→Pos→Shared→Prop} (hn:hJ X.n₀ d=true) (ho:s.heap.get? d=some ⟨c,dc,.dict es ep,sl⟩)
  (hz:(f es).size≤sizeLine+1) (h:Q () pos { s with heap:=s.heap.update d (eX f) }):WT X 3 (updateDictKeys d f pt) pos s Q:=by
 unfold updateDictKeys;refine zl (n:=1+(1+(1+0))) (zn (zdK ho ?_)) (ak _) fun _ _ _ h=>h
 dsimp only;refine zn (ziP hn ho ?_);unfold lookBehind;refine zn (zdK (o:=⟨c,dc,.dict (f es) (ep+1),sl⟩) ?_ ?_)
 ·exact dm _ ho rfl
 ·have e:(Data.dict (f es) (ep+1)).pastItsLine=none:=if_neg #[O];dsimp only;rw [e];exact zK h
end
section
variable {p:Program} {w:World} {b:List Stmt} {es:Array DictEntry} {ep k:Nat} {os:OsState} {pos:Pos}
theorem znC (D:Obj) (f:Obj→Obj) (P:Params):(TA D P).set 583 f=TA (f D) P:=by kernel_rfl
theorem zla (D:Obj) (P:Params):(TA D P).get 583=some D:=by kernel_rfl
theorem zlb:(SA w (DD es ep) k os).abs.heap.get? 583=some (DD es ep) :=
 (abs_get (show 583 < 595 by decide) (zla _ _)).trans rfl
theorem znD {f:Array DictEntry→Array DictEntry}:{ (SA w (DD es ep) k os).abs with heap:=(SA w (DD es ep) k os).abs.heap.update 583 (eX f) }=(SA w (DD (f es) (ep+1)) k os).abs:=by
 have e:=absHeap_set (n:=595) (life:={}) (f:=eX f) (zla (DD es ep) w.params);rw [znC] at e;show d7 _ _ _ _ _=d7 _ _ _ _ _;exact congrArg (fun h=>d7 h ⟨[]⟩ {} k os) e.symm
theorem zmj {a:Addr} {i:Int} (hr:Det (X35 p w b) 1 (cRoomFor "hash" [.ref a]) pos (SA w (DD es ep) k os) () (SA w (DD es ep) k os) pos)
  (hs:Det (X35 p w b) 1 (specialOf (.ref a) "__hash__") pos (SA w (DD es ep) k os) (some (.builtin "tuple.__hash__")) (SA w (DD es ep) k os) pos)
  (hc:∀ r,Det (X35 p w b) 20 (callSpecialIfBoundUnlessNone? (.ref a) "__hash__" r) pos (SA w (DD es ep) k os) (some (.int i (k+2))) (SA w (DD es ep) (k+3) os) pos) :
  WT (X35 p w b) 24 (pyHash (.ref a)) pos (SA w (DD es ep) k os).abs (zbq (reduceHash i) pos (SA w (DD es ep) (k+3) os).abs):=by
 show WT _ _ (pyHashByItsType (.ref a)) _ _ _;unfold pyHashByItsType;refine zl (n:=1+(1+(1+(20+1)))) (zn (zbV hr ?_)) (ak _) fun _ _ _ h=>h
 refine zn (zbV hs ?_);rw [if_neg #[D]];refine zn (zbV hs ?_);rw [if_neg #[D]];exact zn (zbV (hc _) zht)
theorem zbr {a:Addr} {i:Int} {v:Value} (hr:Det (X35 p w b) 1 (cRoomFor "hash" [.ref a]) pos (SA w (DD es ep) k os) () (SA w (DD es ep) k os) pos)
  (hs:Det (X35 p w b) 1 (specialOf (.ref a) "__hash__") pos (SA w (DD es ep) k os) (some (.builtin "tuple.__hash__")) (SA w (DD es ep) k os) pos)
  (hc:∀ r,Det (X35 p w b) 20 (callSpecialIfBoundUnlessNone? (.ref a) "__hash__" r) pos (SA w (DD es ep) k os) (some (.int i (k+2))) (SA w (DD es ep) (k+3) os) pos)
  (hq:Det (X35 p w b) 3 (eqIsQuiet 8 (.ref a)) pos (SA w (DD es ep) (k+3) os) true (SA w (DD es ep) (k+3) os) pos)
  (tO:∀ e∈es,Det (X35 p w b) 3 (eqIsQuiet 8 e.key) pos (SA w (DD es ep) (k+3) os) true (SA w (DD es ep) (k+3) os) pos)
  (heq:∀ e∈es,Det (X35 p w b) 16 (eqBool e.key (.ref a)) pos (SA w (DD es ep) (k+3) os) false (SA w (DD es ep) (k+3) os) pos)
  (jv:∀ e∈es,e.key≠.ref a) (hz:es.size≤11) :
  WT (X35 p w b) 600 (dictSet 583 (.ref a) v) pos (SA w (DD es ep) k os).abs (zbq () pos (SA w (DD (es.push ⟨reduceHash i,.ref a,v⟩) (ep+1)) (k+3) os).abs):=by
 unfold dictSet;refine zbp ?_;refine zl (n:=24+((1+(16+16*es.size)+(16+3)*es.size)+(1+3))) (zn (zl (zmj hr hs hc) (ak _) ?_)) #[O] fun _ _ _ h=>h
 rintro _ _ _ ⟨rfl,rfl,rfl⟩;unfold dictSetHashed;refine zbp (zn (zl (zmg (m:=16) zlb rfl jv (zl (zbV hq ⟨rfl,rfl,rfl⟩) #[D] fun _ _ _ h=>h) (fun e he=>zl (zbV (tO e he) ⟨rfl,rfl,rfl⟩) #[D] fun _ _ _ h=>h) (fun e he=>zbV (heq e he) ⟨rfl,rfl,rfl⟩)) (ak _) ?_));rintro _ _ _ ⟨rfl,rfl,rfl⟩;refine zn (zfN (zmi rfl zlb ?_ ⟨rfl,rfl,znD⟩));rw [g8,aM]; lia
def zaV (l:List Addr) (es:Array DictEntry):Prop:=es.size=l.length∧∀ e∈es,∃ a∈l,e.key = .ref a
theorem zaV.nil:zaV [] #[]:=⟨rfl,fun e he=>absurd he (Array.not_mem_empty e)⟩
theorem zaV.push {l:List Addr} (h:zaV l es) {i:Int} {a:Addr} {v:Value}:zaV (l++[a]) (es.push ⟨i,.ref a,v⟩):=by
 refine⟨by rw [g8,h.1,bc]; rfl,fun e he=>?_⟩;rcases (Array.mem_push.mp he) with he | rfl
 ·obtain⟨x,hx,ex⟩:=h.2 e he;exact⟨x,aJ _ hx,ex⟩
 ·exact⟨a,ax _ (bo.mpr rfl),rfl⟩
theorem znE (h:zaV [] es):WT (X35 p w b) 600 (dictSet 583 (.ref 584) (.ref 512)) pos (SA w (DD es ep) k os).abs (zbq () pos (SA w (DD (es.push ⟨reduceHash (th w.params "slips" 1),.ref 584,.ref 512⟩) (ep+1)) (k+3) os).abs):=by
 refine zbr zo2 zo3 (fun r=>zo4 r w) zeg ?_ ?_ ?_ (by rw [h.1]; decide)
 ·exact fun e he=>by obtain⟨a,ha,ea⟩:=h.2 e he; exact nomatch ha
 ·exact fun e he=>by obtain⟨a,ha,ea⟩:=h.2 e he; exact nomatch ha
 ·exact fun e he=>by obtain⟨a,ha,ea⟩:=h.2 e he; exact nomatch ha
theorem znF (h:zaV [584] es):WT (X35 p w b) 600 (dictSet 583 (.ref 585) (.ref 519)) pos (SA w (DD es ep) k os).abs (zbq () pos (SA w (DD (es.push ⟨reduceHash (th w.params "hear" 2),.ref 585,.ref 519⟩) (ep+1)) (k+3) os).abs):=by
 refine zbr zo5 zo6 (fun r=>zo7 r w) zez ?_ ?_ ?_ (by rw [h.1]; decide)
 ·exact fun e he=>by
   obtain⟨a,ha,ea⟩:=h.2 e he;rw [ea];simp only [am,ar,or_false] at ha;subst ha
   ·exact zeg
 ·exact fun e he=>by
   obtain⟨a,ha,ea⟩:=h.2 e he;rw [ea];simp only [am,ar,or_false] at ha;subst ha
   ·exact zkg w
 ·exact fun e he=>by
   obtain⟨a,ha,ea⟩:=h.2 e he;rw [ea];simp only [am,ar,or_false] at ha;subst ha
   ·exact fun q=>absurd (ap q) #[D]
theorem znG (h:zaV [584,585] es):WT (X35 p w b) 600 (dictSet 583 (.ref 586) (.ref 526)) pos (SA w (DD es ep) k os).abs (zbq () pos (SA w (DD (es.push ⟨reduceHash (th w.params "forget" 1),.ref 586,.ref 526⟩) (ep+1)) (k+3) os).abs):=by
 refine zbr zo8 zo9 (fun r=>zpa r w) zfO ?_ ?_ ?_ (by rw [h.1]; decide)
 ·exact fun e he=>by
   obtain⟨a,ha,ea⟩:=h.2 e he;rw [ea];simp only [am,ar,or_false] at ha;rcases ha with rfl | rfl
   ·exact zeg
   ·exact zez
 ·exact fun e he=>by
   obtain⟨a,ha,ea⟩:=h.2 e he;rw [ea];simp only [am,ar,or_false] at ha;rcases ha with rfl | rfl
   ·exact zkh w
   ·exact zki w
 ·exact fun e he=>by
   obtain⟨a,ha,ea⟩:=h.2 e he;rw [ea];simp only [am,ar,or_false] at ha;rcases ha with rfl | rfl
   ·exact fun q=>absurd (ap q) #[D]
   ·exact fun q=>absurd (ap q) #[D]
theorem znH (h:zaV [584,585,586] es):WT (X35 p w b) 600 (dictSet 583 (.ref 587) (.ref 533)) pos (SA w (DD es ep) k os).abs (zbq () pos (SA w (DD (es.push ⟨reduceHash (th w.params "back" 0),.ref 587,.ref 533⟩) (ep+1)) (k+3) os).abs):=by
 refine zbr zpb zpc (fun r=>zpd r w) zgB ?_ ?_ ?_ (by rw [h.1]; decide)
 ·exact fun e he=>by
   obtain⟨a,ha,ea⟩:=h.2 e he;rw [ea];simp only [am,ar,or_false] at ha;rcases ha with rfl | rfl | rfl
   ·exact zeg
   ·exact zez
   ·exact zfO
 ·exact fun e he=>by
   obtain⟨a,ha,ea⟩:=h.2 e he;rw [ea];simp only [am,ar,or_false] at ha;rcases ha with rfl | rfl | rfl
   ·exact zkj w
   ·exact zkk w
   ·exact zkl w
 ·exact fun e he=>by
   obtain⟨a,ha,ea⟩:=h.2 e he;rw [ea];simp only [am,ar,or_false] at ha;rcases ha with rfl | rfl | rfl
   ·exact fun q=>absurd (ap q) #[D]
   ·exact fun q=>absurd (ap q) #[D]
   ·exact fun q=>absurd (ap q) #[D]
theorem znI (h:zaV [584,585,586,587] es):WT (X35 p w b) 600 (dictSet 583 (.ref 588) (.ref 540)) pos (SA w (DD es ep) k os).abs (zbq () pos (SA w (DD (es.push ⟨reduceHash (th w.params "again" 0),.ref 588,.ref 540⟩) (ep+1)) (k+3) os).abs):=by
 refine zbr zpe zpf (fun r=>zpg r w) zhs ?_ ?_ ?_ (by rw [h.1]; decide)
 ·exact fun e he=>by
   obtain⟨a,ha,ea⟩:=h.2 e he;rw [ea];simp only [am,ar,or_false] at ha;rcases ha with rfl | rfl | rfl | rfl
   ·exact zeg
   ·exact zez
   ·exact zfO
   ·exact zgB
 ·exact fun e he=>by
   obtain⟨a,ha,ea⟩:=h.2 e he;rw [ea];simp only [am,ar,or_false] at ha;rcases ha with rfl | rfl | rfl | rfl
   ·exact zkm w
   ·exact zkn w
   ·exact zko w
   ·exact zkp w
 ·exact fun e he=>by
   obtain⟨a,ha,ea⟩:=h.2 e he;rw [ea];simp only [am,ar,or_false] at ha;rcases ha with rfl | rfl | rfl | rfl
   ·exact fun q=>absurd (ap q) #[D]
   ·exact fun q=>absurd (ap q) #[D]
   ·exact fun q=>absurd (ap q) #[D]
   ·exact fun q=>absurd (ap q) #[D]
theorem znJ (h:zaV [584,585,586,587,588] es):WT (X35 p w b) 600 (dictSet 583 (.ref 589) (.ref 547)) pos (SA w (DD es ep) k os).abs (zbq () pos (SA w (DD (es.push ⟨reduceHash (th w.params "row" 0),.ref 589,.ref 547⟩) (ep+1)) (k+3) os).abs):=by
 refine zbr zph zpi (fun r=>zpj r w) ziO ?_ ?_ ?_ (by rw [h.1]; decide)
 ·exact fun e he=>by
   obtain⟨a,ha,ea⟩:=h.2 e he;rw [ea];simp only [am,ar,or_false] at ha;rcases ha with rfl | rfl | rfl | rfl | rfl
   ·exact zeg
   ·exact zez
   ·exact zfO
   ·exact zgB
   ·exact zhs
 ·exact fun e he=>by
   obtain⟨a,ha,ea⟩:=h.2 e he;rw [ea];simp only [am,ar,or_false] at ha;rcases ha with rfl | rfl | rfl | rfl | rfl
   ·exact zkq w
   ·exact zkr w
   ·exact zks w
   ·exact zkt w
   ·exact zku w
 ·exact fun e he=>by
   obtain⟨a,ha,ea⟩:=h.2 e he;rw [ea];simp only [am,ar,or_false] at ha;rcases ha with rfl | rfl | rfl | rfl | rfl
   ·exact fun q=>absurd (ap q) #[D]
   ·exact fun q=>absurd (ap q) #[D]
   ·exact fun q=>absurd (ap q) #[D]
   ·exact fun q=>absurd (ap q) #[D]
   ·exact fun q=>absurd (ap q) #[D]
theorem znK (h:zaV [584,585,586,587,588,589] es):WT (X35 p w b) 600 (dictSet 583 (.ref 590) (.ref 554)) pos (SA w (DD es ep) k os).abs (zbq () pos (SA w (DD (es.push ⟨reduceHash (th w.params "can" 0),.ref 590,.ref 554⟩) (ep+1)) (k+3) os).abs):=by
 refine zbr zpk zpl (fun r=>zpm r w) zkf ?_ ?_ ?_ (by rw [h.1]; decide)
 ·exact fun e he=>by
   obtain⟨a,ha,ea⟩:=h.2 e he;rw [ea];simp only [am,ar,or_false] at ha;rcases ha with rfl | rfl | rfl | rfl | rfl | rfl
   ·exact zeg
   ·exact zez
   ·exact zfO
   ·exact zgB
   ·exact zhs
   ·exact ziO
 ·exact fun e he=>by
   obtain⟨a,ha,ea⟩:=h.2 e he;rw [ea];simp only [am,ar,or_false] at ha;rcases ha with rfl | rfl | rfl | rfl | rfl | rfl
   ·exact zkv w
   ·exact zkw w
   ·exact zkx w
   ·exact zky w
   ·exact zkz w
   ·exact zkA w
 ·exact fun e he=>by
   obtain⟨a,ha,ea⟩:=h.2 e he;rw [ea];simp only [am,ar,or_false] at ha;rcases ha with rfl | rfl | rfl | rfl | rfl | rfl
   ·exact fun q=>absurd (ap q) #[D]
   ·exact fun q=>absurd (ap q) #[D]
   ·exact fun q=>absurd (ap q) #[D]
   ·exact fun q=>absurd (ap q) #[D]
   ·exact fun q=>absurd (ap q) #[D]
   ·exact fun q=>absurd (ap q) #[D]
theorem znL (h:zaV [584,585,586,587,588,589,590] es):WT (X35 p w b) 600 (dictSet 583 (.ref 591) (.ref 561)) pos (SA w (DD es ep) k os).abs (zbq () pos (SA w (DD (es.push ⟨reduceHash (th w.params "sure" 1),.ref 591,.ref 561⟩) (ep+1)) (k+3) os).abs):=by
 refine zbr zpn zpo (fun r=>zpp r w) zmh ?_ ?_ ?_ (by rw [h.1]; decide)
 ·exact fun e he=>by
   obtain⟨a,ha,ea⟩:=h.2 e he;rw [ea];simp only [am,ar,or_false] at ha;rcases ha with rfl | rfl | rfl | rfl | rfl | rfl | rfl
   ·exact zeg
   ·exact zez
   ·exact zfO
   ·exact zgB
   ·exact zhs
   ·exact ziO
   ·exact zkf
 ·exact fun e he=>by
   obtain⟨a,ha,ea⟩:=h.2 e he;rw [ea];simp only [am,ar,or_false] at ha;rcases ha with rfl | rfl | rfl | rfl | rfl | rfl | rfl
   ·exact zkB w
   ·exact zkC w
   ·exact zkD w
   ·exact zkE w
   ·exact zkF w
   ·exact zkG w
   ·exact zkH w
 ·exact fun e he=>by
   obtain⟨a,ha,ea⟩:=h.2 e he;rw [ea];simp only [am,ar,or_false] at ha;rcases ha with rfl | rfl | rfl | rfl | rfl | rfl | rfl
   ·exact fun q=>absurd (ap q) #[D]
   ·exact fun q=>absurd (ap q) #[D]
   ·exact fun q=>absurd (ap q) #[D]
   ·exact fun q=>absurd (ap q) #[D]
   ·exact fun q=>absurd (ap q) #[D]
   ·exact fun q=>absurd (ap q) #[D]
   ·exact fun q=>absurd (ap q) #[D]
theorem znM (h:zaV [584,585,586,587,588,589,590,591] es):WT (X35 p w b) 600 (dictSet 583 (.ref 592) (.ref 568)) pos (SA w (DD es ep) k os).abs (zbq () pos (SA w (DD (es.push ⟨reduceHash (th w.params "near" 1),.ref 592,.ref 568⟩) (ep+1)) (k+3) os).abs):=by
 refine zbr zpq zpr (fun r=>zps r w) znB ?_ ?_ ?_ (by rw [h.1]; decide)
 ·exact fun e he=>by
   obtain⟨a,ha,ea⟩:=h.2 e he;rw [ea];simp only [am,ar,or_false] at ha;rcases ha with rfl | rfl | rfl | rfl | rfl | rfl | rfl | rfl
   ·exact zeg
   ·exact zez
   ·exact zfO
   ·exact zgB
   ·exact zhs
   ·exact ziO
   ·exact zkf
   ·exact zmh
 ·exact fun e he=>by
   obtain⟨a,ha,ea⟩:=h.2 e he;rw [ea];simp only [am,ar,or_false] at ha;rcases ha with rfl | rfl | rfl | rfl | rfl | rfl | rfl | rfl
   ·exact zkI w
   ·exact zkJ w
   ·exact zkK w
   ·exact zkL w
   ·exact zkM w
   ·exact zkN w
   ·exact zkO w
   ·exact zkP w
 ·exact fun e he=>by
   obtain⟨a,ha,ea⟩:=h.2 e he;rw [ea];simp only [am,ar,or_false] at ha;rcases ha with rfl | rfl | rfl | rfl | rfl | rfl | rfl | rfl
   ·exact fun q=>absurd (ap q) #[D]
   ·exact fun q=>absurd (ap q) #[D]
   ·exact fun q=>absurd (ap q) #[D]
   ·exact fun q=>absurd (ap q) #[D]
   ·exact fun q=>absurd (ap q) #[D]
   ·exact fun q=>absurd (ap q) #[D]
   ·exact fun q=>absurd (ap q) #[D]
   ·exact fun q=>absurd (ap q) #[D]
theorem znN (h:zaV [584,585,586,587,588,589,590,591,592] es):WT (X35 p w b) 600 (dictSet 583 (.ref 593) (.ref 575)) pos (SA w (DD es ep) k os).abs (zbq () pos (SA w (DD (es.push ⟨reduceHash (th w.params "half" 0),.ref 593,.ref 575⟩) (ep+1)) (k+3) os).abs):=by
 refine zbr zpt zpu (fun r=>zpv r w) zox ?_ ?_ ?_ (by rw [h.1]; decide)
 ·exact fun e he=>by
   obtain⟨a,ha,ea⟩:=h.2 e he;rw [ea];simp only [am,ar,or_false] at ha;rcases ha with rfl | rfl | rfl | rfl | rfl | rfl | rfl | rfl | rfl
   ·exact zeg
   ·exact zez
   ·exact zfO
   ·exact zgB
   ·exact zhs
   ·exact ziO
   ·exact zkf
   ·exact zmh
   ·exact znB
 ·exact fun e he=>by
   obtain⟨a,ha,ea⟩:=h.2 e he;rw [ea];simp only [am,ar,or_false] at ha;rcases ha with rfl | rfl | rfl | rfl | rfl | rfl | rfl | rfl | rfl
   ·exact zkQ w
   ·exact zkR w
   ·exact zkS w
   ·exact zkT w
   ·exact zkU w
   ·exact zkV w
   ·exact zkW w
   ·exact zkX w
   ·exact zkY w
 ·exact fun e he=>by
   obtain⟨a,ha,ea⟩:=h.2 e he;rw [ea];simp only [am,ar,or_false] at ha;rcases ha with rfl | rfl | rfl | rfl | rfl | rfl | rfl | rfl | rfl
   ·exact fun q=>absurd (ap q) #[D]
   ·exact fun q=>absurd (ap q) #[D]
   ·exact fun q=>absurd (ap q) #[D]
   ·exact fun q=>absurd (ap q) #[D]
   ·exact fun q=>absurd (ap q) #[D]
   ·exact fun q=>absurd (ap q) #[D]
   ·exact fun q=>absurd (ap q) #[D]
   ·exact fun q=>absurd (ap q) #[D]
   ·exact fun q=>absurd (ap q) #[D]
theorem znO (h:zaV [584,585,586,587,588,589,590,591,592,593] es):WT (X35 p w b) 600 (dictSet 583 (.ref 594) (.ref 582)) pos (SA w (DD es ep) k os).abs (zbq () pos (SA w (DD (es.push ⟨reduceHash (th w.params "reach" 1),.ref 594,.ref 582⟩) (ep+1)) (k+3) os).abs):=by
 refine zbr zpx zpy (fun r=>zpz r w) zpw ?_ ?_ ?_ (by rw [h.1]; decide)
 ·exact fun e he=>by
   obtain⟨a,ha,ea⟩:=h.2 e he;rw [ea];simp only [am,ar,or_false] at ha;rcases ha with rfl | rfl | rfl | rfl | rfl | rfl | rfl | rfl | rfl | rfl
   ·exact zeg
   ·exact zez
   ·exact zfO
   ·exact zgB
   ·exact zhs
   ·exact ziO
   ·exact zkf
   ·exact zmh
   ·exact znB
   ·exact zox
 ·exact fun e he=>by
   obtain⟨a,ha,ea⟩:=h.2 e he;rw [ea];simp only [am,ar,or_false] at ha;rcases ha with rfl | rfl | rfl | rfl | rfl | rfl | rfl | rfl | rfl | rfl
   ·exact zkZ w
   ·exact zk0 w
   ·exact zk1 w
   ·exact zk2 w
   ·exact zk3 w
   ·exact zk4 w
   ·exact zk5 w
   ·exact zk6 w
   ·exact zk7 w
   ·exact zk8 w
 ·exact fun e he=>by
   obtain⟨a,ha,ea⟩:=h.2 e he;rw [ea];simp only [am,ar,or_false] at ha;rcases ha with rfl | rfl | rfl | rfl | rfl | rfl | rfl | rfl | rfl | rfl
   ·exact fun q=>absurd (ap q) #[D]
   ·exact fun q=>absurd (ap q) #[D]
   ·exact fun q=>absurd (ap q) #[D]
   ·exact fun q=>absurd (ap q) #[D]
   ·exact fun q=>absurd (ap q) #[D]
   ·exact fun q=>absurd (ap q) #[D]
   ·exact fun q=>absurd (ap q) #[D]
   ·exact fun q=>absurd (ap q) #[D]
   ·exact fun q=>absurd (ap q) #[D]
   ·exact fun q=>absurd (ap q) #[D]
noncomputable def ents (P:Params):Array DictEntry:=#[⟨reduceHash (th P "slips" 1),.ref 584,.ref 512⟩,⟨reduceHash (th P "hear" 2),.ref 585,.ref 519⟩,⟨reduceHash (th P "forget" 1),.ref 586,.ref 526⟩,⟨reduceHash (th P "back" 0),.ref 587,.ref 533⟩,⟨reduceHash (th P "again" 0),.ref 588,.ref 540⟩,⟨reduceHash (th P "row" 0),.ref 589,.ref 547⟩,⟨reduceHash (th P "can" 0),.ref 590,.ref 554⟩,⟨reduceHash (th P "sure" 1),.ref 591,.ref 561⟩,⟨reduceHash (th P "near" 1),.ref 592,.ref 568⟩,⟨reduceHash (th P "half" 0),.ref 593,.ref 575⟩,⟨reduceHash (th P "reach" 1),.ref 594,.ref 582⟩]
def prs:List (Value×Value):=[(.ref 584,.ref 512),(.ref 585,.ref 519),(.ref 586,.ref 526),(.ref 587,.ref 533),(.ref 588,.ref 540),(.ref 589,.ref 547),(.ref 590,.ref 554),(.ref 591,.ref 561),(.ref 592,.ref 568),(.ref 593,.ref 575),(.ref 594,.ref 582)]
theorem znP:WT (X35 p w b) 6600 (forIn prs g9 fun (x:Value×Value) (_:PUnit)=>(do dictSet 583 x.1 x.2; pure (cR g9):Sem (ForInStep PUnit))) pos (SA w (DD #[] 0) 993 os).abs (zbq g9 pos (SA w (DD (ents w.params) 11) 1026 os).abs):=by
 unfold prs ents;have h0:zaV _ _:=zaV.nil;refine zl (n:=600+6000) (zaU (zl (n:=600+0) (zn (zl (znE h0) (ak _) ?_)) (ak _) fun _ _ _ h=>h)) #[D] fun _ _ _ h=>h
 rintro _ _ _ ⟨rfl,rfl,rfl⟩;refine zK ⟨_,rfl,?_⟩;have h1:zaV _ _:=h0.push (i:=reduceHash (th w.params "slips" 1)) (a:=584) (v:=.ref 512);refine zl (n:=600+5400) (zaU (zl (n:=600+0) (zn (zl (znF h1) (ak _) ?_)) (ak _) fun _ _ _ h=>h)) #[D] fun _ _ _ h=>h
 rintro _ _ _ ⟨rfl,rfl,rfl⟩;refine zK ⟨_,rfl,?_⟩;have h2:zaV _ _:=h1.push (i:=reduceHash (th w.params "hear" 2)) (a:=585) (v:=.ref 519);refine zl (n:=600+4800) (zaU (zl (n:=600+0) (zn (zl (znG h2) (ak _) ?_)) (ak _) fun _ _ _ h=>h)) #[D] fun _ _ _ h=>h
 rintro _ _ _ ⟨rfl,rfl,rfl⟩;refine zK ⟨_,rfl,?_⟩;have h3:zaV _ _:=h2.push (i:=reduceHash (th w.params "forget" 1)) (a:=586) (v:=.ref 526);refine zl (n:=600+4200) (zaU (zl (n:=600+0) (zn (zl (znH h3) (ak _) ?_)) (ak _) fun _ _ _ h=>h)) #[D] fun _ _ _ h=>h
 rintro _ _ _ ⟨rfl,rfl,rfl⟩;refine zK ⟨_,rfl,?_⟩;have h4:zaV _ _:=h3.push (i:=reduceHash (th w.params "back" 0)) (a:=587) (v:=.ref 533);refine zl (n:=600+3600) (zaU (zl (n:=600+0) (zn (zl (znI h4) (ak _) ?_)) (ak _) fun _ _ _ h=>h)) #[D] fun _ _ _ h=>h
 rintro _ _ _ ⟨rfl,rfl,rfl⟩;refine zK ⟨_,rfl,?_⟩;have h5:zaV _ _:=h4.push (i:=reduceHash (th w.params "again" 0)) (a:=588) (v:=.ref 540);refine zl (n:=600+3000) (zaU (zl (n:=600+0) (zn (zl (znJ h5) (ak _) ?_)) (ak _) fun _ _ _ h=>h)) #[D] fun _ _ _ h=>h
 rintro _ _ _ ⟨rfl,rfl,rfl⟩;refine zK ⟨_,rfl,?_⟩;have h6:zaV _ _:=h5.push (i:=reduceHash (th w.params "row" 0)) (a:=589) (v:=.ref 547);refine zl (n:=600+2400) (zaU (zl (n:=600+0) (zn (zl (znK h6) (ak _) ?_)) (ak _) fun _ _ _ h=>h)) #[D] fun _ _ _ h=>h
 rintro _ _ _ ⟨rfl,rfl,rfl⟩;refine zK ⟨_,rfl,?_⟩;have h7:zaV _ _:=h6.push (i:=reduceHash (th w.params "can" 0)) (a:=590) (v:=.ref 554);refine zl (n:=600+1800) (zaU (zl (n:=600+0) (zn (zl (znL h7) (ak _) ?_)) (ak _) fun _ _ _ h=>h)) #[D] fun _ _ _ h=>h
 rintro _ _ _ ⟨rfl,rfl,rfl⟩;refine zK ⟨_,rfl,?_⟩;have h8:zaV _ _:=h7.push (i:=reduceHash (th w.params "sure" 1)) (a:=591) (v:=.ref 561);refine zl (n:=600+1200) (zaU (zl (n:=600+0) (zn (zl (znM h8) (ak _) ?_)) (ak _) fun _ _ _ h=>h)) #[D] fun _ _ _ h=>h
 rintro _ _ _ ⟨rfl,rfl,rfl⟩;refine zK ⟨_,rfl,?_⟩;have h9:zaV _ _:=h8.push (i:=reduceHash (th w.params "near" 1)) (a:=592) (v:=.ref 568);refine zl (n:=600+600) (zaU (zl (n:=600+0) (zn (zl (znN h9) (ak _) ?_)) (ak _) fun _ _ _ h=>h)) #[D] fun _ _ _ h=>h
 rintro _ _ _ ⟨rfl,rfl,rfl⟩;refine zK ⟨_,rfl,?_⟩;have jw:zaV _ _:=h9.push (i:=reduceHash (th w.params "half" 0)) (a:=593) (v:=.ref 575);refine zl (n:=600+0) (zaU (zl (n:=600+0) (zn (zl (znO jw) (ak _) ?_)) (ak _) fun _ _ _ h=>h)) #[D] fun _ _ _ h=>h
 rintro _ _ _ ⟨rfl,rfl,rfl⟩;refine zK ⟨_,rfl,?_⟩;rw [cf];exact zK ⟨rfl,rfl,rfl⟩
end
end Ht
end
section
namespace Ht
open PySem PySem.W
def zei:Stmt:=match PySem.Challenge.pw_slipcurve_k35_two_reasons_which_first.main.body.drop 92 with | s :: _=>s | []=>.Pass ⟨0,0,0,0⟩
def zmk:List (Option Expr):=match zei with | .Assign _ (.Dict ks _ _) _=>ks | _=>[]
def zml:List Expr:=match zei with | .Assign _ (.Dict _ vs _) _=>vs | _=>[]
def ziQ:Pos:=match zei with | .Assign _ (.Dict _ _ p) _=>p | _=>default
def ziR:Pos:=match zei with | .Assign [.Name _ p] _ _=>p | _=>default
def zoy:Pos:=match zei with | .Assign _ _ p=>p | _=>default
theorem zmm:zei = .Assign [.Name "ANSWERS" ziR] (.Dict zmk zml ziQ) zoy:=by kernel_rfl
noncomputable abbrev envA:Env:=PySem.W.g35.env_1
noncomputable def ansR:List (Sem Value×Sem Value):=((evalEachOpt zmk envA).zip ((evalEach zml envA).map fun v=>do let x ← v; standAt ziQ; pure x)).filterMap fun x=>x.1.map fun k=>(k,x.2)
theorem zmn:(evalEachOpt zmk envA).zip ((evalEach zml envA).map fun v=>do let x ← v; standAt ziQ; pure x)=ansR.map fun p=>(some p.1,p.2):=by kernel_rfl
theorem zej:ansR.length=11:=by kernel_rfl
noncomputable def tups:List Obj:=[tup "slips" 971 1 972,tup "hear" 973 2 974,tup "forget" 975 1 976,tup "back" 977 0 978,tup "again" 979 0 980,tup "row" 981 0 982,tup "can" 983 0 984,tup "sure" 985 1 986,tup "near" 987 1 988,tup "half" 989 0 990,tup "reach" 991 1 992]
noncomputable def Dn (P:Params) (i:Nat):Obj:=(DD (ents P) 11 :: tups).getD (i - 583) default
def rpl (D:Nat→Obj):BT→Nat→Nat→BT
 | .nil,_,_=>.nil
 | .node v l r,a,b=>.node (match hJ 583 b,hJ b 594 with | true,true=>D b | _,_=>v) (rpl D l (2*a) (a+b)) (rpl D r (2*a) (2*a+b))
noncomputable abbrev S0 (w:World) (os:OsState):SharedT:=⟨PySem.W.g35.tree_628 w.params,583,{},⟨[]⟩,{},971,os⟩
noncomputable abbrev S0' (w:World) (os:OsState):SharedT:=⟨(PySem.W.g35.tree_628 w.params).ins 583 (DD #[] 0),584,{},⟨[]⟩,{},971,os⟩
noncomputable abbrev S1 (w:World) (os:OsState):SharedT:=⟨rpl (Dn w.params) (PySem.W.g35.tree_642 w.params) 1 0,595,{},⟨[]⟩,{},1027,os⟩
section
variable {p:Program} {w:World} {b:List Stmt} {os:OsState} {pos:Pos}
theorem ziS:Det (X35 p w b) 77 (evalPairs ansR) ziQ (S0' w os) prs (SA w (DD #[] 0) 993 os) ziQ:=zg fun _ _ _ _=>by kernel_rfl
theorem zlc:Det (X35 p w b) 6 (bindName envA "ANSWERS" (.ref 583)) ziR (SA w (DD (ents w.params) 11) (1027 - 1) os) () (S1 w os) ziR:=zg fun _ _ _ _=>by kernel_rfl
theorem znQ:swapsWith (.Dict zmk zml ziQ) (some (.Name "ANSWERS" ziR)) zoy.line envA=pure false:=by kernel_rfl
theorem zld:{ (S0 w os).abs with heap:=(S0 w os).abs.heap.push (DD #[] 0) }=(S0' w os).abs:=by
 have e:=absHeap_ins (t:=PySem.W.g35.tree_628 w.params) (n:=583) (life:={}) (o:=DD #[] 0) (by kernel_rfl);show d7 _ _ _ _ _=d7 _ _ _ _ _;exact congrArg (fun h=>d7 h ⟨[]⟩ {} 971 os) e.symm
theorem zmo:(S0 w os).abs.heap.objs.size=583:=absHeap_size _ _ _
theorem znR:WT (X35 p w b) 8000 (execs [zei] envA) pos (S0 w os).abs (zbq .next ziR (S1 w os).abs):=by
 show WT _ _ (exec zei envA >>= fun f=>match f with | .next=>execs [] envA | f=>pure f) _ _ _;rw [zmm,exec_Assign_Name _ _ _ _ _ znQ,arm_eval_Dict,zmn,dictDisplay_pairs ansR (fun e=>by have:=zej; rw [e] at this; cases this) (by rw [zej]; decide)];refine zl (n:=(1+((1+((1+(77+6600))+0))+(1+(6+0))))+0) (zn (zn (zeh (zn (zn (zeh (zn ?_))))))) #[D] fun _ _ _ h=>h
 unfold subDict;refine zn (zk9 ?_);rw [zmo];refine zl (n:=(77+6600)+0) (zn (zbp ?_)) #[D] fun _ _ _ h=>h
 rw [if_pos (by rw [zej]; decide),zld];refine zn (zbV ziS (zbp ?_));refine zl (n:=6600+0) (zn (zl znP (ak _) ?_)) #[D] fun _ _ _ h=>h
 rintro _ _ _ ⟨rfl,rfl,rfl⟩;refine zK (zK (zK ?_));refine zn (zeh (zn (zbV zlc (zK ?_))));exact zK ⟨rfl,rfl,rfl⟩
end
end Ht
end
section
namespace Ht
open PySem PySem.W
abbrev PG:Program:=PySem.Challenge.pw_slipcurve_k35_two_reasons_which_first
noncomputable abbrev cE:Code:=.body (behindTheImports PG) envA
abbrev fr:List Frame:=[topFrame ⟨0,0,0,0⟩]
noncomputable abbrev sT (t:BT) (n k:Nat) (os:OsState):SharedT:=⟨t,n,{},⟨[]⟩,{},k,os⟩
theorem zpA (w:World) (p:Program) (b:List Stmt) (os:OsState):segRun treeTable p w 11 (some (.ref 6)) 1 381 (sT (rpl (Dn w.params) (PySem.W.g35.tree_642 w.params) 1 0) 595 1027 os).abs (piecesOf PySem.W.g35.sts_646 envA (.body b envA) ⟨376,0,376,7⟩ fr) =
  some (.next,(sT (rpl (Dn w.params) (PySem.W.g35.tree_693 w.params) 1 0) 641 1091 os).abs,.body b envA,⟨415,0,415,17⟩):=by
 refine segRun_of ?_;rw [Fast.te10110043849684766642,Fast.te14364793385576792824]
 kernel_rfl
theorem zpB (w:World) (p:Program) (b:List Stmt) (os:OsState):segRun treeTable p w 11 (some (.ref 6)) 1 347 (sT (rpl (Dn w.params) (PySem.W.g35.tree_693 w.params) 1 0) 641 1091 os).abs (piecesOf PySem.W.g35.sts_695 envA (.body b envA) ⟨415,0,415,17⟩ fr) =
  some (.next,(sT (rpl (Dn w.params) (PySem.W.g35.tree_765 w.params) 1 0) 710 1196 os).abs,.body b envA,⟨504,0,538,107⟩):=by
 refine segRun_of ?_;rw [Fast.te10110043849684766642,Fast.te14364793385576792824]
 kernel_rfl
theorem zmp (w:World) (p:Program) (b:List Stmt) (os:OsState):segRun treeTable p w 11 (some (.ref 6)) 1 8001 (S0 w os).abs (piecesOf [zei] envA (.body b envA) ⟨368,0,375,52⟩ fr) =
  some (.next,(S1 w os).abs,.body b envA,ziR) :=
 znR (p:=p) (w:=w) (b:=b) (os:=os) (pos:=⟨368,0,375,52⟩) doneF deadEnd id id 1 _ fun a pos' s' h=>by
  obtain⟨rfl,rfl,rfl⟩:=h;rfl
theorem zmq:behindTheImports PG=PySem.W.g35.sts_4++(PySem.W.g35.sts_70++(PySem.W.g35.sts_98++(PySem.W.g35.sts_114++(PySem.W.g35.sts_130++(PySem.W.g35.sts_146++(PySem.W.g35.sts_162++(PySem.W.g35.sts_178++(PySem.W.g35.sts_194++(PySem.W.g35.sts_210++(PySem.W.g35.sts_226++(PySem.W.g35.sts_269++(PySem.W.g35.sts_354++(PySem.W.g35.sts_431++(PySem.W.g35.sts_504++(PySem.W.g35.sts_578++([zei]++(PySem.W.g35.sts_646++(PySem.W.g35.sts_695++([]))))))))))))))))))):=by kernel_rfl
noncomputable abbrev SL (w:World) (os:OsState):SharedT:=sT (rpl (Dn w.params) (PySem.W.g35.tree_765 w.params) 1 0) 710 1196 os
noncomputable abbrev H1 (P:Params):Heap:=absHeap (rpl (Dn P) (PySem.W.g35.tree_765 P) 1 0) 710 {}
theorem zmr (w:World) (os:OsState):topRun treeTable PG w 11 (some (.ref 6)) 2 (SL w os).abs ⟨doneF .next,cE,⟨504,0,538,107⟩,fr⟩=some (SL w os).abs:=by kernel_rfl
theorem zle (w:World) (os:OsState):topRun treeTable PG w 11 (some (.ref 6)) (350+(400+(214+(214+(214+(214+(214+(214+(214+(214+(380+(517+(397+(377+(383+(216+(8001+(381+(347+(2)))))))))))))))))))) (sT (PySem.W.g35.tree_4 w.params) 15 187 os).abs (restOf (PySem.W.g35.sts_4++(PySem.W.g35.sts_70++(PySem.W.g35.sts_98++(PySem.W.g35.sts_114++(PySem.W.g35.sts_130++(PySem.W.g35.sts_146++(PySem.W.g35.sts_162++(PySem.W.g35.sts_178++(PySem.W.g35.sts_194++(PySem.W.g35.sts_210++(PySem.W.g35.sts_226++(PySem.W.g35.sts_269++(PySem.W.g35.sts_354++(PySem.W.g35.sts_431++(PySem.W.g35.sts_504++(PySem.W.g35.sts_578++([zei]++(PySem.W.g35.sts_646++(PySem.W.g35.sts_695++([])))))))))))))))))))) envA cE ⟨0,0,0,0⟩ fr)=some (SL w os).abs :=
 piece_app (PySem.W.g35._proof_70 w PG _ os) (piece_app (PySem.W.g35._proof_98 w PG _ os) (piece_app (PySem.W.g35._proof_114 w PG _ os) (piece_app (PySem.W.g35._proof_130 w PG _ os) (piece_app (PySem.W.g35._proof_146 w PG _ os) (piece_app (PySem.W.g35._proof_162 w PG _ os) (piece_app (PySem.W.g35._proof_178 w PG _ os) (piece_app (PySem.W.g35._proof_194 w PG _ os) (piece_app (PySem.W.g35._proof_210 w PG _ os) (piece_app (PySem.W.g35._proof_226 w PG _ os) (piece_app (PySem.W.g35._proof_269 w PG _ os) (piece_app (PySem.W.g35._proof_354 w PG _ os) (piece_app (PySem.W.g35._proof_431 w PG _ os) (piece_app (PySem.W.g35._proof_504 w PG _ os) (piece_app (PySem.W.g35._proof_578 w PG _ os) (piece_app (PySem.W.g35._proof_630 w PG _ os) (piece_app (zmp w PG _ os) (piece_app (zpA w PG _ os) (piece_app (zpB w PG _ os) (piece_nil (zmr w os))))))))))))))))))))
theorem ziT (w:World) (os:OsState):segRun treeTable PG w 11 (some (.ref 6)) 1 1 (sT (PySem.W.g35.tree_4 w.params) 15 187 os).abs (blockOf (behindTheImports PG) envA cE ⟨0,0,0,0⟩ fr)=some (.next,(sT (PySem.W.g35.tree_4 w.params) 15 187 os).abs,cE,⟨0,0,0,0⟩):=by kernel_rfl
theorem zms (w:World) (os:OsState):topGo treeTable PG w 11 (some (.ref 6)) 12 ⟨boot_heap w.params,⟨[]⟩,boot_drawn,boot_toks,os⟩ (topStub PG)=some ((sT (PySem.W.g35.tree_4 w.params) 15 187 os).abs,⟨denote treeTable cE,cE,⟨0,0,0,0⟩,fr⟩):=by kernel_rfl
theorem whole_run (w:World) (os:OsState):topRun treeTable PG w 11 (some (.ref 6)) 13476 ⟨boot_heap w.params,⟨[]⟩,boot_drawn,boot_toks,os⟩ (topStub PG)=some (SL w os).abs :=
 go_top (N:=13464) (zms w os) (piece_block (N:=13463) (ziT w os) (by rw [zmq]; exact zle w os))
end Ht
end
section
namespace Ht
open PySem PySem.W
def zoz:List Nat:=[1,2,3,4,5,6,7,8,9,10,11,12,13,14,16,17,18,19,20,21,22,23,24,25,26,28,29,31,32,33,35,37,38,39,40,41,42,44,45,46,47,48,49,50,51,52,53,54,55,57,58,59,60,62,63,65,66,67,68,69,71,72,73,74,75,77,78,79,80,81,82,83,84,85,86,87,88,89,90,91,92,93,95,96,97,98,100,101,102,103,105,106,107,108,109,110,111,112]
def qG:Program:=view PG zoz
abbrev zbW:List PySem.Str:=[PySem.Str.ofString "ANSWERS"]
noncomputable def KG:Params→Frag:=fun P=>[(nat_lit 2,PySem.W.boot_o_2 P),(nat_lit 3,PySem.W.g35.o_695 P),(nat_lit 15,PySem.W.g35.o_7 P),(nat_lit 17,PySem.W.g35.o_9 P),(nat_lit 18,PySem.W.g35.o_10 P),(nat_lit 20,PySem.W.g35.o_12 P),(nat_lit 21,PySem.W.g35.o_13 P),(nat_lit 22,PySem.W.g35.o_14 P),(nat_lit 24,PySem.W.g35.o_16 P),(nat_lit 25,PySem.W.g35.o_17 P),(nat_lit 27,PySem.W.g35.o_19 P),(nat_lit 28,PySem.W.g35.o_20 P),(nat_lit 29,PySem.W.g35.o_21 P),(nat_lit 32,PySem.W.g35.o_24 P),(nat_lit 33,PySem.W.g35.o_25 P),(nat_lit 34,PySem.W.g35.o_26 P),(nat_lit 37,PySem.W.g35.o_29 P),(nat_lit 38,PySem.W.g35.o_30 P),(nat_lit 39,PySem.W.g35.o_31 P),(nat_lit 41,PySem.W.g35.o_33 P),(nat_lit 42,PySem.W.g35.o_34 P),(nat_lit 44,PySem.W.g35.o_36 P),(nat_lit 45,PySem.W.g35.o_37 P),(nat_lit 46,PySem.W.g35.o_38 P),(nat_lit 48,PySem.W.g35.o_40 P),(nat_lit 49,PySem.W.g35.o_41 P),(nat_lit 51,PySem.W.g35.o_43 P),(nat_lit 52,PySem.W.g35.o_44 P),(nat_lit 53,PySem.W.g35.o_45 P),(nat_lit 55,PySem.W.g35.o_47 P),(nat_lit 56,PySem.W.g35.o_48 P),(nat_lit 58,PySem.W.g35.o_50 P),(nat_lit 59,PySem.W.g35.o_51 P),(nat_lit 60,PySem.W.g35.o_52 P),(nat_lit 63,PySem.W.g35.o_55 P),(nat_lit 64,PySem.W.g35.o_56 P),(nat_lit 65,PySem.W.g35.o_57 P),(nat_lit 68,PySem.W.g35.o_60 P),(nat_lit 69,PySem.W.g35.o_61 P),(nat_lit 70,PySem.W.g35.o_62 P),(nat_lit 72,PySem.W.g35.o_64 P),(nat_lit 73,PySem.W.g35.o_65 P),(nat_lit 75,PySem.W.g35.o_67 P),(nat_lit 76,PySem.W.g35.o_68 P),(nat_lit 77,PySem.W.g35.o_72 P),(nat_lit 84,PySem.W.g35.o_79 P),(nat_lit 85,PySem.W.g35.o_80 P),(nat_lit 86,PySem.W.g35.o_228 P),(nat_lit 87,PySem.W.g35.o_82 P),(nat_lit 90,PySem.W.g35.o_85 P),(nat_lit 97,PySem.W.g35.o_92 P),(nat_lit 98,PySem.W.g35.o_93 P),(nat_lit 99,PySem.W.g35.o_94 P),(nat_lit 102,PySem.W.g35.o_101 P),(nat_lit 109,PySem.W.g35.o_108 P),(nat_lit 110,PySem.W.g35.o_109 P),(nat_lit 111,PySem.W.g35.o_110 P),(nat_lit 114,PySem.W.g35.o_117 P),(nat_lit 121,PySem.W.g35.o_124 P),(nat_lit 122,PySem.W.g35.o_125 P),(nat_lit 123,PySem.W.g35.o_126 P),(nat_lit 126,PySem.W.g35.o_133 P),(nat_lit 133,PySem.W.g35.o_140 P),(nat_lit 134,PySem.W.g35.o_141 P),(nat_lit 135,PySem.W.g35.o_142 P),(nat_lit 138,PySem.W.g35.o_149 P),(nat_lit 145,PySem.W.g35.o_156 P),(nat_lit 146,PySem.W.g35.o_157 P),(nat_lit 147,PySem.W.g35.o_158 P),(nat_lit 150,PySem.W.g35.o_165 P),(nat_lit 157,PySem.W.g35.o_172 P),(nat_lit 158,PySem.W.g35.o_173 P),(nat_lit 159,PySem.W.g35.o_174 P),(nat_lit 162,PySem.W.g35.o_181 P),(nat_lit 169,PySem.W.g35.o_188 P),(nat_lit 170,PySem.W.g35.o_189 P),(nat_lit 171,PySem.W.g35.o_190 P),(nat_lit 174,PySem.W.g35.o_197 P),(nat_lit 181,PySem.W.g35.o_204 P),(nat_lit 182,PySem.W.g35.o_205 P),(nat_lit 183,PySem.W.g35.o_206 P),(nat_lit 186,PySem.W.g35.o_213 P),(nat_lit 193,PySem.W.g35.o_220 P),(nat_lit 194,PySem.W.g35.o_221 P),(nat_lit 195,PySem.W.g35.o_222 P),(nat_lit 198,PySem.W.g35.o_229 P),(nat_lit 205,PySem.W.g35.o_236 P),(nat_lit 206,PySem.W.g35.o_237 P),(nat_lit 207,PySem.W.g35.o_238 P),(nat_lit 210,PySem.W.g35.o_241 P),(nat_lit 213,PySem.W.g35.o_244 P),(nat_lit 214,PySem.W.g35.o_245 P),(nat_lit 215,PySem.W.g35.o_246 P),(nat_lit 218,PySem.W.g35.o_249 P),(nat_lit 219,PySem.W.g35.o_250 P),(nat_lit 220,PySem.W.g35.o_251 P),(nat_lit 223,PySem.W.g35.o_254 P),(nat_lit 224,PySem.W.g35.o_255 P),(nat_lit 225,PySem.W.g35.o_256 P),(nat_lit 227,PySem.W.g35.o_258 P),(nat_lit 228,PySem.W.g35.o_259 P),(nat_lit 230,PySem.W.g35.o_261 P),(nat_lit 231,PySem.W.g35.o_262 P),(nat_lit 232,PySem.W.g35.o_263 P),(nat_lit 235,PySem.W.g35.o_266 P),(nat_lit 236,PySem.W.g35.o_267 P),(nat_lit 244,PySem.W.g35.o_278 P),(nat_lit 246,PySem.W.g35.o_280 P),(nat_lit 247,PySem.W.g35.o_281 P),(nat_lit 249,PySem.W.g35.o_283 P),(nat_lit 250,PySem.W.g35.o_284 P),(nat_lit 251,PySem.W.g35.o_285 P),(nat_lit 253,PySem.W.g35.o_287 P),(nat_lit 254,PySem.W.g35.o_288 P),(nat_lit 256,PySem.W.g35.o_290 P),(nat_lit 257,PySem.W.g35.o_291 P),(nat_lit 258,PySem.W.g35.o_292 P),(nat_lit 260,PySem.W.g35.o_294 P),(nat_lit 261,PySem.W.g35.o_295 P),(nat_lit 263,PySem.W.g35.o_297 P),(nat_lit 264,PySem.W.g35.o_298 P),(nat_lit 265,PySem.W.g35.o_299 P),(nat_lit 267,PySem.W.g35.o_301 P),(nat_lit 268,PySem.W.g35.o_302 P),(nat_lit 270,PySem.W.g35.o_304 P),(nat_lit 271,PySem.W.g35.o_305 P),(nat_lit 272,PySem.W.g35.o_306 P),(nat_lit 274,PySem.W.g35.o_308 P),(nat_lit 275,PySem.W.g35.o_309 P),(nat_lit 277,PySem.W.g35.o_311 P),(nat_lit 278,PySem.W.g35.o_312 P),(nat_lit 279,PySem.W.g35.o_313 P),(nat_lit 281,PySem.W.g35.o_315 P),(nat_lit 282,PySem.W.g35.o_316 P),(nat_lit 284,PySem.W.g35.o_318 P),(nat_lit 285,PySem.W.g35.o_319 P),(nat_lit 286,PySem.W.g35.o_320 P),(nat_lit 288,PySem.W.g35.o_322 P),(nat_lit 289,PySem.W.g35.o_323 P),(nat_lit 291,PySem.W.g35.o_325 P),(nat_lit 292,PySem.W.g35.o_326 P),(nat_lit 293,PySem.W.g35.o_327 P),(nat_lit 295,PySem.W.g35.o_329 P),(nat_lit 296,PySem.W.g35.o_330 P),(nat_lit 298,PySem.W.g35.o_332 P),(nat_lit 299,PySem.W.g35.o_333 P),(nat_lit 300,PySem.W.g35.o_334 P),(nat_lit 302,PySem.W.g35.o_336 P),(nat_lit 303,PySem.W.g35.o_337 P),(nat_lit 305,PySem.W.g35.o_339 P),(nat_lit 306,PySem.W.g35.o_340 P),(nat_lit 307,PySem.W.g35.o_341 P),(nat_lit 310,PySem.W.g35.o_344 P),(nat_lit 311,PySem.W.g35.o_345 P),(nat_lit 312,PySem.W.g35.o_346 P),(nat_lit 313,PySem.W.g35.o_347 P),(nat_lit 314,PySem.W.g35.o_348 P),(nat_lit 315,PySem.W.g35.o_349 P),(nat_lit 316,PySem.W.g35.o_350 P),(nat_lit 319,PySem.W.g35.o_356 P),(nat_lit 321,PySem.W.g35.o_358 P),(nat_lit 322,PySem.W.g35.o_359 P),(nat_lit 324,PySem.W.g35.o_361 P),(nat_lit 325,PySem.W.g35.o_362 P),(nat_lit 326,PySem.W.g35.o_363 P),(nat_lit 329,PySem.W.g35.o_366 P),(nat_lit 330,PySem.W.g35.o_367 P),(nat_lit 331,PySem.W.g35.o_368 P),(nat_lit 334,PySem.W.g35.o_371 P),(nat_lit 335,PySem.W.g35.o_372 P),(nat_lit 336,PySem.W.g35.o_373 P),(nat_lit 339,PySem.W.g35.o_376 P),(nat_lit 340,PySem.W.g35.o_377 P),(nat_lit 341,PySem.W.g35.o_378 P),(nat_lit 344,PySem.W.g35.o_381 P),(nat_lit 345,PySem.W.g35.o_382 P),(nat_lit 346,PySem.W.g35.o_383 P),(nat_lit 348,PySem.W.g35.o_385 P),(nat_lit 349,PySem.W.g35.o_386 P),(nat_lit 351,PySem.W.g35.o_388 P),(nat_lit 352,PySem.W.g35.o_389 P),(nat_lit 353,PySem.W.g35.o_390 P),(nat_lit 356,PySem.W.g35.o_393 P),(nat_lit 357,PySem.W.g35.o_394 P),(nat_lit 358,PySem.W.g35.o_395 P),(nat_lit 361,PySem.W.g35.o_398 P),(nat_lit 362,PySem.W.g35.o_399 P),(nat_lit 363,PySem.W.g35.o_400 P),(nat_lit 366,PySem.W.g35.o_403 P),(nat_lit 367,PySem.W.g35.o_404 P),(nat_lit 368,PySem.W.g35.o_405 P),(nat_lit 371,PySem.W.g35.o_408 P),(nat_lit 372,PySem.W.g35.o_409 P),(nat_lit 373,PySem.W.g35.o_410 P),(nat_lit 376,PySem.W.g35.o_413 P),(nat_lit 377,PySem.W.g35.o_414 P),(nat_lit 378,PySem.W.g35.o_415 P),(nat_lit 381,PySem.W.g35.o_418 P),(nat_lit 382,PySem.W.g35.o_419 P),(nat_lit 383,PySem.W.g35.o_420 P),(nat_lit 386,PySem.W.g35.o_423 P),(nat_lit 387,PySem.W.g35.o_424 P),(nat_lit 388,PySem.W.g35.o_425 P),(nat_lit 391,PySem.W.g35.o_428 P),(nat_lit 392,PySem.W.g35.o_429 P),(nat_lit 393,PySem.W.g35.o_433 P),(nat_lit 396,PySem.W.g35.o_436 P),(nat_lit 397,PySem.W.g35.o_437 P),(nat_lit 398,PySem.W.g35.o_438 P),(nat_lit 401,PySem.W.g35.o_441 P),(nat_lit 402,PySem.W.g35.o_442 P),(nat_lit 403,PySem.W.g35.o_443 P),(nat_lit 405,PySem.W.g35.o_445 P),(nat_lit 406,PySem.W.g35.o_446 P),(nat_lit 408,PySem.W.g35.o_448 P),(nat_lit 409,PySem.W.g35.o_449 P),(nat_lit 410,PySem.W.g35.o_450 P),(nat_lit 413,PySem.W.g35.o_453 P),(nat_lit 414,PySem.W.g35.o_454 P),(nat_lit 415,PySem.W.g35.o_455 P),(nat_lit 418,PySem.W.g35.o_458 P),(nat_lit 419,PySem.W.g35.o_459 P),(nat_lit 420,PySem.W.g35.o_460 P),(nat_lit 423,PySem.W.g35.o_463 P),(nat_lit 424,PySem.W.g35.o_464 P),(nat_lit 425,PySem.W.g35.o_465 P),(nat_lit 427,PySem.W.g35.o_467 P),(nat_lit 428,PySem.W.g35.o_468 P),(nat_lit 430,PySem.W.g35.o_470 P),(nat_lit 431,PySem.W.g35.o_471 P),(nat_lit 432,PySem.W.g35.o_472 P),(nat_lit 435,PySem.W.g35.o_475 P),(nat_lit 436,PySem.W.g35.o_476 P),(nat_lit 437,PySem.W.g35.o_477 P),(nat_lit 439,PySem.W.g35.o_479 P),(nat_lit 440,PySem.W.g35.o_480 P),(nat_lit 442,PySem.W.g35.o_482 P),(nat_lit 443,PySem.W.g35.o_483 P),(nat_lit 444,PySem.W.g35.o_484 P),(nat_lit 447,PySem.W.g35.o_487 P),(nat_lit 448,PySem.W.g35.o_488 P),(nat_lit 449,PySem.W.g35.o_489 P),(nat_lit 451,PySem.W.g35.o_491 P),(nat_lit 452,PySem.W.g35.o_492 P),(nat_lit 454,PySem.W.g35.o_494 P),(nat_lit 455,PySem.W.g35.o_495 P),(nat_lit 456,PySem.W.g35.o_496 P),(nat_lit 458,PySem.W.g35.o_498 P),(nat_lit 459,PySem.W.g35.o_499 P),(nat_lit 461,PySem.W.g35.o_501 P),(nat_lit 462,PySem.W.g35.o_502 P),(nat_lit 463,PySem.W.g35.o_506 P),(nat_lit 465,PySem.W.g35.o_508 P),(nat_lit 466,PySem.W.g35.o_509 P),(nat_lit 468,PySem.W.g35.o_511 P),(nat_lit 469,PySem.W.g35.o_512 P),(nat_lit 470,PySem.W.g35.o_513 P),(nat_lit 472,PySem.W.g35.o_515 P),(nat_lit 473,PySem.W.g35.o_516 P),(nat_lit 475,PySem.W.g35.o_518 P),(nat_lit 476,PySem.W.g35.o_519 P),(nat_lit 477,PySem.W.g35.o_520 P),(nat_lit 480,PySem.W.g35.o_523 P),(nat_lit 481,PySem.W.g35.o_524 P),(nat_lit 482,PySem.W.g35.o_525 P),(nat_lit 485,PySem.W.g35.o_528 P),(nat_lit 486,PySem.W.g35.o_529 P),(nat_lit 487,PySem.W.g35.o_530 P),(nat_lit 489,PySem.W.g35.o_532 P),(nat_lit 490,PySem.W.g35.o_533 P),(nat_lit 492,PySem.W.g35.o_535 P),(nat_lit 493,PySem.W.g35.o_536 P),(nat_lit 494,PySem.W.g35.o_537 P),(nat_lit 497,PySem.W.g35.o_540 P),(nat_lit 498,PySem.W.g35.o_541 P),(nat_lit 499,PySem.W.g35.o_542 P),(nat_lit 500,PySem.W.g35.o_543 P),(nat_lit 501,PySem.W.g35.o_544 P),(nat_lit 504,PySem.W.g35.o_547 P),(nat_lit 505,PySem.W.g35.o_548 P),(nat_lit 506,PySem.W.g35.o_549 P),(nat_lit 508,PySem.W.g35.o_551 P),(nat_lit 509,PySem.W.g35.o_552 P),(nat_lit 511,PySem.W.g35.o_554 P),(nat_lit 512,PySem.W.g35.o_555 P),(nat_lit 513,PySem.W.g35.o_556 P),(nat_lit 515,PySem.W.g35.o_558 P),(nat_lit 516,PySem.W.g35.o_559 P),(nat_lit 518,PySem.W.g35.o_561 P),(nat_lit 519,PySem.W.g35.o_562 P),(nat_lit 520,PySem.W.g35.o_563 P),(nat_lit 522,PySem.W.g35.o_565 P),(nat_lit 523,PySem.W.g35.o_566 P),(nat_lit 525,PySem.W.g35.o_568 P),(nat_lit 526,PySem.W.g35.o_569 P),(nat_lit 527,PySem.W.g35.o_570 P),(nat_lit 529,PySem.W.g35.o_572 P),(nat_lit 530,PySem.W.g35.o_573 P),(nat_lit 532,PySem.W.g35.o_575 P),(nat_lit 533,PySem.W.g35.o_576 P),(nat_lit 534,PySem.W.g35.o_580 P),(nat_lit 536,PySem.W.g35.o_582 P),(nat_lit 537,PySem.W.g35.o_583 P),(nat_lit 539,PySem.W.g35.o_585 P),(nat_lit 540,PySem.W.g35.o_586 P),(nat_lit 541,PySem.W.g35.o_587 P),(nat_lit 543,PySem.W.g35.o_589 P),(nat_lit 544,PySem.W.g35.o_590 P),(nat_lit 546,PySem.W.g35.o_592 P),(nat_lit 547,PySem.W.g35.o_593 P),(nat_lit 548,PySem.W.g35.o_594 P),(nat_lit 550,PySem.W.g35.o_596 P),(nat_lit 551,PySem.W.g35.o_597 P),(nat_lit 553,PySem.W.g35.o_599 P),(nat_lit 554,PySem.W.g35.o_600 P),(nat_lit 555,PySem.W.g35.o_601 P),(nat_lit 557,PySem.W.g35.o_603 P),(nat_lit 558,PySem.W.g35.o_604 P),(nat_lit 560,PySem.W.g35.o_606 P),(nat_lit 561,PySem.W.g35.o_607 P),(nat_lit 562,PySem.W.g35.o_608 P),(nat_lit 564,PySem.W.g35.o_610 P),(nat_lit 565,PySem.W.g35.o_611 P),(nat_lit 567,PySem.W.g35.o_613 P),(nat_lit 568,PySem.W.g35.o_614 P),(nat_lit 569,PySem.W.g35.o_615 P),(nat_lit 571,PySem.W.g35.o_617 P),(nat_lit 572,PySem.W.g35.o_618 P),(nat_lit 574,PySem.W.g35.o_620 P),(nat_lit 575,PySem.W.g35.o_621 P),(nat_lit 576,PySem.W.g35.o_622 P),(nat_lit 578,PySem.W.g35.o_624 P),(nat_lit 579,PySem.W.g35.o_625 P),(nat_lit 581,PySem.W.g35.o_627 P),(nat_lit 582,PySem.W.g35.o_628 P),(nat_lit 583,DD (ents P) 11),(nat_lit 584,tup "slips" 971 1 972),(nat_lit 585,tup "hear" 973 2 974),(nat_lit 586,tup "forget" 975 1 976),(nat_lit 587,tup "back" 977 0 978),(nat_lit 588,tup "again" 979 0 980),(nat_lit 589,tup "row" 981 0 982),(nat_lit 590,tup "can" 983 0 984),(nat_lit 591,tup "sure" 985 1 986),(nat_lit 592,tup "near" 987 1 988),(nat_lit 593,tup "half" 989 0 990),(nat_lit 594,tup "reach" 991 1 992),(nat_lit 602,PySem.W.g35.o_655 P),(nat_lit 604,PySem.W.g35.o_657 P),(nat_lit 605,PySem.W.g35.o_658 P),(nat_lit 607,PySem.W.g35.o_660 P),(nat_lit 608,PySem.W.g35.o_661 P),(nat_lit 609,PySem.W.g35.o_662 P),(nat_lit 612,PySem.W.g35.o_665 P),(nat_lit 613,PySem.W.g35.o_666 P),(nat_lit 614,PySem.W.g35.o_667 P),(nat_lit 615,PySem.W.g35.o_668 P),(nat_lit 616,PySem.W.g35.o_669 P),(nat_lit 617,PySem.W.g35.o_670 P),(nat_lit 618,PySem.W.g35.o_671 P),(nat_lit 621,PySem.W.g35.o_674 P),(nat_lit 624,PySem.W.g35.o_677 P),(nat_lit 625,PySem.W.g35.o_678 P),(nat_lit 626,PySem.W.g35.o_679 P),(nat_lit 629,PySem.W.g35.o_682 P),(nat_lit 630,PySem.W.g35.o_683 P),(nat_lit 631,PySem.W.g35.o_684 P),(nat_lit 634,PySem.W.g35.o_687 P),(nat_lit 635,PySem.W.g35.o_688 P),(nat_lit 636,PySem.W.g35.o_689 P),(nat_lit 639,PySem.W.g35.o_692 P),(nat_lit 640,PySem.W.g35.o_693 P),(nat_lit 641,PySem.W.g35.o_697 P),(nat_lit 643,PySem.W.g35.o_699 P),(nat_lit 644,PySem.W.g35.o_700 P),(nat_lit 646,PySem.W.g35.o_702 P),(nat_lit 647,PySem.W.g35.o_703 P),(nat_lit 648,PySem.W.g35.o_704 P),(nat_lit 651,PySem.W.g35.o_707 P),(nat_lit 652,PySem.W.g35.o_708 P),(nat_lit 653,PySem.W.g35.o_709 P),(nat_lit 656,PySem.W.g35.o_712 P),(nat_lit 657,PySem.W.g35.o_713 P),(nat_lit 658,PySem.W.g35.o_714 P),(nat_lit 660,PySem.W.g35.o_716 P),(nat_lit 661,PySem.W.g35.o_717 P),(nat_lit 663,PySem.W.g35.o_719 P),(nat_lit 664,PySem.W.g35.o_720 P),(nat_lit 665,PySem.W.g35.o_721 P),(nat_lit 667,PySem.W.g35.o_723 P),(nat_lit 668,PySem.W.g35.o_724 P),(nat_lit 670,PySem.W.g35.o_726 P),(nat_lit 671,PySem.W.g35.o_727 P),(nat_lit 672,PySem.W.g35.o_728 P),(nat_lit 675,PySem.W.g35.o_731 P),(nat_lit 676,PySem.W.g35.o_732 P),(nat_lit 677,PySem.W.g35.o_733 P),(nat_lit 679,PySem.W.g35.o_735 P),(nat_lit 680,PySem.W.g35.o_736 P),(nat_lit 682,PySem.W.g35.o_738 P),(nat_lit 683,PySem.W.g35.o_739 P),(nat_lit 684,PySem.W.g35.o_740 P),(nat_lit 686,PySem.W.g35.o_742 P),(nat_lit 687,PySem.W.g35.o_743 P),(nat_lit 689,PySem.W.g35.o_745 P),(nat_lit 690,PySem.W.g35.o_746 P),(nat_lit 691,PySem.W.g35.o_747 P),(nat_lit 693,PySem.W.g35.o_749 P),(nat_lit 694,PySem.W.g35.o_750 P),(nat_lit 696,PySem.W.g35.o_752 P),(nat_lit 697,PySem.W.g35.o_753 P),(nat_lit 698,PySem.W.g35.o_754 P),(nat_lit 700,PySem.W.g35.o_756 P),(nat_lit 701,PySem.W.g35.o_757 P),(nat_lit 703,PySem.W.g35.o_759 P),(nat_lit 704,PySem.W.g35.o_760 P),(nat_lit 705,PySem.W.g35.o_761 P),(nat_lit 708,PySem.W.g35.o_764 P),(nat_lit 709,PySem.W.g35.o_765 P)]
def asG:List Addr:=[2,3,15,17,18,20,21,22,24,25,27,28,29,32,33,34,37,38,39,41,42,44,45,46,48,49,51,52,53,55,56,58,59,60,63,64,65,68,69,70,72,73,75,76,77,84,85,86,87,90,97,98,99,102,109,110,111,114,121,122,123,126,133,134,135,138,145,146,147,150,157,158,159,162,169,170,171,174,181,182,183,186,193,194,195,198,205,206,207,210,213,214,215,218,219,220,223,224,225,227,228,230,231,232,235,236,244,246,247,249,250,251,253,254,256,257,258,260,261,263,264,265,267,268,270,271,272,274,275,277,278,279,281,282,284,285,286,288,289,291,292,293,295,296,298,299,300,302,303,305,306,307,310,311,312,313,314,315,316,319,321,322,324,325,326,329,330,331,334,335,336,339,340,341,344,345,346,348,349,351,352,353,356,357,358,361,362,363,366,367,368,371,372,373,376,377,378,381,382,383,386,387,388,391,392,393,396,397,398,401,402,403,405,406,408,409,410,413,414,415,418,419,420,423,424,425,427,428,430,431,432,435,436,437,439,440,442,443,444,447,448,449,451,452,454,455,456,458,459,461,462,463,465,466,468,469,470,472,473,475,476,477,480,481,482,485,486,487,489,490,492,493,494,497,498,499,500,501,504,505,506,508,509,511,512,513,515,516,518,519,520,522,523,525,526,527,529,530,532,533,534,536,537,539,540,541,543,544,546,547,548,550,551,553,554,555,557,558,560,561,562,564,565,567,568,569,571,572,574,575,576,578,579,581,582,583,584,585,586,587,588,589,590,591,592,593,594,602,604,605,607,608,609,612,613,614,615,616,617,618,621,624,625,626,629,630,631,634,635,636,639,640,641,643,644,646,647,648,651,652,653,656,657,658,660,661,663,664,665,667,668,670,671,672,675,676,677,679,680,682,683,684,686,687,689,690,691,693,694,696,697,698,700,701,703,704,705,708,709]
noncomputable def TL:Params→BT:=fun P=>(.node (boot_o_0 P) (.node (boot_o_1 P) (.node (g35.o_695 P) (.node (boot_o_7 P) (.node (g35.o_7 P) (.node (g35.o_23 P) (.node (g35.o_55 P) (.node (g35.o_134 P) (.node (g35.o_289 P) (.node (g35.o_554 P) .nil .nil) .nil) (.node (g35.o_420 P) (.node (g35.o_692 P) .nil .nil) .nil)) (.node (g35.o_218 P) (.node (g35.o_356 P) (.node (g35.o_621 P) .nil .nil) .nil) (.node (g35.o_487 P) (.node (g35.o_759 P) .nil .nil) .nil))) (.node (g35.o_90 P) (.node (g35.o_174 P) (.node (g35.o_321 P) (.node (g35.o_589 P) .nil .nil) .nil) (.node (g35.o_455 P) (.node (g35.o_727 P) .nil .nil) .nil)) (.node (g35.o_254 P) (.node (g35.o_388 P) (.node (g35.o_660 P) .nil .nil) .nil) (.node (g35.o_522 P) .nil .nil)))) (.node (g35.o_39 P) (.node (g35.o_74 P) (.node (g35.o_154 P) (.node (g35.o_305 P) (.node (g35.o_570 P) .nil .nil) .nil) (.node (g35.o_439 P) (.node (g35.o_711 P) .nil .nil) .nil)) (.node (g35.o_238 P) (.node (g35.o_372 P) (.node (tup "sure" 985 1 986) .nil .nil) .nil) (.node (g35.o_506 P) .nil .nil))) (.node (g35.o_110 P) (.node (g35.o_198 P) (.node (g35.o_337 P) (.node (g35.o_605 P) .nil .nil) .nil) (.node (g35.o_471 P) (.node (g35.o_743 P) .nil .nil) .nil)) (.node (g35.o_273 P) (.node (g35.o_404 P) (.node (g35.o_676 P) .nil .nil) .nil) (.node (g35.o_538 P) .nil .nil))))) (.node (g35.o_15 P) (.node (g35.o_31 P) (.node (g35.o_63 P) (.node (g35.o_142 P) (.node (g35.o_297 P) (.node (g35.o_562 P) .nil .nil) .nil) (.node (g35.o_428 P) (.node (g35.o_703 P) .nil .nil) .nil)) (.node (g35.o_230 P) (.node (g35.o_364 P) (.node (DD (ents P) 11) .nil .nil) .nil) (.node (g35.o_495 P) .nil .nil))) (.node (g35.o_102 P) (.node (g35.o_186 P) (.node (g35.o_329 P) (.node (g35.o_597 P) .nil .nil) .nil) (.node (g35.o_463 P) (.node (g35.o_735 P) .nil .nil) .nil)) (.node (g35.o_262 P) (.node (g35.o_396 P) (.node (g35.o_668 P) .nil .nil) .nil) (.node (g35.o_530 P) .nil .nil)))) (.node (g35.o_47 P) (.node (g35.o_82 P) (.node (g35.o_166 P) (.node (g35.o_313 P) (.node (g35.o_581 P) .nil .nil) .nil) (.node (g35.o_447 P) (.node (g35.o_719 P) .nil .nil) .nil)) (.node (g35.o_246 P) (.node (g35.o_380 P) (.node (g35.o_652 P) .nil .nil) .nil) (.node (g35.o_514 P) .nil .nil))) (.node (g35.o_122 P) (.node (g35.o_206 P) (.node (g35.o_345 P) (.node (g35.o_613 P) .nil .nil) .nil) (.node (g35.o_479 P) (.node (g35.o_751 P) .nil .nil) .nil)) (.node (g35.o_281 P) (.node (g35.o_412 P) (.node (g35.o_684 P) .nil .nil) .nil) (.node (g35.o_546 P) .nil .nil)))))) (.node (g35.o_1 P) (.node (g35.o_11 P) (.node (g35.o_27 P) (.node (g35.o_59 P) (.node (g35.o_138 P) (.node (g35.o_293 P) (.node (g35.o_558 P) .nil .nil) .nil) (.node (g35.o_424 P) (.node (g35.o_699 P) .nil .nil) .nil)) (.node (g35.o_222 P) (.node (g35.o_360 P) (.node (g35.o_625 P) .nil .nil) .nil) (.node (g35.o_491 P) (.node (g35.o_763 P) .nil .nil) .nil))) (.node (g35.o_94 P) (.node (g35.o_182 P) (.node (g35.o_325 P) (.node (g35.o_593 P) .nil .nil) .nil) (.node (g35.o_459 P) (.node (g35.o_731 P) .nil .nil) .nil)) (.node (g35.o_258 P) (.node (g35.o_392 P) (.node (g35.o_664 P) .nil .nil) .nil) (.node (g35.o_526 P) .nil .nil)))) (.node (g35.o_43 P) (.node (g35.o_78 P) (.node (g35.o_158 P) (.node (g35.o_309 P) (.node (g35.o_574 P) .nil .nil) .nil) (.node (g35.o_443 P) (.node (g35.o_715 P) .nil .nil) .nil)) (.node (g35.o_242 P) (.node (g35.o_376 P) (.node (g35.o_648 P) .nil .nil) .nil) (.node (g35.o_510 P) .nil .nil))) (.node (g35.o_118 P) (.node (g35.o_202 P) (.node (g35.o_341 P) (.node (g35.o_609 P) .nil .nil) .nil) (.node (g35.o_475 P) (.node (g35.o_747 P) .nil .nil) .nil)) (.node (g35.o_277 P) (.node (g35.o_408 P) (.node (g35.o_680 P) .nil .nil) .nil) (.node (g35.o_542 P) .nil .nil))))) (.node (g35.o_19 P) (.node (g35.o_35 P) (.node (g35.o_67 P) (.node (g35.o_150 P) (.node (g35.o_301 P) (.node (g35.o_566 P) .nil .nil) .nil) (.node (g35.o_435 P) (.node (g35.o_707 P) .nil .nil) .nil)) (.node (g35.o_234 P) (.node (g35.o_368 P) (.node (tup "back" 977 0 978) .nil .nil) .nil) (.node (g35.o_499 P) .nil .nil))) (.node (g35.o_106 P) (.node (g35.o_190 P) (.node (g35.o_333 P) (.node (g35.o_601 P) .nil .nil) .nil) (.node (g35.o_467 P) (.node (g35.o_739 P) .nil .nil) .nil)) (.node (g35.o_266 P) (.node (g35.o_400 P) (.node (g35.o_672 P) .nil .nil) .nil) (.node (g35.o_534 P) .nil .nil)))) (.node (g35.o_51 P) (.node (g35.o_86 P) (.node (g35.o_170 P) (.node (g35.o_317 P) (.node (g35.o_585 P) .nil .nil) .nil) (.node (g35.o_451 P) (.node (g35.o_723 P) .nil .nil) .nil)) (.node (g35.o_250 P) (.node (g35.o_384 P) (.node (g35.o_656 P) .nil .nil) .nil) (.node (g35.o_518 P) .nil .nil))) (.node (g35.o_126 P) (.node (g35.o_214 P) (.node (g35.o_349 P) (.node (g35.o_617 P) .nil .nil) .nil) (.node (g35.o_483 P) (.node (g35.o_755 P) .nil .nil) .nil)) (.node (g35.o_285 P) (.node (g35.o_416 P) (.node (g35.o_688 P) .nil .nil) .nil) (.node (g35.o_550 P) .nil .nil))))))) (.node (boot_o_5 P) (.node (boot_o_9 P) (.node (g35.o_9 P) (.node (g35.o_25 P) (.node (g35.o_57 P) (.node (g35.o_136 P) (.node (g35.o_291 P) (.node (g35.o_556 P) .nil .nil) .nil) (.node (g35.o_422 P) (.node (g35.o_697 P) .nil .nil) .nil)) (.node (g35.o_220 P) (.node (g35.o_358 P) (.node (g35.o_623 P) .nil .nil) .nil) (.node (g35.o_489 P) (.node (g35.o_761 P) .nil .nil) .nil))) (.node (g35.o_92 P) (.node (g35.o_176 P) (.node (g35.o_323 P) (.node (g35.o_591 P) .nil .nil) .nil) (.node (g35.o_457 P) (.node (g35.o_729 P) .nil .nil) .nil)) (.node (g35.o_256 P) (.node (g35.o_390 P) (.node (g35.o_662 P) .nil .nil) .nil) (.node (g35.o_524 P) .nil .nil)))) (.node (g35.o_41 P) (.node (g35.o_76 P) (.node (g35.o_156 P) (.node (g35.o_307 P) (.node (g35.o_572 P) .nil .nil) .nil) (.node (g35.o_441 P) (.node (g35.o_713 P) .nil .nil) .nil)) (.node (g35.o_240 P) (.node (g35.o_374 P) (.node (tup "half" 989 0 990) .nil .nil) .nil) (.node (g35.o_508 P) .nil .nil))) (.node (g35.o_112 P) (.node (g35.o_200 P) (.node (g35.o_339 P) (.node (g35.o_607 P) .nil .nil) .nil) (.node (g35.o_473 P) (.node (g35.o_745 P) .nil .nil) .nil)) (.node (g35.o_275 P) (.node (g35.o_406 P) (.node (g35.o_678 P) .nil .nil) .nil) (.node (g35.o_540 P) .nil .nil))))) (.node (g35.o_17 P) (.node (g35.o_33 P) (.node (g35.o_65 P) (.node (g35.o_144 P) (.node (g35.o_299 P) (.node (g35.o_564 P) .nil .nil) .nil) (.node (g35.o_433 P) (.node (g35.o_705 P) .nil .nil) .nil)) (.node (g35.o_232 P) (.node (g35.o_366 P) (.node (tup "hear" 973 2 974) .nil .nil) .nil) (.node (g35.o_497 P) .nil .nil))) (.node (g35.o_104 P) (.node (g35.o_188 P) (.node (g35.o_331 P) (.node (g35.o_599 P) .nil .nil) .nil) (.node (g35.o_465 P) (.node (g35.o_737 P) .nil .nil) .nil)) (.node (g35.o_264 P) (.node (g35.o_398 P) (.node (g35.o_670 P) .nil .nil) .nil) (.node (g35.o_532 P) .nil .nil)))) (.node (g35.o_49 P) (.node (g35.o_84 P) (.node (g35.o_168 P) (.node (g35.o_315 P) (.node (g35.o_583 P) .nil .nil) .nil) (.node (g35.o_449 P) (.node (g35.o_721 P) .nil .nil) .nil)) (.node (g35.o_248 P) (.node (g35.o_382 P) (.node (g35.o_654 P) .nil .nil) .nil) (.node (g35.o_516 P) .nil .nil))) (.node (g35.o_124 P) (.node (g35.o_208 P) (.node (g35.o_347 P) (.node (g35.o_615 P) .nil .nil) .nil) (.node (g35.o_481 P) (.node (g35.o_753 P) .nil .nil) .nil)) (.node (g35.o_283 P) (.node (g35.o_414 P) (.node (g35.o_686 P) .nil .nil) .nil) (.node (g35.o_548 P) .nil .nil)))))) (.node (g35.o_3 P) (.node (g35.o_13 P) (.node (g35.o_29 P) (.node (g35.o_61 P) (.node (g35.o_140 P) (.node (g35.o_295 P) (.node (g35.o_560 P) .nil .nil) .nil) (.node (g35.o_426 P) (.node (g35.o_701 P) .nil .nil) .nil)) (.node (g35.o_224 P) (.node (g35.o_362 P) (.node (g35.o_627 P) .nil .nil) .nil) (.node (g35.o_493 P) (.node (g35.o_765 P) .nil .nil) .nil))) (.node (g35.o_96 P) (.node (g35.o_184 P) (.node (g35.o_327 P) (.node (g35.o_595 P) .nil .nil) .nil) (.node (g35.o_461 P) (.node (g35.o_733 P) .nil .nil) .nil)) (.node (g35.o_260 P) (.node (g35.o_394 P) (.node (g35.o_666 P) .nil .nil) .nil) (.node (g35.o_528 P) .nil .nil)))) (.node (g35.o_45 P) (.node (g35.o_80 P) (.node (g35.o_160 P) (.node (g35.o_311 P) (.node (g35.o_576 P) .nil .nil) .nil) (.node (g35.o_445 P) (.node (g35.o_717 P) .nil .nil) .nil)) (.node (g35.o_244 P) (.node (g35.o_378 P) (.node (g35.o_650 P) .nil .nil) .nil) (.node (g35.o_512 P) .nil .nil))) (.node (g35.o_120 P) (.node (g35.o_204 P) (.node (g35.o_343 P) (.node (g35.o_611 P) .nil .nil) .nil) (.node (g35.o_477 P) (.node (g35.o_749 P) .nil .nil) .nil)) (.node (g35.o_279 P) (.node (g35.o_410 P) (.node (g35.o_682 P) .nil .nil) .nil) (.node (g35.o_544 P) .nil .nil))))) (.node (g35.o_21 P) (.node (g35.o_37 P) (.node (g35.o_72 P) (.node (g35.o_152 P) (.node (g35.o_303 P) (.node (g35.o_568 P) .nil .nil) .nil) (.node (g35.o_437 P) (.node (g35.o_709 P) .nil .nil) .nil)) (.node (g35.o_236 P) (.node (g35.o_370 P) (.node (tup "row" 981 0 982) .nil .nil) .nil) (.node (g35.o_501 P) .nil .nil))) (.node (g35.o_108 P) (.node (g35.o_192 P) (.node (g35.o_335 P) (.node (g35.o_603 P) .nil .nil) .nil) (.node (g35.o_469 P) (.node (g35.o_741 P) .nil .nil) .nil)) (.node (g35.o_271 P) (.node (g35.o_402 P) (.node (g35.o_674 P) .nil .nil) .nil) (.node (g35.o_536 P) .nil .nil)))) (.node (g35.o_53 P) (.node (g35.o_88 P) (.node (g35.o_172 P) (.node (g35.o_319 P) (.node (g35.o_587 P) .nil .nil) .nil) (.node (g35.o_453 P) (.node (g35.o_725 P) .nil .nil) .nil)) (.node (g35.o_252 P) (.node (g35.o_386 P) (.node (g35.o_658 P) .nil .nil) .nil) (.node (g35.o_520 P) .nil .nil))) (.node (g35.o_128 P) (.node (g35.o_216 P) (.node (g35.o_351 P) (.node (g35.o_619 P) .nil .nil) .nil) (.node (g35.o_485 P) (.node (g35.o_757 P) .nil .nil) .nil)) (.node (g35.o_287 P) (.node (g35.o_418 P) (.node (g35.o_690 P) .nil .nil) .nil) (.node (g35.o_552 P) .nil .nil)))))))) (.node (boot_o_2 P) (.node (boot_o_4 P) (.node (boot_o_8 P) (.node (g35.o_8 P) (.node (g35.o_24 P) (.node (g35.o_56 P) (.node (g35.o_135 P) (.node (g35.o_290 P) (.node (g35.o_555 P) .nil .nil) .nil) (.node (g35.o_421 P) (.node (g35.o_693 P) .nil .nil) .nil)) (.node (g35.o_219 P) (.node (g35.o_357 P) (.node (g35.o_622 P) .nil .nil) .nil) (.node (g35.o_488 P) (.node (g35.o_760 P) .nil .nil) .nil))) (.node (g35.o_91 P) (.node (g35.o_175 P) (.node (g35.o_322 P) (.node (g35.o_590 P) .nil .nil) .nil) (.node (g35.o_456 P) (.node (g35.o_728 P) .nil .nil) .nil)) (.node (g35.o_255 P) (.node (g35.o_389 P) (.node (g35.o_661 P) .nil .nil) .nil) (.node (g35.o_523 P) .nil .nil)))) (.node (g35.o_40 P) (.node (g35.o_75 P) (.node (g35.o_155 P) (.node (g35.o_306 P) (.node (g35.o_571 P) .nil .nil) .nil) (.node (g35.o_440 P) (.node (g35.o_712 P) .nil .nil) .nil)) (.node (g35.o_239 P) (.node (g35.o_373 P) (.node (tup "near" 987 1 988) .nil .nil) .nil) (.node (g35.o_507 P) .nil .nil))) (.node (g35.o_111 P) (.node (g35.o_199 P) (.node (g35.o_338 P) (.node (g35.o_606 P) .nil .nil) .nil) (.node (g35.o_472 P) (.node (g35.o_744 P) .nil .nil) .nil)) (.node (g35.o_274 P) (.node (g35.o_405 P) (.node (g35.o_677 P) .nil .nil) .nil) (.node (g35.o_539 P) .nil .nil))))) (.node (g35.o_16 P) (.node (g35.o_32 P) (.node (g35.o_64 P) (.node (g35.o_143 P) (.node (g35.o_298 P) (.node (g35.o_563 P) .nil .nil) .nil) (.node (g35.o_429 P) (.node (g35.o_704 P) .nil .nil) .nil)) (.node (g35.o_231 P) (.node (g35.o_365 P) (.node (tup "slips" 971 1 972) .nil .nil) .nil) (.node (g35.o_496 P) .nil .nil))) (.node (g35.o_103 P) (.node (g35.o_187 P) (.node (g35.o_330 P) (.node (g35.o_598 P) .nil .nil) .nil) (.node (g35.o_464 P) (.node (g35.o_736 P) .nil .nil) .nil)) (.node (g35.o_263 P) (.node (g35.o_397 P) (.node (g35.o_669 P) .nil .nil) .nil) (.node (g35.o_531 P) .nil .nil)))) (.node (g35.o_48 P) (.node (g35.o_83 P) (.node (g35.o_167 P) (.node (g35.o_314 P) (.node (g35.o_582 P) .nil .nil) .nil) (.node (g35.o_448 P) (.node (g35.o_720 P) .nil .nil) .nil)) (.node (g35.o_247 P) (.node (g35.o_381 P) (.node (g35.o_653 P) .nil .nil) .nil) (.node (g35.o_515 P) .nil .nil))) (.node (g35.o_123 P) (.node (g35.o_207 P) (.node (g35.o_346 P) (.node (g35.o_614 P) .nil .nil) .nil) (.node (g35.o_480 P) (.node (g35.o_752 P) .nil .nil) .nil)) (.node (g35.o_282 P) (.node (g35.o_413 P) (.node (g35.o_685 P) .nil .nil) .nil) (.node (g35.o_547 P) .nil .nil)))))) (.node (g35.o_696 P) (.node (g35.o_12 P) (.node (g35.o_28 P) (.node (g35.o_60 P) (.node (g35.o_139 P) (.node (g35.o_294 P) (.node (g35.o_559 P) .nil .nil) .nil) (.node (g35.o_425 P) (.node (g35.o_700 P) .nil .nil) .nil)) (.node (g35.o_223 P) (.node (g35.o_361 P) (.node (g35.o_626 P) .nil .nil) .nil) (.node (g35.o_492 P) (.node (g35.o_764 P) .nil .nil) .nil))) (.node (g35.o_95 P) (.node (g35.o_183 P) (.node (g35.o_326 P) (.node (g35.o_594 P) .nil .nil) .nil) (.node (g35.o_460 P) (.node (g35.o_732 P) .nil .nil) .nil)) (.node (g35.o_259 P) (.node (g35.o_393 P) (.node (g35.o_665 P) .nil .nil) .nil) (.node (g35.o_527 P) .nil .nil)))) (.node (g35.o_44 P) (.node (g35.o_79 P) (.node (g35.o_159 P) (.node (g35.o_310 P) (.node (g35.o_575 P) .nil .nil) .nil) (.node (g35.o_444 P) (.node (g35.o_716 P) .nil .nil) .nil)) (.node (g35.o_243 P) (.node (g35.o_377 P) (.node (g35.o_649 P) .nil .nil) .nil) (.node (g35.o_511 P) .nil .nil))) (.node (g35.o_119 P) (.node (g35.o_203 P) (.node (g35.o_342 P) (.node (g35.o_610 P) .nil .nil) .nil) (.node (g35.o_476 P) (.node (g35.o_748 P) .nil .nil) .nil)) (.node (g35.o_278 P) (.node (g35.o_409 P) (.node (g35.o_681 P) .nil .nil) .nil) (.node (g35.o_543 P) .nil .nil))))) (.node (g35.o_20 P) (.node (g35.o_36 P) (.node (g35.o_68 P) (.node (g35.o_151 P) (.node (g35.o_302 P) (.node (g35.o_567 P) .nil .nil) .nil) (.node (g35.o_436 P) (.node (g35.o_708 P) .nil .nil) .nil)) (.node (g35.o_235 P) (.node (g35.o_369 P) (.node (tup "again" 979 0 980) .nil .nil) .nil) (.node (g35.o_500 P) .nil .nil))) (.node (g35.o_107 P) (.node (g35.o_191 P) (.node (g35.o_334 P) (.node (g35.o_602 P) .nil .nil) .nil) (.node (g35.o_468 P) (.node (g35.o_740 P) .nil .nil) .nil)) (.node (g35.o_267 P) (.node (g35.o_401 P) (.node (g35.o_673 P) .nil .nil) .nil) (.node (g35.o_535 P) .nil .nil)))) (.node (g35.o_52 P) (.node (g35.o_87 P) (.node (g35.o_171 P) (.node (g35.o_318 P) (.node (g35.o_586 P) .nil .nil) .nil) (.node (g35.o_452 P) (.node (g35.o_724 P) .nil .nil) .nil)) (.node (g35.o_251 P) (.node (g35.o_385 P) (.node (g35.o_657 P) .nil .nil) .nil) (.node (g35.o_519 P) .nil .nil))) (.node (g35.o_127 P) (.node (g35.o_215 P) (.node (g35.o_350 P) (.node (g35.o_618 P) .nil .nil) .nil) (.node (g35.o_484 P) (.node (g35.o_756 P) .nil .nil) .nil)) (.node (g35.o_286 P) (.node (g35.o_417 P) (.node (g35.o_689 P) .nil .nil) .nil) (.node (g35.o_551 P) .nil .nil))))))) (.node (boot_o_6 P) (.node (boot_o_10 P) (.node (g35.o_10 P) (.node (g35.o_26 P) (.node (g35.o_58 P) (.node (g35.o_137 P) (.node (g35.o_292 P) (.node (g35.o_557 P) .nil .nil) .nil) (.node (g35.o_423 P) (.node (g35.o_698 P) .nil .nil) .nil)) (.node (g35.o_221 P) (.node (g35.o_359 P) (.node (g35.o_624 P) .nil .nil) .nil) (.node (g35.o_490 P) (.node (g35.o_762 P) .nil .nil) .nil))) (.node (g35.o_93 P) (.node (g35.o_181 P) (.node (g35.o_324 P) (.node (g35.o_592 P) .nil .nil) .nil) (.node (g35.o_458 P) (.node (g35.o_730 P) .nil .nil) .nil)) (.node (g35.o_257 P) (.node (g35.o_391 P) (.node (g35.o_663 P) .nil .nil) .nil) (.node (g35.o_525 P) .nil .nil)))) (.node (g35.o_42 P) (.node (g35.o_77 P) (.node (g35.o_157 P) (.node (g35.o_308 P) (.node (g35.o_573 P) .nil .nil) .nil) (.node (g35.o_442 P) (.node (g35.o_714 P) .nil .nil) .nil)) (.node (g35.o_241 P) (.node (g35.o_375 P) (.node (tup "reach" 991 1 992) .nil .nil) .nil) (.node (g35.o_509 P) .nil .nil))) (.node (g35.o_117 P) (.node (g35.o_201 P) (.node (g35.o_340 P) (.node (g35.o_608 P) .nil .nil) .nil) (.node (g35.o_474 P) (.node (g35.o_746 P) .nil .nil) .nil)) (.node (g35.o_276 P) (.node (g35.o_407 P) (.node (g35.o_679 P) .nil .nil) .nil) (.node (g35.o_541 P) .nil .nil))))) (.node (g35.o_18 P) (.node (g35.o_34 P) (.node (g35.o_66 P) (.node (g35.o_149 P) (.node (g35.o_300 P) (.node (g35.o_565 P) .nil .nil) .nil) (.node (g35.o_434 P) (.node (g35.o_706 P) .nil .nil) .nil)) (.node (g35.o_233 P) (.node (g35.o_367 P) (.node (tup "forget" 975 1 976) .nil .nil) .nil) (.node (g35.o_498 P) .nil .nil))) (.node (g35.o_105 P) (.node (g35.o_189 P) (.node (g35.o_332 P) (.node (g35.o_600 P) .nil .nil) .nil) (.node (g35.o_466 P) (.node (g35.o_738 P) .nil .nil) .nil)) (.node (g35.o_265 P) (.node (g35.o_399 P) (.node (g35.o_671 P) .nil .nil) .nil) (.node (g35.o_533 P) .nil .nil)))) (.node (g35.o_50 P) (.node (g35.o_85 P) (.node (g35.o_169 P) (.node (g35.o_316 P) (.node (g35.o_584 P) .nil .nil) .nil) (.node (g35.o_450 P) (.node (g35.o_722 P) .nil .nil) .nil)) (.node (g35.o_249 P) (.node (g35.o_383 P) (.node (g35.o_655 P) .nil .nil) .nil) (.node (g35.o_517 P) .nil .nil))) (.node (g35.o_125 P) (.node (g35.o_213 P) (.node (g35.o_348 P) (.node (g35.o_616 P) .nil .nil) .nil) (.node (g35.o_482 P) (.node (g35.o_754 P) .nil .nil) .nil)) (.node (g35.o_284 P) (.node (g35.o_415 P) (.node (g35.o_687 P) .nil .nil) .nil) (.node (g35.o_549 P) .nil .nil)))))) (.node (g35.o_4 P) (.node (g35.o_14 P) (.node (g35.o_30 P) (.node (g35.o_62 P) (.node (g35.o_141 P) (.node (g35.o_296 P) (.node (g35.o_561 P) .nil .nil) .nil) (.node (g35.o_427 P) (.node (g35.o_702 P) .nil .nil) .nil)) (.node (g35.o_229 P) (.node (g35.o_363 P) (.node (g35.o_628 P) .nil .nil) .nil) (.node (g35.o_494 P) .nil .nil))) (.node (g35.o_101 P) (.node (g35.o_185 P) (.node (g35.o_328 P) (.node (g35.o_596 P) .nil .nil) .nil) (.node (g35.o_462 P) (.node (g35.o_734 P) .nil .nil) .nil)) (.node (g35.o_261 P) (.node (g35.o_395 P) (.node (g35.o_667 P) .nil .nil) .nil) (.node (g35.o_529 P) .nil .nil)))) (.node (g35.o_46 P) (.node (g35.o_228 P) (.node (g35.o_165 P) (.node (g35.o_312 P) (.node (g35.o_580 P) .nil .nil) .nil) (.node (g35.o_446 P) (.node (g35.o_718 P) .nil .nil) .nil)) (.node (g35.o_245 P) (.node (g35.o_379 P) (.node (g35.o_651 P) .nil .nil) .nil) (.node (g35.o_513 P) .nil .nil))) (.node (g35.o_121 P) (.node (g35.o_205 P) (.node (g35.o_344 P) (.node (g35.o_612 P) .nil .nil) .nil) (.node (g35.o_478 P) (.node (g35.o_750 P) .nil .nil) .nil)) (.node (g35.o_280 P) (.node (g35.o_411 P) (.node (g35.o_683 P) .nil .nil) .nil) (.node (g35.o_545 P) .nil .nil))))) (.node (g35.o_22 P) (.node (g35.o_38 P) (.node (g35.o_73 P) (.node (g35.o_153 P) (.node (g35.o_304 P) (.node (g35.o_569 P) .nil .nil) .nil) (.node (g35.o_438 P) (.node (g35.o_710 P) .nil .nil) .nil)) (.node (g35.o_237 P) (.node (g35.o_371 P) (.node (tup "can" 983 0 984) .nil .nil) .nil) (.node (g35.o_502 P) .nil .nil))) (.node (g35.o_109 P) (.node (g35.o_197 P) (.node (g35.o_336 P) (.node (g35.o_604 P) .nil .nil) .nil) (.node (g35.o_470 P) (.node (g35.o_742 P) .nil .nil) .nil)) (.node (g35.o_272 P) (.node (g35.o_403 P) (.node (g35.o_675 P) .nil .nil) .nil) (.node (g35.o_537 P) .nil .nil)))) (.node (g35.o_54 P) (.node (g35.o_89 P) (.node (g35.o_173 P) (.node (g35.o_320 P) (.node (g35.o_588 P) .nil .nil) .nil) (.node (g35.o_454 P) (.node (g35.o_726 P) .nil .nil) .nil)) (.node (g35.o_253 P) (.node (g35.o_387 P) (.node (g35.o_659 P) .nil .nil) .nil) (.node (g35.o_521 P) .nil .nil))) (.node (g35.o_133 P) (.node (g35.o_217 P) (.node (g35.o_352 P) (.node (g35.o_620 P) .nil .nil) .nil) (.node (g35.o_486 P) (.node (g35.o_758 P) .nil .nil) .nil)) (.node (g35.o_288 P) (.node (g35.o_419 P) (.node (g35.o_691 P) .nil .nil) .nil) (.node (g35.o_553 P) .nil .nil)))))))))
theorem zoA (P:Params):rpl (Dn P) (PySem.W.g35.tree_765 P) 1 0=TL P:=by kernel_rfl
noncomputable abbrev H2 (P:Params):Heap:=absHeap (TL P) 710 {}
noncomputable abbrev HkG:Hook:=kHook KG asG (fun _=>by kernel_rfl)
abbrev LG:OpenLaw:=PySem.Challenge.rw_slipcurve_k35_two_reasons_which_first
noncomputable abbrev XtG (s:Shared):Bool:=xlAt qG [] s && recOk (RowW.records (OpenRow.toRowW LG.row)) s
noncomputable abbrev FS (w:World) (os:OsState):Shared:=⟨H2 w.params,⟨[]⟩,{},1196,os⟩
theorem znS:∀ w:World,(fencedOpening treeTable PG w 13476).map (fun s=>(s.heap,s.gens,s.drawn,s.toks))=some (boot_heap w.params,Array.mk [],boot_drawn,boot_toks) :=
 boot_open (by kernel_rfl) #[D] (fun s=>by kernel_rfl)
theorem znT:∀ w:World,((boot_heap w.params).isNs mainGlobals && (⟨[]⟩:Array GenState).size == 0,(boot_heap w.params).objs.size,(boot_heap w.params).nsMap mainGlobals "__annotations__")=(true,11,some (.ref 6)):=fun w=>by kernel_rfl
theorem znU (w:World) (os:OsState):(staticsOk (importedModules PG.main.body) (boot_heap w.params) (H2 w.params) && namesBound PG (H2 w.params) && gensDone (FS w os) && laidKept (boot_heap w.params) (H2 w.params))=true:=by kernel_rfl
theorem znV (w:World) (os:OsState):Hook.obs HkG (FS w os)=Hook.val HkG w:=by kernel_rfl
theorem zhu (w:World) (os:OsState):topRun treeTable PG w 11 (some (.ref 6)) 13476 ⟨boot_heap w.params,⟨[]⟩,boot_drawn,boot_toks,os⟩ (topStub PG)=some (sT (TL w.params) 710 1196 os).abs:=by
 have h:=whole_run w os;unfold SL at h;rw [zoA] at h;exact h
end Ht
end
section
namespace Ht
open PySem PySem.W
open PyProof.Rows
theorem zmt (w:World) (os:OsState):Fast.tw5160383126252970620 (R.mapR (fun x=>x.name) (Fast.tw3399658132070893891 qG)) (Fast.tw5991557255702980513 qG) [] {heap:=(FS w os).heap,drawn:=(FS w os).drawn,toks:=(FS w os).toks,os:=(FS w os).os}=expectedOf qG:=by kernel_rfl
theorem zmu (w:World) (os:OsState):(FS w os).heap.bltView=bltViewBooted:=by kernel_rfl
theorem zmv (w:World) (os:OsState):(Fast.tw10880121769531294198 (FS w os).heap (Fast.tw821141287760084731 qG zbW) (R.mapR (fun x=>x.name) (Fast.tw3399658132070893891 qG)) (R.mapR (fun x=>x.fst) (Fast.tw7409074990110511671 qG)) (R.mapR (fun x=>x.name) (Fast.tw13664370479719496447 qG (Fast.tw821141287760084731 qG zbW)))&&Fast.tw14722251495701143533 (FS w os).heap (importedModules PG.main.body)&&(FS w os).heap.isNs mainGlobals&&(FS w os).heap.isNs builtinsNs&&Fast.tw10994771534591457954 qG (FS w os).heap&&XtG (FS w os)&&(if true = true then (FS w os).gens.size==0 else !leftWithCleanup (FS w os).gens))=true:=by kernel_rfl
theorem zmw (w:World) (os:OsState):Fast.tw479339242167458305 qG (FS w os)=true:=by kernel_rfl
theorem zmx (w:World) (os:OsState):Fast.tw16090120013241838585 qG (Fast.tw3247288618530077131 qG) (FS w os)=pinGoodD (drecsOf qG):=by kernel_rfl
theorem zmy (w:World) (os:OsState):Fast.tw2386780881361962483 qG (Fast.tw821141287760084731 qG zbW) (FS w os)=plainGoodE qG (looseW qG zbW):=by kernel_rfl
theorem zmz (w:World) (os:OsState):Fast.tw11698064438423848299 qG zbW (FS w os)=plainGoodD qG zbW:=by kernel_rfl
theorem zmA (w:World) (os:OsState):Fast.tw7317090234206586261 qG (FS w os)=wideGood qG:=by kernel_rfl
theorem zmB (w:World) (os:OsState):Fast.tw7369524293546568484 qG zbW (FS w os)=clsGoodW qG zbW:=by kernel_rfl
theorem pr2 {α β:Type} {a a':α} {b b':β} (h:a=a') (k:b=b'):(a,b)=(a',b'):=by rw [h,k]
theorem SGe (w:World) (os:OsState):Fast.tw4187177175401517315 qG zbW (importedModules PG.main.body) XtG true (FS w os)=(Fast.tw5160383126252970620 (R.mapR (fun x=>x.name) (Fast.tw3399658132070893891 qG)) (Fast.tw5991557255702980513 qG) [] {heap:=(FS w os).heap,drawn:=(FS w os).drawn,toks:=(FS w os).toks,os:=(FS w os).os},(FS w os).heap.bltView,(Fast.tw10880121769531294198 (FS w os).heap (Fast.tw821141287760084731 qG zbW) (R.mapR (fun x=>x.name) (Fast.tw3399658132070893891 qG)) (R.mapR (fun x=>x.fst) (Fast.tw7409074990110511671 qG)) (R.mapR (fun x=>x.name) (Fast.tw13664370479719496447 qG (Fast.tw821141287760084731 qG zbW)))&&Fast.tw14722251495701143533 (FS w os).heap (importedModules PG.main.body)&&(FS w os).heap.isNs mainGlobals&&(FS w os).heap.isNs builtinsNs&&Fast.tw10994771534591457954 qG (FS w os).heap&&XtG (FS w os)&&(if true = true then (FS w os).gens.size==0 else !leftWithCleanup (FS w os).gens)),Fast.tw479339242167458305 qG (FS w os),Fast.tw16090120013241838585 qG (Fast.tw3247288618530077131 qG) (FS w os),Fast.tw2386780881361962483 qG (Fast.tw821141287760084731 qG zbW) (FS w os),Fast.tw11698064438423848299 qG zbW (FS w os),Fast.tw7317090234206586261 qG (FS w os),Fast.tw7369524293546568484 qG zbW (FS w os)):=by kernel_rfl
theorem gGe:(expectedOf qG,bltViewBooted,true,true,pinGoodD (drecsOf qG),plainGoodE qG (looseW qG zbW),plainGoodD qG zbW,wideGood qG,clsGoodW qG zbW)=openGood qG zbW:=by kernel_rfl
theorem znW (w:World) (os:OsState):openSeen qG zbW (importedModules PG.main.body) XtG true (FS w os)=openGood qG zbW:=by
 rw [Fast.te4187177175401517315];exact (SGe w os).trans ((pr2 (zmt w os) (pr2 (zmu w os) (pr2 (zmv w os) (pr2 (zmw w os) (pr2 (zmx w os) (pr2 (zmy w os) (pr2 (zmz w os) (pr2 (zmA w os) (zmB w os))))))))).trans gGe)
end Ht
end
section
namespace Ht
open PySem PySem.W
theorem znX:LeftO PG qG zbW XtG (Hook.obs HkG) (Hook.val HkG) 13476 :=
 LeftO.of_pieces znS znT (M:=13476) (fun w os=>zhu w os) #[D] fun w=>funext fun os=>by
  rw [znU w os,znW w os,znV w os]
theorem head_G (hw:LG.row.toRowW.promised) {d:DefRec} {tQ:List (Str×Expr)} (tR:defOf qG LG.row.name=some (d,tQ)) (hp:LG.row.prog.theDef LG.row.name=some (d.params,d.body,d.scope)) (hk:kwWritten? d.params.kwonlyargs d.params.kw_defaults=some tQ) (tS:LG.row.wellSaid=true)
  (call:WalkO qG zbW (XL qG []) (Hook.says HkG) LG.row.toRowW d tQ fun f vs=>fB f vs):LG.row.Holds :=
 holds_open (q:=qG) (loose:=zbW) (Xt:=XtG) (XP:=XL qG []) (Yf:=Hook.obs HkG) (Ya:=Hook.val HkG) (YP:=Hook.says HkG) (N:=13476) znX (Hook.of HkG) (Hook.keeps HkG) (fun s e=>xl_of s (fG.mp e).1) XL.keeps tR hp hk
  (fun s e=>recFacts_of (fG.mp e).2) (by rfl) tS #[N] ⟨rfl,rfl,rfl,rfl,rfl,#[N]⟩ hw call
end Ht
end
section
namespace My
open PySem L2 PyProof.Rows
theorem el0 {n:Nat} {us:List Value} (e:us.length=n+1):∃ a v,us=a :: v∧v.length=n:=by
 cases us with
 | nil=>cases e
 | cons a v=>exact⟨a,v,rfl,Nat.succ.inj e⟩
theorem el1 {us:List Value} (e:us.length=1):∃ a,us = [a]:=by
 obtain⟨a,v,rfl,h⟩:=el0 e;exact⟨a,by rw [List.eq_nil_of_length_eq_zero h]⟩
theorem el2 {us:List Value} (e:us.length=2):∃ a b,us = [a,b]:=by
 obtain⟨a,v,rfl,h⟩:=el0 e;obtain⟨b,rfl⟩:=el1 h;exact⟨a,b,rfl⟩
theorem el3 {us:List Value} (e:us.length=3):∃ a b c,us = [a,b,c]:=by
 obtain⟨a,v,rfl,h⟩:=el0 e;obtain⟨b,c,rfl⟩:=el2 h;exact⟨a,b,c,rfl⟩
theorem el4 {us:List Value} (e:us.length=4):∃ a b c d,us = [a,b,c,d]:=by
 obtain⟨a,v,rfl,h⟩:=el0 e;obtain⟨b,c,d,rfl⟩:=el3 h;exact⟨a,b,c,d,rfl⟩
theorem zR {K:af} {x q:Str} {st:Stmt} {f:Addr} {o:Obj} {od an:Option Addr} {sl:Array (Option Value)} {oc kV dc pm cd ct:Value} (l:K.lookup f=some o) (e:o=⟨oc,od,.func (bP x q (zck st) (zbf st) (zj st) .none kV dc pm an cd ct),sl⟩) (c:cZ K cd q=true) (k:bC K (.ref f)=true):Fun K x q st f (bP x q (zck st) (zbf st) (zj st) .none kV dc pm an cd ct):=by
 subst e;exact zm7 l c k
def tA:Adr:=⟨500,583,547,554,575,616,608,613,86,99,111,123,135,147,159,171,183,195,207,314,250,257,264,271,278,285,292,299,311,21,28,33,38,45,214,236,409,481,493,498,505,512,519,526,533,540,561,568,582,652,657,664,671,676,683,690,697,704,709⟩
local macro_rules|`(#[E1])=>`(fun _ _ _ _ _ _ _ h=>by obtain⟨_,e⟩:=el1 h;subst e;exact rfl)
local macro_rules|`(#[E2])=>`(fun _ _ _ _ _ _ _ h=>by obtain⟨_,_,e⟩:=el2 h;subst e;exact rfl)
local macro_rules|`(#[E3])=>`(fun _ _ _ _ _ _ _ h=>by obtain⟨_,_,_,e⟩:=el3 h;subst e;exact rfl)
local macro_rules|`(#[E4])=>`(fun _ _ _ _ _ _ _ h=>by obtain⟨_,_,_,_,e⟩:=el4 h;subst e;exact rfl)
theorem zmC (P:Params):∃ fd,Fun (Ht.KG P) "__init__" "Listener.__init__" zd0 250 fd∧Binds (Ht.KG P) fd ["self","code","slips"] []:=by
 have F:=zR (K:=Ht.KG P) (x:="__init__") (q:="Listener.__init__") (st:=zd0) (f:=250) (o:=PySem.W.g35.o_284 P) (by kernel_rfl) rfl (by kernel_rfl) (by kernel_rfl);exact⟨_,F,F.binds (ps:=["self","code","slips"]) #[E3]⟩
theorem zek (P:Params):∃ fd,Fun (Ht.KG P) "check_place" "Listener.check_place" zaG 257 fd∧Binds (Ht.KG P) fd ["self","number"] []:=by
 have F:=zR (K:=Ht.KG P) (x:="check_place") (q:="Listener.check_place") (st:=zaG) (f:=257) (o:=PySem.W.g35.o_291 P) (by kernel_rfl) rfl (by kernel_rfl) (by kernel_rfl);exact⟨_,F,F.binds (ps:=["self","number"]) #[E2]⟩
theorem ziU (P:Params):∃ fd,Fun (Ht.KG P) "change" "Listener.change" zcc 264 fd∧Binds (Ht.KG P) fd ["self","number","entry"] []:=by
 have F:=zR (K:=Ht.KG P) (x:="change") (q:="Listener.change") (st:=zcc) (f:=264) (o:=PySem.W.g35.o_298 P) (by kernel_rfl) rfl (by kernel_rfl) (by kernel_rfl);exact⟨_,F,F.binds (ps:=["self","number","entry"]) #[E3]⟩
theorem zmD (P:Params):∃ fd,Fun (Ht.KG P) "hear" "Listener.hear" zd1 271 fd∧Binds (Ht.KG P) fd ["self","number","entry"] []:=by
 have F:=zR (K:=Ht.KG P) (x:="hear") (q:="Listener.hear") (st:=zd1) (f:=271) (o:=PySem.W.g35.o_305 P) (by kernel_rfl) rfl (by kernel_rfl) (by kernel_rfl);exact⟨_,F,F.binds (ps:=["self","number","entry"]) #[E3]⟩
theorem ziV (P:Params):∃ fd,Fun (Ht.KG P) "forget" "Listener.forget" zcd 278 fd∧Binds (Ht.KG P) fd ["self","number"] []:=by
 have F:=zR (K:=Ht.KG P) (x:="forget") (q:="Listener.forget") (st:=zcd) (f:=278) (o:=PySem.W.g35.o_312 P) (by kernel_rfl) rfl (by kernel_rfl) (by kernel_rfl);exact⟨_,F,F.binds (ps:=["self","number"]) #[E2]⟩
theorem zmE (P:Params):∃ fd,Fun (Ht.KG P) "back" "Listener.back" zd2 285 fd∧Binds (Ht.KG P) fd ["self"] []:=by
 have F:=zR (K:=Ht.KG P) (x:="back") (q:="Listener.back") (st:=zd2) (f:=285) (o:=PySem.W.g35.o_319 P) (by kernel_rfl) rfl (by kernel_rfl) (by kernel_rfl);exact⟨_,F,F.binds (ps:=["self"]) #[E1]⟩
theorem zlf (P:Params):∃ fd,Fun (Ht.KG P) "again" "Listener.again" s_again 292 fd∧Binds (Ht.KG P) fd ["self"] []:=by
 have F:=zR (K:=Ht.KG P) (x:="again") (q:="Listener.again") (st:=s_again) (f:=292) (o:=PySem.W.g35.o_326 P) (by kernel_rfl) rfl (by kernel_rfl) (by kernel_rfl);exact⟨_,F,F.binds (ps:=["self"]) #[E1]⟩
theorem znY (P:Params):∃ fd,Fun (Ht.KG P) "row" "Listener.row" s_row 299 fd∧Binds (Ht.KG P) fd ["self"] []:=by
 have F:=zR (K:=Ht.KG P) (x:="row") (q:="Listener.row") (st:=s_row) (f:=299) (o:=PySem.W.g35.o_333 P) (by kernel_rfl) rfl (by kernel_rfl) (by kernel_rfl);exact⟨_,F,F.binds (ps:=["self"]) #[E1]⟩
theorem zmF (P:Params):∃ fd,Fun (Ht.KG P) "sure" "Listener.sure" zd3 311 fd∧Binds (Ht.KG P) fd ["self","number"] []:=by
 have F:=zR (K:=Ht.KG P) (x:="sure") (q:="Listener.sure") (st:=zd3) (f:=311) (o:=PySem.W.g35.o_345 P) (by kernel_rfl) rfl (by kernel_rfl) (by kernel_rfl);exact⟨_,F,F.binds (ps:=["self","number"]) #[E2]⟩
theorem ziW (P:Params):∃ fd,Fun (Ht.KG P) "__init__" "Desk.__init__" zce 608 fd∧Binds (Ht.KG P) fd ["self"] []:=by
 have F:=zR (K:=Ht.KG P) (x:="__init__") (q:="Desk.__init__") (st:=zce) (f:=608) (o:=PySem.W.g35.o_661 P) (by kernel_rfl) rfl (by kernel_rfl) (by kernel_rfl);exact⟨_,F,F.binds (ps:=["self"]) #[E1]⟩
theorem zlg (P:Params):∃ fd,Fun (Ht.KG P) "say" "Desk.say" zbv 613 fd∧Binds (Ht.KG P) fd ["self","row"] []:=by
 have F:=zR (K:=Ht.KG P) (x:="say") (q:="Desk.say") (st:=zbv) (f:=613) (o:=PySem.W.g35.o_666 P) (by kernel_rfl) rfl (by kernel_rfl) (by kernel_rfl);exact⟨_,F,F.binds (ps:=["self","row"]) #[E2]⟩
theorem zgC (P:Params):∃ fd,Fun (Ht.KG P) "is_whole" "is_whole" zbi 21 fd∧Binds (Ht.KG P) fd ["thing"] []:=by
 have F:=zR (K:=Ht.KG P) (x:="is_whole") (q:="is_whole") (st:=zbi) (f:=21) (o:=PySem.W.g35.o_13 P) (by kernel_rfl) rfl (by kernel_rfl) (by kernel_rfl);exact⟨_,F,F.binds (ps:=["thing"]) #[E1]⟩
theorem zfP (P:Params):∃ fd,Fun (Ht.KG P) "is_number" "is_number" za2 28 fd∧Binds (Ht.KG P) fd ["p","thing"] []:=by
 have F:=zR (K:=Ht.KG P) (x:="is_number") (q:="is_number") (st:=za2) (f:=28) (o:=PySem.W.g35.o_20 P) (by kernel_rfl) rfl (by kernel_rfl) (by kernel_rfl);exact⟨_,F,F.binds (ps:=["p","thing"]) #[E2]⟩
theorem zdl (P:Params):∃ fd,Fun (Ht.KG P) "is_code_prime" "is_code_prime" zai 33 fd∧Binds (Ht.KG P) fd ["thing"] []:=by
 have F:=zR (K:=Ht.KG P) (x:="is_code_prime") (q:="is_code_prime") (st:=zai) (f:=33) (o:=PySem.W.g35.o_25 P) (by kernel_rfl) rfl (by kernel_rfl) (by kernel_rfl);exact⟨_,F,F.binds (ps:=["thing"]) #[E1]⟩
theorem zeA (P:Params):∃ fd,Fun (Ht.KG P) "are_places" "are_places" zaE 38 fd∧Binds (Ht.KG P) fd ["p","k","thing"] []:=by
 have F:=zR (K:=Ht.KG P) (x:="are_places") (q:="are_places") (st:=zaE) (f:=38) (o:=PySem.W.g35.o_30 P) (by kernel_rfl) rfl (by kernel_rfl) (by kernel_rfl);exact⟨_,F,F.binds (ps:=["p","k","thing"]) #[E3]⟩
theorem zhv (P:Params):∃ fd,Fun (Ht.KG P) "is_code" "is_code" zbB 45 fd∧Binds (Ht.KG P) fd ["thing"] []:=by
 have F:=zR (K:=Ht.KG P) (x:="is_code") (q:="is_code") (st:=zbB) (f:=45) (o:=PySem.W.g35.o_37 P) (by kernel_rfl) rfl (by kernel_rfl) (by kernel_rfl);exact⟨_,F,F.binds (ps:=["thing"]) #[E1]⟩
theorem zdD (P:Params):∃ fd,Fun (Ht.KG P) "heard_points" "heard_points" zap 214 fd∧Binds (Ht.KG P) fd ["code","row"] []:=by
 have F:=zR (K:=Ht.KG P) (x:="heard_points") (q:="heard_points") (st:=zap) (f:=214) (o:=PySem.W.g35.o_245 P) (by kernel_rfl) rfl (by kernel_rfl) (by kernel_rfl);exact⟨_,F,F.binds (ps:=["code","row"]) #[E2]⟩
theorem zgD (P:Params):∃ fd,Fun (Ht.KG P) "all_near" "all_near" zbj 236 fd∧Binds (Ht.KG P) fd ["code","row","t"] []:=by
 have F:=zR (K:=Ht.KG P) (x:="all_near") (q:="all_near") (st:=zbj) (f:=236) (o:=PySem.W.g35.o_267 P) (by kernel_rfl) rfl (by kernel_rfl) (by kernel_rfl);exact⟨_,F,F.binds (ps:=["code","row","t"]) #[E3]⟩
theorem zdE (P:Params):∃ fd,Fun (Ht.KG P) "check_curves" "check_curves" zaC 409 fd∧Binds (Ht.KG P) fd ["k"] []:=by
 have F:=zR (K:=Ht.KG P) (x:="check_curves") (q:="check_curves") (st:=zaC) (f:=409) (o:=PySem.W.g35.o_449 P) (by kernel_rfl) rfl (by kernel_rfl) (by kernel_rfl);exact⟨_,F,F.binds (ps:=["k"]) #[E1]⟩
theorem zgE (P:Params):∃ fd,Fun (Ht.KG P) "row_text" "row_text" zcL 481 fd∧Binds (Ht.KG P) fd ["row"] []:=by
 have F:=zR (K:=Ht.KG P) (x:="row_text") (q:="row_text") (st:=zcL) (f:=481) (o:=PySem.W.g35.o_524 P) (by kernel_rfl) rfl (by kernel_rfl) (by kernel_rfl);exact⟨_,F,F.binds (ps:=["row"]) #[E1]⟩
theorem zeB (P:Params):∃ fd,Fun (Ht.KG P) "is_written" "is_written" zaR 493 fd∧Binds (Ht.KG P) fd ["word"] []:=by
 have F:=zR (K:=Ht.KG P) (x:="is_written") (q:="is_written") (st:=zaR) (f:=493) (o:=PySem.W.g35.o_536 P) (by kernel_rfl) rfl (by kernel_rfl) (by kernel_rfl);exact⟨_,F,F.binds (ps:=["word"]) #[E1]⟩
theorem zfQ (P:Params):∃ fd,Fun (Ht.KG P) "read_code" "read_code" zar 498 fd∧Binds (Ht.KG P) fd ["text"] []:=by
 have F:=zR (K:=Ht.KG P) (x:="read_code") (q:="read_code") (st:=zar) (f:=498) (o:=PySem.W.g35.o_541 P) (by kernel_rfl) rfl (by kernel_rfl) (by kernel_rfl);exact⟨_,F,F.binds (ps:=["text"]) #[E1]⟩
theorem ziX (P:Params):∃ fd,Fun (Ht.KG P) "listed" "listed" zdZ 505 fd∧Binds (Ht.KG P) fd ["polynomials"] []:=by
 have F:=zR (K:=Ht.KG P) (x:="listed") (q:="listed") (st:=zdZ) (f:=505) (o:=PySem.W.g35.o_548 P) (by kernel_rfl) rfl (by kernel_rfl) (by kernel_rfl);exact⟨_,F,F.binds (ps:=["polynomials"]) #[E1]⟩
theorem zgF (P:Params):∃ fd,Fun (Ht.KG P) "do_slips" "do_slips" zbk 512 fd∧Binds (Ht.KG P) fd ["desk","numbers"] []:=by
 have F:=zR (K:=Ht.KG P) (x:="do_slips") (q:="do_slips") (st:=zbk) (f:=512) (o:=PySem.W.g35.o_555 P) (by kernel_rfl) rfl (by kernel_rfl) (by kernel_rfl);exact⟨_,F,F.binds (ps:=["desk","numbers"]) #[E2]⟩
theorem zhw (P:Params):∃ fd,Fun (Ht.KG P) "do_hear" "do_hear" zbC 519 fd∧Binds (Ht.KG P) fd ["desk","numbers"] []:=by
 have F:=zR (K:=Ht.KG P) (x:="do_hear") (q:="do_hear") (st:=zbC) (f:=519) (o:=PySem.W.g35.o_562 P) (by kernel_rfl) rfl (by kernel_rfl) (by kernel_rfl);exact⟨_,F,F.binds (ps:=["desk","numbers"]) #[E2]⟩
theorem zfR (P:Params):∃ fd,Fun (Ht.KG P) "do_forget" "do_forget" za3 526 fd∧Binds (Ht.KG P) fd ["desk","numbers"] []:=by
 have F:=zR (K:=Ht.KG P) (x:="do_forget") (q:="do_forget") (st:=za3) (f:=526) (o:=PySem.W.g35.o_569 P) (by kernel_rfl) rfl (by kernel_rfl) (by kernel_rfl);exact⟨_,F,F.binds (ps:=["desk","numbers"]) #[E2]⟩
theorem zhx (P:Params):∃ fd,Fun (Ht.KG P) "do_back" "do_back" zbD 533 fd∧Binds (Ht.KG P) fd ["desk","numbers"] []:=by
 have F:=zR (K:=Ht.KG P) (x:="do_back") (q:="do_back") (st:=zbD) (f:=533) (o:=PySem.W.g35.o_576 P) (by kernel_rfl) rfl (by kernel_rfl) (by kernel_rfl);exact⟨_,F,F.binds (ps:=["desk","numbers"]) #[E2]⟩
theorem zgG (P:Params):∃ fd,Fun (Ht.KG P) "do_again" "do_again" zbl 540 fd∧Binds (Ht.KG P) fd ["desk","numbers"] []:=by
 have F:=zR (K:=Ht.KG P) (x:="do_again") (q:="do_again") (st:=zbl) (f:=540) (o:=PySem.W.g35.o_586 P) (by kernel_rfl) rfl (by kernel_rfl) (by kernel_rfl);exact⟨_,F,F.binds (ps:=["desk","numbers"]) #[E2]⟩
theorem zfS (P:Params):∃ fd,Fun (Ht.KG P) "tell_sure" "tell_sure" za4 561 fd∧Binds (Ht.KG P) fd ["desk","numbers"] []:=by
 have F:=zR (K:=Ht.KG P) (x:="tell_sure") (q:="tell_sure") (st:=za4) (f:=561) (o:=PySem.W.g35.o_607 P) (by kernel_rfl) rfl (by kernel_rfl) (by kernel_rfl);exact⟨_,F,F.binds (ps:=["desk","numbers"]) #[E2]⟩
theorem zfT (P:Params):∃ fd,Fun (Ht.KG P) "tell_near" "tell_near" za5 568 fd∧Binds (Ht.KG P) fd ["desk","numbers"] []:=by
 have F:=zR (K:=Ht.KG P) (x:="tell_near") (q:="tell_near") (st:=za5) (f:=568) (o:=PySem.W.g35.o_614 P) (by kernel_rfl) rfl (by kernel_rfl) (by kernel_rfl);exact⟨_,F,F.binds (ps:=["desk","numbers"]) #[E2]⟩
theorem zeC (P:Params):∃ fd,Fun (Ht.KG P) "tell_reach" "tell_reach" zaS 582 fd∧Binds (Ht.KG P) fd ["desk","numbers"] []:=by
 have F:=zR (K:=Ht.KG P) (x:="tell_reach") (q:="tell_reach") (st:=zaS) (f:=582) (o:=PySem.W.g35.o_628 P) (by kernel_rfl) rfl (by kernel_rfl) (by kernel_rfl);exact⟨_,F,F.binds (ps:=["desk","numbers"]) #[E2]⟩
theorem zel (P:Params):∃ fd,Fun (Ht.KG P) "paper_holds" "paper_holds" zaF 652 fd∧Binds (Ht.KG P) fd ["code","row","t","paper"] []:=by
 have F:=zR (K:=Ht.KG P) (x:="paper_holds") (q:="paper_holds") (st:=zaF) (f:=652) (o:=PySem.W.g35.o_708 P) (by kernel_rfl) rfl (by kernel_rfl) (by kernel_rfl);exact⟨_,F,F.binds (ps:=["code","row","t","paper"]) #[E4]⟩
theorem zhy (P:Params):∃ fd,Fun (Ht.KG P) "near_by" "near_by" zbE 657 fd∧Binds (Ht.KG P) fd ["code","row","t","paper"] []:=by
 have F:=zR (K:=Ht.KG P) (x:="near_by") (q:="near_by") (st:=zbE) (f:=657) (o:=PySem.W.g35.o_713 P) (by kernel_rfl) rfl (by kernel_rfl) (by kernel_rfl);exact⟨_,F,F.binds (ps:=["code","row","t","paper"]) #[E4]⟩
theorem ziY (P:Params):∃ fd,Fun (Ht.KG P) "_law_cell" "_law_cell" zb8 664 fd∧Binds (Ht.KG P) fd ["script","k"] []:=by
 have F:=zR (K:=Ht.KG P) (x:="_law_cell") (q:="_law_cell") (st:=zb8) (f:=664) (o:=PySem.W.g35.o_720 P) (by kernel_rfl) rfl (by kernel_rfl) (by kernel_rfl);exact⟨_,F,F.binds (ps:=["script","k"]) #[E2]⟩
theorem zhz (P:Params):∃ fd,Fun (Ht.KG P) "_law_draws" "_law_draws" zbF 671 fd∧Binds (Ht.KG P) fd ["script","k","many","base"] []:=by
 have F:=zR (K:=Ht.KG P) (x:="_law_draws") (q:="_law_draws") (st:=zbF) (f:=671) (o:=PySem.W.g35.o_727 P) (by kernel_rfl) rfl (by kernel_rfl) (by kernel_rfl);exact⟨_,F,F.binds (ps:=["script","k","many","base"]) #[E4]⟩
theorem ziZ (P:Params):∃ fd,Fun (Ht.KG P) "_law_code" "_law_code" zbG 676 fd∧Binds (Ht.KG P) fd ["script","at","most_k","most_n"] []:=by
 have F:=zR (K:=Ht.KG P) (x:="_law_code") (q:="_law_code") (st:=zbG) (f:=676) (o:=PySem.W.g35.o_732 P) (by kernel_rfl) rfl (by kernel_rfl) (by kernel_rfl);exact⟨_,F,F.binds (ps:=["script","at","most_k","most_n"]) #[E4]⟩
theorem zi0 (P:Params):∃ fd,Fun (Ht.KG P) "_law_word" "_law_word" zb9 683 fd∧Binds (Ht.KG P) fd ["e"] []:=by
 have F:=zR (K:=Ht.KG P) (x:="_law_word") (q:="_law_word") (st:=zb9) (f:=683) (o:=PySem.W.g35.o_739 P) (by kernel_rfl) rfl (by kernel_rfl) (by kernel_rfl);exact⟨_,F,F.binds (ps:=["e"]) #[E1]⟩
theorem zi1 (P:Params):∃ fd,Fun (Ht.KG P) "_law_done" "_law_done" zca 690 fd∧Binds (Ht.KG P) fd ["listener","way","number","entry"] []:=by
 have F:=zR (K:=Ht.KG P) (x:="_law_done") (q:="_law_done") (st:=zca) (f:=690) (o:=PySem.W.g35.o_746 P) (by kernel_rfl) rfl (by kernel_rfl) (by kernel_rfl);exact⟨_,F,F.binds (ps:=["listener","way","number","entry"]) #[E4]⟩
theorem zi2 (P:Params):∃ fd,Fun (Ht.KG P) "_law_said" "_law_said" zcb 697 fd∧Binds (Ht.KG P) fd ["desk","row"] []:=by
 have F:=zR (K:=Ht.KG P) (x:="_law_said") (q:="_law_said") (st:=zcb) (f:=697) (o:=PySem.W.g35.o_753 P) (by kernel_rfl) rfl (by kernel_rfl) (by kernel_rfl);exact⟨_,F,F.binds (ps:=["desk","row"]) #[E2]⟩
theorem zgH (P:Params):∃ fd,Fun (Ht.KG P) "_law_papers" "_law_papers" zbm 704 fd∧Binds (Ht.KG P) fd ["way","code","row","paper"] []:=by
 have F:=zR (K:=Ht.KG P) (x:="_law_papers") (q:="_law_papers") (st:=zbm) (f:=704) (o:=PySem.W.g35.o_760 P) (by kernel_rfl) rfl (by kernel_rfl) (by kernel_rfl);exact⟨_,F,F.binds (ps:=["way","code","row","paper"]) #[E4]⟩
theorem kw_TooFew (P:Params):KW (Ht.KG P) tA tA.TooFew true false false false false false false false false false:=⟨by kernel_rfl,by kernel_rfl,by kernel_rfl,by kernel_rfl,by kernel_rfl,by kernel_rfl,by kernel_rfl,by kernel_rfl,by kernel_rfl,by kernel_rfl,by kernel_rfl,⟨by kernel_rfl,by kernel_rfl,by kernel_rfl,by kernel_rfl,by kernel_rfl,by kernel_rfl⟩,by kernel_rfl⟩
theorem kw_NoCurve (P:Params):KW (Ht.KG P) tA tA.NoCurve false true false false false false false false false false:=⟨by kernel_rfl,by kernel_rfl,by kernel_rfl,by kernel_rfl,by kernel_rfl,by kernel_rfl,by kernel_rfl,by kernel_rfl,by kernel_rfl,by kernel_rfl,by kernel_rfl,⟨by kernel_rfl,by kernel_rfl,by kernel_rfl,by kernel_rfl,by kernel_rfl,by kernel_rfl⟩,by kernel_rfl⟩
theorem kw_NoPaper (P:Params):KW (Ht.KG P) tA tA.NoPaper false false true false false false false false false false:=⟨by kernel_rfl,by kernel_rfl,by kernel_rfl,by kernel_rfl,by kernel_rfl,by kernel_rfl,by kernel_rfl,by kernel_rfl,by kernel_rfl,by kernel_rfl,by kernel_rfl,⟨by kernel_rfl,by kernel_rfl,by kernel_rfl,by kernel_rfl,by kernel_rfl,by kernel_rfl⟩,by kernel_rfl⟩
theorem kw_NoPlace (P:Params):KW (Ht.KG P) tA tA.NoPlace false false false true false false false false false false:=⟨by kernel_rfl,by kernel_rfl,by kernel_rfl,by kernel_rfl,by kernel_rfl,by kernel_rfl,by kernel_rfl,by kernel_rfl,by kernel_rfl,by kernel_rfl,by kernel_rfl,⟨by kernel_rfl,by kernel_rfl,by kernel_rfl,by kernel_rfl,by kernel_rfl,by kernel_rfl⟩,by kernel_rfl⟩
theorem kw_NoNumber (P:Params):KW (Ht.KG P) tA tA.NoNumber false false false false true false false false false false:=⟨by kernel_rfl,by kernel_rfl,by kernel_rfl,by kernel_rfl,by kernel_rfl,by kernel_rfl,by kernel_rfl,by kernel_rfl,by kernel_rfl,by kernel_rfl,by kernel_rfl,⟨by kernel_rfl,by kernel_rfl,by kernel_rfl,by kernel_rfl,by kernel_rfl,by kernel_rfl⟩,by kernel_rfl⟩
theorem kw_Heard (P:Params):KW (Ht.KG P) tA tA.Heard false false false false false true false false false false:=⟨by kernel_rfl,by kernel_rfl,by kernel_rfl,by kernel_rfl,by kernel_rfl,by kernel_rfl,by kernel_rfl,by kernel_rfl,by kernel_rfl,by kernel_rfl,by kernel_rfl,⟨by kernel_rfl,by kernel_rfl,by kernel_rfl,by kernel_rfl,by kernel_rfl,by kernel_rfl⟩,by kernel_rfl⟩
theorem kw_NotHeard (P:Params):KW (Ht.KG P) tA tA.NotHeard false false false false false false true false false false:=⟨by kernel_rfl,by kernel_rfl,by kernel_rfl,by kernel_rfl,by kernel_rfl,by kernel_rfl,by kernel_rfl,by kernel_rfl,by kernel_rfl,by kernel_rfl,by kernel_rfl,⟨by kernel_rfl,by kernel_rfl,by kernel_rfl,by kernel_rfl,by kernel_rfl,by kernel_rfl⟩,by kernel_rfl⟩
theorem kw_NothingLeft (P:Params):KW (Ht.KG P) tA tA.NothingLeft false false false false false false false true false false:=⟨by kernel_rfl,by kernel_rfl,by kernel_rfl,by kernel_rfl,by kernel_rfl,by kernel_rfl,by kernel_rfl,by kernel_rfl,by kernel_rfl,by kernel_rfl,by kernel_rfl,⟨by kernel_rfl,by kernel_rfl,by kernel_rfl,by kernel_rfl,by kernel_rfl,by kernel_rfl⟩,by kernel_rfl⟩
theorem kw_NoText (P:Params):KW (Ht.KG P) tA tA.NoText false false false false false false false false true false:=⟨by kernel_rfl,by kernel_rfl,by kernel_rfl,by kernel_rfl,by kernel_rfl,by kernel_rfl,by kernel_rfl,by kernel_rfl,by kernel_rfl,by kernel_rfl,by kernel_rfl,⟨by kernel_rfl,by kernel_rfl,by kernel_rfl,by kernel_rfl,by kernel_rfl,by kernel_rfl⟩,by kernel_rfl⟩
theorem kw_NoRow (P:Params):KW (Ht.KG P) tA tA.NoRow false false false false false false false false false true:=⟨by kernel_rfl,by kernel_rfl,by kernel_rfl,by kernel_rfl,by kernel_rfl,by kernel_rfl,by kernel_rfl,by kernel_rfl,by kernel_rfl,by kernel_rfl,by kernel_rfl,⟨by kernel_rfl,by kernel_rfl,by kernel_rfl,by kernel_rfl,by kernel_rfl,by kernel_rfl⟩,by kernel_rfl⟩
theorem znZ (P:Params) {h:Heap} {mg:Str→Option Value} (X:(Ht.KG P).In h) (G:h.Ns mainGlobals mg):Txt (Ht.KG P) mg tA:=⟨aQ X G (by kernel_rfl),aQ X G (by kernel_rfl),aQ X G (by kernel_rfl),aQ X G (by kernel_rfl),aQ X G (by kernel_rfl),aQ X G (by kernel_rfl),aQ X G (by kernel_rfl),aQ X G (by kernel_rfl),aQ X G (by kernel_rfl),aQ X G (by kernel_rfl),aQ X G (by kernel_rfl),aQ X G (by kernel_rfl),aQ X G (by kernel_rfl),aQ X G (by kernel_rfl),⟨189,ao X G (by kernel_rfl)⟩,⟨191,ao X G (by kernel_rfl)⟩,⟨193,ao X G (by kernel_rfl)⟩,⟨195,ao X G (by kernel_rfl)⟩,⟨784,ao X G (by kernel_rfl)⟩,⟨829,ao X G (by kernel_rfl)⟩,⟨868,ao X G (by kernel_rfl)⟩,⟨870,ao X G (by kernel_rfl)⟩,⟨1089,ao X G (by kernel_rfl)⟩,ao X G (by kernel_rfl),ao X G (by kernel_rfl),ao X G (by kernel_rfl),ao X G (by kernel_rfl),ao X G (by kernel_rfl),ao X G (by kernel_rfl),ao X G (by kernel_rfl),ao X G (by kernel_rfl),ao X G (by kernel_rfl),ao X G (by kernel_rfl),ao X G (by kernel_rfl),by kernel_rfl,by kernel_rfl,by kernel_rfl,by kernel_rfl,by kernel_rfl,by kernel_rfl,by kernel_rfl,by kernel_rfl,by kernel_rfl,by kernel_rfl,kw_TooFew P,kw_NoCurve P,kw_NoPaper P,kw_NoPlace P,kw_NoNumber P,kw_Heard P,kw_NotHeard P,kw_NothingLeft P,kw_NoText P,kw_NoRow P,by kernel_rfl,⟨by kernel_rfl,by kernel_rfl,by kernel_rfl,by kernel_rfl⟩,ao X G (by kernel_rfl),⟨by kernel_rfl,by kernel_rfl,by kernel_rfl,by kernel_rfl⟩,(by kernel_rfl:aG (Ht.KG P) (.ref 314) "code" = some none),(by kernel_rfl:aG (Ht.KG P) (.ref 314) "slips" = some none),(by kernel_rfl:aG (Ht.KG P) (.ref 314) "entries" = some none),(by kernel_rfl:aG (Ht.KG P) (.ref 314) "deeds" = some none),(by kernel_rfl:aG (Ht.KG P) (.ref 314) "undone" = some none),⟨by kernel_rfl,by kernel_rfl,by kernel_rfl⟩,⟨by kernel_rfl,by kernel_rfl,by kernel_rfl⟩,⟨by kernel_rfl,by kernel_rfl,by kernel_rfl⟩,⟨by kernel_rfl,by kernel_rfl,by kernel_rfl⟩,⟨by kernel_rfl,by kernel_rfl,by kernel_rfl⟩,⟨by kernel_rfl,by kernel_rfl,by kernel_rfl⟩,⟨by kernel_rfl,by kernel_rfl,by kernel_rfl⟩,⟨by kernel_rfl,by kernel_rfl,by kernel_rfl⟩,zmC P,zek P,ziU P,zmD P,ziV P,zmE P,zlf P,znY P,zmF P,⟨by kernel_rfl,by kernel_rfl,by kernel_rfl,by kernel_rfl⟩,ao X G (by kernel_rfl),⟨by kernel_rfl,by kernel_rfl,by kernel_rfl,by kernel_rfl⟩,(by kernel_rfl:aG (Ht.KG P) (.ref 616) "listener" = some none),⟨by kernel_rfl,by kernel_rfl,by kernel_rfl⟩,ziW P,zlg P,ao X G (by kernel_rfl),ao X G (by kernel_rfl),ao X G (by kernel_rfl),ao X G (by kernel_rfl),ao X G (by kernel_rfl),ao X G (by kernel_rfl),ao X G (by kernel_rfl),ao X G (by kernel_rfl),ao X G (by kernel_rfl),ao X G (by kernel_rfl),ao X G (by kernel_rfl),ao X G (by kernel_rfl),ao X G (by kernel_rfl),ao X G (by kernel_rfl),ao X G (by kernel_rfl),ao X G (by kernel_rfl),ao X G (by kernel_rfl),ao X G (by kernel_rfl),ao X G (by kernel_rfl),ao X G (by kernel_rfl),ao X G (by kernel_rfl),ao X G (by kernel_rfl),ao X G (by kernel_rfl),ao X G (by kernel_rfl),ao X G (by kernel_rfl),ao X G (by kernel_rfl),ao X G (by kernel_rfl),ao X G (by kernel_rfl),ao X G (by kernel_rfl),ao X G (by kernel_rfl),ao X G (by kernel_rfl),ao X G (by kernel_rfl),ao X G (by kernel_rfl),ao X G (by kernel_rfl),zgC P,zfP P,zdl P,zeA P,zhv P,zdD P,zgD P,zdE P,zgE P,zeB P,zfQ P,ziX P,zgF P,zhw P,zfR P,zhx P,zgG P,zfS P,zfT P,zeC P,zel P,zhy P,ziY P,zhz P,ziZ P,zi0 P,zi1 P,zi2 P,zgH P⟩
theorem zaD {Pr:Program} {w:World} {x:Str} {n:Int} {a b:Tok}:PySem.ItemsAre (zaI Pr w) [.inr x,.inl n] [.str x a,.int n b]:=fQ (zeF x a) (fQ (zeE n b) .nil)
theorem zn0 (Pr:Program) (w:World):my Pr w (Ht.KG w.params) tA:=⟨⟨⟨Ht.ents w.params,11,by kernel_rfl,by kernel_rfl⟩,(aS.mpr ⟨⟨Ht.tup "slips" 971 1 972,_,_,by kernel_rfl,rfl,rfl,zaD⟩,(aS.mpr ⟨⟨Ht.tup "hear" 973 2 974,_,_,by kernel_rfl,rfl,rfl,zaD⟩,(aS.mpr ⟨⟨Ht.tup "forget" 975 1 976,_,_,by kernel_rfl,rfl,rfl,zaD⟩,(aS.mpr ⟨⟨Ht.tup "back" 977 0 978,_,_,by kernel_rfl,rfl,rfl,zaD⟩,(aS.mpr ⟨⟨Ht.tup "again" 979 0 980,_,_,by kernel_rfl,rfl,rfl,zaD⟩,(aS.mpr ⟨⟨Ht.tup "row" 981 0 982,_,_,by kernel_rfl,rfl,rfl,zaD⟩,(aS.mpr ⟨⟨Ht.tup "can" 983 0 984,_,_,by kernel_rfl,rfl,rfl,zaD⟩,(aS.mpr ⟨⟨Ht.tup "sure" 985 1 986,_,_,by kernel_rfl,rfl,rfl,zaD⟩,(aS.mpr ⟨⟨Ht.tup "near" 987 1 988,_,_,by kernel_rfl,rfl,rfl,zaD⟩,(aS.mpr ⟨⟨Ht.tup "half" 989 0 990,_,_,by kernel_rfl,rfl,rfl,zaD⟩,(aS.mpr ⟨⟨Ht.tup "reach" 991 1 992,_,_,by kernel_rfl,rfl,rfl,zaD⟩,(fun _ h=>by cases h)⟩)⟩)⟩)⟩)⟩)⟩)⟩)⟩)⟩)⟩)⟩),#[D],#[D]⟩,⟨499,.inr ⟨_,_,_,(by kernel_rfl:(Ht.KG w.params).lookup 500=some (PySem.W.g35.o_543 w.params)),rfl,rfl,#[D],(.cons ⟨_,rfl⟩ (.cons ⟨_,rfl⟩ (.cons rfl .nil)))⟩,.inr ⟨_,_,_,(by kernel_rfl:(Ht.KG w.params).lookup 499=some (PySem.W.g35.o_542 w.params)),rfl,rfl,#[D],((.cons ⟨_,rfl⟩ (.cons ⟨_,rfl⟩ (.cons ⟨_,rfl⟩ (.cons ⟨_,rfl⟩ (.cons ⟨_,rfl⟩ (.cons ⟨_,rfl⟩ (.cons ⟨_,rfl⟩ .nil))))))))⟩⟩⟩
theorem zn1 {l:eT} (w:World) {h:Heap} {mg:Str→Option Value} {fa:Addr} (X:(Ht.KG w.params).In h) (G:h.Ns mainGlobals mg) (hfa:mg "law" = some (.ref fa)) :
  ∃ fd:FuncData,(∀ (s:Shared) (v:Value),BindsTo s fd ⟨[v],[]⟩ [("script",v)])∧∀ base:Heap,(Ht.KG w.params).In base→base.Ns mainGlobals mg→FnOk l.prog w (Ht.KG w.params) mg base CX0 8 fa fd ["script"] (zfl (Ht.KG w.params)):=by
 cases hfa.symm.trans (ao X G (by kernel_rfl:PySem.W.nsIn (Ht.KG w.params) mainGlobals "law" = some (some (.ref 709))));have FL:=zR (K:=Ht.KG w.params) (x:="law") (q:="law") (st:=zdt) (f:=709) (o:=PySem.W.g35.o_765 w.params) (by kernel_rfl) rfl (by kernel_rfl) (by kernel_rfl);exact⟨_,fun s v=>.of_eq rfl,fun base _ _=>znA (AN:=zn0 l.prog w) (t:=tA) (znZ _ X G) FL⟩
theorem walk {l:eT} {q:Program} {loose:List Str} {XP:(Str→Option Value)→Heap→Prop} {YP:World→Heap→Prop} {d:DefRec} {K:Params→af} (hn:l.most=some 63) (pw:d.params.defaults = []) (hY:∀ (w:World) (h:Heap),YP w h→(K w.params).In h)
  (F:∀ (w:World) (mg:Str→Option Value) (fa:Addr) (h:Heap),(K w.params).In h→h.Ns mainGlobals mg→mg d.name=some (.ref fa)→∃ fd:FuncData,(∀ (s:Shared) (u:Value),BindsTo s fd ⟨[u],[]⟩ [("script",u)])∧∀ base:Heap,(K w.params).In base→base.Ns mainGlobals mg→FnOk l.prog w (K w.params) mg base CX0 8 fa fd ["script"] (zfl (K w.params))):hZ q loose XP YP l.row.toRowW d [] (fun f vs=>fB f vs) :=
 L2.zls (n:=63) (k:=8) (x:="script") (CX:=fun _=>CX0) (sp:=fun w=>zfl (K w.params)) hn #[D] pw ⟨rfl,#[D],#[D]⟩ hY F (fun _ _ a ns hl _ hS=>⟨a,ns,rfl,hS,hl,fun _=>rfl⟩) fun _ _ _ _ _ z=>z
end My
open PySem PySem.W PySem.Calls
open PyProof.Rows
set_option maxHeartbeats 0 in
theorem PySem.Challenge.cw_slipcurve_k35_two_reasons_which_first_holds : PySem.Challenge.rw_slipcurve_k35_two_reasons_which_first.Holds := by
 w_on; o_law
 refine Ht.head_G ?hw (by rfl) (by rfl) (by rfl) (by assumption) ?hc
 (case hw=>w_witness2)
 k_fill
 exact My.walk (l:=PySem.Challenge.rw_slipcurve_k35_two_reasons_which_first) (K:=Ht.KG) rfl rfl (fun w h Y=>PySem.W.kIn_of Y) (fun w mg fa h KX G hmg=>My.zn1 w KX G hmg)
#print axioms PySem.Challenge.cw_slipcurve_k35_two_reasons_which_first_holds
end