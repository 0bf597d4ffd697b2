import PyProof.Rows.All
import Wide.All
import OpenK.AllK
import Wide.FinOn
import Lean
import PyProof.EqAt
import PyProof.EqKinds
import PyProof.Rows.MinMaxN
import PyProof.SliceStr2
import PyProof.StrWalks
import PyProof.Rows.SetFrom
import KE.KSortKey
import KE.KLam
import PyProof.ListMulRoad
import KE.KUnpackStar
import KE.KIntText
import PyProof.CallStr
import KE.KDictSum
import KE.KSortTup
import PyProof.Walk
import PyProof.Rows.SortRuns
import PyProof.Rows.ChunkEnd
import PyProof.Rows.Range3
import PyProof.Rows.SeqGen
import PyProof.ConsumeWalk
import PyProof.ListRange
import PyProof.NeKinds
import PyProof.TupleCall
import PySem.Challenge.RW_slipcurve_k21_whole_heavy_ones
set_option maxHeartbeats 3999000
open List renaming length_map->aa,getElem?_eq_getElem->ah,mem_cons_of_mem->aj,size_toArray->aq,replicate->au,map_append->av,mem_cons_self->aw,length_append->aA,getElem?_map->aB,mem_append_right->aD,mem_map->aF,length_take->aG,getElem?_eq_some_iff->aH,map_map->aI,mem_append_left->aJ,mem_cons->aK,mem_append->aR,map_cons->aT,zipWith->aU,take_of_length_le->aV,mem_singleton->aW,mem_of_getElem?->aX,getD_eq_getElem?_getD->bd,take_length->bf,nodup_iff_pairwise_ne->bi,append_assoc->bn,lookup_cons->bo,replicate_succ->br,pairwise_map->bv,length_cons->bA,mem_filter->bC,getElem_mem->bF,append_nil->bK,length_drop->bL,take_append_drop->bN,getElem_of_mem->bS,mem_map_of_mem->bT,length->bU,find?_cons->bV,range->bW,sum_cons->bX,drop_eq_nil_of_le->bZ,map_congr_left->ca,drop_eq_getElem_cons->cf,length_singleton->cg,pairwise_cons->cn,any_eq_true->cp,filter_append->cq,mem_range->cu,getElem?_cons_succ->cv,filter_cons_of_neg->cw,nodup_append->cA,extract_eq_take_drop->cH,nodup_cons->cI,filter_cons_of_pos->cT,filterMap_cons->cU,getElem?_append_right->de,flatten_cons->di,getElem?_append_left->dj,not_mem_nil->dq,length_eq_zero_iff->dw,nil_append->dD,getElem?_set_self->dF,take_sublist->dG,length_replicate->dJ,length_filter_le->dP,getElem_inj->dQ,getElem?_set_ne->dR,pairwise_iff_getElem->ef,getElem?_take_of_lt->ek,getElem?_drop->et,take_zero->eI,foldl_append->eL,all_eq_true->eX,drop_length->eY,concat_eq_append->ff,of_mem_zip->fi,perm_cons_erase->fA,filter_nil->fE,length_zipWith->fG,length_take_le->fH,drop_drop->fL,drop_zero->fM,mem_filterMap->fS,map_take->gc,take_add_one->gi,getElem_take->gj,length_range->gl,getElem?_cons_zero->gG,forIn_cons->gI,length_nil->gL,map_id->gV,filter_eq_nil_iff->g5,eq_nil_or_concat->hJ,getElem?_eq_none->hZ,perm_cons->h7,mem_of_mem_drop->io,sublist_map_iff->ir,map_drop->iA,any_cons->iB,filter_sublist->iO,take_succ_cons->iP,map_nil->iX,drop_sublist->jq,ext_getElem?->jr,flatMap_cons->ju,map_snd_zip->jG,nil_sublist->jI,mem_flatten->jJ,foldl->jS,sum_append->jY,range_succ->jZ
open PySem renaming wpAny_bind->ae,wpAny_pure->ak,sizeLine_eq->be,wpAny_mono->bM,wpAny_ite_false->cC,wpAny_Call_Name_kw->cG,wpAny_newObj_type->cR,wpAny_typeNameOfWhole_keyiter->cS,isSubtype_type->cW,wpAny_call_entry->cX,boot_len->c6,codeAny_mono->c7,wpAny_passesOwn->c9,wpAny_holding->df,wpAny_attempt->dg,wpAny_truthy_bool->dh,wpAny_rule->dk,mem_of_lookup->dr,wpAny_callSpecial?_slot->dv,wpAny_execs_nil->dz,builtinLookup_eq_fast->dM,wpAny_call->dS,call_meets->dU,codeAny_call_builtin->dX,wpAny_of_eq->d8,wpAny_setField->eE,wpAny_standAt->eS,wpAny_loadName_local->fh,typeLookup_type->fk,wpAny_specialOf->fm,wpAny_ite_true->fJ,wpAny_field->fP,tupleKind_room_in1->fW,wpAny_newFunctionEnv_cells->gb,wpAny_pyIter_list->gf,wpAny_dictEntries->gk,wpAny_execs_cons->gq,noFill_tuple_add->gt,wpAny_comprehension_free->gv,wpAny_isInstance->gw,codeAny_of_tree->gJ,codeAny_builtin->gK,wpAny_dictEpoch->gM,seqIndex_of->gQ,codeAny_call_function->g9,wpAny_isOneOf_keyiter->hV,weight_type_call_type->ic,wpAny_Name->ig,wpAny_pyIter_revIter->ik,wpAny_pyIter_keyiter->ip,seq_tuple_add->iu,wpAny_newList->iF,wpAny_loadName_cell->iH,wpAny_specialOf_val->iK,wpAny_Constant_int->iU,concat_meets->iW,wpAny_pyIter_tuple->jc,call_meetsIn->jd,list_append->jl,typeIs_int->jR,call->jT,Within->ka
open PySem.W renaming Frag->af,mg_of->aL,kitOne->a8,nsIn->ba,mg_none_of->bq,mroIn->bI,kia_one->bJ,findIn->bY,fnOf->ci,hideAll->c8,keepIn->dm,codeIn->dL,kitCls->dN,hideAll_get->d9,cellsFrom_some->eM,Looks->eT,excIn->eU,looks_mroIn->fI,of_hideAll->fR,callWith_K->fT,methodObj->ge,instObj->gH,OpenLaw->gN,lookIn->g8,hideAll_none->ie,looks_findIn->il,kdu_collect->iN,codeRec_of->iV,kitx_list->jj,kitx_dict->jk,plainGet->jA,kat_kind->jH,kit_cls->jV,KdlSrc->j2,WalkO->j9
open Nat renaming le_refl->ag,lt_of_lt_of_le->aN,ne_of_lt->aS,zero_le->bg,le_trans->bh,lt_irrefl->bE,add_sub_cancel->cm,lt_succ_of_lt->cz,zero_add->cK,pow_le_pow_right->cO,le_of_lt->dI,pow_le_pow_left->ed,ne_of_gt->eh,add_zero->eu,succ_le_succ->eV,min_eq_left->fu,mul_le_mul_right->fB,pow_succ->fC,le_of_succ_le->gh,lt_succ_self->gu,add_mul->gX,one_mul->gZ,add_assoc->iC,mul_comm->iZ,lt_of_le_of_lt->jf,sub_zero->jg,sub_self->jh,mul_le_mul->j4
open PySem.Heap renaming get?_push_of_some->ai,lt_size->az,get?_push_size->aC,size_push->bx,get?_update_self->eZ,SameBut->fg,get?_update_other->gR,get?_update_ne->iM
open PyProof.Rows renaming wpS_bind->am,wpS_pure->ap,boot_isinstance->bD,wpS_forRange->ck,callWith_type1->cB,zipApart_new->cJ,wpS_mono->cY,wpS_modify->dY,IntsAre->dZ,codeAny_set_update_loopS->eg,wpS_get->eF,subscriptTail_builtinR->eO,wpS_lift->fK,setObjOf_fresh->fY,boot_tuple->gn,pairsOf_size->gz,SetOf_congr->gD,mirror_perm->gU,boot_sorted->gW,pairsOf_toList->hX,firstMet->h9,Subscript_->ii,getItem_tuple->iw,listUpdate_at->iE,firstMet_succ->iG,getElem?_mirror_all->iL,seqEpoch_at->jy,step_length->jz,boot_sum->jK,boot_max->jL,boot_range->jO
open Or renaming inl->ao,inr->cV
open Int renaming emod_lt_of_pos->aE,emod_nonneg->aM,le_trans->bu,le_refl->bH,toNat_natCast->bO,mul_le_mul_of_nonneg_right->cM,emod_eq_of_lt->dH,le_of_lt->dO,fdiv_eq_ediv_of_nonneg->f',mul_comm->je,lt_trichotomy->jt
open Bool renaming false_ne_true->aO,false_eq_true->bp,eq_iff_iff->db,and_eq_true->eW,not_eq_true'->jp,and_false->j0
open PySem.Value renaming ref->aP,none->cD,bool->eC,int->fQ,type->gm,str->iR,isStrOf->j7
open Option.some renaming inj->aQ,injEq->jv
open Array renaming getElem?_toList->aY,toList_append->bt,length_toList->bw,getElem?_eq_some_iff->cF,toList_extract->cL,perm_iff_toList_perm->d7,toList_reverse->fw,toArray_toList->iq,toList_map->jF,size_map->j3,toList->kb
open Sum renaming inl->aZ,inr->gp
open PySem.PassesOwn renaming never->bj
open PySem.Str renaming ofString->bG
open PySem.F renaming plainAttrs_list->bP,slot_dict_keyiterator_next->cZ,args_tuple_add_2->er,slot_list_append->eA,type_list_append->eB,entry_tuple_add->eJ,slot_tuple_add->eN,slot_dict_get->fe,args_dict_keyiterator_next_1->fz,entry_dict_keyiterator_next->fF,slot_dict_values->gA,slot_list_extend->gB,type_list_extend->gC,args_dict_get_3->gE,plainAttrs_dict->gF,entry_dict_get->gT,args_list_append_2->ij,excBase_ValueError->im,entry_list_append->iI,slot_list_append->iY,entry_type_call->jw,slot_dict_iter->jE,typeCall_set_1->jM,entry_set_init->jN
open PySem.NameKind renaming free->bQ,cell->cE
open False renaming elim->bR
open ForInStep renaming yield->cb,done->eG
open PySem.Paired renaming snoc->cr,mono->eR,length->fZ
open List.Pairwise renaming imp_of_mem->cN,nil->gg,sublist->hE
open Ne renaming symm->cQ
open PySem.Builtin.List renaming listTooLong->dn
open PySem.Heap.SameBut renaming update->dt
open True renaming intro->dA
open PySem.Calls renaming spliced_cons->dB,spliced_nil->eK,callWith_builtin->eP,evalArgs_plain->fj,Name_function_global->f9
open PySem.Obj renaming mapSeq->dC,data_mapFields->dE,isFreed_of_fields->fb,mapFields->iz,cls_mapFields->jm
open PySem.Around renaming in1_units->dW,under_plain->ji
open List.Perm renaming trans->ee
open Option renaming map_eq_some_iff->eQ,map_some->fq,isSome_iff_exists->gr,isSome_some->jb,getD_none->jB,getD_some->jD,toList->j8,none->kg
open PySem.W.KF renaming type_class->fc
open PySem.Builtin.Dict_items renaming ownsTuple->fN
open PySem.Builtin.Frozenset renaming updateFrom->fO
open PySem.SeqAt.EqAt renaming of_refs->fU,int_str->iS,str_int->iT,same->jQ
open PySem.Code renaming quiet_builtin->fV
open PyProof.Rows.IntsAre renaming int_at->fX
open PySem.Shared renaming TypeIs->gd
open Sum.inl renaming inj->gO
open PyProof renaming noPylong_small->gP
open PySem.Builtin.Getset_descriptor renaming descrCheckInstance->gS,descrNameAndClass->g7,descrGetter->iQ,descrGet->jn
open PySem.Builtin.Dict renaming showsAll->hU
open List.cons renaming inj->iD,injEq->jX
open PySem.SeqAt.RcNeAt renaming tuples->iJ
open Classical renaming em->ja
open PySem.Builtin.ObjectAttr renaming dataDescriptor?->jo,takesStores->jU,attrName->j6,bindTo->j',getOf->kd,find->kf
open PySem.Data renaming fields->jx
open PySem.IsL renaming update->jC
open PySem.SeqAt renaming EqAt->jP
open PyProof.Rows.SortSt renaming mk'->jW
open PySem.Builtin.SmallTypes renaming newRecord->j1
open PyProof.Rows.Boot renaming ValueError->j5
open PySem.Manifest.AttrKind renaming slot->kh
open PySem.PyData renaming bool->ki
open PySem.W.KatTups renaming cons->kj
local macro_rules | `(tactic| trivial)=>`(tactic| first | exact .inl rfl | exact .inr rfl | assumption)
local macro_rules|`(#[$xs,*])=>do
 let a:=xs.getElems
 if h:a.size=0 then Lean.Macro.throwUnsupported else
 let s:=a[0].raw.getId.eraseMacroScopes.toString
 if s=="Y" then `((of_decide_eq_true rfl)) else if s=="O" then `(by lia) else if s=="D" then `(by decide) else if s=="N" then `(by decide +kernel) else if s=="S" then `(⟨rfl,rfl,rfl,by decide +kernel,rfl,by decide +kernel,by decide +kernel⟩) else if s=="A" then `(Or.inl rfl) else if s=="M" then `(by simp) else
 match [("_____eb","ze"),("________eee","zaX zi zfE"),("________eeee","zH"),("_","zej z8 zO zaq zdF zK zZ zF zY zhc zf zbL zhb zc8 zeU zbe zaK zak zbJ zb3 zbN zbj zad zgG ziW zfG zes z9"),("_e__f","pvx"),("_________ereeeddrr","zt zaH"),("___er","ya"),("___e","zl zbK zbA"),("____e","zJ zag zae zbR zgz zlg zgA"),("_______eeeu","zW"),("____","zg zeT zct"),("__e____efeert","zn"),("_____e","zbf"),("______b","zey"),("_____eer","za zm"),("________________eefeeeneedrr","zu"),("________efeeei","zaA"),("______feer","zay"),("__e_efet","zj"),("____er","zcJ"),("____________eeeeeerrrrr","zdf"),("_f","zek zcj zce"),("_____________efeeeeei","zat"),("__f","za5"),("_ef","zfO zbw zcg"),("__________eeee","zbo"),("__e__feefdd","zdw"),("___fe","zM"),("_________feerr","zdx"),("_e___e_fferr","zbk"),("______eerrr","zcz"),("______ferr","zbd"),("_____________e___efeefeeeeerit","zcC"),("__","zf7 zdR"),("_________eeeef","zci"),("_________eeeee","zdS"),("_______ee","zg7"),("______eeeu","zhq"),("__e__fefd","za4"),("___ei","zgy"),("_e","zi8")].find? fun q=>(q.2.splitOn " ").contains s with
 |none=>Lean.Macro.throwUnsupported
 |some (p,_)=>do
  let mut r:=#[]
  let mut i:=1
  for c in p.toList do
   if c=='e' then
    r:=r.push (a[i]!)
    i:=i+1
   else if c=='b' then
    r:=r.push (<-`((by exact $(a[i]!))))
    i:=i+1
   else r:=r.push (<-match c with|'_'=>`(_)|'r'=>`((by rfl))|'d'=>`((by decide))|'f'=>`(rfl)|'t'=>`((by trivial))|'i'=>`((by intro _; rfl))|'u'=>`((fun _ _=>rfl))|'n'=>`(.nil)|'l'=>`(Or.inl rfl)|'o'=>`(Or.inr rfl)|_=>`(nomark _))
  return Lean.Syntax.mkApp (<-`(@$(⟨a[0].raw⟩):ident)) r
def qO:=["::","+","-","++","=","<=","->","<"]
def NE:Nat->Nat->List String->Lean.MacroM (List (Lean.TSyntax `term)×List String)
|0,_,_=>Lean.Macro.throwUnsupported
|n+1,0,ts=>match ts with
 |"fun"::ts=>do
  let (bs,r):=ts.span (·≠"=>")
  let (b,r)<-NE n 0 (r.drop 1)
  let mut e:=b.head!
  for x in bs.reverse do
   e<-if x=="_" then `(fun _=>$e) else let i:=Lean.mkIdent x.toName; `(fun $i=>$e)
  return ([e],r)
 |_=>do
  let (a,r)<-NE n 1 ts
  let l:Lean.TSyntax `term:=if a.length=1 then a.head! else Lean.Syntax.mkApp a.head! a.tail.toArray
  match r with
  |o::q=>do
    if !qO.contains o then return ([l],r)
    let (e,q)<-NE n 0 q
    let e:=e.head!
    let x<-match o with|"::"=>`($l :: $e)|"+"=>`($l+$e)|"-"=>`($l-$e)|"++"=>`($l++$e)|"="=>`($l=$e)|"<="=>`($l<=$e)|"->"=>`($l->$e)|_=>`($l<$e)
    return ([x],q)
  |_=>return ([l],r)
|n+1,1,ts=>match ts with
 |[]=>return ([],[])
 |t::ts=>if t==")"||t=="⟩"||t==","||t=="]"||qO.contains t then return ([],t::ts) else do
  let (a,r)<-if t=="(" && ts[1]?==some ":=" then do
    let (e,r)<-NE n 0 (ts.drop 2)
    pure (⟨.node .none ``Lean.Parser.Term.namedArgument #[.atom .none "(",Lean.mkIdent ts.head!.toName,.atom .none ":=",e.head!,.atom .none ")"]⟩,r.drop 1)
   else if t=="(" then do
    let (e,r)<-NE n 2 ts
    let f:=e.head!
    let e:=e.tail.toArray
    pure (<-if e.size=0 then `(($f)) else `(($f,$e,*)),r.drop 1)
   else if t=="⟨" then do
    let (e,r)<-NE n 2 ts
    let e:=e.toArray
    pure (<-`(⟨$e,*⟩),r.drop 1)
   else if t=="#[" then do
    let (e,r)<-NE n 2 ts
    let e:=e.toArray
    pure (<-`(#[$e,*]),r.drop 1)
   else if t=="_" then pure (<-`(_),ts)
   else if t=="?_" then pure (<-`(?_),ts)
   else if t.front.isDigit then pure (Lean.Syntax.mkNumLit t,ts)
   else if t.front=='.' then let i:=Lean.mkIdent (t.drop 1).toString.toName; pure (<-`(.$i:ident),ts)
   else if t.front=='@' then let i:=Lean.mkIdent (t.drop 1).toString.toName; pure (<-`(@$i),ts)
   else pure (⟨Lean.mkIdent t.toName⟩,ts)
  let (l,r)<-NE n 1 r
  return (a::l,r)
|n+1,_,ts=>do
 let (e,r)<-NE n 0 ts
 if r.head?==some "," then
  let (l,r)<-NE n 2 (r.drop 1)
  return (e++l,r)
 return (e,r)
local macro_rules|`(#[$x:ident])=>do
 let s:=x.getId.eraseMacroScopes.toString++" "
 match ("dl ( zL X N' scope s₃ H₃ ex km )
ld ( fun kL A outer s H vs Q E hr h => ?_ )
li ( model X.prog X.w )
mt ( .ListComp elt ( ⟨ tg , iter , ifs , 0 ⟩ :: gs ) scope pos )
or ( model prog w )
o0 ( ts.map ( wpp pl ) )
pc ( fun vs H Q E h => ?_ )
pi ⟨ rfl , I.turned ( t' := s.toks ) ( fun b o hb e => eb b o hb e ) f0 f1 f3 f4 f5 ⟩
pp ( hr.mono #[ D ] )
py ( arrOf st )
re ( cxX P w K mg base N qual scope f cd A outer s₀ H₀ E )
ss ( a.toList ++ b.toList )
sw ( .ListComp elt gens scope pos )
sK ( fun _ _ _ _ => #[ zbk , ( K ) , 2 , #[ zm , #[ zj , 0 , #[ Y ] , #[ A ] ] , #[ zm , #[ zj , 1 , #[ Y ] , #[ A ] ] , #[ zad ] ] ] ] )
ul ( .lst ( bs.map V.ref ) )
ut ( fun _ _ _ _ => #[ zj , 0 , #[ Y ] , #[ A ] ] )
u8 ( fun _ _ _ _ => #[ zbk , ( K ) , 3 , #[ zm , #[ zj , 0 , #[ Y ] , #[ A ] ] , #[ zm , #[ zj , 1 , #[ Y ] , #[ A ] ] , #[ zm , #[ zj , 2 , #[ Y ] , #[ A ] ] , #[ zad ] ] ] ] ] )
wf ( .ref s.heap.objs.size )
wn ( fun _ _ _ _ => #[ zak ] )
wp ( arrOf ku )
wr ( .UnaryOp .USub ( .Subscript ( .Name x p1 ) ( .Constant ( .int 2 ) j p2 ) p3 ) p4 )
wv ⟨ fun b o e n hb hx => ?_ , fun b o e n hb hx => ?_ , I.base.free , fun b o e hx => ?_ , I.base.Fc , I.base.Fz , I.base.Fy ⟩
ww ( ns.map V.int )
wE ( fun _ => ?_ )
wP ( wb ( sa + k ) out.toList.zipIdx #[ py ] )
wS ( false , eval e X.env )
wT ⟨ #[ O ] , #[ O ] ⟩
xz ( T' <= wsum p x #[ o0 ] )
xL #[ pvx , 0 ]
At ( ts.filter ( fun q => zai p f ( wpp pl q ) ) )
AC ⟨ #[ D ] , #[ D ] ⟩
AT ( z5 I q #[ M ] )
BT ( ha pos km s σ H _ I h )
Ch ( ci name qual params body scope dV kV doc pm an kL ct )
Cl ( s.heap.push ( zP led ) )
Db ( envOfC qual scope s.heap.objs.size f cd )
Do ⟨ _ , rfl , .inr ⟨ _ , _ , _ , _ , _ , _ , rfl , mL , #[ O ] , #[ O ] , #[ O ] , #[ O ] , #[ O ] ⟩ ⟩
Ev #[ pvx , 1 ]
EQ ( cs.drop ( cs.length - i ) )
Fa ( backTo pos ( starEach es X.env ) )
FB #[ .int lo t , .int hi u , .int 1 v ]
FM ( Option Nat )
FS ⟨ _ , rfl , .inr ⟨ _ , _ , _ , _ , _ , _ , rfl , mL , #[ O ] , #[ O ] , #[ O ] ⟩ ⟩
Go ⟨ _ , _ , _ , _ , _ , _ , _ , rfl , rfl , mL , #[ O ] , #[ O ] , #[ O ] , #[ O ] , #[ O ] ⟩
GE ⟨ _ , rfl , _ , rfl , _ , rfl , _ , _ , rfl , rfl , .inl #[ wT ] , _ , _ , rfl , rfl , _ , rfl , _ , _ , rfl , rfl , p0 , hR ⟩
GM ( ci x qual ( zbr st ) ( zaN st ) ( zh st ) .none kV doc pm an kL ct )
GT #[ zW , #[ zO ] , #[ pvx , 9 ] , #[ zi , #[ zF ] , #[ zi , #[ zK ] , #[ zi , #[ zZ ] , #[ zg ] , #[ pvx , 12 ] ] , #[ zg ] ] , #[ zg ] ] ]
Id ( ts.filter ( zai p f ) )
Ip ( σ.set i ( some x ) )
Iq ( aS ( aN ( az e ) I.ok.above ) )
Ir #[ rawInt pos.line , rawInt pos.col , .ref c' ]
Is ( .ref D )
Iu ( ha km s σ H _ I h )
Iv ( List Int )
Iw ( ds.map V.int )
Ix ( EP X km σ Q )
Iy ( zcA CX P w K mg base N qual scope f kL A outer s H E )
Iz #[ pvx , 3 ]
IA ( A.deeper ( envOfC qual ( zh st ) s.heap.objs.size f kL ) )
IB #[ ya , #[ zg ] ]
IC #[ zi , #[ zZ ] , #[ zg ] , #[ Ev ] ]
ID ( cxH P w K mg base N qual scope f kL A outer s H E )
IE ( .ref C )
IF ( us.map V.ref )
IG ( Cg.of_eq #[ O ] )
IH #[ zM , #[ zM , #[ zbj ] ] ]
II ( I1.hok.fresh ( ag _ ) )
IJ ⟨ _ , rfl , _ , _ , rfl , rfl , _ , rfl , ?_ ⟩
IK ⟨ b , _ , rfl , kJ.of ( s3 _ _ hb ) , rfl , _ , _ , rfl , _ , _ , rfl , _ , _ , rfl , rfl , ?_ ⟩
IL ( .dT kvs )
IM ⟨ _ , _ , _ , _ , _ , _ , _ , rfl , rfl , mL , #[ O ] , #[ O ] , #[ O ] ⟩
IN ( ts.map kw )
IO #[ pvx , 2 ]
IP ( K w.params )
IQ ( I.ok.hd hc )
IR ( he km s σ H _ I h )
IS #[ za , #[ Iz ] , #[ za , #[ pvx , 4 ] , #[ ya , #[ pvx , 14 ] ] ] ]
IT ( .ref a )
IU ⟨ I.base.keep , I.base.slot , fun b u e n hx => ?_ , I.base.there , fun b xs e => ?_ , fun b u xs e => ?_ , fun b ps e => ?_ ⟩
IV ( firstMet ( fun j => ns.getD j 0 ) i )
IW ( .inl rfl )
IX ( of_decide_eq_true h )
IY ( fK ( dk ⟨ rfl , ?_ ⟩ ) )
IZ ( kx H1 pr ( .lst ( zy.map V.int ) ) )
Ja ( tupleKind ( zan P w ) )
Jb ( .Name x pos' )
Jc ⟨ ui i ys H kU p , Pv ( i + 1 ) , fun pP H' p' => ⟨ n - ( i + 1 ) , #[ O ] , rfl , kU , p' ⟩ , fun x H' y => hs i x ys H H' kU p y ⟩
Jd ( fun x => decide #[ xz ] )
Je #[ pvx , 4 ]
Jf ( h3.objs.size + 1 )
Jg ( zb5 hC hk nh ep mp ?_ )
Jh ( start N vs )
Ji ⟨ .ref s.heap.objs.size , _ , I.laid ( o := .set _ ( zfy ns ) ) k ( ag _ ) f1 , rfl , q _ _ I.fresh ⟩
Jj ( putK kvs k v )
Jk ( .tup ( k.map kV ) )
Jl ( .ref it )
Jm ( I.base.keep b o e n hb hx )
Jn ( pairsOf vs )
Jo ( model Y.prog Y.w )
Jp ( assignEach es X.env )
Jq #[ zt , #[ z8 ] , T.F7 , c6 , #[ ya , #[ xL ] ] ]
Jr ( fun _ _ => False )
Js #[ za , #[ zg ] , #[ IB ] ]
Jt ( .lst ( rs.map V.ref ) )
Ju ( .lst ( ds.map V.ref ) )
Jv #[ ya , #[ Ev ] ]
Jw ( pendingOf l6 )
Jx ( ms.map V.int )
Jy ( cs.map V.int )
Jz #[ zW , #[ zO ] , #[ Je ] , #[ zg ] ]
JA ( aS ( aN ( az e ) ( I.ok.cab x c tV hc ) ) )
JB ( zd2 s₁.heap H )
JC ( .ref ky )
JD ( D , zdr kq nn )
JE ( I.hok.fresh ( ag _ ) )
JF ( .ref l )
JG #[ zl , #[ zJ , #[ zct ] ] ]
JH #[ zi , #[ zF ] , #[ zW , #[ zO ] , #[ pvx , 10 ] , #[ zg ] ] , #[ zg ] ]
JI ( zai p f )
JJ ( fun v s2 => wpAny #[ li ] X.A ( pyIter v ) ( PIE X km σ tg R ) X.xe s2 )
JK ( ak ( ae ( ae ( ae ( cS hit.typeIs ( ak ( ae ( wpAny_fieldsOf ho hd ?_ ) ) ) ) ) ) ) )
JL ( xs.extract i j )
JM ( kx H' D ( .lst ys ) )
JN ( aD _ ( aD _ ( zbI hb e ) ) )
JO ( setArr ( zam pI g ) ( wb ( sa + k ) out.toList.zipIdx ( arrOf ( zam pI g ) ) ) )
JP ( Cg.refl p _ )
JQ ( .builtin id )
JR ( HT.sIx xs.length xs.length hi - HT.sIx xs.length 0 lo )
JS ( .lst xs )
JT ( pl.map V.int )
JU ( xs.toList.drop i )
JV ( backTo kY ( starEach es X.env ) )
JW ( .compLoop #[ mt ] 0 it #[ Is ] env )
JX ⟨ len , fun A outer s H args us vs Q E hr e0 hb r oY => ?_ ⟩
JY ( zcA CX P w K mg base N qual scope f cd A outer s H E )
JZ ( .frz o #[ IL ] )
J0 ( ci x x ( zbr st ) ( zaN st ) ( zh st ) .none kV dc pm an cd ct )
J3 ( .tup xs )
J4 ( model P w )
J5 ( kW.length - i )
J6 ( A.deeper ( envOfC qual scope s.heap.objs.size f kL ) )
J7 ( .lst ( o6.map V.ref ) )
J8 ( fun s₃ H₃ ex km D => zgK rfl ( he s₃ H₃ ex km ) )
J9 ( .ref f )
Ka ( .bool true )
Kb ( .Name x pos )
Kc ( ho km s σ H _ I h )
Ke ( zN ey ( am ( zN ez ( am ( zju hC hk ( mb y my ) ( ma z mz ) ?_ ) ) ) ) )
Kf #[ ya , #[ Je ] ]
Kg ( kx H a o )
Kh ( ts.take s )
Ki ( pendingOf st )
Kj ( Option Value )
Kk ( au kW.length 0 )
Kl ( s.heap.objs.size + 1 )
Km ( fun i => ns.getD i 0 )
Kn ( fun _ _ z => s _ _ z )
Ko ( false , eval b X.env )
Kq ( false , eval a X.env )
Kr ( .lst ( R.map V.int ) )
Ks ( sliceBounds lo hi none n )
Kt #[ zi , #[ zZ ] , #[ IO ] , #[ Ev ] ]
Ku #[ zi , #[ zK ] , #[ IC ] , #[ zg ] ]
Kv ⟨ lim.keeps x.toInCall.keep , codeAny_func ?_ ⟩
Kw #[ pvx , 8 ]
Kx #[ zag , #[ IB ] ]
Ky ( pyNext #[ Jl ] )
Kz ( mxs ( L.take n ) )
KA ( fun _ _ _ e => e )
KB ( fun ys H' _ => ag _ )
KD ( fun z => h ( decide_eq_true ( of_decide_eq_true z ) ) )
KG ( fm hl.typeIs slot_tuple_getitem.lookup ?_ )
KH #[ pvx , 6 ]
KI ( cV rfl )
KJ ( zai p cs )
KK ( zN ez ?_ )
KL ( cJ ha hb )
KM ( hb km s1 σ H1 _ I1 q1 )
KN ( I.base.free b o e n hx )
KO ( ts.drop s )
KP ( I.hok b u e )
KQ ( Cg.emod p _ )
KR ( .List es o2 )
KS ( ( p , w ) :: P.zip vs )
KU ⟨ n , #[ M ] , bg _ , h0 ⟩
KY ( fun _ _ _ _ n => n )
KZ ( f ( .int i t ) ( .int j u ) )
K0 ( fun h => ?_ )
K1 ( fun h' c' kp e => fin kq r' hz h' c' kp e )
K2 #[ pvx , 5 ]
K3 ( .ref c )
K4 ( arrOf md )
K5 ( oa.map V.int )
K6 ( hide H t.tab )
K7 ( bs.map V.ref )
K8 ( sb.sub #[ O ] #[ O ] )
La ( fun hh => absurd hh #[ M ] )
Lb ( ho km s2 σ H2 x y v u _ I2 r1 r2 q2 )
Lc ( typeOf ( .ref x ) )
Ld ( .int p )
Lf ( trF p r )
Lg ( .dK kvs )
Lh ( ts.take i )
Li ( s3 _ _ ha )
Lj ( aU f as bs )
Lk ( fun m hm => ?_ )
Ll ( fun _ _ e => e )
Lm #[ ya , #[ pvx , 11 ] ]
Ln ⟨ bg _ , fun D hD => ?_ ⟩
Lo ( fun i ys H' hi _ => hi )
Lq ⟨ _ , rfl , _ , rfl , _ , rfl , _ , _ , rfl , rfl , .inr #[ wT ] , _ , _ , rfl , rfl , _ , rfl , _ , _ , rfl , rfl , p0 , ?_ ⟩
Lr ⟨ _ , rfl , _ , rfl , _ , _ , rfl , rfl , .inl #[ wT ] , _ , rfl , _ , _ , rfl , rfl , _ , rfl , _ , _ , rfl , rfl , p0 , ?_ ⟩
Lu ( oG ( j - 1 ) #[ O ] )
Lv ( some v )
Lw ( fun _ q => q )
Lx ( .lst #[ IF ] )
Ly ( gallopOf st )
Lz #[ zbR , #[ zM , #[ IH ] ] ]
LA ( hl km s σ H _ I h )
LB ( hi km s σ H _ I h )
LC ( h km s σ H _ I hw )
LD ( .lst ( zs.map V.int ) )
LE ( backTo kY ( starEach ( e :: es ) X.env ) )
LF ( .lst ys )
LG ( σ.set i none )
LH ( y - zr p x cs )
LI ( binaryOp .Add )
LJ ( I.ok.bs b o e )
LK ⟨ D , _ , rfl , kr.of zb , q _ ( s3.trans ( zd hD ) ) ⟩
LL ( fun Bj s' h' => ak ( And.intro rfl h' ) )
LM #[ pvx , 9 ]
LN #[ ya , #[ xL ] ]
LO #[ ya , #[ IO ] ]
LP ⟨ ?_ , fun q hq => ?_ ⟩
LQ ( zcd I hg hm ?_ ue )
LR ( qR a1 a2 a3 a4 a5 )
LS ( km ++ zb0 fp s7.heap )
LT ( assign #[ Jb ] X.env )
LU ( @ite _ c inst x y )
LV #[ zt , #[ z8 ] , T.F7 , c6 , #[ Jv ] ]
LW ( eG ( some none , st.snd.fst , st.snd.snd ) )
LX #[ pvx , 13 ]
LY ( s3 _ _ hg )
LZ ( ps.zip us )
L1 ( hide H' D )
L3 ( lo + st.snd.fst )
L4 ( fun b u e => ?_ )
L5 #[ za , #[ xL ] , #[ Jv ] ]
L6 ( t1.trans ( t2.trans ( t3.trans t4 ) ) )
L7 ( .compLoop #[ sw ] d #[ Jl ] #[ Is ] Y.env )
L8 ( aj _ hx )
L9 ( wpp pl z )
Ma ( .frz o u )
Mb ( rh.rg z hz )
Mc ( hide H6 Kd )
Md ( eval o X.env )
Me ( eval e X.env )
Mf ( bW xs.length )
Mg ( ad p f cs vs )
Mh ⟨ .bl _ , H , I , rfl , ?_ ⟩
Mi ( xs.extract i ( i + k ) )
Mj ( quo p r ( d :: cs ) )
Mk ( fun i => R.getD i 0 )
Ml ( fun f vs => jT f vs )
Mm ( fun _ _ q => ai _ q )
Mn ( fun _ _ _ _ => #[ xL ] )
Mo ( Str -> Option Value )
Mp ⟨ _ , rfl , _ , rfl , _ , _ , rfl , rfl , .inl #[ wT ] , _ , rfl , _ , _ , rfl , rfl , p0 , ?_ ⟩
Mq ( .compLoop #[ sw ] d it #[ Is ] Y.env )
Mr ⟨ w' , z.sameBut hs ( cne y c e ) ⟩
Ms ( h h' C6 ⟨ C5 , fun b o sL e => ?_ ⟩ )
Mt ( fun kF lX lY ac bc => ( none , lX , lY , kF , ac , bc ) )
Mu ( fun kF lO lH ac bc => ( none , kF , lO , lH , ac , bc ) )
Mv ( fun _ _ _ _ => #[ zi , #[ zF ] , #[ zi , #[ zbe ] , #[ xL ] , #[ Kt ] ] , #[ Iz ] ] )
Mw ( cX cZ hit.typeIs fF ?_ ( fz _ ) )
Mz ( zP led )
MC ( some #[ Jb ] )
MD ( fun _ => rfl )
ME ( .lst #[ Iw ] )
MF ( fun x1 x2 => x1 ++ x2 )
MG ( eE ho hd #[ M ] ?_ )
MJ ( SC.free y hy hf )
MK ( .Tuple es k pos )
ML #[ zi , #[ zK ] , #[ Kw ] , #[ zg ] ]
MM #[ zi , #[ zF ] , #[ Jz ] , #[ zg ] ]
MN ⟨ k , c , e , z.sameBut hs ( cne y c e ) ⟩
MO ⟨ _ , uS , fun j y v' e1 e2 e3 => ?_ ⟩
MP ⟨ .int ( g i j ) , H , I.tok _ , ⟨ _ , rfl ⟩ , q ⟩
MQ ( fun s' kk h2 A' Q' E' sF => ?_ )
MR ( fun s' A' kk => zjH I hT hB kk )
MS ( fun r => Good val #[ ss ] r.toList )
MT ( fun _ _ _ _ => #[ zi , #[ zF ] , #[ zi , #[ zK ] , #[ xL ] , #[ Kt ] ] , #[ Iz ] ] )
MU ( .BoolOp .And ( b :: rest ) pos )
MV ( Itl K a )
MW ( .tbl ps )
MX ( yl.trans wZ )
MY ( w3.trans w4 )
MZ ( v ++ au ( m + 1 ) 0 )
M3 ( s4.trans v6 )
M4 ( e0.bs b o e )
M5 ( Ad b o e hx )
M6 ( vs.toArray.zip vs.toArray )
M7 ( fun z hz => t8 z ( z1.subset hz ) )
M8 ( fun z hz => t8 z ( yH.subset hz ) )
M9 ( .ref b )
Na ( zN ey ?_ )
Nb ( kk _ _ x )
Nc ( zcL ix σ )
Nd ( SP X km D )
Nf ( .Name x p )
Ng #[ zbR , #[ IH ] ]
Nh #[ zag , #[ zf ] ]
Ni ⟨ _ , rfl , ?_ ⟩
Nj ( zan X.prog X.w )
Nk ( fun j h1 h2 => ?_ )
Nl ( a₀.size - lo )
Nm ⟨ rfl , .inr ⟨ _ , _ , _ , _ , _ , rfl , nO , #[ O ] , #[ O ] , #[ O ] , #[ O ] , #[ O ] ⟩ ⟩
Nn ⟨ _ , rfl , _ , _ , rfl , rfl , .inl #[ AC ] , _ , _ , rfl , rfl , q _ ⟩
No ( zcy ( P := P ) ( w := w ) ( base := base ) ( m + 1 ) T F )
Np ( wb sa m.toList.zipIdx xs )
Nq ( sA.trans ( zd ( o := .rng 0 p ) xN ) )
Nr ( letOwnedTupleGo tg #[ Jl ] u )
Nt ( fun x l' r' R vK k1 k2 => ?_ )
Nu ( fY ( knd := intKind prog w ) led )
Nv ( es.map V.int ++ es.map V.int )
Nx #[ pvx , 10 ]
Ny ( zbH I hg hm hv ?_ hn ue )
Nz ( sR a1 a2 a3 a4 a5 a6 a7 )
NA ( qR a1 a2 a3 a4 a5 a6 a7 )
NB ( fun r o hG => ap ⟨ g , r , _ , rfl , rfl , hG ⟩ )
NC ( fP ho hd ( x := .ref l ) rfl ?_ )
ND ( aj _ ( Att.Ew.mpr ⟨ hb , xW , e ⟩ ) )".splitOn "\n").find? (·.startsWith s) with
 |some l=>return ((<-NE 400 0 ((l.splitOn " ").drop 1)).1.head!)
 |none=>Lean.Macro.throwUnsupported
noncomputable section
set_option Elab.async false
set_option linter.all false
set_option maxRecDepth 100000
namespace L2
open PySem PySem.Spec PyProof.Rows
variable {A:Around} {C it:Addr} {CX:CXT} {H H':Hp} {M:Model} {N:List Str} {P:Program} {R:It->Hp->Prop} {X:Cx} {an od:Option Addr} {cd ct doc kL oc pm:Value} {ch fp:List Addr} {fd:FuncData} {h:Heap} {j k t' tk:Nat} {km nL:List (Addr×Obj)} {mg:Str->Option Value} {name qual:Str} {params:Arguments} {pos:Pos} {ri:Array #[Kj]} {s s' s1:Shared} {sc scope:Scope} {sp:Sp} {tg:Expr} {us:List Value} {v y:V} {w:World}
abbrev Key:=Sum Int Str
noncomputable def zee:Key->Value->Bool
 | .inl k,v=>Value.isInt k v
 | .inr x,v=>j7 x v
noncomputable def zmG (w:World):Key->Int
 | .inl k=>hashInt k
 | .inr x=>hashStr w x
theorem zap:∀ {k:Key} {v:Value},zee k v=true->(∃ i t,k=aZ i/\v=fQ i t)\/(∃ x t,k=gp x/\v=iR x t)
 | .inl i,v,h=>by
  obtain⟨t,e⟩:=Value.isInt_shape (k:=i) (v:=v) h;exact .inl ⟨i,t,rfl,e⟩
 | .inr x,v,h=>by
  obtain⟨t,e⟩:=Value.isStrOf_shape (x:=x) (v:=v) h;exact .inr ⟨x,t,rfl,e⟩
theorem zhL (i:Int) (t:Tok):zee (.inl i) (.int i t)=true:=by simp [zee,Value.isInt]
theorem zhM (x:Str) (t:Tok):zee (.inr x) (.str x t)=true:=by simp [zee,j7]
theorem zlh (a b:Int):decide ((aZ a:Key)=aZ b)=(a == b):=by
 by_cases e:a=b
 ·subst e; simp
 ·have h:¬ (aZ a:Key)=aZ b:=fun q=>e (gO q)
  rw [decide_eq_false h];exact (beq_eq_false_iff_ne.mpr e).symm
theorem zli (a b:Str):decide ((gp a:Key)=gp b)=decide (a=b):=by
 by_cases e:a=b
 ·subst e; simp
 ·have h:¬ (gp a:Key)=gp b:=fun q=>e (Sum.inr.inj q)
  rw [decide_eq_false h,decide_eq_false e]
theorem zlj (a:Int) (b:Str):decide ((aZ a:Key)=gp b)=false:=decide_eq_false (fun q=>nomatch q)
theorem zlk (a:Str) (b:Int):decide ((gp a:Key)=aZ b)=false:=decide_eq_false (fun q=>nomatch q)
noncomputable def zan (prog:Program) (w:World):PySem.KeyKind prog w Key where
 is:=zee
 hash:=zmG w
 inj:=fun v a b ha hb=>by
  rcases zap ha with ⟨i,t,rfl,rfl⟩ | ⟨x,t,rfl,rfl⟩
  ·rcases zap hb with ⟨j,u,rfl,e⟩ | ⟨y,u,rfl,e⟩
   ·injection e with e1 _; rw [e1]
   ·exact nomatch e
  ·rcases zap hb with ⟨j,u,rfl,e⟩ | ⟨y,u,rfl,e⟩
   ·exact nomatch e
   ·injection e with e1 _; rw [e1]
 byValue:=fun k v h=>by
  rcases zap h with ⟨i,t,rfl,rfl⟩ | ⟨x,t,rfl,rfl⟩ <;> rfl
 pyHash:=fun hv h=>by
  rcases zap hv with ⟨i,t,rfl,rfl⟩ | ⟨x,t,rfl,rfl⟩
  ·exact wpAny_pyHash_int h
  ·exact wpAny_pyHash_str h
 eqBool:=fun hu hv h=>by
  rcases zap hu with ⟨i,t,rfl,rfl⟩ | ⟨x,t,rfl,rfl⟩
  ·rcases zap hv with ⟨j,u,rfl,rfl⟩ | ⟨y,u,rfl,rfl⟩
   ·rw [zlh] at h; exact wpAny_eqBool_int h
   ·rw [zlj] at h; exact iS i t y u _ _ _ _ h
  ·rcases zap hv with ⟨j,u,rfl,rfl⟩ | ⟨y,u,rfl,rfl⟩
   ·rw [zlk] at h; exact iT x t j u _ _ _ _ h
   ·rw [zli] at h; exact wpAny_eqBool_str h
 «strs»:=fun k x t v h=>by
  rcases zap h with ⟨i,u,rfl,e⟩ | ⟨y,u,rfl,e⟩
  ·exact nomatch e
  ·injection e with e1 _
   subst e1;cases v <;> rfl
theorem zfC (prog:Program) (w:World) (i:Int) (t:Tok):(zan prog w).is (.inl i) (.int i t)=true:=zhL i t
theorem zfD (prog:Program) (w:World) (x:Str) (t:Tok):(zan prog w).is (.inr x) (.str x t)=true:=zhM x t
inductive V where
 | non | bl (b:Bool) | int (i:Int) | str (x:Str) | byt (b:Array UInt8) | flt (b:UInt64) | ref (a:Addr) | ty (n:String)
 deriving DecidableEq
noncomputable def RelV:V->Value->Prop
 | .non,u=>u=cD
 | .bl b,u=>u=eC b
 | .int i,u=>∃ t,u=fQ i t
 | .str x,u=>∃ t,u=iR x t
 | .byt b,u=>∃ t,u=Value.bytes b t
 | .flt b,u=>∃ t,u=Value.float b t
 | .ref a,u=>u=aP a
 | .ty n,u=>u=gm n
abbrev zG:List V->List Value->Prop:=Paired RelV
theorem zG.length {xs:List V} (r:zG xs us):xs.length=us.length:=fZ r
theorem zG.get:∀ {xs:List V} {us:List Value} {i:Nat} {x:V},zG xs us->xs[i]? = some x->∃ u,us[i]? = some u/\RelV x u
 | _,_,_,_,.nil,e=>by simp at e
 | _,_,0,_,.cons r _,e=>by simp at e; subst e; exact⟨_,rfl,r⟩
 | _,_,i+1,x,.cons _ t,e=>by
  obtain⟨u,h1,h2⟩:=zG.get (i:=i) (x:=x) t (by simpa using e);exact⟨u,by simpa using h1,h2⟩
theorem zG.append:∀ {xs ys:List V} {us ws:List Value},zG xs us->zG ys ws->zG (xs++ys) (us++ws)
 | _,_,_,_,.nil,s=>s
 | _,_,_,_,.cons r t,s=>.cons r (zG.append t s)
theorem zG.take:∀ {xs:List V} {us:List Value} (n:Nat),zG xs us->zG (xs.take n) (us.take n)
 | _,_,0,_=>.nil
 | _,_,_+1,.nil=>.nil
 | _,_,n+1,.cons r t=>.cons r (zG.take n t)
theorem zG.drop:∀ {xs:List V} {us:List Value} (n:Nat),zG xs us->zG (xs.drop n) (us.drop n)
 | _,_,0,r=>r
 | _,_,_+1,.nil=>.nil
 | _,_,n+1,.cons _ t=>zG.drop n t
noncomputable def zc6:Option V->Option Value->Prop
 | some v,some u=>RelV v u
 | none,none=>True
 | _,_=>False
noncomputable def KV {κ:Type}:List (κ×V)->List (κ×Value)->Prop:=Paired fun (p:κ×V) (q:κ×Value)=>p.1=q.1/\RelV p.2 q.2
noncomputable def kV:Key->V
 | .inl i=>.int i
 | .inr x=>.str x
inductive HO where
 | lst (xs:List V)
 | tup (xs:List V)
 | dK (kvs:List (Key×V)) | dT (kvs:List (List Key×V))
 | set (S:Int->Bool) (n:Nat)
 | ins (C dx:Addr) (fs:List (Str×V))
 | own (x:Addr)
 | xd (fs:List (Str×V))
 | met (f x:Addr)
 | rng (lo hi:Int)
 | frz (o:Obj) (u:HO)
 | tbl (ps:Array Value)
 | ext (φ:Heap->Prop)
abbrev Hp:=Addr->Option HO
noncomputable def kx (H:Hp) (a:Addr) (o:HO):Hp:=fun b=>if b=a then some o else H b
theorem zb {a:Addr} {o:HO}:kx H a o a=some o:=by unfold kx; rw [if_pos rfl]
theorem zp {a b:Addr} {o:HO} (h:b≠a):kx H a o b=H b:=by unfold kx; rw [if_neg h]
theorem zma {a b:Addr} {o u:HO} (h:H a=some o) (h':H b=some u) (d:o≠u):a≠b:=by
 intro e; subst e; rw [h] at h'; exact d (aQ h')
theorem zq {a b:Addr} {o:HO} (h:H a=some o) (h':H b=none):a≠b:=by
 intro e; subst e; rw [h] at h'; cases h'
section
variable (P:Program) (w:World)
noncomputable def z6 (H:Hp) (h:Heap) (a:Addr):HO->Prop
 | .lst xs=>xs.length<=sizeLine/\∃ (kq:List Value) (n:Nat),zG xs kq/\h.get? a=some { cls:=.type "list",data:=.seq kq.toArray n }
 | .tup xs=>xs.length<=sizeLine/\∃ kq:List Value,zG xs kq/\IsTup h a kq.toArray
 | .dK kvs=>kvs.length<=sizeLine/\(a == sysModules)=false/\∃ vs,KV kvs vs/\h.DictOf (zan P w) a vs
 | .dT kvs=>kvs.length<=sizeLine/\(a == sysModules)=false/\∃ xs:List (List Key×Addr×Value),
   Paired (fun (p:List Key×V) (q:List Key×Addr×Value)=>p.1=q.1/\H q.2.1=some (.tup (p.1.map kV))/\RelV p.2 q.2.2) kvs xs /\
   ∃ o es ep,h.get? a=some o/\o.ExactDict/\o.data = .dict es ep/\es.toList=xs.map (entryOfKey #[Ja])/\(xs.map (·.1)).Nodup
 | .set S n=>h.SetOf (intKind P w) a S n
 | .ins C dx fs=>H dx=some (.own a)/\fs.length<=1000/\dx≠a/\h.get? a=some (gH C dx) /\
   ∃ mA,h.Ns1 dx mA/\(∀ f,zc6 (fs.lookup f) (mA f))/\ka mA (fs.map (·.1))
 | .own _=>∃ o,h.get? a=some o
 | .xd fs=>∃ mA,h.Ns1 a mA/\∀ f,zc6 (fs.lookup f) (mA f)
 | .rng lo hi=>∃ t u v,h.get? a=some { cls:=.type "range",data:=.fields #[FB] }
 | .frz o u=>h.get? a=some o/\z6 H h a u
 | .tbl ps=>h.get? a=some { cls:=.none,data:=.fields ps }
 | .met f x=>h.get? a=some (ge #[J9] (.ref x))
 | .ext φ=>φ h/\(∃ o,h.get? a=some o)/\∀ h1 h2:Heap,φ h1->(∀ o,h1.get? a=some o->h2.get? a=some o)->φ h2
noncomputable def HOk (H:Hp) (h:Heap):Prop:=∀ a o,H a=some o->z6 P w H h a o
end
section
variable {P:Program} {w:World} {H H':Hp} {h h':Heap} {a:Addr} {o:HO}
theorem z6.lt (x:z6 P w H h a o):a < h.objs.size:=by
 cases o with
 | lst xs=>obtain⟨_,_,_,_,e⟩:=x; exact az e
 | tup xs=>obtain⟨_,_,_,p⟩:=x; exact p.lt
 | dK kvs=>obtain⟨_,_,_,_,o,_,_,e,_⟩:=x; exact az e
 | dT kvs=>obtain⟨_,_,_,_,o,_,_,e,_⟩:=x; exact az e
 | set S n=>obtain⟨o,_,_,_,e,_⟩:=x; exact az e
 | ins C dx fs=>obtain⟨_,_,_,e,_⟩:=x; exact az e
 | own y=>obtain⟨_,e⟩:=x; exact az e
 | xd fs=>obtain⟨_,⟨_,_,_,e,_⟩,_⟩:=x; exact az e
 | rng lo hi=>obtain⟨_,_,_,e⟩:=x; exact az e
 | frz ob u=>obtain⟨e,_⟩:=x; exact az e
 | tbl ps=>exact az (show h.get? a=some _ from x)
 | met f y=>exact az (show h.get? a=some _ from x)
 | ext φ=>obtain⟨_,⟨_,e⟩,_⟩:=x; exact az e
theorem Paired.HZ {α β:Type} {F G:α->β->Prop}:∀ {l₁:List α} {l₂:List β},Paired F l₁ l₂->(∀ a b,F a b->G a b)->Paired G l₁ l₂
 | _,_,.nil,_=>.nil
 | _,_,.cons r t,f=>.cons (f _ _ r) (Paired.HZ t f)
theorem z6.FF (x:z6 P w H h a o) (k:∀ b u,(b=a\/H b=some (.own a))->h.get? b=some u->h'.get? b=some u)
  (ho:∀ b,H b=some (.own a)->H' b=some (.own a)) (ht:∀ b xs,H b=some #[J3]->H' b=some #[J3]):z6 P w H' h' a o:=by
 induction o with
 | lst xs=>obtain⟨z,kq,n,r,e⟩:=x; exact⟨z,kq,n,r,k _ _ #[IW] e⟩
 | tup xs=>obtain⟨z,kq,r,ob,e,c⟩:=x; exact⟨z,kq,r,ob,k _ _ #[IW] e,c⟩
 | dK kvs=>obtain⟨z,y,vs,r,ob,es,ep,e,c⟩:=x; exact⟨z,y,vs,r,ob,es,ep,k _ _ #[IW] e,c⟩
 | dT kvs =>
  obtain⟨z,y,xs,r,ob,es,ep,e,c⟩:=x;exact⟨z,y,xs,Paired.HZ r fun p q z=>⟨z.1,ht _ _ z.2.1,z.2.2⟩,ob,es,ep,k _ _ #[IW] e,c⟩
 | set S n=>obtain⟨ob,es,ep,t,e,c⟩:=x; exact⟨ob,es,ep,t,k _ _ #[IW] e,c⟩
 | ins C dx fs =>
  obtain⟨d,z,ne,e,mA,⟨od,es,ep,e2,c⟩,r⟩:=x;exact⟨ho _ d,z,ne,k _ _ #[IW] e,mA,⟨od,es,ep,k _ _ (.inr d) e2,c⟩,r⟩
 | own y=>obtain⟨ob,e⟩:=x; exact⟨ob,k _ _ #[IW] e⟩
 | xd fs=>obtain⟨mA,⟨od,es,ep,e,c⟩,r⟩:=x; exact⟨mA,⟨od,es,ep,k _ _ #[IW] e,c⟩,r⟩
 | rng lo hi=>obtain⟨t,u,v,e⟩:=x; exact⟨t,u,v,k _ _ #[IW] e⟩
 | frz ob u ih=>obtain⟨e,q⟩:=x; exact⟨k _ _ #[IW] e,ih q⟩
 | tbl ps =>
  have e:h.get? a=some { cls:=.none,data:=.fields ps }:=x;show h'.get? a=some { cls:=.none,data:=.fields ps };exact k a _ #[IW] e
 | met f y =>
  have e:h.get? a=some (ge #[J9] (.ref y)):=x;show h'.get? a=some (ge #[J9] (.ref y));exact k a _ #[IW] e
 | ext φ=>obtain⟨p,⟨o,e⟩,st⟩:=x; exact⟨st _ _ p fun o q=>k _ _ #[IW] q,⟨o,k _ _ #[IW] e⟩,st⟩
theorem HOk.lt (x:HOk P w H h) (e:H a=some o):a < h.objs.size:=(x a o e).lt
theorem HOk.fresh (x:HOk P w H h) (e:h.objs.size<=a):H a=none:=by
 cases q:H a with
 | none=>rfl
 | some u=>exact absurd (aN (x.lt q) e) (bE _)
theorem HOk.kept (x:HOk P w H h) (k:∀ b u,h.get? b=some u->h'.get? b=some u):HOk P w H h':=fun a o e =>
 (x a o e).FF (fun b u _ q=>k b u q) #[Lw] fun _ _ q=>q
theorem HOk.laid (x:HOk P w H h) (k:∀ b u,h.get? b=some u->h'.get? b=some u) (hp:h.objs.size<=a) (new:z6 P w #[Kg] h' a o):HOk P w #[Kg] h':=fun b u e=>by
 have hn:=x.fresh hp;by_cases hb:b=a
 ·subst hb; rw [zb] at e; cases e; exact new
 ·rw [zp hb] at e;exact (x b u e).FF (fun c v _ q=>k c v q) (fun c q=>by rw [zp (zq q hn)]; exact q) fun c xs q=>by rw [zp (zq q hn)]; exact q
end
noncomputable def Rd (H:Hp) (a:Addr) (u:HO):Prop:=H a=some u\/∃ o,H a=some #[Ma]
theorem Rd.ok {a:Addr} {u:HO} (r:Rd H a u) (x:HOk P w H h):z6 P w H h a u:=by
 rcases r with r | ⟨o,r⟩
 ·exact x a u r
 ·obtain⟨_,q⟩:=x a _ r;exact q
noncomputable def Mut:Option HO->Prop
 | some (.lst _)=>True
 | some (.dK _)=>True
 | some (.dT _)=>True
 | some (.set _ _)=>True
 | some (.ins _ _ _)=>True
 | some (.ext _)=>True
 | _=>False
section
variable {P:Program} {w:World} {H:Hp} {h h':Heap} {x e:Addr} {o':HO}
theorem HOk.write (ok:HOk P w H h) (mu:Mut (H x)) (he:e=x\/H e=some (.own x)) (k:∀ b u,b≠e->h.get? b=some u->h'.get? b=some u) (wI:∃ u,h'.get? e=some u)
  (new:z6 P w (kx H x o') h' x o'):HOk P w (kx H x o') h':=fun b u q=>by
 have xl:∀ c y,H c=some (.own y)->c≠x:=fun c y r z=>by subst z; rw [r] at mu; exact mu
 have Ba:∀ c xs,H c=some #[J3]->c≠x:=fun c xs r z=>by subst z; rw [r] at mu; exact mu
 by_cases hb:b=x
 ·subst hb; rw [zb] at q; cases q; exact new
 ·rw [zp hb] at q;by_cases vt:b=e
  ·have q':H b=some (.own x):=by
    rcases he with z | z
    ·exact absurd (vt.trans z) hb
    ·rw [vt]; exact z
   rw [q] at q'; cases q';obtain⟨v,hv⟩:=wI;exact⟨v,by rw [vt]; exact hv⟩
  ·refine (ok b u q).FF (fun c v hc r=>k c v ?_ r) (fun c r=>by rw [zp (xl c b r)]; exact r) fun c xs r=>by rw [zp (Ba c xs r)]; exact r
   rcases hc with rfl | hc
   ·exact vt
   ·rintro rfl;rcases he with z | z
    ·exact xl c b hc z
    ·rw [hc] at z; cases z; exact hb rfl
end
structure Un (fs ex:List Addr) (H H':Hp) (h h':Heap):Prop where
 keep:∀ b o,h.get? b=some o->H b=none->b∉fs->b∉ex->h'.get? b=some o
 slot:∀ b o,h.get? b=some o->H b=none->b∈fs->b∉ex->∃ sl,h'.get? b=some { o with slots:=sl }
 free:∀ b o,h.get? b=some o->H b=none->b∉ex->H' b=none
 there:∀ b o,h.get? b=some o->b∉ex->∃ o',h'.get? b=some o'
 Fc:∀ b xs,H b=some #[J3]->H' b=some #[J3]
 Fz:∀ b o u,H b=some #[Ma]->H' b=some #[Ma]
 Fy:∀ b ps,H b=some #[MW]->∃ more,H' b=some (.tbl (ps++more))
section
variable {fs fs' ex ex':List Addr} {H H1 H2:Hp} {h h1 h2 h':Heap} {a x e:Addr} {o:HO}
theorem Un.any (u:Un fs ex H H1 h h1) {b:Addr} {ob:Obj} (q:h.get? b=some ob) (n:H b=none) (hx:b∉ex):∃ sl,h1.get? b=some { ob with slots:=sl }:=by
 by_cases hb:b∈fs
 ·exact u.slot b ob q n hb hx
 ·exact⟨ob.slots,u.keep b ob q n hb hx⟩
theorem Un.kept (k:∀ b u,h.get? b=some u->h'.get? b=some u):Un fs ex H H h h' :=
 ⟨fun b ob q _ _ _=>k b ob q,fun b ob q _ _ _=>⟨ob.slots,k b ob q⟩,fun _ _ _ n _=>n,fun b ob q _=>⟨ob,k b ob q⟩,fun _ _ q=>q,fun _ _ _ q=>q,fun _ ps q=>⟨#[],by rw [q]; simp⟩⟩
theorem Un.refl:Un fs ex H H h h:=Un.kept fun _ _ q=>q
theorem Un.laid (k:∀ b u,h.get? b=some u->h'.get? b=some u) (hp:h.objs.size<=a) (hn:H a=none):Un fs ex H #[Kg] h h' where
 keep:=fun b u q _ _ _=>k b u q
 slot:=fun b u q _ _ _=>⟨u.slots,k b u q⟩
 free:=fun b u q n _=>by rw [zp (aS (aN (az q) hp))]; exact n
 there:=fun b u q _=>⟨u,k b u q⟩
 Fc:=fun b xs q=>by rw [zp (zq q hn)]; exact q
 Fz:=fun b u xs q=>by rw [zp (zq q hn)]; exact q
 Fy:=fun b ps q=>⟨#[],by rw [zp (zq q hn),q]; simp⟩
theorem Un.write (mu:Mut (H x)) (he:e=x\/H e=some (.own x)) (k:∀ b u,b≠e->h.get? b=some u->h'.get? b=some u) (wI:∃ u,h'.get? e=some u):Un fs ex H (kx H x o) h h':=by
 have hx:∀ b,H b=none->b≠x:=fun b n z=>by subst z; rw [n] at mu; exact mu
 have hb:∀ b,H b=none->b≠e:=fun b n z=>by
  subst z;rcases he with r | r
  ·exact hx b n r
  ·rw [n] at r; cases r
 have hm:∀ b u,H b=some u->¬ Mut (some u)->b≠x:=fun b u q nm z=>by subst z; rw [q] at mu; exact nm mu
 refine⟨fun b u q n _ _=>k b u (hb b n) q,fun b u q n _ _=>⟨u.slots,k b u (hb b n) q⟩,fun b u q n _=>by rw [zp (hx b n)]; exact n,fun b u q _=>?_,
  fun b xs q=>by rw [zp (hm b _ q fun z=>z)]; exact q,fun b u xs q=>by rw [zp (hm b _ q fun z=>z)]; exact q,fun b ps q=>⟨#[],by rw [zp (hm b _ q fun z=>z),q]; simp⟩⟩
 by_cases vt:b=e
 ·subst vt; exact wI
 ·exact⟨u,k b u vt q⟩
end
noncomputable def trk (h:Heap) (H:Hp):List Addr:=(bW h.objs.size).filter fun a=>(H a).isSome
noncomputable def zd2 (h:Heap) (H:Hp):Heap:=c8 h (trk h H)
theorem zhN (h:Heap) (H:Hp):(zd2 h H).objs.size=h.objs.size:=PySem.W.hideAll_size _ _
theorem ziN {b:Addr} {o:Obj} (e:h.get? b=some o) (n:H b=none):(zd2 h H).get? b=some o :=
 d9 _ e fun hm=>by
  have q:(H b).isSome=true:=(bC.mp hm).2;rw [n] at q; simp at q
theorem zkd {b:Addr} {o:Obj} (e:(zd2 h H).get? b=some o):h.get? b=some o/\H b=none:=by
 have e':h.get? b=some o:=fR (trk h H) e;refine⟨e',?_⟩;cases q:H b with
 | none=>rfl
 | some x =>
  have hm:b∈trk h H:=bC.mpr ⟨cu.mpr (az e'),by simp [q]⟩;have z:(zd2 h H).get? b=none:=ie (trk h H) hm;rw [z] at e; cases e
structure Mod (K:af) (mg:Str->Option Value) (base:Heap):Prop where
 kin:K.In base
 glob:base.Ns mainGlobals mg
 blt:∃ mb,base.Ns builtinsNs mb/\∀ x:Str,x≠"__name__"->mb x=bootBuiltins x
 nolimit:base.NoLimit
structure Cx where
 prog:Program
 w:World
 K:af
 mg:Str->Option Value
 base:Heap
 A:Around
 N:List Str
 s₀:Shared
 H₀:Hp
 env:Env
 outer:List Env
 stack:List Env
 ex:List Addr
 fn:Str->Bool
 calm:Bool
 pn:List (Addr×Obj)
 xe:Value->Shared->Prop
noncomputable def frs (l:List Env):List Addr:=l.filterMap (·.frame)
abbrev Cx.fs (X:Cx):List Addr:=frs X.outer
noncomputable def Vis (sc:Scope) (x:Str):Prop:=sc.names.lookup x=some .local\/sc.names.lookup x=some .cell\/sc.names.lookup x=some .free
noncomputable def Loc (sc:Scope) (x:Str):Prop:=sc.names.lookup x=some .local\/sc.names.lookup x=some .cell
noncomputable def Look (env:Env) (h:Heap) (m:Str->Option Value) (x:Str) (u:Value):Prop :=
 (env.kindOf x=some .local/\m x=some u)\/((env.kindOf x=some .cell\/env.kindOf x=some .free)/\∃ c,env.cells.lookup x=some c/\h.IsCell c (some u))
structure Cx.Ok (X:Cx):Prop where
 mod:Mod X.K X.mg X.base
 kind:X.env.scope.kind = .function
 glob:X.env.globals=mainGlobals
 blt:X.env.builtins=builtinsNs
 above:X.s₀.heap.objs.size<=X.env.locals
 inj:∀ x y c,X.env.cells.lookup x=some c->X.env.cells.lookup y=some c->x=y
 has:∀ x,(X.env.kindOf x=some .cell\/X.env.kindOf x=some .free)->∃ c,X.env.cells.lookup x=some c
 cab:∀ x c,X.fn x=true->X.env.cells.lookup x=some c->X.s₀.heap.objs.size<=c
 hd:X.calm=true->X.A.handled=none
 frames:X.A.frames=some X.stack
 stk:X.stack=X.outer\/(X.stack=X.env :: X.outer/\X.env.frame=some X.env.locals)
 exf:∀ b∈X.ex,b≠X.env.locals/\∀ x c,X.env.cells.lookup x=some c->c≠b
 bs:∀ b o,X.base.get? b=some o->X.s₀.heap.get? b=some o/\X.H₀ b=none
 bsz:X.base.objs.size<=X.s₀.heap.objs.size
 Hm:∀ b o,X.base.get? b=some o->b∉X.ex
 Hx:∀ b∈X.ex,b∉X.fs
 FR:X.s₀.heap.FunFrames X.base X.outer
 frf:∀ b∈X.fs,X.H₀ b=none
structure Inv (X:Cx) (km:List (Addr×Obj)) (σ:List (Option V)) (H:Hp) (s:Shared):Prop where
 ok:X.Ok
 os:s.os=X.s₀.os
 bare:AllBare s.gens
 base:Un X.fs X.ex X.H₀ H X.s₀.heap s.heap
 loc:∃ m,s.heap.Ns X.env.locals m/\∀ (i:Nat) (x:Str) (v:V),X.N[i]? = some x->σ[i]? = some #[Lv]->Vis X.env.scope x->∃ u,RelV v u/\Look X.env s.heap m x u
 cell:∀ x c,X.env.cells.lookup x=some c->∃ v,s.heap.IsCell c v
 free:H X.env.locals=none
 D4:∀ x c,X.env.cells.lookup x=some c->H c=none
 pin:∀ p∈X.pn++km,s.heap.get? p.1=some p.2/\H p.1=none/\p.1≠X.env.locals/\p.1∉X.fs/\∀ v,p.2.data≠.cell v
 hok:HOk X.prog X.w H s.heap
 len:σ.length=X.N.length
section
variable {X:Cx} {km:List (Addr×Obj)} {σ:List (Option V)} {H H':Hp} {s:Shared} {h':Heap}
theorem Cx.Ok.Ik (ok:X.Ok) {b:Addr} {o:Obj} (e:X.base.get? b=some o):b∉X.fs:=fun hb=>by
 have:=(ok.FR.mem hb).1;rw [e] at this; cases this
theorem Inv.bs (I:Inv X km σ H s):∀ b o,X.base.get? b=some o->s.heap.get? b=some o/\H b=none:=fun b o e =>
 ⟨I.base.keep b o #[LJ].1 #[LJ].2 (I.ok.Ik e) (I.ok.Hm b o e),I.base.free b o #[LJ].1 #[LJ].2 (I.ok.Hm b o e)⟩
theorem Inv.bk (I:Inv X km σ H s):∀ b o,X.base.get? b=some o->s.heap.get? b=some o:=fun b o e=>(I.bs b o e).1
theorem Inv.mod (I:Inv X km σ H s):Mod X.K X.mg X.base:=I.ok.mod
theorem Inv.kIn (I:Inv X km σ H s):X.K.In s.heap:=I.ok.mod.kin.keeps I.bk
theorem Inv.lt (I:Inv X km σ H s):X.env.locals < s.heap.objs.size:=let ⟨_,hn,_⟩:=I.loc; hn.lt
theorem Inv.sz (I:Inv X km σ H s):X.s₀.heap.objs.size<=s.heap.objs.size:=bh I.ok.above (dI I.lt)
theorem Inv.Ij (I:Inv X km σ H s) {a:Addr} (h:s.heap.objs.size<=a):a∉X.fs:=fun hb=>by
 obtain⟨_,o,ho,_⟩:=I.ok.FR.mem hb;exact absurd (aN (az ho) (bh I.sz h)) (bE _)
theorem Inv.cne (I:Inv X km σ H s):∀ x c,X.env.cells.lookup x=some c->c≠X.env.locals:=fun x c e z=>by
 obtain⟨v,o,ho,hd⟩:=I.cell x c e;obtain⟨m,⟨o',es,ep,qm,ud,_⟩,_⟩:=I.loc;rw [z,qm] at ho; cases ho; rw [ud] at hd; cases hd
theorem Inv.FR (I:Inv X km σ H s):s.heap.FunFrames X.base X.outer:=by
 have all:∀ (l:List Env),(∀ b∈frs l,b∈X.fs)->X.s₀.heap.FunFrames X.base l->s.heap.FunFrames X.base l:=by
  intro l;induction l with
  | nil=>intro _ _; trivial
  | cons env r ih =>
   intro hs hl;obtain⟨hk,⟨L,o,hf,hn,ho,hd⟩,hr⟩:=hl;have hL:L∈X.fs:=hs L (by unfold frs; rw [cU,hf]; exact aw);obtain⟨sl,e⟩:=I.base.slot L o ho (I.ok.frf L hL) hL fun z=>I.ok.Hx L z hL
   exact⟨hk,⟨L,_,hf,hn,e,hd⟩,ih (fun b hb=>hs b (by unfold frs; rw [cU,hf]; exact aj _ hb)) hr⟩
 exact all X.outer (fun _ hb=>hb) I.ok.FR
theorem Inv.stack (I:Inv X km σ H s):s.heap.FunFrames X.base X.stack:=by
 rcases I.ok.stk with e | ⟨e,hf⟩
 ·rw [e]; exact I.FR
 ·rw [e];obtain⟨m,hn,_⟩:=I.loc;refine .cons (by rw [I.ok.kind]; decide) hf hn ?_ I.FR;exact Heap.get?_none_of_le (bh I.ok.bsz I.ok.above)
theorem Inv.Gr (I:Inv X km σ H s):∀ b∈frs X.stack,b∈X.env.locals :: X.fs:=fun b hb=>by
 rcases I.ok.stk with e | ⟨e,hf⟩
 ·rw [e] at hb; exact aj _ hb
 ·rw [e] at hb;unfold frs at hb;rw [cU,hf] at hb;exact hb
theorem Inv.Fk (I:Inv X km σ H s):∀ b∈frs X.stack,H b=none:=fun b hb=>by
 rcases aK.mp (I.Gr b hb) with e | hb
 ·rw [e]; exact I.free
 ·obtain⟨_,o,ho,_⟩:=I.ok.FR.mem hb;exact I.base.free b o ho (I.ok.frf b hb) fun z=>I.ok.Hx b z hb
theorem Inv.step {g':Array GenState} {d':Drawn} (I:Inv X km σ H s)
  (qr:∀ b∈ch,(b∈X.ex\/X.s₀.heap.objs.size<=b)/\b≠X.env.locals/\(∀ x c,X.env.cells.lookup x=some c->c≠b)/\∀ p∈X.pn++km,p.1≠b)
  (keep:∀ b o,b≠X.env.locals->b∉X.fs->b∉ch->s.heap.get? b=some o->H b=none->h'.get? b=some o)
  (slot:∀ b o,b≠X.env.locals->b∈X.fs->b∉ch->s.heap.get? b=some o->H b=none->∃ sl,h'.get? b=some { o with slots:=sl }) (free:∀ b o,b∉ch->s.heap.get? b=some o->H b=none->H' b=none)
  (there:∀ b o,b∉ch->s.heap.get? b=some o->∃ o',h'.get? b=some o')
  (Fc:∀ b xs,H b=some #[J3]->H' b=some #[J3]) (Fz:∀ b o u,H b=some #[Ma]->H' b=some #[Ma]) (Fy:∀ b ps,H b=some #[MW]->∃ more,H' b=some (.tbl (ps++more)))
  (ns:∀ m,s.heap.Ns X.env.locals m->h'.Ns X.env.locals m) (hok:HOk X.prog X.w H' h') (hg:AllBare g') :
  Inv X km σ H' { s with heap:=h',gens:=g',drawn:=d',toks:=t' }:=by
 have wJ:∀ b o,X.s₀.heap.get? b=some o->b≠X.env.locals:=fun b o e=>aS (aN (az e) I.ok.above)
 have Ad:∀ b o,X.s₀.heap.get? b=some o->b∉X.ex->b∉ch:=fun b o e hx hb=>by
  rcases (qr b hb).1 with z | z
  ·exact hx z
  ·exact absurd (aN (az e) z) (bE _)
 have cellK:∀ x c,X.env.cells.lookup x=some c->∀ v,s.heap.IsCell c v->h'.IsCell c v:=fun x c e v ⟨o,ho,hd⟩=>by
  have xm:c∉ch:=fun z=>(qr c z).2.2.1 x c e rfl
  by_cases hc:c∈X.fs
  ·obtain⟨sl,q⟩:=slot c o (I.cne x c e) hc xm ho (I.D4 x c e);exact⟨_,q,hd⟩
  ·exact⟨o,keep c o (I.cne x c e) hc xm ho (I.D4 x c e),hd⟩
 refine⟨I.ok,I.os,hg,⟨fun b o e n hb hx=>?_,fun b o e n hb hx=>?_,fun b o e n hx=>?_,fun b o e hx=>?_,fun b xs e=>Fc b xs (I.base.Fc b xs e),fun b o xs e=>Fz b o xs (I.base.Fz b o xs e),fun b ps e=>?_⟩,?_,fun x c e=>?_,?_,fun x c e=>?_,fun p hp=>?_,hok,I.len⟩
 ·exact keep b o (wJ b o e) hb #[M5] #[Jm] #[KN]
 ·obtain⟨sl,e1⟩:=I.base.slot b o e n hb hx;obtain⟨Ae,e2⟩:=slot b _ (wJ b o e) hb #[M5] e1 #[KN];exact⟨Ae,e2⟩
 ·obtain⟨o',e1⟩:=I.base.there b o e hx;exact free b o' #[M5] e1 #[KN]
 ·obtain⟨o',e1⟩:=I.base.there b o e hx;exact there b o' #[M5] e1
 ·obtain⟨m1,e1⟩:=I.base.Fy b ps e;obtain⟨m2,e2⟩:=Fy b _ e1;exact⟨m1++m2,by rw [e2,Array.append_assoc]⟩
 ·obtain⟨m,hn,hl⟩:=I.loc;refine⟨m,ns m hn,fun i x v e1 e2 e3=>?_⟩;obtain⟨u,r,l⟩:=hl i x v e1 e2 e3;refine⟨u,r,?_⟩;rcases l with l | ⟨k,c,e,z⟩
  ·exact .inl l
  ·exact .inr ⟨k,c,e,cellK x c e _ z⟩
 ·obtain⟨v,z⟩:=I.cell x c e;exact⟨v,cellK x c e v z⟩
 ·obtain⟨m,⟨o,_,_,ho,_⟩,_⟩:=I.loc;exact free _ o (fun z=>(qr _ z).2.1 rfl) ho I.free
 ·obtain⟨v,o,ho,hd⟩:=I.cell x c e;exact free c o (fun z=>(qr c z).2.2.1 x c e rfl) ho (I.D4 x c e)
 ·obtain⟨e,n,ne,nf,d⟩:=I.pin p hp;have xm:p.1∉ch:=fun z=>(qr p.1 z).2.2.2 p hp rfl
  exact⟨keep p.1 p.2 ne nf xm e n,free p.1 p.2 xm e n,ne,nf,d⟩
theorem Inv.un (I:Inv X km σ H s) (u:Un X.fs [] H H' s.heap h') (hok:HOk X.prog X.w H' h'):Inv X km σ H' { s with heap:=h',toks:=t' }:=by
 obtain⟨m,⟨o,es,ep,ho,r⟩,_⟩:=id I.loc;obtain⟨sl,hL⟩:=u.any ho I.free #[M];exact I.step (g':=s.gens) (d':=s.drawn) (ch:=[]) (fun _ z=>nomatch z) (fun b o _ hb _ e n=>u.keep b o e n hb #[M]) (fun b o _ hb _ e n=>u.slot b o e n hb #[M]) (fun b o _ e n=>u.free b o e n #[M]) (fun b o _ e=>u.there b o e #[M]) u.Fc u.Fz u.Fy (fun m' hm=>by
  obtain⟨o',wK,Af,qm,r'⟩:=hm;rw [ho] at qm; cases qm;exact⟨_,wK,Af,hL,r'⟩) hok I.bare
theorem Inv.call {g':Array GenState} {d':Drawn} (I:Inv X km σ H s) (u:Un (frs X.stack) ch H H' s.heap h') (hok:HOk X.prog X.w H' h') (hg:AllBare g')
  (qr:∀ b∈ch,(b∈X.ex\/X.s₀.heap.objs.size<=b)/\b≠X.env.locals/\(∀ x c,X.env.cells.lookup x=some c->c≠b)/\∀ p∈X.pn++km,p.1≠b) :
  Inv X km σ H' { s with heap:=h',gens:=g',drawn:=d',toks:=t' }:=by
 obtain⟨m,⟨o,es,ep,ho,r⟩,_⟩:=id I.loc;obtain⟨sl,hL⟩:=u.any ho I.free fun z=>(qr _ z).2.1 rfl
 exact I.step (ch:=ch) qr (fun b o hL hb hc e n=>u.keep b o e n (fun z=>(aK.mp (I.Gr b z)).elim hL hb) hc) (fun b o _ _ hc e n=>u.any e n hc) (fun b o hc e n=>u.free b o e n hc) (fun b o hc e=>u.there b o e hc) u.Fc u.Fz u.Fy (fun m' hm=>by
  obtain⟨o',wK,Af,qm,r'⟩:=hm;rw [ho] at qm; cases qm;exact⟨_,wK,Af,hL,r'⟩) hok hg
theorem Inv.turned (I:Inv X km σ H s) (k:∀ b o,b≠it->s.heap.get? b=some o->h'.get? b=some o) (hn:H it=none) (hL:it≠X.env.locals)
  (h1:it∈X.ex\/X.s₀.heap.objs.size<=it) (h2:∀ x c,X.env.cells.lookup x=some c->c≠it) (h3:∀ p∈X.pn++km,p.1≠it):Inv X km σ H { s with heap:=h',toks:=t' }:=by
 have uQ:∀ b u,H b=some u->b≠it:=fun b u e z=>by rw [z,hn] at e; cases e
 refine I.step (g':=s.gens) (d':=s.drawn) (ch:=[it]) (fun b hb=>?_) (fun b o _ _ hc e _=>k b o (fun z=>hc (by simp [z])) e) (fun b o _ _ hc e _=>⟨o.slots,k b o (fun z=>hc (by simp [z])) e⟩) #[KY]
  (fun b o hc e=>⟨o,k b o (fun z=>hc (by simp [z])) e⟩) #[Ll] #[KA] (fun b ps e=>⟨#[],by rw [e]; simp⟩) #[Lk] #[L4] I.bare
 ·have e:b=it:=by simpa using hb
  subst e;exact⟨h1,hL,h2,h3⟩
 ·obtain⟨o,es,ep,ho,r⟩:=hm;exact⟨o,es,ep,k _ o (cQ hL) ho,r⟩
 ·refine #[KP].FF (fun c v hc q=>k c v ?_ q) #[Lw] fun _ _ q=>q
  rcases hc with z | z
  ·rw [z]; exact uQ b u e
  ·exact uQ c _ z
theorem Inv.tok (I:Inv X km σ H s) (t:Nat):Inv X km σ H { s with toks:=t }:=I.un (h':=s.heap) (t':=t) Un.refl I.hok
theorem Inv.kept (I:Inv X km σ H s) (k:∀ b u,s.heap.get? b=some u->h'.get? b=some u):Inv X km σ H { s with heap:=h',toks:=t' }:=I.un (Un.kept k) (I.hok.kept k)
theorem Inv.laid {a:Addr} {o:HO} (I:Inv X km σ H s) (k:∀ b u,s.heap.get? b=some u->h'.get? b=some u) (hp:s.heap.objs.size<=a) (new:z6 X.prog X.w #[Kg] h' a o) :
  Inv X km σ #[Kg] { s with heap:=h',toks:=t' }:=I.un (Un.laid k hp (I.hok.fresh hp)) (I.hok.laid k hp new)
theorem Inv.write {x e:Addr} {o:HO} (I:Inv X km σ H s) (mu:Mut (H x)) (he:e=x\/H e=some (.own x)) (k:∀ b u,b≠e->s.heap.get? b=some u->h'.get? b=some u) (wI:∃ u,h'.get? e=some u)
  (new:z6 X.prog X.w (kx H x o) h' x o):Inv X km σ (kx H x o) { s with heap:=h',toks:=t' }:=I.un (Un.write mu he k wI) (I.hok.write mu he k wI new)
theorem Inv.weak {σ':List (Option V)} (I:Inv X km σ H s) (hl:σ'.length=σ.length) (w:∀ (i:Nat) v,σ'[i]? = some #[Lv]->σ[i]? = some #[Lv]):Inv X km σ' H s :=
 ⟨I.ok,I.os,I.bare,I.base,let ⟨m,hn,Ag⟩:=I.loc; ⟨m,hn,fun i x v e1 e2 e3=>Ag i x v e1 (w i v e2) e3⟩,I.cell,I.free,I.D4,I.pin,I.hok,hl.trans I.len⟩
theorem Inv.Fl (I:Inv X km σ H s) (h:∀ p∈nL,s.heap.get? p.1=some p.2/\H p.1=none/\p.1≠X.env.locals/\p.1∉X.fs/\∀ v,p.2.data≠.cell v):Inv X nL σ H s :=
 ⟨I.ok,I.os,I.bare,I.base,I.loc,I.cell,I.free,I.D4,fun p hp=>(aR.mp hp).elim (fun z=>I.pin p (aJ _ z)) (h p),I.hok,I.len⟩
theorem zdE (hN:N.Nodup) {i:Nat} {x:Str} (a:N[i]? = some x) (b:N[j]? = some x):i=j:=by
 obtain⟨h1,e1⟩:=aH.mp a;obtain⟨h2,e2⟩:=aH.mp b;exact (dQ hN).mp (e1.trans e2.symm)
theorem zef {E:Value->Shared->Prop} {i:Nat} {x:Str} {u:Value} {Q:Unit->Shared->Prop} (I:Inv X km σ H s) (hN:X.N.Nodup) (hi:X.N[i]? = some x) (hx:Loc X.env.scope x) (r:RelV v u)
  (h:∀ s',Inv X km (σ.set i #[Lv]) H s'->(∃ a,fg a s.heap s'.heap/\(a=X.env.locals\/X.env.cells.lookup x=some a))->Q () s') (hf:X.fn x=true\/X.env.scope.names.lookup x=some .local:=by first | exact .inl rfl | exact .inr rfl | assumption):wpAny M A (storeName X.env x u) Q E s:=by
 obtain⟨m,hn,hl⟩:=id I.loc;have sH:(X.env.scope.kind == .class || (X.env.scope.kind == .module && X.env.locals != X.env.globals))=false:=by rw [I.ok.kind]; rfl
 have hiσ:i < σ.length:=by rw [I.len]; exact (aH.mp hi).1
 have cne:=I.cne;have tracked:∀ {a:Addr} {h':Heap},(∃ o,s.heap.get? a=some o/\H a=none)->fg a s.heap h'->HOk X.prog X.w H h':=fun {a h'} ha hs b ob e=>by
  obtain⟨_,_,uR⟩:=ha;refine (I.hok b ob e).FF (fun c w' hc q=>(hs.2 c ?_).trans q) #[Lw] fun _ _ q=>q
  rintro rfl;rcases hc with rfl | hc
  ·rw [uR] at e; cases e
  ·rw [uR] at hc; cases hc
 rcases hx with hk | hk
 ·refine wpAny_storeName_local hk hn (fun h' uS hs=>?_) sH;obtain⟨oL,_,_,tU,_⟩:=id hn;refine h _ ⟨I.ok,I.os,I.bare,#[wv],#[MO],fun y c e=>?_,I.free,I.D4,fun p hp=>?_,tracked ⟨oL,tU,I.free⟩ hs,by simpa using I.len⟩ ⟨_,hs,.inl rfl⟩
  ·exact (hs.2 b #[Iq]).trans #[Jm]
  ·obtain⟨sl,e1⟩:=I.base.slot b o e n hb hx;exact⟨sl,(hs.2 b #[Iq]).trans e1⟩
  ·obtain⟨o',e1⟩:=I.base.there b o e hx;exact⟨o',(hs.2 b #[Iq]).trans e1⟩
  ·by_cases hj:j=i
   ·subst hj;rw [hi] at e1; cases e1;rw [dF hiσ] at e2;cases e2;exact⟨u,r,.inl ⟨hk,#[M]⟩⟩
   ·rw [dR (cQ hj)] at e2;obtain⟨u',r',q⟩:=hl j y v' e1 e2 e3;refine⟨u',r',?_⟩;rcases q with ⟨k,e⟩ | ⟨k,c,e,z⟩
    ·refine .inl ⟨k,?_⟩;have:y≠x:=fun e=>hj (zdE hN e1 (e ▸ hi))
     simp [this,e]
    ·exact .inr #[MN]
  ·obtain⟨w',z⟩:=I.cell y c e;exact#[Mr]
  ·obtain⟨e,n,ne,nf,d⟩:=I.pin p hp;exact⟨(hs.2 p.1 ne).trans e,n,ne,nf,d⟩
 ·have tV:X.fn x=true:=by
   rcases hf with z | z
   ·exact z
   ·rw [z] at hk; cases hk
  obtain⟨c,hc⟩:=I.ok.has x (.inl hk);obtain⟨w',z⟩:=I.cell x c hc;refine wpAny_storeName_cell I.ok.kind hk hc z (fun h' lE hs=>?_);obtain⟨oc,uT,Bb⟩:=id z;refine h { s with heap:=h' } ⟨I.ok,I.os,I.bare,#[wv],⟨m,hn.sameBut hs (cQ (cne x c hc)),fun j y v' e1 e2 e3=>?_⟩,fun y c' e=>?_,I.free,I.D4,fun p hp=>?_,tracked ⟨oc,uT,I.D4 x c hc⟩ hs,by simpa using I.len⟩ ⟨c,hs,.inr hc⟩
  ·exact (hs.2 b #[JA]).trans #[Jm]
  ·obtain⟨sl,e1⟩:=I.base.slot b o e n hb hx;exact⟨sl,(hs.2 b #[JA]).trans e1⟩
  ·obtain⟨o',e1⟩:=I.base.there b o e hx;exact⟨o',(hs.2 b #[JA]).trans e1⟩
  ·by_cases hj:j=i
   ·subst hj;rw [hi] at e1; cases e1;rw [dF hiσ] at e2;cases e2;exact⟨u,r,.inr ⟨.inl hk,c,hc,lE⟩⟩
   ·rw [dR (cQ hj)] at e2;obtain⟨u',r',q⟩:=hl j y v' e1 e2 e3;refine⟨u',r',?_⟩;rcases q with q | ⟨k,c',e,z'⟩
    ·exact .inl q
    ·refine .inr ⟨k,c',e,z'.sameBut hs ?_⟩;rintro rfl;exact hj (zdE hN e1 (I.ok.inj _ _ _ e hc ▸ hi))
  ·by_cases ng:c'=c
   ·subst ng; exact⟨_,lE⟩
   ·obtain⟨w2,z2⟩:=I.cell y c' e;exact⟨w2,z2.sameBut hs ng⟩
  ·obtain⟨e,n,ne,nf,d⟩:=I.pin p hp;refine⟨(hs.2 p.1 ?_).trans e,n,ne,nf,d⟩;intro q;rw [q,uT] at e;have q':oc=p.2:=aQ e;exact d w' (by rw [<- q']; exact Bb)
theorem zbz {E:Value->Shared->Prop} {i:Nat} {x:Str} {u:Value} {Q:Unit->Shared->Prop} (I:Inv X km σ H s) (hN:X.N.Nodup) (hi:X.N[i]? = some x) (hx:Loc X.env.scope x) (r:RelV v u)
  (h:∀ s',Inv X km (σ.set i #[Lv]) H s'->Q () s') (hf:X.fn x=true\/X.env.scope.names.lookup x=some .local:=by first | exact .inl rfl | exact .inr rfl | assumption):wpAny M A (storeName X.env x u) Q E s :=
 zef I hN hi hx r (fun s' I' _=>h s' I') hf
theorem Inv.HH (I:Inv X km σ H s) (ho:s'.os=s.os) (u:Un (frs X.stack) ch H H' s.heap s'.heap) (hok:HOk X.prog X.w H' s'.heap) (hg:AllBare s'.gens)
  (qr:∀ b∈ch,(b∈X.ex\/X.s₀.heap.objs.size<=b)/\b≠X.env.locals/\(∀ x c,X.env.cells.lookup x=some c->c≠b)/\∀ p∈X.pn++km,p.1≠b):Inv X km σ H' s':=by
 obtain⟨h',g',d',t',o'⟩:=s';have e:o'=s.os:=ho;subst e;exact I.call (g':=g') (t':=t') (d':=d') u hok hg qr
end
abbrev XK:=Value->Option Addr->Hp->Prop
abbrev St:=List (Option V)
abbrev VK:=V->Hp->Prop
abbrev TE:=St->Hp->VK->Prop
abbrev TT:=St->Hp->(Bool->Hp->Prop)->Prop
abbrev TA:=St->Hp->(List V->Hp->Prop)->Prop
structure Ends where
 nx:St->Hp->Prop
 rt:VK
 bk:St->Hp->Prop:=fun _ _=>False
 ct:St->Hp->Prop:=fun _ _=>False
abbrev TS:=Ends->St->Hp->Prop
noncomputable def EP (X:Cx) (km:List (Addr×Obj)) (σ:St) (Q:VK) (u:Value) (s':Shared):Prop:=∃ v H',Inv X km σ H' s'/\RelV v u/\Q v H'
noncomputable def TP (X:Cx) (km:List (Addr×Obj)) (σ:St) (Q:Bool->Hp->Prop) (b:Bool) (s':Shared):Prop:=∃ H',Inv X km σ H' s'/\Q b H'
noncomputable def AP (X:Cx) (km:List (Addr×Obj)) (σ:St) (Q:List V->Hp->Prop) (us:List Value) (s':Shared):Prop:=∃ vs H',Inv X km σ H' s'/\zG vs us/\Q vs H'
noncomputable def SP (X:Cx) (km:List (Addr×Obj)) (D:Ends) (f:Flow) (s':Shared):Prop :=
 match f with
 | .next=>∃ σ' H',Inv X km σ' H' s'/\D.nx σ' H'
 | .brk=>∃ σ' H',Inv X km σ' H' s'/\D.bk σ' H'
 | .cont=>∃ σ' H',Inv X km σ' H' s'/\D.ct σ' H'
 | .ret u=>∃ v σ' H',Inv X km σ' H' s'/\RelV v u/\D.rt v H'
noncomputable def PE (X:Cx) (e:Expr) (t:TE):Prop :=
 ∀ (km:List (Addr×Obj)) (s:Shared) (σ:St) (H:Hp) (Q:VK),Inv X km σ H s->t σ H Q->wpAny #[li] X.A #[Me] #[Ix] X.xe s
noncomputable def PT (X:Cx) (e:Expr) (t:TT):Prop :=
 ∀ (km:List (Addr×Obj)) (s:Shared) (σ:St) (H:Hp) (Q:Bool->Hp->Prop),Inv X km σ H s->t σ H Q->wpAny #[li] X.A (isTrue e X.env #[Me]) (TP X km σ Q) X.xe s
noncomputable def PW (X:Cx) (e:Expr) (t:TT):Prop :=
 ∀ (whole:Sem Value) (km:List (Addr×Obj)) (s:Shared) (σ:St) (H:Hp) (Q:Bool->Hp->Prop),Inv X km σ H s->t σ H Q->wpAny #[li] X.A (isTrue e X.env whole) (TP X km σ Q) X.xe s
theorem PW.pt {X:Cx} {e:Expr} {t:TT} (h:PW X e t):PT X e t:=h _
noncomputable def PA (X:Cx) (es:List Expr) (t:TA):Prop :=
 ∀ (pos:Pos) (km:List (Addr×Obj)) (s:Shared) (σ:St) (H:Hp) (Q:List V->Hp->Prop),Inv X km σ H s->t σ H Q->wpAny #[li] X.A (spliced #[Fa]) (AP X km σ Q) X.xe s
noncomputable def PS (X:Cx) (st:Stmt) (t:TS):Prop :=
 ∀ (km:List (Addr×Obj)) (s:Shared) (σ:St) (H:Hp) (D:Ends),Inv X km σ H s->t D σ H->wpAny #[li] X.A (exec st X.env) #[Nd] X.xe s
noncomputable def PSs (X:Cx) (st:List Stmt) (t:TS):Prop :=
 ∀ (km:List (Addr×Obj)) (s:Shared) (σ:St) (H:Hp) (D:Ends),Inv X km σ H s->t D σ H->wpAny #[li] X.A (execs st X.env) #[Nd] X.xe s
theorem thn {α:Type} {t:Sem α} {Q Q':α->Shared->Prop} {E:Value->Shared->Prop} (h:wpAny M A t Q E s) (hQ:∀ a s,Q a s->Q' a s):wpAny M A t Q' E s:=bM h hQ fun _ _ x=>x
section
variable {X:Cx}
noncomputable def zmb (i:Nat):TE:=fun σ H Q=>∃ v,σ[i]? = some #[Lv]/\Q v H
noncomputable def tC (v:V):TE:=fun _ H Q=>Q v H
theorem zll {i:Nat} {x:Str} (hN:X.N[i]? = some x) (hv:Vis X.env.scope x) (hd:(x == ("__debug__" : Str))=false:=by decide) (n4:(x == ("__classdict__" : Str))=false:=by decide):PE X #[Kb] (zmb i):=by
 intro km s σ H Q I h;obtain⟨v,e,h⟩:=h;obtain⟨m,hn,hl⟩:=I.loc;obtain⟨u,r,l⟩:=hl i x v hN e hv;have fin:EP X km σ Q u s:=⟨v,H,I,r,h⟩;rcases l with ⟨hk,hm⟩ | ⟨hk,c,hc,nM⟩
 ·exact ig (fh I.ok.kind hk hn hm fin) hd
 ·rcases hk with hk | hk
  ·exact ig (iH I.ok.kind hk hc nM fin) hd
  ·exact ig (wpAny_loadName_free I.ok.kind hk hc nM fin n4) hd
theorem zg {i j pos}:PE X (.Constant (.int i) j pos) (tC (.int i)):=fun _ _ _ H _ I h=>iU ⟨.int i,H,I.tok _,⟨_,rfl⟩,h⟩
theorem zct {b j pos}:PE X (.Constant (.bool b) j pos) (tC (.bl b)):=fun _ _ _ H _ I h=>Constant_bool ⟨.bl b,H,I,rfl,h⟩
theorem zlm {j pos}:PE X (.Constant .none j pos) (tC .non):=fun _ _ _ H _ I h=>Constant_none ⟨.non,H,I,rfl,h⟩
theorem zeT {x j pos}:PE X (.Constant (.str x) j pos) (tC (.str x)):=fun _ _ _ H _ I h=>Calls.Constant_str ⟨.str x,H,I.tok _,⟨_,rfl⟩,h⟩
noncomputable def Gl (X:Cx) (x:Str):Prop:=X.env.kindOf x=some .globalImplicit
theorem zcd {E:Value->Shared->Prop} {σ:St} {x:Str} {u:Value} {Q:Value->Shared->Prop} (I:Inv X km σ H s) (hg:Gl X x) (hm:X.mg x=some u) (h:Q u s)
  (hd:(x == ("__debug__" : Str))=false:=by decide):wpAny #[li] X.A (eval #[Kb] X.env) Q E s :=
 f9 I.ok.kind hg (Calls.loadGlobal_global (by rw [I.ok.glob]; exact I.mod.glob.keeps I.bk) hm h) hd
theorem zbH {E:Value->Shared->Prop} {σ:St} {x:Str} {u:Value} {Q:Value->Shared->Prop} (I:Inv X km σ H s) (hg:Gl X x) (hm:X.mg x=none) (hv:bootBuiltins x=some u) (h:Q u s)
  (hn:x≠"__name__":=by decide) (hd:(x == ("__debug__" : Str))=false:=by decide):wpAny #[li] X.A (eval #[Kb] X.env) Q E s:=by
 obtain⟨mb,h1,h2⟩:=I.mod.blt;exact f9 I.ok.kind hg (Calls.loadGlobal_builtin (by rw [I.ok.glob]; exact I.mod.glob.keeps I.bk) hm (by rw [I.ok.blt]; exact h1.keeps I.bk) ((h2 x hn).trans hv) h) hd
theorem za4 {x:Str} {v:V} {u:Value} {pos:Pos} (hg:Gl X x) (hm:X.mg x=some u) (r:RelV v u) (hd:(x == ("__debug__" : Str))=false:=by decide):PE X #[Kb] (tC v) :=
 fun _ _ _ H _ I h=>zcd I hg hm ⟨v,H,I,r,h⟩ hd
theorem zdw {x:Str} {v:V} {u:Value} {pos:Pos} (hg:Gl X x) (hm:X.mg x=none) (hv:bootBuiltins x=some u) (r:RelV v u) (hn:x≠"__name__":=by decide) (hd:(x == ("__debug__" : Str))=false:=by decide):PE X #[Kb] (tC v) :=
 fun _ _ _ H _ I h=>zbH I hg hm hv ⟨v,H,I,r,h⟩ hn hd
variable {a b:Expr} {ta tb:TE} {pos:Pos}
noncomputable def tB (t:TE):TT:=fun σ H Q=>t σ H fun x H1=>∃ c,x = .bl c/\Q c H1
theorem zgy {e:Expr} {t:TE} (h:PE X e t) (he:∀ whole,isTrue e X.env whole=(do let v <- whole; standAt e.pos; holding [v] (truthy v)):=by intro _; rfl):PT X e (tB t):=by
 intro km s σ H Q I hw;refine isTrue_plain (thn #[LC] fun v s1 ⟨x,H1,I1,r1,q1⟩=>?_) (he _);obtain⟨d,rfl,q⟩:=q1;cases r1;exact dh ⟨H1,I1,q⟩
variable {tA Ah:TT} {rest:List Expr}
noncomputable def zmH (t u:TT):TT:=fun σ H Q=>t σ H fun c H1=>if c=true then u σ H1 Q else Q false H1
noncomputable def tOr (t u:TT):TT:=fun σ H Q=>t σ H fun c H1=>if c=true then Q true H1 else u σ H1 Q
noncomputable def zmI (t:TT):TT:=fun σ H Q=>t σ H fun c H1=>Q (!c) H1
theorem zke (ha:PT X a tA):PW X (.BoolOp .And [a] pos) tA:=by
 intro wh km s σ H Q I h;refine isTrue_and (thn (ha km s σ H Q I h) fun c s1 e=>?_);cases c with
 | true=>exact isTrue_and_nil e
 | false=>exact e
theorem zgz (ha:PT X a tA):PW X (.BoolOp .Or [a] pos) tA:=by
 intro wh km s σ H Q I h;refine isTrue_or (thn (ha km s σ H Q I h) fun c s1 e=>?_);cases c with
 | false=>exact isTrue_or_nil e
 | true=>exact e
theorem zln (ha:PT X a tA) (hb:PW X #[MU] Ah):PW X (.BoolOp .And (a :: b :: rest) pos) (zmH tA Ah):=by
 intro wh km s σ H Q I h;refine isTrue_and (thn #[Iu] fun c s1 ⟨H1,I1,q1⟩=>?_);cases c with
 | true=>exact hb wh km s1 σ H1 Q I1 q1
 | false=>exact⟨H1,I1,q1⟩
theorem zg7 (ha:PT X a tA) (hb:PW X (.BoolOp .Or (b :: rest) pos) Ah):PW X (.BoolOp .Or (a :: b :: rest) pos) (tOr tA Ah):=by
 intro wh km s σ H Q I h;refine isTrue_or (thn #[Iu] fun c s1 ⟨H1,I1,q1⟩=>?_);cases c with
 | true=>exact⟨H1,I1,q1⟩
 | false=>exact hb wh km s1 σ H1 Q I1 q1
theorem zgA (ha:PT X a tA):PT X (.UnaryOp .Not a pos) (zmI tA):=by
 intro km s σ H Q I h;exact isTrue_not (ha km s σ H (fun c H1=>Q (!c) H1) I h)
noncomputable def zmc (ta tb:TE):TE:=fun σ H Q=>ta σ H fun x H1=>∃ c,x = .bl c/\if c=true then tb σ H1 Q else Q (.bl false) H1
noncomputable def zmd (ta:TE):TE:=fun σ H Q=>ta σ H fun x H1=>∃ c,x = .bl c/\Q (.bl (!c)) H1
theorem zlo {op} {t:TE} (h:PE X a t):PE X (.BoolOp op [a] pos) t:=fun km s σ H Q I hw=>BoolOp_one (h km s σ H Q I hw)
theorem zlp (ha:PE X a ta) (hb:PE X #[MU] tb):PE X (.BoolOp .And (a :: b :: rest) pos) (zmc ta tb):=by
 intro km s σ H Q I h;refine BoolOp_and (thn #[Iu] fun v s1 ⟨x,H1,I1,r1,q1⟩=>?_);obtain⟨c,rfl,q1⟩:=q1;cases r1;refine dh ?_;cases c with
 | true=>exact hb km s1 σ H1 Q I1 q1
 | false=>exact⟨.bl false,H1,I1,rfl,q1⟩
theorem zlq (ha:PE X a ta):PE X (.UnaryOp .Not a pos) (zmd ta):=by
 intro km s σ H Q I h;refine UnaryOp_ (thn #[Iu] fun v s1 ⟨x,H1,I1,r1,q1⟩=>?_);obtain⟨c,rfl,q1⟩:=q1;cases r1;exact not_of (dh ⟨.bl (!c),H1,I1,rfl,q1⟩)
noncomputable def tIf (t:TT) (ta tb:TE):TE:=fun σ H Q=>t σ H fun c H1=>if c=true then ta σ H1 Q else tb σ H1 Q
theorem zfE {c:Expr} (hc:PT X c tA) (ha:PE X a ta) (hb:PE X b tb):PE X (.IfExp c a b pos) (tIf tA ta tb):=by
 intro km s σ H Q I h;refine wpAny_IfExp (thn (hc km s σ H _ I h) fun d s1 ⟨H1,I1,q1⟩=>?_);cases d with
 | true=>exact ha km s1 σ H1 Q I1 q1
 | false=>exact hb km s1 σ H1 Q I1 q1
end
noncomputable def kr (K:af) (H:Hp) (a:Addr) (xs:List V):Prop :=
 Rd H a #[JS] \/
  ∃ (o:Obj) (kq:Array Value) (n:Nat),K.lookup a=some o/\o.cls = .type "list"/\o.dict=none/\o.data = .seq kq n/\kq.size<=sizeLine/\zG xs kq.toList
noncomputable def kJ (K:af) (H:Hp) (a:Addr) (xs:List V):Prop :=
 Rd H a #[J3] \/
  ∃ (o:Obj) (kq:Array Value) (n:Nat),K.lookup a=some o/\o.cls = .type "tuple"/\o.data = .seq kq n/\kq.size<=sizeLine/\zG xs kq.toList
noncomputable def zmJ:Value->Option V
 | .none=>some .non
 | .bool b=>some (.bl b)
 | .int i _=>some (.int i)
 | .str x _=>some (.str x)
 | .bytes b _=>some (.byt b)
 | .float b _=>some (.flt b)
 | .ref a=>some #[IT]
 | .type n=>some (.ty n)
 | _=>none
theorem RelV.abs {x:V} {u:Value} (r:RelV x u):zmJ u=some x:=by
 cases x with
 | non=>cases r; rfl
 | bl _=>cases r; rfl
 | int _=>obtain⟨t,rfl⟩:=r; rfl
 | str _=>obtain⟨t,rfl⟩:=r; rfl
 | byt _=>obtain⟨t,rfl⟩:=r; rfl
 | flt _=>obtain⟨t,rfl⟩:=r; rfl
 | ref _=>cases r; rfl
 | ty _=>cases r; rfl
theorem RelV.inj {x:V} {u:Value} (r:RelV x u) (q:RelV y u):x=y:=aQ (r.abs.symm.trans q.abs)
theorem zG.inj:∀ {xs ys:List V} {us:List Value},zG xs us->zG ys us->xs=ys
 | _,_,_,.nil,.nil=>rfl
 | _,_,_,.cons r t,.cons r' t'=>by rw [r.inj r',zG.inj t t']
section
variable {X:Cx} {km:List (Addr×Obj)} {σ:St} {H:Hp} {s:Shared} {a:Addr} {xs ys:List V}
theorem kr.of {K:af} (h:H a=some #[JS]):kr K H a xs:=.inl (.inl h)
theorem kJ.of {K:af} (h:H a=some #[J3]):kJ K H a xs:=.inl (.inl h)
theorem Inv.list (I:Inv X km σ H s) (h:kr X.K H a xs):∃ kq:List Value,zG xs kq/\PlainL s.heap a kq.toArray/\xs.length<=sizeLine:=by
 rcases h with h | ⟨o,kq,n,hk,hc,hd,hs,hz,r⟩
 ·obtain⟨z,kq,n,r,e⟩:=h.ok I.hok;exact⟨kq,r,⟨_,n,e,rfl,rfl,rfl⟩,z⟩
 ·refine⟨kq.toList,r,⟨o,n,I.kIn a o hk,hc,hd,by simpa using hs⟩,?_⟩;have e:=r.length;simp only [bw] at e;lia
theorem Inv.tuple (I:Inv X km σ H s) (h:kJ X.K H a xs):∃ kq:List Value,zG xs kq/\IsTup s.heap a kq.toArray/\xs.length<=sizeLine:=by
 rcases h with h | ⟨o,kq,n,hk,hc,hs,hz,r⟩
 ·obtain⟨z,kq,r,p⟩:=h.ok I.hok;exact⟨kq,r,p,z⟩
 ·refine⟨kq.toList,r,⟨o,I.kIn a o hk,hc,n,by simpa using hs⟩,?_⟩;have e:=r.length;simp only [bw] at e;lia
theorem Inv.EI (I:Inv X km σ H s) (h:kr X.K H a xs) (h':kr X.K H a ys):xs=ys:=by
 obtain⟨kq,r,⟨o,n,e,_,_,d⟩,_⟩:=I.list h;obtain⟨its',r',⟨o',n',e',_,_,d'⟩,_⟩:=I.list h';rw [e] at e'; cases e';rw [d] at d';injection d' with d1 _
 have:kq=its':=by simpa using congrArg kb d1
 subst this;exact r.inj r'
theorem Inv.FD (I:Inv X km σ H s) (h:kJ X.K H a xs) (h':kJ X.K H a ys):xs=ys:=by
 obtain⟨kq,r,⟨o,e,_,n,d⟩,_⟩:=I.tuple h;obtain⟨its',r',⟨o',e',_,n',d'⟩,_⟩:=I.tuple h';rw [e] at e'; cases e';rw [d] at d';injection d' with d1 _
 have:kq=its':=by simpa using congrArg kb d1
 subst this;exact r.inj r'
end
abbrev Cx.Gf (X:Cx) (E:Value->Shared->Prop):Cx:={ X with xe:=E }
abbrev Cx.nox (X:Cx):Cx:=X.Gf fun _ _=>False
theorem Cx.Ok.Gf (ok:X.Ok) (E:Value->Shared->Prop):(X.Gf E).Ok :=
 ⟨ok.mod,ok.kind,ok.glob,ok.blt,ok.above,ok.inj,ok.has,ok.cab,ok.hd,ok.frames,ok.stk,ok.exf,ok.bs,ok.bsz,ok.Hm,ok.Hx,ok.FR,ok.frf⟩
theorem Cx.Ok.DS {E:Value->Shared->Prop} (ok:(X.Gf E).Ok):X.Ok :=
 ⟨ok.mod,ok.kind,ok.glob,ok.blt,ok.above,ok.inj,ok.has,ok.cab,ok.hd,ok.frames,ok.stk,ok.exf,ok.bs,ok.bsz,ok.Hm,ok.Hx,ok.FR,ok.frf⟩
section
variable {X:Cx} {km:List (Addr×Obj)} {σ:St} {H:Hp} {s:Shared} {E:Value->Shared->Prop}
theorem Inv.Gf (I:Inv X km σ H s) (E:Value->Shared->Prop):Inv (X.Gf E) km σ H s:=⟨I.ok.Gf E,I.os,I.bare,I.base,I.loc,I.cell,I.free,I.D4,I.pin,I.hok,I.len⟩
theorem Inv.DS (I:Inv (X.Gf E) km σ H s):Inv X km σ H s:=⟨I.ok.DS,I.os,I.bare,I.base,I.loc,I.cell,I.free,I.D4,I.pin,I.hok,I.len⟩
theorem SP.DS {D:Ends} {f:Flow} (h:SP (X.Gf E) km D f s'):SP X km D f s':=by
 cases f with
 | next=>obtain⟨σ',H',I,q⟩:=h; exact⟨σ',H',I.DS,q⟩
 | brk=>obtain⟨σ',H',I,q⟩:=h; exact⟨σ',H',I.DS,q⟩
 | cont=>obtain⟨σ',H',I,q⟩:=h; exact⟨σ',H',I.DS,q⟩
 | ret u=>obtain⟨v,σ',H',I,r,q⟩:=h; exact⟨v,σ',H',I.DS,r,q⟩
theorem PSs.nox {st:List Stmt} {t:TS} (h:PSs X.nox st t):PSs X st t:=fun km s σ H D I hw =>
 bM (h km s σ H D (I.Gf _) hw) (fun _ _ q=>q.DS) fun _ _ z=>bR z
end
section
variable {X:Cx} {st:Stmt} {rest:List Stmt} {t u:TS} {e:Expr} {te:TE} {pos:Pos}
noncomputable def zme:TS:=fun D σ H=>D.nx σ H
noncomputable def zbi (t u:TS):TS:=fun D σ H=>t { D with nx:=u D } σ H
theorem zaq:PSs X [] zme:=fun _ _ σ H _ I h=>dz ⟨σ,H,I,h⟩
theorem ze (h1:PS X st t) (h2:PSs X rest u):PSs X (st :: rest) (zbi t u):=by
 intro km s σ H D I h;refine gq (thn (h1 km s σ H { D with nx:=u D } I h) fun f s1 q=>?_);cases f with
 | next =>
  obtain⟨σ',H',I',q⟩:=q;exact h2 km s1 σ' H' D I' q
 | ret v=>exact q
 | brk=>exact q
 | cont=>exact q
theorem zl (h1:PS X st t):PSs X [st] t:=by
 intro km s σ H D I h;refine gq (thn (h1 km s σ H D I h) fun f s1 q=>?_);cases f with
 | next=>exact dz q
 | ret v=>exact q
 | brk=>exact q
 | cont=>exact q
noncomputable def zlr:TS:=fun D σ H=>D.bk σ H
theorem ziO:PS X (.Break pos) zlr:=fun _ _ σ H _ I h=>wpAny_Break ⟨σ,H,I,h⟩
theorem Inv.quiet {σ:St} (I:Inv X km σ H s):interactive X.env=false:=by simp [interactive,I.ok.kind]
noncomputable def zmf (te:TE):TS:=fun D σ H=>te σ H fun _ H1=>D.nx σ H1
theorem zcJ (he:PE X e te) (hs:swapsWith e none pos.line X.env=pure false:=by rfl):PS X (.Expr e pos) (zmf te):=by
 intro km s σ H D I h;exact wpAny_Expr_any (thn #[IR] fun v s1 ⟨x,H1,I1,r1,q1⟩=>⟨σ,H1,I1,q1⟩) I.quiet hs
noncomputable def zmK (te:TE):TS:=fun D σ H=>te σ H D.rt
theorem zJ (he:PE X e te):PS X (.Return (some e) pos) (zmK te):=by
 intro km s σ H D I h;exact wpAny_Return_some (thn #[IR] fun v s1 ⟨x,H1,I1,r1,q1⟩=>⟨x,σ,H1,I1,r1,q1⟩)
noncomputable def zmL (c:TT) (t u:TS):TS:=fun D σ H=>c σ H fun b H1=>if b=true then t D σ H1 else u D σ H1
theorem zaX {c:Expr} {a b:List Stmt} {tc:TT} (hc:PT X c tc) (ha:PSs X a t) (hb:PSs X b u):PS X (.If c a b pos) (zmL tc t u):=by
 intro km s σ H D I h;refine wpAny_If (thn (hc km s σ H _ I h) fun d s1 ⟨H1,I1,q1⟩=>?_);cases d with
 | true=>exact ha km s1 σ H1 D I1 q1
 | false=>exact hb km s1 σ H1 D I1 q1
end
abbrev TG:=V->St->Hp->(St->Hp->Prop)->Prop
abbrev TGs:=List V->St->Hp->(St->Hp->Prop)->Prop
noncomputable def PG (X:Cx) (target:Expr) (t:TG):Prop :=
 ∀ (km:List (Addr×Obj)) (s:Shared) (σ:St) (H:Hp) (v:V) (u:Value) (Q:St->Hp->Prop),Inv X km σ H s->RelV v u->t v σ H Q ->
  wpAny #[li] X.A (assign target X.env u) (fun _ s'=>∃ σ' H',Inv X km σ' H' s'/\Q σ' H') X.xe s
noncomputable def PGs (X:Cx) (ts:List Expr) (t:TGs):Prop :=
 ∀ (km:List (Addr×Obj)) (s:Shared) (σ:St) (H:Hp) (vs:List V) (us:List Value) (Q:St->Hp->Prop),Inv X km σ H s->zG vs us->t vs σ H Q ->
  wpAny #[li] X.A (assignInOrder ((assignEach ts X.env).map (·.2)) us) (fun _ s'=>∃ σ' H',Inv X km σ' H' s'/\Q σ' H') X.xe s
abbrev TIp:=V->V->Hp->VK->Prop
noncomputable def PIp (X:Cx) (op:Operator) (t:TIp):Prop :=
 ∀ (km:List (Addr×Obj)) (s:Shared) (σ:St) (H:Hp) (x y:V) (v u:Value) (Q:VK),Inv X km σ H s->RelV x v->RelV y u->t x y H Q ->
  wpAny #[li] X.A (inplaceOp op v u) #[Ix] X.xe s
section
variable {X:Cx} {pos:Pos}
noncomputable def zaJ (i:Nat):TG:=fun v σ H Q=>Q (σ.set i #[Lv]) H
theorem zj {i:Nat} {x:Str} (hN:X.N.Nodup) (hi:X.N[i]? = some x) (hx:Loc X.env.scope x) (hf:X.fn x=true\/X.env.scope.names.lookup x=some .local:=by first | exact .inl rfl | exact .inr rfl | assumption):PG X #[Kb] (zaJ i):=by
 intro km s σ H v u Q I r h;exact wpAny_assign_Name (zbz I hN hi hx r (fun s' I'=>⟨_,H,I',h⟩) hf)
noncomputable def ziP:TGs:=fun vs σ H Q=>vs = []/\Q σ H
noncomputable def zde (t:TG) (u:TGs):TGs:=fun vs σ H Q=>∃ v r,vs=v :: r/\t v σ H fun σ' H'=>u r σ' H' Q
theorem zad:PGs X [] ziP:=by
 intro km s σ H vs us Q I r h;obtain⟨e,h⟩:=h;subst e;cases r;exact assignInOrder_nil ⟨σ,H,I,h⟩
theorem zm {e:Expr} {es:List Expr} {t:TG} {u:TGs} (h1:PG X e t) (h2:PGs X es u)
  (hs:(assignEach (e :: es) X.env).map (·.2)=assign e X.env :: #[Jp].map (·.2):=by rfl):PGs X (e :: es) (zde t u):=by
 intro km s σ H vs us Q I r h;obtain⟨v,vr,e1,h⟩:=h;subst e1;cases r with
 | cons r rr =>
  rw [hs];refine assignInOrder_cons (thn (h1 km s σ H _ _ _ I r h) fun _ s1 ⟨σ1,H1,I1,q1⟩=>?_);exact h2 km s1 σ1 H1 _ _ Q I1 rr q1
noncomputable def zhO (K:af) (n:Nat) (t:TGs):TG:=fun v σ H Q=>∃ a xs,v = .ref a/\kJ K H a xs/\xs.length=n/\t xs σ H Q
theorem zbd {es:List Expr} {k:Nat} {t:TGs} {n:Nat} (hc:X.calm=true) (h:PGs X es t)
  (hn:#[Jp].length=n:=by rfl) (nN:#[Jp].findIdx? (·.1)=none:=by rfl):PG X #[MK] (zhO X.K n t):=by
 intro km s σ H v u Q I r hw;obtain⟨a,xs,e1,hq,hl,hw⟩:=hw;subst e1;cases r;obtain⟨kq,rv,ht,hz⟩:=I.tuple hq;refine assign_Tuple_tuple #[IQ] ht (by simp [hn,<- hl,rv.length]) nN fun h' hx=>?_
 have I1:Inv X km σ H { s with heap:=h' }:=I.kept (t':=s.toks) fun b o e=>hx b o (aS (az e)) e
 exact h km _ σ H xs _ Q I1 (by simpa using rv) hw
noncomputable def zd3 (te:TE) (g:TG):TS:=fun D σ H=>te σ H fun x H1=>g x σ H1 D.nx
theorem zcz {tg e:Expr} {te:TE} {g:TG} (he:PE X e te) (hg:PG X tg g) (hs:swapsWithSole [tg] e pos.line X.env=pure false:=by rfl) (hw:swappedStores [tg] e X.env=pure none:=by rfl)
  (h1:(assignEach [tg] X.env).map (·.2) = [assign tg X.env]:=by rfl):PS X (.Assign [tg] e pos) (zd3 te g):=by
 intro km s σ H D I h;refine wpAny_Assign_stores (thn #[IR] fun v s1 ⟨x,H1,I1,r1,q1⟩=>?_) hs hw;rw [h1];exact thn (hg km s1 σ H1 x v _ I1 r1 q1) fun _ s2 q=>q
theorem zn {i:Nat} {x:Str} {e:Expr} {te:TE} {pos':Pos} (hN:X.N.Nodup) (hi:X.N[i]? = some x) (hx:Loc X.env.scope x) (he:PE X e te) (hs:swapsWith e #[MC] pos.line X.env=pure false:=by rfl) (hf:X.fn x=true\/X.env.scope.names.lookup x=some .local:=by first | exact .inl rfl | exact .inr rfl | assumption) :
  PS X (.Assign [.Name x pos'] e pos) (zd3 te (zaJ i)):=by
 intro km s σ H D I h;refine wpAny_Assign_Name (thn #[IR] fun v s1 ⟨y,H1,I1,r1,q1⟩=>?_) hs;exact zbz I1 hN hi hx r1 (fun s2 I2=>⟨_,H1,I2,q1⟩) hf
noncomputable def zmM (i:Nat) (te:TE) (ti:TIp):TS:=fun D σ H=>∃ x,σ[i]? = some (some x)/\te σ H fun y H1=>ti x y H1 fun z H2=>D.nx (σ.set i (some z)) H2
theorem zls {i:Nat} {x:Str} {e:Expr} {te:TE} {op:Operator} {ti:TIp} {pos':Pos} (hN:X.N.Nodup) (hi:X.N[i]? = some x) (hx:Loc X.env.scope x) (he:PE X e te) (ho:PIp X op ti) (hf:X.fn x=true\/X.env.scope.names.lookup x=some .local:=by first | exact .inl rfl | exact .inr rfl | assumption) :
  PS X (.AugAssign #[Jb] op e pos) (zmM i te ti):=by
 intro km s σ H D I h;obtain⟨v,e1,h⟩:=h;obtain⟨m,hn,hl⟩:=I.loc;have vis:Vis X.env.scope x:=by rcases hx with k | k; exact .inl k; exact .inr (.inl k)
 obtain⟨u,r,l⟩:=hl i x v hi e1 vis;refine wpAny_AugAssign_Name ?_;have go:wpAny #[li] X.A #[Me] (fun w s₂=>wpAny #[li] X.A (inplaceOp op u w) (fun r s₃=>wpAny #[li] X.A (storeName X.env x r) (fun _=>SP X km D .next) X.xe s₃) X.xe s₂) X.xe s:=by
  refine thn #[IR] fun w s1 ⟨y,H1,I1,r1,q1⟩=>?_
  refine thn (ho km s1 σ H1 v y u w _ I1 r r1 q1) fun z s2 ⟨zv,H2,I2,r2,q2⟩=>?_
  exact zbz I2 hN hi hx r2 (fun s3 I3=>⟨_,H2,I3,q2⟩) hf
 rcases l with ⟨hk,hm⟩ | ⟨hk,c,hc,nM⟩
 ·exact fh I.ok.kind hk hn hm go
 ·rcases hk with hk | hk
  ·exact iH I.ok.kind hk hc nM go
  ·rcases hx with k | k
   ·have:X.env.scope.names.lookup x=some .free:=hk;rw [k] at this; cases this
   ·have:X.env.scope.names.lookup x=some .free:=hk;rw [k] at this; cases this
noncomputable def ziQ (c:TT) (tb:TS):TS:=fun D σ H=>∃ W:Nat->St->Hp->Prop,(∃ m,W m σ H)/\∀ m σ H,W m σ H ->
 c σ H fun b H1=>if b=true then ∃ N:St->Hp->Prop,(∀ σ' H',N σ' H'->∃ m',m' < m/\W m' σ' H')/\tb { D with nx:=N,ct:=N,bk:=D.nx } σ H1 else D.nx σ H1
theorem ziR {c:Expr} {body:List Stmt} {tc:TT} {tb:TS} (hp:PassesOwn #[li] X.A X.env X.xe) (hc:PT X c tc) (hb:PSs X body tb):PS X (.While c body [] pos) (ziQ tc tb):=by
 intro km s σ H D I h;obtain⟨W,⟨m0,w0⟩,turn⟩:=h;refine wpAny_While (codeAny_whileLoop (fun n s'=>∃ σ' H',Inv X km σ' H' s'/\W n σ' H') ?_ m0 ⟨σ,H,I,w0⟩);rintro n s1 ⟨σ1,H1,I1,w1⟩;refine c9 hp (thn (hc km s1 σ1 H1 _ I1 (turn n σ1 H1 w1)) fun b s2 ⟨H2,I2,q2⟩=>?_);cases b with
 | true =>
  obtain⟨N,hN,q2⟩:=q2;rw [if_pos rfl];refine c9 hp (thn (hb km s2 σ1 H2 _ I2 q2) fun f s3 q3=>?_);cases f with
  | next =>
   obtain⟨σ3,H3,I3,n3⟩:=q3;obtain⟨m',hm,w3⟩:=hN σ3 H3 n3;exact⟨m',hm,σ3,H3,I3,w3⟩
  | cont =>
   obtain⟨σ3,H3,I3,n3⟩:=q3;obtain⟨m',hm,w3⟩:=hN σ3 H3 n3;exact⟨m',hm,σ3,H3,I3,w3⟩
  | brk=>exact q3
  | ret v=>exact q3
 | false =>
  rw [if_neg aO];exact dz ⟨σ1,H2,I2,q2⟩
end
structure It where
 go:Nat->Hp->Prop
 yld:Nat->Hp->V->Hp->Prop
 stop:Nat->Hp->Prop
noncomputable def zbZ (X:Cx) (km:List (Addr×Obj)) (H:Hp) (b:Addr):Prop :=
 H b=none/\b≠X.env.locals/\b∉X.fs/\(b∈X.ex\/X.s₀.heap.objs.size<=b)/\(∀ x c,X.env.cells.lookup x=some c->c≠b)/\∀ p∈X.pn++km,p.1≠b
theorem Inv.GB {σ:St} {b:Addr} (I:Inv X km σ H s) (hb:s.heap.objs.size<=b) (hn:H' b=none):zbZ X km H' b:=by
 refine⟨hn,eh (aN I.lt hb),I.Ij hb,.inr (bh I.sz hb),fun x c e z=>?_,fun p hp z=>?_⟩
 ·obtain⟨v,q⟩:=I.cell x c e;exact absurd (aN q.lt (by rw [z]; exact hb)) (bE _)
 ·exact absurd (aN (az (I.pin p hp).1) (by rw [z]; exact hb)) (bE _)
structure Turn (P:Program) (w:World) (K:af) (tg:Expr) (J:It) (fp:List Addr) (it:Addr) (tn:Nat->Heap->Prop):Prop where
 mem:it∈fp
 obj:∀ i h,tn i h->∀ b∈fp,∃ o,h.get? b=some o/\∀ v,o.data≠.cell v
 keep:∀ i h h',tn i h->(∀ b∈fp,∀ o,h.get? b=some o->h'.get? b=some o)->tn i h'
 item:∀ (X:Cx),X.prog=P->X.w=w->X.K=K->X.calm=true->∀ (i:Nat) (km:List (Addr×Obj)) (s:Shared) (σ:St) (H:Hp) (E:Value->Shared->Prop),Inv X km σ H s->(∀ b∈fp,zbZ X km H b)->tn i s.heap->J.go i H ->
  wpAny #[J4] X.A #[Ky] (fun r s1=>∃ u,r=some u /\
   wpAny #[J4] X.A #[Nr] (fun _ s2=>∃ x H',Inv X km σ H' s2/\RelV x u/\J.yld i H x H'/\tn (i+1) s2.heap/\∀ b∈fp,H' b=none) E s1) E s
 done:∀ (X:Cx),X.prog=P->X.w=w->X.K=K->X.calm=true->∀ (i:Nat) (km:List (Addr×Obj)) (s:Shared) (σ:St) (H:Hp) (E:Value->Shared->Prop),Inv X km σ H s->(∀ b∈fp,zbZ X km H b)->tn i s.heap->J.stop i H ->
  wpAny #[J4] X.A #[Ky] (fun r s1=>r=none/\Inv X km σ H s1) E s
 self:∀ (A:Around) (i:Nat) (s:Shared) (Q:Value->Shared->Prop) (E:Value->Shared->Prop),tn i s.heap->Q #[Jl] s->wpAny #[J4] A (pyIter #[Jl]) Q E s
abbrev TI:=St->Hp->(It->Hp->Prop)->Prop
noncomputable def PIE (X:Cx) (km:List (Addr×Obj)) (σ:St) (tg:Expr) (R:It->Hp->Prop) (vv:Value) (s2:Shared):Prop :=
 ∃ (it:Addr) (fp:List Addr) (tn:Nat->Heap->Prop) (J:It) (H':Hp),vv = .ref it/\Inv X km σ H' s2/\Turn X.prog X.w X.K tg J fp it tn/\tn 0 s2.heap/\(∀ b∈fp,zbZ X km H' b)/\R J H'
noncomputable def PI (X:Cx) (tg iter:Expr) (wi:TI):Prop :=
 ∀ (km:List (Addr×Obj)) (s:Shared) (σ:St) (H:Hp) (R:It->Hp->Prop),Inv X km σ H s->wi σ H R ->
  wpAny #[li] X.A (eval iter X.env) (fun v s1=>wpAny #[li] X.A (pyIter v) (PIE X km σ tg R) X.xe s1) X.xe s
theorem zeg {E:Value->Shared->Prop} {u:Value} {o:Obj} {n:String} {vs:Array Value} {Q:Unit->Shared->Prop} (ho:s.heap.get? it=some o) (hc:o.cls = .type n) (hd:o.data = .fields vs)
  (hn:["enumerate","zip","dict_itemiterator","dict_reverseitemiterator","odict_iterator","itertools.zip_longest","itertools.pairwise"].contains n=false) (hQ:Q () s):wpAny M A #[Nr] Q E s:=by
 unfold letOwnedTupleGo;cases tg <;> first
  | exact ak hQ
  | (cases u <;> first
    | exact ak hQ
    | (refine ae (wpAny_load ho ?_)
       rw [hc,hd];show wpAny M A (if (["enumerate","zip","dict_itemiterator","dict_reverseitemiterator","odict_iterator","itertools.zip_longest","itertools.pairwise"].contains n && vs[0]? == some (rawInt _))=true then _ else _) Q E s;rw [if_neg (by intro h; rw [hn,Bool.false_and] at h; cases h)];exact ak hQ))
noncomputable def Itl (K:af) (a:Addr):It :=
 ⟨fun i H=>∃ xs x,kr K H a xs/\xs[i]? = some x,fun i H x H'=>H'=H/\∀ xs,kr K H a xs->xs[i]? = some x,fun i H=>∃ xs,kr K H a xs/\xs.length<=i⟩
noncomputable def Itt (K:af) (a:Addr):It :=
 ⟨fun i H=>∃ xs x,kJ K H a xs/\xs[i]? = some x,fun i H x H'=>H'=H/\∀ xs,kJ K H a xs->xs[i]? = some x,fun i H=>∃ xs,kJ K H a xs/\xs.length<=i⟩
noncomputable def Itr (lo:Int) (n:Nat):It:=⟨fun i _=>i < n,fun i H x H'=>H'=H/\x = .int (lo+i),fun i _=>n<=i⟩
theorem zeh {K:af} (a it:Addr):Turn P w K tg #[MV] [it] it (fun i h=>h.IsListIter it a i) where
 mem:=by simp
 obj:=fun i h st b hb=>by
  have e:b=it:=by simpa using hb
  subst e;obtain⟨o,e,c,d⟩:=st;exact⟨o,e,fun v z=>by rw [d] at z; cases z⟩
 keep:=fun i h h' st k=>st.at fun o e=>k it #[M] o e
 item:=by
  intro X hP hw hK hc i km s σ H E I hf st hg;subst hP hw hK;obtain⟨xs,x,hq,hx⟩:=hg;obtain⟨kq,rv,p,hz⟩:=I.list hq;obtain⟨u,hu,ru⟩:=rv.get hx;obtain⟨f0,f1,f2,f3,f4,f5⟩:=hf it #[M];refine wpAny_pyNext_list_item st p.isList (x:=u) (by simpa using hu) fun h' ku sb=>?_
  have I1:Inv X km σ H { s with heap:=h' }:=I.turned (t':=s.toks) (fun b o hb e=>(sb.2 b hb).trans e) f0 f1 f3 f4 f5;obtain⟨o,e,c,d⟩:=id ku;exact⟨u,rfl,zeg (s:={ s with heap:=h' }) e c d #[D] ⟨x,H,I1,ru,⟨rfl,fun ys hy=>by rw [I.EI hy hq]; exact hx⟩,ku,fun b hb=>(hf b hb).1⟩⟩
 done:=by
  intro X hP hw hK hc i km s σ H E I hf st hg;subst hP hw hK;obtain⟨xs,hq,hx⟩:=hg;obtain⟨kq,rv,p,hz⟩:=I.list hq;obtain⟨f0,f1,f2,f3,f4,f5⟩:=hf it #[M];have hl:=rv.length;exact wpAny_pyNext_list_end #[IQ] st p.isList (by simp; lia) fun h' eb=>#[pi]
 self:=fun _ _ _ _ _ st h=>wpAny_pyIter_listiter st h
theorem zgB {K:af} (a it:Addr):Turn P w K tg (Itt K a) [it] it (fun i h=>h.IsTupleIter it a i) where
 mem:=by simp
 obj:=fun i h st b hb=>by
  have e:b=it:=by simpa using hb
  subst e;obtain⟨o,e,c,d⟩:=st;exact⟨o,e,fun v z=>by rw [d] at z; cases z⟩
 keep:=fun i h h' st k=>st.at fun o e=>k it #[M] o e
 item:=by
  intro X hP hw hK hc i km s σ H E I hf st hg;subst hP hw hK;obtain⟨xs,x,hq,hx⟩:=hg;obtain⟨kq,rv,p,hz⟩:=I.tuple hq;obtain⟨u,hu,ru⟩:=rv.get hx;obtain⟨f0,f1,f2,f3,f4,f5⟩:=hf it #[M];refine wpAny_pyNext_tuple_item st (show s.heap.IsTuple a kq.toArray from p) (x:=u) (by simpa using hu) fun h' ku sb=>?_
  have I1:Inv X km σ H { s with heap:=h' }:=I.turned (t':=s.toks) (fun b o hb e=>(sb.2 b hb).trans e) f0 f1 f3 f4 f5;obtain⟨o,e,c,d⟩:=id ku;exact⟨u,rfl,zeg (s:={ s with heap:=h' }) e c d #[D] ⟨x,H,I1,ru,⟨rfl,fun ys hy=>by rw [I.FD hy hq]; exact hx⟩,ku,fun b hb=>(hf b hb).1⟩⟩
 done:=by
  intro X hP hw hK hc i km s σ H E I hf st hg;subst hP hw hK;obtain⟨xs,hq,hx⟩:=hg;obtain⟨kq,rv,p,hz⟩:=I.tuple hq;obtain⟨f0,f1,f2,f3,f4,f5⟩:=hf it #[M];have hl:=rv.length;exact wpAny_pyNext_tuple_end #[IQ] st (show s.heap.IsTuple a kq.toArray from p) (by simp; lia) fun h' eb=>#[pi]
 self:=fun _ _ _ _ _ st h=>wpAny_pyIter_tupleiter st h
theorem zgC {K:af} (it:Addr) (lo:Int) (n:Nat):Turn P w K tg (Itr lo n) [it] it (fun i h=>IsRangeIter h it (lo+(i:Nat)*1) ((n:Int) - (i:Nat)) 1) where
 mem:=by simp
 obj:=fun i h st b hb=>by
  have e:b=it:=by simpa using hb
  subst e;exact⟨_,st,fun v z=>by
   have z':jx _=Data.cell v:=z;cases z'⟩
 keep:=fun i h h' st k=>k it #[M] _ st
 item:=by
  intro X hP hw hK hc i km s σ H E I hf st hg;subst hP hw hK;obtain⟨f0,f1,f2,f3,f4,f5⟩:=hf it #[M];have W:=Walks.range (prog:=X.prog) (w:=X.w) #[IQ] it lo 1 n;refine W.item i s _ _ hg st fun v h' tk hv ku kk=>?_
  obtain⟨t,rfl⟩:=hv;have I1:Inv X km σ H { s with heap:=h',toks:=tk }:=I.turned (fun b o hb e=>kk b o (by simpa using hb) e) f0 f1 f3 f4 f5;refine⟨_,rfl,zeg (s:={ s with heap:=h',toks:=tk }) (n:="range_iterator") ku rfl rfl #[D] ⟨.int (lo+i),H,I1,⟨t,?_⟩,⟨rfl,rfl⟩,ku,fun b hb=>(hf b hb).1⟩⟩;rw [Int.mul_one]
 done:=by
  intro X hP hw hK hc i km s σ H E I hf st hg;subst hP hw hK;obtain⟨f0,f1,f2,f3,f4,f5⟩:=hf it #[M];exact wpAny_pyNext_range_end #[IQ] st (by have:n<=i:=hg; lia) fun h' eb=>#[pi]
 self:=fun _ _ _ _ _ st h=>wpAny_pyIter_rangeiter st h
section
variable {X:Cx} {tg:Expr}
noncomputable def zk3 (K:af) (tl:TE):TI:=fun σ H R=>tl σ H fun x H1=>∃ a,x = .ref a/\(∃ xs,kr K H1 a xs)/\R #[MV] H1
theorem zae {l:Expr} {tl:TE} (hl:PE X l tl):PI X tg l (zk3 X.K tl):=by
 intro km s σ H R I h;refine thn #[LA] fun v s1 ⟨x,H1,I1,r1,q1⟩=>?_
 obtain⟨a,e,⟨xs,hq⟩,q⟩:=q1;subst e;cases r1;obtain⟨kq,rv,p,hz⟩:=I1.list hq;refine gf p.isList ?_;refine⟨s1.heap.objs.size,[s1.heap.objs.size],_,_,H1,rfl,I1.kept (t':=s1.toks) fun b o e=>ai _ e,zeh a _,⟨_,aC _ rfl,rfl,rfl⟩,fun b hb=>?_,q⟩;have e:b=s1.heap.objs.size:=by simpa using hb
 subst e;exact I1.GB (ag _) #[II]
theorem zfF {σ:St} {E:Value->Shared->Prop} {lo hi:Int} {t u v:Tok} (I:Inv X km σ H s) (h1:-(2 ^ 62)<=lo) (h2:lo < 2 ^ 62) (h3:-(2 ^ 62)<=hi) (h4:hi < 2 ^ 62)
  (q:R (Itr lo (hi - lo).toNat) H):wpAny #[li] X.A (pyIter #[wf]) (PIE X km σ tg R) E { s with heap:=s.heap.push { cls:=.type "range",data:=.fields #[FB] },toks:=tk }:=by
 refine wpAny_pyIter_range (IsRange.new ..) (small_one h1 h2 h3 h4) ?_;have I1:Inv X km σ H { s with heap:=s.heap.push { cls:=.type "range",data:=.fields #[FB] },toks:=tk }:=I.kept fun b o e=>ai _ e
 refine⟨(s.heap.push { cls:=.type "range",data:=.fields #[FB] }).objs.size,[(s.heap.push { cls:=.type "range",data:=.fields #[FB] }).objs.size],_,_,H,rfl,
  I1.kept (t':=tk) fun b o e=>ai _ e,zgC _ lo (hi - lo).toNat,?_,fun b hb=>?_,q⟩
 ·have e1:lo+((0:Nat):Int)*1=lo:=by simp
  have e2:(((hi - lo).toNat:Nat):Int) - ((0:Nat):Int)=Builtin.Range.rangeSize lo hi 1:=by rw [rangeSize_one]; split <;> lia
  show IsRangeIter _ _ (lo+((0:Nat):Int)*1) ((((hi - lo).toNat:Nat):Int) - ((0:Nat):Int)) 1;rw [e1,e2];exact aC _ rfl
 ·have e:b=(s.heap.push { cls:=.type "range",data:=.fields #[FB] }).objs.size:=by simpa using hb
  subst e;exact I1.GB (ag _) #[II]
noncomputable def zmg (ta:TA):TI:=fun σ H R=>ta σ H fun vs H1=>∃ j:Int,vs = [.int j]/\-(2 ^ 62)<=j/\j < 2 ^ 62/\R (Itr 0 j.toNat) H1
noncomputable def zmh (ta:TA):TI:=fun σ H R=>ta σ H fun vs H1=>∃ i j:Int,vs = [.int i,.int j]/\(-(2 ^ 62)<=i/\i < 2 ^ 62/\-(2 ^ 62)<=j/\j < 2 ^ 62)/\R (Itr i (j - i).toNat) H1
theorem zay {a:Expr} {ta:TA} {p pos:Pos} (hg:Gl X "range") (hm:X.mg "range" = none) (ha:PA X [a] ta) (hs:starEach [a] X.env = [#[Kq]]:=by rfl):PI X tg (.Call (.Name "range" p) [a] [] pos) (zmg ta):=by
 intro km s σ H R I h;refine Call_ (zbH I hg hm jO (cB (thn #[BT] fun us s1 ⟨vs,H1,I1,r1,q1⟩=>?_) hs rfl));obtain⟨j,e,q1,q2,q⟩:=q1;subst e;cases r1 with
 | cons r rr =>
  cases rr;obtain⟨t,rfl⟩:=r;exact call_range_1 (zfF I1 #[O] #[O] q1 q2 (by simpa using q))
theorem zhP {a b:Expr} {ta:TA} {p pos:Pos} (hg:Gl X "range") (hm:X.mg "range" = none) (ha:PA X [a,b] ta) (hs:starEach [a,b] X.env = [#[Kq],#[Ko]]:=by rfl) (qt:starEach [b] X.env = [#[Ko]]:=by rfl) :
  PI X tg (.Call (.Name "range" p) [a,b] [] pos) (zmh ta):=by
 intro km s σ H R I h;refine Call_ (zbH I hg hm jO (cB (thn #[BT] fun us s1 ⟨vs,H1,I1,r1,q1⟩=>?_) (by rw [hs,qt]) (by rw [qt]; rfl)));obtain⟨i,j,e,⟨q1,q2,q3,q4⟩,q⟩:=q1;subst e;cases r1 with
 | cons r rr =>
  cases rr with
  | cons r' rr =>
   cases rr;obtain⟨t,rfl⟩:=r;obtain⟨t',rfl⟩:=r';exact call_range_2 (zfF I1 q1 q2 q3 q4 q)
noncomputable def zmN (wi:TI) (g:TG) (tb:TS):TS:=fun D σ H=>wi σ H fun J H1=>∃ W:Nat->Nat->St->Hp->Prop,(∃ m,W 0 m σ H1)/\∀ i m σ H,W i m σ H ->
 (J.stop i H/\D.nx σ H)\/(J.go i H/\∃ N:St->Hp->Prop,(∀ σ' H',N σ' H'->∃ m',m' < m/\W (i+1) m' σ' H')/\∀ x H',J.yld i H x H'->g x σ H' fun σ2 H2=>tb { D with nx:=N,ct:=N,bk:=D.nx } σ2 H2)
noncomputable def zb0 (fp:List Addr) (h:Heap):List (Addr×Obj):=fp.filterMap fun b=>(h.get? b).map fun o=>(b,o)
theorem zbI {b:Addr} {o:Obj} (hb:b∈fp) (e:h.get? b=some o):(b,o)∈zb0 fp h:=fS.mpr ⟨b,hb,by rw [e]; rfl⟩
theorem zei {p:Addr×Obj} (hp:p∈zb0 fp h):p.1∈fp/\h.get? p.1=some p.2:=by
 obtain⟨b,hb,e⟩:=fS.mp hp;cases q:h.get? b with
 | none=>rw [q] at e; cases e
 | some o =>
  rw [q] at e;have e':(b,o)=p:=aQ e;subst e';exact⟨hb,q⟩
theorem Inv.pinned {σ:St} (I:Inv X km σ H s) (hf:∀ b∈fp,zbZ X km H b) (ho:∀ b∈fp,∃ o,s.heap.get? b=some o/\∀ v,o.data≠.cell v):Inv X (km++zb0 fp s.heap) σ H s :=
 I.Fl fun p hp=>(aR.mp hp).elim (fun z=>I.pin p (aD _ z)) fun z=>by
  obtain⟨hb,e⟩:=zei z;obtain⟨f0,f1,f2,_⟩:=hf p.1 hb;obtain⟨o,e',d⟩:=ho p.1 hb;rw [e] at e'; cases e';exact⟨e,f0,f1,f2,d⟩
theorem Inv.Fi {pl:List (Addr×Obj)} {σ:St} (I:Inv X (km++pl) σ H s):Inv X km σ H s:=I.Fl fun p hp=>I.pin p (aD _ (aJ _ hp))
theorem zaA {iter:Expr} {body:List Stmt} {wi:TI} {g:TG} {tb:TS} {pos:Pos} (hp:PassesOwn #[li] X.A X.env X.xe) (hc:X.calm=true) (hi:PI X tg iter wi) (hg:PG X tg g) (hb:PSs X body tb)
  (hs:∀ x,foldedSetIterable iter X.env x=pure x:=by intro _; rfl):PS X (.For tg iter body [] pos) (zmN wi g tb):=by
 intro km s σ H D I h;refine wpAny_For (thn #[LB] fun v s1 h1=>thn h1 fun vv s2 h2=>?_) hs;obtain⟨it,fp,tn,J,H2,e,I2,T,l6,f2,W,⟨m0,w0⟩,turn⟩:=h2;subst e;have vw:∀ {H':Hp},(∀ b∈fp,H' b=none)->∀ b∈fp,zbZ X km H' b:=fun hn b hb=>⟨hn b hb,(f2 b hb).2⟩
 refine codeAny_forLoop_any (fun n s'=>∃ i σ' H',Inv X km σ' H' s'/\tn i s'.heap/\(∀ b∈fp,H' b=none)/\W i n σ' H') ?_ m0 ⟨0,σ,H2,I2,l6,fun b hb=>(f2 b hb).1,w0⟩;rintro n s3 ⟨i,σ3,H3,I3,vx,fr3,w3⟩;rcases turn i n σ3 H3 w3 with ⟨stop,qn⟩ | ⟨go,N,hN,step⟩
 ·refine c9 hp (thn (T.done X rfl rfl rfl hc i km s3 σ3 H3 X.xe I3 (vw fr3) vx stop) fun r s4 ⟨hr,I4⟩=>?_);subst hr;exact dz ⟨σ3,H3,I4,qn⟩
 ·refine c9 hp (thn (T.item X rfl rfl rfl hc i km s3 σ3 H3 X.xe I3 (vw fr3) vx go) fun r s4 ⟨u,hr,h4⟩=>?_);subst hr;refine c9 hp (thn h4 fun _ s5 ⟨x,H5,I5,r5,y5,wL,fr5⟩=>?_);have I5':=I5.pinned (vw fr5) (T.obj _ _ wL);refine c9 hp (thn (hg _ s5 σ3 H5 x u _ I5' r5 (step x H5 y5)) fun _ s6 ⟨σ6,H6,I6,q6⟩=>?_);refine c9 hp (thn (hb _ s6 σ6 H6 _ I6 q6) fun f s7 q7=>?_);have again:∀ {σ7:St} {H7:Hp},Inv X (km++zb0 fp s5.heap) σ7 H7 s7->N σ7 H7->∃ m,m < n/\∃ i σ' H',Inv X km σ' H' s7/\tn i s7.heap/\(∀ b∈fp,H' b=none)/\W i m σ' H':=fun {σ7 H7} I7 n7=>by
   obtain⟨m',hm,w7⟩:=hN σ7 H7 n7;refine⟨m',hm,i+1,σ7,H7,I7.Fi,T.keep _ _ _ wL fun b hb o e=>(I7.pin (b,o) #[JN]).1,fun b hb=>?_,w7⟩;obtain⟨o,e,d⟩:=T.obj _ _ wL b hb;exact (I7.pin (b,o) #[JN]).2.1
  cases f with
  | next=>obtain⟨σ7,H7,I7,n7⟩:=q7; exact again I7 n7
  | cont=>obtain⟨σ7,H7,I7,n7⟩:=q7; exact again I7 n7
  | brk=>obtain⟨σ7,H7,I7,q7⟩:=q7; exact⟨σ7,H7,I7.Fi,q7⟩
  | ret v=>obtain⟨x7,σ7,H7,I7,r7,q7⟩:=q7; exact⟨x7,σ7,H7,I7.Fi,r7,q7⟩
end
theorem ziS {K:af} {a:Addr} {xs:List V} {g:TG} {tb:TS} {D:Ends} {σ:St} (Pv:Nat->St->Hp->Prop) (h0:Pv 0 σ H) (hl:∀ i σ H,i<=xs.length->Pv i σ H->kr K H a xs)
  (hs:∀ i x σ H,xs[i]? = some x->Pv i σ H->g x σ H fun σ2 H2=>tb { D with nx:=Pv (i+1),ct:=Pv (i+1),bk:=D.nx } σ2 H2) (hd:∀ σ H,Pv xs.length σ H->D.nx σ H) :
  ∃ W:Nat->Nat->St->Hp->Prop,(∃ m,W 0 m σ H)/\∀ i m σ H,W i m σ H ->
   (#[MV].stop i H/\D.nx σ H)\/(#[MV].go i H/\∃ N:St->Hp->Prop,(∀ σ' H',N σ' H'->∃ m',m' < m/\W (i+1) m' σ' H')/\∀ x H',#[MV].yld i H x H'->g x σ H' fun σ2 H2=>tb { D with nx:=N,ct:=N,bk:=D.nx } σ2 H2):=by
 refine⟨fun i m σ H=>m=xs.length - i/\i<=xs.length/\Pv i σ H,⟨xs.length,#[M],bg _,h0⟩,?_⟩;rintro i m σ H ⟨rfl,hi,p⟩;have q:=hl i σ H hi p;by_cases kU:i < xs.length
 ·refine .inr ⟨⟨xs,xs[i],q,by simp [kU]⟩,Pv (i+1),fun σ' H' p'=>⟨xs.length - (i+1),#[O],rfl,kU,p'⟩,fun x H' y=>?_⟩;obtain⟨e,y⟩:=y;subst e;exact hs i x σ _ (y xs q) p
 ·have e:i=xs.length:=by lia
  subst e;exact .inl ⟨⟨xs,q,ag _⟩,hd σ H p⟩
theorem zkf {K:af} {a:Addr} {xs:List V} {g:TG} {tb:TS} {D:Ends} {σ:St} (Pv:Nat->St->Hp->Prop) (h0:Pv 0 σ H) (hl:∀ i σ H,i<=xs.length->Pv i σ H->kJ K H a xs)
  (hs:∀ i x σ H,xs[i]? = some x->Pv i σ H->g x σ H fun σ2 H2=>tb { D with nx:=Pv (i+1),ct:=Pv (i+1),bk:=D.nx } σ2 H2) (hd:∀ σ H,Pv xs.length σ H->D.nx σ H) :
  ∃ W:Nat->Nat->St->Hp->Prop,(∃ m,W 0 m σ H)/\∀ i m σ H,W i m σ H ->
   ((Itt K a).stop i H/\D.nx σ H)\/((Itt K a).go i H/\∃ N:St->Hp->Prop,(∀ σ' H',N σ' H'->∃ m',m' < m/\W (i+1) m' σ' H')/\∀ x H',(Itt K a).yld i H x H'->g x σ H' fun σ2 H2=>tb { D with nx:=N,ct:=N,bk:=D.nx } σ2 H2):=by
 refine⟨fun i m σ H=>m=xs.length - i/\i<=xs.length/\Pv i σ H,⟨xs.length,#[M],bg _,h0⟩,?_⟩;rintro i m σ H ⟨rfl,hi,p⟩;have q:=hl i σ H hi p;by_cases kU:i < xs.length
 ·refine .inr ⟨⟨xs,xs[i],q,by simp [kU]⟩,Pv (i+1),fun σ' H' p'=>⟨xs.length - (i+1),#[O],rfl,kU,p'⟩,fun x H' y=>?_⟩;obtain⟨e,y⟩:=y;subst e;exact hs i x σ _ (y xs q) p
 ·have e:i=xs.length:=by lia
  subst e;exact .inl ⟨⟨xs,q,ag _⟩,hd σ H p⟩
theorem zhQ {lo:Int} {n:Nat} {g:TG} {tb:TS} {D:Ends} {σ:St} (Pv:Nat->St->Hp->Prop) (h0:Pv 0 σ H)
  (hs:∀ i σ H,i < n->Pv i σ H->g (.int (lo+i)) σ H fun σ2 H2=>tb { D with nx:=Pv (i+1),ct:=Pv (i+1),bk:=D.nx } σ2 H2) (hd:∀ σ H,Pv n σ H->D.nx σ H) :
  ∃ W:Nat->Nat->St->Hp->Prop,(∃ m,W 0 m σ H)/\∀ i m σ H,W i m σ H ->
   ((Itr lo n).stop i H/\D.nx σ H)\/((Itr lo n).go i H/\∃ N:St->Hp->Prop,(∀ σ' H',N σ' H'->∃ m',m' < m/\W (i+1) m' σ' H')/\∀ x H',(Itr lo n).yld i H x H'->g x σ H' fun σ2 H2=>tb { D with nx:=N,ct:=N,bk:=D.nx } σ2 H2):=by
 refine⟨fun i m σ H=>m=n - i/\i<=n/\Pv i σ H,#[KU],?_⟩;rintro i m σ H ⟨rfl,hi,p⟩;by_cases kU:i < n
 ·refine .inr ⟨kU,Pv (i+1),fun σ' H' p'=>⟨n - (i+1),#[O],rfl,kU,p'⟩,fun x H' y=>?_⟩;obtain⟨e,y⟩:=y;subst e y;exact hs i σ _ kU p
 ·have e:i=n:=by lia
  subst e;exact .inl ⟨ag _,hd σ H p⟩
theorem ziT {c:TT} {tb:TS} {D:Ends} {σ:St} (Pv:St->Hp->Prop) (μ:St->Hp->Nat) (h0:Pv σ H)
  (hs:∀ σ H,Pv σ H->c σ H fun b H1=>if b=true then tb { D with nx:=fun σ' H'=>Pv σ' H'/\μ σ' H' < μ σ H,ct:=fun σ' H'=>Pv σ' H'/\μ σ' H' < μ σ H,bk:=D.nx } σ H1 else D.nx σ H1)
  (mono:∀ σ H Q Q',(∀ b H1,Q b H1->Q' b H1)->c σ H Q->c σ H Q'):ziQ c tb D σ H:=by
 refine⟨fun m σ H=>m=μ σ H/\Pv σ H,⟨_,rfl,h0⟩,?_⟩;rintro m σ H ⟨rfl,p⟩;refine mono σ H _ _ (fun b H1 q=>?_) (hs σ H p);cases b with
 | true=>exact⟨_,fun σ' H' ⟨p',l⟩=>⟨_,l,rfl,p'⟩,q⟩
 | false=>exact q
abbrev R2:=V->V->Hp->VK->Prop
noncomputable def OpR (X:Cx) (f:Value->Value->Sem Value) (r:R2):Prop :=
 ∀ (km:List (Addr×Obj)) (s:Shared) (σ:St) (H:Hp) (x y:V) (v u:Value) (Q:VK),Inv X km σ H s->RelV x v->RelV y u->r x y H Q ->
  wpAny #[li] X.A (f v u) #[Ix] X.xe s
noncomputable def za8 (X:Cx) (f:Value) (r:List V->Hp->VK->Prop):Prop :=
 ∀ (km:List (Addr×Obj)) (s:Shared) (σ:St) (H:Hp) (xs:List V) (us:List Value) (Q:VK),Inv X km σ H s->zG xs us->r xs H Q ->
  wpAny #[li] X.A (call f us) #[Ix] X.xe s
noncomputable def tOp (r:R2) (ta tb:TE):TE:=fun σ H Q=>ta σ H fun x H1=>tb σ H1 fun y H2=>r x y H2 Q
noncomputable def rI (C:Int->Int->Prop) (g:Int->Int->V):R2:=fun x y H Q=>∃ i j,x = .int i/\y = .int j/\C i j/\Q (g i j) H
noncomputable def rI0 (g:Int->Int->V):R2:=fun x y H Q=>∃ i j,x = .int i/\y = .int j/\Q (g i j) H
section
variable {X:Cx} {a b c:Expr} {ta tb tc:TE} {pos:Pos}
theorem zmi (ha:PE X a ta) (hb:PE X b tb) {σ:St} {R:V->V->Hp->Prop} (I:Inv X km σ H s)
  (h:ta σ H fun x H1=>tb σ H1 fun y H2=>R x y H2) {Q:Value->Shared->Prop} {f:Value->Value->Sem Value}
  (hf:∀ v u s2 x y H2,Inv X km σ H2 s2->RelV x v->RelV y u->R x y H2->wpAny #[li] X.A (f v u) Q X.xe s2) :
  wpAny #[li] X.A (eval a X.env) (fun v s₁=>wpAny #[li] X.A (eval b X.env) (fun u s₂=>wpAny #[li] X.A (f v u) Q X.xe s₂) X.xe s₁) X.xe s:=by
 refine thn #[Iu] fun v s1 ⟨x,H1,I1,r1,q1⟩=>?_
 refine thn #[KM] fun u s2 ⟨y,H2,I2,r2,q2⟩=>?_
 exact hf v u s2 x y H2 I2 r1 r2 q2
theorem zi {op:Operator} {r:R2} (ho:OpR X (binaryOp op) r) (ha:PE X a ta) (hb:PE X b tb):PE X (.BinOp a op b pos) (tOp r ta tb):=by
 intro km s σ H Q I h;exact wpAny_BinOp (zmi ha hb I h fun v u s2 x y H2 I2 rx ry q=>ho km s2 σ H2 x y v u Q I2 rx ry q)
theorem opI {f:Value->Value->Sem Value} {C:Int->Int->Prop} {g:Int->Int->Int}
  (rule:∀ (i j:Int) (t u:Tok) (s:Shared) (Q:Value->Shared->Prop) (E:Value->Shared->Prop),C i j->Q (.int (g i j) s.toks) { s with toks:=s.toks+1 }->wpAny #[li] X.A #[KZ] Q E s) :
  OpR X f (rI C fun i j=>.int (g i j)):=by
 intro km s σ H x y v u Q I rx ry h;obtain⟨i,j,rfl,rfl,hc,q⟩:=h;obtain⟨t,rfl⟩:=rx;obtain⟨t',rfl⟩:=ry;exact rule i j t t' s _ _ hc #[MP]
theorem zmj {f:Value->Value->Sem Value} {g:Int->Int->Int}
  (rule:∀ (i j:Int) (t u:Tok) (s:Shared) (Q:Value->Shared->Prop) (E:Value->Shared->Prop),Q (.int (g i j) s.toks) { s with toks:=s.toks+1 }->wpAny #[li] X.A #[KZ] Q E s) :
  OpR X f (rI0 fun i j=>.int (g i j)):=by
 intro km s σ H x y v u Q I rx ry h;obtain⟨i,j,rfl,rfl,q⟩:=h;obtain⟨t,rfl⟩:=rx;obtain⟨t',rfl⟩:=ry;exact rule i j t t' s _ _ #[MP]
theorem zkg {f:Value->Value->Sem Value} {g:Int->Int->Bool}
  (rule:∀ (i j:Int) (t u:Tok) (s:Shared) (Q:Value->Shared->Prop) (E:Value->Shared->Prop),Q (.bool (g i j)) s->wpAny #[li] X.A #[KZ] Q E s) :
  OpR X f (rI0 fun i j=>.bl (g i j)):=by
 intro km s σ H x y v u Q I rx ry h;obtain⟨i,j,rfl,rfl,q⟩:=h;obtain⟨t,rfl⟩:=rx;obtain⟨t',rfl⟩:=ry;exact rule i j t t' s _ _ ⟨.bl (g i j),H,I,rfl,q⟩
noncomputable def zmk (i j:Int):Prop:=0 < j/\j < 1073741824
noncomputable def zmO (i j:Int):Prop:=0<=j/\j<=1000000/\i.natAbs < 2 ^ 64
noncomputable def zlt (i j:Int):Prop:=(-(2 ^ 64) < i/\i < 2 ^ 64)\/(-(2 ^ 64) < j/\j < 2 ^ 64)
theorem zlt.ok {i j:Int} (h:zlt i j):IntMulOk i j:=by
 rcases h with ⟨h1,h2⟩ | ⟨h1,h2⟩
 ·exact .of_left (intBits_le_64 h1 h2)
 ·exact .of_right (intBits_le_64 h1 h2)
theorem zK:OpR X #[LI] (rI0 fun i j=>.int (i+j)):=zmj fun _ _ _ _ _ _ _ q=>add_int q
theorem zbe:OpR X (binaryOp .Sub) (rI0 fun i j=>.int (i - j)):=zmj fun _ _ _ _ _ _ _ q=>sub_int q
theorem zZ:OpR X (binaryOp .Mult) (rI zlt fun i j=>.int (i*j)):=opI fun _ _ _ _ _ _ _ hc q=>mul_int q hc.ok
theorem zeU:OpR X (binaryOp .FloorDiv) (rI zmk fun i j=>.int (i / j)):=opI fun i j _ _ _ _ _ hc q=>by
 have h1:(0:Int) < j:=hc.1;have h2:j < 1073741824:=hc.2;exact floordiv_int #[O] (by rw [f' i #[O]]; exact q) (.inl (gP #[O]))
theorem zF:OpR X (binaryOp .Mod) (rI (fun _ j=>0 < j) fun i j=>.int (i % j)):=opI fun i j _ _ _ _ _ hc q=>by
 have h1:(0:Int) < j:=hc;exact mod_int' #[O] (by rw [Int.fmod_eq_emod_of_nonneg i #[O]]; exact q)
theorem zlu:OpR X (binaryOp .Pow) (rI zmO fun i j=>.int (i ^ j.toNat)):=opI fun _ _ _ _ _ _ _ hc q=>pow_int_small hc.1 hc.2.1 hc.2.2 q
theorem ziU:OpR X (inplaceOp .FloorDiv) (rI zmk fun i j=>.int (i / j)):=opI fun i j _ _ _ _ _ hc q=>by
 have h1:(0:Int) < j:=hc.1;have h2:j < 1073741824:=hc.2;exact ifloordiv_int #[O] (by rw [f' i #[O]]; exact q) (.inl (gP #[O]))
end
noncomputable def zml:V->V->Bool
 | .non,.non=>true | .non,.int _=>true | .int _,.non=>true | .non,.bl _=>true | .bl _,.non=>true | .non,.str _=>true | .str _,.non=>true
 | .int _,.int _=>true | .bl _,.bl _=>true | .str _,.str _=>true | .byt _,.byt _=>true
 | .int _,.str _=>true | .str _,.int _=>true | .bl _,.str _=>true | .str _,.bl _=>true
 | _,_=>false
noncomputable def rEq:R2:=fun x y H Q=>zml x y=true/\Q (.bl (decide (x=y))) H
noncomputable def rNe:R2:=fun x y H Q=>zml x y=true/\Q (.bl (!decide (x=y))) H
theorem zg8 {i j:Int}:decide (V.int i=V.int j)=(i == j):=by
 rw [db];simp
theorem ziV {i j:Bool}:decide (V.bl i=V.bl j)=(i == j):=by
 rw [db];simp
theorem zg9 {i j:Str}:decide (V.str i=V.str j)=(i == j):=by
 rw [db];simp
theorem zha {i j:Array UInt8}:decide (V.byt i=V.byt j)=(i.toList == j.toList):=by
 rw [db];cases i;cases j;simp
section
variable {X:Cx} {a b c:Expr} {ta tb tc:TE} {pos:Pos}
theorem z5 {σ:St} {Q:VK} {k k':Bool} (I:Inv X km σ H s) (q:Q (.bl k) H) (e:k=k'):EP X km σ Q (.bool k') s:=by
 subst e;exact⟨.bl k,H,I,rfl,q⟩
theorem zdF:OpR X (compareOp .Eq) rEq:=by
 intro km s σ H x y v u Q I rx ry h;obtain⟨hs,q⟩:=h;cases x with
 | non =>
  cases rx;cases y with
  | non=>cases ry; exact PySem.EqNone.eq_none_none #[AT]
  | bl j=>cases ry; exact PySem.EqNone.eq_none_bool #[AT]
  | int j=>obtain⟨t',rfl⟩:=ry; exact PySem.EqNone.eq_none_int #[AT]
  | str j=>obtain⟨t',rfl⟩:=ry; exact PySem.EqNone.eq_none_str #[AT]
  | _=>exact absurd (show false=true from hs) aO
 | bl i =>
  cases rx;cases y with
  | non=>cases ry; exact PySem.EqNone.eq_bool_none #[AT]
  | bl j=>cases ry; exact eq_bool (z5 I q ziV)
  | str j=>obtain⟨t',rfl⟩:=ry; exact PySem.EqMixed.eq_bool_str #[AT]
  | _=>exact absurd (show false=true from hs) aO
 | int i =>
  obtain⟨t,rfl⟩:=rx;cases y with
  | non=>cases ry; exact PySem.EqNone.eq_int_none #[AT]
  | int j=>obtain⟨t',rfl⟩:=ry; exact eq_int (z5 I q zg8)
  | str j=>obtain⟨t',rfl⟩:=ry; exact PySem.EqMixed.eq_int_str #[AT]
  | _=>exact absurd (show false=true from hs) aO
 | str i =>
  obtain⟨t,rfl⟩:=rx;cases y with
  | non=>cases ry; exact PySem.EqNone.eq_str_none #[AT]
  | bl j=>cases ry; exact PySem.EqMixed.eq_str_bool #[AT]
  | int j=>obtain⟨t',rfl⟩:=ry; exact PySem.EqMixed.eq_str_int #[AT]
  | str j=>obtain⟨t',rfl⟩:=ry; exact eq_str (z5 I q zg9)
  | _=>exact absurd (show false=true from hs) aO
 | byt i =>
  obtain⟨t,rfl⟩:=rx;cases y with
  | byt j=>obtain⟨t',rfl⟩:=ry; exact PySem.W.eq_bytes (z5 I q zha)
  | _=>exact absurd (show false=true from hs) aO
 | _=>cases y <;> exact absurd (show false=true from hs) aO
theorem zfG:OpR X (compareOp .NotEq) rNe:=by
 intro km s σ H x y v u Q I rx ry h;obtain⟨hs,q⟩:=h;cases x with
 | non =>
  cases rx;cases y with
  | non=>cases ry; exact PySem.EqNone.ne_none_none #[AT]
  | bl j=>cases ry; exact PySem.EqNone.ne_none_bool #[AT]
  | int j=>obtain⟨t',rfl⟩:=ry; exact PySem.EqNone.ne_none_int #[AT]
  | str j=>obtain⟨t',rfl⟩:=ry; exact PySem.EqNone.ne_none_str #[AT]
  | _=>exact absurd (show false=true from hs) aO
 | bl i =>
  cases rx;cases y with
  | non=>cases ry; exact PySem.EqNone.ne_bool_none #[AT]
  | bl j=>cases ry; exact ne_bool (z5 I q (congrArg not ziV))
  | str j=>obtain⟨t',rfl⟩:=ry; exact PySem.EqMixed.ne_bool_str #[AT]
  | _=>exact absurd (show false=true from hs) aO
 | int i =>
  obtain⟨t,rfl⟩:=rx;cases y with
  | non=>cases ry; exact PySem.EqNone.ne_int_none #[AT]
  | int j=>obtain⟨t',rfl⟩:=ry; exact ne_int (z5 I q (congrArg not zg8))
  | str j=>obtain⟨t',rfl⟩:=ry; exact PySem.EqMixed.ne_int_str #[AT]
  | _=>exact absurd (show false=true from hs) aO
 | str i =>
  obtain⟨t,rfl⟩:=rx;cases y with
  | non=>cases ry; exact PySem.EqNone.ne_str_none #[AT]
  | bl j=>cases ry; exact PySem.EqMixed.ne_str_bool #[AT]
  | int j=>obtain⟨t',rfl⟩:=ry; exact PySem.EqMixed.ne_str_int #[AT]
  | str j=>obtain⟨t',rfl⟩:=ry; exact ne_str (z5 I q (congrArg not zg9))
  | _=>exact absurd (show false=true from hs) aO
 | byt i =>
  obtain⟨t,rfl⟩:=rx;cases y with
  | byt j=>obtain⟨t',rfl⟩:=ry; exact PySem.W.ne_bytes (z5 I q (congrArg not zha))
  | _=>exact absurd (show false=true from hs) aO
 | _=>cases y <;> exact absurd (show false=true from hs) aO
theorem zej:OpR X (compareOp .Lt) (rI0 fun i j=>.bl (decide (i < j))):=zkg fun _ _ _ _ _ _ _ q=>lt_int q
theorem ziW:OpR X (compareOp .LtE) (rI0 fun i j=>.bl (decide (i<=j))):=zkg fun _ _ _ _ _ _ _ q=>le_int q
theorem zhb:OpR X (compareOp .Gt) (rI0 fun i j=>.bl (decide (j < i))):=zkg fun _ _ _ _ _ _ _ q=>gt_int q
theorem zhc:OpR X (compareOp .GtE) (rI0 fun i j=>.bl (decide (j<=i))):=zkg fun _ _ _ _ _ _ _ q=>ge_int q
theorem z7 (b:Expr) {op:CmpOp} (h:op≠.In:=by decide) (h2:op≠.NotIn:=by decide):behindInMarks op b=false:=by
 have e1:(op == CmpOp.In)=false:=by cases op <;> first | rfl | exact absurd rfl h
 have e2:(op == CmpOp.NotIn)=false:=by cases op <;> first | rfl | exact absurd rfl h2
 cases b <;> simp [behindInMarks,e1,e2]
noncomputable def zk4 (t:TE):TT:=fun σ H Q=>t σ H fun x H'=>∃ k,x = .bl k/\Q k H'
theorem zH {op:CmpOp} {r:R2} (ho:OpR X (compareOp op) r) (ha:PE X a ta) (hb:PE X b tb) (hm:behindInMarks op b=false):PT X (.Compare a [op] [b] pos) (zk4 (tOp r ta tb)):=by
 intro km s σ H Q I h;refine wpAny_isTrue_Compare1 (thn #[Iu] fun v s1 ⟨x,H1,I1,r1,q1⟩=>thn #[KM] fun u s2 ⟨y,H2,I2,r2,q2⟩ =>
  thn #[Lb] fun c s3 ⟨z,H3,I3,r3,k,e,q3⟩=>?_) hm
 subst e;cases r3;exact dh ⟨H3,I3,q3⟩
noncomputable def zlv (r r':R2) (ta tb tc:TE):TE:=fun σ H Q=>ta σ H fun x H1=>tb σ H1 fun y H2=>r x y H2 fun z H3=>∃ k,z = .bl k /\
 (if k=true then tc σ H3 fun w' H4=>r' y w' H4 Q else Q (.bl false) H3)
theorem ziX {op Bc:CmpOp} {r r':R2} (ho:OpR X (compareOp op) r) (qm:OpR X (compareOp Bc) r') (ha:PE X a ta) (hb:PE X b tb) (hc:PE X c tc)
  (hm:lastMarks [op,Bc] [b,c]=false:=by with_unfolding_all rfl):PT X (.Compare a [op,Bc] [b,c] pos) (zk4 (zlv r r' ta tb tc)):=by
 intro km s σ H Q I h;refine isTrue_chain (thn #[Iu] fun v s1 ⟨x,H1,I1,r1,q1⟩=>test_link (thn #[KM] fun u s2 ⟨y,H2,I2,r2,q2⟩ =>
  thn #[Lb] fun d s3 ⟨z,H3,I3,r3,k,e,q3⟩=>?_)) hm
 subst e;cases r3;refine dh ?_;cases k with
 | false =>
  obtain⟨k',e',q'⟩:=q3;cases e';exact ite_ff ⟨H3,I3,q'⟩
 | true =>
  refine ite_tt (test_last (thn (hc km s3 σ H3 _ I3 q3) fun w' s4 ⟨z',H4,I4,r4,q4⟩=>thn (qm km s4 σ H4 y z' u w' _ I4 r2 r4 q4) fun d' s5 ⟨z2,H5,I5,r5,k2,e2,q5⟩=>?_));subst e2;cases r5;exact dh ⟨H5,I5,q5⟩
theorem zgD:(sizeLine:Nat) < 2 ^ 63:=by rw [be]; decide
theorem vals1 {x:V} (r:zG [x] us):∃ u,us = [u]/\RelV x u:=by
 cases r with
 | cons r1 r2=>cases r2; exact⟨_,rfl,r1⟩
theorem vals2 {x:V} (r:zG [x,y] us):∃ u w',us = [u,w']/\RelV x u/\RelV y w':=by
 cases r with
 | cons r1 r2 =>
  cases r2 with
  | cons r3 r4=>cases r4; exact⟨_,_,rfl,r1,r3⟩
theorem zce (hc:X.calm=true):za8 X (.builtin "max") (fun xs H Q=>∃ i j,xs = [.int i,.int j]/\Q (.int (if j > i then j else i)) H):=by
 intro km s σ H xs us Q I r h;obtain⟨i,j,rfl,q⟩:=h;obtain⟨u,w',rfl,⟨t,rfl⟩,⟨t',rfl⟩⟩:=vals2 r;refine max_two_ints #[IQ] fun h' tk k=>⟨_,H,I.kept k,?_,q⟩
 by_cases hj:j > i
 ·rw [if_pos hj,if_pos hj]; exact⟨_,rfl⟩
 ·rw [if_neg hj,if_neg hj]; exact⟨_,rfl⟩
theorem zek (hc:X.calm=true):za8 X (.builtin "min") (fun xs H Q=>∃ i j,xs = [.int i,.int j]/\Q (.int (if j < i then j else i)) H):=by
 intro km s σ H xs us Q I r h;obtain⟨i,j,rfl,q⟩:=h;obtain⟨u,w',rfl,⟨t,rfl⟩,⟨t',rfl⟩⟩:=vals2 r;refine min_two_ints #[IQ] fun h' tk k=>⟨_,H,I.kept k,?_,q⟩
 by_cases hj:j < i
 ·rw [if_pos hj,if_pos hj]; exact⟨_,rfl⟩
 ·rw [if_neg hj,if_neg hj]; exact⟨_,rfl⟩
end
structure Ie (h:Heap) (x dx C:Addr) (mA:Str->Option Value):Prop where
 obj:h.get? x=some (gH C dx)
 ns:h.Ns1 dx mA
 ne:dx≠x
theorem zhR {dx:Addr} {mA:Str->Option Value} (n:h.Ns1 dx mA):∃ od,h.get? dx=some od/\∀ name,g8 name od=some (mA name):=by
 obtain⟨o,es,ep,ho,hd,hk,_,hm⟩:=n;refine⟨o,ho,fun name=>?_⟩;have e:=hm name;unfold nsFind findBy at e;rw [<- Array.find?_toList] at e;unfold g8;rw [hd];dsimp only;split
 ·rename_i y q
  rw [q] at e;exact congrArg some e
 ·rename_i q
  rw [q] at e;have a:es.toList.any (·.refKey)=false:=by
   rw [List.any_eq_false];intro y hy;obtain⟨z,t,nh⟩:=hk y (Array.mem_toList_iff.mp hy);simp [DictEntry.refKey,nh]
  have a':¬ es.toList.any (·.refKey)=true:=by rw [a]; exact aO
  rw [if_neg a'];exact congrArg some e
theorem Ie.look {x dx:Addr} {mA:Str->Option Value} (I:Ie h x dx C mA):∃ od,PySem.W.InstAt h x (gH C dx) C (some od)/\∀ name,g8 name od=some (mA name) :=
 let ⟨od,ho,hl⟩:=zhR I.ns
 ⟨od,⟨I.obj,rfl,rfl,ho⟩,hl⟩
theorem zc6.some_of {o:Option Value} (r:zc6 #[Lv] o):∃ u,o=some u/\RelV v u:=by
 cases o with
 | none=>exact (show False from r).elim
 | some u=>exact⟨u,rfl,r⟩
section
variable {P:Program} {w:World} {H H':Hp} {h h':Heap} {a C dx:Addr} {fs fs':List (Str×V)}
theorem zkh (hok:HOk P w H h) (e:H a=some (.ins C dx fs)):∃ mA,Ie h a dx C mA/\(∀ f,zc6 (fs.lookup f) (mA f))/\ka mA (fs.map (·.1))/\fs.length<=1000/\H dx=some (.own a):=by
 obtain⟨d,z,ne,ob,mA,n,r,q⟩:=(show z6 P w H h a (.ins C dx fs) from hok a _ e);exact⟨mA,⟨ob,n,ne⟩,r,q,z,d⟩
end
structure Cls (K:af) (C:Addr):Prop where
 pg:jA K C Str.empty=true
 hd:PySem.W.hasDictIn K C=true
 po:PySem.W.plainOver K C=true
 sa:bY K #[IE] "__setattr__" = some (some (.builtin "object.__setattr__"))
theorem Cls.get {K:af} (c:Cls K C) (f:Str):jA K C f=true:=c.pg
section
variable {X:Cx} {km:List (Addr×Obj)} {σ:St} {H:Hp} {s:Shared} {A:Around} {E:Value->Shared->Prop} {Q:Value->Shared->Prop} {c:Value} {b:Bool}
inductive Gj (K:af) (H:Hp):V->Value->Prop where
 | non:Gj K H .non (.type "NoneType")
 | bl (x:Bool):Gj K H (.bl x) (.type "bool")
 | int (i:Int):Gj K H (.int i) (.type "int")
 | str (x:Str):Gj K H (.str x) (.type "str")
 | flt (x:UInt64):Gj K H (.flt x) (.type "float")
 | lst {a:Addr} {xs:List V} (e:H a=some #[JS]):Gj K H #[IT] (.type "list")
 | frz {a:Addr} {o:Obj} {xs:List V} (e:H a=some (.frz o #[JS])):Gj K H #[IT] (.type "list")
 | tup {a:Addr} {xs:List V} (e:H a=some #[J3]):Gj K H #[IT] (.type "tuple")
 | dK {a:Addr} {kvs:List (Key×V)} (e:H a=some #[Lg]):Gj K H #[IT] (.type "dict")
 | dT {a:Addr} {kvs:List (List Key×V)} (e:H a=some #[IL]):Gj K H #[IT] (.type "dict")
 | ins {a C dx:Addr} {fs:List (Str×V)} (e:H a=some (.ins C dx fs)) (cl:Cls K C) (ha:bY K #[IE] "__class__" = some (some (.builtin "object.__class__")))
   (hn:PySem.W.specialIn K (.builtin "object.__class__") "__get__" = some (some (.builtin "getset_descriptor.__get__"))) (sm:PySem.W.takesIn K (.builtin "object.__class__")=some true)
   (hm:bI K C (.type "object")=some true):Gj K H #[IT] #[IE]
theorem zhS {x:V} {u t:Value} (I:Inv X km σ H s) (rx:RelV x u) (ty:Gj X.K H x t) (e:a8 X.K t c=some b) (h:∀ tk,Q (.bool b) { s with toks:=tk }) :
  wpAny #[li] A (call (.builtin "isinstance") [u,c]) Q E s:=by
 cases ty with
 | non=>cases (show u=cD from rx); exact bJ PySem.W.kitx_none I.kIn dA e (fun z=>nomatch z) h
 | bl y=>cases (show u=eC y from rx); exact bJ PySem.W.kitx_bool I.kIn dA e (fun z=>nomatch z) h
 | int i=>obtain⟨t,q⟩:=(show ∃ t,u=fQ i t from rx); cases q; exact bJ PySem.W.kitx_int I.kIn dA e (fun z=>nomatch z) h
 | str y=>obtain⟨t,q⟩:=(show ∃ t,u=iR y t from rx); cases q; exact bJ PySem.W.kitx_str I.kIn dA e (fun z=>nomatch z) h
 | flt y=>obtain⟨t,q⟩:=(show ∃ t,u=Value.float y t from rx); cases q; exact bJ PySem.W.kitx_float I.kIn dA e (fun z=>nomatch z) h
 | @lst a xs ea =>
  cases (show u=aP a from rx);obtain⟨_,_,n,_,h1⟩:=(show z6 X.prog X.w H s.heap a #[JS] from I.hok a _ ea);exact bJ jj I.kIn ⟨_,h1,rfl⟩ e (fun z=>nomatch z) h
 | @frz a ob xs ea =>
  cases (show u=aP a from rx);obtain⟨_,_,_,n,_,h1⟩:=(show z6 X.prog X.w H s.heap a (.frz ob #[JS]) from I.hok a _ ea);exact bJ jj I.kIn ⟨_,h1,rfl⟩ e (fun z=>nomatch z) h
 | @tup a xs ea =>
  cases (show u=aP a from rx);obtain⟨_,_,_,p⟩:=(show z6 X.prog X.w H s.heap a #[J3] from I.hok a _ ea);obtain⟨o,h1,h2,_⟩:=p;exact bJ PySem.W.kitx_tuple I.kIn ⟨o,h1,h2⟩ e (fun z=>nomatch z) h
 | @dK a kvs ea =>
  cases (show u=aP a from rx);obtain⟨_,_,vs,_,p⟩:=(show z6 X.prog X.w H s.heap a #[Lg] from I.hok a _ ea);obtain⟨o,es,ep,h1,h2,_⟩:=p;exact bJ jk I.kIn ⟨o,h1,h2.1⟩ e (fun z=>nomatch z) h
 | @dT a kvs ea =>
  cases (show u=aP a from rx);obtain⟨_,_,xs,_,o,es,ep,h1,h2,_⟩:=(show z6 X.prog X.w H s.heap a #[IL] from I.hok a _ ea);exact bJ jk I.kIn ⟨o,h1,h2.1⟩ e (fun z=>nomatch z) h
 | @ins a C dx fs ea cl ha hn sm hm =>
  cases (show u=aP a from rx);obtain⟨mA,O,_⟩:=zkh I.hok ea;obtain⟨od,J,_⟩:=O.look;exact bJ (PySem.W.kitx_own (cl.get _) cl.hd ha hn sm hm) I.kIn J e (fun z=>nomatch z) h
end
structure EZ (k:Nat) (A:Around):Prop where
 hd:A.handled=none
 dp:A.depth+3*k+5 < recursionLimit
 un:A.units+16*k+200 < cLine
theorem EZ.mono (r:EZ k A) (h:j<=k):EZ j A:=⟨r.hd,by have:=r.dp; lia,by have:=r.un; lia⟩
theorem EZ.deeper (r:EZ (k+1) A) (env:Env):EZ k (A.deeper env) :=
 ⟨r.hd,by have:=r.dp; show A.depth+1+3*k+5 < _; lia,by have:=r.un; show A.units+3+16*k+200 < _; lia⟩
theorem EZ.depth (r:EZ k A):A.depth < recursionLimit:=by have:=r.dp; lia
theorem EZ.units (r:EZ k A):A.units+64 < cLine:=by have:=r.un; lia
noncomputable def zlw:TA:=fun _ H Q=>Q [] H
noncomputable def zhd (ta:TE) (tr:TA):TA:=fun σ H Q=>ta σ H fun x H1=>tr σ H1 fun xs H2=>Q (x :: xs) H2
section
variable {X:Cx} {e:Expr} {es:List Expr} {te:TE} {t:TA} {pos:Pos}
theorem zf:PA X [] zlw:=fun _ _ _ _ H Q I h=>eK ⟨[],H,I,.nil,h⟩
theorem za (ha:PE X e te) (hr:PA X es t) (hs:starEach (e :: es) X.env=#[wS] :: starEach es X.env:=by rfl):PA X (e :: es) (zhd te t):=by
 intro pos km s σ H Q I h;rw [hs];show wpAny _ _ (spliced (#[wS] :: backTo pos (starEach es X.env))) _ _ s;refine dB (thn #[Iu] fun u s1 ⟨x,H1,I1,r1,q1⟩=>?_);exact thn (hr pos km s1 σ H1 _ I1 q1) fun us s2 ⟨xs,H2,I2,r2,q2⟩=>⟨x :: xs,H2,I2,.cons r1 r2,q2⟩
theorem ya {X:Cx} {e:Expr} {te:TE} (a:PE X e te) (b:starEach [e] X.env=#[wS] :: starEach [] X.env):PA X [e] (zhd te zlw):=za a zf b
noncomputable def zmP (t:TA):TE:=fun σ H Q=>t σ H fun xs H1=>xs.length<=sizeLine/\∀ p,H1 p=none->Q (.ref p) (kx H1 p #[J3])
noncomputable def zgE (t:TA):TE:=fun σ H Q=>t σ H fun xs H1=>xs.length<=sizeLine/\∀ p,H1 p=none->Q (.ref p) (kx H1 p #[JS])
theorem zbf {x1} (h:PA X es t):PE X (.Tuple es x1 pos) (zmP t):=by
 intro km s σ H Q I hq;refine wpAny_Tuple_spliced (thn (h pos km s σ H _ I hq) fun us s1 ⟨xs,H1,I1,r,z,q⟩=>⟨by rw [<- r.length]; exact z,?_⟩);have hf:H1 s1.heap.objs.size=none:=I1.hok.fresh (ag _);refine⟨.ref s1.heap.objs.size,kx H1 s1.heap.objs.size #[J3],I1.laid (t':=s1.toks) (fun b u e=>ai _ e) (ag _) ?_,rfl,q _ hf⟩;exact⟨z,us,r,⟨_,aC _ rfl,rfl,_,rfl⟩⟩
theorem zag (h:PA X es t):PE X (.List es pos) (zgE t):=by
 intro km s σ H Q I hq;refine wpAny_List_spliced (thn (h pos km s σ H _ I hq) fun us s1 ⟨xs,H1,I1,r,z,q⟩=>⟨by rw [<- r.length]; exact z,?_⟩);have hf:H1 s1.heap.objs.size=none:=I1.hok.fresh (ag _);refine⟨.ref s1.heap.objs.size,kx H1 s1.heap.objs.size #[JS],I1.laid (t':=s1.toks) (fun b u e=>ai _ e) (ag _) ?_,rfl,q _ hf⟩;exact⟨z,us,0,r,aC _ rfl⟩
end
abbrev Sp:=List V->Hp->VK->XK->Prop
abbrev CXT:=List Env->Hp->Shared->XK->Value->Shared->Prop
structure Hy (P:Program) (w:World) (K:af) (mg:Str->Option Value) (base:Heap) (A:Around) (outer:List Env) (s:Shared) (H:Hp):Prop where
 frames:A.frames=some outer
 mod:Mod K mg base
 bs:∀ b o,base.get? b=some o->s.heap.get? b=some o/\H b=none
 bsz:base.objs.size<=s.heap.objs.size
 FR:s.heap.FunFrames base outer
 frf:∀ b∈frs outer,H b=none
 hok:HOk P w H s.heap
 bare:AllBare s.gens
noncomputable def CE (outer:List Env) (P:Program) (w:World) (H:Hp) (s:Shared) (Q:VK) (u:Value) (s':Shared):Prop :=
 ∃ v H',s'.os=s.os/\AllBare s'.gens/\Un (frs outer) [] H H' s.heap s'.heap/\HOk P w H' s'.heap/\RelV v u/\Q v H'
noncomputable def CR (CX:CXT) (outer:List Env) (P:Program) (w:World) (H:Hp) (s:Shared) (Q:VK) (E:XK) (r:Result) (s':Shared):Prop :=
 match r with
 | .ok (.ret u)=>CE outer P w H s Q u s'
 | .ok _=>False
 | .error e=>CX outer H s E e s'
structure D1 (P:Program) (w:World) (K:af) (mg:Str->Option Value) (base:Heap) (CX:CXT) (k:Nat) (f:Addr) (fd:FuncData) (ps:List Str) (sp:Sp):Prop where
 len:∀ vs H Q E,sp vs H Q E->vs.length=ps.length
 run:∀ (A:Around) (outer:List Env) (s:Shared) (H:Hp) (args:Args) (us:List Value) (vs:List V) (Q:VK) (E:XK),EZ k A->Hy P w K mg base A outer s H->BindsTo s fd args #[LZ]->zG vs us->sp vs H Q E ->
  codeAny #[J4] A (.call #[J9] args) (CR CX outer P w H s Q E) s
section
variable {X:Cx} {km:List (Addr×Obj)} {σ:St} {H:Hp} {s s':Shared}
theorem Inv.Ib (I:Inv X km σ H s):Hy X.prog X.w X.K X.mg X.base X.A X.stack s H :=
 ⟨I.ok.frames,I.ok.mod,I.bs,bh I.ok.bsz I.sz,I.stack,I.Fk,I.hok,I.bare⟩
theorem Inv.after {Q:VK} {u:Value} (I:Inv X km σ H s) (h:CE X.stack X.prog X.w H s Q u s'):EP X km σ Q u s':=by
 obtain⟨v,H',os,bare,un,hok,r,q⟩:=h;obtain⟨hh,g,d,t,xn⟩:=s';obtain rfl:xn=s.os:=os;exact⟨v,H',I.call (h':=hh) (g':=g) (d':=d) (t':=t) (ch:=[]) un hok bare (fun b z=>absurd z #[M]),r,q⟩
end
noncomputable def ziY (sp:Sp) (qu:List V) (E:XK) (t:TA):TE:=fun σ H Q=>t σ H fun vs H1=>sp (vs++qu) H1 Q E
noncomputable def Binds (K:af) (fd:FuncData) (ps:List Str) (ds:List Value):Prop :=
 ∀ (s:Shared) (us:List Value),K.In s.heap->(us++ds).length=ps.length->BindsTo s fd ⟨us,[]⟩ (ps.zip (us++ds))
theorem Binds.all {K:af} {ps:List Str} (h:∀ us:List Value,us.length=ps.length->bindArgs fd ⟨us,[]⟩=pure #[LZ]):Binds K fd ps []:=fun s us _ hl=>by
 rw [bK] at hl |-;exact .of_eq (h us hl)
noncomputable def zgF (CX:CXT) (X:Cx) (E:XK):Prop:=∀ (km:List (Addr×Obj)) (σ:St) (H:Hp) (s:Shared) (e:Value) (s':Shared),Inv X km σ H s->CX X.stack H s E e s'->X.xe e s'
section
variable {X:Cx} {CX:CXT} {k:Nat} {f C:Addr} {fd:FuncData} {ps:List Str} {sp:Sp} {qu:List V} {ds:List Value} {E:XK} {x m:Str} {p pos apos:Pos} {e o:Expr} {es:List Expr} {ta:TE} {t:TA}
theorem zlx {σ:St} {Q:VK} {vs:List V} (F:D1 X.prog X.w X.K X.mg X.base CX k f fd ps sp) (hr:EZ k X.A) (hb:Binds X.K fd ps ds) (hd:zG qu ds) (hx:zgF CX X E)
  (I:Inv X km σ H s) (r:zG vs us) (h:sp (vs++qu) H Q E):wpAny #[li] X.A (call #[J9] us) #[Ix] X.xe s:=by
 have r2:zG (vs++qu) (us++ds):=r.append hd;have hl:(us++ds).length=ps.length:=by rw [<- r2.length]; exact F.len _ _ _ _ h
 refine dS (c7 (F.run X.A X.stack s H ⟨us,[]⟩ (us++ds) (vs++qu) Q E hr I.Ib (hb s us I.kIn hl) r2 h) fun r s' hq=>?_);cases r with
 | error e=>exact hx km σ H s e s' I hq
 | ok fl =>
  cases fl with
  | ret u=>exact I.after hq
  | next=>exact bR hq
  | brk=>exact bR hq
  | cont=>exact bR hq
theorem zu (F:D1 X.prog X.w X.K X.mg X.base CX k f fd ps sp) (hr:EZ k X.A) (hg:Gl X x) (hm:X.mg x=some #[J9]) (hk:dm X.K #[J9]=true) (hb:Binds X.K fd ps ds) (hd:zG qu ds) (hx:zgF CX X E)
  (ha:PA X (e :: es) t) (ue:(x == ("__debug__" : Str))=false:=by decide) (he:starEach (e :: es) X.env=#[wS] :: starEach es X.env:=by rfl) (lR:#[Fa].any (·.1)=false:=by rfl) :
  PE X (.Call #[Nf] (e :: es) [] pos) (ziY sp qu E t):=by
 intro km s σ H Q I h;refine cG #[LQ];refine fT (h₀:=X.base) I.ok.mod.kin hk (thn #[BT] fun us s1 ⟨vs,H1,I1,r,q⟩=>⟨I1.kIn,?_⟩) he lR;exact zlx F hr hb hd hx I1 r q
end
structure DF (N P:List Str) (sc:Scope):Prop where
 kind:sc.kind = .function
 co:sc.isCoroutine=false
 gen:sc.isGenerator=false
 nd:N.Nodup
 pre:N.take P.length=P
 par:∀ x∈P,sc.names.lookup x=some .local\/sc.names.lookup x=some .cell
 HD:∀ y∈sc.names,y.2≠.free
theorem zel {kindOf:Str->Option NameKind} {x:Str}:∀ {binds:List (Str×Value)} {m:Str->Option Value},(∀ v,(x,v)∉binds)->bindL kindOf binds m x=m x
 | [],_,_=>rfl
 | (n,v) :: r,m,h=>by
  unfold bindL;rw [zel fun w hw=>h w (aj _ hw)];split
  ·have:x≠n:=by rintro rfl; exact h v aw
   simp [this]
  ·rfl
theorem zem {kindOf:Str->Option NameKind} {x:Str}:∀ {binds:List (Str×Value)} {m:Str->Option Value},(∀ v,(x,v)∉binds)->bindC kindOf binds m x=m x
 | [],_,_=>rfl
 | (n,v) :: r,m,h=>by
  unfold bindC;rw [zem fun w hw=>h w (aj _ hw)];split
  ·rfl
  ·have:x≠n:=by rintro rfl; exact h v aw
   simp [this]
theorem zen {kindOf:Str->Option NameKind} {x:Str} {v:Value}:∀ {P:List Str} {vs:List Value} {i:Nat} {m:Str->Option Value},P.Nodup->P[i]? = some x->vs[i]? = some v->kindOf x=some .local ->
  bindL kindOf (P.zip vs) m x=some v
 | [],_,_,_,_,h,_,_=>by simp at h
 | _ :: _,[],_,_,_,_,h,_=>by simp at h
 | p :: P,w :: vs,0,m,nd,h1,h2,hk=>by
  simp at h1 h2; subst h1; subst h2;show bindL kindOf #[KS] m p=_;unfold bindL;rw [zel fun v hv=>(cI.mp nd).1 (fi hv).1,if_pos hk];simp
 | p :: P,w :: vs,i+1,m,nd,h1,h2,hk=>by
  show bindL kindOf #[KS] m x=_;unfold bindL;exact zen (i:=i) (cI.mp nd).2 (by simpa using h1) (by simpa using h2) hk
theorem zeo {kindOf:Str->Option NameKind} {x:Str} {v:Value}:∀ {P:List Str} {vs:List Value} {i:Nat} {m:Str->Option Value},P.Nodup->P[i]? = some x->vs[i]? = some v->kindOf x≠some .local ->
  bindC kindOf (P.zip vs) m x=some v
 | [],_,_,_,_,h,_,_=>by simp at h
 | _ :: _,[],_,_,_,_,h,_=>by simp at h
 | p :: P,w :: vs,0,m,nd,h1,h2,hk=>by
  simp at h1 h2; subst h1; subst h2;show bindC kindOf #[KS] m p=_;unfold bindC;rw [zem fun v hv=>(cI.mp nd).1 (fi hv).1,if_neg hk];simp
 | p :: P,w :: vs,i+1,m,nd,h1,h2,hk=>by
  show bindC kindOf #[KS] m x=_;unfold bindC;exact zeo (i:=i) (cI.mp nd).2 (by simpa using h1) (by simpa using h2) hk
noncomputable def start (N:List Str) (vs:List V):St:=vs.map some++au (N.length - vs.length) none
noncomputable def zcA (CX:CXT) (P:Program) (w:World) (K:af) (mg:Str->Option Value) (base:Heap) (N:List Str) (qual:Str) (scope:Scope) (f:Addr) (cd:Value) (A:Around) (outer:List Env) (s:Shared) (H:Hp) (E:XK):Cx where
 prog:=P
 w:=w
 K:=K
 mg:=mg
 base:=base
 A:=A.deeper #[Db]
 N:=N
 s₀:=s
 H₀:=H
 env:=envOfC qual scope s.heap.objs.size f cd
 outer:=outer
 stack:=envOfC qual scope s.heap.objs.size f cd :: outer
 ex:=[]
 calm:=true
 fn:=fun _=>true
 pn:=[]
 xe:=fun e s'=>wpAny #[J4] (A.deeper #[Db]) (leaving #[Db] e) (fun _ xo=>CX outer H s E e xo) (fun e' xo=>CX outer H s E e' xo) s'
theorem zfH {n:Nat} {x:Str} (h:sc.names.lookup x=some .cell):∃ c,(cellsFrom n sc.names []).lookup x=some c:=by
 have q:=eM sc.names n [] (.inl h);exact gr.mp q
theorem zep {K:af} {base:Heap} {ps:List Str} {f:Addr} {outer:List Env} {E:XK} {vs:List V}
  (S:DF N ps scope) (hd:A.handled=none) (e0:Hy P w K mg base A outer s H) (hl:vs.length=ps.length) (r:zG vs us)
  (x:InCallC s s.heap.objs.size (bindL #[Db].kindOf #[LZ] fun _=>none) (cellsFrom #[Kl] scope.names []) (bindC #[Db].kindOf #[LZ] fun _=>none) s1) :
  Inv #[JY] [] #[Jh] H s1:=by
 have lR:ps.length<=N.length:=by have:=congrArg bU S.pre; rw [aG] at this; lia
 obtain⟨h1,tk,rfl,hk⟩:=x.done;have uU:∀ b:Addr,b∉#[JY].ex:=fun b z=>absurd (show b∈([]:List Addr) from z) #[M]
 refine⟨⟨e0.mod,S.kind,rfl,rfl,ag _,fun y z c h1 h2=>?_,fun y hy=>?_,fun y c _ h=>?_,fun _=>hd,Around.frames_deeper e0.frames,.inr ⟨rfl,rfl⟩,fun b z=>absurd z (uU b),e0.bs,e0.bsz,fun b _ _=>uU b,fun b z=>absurd z (uU b),e0.FR,e0.frf⟩,
  rfl,e0.bare,Un.kept hk,⟨_,x.toInCall.ns,fun i y v h1 h2 h3=>?_⟩,fun y c h=>⟨_,x.cell y c h⟩,e0.hok.fresh (ag _),fun y c h=>?_,fun p hp=>absurd (show p∈([]:List (Addr×Obj)) from hp) #[M],e0.hok.kept hk,?_⟩
 ·exact name_of_addr x.apart (dr h1) (dr h2)
 ·have hy:scope.names.lookup y=some .cell\/scope.names.lookup y=some .free:=hy;rcases hy with hy | hy
  ·exact zfH hy
  ·exact absurd rfl (S.HD _ (dr hy))
 ·exact dI (x.above y c (dr h))
 ·have hi:i < vs.length:=by
   unfold start at h2;by_cases hi:i < vs.length
   ·exact hi
   ·rw [de (by simpa using hi)] at h2;rw [List.getElem?_replicate] at h2;split at h2 <;> cases h2
  have ha:vs[i]? = some v:=by
   unfold start at h2;rw [dj (by simpa using hi),aB] at h2;cases e:vs[i]? with
   | none=>rw [e] at h2; cases h2
   | some a=>rw [e] at h2; cases h2; rfl
  obtain⟨u,hu,rv⟩:=r.get ha;have hp:ps[i]? = some y:=by
   rw [<- S.pre,ek #[O]]; exact h1
  have ndP:ps.Nodup:=by rw [<- S.pre]; exact S.nd.sublist (dG _ _)
  refine⟨u,rv,?_⟩;rcases S.par y (aX hp) with k | k
  ·exact .inl ⟨k,zen ndP hp hu k⟩
  ·obtain⟨c,e⟩:=zfH (n:=s.heap.objs.size+1) k;refine .inr ⟨.inl k,c,e,?_⟩;have q:=x.cell y c e;rw [zeo ndP hp hu (by show scope.names.lookup y≠_; rw [k]; decide)] at q;exact q
 ·exact e0.hok.fresh (dI (x.above y c (dr h)))
 ·unfold start;show _=N.length;rw [aA,aa,dJ];lia
theorem ziZ {K:af} {base:Heap} {f:Addr} {body:List Stmt} {dV kV:Value} 
  {ps:List Str} (lk:K.lookup f=some ⟨oc,od,.func #[Ch],ri⟩) (n4:dL K kL qual=true) (S:DF N ps scope)
  (len:∀ vs H Q E,sp vs H Q E->vs.length=ps.length)
  (l8:∀ (A:Around) (outer:List Env) (s:Shared) (H:Hp) (vs:List V) (Q:VK) (E:XK),EZ k #[J6]->sp vs H Q E ->
   ∃ t,PSs #[Iy] body t/\t { nx:=fun _ H'=>Q .non H',rt:=Q } #[Jh] H) :
  D1 P w K mg base CX (k+1) f #[Ch] ps sp:=by
 refine#[JX];have hl:=len _ _ _ _ oY;have KX:K.In s.heap:=e0.mod.kin.keeps fun b o e=>#[M4].1
 have lim:s.heap.NoLimit:=e0.mod.nolimit.keeps fun b o e=>#[M4].1
 have n5:∀ y∈ps.zip us,scope.names.lookup y.1=some .local\/(scope.names.lookup y.1=some .cell/\((cellsFrom #[Kl] scope.names []).lookup y.1).isSome=true):=fun ⟨n,v⟩ hy=>by
  rcases S.par n (fi hy).1 with q | q
  ·exact .inl q
  ·exact .inr ⟨q,eM _ _ _ (.inl q)⟩
 refine g9 hr.depth (KX _ _ lk) rfl S.co S.gen rfl (iV KX n4) (hb _ _ _ _ ?_);refine gb S.kind n5 fun env he s1 x=>?_
 subst he;refine#[Kv];obtain⟨t,ht,hq⟩:=l8 A outer s H vs Q E (hr.deeper _) oY;have I:Inv #[Iy] [] #[Jh] H s1:=zep S hr.hd e0 hl r x;refine bM (ht [] s1 #[Jh] H _ I hq) (fun fl s' hs=>?_) fun e s' hs=>hs
 have fin:∀ {σ':St} {H':Hp} {v:V} {u:Value},Inv #[Iy] [] σ' H' s'->RelV v u->Q v H'->CE outer P w H s Q u s' :=
  fun {σ' H' v u} J rv q=>⟨v,H',J.os,J.bare,J.base,J.hok,rv,q⟩
 cases fl with
 | ret u =>
  obtain⟨v,σ',H',J,rv,q⟩:=hs;exact fin J rv q
 | next =>
  obtain⟨σ',H',J,q⟩:=hs;exact fin (v:=V.non) (u:=cD) J rfl q
 | brk =>
  obtain⟨_,_,_,q⟩:=hs;exact bR q
 | cont =>
  obtain⟨_,_,_,q⟩:=hs;exact bR q
section
variable {X:Cx} {x:Str} {p pos:Pos} {e:Expr} {es:List Expr} {t:TA} {id T:String} {r:List V->Hp->VK->Prop}
noncomputable def tCB (r:List V->Hp->VK->Prop) (t:TA):TE:=fun σ H Q=>t σ H fun vs H1=>r vs H1 Q
theorem zt (hc:za8 X #[JQ] r) (hg:Gl X x) (hm:X.mg x=none) (hv:bootBuiltins x=some #[JQ]) (ha:PA X (e :: es) t) (hn:x≠"__name__":=by decide) (ue:(x == ("__debug__" : Str))=false:=by decide)
  (he:starEach (e :: es) X.env=#[wS] :: starEach es X.env:=by rfl) (lR:#[Fa].any (·.1)=false:=by rfl):PE X (.Call #[Nf] (e :: es) [] pos) (tCB r t):=by
 intro km s σ H Q I h;refine cG #[Ny];exact PyProof.Rows.callWith_builtin1 (thn #[BT] fun us s1 ⟨vs,H1,I1,r1,q1⟩=>hc km s1 σ H1 vs us Q I1 r1 q1) he lR
theorem zaH (hc:za8 X (.type T) r) (hg:Gl X x) (hm:X.mg x=none) (hv:bootBuiltins x=some (.type T)) (ha:PA X (e :: es) t) (hn:x≠"__name__":=by decide) (ue:(x == ("__debug__" : Str))=false:=by decide)
  (he:starEach (e :: es) X.env=#[wS] :: starEach es X.env:=by rfl) (lR:#[Fa].any (·.1)=false:=by rfl):PE X (.Call #[Nf] (e :: es) [] pos) (tCB r t):=by
 intro km s σ H Q I h;refine cG #[Ny];exact cB (thn #[BT] fun us s1 ⟨vs,H1,I1,r1,q1⟩=>hc km s1 σ H1 vs us Q I1 r1 q1) he lR
end
end L2
namespace HT
open PySem PyProof.Rows
section
variable {prog:Program} {w:World} {A:Around} {E:Value->Shared->Prop} {s:Shared}
theorem Hr {t b:Addr} {vs ws:List Value} {Q:Value->Shared->Prop} (ht:IsTup s.heap t vs.toArray) (hb:IsTup s.heap b ws.toArray) (hv:vs≠[])
  (h1:ws = []->Q (.ref t) s) (h2:ws≠[]->Q #[wf] { s with heap:=s.heap.push { cls:=.type "tuple",data:=.seq (vs++ws).toArray } })
  (hsz:vs.length+ws.length<=sizeLine):wpAny #[or] A (binaryOp .Add (.ref t) #[M9]) Q E s:=by
 obtain⟨⟨cls,dd,data,sl⟩,ho,hc,n,hd⟩:=id ht;obtain⟨⟨Bd,Ai,data2,uf⟩,qO,su,n2,hd2⟩:=id hb;simp only at hc hd su hd2;subst hc hd su hd2;have e:vs.toArray++ws.toArray=(vs++ws).toArray:=by simp
 by_cases hw:ws = []
 ·exact iW ⟨_,ho,rfl⟩ ⟨_,qO,rfl⟩ gt iu eN eJ (er _ _)
   (tuple_addW1 t b vs.toArray ws.toArray n n2 dd Ai sl uf (by simpa using hv) (by simp [hw])) ⟨ho,qO,h1 hw⟩
 ·refine iW ⟨_,ho,rfl⟩ ⟨_,qO,rfl⟩ gt iu eN eJ (er _ _)
   (tuple_addW2 t b vs.toArray ws.toArray n n2 dd Ai sl uf (by simpa using hv) (by simpa using hw) (by rw [aq,aq]; exact hsz)) ⟨ho,qO,?_⟩
  rw [e];exact h2 hw
noncomputable def sIx (n d:Nat):Option Int->Nat
 | none=>d
 | some v=>if v < 0 then (v+(n:Int)).toNat else min v.toNat n
theorem F5 (n d:Nat):sIx n d none=d:=rfl
theorem Gs (n d k:Nat):sIx n d (some (k:Int))=min k n:=by
 show (if (k:Int) < 0 then ((k:Int)+(n:Int)).toNat else min (k:Int).toNat n)=min k n;rw [if_neg #[O],bO]
end
end HT
namespace L2
open PySem PySem.Spec PyProof.Rows
variable {A:Around} {H:Hp} {j t':Nat} {km:List (Addr×Obj)} {kq us:List Value} {ns:List Int} {s:Shared} {y:V}
abbrev TO:=St->Hp->(Option Int->Hp->Prop)->Prop
noncomputable def PO (X:Cx) (e:Option Expr) (t:TO):Prop :=
 ∀ (km:List (Addr×Obj)) (s:Shared) (σ:St) (H:Hp) (Q:Option Int->Hp->Prop),Inv X km σ H s->t σ H Q ->
  wpAny #[li] X.A (evalPart e X.env) (fun u s'=>∃ o H',Inv X km σ H' s'/\IsPart u o/\Q o H') X.xe s
noncomputable def zki:TO:=fun _ H Q=>Q none H
noncomputable def zmm (t:TE):TO:=fun σ H Q=>t σ H fun x H1=>∃ i,x = .int i/\Q (some i) H1
theorem intsAre_of:∀ {us:List Value},zG #[ww] us->IntsAre us ns:=by
 induction ns with
 | nil=>intro us r; rw [iX] at r; cases r; exact .nil
 | cons n ns ih =>
  intro us r;rw [aT] at r;cases r with
  | cons r1 r2 =>
   obtain⟨t,e⟩:=r1;subst e;exact .cons n t (ih r2)
section
variable {X:Cx} {e:Expr} {te:TE} {lo hi:Option Expr} {tl th:TO} {pos p2:Pos}
theorem zbJ:PO X none zki:=by
 intro km s σ H Q I h;rw [evalPart_none];exact ak ⟨none,H,I,.none,h⟩
theorem zbK (h:PE X e te):PO X (some e) (zmm te):=by
 intro km s σ H Q I hw;rw [evalPart_some];refine thn #[LC] fun u s1 ⟨x,H1,I1,r1,q1⟩=>?_
 obtain⟨i,rfl,q⟩:=q1;obtain⟨t,rfl⟩:=r1;exact⟨some i,H1,I1,.int i t,q⟩
noncomputable def SlR (X:Cx) (r:V->Option Int->Option Int->Hp->VK->Prop):Prop :=
 ∀ (km:List (Addr×Obj)) (s:Shared) (σ:St) (H:Hp) (x:V) (v vl vu:Value) (lo hi:Option Int) (sl:Addr) (Q:VK),Inv X km σ H s->RelV x v->s.heap.IsSliceOf sl vl vu .none->IsPart vl lo->IsPart vu hi->r x lo hi H Q ->
  ∃ T id,typeLookup (.type T) "__getitem__" = pure (some #[JQ])/\s.TypeIs v T/\wpAny #[li] X.A (getItem v (.ref sl)) #[Ix] X.xe s
noncomputable def tSl (r:V->Option Int->Option Int->Hp->VK->Prop) (te:TE) (tl th:TO):TE:=fun σ H Q=>te σ H fun x H1=>tl σ H1 fun l H2=>th σ H2 fun u H3=>r x l u H3 Q
theorem zbo {r:V->Option Int->Option Int->Hp->VK->Prop} (hr:SlR X r) (he:PE X e te) (hl:PO X lo tl) (hu:PO X hi th):PE X (.Subscript e (.Slice lo hi none p2) pos) (tSl r te tl th):=by
 intro km s σ H Q I h;refine ii (thn #[IR] fun v s1 ⟨x,H1,I1,r1,q1⟩=>?_);refine wpAny_Slice (thn (hl km s1 σ H1 _ I1 q1) fun vl s2 ⟨l,H2,I2,pl,q2⟩=>thn (hu km s2 σ H2 _ I2 q2) fun vu s3 ⟨u,H3,I3,pu,q3⟩=>?_);rw [evalPart_none];refine ak ?_;have I4:Inv X km σ H3 { s3 with heap:=s3.heap.push { cls:=.type "slice",data:=.fields #[vl,vu,.none] } }:=I3.kept (t':=s3.toks) fun b ob q=>ai _ q
 obtain⟨T,id,hT,ht,hg⟩:=hr km { s3 with heap:=s3.heap.push { cls:=.type "slice",data:=.fields #[vl,vu,.none] } } σ H3 x v vl vu l u s3.heap.objs.size Q I4 r1 (Heap.IsSliceOf.new ..) pl pu q3;show wpAny #[li] X.A (subscriptTail e (.Slice lo hi none p2) v (.ref s3.heap.objs.size)) #[Ix] X.xe { s3 with heap:=s3.heap.push { cls:=.type "slice",data:=.fields #[vl,vu,.none] } };exact tail_any (ops:=[.ref s3.heap.objs.size,v]) ht hT hg (by with_unfolding_all rfl)
noncomputable def zc7 (xs:List V) (lo hi:Option Int):List V:=(xs.drop (HT.sIx xs.length 0 lo)).take #[JR]
theorem zfI (xs:List V) (lo hi:Option Int):(zc7 xs lo hi).length<=xs.length:=by
 unfold zc7;rw [aG,bL];lia
noncomputable def zmn (K:af):R2:=fun x y H Q=>∃ a b xs ys,x = .ref a/\y = .ref b/\kJ K H a xs/\kJ K H b ys/\xs≠[]/\xs.length+ys.length<=sizeLine /\
 (ys = []->Q #[IT] H)/\(ys≠[]->∀ p,H p=none->Q (.ref p) (kx H p (.tup (xs++ys))))
theorem zG.Fm {xs:List V} (r:zG xs us):us = []↔xs = []:=by
 cases r with
 | nil=>simp
 | cons _ _=>simp
theorem zkj:OpR X #[LI] (zmn X.K):=by
 intro km s σ H x y v u Q I rx ry h;obtain⟨a,b,xs,ys,rfl,rfl,ha,hb,hx,hz,q1,q2⟩:=h;cases rx;cases ry;obtain⟨kq,r1,p1,_⟩:=I.tuple ha;obtain⟨ni,r2,p2,_⟩:=I.tuple hb;refine HT.Hr p1 p2 (fun z=>hx (r1.Fm.mp z)) (fun z=>⟨.ref a,H,I,rfl,q1 (r2.Fm.mp z)⟩) (fun z=>?_) (by rw [<- r1.length,<- r2.length]; exact hz);refine⟨.ref s.heap.objs.size,_,I.laid (t':=s.toks) (o:=.tup (xs++ys)) (fun b ob q=>ai _ q) (ag _) ?_,rfl,q2 (fun w=>z (r2.Fm.mpr w)) _ #[JE]⟩;exact⟨by rw [aA]; exact hz,_,r1.append r2,IsTup.new _ _⟩
end
noncomputable def ixN (n:Nat) (i:Int):Option Nat:=if 0<=i then (if i < n then some i.toNat else none) else if -(n:Int)<=i then some (i+n).toNat else none
noncomputable def atI {α:Type} (xs:List α) (i:Int):Option α:=(ixN xs.length i).bind fun j=>xs[j]?
theorem zkk {n:Nat} {i:Int} (h:ixN n i=some j):seqIndex? i n=some j/\j < n/\-(n:Int)<=i/\i < n:=by
 unfold ixN at h;by_cases h0:0<=i
 ·rw [if_pos h0] at h;by_cases h1:i < n
  ·rw [if_pos h1] at h;have e:i.toNat=j:=aQ h;exact⟨by rw [gQ h0 h1,e],#[O],#[O],h1⟩
  ·rw [if_neg h1] at h; cases h
 ·rw [if_neg h0] at h;by_cases h1:-(n:Int)<=i
  ·rw [if_pos h1] at h;have e:(i+n).toNat=j:=aQ h;exact⟨by rw [seqIndex_neg #[O] h1,e],#[O],h1,#[O]⟩
  ·rw [if_neg h1] at h; cases h
theorem zhe {α:Type} {xs:List α} {i:Int} {v:α} (h:atI xs i=some v):∃ j,seqIndex? i xs.length=some j/\xs[j]? = some v/\j < xs.length/\-(xs.length:Int)<=i/\i < xs.length:=by
 unfold atI at h;cases e:ixN xs.length i with
 | none=>rw [e] at h; cases h
 | some j =>
  rw [e] at h;obtain⟨h1,h2,h3,h4⟩:=zkk e;exact⟨j,h1,h,h2,h3,h4⟩
theorem zcf {α:Type} {xs:List α} {v:α} (h:xs[j]? = some v):atI xs (j:Int)=some v:=by
 have hj:j < xs.length:=(aH.mp h).1;have e:ixN xs.length (j:Int)=some j:=by
  unfold ixN;rw [if_pos #[O],if_pos #[O]]; simp
 unfold atI; rw [e]; exact h
noncomputable def zkl (b:Expr):Prop:=∀ o i,subscripted b false o i=operate [o,i] (getItem o i)
noncomputable def IxR (X:Cx) (r:R2):Prop :=
 ∀ (value slice:Expr) (km:List (Addr×Obj)) (s:Shared) (σ:St) (H:Hp) (x y:V) (v u:Value) (Q:VK),Inv X km σ H s->RelV x v->RelV y u->r x y H Q ->
  subscripted slice false v u=operate [v,u] (getItem v u)->wpAny #[li] X.A (subscriptTail value slice v u) #[Ix] X.xe s
noncomputable def MtR (X:Cx) (id:String) (r:V->List V->Hp->VK->Prop):Prop :=
 ∀ (km:List (Addr×Obj)) (s:Shared) (σ:St) (H:Hp) (x:V) (xs:List V) (v:Value) (us:List Value) (Q:VK),Inv X km σ H s->RelV x v->zG xs us->r x xs H Q ->
  wpAny #[li] X.A (call #[JQ] (v :: us)) #[Ix] X.xe s
section
variable {X:Cx} {a b:Expr} {ta tb:TE} {pos:Pos}
theorem zW {r:R2} (hr:IxR X r) (ha:PE X a ta) (hb:PE X b tb) (hs:zkl b):PE X (.Subscript a b pos) (tOp r ta tb):=by
 intro km s σ H Q I h;exact ii (zmi ha hb I h fun v u s2 x y H2 I2 rx ry q=>hr a b km s2 σ H2 x y v u Q I2 rx ry q (hs _ _))
noncomputable def zmo (K:af):R2:=fun x y H Q=>∃ p xs i v,x = .ref p/\y = .int i/\kr K H p xs/\atI xs i=some v/\Q v H
noncomputable def zmp (K:af):R2:=fun x y H Q=>∃ p xs i v,x = .ref p/\y = .int i/\kJ K H p xs/\atI xs i=some v/\Q v H
theorem zO:IxR X (zmo X.K):=by
 intro value slice km s σ H x y v u Q I rx ry h hs;obtain⟨p,xs,i,z,rfl,rfl,hq,he,q⟩:=h;cases rx;obtain⟨t,rfl⟩:=ry;obtain⟨kq,r,pl,hz⟩:=I.list hq;obtain⟨j,h1,h2,h3,h4,h5⟩:=zhe he;obtain⟨w,ew,rj⟩:=r.get h2;have hl:=r.length;have hn:=zgD;have fin:EP X km σ Q w s:=⟨z,H,I,rj,q⟩;by_cases h0:0<=i
 ·have hj:i.toNat=j:=by
   rw [gQ h0 h5] at h1;exact aQ h1
  exact item_listR pl.isList h0 #[O] (by rw [hj]; simpa using ew) fin hs
 ·have hj:(i+(kq.toArray.size:Int)).toNat=j:=by
   rw [seqIndex_neg #[O] h4] at h1;rw [aq,<- hl];exact aQ h1
  exact eO (x:=w) pl.isList.typeIs slot_list_getitem.lookup
   (wpAny_getItem_list_neg (Q:=fun r s'=>r=w/\EP X km σ Q r s') pl.isList #[O] (by rw [aq] <;> lia) #[O] (by rw [hj]; simpa using ew) ⟨rfl,fin⟩) hs
theorem zbL:IxR X (zmp X.K):=by
 intro value slice km s σ H x y v u Q I rx ry h hs;obtain⟨p,xs,i,z,rfl,rfl,hq,he,q⟩:=h;cases rx;obtain⟨t,rfl⟩:=ry;obtain⟨kq,r,pl,hz⟩:=I.tuple hq;obtain⟨j,h1,h2,h3,h4,h5⟩:=zhe he;obtain⟨w,ew,rj⟩:=r.get h2;have hl:=r.length;have hn:=zgD;have fin:EP X km σ Q w s:=⟨z,H,I,rj,q⟩;exact eO (x:=w) pl.typeIs slot_tuple_getitem.lookup
  (iw (j:=j) (Q:=fun r s'=>r=w/\EP X km σ Q r s') pl #[O] #[O] (by rw [aq,<- hl]; exact h1) (by simpa using ew) ⟨rfl,fin⟩) hs
theorem zeV (lo hi:Option Int) (n:Nat):#[Ks].1=((HT.sIx n 0 lo:Nat):Int)/\#[Ks].2.1=((HT.sIx n n hi:Nat):Int)/\#[Ks].2.2=1:=by
 refine⟨?_,?_,rfl⟩
 ·cases lo with
  | none=>simp [sliceBounds,HT.sIx]
  | some i =>
   simp only [sliceBounds,HT.sIx,jB,show (1:Int) > 0 by decide,if_true];by_cases h:i < 0
   ·simp only [h,if_true] <;> lia
   ·simp only [h,if_false] <;> lia
 ·cases hi with
  | none=>simp [sliceBounds,HT.sIx]
  | some i =>
   simp only [sliceBounds,HT.sIx,jB,show (1:Int) > 0 by decide,if_true];by_cases h:i < 0
   ·simp only [h,if_true] <;> lia
   ·simp only [h,if_false] <;> lia
theorem zd4 (kq:List Value) (lo hi:Option Int):slicePick kq.toArray lo hi none=((kq.drop (HT.sIx kq.length 0 lo)).take (HT.sIx kq.length kq.length hi - HT.sIx kq.length 0 lo)).toArray:=by
 obtain⟨h1,h2,h3⟩:=zeV lo hi kq.toArray.size;unfold slicePick;rw [h1,h2,h3];simp only [sliceRange_one,pick_run,aq] <;> rfl
noncomputable def zmq (K:af):V->Option Int->Option Int->Hp->VK->Prop:=fun x lo hi H Q=>∃ a xs,x = .ref a/\kr K H a xs/\∀ p,H p=none->Q (.ref p) (kx H p (.lst (zc7 xs lo hi)))
theorem zbM:SlR X (zmq X.K):=by
 intro km s σ H x v vl vu lo hi sl Q I rx hs pl pu h;obtain⟨a,xs,rfl,hx,q⟩:=h;cases rx;obtain⟨kq,r,ht,hz⟩:=I.list hx;have kB:=r.length;refine⟨"list",_,slot_list_getitem.lookup,ht.isList.typeIs,?_⟩;refine wpAny_getItem_list_slice ht.isList hs pl pu .none #[M] ?_ (by rw [aq] <;> lia);rw [zd4,<- kB];refine⟨.ref s.heap.objs.size,_,I.laid (t':=s.toks) (o:=.lst (zc7 xs lo hi)) (fun b ob q=>ai _ q) (ag _) ?_,rfl,q _ #[JE]⟩;exact⟨bh (zfI xs lo hi) hz,_,0,(r.drop (HT.sIx xs.length 0 lo)).take #[JR],aC _ rfl⟩
noncomputable def zeq:V->Bool
 | .non=>true
 | .bl _=>true
 | .int _=>true
 | .str _=>true
 | _=>false
noncomputable def eqV:V->V->Bool
 | .non,.non=>true
 | .bl a,.bl b=>a == b
 | .bl a,.int b=>(if a then 1 else 0) == b
 | .int a,.bl b=>a == (if b then 1 else 0)
 | .int a,.int b=>a == b
 | .str a,.str b=>a == b
 | _,_=>false
theorem zly {x:V} {u v:Value} (ry:RelV y u) (rx:RelV x v) (fy:zeq y=true) (fx:zeq x=true):jP A s u v (eqV y x):=by
 cases y with
 | non =>
  cases ry;cases x with
  | non=>cases rx; exact jQ _
  | bl b=>cases rx; exact SeqAt.EqAt.none_bool b
  | int b=>obtain⟨t,rfl⟩:=rx; exact SeqAt.EqAt.none_int b t
  | str b=>obtain⟨t,rfl⟩:=rx; exact SeqAt.EqAt.none_str b t
  | _=>exact absurd (show false=true from fx) aO
 | bl a =>
  cases ry;cases x with
  | non=>cases rx; exact SeqAt.EqAt.bool_none a
  | bl b=>cases rx; exact SeqAt.EqAt.bool_bool a b
  | int b=>obtain⟨t,rfl⟩:=rx; exact SeqAt.EqAt.bool_int a b t
  | str b=>obtain⟨t,rfl⟩:=rx; exact SeqAt.EqAt.bool_str a b t
  | _=>exact absurd (show false=true from fx) aO
 | int a =>
  obtain⟨t',rfl⟩:=ry;cases x with
  | non=>cases rx; exact SeqAt.EqAt.int_none a t'
  | bl b=>cases rx; exact SeqAt.EqAt.int_bool a t' b
  | int b=>obtain⟨t,rfl⟩:=rx; exact SeqAt.EqAt.int_int a t' b t
  | str b=>obtain⟨t,rfl⟩:=rx; exact iS a t' b t
  | _=>exact absurd (show false=true from fx) aO
 | str a =>
  obtain⟨t',rfl⟩:=ry;cases x with
  | non=>cases rx; exact SeqAt.EqAt.str_none a t'
  | bl b=>cases rx; exact SeqAt.EqAt.str_bool a t' b
  | int b=>obtain⟨t,rfl⟩:=rx; exact iT a t' b t
  | str b=>obtain⟨t,rfl⟩:=rx; exact SeqAt.EqAt.str_str a t' b t
  | _=>exact absurd (show false=true from fx) aO
 | _=>exact absurd (show false=true from fy) aO
theorem z8:za8 X (.builtin "len") (fun xs H Q=>∃ p ys,xs = [.ref p]/\(kr X.K H p ys\/kJ X.K H p ys)/\Q (.int ys.length) H):=by
 intro km s σ H xs us Q I r h;obtain⟨p,ys,rfl,hq,q⟩:=h;obtain⟨u,rfl,rx⟩:=vals1 r;cases rx;have hn:=zgD;rcases hq with hq | hq
 ·obtain⟨kq,r',pl,hz⟩:=I.list hq;have kB:=r'.length;exact Calls.call_len_list pl.isList (by simp only [aq] <;> lia) ⟨.int ys.length,H,I.tok _,⟨s.toks+1,by rw [aq,kB]⟩,q⟩
 ·obtain⟨kq,r',pl,hz⟩:=I.tuple hq;have kB:=r'.length;exact len_tuple pl (by simp only [aq] <;> lia) ⟨.int ys.length,H,I.tok _,⟨s.toks+1,by rw [aq,kB]⟩,q⟩
theorem zeW:za8 X (.type "list") (fun xs H Q=>∃ p ys,xs = [.ref p]/\(kr X.K H p ys\/kJ X.K H p ys)/\∀ l,H l=none->Q #[JF] (kx H l #[LF])):=by
 intro km s σ H xs us Q I r h;obtain⟨p,ys,rfl,hq,q⟩:=h;obtain⟨u,rfl,rx⟩:=vals1 r;cases rx;have fin:∀ (kq:List Value),zG ys kq->ys.length<=sizeLine->∀ (h':Heap) (c':Nat),(∀ b o',s.heap.get? b=some o'->h'.get? b=some o') ->
   h'.get? s.heap.objs.size=some { cls:=.type "list",dict:=none,data:=.seq kq.toArray c',slots:=#[] }->EP X km σ Q #[wf] { s with heap:=h' }:=fun kq r' hz h' c' kp e =>
  ⟨.ref s.heap.objs.size,_,I.laid (t':=s.toks) kp (ag _) (show z6 X.prog X.w _ h' _ #[LF] from ⟨hz,kq,c',r',e⟩),rfl,q _ #[JE]⟩
 rcases hq with hq | hq
 ·obtain⟨kq,r',pl,hz⟩:=I.list hq;have kB:=r'.length;obtain⟨o,ho,hc,n,hd⟩:=pl.isList;exact call_list_seq p #[IW] ho hc hd #[K1] (by simp only [aq] <;> lia)
 ·obtain⟨kq,r',pl,hz⟩:=I.tuple hq;have kB:=r'.length;obtain⟨o,ho,hc,n,hd⟩:=pl;exact call_list_seq p (.inr rfl) ho hc hd #[K1] (by simp only [aq] <;> lia)
theorem zaK:za8 X (.type "tuple") (fun xs H Q=>∃ p ys,xs = [.ref p]/\((kr X.K H p ys/\∀ l,H l=none->Q #[JF] (kx H l (.tup ys)))\/(kJ X.K H p ys/\Q (.ref p) H))):=by
 intro km s σ H xs us Q I r h;obtain⟨p,ys,rfl,h⟩:=h;obtain⟨u,rfl,rx⟩:=vals1 r;cases rx;rcases h with ⟨hq,q⟩ | ⟨hq,q⟩
 ·obtain⟨kq,r',pl,hz⟩:=I.list hq;have kB:=r'.length;refine call_tuple_list pl.isList (fun h' kp=>?_) (by simp only [aq] <;> lia);have I1:Inv X km σ H { s with heap:=h' }:=I.kept (t':=s.toks) kp;have I2:Inv X km σ (kx H h'.objs.size (.tup ys)) { s with heap:=h'.push { cls:=.type "tuple",data:=.seq kq.toArray } } :=
   I1.laid (t':=s.toks) (fun b o e=>ai _ e) (ag _) (show z6 X.prog X.w _ _ _ (.tup ys) from ⟨hz,kq,r',IsTup.new _ _⟩)
  exact⟨.ref h'.objs.size,_,I2,rfl,q _ #[II]⟩
 ·obtain⟨kq,r',pl,hz⟩:=I.tuple hq;exact call_tuple_same pl ⟨.ref p,H,I,rfl,q⟩
noncomputable def tyV (K:af) (T:String) (x:V) (H:Hp):Prop:=match x with
 | .str _=>T = "str"
 | .int _=>T = "int"
 | .ref p=>(T = "list"/\∃ xs,kr K H p xs)\/(T = "tuple"/\∃ o,K.lookup p=some o/\o.cls = .type "tuple"/\o.dict=none) \/
   (T = "dict"/\((∃ kvs,H p=some #[Lg])\/∃ kvs,H p=some #[IL]))\/(T = "set"/\∃ S n,H p=some (.set S n))
 | _=>False
theorem zlz {σ:St} {T:String} {x:V} {v:Value} (I:Inv X km σ H s) (r:RelV x v) (ty:tyV X.K T x H) :
  s.TypeIs v T/\∀ a,v = .ref a->∃ ob,s.heap.get? a=some ob/\ob.dict=none:=by
 cases x with
 | str z =>
  obtain⟨t,rfl⟩:=r;cases (show T = "str" from ty);exact⟨typeIs_str s z t,fun _ e=>nomatch e⟩
 | int i =>
  obtain⟨t,rfl⟩:=r;cases (show T = "int" from ty);exact⟨jR s i t,fun _ e=>nomatch e⟩
 | ref p =>
  cases r;rcases ty with ⟨rfl,xs,hq⟩ | ⟨rfl,o,hk,hc,hd⟩ | ⟨rfl,hk⟩ | ⟨rfl,S,n,hk⟩
  ·obtain⟨kq,_,pl,_⟩:=I.list hq;refine⟨pl.isList.typeIs,fun a e=>?_⟩;cases e;obtain⟨o,n,e,c,hd,_⟩:=pl;exact⟨o,e,hd⟩
  ·refine⟨⟨o,I.kIn p o hk,hc⟩,fun a e=>?_⟩;cases e;exact⟨o,I.kIn _ o hk,hd⟩
  ·have z:∃ o,s.heap.get? p=some o/\o.ExactDict:=by
    rcases hk with ⟨kvs,hk⟩ | ⟨kvs,hk⟩
    ·obtain⟨_,_,_,_,o,_,_,e,ex,_⟩:=I.hok p _ hk;exact⟨o,e,ex⟩
    ·obtain⟨_,_,_,_,o,_,_,e,ex,_⟩:=I.hok p _ hk;exact⟨o,e,ex⟩
   obtain⟨o,e,ex⟩:=z;refine⟨⟨o,e,ex.1⟩,fun a e2=>?_⟩;cases e2;exact⟨o,e,ex.2.1⟩
  ·obtain⟨o,_,_,_,e,ex,_⟩:=I.hok p _ hk;refine⟨⟨o,e,ex.1⟩,fun a e2=>?_⟩;cases e2;exact⟨o,e,ex.2.1⟩
 | _=>exact bR ty
noncomputable def tBM (K:af) (T:String) (r:V->List V->Hp->VK->Prop) (to:TE) (t:TA):TE:=fun σ H Q=>to σ H fun x H1=>tyV K T x H1/\t σ H1 fun xs H2=>r x xs H2 Q
variable {o e:Expr} {es:List Expr} {to:TE} {t:TA} {name:Str} {apos kY:Pos} {T id:String} {r:V->List V->Hp->VK->Prop}
theorem zdf (pa:PlainAttrs T) (slot:Slot T name id) (Be:typeOf #[JQ]=pure (.type "method_descriptor")) (hm:MtR X id r) (ho:PE X o to) (ha:PA X (e :: es) t)
  (pN:attributeBase o name X.env #[Md]=eval o X.env:=by rfl)
  (vy:(#[LE].all (fun x=>!x.1) && (backToKw kY (keywordEach [] X.env)).all (fun x=>x.1.isSome)
   && decide ((e :: es).length+([]:List Keyword).length+(if ([]:List Keyword).isEmpty then 0 else 1) < 30))=true:=by rfl)
  (pO:(apos.endLine == kY.line)=true:=by rfl) (hs:starEach (e :: es) X.env=#[wS] :: starEach es X.env:=by rfl) (qv:#[JV].any (·.1)=false:=by rfl) :
  PE X (.Call (.Attribute o name apos) (e :: es) [] kY) (tBM X.K T r to t):=by
 intro km s σ H Q I h;refine wpAny_Call_method_late pN vy pO rfl (thn #[Kc] fun v s1 ⟨x,H1,I1,r1,ty,q1⟩=>?_);obtain⟨h1,h2⟩:=zlz I1 r1 ty;refine⟨T,id,pa,slot,Be,h1,h2,?_⟩;have hA:=ha kY km s1 σ H1 _ I1 q1;rw [hs] at hA |-;refine eP (by show (false || #[JV].any (·.1))=false; rw [qv] <;> rfl) (fj ?_);exact thn hA fun us s2 ⟨vs,H2,I2,r2,q2⟩=>hm km s2 σ H2 x vs v us Q I2 r1 r2 q2
end
noncomputable def MtM (X:Cx) (id:String) (r:V->List V->Hp->VK->Prop):Prop :=
 ∀ (km:List (Addr×Obj)) (s:Shared) (σ:St) (H:Hp) (x:V) (xs:List V) (v:Value) (us:List Value) (Q:VK),Inv X km σ H s->RelV x v->zG xs us->r x xs H Q ->
  wpAny #[li] X.A (call #[JQ] (v :: us)) #[Ix] X.xe s
theorem zG.one:∀ {x:V} {us:List Value},zG [x] us->∃ u,us = [u]/\RelV x u
 | _,_,.cons r .nil=>⟨_,rfl,r⟩
theorem zG.eraseIdx:∀ {xs:List V} {us:List Value} (i:Nat),zG xs us->zG (xs.eraseIdx i) (us.eraseIdx i)
 | _,_,_,.nil=>.nil
 | _,_,0,.cons _ t=>t
 | _,_,i+1,.cons r t=>.cons r (zG.eraseIdx i t)
theorem zG.rep {xs:List V} {us:List Value} (h:zG xs us):∀ k:Nat,zG (au k xs).flatten (au k us).flatten
 | 0=>.nil
 | k+1=>by
  rw [br,br,di,di];exact zG.append h (zG.rep h k)
theorem zer {α:Type}:∀ (l:List α) (i:Nat),(l.eraseIdx i).length<=l.length
 | [],_=>ag _
 | _ :: _,0=>Nat.le_succ _
 | _ :: r,i+1=>eV (zer r i)
theorem foldl_rep (kq:List Value):∀ (k:Nat) (acc:List Value),
  jS #[MF] acc.toArray (au k kq.toArray)=(acc++(au k kq).flatten).toArray
 | 0,acc=>by simp
 | k+1,acc=>by
  have e:acc.toArray++kq.toArray=(acc++kq).toArray:=by simp
  have e2:(acc++kq)++(au k kq).flatten=acc++(au (k+1) kq).flatten:=by
   rw [br,di,bn]
  rw [<- e2,<- foldl_rep kq k (acc++kq),<- e,br,List.foldl_cons]
section
variable {X:Cx} {km:List (Addr×Obj)} {σ:St} {H:Hp} {s:Shared} {l b:Addr} {xs ys zs:List V}
theorem Inv.Ia {its':List Value} {n:Nat} {f:Array Value->Array Value} (I:Inv X km σ H s) (hH:H l=some #[JS])
  (e:s.heap.get? l=some { cls:=.type "list",data:=.seq kq.toArray n }) (hf:f kq.toArray=its'.toArray) (hv:zG ys its') (hz:ys.length<=sizeLine) :
  Inv X km σ (kx H l #[LF]) { s with heap:=s.heap.update l (dC f),toks:=t' }:=by
 have q:=jC e f;rw [hf] at q;refine I.write (x:=l) (e:=l) (by rw [hH]; exact trivial) #[IW] (fun b' u hb hu=>(gR s.heap (dC f) (cQ hb)).trans hu) ⟨_,q⟩ ?_;exact⟨hz,its',_,hv,q⟩
theorem Inv.Ih (I:Inv X km σ H s) (hv:zG ys kq) (hz:ys.length<=sizeLine) :
  Inv X km σ (kx H s.heap.objs.size #[LF]) { s with heap:=s.heap.push { cls:=.type "list",data:=.seq kq.toArray },toks:=t' } :=
 I.laid #[Mm] (ag _) ⟨hz,kq,0,hv,aC _ rfl⟩
theorem Inv.fresh (I:Inv X km σ H s):H s.heap.objs.size=none:=I.hok.fresh (ag _)
theorem Inv.G4 (I:Inv X km σ H s) (hH:H l=some #[JS]):xs.length<=sizeLine/\∃ (kq:List Value) (n:Nat),zG xs kq/\xs.length=kq.length/\s.heap.get? l=some { cls:=.type "list",data:=.seq kq.toArray n }:=by
 obtain⟨z,kq,n,r,e⟩:=I.hok l _ hH;exact⟨z,kq,n,r,r.length,e⟩
theorem zfJ {n:Nat} (h:n<=sizeLine):dn n=false:=by
 unfold dn;exact decide_eq_false #[O]
end
section
variable {X:Cx}
noncomputable def zkm:V->List V->Hp->VK->Prop:=fun x vs H Q=>∃ l xs y,x = .ref l/\vs = [y]/\H l=some #[JS]/\xs.length < sizeLine/\Q .non (kx H l (.lst (xs++[y])))
theorem zc8:MtM X "list.append" zkm:=by
 intro km s σ H x vs v us Q I rx rv h;obtain⟨l,xs,y,rfl,rfl,hH,hz,q⟩:=h;cases rx;obtain⟨u,rfl,ru⟩:=rv.one;obtain⟨z,kq,n,r,hl,e⟩:=I.G4 hH;refine dU iY ⟨_,e,rfl⟩ iI (ij _ _) (jl l kq.toArray n u (by rw [aq]; lia)) ⟨e,?_⟩;refine⟨.non,_,I.Ia (its':=kq++[u]) hH e #[M] (r.append (.cons ru .nil)) ?_,rfl,q⟩;rw [aA,cg];lia
noncomputable def zkn:V->List V->Hp->VK->Prop:=fun x vs H Q=>∃ l b xs zs,x = .ref l/\vs = [.ref b]/\H l=some #[JS]/\H b=some (.lst zs)/\xs.length+zs.length<=sizeLine/\Q .non (kx H l (.lst (xs++zs)))
theorem zes:MtM X "list.extend" zkn:=by
 intro km s σ H x vs v us Q I rx rv h;obtain⟨l,b,xs,zs,rfl,rfl,hH,hB,hz,q⟩:=h;cases rx;obtain⟨u,rfl,ru⟩:=rv.one;cases ru;obtain⟨z,kq,n,r,hl,e⟩:=I.G4 hH;obtain⟨z2,ni,n2,r2,mS,e2⟩:=I.G4 hB;have hsz:kq.toArray.size+ni.toArray.size<=sizeLine:=by rw [aq,aq]; lia
 have sI:¬ (!kq.toArray.isEmpty && dn (kq.toArray.size+ni.toArray.size))=true:=by
  rw [zfJ hsz,j0];exact aO
 refine dU F.slot_list_extend ⟨_,e,rfl⟩ F.entry_list_extend (F.args_list_extend_2 _ _)
  (AutoSeq1.list_extend_list_list_0 l kq.toArray n b ni.toArray n2 sI (by rw [aq]; lia) #[O]) ⟨e,e2,?_⟩
 refine⟨.non,_,I.Ia (its':=kq++ni) hH e #[M] (r.append r2) ?_,rfl,q⟩;rw [aA];lia
noncomputable def zlA:V->List V->Hp->VK->Prop:=fun x vs H Q=>∃ l xs i k y,x = .ref l/\vs = [.int i]/\H l=some #[JS]/\-(2 ^ 63)<=i/\i < 2 ^ 63/\seqIndex? i xs.length=some k/\xs[k]? = some y/\Q y (kx H l (.lst (xs.eraseIdx k)))
theorem zi0:MtM X "list.pop" zlA:=by
 intro km s σ H x vs v us Q I rx rv h;obtain⟨l,xs,i,k,y,rfl,rfl,hH,h1,h2,hk,hy,q⟩:=h;cases rx;obtain⟨u,rfl,ru⟩:=rv.one;obtain⟨t,rfl⟩:=ru;obtain⟨z,kq,n,r,hl,e⟩:=I.G4 hH;obtain⟨w,hw,rj⟩:=r.get hy;refine dU F.slot_list_pop ⟨_,e,rfl⟩ F.entry_list_pop (F.args_list_pop_2 _ _)
  (MeetsSeq.list_pop_at l kq.toArray n i t k w (fitsIndex_both h1 h2) (by rw [aq,<- hl]; exact hk) (by rw [<- aY]; exact hw) (by rw [aq]; lia)) ⟨e,?_⟩
 refine⟨y,_,I.Ia (its':=kq.eraseIdx k) hH e ?_ (r.eraseIdx k) ?_,rj,q⟩
 ·show kq.toArray.eraseIdxIfInBounds k=(kq.eraseIdx k).toArray;rw [List.eraseIdxIfInBounds_toArray]
 ·have:=zer xs k;lia
noncomputable def zmQ:R2:=fun x y H Q=>∃ l b xs zs,x = .ref l/\y = .ref b/\H l=some #[JS]/\H b=some (.lst zs)/\xs.length+zs.length<=sizeLine/\∀ p,H p=none->Q (.ref p) (kx H p (.lst (xs++zs)))
theorem zbN:OpR X #[LI] zmQ:=by
 intro km s σ H x y v u Q I rx ry h;obtain⟨l,b,xs,zs,rfl,rfl,hH,hB,hz,q⟩:=h;cases rx;cases ry;obtain⟨z,kq,n,r,hl,e⟩:=I.G4 hH;obtain⟨z2,ni,n2,r2,mS,e2⟩:=I.G4 hB;refine PySem.P.add_list e e2 ?_ (by rw [aq,aq]; lia);have ea:kq.toArray++ni.toArray=(kq++ni).toArray:=by simp
 rw [ea];exact⟨.ref _,_,I.Ih (t':=s.toks) (r.append r2) (by rw [aA]; lia),rfl,q _ I.fresh⟩
noncomputable def zmR:R2:=fun x y H Q=>∃ l k xs,x = .ref l/\y = .int k/\H l=some #[JS]/\-(2 ^ 63)<=k/\k < 2 ^ 63/\xs.length*k.toNat<=sizeLine /\
 ∀ p,H p=none->Q (.ref p) (kx H p (.lst (au k.toNat xs).flatten))
theorem len_rep {α:Type} (xs:List α) (k:Nat):(au k xs).flatten.length=k*xs.length:=by
 induction k with
 | zero=>simp
 | succ k ih=>rw [br,di,aA,ih,Nat.succ_mul,Nat.add_comm]
theorem zgG:OpR X (binaryOp .Mult) zmR:=by
 intro km s σ H x y v u Q I rx ry h;obtain⟨l,k,xs,rfl,rfl,hH,h1,h2,hz,q⟩:=h;cases rx;obtain⟨t,rfl⟩:=ry;obtain⟨z,kq,n,r,hl,e⟩:=I.G4 hH;have kB:kq.toArray.size*k.toNat<=sizeLine:=by rw [aq,<- hl]; exact hz
 have Bf:¬ kq.toArray.size*k.toNat > (2 ^ 63 - 1) / 8:=by
  have:(sizeLine:Nat)<=(2 ^ 63 - 1) / 8:=by decide
  lia
 have ug:¬ (!Builtin.List.listFitsIndex k)=true:=by
  rw [fitsIndex_both h1 h2];exact aO
 have sI:¬ dn (kq.toArray.size*k.toNat)=true:=by
  rw [zfJ kB];exact aO
 have Bg:jS #[MF] #[] (au (if kq.toArray.isEmpty=true then 0 else k.toNat) kq.toArray)=(au k.toNat kq).flatten.toArray:=by
  have f0:∀ m:Nat,jS #[MF] #[] (au m kq.toArray)=(au m kq).flatten.toArray:=fun m=>by
   have:=foldl_rep kq m [];rw [dD] at this;exact this
  rw [f0];cases kq with
  | nil=>simp
  | cons a r'=>rw [if_neg #[M]]
 refine wpAny_binaryOp_repeat_ref (T:="list") (U:="int") #[D] ⟨_,e,rfl⟩ (fun s'=>jR s' k t) noFill_list_mul F.fills_int_mul F.slot_int_rmul repeat_list F.slot_int_index.lookup
  (dU F.slot_int_rmul (jR s k t) F.entry_int_rmul (F.args_int_rmul_2 _ _) (int___rmul___int_list k t l kq.toArray n)
   ⟨e,rfl,⟨_,e,rfl⟩,dU F.slot_list_mul ⟨_,e,rfl⟩ F.entry_list_mul (F.args_list_mul_2 _ _) (AutoListH.list___mul___list_int_3 l kq.toArray n k t ug Bf sI) ⟨e,?_⟩⟩)
 rw [Bg];exact⟨.ref _,_,I.Ih (t':=s.toks) (r.rep k.toNat) (by rw [len_rep,iZ]; exact hz),rfl,q _ I.fresh⟩
end
end L2
namespace Att
open PySem PySem.W PySem.Calls PyProof.Rows
theorem zdp {P:Params} {h:Heap}:∀ (ns:List Int) (vs:List Value),WellAll P h vs (ns.map WData.int)->IntsAre vs ns:=by
 intro ns;induction ns with
 | nil =>
  intro vs w;rw [iX] at w;cases w;exact .nil
 | cons n ns ih =>
  intro vs w;rw [aT] at w;cases w with
  | cons a b =>
   cases a;exact .cons _ _ (ih _ b)
theorem zhT {l:OpenLaw} {n:Nat} (hn:l.most=some n) {P:Params} {h:Heap} {args:List WData} {vals:List Value}
  (uh:l.row.toRowW.claim.pre args=true) (xp:WellAll P h vals args) :
  ∃ a vs ns,vals = [aP a]/\args = [WData.list (ns.map WData.int)]/\h.get? a=some { cls:=.type "list",data:=.seq vs.toArray }/\IntsAre vs ns/\ns.length<=n:=by
 have hsh:WShape.hasAll [] args [.list .int]=true:=(pre_splitW uh).1;have hc:l.pre.holds [] { args:=args }=true:=(pre_splitW uh).2;obtain⟨d,r,rfl,h1,h2⟩:=hasAllW_cons hsh;obtain rfl:=hasAllW_nil h2;obtain⟨xs,rfl,h3⟩:=hasW_list h1;obtain⟨ns,rfl⟩:=items_int h3;have kB:ns.length<=n:=by
  unfold OpenLaw.pre at hc;have h4:(WTm.not (.lt (.lit (.int (n:Int))) (.len (.arg 0)))).holds [] { args:=[.list (ns.map .int)] }=true:=by
   have h4:=(holds_andW hc).1;rw [hn] at h4;exact h4
  have h5:=condW_of h4 (w_not (w_lt w_lit (w_len_list (w_arg rfl))));rw [aa] at h5;refine Nat.le_of_not_lt fun q=>?_
  have q':(n:Int) < ((ns.length:Nat):Int):=by lia
  first
   | (rw [decide_eq_true q'] at h5; exact absurd h5 #[D])
   | (simp at h5; lia)
 cases xp with
 | cons w1 w2 =>
  cases w2;cases w1 with
  | list ho l9=>exact⟨_,_,ns,rfl,rfl,ho,zdp ns _ l9,kB⟩
theorem zhU (l:OpenLaw) (args:List WData):l.row.toRowW.claim.post args #[Ka] args=true :=
 postW_of (r:=l.row.toRowW) (X:=(true == true))
  (show WShape.has [] #[Ka] .bool=true by first | rfl | decide | simp [WShape.has,WShape.arms,WShape.armsAll])
  (show (WTm.eq .res (.lit #[Ka])).value [] { args:=args,res:=some #[Ka],after:=args }=some (.bool (true == true)) from w_eq_bool (w_res rfl) w_lit) rfl
theorem FV {l:OpenLaw} {n:Nat} {q:Program} {loose:List Str} {XP:#[Mo]->Heap->Prop} {YP:World->Heap->Prop} {d:DefRec}
  (hn:l.most=some n) (tW:d.params.defaults = [])
  (call:∀ (w:World) (s₀ s₁:Shared) (mg mb:Str->Option Value) (fa:Addr) (o:Obj) (pm cd doc:Value) (a:Addr) (vs:List Value) (ns:List Int),
   Ground q loose [] XP w s₀ mg mb s₁.heap->YP w s₁.heap ->
   s₁.heap.get? fa=some o->o.data = .func (docDef d.name d.params d.body d.scope pm cd doc)->s₁.heap.CodeRec cd d.name->mg d.name=some (.ref fa) ->
   s₁.heap.get? a=some { cls:=.type "list",data:=.seq vs.toArray }->IntsAre vs ns->ns.length<=n->s₁.gens = #[] ->
   codeAny (model l.prog w) callerA (.call (.ref fa) ⟨[.ref a],[]⟩) (fun r s'=>r = .ok (.ret #[Ka])/\OldK s₁.heap s'.heap/\s'.os=s₁.os/\AllBare s'.gens) s₁) :
  WalkO q loose XP YP l.row.toRowW d [] #[Ml]:=by
 intro w s₀ s₁ mg mb G Y fa o pm cd doc dV kV ho hd n4 hD rk hg args vals as uh hlay hrd xp nR;obtain rfl:dV = .none:=Dflts.none hD tW;obtain rfl:kV = .none:=Dflts.noKw hD;obtain⟨a,vs,ns,rfl,rfl,vz,hints,kB⟩:=zhT hn uh xp;refine enter_call (c7 (call w s₀ s₁ mg mb fa o pm cd doc a vs ns G Y ho (fd_plain hd) n4 rk vz hints kB hg) fun r s' hq=>?_);obtain⟨rfl,h2,h3,h4⟩:=hq;exact⟨.inl ⟨.bool true,.bool true,[],rfl,fun _=>rfl,.bool true,zhU l _,fun _=>⟨gg,fun _ hm=>(nomatch hm)⟩⟩,h2,h3,h4⟩
section
variable {prog:Program} {w:World} {A:Around} {E:Value->Shared->Prop} {s:Shared} {K:Frag}
noncomputable def Fe (h:Heap):Heap:={ h with objs:=#[] }
theorem zcB (h:Heap) (b:Addr):(Fe h).get? b=none:=by
 cases e:(Fe h).get? b with
 | none=>rfl
 | some o=>exact absurd (az e) (Nat.not_lt_zero _)
noncomputable def ledger (h:Heap) (L d:Addr):List (Addr×Obj):=(bW h.objs.size).filterMap fun a=>if a=L\/a=d then none else (h.get? a).map fun o=>(a,o)
theorem Ew {h:Heap} {L d a:Addr} {o:Obj}:(a,o)∈ledger h L d↔a≠L/\a≠d/\h.get? a=some o:=by
 unfold ledger;rw [fS];constructor
 ·rintro⟨b,_,e⟩;split at e
  ·cases e
  ·rename_i hb
   obtain⟨o',ho,e'⟩:=eQ.mp e;cases e';exact⟨fun q=>hb (.inl q),fun q=>hb (.inr q),ho⟩
 ·rintro⟨n1,n2,ho⟩;refine⟨a,cu.mpr (az ho),?_⟩;rw [if_neg (show ¬ (a=L\/a=d) from fun q=>q.elim n1 n2),ho] <;> rfl
theorem FO {h:Heap} {L d:Addr} {od:Obj} (lW:d≠L) (ho:h.get? d=some od):News (Fe h) L h ([]++(d,od) :: ledger h L d):=by
 rintro⟨a,o⟩ hp;rcases aK.mp hp with e | hp
 ·cases e;exact⟨ho,lW,zcB _ _⟩
 ·obtain⟨n1,n2,e⟩:=Ew.mp hp;exact⟨e,n1,zcB _ _⟩
theorem HG {h:Heap} {L:Addr} {m:Str->Option Value} (n:h.Ns L m):Fr (Fe h) L h m :=
 ⟨n,fun b o e=>(by rw [zcB] at e; cases e),bg _⟩
end
end Att
namespace L2
open PySem PySem.Spec PyProof.Rows
variable {H H' H1 H2:Hp} {N:List Str} {an od:Option Addr} {ct doc kL oc pm:Value} {fd:FuncData} {k:Nat} {qual:Str} {ri:Array #[Kj]} {sp:Sp}
theorem zet:∀ {vs:List Value} {ns:List Int},IntsAre vs ns->zG #[ww] vs
 | _,_,.nil=>.nil
 | _,_,.cons n t h=>.cons ⟨t,rfl⟩ (zet h)
noncomputable def zbr (s:Stmt):Arguments:=match s with
 | .FunctionDef _ a _ _ _ _ _ _ _ _=>a
 | _=>{ posonlyargs:=[],args:=[],vararg:=none,kwonlyargs:=[],kw_defaults:=[],kwarg:=none,defaults:=[] }
noncomputable def zaN (s:Stmt):List Stmt:=match s with
 | .FunctionDef _ _ b _ _ _ _ _ _ _=>b
 | _=>[]
noncomputable def zh (s:Stmt):Scope:=match s with
 | .FunctionDef _ _ _ _ _ _ sc _ _ _=>sc
 | _=>{ kind:=.function,names:=[],isGenerator:=false,isCoroutine:=false }
abbrev CX0:CXT:=fun _ _ _ _ _ _=>False
abbrev E0:XK:=fun _ _ _=>False
theorem zY {X:Cx}:zgF CX0 X E0:=fun _ _ _ _ _ _ _ h=>h.elim
structure Fun (K:af) (x qual:Str) (st:Stmt) (f:Addr) (fd:FuncData):Prop where
 ex:∃ (oc:Value) (od:Option Addr) (kV doc pm:Value) (an:Option Addr) (kL ct:Value) (ri:Array #[Kj]),
  fd=ci x qual (zbr st) (zaN st) (zh st) .none kV doc pm an kL ct/\K.lookup f=some ⟨oc,od,.func fd,ri⟩/\dL K kL qual=true
 kp:dm K #[J9]=true
section
variable {P:Program} {w:World} {K:af} {mg:Str->Option Value} {base:Heap}
theorem Fun.ok {x:Str} {st:Stmt} {f:Addr} {ps:List Str} (F:Fun K x qual st f fd) (S:DF N ps (zh st)) (len:∀ vs H Q E,sp vs H Q E->vs.length=ps.length)
  (l8:∀ (kL:Value) (A:Around) (outer:List Env) (s:Shared) (H:Hp) (vs:List V) (Q:VK) (E:XK),EZ k #[IA]->sp vs H Q E ->
   ∃ t,PSs (zcA CX0 P w K mg base N qual (zh st) f kL A outer s H E).nox (zaN st) t/\t { nx:=fun _ H'=>Q .non H',rt:=Q } #[Jh] H):D1 P w K mg base CX0 (k+1) f fd ps sp:=by
 obtain⟨oc,od,kV,doc,pm,an,kL,ct,ri,rfl,lk,n4⟩:=F.ex;refine ziZ lk n4 S len fun A outer s H vs Q E hr oY=>?_
 obtain⟨t,h,q⟩:=l8 kL A outer s H vs Q E hr oY;exact⟨t,h.nox,q⟩
theorem Fun.binds {x:Str} {st:Stmt} {f:Addr} {ps:List Str} (F:Fun K x qual st f fd)
  (h:∀ (kV doc pm:Value) (an:Option Addr) (kL ct:Value) (us:List Value),us.length=ps.length->bindArgs #[GM] ⟨us,[]⟩=pure #[LZ]):Binds K fd ps []:=by
 obtain⟨oc,od,kV,doc,pm,an,kL,ct,ri,rfl,lk,n4⟩:=F.ex;exact .all (h kV doc pm an kL ct)
theorem zi1 {x:Str} {st:Stmt} {f:Addr} {kV:Value} (l:K.lookup f=some ⟨oc,od,.func #[GM],ri⟩)
  (c:dL K kL qual=true) (k:dm K #[J9]=true):Fun K x qual st f #[GM]:=⟨⟨oc,od,kV,doc,pm,an,kL,ct,ri,rfl,l,c⟩,k⟩
end
theorem zgH {A B:Prop} (h:B):if false=true then A else B:=by
 rw [if_neg aO];exact h
theorem zmS {A B:Prop} (h:A):if true=true then A else B:=by
 rw [if_pos rfl];exact h
theorem zaW {c A B:Prop} [Decidable c] (h1:c->A) (h2:¬ c->B):if c then A else B:=by
 by_cases h:c
 ·rw [if_pos h];exact h1 h
 ·rw [if_neg h];exact h2 h
noncomputable def zw (H H':Hp):Prop:=∀ b o,H b=some o->H' b=some o
theorem zw.trans (a:zw H H1) (b:zw H1 H2):zw H H2:=fun c o h=>b c o (a c o h)
theorem zw.free (e:zw H H') {l:Addr} (h:H' l=kg):H l=kg:=by
 cases q:H l with
 | none=>rfl
 | some o =>
  rw [e l o q] at h;cases h
theorem zw.seq {K:af} {a:Addr} {xs:List V} (e:zw H H') (h:kr K H a xs):kr K H' a xs:=by
 rcases h with (h | ⟨o,h⟩) | h
 ·exact .inl (.inl (e _ _ h))
 ·exact .inl (.inr ⟨o,e _ _ h⟩)
 ·exact .inr h
end L2
section
namespace L2
open PySem
abbrev Ends.n (D:Ends) (N:St->Hp->Prop):Ends:={ D with nx:=N }
section
variable {r1 r2 r3 r4 r5 r6 r7 r8 r9 r10 r11 r12 r13 r14 r15:TS} {D:Ends} {σ:St} {H:Hp}
theorem zlB (h:let N2:=r2 D; r1 (D.n N2) σ H):(zbi r1 r2) D σ H:=h
theorem zhV (h:let N3:=r3 D; let N2:=r2 (D.n N3); r1 (D.n N2) σ H):(zbi r1 (zbi r2 r3)) D σ H:=h
theorem zko (h:let N4:=r4 D; let N3:=r3 (D.n N4); let N2:=r2 (D.n N3); r1 (D.n N2) σ H):(zbi r1 (zbi r2 (zbi r3 r4))) D σ H:=h
theorem zlC (h:let N5:=r5 D; let N4:=r4 (D.n N5); let N3:=r3 (D.n N4); let N2:=r2 (D.n N3); r1 (D.n N2) σ H):(zbi r1 (zbi r2 (zbi r3 (zbi r4 r5)))) D σ H:=h
theorem zmT (h:let N6:=r6 D; let N5:=r5 (D.n N6); let N4:=r4 (D.n N5); let N3:=r3 (D.n N4); let N2:=r2 (D.n N3); r1 (D.n N2) σ H):(zbi r1 (zbi r2 (zbi r3 (zbi r4 (zbi r5 r6))))) D σ H:=h
theorem zkp (h:let N7:=r7 D; let N6:=r6 (D.n N7); let N5:=r5 (D.n N6); let N4:=r4 (D.n N5); let N3:=r3 (D.n N4); let N2:=r2 (D.n N3); r1 (D.n N2) σ H):(zbi r1 (zbi r2 (zbi r3 (zbi r4 (zbi r5 (zbi r6 r7)))))) D σ H:=h
theorem zbg {X0:Cx} {B:List PySem.Stmt} (h:let X:=X0; ∃ t,PSs X B t/\t D σ H):∃ t,PSs X0 B t/\t D σ H:=h
end
end L2
end
section
namespace L2
open PySem PySem.Spec PyProof.Rows
variable {A:Around} {H:Hp} {J:It} {M:Model} {X:Cx} {env:Env} {km:List (Addr×Obj)} {qual:Str} {s:Shared} {scope:Scope} {te:TE} {σ0:St}
noncomputable def zaj (cs:List (Str×Addr)):List (Str×NameKind)->List (Str×Addr)->List (Str×Addr)
 | [],acc=>acc
 | (n,k) :: r,acc=>if k == .free then zaj cs r ((n,(cs.lookup n).getD 0) :: acc) else zaj cs r acc
theorem zcu (h:∀ y∈scope.names,y.2 = .free->∃ c,env.cells.lookup y.1=some c) :
  closureFor scope env=pure (zaj env.cells scope.names []):=by
 have go:∀ (names:List (Str×NameKind)) (acc:List (Str×Addr)),(∀ y∈names,y.2 = .free->∃ c,env.cells.lookup y.1=some c) ->
   (forIn names acc (fun (x:Str×NameKind) (cs:List (Str×Addr))=>(if (x.2 == bQ)=true then do
    let a <- cellOf env x.1
    pure (cb ((x.1,a) :: cs)) else pure (cb cs):Sem (ForInStep (List (Str×Addr))))))=(pure (zaj env.cells names acc):Sem _):=by
  intro names;induction names with
  | nil=>intro acc _; rfl
  | cons y r ih =>
   intro acc hy;obtain⟨n,k⟩:=y;rw [gI];cases hk:(k == bQ) with
   | true =>
    obtain⟨c,hc⟩:=hy (n,k) aw (by simpa using hk);have nM:cellOf env n=pure c:=by
     unfold cellOf;have lE:env.cells.lookup n=some c:=hc;rw [lE]
    simp only [hk,if_true,nM];have e:=ih ((n,c) :: acc) fun y vA=>hy y (aj _ vA)
    have lE:env.cells.lookup n=some c:=hc;simp only [zaj,hk,if_true,lE,jD];exact e
   | false =>
    simp only [hk,bp,if_false];have e:=ih acc fun y vA=>hy y (aj _ vA)
    simp only [zaj,hk,bp,if_false];exact e
 have e:=go scope.names [] h;unfold closureFor;show (forIn scope.names [] _ >>= fun cs=>pure cs)=_
 first
  | (rw [e]; rfl)
  | (simp only []; rw [e]; rfl)
  | (have e':=e; simp at e' |-; exact e')
theorem zbu {cs:List (Str×Addr)}:∀ (names:List (Str×NameKind)) (acc:List (Str×Addr)),
  (∀ y∈names,y.2 = .free->∃ c,cs.lookup y.1=some c)->(∀ x c,acc.lookup x=some c->cs.lookup x=some c) ->
  ∀ x c,(zaj cs names acc).lookup x=some c->cs.lookup x=some c
 | [],acc,_,h,x,c,e=>h x c e
 | (n,k) :: r,acc,hy,h,x,c,e=>by
  have hr:∀ y∈r,y.2 = .free->∃ c,cs.lookup y.1=some c:=fun y vA=>hy y (aj _ vA)
  unfold zaj at e;cases hk:(k == bQ) with
  | false =>
   rw [hk] at e;exact zbu r acc hr h x c e
  | true =>
   rw [hk] at e;obtain⟨d,hd⟩:=hy (n,k) aw (by simpa using hk);have ud:cs.lookup n=some d:=hd;refine zbu r _ hr (fun x c e'=>?_) x c e;rw [ud,jD,bo] at e';cases hx:(x == n) with
   | true =>
    rw [hx] at e';have:x=n:=by simpa using hx
    subst this;rw [ud];exact e'
   | false =>
    rw [hx] at e';exact h x c e'
theorem zbO {cs:List (Str×Addr)}:∀ (names:List (Str×NameKind)) (acc:List (Str×Addr)) (x:Str),
  ((∃ c,acc.lookup x=some c)\/(x,bQ)∈names)->∃ c,(zaj cs names acc).lookup x=some c
 | [],acc,x,h=>by
  rcases h with h | h
  ·exact h
  ·cases h
 | (n,k) :: r,acc,x,h=>by
  unfold zaj;cases hk:(k == bQ) with
  | false =>
   refine zbO r acc x ?_;rcases h with h | h
   ·exact .inl h
   ·rcases aK.mp h with h | h
    ·cases h;exact absurd hk #[D]
    ·exact .inr h
  | true =>
   refine zbO r _ x ?_;cases hx:(x == n) with
   | true=>exact .inl ⟨_,by rw [bo,hx]⟩
   | false =>
    rcases h with ⟨c,h⟩ | h
    ·exact .inl ⟨c,by rw [bo,hx]; exact h⟩
    ·rcases aK.mp h with h | h
     ·cases h;simp at hx
     ·exact .inr h
theorem lookup_mem {α:Type}:∀ {l:List (Str×α)} {x:Str} {k:α},l.lookup x=some k->(x,k)∈l
 | [],x,k,h=>by simp at h
 | (n,j) :: r,x,k,h=>by
  rw [bo] at h;cases hx:(x == n) with
  | true =>
   rw [hx] at h;have:x=n:=by simpa using hx
   subst this;cases h;exact aw
  | false =>
   rw [hx] at h;exact aj _ (lookup_mem h)
theorem zbh {env:Env}:∀ {names:List (Str×NameKind)} {x:Str},names.lookup x=some .free ->
  (names.map fun (n,k)=>if (k == bQ && env.scope.kind == .function && env.kindOf n == some .cell) then (n,cE) else (n,k)).lookup x=some .cell \/
  (names.map fun (n,k)=>if (k == bQ && env.scope.kind == .function && env.kindOf n == some .cell) then (n,cE) else (n,k)).lookup x=some .free
 | [],_,h=>by simp at h
 | (n,k) :: r,x,h=>by
  have ih:=@zbh env r x;simp only [aT];cases hx:x == n with
  | true =>
   simp only [bo,hx] at h; cases h;by_cases hc:(bQ == bQ && env.scope.kind == .function && env.kindOf n == some .cell)=true
   ·rw [if_pos hc]; left; simp only [bo,hx]
   ·rw [if_neg hc]; right; simp only [bo,hx]
  | false =>
   simp only [bo,hx] at h; rcases ja ((k == bQ && env.scope.kind == .function && env.kindOf n == some .cell)=true) with hc | hc
   ·exact (by rw [if_pos hc]; simp only [bo,hx]; exact ih h)
   ·exact (by rw [if_neg hc]; simp only [bo,hx]; exact ih h)
theorem zcK {env:Env}:∀ {names:List (Str×NameKind)} {x:Str},
  ((names.map fun (n,k)=>if (k == bQ && env.scope.kind == .function && env.kindOf n == some .cell) then (n,cE) else (n,k)).lookup x=some .cell \/
  (names.map fun (n,k)=>if (k == bQ && env.scope.kind == .function && env.kindOf n == some .cell) then (n,cE) else (n,k)).lookup x=some .free) ->
  names.lookup x=some .free\/names.lookup x=some .cell
 | [],_,h=>by simp at h
 | (n,k) :: r,x,h=>by
  have ih:=@zcK env r x;simp only [aT] at h;cases hx:x == n with
  | true =>
   rcases ja ((k == bQ && env.scope.kind == .function && env.kindOf n == some .cell)=true) with hc | hc
   ·have hk:k = .free:=by
     simp only [eW] at hc; simpa using hc.1.1
    subst hk;exact .inl (by simp only [bo,hx])
   ·rw [if_neg hc] at h;simp only [bo,hx] at h |-;rcases h with h | h
    ·exact .inr h
    ·exact .inl h
  | false =>
   rcases ja ((k == bQ && env.scope.kind == .function && env.kindOf n == some .cell)=true) with hc | hc
   ·rw [if_pos hc] at h;simp only [bo,hx] at h |-;exact ih h
   ·rw [if_neg hc] at h;simp only [bo,hx] at h |-;exact ih h
theorem zeX:∀ (names:List (Str×NameKind)) (n:Nat) (acc:List (Str×Addr)) (x:Str),(x,cE)∉names->(cellsFrom n names acc).lookup x=acc.lookup x
 | [],_,_,_,_=>rfl
 | (y,k) :: r,n,acc,x,h=>by
  have hr:(x,cE)∉r:=fun z=>h (aj _ z)
  unfold cellsFrom;split
  ·rename_i hk
   have sJ:k = .cell:=by simpa using hk
   rw [zeX r _ _ x hr,bo];cases hx:(x == y) with
   | true =>
    have:x=y:=by simpa using hx
    subst this;subst sJ;exact absurd aw h
   | false=>rfl
  ·exact zeX r _ _ x hr
theorem zeY:∀ (names:List (Str×NameKind)) (n:Nat) (acc:List (Str×Addr)) (x:Str),(x,cE)∈names->∃ c,(cellsFrom n names acc).lookup x=some c/\n<=c
 | (y,k) :: r,n,acc,x,h=>by
  by_cases hr:(x,cE)∈r
  ·unfold cellsFrom;split
   ·obtain⟨c,e,l⟩:=zeY r (n+1) ((y,n) :: acc) x hr;exact⟨c,e,#[O]⟩
   ·exact zeY r n acc x hr
  ·rcases aK.mp h with e | e
   ·cases e;unfold cellsFrom;rw [if_pos #[D],zeX r _ _ _ hr,bo,beq_self_eq_true];exact⟨n,rfl,ag _⟩
   ·exact absurd e hr
structure CO (h:Heap) (lo:Nat) (old cs:List (Str×Addr)):Prop where
 each:∀ x c,cs.lookup x=some c->(h.IsCell c none/\lo<=c)\/(old.lookup x=some c/\c < lo)
 inj:∀ x y c,cs.lookup x=some c->cs.lookup y=some c->x=y
theorem zi2 {lo:Nat} {old:List (Str×Addr)}:∀ (names:List (Str×NameKind)) (h:Heap) (acc:List (Str×Addr)),CO h lo old acc->lo<=h.objs.size->CO (pushCells h names) lo old (cellsFrom h.objs.size names acc)
 | [],_,_,a,_=>a
 | (y,k) :: r,h,acc,a,hl=>by
  unfold pushCells cellsFrom;split
  ·have lt:∀ x c,acc.lookup x=some c->c < h.objs.size:=fun x c e=>(a.each x c e).elim (fun z=>z.1.lt) fun z=>aN z.2 hl
   have key:∀ x c,List.lookup x ((y,h.objs.size) :: acc)=some c->(x=y/\c=h.objs.size)\/acc.lookup x=some c:=fun x c e=>by
    rw [bo] at e;cases hx:(x == y) with
    | true =>
     rw [hx] at e;exact .inl ⟨by simpa using hx,(aQ e).symm⟩
    | false =>
     rw [hx] at e;exact .inr e
   have:=zi2 (lo:=lo) (old:=old) r (h.push { cls:=.type "cell",data:=.cell none }) ((y,h.objs.size) :: acc) ⟨fun x c e=>?_,fun x z c e1 e2=>?_⟩ (by rw [bx]; lia)
   ·rw [bx] at this;exact this
   ·rcases key x c e with ⟨_,rfl⟩ | e
    ·exact .inl ⟨⟨_,aC _ rfl,rfl⟩,hl⟩
    ·rcases a.each x c e with z | z
     ·exact .inl ⟨z.1.keeps fun b o e=>ai _ e,z.2⟩
     ·exact .inr z
   ·rcases key x c e1 with ⟨p1,q1⟩ | f1 <;> rcases key z c e2 with ⟨p2,q2⟩ | f2
    ·exact p1.trans p2.symm
    ·exact absurd (lt _ _ f2) (by rw [q1]; exact bE _)
    ·exact absurd (lt _ _ f1) (by rw [q2]; exact bE _)
    ·exact a.inj x z c f1 f2
  ·exact zi2 r h acc a hl
theorem zhW {E:Value->Shared->Prop} {globals:Addr} {closure:List (Str×Addr)} {Q:Env->Shared->Prop}
  (h:Q (newEnv scope s.heap.objs.size globals (cellsFrom #[Kl] scope.names closure) qual none .none (some env) builtinsNs) { s with heap:=pushCells (s.heap.push { cls:=.type "dict",data:=.dict #[] }) scope.names }) :
  wpAny M A (newFunctionEnv scope globals closure [] qual none .none (some env)) Q E s:=by
 (simp only [newFunctionEnv,jb,if_true])
 (refine ae (wpAny_alloc ?_))
 (refine ae (wpAny_layCells _ (fun name kind cells=>by cases hkc:kind == cE <;> simp [hkc]) _ _ _ _ ?_))
 rw [show ({ s with heap:=s.heap.push { cls:=.type "dict",data:=.dict #[] } }:Shared).heap.objs.size=s.heap.objs.size+1 from bx ..]
 (exact ae (ak (ak h)))
abbrev zL (X:Cx) (N':List Str) (scope:Scope) (s₃:Shared) (H₃:Hp) (ex:List Addr) (km:List (Addr×Obj)):Cx :=
 { X with N:=N',s₀:=s₃,H₀:=H₃,env:=compEnvC scope (cellsFrom (s₃.heap.objs.size+1) scope.names (zaj X.env.cells scope.names [])) s₃.heap.objs.size X.env,outer:=X.stack,stack:=X.stack,ex:=ex,fn:=fun x=>scope.names.lookup x == some .cell,pn:=X.pn++km,xe:=fun _ _=>False }
noncomputable def zgI (ifs:List Expr) (env:Env):Sem Bool :=
 forIn ifs true fun c r=>if r=true then do let ok <- isTrue c env (eval c env); pure (cb ok) else pure (cb r)
noncomputable def zdq (X:Cx) (ifs:List Expr) (t:TT):Prop :=
 ∀ (km:List (Addr×Obj)) (s:Shared) (σ:St) (H:Hp) (Q:Bool->Hp->Prop),Inv X km σ H s->t σ H Q->wpAny #[li] X.A (zgI ifs X.env) (TP X km σ Q) X.xe s
noncomputable def zkq:TT:=fun _ H Q=>Q true H
theorem zak {X:Cx}:zdq X [] zkq:=fun _ _ _ H _ I h=>ak ⟨H,I,h⟩
theorem zbA {X:Cx} {c:Expr} {t:TT} (h:PT X c t):zdq X [c] t:=by
 intro km s σ H Q I hw;unfold zgI;rw [gI];simp only [if_true];exact ae (ae (thn #[LC] fun b s1 q=>ak (ak q)))
structure DH (X:Cx) (N':List Str) (ix:List #[FM]) (scope:Scope):Prop where
 kind:scope.kind = .function
 cells:∀ y∈scope.names,y.2 = .cell->scope.names.lookup y.1=some .cell
 names:∀ y∈scope.names,y.2 = .local->scope.names.lookup y.1=some .local
 free:∀ y∈scope.names,y.2 = .free->X.env.kindOf y.1=some .cell\/X.env.kindOf y.1=some .free
 len:N'.length=ix.length
 cap:∀ j i:Nat,ix[j]? = some (some i)->∃ x,N'[j]? = some x/\X.N[i]? = some x/\scope.names.lookup x=some .free
noncomputable def zhf (wM:Scope) (oN N':List Str) (ix:List #[FM]) (scope:Scope):Bool :=
 (scope.kind == .function) && (scope.names.all fun y=>y.2 != .cell || scope.names.lookup y.1 == some .cell) && (scope.names.all fun y=>y.2 != .local || scope.names.lookup y.1 == some .local) &&
 (scope.names.all fun y=>y.2 != .free || (wM.names.lookup y.1 == some .cell || wM.names.lookup y.1 == some .free)) && (N'.length == ix.length) &&
 ((bW ix.length).all fun j=>match ix[j]? with
  | some (some i)=>(match N'[j]? with
   | some x=>oN[i]? == some x && scope.names.lookup x == some .free
   | none=>false)
  | _=>true)
theorem DH.of {N':List Str} {ix:List #[FM]} (wM:Scope) (oN:List Str) (h1:X.env.scope=wM) (h2:X.N=oN) (hb:zhf wM oN N' ix scope=true):DH X N' ix scope:=by
 unfold zhf at hb;simp only [eW,eX] at hb;obtain⟨⟨⟨⟨⟨a,b⟩,c⟩,d⟩,e⟩,f⟩:=hb;refine⟨?_,fun y hy hl=>?_,fun y hy hl=>?_,fun y hy hf=>?_,by simpa using e,fun j i hj=>?_⟩
 ·revert a
  cases scope.kind <;> first | (intro _; rfl) | (intro h; exact absurd h #[D])
 ·have:=b y hy;rw [hl] at this;simpa using this
 ·have:=c y hy;rw [hl] at this;simpa using this
 ·have:=d y hy;rw [hf] at this;have e1:X.env.kindOf y.1=wM.names.lookup y.1:=by rw [<- h1]; rfl
  rw [e1];simpa using this
 ·have kU:j < ix.length:=(aH.mp hj).1;have:=f j (cu.mpr kU);rw [hj] at this;cases hN:N'[j]? with
  | none =>
   rw [hN] at this;simp at this
  | some x =>
   rw [hN] at this;refine⟨x,rfl,?_⟩;rw [h2];simpa using this
noncomputable def zcL (ix:List #[FM]) (σ:St):St:=ix.map fun o=>match o with
 | none=>none
 | some i=>(σ[i]?).join
theorem Inv.GY {σ:St} {D:Addr} {o:HO} (I:Inv X km σ H s) (hn:H D=none) (hs:X.s₀.heap.objs.size<=D) (hL:X.env.locals≠D)
  (hC:∀ x c,X.env.cells.lookup x=some c->c≠D) (hp:∀ p∈X.pn++km,p.1≠D) (ok:z6 X.prog X.w (kx H D o) s.heap D o):Inv X km σ (kx H D o) s:=by
 have ne:∀ b u,H b=some u->b≠D:=fun b u e=>zq e hn
 refine⟨I.ok,I.os,I.bare,#[IU],I.loc,I.cell,?_,fun x c e=>?_,fun p n6=>?_,fun b u e=>?_,I.len⟩
 ·have:b≠D:=aS (aN (az e) hs);rw [zp this];exact I.base.free b u e n hx
 ·have:=I.base.Fc b xs e;rw [zp (ne b _ this)];exact this
 ·have:=I.base.Fz b u xs e;rw [zp (ne b _ this)];exact this
 ·obtain⟨more,q⟩:=I.base.Fy b ps e;exact⟨more,by rw [zp (ne b _ q)]; exact q⟩
 ·rw [zp hL];exact I.free
 ·rw [zp (hC x c e)];exact I.D4 x c e
 ·obtain⟨a1,a2,a3⟩:=I.pin p n6;exact⟨a1,by rw [zp (hp p n6)]; exact a2,a3⟩
 ·by_cases hb:b=D
  ·subst hb;rw [zb] at e;cases e;exact ok
  ·rw [zp hb] at e;exact #[KP].FF (fun c v _ q=>q) (fun c q=>by rw [zp (ne c _ q)]; exact q) fun c xs q=>by rw [zp (ne c _ q)]; exact q
noncomputable def cGo (g:TG) (ts:TT) (te:TE) (σ0:St) (J:It) (Q:VK) (H1:Hp):Prop :=
 ∃ W:Nat->Nat->List V->Hp->Prop,(∃ m,W 0 m [] H1)/\∀ i m ys H,W i m ys H ->
  (J.stop i H/\∀ D,H D=none->Q #[Is] (kx H D #[LF])) \/
  (J.go i H/\∃ N:List V->Hp->Prop,(∀ pP H',N pP H'->∃ m',m' < m/\W (i+1) m' pP H')/\∀ x H',J.yld i H x H'->g x σ0 H' fun σ2 H2=>ts σ2 H2 fun b H3 =>
   if b=true then te σ2 H3 fun y H4=>ys.length < sizeLine/\N (ys++[y]) H4 else N ys H3)
noncomputable def zk5 (ix:List #[FM]) (wi:TI) (g:TG) (ts:TT) (te:TE):TE:=fun σ H Q=>wi σ H fun J H1=>cGo g ts te #[Nc] J Q H1
theorem zeZ {n:Nat} {g:TG} {ts:TT} {Q:VK} (Pv:Nat->List V->Hp->Prop) (h0:Pv 0 [] H) (ui:∀ i ys H,i < n->Pv i ys H->J.go i H) (nN:∀ ys H,Pv n ys H->J.stop n H)
  (hs:∀ i x ys H H',i < n->Pv i ys H->J.yld i H x H'->g x σ0 H' fun σ2 H2=>ts σ2 H2 fun b H3=>if b=true then te σ2 H3 fun y H4=>ys.length < sizeLine/\Pv (i+1) (ys++[y]) H4 else Pv (i+1) ys H3)
  (hd:∀ ys H D,Pv n ys H->H D=none->Q #[Is] (kx H D #[LF])):cGo g ts te σ0 J Q H:=by
 refine⟨fun i m ys H=>m=n - i/\i<=n/\Pv i ys H,#[KU],?_⟩;rintro i m ys H ⟨rfl,hi,p⟩;by_cases kU:i < n
 ·exact .inr #[Jc]
 ·have e:i=n:=by lia
  subst e;exact .inl ⟨nN ys H p,fun D hD=>hd ys H D p hD⟩
theorem zlD {n:Nat} {g:TG} {tb:TS} {D:Ends} {σ:St} (Pv:Nat->St->Hp->Prop) (h0:Pv 0 σ H) (ui:∀ i σ H,i < n->Pv i σ H->J.go i H) (nN:∀ σ H,Pv n σ H->J.stop n H)
  (hs:∀ i x σ H H',i < n->Pv i σ H->J.yld i H x H'->g x σ H' fun σ2 H2=>tb { D with nx:=Pv (i+1),ct:=Pv (i+1),bk:=D.nx } σ2 H2) (hd:∀ σ H,Pv n σ H->D.nx σ H) :
  ∃ W:Nat->Nat->St->Hp->Prop,(∃ m,W 0 m σ H)/\∀ i m σ H,W i m σ H ->
   (J.stop i H/\D.nx σ H)\/(J.go i H/\∃ N:St->Hp->Prop,(∀ σ' H',N σ' H'->∃ m',m' < m/\W (i+1) m' σ' H')/\∀ x H',J.yld i H x H'->g x σ H' fun σ2 H2=>tb { D with nx:=N,ct:=N,bk:=D.nx } σ2 H2):=by
 refine⟨fun i m σ H=>m=n - i/\i<=n/\Pv i σ H,#[KU],?_⟩;rintro i m σ H ⟨rfl,hi,p⟩;by_cases kU:i < n
 ·exact .inr ⟨ui i σ H kU p,Pv (i+1),fun σ' H' p'=>⟨n - (i+1),#[O],rfl,kU,p'⟩,fun x H' y=>hs i x σ H H' kU p y⟩
 ·have e:i=n:=by lia
  subst e;exact .inl ⟨nN σ H p,hd σ H p⟩
end L2
end
section
namespace L2
open PySem
variable {H:Hp} {J:It} {te:TE} {σ0:St}
abbrev Lp (J:It) (g:TG) (tb:TS) (D:Ends) (σ:St) (H:Hp):Prop:=∃ W:Nat->Nat->St->Hp->Prop,(∃ m,W 0 m σ H)/\∀ i m σ H,W i m σ H->(J.stop i H/\D.nx σ H)\/(J.go i H/\∃ N:St->Hp->Prop,(∀ σ' H',N σ' H'->∃ m',m' < m/\W (i+1) m' σ' H')/\∀ x H',J.yld i H x H'->g x σ H' fun σ2 H2=>tb { D with nx:=N,ct:=N,bk:=D.nx } σ2 H2)
abbrev Ends.l (D:Ends) (Pv:Nat->St->Hp->Prop) (i:Nat):Ends:={ D with nx:=Pv (i+1),ct:=Pv (i+1),bk:=D.nx }
section
variable {g:TG} {tb:TS} {D:Ends} {σ:St} {H:Hp} (Pv:Nat->St->Hp->Prop) {n:Nat} {K:af} {a:Addr} {xs:List V}
theorem zhg (h0:Pv 0 σ H) (ui:∀ i σ H,i < n->Pv i σ H->J.go i H) (nN:∀ σ H,Pv n σ H->J.stop n H) (hs:let N:=D.l Pv; let T:=tb; ∀ i x σ H H',i < n->Pv i σ H->J.yld i H x H'->g x σ H' (T (N i))) (hd:∀ σ H,Pv n σ H->D.nx σ H):Lp J g tb D σ H:=zlD Pv h0 ui nN hs hd
theorem zaz (h0:Pv 0 σ H) (hl:∀ i σ H,i<=xs.length->Pv i σ H->kr K H a xs) (hs:let N:=D.l Pv; let T:=tb; ∀ i x σ H,xs[i]? = some x->Pv i σ H->g x σ H (T (N i))) (hd:∀ σ H,Pv xs.length σ H->D.nx σ H):Lp #[MV] g tb D σ H:=ziS Pv h0 hl hs hd
theorem zi3 (h0:Pv 0 σ H) (hl:∀ i σ H,i<=xs.length->Pv i σ H->kJ K H a xs) (hs:let N:=D.l Pv; let T:=tb; ∀ i x σ H,xs[i]? = some x->Pv i σ H->g x σ H (T (N i))) (hd:∀ σ H,Pv xs.length σ H->D.nx σ H):Lp (Itt K a) g tb D σ H:=zkf Pv h0 hl hs hd
theorem zaP {lo:Int} (h0:Pv 0 σ H) (hs:let N:=D.l Pv; let T:=tb; ∀ i σ H,i < n->Pv i σ H->g (.int (lo+i)) σ H (T (N i))) (hd:∀ σ H,Pv n σ H->D.nx σ H):Lp (Itr lo n) g tb D σ H:=zhQ Pv h0 hs hd
end
theorem zal {n:Nat} {g:TG} {ts:TT} {Q:VK} (Pv:Nat->List V->Hp->Prop) (h0:Pv 0 [] H) (ui:∀ i ys H,i < n->Pv i ys H->J.go i H) (nN:∀ ys H,Pv n ys H->J.stop n H)
  (hs:let S:=σ0; let T:=ts; let E:=te; ∀ i x ys H H',i < n->Pv i ys H->J.yld i H x H'->g x S H' fun σ2 H2=>T σ2 H2 fun b H3=>if b=true then E σ2 H3 fun y H4=>ys.length < sizeLine/\Pv (i+1) (ys++[y]) H4 else Pv (i+1) ys H3)
  (hd:∀ ys H D,Pv n ys H->H D=none->Q #[Is] (kx H D #[LF])):cGo g ts te σ0 J Q H:=zeZ Pv h0 ui nN hs hd
end L2
end
section
namespace L2
end L2
end
section
namespace L2
open PySem PySem.Spec PyProof.Rows
variable {A:Around} {H H' H2:Hp} {J:It} {P:Program} {X:Cx} {ch fp:List Addr} {elt i1 t1 tg:Expr} {env:Env} {f1:List Expr} {h:Heap} {it:Addr} {js:List Nat} {k t':Nat} {km nL:List (Addr×Obj)} {kq:List Value} {pos:Pos} {s s':Shared} {scope:Scope} {te:TE} {w:World} {wi:TI}
abbrev TM:=List V->St->Hp->(List V->Hp->Prop)->Prop
abbrev zdr (kq:List Value) (nn:Nat):Obj:={ cls:=.type "list",data:=.seq kq.toArray nn }
structure AccAt (Y:Cx) (km:List (Addr×Obj)) (H:Hp) (s:Shared) (D:Addr) (ys:List V) (kq:List Value) (nn:Nat):Prop where
 fp:zbZ Y km H D
 here:s.heap.get? D=some (zdr kq nn)
 vals:zG ys kq
 len:ys.length<=sizeLine
noncomputable def ze0 (js:List Nat) (σ:St):Prop:=∀ j∈js,∀ v,σ[j]?≠some #[Lv]
noncomputable def Kp (js:List Nat) (σ σ2:St):Prop:=σ2.length=σ.length/\∀ j,j∉js->σ2[j]? = σ[j]?
theorem Kp.refl {σ:St}:Kp js σ σ:=⟨rfl,fun _ _=>rfl⟩
theorem Kp.set {σ σ2:St} {i:Nat} {v:Option V} (hi:i∈js) (h:Kp js σ σ2):Kp js σ (σ2.set i v):=by
 refine⟨by rw [List.length_set]; exact h.1,fun j hj=>?_⟩;rw [dR (fun z=>hj (by rw [<- z]; exact hi))];exact h.2 j hj
noncomputable def GS (js:List Nat) (g:TG):Prop:=∀ (σ σ1:St) (x:V) (H:Hp) (Q:St->Hp->Prop),Kp js σ σ1->g x σ1 H Q->g x σ1 H fun σ2 H2=>Kp js σ σ2/\Q σ2 H2
noncomputable def GSs (js:List Nat) (g:TGs):Prop:=∀ (σ σ1:St) (xs:List V) (H:Hp) (Q:St->Hp->Prop),Kp js σ σ1->g xs σ1 H Q->g xs σ1 H fun σ2 H2=>Kp js σ σ2/\Q σ2 H2
theorem ze1 {i:Nat} (hi:i∈js):GS js (zaJ i):=fun σ σ1 x H Q hw h=>⟨hw.set hi,h⟩
theorem zkr:GSs js ziP:=fun σ σ1 xs H Q hw h=>⟨h.1,hw,h.2⟩
theorem zi4 {i:Nat} {u:TGs} (hi:i∈js) (h2:GSs js u):GSs js (zde (zaJ i) u):=fun σ σ1 xs H Q hw h=>by
 obtain⟨v,r,e,h⟩:=h;exact⟨v,r,e,h2 σ _ r H Q (hw.set hi) h⟩
theorem zlE {K:af} {n:Nat} {t:TGs} (h:GSs js t):GS js (zhO K n t):=fun σ σ1 x H Q hw hg=>by
 obtain⟨a,xs,e,hq,hl,hg⟩:=hg;exact⟨a,xs,e,hq,hl,h σ σ1 xs H Q hw hg⟩
theorem Inv.GC {σ:St} (I:Inv X km σ H s) (h:∀ p∈nL,p∈km):Inv X nL σ H s :=
 I.Fl fun p hp=>I.pin p (aD _ (h p hp))
section
variable {Y:Cx} {km:List (Addr×Obj)} {σ:St} {H:Hp} {s:Shared} {D:Addr} {ys:List V} {kq:List Value} {nn:Nat}
theorem AccAt.pin (a:AccAt Y km H s D ys kq nn) (I:Inv Y km σ H s):Inv Y (km++[#[JD]]) σ H s :=
 I.Fl fun p hp=>by
  rcases (aR.mp hp) with hp | hp
  ·exact I.pin p (aD _ hp)
  ·obtain rfl:p=(D,zdr kq nn):=by simpa using hp
   obtain⟨a0,a1,a2,_⟩:=a.fp;exact⟨a.here,a0,a1,a2,fun v z=>by cases z⟩
theorem AccAt.back {σ':St} (a:AccAt Y km H s D ys kq nn) (I:Inv Y nL σ' H' s') (hm:#[JD]∈nL):AccAt Y km H' s' D ys kq nn:=by
 have p:=I.pin #[JD] (aD _ hm);exact⟨⟨p.2.1,a.fp.2⟩,p.1,a.vals,a.len⟩
end
noncomputable def PM (Y:Cx) (D:Addr) (js:List Nat) (mk:Sem Fin->Sem Fin) (tm:TM):Prop :=
 ∀ (last:Sem Fin) (km:List (Addr×Obj)) (s:Shared) (σ:St) (H:Hp) (ys:List V) (kq:List Value) (nn:Nat) (Q:List V->Hp->Prop) (Φ:Fin->Shared->Prop),Inv Y km σ H s->AccAt Y km H s D ys kq nn->ze0 js σ->tm ys σ H Q ->
  (∀ (s':Shared) (pP:List V) (its':List Value) (vB:Nat) (H':Hp),Inv Y km σ H' s'->AccAt Y km H' s' D pP its' vB->Q pP H'->wpAny #[Jo] Y.A last Φ #[Jr] s') ->
  wpAny #[Jo] Y.A (mk last) Φ #[Jr] s
noncomputable def zeu (elt:Expr) (acc:Value) (env:Env) (last:Sem Fin):Sem Fin:=(eval elt env >>= fun x=>call (.builtin "list.append") [acc,x] >>= fun _=>pure ()) >>= fun _=>last
noncomputable def zhh (e iter:Expr) (d:Nat) (acc:Value) (env:Env) (last:Sem Fin):Sem Fin :=
 eval iter env >>= fun x=>standAt iter.pos >>= fun _=>foldedSetIterable iter env x >>= fun x=>holding [x] (pyIter x) >>= fun vv=>runOwn (.compStart e d vv acc env) env >>= fun _=>last
noncomputable def zi5 (te:TE):TM:=fun ys σ H Q=>te σ H fun y H4=>ys.length < sizeLine/\Q (ys++[y]) H4
noncomputable def cIn (g:TG) (ts:TT) (tm:TM) (σ:St) (J:It) (Q:List V->Hp->Prop) (ys:List V) (H1:Hp):Prop :=
 ∃ W:Nat->Nat->List V->Hp->Prop,(∃ m,W 0 m ys H1)/\∀ i m ys H,W i m ys H ->
  (J.stop i H/\Q ys H) \/
  (J.go i H/\∃ N:List V->Hp->Prop,(∀ pP H',N pP H'->∃ m',m' < m/\W (i+1) m' pP H')/\∀ x H',J.yld i H x H'->g x σ H' fun σ2 H2=>ts σ2 H2 fun b H3 =>
   if b=true then tm ys σ2 H3 N else N ys H3)
noncomputable def zi6 (wi:TI) (g:TG) (ts:TT) (tm:TM):TM:=fun ys σ H Q=>wi σ H fun J H1=>cIn g ts tm σ J Q ys H1
noncomputable def zgJ (ix:List #[FM]) (wi:TI) (g:TG) (ts:TT) (tm:TM):TE:=fun σ H Q=>wi σ H fun J H1=>cIn g ts tm #[Nc] J (fun ys H'=>∀ D,H' D=none->Q #[Is] #[JM]) [] H1
theorem thx {α:Type} {m:Sem α} {P Q:α->Shared->Prop} {E:Value->Shared->Prop} (hx:X.xe=fun _ _=>False) (h:wpAny #[li] X.A m P X.xe s) (k:∀ a s',P a s'->Q a s'):wpAny #[li] X.A m Q E s :=
 bM h k fun _ _ z=>by rw [hx] at z; exact z.elim
theorem zgK {Y:Cx} {D:Addr} (hx:Y.xe=fun _ _=>False) (he:PE Y elt te):PM Y D [] (zeu elt #[Is] Y.env) (zi5 te):=by
 intro last km s σ H ys kq nn Q Φ I a no h k;unfold zeu;refine ae (ae (thx hx (he (km++[#[JD]]) s σ H _ (a.pin I) h) fun yv s1 ⟨y,H1,I1,r1,hz,q1⟩=>ae ?_));have a1:=a.back I1 (aD _ aw);have J1:Inv Y km σ H1 s1:=I1.GC fun p hp=>aJ _ hp
 have Aj:=a1.vals.length;refine dU iY ⟨_,a1.here,rfl⟩ iI (ij _ _) (jl D kq.toArray nn yv (by rw [aq]; lia)) ⟨a1.here,?_⟩;refine ak ?_;have q:=jC a1.here (·.push yv);have k10:∀ b o,b≠D->s1.heap.get? b=some o->(s1.heap.update D (dC (·.push yv))).get? b=some o:=fun b o hb e=>(gR s1.heap (dC (·.push yv)) (cQ hb)).trans e
 obtain⟨b0,b1,b2,b3,b4,b5⟩:=a1.fp;have I11:Inv Y km σ H1 { s1 with heap:=s1.heap.update D (dC (·.push yv)) }:=J1.turned (t':=s1.toks) k10 b0 b1 b3 b4 b5;have e1:kq.toArray.push yv=(kq++[yv]).toArray:=by simp
 rw [e1] at q;refine k _ (ys++[y]) (kq++[yv]) _ H1 I11 ⟨a1.fp,q,a1.vals.append (.cons r1 .nil),?_⟩ q1;rw [aA,cg];lia
section
variable {Y:Cx} {D:Addr} {js js':List Nat} {elt:Expr} {gens:List Comprehension} {scope:Scope} {pos:Pos} {d:Nat} {tg:Expr} {ifs:List Expr} {p:Pos} {mk:Sem Fin->Sem Fin} {g:TG} {ts:TT} {tm:TM}
noncomputable def zbP (tg:Expr) (ifs:List Expr) (p:Pos) (mk:Sem Fin->Sem Fin) (c:Code) (it:Value) (env:Env):Sem Fin :=
 standAt p >>= fun _=>pyNext it >>= fun r=>match r with
  | none=>pure (.done .next)
  | some v=>letOwnedTupleGo tg it v >>= fun _=>assign tg env v >>= fun _=>zgI ifs env >>= fun ok=>if ok=true then mk (again c) else again c
theorem zhi (hc:Y.calm=true) (hx:Y.xe=fun _ _=>False) (uj:GS js g) (n8:∀ j∈js,j∉js') (hg:PG Y tg g) (ht:zdq Y ifs ts) (hm:PM Y D js' mk tm)
  (mV:∀ it,compTurn #[sw] d it #[Is] Y.env=zbP tg ifs p mk #[Mq] it Y.env)
  {σ:St} {s2:Shared} {tn:Nat->Heap->Prop} {Q:List V->Hp->Prop} {R:Result->Shared->Prop} {ys:List V} {nn:Nat}
  (I2:Inv Y km σ H2 s2) (a2:AccAt Y km H2 s2 D ys kq nn) (no:ze0 (js++js') σ) (T:Turn Y.prog Y.w Y.K tg J fp it tn) (l6:tn 0 s2.heap) (f2:∀ b∈fp,zbZ Y km H2 b) (fD:∀ b∈fp,b≠D) (q:cIn g ts tm σ J Q ys H2)
  (hR:∀ (s':Shared) (pP:List V) (its':List Value) (vB:Nat) (H':Hp),Inv Y km σ H' s'->AccAt Y km H' s' D pP its' vB->Q pP H'->R (.ok .next) s') :
  codeAny #[Jo] Y.A #[L7] R s2:=by
 obtain⟨W,⟨m0,w0⟩,turn⟩:=q;have wN:∀ {H':Hp} {kq:List Value} {nn:Nat},(∀ b∈fp,H' b=none)->∀ b∈fp,zbZ Y (km++[#[JD]]) H' b:=fun {H' kq nn} hn b hb=>by
  obtain⟨_,a1,a2,a3,a4,a5⟩:=f2 b hb;refine⟨hn b hb,a1,a2,a3,a4,fun p hp=>?_⟩;rcases (aR.mp hp) with hp | hp
  ·exact a5 p (aJ _ hp)
  ·rcases (aR.mp hp) with hp | hp
   ·exact a5 p (aD _ hp)
   ·obtain rfl:p=(D,zdr kq nn):=by simpa using hp
    exact (fD b hb).symm
 refine codeAny_loop rfl (fun n s'=>∃ i ys H' kq nn,Inv Y km σ H' s'/\tn i s'.heap/\(∀ b∈fp,H' b=none)/\AccAt Y km H' s' D ys kq nn/\W i n ys H') ?_ m0
  ⟨0,ys,H2,kq,nn,I2,l6,fun b hb=>(f2 b hb).1,a2,w0⟩
 rintro n s5 ⟨i,ys,H5,kq,nn,I5,wL,fr5,a5,w5⟩;show wpAny _ Y.A ((compTurn #[sw] d #[Jl] #[Is] Y.env).onRaise (fun x=>do noteFrame x Y.env; theTreesLotGoes x)) _ _ s5;refine wpAny_noted ?_;rw [mV];unfold zbP;have I5p:=a5.pin I5
 (refine ae (eS (ae ?_)))
 rcases turn i n ys H5 w5 with ⟨stop,qn⟩ | ⟨go,N,hN,step⟩
 ·refine bM (T.done Y rfl rfl rfl hc i _ s5 _ H5 #[Jr] I5p (wN fr5) wL stop) (fun r s6 ⟨hr,I6⟩=>?_) fun _ _ z=>z.elim
  subst hr;exact ak (hR s6 ys kq nn H5 (I6.GC fun p hp=>aJ _ hp) (a5.back I6 (aD _ aw)) qn)
 ·refine bM (T.item Y rfl rfl rfl hc i _ s5 _ H5 #[Jr] I5p (wN fr5) wL go) (fun r s6 ⟨u,hr,h6⟩=>?_) fun _ _ z=>z.elim
  subst hr;refine ae (bM h6 (fun _ s7 ⟨x,H7,I7,r7,y7,Bh,fr7⟩=>?_) fun _ _ z=>z.elim);have I7':=I7.pinned (wN fr7) (T.obj _ _ Bh);refine ae (thx hx (hg _ s7 _ H7 x u _ I7' r7 (uj σ σ x H7 _ Kp.refl (step x H7 y7))) fun _ s8 ⟨σ8,H8,I8,kp,q8⟩=>?_);refine ae (thx hx (ht _ s8 σ8 H8 _ I8 q8) fun ok s9 ⟨H9,I9,q9⟩=>?_);have mD:#[JD]∈(km++[#[JD]])++zb0 fp s7.heap:=aJ _ (aD _ aw);have a9:=a5.back I9 mD;have K9:Inv Y #[LS] σ8 H9 s9:=I9.GC fun p hp=>(aR.mp hp).elim (fun z=>aJ _ (aJ _ z)) fun z=>aD _ z
  have wk:∀ (j:Nat) v,σ[j]? = some #[Lv]->σ8[j]? = some #[Lv]:=fun j v e=>by
   have hj:j∉js:=fun z=>no j (aJ _ z) v e
   rw [kp.2 j hj];exact e
  have back:∀ {H':Hp} {s':Shared},Inv Y #[LS] σ8 H' s'->Inv Y km σ H' s'/\tn (i+1) s'.heap/\∀ b∈fp,H' b=none:=fun {H' s'} I'=>by
   refine⟨(I'.GC fun p hp=>aJ _ hp).weak kp.1.symm wk,T.keep _ _ _ Bh fun b hb o e=>(I'.pin (b,o) #[JN]).1,fun b hb=>?_⟩;obtain⟨o,e,d⟩:=T.obj _ _ Bh b hb;exact (I'.pin (b,o) #[JN]).2.1
  cases ok with
  | false =>
   rw [if_neg aO] at q9 |-;obtain⟨m',Bi,w9⟩:=hN _ _ q9;obtain⟨b1,b2,b3⟩:=back K9;exact ak ⟨rfl,m',Bi,i+1,ys,H9,kq,nn,b1,b2,b3,a9,w9⟩
  | true =>
   rw [if_pos rfl] at q9 |-;have a9':AccAt Y #[LS] H9 s9 D ys kq nn:=by
    obtain⟨b0,b1,b2,b3,b4,b5⟩:=a9.fp;refine⟨⟨b0,b1,b2,b3,b4,fun p hp=>?_⟩,a9.here,a9.vals,a9.len⟩;rcases (aR.mp hp) with hp | hp
    ·exact b5 p (aJ _ hp)
    ·rcases (aR.mp hp) with hp | hp
     ·exact b5 p (aD _ hp)
     ·exact fD _ (zei hp).1
   have no':ze0 js' σ8:=fun j hj v e=>by
    have pG:j∉js:=fun z=>n8 j z hj
    rw [kp.2 j pG] at e;exact no j (aD _ hj) v e
   refine bM (hm (again _) _ s9 σ8 H9 ys kq nn N (fun fin s'=>match fin with | .done f=>R (.ok f) s' | .again c'=>c'=_/\∃ m,m < n/\_) K9 a9' no' q9 fun s' pP its' vB H' I' a' n'=>?_) (fun _ _ z=>z) fun _ _ z=>z.elim
   obtain⟨m',Bi,w'⟩:=hN _ _ n';obtain⟨b1,b2,b3⟩:=back I';obtain⟨c0,c1,c2,c3,c4,c5⟩:=a'.fp;refine ak ⟨rfl,m',Bi,i+1,pP,H',its',vB,b1,b2,b3,⟨⟨c0,c1,c2,c3,c4,fun p hp=>?_⟩,a'.here,a'.vals,a'.len⟩,w'⟩;rcases (aR.mp hp) with hp | hp
   ·exact c5 p (aJ _ hp)
   ·exact c5 p (aD _ (aJ _ hp))
theorem zfK {prog:Program} {R:Result->Shared->Prop} {iter:Expr} {it acc:Value} (hd:gens[d]? = some ⟨tg,iter,ifs,0⟩)
  (h0:codeAny #[or] A (.compLoop #[sw] d it acc env) R s)
  (h:wpAny #[or] A (pyIter it) (fun Bj s'=>codeAny #[or] A (.compLoop #[sw] d Bj acc env) R s') #[Jr] s) :
  codeAny #[or] A (.compStart #[sw] d it acc env) R s:=by
 refine gJ ?_;show wpAny _ _ ((compStart #[sw] d it acc env).onRaise (fun x=>do noteFrame x env; standAt theWindowsPlace)) _ _ s;refine wpAny_notedAt ?_;unfold compStart;have e1:(clausesOf #[sw])[d]? = some ⟨tg,iter,ifs,0⟩:=hd;rw [e1]
 (show wpAny _ _ (ask >>= _) _ _ s)
 (refine ae (wpAny_askSetting (wpAny_ite ?_)))
 split
 ·first
   | (exact ae (ak (ak ⟨rfl,h0⟩)))
   | (exact ak ⟨rfl,h0⟩)
 ·first
   | exact ae (dk (ae (eS (ae (bM h #[LL] fun _ _ x=>x.elim)))))
   | (refine ae (dk ?_); show wpAny _ _ (standAt iter.pos >>= _) _ _ s; exact ae (eS (ae (bM h #[LL] fun _ _ x=>x.elim))))
theorem zlF {iter:Expr} (hc:Y.calm=true) (hx:Y.xe=fun _ _=>False) (uj:GS js g) (n8:∀ j∈js,j∉js') (hi:PI Y tg iter wi) (hg:PG Y tg g) (ht:zdq Y ifs ts) (hm:PM Y D js' mk tm) (hd:gens[d]? = some ⟨tg,iter,ifs,0⟩)
  (mV:∀ it,compTurn #[sw] d it #[Is] Y.env=zbP tg ifs p mk #[Mq] it Y.env)
  (hs:∀ x,foldedSetIterable iter Y.env x=pure x:=by intro _; rfl) :
  PM Y D (js++js') (zhh #[sw] iter d #[Is] Y.env) (zi6 wi g ts tm):=by
 intro last km s σ H ys kq nn Q Φ I a no h k;unfold zhh;refine ae (thx hx (hi (km++[#[JD]]) s σ H _ (a.pin I) h) fun v s1 h1=>ae (eS (ae ?_)));rw [hs v];refine ak (ae (df (thx hx h1 fun vv s2 h2=>?_)));obtain⟨it,fp,tn,J,H2,e,I2,T,l6,f2,q⟩:=h2;subst e;have a2:=a.back I2 (aD _ aw);have J2:Inv Y km σ H2 s2:=I2.GC fun p hp=>aJ _ hp
 have Bk:∀ b∈fp,zbZ Y km H2 b:=fun b hb=>by
  obtain⟨c0,c1,c2,c3,c4,c5⟩:=f2 b hb;refine⟨c0,c1,c2,c3,c4,fun p hp=>?_⟩;rcases (aR.mp hp) with hp | hp
  ·exact c5 p (aJ _ hp)
  ·exact c5 p (aD _ (aJ _ hp))
 have fD:∀ b∈fp,b≠D:=fun b hb=>((f2 b hb).2.2.2.2.2 #[JD] (aD _ (aD _ aw))).symm
 have loop:codeAny #[Jo] Y.A #[L7] (fun r s'=>match r with | .ok f=>wpAny #[Jo] Y.A last Φ #[Jr] s' | .error e=>cameBackBy #[Jo] Y.A Y.env #[Jr] e s') s2 :=
  zhi hc hx uj n8 hg ht hm mV J2 a2 no T l6 Bk fD q fun s' pP its' vB H' I' a' q'=>k s' pP its' vB H' I' a' q'
 exact ae (wpAny_runOwn (zfK hd loop (T.self _ 0 _ _ _ l6 loop)))
end
section
variable {X:Cx} {elt tg iter:Expr} {ifs:List Expr} {gs:List Comprehension} {scope:Scope} {pos:Pos} {N':List Str} {ix:List #[FM]} {js js':List Nat} {g:TG} {ts:TT} {tm:TM} {mk:Addr->Env->Sem Fin->Sem Fin}
theorem zdg {σ:St} {s2:Shared} {tn:Nat->Heap->Prop} {Q:VK} {E:Value->Shared->Prop} {RR:Value->Addr->Result->Shared->Prop}
  (SC:DH X N' ix scope) (hc:X.calm=true) (uj:GS js g) (n8:∀ j∈js,j∉js') (uk:∀ j∈js++js',ix[j]? = some none)
  (hg:∀ s₃ H₃ ex km,PG #[dl] tg g) (ht:∀ s₃ H₃ ex km,zdq #[dl] ifs ts) (hm:∀ s₃ H₃ ex km D,PM #[dl] D js' (mk D #[dl].env) tm)
  (mV:∀ it D env,compTurn #[mt] 0 it #[Is] env=zbP tg ifs iter.pos (mk D env) #[JW] it env)
  (I2:Inv X km σ H2 s2) (T:Turn X.prog X.w X.K tg J fp it tn) (l6:tn 0 s2.heap) (f2:∀ b∈fp,zbZ X km H2 b) (q:cIn g ts tm #[Nc] J (fun ys H'=>∀ D,H' D=none->Q #[Is] #[JM]) [] H2)
  (hRR:∀ (D C:Addr) (s':Shared) (ys:List V) (H':Hp) (m:Str->Option Value),Inv X km σ #[JM] s'->zbZ X km #[JM] C->s'.heap.Ns C m->Q #[Is] #[JM]->RR #[Is] C (.ok .next) s') :
  wpAny #[li] X.A (newList []) (fun acc s₃=>wpAny #[li] X.A (newFunctionEnv scope X.env.globals (zaj X.env.cells scope.names []) [] X.env.qual none .none (some X.env)) (fun xq s₄ =>
   codeAny #[li] X.A (.compStart #[mt] 0 #[Jl] acc { xq with scope:=relabel scope X.env }) (RR acc xq.locals) s₄) E s₃) E s2:=by
 have vC:∀ y∈scope.names,y.2 = .free->∃ c,X.env.cells.lookup y.1=some c:=fun y hy hf=>I2.ok.has y.1 #[MJ]
 have oF:∀ x c,(zaj X.env.cells scope.names []).lookup x=some c->X.env.cells.lookup x=some c:=zbu scope.names [] vC (fun x c e=>by simp at e);refine cR (zhW ?_);have I3:Inv X km σ H2 { s2 with heap:=s2.heap.push { cls:=.type "list",dict:=none,data:=.seq ([]:List Value).toArray } }:=I2.kept (t':=s2.toks) fun b o e=>ai _ e
 have Ak:(s2.heap.push { cls:=.type "list",dict:=none,data:=.seq ([]:List Value).toArray }).get? s2.heap.objs.size=some { cls:=.type "list",dict:=none,data:=.seq ([]:List Value).toArray }:=aC _ rfl;have xr:tn 0 (s2.heap.push { cls:=.type "list",dict:=none,data:=.seq ([]:List Value).toArray }):=T.keep _ _ _ l6 fun b hb o e=>ai _ e
 have xt:(s2.heap.push { cls:=.type "list",dict:=none,data:=.seq ([]:List Value).toArray }).objs.size=s2.heap.objs.size+1:=bx _ _;generalize hh3:s2.heap.push { cls:=.type "list",dict:=none,data:=.seq ([]:List Value).toArray }=h3 at *;have Bl:=T.obj _ _ l6;have uV:∀ b∈fp,b < s2.heap.objs.size:=fun b hb=>by obtain⟨o,e,_⟩:=Bl b hb; exact az e
 have stk:∀ b∈frs X.stack,b=X.env.locals\/b∈X.fs:=fun b hb=>aK.mp (I2.Gr b hb)
 have xu:zbZ X km H2 s2.heap.objs.size:=I2.GB (ag _) I2.fresh;have rm:∀ b∈s2.heap.objs.size :: fp,zbZ X km H2 b:=fun b hb=>by
  rcases (aK.mp hb) with e | hb
  ·rw [e]; exact xu
  ·exact f2 b hb
 have vD:∀ b∈s2.heap.objs.size :: fp,b < h3.objs.size:=fun b hb=>by
  rw [xt];rcases (aK.mp hb) with e | hb; · rw [e]; exact gu _
  ·exact cz (uV b hb)
 have uW:∀ b∈s2.heap.objs.size :: fp,b∉frs X.stack:=fun b hb z=>by
  obtain⟨_,a1,a2,_⟩:=rm b hb;rcases stk b z with e | e
  ·exact a1 e
  ·exact a2 e
 have hns₁:(pushCells (h3.push { cls:=.type "dict",data:=.dict #[] }) scope.names).Ns h3.objs.size (fun _=>none):=(Heap.Ns.new h3 (.type "dict")).keeps (pushCells_keeps _ _);have old:∀ b o,h3.get? b=some o->(pushCells (h3.push { cls:=.type "dict",data:=.dict #[] }) scope.names).get? b=some o:=fun b o e=>pushCells_keeps _ _ b o (ai _ e)
 have Bm:∀ x c,X.env.cells.lookup x=some c->c < h3.objs.size:=fun x c e=>by
  obtain⟨v,q⟩:=I3.cell x c e;exact q.lt
 have co:CO (pushCells (h3.push { cls:=.type "dict",data:=.dict #[] }) scope.names) #[Jf] (zaj X.env.cells scope.names []) (cellsFrom #[Jf] scope.names (zaj X.env.cells scope.names [])):=by
  have:=zi2 (lo:=h3.objs.size+1) (old:=zaj X.env.cells scope.names []) scope.names (h3.push { cls:=.type "dict",data:=.dict #[] }) (zaj X.env.cells scope.names [])
   ⟨fun x c e=>.inr ⟨e,cz (Bm x c (oF x c e))⟩,fun x y c e1 e2=>I2.ok.inj x y c (oF x c e1) (oF y c e2)⟩ (by rw [bx]; exact ag _)
  rw [bx] at this;exact this
 generalize pushCells (h3.push { cls:=.type "dict",data:=.dict #[] }) scope.names=h₁ at hns₁ old co |-;have Bn:∀ {x c},(cellsFrom #[Jf] scope.names (zaj X.env.cells scope.names [])).lookup x=some c->(h₁.IsCell c none/\h3.objs.size+1<=c)\/X.env.cells.lookup x=some c:=fun {x c} e=>(co.each x c e).elim .inl fun z=>.inr (oF x c z.1)
 have cfr:∀ x,scope.names.lookup x=some .free->(cellsFrom #[Jf] scope.names (zaj X.env.cells scope.names [])).lookup x=(zaj X.env.cells scope.names []).lookup x:=fun x hx=>zeX _ _ _ _ fun z=>by
  have:=SC.cells _ z rfl;rw [hx] at this;cases this
 let s3:Shared:={ s2 with heap:=h3 }
 let Y:Cx:=zL X N' scope s3 H2 (s2.heap.objs.size :: fp) km
 have sv:Inv X km σ H2 s3:=I3;have okY:Y.Ok:=by
  refine⟨I2.ok.mod,SC.kind,I2.ok.glob,I2.ok.blt,ag _,co.inj,fun x hx=>?_,fun x c z e=>?_,I2.ok.hd,I2.ok.frames,.inl rfl,fun b hb=>?_,fun b o e=>sv.bs b o e,?_,fun b o e hb=>?_,uW,sv.stack,sv.Fk⟩
  ·have tX:=zcK (env:=X.env) (names:=scope.names) (x:=x) hx;rcases tX with tX | tX
   ·obtain⟨c,e⟩:=zbO (cs:=X.env.cells) scope.names [] x (.inr (lookup_mem tX));exact⟨c,(cfr x tX).trans e⟩
   ·obtain⟨c,e,_⟩:=zeY scope.names #[Jf] (zaj X.env.cells scope.names []) x (lookup_mem tX);exact⟨c,e⟩
  ·obtain⟨c',e',l'⟩:=zeY scope.names #[Jf] (zaj X.env.cells scope.names []) x (lookup_mem (by have z':(scope.names.lookup x == some cE)=true:=z; simpa using z'));have e2:(cellsFrom #[Jf] scope.names (zaj X.env.cells scope.names [])).lookup x=some c:=e;rw [e'] at e2;cases e2;exact gh l'
  ·refine⟨aS (vD b hb),fun x c e=>(Bn e).elim (fun z y=>?_) fun z=>(rm b hb).2.2.2.2.1 x c z⟩;subst y;exact bE _ (aN (vD _ hb) (gh z.2))
  ·exact bh I2.ok.bsz sv.sz
  ·obtain⟨_,_,_,a3,_⟩:=rm b hb;rcases a3 with z | z
   ·exact I2.ok.Hm b o e z
   ·have:=(I2.ok.bs b o e).1;exact absurd (aN (az this) z) (bE _)
 have Bo:Inv Y [] #[Nc] H2 { s3 with heap:=h₁ }:=by
  refine⟨okY,rfl,I2.bare,Un.kept old,⟨_,hns₁,fun j x v e1 e2 e3=>?_⟩,fun x c e=>?_,sv.fresh,fun x c e=>(Bn e).elim (fun z=>sv.hok.fresh (gh z.2)) fun z=>I2.D4 x c z,fun p hp=>?_,sv.hok.kept old,?_⟩
  ·unfold zcL at e2;rw [aB] at e2;cases hj:ix[j]? with
   | none=>rw [hj] at e2; simp at e2
   | some oi =>
    rw [hj] at e2;cases oi with
    | none=>simp at e2
    | some i =>
     obtain⟨y,h1,h2,Al⟩:=SC.cap j i hj;have hxy:y=x:=by
      have e1':N'[j]? = some x:=e1;rw [h1] at e1';exact aQ e1'
     subst hxy;have xv:(σ[i]?).join=some v:=by simpa using e2
     have Bp:σ[i]? = some #[Lv]:=by
      cases hs:σ[i]? with
      | none=>rw [hs] at xv; simp at xv
      | some w=>rw [hs] at xv; simp at xv; rw [xv]
     obtain⟨m,hn,hl⟩:=sv.loc;have hk:=SC.free (y,.free) (lookup_mem Al) rfl;have Bq:Vis X.env.scope y:=hk.elim (fun z=>.inr (.inl z)) fun z=>.inr (.inr z)
     obtain⟨u,r,l⟩:=hl i y v h2 Bp Bq;refine⟨u,r,.inr ⟨zbh Al,?_⟩⟩;obtain⟨c,ng⟩:=zbO (cs:=X.env.cells) scope.names [] y (.inr (lookup_mem Al));refine⟨c,(cfr y Al).trans ng,?_⟩;rcases l with ⟨sJ,_⟩ | ⟨_,c',lE,nM⟩
     ·rcases hk with hk | hk
      ·have oZ:X.env.kindOf y=some .cell:=hk;rw [oZ] at sJ; cases sJ
      ·have oZ:X.env.kindOf y=some .free:=hk;rw [oZ] at sJ; cases sJ
     ·have:=oF y c ng;rw [lE] at this;cases this;obtain⟨o,ho,hd⟩:=nM;exact⟨o,old _ _ ho,hd⟩
  ·rcases Bn e with z | z
   ·exact⟨_,z.1⟩
   ·obtain⟨v,o,ho,hd⟩:=sv.cell x c z;exact⟨v,o,old _ _ ho,hd⟩
  ·have n6:p∈X.pn++km:=by
    have:p∈(X.pn++km)++([]:List (Addr×Obj)):=hp;simpa using this
   obtain⟨a1,a2,a3,a4,a5⟩:=sv.pin p n6;exact⟨old _ _ a1,a2,aS (az a1),fun z=>(stk _ z).elim a3 a4,a5⟩
  ·unfold zcL;rw [aa];exact SC.len.symm
 have wN:∀ {H':Hp},(∀ b∈s2.heap.objs.size :: fp,H' b=none)->∀ b∈s2.heap.objs.size :: fp,zbZ Y [] H' b:=fun {H'} hn b hb=>by
  obtain⟨_,a1,a2,a3,a4,a5⟩:=rm b hb;refine⟨hn b hb,aS (vD b hb),uW b hb,.inl hb,(okY.exf b hb).2,fun p hp=>?_⟩;have:p∈(X.pn++km)++([]:List (Addr×Obj)):=hp;exact a5 p (by simpa using this)
 have nn2:∀ b∈s2.heap.objs.size :: fp,H2 b=none:=fun b hb=>(rm b hb).1
 have uU:ze0 (js++js') #[Nc]:=fun j hj v e=>by
  unfold zcL at e;rw [aB,uk j hj] at e;simp at e
 have loop:∀ s₅:Shared,s₅ = { s2 with heap:=h₁ } ->
   codeAny #[li] X.A (.compLoop #[mt] 0 #[Jl] (.ref s2.heap.objs.size) (compEnvC scope (cellsFrom #[Jf] scope.names (zaj X.env.cells scope.names [])) h3.objs.size X.env)) (RR (.ref s2.heap.objs.size) h3.objs.size) s₅:=by
  rintro s₅ rfl;refine zhi (Y:=Y) (km:=[]) (σ:=zcL ix σ) (kq:=[]) (nn:=0) hc rfl uj n8 (hg s3 H2 _ km) (ht s3 H2 _ km) (hm s3 H2 _ km s2.heap.objs.size) (fun it=>mV it _ _) Bo ⟨wN nn2 _ aw,old _ _ Ak,.nil,bg _⟩ uU T (T.keep _ _ _ xr fun b hb o e=>old b o e)
   (fun b hb=>wN nn2 b (aj _ hb)) (fun b hb=>aS (uV b hb)) q fun s6 ys kq nn H5 I6 a6 qn=>?_
  have dn5:H5 s2.heap.objs.size=none:=a6.fp.1;have I7:Inv X km σ H5 s6:=by
   refine sv.HH (s':=s6) (ch:=s2.heap.objs.size :: fp) I6.os I6.base I6.hok I6.bare fun b hb=>?_
   obtain⟨_,a1,a2,a3,a4,a5⟩:=rm b hb;exact⟨a3,a1,a4,a5⟩
  have I8:Inv X km σ (kx H5 s2.heap.objs.size #[LF]) s6:=by
   obtain⟨_,a1,a2,a3,a4,a5⟩:=xu;exact I7.GY dn5 I2.sz (cQ a1) a4 a5 ⟨a6.len,kq,nn,a6.vals,a6.here⟩
  obtain⟨mm,xw,_⟩:=I6.loc;have dne:h3.objs.size≠s2.heap.objs.size:=by rw [xt]; exact Nat.succ_ne_self _
  refine hRR _ _ s6 ys H5 mm I8 (sv.GB (H':=kx H5 s2.heap.objs.size #[LF]) (ag _) ?_) xw (qn _ dn5);show kx H5 s2.heap.objs.size #[LF] h3.objs.size=none;rw [zp dne];exact I6.free
 exact zfK rfl (loop _ rfl) (T.self _ 0 _ _ _ (T.keep _ _ _ xr fun b hb o e=>old b o e) (loop _ rfl))
theorem zi7 (SC:DH X N' ix scope) (hc:X.calm=true) (uj:GS js g) (n8:∀ j∈js,j∉js') (uk:∀ j∈js++js',ix[j]? = some none) (hi:PI X tg iter wi)
  (hg:∀ s₃ H₃ ex km,PG #[dl] tg g) (ht:∀ s₃ H₃ ex km,zdq #[dl] ifs ts) (hm:∀ s₃ H₃ ex km D,PM #[dl] D js' (mk D #[dl].env) tm)
  (mV:∀ it D env,compTurn #[mt] 0 it #[Is] env=zbP tg ifs iter.pos (mk D env) #[JW] it env)
  (hs:∀ x,foldedSetIterable iter X.env x=pure x:=by intro _; rfl):PE X #[mt] (zgJ ix wi g ts tm):=by
 intro km s σ H Q I h;rw [eval_ListComp];have vC:∀ y∈scope.names,y.2 = .free->∃ c,X.env.cells.lookup y.1=some c:=fun y hy hf=>I.ok.has y.1 #[MJ]
 refine gv (use:=none) rfl hs (zcu vC) SC.kind SC.names (thn #[LB] fun v s1 h1=>thn h1 fun vv s2 h2=>?_);obtain⟨it,fp,tn,J,H2,e,I2,T,l6,f2,q⟩:=h2;subst e;refine zdg (RR:=fun acc C=>compPost #[li] X.A X.xe none #[Ix] acc C) SC hc uj n8 uk hg ht hm mV I2 T l6 f2 q ?_;intro D C s' ys H' m I' Br hm q';refine⟨m,hm,fun h'' qw=>⟨.ref D,_,?_,rfl,q'⟩⟩;obtain⟨f0,f1,Bk,f3,f4,f5⟩:=Br;exact I'.turned (t':=s'.toks) (fun b o hb e=>qw.extBut b o hb e) f0 f1 f3 f4 f5
theorem zdh {i:Nat} {x:Str} {pos' mW:Pos} (hN:X.N.Nodup) (um:X.N[i]? = some x) (hx:Loc X.env.scope x) (SC:DH X N' ix scope) (hc:X.calm=true) (uj:GS js g) (n8:∀ j∈js,j∉js') (uk:∀ j∈js++js',ix[j]? = some none) (hi:PI X tg iter wi)
  (hg:∀ s₃ H₃ ex km,PG #[dl] tg g) (ht:∀ s₃ H₃ ex km,zdq #[dl] ifs ts) (hm:∀ s₃ H₃ ex km D,PM #[dl] D js' (mk D #[dl].env) tm)
  (mV:∀ it D env,compTurn #[mt] 0 it #[Is] env=zbP tg ifs iter.pos (mk D env) #[JW] it env)
  (xy:swapsWith #[mt] #[MC] mW.line X.env=pure true:=by rfl)
  (hs:∀ x,foldedSetIterable iter X.env x=pure x:=by intro _; rfl) (hf:X.fn x=true\/X.env.scope.names.lookup x=some .local:=by first | exact .inl rfl | exact .inr rfl | assumption) :
  PS X (.Assign [.Name x pos'] #[mt] mW) (zd3 (zgJ ix wi g ts tm) (zaJ i)):=by
 intro km s σ H D I h;have vC:∀ y∈scope.names,y.2 = .free->∃ c,X.env.cells.lookup y.1=some c:=fun y hy hf=>I.ok.has y.1 #[MJ]
 rw [exec_Assign_Name_used _ _ _ _ xy]; refine ae (eS (ae ?_));show wpAny _ X.A (do let _ <- comprehension #[mt] scope X.env _ (newList []) false (eval iter X.env) (some #[LT])) _ _ s;refine ae (bM (gv (use:=some #[LT]) (Q:=fun _ s'=>SP X km D .next s') rfl hs (zcu vC) SC.kind SC.names
  (thn #[LB] fun v s1 h1=>thn h1 fun vv s2 h2=>?_)) (fun _ s' hq=>ak (ak hq)) fun _ _ e=>e)
 obtain⟨it,fp,tn,J,H2,e,I2,T,l6,f2,q⟩:=h2;subst e;refine zdg (Q:=fun x H1=>zaJ i x σ H1 D.nx) (RR:=fun acc C=>compPost #[li] X.A X.xe (some #[LT]) (fun _ s'=>SP X km D .next s') acc C) SC hc uj n8 uk hg ht hm mV I2 T l6 f2 q ?_;intro Da C s' ys H' m I' Br hm q';show wpAny _ X.A (assign #[Jb] X.env (.ref Da)) _ _ _;refine wpAny_assign_Name (zef I' hN um hx (show RelV (.ref Da) (.ref Da) from rfl) (fun xo I'' ⟨a,xA,ha⟩=>?_) hf);obtain⟨f0,f1,Bk,f3,f4,f5⟩:=Br;have hCa:C≠a:=by
  rcases ha with e | e
  ·rw [e]; exact f1
  ·exact cQ (f4 x a e)
 refine⟨m,hm.sameBut xA hCa,fun h₃ hs₃=>⟨_,_,?_,q'⟩⟩;exact I''.turned (t':=xo.toks) (fun b o hb e=>hs₃.extBut b o hb e) f0 f1 f3 f4 f5
end
theorem zlG {t2 i2:Expr} {f2:List Expr} (it:Value) (D:Addr) (env:Env):compTurn (.ListComp elt [⟨t1,i1,f1,0⟩,⟨t2,i2,f2,0⟩] scope pos) 0 it #[Is] env =
  zbP t1 f1 i1.pos (zhh (.ListComp elt [⟨t1,i1,f1,0⟩,⟨t2,i2,f2,0⟩] scope pos) i2 1 #[Is] env) (.compLoop (.ListComp elt [⟨t1,i1,f1,0⟩,⟨t2,i2,f2,0⟩] scope pos) 0 it #[Is] env) it env:=by rfl
theorem zlH {t2 i2:Expr} {f2:List Expr} (it:Value) (D:Addr) (env:Env):compTurn (.ListComp elt [⟨t1,i1,f1,0⟩,⟨t2,i2,f2,0⟩] scope pos) 1 it #[Is] env =
  zbP t2 f2 i2.pos (zeu elt #[Is] env) (.compLoop (.ListComp elt [⟨t1,i1,f1,0⟩,⟨t2,i2,f2,0⟩] scope pos) 1 it #[Is] env) it env:=by rfl
noncomputable def zc9 (ix:List #[FM]):List Nat:=(bW ix.length).filter fun j=>ix[j]? == some none
theorem zbQ {ix:List #[FM]} {i:Nat}:i∈zc9 ix↔ix[i]? = some none:=by
 unfold zc9;rw [bC,cu,beq_iff_eq];exact⟨fun h=>h.2,fun h=>⟨(aH.mp h).1,h⟩⟩
noncomputable def GK (ix:List #[FM]) (g:TG):Prop:=GS (zc9 ix) g
noncomputable def GKs (ix:List #[FM]) (g:TGs):Prop:=GSs (zc9 ix) g
theorem za5 {ix:List #[FM]} {i:Nat} (hi:ix[i]? = some none):GK ix (zaJ i):=ze1 (zbQ.2 hi)
theorem zbj {ix:List #[FM]}:GKs ix ziP:=zkr
theorem zM {ix:List #[FM]} {i:Nat} {u:TGs} (hi:ix[i]? = some none) (h2:GKs ix u):GKs ix (zde (zaJ i) u):=zi4 (zbQ.2 hi) h2
theorem zbR {ix:List #[FM]} {K:af} {n:Nat} {t:TGs} (h:GKs ix t):GK ix (zhO K n t):=zlE h
theorem zk6 (it:Value) (D:Addr) (env:Env):compTurn (.ListComp elt [⟨t1,i1,f1,0⟩] scope pos) 0 it #[Is] env =
  zbP t1 f1 i1.pos (zeu elt #[Is] env) (.compLoop (.ListComp elt [⟨t1,i1,f1,0⟩] scope pos) 0 it #[Is] env) it env:=by rfl
section
variable {X:Cx} {elt tg iter:Expr} {ifs:List Expr} {scope:Scope} {pos:Pos} {N':List Str} {ix:List #[FM]} {g:TG} {ts:TT} {te:TE}
theorem zat {wi:TI} (SC:DH X N' ix scope) (hc:X.calm=true) (hk:GK ix g) (hi:PI X tg iter wi)
  (hg:∀ s₃ H₃ ex km,PG #[dl] tg g) (ht:∀ s₃ H₃ ex km,zdq #[dl] ifs ts) (he:∀ s₃ H₃ ex km,PE #[dl] elt te)
  (hs:∀ x,foldedSetIterable iter X.env x=pure x:=by intro _; rfl):PE X (.ListComp elt [⟨tg,iter,ifs,0⟩] scope pos) (zk5 ix wi g ts te) :=
 zi7 (mk:=fun D env=>zeu elt #[Is] env) (js:=zc9 ix) (js':=[]) SC hc hk (fun _ _ h=>nomatch h) (fun j h=>zbQ.1 (by simpa using h)) hi hg ht #[J8] (fun _ _ _=>zk6 _ _ _) hs
theorem zcC {wi:TI} {i:Nat} {x:Str} {pos' mW:Pos} (hN:X.N.Nodup) (um:X.N[i]? = some x) (hx:Loc X.env.scope x) (SC:DH X N' ix scope) (hc:X.calm=true) (hk:GK ix g) (hi:PI X tg iter wi)
  (hg:∀ s₃ H₃ ex km,PG #[dl] tg g) (ht:∀ s₃ H₃ ex km,zdq #[dl] ifs ts) (he:∀ s₃ H₃ ex km,PE #[dl] elt te)
  (xy:swapsWith (.ListComp elt [⟨tg,iter,ifs,0⟩] scope pos) #[MC] mW.line X.env=pure true:=by rfl)
  (hs:∀ x,foldedSetIterable iter X.env x=pure x:=by intro _; rfl) (hf:X.fn x=true\/X.env.scope.names.lookup x=some .local:=by first | exact .inl rfl | exact .inr rfl | assumption) :
  PS X (.Assign [.Name x pos'] (.ListComp elt [⟨tg,iter,ifs,0⟩] scope pos) mW) (zd3 (zk5 ix wi g ts te) (zaJ i)) :=
 zdh (mk:=fun D env=>zeu elt #[Is] env) (js:=zc9 ix) (js':=[]) hN um hx SC hc hk (fun _ _ h=>nomatch h) (fun j h=>zbQ.1 (by simpa using h)) hi hg ht #[J8] (fun _ _ _=>zk6 _ _ _) xy hs hf
end
section
variable {X:Cx} {km:List (Addr×Obj)} {σ:St} {H:Hp} {s:Shared} {h':Heap}
theorem Inv.Gq (I:Inv X km σ H s) (k:∀ b o,b∉ch->s.heap.get? b=some o->h'.get? b=some o) (hf:∀ b∈ch,zbZ X km H b)
  (th:∀ b∈ch,∃ o,h'.get? b=some o):Inv X km σ H { s with heap:=h',toks:=t' }:=by
 have uQ:∀ b u,H b=some u->b∉ch:=fun b u e z=>by rw [(hf b z).1] at e; cases e
 refine I.step (g':=s.gens) (d':=s.drawn) (ch:=ch) (fun b hb=>?_) (fun b o _ _ hc e _=>k b o hc e) (fun b o _ _ hc e _=>⟨o.slots,k b o hc e⟩) #[KY]
  (fun b o hc e=>⟨o,k b o hc e⟩) #[Ll] #[KA] (fun b ps e=>⟨#[],by rw [e]; simp⟩) #[Lk] #[L4] I.bare
 ·obtain⟨_,a1,_,a3,a4,a5⟩:=hf b hb;exact⟨a3,a1,a4,a5⟩
 ·obtain⟨o,es,ep,ho,r⟩:=hm;exact⟨o,es,ep,k _ o (fun z=>(hf _ z).2.1 rfl) ho,r⟩
 ·refine #[KP].FF (fun c v hc q=>k c v ?_ q) #[Lw] fun _ _ q=>q
  rcases hc with z | z
  ·rw [z]; exact uQ b u e
  ·exact uQ c _ z
theorem Inv.Gp {T:Addr} {o:HO} (I:Inv X km σ H s) (k:∀ b o,b∉ch->s.heap.get? b=some o->h'.get? b=some o) (hf:∀ b∈ch,zbZ X km H b)
  (th:∀ b∈ch,∃ o,h'.get? b=some o) (hT:s.heap.objs.size<=T) (ok:z6 X.prog X.w (kx H T o) h' T o):Inv X km σ (kx H T o) { s with heap:=h',toks:=t' }:=by
 have I1:Inv X km σ H { s with heap:=h',toks:=t' }:=I.Gq k hf th;have hn:H T=none:=I.hok.fresh hT;obtain⟨_,a1,a2,a3,a4,a5⟩:=I.GB (H':=H) hT hn;exact I1.GY hn (bh I.sz hT) (cQ a1) a4 a5 ok
end
theorem zgL {T:Addr} {a b:Value} (e:h.get? T=some { cls:=.type "tuple",data:=.seq #[a,b] }):IsTup h T ([a,b]:List Value).toArray:=⟨_,e,rfl,_,rfl⟩
theorem zb1:2<=sizeLine:=by rw [be]; decide
noncomputable def zks (wO wQ:Hp->Addr->List V->Prop) (a b:Addr):It :=
 ⟨fun i H=>∃ xs ys x y,wO H a xs/\wQ H b ys/\xs[i]? = some x/\ys[i]? = some y,
  fun i H x H'=>∃ T u v,H T=none/\x = .ref T/\H'=kx H T (.tup [u,v])/\(∀ xs,wO H a xs->xs[i]? = some u)/\∀ ys,wQ H b ys->ys[i]? = some v,
  fun i H=>∃ xs ys,wO H a xs/\wQ H b ys/\(xs.length<=i\/ys.length<=i)⟩
theorem zhX {K:af} {es:List Expr} (a b:Addr) (n:Nat) (ha:a < n) (hb:b < n):Turn P w K #[MK] (zks (kr K) (kr K) a b) [n+4,n+2,n+3,n,n+1] (n+4)
  (fun i h=>IsZip h (n+4) (n+2) (n+3) .none/\IsPair h (n+2) (.ref n) (.ref (n+1))/\(∃ u v,IsPair h (n+3) u v)/\h.IsListIter n a i/\h.IsListIter (n+1) b i) where
 mem:=by simp
 obj:=fun i h st c hc=>by
  obtain⟨h1,h2,⟨u,v,h3⟩,⟨o4,e4,_,d4⟩,⟨o5,e5,_,d5⟩⟩:=st;simp only [aK,dq,or_false] at hc;rcases hc with z | z | z | z | z <;> subst z
  ·exact⟨_,h1,fun v z=>by cases z⟩
  ·exact⟨_,h2,fun v z=>by cases z⟩
  ·exact⟨_,h3,fun v z=>by cases z⟩
  ·exact⟨_,e4,fun v z=>by rw [d4] at z; cases z⟩
  ·exact⟨_,e5,fun v z=>by rw [d5] at z; cases z⟩
 keep:=fun i h h' st kk=>by
  obtain⟨h1,h2,⟨u,v,h3⟩,h4,h5⟩:=st;exact⟨kk _ #[M] _ h1,kk _ #[M] _ h2,⟨u,v,kk _ #[M] _ h3⟩,h4.at fun o eo=>kk _ #[M] o eo,h5.at fun o eo=>kk _ #[M] o eo⟩
 item:=by
  intro X hP hw hK hc i km s σ H E I hf st hg;subst hP hw hK;obtain⟨xs,ys,x,y,vE,rn,hx,hy⟩:=hg;obtain⟨h1,h2,⟨u0,v0,h3⟩,h4,h5⟩:=st;obtain⟨xB,Am,p1,uo⟩:=I.list vE;obtain⟨ni,An,p2,pH⟩:=I.list rn;obtain⟨u,hu,ru⟩:=Am.get hx;obtain⟨v,hv,rv⟩:=An.get hy;have Ao:n+4 < s.heap.objs.size:=az h1;refine wpAny_pyNext_zip_item #[KL] h1 h2 h3 h4 h5 p1.isList p2.isList (x:=u) (y:=v) (by simpa using hu) (by simpa using hv) fun h' a1 a2 a3 a4 a5 a6 kk=>?_
  have k1:∀ c o,c∉[n+4,n+3,n,n+1]->s.heap.get? c=some o->h'.get? c=some o:=fun c o lE eo =>
   kk c o (fun z=>lE (by simp [z])) (fun z=>lE (by simp [z])) (fun z=>lE (by simp [z])) (fun z=>lE (by simp [z])) eo
  have sub:∀ c∈[n+4,n+3,n,n+1],c∈[n+4,n+2,n+3,n,n+1]:=fun c lE=>by
   simp only [aK,dq,or_false] at lE |-;rcases lE with z | z | z | z <;> subst z <;> simp
  have th1:∀ c∈[n+4,n+3,n,n+1],∃ o,h'.get? c=some o:=fun c lE=>by
   simp only [aK,dq,or_false] at lE;rcases lE with z | z | z | z <;> subst z
   ·exact⟨_,a1⟩
   ·exact⟨_,a2⟩
   ·obtain⟨o,e,_⟩:=a3; exact⟨o,e⟩
   ·obtain⟨o,e,_⟩:=a4; exact⟨o,e⟩
  have I1:Inv X km σ (kx H s.heap.objs.size (.tup [x,y])) { s with heap:=h' } :=
   I.Gp (t':=s.toks) k1 (fun c lE=>hf c (sub c lE)) th1 (ag _) ⟨zb1,_,.cons ru (.cons rv .nil),zgL a5⟩
  refine⟨_,rfl,wpAny_letOwnedTupleGo_zip a1 fun h'' xC qw=>?_⟩;have fr:∀ c∈[n+4,n+2,n+3,n,n+1],kx H s.heap.objs.size (.tup [x,y]) c=none:=fun c lE=>by
   have kU:c < s.heap.objs.size:=by
    simp only [aK,dq,or_false] at lE;rcases lE with z | z | z | z | z <;> subst z <;> lia
   rw [zp (aS kU)];exact (hf c lE).1
  have I2:Inv X km σ (kx H s.heap.objs.size (.tup [x,y])) { s with heap:=h'' } :=
   Inv.Gq (s:={ s with heap:=h' }) (ch:=[n+4]) (t':=s.toks) I1 (fun c o lE eo=>qw.extBut c o (by simpa using lE) eo) (fun c lE=>by
    have z:c=n+4:=by simpa using lE
    subst z;exact⟨fr _ #[M],(hf _ #[M]).2⟩) (fun c lE=>by
    have z:c=n+4:=by simpa using lE
    subst z;exact⟨_,xC⟩)
  refine⟨.ref s.heap.objs.size,_,I2,rfl,⟨_,x,y,I.fresh,rfl,rfl,fun zs hz=>by rw [I.EI hz vE]; exact hx,fun zs hz=>by rw [I.EI hz rn]; exact hy⟩,
   ⟨xC,qw.extBut _ _ #[KL].TIz (kk _ _ #[KL].TIz #[KL].TITO #[KL].TIi1 #[KL].TIi2 h2),⟨_,_,qw.extBut _ _ #[KL].TOz a2⟩,a3.extBut qw.extBut #[KL].i1z,a4.extBut qw.extBut #[KL].i2z⟩,fr⟩
 done:=by
  intro X hP hw hK hc i km s σ H E I hf st hg;subst hP hw hK;obtain⟨xs,ys,vE,rn,hx⟩:=hg;obtain⟨h1,h2,⟨u0,v0,h3⟩,h4,h5⟩:=st;obtain⟨xB,Am,p1,uo⟩:=I.list vE;obtain⟨ni,An,p2,pH⟩:=I.list rn;have oC:=Am.length;have mS:=An.length;refine wpAny_pyNext_zip_end #[IQ] #[KL] h1 h2 h3 h4 h5 p1.isList p2.isList ?_ fun h' kk=>⟨rfl,?_⟩
  ·rcases hx with z | z
   ·exact .inl (by simp; lia)
   ·exact .inr (by simp; lia)
  ·have hth:∀ c∈[n+4,n+3,n,n+1],c∈[n+4,n+2,n+3,n,n+1]:=fun c lE=>by
    simp only [aK,dq,or_false] at lE |-;rcases lE with z | z | z | z <;> subst z <;> simp
   refine I.step (g':=s.gens) (d':=s.drawn) (t':=s.toks) (ch:=[n+4,n+3,n,n+1]) (fun c lE=>?_) (fun c o _ _ ng e _=>kk c o (fun z=>ng (by simp [z])) (fun z=>ng (by simp [z])) (fun z=>ng (by simp [z])) (fun z=>ng (by simp [z])) e)
    (fun c o _ _ ng e _=>⟨o.slots,kk c o (fun z=>ng (by simp [z])) (fun z=>ng (by simp [z])) (fun z=>ng (by simp [z])) (fun z=>ng (by simp [z])) e⟩) #[KY]
    (fun c o ng e=>⟨o,kk c o (fun z=>ng (by simp [z])) (fun z=>ng (by simp [z])) (fun z=>ng (by simp [z])) (fun z=>ng (by simp [z])) e⟩) #[Ll] #[KA] (fun c ps e=>⟨#[],by rw [e]; simp⟩) #[Lk] (fun c u e=>?_) I.bare
   ·obtain⟨_,a1,_,a3,a4,a5⟩:=hf c (hth c lE);exact⟨a3,a1,a4,a5⟩
   ·obtain⟨o,wK,ep,ho,r⟩:=hm;have ne:∀ c∈[n+4,n+2,n+3,n,n+1],X.env.locals≠c:=fun c lE=>cQ (hf c lE).2.1
    exact⟨o,wK,ep,kk _ o (ne _ #[M]) (ne _ #[M]) (ne _ #[M]) (ne _ #[M]) ho,r⟩
   ·have uQ:∀ d u',H d=some u'->∀ c∈[n+4,n+2,n+3,n,n+1],d≠c:=fun d u' e' c lE z=>by rw [z,(hf c lE).1] at e'; cases e'
    refine (I.hok c u e).FF (fun d v' hd q=>kk d v' ?_ ?_ ?_ ?_ q) #[Lw] fun _ _ q=>q
    all_goals
     rcases hd with z | z
     ·rw [z]; exact uQ c u e _ #[M]
     ·exact uQ d _ z _ #[M]
 self:=fun _ _ _ _ _ st h=>wpAny_pyIter_zip st.1 h
noncomputable def iZp (wO wQ:Hp->Addr->List V->Prop) (ta:TA):TI:=fun σ H R=>ta σ H fun vs H1=>∃ a b xs ys,vs = [.ref a,.ref b]/\wO H1 a xs/\wQ H1 b ys/\R (zks wO wQ a b) H1
theorem zdx {X:Cx} {es:List Expr} {k:Nat} {xD p pos:Pos} {a b:Expr} {ta:TA} (hg:Gl X "zip") (hm:X.mg "zip" = none) (ha:PA X [a,b] ta) (hs:starEach [a,b] X.env = [#[Kq],#[Ko]]:=by rfl) (qt:starEach [b] X.env = [#[Ko]]:=by rfl) :
  PI X (.Tuple es k xD) (.Call (.Name "zip" p) [a,b] [] pos) (iZp (kr X.K) (kr X.K) ta):=by
 intro km s σ H R I h;refine Call_ (zbH I hg hm boot_zip (cB (thn #[BT] fun us s1 ⟨vs,H1,I1,r1,q1⟩=>?_) (by rw [hs,qt]) (by rw [qt]; rfl)));obtain⟨l1,l2,xs,ys,e,vE,rn,q⟩:=q1;subst e;cases r1 with
 | cons r rr =>
  cases rr with
  | cons r' rr =>
   cases rr;cases r;cases r';obtain⟨xB,Am,pl1,uo⟩:=I1.list vE;obtain⟨ni,An,pl2,pH⟩:=I1.list rn;have Bs:l1 < s1.heap.objs.size:=by obtain⟨_,_,e,_⟩:=pl1; exact az e
   have Bt:l2 < s1.heap.objs.size:=by obtain⟨_,_,e,_⟩:=pl2; exact az e
   refine call_zip_2 pl1.isList pl2.isList fun h' b1 b2 b3 b4 b5 b6 kk=>?_
   have I2:Inv X km σ H1 { s1 with heap:=h' }:=I1.kept (t':=s1.toks) kk;refine wpAny_pyIter_zip b1 ?_;refine⟨_,_,_,zks (kr X.K) (kr X.K) l1 l2,H1,rfl,I2,zhX l1 l2 s1.heap.objs.size Bs Bt,⟨b1,b2,⟨_,_,b3⟩,b4,b5⟩,fun c hc=>?_,q⟩;have hle:s1.heap.objs.size<=c:=by
    simp only [aK,dq,or_false] at hc;rcases hc with z | z | z | z | z <;> subst z <;> lia
   exact I1.GB hle (I1.hok.fresh hle)
noncomputable def zfL (Sq:Hp->Addr->List V->Prop) (a:Addr) (n:Nat):It :=
 ⟨fun i H=>i < n/\∃ xs,Sq H a xs/\xs.length=n,fun i H x H'=>H'=H/\∀ xs,Sq H a xs->xs[n - 1 - i]? = some x,fun i H=>n<=i⟩
theorem zhY {K:af} (a it:Addr) (n:Nat):Turn P w K tg (zfL (kr K) a n) [it] it (fun i h=>i<=n/\h.IsRevIter it a ((n:Int) - 1 - (i:Int))) where
 mem:=by simp
 obj:=fun i h st b hb=>by
  have z:b=it:=by simpa using hb
  subst z;obtain⟨_,o,e,c,d⟩:=st;exact⟨o,e,fun v z=>by rw [d] at z; cases z⟩
 keep:=fun i h h' st k=>⟨st.1,st.2.at fun o e=>k it #[M] o e⟩
 item:=by
  intro X hP hw hK hc i km s σ H E I hf st hg;subst hP hw hK;obtain⟨oD,xs,hq,hl⟩:=hg;obtain⟨kq,rv,p,hz⟩:=I.list hq;have kB:=rv.length;obtain⟨x,hx⟩:∃ x,xs[n - 1 - i]? = some x:=⟨xs[n - 1 - i]'#[O],#[M]⟩;obtain⟨u,hu,ru⟩:=rv.get hx;obtain⟨f0,f1,f2,f3,f4,f5⟩:=hf it #[M];have e:(n:Int) - 1 - (i:Int)=((n - 1 - i:Nat):Int):=by lia
  have hit:=st.2;rw [e] at hit;refine wpAny_pyNext_rev_item hit p.isList (x:=u) (by simpa using hu) fun h' ku sb=>?_
  have I1:Inv X km σ H { s with heap:=h' }:=I.turned (t':=s.toks) (fun b o hb e=>(sb.2 b hb).trans e) f0 f1 f3 f4 f5;have e2:((n - 1 - i:Nat):Int) - 1=(n:Int) - 1 - ((i+1:Nat):Int):=by lia
  rw [e2] at ku;obtain⟨o,eo,c,d⟩:=id ku;exact⟨u,rfl,zeg (s:={ s with heap:=h' }) eo c d #[D] ⟨x,H,I1,ru,⟨rfl,fun ys hy=>by rw [I.EI hy hq]; exact hx⟩,⟨oD,ku⟩,fun b hb=>(hf b hb).1⟩⟩
 done:=by
  intro X hP hw hK hc i km s σ H E I hf st hg;subst hP hw hK;obtain⟨f0,f1,f2,f3,f4,f5⟩:=hf it #[M];have oD:n<=i:=hg;have e:(n:Int) - 1 - (i:Int) = -1:=by have:=st.1; lia
  have hit:=st.2;rw [e] at hit;exact wpAny_pyNext_rev_end #[IQ] hit fun h' eb=>#[pi]
 self:=fun _ _ _ _ _ st h=>ik st.2 h
end L2
end
section
namespace PySem
namespace F
theorem zew:Manifest.owners.lookup (String.ofList ['d','e','s','r','e','v','e','r'].reverse)=some Manifest.sig_reversed:=by kernel_rfl
theorem DL:Slot "reversed" "__next__" "reversed.__next__" :=
 .of (owner:="reversed") (n:="__next__") (by rw [fk,dM]; kernel_rfl) #[N] #[N] #[N] (by first | exact .inl #[N] | exact .inr #[N]) (by rw [cW]; kernel_rfl)
theorem Eh:entryFor table "reversed.__next__" = some Builtin.«reversed.__next__»:=entryFor_of_tree (by kernel_rfl)
theorem Ec (a:Value):argsOk "reversed.__next__" ⟨[a],[]⟩:=by
 unfold argsOk; rw [signature?_of (id:="reversed.__next__") (n:=['_','_','t','x','e','n','_','_']) (o:=['d','e','s','r','e','v','e','r']) (by kernel_rfl) zew]; kernel_rfl
theorem Ep:Slot "reversed" "__iter__" "reversed.__iter__" :=
 .of (owner:="reversed") (n:="__iter__") (by rw [fk,dM]; kernel_rfl) #[N] #[N] #[N] (by first | exact .inl #[N] | exact .inr #[N]) (by rw [cW]; kernel_rfl)
theorem EW (a:Value):argsOk "reversed.__iter__" ⟨[a],[]⟩:=by
 unfold argsOk; rw [signature?_of (id:="reversed.__iter__") (n:=['_','_','r','e','t','i','_','_']) (o:=['d','e','s','r','e','v','e','r']) (by kernel_rfl) zew]; kernel_rfl
theorem E9:entryFor table "reversed.__iter__" = some Builtin.«dict_keyiterator.__iter__»:=entryFor_alias (id':="dict_keyiterator.__iter__") (by kernel_rfl) (by first | rfl | decide +kernel | (unfold String.splitOn; simp +decide [String.splitOnAux])) #[N] (by kernel_rfl)
theorem zd5:Slot "reversed" "__init__" "object.__init__":=.of (owner:="object") (n:="__init__") (by rw [fk,dM]; kernel_rfl) #[N] #[N] #[N] (by first | exact .inl #[N] | exact .inr #[N]) (by rw [cW]; kernel_rfl)
theorem Gg:TypeCalled "reversed" "reversed.__new__" "object.__init__" :=
 ⟨#[N],#[N],⟨_,_,mro_reversed⟩,made_reversed,#[N],by rw [cW]; kernel_rfl,zd5⟩
theorem FN:typeLookup (.type "tuple") "__reversed__" = pure none:=by rw [fk,dM]; kernel_rfl
end F
noncomputable def ze2 (l:Addr) (i:Int):Obj:={ cls:=.type "reversed",data:=.fields #[.ref l,rawInt i] }
noncomputable def Heap.EY (h:Heap) (a l:Addr) (i:Int):Prop:=∃ o,h.get? a=some o/\o.cls = .type "reversed"/\o.data = .fields #[.ref l,rawInt i]
theorem Heap.EY.typeIs {s:Shared} {a l:Addr} {i:Int} (x:s.heap.EY a l i):s.TypeIs #[IT] "reversed":=let ⟨o,ho,hc,_⟩:=x; ⟨o,ho,hc⟩
theorem Heap.EY.at {h h':Heap} {a l:Addr} {i:Int} (x:h.EY a l i) (e:∀ o,h.get? a=some o->h'.get? a=some o):h'.EY a l i:=let ⟨o,ho,r⟩:=x; ⟨o,e _ ho,r⟩
open PyProof.Rows in
theorem zd6 (l:Addr) (kA:Array Value) :
  Meets (Builtin.«reversed.__new__» ⟨[.type "reversed",.ref l],[]⟩) (fun _ R s=>IsTup s.heap l kA/\(kA.size:Int) < 2 ^ 63 /\
   R (.ok (.ret #[wf])) { s with heap:=s.heap.push (ze2 l ((kA.size:Int) - 1)),toks:=s.toks+1+1 }) :=
 .of_wp fun prog w A R s h=>by
  obtain⟨hl,hsz,h⟩:=h;unfold Builtin.«reversed.__new__»; refine ae (d8 (newClass_reversed _) ?_)
  try dsimp only
  iterate 2 refine ae (d8 (a:=()) (by first | rfl | kernel_rfl) ?_)
  try dsimp only
  refine ae (fm hl.typeIs F.FN ?_)
  try dsimp only
  refine ae (ae (m:=isInstance #[JF] (.type "dict")) (gw hl.typeIs F.sub_tuple_dict ?_));simp only [bp,if_false]; refine ae (m:=specialOf #[JF] "__getitem__") #[KG];refine ak ?_
  try dsimp only
  try simp only [Bool.not_true,bp,if_false]
  refine ae (len_tuple hl hsz ?_);refine ae (m:=asInt? _) (d8 (a:=some (kA.size:Int)) rfl ?_)
  try dsimp only
  refine ae (m:=j1 _ _) ?_;show wpAny _ _ (newObj (.type "reversed") (.fields #[.ref l,rawInt ((kA.size:Int) - 1)]) none) _ _ _;refine cR ?_;exact ak ⟨_,rfl,h⟩
section
variable {prog:Program} {w:World} {A:Around} {E:Value->Shared->Prop} {s:Shared}
open PyProof.Rows
theorem zdG {l:Addr} {kA:Array Value} {Q:Value->Shared->Prop} (hl:IsTup s.heap l kA) (hsz:(kA.size:Int) < 2 ^ 63)
  (h:Q #[wf] { s with heap:=s.heap.push (ze2 l ((kA.size:Int) - 1)),toks:=s.toks+1+1 }):wpAny #[or] A (call (.type "reversed") [.ref l]) Q E s:=by
 refine callType_new F.Gg #[D] (F.typeCall_reversed_1 _) (F.newCall_reversed_1 _) (fun obj=>F.args_object_init_2 obj _) F.entry_reversed_new (zd6 l kA) ⟨hl,hsz,?_⟩; exact⟨⟨_,aC _ rfl,rfl⟩,h⟩
theorem zbY {it l:Addr} {i:Nat} {kA:Array Value} {x:Value} {Q:Option Value->Shared->Prop} (hit:s.heap.EY it l (i:Int)) (hl:IsTup s.heap l kA) (hx:kA[i]? = some x) (hi:(i:Int) < 2 ^ 62)
  (hQ:∀ h',h'.EY it l ((i:Int) - 1)->fg it s.heap h'->Q (some x) { s with heap:=h',toks:=s.toks+1 }):wpAny #[or] A #[Ky] Q E s:=by
 obtain⟨o,ho,hc,hd⟩:=id hit; unfold pyNext;refine ae (dg (dv (name:=bG "__next__") hit.typeIs F.DL
  (cX F.DL hit.typeIs F.Eh ?_ (F.Ec _))))
 unfold Builtin.«reversed.__next__»;refine ae (d8 (a:=(aP it,[])) rfl ?_); try dsimp only
 refine ae #[NC]; refine ae (fP ho hd (x:=rawInt (i:Int)) rfl ?_);show wpAny _ _ (if (i:Int) < 0 then _ else _) _ _ s; rw [if_neg #[O]];refine ae #[KG]
 try simp only [Option.isNone_some,bp,if_false]
 refine ae (wpAny_mkInt ?_); have kU:i < kA.size:=by
  obtain⟨h1,_⟩:=cF.mp hx;exact h1
 refine ae (dg (iw (j:=i) hl #[O] #[O] (by rw [gQ #[O] #[O]]; simp) hx ?_))
 try dsimp only
 refine ae (fP (s:={ s with toks:=s.toks+1 }) ho hd (x:=rawInt (i:Int)) rfl ?_);show wpAny _ _ (setField #[Jl] 1 (rawInt ((i:Int) - 1)) >>= _) _ _ _;refine ae (eE (s:={ s with toks:=s.toks+1 }) ho hd #[M] (ak ⟨x,rfl,ak (hQ _ ?_ (dt ..))⟩));exact⟨_,eZ _ ho (fb (dE hd _)),(jm ..).trans hc,by rw [dE hd]; simp⟩
theorem zb2 {it l:Addr} {Q:Option Value->Shared->Prop} (hh:A.handled=none) (hit:s.heap.EY it l (-1)) (hQ:∀ h',Heap.ExtBut it s.heap h'->Q none { s with heap:=h' }):wpAny #[or] A #[Ky] Q E s:=by
 obtain⟨o,ho,hc,hd⟩:=id hit; unfold pyNext;refine ae (dg (dv (name:=bG "__next__") hit.typeIs F.DL
  (cX F.DL hit.typeIs F.Eh ?_ (F.Ec _))))
 unfold Builtin.«reversed.__next__»;refine ae (d8 (a:=(aP it,[])) rfl ?_); try dsimp only
 refine ae #[NC]; refine ae (fP ho hd (x:=rawInt (-1)) rfl ?_);show wpAny _ _ (if (-1:Int) < 0 then _ else _) _ _ s; rw [if_pos #[D]];refine ae (dk ?_);refine ae (ae (m:=setField #[Jl] 1 (rawInt (-1))) #[MG]);have hd2:=dE hd (·.setIfInBounds 1 (rawInt (-1)));have qO:=eZ (iz (·.setIfInBounds 1 (rawInt (-1)))) ho (fb hd2);refine eE qO hd2 #[M] ?_
 try dsimp only
 refine ae ?_; show wpAny _ _ (newExc (.type "StopIteration") [] >>= _) _ _ _;refine ae ?_;simp only [newExc,newTuple];refine ae (cR ?_ (by size_fits)); refine ae (m:=firstArgMember _ _) (d8 (a:=cD) (by first | rfl | (simp only [firstArgMember]; rfl)) ?_);refine cR ?_ (by size_fits); simp only [raiseNew];refine ae (wpAny_handled ?_); first | rw [show A.in1.handled=none from hh] | rw [hh]
 refine ae (ak (wpAny_throw ?_)); refine ae (gw (T:="StopIteration") (b:=true) ⟨_,aC _ rfl,rfl⟩ isSubtype_stop ?_);exact ak (hQ _ ((((dt ..).extBut.trans (dt ..).extBut).push _).push _))
theorem zbB {it l:Addr} {i:Int} {Q:Value->Shared->Prop} (hit:s.heap.EY it l i) (h:Q #[Jl] s):wpAny #[or] A (pyIter #[Jl]) Q E s:=by
 refine wpAny_pyIter_slot hit.typeIs F.Ep (cX F.Ep hit.typeIs F.E9 ?_ (F.EW _));show wpAny _ _ (ret #[Jl]) _ _ s; exact ak ⟨_,rfl,"reversed",_,hit.typeIs,F.DL.lookup,h⟩
end
end PySem
namespace L2
open PySem PySem.Spec PyProof.Rows
variable {H1:Hp} {P:Program} {R:It->Hp->Prop} {X:Cx} {j:Nat} {km:List (Addr×Obj)} {s1:Shared} {tg:Expr} {us:List Value} {w:World}
theorem zhZ {K:af} (a it:Addr) (n:Nat):Turn P w K tg (zfL (kJ K) a n) [it] it (fun i h=>i<=n/\h.EY it a ((n:Int) - 1 - (i:Int))) where
 mem:=by simp
 obj:=fun i h st b hb=>by
  have z:b=it:=by simpa using hb
  subst z;obtain⟨_,o,e,c,d⟩:=st;exact⟨o,e,fun v z=>by rw [d] at z; cases z⟩
 keep:=fun i h h' st k=>⟨st.1,st.2.at fun o e=>k it #[M] o e⟩
 item:=by
  intro X hP hw hK hc i km s σ H E I hf st hg;subst hP hw hK;obtain⟨oD,xs,hq,hl⟩:=hg;obtain⟨kq,rv,p,hz⟩:=I.tuple hq;have kB:=rv.length;have oE:=be;obtain⟨x,hx⟩:∃ x,xs[n - 1 - i]? = some x:=⟨xs[n - 1 - i]'#[O],#[M]⟩;obtain⟨u,hu,ru⟩:=rv.get hx;obtain⟨f0,f1,f2,f3,f4,f5⟩:=hf it #[M];have e:(n:Int) - 1 - (i:Int)=((n - 1 - i:Nat):Int):=by lia
  have hit:=st.2;rw [e] at hit;refine zbY hit p (x:=u) (by simpa using hu) #[O] fun h' ku sb=>?_
  have I1:Inv X km σ H { s with heap:=h',toks:=s.toks+1 }:=I.turned (t':=s.toks+1) (fun b o hb e=>(sb.2 b hb).trans e) f0 f1 f3 f4 f5;have e2:((n - 1 - i:Nat):Int) - 1=(n:Int) - 1 - ((i+1:Nat):Int):=by lia
  rw [e2] at ku;obtain⟨o,eo,c,d⟩:=id ku;exact⟨u,rfl,zeg (s:={ s with heap:=h',toks:=s.toks+1 }) eo c d #[D] ⟨x,H,I1,ru,⟨rfl,fun ys hy=>by rw [I.FD hy hq]; exact hx⟩,⟨oD,ku⟩,fun b hb=>(hf b hb).1⟩⟩
 done:=by
  intro X hP hw hK hc i km s σ H E I hf st hg;subst hP hw hK;obtain⟨f0,f1,f2,f3,f4,f5⟩:=hf it #[M];have oD:n<=i:=hg;have e:(n:Int) - 1 - (i:Int) = -1:=by have:=st.1; lia
  have hit:=st.2;rw [e] at hit;exact zb2 #[IQ] hit fun h' eb=>#[pi]
 self:=fun _ _ _ _ _ st h=>zbB st.2 h
theorem ze3 {σ:St} {l:Addr} {xs:List V} (I1:Inv X km σ H1 s1) (hq:kJ X.K H1 l xs) (q:R (zfL (kJ X.K) l xs.length) H1) :
  wpAny #[li] X.A (call (.type "reversed") [.ref l]) #[JJ] X.xe s1:=by
 obtain⟨kq,rv,pl,hz⟩:=I1.tuple hq;have kB:=rv.length;have oE:=be;refine zdG pl (by rw [aq]; lia) ?_;have I2:Inv X km σ H1 { s1 with heap:=s1.heap.push (ze2 l ((kq.toArray.size:Int) - 1)),toks:=s1.toks+1+1 }:=I1.kept fun b o e=>ai _ e
 have hr:(s1.heap.push (ze2 l ((kq.toArray.size:Int) - 1))).EY s1.heap.objs.size l ((xs.length:Int) - 1 - ((0:Nat):Int)):=by
  refine⟨_,aC _ rfl,rfl,?_⟩;have e1:(kq.toArray.size:Int) - 1=(xs.length:Int) - 1 - ((0:Nat):Int):=by rw [aq,kB]; lia
  show jx #[.ref l,rawInt ((kq.toArray.size:Int) - 1)]=_;rw [e1]
 refine zbB hr ?_;refine⟨_,[s1.heap.objs.size],_,zfL (kJ X.K) l xs.length,H1,rfl,I2,zhZ l s1.heap.objs.size xs.length,⟨bg _,hr⟩,fun b hb=>?_,q⟩;have z:b=s1.heap.objs.size:=by simpa using hb
 subst z;exact I1.GB (ag _) #[II]
theorem zfM {σ:St} {l:Addr} {xs:List V} (I1:Inv X km σ H1 s1) (hq:kr X.K H1 l xs) (q:R (zfL (kr X.K) l xs.length) H1) :
  wpAny #[li] X.A (call (.type "reversed") [.ref l]) #[JJ] X.xe s1:=by
 obtain⟨kq,rv,pl,hz⟩:=I1.list hq;have kB:=rv.length;refine call_reversed_list pl.isList ?_;have I2:Inv X km σ H1 { s1 with heap:=s1.heap.push (revObj l ((kq.toArray.size:Int) - 1)) }:=I1.kept (t':=s1.toks) fun b o e=>ai _ e
 have hr:(s1.heap.push (revObj l ((kq.toArray.size:Int) - 1))).IsRevIter s1.heap.objs.size l ((xs.length:Int) - 1 - ((0:Nat):Int)):=by
  refine⟨_,aC _ rfl,rfl,?_⟩;have e1:(kq.toArray.size:Int) - 1=(xs.length:Int) - 1 - ((0:Nat):Int):=by rw [aq,kB]; lia
  show jx #[.ref l,rawInt ((kq.toArray.size:Int) - 1)]=_;rw [e1]
 refine ik hr ?_;refine⟨_,[s1.heap.objs.size],_,zfL (kr X.K) l xs.length,H1,rfl,I2,zhY l s1.heap.objs.size xs.length,⟨bg _,hr⟩,fun b hb=>?_,q⟩;have z:b=s1.heap.objs.size:=by simpa using hb
 subst z;exact I1.GB (ag _) #[II]
noncomputable def zmU (K:af) (ta:TA):TI:=fun σ H R=>ta σ H fun vs H1=>∃ a xs,vs = [.ref a]/\((kr K H1 a xs/\R (zfL (kr K) a xs.length) H1)\/(kJ K H1 a xs/\R (zfL (kJ K) a xs.length) H1))
theorem zlI {X:Cx} {tg:Expr} {p pos:Pos} {a:Expr} {ta:TA} (hg:Gl X "reversed") (hm:X.mg "reversed" = none) (ha:PA X [a] ta) (hs:starEach [a] X.env = [#[Kq]]:=by rfl) :
  PI X tg (.Call (.Name "reversed" p) [a] [] pos) (zmU X.K ta):=by
 intro km s σ H R I h;refine Call_ (zbH I hg hm boot_reversed (cB (thn #[BT] fun us s1 ⟨vs,H1,I1,r1,q1⟩=>?_) hs rfl));obtain⟨l,xs,e,hq⟩:=q1;subst e;cases r1 with
 | cons r rr =>
  cases rr;cases r;rcases hq with ⟨hq,q⟩ | ⟨hq,q⟩
  ·exact zfM I1 hq q
  ·exact ze3 I1 hq q
inductive EqD (K:af) (H:Hp):Nat->V->V->Bool->Prop where
 | flat {d:Nat} {x y:V} (hx:zeq x=true) (hy:zeq y=true):EqD K H d x y (eqV x y)
 | same {d:Nat} {a:Addr}:EqD K H d #[IT] #[IT] true
 | lists {d:Nat} {a b:Addr} {xs ys:List V} {e:Nat->Bool} (lW:a≠b) (ha:kr K H a xs) (hb:kr K H b ys) (hl:xs.length=ys.length)
   (he:∀ (j:Nat) x y,xs[j]? = some x->ys[j]? = some y->EqD K H d x y (e j)):EqD K H (d+1) #[IT] #[M9] (#[Mf].all e)
 | lens {d:Nat} {a b:Addr} {xs ys:List V} (lW:a≠b) (ha:kr K H a xs) (hb:kr K H b ys) (hl:xs.length≠ys.length):EqD K H (d+1) #[IT] #[M9] false
 | Fc {d:Nat} {a b:Addr} {xs ys:List V} {e:Nat->Bool} (lW:a≠b) (ha:kJ K H a xs) (hb:kJ K H b ys)
   (he:∀ (j:Nat) x y,xs[j]? = some x->ys[j]? = some y->EqD K H d x y (e j)):EqD K H (d+1) #[IT] #[M9] ((bW (min xs.length ys.length)).all e && xs.length == ys.length)
theorem zG.GR {xs:List V} (r:zG xs us) (h:j < us.toArray.size):∃ x,xs[j]? = some x/\RelV x us.toArray[j]:=by
 have hl:=r.length;have hj:j < xs.length:=by rw [hl]; simpa using h
 obtain⟨u,hu,ru⟩:=r.get (i:=j) (x:=xs[j]) #[M];refine⟨xs[j],#[M],?_⟩;have:us.toArray[j]=u:=by
  have h2:j < us.length:=by simpa using h
  rw [ah h2] at hu;simpa using aQ hu
 rw [this];exact ru
theorem EqD.at {X:Cx} {km:List (Addr×Obj)} {σ:St} {H:Hp} {s:Shared} (I:Inv X km σ H s) {d:Nat} {x y:V} {b:Bool} (h:EqD X.K H d x y b) :
  ∀ (A:Around) (u v:Value),RelV x u->RelV y v->A.units+d < cLine->jP A s u v b:=by
 induction h with
 | flat hx hy=>exact fun A u v rx ry _=>zly rx ry hx hy
 | same=>intro A u v rx ry _; cases rx; cases ry; exact jQ _
 | lists lW ha hb hl he ih =>
  intro A u v rx ry hu;cases rx; cases ry;obtain⟨vF,r1,p1,_⟩:=I.list ha;obtain⟨vG,r2,p2,_⟩:=I.list hb;have l1:=r1.length;have l2:=r2.length;refine fU lW ?_;have q:=SeqAt.RcAt.lists (A:=A) p1.isList p2.isList (by simp only [aq]; lia) #[O] fun j h1 h2=>by
   obtain⟨x,hx,rx⟩:=r1.GR h1;obtain⟨y,hy,ry⟩:=r2.GR h2;exact ih j x y hx hy A.in1 _ _ rx ry (by simp only [dW]; lia)
  rw [aq,<- l1] at q;exact q
 | lens lW ha hb hl =>
  intro A u v rx ry hu;cases rx; cases ry;obtain⟨vF,r1,p1,_⟩:=I.list ha;obtain⟨vG,r2,p2,_⟩:=I.list hb;have l1:=r1.length;have l2:=r2.length;exact fU lW (SeqAt.RcAt.lists_lengths p1.isList p2.isList (by simp only [aq,bne_iff_ne]; lia) #[O])
 | Fc lW ha hb he ih =>
  intro A u v rx ry hu;cases rx; cases ry;obtain⟨vF,r1,p1,_⟩:=I.tuple ha;obtain⟨vG,r2,p2,_⟩:=I.tuple hb;have l1:=r1.length;have l2:=r2.length;refine fU lW ?_;have q:=SeqAt.RcAt.tuples (A:=A) (s:=s) p1 p2 #[O] fun j h1 h2=>by
   obtain⟨x,hx,rx⟩:=r1.GR h1;obtain⟨y,hy,ry⟩:=r2.GR h2;exact ih j x y hx hy A.in1 _ _ rx ry (by simp only [dW]; lia)
  rw [aq,aq,<- l1,<- l2] at q;exact q
noncomputable def zmr (K:af) (neg:Bool):R2:=fun x y H Q=>∃ a b xs ys,x = .ref a/\y = .ref b/\((kr K H a xs/\kr K H b ys)\/(kJ K H a xs/\kJ K H b ys)) /\
 ((xs.length≠ys.length/\(∀ (j:Nat) x y,xs[j]? = some x->ys[j]? = some y->∃ c,EqD K H 8 x y c)/\Q (.bl neg) H) \/
  (xs.length=ys.length/\∃ e:Nat->Bool,(∀ (j:Nat) x y,xs[j]? = some x->ys[j]? = some y->EqD K H 8 x y (e j))/\Q (.bl (if neg then !#[Mf].all e else #[Mf].all e)) H))
theorem zi8 {X:Cx} (hu:X.A.units+20 < cLine):OpR X (compareOp .NotEq) (zmr X.K true):=by
 intro km s σ H x y v u Q I rx ry h;obtain⟨a,b,xs,ys,rfl,rfl,hk,h⟩:=h;cases rx; cases ry;rcases hk with ⟨ha,hb⟩ | ⟨ha,hb⟩
 ·obtain⟨vF,r1,p1,_⟩:=I.list ha;obtain⟨vG,r2,p2,_⟩:=I.list hb;have l1:=r1.length;have l2:=r2.length;rcases h with ⟨hl,_,q⟩ | ⟨hl,e,he,q⟩
  ·exact SeqAt.RcNeAt.lists_lengths p1.isList p2.isList (by simp only [aq,bne_iff_ne]; lia) #[O] _ _ _ _ ⟨.bl true,H,I,rfl,q⟩
  ·refine SeqAt.RcNeAt.lists p1.isList p2.isList (e:=e) (by simp only [aq]; lia) #[O] #[Nk] _ _ _ _ #[Mh]
   ·obtain⟨x,hx,rx⟩:=r1.GR h1;obtain⟨y,hy,ry⟩:=r2.GR h2;exact (he j x y hx hy).at I _ _ _ rx ry (by simp only [dW]; lia)
   ·rw [aq,<- l1];exact q
 ·obtain⟨vF,r1,p1,_⟩:=I.tuple ha;obtain⟨vG,r2,p2,_⟩:=I.tuple hb;have l1:=r1.length;have l2:=r2.length;rcases h with ⟨hl,he,q⟩ | ⟨hl,e,he,q⟩
  ·have xE:∀ j:Nat,∃ c:Bool,∀ x y,xs[j]? = some x->ys[j]? = some y->EqD X.K H 8 x y c:=fun j=>by
    cases hx:xs[j]? with
    | none=>exact⟨true,fun x y z=>by cases z⟩
    | some x =>
     cases hy:ys[j]? with
     | none=>exact⟨true,fun x y _ z=>by cases z⟩
     | some y =>
      obtain⟨c,hc⟩:=he j x y hx hy;exact⟨c,fun x' y' z1 z2=>by cases z1; cases z2; exact hc⟩
   obtain⟨e,Bu⟩:=Classical.axiomOfChoice xE;refine iJ (s:=s) p1 p2 (e:=e) #[O] #[Nk] _ _ _ _ #[Mh]
   ·obtain⟨x,hx,rx⟩:=r1.GR h1;obtain⟨y,hy,ry⟩:=r2.GR h2;exact (Bu j x y hx hy).at I _ _ _ rx ry (by simp only [dW]; lia)
   ·have sL:(vF.toArray.size == vG.toArray.size)=false:=by
     rw [aq,aq]; exact beq_eq_false_iff_ne.mpr #[O]
    rw [sL,j0];exact q
  ·refine iJ (s:=s) p1 p2 (e:=e) #[O] #[Nk] _ _ _ _ #[Mh]
   ·obtain⟨x,hx,rx⟩:=r1.GR h1;obtain⟨y,hy,ry⟩:=r2.GR h2;exact (he j x y hx hy).at I _ _ _ rx ry (by simp only [dW]; lia)
   ·have sL:(vF.toArray.size == vG.toArray.size)=true:=by
     rw [aq,aq]; exact beq_iff_eq.mpr #[O]
    have Bv:min vF.toArray.size vG.toArray.size=xs.length:=by rw [aq,aq]; lia
    rw [sL,Bool.and_true,Bv];exact q
theorem zb3 {X:Cx}:za8 X (.builtin "isinstance") (fun xs H Q=>∃ x t n b,xs = [x,.ty n]/\Gj X.K H x t/\a8 X.K t (.type n)=some b/\Q (.bl b) H):=by
 intro km s σ H xs us Q I r h;obtain⟨x,t,n,b,rfl,ty,hk,q⟩:=h;obtain⟨u,u',rfl,rx,r2⟩:=vals2 r;cases r2;exact zhS I rx ty hk fun tk=>⟨.bl b,H,I.tok tk,rfl,q⟩
theorem zfN {X:Cx}:za8 X (.type "range") (fun xs H Q=>∃ j:Int,xs = [.int j]/\∀ l,H l=none->Q #[JF] (kx H l (.rng 0 j))):=by
 intro km s σ H xs us Q I r h;obtain⟨j,rfl,q⟩:=h;obtain⟨u,rfl,t,rfl⟩:=vals1 r;refine call_range_1 ?_;exact⟨.ref s.heap.objs.size,_,I.laid (o:=.rng 0 j) (fun b o e=>ai _ e) (ag _) ⟨_,_,_,aC _ rfl⟩,rfl,q _ I.fresh⟩
noncomputable def zbv (lo:Int) (n:Nat):List Int:=(bW n).map fun (i:Nat)=>lo+(i:Int)
theorem zcv (lo:Int) (n:Nat):(zbv lo n).length=n:=by simp [zbv]
theorem zd7 {acc:Array Value} {lo:Int} {n:Nat} (h:ItemsOf (fun i v=>∃ t,v = .int (lo+(i:Nat)*1) t) acc n):zG ((zbv lo n).map V.int) acc.toList:=by
 obtain⟨hsz,hv⟩:=h;have go:∀ (us:List Value) (k:Nat),(∀ (j:Nat) v,us[j]? = some v->∃ t,v = .int (lo+((k+j:Nat):Int)) t)->zG (((bW us.length).map fun (i:Nat)=>V.int (lo+((k+i:Nat):Int)))) us:=by
  intro us;induction us with
  | nil=>intro k _; exact .nil
  | cons u us ih =>
   intro k hu;rw [bA,List.range_succ_eq_map,aT,aI];refine .cons ?_ ?_
   ·obtain⟨t,e⟩:=hu 0 u rfl;exact⟨t,e⟩
   ·have:=ih (k+1) fun j v e=>by
     obtain⟨t,z⟩:=hu (j+1) v (by simpa using e);exact⟨t,by rw [z]; congr 1; lia⟩
    have e2:(fun (i:Nat)=>V.int (lo+((k+1+i:Nat):Int)))=((fun (i:Nat)=>V.int (lo+((k+i:Nat):Int))) ∘ Nat.succ):=by
     funext i;show V.int _=V.int _;congr 2;show ((k+1+i:Nat):Int)=((k+(i+1):Nat):Int);lia
    rw [<- e2];exact this
 have h1:=go acc.toList 0 fun j v e=>by
  obtain⟨t,z⟩:=hv j v (by simpa using e);exact⟨t,by rw [z]; simp⟩
 have e1:acc.toList.length=n:=by simpa using hsz
 rw [e1] at h1;unfold zbv;rw [aI];have e2:(V.int ∘ fun (i:Nat)=>lo+(i:Int))=fun (i:Nat)=>V.int (lo+((0+i:Nat):Int)):=by
  funext i;show V.int (lo+(i:Int))=V.int (lo+((0+i:Nat):Int));rw [cK]
 rw [e2];exact h1
theorem zd8 {X:Cx} (hc:X.calm=true):za8 X (.type "list") (fun xs H Q=>∃ p hi,xs = [.ref p]/\H p=some (.rng 0 hi)/\0<=hi/\hi<=1000/\∀ l,H l=none->Q #[JF] (kx H l (.lst ((zbv 0 hi.toNat).map V.int)))):=by
 intro km s σ H xs us Q I r h;obtain⟨p,hi,rfl,hp,h0,h1,q⟩:=h;obtain⟨u,rfl,rx⟩:=vals1 r;cases rx;obtain⟨t,u',v,e⟩:=(show z6 X.prog X.w H s.heap p (.rng 0 hi) from I.hok p _ hp);have oE:=be;refine call_list_range (n:=hi.toNat) #[IQ] (show IsRange s.heap p 0 hi 1 t u' v from e) (small_one #[O] #[O] #[O] #[O]) (by rw [rangeSize_one]; split <;> lia) #[O] fun h' tk Bw c' kk ho pQ=>?_
 have hv:=zd7 (lo:=0) (n:=hi.toNat) pQ;refine⟨.ref s.heap.objs.size,_,I.laid kk (ag _) ?_,rfl,q _ I.fresh⟩;exact⟨by rw [aa,zcv]; lia,Bw.toList,c',hv,by simpa using ho⟩
noncomputable def zmV (K:af) (tl:TE):TI:=fun σ H R=>tl σ H fun x H1=>∃ a,x = .ref a/\(((∃ xs,kr K H1 a xs)/\R #[MV] H1)\/((∃ xs,kJ K H1 a xs)/\R (Itt K a) H1))
theorem zlJ {X:Cx} {tg l:Expr} {tl:TE} (hl:PE X l tl):PI X tg l (zmV X.K tl):=by
 intro km s σ H R I h;refine thn #[LA] fun v s1 ⟨x,H1,I1,r1,q1⟩=>?_
 obtain⟨a,e,q⟩:=q1;subst e;cases r1;rcases q with ⟨⟨xs,hq⟩,q⟩ | ⟨⟨xs,hq⟩,q⟩
 ·obtain⟨kq,rv,p,hz⟩:=I1.list hq;refine gf p.isList ?_;refine⟨s1.heap.objs.size,[s1.heap.objs.size],_,_,H1,rfl,I1.kept (t':=s1.toks) fun b o e=>ai _ e,zeh a _,⟨_,aC _ rfl,rfl,rfl⟩,fun b hb=>?_,q⟩;have e:b=s1.heap.objs.size:=by simpa using hb
  subst e;exact I1.GB (ag _) #[II]
 ·obtain⟨kq,rv,p,hz⟩:=I1.tuple hq;refine jc (show s1.heap.IsTuple a kq.toArray from p) ?_;refine⟨s1.heap.objs.size,[s1.heap.objs.size],_,_,H1,rfl,I1.kept (t':=s1.toks) fun b o e=>ai _ e,zgB a _,⟨_,aC _ rfl,rfl,rfl⟩,fun b hb=>?_,q⟩;have e:b=s1.heap.objs.size:=by simpa using hb
  subst e;exact I1.GB (ag _) #[II]
noncomputable def intsOf:List Expr->Option #[Iv]
 | []=>some []
 | .Constant (.int i) _ _ :: r=>(intsOf r).map (i :: ·)
 | _=>none
noncomputable def zex (ns:List Int):TA:=fun _ H Q=>Q #[ww] H
theorem zi9:∀ (es:List Expr) (ns:List Int),intsOf es=some ns->PA X es (zex ns):=by
 intro es;induction es with
 | nil =>
  intro ns h;have e:ns = []:=(aQ h).symm;subst e;exact zf
 | cons e r ih =>
  intro ns h;unfold intsOf at h;split at h
  ·rename_i heq
   cases heq
  ·rename_i i j p r' heq
   injection heq with e1 e2
   subst e1 e2;cases hr:intsOf r with
   | none=>rw [hr] at h; cases h
   | some ms =>
    rw [hr] at h;have e:i :: ms=ns:=aQ h;subst e;exact za zg (ih ms hr)
  ·cases h
theorem zkt {X:Cx} {es:List Expr} {ns:List Int} (h:intsOf es=some ns):PA X es (zex ns):=zi9 es ns h
theorem zey {X:Cx} {i:Int} {j:Nat} {p:Pos} {es:List Expr} {t:TA} (hr:PA X es t):PA X (.Constant (.int i) j p :: es) (zhd (tC (.int i)) t):=za zg hr
theorem zja {X:Cx} {i:Nat} {x:Str} {pos' o2 mW:Pos} {rest:List Stmt} {u:TS} {es:List Expr} {ns:List Int} (h:intsOf es=some ns) (hN:X.N.Nodup) (hi:X.N[i]? = some x) (hx:Loc X.env.scope x)
  (hf:X.fn x=true\/X.env.scope.names.lookup x=some .local) (hr:PSs X rest u):PSs X (.Assign [.Name x pos'] #[KR] mW :: rest) (zbi (zd3 (zgE (zex ns)) (zaJ i)) u):=by
 have h1:PE X #[KR] (zgE (zex ns)):=@zag X es (zex ns) o2 (@zkt X es ns h);have h2:PS X (.Assign [.Name x pos'] #[KR] mW) (zd3 (zgE (zex ns)) (zaJ i)):=zn hN hi hx h1 (by rfl) hf;exact ze h2 hr
section
variable {X:Cx} {K:af}
theorem zfO (hK:X.K=K):IxR X (zmo K):=by subst hK; exact zO
theorem zcg (hK:X.K=K):IxR X (zmp K):=by subst hK; exact zbL
theorem zjb (hK:X.K=K):SlR X (zmq K):=by subst hK; exact zbM
noncomputable def zms (K:af):List V->Hp->VK->Prop:=fun xs H Q=>∃ p ys,xs = [.ref p]/\(kr K H p ys\/kJ K H p ys)/\Q (.int ys.length) H
theorem zbw (hK:X.K=K):za8 X (.builtin "len") (zms K):=by subst hK; exact z8
theorem zbk {es:List Expr} {k:Nat} {t:TGs} {n:Nat} {pos:Pos} (hK:X.K=K) (hc:X.calm=true) (h:PGs X es t)
  (hn:#[Jp].length=n:=by rfl) (nN:#[Jp].findIdx? (·.1)=none:=by rfl):PG X #[MK] (zhO K n t):=by subst hK; exact zbd hc h hn nN
theorem zlK {o e:Expr} {es:List Expr} {to:TE} {t:TA} {name:Str} {apos kY:Pos} {T id:String} {r:V->List V->Hp->VK->Prop} (hK:X.K=K) (pa:PlainAttrs T) (slot:Slot T name id) (Be:typeOf #[JQ]=pure (.type "method_descriptor")) (hm:MtR X id r) (ho:PE X o to) (ha:PA X (e :: es) t)
  (pN:attributeBase o name X.env #[Md]=eval o X.env:=by rfl)
  (vy:(#[LE].all (fun x=>!x.1) && (backToKw kY (keywordEach [] X.env)).all (fun x=>x.1.isSome)
   && decide ((e :: es).length+([]:List Keyword).length+(if ([]:List Keyword).isEmpty then 0 else 1) < 30))=true:=by rfl)
  (pO:(apos.endLine == kY.line)=true:=by rfl) (hs:starEach (e :: es) X.env=#[wS] :: starEach es X.env:=by rfl) (qv:#[JV].any (·.1)=false:=by rfl) :
  PE X (.Call (.Attribute o name apos) (e :: es) [] kY) (tBM K T r to t):=by subst hK; exact zdf pa slot Be hm ho ha pN vy pO hs qv
end
end L2
end
section
namespace My
variable {done kW:List (Int×Int)} {q:Int×Int}
noncomputable def Cg (p a b:Int):Prop:=∃ k,a=b+p*k
theorem Cg.refl (p a:Int):Cg p a a:=⟨0,by grind⟩
theorem Cg.symm {p a b:Int} (h:Cg p a b):Cg p b a:=by obtain⟨k,e⟩:=h; exact⟨-k,by grind⟩
theorem Cg.trans {p a b c:Int} (h:Cg p a b) (h':Cg p b c):Cg p a c:=by
 obtain⟨k,e⟩:=h; obtain⟨l,e'⟩:=h'; exact⟨k+l,by grind⟩
theorem Cg.add {p a b c d:Int} (h:Cg p a b) (h':Cg p c d):Cg p (a+c) (b+d):=by
 obtain⟨k,e⟩:=h; obtain⟨l,e'⟩:=h'; exact⟨k+l,by grind⟩
theorem Cg.sub {p a b c d:Int} (h:Cg p a b) (h':Cg p c d):Cg p (a - c) (b - d):=by
 obtain⟨k,e⟩:=h; obtain⟨l,e'⟩:=h'; exact⟨k - l,by grind⟩
theorem Cg.mul {p a b c d:Int} (h:Cg p a b) (h':Cg p c d):Cg p (a*c) (b*d):=by
 obtain⟨k,e⟩:=h; obtain⟨l,e'⟩:=h';exact⟨k*d+b*l+p*k*l,by subst e e'; grind⟩
theorem Cg.of_eq {p a b:Int} (h:a=b):Cg p a b:=h ▸ Cg.refl p a
theorem Cg.emod (p a:Int):Cg p (a % p) a:=⟨-(a / p),by have:=Int.emod_add_mul_ediv a p; grind⟩
theorem Cg.mod_eq {p a b:Int} (h:Cg p a b):a % p=b % p:=by
 obtain⟨k,e⟩:=h; rw [e,Int.add_mul_emod_self_left]
theorem Cg.F6 {p a b:Int} (h:a % p=b % p):Cg p a b:=(Cg.emod p a).symm.trans (h ▸ Cg.emod p b)
theorem Cg.eq {p a b:Int} (h:Cg p a b) (ha:0<=a) (wR:a < p) (hb:0<=b) (sL:b < p):a=b:=by
 have:=h.mod_eq
 rwa [dH ha wR,dH hb sL] at this
noncomputable def zr (p x:Int):List Int->Int
 | []=>0
 | c :: r=>(c+x*zr p x r) % p
theorem za6 {p x:Int} (hp:0 < p):∀ l,0<=zr p x l
 | []=>bH 0
 | _ :: _=>aM _ #[O]
theorem za7 {p x:Int} (hp:0 < p):∀ l,zr p x l < p
 | []=>hp
 | _ :: _=>aE _ hp
theorem zaf (p x c:Int) (r:List Int):Cg p (zr p x (c :: r)) (c+x*zr p x r):=Cg.emod _ _
theorem zgM {p x:Int} (m:Nat):zr p x (au m 0)=0:=by
 induction m with
 | zero=>rfl
 | succ m ih=>rw [br]; show (0+x*zr p x (au m 0)) % p=0; rw [ih]; simp
theorem zfP {p x:Int} (m:Nat):∀ l,zr p x (l++au m 0)=zr p x l
 | []=>zgM m
 | c :: r=>by show (c+x*zr p x (r++au m 0)) % p=(c+x*zr p x r) % p; rw [zfP m r]
noncomputable def lv (p x:Int):Int->Int->List Int->Int
 | kC,_,[]=>kC
 | kC,power,c :: r=>lv p x ((kC+c*power) % p) (power*x % p) r
theorem zk7 {p x:Int}:∀ (l:List Int) (kC power:Int),Cg p (lv p x kC power l) (kC+power*zr p x l)
 | [],kC,power=>Cg.of_eq (by show kC=kC+power*0; grind)
 | c :: r,kC,power=>by
  have h1:=zk7 (p:=p) (x:=x) r ((kC+c*power) % p) (power*x % p);refine h1.trans ?_;have h2:Cg p ((kC+c*power) % p+power*x % p*zr p x r) (kC+c*power+power*x*zr p x r):=#[KQ].add ((Cg.emod p (power*x)).mul #[JP]);refine h2.trans ?_;have h3:Cg p (kC+power*(c+x*zr p x r)) (kC+power*zr p x (c :: r)):=#[JP].add (#[JP].mul (zaf p x c r).symm);refine (Cg.of_eq ?_).trans h3;grind
theorem zjc {p x:Int} (hp:0 < p):∀ (l:List Int) (kC power:Int),0<=kC->kC < p->0<=lv p x kC power l/\lv p x kC power l < p
 | [],kC,power,h1,h2=>⟨h1,h2⟩
 | c :: r,kC,power,h1,h2=>zjc hp r _ _ (aM _ #[O]) (aE _ hp)
theorem zhj {p x:Int} (hp:0 < p) (l:List Int):lv p x 0 1 l=zr p x l:=by
 obtain⟨a,b⟩:=zjc (x:=x) hp l 0 1 (bH _) hp;exact ((zk7 l 0 1).trans (Cg.of_eq (by grind))).eq a b (za6 hp l) (za7 hp l)
noncomputable def zy:List Int:=[5,7,11,13,17,19,23,29,31,37,41,43,47,53,59,61,67,71,73,79,83,89,97]
noncomputable def zch (p:Int):Nat->Int->Int->Int->Int
 | 0,prod,_,_=>prod
 | n+1,prod,sq,left=>if 0 < left then zch p n (if left % 2=1 then prod*sq % p else prod) (sq*sq % p) (left / 2) else prod
noncomputable def inv (p h:Int):Int:=zch p 7 1 (h % p) (p - 2)
noncomputable def zmW:Bool:=zy.all fun p=>(bW p.toNat).all fun h=>h == 0 || (inv p h*h) % p == 1
theorem zh0:zmW=true:=by decide +kernel
theorem zQ {p:Int} (hp:p∈zy):5<=p/\p<=97:=by
 have:zy.all (fun p=>decide (5<=p/\p<=97))=true:=by decide +kernel
 have:=eX.mp this p hp;simpa using this
theorem ze4 {p h:Int} (hp:p∈zy) (h0:0 < h) (h1:h < p):Cg p (inv p h*h) 1:=by
 have e:=eX.mp (eX.mp zh0 p hp) h.toNat (cu.mpr #[O]);have hh:((h.toNat:Nat):Int)=h:=by lia
 have:h.toNat≠0:=by lia
 simp only [Bool.or_eq_true,beq_iff_eq,hh,this,false_or] at e;have hr:=zQ hp;exact Cg.F6 (by rw [e,dH #[O] #[O]])
theorem zfQ {p a b:Int} (hp:p∈zy) (h:Cg p (a*b) 0):Cg p a 0\/Cg p b 0:=by
 have hr:=zQ hp;by_cases ha:a % p=0
 ·exact .inl (Cg.F6 (by rw [ha]; simp))
 ·right;have h0:0 < a % p:=by have:=aM a (show p≠0 by lia); lia
  have hi:=ze4 hp h0 (aE a #[O]);have h1:Cg p (inv p (a % p)*(a*b)) 0:=(#[JP].mul h).trans (Cg.of_eq (by grind));have h2:Cg p (inv p (a % p)*(a % p)*b) (1*b):=hi.mul (Cg.refl p b);have h3:Cg p (inv p (a % p)*(a*b)) (inv p (a % p)*(a % p)*b):=by
   have:=((Cg.refl p (inv p (a % p))).mul (Cg.emod p a).symm).mul (Cg.refl p b);exact (Cg.of_eq (by grind)).trans this
  exact ((Cg.of_eq (by grind)).trans (h2.symm.trans (h3.symm.trans h1)))
noncomputable def trF (p r:Int) (high low:Int):Int:=(high - r*low) % p
noncomputable def zcM (p r:Int) (v:List Int):List Int:=aU #[Lf] (0 :: v) (v++[0])
theorem zk8 {p r z:Int}:∀ (v:List Int) (h:Int),Cg p (zr p z (aU #[Lf] (h :: v) (v++[0]))) (h+(z - r)*zr p z v)
 | [],h=>by
  show Cg p ((trF p r h 0+z*0) % p) (h+(z - r)*0);refine #[KQ].trans ?_;have:Cg p (trF p r h 0) (h - r*0):=Cg.emod p _;exact (this.add (Cg.refl p (z*0))).trans (Cg.of_eq (by grind))
 | c :: w,h=>by
  show Cg p ((trF p r h c+z*zr p z (aU #[Lf] (c :: w) (w++[0]))) % p) (h+(z - r)*zr p z (c :: w));have ih:=zk8 (p:=p) (r:=r) (z:=z) w c;have h1:Cg p (trF p r h c) (h - r*c):=Cg.emod p _;refine #[KQ].trans ((h1.add ((Cg.refl p z).mul ih)).trans ?_);have h2:Cg p (h+(z - r)*(c+z*zr p z w)) (h+(z - r)*zr p z (c :: w)):=(Cg.refl p h).add (#[JP].mul (zaf p z c w).symm);exact (Cg.of_eq (by grind)).trans h2
theorem zku {p r z:Int} (v:List Int):Cg p (zr p z (zcM p r v)) ((z - r)*zr p z v):=(zk8 v 0).trans (Cg.of_eq (by grind))
theorem zez (p r:Int) (v:List Int):(zcM p r v).length=v.length+1:=by simp [zcM]
theorem zfR {α β γ:Type} {f:α->β->γ}:∀ {as:List α} {bs:List β} {c:γ},c∈aU f as bs->∃ a b,c=f a b
 | [],_,c,h=>by simp at h
 | _ :: _,[],c,h=>by simp at h
 | a :: as,b :: bs,c,h=>by
  rcases aK.mp h with e | e
  ·exact⟨a,b,e⟩
  ·exact zfR e
theorem zlL {p r:Int} (hp:0 < p) (v:List Int):∀ c∈zcM p r v,0<=c/\c < p:=by
 intro c hc;obtain⟨a,b,e⟩:=zfR hc;rw [e]; exact⟨aM _ #[O],aE _ hp⟩
noncomputable def ad (p f:Int):List Int->List Int->List Int
 | c :: cs,v :: vs=>(c+f*v) % p :: ad p f cs vs
 | cs,[]=>cs
 | [],_ :: _=>[]
theorem zeA (p f:Int):∀ (cs vs:List Int),#[Mg].length=cs.length
 | _ :: cs,_ :: vs=>by show #[Mg].length+1=_; rw [zeA p f cs vs]; rfl
 | [],[]=>rfl
 | _ :: _,[]=>rfl
 | [],_ :: _=>rfl
theorem zjd {p f:Int} (hp:0 < p):∀ (cs vs:List Int),(∀ c∈cs,0<=c/\c < p)->∀ c∈ad p f cs vs,0<=c/\c < p
 | c :: cs,v :: vs,h,d,hd=>by
  rcases aK.mp hd with e | e
  ·rw [e]; exact⟨aM _ #[O],aE _ hp⟩
  ·exact zjd hp cs vs (fun c hc=>h c (aj _ hc)) d e
 | [],[],h,d,hd=>h d hd
 | _ :: _,[],h,d,hd=>h d hd
 | [],_ :: _,h,d,hd=>by cases hd
theorem zhk {p f z:Int}:∀ (cs vs:List Int),vs.length<=cs.length->Cg p (zr p z #[Mg]) (zr p z cs+f*zr p z vs)
 | c :: cs,v :: vs,h=>by
  have ih:=zhk (p:=p) (f:=f) (z:=z) cs vs (by simpa using h);show Cg p (((c+f*v) % p+z*zr p z #[Mg]) % p) (zr p z (c :: cs)+f*zr p z (v :: vs));refine #[KQ].trans (((Cg.emod p (c+f*v)).add ((Cg.refl p z).mul ih)).trans ?_);have h2:Cg p ((c+z*zr p z cs)+f*(v+z*zr p z vs)) (zr p z (c :: cs)+f*zr p z (v :: vs)):=(zaf p z c cs).symm.add ((Cg.refl p f).mul (zaf p z v vs).symm);exact (Cg.of_eq (by grind)).trans h2
 | [],[],_=>Cg.of_eq (by show (0:Int)=0+f*0; grind)
 | c :: cs,[],_=>Cg.of_eq (by show zr p z (c :: cs)=zr p z (c :: cs)+f*0; grind)
 | [],_ :: _,h=>by simp at h
noncomputable def zdH (p:Int) (s:List Int×List Int) (q:Int×Int):List Int×List Int :=
 (ad p ((q.2 - zr p q.1 s.1)*inv p (zr p q.1 s.2) % p) s.1 s.2,zcM p q.1 s.2)
noncomputable def zfS (p:Int) (n:Nat) (kW:List (Int×Int)):List Int×List Int:=kW.foldl (zdH p) (au n 0,[1])
noncomputable def thr (p:Int) (kW:List (Int×Int)):List Int:=(zfS p kW.length kW).1
noncomputable def zb4 (z:Int):List (Int×Int)->Int
 | []=>1
 | q :: r=>(z - q.1)*zb4 z r
theorem zdI (z:Int) (q:Int×Int):∀ l,zb4 z (l++[q])=zb4 z l*(z - q.1)
 | []=>by show (z - q.1)*1=1*(z - q.1); grind
 | a :: l=>by show (z - a.1)*zb4 z (l++[q])=(z - a.1)*zb4 z l*(z - q.1); rw [zdI z q l]; grind
theorem zcD {z:Int}:∀ {l:List (Int×Int)},(∃ q∈l,q.1=z)->zb4 z l=0
 | [],h=>by obtain⟨q,hq,_⟩:=h; cases hq
 | a :: l,h=>by
  show (z - a.1)*zb4 z l=0;obtain⟨q,hq,e⟩:=h;rcases aK.mp hq with hq | hq
  ·subst hq; rw [e]; simp
  ·rw [zcD ⟨q,hq,e⟩]; simp
theorem zfT {p z:Int} (hp:p∈zy) (hz:0<=z) (sM:z < p):∀ {l:List (Int×Int)},(∀ q∈l,0<=q.1/\q.1 < p/\q.1≠z)->¬ Cg p (zb4 z l) 0
 | [],_,h=>by
  have hr:=zQ hp;have:=h.mod_eq;have e1:(zb4 z []:Int)=1:=rfl;rw [e1,dH #[O] #[O]] at this;simp at this
 | a :: l,hl,h=>by
  rcases zfQ hp (show Cg p ((z - a.1)*zb4 z l) 0 from h) with h | h
  ·obtain⟨h1,h2,h3⟩:=hl a aw;have:Cg p z a.1:=by
    have:=h.add (Cg.refl p a.1);exact (Cg.of_eq (by grind)).trans (this.trans (Cg.of_eq (by grind)))
   exact h3 (this.eq hz sM h1 h2).symm
  ·exact zfT hp hz sM (fun q hq=>hl q (aj _ hq)) h
structure Nw (p:Int) (n:Nat) (done:List (Int×Int)) (s:List Int×List Int):Prop where
 lc:s.1.length=n
 lv:s.2.length=done.length+1
 rc:∀ c∈s.1,0<=c/\c < p
 rv:∀ c∈s.2,0<=c/\c < p
 van:∀ z,Cg p (zr p z s.2) (zb4 z done)
 hit:∀ q∈done,zr p q.1 s.1=q.2
theorem zdJ {p:Int} (hp:p∈zy) (n:Nat):Nw p n [] (au n 0,[1]):=by
 have hr:=zQ hp;refine⟨#[M],rfl,fun c hc=>?_,fun c hc=>?_,fun z=>?_,fun q hq=>by cases hq⟩
 ·obtain⟨_,e⟩:=List.mem_replicate.mp hc;lia
 ·have:c=1:=by simpa using hc
  lia
 ·show Cg p ((1+z*0) % p) 1;exact #[KQ].trans (Cg.of_eq (by grind))
theorem ze5 {p:Int} {n:Nat} {s:List Int×List Int} (hp:p∈zy) (h:Nw p n done s) (q0:0<=q.1) (q1:q.1 < p) (hd:∀ a∈done,0<=a.1/\a.1 < p/\a.1≠q.1) :
  0 < zr p q.1 s.2/\zr p q.1 s.2 < p:=by
 have hr:=zQ hp;refine⟨?_,za7 #[O] _⟩;have h0:=za6 (x:=q.1) (show 0 < p by lia) s.2;by_cases e:zr p q.1 s.2=0
 ·exact absurd ((h.van q.1).symm.trans (Cg.of_eq e)) (zfT hp q0 q1 hd)
 ·lia
theorem zeB {p:Int} {n:Nat} {s:List Int×List Int} (hp:p∈zy) (h:Nw p n done s) (q0:0<=q.1) (q1:q.1 < p) (hd:∀ a∈done,0<=a.1/\a.1 < p/\a.1≠q.1) :
  Cg p ((q.2 - zr p q.1 s.1)*inv p (zr p q.1 s.2) % p*zr p q.1 s.2) (q.2 - zr p q.1 s.1):=by
 obtain⟨h0,h1⟩:=ze5 hp h q0 q1 hd;have hi:=ze4 hp h0 h1;refine (#[KQ].mul #[JP]).trans ?_;have:=(Cg.refl p (q.2 - zr p q.1 s.1)).mul hi;exact (Cg.of_eq (by grind)).trans (this.trans (Cg.of_eq (by grind)))
theorem ze6 {p:Int} {n:Nat} {s:List Int×List Int} (hp:p∈zy) (h:Nw p n done s) (hn:done.length < n) (q0:0<=q.1) (q1:q.1 < p) (q2:0<=q.2) (q3:q.2 < p)
  (hd:∀ a∈done,0<=a.1/\a.1 < p/\a.1≠q.1/\0<=a.2/\a.2 < p):Nw p n (done++[q]) (zdH p s q):=by
 have hr:=zQ hp;have ud:∀ a∈done,0<=a.1/\a.1 < p/\a.1≠q.1:=fun a ha=>⟨(hd a ha).1,(hd a ha).2.1,(hd a ha).2.2.1⟩
 have hlv:=h.lv;have hlc:=h.lc;have hle:s.2.length<=s.1.length:=by lia
 refine⟨by show (ad _ _ _ _).length=n; rw [zeA,h.lc],by show (zcM _ _ _).length=_; rw [zez,h.lv,aA,cg],zjd #[O] _ _ h.rc,zlL #[O] _,fun z=>?_,fun a ha=>?_⟩
 ·rw [zdI];exact (zku s.2).trans ((#[JP].mul (h.van z)).trans (Cg.of_eq (by grind)))
 ·have hv:=zhk (p:=p) (f:=(q.2 - zr p q.1 s.1)*inv p (zr p q.1 s.2) % p) (z:=a.1) s.1 s.2 hle; rcases aR.mp ha with ha | ha
  ·obtain⟨b0,b1,b2,b3,b4⟩:=hd a ha;have hz:Cg p (zr p a.1 s.2) 0:=(h.van a.1).trans (Cg.of_eq (zcD ⟨a,ha,rfl⟩));have h2:Cg p (zr p a.1 (ad p ((q.2 - zr p q.1 s.1)*inv p (zr p q.1 s.2) % p) s.1 s.2)) (zr p a.1 s.1):=hv.trans (((Cg.refl p (zr p a.1 s.1)).add (#[JP].mul hz)).trans (Cg.of_eq (by rw [Int.mul_zero,Int.add_zero])));rw [h.hit a ha] at h2;exact h2.eq (za6 #[O] _) (za7 #[O] _) b3 b4
  ·have e:a=q:=by simpa using ha
   subst e;have h2:Cg p (zr p a.1 (ad p ((a.2 - zr p a.1 s.1)*inv p (zr p a.1 s.2) % p) s.1 s.2)) a.2:=hv.trans (((Cg.refl p (zr p a.1 s.1)).add (zeB hp h q0 q1 ud)).trans #[IG]);exact h2.eq (za6 #[O] _) (za7 #[O] _) q2 q3
structure Pts (p:Int) (kW:List (Int×Int)):Prop where
 nd:(kW.map (·.1)).Nodup
 rg:∀ q∈kW,0<=q.1/\q.1 < p/\0<=q.2/\q.2 < p
theorem Pts.apart {p:Int} {rest:List (Int×Int)} (h:Pts p (done++q :: rest)):∀ a∈done,0<=a.1/\a.1 < p/\a.1≠q.1/\0<=a.2/\a.2 < p:=fun a ha=>by
 obtain⟨r1,r2,r3,r4⟩:=h.rg a (aJ _ ha);refine⟨r1,r2,fun e=>?_,r3,r4⟩;have nd:=h.nd;rw [av,cA] at nd;exact nd.2.2 a.1 (aF.mpr ⟨a,ha,rfl⟩) q.1 #[M] e
theorem zje {p:Int} (hp:p∈zy) {n:Nat}:∀ (rest done:List (Int×Int)) (s:List Int×List Int),Pts p (done++rest)->(done++rest).length=n->Nw p n done s->Nw p n (done++rest) (rest.foldl (zdH p) s)
 | [],done,s,_,_,h=>by rw [bK]; exact h
 | q :: rest,done,s,hP,hn,h=>by
  have uS:done.length < n:=by rw [<- hn]; simp
  obtain⟨a,b,c,d⟩:=hP.rg q #[M];have hs:=ze6 hp h (q:=q) uS a b c d hP.apart;have e:done++q :: rest=(done++[q])++rest:=by simp
  rw [e] at hP hn |-;exact zje hp rest (done++[q]) _ hP hn hs
theorem zjf {p:Int} (hp:p∈zy) (hP:Pts p kW):(thr p kW).length=kW.length/\(∀ c∈thr p kW,0<=c/\c < p)/\∀ q∈kW,zr p q.1 (thr p kW)=q.2:=by
 have h:=zje hp (n:=kW.length) kW [] _ (by simpa using hP) #[M] (zdJ hp kW.length);exact⟨h.lc,h.rc,h.hit⟩
theorem zh1 {p high step f m:Int} (hp:p∈zy) (h0:0 < high) (h1:high < p) (hf:Cg p (f*high) step) (hm:Cg p (m*high) step) (f0:0<=f) (f1:f < p) (m0:0<=m) (m1:m < p):f=m:=by
 have hi:=ze4 hp h0 h1;have h2:Cg p (f*high) (m*high):=hf.trans hm.symm;have h3:=(Cg.refl p (inv p high)).mul h2;have h4:Cg p (inv p high*high*f) (1*f):=hi.mul (Cg.refl p f);have h5:Cg p (inv p high*high*m) (1*m):=hi.mul (Cg.refl p m);have h6:Cg p f m:=(Cg.of_eq (by grind)).trans (h4.symm.trans ((Cg.of_eq (by grind)).trans (h3.trans ((Cg.of_eq (by grind)).trans (h5.trans (Cg.of_eq (by grind)))))));exact h6.eq f0 f1 m0 m1
theorem ze7 {p f:Int} (hp:0 < p):∀ (cs vs:List Int) (m:Nat),(∀ c∈cs,0<=c/\c < p)->cs.length<=vs.length+m->vs.length<=cs.length->aU (fun one other=>(one+f*other) % p) cs (vs++au m 0)=ad p f cs vs
 | c :: cs,v :: vs,m,h,h1,h2=>by
  show (c+f*v) % p :: aU _ cs (vs++au m 0)=(c+f*v) % p :: ad p f cs vs;rw [ze7 hp cs vs m (fun d hd=>h d (aj _ hd)) (by simp at h1; lia) (by simpa using h2)]
 | [],[],m,_,_,_=>by simp [ad]
 | [],_ :: _,_,_,_,h2=>by simp at h2
 | c :: cs,[],m,h,h1,h2=>by
  cases m with
  | zero=>simp at h1
  | succ m =>
   obtain⟨c0,c1⟩:=h c aw;have ih:=ze7 (f:=f) hp cs [] m (fun d hd=>h d (aj _ hd)) (by simp at h1 |-; lia) #[M];have e:ad p f cs []=cs:=by cases cs <;> rfl
   rw [e,dD] at ih;rw [dD,br];show (c+f*0) % p :: aU _ cs (au m 0)=c :: cs;rw [ih,Int.mul_zero,Int.add_zero,dH c0 c1]
theorem zeC {p r:Int}:∀ m:Nat,aU #[Lf] (au (m+1) 0) (au m 0)=au m 0
 | 0=>by simp
 | m+1=>by
  rw [br (n:=m+1),br (n:=m)];show trF p r 0 0 :: aU #[Lf] (0 :: au m 0) (au m 0)=0 :: au m 0;have:=zeC (p:=p) (r:=r) m;rw [br] at this;rw [this];have e:trF p r 0 0=0:=by simp [trF]
  rw [e]
theorem zhl {p r:Int} (m:Nat):∀ (v:List Int) (h:Int),aU #[Lf] (h :: #[MZ]) #[MZ]=aU #[Lf] (h :: v) (v++[0])++au m 0
 | [],h=>by
  rw [dD,br];show trF p r h 0 :: aU #[Lf] (0 :: au m 0) (au m 0)=trF p r h 0 :: au m 0;have:=zeC (p:=p) (r:=r) m;rw [br] at this;rw [this]
 | c :: v,h=>by
  show trF p r h c :: aU #[Lf] (c :: #[MZ]) #[MZ]=trF p r h c :: (aU #[Lf] (c :: v) (v++[0])++au m 0);rw [zhl m v c]
end My
end
section
namespace My
open PySem L2 PyProof.Rows
variable {H H':Hp} {as cs ns:List Int} {j k:Nat} {te:TE} {y:V}
section
variable {K:af}
theorem zjg {k:Int} (h0:0<=k) (h1:k < ns.length):∃ c:Int,ns[k.toNat]? = some c/\atI #[ww] k=some (.int c):=by
 have kU:k.toNat < ns.length:=by lia
 have e:atI #[ww] ((k.toNat:Nat):Int)=some (.int ns[k.toNat]):=zcf (by simp [aB,ah kU]);have hk:((k.toNat:Nat):Int)=k:=by lia
 rw [hk] at e;exact⟨ns[k.toNat],#[M],e⟩
theorem ze8 {k:Int} (h0:0<=k) (h1:k < ns.length):∃ c:Int,atI #[ww] k=some (.int c):=let ⟨c,_,e⟩:=zjg h0 h1; ⟨c,e⟩
theorem zd {a:Addr} {o:HO} (h:H a=none):zw H #[Kg]:=fun b u e=>by rw [zp (zq e h)]; exact e
theorem zav {a:Addr} {o:HO} (s:zw H H') (h:H a=none):zw H (kx H' a o):=fun b u e=>by rw [zp (zq e h)]; exact s b u e
theorem za1 {n:Nat} (h:n<=10000):n < sizeLine:=by rw [be]; lia
noncomputable def zh2 (K:af):Sp:=fun vs H Q _=>∃ (a:Addr) (ns:List Int) (k:Int),vs = [.ref a,.int k]/\kr K H a #[ww]/\ns.length<=63/\0<=k/\k<=1000/\∀ c:Int,Q (.int c) H
noncomputable def zhm (many:Nat) (base:Int) (ds:List Int):Prop:=ds.length=many/\∀ d∈ds,0<=d/\d < base
noncomputable def zgN (K:af):Sp:=fun vs H Q _=>∃ (a:Addr) (ns:List Int) (k many base:Int),vs = [.ref a,.int k,.int many,.int base]/\kr K H a #[ww]/\ns.length<=63/\0<=k/\k<=1000/\0<=many/\many<=1000/\0 < base/\base < 1073741824 /\
 ∀ (l:Addr) (ds:List Int) (H':Hp),H l=none->zw H H'->zhm many.toNat base ds->H' l=some #[ME]->Q #[JF] H'
abbrev zkv:List V:=[.int 2147483647,.int 2147483629,.int 2147483587,.int 2147483579,.int 2147483563,.int 2147483549,.int 2147483543,.int 2147483497]
theorem zkw {m:Int} (h0:0<=m) (h1:m < 8):∃ q:Int,atI zkv m=some (.int q)/\0 < q/\q < 2147483648:=by
 have:m=0\/m=1\/m=2\/m=3\/m=4\/m=5\/m=6\/m=7:=by lia
 rcases this with e | e | e | e | e | e | e | e <;> subst e <;> exact⟨_,rfl,#[D],#[D]⟩
theorem zdK (j:Int):∃ q:Int,atI zkv (j % 8)=some (.int q)/\0 < q/\q < 2147483648:=zkw (aM _ #[D]) (aE _ #[D])
theorem gY {i:Nat} {x:V} {σ:L2.St} {A B:L2.St->Hp->Prop} (h:A #[Ip] H):zaJ i x σ H (fun σ2 H2=>zkq σ2 H2 fun b H3=>if b=true then A σ2 H3 else B σ2 H3):=by
 show (if true=true then A #[Ip] H else B #[Ip] H);rw [if_pos rfl];exact h
structure Hh (mk mn p k:Int) (pl:List Int):Prop where
 pr:p∈zy
 k1:1<=k
 kk:k<=mk
 kl:k<=pl.length
 ln:(pl.length:Int)<=mn
 nd:pl.Nodup
 rg:∀ x∈pl,0<=x/\x < p
noncomputable def zh3 (K:af):Sp:=fun vs H Q _=>∃ (a:Addr) (ns:List Int) (at' mk mn:Int),vs = [.ref a,.int at',.int mk,.int mn]/\kr K H a #[ww]/\ns.length<=63/\0<=at'/\at'<=1000/\1<=mk/\mk<=5/\mk<=mn/\mn<=16 /\
 ∀ (c tt:Addr) (p k:Int) (pl:List Int) (H':Hp),H c=none->zw H H'->Hh mk mn p k pl->H' c=some (.tup [.int p,.int k,.ref tt])->H' tt=some (.tup #[JT])->Q #[K3] H'
theorem zjh {x y m:Int} (h0:0<=m) (h1:m < 2):∃ z:Int,atI [V.int x,V.int y] m=some (.int z)/\(z=x\/z=y):=by
 have:m=0\/m=1:=by lia
 rcases this with e | e <;> subst e
 ·exact⟨x,rfl,.inl rfl⟩
 ·exact⟨y,rfl,.inr rfl⟩
theorem zbp {k:Int} (h0:0<=k) (h1:k < ns.length):∃ c:Int,c∈ns/\atI #[ww] k=some (.int c):=by
 obtain⟨c,e,h⟩:=zjg h0 h1;exact⟨c,aX e,h⟩
theorem zeD {α β:Type} (f:α->β):∀ (l:List α) (k:Nat),(l.map f).eraseIdx k=(l.eraseIdx k).map f
 | [],_=>rfl
 | _ :: _,0=>rfl
 | a :: l,k+1=>by show f a :: (l.map f).eraseIdx k=f a :: (l.eraseIdx k).map f; rw [zeD f l k]
theorem zdL {α:Type}:∀ {l:List α} {k:Nat} {x:α},l[k]? = some x->(x :: l.eraseIdx k).Perm l
 | [],_,_,h=>by simp at h
 | a :: l,0,x,h=>by
  have e:a=x:=by simpa using h
  subst e;exact List.Perm.refl _
 | a :: l,k+1,x,h=>by
  have ih:=zdL (l:=l) (k:=k) (x:=x) (by simpa using h);exact (List.Perm.swap a x _).trans (ih.cons a)
theorem zkx {p:Int} {xs ls:List Int} {x:Int} (h:ls[k]? = some x) (nd:(xs++ls).Nodup) (rg:∀ y∈xs++ls,0<=y/\y < p):((xs++[x])++ls.eraseIdx k).Nodup/\∀ y∈(xs++[x])++ls.eraseIdx k,0<=y/\y < p:=by
 have hp:((xs++[x])++ls.eraseIdx k).Perm (xs++ls):=by
  rw [bn];exact (zdL h).append_left xs
 exact⟨hp.nodup_iff.mpr nd,fun y hy=>rg y (hp.mem_iff.mp hy)⟩
theorem zh4 (p:Int):(zbv 0 p.toNat).Nodup/\∀ y∈zbv 0 p.toNat,0<=y/\y < p:=by
 unfold zbv;constructor
 ·rw [bi,bv];exact (bi.mp (List.nodup_range (n:=p.toNat))).imp fun {a b} hab=>by lia
 ·intro y hy;obtain⟨i,hi,e⟩:=aF.mp hy;have:=cu.mp hi;lia
noncomputable def zdi (K:af):Sp:=fun vs H Q _=>∃ (p x:Int) (a:Addr) (cs:List Int),vs = [.int p,.ref a,.int x]/\(kr K H a #[Jy]\/kJ K H a #[Jy])/\0 < p/\p<=97/\0<=x/\x < p/\Q (.int (zr p x cs)) H
noncomputable def zgO (K:af):Sp:=zdi K
theorem zeE {i:Nat} {c:Int} (hi:i < cs.length) (h:cs[cs.length - 1 - i]? = some c):cs.drop (cs.length - (i+1))=c :: cs.drop (cs.length - i):=by
 have e:cs.length - (i+1)=cs.length - 1 - i:=by lia
 have kU:cs.length - 1 - i < cs.length:=by lia
 rw [e,cf kU];have:cs[cs.length - 1 - i]=c:=by
  rw [ah kU] at h;exact aQ h
 rw [this];congr 2;lia
theorem zaY {x:V} (h:#[Jy][j]? = some x):∃ c,x = .int c/\cs[j]? = some c:=by
 rw [aB] at h;cases e:cs[j]? with
 | none=>rw [e] at h; cases h
 | some c=>rw [e] at h; exact⟨c,(aQ h).symm,rfl⟩
noncomputable def zgP (K:af):Sp:=fun vs H Q _=>∃ i:Int,vs = [.int i]/\Q (.bl true) H
theorem zhn {p x kC power c:Int} {i:Nat} (h:cs[i]? = some c):lv p x kC power (cs.drop i)=lv p x ((kC+c*power) % p) (power*x % p) (cs.drop (i+1)):=by
 obtain⟨kU,e⟩:=aH.mp h;rw [cf kU,e];rfl
noncomputable def zgQ (K:af):Sp:=fun vs H Q _=>∃ (p h:Int),vs = [.int p,.int h]/\p∈zy/\0<=h/\h < p/\Q (.int (inv p h)) H
noncomputable def zlM (σ:L2.St):Nat:=match (σ[4]?:Option (Option V)) with
 | some (some (V.int l))=>l.toNat
 | _=>0
theorem ze9 {p prod sq left:Int} {n:Nat} (h0:0 < left) (h1:left < 2 ^ (n+1)):zch p (n+1) prod sq left=zch p n (if left % 2=1 then prod*sq % p else prod) (sq*sq % p) (left / 2):=by
 show (if 0 < left then _ else _)=_;rw [if_pos h0]
theorem zfU {p prod sq:Int}:∀ n,zch p n prod sq 0=prod
 | 0=>rfl
 | n+1=>by show (if (0:Int) < 0 then _ else prod)=prod; rw [if_neg #[D]]
theorem gY2 {K:af} {i:Nat} {T:Addr} {x:V} {σ:L2.St} {A B:L2.St->Hp->Prop} (hT:kJ K H T [x,y]) (h:A (#[Ip].set j (some y)) H) :
  zhO K 2 (zde (zaJ i) (zde (zaJ j) ziP)) (.ref T) σ H (fun σ2 H2=>zkq σ2 H2 fun b H3=>if b=true then A σ2 H3 else B σ2 H3):=by
 refine⟨T,_,rfl,hT,rfl,x,_,rfl,y,_,rfl,rfl,?_⟩;show (if true=true then A (#[Ip].set j (some y)) H else B (#[Ip].set j (some y)) H);rw [if_pos rfl];exact h
theorem zfV {f:Int->Int->Int} {bs:List Int} {i:Nat} {x y:Int} (hx:as[i]? = some x) (hy:bs[i]? = some y):#[Lj].take (i+1)=#[Lj].take i++[f x y]:=by
 have e:#[Lj][i]? = some (f x y):=by rw [List.getElem?_zipWith,hx,hy]
 rw [gi,e,j8]
noncomputable def zd9 (K:af):Sp:=fun vs H Q _=>∃ (p r:Int) (a:Addr) (cs:List Int),vs = [.int p,.ref a,.int r]/\H a=some (.lst #[Jy])/\cs.length<=1000/\0 < p/\0<=r/\r<=97 /\
 ∀ (l:Addr) (H':Hp),H l=none->zw H H'->H' l=some (.lst ((zcM p r cs).map V.int))->Q #[JF] H'
noncomputable def zk9 (K:af) (H:Hp) (a:Addr) (kW:List (Int×Int)):Prop:=∃ bs:List Addr,kr K H a #[K7]/\bs.length=kW.length/\∀ (i:Nat) (b:Addr) (q:Int×Int),bs[i]? = some b->kW[i]? = some q->H b=some (.tup [.int q.1,.int q.2])
theorem zdM (n:Nat):(au n [V.int 0]).flatten=(au n (0:Int)).map V.int:=by
 induction n with
 | zero=>rfl
 | succ n ih=>rw [br,di,ih,br]; rfl
theorem zao {bs:List Addr} {i:Nat} {x:V} (h:#[K7][i]? = some x):∃ b,x = .ref b/\bs[i]? = some b:=by
 rw [aB] at h;cases e:bs[i]? with
 | none=>rw [e] at h; cases h
 | some b=>rw [e] at h; exact⟨b,(aQ h).symm,rfl⟩
theorem take_snoc {α:Type} {l:List α} {i:Nat} {x:α} (h:l[i]? = some x):l.take (i+1)=l.take i++[x]:=by
 rw [gi,h,j8]
theorem zdN {α:Type} {l:List α} {i:Nat} {x:α} (h:l[i]? = some x):l=l.take i++x :: l.drop (i+1):=by
 obtain⟨hi,e⟩:=aH.mp h; have:=bN i l;rw [cf hi,e] at this;exact this.symm
noncomputable def zgR (K:af):Sp:=fun vs H Q _=>∃ (p:Int) (a:Addr) (kW:List (Int×Int)),vs = [.int p,.ref a]/\zk9 K H a kW/\kW.length<=100/\p∈zy/\Pts p kW /\
 ∀ (l:Addr) (H':Hp),H l=none->zw H H'->H' l=some (.tup ((thr p kW).map V.int))->Q #[JF] H'
noncomputable def zfa (K:af):Sp:=zgR K
theorem zji {f:Int->Int->Int} {bs:List Int} {n:Nat} (h1:n<=as.length) (h2:n<=bs.length) (h3:as.length<=n\/bs.length<=n):#[Lj].length=n:=by
 rw [fG];lia
theorem zda {a b:Addr} {bs:List Int} {n:Nat} {f:Int->Int->Int} {g:TG} {ts:TT} {σ0:L2.St} {Q:VK} (ha:H a=some (.lst (as.map V.int))) (hb:H b=some (.lst (bs.map V.int))) (h1:n<=as.length) (h2:n<=bs.length) (h3:as.length<=n\/bs.length<=n) (hn:n<=10000)
  (hs:∀ (i:Nat) (x y:Int) (H1:Hp) (T:Addr) (R:VK) (B:L2.St->Hp->Prop),as[i]? = some x->bs[i]? = some y->zw H H1->H1 T=none->R (.int (f x y)) (kx H1 T (.tup [.int x,.int y]))->g (.ref T) σ0 (kx H1 T (.tup [.int x,.int y])) fun σ2 H2=>ts σ2 H2 fun b H3=>if b=true then te σ2 H3 R else B σ2 H3)
  (hd:∀ D H1,zw H H1->H1 D=none->Q #[Is] (kx H1 D (.lst (#[Lj].map V.int)))):cGo g ts te σ0 (zks (kr K) (kr K) a b) Q H:=by
 have hl:=zji (f:=f) h1 h2 h3;refine zeZ (n:=n) (fun i ys H'=>ys=(#[Lj].take i).map V.int/\zw H H') ⟨#[M],fun _ _ e=>e⟩ ?_ ?_ ?_ ?_
 ·rintro i ys H3 hi ⟨_,s3⟩;obtain⟨x,hx⟩:∃ x,as[i]? = some x:=⟨as[i]'#[O],#[M]⟩;obtain⟨y,hy⟩:∃ y,bs[i]? = some y:=⟨bs[i]'#[O],#[M]⟩;exact⟨_,_,.int x,.int y,kr.of #[Li],kr.of (s3 _ _ hb),by rw [aB,hx]; rfl,by rw [aB,hy]; rfl⟩
 ·rintro ys H3 ⟨_,s3⟩;exact⟨_,_,kr.of #[Li],kr.of (s3 _ _ hb),by rw [aa,aa]; exact h3⟩
 ·rintro i x ys H3 H4 hi ⟨rfl,s3⟩ ⟨T,u,v,hT,rfl,rfl,hu,hv⟩;obtain⟨x,rfl,hx⟩:=zaY (hu _ (kr.of #[Li]));obtain⟨y,rfl,hy⟩:=zaY (hv _ (kr.of (s3 _ _ hb)));refine hs i x y H3 T _ _ hx hy s3 hT ⟨za1 ?_,?_,s3.trans (zd hT)⟩
  ·rw [aa];exact bh (fH _ _) #[O]
  ·rw [zfV hx hy,av];rfl
 ·rintro ys H3 D ⟨rfl,s3⟩ hD;rw [aV #[O]];exact hd D H3 s3 hD
theorem zh5 {a:Addr} {xs fs:List V} {g:TG} {ts:TT} {σ0:L2.St} {Q:VK} (ha:kr K H a xs) (hl:fs.length=xs.length) (hn:xs.length<=10000)
  (hs:∀ (i:Nat) (x y:V) (R:VK) (B:L2.St->Hp->Prop),xs[i]? = some x->fs[i]? = some y->R y H->g x σ0 H fun σ2 H2=>ts σ2 H2 fun b H3=>if b=true then te σ2 H3 R else B σ2 H3)
  (hd:∀ D,H D=none->Q #[Is] (kx H D (.lst fs))):cGo g ts te σ0 #[MV] Q H:=by
 refine zeZ (n:=xs.length) (fun i ys H'=>ys=fs.take i/\H'=H) ⟨#[M],rfl⟩ ?_ ?_ ?_ ?_
 ·rintro i ys H3 hi ⟨_,rfl⟩;exact⟨_,xs[i],ha,#[M]⟩
 ·rintro ys H3 ⟨_,rfl⟩;exact⟨_,ha,ag _⟩
 ·rintro i x ys H3 H4 hi ⟨rfl,rfl⟩ ⟨rfl,hx⟩;have hy:fs[i]? = some fs[i]:=by simp
  refine hs i x fs[i] _ _ (hx _ ha) hy ⟨za1 (bh (fH _ _) #[O]),?_,rfl⟩;rw [take_snoc hy]
 ·rintro ys H3 D ⟨rfl,rfl⟩ hD;rw [aV #[O]];exact hd D hD
theorem zjj (ds:List Int) (lo hi:Option Int):∃ ms:List Int,zc7 #[Iw] lo hi=ms.map V.int/\ms.length<=ds.length:=by
 refine⟨(ds.drop (HT.sIx #[Iw].length 0 lo)).take (HT.sIx #[Iw].length #[Iw].length hi - HT.sIx #[Iw].length 0 lo),?_,?_⟩
 ·unfold zc7; rw [gc,iA]
 ·rw [aG,bL];lia
theorem zfW {ms:List Int} {f:Int->V} {i:Nat} {x:V} (hx:#[Jx][i]? = some x) (hy:(ms.map f)[i]? = some y):∃ c,ms[i]? = some c/\x = .int c/\y=f c:=by
 obtain⟨c,rfl,hc⟩:=zaY hx;rw [aB,hc] at hy;exact⟨c,hc,rfl,(aQ hy).symm⟩
end
end My
end
section
namespace PySem
end PySem
end
section
namespace L2
open PySem PySem.Spec PyProof.Rows
end L2
end
section
namespace My
open PySem L2 PyProof.Rows
variable {H H':Hp} {pl:List Int}
section
variable {K:af}
noncomputable def zaZ (H:Hp) (c tt:Addr) (p k:Int) (pl:List Int):Prop:=H c=some (.tup [.int p,.int k,.ref tt])/\H tt=some (.tup #[JT])
theorem zaZ.same {c tt:Addr} {p k:Int} (s:zw H H') (h:zaZ H c tt p k pl):zaZ H' c tt p k pl:=⟨s _ _ h.1,s _ _ h.2⟩
noncomputable def hide (H:Hp) (a:Addr):Hp:=fun b=>if b=a then none else H b
theorem za9 (H:Hp) (a:Addr):zw (hide H a) H:=fun b o e=>by
 unfold hide at e;split at e
 ·cases e
 ·exact e
theorem zdO {a:Addr} {o:HO}:hide #[Kg] a=hide H a:=by
 funext b;unfold hide;by_cases h:b=a
 ·rw [if_pos h,if_pos h]
 ·rw [if_neg h,if_neg h,zp h]
theorem zaS {a:Addr} (s:zw H H'):zw (hide H a) (hide H' a):=fun b o e=>by
 unfold hide at e |-;by_cases h:b=a
 ·rw [if_pos h] at e; cases e
 ·rw [if_neg h] at e |-; exact s _ _ e
theorem zI {a b:Addr} {o:HO} (h:H b=some o) (lW:b≠a):hide H a b=some o:=by unfold hide; rw [if_neg lW]; exact h
end
end My
end
section
namespace PySem
end PySem
namespace L2
open PySem PySem.Spec PyProof.Rows
variable {A:Around} {C:Addr} {H H':Hp} {M:Model} {N:List Str} {P:Program} {X:Cx} {an od:Option Addr} {ct doc kL oc pm:Value} {env:Env} {fd:FuncData} {h h':Heap} {k t' tk:Nat} {km:List (Addr×Obj)} {kvs:List (List Key×V)} {name qual:Str} {params:Arguments} {pos:Pos} {ri:Array #[Kj]} {s:Shared} {scope:Scope} {sp:Sp} {us vs:List Value} {v y:V} {w:World}
section
variable {prog:Program} {w:World} {A:Around} {h:Heap} {g:Array GenState} {d:Drawn} {tk:Nat} {os:OsState} {K:af} {x C:Addr} {E:Value->Shared->Prop}
theorem zgS {R:Result->Shared->Prop} {tp:Value} (J:∀ M,eT M h #[Lc] #[IE]) (X:K.In h)
  (hm:bI K C (.type "object")=some true) (q:R (.ok (.ret #[IE])) ⟨h,g,d,tk,os⟩) :
  codeAny #[or] A (Code.call (.builtin "getset_descriptor.__get__") { pos:=[.builtin "object.__class__",.ref x,tp] }) R ⟨h,g,d,tk,os⟩:=by
 refine dX PySem.W.KF.slot_gs.plain PySem.W.KF.entry_gs (PySem.W.KF.slot_gs.check _ _ _ _ _ _ _ _ ?_ (PySem.W.KF.args_gs _ _ _) ?_)
 ·exact fc
 ·unfold Builtin.«getset_descriptor.__get__» jn;rw [PySem.W.dga_obj];refine ae (ak ?_)
  try dsimp only
  unfold iQ
  try dsimp only
  refine ae ?_;unfold gS g7
  try dsimp only
  rw [PySem.W.KF.owner_class];refine ae (ak ?_)
  try dsimp only
  unfold isInstance;refine ae (ae ((J _).at ((fI X hm).at ?_)));refine cC rfl (ak ?_);unfold again;refine ak ⟨fV _ #[N],?_⟩;refine gK PySem.W.KF.entry_class ?_;unfold Builtin.«object.__class__»
  try dsimp only
  unfold shownTypeOf;refine ae (ae ((J _).at ?_));refine cC rfl (ak ?_);unfold ret;exact ak q
theorem zh6 {uX:Value} {Q:Unit->Shared->Prop} (J:∀ M,eT M h #[Lc] #[IE]) (X:K.In h) (hm:bI K C (.type "BaseException")=some true) (q:Q () ⟨h,g,d,tk,os⟩) :
  wpAny M A (checkBuiltinCall "BaseException.__getattribute__" { pos:=[.ref x,uX] }) Q E ⟨h,g,d,tk,os⟩:=by
 have hk:builtinKind "BaseException.__getattribute__" = some kh:=#[N];have hs:splitId "BaseException.__getattribute__" = some ("BaseException","__getattribute__"):=by decide +kernel
 unfold checkBuiltinCall;rw [hk,hs]
 try dsimp only
 unfold isInstance;refine ae (ae ((J _).at ((fI X hm).at ?_)));refine cC rfl ?_;have ok:=F.args_bexc_ga (.ref x) uX;unfold argsOk at ok;generalize Manifest.signature? "BaseException.__getattribute__" = sg at ok |-;cases sg with
 | none=>exact ak q
 | some sig =>
  dsimp only at ok |-;rw [ok];exact ak q
theorem zh7 {Q:Option Value->Shared->Prop} (J:∀ M,eT M h #[Lc] #[IE]) (X:K.In h)
  (F1:bY K #[IE] "__getattribute__" = some (some (.builtin "BaseException.__getattribute__"))) (F2:bY K #[IE] "__getattr__" = some none)
  (F3:bY K #[IE] "__class__" = some (some (.builtin "object.__class__"))) (hm:bI K C (.type "object")=some true) (hb:bI K C (.type "BaseException")=some true)
  (q:Q (some #[IE]) ⟨h,g,d,tk+1,os⟩):wpAny #[or] A (getAttr? (.ref x) "__class__") Q E ⟨h,g,d,tk,os⟩:=by
 unfold getAttr?
 (refine ae (wpAny_mkText ?_))
 unfold getAttrBy?
 (refine ae (dg ?_))
 unfold getAttrBy;refine df (ae ((J _).at (ae ((il X F1).at ?_))))
 try dsimp only
 refine cC rfl ?_;unfold getAttrByItsOwn;refine ae ((PySem.W.looks_hook (mc:=.ref C) X (r:=none) (by rw [show onTheHeap (aP C)=true from rfl,if_pos rfl]; exact F2)).at ?_)
 (refine ae (dg (df ?_)))
 unfold callGetattribute;refine cC rfl ?_;unfold boundAndCalled;rw [F.attrBase_ValueError.ga.bind];refine ae (ak ?_)
 try dsimp only
 refine dS ?_;refine dX F.attrBase_ValueError.ga.plain F.entry_bexc_ga (zh6 J X hb ?_)
 (unfold Builtin.«object.__getattribute__»)
 refine ae ?_;unfold slotArgs
 try dsimp only
 refine cC rfl (cC rfl (ak ?_))
 try dsimp only
 unfold j6
 try dsimp only
 refine ae (ak (ae ((J _).at (ae ?_))));unfold kf;refine ae ((il X F3).at ?_);unfold kd
 try dsimp only
 refine ae (iK fc F.slot_gs_get.lookup ?_);unfold jo
 try dsimp only
 refine ae ?_;unfold jU;refine ae (ae (iK fc F.slot_gs_set.lookup ?_));refine fJ rfl (ak ?_);refine fJ rfl (ak ?_)
 try dsimp only
 (refine ae (dk (ak ?_)))
 try dsimp only
 unfold j'
 try dsimp only
 refine ae (df (dS (zgS J X hm ?_)))
 try dsimp only
 unfold ret;refine ak ?_
 try dsimp only
 unfold handedOut
 try dsimp only
 refine ak ?_
 try dsimp only
 exact ak q
end
structure Xc (K:af) (C:Addr):Prop where
 f1:bY K #[IE] "__getattribute__" = some (some (.builtin "BaseException.__getattribute__"))
 f2:bY K #[IE] "__getattr__" = some none
 f3:bY K #[IE] "__class__" = some (some (.builtin "object.__class__"))
 ob:bI K C (.type "object")=some true
 bb:bI K C (.type "BaseException")=some true
 kc:dN K #[IE] #[IE]=some true
theorem zdP {x:Addr} (e:∃ o,h.get? x=some o/\o.cls = .ref C) (M:Model):eT M h #[Lc] #[IE]:=by
 obtain⟨o,e,c⟩:=e;intro A Q E s k q;obtain⟨h',g,d,t,os⟩:=s;unfold typeOf;refine ae (wpAny_loadPart_at (k _ _ e) (ak ?_));rw [c];exact q
theorem zlN {K:af} {b:Value} {r:Bool} (m:bI K C b=some r):∃ oc dd cd sl,K.lookup C=some ⟨oc,dd,.cls cd,sl⟩:=by
 unfold bI PySem.W.clsIn at m;cases e:List.lookup C K with
 | none=>rw [e] at m; cases m
 | some o =>
  obtain⟨oc,dd,da,sl⟩:=o;cases da with
  | cls cd=>exact⟨oc,dd,cd,sl,rfl⟩
  | _=>rw [e] at m; cases m
theorem zfX {K:af} {x:Addr} (c:Xc K C):PySem.W.KitX K (.ref x) #[IE] (fun h=>∃ o,h.get? x=some o/\o.cls = .ref C):=by
 refine⟨fun M h _ e=>zdP e M,fun M h X e=>(jV X c.kc).2.1,fun h tp dd kq n sl X e=>?_,fun {prog w A E Q s} X e q=>?_⟩
 ·obtain⟨oc,xF,cd,Ae,l⟩:=zlN c.ob;have e2:=X _ _ l;have ne:C≠tp:=fun z=>by
   rw [z,e] at e2;cases e2
  exact decide_eq_false fun z=>ne (by injection z)
 ·obtain⟨h,g,d,tk,os⟩:=s;exact zh7 (fun M=>zdP e M) X c.f1 c.f2 c.f3 c.ob c.bb q
noncomputable def zjk (a C:Addr):HO:=.ext fun h=>∃ o,h.get? a=some o/\o.cls = .ref C
theorem z9 {X:Cx}:za8 X (.builtin "isinstance") (fun xs H Q=>∃ a C y b,xs = [.ref a,y]/\H a=some (zjk a C)/\Xc X.K C/\((∃ D,y = .ref D/\a8 X.K #[IE] #[Is]=some b)\/∃ n,y = .ty n/\a8 X.K #[IE] (.type n)=some b)/\Q (.bl b) H):=by
 intro km s σ H xs us Q I r h;obtain⟨a,C,y,b,rfl,ha,c,hy,q⟩:=h;obtain⟨u,u',rfl,rx,r2⟩:=vals2 r;cases rx;obtain⟨he,_,_⟩:=(show z6 X.prog X.w H s.heap a (zjk a C) from I.hok a _ ha);rcases hy with ⟨D,rfl,hk⟩ | ⟨n,rfl,hk⟩
 ·cases r2;exact bJ (zfX c) I.kIn he hk (fun z=>nomatch z) fun tk=>⟨.bl b,H,I.tok tk,rfl,q⟩
 ·cases r2;exact bJ (zfX c) I.kIn he hk (fun z=>nomatch z) fun tk=>⟨.bl b,H,I.tok tk,rfl,q⟩
abbrev zjl:List Value:=[.type "ValueError",.type "Exception",.type "BaseException",.type "object"]
structure Io (C:Addr) (h:Heap) (bmB:List Value) (newId:String):Prop where
 ex:∃ nm q N bs bm hdct sn sub ab col dd k0 k1 k2 k3 k5,∃ mN:Str->Option Value,h.get? C=some (excClassObj nm q C N bs bm hdct sn sub ab col dd k0 k1 k2 k3 k5 newId)/\h.Ns N mN/\mN "__init__" = none/\OwnTail h bmB bm
theorem zh8 {K:af} {bmB:List Value} {newId:String} (X:K.In h) (e:eU K C bmB newId=true):Io C h bmB newId:=by
 unfold eU at e;split at e
 ·rename_i dict cd sl hl
  split at e
  ·rename_i C' bm a0 a1 a2 a3 n a5 hm hs
   simp only [eW,beq_iff_eq] at e;obtain⟨⟨⟨⟨⟨rfl,rfl⟩,vH⟩,ht⟩,hn⟩,hi⟩:=e;obtain⟨sll⟩:=sl;have hs:sll = [a0,a1,a2,a3,some (Value.builtin n),a5]:=hs;subst hs;have ho:=X _ _ hl;cases cd;dsimp only at hm hn hi vH;subst hm;simp only [jp] at vH;subst vH;exact⟨_,_,_,_,_,_,_,_,_,_,_,_,_,_,_,_,_,ho,Heap.Ns.of_isNs (PySem.W.isNs_of_in X hn),PySem.W.nsMap_none_of_in X hn hi,PySem.W.tail_of_in X ht⟩
  ·cases e
 ·cases e
theorem zdj {h h' base B:Heap} (k:∀ b o,h.get? b=some o->h'.get? b=some o):∀ {l:List Env},h.FunFrames base l->(∀ b∈frs l,B.get? b=none)->h'.FunFrames B l
 | [],_,_=>trivial
 | env :: r,hl,hb=>by
  obtain⟨hk,⟨L,o,hf,hn,ho,hd⟩,hr⟩:=hl;have e:frs (env :: r)=L :: frs r:=by unfold frs; rw [cU,hf]
  rw [e] at hb;exact⟨hk,⟨L,o,hf,hb L #[M],k _ _ ho,hd⟩,zdj k hr fun b z=>hb b (aj _ z)⟩
structure Xl (P:Program) (w:World) (outer:List Env) (H:Hp) (h:Heap) (H':Hp) (h' B:Heap) (e C:Addr):Prop where
 new:h.get? e=none
 hok:HOk P w H' B
 fly:∃ t,B.FlyingW outer e #[IE] t h'
 keep:∀ b o,h.get? b=some o->H b=none->b∉frs outer->B.get? b=some o
 slot:∀ b o,h.get? b=some o->H b=none->b∈frs outer->∃ sl,h'.get? b=some { o with slots:=sl }
 free:∀ b o,h.get? b=some o->H b=none->H' b=none
 there:∀ b o,h.get? b=some o->b∉frs outer->∃ o',B.get? b=some o'
 Fc:∀ b xs,H b=some #[J3]->H' b=some #[J3]
 Fz:∀ b o u,H b=some #[Ma]->H' b=some #[Ma]
 Fy:∀ b ps,H b=some #[MW]->∃ more,H' b=some (.tbl (ps++more))
noncomputable def CX1 (P:Program) (w:World):CXT:=fun outer H s E ev s'=>∃ (e C:Addr) (H':Hp) (B:Heap),ev = .ref e/\s'.os=s.os/\AllBare s'.gens/\Xl P w outer H s.heap H' s'.heap B e C/\E #[IE] none H'
section
variable {P:Program} {w:World} {outer:List Env} {H H':Hp} {h h' B:Heap} {e C:Addr}
theorem zgT {o:HO} {a:Addr} (x:z6 P w H h a o):∃ ob,h.get? a=some ob:=by
 cases o with
 | lst xs=>obtain⟨_,_,_,_,e⟩:=x; exact⟨_,e⟩
 | tup xs=>obtain⟨_,_,_,o,e,_⟩:=x; exact⟨_,e⟩
 | dK kvs=>obtain⟨_,_,_,_,o,_,_,e,_⟩:=x; exact⟨_,e⟩
 | dT kvs=>obtain⟨_,_,_,_,o,_,_,e,_⟩:=x; exact⟨_,e⟩
 | set S n=>obtain⟨o,_,_,_,e,_⟩:=x; exact⟨_,e⟩
 | ins C dx fs=>obtain⟨_,_,_,e,_⟩:=x; exact⟨_,e⟩
 | own y=>obtain⟨_,e⟩:=x; exact⟨_,e⟩
 | xd fs=>obtain⟨_,⟨_,_,_,e,_⟩,_⟩:=x; exact⟨_,e⟩
 | rng lo hi=>obtain⟨_,_,_,e⟩:=x; exact⟨_,e⟩
 | frz ob u=>obtain⟨e,_⟩:=x; exact⟨_,e⟩
 | tbl ps=>exact⟨_,(show h.get? a=some _ from x)⟩
 | met f y=>exact⟨_,(show h.get? a=some _ from x)⟩
 | ext φ=>obtain⟨_,⟨_,e⟩,_⟩:=x; exact⟨_,e⟩
theorem Xl.fresh (x:Xl P w outer H h H' h' B e C):H' e=none:=by
 obtain⟨t,_,hb,_⟩:=x.fly;cases q:H' e with
 | none=>rfl
 | some u =>
  obtain⟨ob,z⟩:=zgT (x.hok e u q);rw [hb] at z;cases z
theorem Xl.un (x:Xl P w outer H h H' h' B e C) (hf:∀ b∈frs outer,H b=none):Un (frs outer) [] H H' h h' where
 keep:=fun b o q n hb _=>by
  obtain⟨t,st,_⟩:=x.fly;exact st _ _ (x.keep b o q n hb)
 slot:=fun b o q n hb _=>x.slot b o q n hb
 free:=fun b o q n _=>x.free b o q n
 there:=fun b o q _=>by
  by_cases hb:b∈frs outer
  ·obtain⟨sl,z⟩:=x.slot b o q (hf b hb) hb;exact⟨_,z⟩
  ·obtain⟨o',z⟩:=x.there b o q hb;obtain⟨t,st,_⟩:=x.fly;exact⟨o',st _ _ z⟩
 Fc:=x.Fc
 Fz:=x.Fz
 Fy:=x.Fy
end
section
variable {X:Cx} {σ:St} {H:Hp} {s:Shared} {km:List (Addr×Obj)}
theorem Inv.hid (I:Inv X km σ H s):HOk X.prog X.w H (c8 s.heap (frs X.stack)):=fun a o q =>
 (I.hok a o q).FF (fun b u hb z=>d9 _ z fun m=>by
  have n:=I.Fk b m;rcases hb with rfl | hb
  ·rw [q] at n; cases n
  ·rw [hb] at n; cases n) (fun _ z=>z) fun _ _ z=>z
theorem zjm {outer:List Env} {L:Addr} (hf:env.frame=some L):frs (env :: outer)=L :: frs outer:=by unfold frs; rw [cU,hf]
theorem Inv.Gv (I:Inv X km σ H s) {b:Addr} {o:Obj} (q:X.s₀.heap.get? b=some o):b≠X.env.locals:=aS (aN (az q) I.ok.above)
end
section
variable {P:Program} {w:World} {K:af} {mg:Str->Option Value} {base:Heap} {N:List Str} {qual:Str} {scope:Scope} {f:Addr} {cd:Value} {A:Around} {outer:List Env} {s₀:Shared} {H₀:Hp} {E:XK}
abbrev cxX (P:Program) (w:World) (K:af) (mg:Str->Option Value) (base:Heap) (N:List Str) (qual:Str) (scope:Scope) (f:Addr) (cd:Value) (A:Around) (outer:List Env) (s:Shared) (H:Hp) (E:XK):Cx:=zcA (CX1 P w) P w K mg base N qual scope f cd A outer s H E
theorem zgU {σ:St} {h1:Heap} {e:Addr} (I:Inv #[re] km σ H s) (m:s.heap.MadeExcOf h1 e #[IE] vs) (q:E #[IE] none H) :
  (cxX P w K mg base N qual scope f cd A outer s₀ H₀ E).xe (.ref e) { s with heap:=h1 }:=by
 have frm:frs #[re].stack=s₀.heap.objs.size :: frs outer:=zjm rfl;obtain⟨t,he,_,_⟩:=m.there;have stays:(c8 s.heap (frs #[re].stack)).StaysIn h1:=fun b o z=>m.keeps _ _ (fR _ z)
 have sN:(c8 s.heap (frs #[re].stack)).get? e=none:=by
  cases z:(c8 s.heap (frs #[re].stack)).get? e with
  | none=>rfl
  | some o=>have:=fR _ z; rw [m.new] at this; cases this
 refine wpAny_leaving_firstW (base:=c8 s.heap (frs #[re].stack)) (outer:=outer) I.ok.frames (zdj m.keeps I.stack fun b z=>ie _ z) rfl he stays sN rfl rfl rfl fun h2 left=>?_
 obtain⟨l6,ff2,tr2,uf⟩:=left;refine⟨e,C,H,c8 s.heap (frs #[re].stack),rfl,I.os,I.bare,⟨?_,I.hid,⟨_,l6,sN,ff2.2.2,tr2⟩,fun b o z n hb=>?_,fun b o z n hb=>?_,fun b o z n=>I.base.free b o z n (by simp [cxX,zcA]),fun b o z hb=>?_,I.base.Fc,I.base.Fz,I.base.Fy⟩,q⟩
 ·cases z:s₀.heap.get? e with
  | none=>rfl
  | some o =>
   obtain⟨o',z'⟩:=I.base.there e o z (by simp [cxX,zcA]);rw [m.new] at z'; cases z'
 ·refine d9 _ (I.base.keep b o z n hb (by simp [cxX,zcA])) fun hm=>?_
  rw [frm] at hm;rcases aK.mp hm with z' | z'
  ·exact I.Gv z z'
  ·exact hb z'
 ·obtain⟨sl,z1⟩:=I.base.slot b o z n hb (by simp [cxX,zcA]);obtain⟨_,ob,zo,nd⟩:=I.ok.FR.mem hb;have eo:ob=o:=by
   have z3:s₀.heap.get? b=some ob:=zo;rw [z] at z3; exact (aQ z3).symm
  subst eo;obtain⟨Ae,z2⟩:=uf b _ (m.keeps _ _ z1) nd;exact⟨Ae,z2⟩
 ·obtain⟨o',z1⟩:=I.base.there b o z (by simp [cxX,zcA]);refine⟨o',d9 _ z1 fun hm=>?_⟩;rw [frm] at hm;rcases aK.mp hm with z' | z'
  ·exact I.Gv z z'
  ·exact hb z'
theorem Fun.okX {x:Str} {st:Stmt} {ps:List Str} (F:Fun K x qual st f fd) (S:DF N ps (zh st)) (len:∀ vs H Q E,sp vs H Q E->vs.length=ps.length)
  (l8:∀ (kL:Value) (A:Around) (outer:List Env) (s:Shared) (H:Hp) (vs:List V) (Q:VK) (E:XK),EZ k #[IA]->sp vs H Q E ->
   ∃ t,PSs (cxX P w K mg base N qual (zh st) f kL A outer s H E) (zaN st) t/\t { nx:=fun _ H'=>Q .non H',rt:=Q } #[Jh] H):D1 P w K mg base (CX1 P w) (k+1) f fd ps sp:=by
 obtain⟨oc,od,kV,doc,pm,an,kL,ct,ri,rfl,lk,n4⟩:=F.ex;exact ziZ lk n4 S len fun A outer s H vs Q E hr oY=>l8 kL A outer s H vs Q E hr oY
end
section
variable {X:Cx} {x:Str} {C:Addr} {e:Expr} {te:TE} {np kY pos:Pos} {E:XK}
noncomputable def zjn (X:Cx) (E:XK):Prop:=∀ (km:List (Addr×Obj)) (σ:St) (H:Hp) (s:Shared) (h1:Heap) (e C:Addr) (vs:List Value),Inv X km σ H s->s.heap.MadeExcOf h1 e #[IE] vs->E #[IE] none H->X.xe (.ref e) { s with heap:=h1 }
noncomputable def zlO (C:Addr) (E:XK) (te:TE):TS:=fun _ σ H=>zhd te zlw σ H fun vs H1=>vs.length=1/\E #[IE] none H1
theorem zjo (hx:zjn X E) (hc:X.calm=true) (hg:Gl X x) (hm:X.mg x=some #[IE]) (xc:eU X.K C zjl "ValueError.__new__" = true) (he:PE X e te) (hd:(x == ("__debug__" : Str))=false:=by decide)
  (lR:((backTo kY (starEach [e] X.env)).any fun x=>x.fst)=false:=by rfl) (nN:starEach [e] X.env=#[wS] :: starEach [] X.env:=by rfl) :
  PS X (.Raise (some (.Call (.Name x np) [e] [] kY)) none pos) (zlO C E te):=by
 intro km s σ H D I h;obtain⟨nm,q,N,bs,bm,hdct,sn,sub,ab,col,dd,k0,k1,k2,k3,k5,mN,Bx,uq,oD,rq⟩:=(zh8 I.mod.kin xc).ex;refine wpAny_Raise_call_subU (nm:=nm) (q:=q) (N:=N) (bs:=bs) (hdct:=hdct) (sn:=sn) (sub:=sub) (ab:=ab) (col:=col) (dd:=dd) (k0:=k0) (k1:=k1) (k2:=k2) (k3:=k3) (k5:=k5) (bm:=bm) (bmB:=zjl) (bmN:=zjl) im rfl im (OwnTail.hasType rq rfl) #[IQ] lR oD (zcd I hg hm ⟨rfl,?_⟩ hd);have pa:PA X [e] (zhd te zlw):=za he zf nN;have go:=pa kY km s σ H (fun vs H1=>vs.length=1/\E #[IE] none H1) I h;rw [nN] at go |-;refine fj (thn go fun us s2 ⟨vs,H2,I2,r2,ql,q2⟩=>⟨rfl,?_,I2.bk _ _ Bx,uq.keeps I2.bk,rq.keeps I2.bk,fun h1 ea m=>hx km σ H2 s2 h1 ea C _ I2 m q2⟩);have:=r2.length;have oE:1<=sizeLine:=by decide
 show us.length<=sizeLine;lia
end
noncomputable def zmt (X:Cx) (km:List (Addr×Obj)) (σ:St) (e:Expr) (t:TE):Prop:=∀ (s:Shared) (H:Hp) (Q:VK),Inv X km σ H s->t σ H Q->wpAny #[li] X.A #[Me] #[Ix] X.xe s
noncomputable def zmu (X:Cx) (km:List (Addr×Obj)) (σ:St) (st:Stmt) (t:TS):Prop:=∀ (s:Shared) (H:Hp) (D:Ends),Inv X km σ H s->t D σ H->wpAny #[li] X.A (exec st X.env) #[Nd] X.xe s
noncomputable def zla (X:Cx) (km:List (Addr×Obj)) (σ:St) (st:List Stmt) (t:TS):Prop:=∀ (s:Shared) (H:Hp) (D:Ends),Inv X km σ H s->t D σ H->wpAny #[li] X.A (execs st X.env) #[Nd] X.xe s
noncomputable def zdQ (CX:CXT) (X:Cx) (km:List (Addr×Obj)) (σ:St) (E:XK):Prop:=∀ (H:Hp) (s:Shared) (e:Value) (s':Shared),Inv X km σ H s->CX X.stack H s E e s'->X.xe e s'
section
variable {X:Cx} {km:List (Addr×Obj)} {σ:St} {CX:CXT} {k:Nat} {f C:Addr} {fd:FuncData} {ps:List Str} {sp:Sp} {qu:List V} {ds:List Value} {E:XK} {x m:Str} {p pos apos:Pos} {e o:Expr} {es:List Expr} {ta te:TE} {t:TA}
theorem zh9 {Q:VK} {vs:List V} (F:D1 X.prog X.w X.K X.mg X.base CX k f fd ps sp) (hr:EZ k X.A) (hb:Binds X.K fd ps ds) (hd:zG qu ds) (hx:zdQ CX X km σ E)
  (I:Inv X km σ H s) (r:zG vs us) (h:sp (vs++qu) H Q E):wpAny #[li] X.A (call #[J9] us) #[Ix] X.xe s:=by
 have r2:zG (vs++qu) (us++ds):=r.append hd;have hl:(us++ds).length=ps.length:=by rw [<- r2.length]; exact F.len _ _ _ _ h
 refine dS (c7 (F.run X.A X.stack s H ⟨us,[]⟩ (us++ds) (vs++qu) Q E hr I.Ib (hb s us I.kIn hl) r2 h) fun r s' hq=>?_);cases r with
 | error e=>exact hx H s e s' I hq
 | ok fl =>
  cases fl with
  | ret u=>exact I.after hq
  | next=>exact bR hq
  | brk=>exact bR hq
  | cont=>exact bR hq
theorem zgV (F:D1 X.prog X.w X.K X.mg X.base CX k f fd ps sp) (hr:EZ k X.A) (hg:Gl X x) (hm:X.mg x=some #[J9]) (hk:dm X.K #[J9]=true) (hb:Binds X.K fd ps ds) (hd:zG qu ds) (hx:zdQ CX X km σ E)
  (ha:PA X (e :: es) t) (ue:(x == ("__debug__" : Str))=false:=by decide) (he:starEach (e :: es) X.env=#[wS] :: starEach es X.env:=by rfl) (lR:#[Fa].any (·.1)=false:=by rfl) :
  zmt X km σ (.Call #[Nf] (e :: es) [] pos) (ziY sp qu E t):=by
 intro s H Q I h;refine cG #[LQ];refine fT (h₀:=X.base) I.ok.mod.kin hk (thn #[BT] fun us s1 ⟨vs,H1,I1,r,q⟩=>⟨I1.kIn,?_⟩) he lR;exact zh9 F hr hb hd hx I1 r q
theorem zia {i:Nat} {pos':Pos} (hN:X.N.Nodup) (hi:X.N[i]? = some x) (hx:Loc X.env.scope x) (he:zmt X km σ e te) (hs:swapsWith e #[MC] pos.line X.env=pure false:=by rfl) (hf:X.fn x=true\/X.env.scope.names.lookup x=some .local:=by first | exact .inl rfl | exact .inr rfl | assumption) :
  zmu X km σ (.Assign [.Name x pos'] e pos) (zd3 te (zaJ i)):=by
 intro s H D I h;refine wpAny_Assign_Name (thn (he s H _ I h) fun v s1 ⟨y,H1,I1,r1,q1⟩=>?_) hs;exact zbz I1 hN hi hx r1 (fun s2 I2=>⟨_,H1,I2,q1⟩) hf
theorem zgW {st:Stmt} {ts:TS} (h:zmu X km σ st ts):zla X km σ [st] ts:=by
 intro s H D I h1;refine gq (thn (h s H D I h1) fun f s1 q=>?_);cases f with
 | next=>exact dz q
 | ret v=>exact q
 | brk=>exact q
 | cont=>exact q
end
section
variable {X:Cx} {σ:St} {H:Hp} {s:Shared} {km:List (Addr×Obj)}
theorem zib {E:Value->Shared->Prop} {i:Nat} {x:Str} {Q:Unit->Shared->Prop} (I:Inv X km σ H s) (hN:X.N.Nodup) (hi:X.N[i]? = some x) (hk:X.env.scope.names.lookup x=some .local) (hv:σ[i]? = some #[Lv])
  (h:∀ s',Inv X km #[LG] H s'->Q () s'):wpAny M A (unbindName X.env x) Q E s:=by
 obtain⟨m,hn,hl⟩:=id I.loc;have sH:(X.env.scope.kind == .class || (X.env.scope.kind == .module && X.env.locals != X.env.globals))=false:=by rw [I.ok.kind]; rfl
 have hiσ:i < σ.length:=by rw [I.len]; exact (aH.mp hi).1
 have cne:=I.cne;obtain⟨u,r,lk⟩:=hl i x v hi hv (.inl hk);have hm:m x=some u:=by
  rcases lk with ⟨_,z⟩ | ⟨z,_⟩
  ·exact z
  ·have z:X.env.scope.names.lookup x=some .cell\/X.env.scope.names.lookup x=some .free:=z;rw [hk] at z;rcases z with z | z <;> cases z
 refine wpAny_unbindName_local hk hn hm sH fun h' u' uS hs=>?_
 obtain⟨oL,_,_,tU,_⟩:=id hn;refine h _ ⟨I.ok,I.os,I.bare,#[wv],#[MO],fun y c e=>?_,I.free,I.D4,fun p hp=>?_,fun b ob e=>?_,by simpa using I.len⟩
 ·exact (hs.2 b #[Iq]).trans #[Jm]
 ·obtain⟨sl,e1⟩:=I.base.slot b o e n hb hx;exact⟨sl,(hs.2 b #[Iq]).trans e1⟩
 ·obtain⟨o',e1⟩:=I.base.there b o e hx;exact⟨o',(hs.2 b #[Iq]).trans e1⟩
 ·by_cases hj:j=i
  ·subst hj;rw [dF hiσ] at e2;cases e2
  ·rw [dR (cQ hj)] at e2;obtain⟨u',r',q⟩:=hl j y v' e1 e2 e3;refine⟨u',r',?_⟩;rcases q with ⟨k,e⟩ | ⟨k,c,e,z⟩
   ·refine .inl ⟨k,?_⟩;have:y≠x:=fun e=>hj (zdE hN e1 (e ▸ hi))
    simp [this,e]
   ·exact .inr #[MN]
 ·obtain⟨w',z⟩:=I.cell y c e;exact#[Mr]
 ·obtain⟨e,n,ne,nf,d⟩:=I.pin p hp;exact⟨(hs.2 p.1 ne).trans e,n,ne,nf,d⟩
 ·refine (I.hok b ob e).FF (fun c w' hc q=>(hs.2 c ?_).trans q) #[Lw] fun _ _ q=>q
  rintro rfl;rcases hc with rfl | hc
  ·rw [I.free] at e; cases e
  ·rw [I.free] at hc; cases hc
theorem Inv.HB {a:Addr} {o:HO} (I:Inv X km σ H s) (hn:H a=none) (h0:X.s₀.heap.get? a=none) (hL:a≠X.env.locals) (hc:∀ x c,X.env.cells.lookup x=some c->c≠a) (hp:∀ p∈X.pn++km,p.1≠a) (new:z6 X.prog X.w #[Kg] s.heap a o) :
  Inv X km σ #[Kg] s:=by
 have hok:HOk X.prog X.w #[Kg] s.heap:=fun b u e=>by
  by_cases hb:b=a
  ·subst hb;rw [zb] at e;cases e;exact new
  ·rw [zp hb] at e;exact #[KP].FF (fun c v _ q=>q) (fun c q=>by rw [zp (zq q hn)]; exact q) fun c xs q=>by rw [zp (zq q hn)]; exact q
 refine⟨I.ok,I.os,I.bare,#[IU],I.loc,I.cell,?_,fun x c e=>?_,fun p Ap=>?_,hok,I.len⟩
 ·rw [zp (fun z=>by rw [z,h0] at e; cases e)];exact I.base.free b u e n hx
 ·have:=I.base.Fc b xs e;rw [zp (zq this hn)]; exact this
 ·have:=I.base.Fz b u xs e;rw [zp (zq this hn)]; exact this
 ·obtain⟨m1,this⟩:=I.base.Fy b ps e;exact⟨m1,by rw [zp (zq this hn)]; exact this⟩
 ·rw [zp (cQ hL)]; exact I.free
 ·rw [zp (hc x c e)]; exact I.D4 x c e
 ·obtain⟨e,n,ne,nf,d⟩:=I.pin p Ap;exact⟨e,by rw [zp (hp p Ap)]; exact n,ne,nf,d⟩
end
abbrev Cx.EG (X:Cx) (e:Addr):Cx:={ X with A:=X.A.mark (some (.ref e)),calm:=false,xe:=fun _ _=>False }
section
variable {X:Cx} {km:List (Addr×Obj)} {σ:St} {H:Hp} {s:Shared} {e:Addr}
theorem Cx.Ok.EG (ok:X.Ok) (e:Addr):(X.EG e).Ok :=
 ⟨ok.mod,ok.kind,ok.glob,ok.blt,ok.above,ok.inj,ok.has,ok.cab,fun z=>(by cases z),ok.frames,ok.stk,ok.exf,ok.bs,ok.bsz,ok.Hm,ok.Hx,ok.FR,ok.frf⟩
theorem Inv.EG (I:Inv X km σ H s) (e:Addr):Inv (X.EG e) km σ H s:=⟨I.ok.EG e,I.os,I.bare,I.base,I.loc,I.cell,I.free,I.D4,I.pin,I.hok,I.len⟩
theorem Inv.HC (I:Inv (X.EG e) km σ H s) (ok:X.Ok):Inv X km σ H s:=⟨ok,I.os,I.bare,I.base,I.loc,I.cell,I.free,I.D4,I.pin,I.hok,I.len⟩
theorem zfY {E:Value->Shared->Prop} {g:Array GenState} {d:Drawn} {os:OsState} {K:af} {S:Addr} {Q:Bool->Shared->Prop} (X:K.In h) (he:∃ o,h.get? e=some o/\o.cls = .ref C) (hk:dN K #[IE] (.ref S)=some true)
  (hs:bI K S (.type "BaseException")=some true) (q:Q true ⟨h,g,d,tk,os⟩):wpAny M A (excMatches (.ref e) (.ref S)) Q E ⟨h,g,d,tk,os⟩:=by
 obtain⟨l1,l2,l3⟩:=jV (M:=M) X hk;unfold excMatches isInstance;refine ae (ae (l1.at ?_));rw [tc_notTuple];refine ak (cC rfl (ae (ak ?_)));dsimp only
 (simp only [gI,List.forIn_nil])
 refine ae (ae (ae ?_));unfold isExcClass;refine ae (l2.at (fJ rfl ((fI X hs).at ?_)));refine cC rfl (ak (ak ?_));refine ae ((zdP he M).at ?_);refine ae (ae (ae (l3.at (fJ rfl (ak (ak ?_))))));exact ak q
end
noncomputable def Ends.but (D:Ends) (i:Nat):Ends:={ nx:=fun σ H=>D.nx #[LG] H,rt:=D.rt,bk:=fun σ H=>D.bk #[LG] H,ct:=fun σ H=>D.ct #[LG] H }
noncomputable def zmX (K:af) (S:Addr) (i:Nat) (tb:XK->TS) (th:TS):TS:=fun D σ H =>
 tb (fun cls _ H'=>∃ C,cls = .ref C/\dN K #[IE] (.ref S)=some true/\∀ e,H' e=none->th (D.but i) (σ.set i (some (.ref e))) (kx H' e (zjk e C))) D σ H
section
variable {X:Cx} {x n:Str} {S:Addr} {i:Nat} {body sO:List Stmt} {b₀:Stmt} {tb:XK->TS} {th:TS} {np rA pos:Pos}
theorem zlP (hex:X.ex = []) (xG:X.stack=X.env :: X.outer) (vC:X.env.frame=some X.env.locals) (hg:Gl X x) (hm:X.mg x=some (.ref S)) (hS:bI X.K S (.type "BaseException")=some true)
  (hN:X.N.Nodup) (hi:X.N[i]? = some n) (hk:X.env.scope.names.lookup n=some .local)
  (hb:∀ (xe:Value->Shared->Prop) (km:List (Addr×Obj)) (σ:St) (E:XK),zdQ (CX1 X.prog X.w) (X.Gf xe) km σ E->zla (X.Gf xe) km σ body (tb E))
  (hh:∀ e:Addr,PSs (X.EG e) (b₀ :: sO) th) (hd:(x == ("__debug__" : Str))=false:=by decide) :
  PS X (.Try body [.ExceptHandler (some (.Name x np)) (some n) (b₀ :: sO) rA] [] [] pos) (zmX X.K S i tb th):=by
 intro km s σ H D I h;refine wpAny_Try_except ?_;refine bM (hb (fun ev s1=>wpAny #[li] X.A (noteFrame ev X.env) (fun _ s₂=>wpAny #[li] X.A (setFlight ev none) (fun _ s₃=>wpAny #[li] X.A (handleBy ev X.env [ExceptHandler.ExceptHandler (some (Expr.Name x np)) (some n) (b₀ :: sO) rA]) #[Nd] X.xe s₃) X.xe s₂) X.xe s1) km σ _ ?_ s H D (I.Gf _) h) (fun f s1 q=>?_) fun ev s1 z=>z
 ·
  intro H1 s1 ev s2 I1 hq;have I1:=I1.DS;obtain⟨e,C,H',B,rfl,os,bare,L,C',hC,oF,q⟩:=hq;cases hC;obtain⟨t,fl⟩:=L.fly;have pR:∀ b∈frs X.stack,H1 b=none:=I1.Fk;show wpAny _ _ (noteFrame _ _) _ _ _;have fl0:B.FlyingW (X.env :: X.outer) e #[IE] t s2.heap:=by rw [<- xG]; exact fl
  refine wpAny_looks_onW (base:=B) (outer:=X.outer) (by rw [<- xG]; exact I1.ok.frames) vC fl0 fun h2 held u2=>?_
  refine wpAny_landsW held fun h3 By u3=>?_
  have vx:∀ (h4:Heap),B.FlyingW (X.env :: X.outer) e #[IE] t h4->s2.heap.UpToSlots h4->∀ (tk:Nat),Inv X km σ H' ⟨h4,s2.gens,s2.drawn,tk,s2.os⟩:=by
   intro h4 wU u4 tk;refine I1.HH (s':=⟨h4,s2.gens,s2.drawn,tk,s2.os⟩) (ch:=[]) os ?_ (L.hok.kept wU.1) bare (fun b z=>absurd z #[M]);have U:=L.un pR;refine⟨fun b o z nn hb _=>wU.1 _ _ (L.keep b o z nn hb),fun b o z nn hb _=>?_,U.free,fun b o z _=>?_,L.Fc,L.Fz,L.Fy⟩
   ·obtain⟨sl,z1⟩:=L.slot b o z nn hb;obtain⟨_,ob,zo,nd⟩:=I1.stack.mem hb;rw [z] at zo;cases zo;obtain⟨uf,z2⟩:=u4 b _ z1 nd;exact⟨uf,z2⟩
   ·by_cases hb:b∈frs X.stack
    ·obtain⟨sl,z1⟩:=L.slot b o z (pR b hb) hb;obtain⟨_,ob,zo,nd⟩:=I1.stack.mem hb;rw [z] at zo;cases zo;obtain⟨uf,z2⟩:=u4 b _ z1 nd;exact⟨_,z2⟩
    ·obtain⟨o',z1⟩:=L.there b o z hb;exact⟨o',wU.1 _ _ z1⟩
  have I3:=vx h3 By (u2.trans u3) s2.toks;refine wpAny_handleBy_cons (codeAny_handlers_test ?_) (by intro z; cases z);refine zcd (X:=X.EG e) (I3.EG e) hg hm ?_ hd;refine zfY I3.kIn By.there oF hS ?_;rw [if_pos rfl]
  (refine codeAny_handlers_suite_as ?_)
  refine PyProof.Rows.lands_againW By fun h4 wU u4=>?_
  have I4:=vx h4 wU ((u2.trans u3).trans u4) s2.toks;have ne:H' e=none:=L.fresh;have e0:X.s₀.heap.get? e=none:=by
   cases z:X.s₀.heap.get? e with
   | none=>rfl
   | some o =>
    obtain⟨o',z'⟩:=I1.base.there e o z (by rw [hex]; simp);rw [L.new] at z'; cases z'
  have I5:Inv X km σ (kx H' e (zjk e C)) ⟨h4,s2.gens,s2.drawn,s2.toks,s2.os⟩:=by
   refine I4.HB ne e0 (fun z=>?_) (fun y c hc z=>?_) (fun p hp z=>?_) ?_
   ·obtain⟨m,⟨o,_,_,ho,_⟩,_⟩:=I1.loc;rw [<- z,L.new] at ho;cases ho
   ·obtain⟨v,o,ho,_⟩:=I1.cell y c hc;rw [z,L.new] at ho;cases ho
   ·have:=(I1.pin p hp).1;rw [z,L.new] at this;cases this
   ·obtain⟨ob,ho,sH⟩:=wU.there;exact⟨⟨ob,ho,sH⟩,⟨ob,ho⟩,fun h1 h2 ⟨o,z,c⟩ k=>⟨o,k o z,c⟩⟩
  refine zbz (X:=X.EG e) (v:=.ref e) (I5.EG e) hN hi (.inl hk) rfl (fun s6 I6=>?_) (.inr hk);refine bM (hh e km s6 _ _ (D.but i) I6 (q e ne)) (fun f s7 q7=>?_) fun _ _ z=>z.elim
  have fin:∀ {σ':St} {H7:Hp} {R:Shared->Prop},Inv (X.EG e) km σ' H7 s7->(∀ s8,Inv X km (σ'.set i none) H7 s8->R s8)->wpAny #[li] X.A (do bindName X.env n cD; unbindBehindTheSuite X.env n rA) (fun _ s8=>R s8) X.xe s7:=by
   intro σ' H7 R I7 hR;have I7:=I7.HC I.ok;refine ae (wpAny_bindName (zbz (v:=.non) I7 hN hi (.inl hk) rfl (fun s8 I8=>?_) (.inr hk)));unfold unbindBehindTheSuite;refine wpAny_onRaise ?_;have ur:i < σ'.length:=by rw [I7.len]; exact (aH.mp hi).1
   refine zib (v:=.non) I8 hN hi hk (by rw [dF ur]) fun s9 I9=>hR s9 ?_
   rw [List.set_set] at I9;exact I9
  cases f with
  | next =>
   obtain⟨σ',H7,I7,q8⟩:=q7;exact fin I7 fun s8 I8=>⟨_,_,I8,q8⟩
  | brk =>
   obtain⟨σ',H7,I7,q8⟩:=q7;exact fin I7 fun s8 I8=>⟨_,_,I8,q8⟩
  | cont =>
   obtain⟨σ',H7,I7,q8⟩:=q7;exact fin I7 fun s8 I8=>⟨_,_,I8,q8⟩
  | ret v =>
   obtain⟨u,σ',H7,I7,r,q8⟩:=q7;exact fin I7 fun s8 I8=>⟨u,_,_,I8,r,q8⟩
 ·cases f with
  | next=>exact dz (SP.DS q)
  | ret v=>exact SP.DS q
  | brk=>exact SP.DS q
  | cont=>exact SP.DS q
end
structure Fb (k:Nat) (A:Around):Prop where
 dp:A.depth+3*k+5 < recursionLimit
 un:A.units+16*k+200 < cLine
theorem Fb.of {e:Addr} (r:EZ k A):Fb k (A.mark (some (.ref e))):=⟨r.dp,r.un⟩
theorem Fb.deeper (r:Fb (k+1) A) (env:Env):Fb k (A.deeper env) :=
 ⟨by have:=r.dp; show A.depth+1+3*k+5 < _; lia,by have:=r.un; show A.units+3+16*k+200 < _; lia⟩
structure G9 (P:Program) (w:World) (K:af) (mg:Str->Option Value) (base:Heap) (k:Nat) (f:Addr) (fd:FuncData) (ps:List Str) (sp:Sp):Prop where
 len:∀ vs H Q E,sp vs H Q E->vs.length=ps.length
 run:∀ (A:Around) (outer:List Env) (s:Shared) (H:Hp) (args:Args) (us:List Value) (vs:List V) (Q:VK) (E:XK),Fb k A->Hy P w K mg base A outer s H->BindsTo s fd args #[LZ]->zG vs us->sp vs H Q E ->
  codeAny #[J4] A (.call #[J9] args) (CR CX0 outer P w H s Q E) s
abbrev cxH (P:Program) (w:World) (K:af) (mg:Str->Option Value) (base:Heap) (N:List Str) (qual:Str) (scope:Scope) (f:Addr) (cd:Value) (A:Around) (outer:List Env) (s:Shared) (H:Hp) (E:XK):Cx :=
 { zcA CX0 P w K mg base N qual scope f cd A outer s H E with calm:=false,xe:=fun _ _=>False }
section
variable {P:Program} {w:World} {K:af} {mg:Str->Option Value} {base:Heap}
theorem zlQ {f:Addr} {body:List Stmt} {dV kV:Value} 
  {ps:List Str} (lk:K.lookup f=some ⟨oc,od,.func #[Ch],ri⟩) (n4:dL K kL qual=true) (S:DF N ps scope)
  (len:∀ vs H Q E,sp vs H Q E->vs.length=ps.length)
  (l8:∀ (A:Around) (outer:List Env) (s:Shared) (H:Hp) (vs:List V) (Q:VK) (E:XK),Fb k #[J6]->sp vs H Q E ->
   ∃ t,PSs #[ID] body t/\t { nx:=fun _ H'=>Q .non H',rt:=Q } #[Jh] H) :
  G9 P w K mg base (k+1) f #[Ch] ps sp:=by
 refine#[JX];have hl:=len _ _ _ _ oY;have KX:K.In s.heap:=e0.mod.kin.keeps fun b o e=>#[M4].1
 have lim:s.heap.NoLimit:=e0.mod.nolimit.keeps fun b o e=>#[M4].1
 have n5:∀ y∈ps.zip us,scope.names.lookup y.1=some .local\/(scope.names.lookup y.1=some .cell/\((cellsFrom #[Kl] scope.names []).lookup y.1).isSome=true):=fun ⟨n,v⟩ hy=>by
  rcases S.par n (fi hy).1 with q | q
  ·exact .inl q
  ·exact .inr ⟨q,eM _ _ _ (.inl q)⟩
 refine g9 (by have:=hr.dp; lia) (KX _ _ lk) rfl S.co S.gen rfl (iV KX n4) (hb _ _ _ _ ?_);refine gb S.kind n5 fun env he s1 x=>?_
 subst he;refine#[Kv];obtain⟨t,ht,hq⟩:=l8 A outer s H vs Q E (hr.deeper _) oY;have e1:Hy P w K mg base { A with handled:=none } outer s H:=⟨e0.frames,e0.mod,e0.bs,e0.bsz,e0.FR,e0.frf,e0.hok,e0.bare⟩;have I0:Inv (zcA CX0 P w K mg base N qual scope f kL { A with handled:=none } outer s H E) [] #[Jh] H s1:=zep S rfl e1 hl r x;have I:Inv #[ID] [] #[Jh] H s1 :=
  ⟨⟨I0.ok.mod,I0.ok.kind,I0.ok.glob,I0.ok.blt,I0.ok.above,I0.ok.inj,I0.ok.has,I0.ok.cab,fun z=>(by cases z),I0.ok.frames,I0.ok.stk,I0.ok.exf,I0.ok.bs,I0.ok.bsz,I0.ok.Hm,I0.ok.Hx,I0.ok.FR,I0.ok.frf⟩,I0.os,I0.bare,I0.base,I0.loc,I0.cell,I0.free,I0.D4,I0.pin,I0.hok,I0.len⟩
 refine bM (ht [] s1 #[Jh] H _ I hq) (fun fl s' hs=>?_) fun e s' hs=>hs.elim
 have fin:∀ {σ':St} {H':Hp} {v:V} {u:Value},Inv #[ID] [] σ' H' s'->RelV v u->Q v H'->CE outer P w H s Q u s' :=
  fun {σ' H' v u} J rv q=>⟨v,H',J.os,J.bare,J.base,J.hok,rv,q⟩
 cases fl with
 | ret u =>
  obtain⟨v,σ',H',J,rv,q⟩:=hs;exact fin J rv q
 | next =>
  obtain⟨σ',H',J,q⟩:=hs;exact fin (v:=V.non) (u:=cD) J rfl q
 | brk =>
  obtain⟨_,_,_,q⟩:=hs;exact bR q
 | cont =>
  obtain⟨_,_,_,q⟩:=hs;exact bR q
theorem Fun.okH {x:Str} {st:Stmt} {f:Addr} {ps:List Str} (F:Fun K x qual st f fd) (S:DF N ps (zh st)) (len:∀ vs H Q E,sp vs H Q E->vs.length=ps.length)
  (l8:∀ (kL:Value) (A:Around) (outer:List Env) (s:Shared) (H:Hp) (vs:List V) (Q:VK) (E:XK),Fb k #[IA]->sp vs H Q E ->
   ∃ t,PSs (cxH P w K mg base N qual (zh st) f kL A outer s H E) (zaN st) t/\t { nx:=fun _ H'=>Q .non H',rt:=Q } #[Jh] H):G9 P w K mg base (k+1) f fd ps sp:=by
 obtain⟨oc,od,kV,doc,pm,an,kL,ct,ri,rfl,lk,n4⟩:=F.ex;exact zlQ lk n4 S len fun A outer s H vs Q E hr oY=>l8 kL A outer s H vs Q E hr oY
end
section
variable {X:Cx} {k:Nat} {f:Addr} {fd:FuncData} {ps:List Str} {sp:Sp} {x:Str} {p pos:Pos} {e:Expr} {es:List Expr} {t:TA}
theorem zjp (F:G9 X.prog X.w X.K X.mg X.base k f fd ps sp) (hr:Fb k X.A) (hg:Gl X x) (hm:X.mg x=some #[J9]) (hk:dm X.K #[J9]=true) (hb:Binds X.K fd ps [])
  (ha:PA X (e :: es) t) (ue:(x == ("__debug__" : Str))=false:=by decide) (he:starEach (e :: es) X.env=#[wS] :: starEach es X.env:=by rfl) (lR:#[Fa].any (·.1)=false:=by rfl) :
  PE X (.Call #[Nf] (e :: es) [] pos) (ziY sp [] E0 t):=by
 intro km s σ H Q I h;refine cG #[LQ];refine fT (h₀:=X.base) I.ok.mod.kin hk (thn #[BT] fun us s1 ⟨vs,H1,I1,r,q⟩=>⟨I1.kIn,?_⟩) he lR;have r2:zG (vs++[]) (us++[]):=r.append .nil;have hl:(us++[]).length=ps.length:=by rw [<- r2.length]; exact F.len _ _ _ _ q
 refine dS (c7 (F.run X.A X.stack s1 H1 ⟨us,[]⟩ (us++[]) (vs++[]) Q E0 hr I1.Ib (hb s1 us I1.kIn hl) r2 q) fun r s' hq=>?_);cases r with
 | error e=>exact hq.elim
 | ok fl =>
  cases fl with
  | ret u=>exact I1.after hq
  | next=>exact bR hq
  | brk=>exact bR hq
  | cont=>exact bR hq
end
theorem zcE:∀ {bs:List Bool} {us:List Value},zG (bs.map V.bl) us->us=bs.map eC
 | [],_,r=>by cases r; rfl
 | b :: bs,_,r=>by
  cases r with
  | cons r1 r2 =>
   rw [zcE r2];cases r1;rfl
theorem zdk {h:Heap}:∀ (bs:List Bool),∃ as,ReadsAll h (bs.map eC) (bs.map ki) as
 | []=>⟨_,.nil⟩
 | b :: bs=>by
  obtain⟨as,r⟩:=zdk (h:=h) bs;exact⟨_,.cons (by constructor) r⟩
theorem zdl:∀ (bs:List Bool),(bs.map ki).all Spec.Shape.bool.has=true
 | []=>rfl
 | _ :: bs=>by
  rw [aT,List.all_cons,zdl bs];rfl
theorem zfZ {bs:List Bool} (k:Bool) (y:Value) (hy:y∈bs.map eC) (A:Around) (s:Shared):jP A s y (.bool k) (isBoolOf k y):=by
 obtain⟨as,r⟩:=zdk (h:=s.heap) bs;exact eq_isBoolOf k r (zdl bs) y hy A s
theorem zcN (k:Bool):∀ bs:List Bool,List.countP (isBoolOf k) (bs.map eC)=bs.count k
 | []=>rfl
 | b :: bs=>by
  rw [aT,List.countP_cons,List.count_cons,zcN k bs];rfl
section
variable {X:Cx}
noncomputable def zky:V->List V->Hp->VK->Prop:=fun x vs H Q=>∃ (l:Addr) (bs:List Bool) (k:Bool),x = .ref l/\vs = [.bl k]/\H l=some (.lst (bs.map V.bl))/\Q (.int ((bs.count k:Nat):Int)) H
theorem zic:MtM X "list.count" zky:=by
 intro km s σ H x vs v us Q I rx rv h;obtain⟨l,bs,k,rfl,rfl,hH,q⟩:=h;cases rx;obtain⟨u,rfl,ru⟩:=rv.one;cases ru;obtain⟨z,kq,n,r,hl,e⟩:=I.G4 hH;have hi:=zcE r;subst hi;refine dU F.slot_list_count ⟨_,e,rfl⟩ F.entry_list_count (F.args_list_count_2 _ _) (SeqAt.list_countAt l _ n _ _ (.bool k) (isBoolOf k)) ⟨e,fun y hy=>zfZ (bs:=bs) k y (by simpa using hy) _ _,?_⟩;rw [List.toList_toArray,zcN];exact⟨.int ((bs.count k:Nat):Int),H,I.tok _,⟨_,rfl⟩,q⟩
noncomputable def zkz:V->List V->Hp->VK->Prop:=fun x vs H Q=>∃ (l:Addr) (bs:List Bool) (k:Bool) (j:Nat),x = .ref l/\vs = [.bl k]/\H l=some (.lst (bs.map V.bl))/\bs[j]? = some k/\(∀ m,m < j->bs[m]? = some (!k))/\j < 1000/\Q (.int (j:Int)) H
theorem zid:MtM X "list.index" zkz:=by
 intro km s σ H x vs v us Q I rx rv h;obtain⟨l,bs,k,j,rfl,rfl,hH,hj,hm,h1000,q⟩:=h;cases rx;obtain⟨u,rfl,ru⟩:=rv.one;cases ru;obtain⟨z,kq,n,r,hl,e⟩:=I.G4 hH;have hi:=zcE r;subst hi;obtain⟨hjl,hje⟩:=aH.mp hj;refine dU F.slot_list_index ⟨_,e,rfl⟩ F.entry_list_index (F.args_list_index_2 _ _) (SeqAt.list_indexAt l _ n _ _ (.bool k) (isBoolOf k) j (by simpa using hjl) #[O] ?_ ?_) ⟨e,fun y hy=>zfZ (bs:=bs) k y (by simpa using hy) _ _,?_⟩
 ·simp [isBoolOf,hje]
 ·intro m h1 h2;have:=hm m h2;obtain⟨_,xH⟩:=aH.mp this;simp [isBoolOf,xH]
 ·exact⟨.int (j:Int),H,I.tok _,⟨_,rfl⟩,q⟩
end
noncomputable def strsOf:List Expr->Option (List Str)
 | []=>some []
 | .Constant (.str i) _ _ :: r=>(strsOf r).map (i :: ·)
 | _=>none
noncomputable def zf0 (ns:List Str):TA:=fun _ H Q=>Q (ns.map V.str) H
theorem zkA {X:Cx}:∀ (es:List Expr) (ns:List Str),strsOf es=some ns->PA X es (zf0 ns):=by
 intro es;induction es with
 | nil =>
  intro ns h;have e:ns = []:=(aQ h).symm;subst e;exact zf
 | cons e r ih =>
  intro ns h;unfold strsOf at h;split at h
  ·rename_i heq
   cases heq
  ·rename_i i j p r' heq
   injection heq with e1 e2
   subst e1 e2;cases hr:strsOf r with
   | none=>rw [hr] at h; cases h
   | some ms =>
    rw [hr] at h;have e:i :: ms=ns:=aQ h;subst e;exact za zeT (ih ms hr)
  ·cases h
theorem zjq {X:Cx} {i:Nat} {x:Str} {pos' o2 mW:Pos} {rest:List Stmt} {u:TS} {es:List Expr} {ns:List Str} (h:strsOf es=some ns) (hN:X.N.Nodup) (hi:X.N[i]? = some x) (hx:Loc X.env.scope x)
  (hf:X.fn x=true\/X.env.scope.names.lookup x=some .local) (hr:PSs X rest u):PSs X (.Assign [.Name x pos'] #[KR] mW :: rest) (zbi (zd3 (zgE (zf0 ns)) (zaJ i)) u):=by
 have h1:PE X #[KR] (zgE (zf0 ns)):=@zag X es (zf0 ns) o2 (@zkA X es ns h);have h2:PS X (.Assign [.Name x pos'] #[KR] mW) (zd3 (zgE (zf0 ns)) (zaJ i)):=zn hN hi hx h1 (by rfl) hf;exact ze h2 hr
section
variable {κ:Type} [DecidableEq κ]
noncomputable def zaB (kvs:List (κ×V)) (k:κ):Option V:=(kvs.find? fun kv=>decide (kv.1=k)).map (·.2)
noncomputable def putK (kvs:List (κ×V)) (k:κ) (v:V):List (κ×V) :=
 if (kvs.any fun kv=>decide (kv.1=k))=true then kvs.map (fun kv=>if kv.1=k then (kv.1,v) else kv) else kvs++[(k,v)]
theorem zaC {p:κ×V} {r:List (κ×V)} {k:κ} (e:p.1=k):zaB (p :: r) k=some p.2:=by simp [zaB,bV,e]
theorem zaD {p:κ×V} {r:List (κ×V)} {k:κ} (e:¬ p.1=k):zaB (p :: r) k=zaB r k:=by simp [zaB,bV,e]
theorem zcO (k:κ):∀ kvs:List (κ×V),(kvs.any fun kv=>decide (kv.1=k))=(zaB kvs k).isSome
 | []=>rfl
 | p :: r=>by
  rw [iB];by_cases e:p.1=k
  ·simp only [zaC e,decide_eq_true e,Bool.true_or,jb]
  ·rw [zaD e,decide_eq_false e,Bool.false_or]; exact zcO k r
theorem zf1 (k j:κ) (y:V):∀ kvs:List (κ×V),zaB (kvs.map fun kv=>if kv.1=k then (kv.1,y) else kv) j=(zaB kvs j).map fun x=>if j=k then y else x
 | []=>rfl
 | p :: r=>by
  have ih:=zf1 k j y r;rw [aT];by_cases h:p.1=k
  ·rw [if_pos h];by_cases e:p.1=j
   ·rw [zaC (p:=(p.1,y)) e,zaC e,fq,if_pos (e.symm.trans h)]
   ·rw [zaD (p:=(p.1,y)) e,zaD e,ih]
  ·rw [if_neg h];by_cases e:p.1=j
   ·rw [zaC (p:=p) e,zaC e,fq,if_neg (fun z=>h (e.trans z))]
   ·rw [zaD (p:=p) e,zaD e,ih]
theorem zeF (k j:κ) (y:V):∀ kvs:List (κ×V),zaB kvs k=none->zaB (kvs++[(k,y)]) j=if j=k then some y else zaB kvs j
 | [],_=>by
  by_cases e:k=j
  ·rw [if_pos e.symm]; exact zaC (p:=(k,y)) e
  ·rw [if_neg (fun z=>e z.symm)]; exact zaD (p:=(k,y)) e
 | p :: r,hn=>by
  rw [List.cons_append];have hk:¬ p.1=k:=fun z=>by rw [zaC z] at hn; cases hn
  rw [zaD hk] at hn;have ih:=zeF k j y r hn;by_cases e:p.1=j
  ·rw [zaC e,zaC e,if_neg (fun z=>hk (e.trans z))]
  ·rw [zaD e,zaD e,ih]
theorem zf2 (kvs:List (κ×V)) (k j:κ) (y:V):zaB (putK kvs k y) j=if j=k then some y else zaB kvs j:=by
 unfold putK;by_cases a:(kvs.any fun kv=>decide (kv.1=k))=true
 ·rw [if_pos a,zf1];rw [zcO] at a;by_cases e:j=k
  ·obtain⟨x,hx⟩:=gr.mp a;rw [if_pos e,e,hx,fq,if_pos rfl]
  ·rw [if_neg e];cases zaB kvs j with
   | none=>rfl
   | some x=>rw [fq,if_neg e]
 ·rw [if_neg a];refine zeF k j y kvs ?_;rw [zcO] at a;cases q:zaB kvs k with
  | none=>rfl
  | some x=>rw [q] at a; exact (a rfl).elim
theorem zdm (kvs:List (κ×V)) (k:κ) (v:V):#[Jj].length<=kvs.length+1:=by
 unfold putK;split
 ·rw [aa]; lia
 ·rw [aA,bA,gL]; lia
theorem zc6.Gz {o:Option V} {u:Option Value} (r:zc6 o u):o.isSome=u.isSome:=by
 cases o with
 | none=>cases u with
  | none=>rfl
  | some _=>exact (show False from r).elim
 | some _=>cases u with
  | none=>exact (show False from r).elim
  | some _=>rfl
theorem zc6.getD {o:Option V} {u:Option Value} {d:V} {d':Value} (r:zc6 o u) (rd:RelV d d'):RelV (o.getD d) (u.getD d'):=by
 cases o with
 | none=>cases u with
  | none=>exact rd
  | some _=>exact (show False from r).elim
 | some _=>cases u with
  | none=>exact (show False from r).elim
  | some _=>exact r
theorem KV.val {kvs:List (κ×V)} {vs:List (κ×Value)} (r:KV kvs vs) (k:κ):zc6 (zaB kvs k) (valueAt vs k):=by
 unfold KV at r;induction r with
 | nil=>exact dA
 | @cons p q ps qs h t ih =>
  obtain⟨h1,h2⟩:=h;by_cases e:p.1=k
  ·have e':q.1=k:=h1.symm.trans e;have b:valueAt (q :: qs) k=some q.2:=by simp [valueAt,bV,e']
   rw [zaC e,b]; exact h2
  ·have e':¬ q.1=k:=fun z=>e (h1.trans z)
   have b:valueAt (q :: qs) k=valueAt qs k:=by simp [valueAt,bV,e']
   rw [zaD e,b]; exact ih
theorem KV.any {kvs:List (κ×V)} {vs:List (κ×Value)} (r:KV kvs vs) (k:κ):(kvs.any fun kv=>decide (kv.1=k))=vs.any fun kv=>decide (kv.1=k):=by
 unfold KV at r;induction r with
 | nil=>rfl
 | cons h t ih=>rw [iB,iB,ih,h.1]
theorem KV.HY {kvs:List (κ×V)} {vs:List (κ×Value)} (r:KV kvs vs) (k:κ) {u:Value} (ry:RelV y u) :
  KV (kvs.map fun kv=>if kv.1=k then (kv.1,y) else kv) (vs.map fun kv=>if kv.1=k then (kv.1,u) else kv):=by
 unfold KV at r |-;induction r with
 | nil=>exact .nil
 | @cons p q ps qs h t ih =>
  rw [aT,aT];refine .cons ?_ ih;obtain⟨h1,h2⟩:=h;by_cases e:p.1=k
  ·rw [if_pos e,if_pos (h1.symm.trans e)]; exact⟨h1,ry⟩
  ·rw [if_neg e,if_neg (fun z=>e (h1.trans z))]; exact⟨h1,h2⟩
theorem KV.put {kvs:List (κ×V)} {vs:List (κ×Value)} (r:KV kvs vs) (k:κ) {u:Value} (ry:RelV y u):KV (putK kvs k y) (stored vs k u):=by
 unfold putK stored;rw [r.any k];by_cases e:(vs.any fun kv=>decide (kv.1=k))=true
 ·rw [if_pos e,if_pos e]; exact r.HY k ry
 ·rw [if_neg e,if_neg e]; exact cr r ⟨rfl,ry⟩
theorem KV.length {kvs:List (κ×V)} {vs:List (κ×Value)} (r:KV kvs vs):kvs.length=vs.length:=fZ r
end
theorem zho {k:Key} {u:Value} (r:RelV (kV k) u):(zan P w).is k u=true:=by
 cases k with
 | inl i=>obtain⟨t,e⟩:=(show ∃ t,u=fQ i t from r); subst e; exact zfC P w i t
 | inr x=>obtain⟨t,e⟩:=(show ∃ t,u=iR x t from r); subst e; exact zfD P w x t
theorem zeG {P:Program} {w:World}:∀ {ks:List Key} {us:List Value},zG (ks.map kV) us->ItemsAre (zan P w) ks us
 | [],_,r=>by rw [iX] at r; cases r; exact .nil
 | k :: ks,_,r=>by
  rw [aT] at r;cases r with
  | cons h t=>exact .cons (zho h) (zeG t)
abbrev KT (H:Hp):List (List Key×V)->List (List Key×Addr×Value)->Prop:=Paired fun p q=>p.1=q.1/\H q.2.1=some (.tup (p.1.map kV))/\RelV p.2 q.2.2
theorem KT.val {xs:List (List Key×Addr×Value)} (r:KT H kvs xs) (k:List Key):zc6 (zaB kvs k) ((atKey xs k).map (·.2)):=by
 induction r with
 | nil=>exact dA
 | @cons p q ps qs h t ih =>
  obtain⟨h1,_,h2⟩:=h;by_cases e:p.1=k
  ·have e':q.1=k:=h1.symm.trans e;have b:atKey (q :: qs) k=some q.2:=by simp [atKey,bV,e']
   rw [zaC e,b]; exact h2
  ·have e':¬ q.1=k:=fun z=>e (h1.trans z)
   have b:atKey (q :: qs) k=atKey qs k:=by simp [atKey,bV,e']
   rw [zaD e,b]; exact ih
theorem KT.HY {xs:List (List Key×Addr×Value)} (r:KT H kvs xs) (k:List Key) {u:Value} (ry:RelV y u) :
  KT H (kvs.map fun kv=>if kv.1=k then (kv.1,y) else kv) (xs.map (putAt k u)):=by
 induction r with
 | nil=>exact .nil
 | @cons p q ps qs h t ih =>
  rw [aT,aT];refine .cons ?_ ih;obtain⟨h1,h2,h3⟩:=h;unfold putAt;by_cases e:p.1=k
  ·rw [if_pos e,if_pos (h1.symm.trans e)]; exact⟨h1,h2,ry⟩
  ·rw [if_neg e,if_neg (fun z=>e (h1.trans z))]; exact⟨h1,h2,h3⟩
theorem KT.put {xs:List (List Key×Addr×Value)} (r:KT H kvs xs) (k:List Key) {b:Addr} {u:Value} (hb:H b=some #[Jk]) (ry:RelV y u) :
  KT H (putK kvs k y) (storedH xs k b u):=by
 have e:(kvs.any fun kv=>decide (kv.1=k))=(atKey xs k).isSome:=by
  rw [zcO,(r.val k).Gz,Option.isSome_map]
 unfold putK storedH;rw [e];by_cases q:(atKey xs k).isSome=true
 ·rw [if_pos q,if_pos q]; exact r.HY k ry
 ·rw [if_neg q,if_neg q]; exact cr r ⟨rfl,hb,ry⟩
theorem KT.keeps {xs:List (List Key×Addr×Value)} (r:KT H kvs xs) (ht:∀ b ys,H b=some (.tup ys)->H' b=some (.tup ys)):KT H' kvs xs :=
 Paired.HZ r fun _ _ z=>⟨z.1,ht _ _ z.2.1,z.2.2⟩
section
variable {P:Program} {w:World} {H:Hp} {h:Heap} {a:Addr}
theorem zlb {u:HO} (ok:HOk P w H h) (e:Rd H a u):z6 P w H h a u:=e.ok ok
theorem zf3 {kvs:List (Key×V)} (ok:HOk P w H h) (e:Rd H a #[Lg]):kvs.length<=sizeLine/\(a == sysModules)=false/\∃ vs,KV kvs vs/\h.DictOf (zan P w) a vs :=
 show z6 P w H h a #[Lg] from zlb ok e
theorem zlc {kvs:List (Key×V)} (ok:HOk P w H h) (e:H a=some #[Lg]):kvs.length<=sizeLine/\(a == sysModules)=false/\∃ vs,KV kvs vs/\h.DictOf (zan P w) a vs:=zf3 ok (.inl e)
theorem zfb {ks:List Key} (ok:HOk P w H h) (e:H a=some (.tup (ks.map kV))):#[Ja].is h ks a:=by
 obtain⟨_,kq,r,o,h1,h2,n,h3⟩:=(show z6 P w H h a (.tup (ks.map kV)) from ok a _ e);exact⟨o,kq.toArray,n,h1,h2,h3,by simpa using zeG r⟩
theorem zf4 (ok:HOk P w H h) (e:Rd H a #[IL]):kvs.length<=sizeLine/\(a == sysModules)=false /\
  ∃ xs,KT H kvs xs/\h.DictOfH #[Ja] a xs:=by
 obtain⟨z,y,xs,r,o,es,ep,h1,h2,h3,h4,h5⟩:=(show z6 P w H h a #[IL] from zlb ok e);refine⟨z,y,xs,r,o,es,ep,h1,h2,h3,h4,fun x hx=>?_,h5⟩;have all:∀ {l:List (List Key×V)} {m:List (List Key×Addr×Value)},KT H l m->∀ x∈m,#[Ja].is h x.1 x.2.1:=by
  intro l m q;induction q with
  | nil=>intro x hx; exact nomatch hx
  | @cons p q ps qs hq t ih =>
   intro x hx;rcases aK.mp hx with e | hx
   ·subst e;exact zfb ok (by rw [<- hq.1]; exact hq.2.1)
   ·exact ih x hx
 exact all r x hx
theorem zmv (ok:HOk P w H h) (e:H a=some #[IL]):kvs.length<=sizeLine/\(a == sysModules)=false /\
  ∃ xs,KT H kvs xs/\h.DictOfH #[Ja] a xs:=zf4 ok (.inl e)
end
noncomputable def zds (H:Hp) (a:Addr) (y:V) (r:Option V):Prop :=
 (∃ kvs k,Rd H a #[Lg]/\y=kV k/\r=zaB kvs k)\/∃ kvs k b,Rd H a #[IL]/\y = .ref b/\H b=some #[Jk]/\r=zaB kvs k
noncomputable def zf5 (H:Hp) (a:Addr) (y v:V) (H':Hp):Prop :=
 (∃ kvs k,H a=some #[Lg]/\y=kV k/\kvs.length < sizeLine/\H'=kx H a (.dK #[Jj])) \/
 ∃ kvs k b,H a=some #[IL]/\y = .ref b/\H b=some #[Jk]/\kvs.length < sizeLine/\H'=kx H a (.dT #[Jj])
theorem zds.t {a b:Addr} {k:List Key} (e:H a=some #[IL]) (eb:H b=some #[Jk]):zds H a #[M9] (zaB kvs k):=.inr ⟨kvs,k,b,.inl e,rfl,eb,rfl⟩
theorem zf5.t {a b:Addr} {k:List Key} (e:H a=some #[IL]) (eb:H b=some #[Jk]) (hl:kvs.length < sizeLine) :
  zf5 H a #[M9] v (kx H a (.dT #[Jj])):=.inr ⟨kvs,k,b,e,rfl,eb,hl,rfl⟩
section
variable {X:Cx} {km:List (Addr×Obj)} {σ:St} {H:Hp} {s:Shared} {a:Addr} {y v:V} {u r:Value} {o:Option V} {A:Around} {E:Value->Shared->Prop}
theorem Inv.big (I:Inv X km σ H s):sysModules < s.heap.objs.size:=by
 have h:mainGlobals < s.heap.objs.size:=(I.mod.glob.keeps I.bk).lt;exact Nat.lt_trans #[D] h
theorem zie {Q:Value->Shared->Prop} (hu:A.units+1 < cLine) (I:Inv X km σ H s) (g:zds H a y #[Lv]) (ry:RelV y u) (h:∀ w' s',Inv X km σ H s'->RelV v w'->Q w' s') :
  wpAny #[li] A (getItem #[IT] u) Q E s:=by
 rcases g with ⟨kvs,k,e,ey,l⟩ | ⟨kvs,k,b,e,ey,eb,l⟩
 ·subst ey;obtain⟨z,hd,vs,rel,dd⟩:=zf3 I.hok e;obtain⟨w',hw,rj⟩:=zc6.some_of (v:=v) (o:=valueAt vs k) (by rw [l]; exact rel.val k);exact wpAny_getItem_of (zho ry) dd.mapOf hw (h w' _ (I.tok _) rj)
 ·subst ey;cases (show u=aP b from ry);obtain⟨z,hd,xs,rel,dd⟩:=zf4 I.hok e;obtain⟨w',hw,rj⟩:=zc6.some_of (v:=v) (o:=(atKey xs k).map (·.2)) (by rw [l]; exact rel.val k);obtain⟨p,hp,nj⟩:=eQ.mp hw;refine wpAny_getItem_heap (fW hu) (zfb I.hok eb) dd hp ?_;rw [nj];exact h w' _ (I.tok _) rj
theorem zhp {ob:HO} (I:Inv X km σ H s) (mu:Mut (H a)) (hs:fg a s.heap h') (he:∃ q,h'.get? a=some q) (new:z6 X.prog X.w (kx H a ob) h' a ob) :
  Inv X km σ (kx H a ob) { s with heap:=h',toks:=t' } :=
 I.write (x:=a) (e:=a) mu #[IW] (fun b q hb z=>(hs.2 b hb).trans z) he new
theorem zlR {kvs:List (Key×V)} {vs:List (Key×Value)} (z:kvs.length<=sizeLine) (hd:(a == sysModules)=false) (rel:KV kvs vs) (dd:h'.DictOf (zan P w) a vs) :
  z6 P w H' h' a #[Lg]:=⟨z,hd,vs,rel,dd⟩
theorem zif {Q:Unit->Shared->Prop} (hu:A.units+1 < cLine) (I:Inv X km σ H s) (g:zf5 H a y v H') (ry:RelV y u) (rv:RelV v r) (h:∀ s',Inv X km σ H' s'->Q () s') :
  wpAny #[li] A (setItem #[IT] u r) Q E s:=by
 rcases g with ⟨kvs,k,e,ey,l,eH⟩ | ⟨kvs,k,b,e,ey,eb,l,eH⟩
 ·subst ey eH;obtain⟨z,hd,vs,rel,dd⟩:=zlc I.hok e;have hz:vs.length<=sizeLine:=by rw [<- rel.length]; exact z
  have hl:#[Jj].length<=sizeLine:=by have:=zdm kvs k v; lia
  refine wpAny_setItem_pairs (hsz:=hz) (zho ry) dd fun h' xF hs=>h _ ?_
  have he:∃ q,h'.get? a=some q:=let ⟨q,_,_,hq,_⟩:=xF; ⟨q,hq⟩
  exact zhp I (by rw [e]; exact dA) hs he (zlR hl hd (rel.put k rv) xF)
 ·subst ey eH;cases (show u=aP b from ry);obtain⟨z,hd,xs,rel,dd⟩:=zmv I.hok e;have hz:xs.length<=sizeLine:=by rw [<- fZ rel]; exact z
  have hl:#[Jj].length<=sizeLine:=by have:=zdm kvs k v; lia
  refine wpAny_setItem_heap (hsz:=hz) (fW hu) (zfb I.hok eb) dd fun h' xF hs=>h _ ?_
  obtain⟨q,es,ep,hq,h2,h3,h4,_,h5⟩:=xF;refine zhp I (by rw [e]; exact dA) hs ⟨q,hq⟩ ⟨hl,hd,_,(rel.put k eb rv).keeps fun c ys ec=>?_,q,es,ep,hq,h2,h3,h4,h5⟩;rw [zp (zma ec e (fun z=>nomatch z))];exact ec
end
noncomputable def zmw (i:Expr):Prop:=∀ ov iv,subscripted i false ov iv=operate [ov,iv] (getItem ov iv)
theorem zkB {prog:Program} {E:Value->Shared->Prop} {value slice:Expr} {T id:String} {Q:Value->Shared->Prop}
  (hl:typeLookup (.type T) "__getitem__" = pure (some #[JQ])) (hs:zmw slice)
  (h:wpAny #[or] A (eval value env) (fun o s₁=>wpAny #[or] A (eval slice env) (fun i s₂=>s₂.TypeIs o T/\wpAny #[or] A (getItem o i) Q E s₂) E s₁) E s) :
  wpAny #[or] A (eval (.Subscript value slice pos) env) Q E s:=by
 refine ii (bM h (fun o s₁ h₁=>bM h₁ (fun i s₂ h₂=>?_) fun _ _ x=>x) fun _ _ x=>x);obtain⟨hT,h₂⟩:=h₂;unfold subscriptTail;refine ae ?_;rw [getitemInPython_of_ne hT.not_modules];refine ae (fm hT hl ?_);have fin:wpAny #[or] A (subscripted slice false o i) (fun r s₃=>wpAny #[or] A (letTemporaryGo value o r >>= fun _=>pure r) Q E s₃) E s₂:=by
  rw [hs o i];exact wpAny_operating (bM h₂ (fun r s₃ h₃=>ae (wpAny_letTemporaryGo (ak h₃))) fun _ _ x=>x)
 first
  | exact ak (ae fin)
  | exact ae (ak (ae fin))
  | exact ae fin
theorem zf6 {σ:St} {a:Addr} {o:Option V} (I:Inv X km σ H s) (g:zds H a y o):s.TypeIs #[IT] "dict":=by
 rcases g with ⟨kvs,k,e,_,_⟩ | ⟨kvs,k,b,e,_,_,_⟩
 ·obtain⟨_,_,vs,_,dd⟩:=zf3 I.hok e;exact dd.typeIs
 ·obtain⟨_,_,xs,_,dd⟩:=zf4 I.hok e;exact dd.typeIs
noncomputable def zmx (td ty:TE):TE:=fun σ H Q=>td σ H fun x H1=>ty σ H1 fun y H2=>∃ a v,x = .ref a/\zds H2 a y #[Lv]/\Q v H2
noncomputable def zmy (td ty tv:TE):TS:=fun D σ H=>tv σ H fun v H1=>td σ H1 fun x H2=>ty σ H2 fun y H3=>∃ a H4,x = .ref a/\zf5 H3 a y v H4/\D.nx σ H4
section
variable {X:Cx} {o i e value:Expr} {pos pos' xD:Pos} {td ty tv:TE}
theorem zhq (hu:X.A.units+1 < cLine) (ho:PE X o td) (hi:PE X i ty) (hs:zmw i):PE X (.Subscript o i pos) (zmx td ty):=by
 intro km s σ H Q I h;refine zkB PySem.F.slot_dict_getitem.lookup hs (thn #[Kc] fun u s1 ⟨x,H1,I1,rx,q1⟩=>thn (hi km s1 σ H1 _ I1 q1) fun iv s2 ⟨y,H2,I2,ry,a,v,ex,g,q2⟩=>?_);subst ex;obtain rfl:u=aP a:=rx;exact⟨zf6 I2 g,zie hu I2 g ry fun w' s3 I3 rj=>⟨v,H2,I3,rj,q2⟩⟩
theorem zci (hu:X.A.units+1 < cLine) (ho:PE X o td) (hi:PE X i ty) (hv:PE X value tv) (hs:swapsWith value (some (.Subscript o i pos')) pos.line X.env=pure false) :
  PS X (.Assign [.Subscript o i pos'] value pos) (zmy td ty tv):=by
 intro km s σ H D I h;refine wpAny_Assign_Subscript (thn (hv km s σ H _ I h) fun r s1 ⟨v,H1,I1,rv,q1⟩=>thn (ho km s1 σ H1 _ I1 q1) fun u s2 ⟨x,H2,I2,rx,q2⟩=>thn (hi km s2 σ H2 _ I2 q2) fun iv s3 ⟨y,H3,I3,ry,a,H4,ex,g,q3⟩=>?_) hs;subst ex;obtain rfl:u=aP a:=rx;exact zif hu I3 g ry rv fun s4 I4=>⟨σ,H4,I4,q3⟩
end
theorem zjr (h:Heap) (hb:sysModules < h.objs.size):z6 P w H (h.push { cls:=.type "dict",data:=.dict #[] }) h.objs.size (.dK []) :=
 ⟨bg _,beq_eq_false_iff_ne.mpr (cQ (aS hb)),[],.nil,Heap.DictOf.new h⟩
theorem zjs (h:Heap) (hb:sysModules < h.objs.size):z6 P w H (h.push { cls:=.type "dict",data:=.dict #[] }) h.objs.size (.dT []) :=
 ⟨bg _,beq_eq_false_iff_ne.mpr (cQ (aS hb)),[],.nil,_,#[],0,aC _ rfl,⟨rfl,rfl,rfl⟩,rfl,rfl,List.nodup_nil⟩
noncomputable def zlS:TE:=fun _ H Q=>∀ p,H p=none->Q (.ref p) (kx H p (.dK []))
noncomputable def zlT:TE:=fun _ H Q=>∀ p,H p=none->Q (.ref p) (kx H p (.dT []))
section
variable {X:Cx} {pos:Pos}
theorem zf7:PE X (.Dict [] [] pos) zlS:=fun km s σ H Q I h =>
 wpAny_Dict_empty ⟨.ref s.heap.objs.size,_,I.laid (a:=s.heap.objs.size) (o:=.dK []) (t':=s.toks) #[Mm] (ag _) (zjr s.heap I.big),rfl,h _ #[JE]⟩
theorem zdR:PE X (.Dict [] [] pos) zlT:=fun km s σ H Q I h =>
 wpAny_Dict_empty ⟨.ref s.heap.objs.size,_,I.laid (a:=s.heap.objs.size) (o:=.dT []) (t':=s.toks) #[Mm] (ag _) (zjs s.heap I.big),rfl,h _ #[JE]⟩
end
structure M2 (X:Cx) (o:Expr) (m:Str) (apos:Pos) (e f:Expr) (kY:Pos):Prop where
 base:attributeBase o m X.env #[Md]=eval o X.env
 few:((backTo kY (starEach [e,f] X.env)).all (fun x=>!x.1) && (backToKw kY (keywordEach [] X.env)).all (fun x=>x.1.isSome)
  && decide (([e,f]:List Expr).length+([]:List Keyword).length+(if ([]:List Keyword).isEmpty then 0 else 1) < 30))=true
 line:(apos.endLine == kY.line)=true
 trees:backTo kY (starEach [e,f] X.env) = [#[wS],(false,eval f X.env)]
noncomputable def IsD (H:Hp) (a:Addr):Prop:=(∃ kvs,Rd H a #[Lg])\/∃ kvs,Rd H a #[IL]
theorem zjt {σ:St} {a:Addr} (I:Inv X km σ H s) (d:IsD H a) :
  s.TypeIs #[IT] "dict"/\(∀ b,aP a = .ref b->∃ ob,s.heap.get? b=some ob/\ob.dict=none)/\(a == sysModules)=false:=by
 rcases d with ⟨kvs,e⟩ | ⟨kvs,e⟩
 ·obtain⟨_,hd,vs,_,dd⟩:=zf3 I.hok e;refine⟨dd.typeIs,fun b q=>?_,hd⟩;cases q;obtain⟨ob,_,_,h1,h2,_⟩:=dd;exact⟨ob,h1,h2.2.1⟩
 ·obtain⟨_,hd,xs,_,dd⟩:=zf4 I.hok e;refine⟨dd.typeIs,fun b q=>?_,hd⟩;cases q;obtain⟨ob,_,_,h1,h2,_⟩:=dd;exact⟨ob,h1,h2.2.1⟩
section
variable {X:Cx} {km:List (Addr×Obj)} {σ:St} {H:Hp} {s:Shared} {a:Addr} {y d:V} {u r:Value} {o:Option V} {A:Around} {E:Value->Shared->Prop}
theorem zlU {Q:Value->Shared->Prop} (hu:A.units+1 < cLine) (I:Inv X km σ H s) (g:zds H a y o) (ry:RelV y u) (rd:RelV d r) (h:∀ w' s',Inv X km σ H s'->RelV (o.getD d) w'->Q w' s') :
  wpAny #[li] A (call (.builtin "dict.get") [.ref a,u,r]) Q E s:=by
 rcases g with ⟨kvs,k,e,ey,l⟩ | ⟨kvs,k,b,e,ey,eb,l⟩
 ·subst ey;obtain⟨z,hd,vs,rel,dd⟩:=zf3 I.hok e;refine jd fe dd.typeIs gT (gE _ _ _) (meets_dict_get_default #[Nj] a (zho ry) hd r) ⟨_,dd.mapOf,h _ _ (I.tok _) ?_⟩;rw [l];exact (rel.val k).getD rd
 ·subst ey;cases (show u=aP b from ry);obtain⟨z,hd,xs,rel,dd⟩:=zf4 I.hok e;refine jd fe dd.typeIs gT (gE _ _ _) (meetsH_dict_get_default (tupleKind #[Nj]) a b hd r) ⟨fW hu,k,xs,zfb I.hok eb,dd,h _ _ (I.tok _) ?_⟩;rw [l];exact (rel.val k).getD rd
end
noncomputable def zlV (td ty tx:TE):TE:=fun σ H Q=>td σ H fun x H1=>∃ a,x = .ref a/\IsD H1 a/\ty σ H1 fun y H2=>tx σ H2 fun z H3=>∃ o,zds H3 a y o/\Q (o.getD z) H3
section
variable {X:Cx} {o e f:Expr} {apos kY:Pos} {td ty tx:TE}
theorem zdS (hu:X.A.units+1 < cLine) (ho:PE X o td) (he:PE X e ty) (hf:PE X f tx) (m:M2 X o "get" apos e f kY):PE X (.Call (.Attribute o "get" apos) [e,f] [] kY) (zlV td ty tx):=by
 intro km s σ H Q I h;refine wpAny_Call_method m.base m.few m.line gF fe PySem.F.type_dict_get (thn #[Kc] fun u s1 ⟨x,H1,I1,rx,a,ex,d,q1⟩=>?_);subst ex;obtain rfl:u=aP a:=rx;obtain⟨t1,t2,_⟩:=zjt I1 d;refine⟨t1,t2,?_⟩;rw [m.trees];refine eP rfl (fj (dB (thn (he km s1 σ H1 _ I1 q1) fun iv s2 ⟨y,H2,I2,ry,q2⟩ =>
  dB (thn (hf km s2 σ H2 _ I2 q2) fun fv s3 ⟨z,H3,I3,rz,ov,g,q3⟩=>eK ?_))))
 exact zlU hu I3 g ry rz fun w' s4 I4 rj=>⟨_,H3,I4,rj,q3⟩
end
theorem zf8:∀ {ns:List Int} {us:List Value},zG #[ww] us->∃ ps:List (Int×Tok),us=ps.map (fun p=>fQ p.1 p.2)/\ps.map (·.1)=ns
 | [],_,r=>by cases r; exact⟨[],rfl,rfl⟩
 | n :: ns,_,r=>by
  cases r with
  | cons r1 r2 =>
   obtain⟨ps,e1,e2⟩:=zf8 r2;obtain⟨t,rfl⟩:=r1;exact⟨(n,t) :: ps,by rw [e1]; rfl,by rw [<- e2]; rfl⟩
theorem zcj {X:Cx} (hc:X.calm=true):za8 X (.builtin "sum") (fun xs H Q=>∃ (p:Addr) (ns:List Int),xs = [.ref p]/\kr X.K H p #[ww]/\Q (.int ns.sum) H):=by
 intro km s σ H xs us Q I r h;obtain⟨p,ns,rfl,hq,q⟩:=h;obtain⟨u,rfl,rx⟩:=vals1 r;cases rx;obtain⟨kq,rv,pl,hz⟩:=I.list hq;obtain⟨ps,e1,e2⟩:=zf8 rv;subst e1 e2;have hl:s.heap.IsList p (intItems ps.toArray):=by
  have:=pl.isList;simpa [intItems] using this
 refine sum_intListG (xs:=ps.toArray) (by simp [I.ok.hd hc]) hl fun h' tk t' kk=>⟨.int (ps.map (·.1)).sum,H,I.kept kk,⟨t',?_⟩,q⟩
 rw [preSum_eq,aV #[M]]
end L2
namespace PySem
open PyProof.Rows
end PySem
namespace L2
open PySem PySem.Spec PyProof.Rows
variable {ns:List Int} {us:List Value}
theorem zkC:∀ {kvs:List (Key×V)} {vs:List (Key×Value)} {ns:List Int},KV kvs vs->kvs.map (·.2)=ns.map V.int->IntsAre (vs.map (·.2)) ns:=by
 intro kvs vs ns r e;refine intsAre_of ?_;rw [<- e];clear e;induction r with
 | nil=>exact .nil
 | cons h1 h2 ih=>exact .cons h1.2 ih
theorem zfc (h:IntsAre us ns):zG #[ww] us:=by
 induction h with
 | nil=>exact .nil
 | cons ih=>exact .cons ⟨_,rfl⟩ (by assumption)
end L2
namespace My
open PySem L2 PyProof.Rows
end My
end
section
namespace Srt
open PySem PyProof.Rows
variable {arr a₀:Array Keyed} {j kD:Nat} {st₀:SortSt}
noncomputable def Vk (val:Keyed->Int) (xs:Array Keyed) (i:Nat):Int:=match xs[i]? with
 | some p=>val p
 | none=>0
theorem zah {val:Keyed->Int} {xs ys:Array Keyed} {i:Nat} (h:xs[i]? = ys[j]?):Vk val xs i=Vk val ys j:=by unfold Vk; rw [h]
theorem zV {val:Keyed->Int} {xs:Array Keyed} {i:Nat} {p:Keyed} (h:xs[i]? = some p):Vk val xs i=val p:=by unfold Vk; rw [h]
noncomputable def SIn (val:Keyed->Int) (xs:Array Keyed) (lo hi:Nat):Prop:=∀ i j,lo<=i->i<=j->j < hi->Vk val xs i<=Vk val xs j
noncomputable def DIn (val:Keyed->Int) (xs:Array Keyed) (lo hi:Nat):Prop:=∀ i j,lo<=i->i<=j->j < hi->Vk val xs j<=Vk val xs i
structure SB (κ:SortKind) (a₀:Array Keyed) (st:SortSt):Prop where
 perm:#[py].Perm a₀
 kind:kindOf st=κ
 failed:failedOf st=none
theorem SB.size {κ:SortKind} {st:SortSt} (h:SB κ a₀ st):#[py].size=a₀.size:=h.perm.size_eq
theorem SB.mem {κ:SortKind} {st:SortSt} (h:SB κ a₀ st) {i:Nat} (hi:i < a₀.size):∃ p,#[py][i]? = some p/\p∈a₀.toList:=by
 (have mJ:i < #[py].size:=by rw [h.size]; exact hi)
 exact⟨#[py][i],getElem?_pos _ i mJ,(d7.mp h.perm).mem_iff.mp #[M]⟩
structure SF (κ:SortKind) (a₀:Array Keyed) (lo:Nat) (st₀ st:SortSt):Prop where
 b:SB κ a₀ st
 low:∀ k,k < lo->#[py][k]? = (arrOf st₀)[k]?
 pend:pendingOf st=pendingOf st₀
theorem SF.refl {κ:SortKind} {lo:Nat} {st:SortSt} (h:SB κ a₀ st):SF κ a₀ lo st st:=⟨h,fun _ _=>rfl,rfl⟩
theorem SF.setArr {κ:SortKind} {a₀:Array Keyed} {lo:Nat} {st₀ st:SortSt} (h:SF κ a₀ lo st₀ st) {xs:Array Keyed} (hp:xs.Perm #[py]) (hl:∀ k,k < lo->xs[k]? = #[py][k]?):SF κ a₀ lo st₀ (setArr st xs) :=
 ⟨⟨hp.trans h.b.perm,h.b.kind,h.b.failed⟩,fun k hk=>(hl k hk).trans (h.low k hk),h.pend⟩
section
variable {prog:Program} {w:World} {A:Around} {E:Value->Shared->Prop} {s:Shared} {a₀:Array Keyed} {κ:SortKind} {val:Keyed->Int}
noncomputable def Cmp (prog:Program) (w:World) (A:Around) (s:Shared) (κ:SortKind) (val:Keyed->Int) (a₀:Array Keyed):Prop :=
 ∀ x y,x∈a₀.toList->y∈a₀.toList->∀ (Q:Bool->Shared->Prop) (E:Value->Shared->Prop),Q (decide (val x < val y)) s->wpAny #[or] A (keyLt' κ x.1 y.1) Q E s
theorem zju {st:SortSt} {x y:Keyed} {Q:Option Bool->SortSt->Prop} (hC:Cmp prog w A s κ val a₀) (hk:kindOf st=κ) (hx:x∈a₀.toList) (hy:y∈a₀.toList) (h:Q (some (decide (val x < val y))) st) :
  wpS #[or] A E s (lt' x y) Q st:=by
 rw [lt'_eq];refine am (eF ?_);rw [hk];refine am (fK (dg (hC x y hx hy _ _ ⟨rfl,?_⟩)));exact ap h
theorem zN {st:SortSt} {i:Nat} {p:Keyed} {Q:Keyed->SortSt->Prop} (hi:arr[i]? = some p) (h:Q p st):wpS #[or] A E s (elem' arr i) Q st:=by
 rw [elem'_eq,hi];exact ap h
theorem zdT {st:SortSt} {i:Nat} {Q:Option Bool->SortSt->Prop} (hC:Cmp prog w A s κ val a₀) (hB:SB κ a₀ st) (hi:i < a₀.size) (hj:j < a₀.size) (h:Q (some (decide (Vk val #[py] i < Vk val #[py] j))) st) :
  (wpS #[or] A E s (ltAt' i j) Q st):=by
 obtain⟨x,ex,mx⟩:=hB.mem hi;obtain⟨y,ey,my⟩:=hB.mem hj;rw [ltAt'_eq];refine am (eF ?_)
 (show wpS _ _ _ _ (do let x <- elem' #[py] i; let y <- elem' #[py] j; lt' x y) Q st)
 refine am (zN ex (am (zN ey (zju hC hB.kind mx my ?_))));rw [zV ex,zV ey] at h;exact h
theorem zhr {st:SortSt} {i:Nat} {Q:Unit->SortSt->Prop} (h:Q () (setArr st (mirror #[py] i j ((j - i) / 2)))) :
  (wpS #[or] A E s (reverseSlice' i j) Q st):=by
 ((rw [reverseSlice'_eq]; exact dY h))
theorem zdU {xs:Array Keyed} {i:Nat} (hj:j<=xs.size) (k:Nat):Vk val (mirror xs i j ((j - i) / 2)) k=if i<=k/\k < j then Vk val xs (i+j - 1 - k) else Vk val xs k:=by
 (have e:=iL (i:=i) hj k)
 by_cases h1:i<=k/\k < j
 ·rw [if_pos h1] at e |-; exact zah e
 ·rw [if_neg h1] at e |-; exact zah e
theorem zba {xs:Array Keyed} {i:Nat} (hj:j<=xs.size) (heq:∀ k,i<=k->k < j->Vk val xs k=Vk val xs (j - 1)) (k:Nat):Vk val (mirror xs i j ((j - i) / 2)) k=Vk val xs k:=by
 rw [zdU hj];split
 ·(rw [heq _ #[O] #[O],heq k #[O] #[O]])
 ·rfl
theorem zbS {xs:Array Keyed} {lo i:Nat} (hj:j<=xs.size) (hi:lo<=i):∀ k,k < lo->(mirror xs i j ((j - i) / 2))[k]? = xs[k]?:=fun k hk=>by
 rw [iL hj,if_neg #[O]]
theorem zgX {xs:Array Keyed} {lo src d:Nat} (hs:src < xs.size) (hd:d<=src) (hl:lo<=src - d):∀ k,k < lo->(bubble xs src d)[k]? = xs[k]?:=fun k hk=>by
 rw [getElem?_bubble hs d hd,if_neg #[O],if_neg #[O]]
noncomputable def zjv (lo a kD:Nat):StateT SortSt Sem AscSt :=
 forIn [a:kD] ((none,a):AscSt) fun _ st=>do
  let x <- ltAt' (lo+st.snd) (lo+st.snd - 1)
  match x with
  | some o3=>if o3=true then pure (eG (none,st.snd)) else pure (cb (none,st.snd+1))
  | _=>pure (eG (some none,st.snd))
noncomputable def zf9 (lo n kD:Nat):StateT SortSt Sem #[FM]:=do
 reverseSlice' lo (lo+n)
 let st <- zjv lo n kD
 match st.fst with
 | some r=>pure r
 | none=>pure (some st.snd)
noncomputable def zhs (lo n kD:Nat):StateT SortSt Sem DescSt :=
 forIn [n:kD] ((none,n,0):DescSt) fun _ st=>do
  let x <- ltAt' #[L3] (lo+st.snd.fst - 1)
  match x with
  | some o3 =>
   if o3=true then
    if st.snd.snd > 0 then do
     reverseSlice' (lo+st.snd.fst - (st.snd.snd+1)) #[L3]
     pure (cb (none,st.snd.fst+1,0))
    else pure (cb (none,st.snd.fst+1,0))
   else do
    let x <- ltAt' (lo+st.snd.fst - 1) #[L3]
    match x with
    | some vI =>
     if vI=true then pure (eG (none,st.snd.fst,st.snd.snd))
     else pure (cb (none,st.snd.fst+1,st.snd.snd+1))
    | _=>pure #[LW]
  | _=>pure #[LW]
noncomputable def zga (lo n kD:Nat):StateT SortSt Sem #[FM]:=do
 liftM (rule "list.sort.descending-run"); let st <- zhs lo (n+1) kD
 match st.fst with
 | some r=>pure r
 | none =>
  if st.snd.snd > 0 then do
   reverseSlice' (lo+st.snd.fst - (st.snd.snd+1)) #[L3]
   zf9 lo st.snd.fst kD
  else zf9 lo st.snd.fst kD
theorem zfd (lo kD:Nat):countRun' lo kD=(do
  let st <- zjv lo 1 kD
  match st.fst with
  | some r=>pure r
  | none =>
   if (st.snd == kD)=true then pure (some st.snd)
   else if st.snd > 1 then do
    let x <- ltAt' lo (lo+st.snd - 1)
    match x with
    | some xI=>if xI=true then pure (some st.snd) else do
      reverseSlice' lo (lo+st.snd)
      zga lo st.snd kD
    | _=>pure none
   else zga lo st.snd kD):=by
 rw [countRun'_eq];unfold zga zf9 zhs zjv;dsimp only;refine congrArg (bind _) ?_;funext c;obtain⟨r,n⟩:=c;cases r with
 | some r=>rfl
 | none =>
  dsimp only;split
  ·rfl
  ·split
   ·congr 1;funext x;cases x with
    | none=>rfl
    | some xI =>
     dsimp only;split
     ·rfl
     ·congr 1;funext _r;congr 1; funext _u; congr 1; congr 1; funext s2; obtain⟨r2,n2,q2⟩:=s2;cases r2 with
      | some r2=>rfl
      | none =>
       dsimp only;split
       ·congr 1; funext _v; congr 1; funext _w; congr 1; funext s3; obtain⟨r3,n3⟩:=s3; cases r3 <;> rfl
       ·congr 1; funext _w; congr 1; funext s3; obtain⟨r3,n3⟩:=s3; cases r3 <;> rfl
   ·congr 1; funext _u; congr 1; congr 1; funext s2; obtain⟨r2,n2,q2⟩:=s2;cases r2 with
    | some r2=>rfl
    | none =>
     dsimp only;split
     ·congr 1; funext _v; congr 1; funext _w; congr 1; funext s3; obtain⟨r3,n3⟩:=s3; cases r3 <;> rfl
     ·congr 1; funext _w; congr 1; funext s3; obtain⟨r3,n3⟩:=s3; cases r3 <;> rfl
theorem zld {st:SortSt} {lo a:Nat} {Q:AscSt->SortSt->Prop} (hC:Cmp prog w A s κ val a₀) (hn:lo+kD<=a₀.size) (ha:1<=a) (han:a<=kD) (hB:SF κ a₀ lo st₀ st)
  (hs:SIn val #[py] lo (lo+a))
  (h:∀ n,a<=n->n<=kD->SIn val #[py] lo (lo+n)->(n=kD\/Vk val #[py] (lo+n) < Vk val #[py] (lo+n - 1))->Q (none,n) st) :
  wpS #[or] A E s (zjv lo a kD) Q st:=by
 unfold zjv;refine ck (I:=fun x c ku=>ku=st/\c=(none,x)/\SIn val #[py] lo (lo+x)) ?step ?fin ⟨rfl,rfl,hs⟩
 case fin =>
  rintro c ku ⟨rfl,rfl,mT⟩
  (rw [show max a kD=kD by lia] at mT |-)
  (exact h kD han (ag _) mT #[IW])
 case step =>
  (rintro x c ku Bz Aq ⟨rfl,rfl,mT⟩)
  dsimp only;refine am (zdT hC hB.b #[O] #[O] ?_);by_cases lN:Vk val #[wp] (lo+x) < Vk val #[wp] (lo+x - 1)
  ·(simp only [lN,decide_true,if_true])
   (exact ap (h x Bz #[O] mT (.inr lN)))
  ·(simp only [lN,decide_false,bp,if_false])
   refine ap ⟨rfl,rfl,fun i j pS oO hj=>?_⟩;by_cases xJ:j < lo+x
   ·exact mT i j pS oO xJ
   ·have pG:j=lo+x:=by lia
    subst pG;by_cases mJ:i=lo+x
    ·(subst mJ; exact bH _)
    ·exact bu (mT i (lo+x - 1) pS #[O] #[O]) (Int.not_lt.mp lN)
theorem zjw {st:SortSt} {lo n:Nat} {Q:Option Nat->SortSt->Prop} (hC:Cmp prog w A s κ val a₀) (hn:lo+kD<=a₀.size) (h1:1<=n) (qz:n<=kD) (hB:SF κ a₀ lo st₀ st)
  (hs:DIn val #[py] lo (lo+n)) (h:∀ m ku,SF κ a₀ lo st₀ ku->1<=m->m<=kD->SIn val #[wp] lo (lo+m)->Q (some m) ku) :
  wpS #[or] A E s (zf9 lo n kD) Q st:=by
 unfold zf9;have hsz:lo+n<=#[py].size:=by rw [hB.b.size]; lia
 refine am (zhr ?_);have mK:=hB.setArr (gU #[py] lo (lo+n) ((lo+n - lo) / 2)) (zbS hsz (ag _));refine am (zld hC hn h1 qz mK ?_ fun m tY sP BA _=>ap (h m _ mK #[O] sP BA));intro i j pS oO hj;show Vk val (mirror #[py] lo (lo+n) ((lo+n - lo) / 2)) i<=Vk val (mirror #[py] lo (lo+n) ((lo+n - lo) / 2)) j;rw [zdU hsz,zdU hsz,if_pos #[O],if_pos #[O]];exact hs _ _ #[O] #[O] #[O]
theorem zlW {st:SortSt} {lo n:Nat} {Q:DescSt->SortSt->Prop} (hC:Cmp prog w A s κ val a₀) (hn:lo+kD<=a₀.size) (h1:1<=n) (qz:n<=kD) (hB:SF κ a₀ lo st₀ st)
  (hs:DIn val #[py] lo (lo+n))
  (h:∀ m qA ku,SF κ a₀ lo st₀ ku->n<=m->m<=kD->DIn val #[wp] lo (lo+m)->qA+1<=m->(∀ i,lo+m - (qA+1)<=i->i < lo+m->Vk val #[wp] i=Vk val #[wp] (lo+m - 1))->Q (none,m,qA) ku) :
  wpS #[or] A E s (zhs lo n kD) Q st:=by
 unfold zhs;refine ck (I:=fun x c ku=>∃ qA,c=(none,x,qA)/\SF κ a₀ lo st₀ ku/\DIn val #[wp] lo (lo+x)/\qA+1<=x /\
   (∀ i,lo+x - (qA+1)<=i->i < lo+x->Vk val #[wp] i=Vk val #[wp] (lo+x - 1))) ?step ?fin ⟨0,rfl,hB,hs,#[O],fun i h1 h2=>by congr 1; lia⟩
 case fin =>
  (rintro c ku ⟨qA,rfl,mK,mT,hq,he⟩)
  (rw [show max n kD=kD by lia] at mT hq he |-)
  (exact h kD qA ku mK qz (ag _) mT hq he)
 case step =>
  (rintro x c ku Bz Aq ⟨qA,rfl,mK,mT,hq,he⟩)
  dsimp only;have hsz:lo+x<=#[wp].size:=by rw [mK.b.size]; lia
  refine am (zdT hC mK.b #[O] #[O] ?_);by_cases lN:Vk val #[wp] (lo+x) < Vk val #[wp] (lo+x - 1)
  ·(simp only [lN,decide_true,if_true])
   have step1:∀ xs:Array Keyed,(∀ k,Vk val xs k=Vk val #[wp] k)->DIn val xs lo (lo+(x+1)):=by
    intro xs hk i j pS oO hj;rw [hk,hk];by_cases xJ:j < lo+x
    ·exact mT i j pS oO xJ
    ·have pG:j=lo+x:=by lia
     subst pG;by_cases mJ:i=lo+x
     ·(subst mJ; exact bH _)
     ·exact bu (dO lN) (mT i (lo+x - 1) pS #[O] #[O])
   by_cases sQ:qA > 0
   ·rw [if_pos sQ];refine am (zhr (ap ⟨0,rfl,mK.setArr (gU _ _ _ _) (zbS hsz #[O]),step1 _ (zba hsz he),#[O],fun i h1 h2=>by congr 1; lia⟩))
   ·rw [if_neg sQ]
    (exact ap ⟨0,rfl,mK,step1 _ #[MD],#[O],fun i h1 h2=>by congr 1; lia⟩)
  ·(simp only [lN,decide_false,bp,if_false])
   refine am (zdT hC mK.b #[O] #[O] ?_);by_cases qP:Vk val #[wp] (lo+x - 1) < Vk val #[wp] (lo+x)
   ·(simp only [qP,decide_true,if_true])
    (exact ap (h x qA ku mK Bz #[O] mT hq he))
   ·(simp only [qP,decide_false,bp,if_false])
    have xK:Vk val #[wp] (lo+x)=Vk val #[wp] (lo+x - 1):=by lia
    refine ap ⟨qA+1,rfl,mK,fun i j pS oO hj=>?_,#[O],fun i h1 h2=>?_⟩
    ·by_cases xJ:j < lo+x
     ·exact mT i j pS oO xJ
     ·have pG:j=lo+x:=by lia
      subst pG;by_cases mJ:i=lo+x
      ·(subst mJ; exact bH _)
      ·rw [xK]; exact mT i (lo+x - 1) pS #[O] #[O]
    ·rw [show lo+(x+1) - 1=lo+x by lia];by_cases hix:i=lo+x
     ·subst hix; rfl
     ·(rw [xK]; exact he i #[O] #[O])
theorem zht {st:SortSt} {lo n:Nat} {Q:Option Nat->SortSt->Prop} (hC:Cmp prog w A s κ val a₀) (hn:lo+kD<=a₀.size) (qz:n+1<=kD) (hB:SF κ a₀ lo st₀ st)
  (hs:DIn val #[py] lo (lo+(n+1))) (h:∀ m ku,SF κ a₀ lo st₀ ku->1<=m->m<=kD->SIn val #[wp] lo (lo+m)->Q (some m) ku) :
  wpS #[or] A E s (zga lo n kD) Q st:=by
 unfold zga
 (refine am #[IY])
 refine am (zlW hC hn #[O] qz hB hs fun m qA ku mK tY sP mT hq he=>?_);dsimp only;have hsz:lo+m<=#[wp].size:=by rw [mK.b.size]; lia
 by_cases sQ:qA > 0
 ·rw [if_pos sQ];refine am (zhr (zjw hC hn #[O] sP (mK.setArr (gU _ _ _ _) (zbS hsz #[O])) ?_ h));intro i j pS oO hj;show Vk val (mirror #[wp] _ _ _) j<=Vk val (mirror #[wp] _ _ _) i;rw [zba hsz he,zba hsz he];exact mT i j pS oO hj
 ·rw [if_neg sQ];exact zjw hC hn #[O] sP mK mT h
theorem zkD {st:SortSt} {lo:Nat} {Q:Option Nat->SortSt->Prop} (hC:Cmp prog w A s κ val a₀) (hn:lo+kD<=a₀.size) (h1:1<=kD) (hB:SF κ a₀ lo st₀ st)
  (h:∀ m ku,SF κ a₀ lo st₀ ku->1<=m->m<=kD->SIn val #[wp] lo (lo+m)->Q (some m) ku) :
  wpS #[or] A E s (countRun' lo kD) Q st:=by
 rw [zfd];refine am (zld hC hn (ag 1) h1 hB (fun i j pS oO hj=>(by
   have e:i=j:=by lia
   rw [e];exact bH _)) fun n sx sy tZ BB=>?_)
 dsimp only;by_cases qz:n=kD
 ·(rw [if_pos (by simpa using qz)])
  (exact ap (h n st hB sx sy tZ))
 ·(rw [if_neg (by simpa using qz)])
  have kU:Vk val #[py] (lo+n) < Vk val #[py] (lo+n - 1):=BB.resolve_left qz;by_cases hgt:n > 1
  ·rw [if_pos hgt];refine am (zdT hC hB.b #[O] #[O] ?_);by_cases uY:Vk val #[py] lo < Vk val #[py] (lo+n - 1)
   ·(simp only [uY,decide_true,if_true])
    (exact ap (h n st hB sx sy tZ))
   ·(simp only [uY,decide_false,bp,if_false])
    have hsz:lo+n<=#[py].size:=by rw [hB.b.size]; lia
    have l9:∀ k,lo<=k->k < lo+n->Vk val #[py] k=Vk val #[py] (lo+n - 1):=by
     intro k sC hk;have a1:=tZ lo k (ag _) sC hk;have a2:=tZ k (lo+n - 1) sC #[O] #[O];lia
    refine am (zhr (zht hC hn #[O] (hB.setArr (gU _ _ _ _) (zbS hsz (ag _))) ?_ h));intro i j pS oO hj;show Vk val (mirror #[py] _ _ _) j<=Vk val (mirror #[py] _ _ _) i;rw [zba hsz l9,zba hsz l9];by_cases hjn:j < lo+n
    ·(rw [l9 i #[O] #[O],l9 j #[O] hjn]; exact bH _)
    ·have pG:j=lo+n:=by lia
     subst pG;by_cases mJ:i=lo+n
     ·(subst mJ; exact bH _)
     ·(rw [l9 i #[O] #[O]]; exact dO kU)
  ·rw [if_neg hgt];have BC:n=1:=by lia
   subst BC;refine zht hC hn #[O] hB ?_ h;intro i j pS oO hj;by_cases mJ:i=j
   ·(subst mJ; exact bH _)
   ·have hi0:i=lo:=by lia
    have vJ:j=lo+1:=by lia
    subst hi0; subst vJ;exact dO kU
theorem zgb {xs:Array Keyed} {src d:Nat} (hs:src < xs.size) (hd:d<=src) (k:Nat) :
  Vk val (bubble xs src d) k=if k=src - d then Vk val xs src else if src - d < k/\k<=src then Vk val xs (k - 1) else Vk val xs k:=by
 (have e:=getElem?_bubble hs d hd k)
 by_cases h1:k=src - d
 ·rw [if_pos h1] at e |-; exact zah e
 ·rw [if_neg h1] at e |-
  (by_cases h2:src - d < k/\k<=src)
  ·rw [if_pos h2] at e |-; exact zah e
  ·rw [if_neg h2] at e |-; exact zah e
theorem zmz {st:SortSt} {lo n ok:Nat} {Q:Bool->SortSt->Prop} (hC:Cmp prog w A s κ val a₀) (hn:lo+n<=a₀.size) (hok:ok<=n) (hB:SF κ a₀ lo st₀ st) (hs:SIn val #[py] lo (lo+ok))
  (h:∀ ku,SF κ a₀ lo st₀ ku->SIn val #[wp] lo (lo+n)->Q true ku):wpS #[or] A E s (binarySort' lo n ok) Q st:=by
 rw [binarySort'_eq];refine am (cY (ck (I:=fun k c ku=>c=(none,())/\SF κ a₀ lo st₀ ku/\SIn val #[wp] lo (lo+min k n))
  (Q:=fun c ku=>c=(none,())/\SF κ a₀ lo st₀ ku/\SIn val #[wp] lo (lo+n)) ?step ?fin ?init) ?post)
 case post =>
  rintro c ku ⟨rfl,mK,mT⟩
  (exact ap (h ku mK mT))
 case init =>
  refine⟨rfl,hB,fun i j pS oO hj=>?_⟩;by_cases h1:ok=0
  ·have e:i=j:=by lia
   rw [e]; exact bH _
  ·exact hs i j pS oO #[O]
 case fin =>
  rintro c ku ⟨hc,mK,mT⟩;refine⟨hc,mK,?_⟩
  (rwa [show min (max (max ok 1) n) n=n by lia] at mT)
 case step =>
  (rintro k c ku hak Ar ⟨rfl,mK,mT⟩)
  (rw [show min k n=k by lia] at mT)
  have hk:lo+k < a₀.size:=#[O]; refine am (cY (ck (I:=fun x c md=>md=ku/\∃ l r,c=(none,l,r)/\l<=r/\r<=k/\r - l<=k - x /\
    (∀ i,i < l->Vk val #[wp] (lo+i)<=Vk val #[wp] (lo+k))/\(∀ i,r<=i->i < k->Vk val #[wp] (lo+k) < Vk val #[wp] (lo+i)))
   (Q:=fun c md=>md=ku/\∃ l r,c=(none,l,r)/\l<=k/\(∀ i,i < l->Vk val #[wp] (lo+i)<=Vk val #[wp] (lo+k))/\(∀ i,l<=i->i < k->Vk val #[wp] (lo+k) < Vk val #[wp] (lo+i))) ?istep ?ifin ?iinit) ?ipost)
  case iinit=>(exact⟨rfl,0,k,rfl,#[O],#[O],#[O],fun i hi=>by lia,fun i h1 h2=>by lia⟩)
  case ifin =>
   (rintro c md ⟨rfl,l,r,rfl,wV,BD,hm,nR,uu⟩)
   have:l=r:=by lia
   subst this
   (exact⟨rfl,l,l,rfl,BD,nR,uu⟩)
  case istep =>
   (rintro x c md _ hxk ⟨rfl,l,r,rfl,wV,BD,hm,nR,uu⟩)
   dsimp only;by_cases nS:l>=r
   ·rw [if_pos nS];have:l=r:=by lia
    subst this
    (exact ap ⟨rfl,l,l,rfl,BD,nR,uu⟩)
   ·rw [if_neg nS];refine am (zdT hC mK.b hk #[O] ?_);by_cases lN:Vk val #[K4] (lo+k) < Vk val #[K4] (lo+(l+r) / 2)
    ·(simp only [lN,decide_true,if_true])
     (refine ap ⟨rfl,l,(l+r) / 2,rfl,#[O],#[O],#[O],nR,fun i h1 h2=>?_⟩)
     exact Int.lt_of_lt_of_le lN (mT _ _ #[O] #[O] #[O])
    ·(simp only [lN,decide_false,bp,if_false])
     (refine ap ⟨rfl,(l+r) / 2+1,r,rfl,#[O],#[O],#[O],fun i h1=>?_,uu⟩)
     exact bu (mT (lo+i) (lo+(l+r) / 2) #[O] #[O] #[O]) (Int.not_lt.mp lN)
  case ipost =>
   (rintro c md ⟨rfl,l,r,rfl,hlk,nR,uu⟩)
   show wpS _ _ _ _ (do moveDown' (lo+k) (lo+l); pure (cb (none,()))) _ _;rw [moveDown'_eq];have BE:lo+k < #[K4].size:=by rw [mK.b.size]; exact hk
   refine am (dY (ap ⟨rfl,mK.setArr (bubble_perm _ _ _) (zgX BE #[O] #[O]),?_⟩))
   (rw [show min (k+1) n=k+1 by lia])
   intro i j pS oO hj;show Vk val (bubble #[K4] (lo+k) (lo+k - (lo+l))) i<=Vk val (bubble #[K4] (lo+k) (lo+k - (lo+l))) j;rw [zgb BE #[O],zgb BE #[O],show lo+k - (lo+k - (lo+l))=lo+l by lia];have BF:∀ i,lo<=i->i < lo+l->Vk val #[K4] i<=Vk val #[K4] (lo+k):=fun i h1 h2=>by
    have:=nR (i - lo) #[O]
    rwa [show lo+(i - lo)=i by lia] at this
   have BG:∀ i,lo+l<=i->i < lo+k->Vk val #[K4] (lo+k) < Vk val #[K4] i:=fun i h1 h2=>by
    have:=uu (i - lo) #[O] #[O]
    rwa [show lo+(i - lo)=i by lia] at this
   repeat' split
   all_goals first
    | (exfalso; lia)
    | exact bH _
    | exact BF _ #[O] #[O]
    | exact dO (BG _ #[O] #[O])
    | exact mT _ _ #[O] #[O] #[O]
end
end Srt
end
section
namespace Srt
open PySem PyProof.Rows
variable {A:Around} {M:Model} {arr:Array Keyed} {j:Nat} {key:Keyed} {s:Shared}
noncomputable def zkE:Bool->Keyed->Array Keyed->Nat->Nat->Nat->StateT SortSt Sem #[FM]:=sortPriv% PySem.Builtin.gallop
noncomputable def zjx:Array Keyed->Array Keyed->StateT SortSt Sem (Array Keyed):=sortPriv% PySem.Builtin.mergeLo
noncomputable def zjy:Array Keyed->Array Keyed->StateT SortSt Sem (Array Keyed):=sortPriv% PySem.Builtin.mergeHi
noncomputable def zcw:Nat->StateT SortSt Sem Unit:=sortPriv% PySem.Builtin.setMinGallop
theorem zfe {E:Value->Shared->Prop} {α:Type} {m:StateT SortSt Sem α} {Q:α->SortSt->Prop} {st:SortSt} (h:wpAny M A (m st) (fun r s'=>s'=s/\Q r.1 r.2) E s):wpS M A E s m Q st:=h
theorem zff {E:Value->Shared->Prop} {α:Type} {m:StateT SortSt Sem α} {Q:α->SortSt->Prop} {st:SortSt} (h:wpS M A E s m Q st):wpAny M A (m st) (fun r s'=>s'=s/\Q r.1 r.2) E s:=h
section
variable {prog:Program} {w:World} {A:Around} {E:Value->Shared->Prop} {s:Shared} {a₀:Array Keyed} {κ:SortKind} {val:Keyed->Int}
noncomputable def bB (val:Keyed->Int) (left:Bool) (key:Keyed) (arr:Array Keyed) (base i:Nat):Bool:=if left then decide (Vk val arr (base+i) < val key) else !decide (val key < Vk val arr (base+i))
theorem zcP {left:Bool} {base n i:Nat} (hs:SIn val arr base (base+n)) (oO:i<=j) (hj:j < n) (h:bB val left key arr base j=true):bB val left key arr base i=true:=by
 have:=hs (base+i) (base+j) #[O] #[O] #[O];unfold bB at h |-;cases left <;> simp at h |- <;> lia
theorem zb5 {st:SortSt} {left:Bool} {base i:Nat} {Q:Option Bool->SortSt->Prop} {p:Keyed} (hC:Cmp prog w A s κ val a₀) (hk:kindOf st=κ) (nh:key∈a₀.toList) (he:arr[base+i]? = some p) (hp:p∈a₀.toList)
  (h:Q (some (bB val left key arr base i)) st):wpS #[or] A E s (do
   let x <- elem' arr (base+i)
   if left then lt' x key else do
    let r <- lt' key x
    return r.map (!·)) Q st:=by
 refine am (zN he ?_);unfold bB at h;rw [zV he] at h;cases left with
 | true=>exact zju hC hk hp nh h
 | false=>exact am (zju hC hk nh hp (ap h))
abbrev zkF:=Option #[FM]×Nat×Nat
theorem zjz {st:SortSt} {left:Bool} {base n lo hi:Nat} {f:Nat->zkF->StateT SortSt Sem (ForInStep zkF)} (hs:SIn val arr base (base+n)) (hlh:lo<=hi) (BH:hi<=n)
  (h1:∀ i,i < lo->bB val left key arr base i=true) (h2:∀ i,hi<=i->i < n->bB val left key arr base i=false)
  (hf:∀ (x l r:Nat) (R:ForInStep zkF->SortSt->Prop),r<=n->(l>=r->R (.done (none,l,r)) st)->(l < r->R (if bB val left key arr base (l+(r - l) / 2)=true then .yield (none,l+(r - l) / 2+1,r) else .yield (none,l,l+(r - l) / 2)) st)->wpS #[or] A E s (f x (none,l,r)) R st) :
  wpS #[or] A E s (forIn [0:n] ((none,lo,hi):zkF) f) (fun c ku=>ku=st/\∃ l,c=(none,l,l)/\l<=n/\(∀ i,i < l->bB val left key arr base i=true)/\(∀ i,l<=i->i < n->bB val left key arr base i=false)) st:=by
 refine ck (I:=fun x c ku=>ku=st/\∃ l r,c=(none,l,r)/\l<=r/\r<=n/\r - l<=n - x/\(∀ i,i < l->bB val left key arr base i=true)/\(∀ i,r<=i->i < n->bB val left key arr base i=false)) ?step ?fin ⟨rfl,lo,hi,rfl,hlh,BH,#[O],h1,h2⟩
 case fin =>
  rintro c ku ⟨rfl,l,r,rfl,wV,vK,hm,a1,a2⟩;have:l=r:=by lia
  subst this;exact⟨rfl,l,rfl,vK,a1,a2⟩
 case step =>
  rintro x c ku _ Aq ⟨rfl,l,r,rfl,wV,vK,hm,a1,a2⟩;refine hf x l r _ vK (fun nS=>?_) (fun kU=>?_)
  ·have:l=r:=by lia
   subst this;exact⟨rfl,l,rfl,vK,a1,a2⟩
  ·cases hb:bB val left key arr base (l+(r - l) / 2) with
   | true =>
    rw [if_pos rfl];exact⟨rfl,l+(r - l) / 2+1,r,rfl,#[O],vK,#[O],fun i hi=>zcP hs #[O] #[O] hb,a2⟩
   | false =>
    rw [if_neg #[D]];refine⟨rfl,l,l+(r - l) / 2,rfl,#[O],#[O],#[O],a1,fun i hi oD=>?_⟩;cases e:bB val left key arr base i with
    | false=>rfl
    | true=>rw [zcP hs hi oD e] at hb; cases hb
theorem zbb {st:SortSt} {left:Bool} {base n hint:Nat} {Q:Option Nat->SortSt->Prop} (hC:Cmp prog w A s κ val a₀) (hk:kindOf st=κ) (nh:key∈a₀.toList)
  (ha:∀ i,i < n->∃ p,arr[base+i]? = some p/\p∈a₀.toList) (hs:SIn val arr base (base+n)) (hh:hint < n)
  (h:∀ k,k<=n->(∀ i,i < k->bB val left key arr base i=true)->(∀ i,k<=i->i < n->bB val left key arr base i=false)->Q (some k) st) :
  wpS #[or] A E s (zkE left key arr base n hint) Q st:=by
 refine zfe ?_
 wp_delta
 wp_delta
 refine zff ?_;dsimp only;obtain⟨p,ep,mp⟩:=ha hint hh;refine am #[Jg];dsimp only;have up:∀ {i j:Nat},i<=j->j < n->bB val left key arr base i=false->bB val left key arr base j=false:=fun {i j} oO hj h=>by
  cases e:bB val left key arr base j with
  | false=>rfl
  | true=>rw [zcP hs oO hj e] at h; cases h
 cases hr:bB val left key arr base hint with
 | true =>
  simp only [if_true];refine am (cY (ck (I:=fun x c ku=>ku=st/\∃ l o,c=(none,l,o)/\l < o/\x+1<=o/\hint+l < n/\bB val left key arr base (hint+l)=true)
   (Q:=fun c ku=>ku=st/\∃ l o,c=(none,l,o)/\l < o/\hint+l < n/\bB val left key arr base (hint+l)=true/\(hint+o < n->bB val left key arr base (hint+o)=false)) ?step ?fin ⟨rfl,0,1,rfl,#[O],#[O],hh,hr⟩) ?post)
  case fin =>
   rintro c ku ⟨rfl,l,o,rfl,nR,hx,hl,hb⟩;exact⟨rfl,l,o,rfl,nR,hl,hb,fun z=>by lia⟩
  case step =>
   rintro x c ku _ Aq ⟨rfl,l,o,rfl,nR,hx,hl,hb⟩;dsimp only;by_cases nS:o>=n - hint
   ·rw [if_pos nS];exact ap ⟨rfl,l,o,rfl,nR,hl,hb,fun z=>by lia⟩
   ·rw [if_neg nS];obtain⟨p,ep,mp⟩:=ha (hint+o) #[O];refine am #[Jg];dsimp only;cases qQ:bB val left key arr base (hint+o) with
    | true =>
     rw [if_neg #[D]];exact ap ⟨rfl,o,2*o+1,rfl,#[O],#[O],#[O],qQ⟩
    | false =>
     rw [if_pos #[D]];exact ap ⟨rfl,l,o,rfl,nR,hl,hb,fun _=>qQ⟩
  case post =>
   rintro c ku ⟨rfl,l,o,rfl,nR,hl,hb,qQ⟩;dsimp only;refine am (cY (zjz (val:=val) (left:=left) (key:=key) (arr:=arr) (base:=base) hs #[O] #[O] (fun i hi=>zcP hs #[O] hl hb) (fun i hi oD=>(by
    by_cases ho:hint+o < n
    ·exact up #[O] oD (qQ ho)
    ·lia)) #[Nt]) ?_)
   ·dsimp only;by_cases nS:l'>=r'
    ·rw [if_pos nS];exact ap (k1 nS)
    ·rw [if_neg nS];obtain⟨p,ep,mp⟩:=ha (l'+(r' - l') / 2) #[O];refine am #[Jg];have k3:=k2 #[O];dsimp only;cases uv:bB val left key arr base (l'+(r' - l') / 2) with
     | true=>rw [uv] at k3; rw [if_pos rfl] at k3 |-; exact ap k3
     | false=>rw [uv] at k3; rw [if_neg #[D]] at k3 |-; exact ap k3
   ·rintro c md ⟨rfl,l,rfl,hl,b1,b2⟩;exact ap (h l hl b1 b2)
 | false =>
  (simp only [bp,if_false])
  refine am (cY (ck (I:=fun x c ku=>ku=st/\∃ l o,c=(none,l,o)/\l < o/\x+1<=o/\l<=hint/\bB val left key arr base (hint - l)=false)
   (Q:=fun c ku=>ku=st/\∃ l o,c=(none,l,o)/\l < o/\l<=hint/\bB val left key arr base (hint - l)=false/\(o<=hint->bB val left key arr base (hint - o)=true)) ?step ?fin ⟨rfl,0,1,rfl,#[O],#[O],#[O],hr⟩) ?post)
  case fin =>
   rintro c ku ⟨rfl,l,o,rfl,nR,hx,hl,hb⟩;exact⟨rfl,l,o,rfl,nR,hl,hb,fun z=>by lia⟩
  case step =>
   rintro x c ku _ Aq ⟨rfl,l,o,rfl,nR,hx,hl,hb⟩;dsimp only;by_cases nS:o>=hint+1
   ·rw [if_pos nS];exact ap ⟨rfl,l,o,rfl,nR,hl,hb,fun z=>by lia⟩
   ·rw [if_neg nS];obtain⟨p,ep,mp⟩:=ha (hint - o) #[O];refine am #[Jg];dsimp only;cases qQ:bB val left key arr base (hint - o) with
    | false =>
     rw [if_neg #[D]];exact ap ⟨rfl,o,2*o+1,rfl,#[O],#[O],#[O],qQ⟩
    | true =>
     rw [if_pos rfl];exact ap ⟨rfl,l,o,rfl,nR,hl,hb,fun _=>qQ⟩
  case post =>
   rintro c ku ⟨rfl,l,o,rfl,nR,hl,hb,qQ⟩;dsimp only;refine am (cY (zjz (val:=val) (left:=left) (key:=key) (arr:=arr) (base:=base) hs #[O] #[O] (fun i hi=>(by
    by_cases ho:o<=hint
    ·exact zcP hs #[O] #[O] (qQ ho)
    ·lia)) (fun i hi oD=>up hi oD hb) #[Nt]) ?_)
   ·dsimp only;by_cases nS:l'>=r'
    ·rw [if_pos nS];exact ap (k1 nS)
    ·rw [if_neg nS];obtain⟨p,ep,mp⟩:=ha (l'+(r' - l') / 2) #[O];refine am #[Jg];have k3:=k2 #[O];dsimp only;cases uv:bB val left key arr base (l'+(r' - l') / 2) with
     | true=>rw [uv] at k3; rw [if_pos rfl] at k3 |-; exact ap k3
     | false=>rw [uv] at k3; rw [if_neg #[D]] at k3 |-; exact ap k3
   ·rintro c md ⟨rfl,l,rfl,hl,b1,b2⟩;exact ap (h l hl b1 b2)
end
end Srt
end
section
namespace Srt
open PySem PyProof.Rows
variable {k:Nat}
abbrev zam (st:SortSt) (g:Nat):SortSt:=jW (kindOf st) #[py] #[Ki] g (failedOf st)
theorem zdb (g:Nat):zcw g=modify fun s=>zam s g:=rfl
noncomputable def Le (val:Keyed->Int) (xs ys:List Keyed):Prop:=∀ x∈xs,∀ y∈ys,val x<=val y
noncomputable def Ris (val:Keyed->Int) (xs:List Keyed):Prop:=xs.Pairwise fun x y=>val x<=val y
theorem zau {val:Keyed->Int} {xs ys:List Keyed}:Ris val (xs++ys)↔Ris val xs/\Ris val ys/\Le val xs ys:=List.pairwise_append
structure MI (val:Keyed->Int) (T o l r:List Keyed):Prop where
 perm:(o++l++r).Perm T
 so:Ris val o
 sl:Ris val l
 sr:Ris val r
 ol:Le val o l
 or':Le val o r
noncomputable def Good (val:Keyed->Int) (T res:List Keyed):Prop:=res.Perm T/\Ris val res
section
variable {val:Keyed->Int} {T o l l1 l2 r r1 r2:List Keyed}
theorem Le.left {xs ys zs:List Keyed} (h:Le val (xs++ys) zs):Le val xs zs:=fun x hx y hy=>h x (aJ _ hx) y hy
theorem Le.right {xs ys zs:List Keyed} (h:Le val (xs++ys) zs):Le val ys zs:=fun x hx y hy=>h x (aD _ hx) y hy
theorem Le.app {xs ys zs:List Keyed} (h1:Le val xs zs) (h2:Le val ys zs):Le val (xs++ys) zs:=fun x hx y hy=>by
 rcases aR.mp hx with h | h
 ·exact h1 x h y hy
 ·exact h2 x h y hy
theorem Le.HP {xs ys zs:List Keyed} (h1:Le val xs ys) (h2:Le val xs zs):Le val xs (ys++zs):=fun x hx y hy=>by
 rcases aR.mp hy with h | h
 ·exact h1 x hx y h
 ·exact h2 x hx y h
theorem Le.sub {xs ys zs:List Keyed} (h1:Le val xs (ys++zs)):Le val xs ys/\Le val xs zs:=⟨fun x hx y hy=>h1 x hx y (aJ _ hy),fun x hx y hy=>h1 x hx y (aD _ hy)⟩
theorem MI.Fj (h:MI val T o (l1++l2) r) (hle:Le val l1 r):MI val T (o++l1) l2 r:=by
 obtain⟨a1,a2,a3⟩:=zau.mp h.sl;obtain⟨b1,b2⟩:=h.ol.sub;exact⟨by have:=h.perm; simpa [bn] using this,zau.mpr ⟨h.so,a1,b1⟩,a2,h.sr,b2.app a3,h.or'.app hle⟩
theorem MI.EJ (h:MI val T o l (r1++r2)) (hle:Le val r1 l):MI val T (o++r1) l r2:=by
 obtain⟨a1,a2,a3⟩:=zau.mp h.sr;obtain⟨b1,b2⟩:=h.or'.sub;refine⟨?_,zau.mpr ⟨h.so,a1,b1⟩,h.sl,a2,h.ol.app hle,b2.app a3⟩;refine ee ?_ h.perm;have:(r1++l++r2).Perm (l++r1++r2):=List.perm_append_comm.append_right _;simpa [bn] using this.append_left o
theorem MI.EA (h:MI val T o l []):Good val T (o++l):=⟨by have:=h.perm; simpa using this,zau.mpr ⟨h.so,h.sl,h.ol⟩⟩
theorem MI.Ez (h:MI val T o [] r):Good val T (o++r):=⟨by have:=h.perm; simpa using this,zau.mpr ⟨h.so,h.sr,h.or'⟩⟩
theorem MI.last (h:MI val T o l r) (hle:Le val r l):Good val T (o++r++l):=by
 refine⟨ee ?_ h.perm,?_⟩
 ·rw [bn,bn];exact List.perm_append_comm.append_left o
 ·exact zau.mpr ⟨zau.mpr ⟨h.so,h.sr,h.or'⟩,h.sl,h.ol.app hle⟩
end
section
variable {val:Keyed->Int} {T:List Keyed} {a b out:Array Keyed} {ia ib:Nat}
abbrev MA (val:Keyed->Int) (T:List Keyed) (a b out:Array Keyed) (ia ib:Nat):Prop:=MI val T out.toList (a.toList.drop ia) (b.toList.drop ib)
theorem zdy {xs:Array Keyed} {i:Nat} {p:Keyed} (h:xs[i]? = some p):xs.toList.drop i=p :: xs.toList.drop (i+1):=by
 have hi:i < xs.toList.length:=by
  have:=(cF.mp h).1;simpa using this
 rw [cf hi];congr 1;have:=(cF.mp h).2;simpa using this
theorem zcQ {xs:Array Keyed} (h:SIn val xs 0 xs.size):∀ i,Ris val #[JU]:=by
 have all:Ris val xs.toList:=by
  unfold Ris
  (rw [ef])
  intro i j hi hj oO
  (have mJ:i < xs.size:=by simpa using hi)
  (have pG:j < xs.size:=by simpa using hj)
  have:=h i j (bg _) #[O] pG;rw [zV (getElem?_pos xs i mJ),zV (getElem?_pos xs j pG)] at this;simpa using this
 exact fun i=>hE (jq _ _) all
theorem zdz {xs:Array Keyed} {i:Nat} {p q:Keyed} (h:SIn val xs 0 xs.size) (hp:xs[i]? = some p) (hq:q∈xs.toList.drop i):val p<=val q:=by
 have:=zcQ h i;rw [zdy hp] at this hq;rcases (aK.mp hq) with rfl | hq
 ·exact bH _
 ·exact List.rel_of_pairwise_cons this hq
theorem MA.FG {y x:Keyed} (h:MA val T a b out ia ib) (sa:SIn val a 0 a.size) (hy:b[ib]? = some y) (hx:a[ia]? = some x) (hle:val y<=val x):MA val T a b (out.push y) ia (ib+1):=by
 unfold MA at h |-;rw [zdy hy] at h;have:=MI.EJ (r1:=[y]) h fun p hp q hq=>by
  rw [aW.mp hp];exact bu hle (zdz sa hx hq)
 simpa using this
theorem MA.EB {y x:Keyed} (h:MA val T a b out ia ib) (sb:SIn val b 0 b.size) (hy:b[ib]? = some y) (hx:a[ia]? = some x) (hle:val x<=val y):MA val T a b (out.push x) (ia+1) ib:=by
 unfold MA at h |-;rw [zdy hx] at h;have:=MI.Fj (l1:=[x]) h fun p hp q hq=>by
  rw [aW.mp hp];exact bu hle (zdz sb hy hq)
 simpa using this
theorem zjA (xs:Array Keyed) (i k:Nat):xs.toList.drop i=#[Mi].toList++xs.toList.drop (i+k):=by
 rw [cL];have:(xs.toList.extract i (i+k))=#[JU].take k:=by
  simp [cH] <;> lia
 rw [this,<- fL,bN]
theorem zdA {xs:Array Keyed} {i:Nat} {p:Keyed} (h:p∈#[Mi].toList):∃ j,j < k/\xs[i+j]? = some p:=by
 have e0:#[Mi].toList=#[JU].take k:=by
  rw [cL];simp [cH] <;> lia
 rw [e0] at h
 (obtain⟨j,hj,e⟩:=bS h)
 have oG:j < k/\j < #[JU].length:=by
  rw [aG] at hj;lia
 refine⟨j,oG.1,?_⟩;rw [<- aY,<- et,ah oG.2,<- e,gj]
theorem MA.Fj {y:Keyed} (h:MA val T a b out ia ib) (sb:SIn val b 0 b.size) (hy:b[ib]? = some y) (hle:∀ i,i < k->Vk val a (ia+i)<=val y):MA val T a b (out++a.extract ia (ia+k)) (ia+k) ib:=by
 unfold MA at h |-;rw [zjA a ia k] at h;have:=MI.Fj h fun p hp q hq=>by
  obtain⟨j,hj,e⟩:=zdA hp;have:=hle j hj;rw [zV e] at this;exact bu this (zdz sb hy hq)
 simpa using this
theorem MA.EJ {x:Keyed} (h:MA val T a b out ia ib) (sa:SIn val a 0 a.size) (hx:a[ia]? = some x) (hle:∀ i,i < k->Vk val b (ib+i)<=val x):MA val T a b (out++b.extract ib (ib+k)) ia (ib+k):=by
 unfold MA at h |-;rw [zjA b ib k] at h;have:=MI.EJ h fun p hp q hq=>by
  obtain⟨j,hj,e⟩:=zdA hp;have:=hle j hj;rw [zV e] at this;exact bu this (zdz sa hx hq)
 simpa using this
theorem zck (xs:Array Keyed) (i:Nat):(xs.extract i xs.size).toList=xs.toList.drop i:=by
 rw [cL];simp only [cH]
 (exact aV #[M])
theorem MA.Ez (h:MA val T a b out ia ib) (e:ib=b.size):Good val T (out++a.extract ia a.size++b.extract ib b.size).toList:=by
 unfold MA at h;rw [show b.toList.drop ib = [] from bZ (by simp [e])] at h;have:=h.EA;rw [bt,bt,zck,zck,show b.toList.drop ib = [] from bZ (by simp [e]),bK];exact this
theorem MA.EA (h:MA val T a b out ia ib) (e:ia=a.size):Good val T (out++a.extract ia a.size++b.extract ib b.size).toList:=by
 unfold MA at h;rw [show a.toList.drop ia = [] from bZ (by simp [e])] at h;have:=h.Ez;rw [bt,bt,zck,zck,show a.toList.drop ia = [] from bZ (by simp [e]),bK];exact this
theorem MA.last (h:MA val T a b out ia ib) (e:ia+1=a.size) (hl:∀ i,i < b.size->Vk val b i<=Vk val a (a.size - 1)):Good val T (out++b.extract ib b.size++a.extract ia a.size).toList:=by
 unfold MA at h;have hx:a[ia]? = some (a[ia]'#[O]):=getElem?_pos a ia #[O];have:=h.last fun p hp q hq=>by
  rw [zdy hx,show a.toList.drop (ia+1) = [] from bZ (by simp [e])] at hq;rw [aW.mp hq];obtain⟨j,hj,ej⟩:=bS (io hp);have pG:j < b.size:=by simpa using hj
  have:=hl j pG;rw [zV (getElem?_pos b j pG),show a.size - 1=ia by lia,zV hx] at this;rw [<- ej];simpa using this
 rw [bt,bt,zck,zck];exact this
end
end Srt
end
section
namespace Srt
open PySem PyProof.Rows
variable {M:Model} {arr:Array Keyed} {key:Keyed}
section
variable {prog:Program} {w:World} {A:Around} {E:Value->Shared->Prop} {s:Shared} {a₀:Array Keyed} {κ:SortKind} {val:Keyed->Int}
theorem zcR {st:SortSt} {g:Nat} {Q:Unit->SortSt->Prop} (h:Q () (zam st g)):wpS #[or] A E s (zcw g) Q st:=by
 rw [zdb];exact dY h
theorem zas {g:Prop} {xs:Array Keyed} {i:Nat} (h:i < xs.size) (k:∀ p,xs[i]? = some p->p∈xs.toList->g):g:=k _ (getElem?_pos xs i h) #[M]
theorem zbT {base i:Nat} (h:bB val true key arr base i=true):Vk val arr (base+i) < val key:=by
 unfold bB at h;simpa using h
theorem zcS {base i:Nat} (h:bB val false key arr base i=true):Vk val arr (base+i)<=val key:=by
 unfold bB at h;simp at h;lia
theorem zcF {base i:Nat} (h:bB val true key arr base i=false):val key<=Vk val arr (base+i):=by
 unfold bB at h;simp at h;lia
theorem zdB {base i:Nat} (h:bB val false key arr base i=false):val key < Vk val arr (base+i):=by
 unfold bB at h;simp at h;exact h
theorem SIn.sub {xs:Array Keyed} {lo hi lo' mJ:Nat} (h:SIn val xs lo hi) (h1:lo<=lo') (h2:mJ<=hi):SIn val xs lo' mJ:=fun i j a b c=>h i j #[O] b #[O]
theorem zA {σ α:Type} {c:Prop} {inst:Decidable c} {x y:StateT σ Sem α} {Q:α->σ->Prop} {st:σ} (h:c) (k:wpS M A E s x Q st):wpS M A E s #[LU] Q st:=by rw [if_pos h]; exact k
theorem zB {σ α:Type} {c:Prop} {inst:Decidable c} {x y:StateT σ Sem α} {Q:α->σ->Prop} {st:σ} (h:¬ c) (k:wpS M A E s y Q st):wpS M A E s #[LU] Q st:=by rw [if_neg h]; exact k
theorem dup {P X:Prop} (h:P->P->X) (k:P):X:=h k k
theorem zmY {P X:Prop} (h:(Unit->P)->(Unit->P)->X) (k:P):X:=h (fun _=>k) (fun _=>k)
theorem fr5 {σ β A1 A2 A3 A4 A5:Type} {lo hi:Nat} {f:Nat->β->StateT σ Sem (ForInStep β)} {Q:β->σ->Prop} {c:β} {st:σ} (qR:A1->A2->A3->A4->A5->β) (sR:A1->A2->A3->A4->A5->σ) (J:Nat->A1->A2->A3->A4->A5->Prop) (start:∃ a1 a2 a3 a4 a5,st=sR a1 a2 a3 a4 a5/\c=qR a1 a2 a3 a4 a5/\J lo a1 a2 a3 a4 a5) (fin:∀ a1 a2 a3 a4 a5,J (max lo hi) a1 a2 a3 a4 a5->Q #[LR] (sR a1 a2 a3 a4 a5))
  (step:∀ x a1 a2 a3 a4 a5,lo<=x->x < hi->J x a1 a2 a3 a4 a5->wpS M A E s (f x #[LR]) (fun r ku=>match r with | .done c'=>Q c' ku | .yield c'=>∃ a1 a2 a3 a4 a5,ku=sR a1 a2 a3 a4 a5/\c'=qR a1 a2 a3 a4 a5/\J (x+1) a1 a2 a3 a4 a5) (sR a1 a2 a3 a4 a5)):wpS M A E s (forIn [lo:hi] c f) Q st:=by
 refine ck (I:=fun x c ku=>∃ a1 a2 a3 a4 a5,ku=sR a1 a2 a3 a4 a5/\c=qR a1 a2 a3 a4 a5/\J x a1 a2 a3 a4 a5) ?_ ?_ start
 ·rintro x c ku h1 h2 ⟨a1,a2,a3,a4,a5,rfl,rfl,j⟩;exact step x _ _ _ _ _ h1 h2 j
 ·rintro c ku ⟨a1,a2,a3,a4,a5,rfl,rfl,j⟩;exact fin _ _ _ _ _ j
theorem fr7 {σ β A1 A2 A3 A4 A5 A6 A7:Type} {lo hi:Nat} {f:Nat->β->StateT σ Sem (ForInStep β)} {Q:β->σ->Prop} {c:β} {st:σ} (qR:A1->A2->A3->A4->A5->A6->A7->β) (sR:A1->A2->A3->A4->A5->A6->A7->σ) (J:Nat->A1->A2->A3->A4->A5->A6->A7->Prop) (start:∃ a1 a2 a3 a4 a5 a6 a7,st=sR a1 a2 a3 a4 a5 a6 a7/\c=qR a1 a2 a3 a4 a5 a6 a7/\J lo a1 a2 a3 a4 a5 a6 a7) (fin:∀ a1 a2 a3 a4 a5 a6 a7,J (max lo hi) a1 a2 a3 a4 a5 a6 a7->Q #[NA] #[Nz])
  (step:∀ x a1 a2 a3 a4 a5 a6 a7,lo<=x->x < hi->J x a1 a2 a3 a4 a5 a6 a7->wpS M A E s (f x #[NA]) (fun r ku=>match r with | .done c'=>Q c' ku | .yield c'=>∃ a1 a2 a3 a4 a5 a6 a7,ku=sR a1 a2 a3 a4 a5 a6 a7/\c'=qR a1 a2 a3 a4 a5 a6 a7/\J (x+1) a1 a2 a3 a4 a5 a6 a7) #[Nz]):wpS M A E s (forIn [lo:hi] c f) Q st:=by
 refine ck (I:=fun x c ku=>∃ a1 a2 a3 a4 a5 a6 a7,ku=sR a1 a2 a3 a4 a5 a6 a7/\c=qR a1 a2 a3 a4 a5 a6 a7/\J x a1 a2 a3 a4 a5 a6 a7) ?_ ?_ start
 ·rintro x c ku h1 h2 ⟨a1,a2,a3,a4,a5,a6,a7,rfl,rfl,j⟩;exact step x _ _ _ _ _ _ _ h1 h2 j
 ·rintro c ku ⟨a1,a2,a3,a4,a5,a6,a7,rfl,rfl,j⟩;exact fin _ _ _ _ _ _ _ j
theorem zle {σ α γ δ A1 A2 A3 A4 A5:Type} {x:StateT σ Sem (Option γ×δ)} {k:Option γ×δ->StateT σ Sem α} {R:α->σ->Prop} {st:σ} (qR:A1->A2->A3->A4->A5->Option γ×δ) (G:γ->Prop) (J:A1->A2->A3->A4->A5->Prop) (BI:σ) (hx:wpS M A E s x (fun c ku=>ku=BI/\((∃ r o,c=(some r,o)/\G r)\/∃ a1 a2 a3 a4 a5,c=qR a1 a2 a3 a4 a5/\J a1 a2 a3 a4 a5)) st) (h1:∀ r o,G r->wpS M A E s (k (some r,o)) R BI) (h:∀ a1 a2 a3 a4 a5,J a1 a2 a3 a4 a5->wpS M A E s (k #[LR]) R BI):wpS M A E s (x >>= k) R st:=by
 refine am (cY hx ?_);rintro c ku ⟨rfl,⟨r,o,rfl,g⟩ | ⟨a1,a2,a3,a4,a5,rfl,j⟩⟩
 ·exact h1 _ _ g
 ·exact h _ _ _ _ _ j
theorem zaO {σ α:Type} {c:Prop} {inst:Decidable c} {x y:StateT σ Sem α} {Q:α->σ->Prop} {st:σ} (h:c->wpS M A E s x Q st) (k:¬ c->wpS M A E s y Q st):wpS M A E s #[LU] Q st:=by
 by_cases hc:c
 ·rw [if_pos hc]; exact h hc
 ·rw [if_neg hc]; exact k hc
theorem zig {st:SortSt} {a b:Array Keyed} {Q:Array Keyed->SortSt->Prop} (hC:Cmp prog w A s κ val a₀) (hk:kindOf st=κ) (ma:∀ p∈a.toList,p∈a₀.toList) (mb:∀ p∈b.toList,p∈a₀.toList)
  (sa:SIn val a 0 a.size) (sb:SIn val b 0 b.size) (h1:1<=a.size) (h2:1<=b.size) (hf:Vk val b 0<=Vk val a 0) (hl:∀ i,i < b.size->Vk val b i<=Vk val a (a.size - 1))
  (h:∀ out g,Good val #[ss] out.toList->Q out (zam st g)):wpS #[or] A E s (zjx a b) Q st:=by
 refine zfe ?_
 wp_delta
 wp_delta
 refine zff ?_
 (refine am #[IY])
 refine zas (xs:=b) (i:=0) #[O] fun y0 sD BJ=>?_
 refine zas (xs:=a) (i:=0) #[O] fun x0 qS BK=>?_
 refine am (zN sD ?_);have I0:MA val #[ss] a b #[] 0 0:=⟨#[M],gg,zcQ sa 0,zcQ sb 0,fun x hx=>by simp at hx,fun x hx=>by simp at hx⟩;have I1:MA val #[ss] a b #[y0] 0 1:=I0.FG sa sD qS (by rw [zV sD,zV qS] at hf; exact hf);dsimp only;by_cases sS:1=b.size
 ·refine zA (by simpa using sS) ?_;exact ap (h _ #[Ly] (I1.Ez sS))
 refine zB (by simpa using sS) ?_;by_cases sE:0+1=a.size
 ·refine zA (by simpa using sE) ?_;exact ap (h _ #[Ly] (I1.last #[O] hl))
 refine zB (by simpa using sE) ?_;refine am (eF ?_);refine am (cY (fr5 (fun g out ia ib mg=>(none,out,ia,ib,mg)) (fun g out ia ib mg=>zam st g) (fun x g out ia ib mg=>MA val #[ss] a b out ia ib/\ia+1 < a.size/\ib < b.size/\x+1<=ia+ib)
  (Q:=fun c ku=>∃ g r o,ku=zam st g/\c=(some r,o)/\Good val #[ss] r.toList) ⟨gallopOf st,#[y0],0,1,gallopOf st,rfl,rfl,I1,#[O],#[O],#[O]⟩ ?fin ?step) ?post)
 case post =>
  rintro c ku ⟨g,r,o,rfl,rfl,hG⟩;exact ap (h _ g hG)
 case fin =>
  rintro g out ia ib mg ⟨hI,b1,b2,b3⟩;lia
 case step =>
  intro x g out ia ib mg hr0 hx J;have hI:=J.1;have b1:=J.2.1;have b2:=J.2.2.1;have b3:=J.2.2.2;dsimp only;refine zle #[Mu] #[MS] (fun kF lO lH ac bc=>MA val #[ss] a b kF lO lH/\lO+1 < a.size/\lH < b.size/\ia+ib+1<=lO+lH) (zam st g) (fr5 #[Mu] (fun kF lO lH ac bc=>zam st g) (fun x kF lO lH ac bc=>MA val #[ss] a b kF lO lH/\lO+1 < a.size/\lH < b.size/\ia+ib+x<=lO+lH) ⟨out,ia,ib,0,0,rfl,rfl,hI,b1,b2,#[O]⟩ ?fin1 ?step1) #[NB] ?post1
  case fin1 =>
   rintro kF lO lH ac bc ⟨hI,b1,b2,b3⟩;exact⟨rfl,.inr ⟨kF,lO,lH,ac,bc,rfl,hI,b1,b2,#[O]⟩⟩
  case step1 =>
   intro x1 kF lO lH ac bc hr1 As J;have hI:=J.1;have b1:=J.2.1;have b2:=J.2.2.1;have b3:=J.2.2.2;dsimp only;refine zas (xs:=b) (i:=lH) #[O] fun y ey my=>?_
   refine zas (xs:=a) (i:=lO) #[O] fun z ez mz=>?_
   refine am #[Ke];dsimp only;by_cases xM:val y < val z
   ·refine zA (by simpa using xM) ?_;refine am #[Na];have nO:=hI.FG sa ey ez #[O];by_cases e1:lH+1=b.size
    ·refine zA (by simpa using e1) ?_;exact ap ⟨rfl,.inl ⟨_,_,rfl,nO.Ez e1⟩⟩
    refine zB (by simpa using e1) ?_;refine zaO #[wE] #[wE]
    ·exact ap ⟨rfl,.inr ⟨_,_,_,_,_,rfl,nO,b1,#[O],#[O]⟩⟩
    ·exact ap ⟨_,_,_,_,_,rfl,rfl,nO,b1,#[O],#[O]⟩
   ·refine zB (by simpa using xM) ?_;refine am #[KK];have nO:=hI.EB sb ey ez #[O];by_cases e1:lO+1+1=a.size
    ·refine zA (by simpa using e1) ?_;exact ap ⟨rfl,.inl ⟨_,_,rfl,nO.last e1 hl⟩⟩
    refine zB (by simpa using e1) ?_;refine zaO #[wE] #[wE]
    ·exact ap ⟨rfl,.inr ⟨_,_,_,_,_,rfl,nO,#[O],b2,#[O]⟩⟩
    ·exact ap ⟨_,_,_,_,_,rfl,rfl,nO,#[O],b2,#[O]⟩
  case post1 =>
   intro vL BL BM BN BO J;have BP:=J.1;have c1:=J.2.1;have c2:=J.2.2.1;have c3:=J.2.2.2;dsimp only
   (refine am #[IY])
   refine am (cY (fr7 (fun g kF lO lH mg ac bc=>(none,kF,lO,lH,mg,ac,bc)) (fun g kF lO lH mg ac bc=>zam st g) (fun x g kF lO lH mg ac bc=>MA val #[ss] a b kF lO lH/\lO+1 < a.size/\lH < b.size/\BL+BM<=lO+lH)
    (Q:=fun c ku=>∃ g,ku=zam st g/\((∃ r o,c=(some r,o)/\Good val #[ss] r.toList)\/∃ kF lO lH mg ac bc,c=(none,kF,lO,lH,mg,ac,bc)/\MA val #[ss] a b kF lO lH/\lO+1 < a.size/\lH < b.size/\BL+BM<=lO+lH)) ⟨g,vL,BL,BM,_,BN,BO,rfl,rfl,BP,c1,c2,ag _⟩ ?fin2 ?step2) ?post2)
   case fin2 =>
    rintro g kF lO lH mg ac bc ⟨hI,b1,b2,b3⟩;exact⟨g,rfl,.inr ⟨kF,lO,lH,mg,ac,bc,rfl,hI,b1,b2,b3⟩⟩
   case post2 =>
    rintro c ku ⟨g,rfl,hc⟩;rcases hc with ⟨r,o,rfl,hG⟩ | ⟨vM,ia2,ib2,mg2,ac2,bc2,rfl,nO,d1,d2,d3⟩
    ·exact ap ⟨g,r,_,rfl,rfl,hG⟩
    dsimp only;refine am (zcR (ap ⟨_,vM,ia2,ib2,_,rfl,rfl,nO,d1,d2,#[O]⟩))
   case step2 =>
    intro x2 g kF lO lH vN ac bc xN xO J;have hI:=J.1;have b1:=J.2.1;have b2:=J.2.2.1;have b3:=J.2.2.2;dsimp only;refine zas (xs:=b) (i:=lH) #[O] fun y ey my=>?_
    apply dup
    ·intro k1 k2;by_cases rk:vN > 1
     ·refine zA rk ?_;clear rk;generalize vN - 1=m0
      revert m0
      exact k1
     ·refine zB rk ?_;clear rk;generalize vN=m0
      revert m0
      exact k2
    intro mg0;refine am (zcR (am (zN ey (am (zbb hC hk (mb y my) (fun i hi=>(by
     refine zas (xs:=a) (i:=lO+i) #[O] fun p ep mp=>?_
     exact⟨p,ep,ma p mp⟩)) (sa.sub #[O] #[O]) #[O] fun k Au oZ uZ=>?_)))))
    dsimp only;have nO:=hI.Fj (k:=k) sb ey fun i hi=>zcS (oZ i hi)
    by_cases sC:k > 0
    ·refine zA sC ?_;by_cases e1:lO+k+1=a.size
     ·refine zA (by simpa using e1) ?_;exact ap ⟨_,rfl,.inl ⟨_,_,rfl,nO.last e1 hl⟩⟩
     refine zB (by simpa using e1) ?_;by_cases e2:lO+k=a.size
     ·refine zA (by simpa using e2) ?_;exact ap ⟨_,rfl,.inl ⟨_,_,rfl,nO.EA e2⟩⟩
     refine zB (by simpa using e2) ?_;refine am #[Na];refine zas (xs:=a) (i:=lO+k) #[O] fun z ez mz=>?_
     have qB:=nO.FG sa ey ez (by have:=zdB (uZ k (ag _) #[O]); rw [zV ez] at this; lia);by_cases e3:lH+1=b.size
     ·refine zA (by simpa using e3) ?_;exact ap ⟨_,rfl,.inl ⟨_,_,rfl,qB.Ez e3⟩⟩
     refine zB (by simpa using e3) ?_;refine am (zN ez (am (zbb hC hk (ma z mz) (fun i hi=>(by
      refine zas (xs:=b) (i:=lH+1+i) #[O] fun p ep mp=>?_
      exact⟨p,ep,mb p mp⟩)) #[K8] #[O] fun j vJ oG uw=>?_)))
     dsimp only;have rB:=qB.EJ (k:=j) sa ez fun i hi=>dO (zbT (oG i hi))
     by_cases rC:j > 0
     ·refine zA rC ?_;by_cases e4:lH+1+j=b.size
      ·refine zA (by simpa using e4) ?_;exact ap ⟨_,rfl,.inl ⟨_,_,rfl,rB.Ez e4⟩⟩
      refine zB (by simpa using e4) ?_;refine zas (xs:=b) (i:=lH+1+j) #[O] fun y2 n9 vO=>?_
      refine am #[KK];have mL:=rB.EB sb n9 ez (by have:=zcF (uw j (ag _) #[O]); rw [zV n9] at this; exact this);by_cases e9:lO+k+1+1=a.size
      ·refine zA (by simpa using e9) ?_;exact ap ⟨_,rfl,.inl ⟨_,_,rfl,mL.last e9 hl⟩⟩
      refine zB (by simpa using e9) ?_;refine zaO #[wE] #[wE]
      ·exact ap #[FS]
      ·exact ap #[IM]
     ·refine zB rC ?_;have vP:j=0:=by lia
      subst vP;refine zas (xs:=b) (i:=lH+1) #[O] fun y2 n9 vO=>?_
      refine am #[KK];have mL:=qB.EB sb n9 ez (by have:=zcF (uw 0 (ag _) #[O]); rw [eu,zV n9] at this; exact this);by_cases e9:lO+k+1+1=a.size
      ·refine zA (by simpa using e9) ?_;exact ap ⟨_,rfl,.inl ⟨_,_,rfl,mL.last e9 hl⟩⟩
      refine zB (by simpa using e9) ?_;refine zaO #[wE] #[wE]
      ·exact ap #[FS]
      ·exact ap #[IM]
    ·refine zB sC ?_;have BQ:k=0:=by lia
     subst BQ;refine am #[Na];refine zas (xs:=a) (i:=lO) #[O] fun z ez mz=>?_
     have qB:=hI.FG sa ey ez (by have:=zdB (uZ 0 (ag _) #[O]); rw [eu,zV ez] at this; lia);by_cases e3:lH+1=b.size
     ·refine zA (by simpa using e3) ?_;exact ap ⟨_,rfl,.inl ⟨_,_,rfl,qB.Ez e3⟩⟩
     refine zB (by simpa using e3) ?_;refine am (zN ez (am (zbb hC hk (ma z mz) (fun i hi=>(by
      refine zas (xs:=b) (i:=lH+1+i) #[O] fun p ep mp=>?_
      exact⟨p,ep,mb p mp⟩)) #[K8] #[O] fun j vJ oG uw=>?_)))
     dsimp only;have rB:=qB.EJ (k:=j) sa ez fun i hi=>dO (zbT (oG i hi))
     by_cases rC:j > 0
     ·refine zA rC ?_;by_cases e4:lH+1+j=b.size
      ·refine zA (by simpa using e4) ?_;exact ap ⟨_,rfl,.inl ⟨_,_,rfl,rB.Ez e4⟩⟩
      refine zB (by simpa using e4) ?_;refine zas (xs:=b) (i:=lH+1+j) #[O] fun y2 n9 vO=>?_
      refine am #[KK];have mL:=rB.EB sb n9 ez (by have:=zcF (uw j (ag _) #[O]); rw [zV n9] at this; exact this);by_cases e9:lO+1+1=a.size
      ·refine zA (by simpa using e9) ?_;exact ap ⟨_,rfl,.inl ⟨_,_,rfl,mL.last e9 hl⟩⟩
      refine zB (by simpa using e9) ?_;refine zaO #[wE] #[wE]
      ·exact ap #[FS]
      ·exact ap #[IM]
     ·refine zB rC ?_;have vP:j=0:=by lia
      subst vP;refine zas (xs:=b) (i:=lH+1) #[O] fun y2 n9 vO=>?_
      refine am #[KK];have mL:=qB.EB sb n9 ez (by have:=zcF (uw 0 (ag _) #[O]); rw [eu,zV n9] at this; exact this);by_cases e9:lO+1+1=a.size
      ·refine zA (by simpa using e9) ?_;exact ap ⟨_,rfl,.inl ⟨_,_,rfl,mL.last e9 hl⟩⟩
      refine zB (by simpa using e9) ?_;refine zaO #[wE] #[wE]
      ·exact ap #[FS]
      ·exact ap #[IM]
end
end Srt
end
section
namespace Srt
open PySem PyProof.Rows
structure MH (val:Keyed->Int) (T l r o:List Keyed):Prop where
 perm:(l++r++o).Perm T
 so:Ris val o
 sl:Ris val l
 sr:Ris val r
 lo:Le val l o
 ro:Le val r o
section
variable {val:Keyed->Int} {T o l l1 l2 r r1 r2:List Keyed}
theorem MH.Fj (h:MH val T (l1++l2) r o) (hle:Le val r l2):MH val T l1 r (l2++o):=by
 obtain⟨a1,a2,a3⟩:=zau.mp h.sl;refine⟨?_,zau.mpr ⟨a2,h.so,h.lo.right⟩,a1,h.sr,a3.HP h.lo.left,hle.HP h.ro⟩;refine ee ?_ h.perm;have:(r++l2).Perm (l2++r):=List.perm_append_comm;have:=(this.append_left l1).append_right o;simpa [bn] using this
theorem MH.EJ (h:MH val T l (r1++r2) o) (hle:Le val l r2):MH val T l r1 (r2++o):=by
 obtain⟨a1,a2,a3⟩:=zau.mp h.sr;exact⟨by have:=h.perm; simpa [bn] using this,zau.mpr ⟨a2,h.so,h.ro.right⟩,h.sl,a1,hle.HP h.lo,a3.HP h.ro.left⟩
theorem MH.EA (h:MH val T [] r o):Good val T (r++o):=⟨by have:=h.perm; simpa using this,zau.mpr ⟨h.sr,h.so,h.ro⟩⟩
theorem MH.Ez (h:MH val T l [] o):Good val T (l++o):=⟨by have:=h.perm; simpa using this,zau.mpr ⟨h.sl,h.so,h.lo⟩⟩
theorem MH.first (h:MH val T l r o) (hle:Le val r l):Good val T (r++l++o):=by
 refine⟨ee (List.perm_append_comm.append_right _) h.perm,?_⟩;exact zau.mpr ⟨zau.mpr ⟨h.sr,h.sl,hle⟩,h.so,h.ro.app h.lo⟩
end
section
variable {val:Keyed->Int} {T:List Keyed} {a b out:Array Keyed} {na nb:Nat}
abbrev MB (val:Keyed->Int) (T:List Keyed) (a b out:Array Keyed) (na nb:Nat):Prop:=MH val T (a.toList.take na) (b.toList.take nb) out.toList.reverse
theorem zhu {xs:Array Keyed} {n:Nat} {p:Keyed} (h:xs[n]? = some p):xs.toList.take (n+1)=xs.toList.take n++[p]:=by
 rw [List.take_succ,aY,h];rfl
theorem zgc {xs:Array Keyed} (h:SIn val xs 0 xs.size) (i:Nat):Ris val (xs.toList.take i):=by
 have:=zcQ h 0;rw [fM] at this;exact hE (dG _ _) this
theorem zdV {xs:Array Keyed} {n:Nat} {p:Keyed} (h:p∈xs.toList.take n):∃ j,j < n/\j < xs.size/\xs[j]? = some p:=by
 (obtain⟨j,hj,e⟩:=bS h)
 have oG:j < n/\j < xs.toList.length:=by
  rw [aG] at hj;lia
 refine⟨j,oG.1,by simpa using oG.2,?_⟩;rw [<- aY,ah oG.2,<- e,gj]
theorem Eu {xs:Array Keyed} {n:Nat} {p q:Keyed} (h:SIn val xs 0 xs.size) (hp:xs[n]? = some p) (hq:q∈xs.toList.take (n+1)):val q<=val p:=by
 obtain⟨j,hj,uk,e⟩:=zdV hq;have hn:=(cF.mp hp).1;have:=h j n (bg _) #[O] hn;rw [zV e,zV hp] at this;exact this
theorem MB.EB {y x:Keyed} (h:MB val T a b out (na+1) nb) (sb:SIn val b 0 b.size) (hn:1<=nb) (hy:b[nb - 1]? = some y) (hx:a[na]? = some x) (hle:val y<=val x):MB val T a b (out.push x) na nb:=by
 unfold MB at h |-;rw [zhu hx] at h;have:=MH.Fj h fun p hp q hq=>by
  rw [aW.mp hq];exact bu (Eu sb hy (by rw [show nb - 1+1=nb by lia]; exact hp)) hle
 simpa using this
theorem MB.FG {y x:Keyed} (h:MB val T a b out na (nb+1)) (sa:SIn val a 0 a.size) (hn:1<=na) (hy:b[nb]? = some y) (hx:a[na - 1]? = some x) (hle:val x<=val y):MB val T a b (out.push y) na nb:=by
 unfold MB at h |-;rw [zhu hy] at h;have:=MH.EJ h fun p hp q hq=>by
  rw [aW.mp hq];exact bu (Eu sa hx (by rw [show na - 1+1=na by lia]; exact hp)) hle
 simpa using this
theorem zhv (xs:Array Keyed) {i n:Nat} (h:i<=n):xs.toList.take n=xs.toList.take i++(xs.extract i n).toList:=by
 rw [cL];simp only [cH];rw [<- bN i (xs.toList.take n),List.take_take,fu h,List.drop_take]
theorem MB.Fj {y:Keyed} {at':Nat} (h:MB val T a b out na nb) (sb:SIn val b 0 b.size) (l7:at'<=na) (hn:1<=nb) (hy:b[nb - 1]? = some y) (hle:∀ i,at'<=i->i < na->val y<=Vk val a i):MB val T a b (out++(a.extract at' na).reverse) at' nb:=by
 unfold MB at h |-;rw [zhv a l7] at h;have:=MH.Fj h fun p hp q hq=>by
  have rn:q∈(a.extract at' (at'+(na - at'))).toList:=by rw [show at'+(na - at')=na by lia]; exact hq
  obtain⟨j,hj,e⟩:=zdA rn;have:=hle (at'+j) #[O] #[O];rw [zV e] at this;exact bu (Eu sb hy (by rw [show nb - 1+1=nb by lia]; exact hp)) this
 simpa using this
theorem MB.EJ {x:Keyed} {at':Nat} (h:MB val T a b out na nb) (sa:SIn val a 0 a.size) (l7:at'<=nb) (hn:1<=na) (hx:a[na - 1]? = some x) (hle:∀ i,at'<=i->i < nb->val x<=Vk val b i):MB val T a b (out++(b.extract at' nb).reverse) na at':=by
 unfold MB at h |-;rw [zhv b l7] at h;have:=MH.EJ h fun p hp q hq=>by
  have rn:q∈(b.extract at' (at'+(nb - at'))).toList:=by rw [show at'+(nb - at')=nb by lia]; exact hq
  obtain⟨j,hj,e⟩:=zdA rn;have:=hle (at'+j) #[O] #[O];rw [zV e] at this;exact bu (Eu sa hx (by rw [show na - 1+1=na by lia]; exact hp)) this
 simpa using this
theorem zbC (xs:Array Keyed) (n:Nat):(xs.extract 0 n).toList=xs.toList.take n:=by
 rw [cL];simp [cH]
theorem MB.EA (h:MB val T a b out na nb) (e:na=0):Good val T (a.extract 0 na++b.extract 0 nb++out.reverse).toList:=by
 unfold MB at h;subst e;have:=MH.EA h;rw [bt,bt,zbC,zbC,eI,dD,fw];exact this
theorem MB.Ez (h:MB val T a b out na nb) (e:nb=0):Good val T (a.extract 0 na++b.extract 0 nb++out.reverse).toList:=by
 unfold MB at h;subst e;have:=MH.Ez h;rw [bt,bt,zbC,zbC,eI,bK,fw];exact this
theorem MB.first (h:MB val T a b out na nb) (e:nb=1) (sa:SIn val a 0 a.size) (h2:1<=b.size) (hf:Vk val b 0<=Vk val a 0):Good val T (b.extract 0 nb++a.extract 0 na++out.reverse).toList:=by
 unfold MB at h;subst e;have:=MH.first h fun p hp q hq=>by
  obtain⟨j,hj,uk,ej⟩:=zdV hp;have rC:j=0:=by lia
  subst rC;obtain⟨i,hi,his,ei⟩:=zdV hq;have:=sa 0 i (bg _) (bg _) his;rw [zV ei] at this;rw [zV ej] at hf;lia
 rw [bt,bt,zbC,zbC,fw];exact this
end
section
variable {prog:Program} {w:World} {A:Around} {E:Value->Shared->Prop} {s:Shared} {a₀:Array Keyed} {κ:SortKind} {val:Keyed->Int}
theorem zih {st:SortSt} {a b:Array Keyed} {Q:Array Keyed->SortSt->Prop} (hC:Cmp prog w A s κ val a₀) (hk:kindOf st=κ) (ma:∀ p∈a.toList,p∈a₀.toList) (mb:∀ p∈b.toList,p∈a₀.toList)
  (sa:SIn val a 0 a.size) (sb:SIn val b 0 b.size) (h1:1<=a.size) (h2:1<=b.size) (hf:Vk val b 0<=Vk val a 0) (hl:∀ i,i < b.size->Vk val b i<=Vk val a (a.size - 1))
  (h:∀ out g,Good val #[ss] out.toList->Q out (zam st g)):wpS #[or] A E s (zjy a b) Q st:=by
 refine zfe ?_
 wp_delta
 wp_delta
 refine zff ?_
 (refine am #[IY])
 refine zas (xs:=a) (i:=a.size - 1) #[O] fun x0 qS BK=>?_
 refine zas (xs:=b) (i:=b.size - 1) #[O] fun y0 sD BJ=>?_
 refine am (zN qS ?_);have I0:MB val #[ss] a b #[] (a.size - 1+1) b.size:=by
  refine⟨?_,gg,zgc sa _,zgc sb _,fun x _ y hy=>by simp at hy,fun x _ y hy=>by simp at hy⟩;rw [show a.size - 1+1=a.size by lia,aV #[M],aV #[M]];simp
 have I1:MB val #[ss] a b #[x0] (a.size - 1) b.size:=I0.EB sb h2 sD qS (by have:=hl (b.size - 1) #[O]; rw [zV sD,zV qS] at this; exact this);dsimp only;by_cases sE:a.size - 1=0
 ·refine zA (by simpa using sE) ?_;exact ap (h _ #[Ly] (I1.EA sE))
 refine zB (by simpa using sE) ?_;by_cases sS:b.size=1
 ·refine zA (by simpa using sS) ?_;exact ap (h _ #[Ly] (I1.first sS sa h2 hf))
 refine zB (by simpa using sS) ?_;refine am (eF ?_);refine am (cY (fr5 (fun g out na nb mg=>(none,na,nb,out,mg)) (fun g out na nb mg=>zam st g) (fun x g out na nb mg=>MB val #[ss] a b out na nb/\1<=na/\2<=nb/\na<=a.size/\nb<=b.size/\x+na+nb+1<=a.size+b.size)
  (Q:=fun c ku=>∃ g r o,ku=zam st g/\c=(some r,o)/\Good val #[ss] r.toList) ⟨gallopOf st,#[x0],a.size - 1,b.size,gallopOf st,rfl,rfl,I1,#[O],#[O],#[O],#[O],#[O]⟩ ?fin ?step) ?post)
 case post =>
  rintro c ku ⟨g,r,o,rfl,rfl,hG⟩;exact ap (h _ g hG)
 case fin =>
  rintro g out na nb mg ⟨hI,b1,b2,b3⟩;lia
 case step =>
  intro x g out na nb mg hr0 hx J;have hI:=J.1;have b1:=J.2.1;have b2:=J.2.2.1;have b4:=J.2.2.2.1;have b5:=J.2.2.2.2.1;have b3:=J.2.2.2.2.2;dsimp only;refine zle #[Mt] #[MS] (fun kF lX lY ac bc=>MB val #[ss] a b kF lX lY/\1<=lX/\2<=lY/\lX<=a.size/\lY<=b.size/\1+lX+lY<=na+nb) (zam st g) (fr5 #[Mt] (fun kF lX lY ac bc=>zam st g) (fun x kF lX lY ac bc=>MB val #[ss] a b kF lX lY/\1<=lX/\2<=lY/\lX<=a.size/\lY<=b.size/\x+lX+lY<=na+nb) ⟨out,na,nb,0,0,rfl,rfl,hI,b1,b2,b4,b5,#[O]⟩ ?fin1 ?step1) #[NB] ?post1
  case fin1 =>
   rintro kF lX lY ac bc ⟨hI,b1,b2,b4,b5,b3⟩;exact⟨rfl,.inr ⟨kF,lX,lY,ac,bc,rfl,hI,b1,b2,b4,b5,#[O]⟩⟩
  case step1 =>
   intro x1 kF lX lY ac bc hr1 As J;have hI:=J.1;have b1:=J.2.1;have b2:=J.2.2.1;have b4:=J.2.2.2.1;have b5:=J.2.2.2.2.1;have b3:=J.2.2.2.2.2;dsimp only;obtain⟨n1,rfl⟩:∃ n1,lX=n1+1:=⟨lX - 1,#[O]⟩;obtain⟨m1,rfl⟩:∃ m1,lY=m1+1:=⟨lY - 1,#[O]⟩;simp only [cm];refine zas (xs:=b) (i:=m1) #[O] fun y ey my=>?_
   refine zas (xs:=a) (i:=n1) #[O] fun z ez mz=>?_
   refine am #[Ke];dsimp only;by_cases xM:val y < val z
   ·refine zA (by simpa using xM) ?_;refine am #[KK];have nO:=hI.EB sb #[O] ey ez #[O];by_cases e1:n1=0
    ·refine zA (by simpa using e1) ?_;exact ap ⟨rfl,.inl ⟨_,_,rfl,nO.EA e1⟩⟩
    refine zB (by simpa using e1) ?_;refine zaO #[wE] #[wE]
    ·exact ap #[Nm]
    ·exact ap ⟨_,_,_,_,_,rfl,rfl,nO,#[O],#[O],#[O],#[O],#[O]⟩
   ·refine zB (by simpa using xM) ?_;refine am #[Na];have nO:=hI.FG sa #[O] ey ez #[O];by_cases e1:m1=1
    ·refine zA (by simpa using e1) ?_;exact ap ⟨rfl,.inl ⟨_,_,rfl,nO.first e1 sa h2 hf⟩⟩
    refine zB (by simpa using e1) ?_;refine zaO #[wE] #[wE]
    ·exact ap #[Nm]
    ·exact ap ⟨_,_,_,_,_,rfl,rfl,nO,#[O],#[O],#[O],#[O],#[O]⟩
  case post1 =>
   intro vL BR BS BN BO J;have BP:=J.1;have c1:=J.2.1;have c2:=J.2.2.1;have c4:=J.2.2.2.1;have c5:=J.2.2.2.2.1;have c3:=J.2.2.2.2.2;dsimp only
   (refine am #[IY])
   refine am (cY (fr7 (fun g kF lX lY mg ac bc=>(none,lX,lY,kF,mg,ac,bc)) (fun g kF lX lY mg ac bc=>zam st g) (fun x g kF lX lY mg ac bc=>MB val #[ss] a b kF lX lY/\1<=lX/\2<=lY/\lX<=a.size/\lY<=b.size/\lX+lY<=BR+BS)
    (Q:=fun c ku=>∃ g,ku=zam st g/\((∃ r o,c=(some r,o)/\Good val #[ss] r.toList)\/∃ kF lX lY mg ac bc,c=(none,lX,lY,kF,mg,ac,bc)/\MB val #[ss] a b kF lX lY/\1<=lX/\2<=lY/\lX<=a.size/\lY<=b.size/\lX+lY<=BR+BS)) ⟨g,vL,BR,BS,_,BN,BO,rfl,rfl,BP,c1,c2,c4,c5,ag _⟩ ?fin2 ?step2) ?post2)
   case fin2 =>
    rintro g kF lX lY mg ac bc ⟨hI,b1,b2,b4,b5,b3⟩;exact⟨g,rfl,.inr ⟨kF,lX,lY,mg,ac,bc,rfl,hI,b1,b2,b4,b5,b3⟩⟩
   case post2 =>
    rintro c ku ⟨g,rfl,hc⟩;rcases hc with ⟨r,o,rfl,hG⟩ | ⟨vM,na2,nb2,mg2,ac2,bc2,rfl,nO,d1,d2,d4,d5,d3⟩
    ·exact ap ⟨g,r,_,rfl,rfl,hG⟩
    dsimp only;refine am (zcR (ap ⟨_,vM,na2,nb2,_,rfl,rfl,nO,d1,d2,d4,d5,#[O]⟩))
   case step2 =>
    intro x2 g kF lX lY vN ac bc xN xO J;have hI:=J.1;have b1:=J.2.1;have b2:=J.2.2.1;have b4:=J.2.2.2.1;have b5:=J.2.2.2.2.1;have b3:=J.2.2.2.2.2;dsimp only;obtain⟨m1,rfl⟩:∃ m1,lY=m1+1:=⟨lY - 1,#[O]⟩;simp only [cm];refine zas (xs:=b) (i:=m1) #[O] fun y ey my=>?_
    apply dup
    ·intro k1 k2;by_cases rk:vN > 1
     ·refine zA rk ?_;clear rk;generalize vN - 1=m0
      revert m0
      exact k1
     ·refine zB rk ?_;clear rk;generalize vN=m0
      revert m0
      exact k2
    intro mg0;refine am (zcR (am (zN ey (am (zbb hC hk (mb y my) (fun i hi=>(by
     refine zas (xs:=a) (i:=0+i) #[O] fun p ep mp=>?_
     exact⟨p,ep,ma p mp⟩)) (sa.sub #[O] #[O]) #[O] fun k Au oZ uZ=>?_)))))
    dsimp only;have nO:=hI.Fj (at':=k) sb Au #[O] ey fun i h1 h2=>dO (by have:=zdB (uZ i h1 h2); rwa [cK] at this)
    by_cases sC:lX - k > 0
    ·refine zA sC ?_;by_cases e1:k=0
     ·refine zA (by simpa using e1) ?_;exact ap ⟨_,rfl,.inl ⟨_,_,rfl,nO.EA e1⟩⟩
     refine zB (by simpa using e1) ?_;obtain⟨n1,rfl⟩:∃ n1,k=n1+1:=⟨k - 1,#[O]⟩;simp only [cm];refine am #[Na];refine zas (xs:=a) (i:=n1) #[O] fun z ez mz=>?_
     have qB:=nO.FG sa #[O] ey (show a[n1+1 - 1]? = some z by rw [cm]; exact ez) (by have:=zcS (oZ n1 #[O]); rw [cK,zV ez] at this; exact this);by_cases e3:m1=1
     ·refine zA (by simpa using e3) ?_;exact ap ⟨_,rfl,.inl ⟨_,_,rfl,qB.first e3 sa h2 hf⟩⟩
     refine zB (by simpa using e3) ?_;refine am (zN ez (am (zbb hC hk (ma z mz) (fun i hi=>(by
      refine zas (xs:=b) (i:=0+i) #[O] fun p ep mp=>?_
      exact⟨p,ep,mb p mp⟩)) #[K8] #[O] fun j vJ oG uw=>?_)))
     dsimp only;have rB:=qB.EJ (at':=j) sa vJ #[O] (show a[n1+1 - 1]? = some z by rw [cm]; exact ez) fun i h1 h2=>(by have:=zcF (uw i h1 h2); rwa [cK] at this)
     by_cases rC:m1 - j > 0
     ·refine zA rC ?_;by_cases e4:j=1
      ·refine zA (by simpa using e4) ?_;exact ap ⟨_,rfl,.inl ⟨_,_,rfl,rB.first e4 sa h2 hf⟩⟩
      refine zB (by simpa using e4) ?_;by_cases e5:j=0
      ·refine zA (by simpa using e5) ?_;exact ap ⟨_,rfl,.inl ⟨_,_,rfl,rB.Ez e5⟩⟩
      refine zB (by simpa using e5) ?_;refine zas (xs:=b) (i:=j - 1) #[O] fun y2 n9 vO=>?_
      refine am #[KK];have mL:=rB.EB sb #[O] n9 ez (by have:=zbT #[Lu]; rw [cK,zV n9] at this; lia);by_cases e9:n1=0
      ·refine zA (by simpa using e9) ?_;exact ap ⟨_,rfl,.inl ⟨_,_,rfl,mL.EA e9⟩⟩
      refine zB (by simpa using e9) ?_;refine zaO #[wE] #[wE]
      ·exact ap #[Do]
      ·exact ap #[Go]
     ·refine zB rC ?_;have BU:j=m1:=by lia
      subst BU;refine zas (xs:=b) (i:=j - 1) #[O] fun y2 n9 vO=>?_
      refine am #[KK];have mL:=qB.EB sb #[O] n9 ez (by have:=zbT #[Lu]; rw [cK,zV n9] at this; lia);by_cases e9:n1=0
      ·refine zA (by simpa using e9) ?_;exact ap ⟨_,rfl,.inl ⟨_,_,rfl,mL.EA e9⟩⟩
      refine zB (by simpa using e9) ?_;refine zaO #[wE] #[wE]
      ·exact ap #[Do]
      ·exact ap #[Go]
    ·refine zB sC ?_;have Ar:k=lX:=by lia
     subst Ar;obtain⟨n1,rfl⟩:∃ n1,k=n1+1:=⟨k - 1,#[O]⟩;simp only [cm];refine am #[Na];refine zas (xs:=a) (i:=n1) #[O] fun z ez mz=>?_
     have qB:=hI.FG sa #[O] ey (show a[n1+1 - 1]? = some z by rw [cm]; exact ez) (by have:=zcS (oZ n1 #[O]); rw [cK,zV ez] at this; exact this);by_cases e3:m1=1
     ·refine zA (by simpa using e3) ?_;exact ap ⟨_,rfl,.inl ⟨_,_,rfl,qB.first e3 sa h2 hf⟩⟩
     refine zB (by simpa using e3) ?_;refine am (zN ez (am (zbb hC hk (ma z mz) (fun i hi=>(by
      refine zas (xs:=b) (i:=0+i) #[O] fun p ep mp=>?_
      exact⟨p,ep,mb p mp⟩)) #[K8] #[O] fun j vJ oG uw=>?_)))
     dsimp only;have rB:=qB.EJ (at':=j) sa vJ #[O] (show a[n1+1 - 1]? = some z by rw [cm]; exact ez) fun i h1 h2=>(by have:=zcF (uw i h1 h2); rwa [cK] at this)
     by_cases rC:m1 - j > 0
     ·refine zA rC ?_;by_cases e4:j=1
      ·refine zA (by simpa using e4) ?_;exact ap ⟨_,rfl,.inl ⟨_,_,rfl,rB.first e4 sa h2 hf⟩⟩
      refine zB (by simpa using e4) ?_;by_cases e5:j=0
      ·refine zA (by simpa using e5) ?_;exact ap ⟨_,rfl,.inl ⟨_,_,rfl,rB.Ez e5⟩⟩
      refine zB (by simpa using e5) ?_;refine zas (xs:=b) (i:=j - 1) #[O] fun y2 n9 vO=>?_
      refine am #[KK];have mL:=rB.EB sb #[O] n9 ez (by have:=zbT #[Lu]; rw [cK,zV n9] at this; lia);by_cases e9:n1=0
      ·refine zA (by simpa using e9) ?_;exact ap ⟨_,rfl,.inl ⟨_,_,rfl,mL.EA e9⟩⟩
      refine zB (by simpa using e9) ?_;refine zaO #[wE] #[wE]
      ·exact ap #[Do]
      ·exact ap #[Go]
     ·refine zB rC ?_;have BU:j=m1:=by lia
      subst BU;refine zas (xs:=b) (i:=j - 1) #[O] fun y2 n9 vO=>?_
      refine am #[KK];have mL:=qB.EB sb #[O] n9 ez (by have:=zbT #[Lu]; rw [cK,zV n9] at this; lia);by_cases e9:n1=0
      ·refine zA (by simpa using e9) ?_;exact ap ⟨_,rfl,.inl ⟨_,_,rfl,mL.EA e9⟩⟩
      refine zB (by simpa using e9) ?_;refine zaO #[wE] #[wE]
      ·exact ap #[Do]
      ·exact ap #[Go]
end
end Srt
end
section
namespace Srt
open PySem PyProof.Rows
variable {j k sa:Nat}
noncomputable def wb (sa:Nat) (l:List (Keyed×Nat)) (xs:Array Keyed):Array Keyed:=l.foldl (fun a (p,j)=>a.setIfInBounds (sa+j) p) xs
theorem zjB (sa:Nat):∀ (l:List Keyed) (n:Nat) (xs:Array Keyed) (k:Nat),sa+n+l.length<=xs.size->(wb sa (l.zipIdx n) xs)[k]? = if sa+n<=k/\k < sa+n+l.length then l[k - (sa+n)]? else xs[k]?
 | [],n,xs,k,h=>by
  rw [if_neg (by simp only [gL]; lia)];rfl
 | p :: l,n,xs,k,h=>by
  have hl:(p :: l).length=l.length+1:=rfl;rw [hl] at h |-;show (wb sa (l.zipIdx (n+1)) (xs.setIfInBounds (sa+n) p))[k]? = _;rw [zjB sa l (n+1) _ k (by rw [Array.size_setIfInBounds]; lia)];by_cases h1:sa+(n+1)<=k/\k < sa+(n+1)+l.length
  ·rw [if_pos h1,if_pos #[O],show k - (sa+n)=k - (sa+(n+1))+1 by lia,cv]
  ·rw [if_neg h1,Array.getElem?_setIfInBounds];by_cases h2:sa+n=k
   ·rw [if_pos h2,if_pos #[O],if_pos #[O],show k - (sa+n)=0 by lia];rfl
   ·rw [if_neg h2,if_neg #[O]]
theorem zkG {m xs:Array Keyed} (h:sa+m.size<=xs.size):#[Np].toList=xs.toList.take sa++m.toList++xs.toList.drop (sa+m.size):=by
 have hm:m.toList.length=m.size:=by simp
 have hx:xs.toList.length=xs.size:=by simp
 refine jr fun k=>?_
 rw [aY,zjB sa m.toList 0 xs k (by rw [hm]; lia),hm,eu];by_cases h1:k < sa
 ·rw [if_neg #[O],bn,dj (by rw [aG]; lia),ek h1,aY]
 ·by_cases h2:k < sa+m.size
  ·rw [if_pos #[O],bn,de (by rw [aG]; lia),aG,hx,show min sa xs.size=sa by lia,dj #[O]]
  ·rw [if_neg #[O],de (by rw [aA,aG]; lia),aA,aG,hx,show min sa xs.size=sa by lia,hm,et,show sa+m.size+(k - (sa+m.size))=k by lia,aY]
theorem zii (xs:List Keyed) {i:Nat} (h1:i<=j) (h2:j<=k):xs=xs.take i++((xs.drop i).take (j - i)++(xs.drop j).take (k - j))++xs.drop k:=by
 have e1:xs.drop i=(xs.drop i).take (j - i)++xs.drop j:=by
  have:=(bN (j - i) (xs.drop i)).symm
  rwa [fL,show i+(j - i)=j by lia] at this
 have e2:xs.drop j=(xs.drop j).take (k - j)++xs.drop k:=by
  have:=(bN (k - j) (xs.drop j)).symm
  rwa [fL,show j+(k - j)=k by lia] at this
 have e0:=(bN i xs).symm;rw [e1,e2] at e0;rw [bn,bn];exact e0
theorem zcT (xs:Array Keyed) (i j:Nat):#[JL].toList=#[JU].take (j - i):=by
 rw [cL]
theorem zkH {sb e:Nat} {m xs:Array Keyed} (h1:sa<=sb) (h2:sb<=e) (h3:e<=xs.size) (hp:m.toList.Perm ((xs.extract sa sb).toList++(xs.extract sb e).toList)):#[Np].Perm xs:=by
 have hms:m.size=e - sa:=by
  have:=hp.length_eq;rw [aA,zcT,zcT,aG,aG,bL,bL] at this;have hx:xs.toList.length=xs.size:=by simp
  have hm:m.toList.length=m.size:=by simp
  lia
 rw [d7,zkG #[O],show sa+m.size=e by lia];refine ee ((hp.append_left _).append_right _) ?_;rw [zcT,zcT,<- zii xs.toList h1 h2]
section
variable {prog:Program} {w:World} {A:Around} {E:Value->Shared->Prop} {s:Shared} {a₀:Array Keyed} {κ:SortKind} {val:Keyed->Int}
theorem zcG {xs:Array Keyed} {i:Nat} (h:k < j - i) (hj:j<=xs.size):#[JL][k]? = xs[i+k]?:=by
 rw [<- aY,zcT,ek h,et,aY]
theorem zcU {xs:Array Keyed} {i:Nat} (hj:j<=xs.size):#[JL].size=j - i:=by rw [Array.size_extract,fu hj]
theorem zhw {xs:Array Keyed} {i:Nat} (hj:j<=xs.size) (h:SIn val xs i j):SIn val #[JL] 0 #[JL].size:=by
 rw [zcU hj];intro p q _ hpq hq;rw [zah (zcG #[O] hj),zah (zcG hq hj)];exact h _ _ #[O] #[O] #[O]
theorem zdC {xs:Array Keyed} {i:Nat} (hj:j<=xs.size) {p:Keyed} (h:p∈#[JL].toList):∃ k,i<=k/\k < j/\xs[k]? = some p:=by
 obtain⟨k,hk,e⟩:=bS h;have sJ:k < j - i:=by
  rwa [bw,zcU hj] at hk
 refine⟨i+k,#[O],#[O],?_⟩;rw [<- zcG sJ hj,<- aY,ah hk,e]
theorem zij {st:SortSt} {i na pw sb nb pw2:Nat} {Q:Bool->SortSt->Prop} (hC:Cmp prog w A s κ val a₀) (hB:SB κ a₀ st) (e1:#[Ki][i]? = some (sa,na,pw)) (e2:#[Ki][i+1]? = some (sb,nb,pw2))
  (xA:sb=sa+na) (hna:1<=na) (hnb:1<=nb) (hsz:sb+nb<=a₀.size) (sA:SIn val #[py] sa (sa+na)) (sB:SIn val #[py] sb (sb+nb))
  (h:∀ ku,SB κ a₀ ku->pendingOf ku=(#[Ki].setIfInBounds i (sa,na+nb,pw)).eraseIdxIfInBounds (i+1)->(∀ k,(k < sa\/sb+nb<=k)->#[wp][k]? = #[py][k]?)->SIn val #[wp] sa (sb+nb)->Q true ku) :
  wpS #[or] A E s (mergeAt' i) Q st:=by
 refine zfe ?_
 wp_delta
 wp_delta
 refine zff ?_;refine am (eF ?_);rw [e1,e2];dsimp only;have xP:=hB.size;obtain⟨y0,sD,BJ⟩:=hB.mem (i:=sb) #[O];generalize vQ:(sortPriv% PySem.Builtin.SortState.mk) (kindOf st) #[py] ((#[Ki].setIfInBounds i (sa,na+nb,pw)).eraseIdxIfInBounds (i+1)) #[Ly] (failedOf st)=pI;have sT:SB κ a₀ pI:=by subst vQ; exact⟨hB.perm,hB.kind,hB.failed⟩
 have sU:pendingOf pI=(#[Ki].setIfInBounds i (sa,na+nb,pw)).eraseIdxIfInBounds (i+1):=by subst vQ; rfl
 have sE:arrOf pI=arrOf st:=by subst vQ; rfl
 have ux:∀ n,n < a₀.size->∃ p,#[py][n]? = some p/\p∈a₀.toList:=fun n hn=>hB.mem hn
 refine am (show wpS _ _ _ _ (set pI) _ st from dY (f:=fun _=>pI) ?_);refine am (zN sD (am (zbb (arr:=arrOf st) hC sT.kind BJ (fun j hj=>ux (sa+j) #[O]) sA #[O] fun k Au oZ uZ=>?_)));dsimp only;have xQ:∀ j,sa<=j->j < sa+k->Vk val #[py] j<=Vk val #[py] sb:=fun j h1 h2=>by
  have:=zcS (oZ (j - sa) #[O])
  rwa [show sa+(j - sa)=j by lia,<- zV (val:=val) sD] at this
 by_cases sC:na - k=0
 ·rw [if_pos (by simpa using sC)];refine ap (h pI sT sU (fun _ _=>by rw [sE]) ?_);rw [sE];intro p q h1 h2 h3;by_cases hq:q < sa+na
  ·exact sA p q h1 h2 hq
  ·by_cases hp:p < sa+na
   ·exact bu (xQ p h1 #[O]) (sB sb q #[O] #[O] h3)
   ·exact sB p q #[O] h2 h3
 rw [if_neg (by simpa using sC)];have xR:sa+k+(na - k) - 1=sa+na - 1:=by lia
 rw [xR];obtain⟨x0,qS,BK⟩:=hB.mem (i:=sa+na - 1) #[O];refine am (zN qS (am (zbb (arr:=arrOf st) hC sT.kind BK (fun j hj=>ux (sb+j) #[O]) sB #[O] fun m tY sP BV=>?_)));dsimp only;have u6:∀ j,sb+m<=j->j < sb+nb->Vk val #[py] (sa+na - 1)<=Vk val #[py] j:=fun j h1 h2=>by
  have:=zcF (BV (j - sb) #[O] #[O])
  rwa [show sb+(j - sb)=j by lia,<- zV (val:=val) qS] at this
 have BW:∀ j,sb<=j->j < sb+m->Vk val #[py] j < Vk val #[py] (sa+na - 1):=fun j h1 h2=>by
  have:=zbT (sP (j - sb) #[O])
  rwa [show sb+(j - sb)=j by lia,<- zV (val:=val) qS] at this
 by_cases hm0:m=0
 ·rw [if_pos (by simpa using hm0)];refine ap (h pI sT sU (fun _ _=>by rw [sE]) ?_);rw [sE];intro p q h1 h2 h3;by_cases hq:q < sa+na
  ·exact sA p q h1 h2 hq
  ·by_cases hp:p < sa+na
   ·exact bu (sA p (sa+na - 1) h1 #[O] #[O]) (u6 q #[O] h3)
   ·exact sB p q #[O] h2 h3
 rw [if_neg (by simpa using hm0)];have zx:#[py].size=a₀.size:=xP;have z1:=zcU (xs:=arrOf st) (i:=sa+k) (j:=sb) #[O];have z2:=zcU (xs:=arrOf st) (i:=sb) (j:=sb+m) #[O];have hf:Vk val (#[py].extract sb (sb+m)) 0<=Vk val (#[py].extract (sa+k) sb) 0:=by
  rw [zah (zcG #[O] #[O]),zah (zcG (xs:=arrOf st) (i:=sa+k) (j:=sb) (k:=0) #[O] #[O])];have:=zdB (uZ k (ag _) #[O]);rw [<- zV (val:=val) sD] at this;simp only [eu] at this |-;lia
 have hl:∀ j,j < (#[py].extract sb (sb+m)).size->Vk val (#[py].extract sb (sb+m)) j<=Vk val (#[py].extract (sa+k) sb) ((#[py].extract (sa+k) sb).size - 1):=by
  intro j hj;rw [z2] at hj;rw [z1,zah (zcG #[O] #[O]),zah (zcG (xs:=arrOf st) (i:=sa+k) (j:=sb) #[O] #[O])];have:=BW (sb+j) #[O] #[O];rw [show sa+k+(sb - (sa+k) - 1)=sa+na - 1 by lia];lia
 have fin:∀ (out:Array Keyed) (g:Nat),Good val ((#[py].extract (sa+k) sb).toList++(#[py].extract sb (sb+m)).toList) out.toList ->
   wpS #[or] A E s (do
    modify fun s=>setArr s (out.toList.zipIdx.foldl (fun a (p,j)=>a.setIfInBounds (sa+k+j) p) (arrOf s))
    let s' <- get
    pure (failedOf s').isNone) Q (zam pI g):=by
  intro out g hG;refine am (dY (am (eF ?_)));have hms:out.size=sb+m - (sa+k):=by
   have:=hG.1.length_eq;rw [aA] at this;have e1:out.toList.length=out.size:=by simp
   have e2:(#[py].extract (sa+k) sb).toList.length=sb - (sa+k):=by rw [bw,z1]
   have e3:(#[py].extract sb (sb+m)).toList.length=sb+m - sb:=by rw [bw,z2]
   lia
  have lZ:=zkH (xs:=arrOf st) (sa:=sa+k) (sb:=sb) (e:=sb+m) #[O] #[O] #[O] hG.1;have l7:∀ n,#[wP][n]? = if sa+k<=n/\n < sb+m then out[n - (sa+k)]? else #[py][n]?:=fun n=>by
   have:=zjB (sa+k) out.toList 0 #[py] n (by rw [bw]; lia);rw [bw,eu,hms,show sa+k+(sb+m - (sa+k))=sb+m by lia,aY] at this;exact this
  have tV:(failedOf (setArr (zam pI g) #[wP])).isNone=true:=by
   show (failedOf pI).isNone=true;rw [sT.failed];rfl
  have BX:arrOf (zam pI g)=arrOf st:=sE;show wpS _ _ _ _ (pure (failedOf #[JO]).isNone) Q #[JO];rw [BX,tV];refine ap (h _ ⟨lZ.trans hB.perm,sT.kind,sT.failed⟩ sU (fun n hn=>?_) ?_)
  ·show #[wP][n]? = _;rw [l7,if_neg #[O]]
  ·show SIn val #[wP] sa (sb+nb);have oD:∀ n,sa+k<=n->n < sb+m->∃ q,sa+k<=q/\q < sb+m/\Vk val #[wP] n=Vk val #[py] q:=fun n h1 h2=>by
    have ho:n - (sa+k) < out.size:=by lia
    have qO:out[n - (sa+k)]? = some out[n - (sa+k)]:=getElem?_pos out _ ho;have kZ:out[n - (sa+k)]∈(#[py].extract (sa+k) sb).toList++(#[py].extract sb (sb+m)).toList:=hG.1.mem_iff.mp #[M];have hv:Vk val #[wP] n=val out[n - (sa+k)]:=zV (by rw [l7,if_pos ⟨h1,h2⟩,qO]);rcases aR.mp kZ with kZ | kZ
    ·obtain⟨q,q1,q2,q3⟩:=zdC #[O] kZ;exact⟨q,q1,#[O],by rw [hv,zV q3]⟩
    ·obtain⟨q,q1,q2,q3⟩:=zdC #[O] kZ;exact⟨q,#[O],q2,by rw [hv,zV q3]⟩
   have rD:∀ n,¬ (sa+k<=n/\n < sb+m)->Vk val #[wP] n=Vk val #[py] n:=fun n hn=>zah (by rw [l7,if_neg hn])
   intro p q h1 h2 h3;by_cases hp:p < sa+k
   ·rw [rD p #[O]];by_cases hq:q < sa+k
    ·rw [rD q #[O]];exact sA p q h1 h2 #[O]
    ·have key:∀ q',sa+k<=q'->q' < sb+nb->Vk val #[py] p<=Vk val #[py] q':=fun q' a1 a2=>by
      by_cases sF:q' < sb
      ·exact sA p q' h1 #[O] #[O]
      ·exact bu (xQ p h1 hp) (sB sb q' #[O] #[O] a2)
     by_cases rn:q < sb+m
     ·obtain⟨q',q1,q2,q3⟩:=oD q #[O] rn;rw [q3];exact key q' q1 #[O]
     ·rw [rD q #[O]];exact key q #[O] h3
   ·by_cases nj:p < sb+m
    ·by_cases rn:q < sb+m
     ·have vR:p - (sa+k) < out.size:=by lia
      have qO:q - (sa+k) < out.size:=by lia
      rw [zV (p:=out[p - (sa+k)]) (by rw [l7,if_pos #[O]]; exact getElem?_pos out _ vR),zV (p:=out[q - (sa+k)]) (by rw [l7,if_pos #[O]]; exact getElem?_pos out _ qO)];by_cases hpq:p=q
      ·subst hpq;exact bH _
      ·have:=ef.mp hG.2 (p - (sa+k)) (q - (sa+k)) (by simpa using vR) (by simpa using qO) #[O];simpa using this
     ·obtain⟨p',p1,p2,p3⟩:=oD p #[O] nj;rw [p3,rD q #[O]];by_cases n6:p' < sb
      ·exact bu (sA p' (sa+na - 1) #[O] #[O] #[O]) (u6 q #[O] h3)
      ·exact sB p' q #[O] #[O] h3
    ·rw [rD p #[O],rD q #[O]];exact sB p q #[O] h2 h3
 have ma:∀ p∈(#[py].extract (sa+k) sb).toList,p∈a₀.toList:=fun p hp=>by
  obtain⟨q,q1,q2,q3⟩:=zdC #[O] hp;obtain⟨p',e,m'⟩:=ux q #[O];rw [q3] at e;cases e;exact m'
 have mb:∀ p∈(#[py].extract sb (sb+m)).toList,p∈a₀.toList:=fun p hp=>by
  obtain⟨q,q1,q2,q3⟩:=zdC #[O] hp;obtain⟨p',e,m'⟩:=ux q #[O];rw [q3] at e;cases e;exact m'
 have ss1:=zhw (val:=val) (xs:=arrOf st) (i:=sa+k) (j:=sb) #[O] (sA.sub #[O] #[O]);have ss2:=zhw (val:=val) (xs:=arrOf st) (i:=sb) (j:=sb+m) #[O] (sB.sub #[O] #[O]);by_cases hle:na - k<=m
 ·rw [if_pos hle];exact am (zig (a:=#[py].extract (sa+k) sb) (b:=#[py].extract sb (sb+m)) hC sT.kind ma mb ss1 ss2 #[O] #[O] hf hl fin)
 ·rw [if_neg hle];exact am (zih (a:=#[py].extract (sa+k) sb) (b:=#[py].extract sb (sb+m)) hC sT.kind ma mb ss1 ss2 #[O] #[O] hf hl fin)
end
end Srt
end
section
namespace Srt
open PySem PyProof.Rows
variable {j:Nat}
noncomputable def Runs (val:Keyed->Int) (xs:Array Keyed):List (Nat×Nat×Nat)->Nat->Nat->Prop
 | [],lo,hi=>lo=hi
 | (s,n,_) :: r,lo,hi=>s=lo/\1<=n/\SIn val xs lo (lo+n)/\Runs val xs r (lo+n) hi
section
variable {val:Keyed->Int}
theorem Runs.le {xs:Array Keyed}:∀ {p:List (Nat×Nat×Nat)} {lo hi:Nat},Runs val xs p lo hi->lo+p.length<=hi
 | [],lo,hi,h=>by
  have h:lo=hi:=h;simp only [gL];lia
 | (s,n,w) :: r,lo,hi,h=>by
  obtain⟨_,h1,_,h2⟩:=h;have:=h2.le;simp only [bA];lia
theorem Runs.append {xs:Array Keyed}:∀ {p q:List (Nat×Nat×Nat)} {lo hi:Nat},Runs val xs (p++q) lo hi↔∃ mid,Runs val xs p lo mid/\Runs val xs q mid hi
 | [],q,lo,hi=>⟨fun h=>⟨lo,rfl,h⟩,fun ⟨mid,h1,h2⟩=>by
   have h1:lo=mid:=h1;subst h1;exact h2⟩
 | (s,n,w) :: p,q,lo,hi=>by
  constructor
  ·rintro⟨h1,h2,h3,h4⟩;obtain⟨mid,h5,h6⟩:=Runs.append.mp h4;exact⟨mid,⟨h1,h2,h3,h5⟩,h6⟩
  ·rintro⟨mid,⟨h1,h2,h3,h5⟩,h6⟩;exact⟨h1,h2,h3,Runs.append.mpr ⟨mid,h5,h6⟩⟩
theorem Runs.keep {xs ys:Array Keyed}:∀ {p:List (Nat×Nat×Nat)} {lo hi:Nat},Runs val xs p lo hi->(∀ k,lo<=k->k < hi->ys[k]? = xs[k]?)->Runs val ys p lo hi
 | [],lo,hi,h,_=>h
 | (s,n,w) :: p,lo,hi,h,e=>by
  obtain⟨h1,h2,h3,h4⟩:=h;have:=h4.le;refine⟨h1,h2,fun i j a b c=>?_,h4.keep fun k a b=>e k #[O] b⟩;rw [zah (e i #[O] #[O]),zah (e j #[O] #[O])];exact h3 i j a b c
theorem zjC {α:Type} (p q:List α) (x y v:α):((p++x :: y :: q).toArray.setIfInBounds p.length v).eraseIdxIfInBounds (p.length+1)=(p++v :: q).toArray:=by
 simp [Array.eraseIdxIfInBounds];rw [List.eraseIdx_append_of_length_le #[O],show p.length+1 - p.length=1 by lia];rfl
theorem zjD {α:Type} (q:List α) (z:α) (f:α->α):(q++[z]).toArray.modify ((q++[z]).toArray.size - 1) f=(q++[f z]).toArray:=by
 apply Array.ext';simp;induction q with
 | nil=>rfl
 | cons a q ih =>
  show (a :: (q++[z])).modify (q.length+1) f=a :: (q++[f z]);rw [List.modify_succ_cons,ih]
theorem zhx {xs:Array Keyed} {p:List (Nat×Nat×Nat)} {n:Nat} (hl:p.length<=1) (hn:1<=n) (h:Runs val xs p 0 n):SIn val xs 0 n:=by
 match p,hl,h with
 | [],_,h =>
  have h:0=n:=h;lia
 | [(a,b,c)],_,h =>
  obtain⟨_,_,h3,h4⟩:=h;have h4:0+b=n:=h4;rw [<- h4];exact h3
 | _ :: _ :: _,hl,_=>simp at hl
theorem zik {α:Type} {p:List α} (h:j+2<=p.length):∃ pre x y post,p=pre++x :: y :: post/\pre.length=j:=by
 refine⟨p.take j,p[j],p[j+1],p.drop (j+2),?_,by rw [aG]; lia⟩;have e1:=(bN j p).symm;rw [cf (show j < p.length by lia),cf (show j+1 < p.length by lia)] at e1;exact e1
end
section
variable {prog:Program} {w:World} {A:Around} {E:Value->Shared->Prop} {s:Shared} {a₀:Array Keyed} {κ:SortKind} {val:Keyed->Int}
theorem zgd {st:SortSt} {pre post:List (Nat×Nat×Nat)} {x y:Nat×Nat×Nat} {hi:Nat} {Q:Bool->SortSt->Prop} (hC:Cmp prog w A s κ val a₀) (hB:SB κ a₀ st) (hp:pendingOf st=(pre++x :: y :: post).toArray) (hR:Runs val #[py] (pre++x :: y :: post) 0 hi) (uu:hi<=a₀.size)
  (h:∀ ku v,SB κ a₀ ku->pendingOf ku=(pre++v :: post).toArray->(∀ k,hi<=k->#[wp][k]? = #[py][k]?)->Runs val #[wp] (pre++v :: post) 0 hi->Q true ku) :
  wpS #[or] A E s (mergeAt' pre.length) Q st:=by
 obtain⟨sa,na,pw⟩:=x;obtain⟨sb,nb,pw2⟩:=y;obtain⟨mid,r1,r2⟩:=Runs.append.mp hR;obtain⟨rfl,q1,q2,rfl,q4,q5,r3⟩:=r2;have hle:=r3.le;refine zij (i:=pre.length) (sa:=sa) (na:=na) (pw:=pw) (sb:=sa+na) (nb:=nb) (pw2:=pw2) hC hB (by rw [hp]; simp) (by rw [hp]; simp) rfl q1 q4 #[O] q2 q5 fun ku mK n6 hk hs=>?_
 refine h ku (sa,na+nb,pw) mK (by rw [n6,hp,zjC]) (fun k sJ=>hk k #[O]) ?_;refine Runs.append.mpr ⟨sa,r1.keep fun k _ b=>hk k #[O],rfl,#[O],?_,?_⟩
 ·rw [<- iC];exact hs
 ·rw [<- iC];exact r3.keep fun k a b=>hk k #[O]
theorem zkI {n:Nat} {c:Prop} [Decidable c] (h:¬ n<=1):(if c then n - 2 - 1 else n - 2)+2<=n:=by
 by_cases hc:c
 ·rw [if_pos hc];lia
 ·rw [if_neg hc];lia
theorem zjE {st:SortSt} {p:List (Nat×Nat×Nat)} {hi:Nat} {Q:Bool->SortSt->Prop} (hj:j+2<=p.length) (hC:Cmp prog w A s κ val a₀) (hB:SB κ a₀ st) (hp:pendingOf st=p.toArray) (hR:Runs val #[py] p 0 hi) (uu:hi<=a₀.size)
  (h:∀ ku p',SB κ a₀ ku->pendingOf ku=p'.toArray->Runs val #[wp] p' 0 hi->p'.length+1=p.length->Q true ku):wpS #[or] A E s (mergeAt' j) Q st:=by
 obtain⟨pre,x,y,post,rfl,rfl⟩:=zik hj;exact zgd hC hB hp hR uu fun ku v a b _ d=>h ku _ a b d (by simp only [aA,bA]; lia)
theorem zlX {st:SortSt} {Q:Unit->SortSt->Prop} (hC:Cmp prog w A s κ val a₀) (hB:SB κ a₀ st) (hp:pendingOf st = #[]) (h2:1<=a₀.size)
  (h:∀ ku,SB κ a₀ ku->SIn val #[wp] 0 a₀.size->Q () ku):wpS #[or] A E s sortRuns' Q st:=by
 rw [sortRuns'_eq];refine am (eF ?_);dsimp only;rw [hB.size];generalize minRun' a₀.size a₀.size 0=mr;refine am (cY (ck (I:=fun x c ku=>∃ lo p,c=(none,lo)/\SB κ a₀ ku/\pendingOf ku=p.toArray/\Runs val #[wp] p 0 lo/\lo<=a₀.size/\min x a₀.size<=lo)
  (Q:=fun c ku=>∃ p,c=(none,a₀.size)/\SB κ a₀ ku/\pendingOf ku=p.toArray/\Runs val #[wp] p 0 a₀.size) ?step ?fin ⟨0,[],rfl,hB,hp,rfl,#[O],#[O]⟩) ?post)
 case fin =>
  rintro c ku ⟨lo,p,rfl,mK,n6,hR,nR,hx⟩;have:lo=a₀.size:=by lia
  subst this;exact⟨p,rfl,mK,n6,hR⟩
 case step =>
  rintro x c ku _ hx ⟨lo,p,rfl,mK,n6,hR,nR,BY⟩;dsimp only;by_cases nS:lo>=a₀.size
  ·rw [if_pos nS];have:lo=a₀.size:=by lia
   subst this;exact ap ⟨p,rfl,mK,n6,hR⟩
  rw [if_neg nS];refine am (zkD hC #[O] #[O] (SF.refl mK) fun m pI hF1 tY sP hs1=>?_);dsimp only;apply zmY
  ·intro k1 k2;by_cases BZ:m < mr
   ·rw [if_pos BZ]
    (refine am #[IY])
    refine am (zmz hC #[O] #[O] hF1 hs1 fun l6 u7 qt=>?_);rw [if_neg #[D]];have sx:1<=min #[Nl] mr:=by lia
    have sy:lo+min #[Nl] mr<=a₀.size:=by lia
    generalize min #[Nl] mr=n at qt sx sy |-
    revert sy; revert sx; revert qt; revert u7; revert l6; revert n
    exact k1 ()
   ·rw [if_neg BZ];have sy:lo+m<=a₀.size:=by lia
    clear sP BZ
    revert sy; revert tY; revert hs1; revert hF1; revert pI; revert m
    exact k2 ()
  intro n l6 u7 qt sx sy;refine am (eF ?_);have sU:pendingOf l6=p.toArray:=u7.pend.trans n6;have wW:Runs val (arrOf l6) p 0 lo:=hR.keep fun k _ b=>u7.low k b
  rcases hJ p with rfl | ⟨q,z,rfl⟩
  ·rw [sU];show wpS _ _ _ _ (do
    modify fun s=>setPending s ((pendingOf s).push (lo,n,0)); pure (cb (none,lo+n))) _ _
   refine am (dY (ap ⟨lo+n,[(lo,n,0)],rfl,⟨u7.b.perm,u7.b.kind,u7.b.failed⟩,?_,?_,#[O],#[O]⟩))
   ·show #[Jw].push _=_;rw [sU];rfl
   ·have h0:0=lo:=wW;subst h0;exact⟨rfl,sx,qt,rfl⟩
  obtain⟨s1,n1,w1⟩:=z;rw [sU,ff,show ((q++[(s1,n1,w1)]).toArray).back? = some (s1,n1,w1) by simp];rw [ff] at sU wW;dsimp only;generalize power' a₀.size (2*s1+n1) (2*s1+n1+n1+n) a₀.size=pw;refine am (cY (ck (I:=fun _ c ku=>c=(none,())/\∃ q' z,SB κ a₀ ku/\pendingOf ku=(q'++[z]).toArray/\Runs val #[wp] (q'++[z]) 0 lo/\(∀ k,lo<=k->#[wp][k]? = (arrOf l6)[k]?))
   (Q:=fun c ku=>c=(none,())/\∃ q' z,SB κ a₀ ku/\pendingOf ku=(q'++[z]).toArray/\Runs val #[wp] (q'++[z]) 0 lo/\(∀ k,lo<=k->#[wp][k]? = (arrOf l6)[k]?)) ?_ (fun _ _ hh=>hh) ⟨rfl,q,(s1,n1,w1),u7.b,sU,wW,fun _ _=>rfl⟩) ?_)
  ·rintro x2 c l6 _ xO ⟨rfl,q',z,pT,nj,sV,oZ⟩;refine am (eF ?_);rcases hJ q' with rfl | ⟨q2,y,rfl⟩
   ·rw [nj,if_neg #[M]];exact ap ⟨rfl,[],z,pT,nj,sV,oZ⟩
   rw [ff,bn] at nj sV;have esz:#[Jw].size - 2=q2.length:=by rw [nj]; simp
   have eel:(if #[Jw].size > 1 then #[Jw][#[Jw].size - 2]? else none)=some y:=by
    rw [if_pos (by rw [nj]; simp),esz,nj];simp
   rw [eel];obtain⟨y1,y2,y3⟩:=y;dsimp only;by_cases ho:y3<=pw
   ·rw [if_pos ho];exact ap ⟨rfl,q2++[(y1,y2,y3)],z,pT,by rw [nj,bn],by rw [bn]; exact sV,oZ⟩
   ·rw [if_neg ho,esz];refine am (zgd hC pT nj sV #[O] fun vx v va t5 uZ B0=>?_);rw [if_neg #[D]];exact ap ⟨rfl,q2,v,va,t5,B0,fun k hk=>(uZ k hk).trans (oZ k hk)⟩
  ·rintro c l6 ⟨rfl,q',z,pT,nj,sV,oZ⟩;obtain⟨z1,z2,z3⟩:=z;dsimp only;refine am (dY (am (dY (ap ⟨lo+n,q'++[(z1,z2,pw),(lo,n,0)],rfl,⟨pT.perm,pT.kind,pT.failed⟩,?_,?_,#[O],#[O]⟩))))
   ·show (#[Jw].modify (#[Jw].size - 1) fun x=>(x.fst,x.2.fst,pw)).push (lo,n,0)=_;rw [nj,zjD];simp
   ·show Runs val (arrOf l6) _ _ _;obtain⟨mid,r1,r2⟩:=Runs.append.mp sV;obtain⟨e1,e2,e3,e4⟩:=r2;have e4:mid+z2=lo:=e4;refine Runs.append.mpr ⟨mid,r1,e1,e2,e3,e4.symm,sx,?_,?_⟩
    ·intro i j a1 a2 a3;rw [zah (oZ i #[O]),zah (oZ j #[O])];exact qt i j #[O] a2 #[O]
    ·show mid+z2+n=lo+n;lia
 case post =>
  rintro c pI ⟨p,rfl,sT,sU,wW⟩;dsimp only;have lR:=wW.le;refine am (cY (ck (I:=fun x c ku=>c=(none,())/\∃ p,SB κ a₀ ku/\pendingOf ku=p.toArray/\Runs val #[wp] p 0 a₀.size/\p.length<=max 1 (a₀.size - x))
   (Q:=fun c ku=>c=(none,())/\SB κ a₀ ku/\SIn val #[wp] 0 a₀.size) ?_ ?_ ⟨rfl,p,sT,sU,wW,#[O]⟩) ?_)
  ·rintro x c l6 _ hx ⟨rfl,p2,pT,nj,sV,mS⟩;refine am (eF ?_);have hsz:#[Jw].size=p2.length:=by rw [nj]; simp
   rw [hsz];by_cases hle:p2.length<=1
   ·rw [if_pos hle];exact ap ⟨rfl,pT,zhx hle h2 sV⟩
   rw [if_neg hle];refine am (zjE (p:=p2) (zkI hle) hC pT nj sV (ag _) fun vx p3 va t5 B0 vS=>?_);rw [if_neg #[D]];exact ap ⟨rfl,p3,va,t5,B0,#[O]⟩
  ·rintro c l6 ⟨rfl,p2,pT,nj,sV,mS⟩;exact⟨rfl,pT,zhx #[O] h2 sV⟩
  ·rintro c l6 ⟨rfl,pT,hS⟩;exact ap (h l6 pT hS)
end
end Srt
end
section
namespace Srt
open PySem PyProof.Rows
noncomputable def num (B:Int):List Int->Int
 | []=>0
 | n :: r=>n*B ^ r.length+num B r
theorem EL {B:Int} (hB:1<=B):∀ {ns:List Int},(∀ n∈ns,0<=n/\n < B)->0<=num B ns/\num B ns < B ^ ns.length
 | [],_=>by simp [num]
 | n :: r,h=>by
  obtain⟨h1,h2⟩:=EL hB (ns:=r) fun m hm=>h m (aj _ hm)
  obtain⟨a,b⟩:=h n #[M];have hp:0 < B ^ r.length:=Int.pow_pos #[O];have e:B ^ (n :: r).length=B ^ r.length*B:=by rw [bA,Int.pow_succ]
  show 0<=n*B ^ r.length+num B r/\n*B ^ r.length+num B r < _;rw [e];have h3:0<=n*B ^ r.length:=Int.mul_nonneg a #[O];have h4:n*B ^ r.length<=(B - 1)*B ^ r.length:=cM #[O] #[O];have h5:(B - 1)*B ^ r.length=B ^ r.length*B - B ^ r.length:=by rw [Int.sub_mul,Int.one_mul,je]
  lia
noncomputable def zge:List Int->List Int->Bool
 | [],[]=>false
 | [],_ :: _=>true
 | _ :: _,[]=>false
 | x :: xs,y :: ys=>if x=y then zge xs ys else decide (x < y)
theorem zcl (x y:Int) (xs ys:List Int):zge (x :: xs) (y :: ys)=if x=y then zge xs ys else decide (x < y):=rfl
theorem zhy {B:Int} (hB:1<=B):∀ {ms ns:List Int},ms.length=ns.length->(∀ n∈ms,0<=n/\n < B)->(∀ n∈ns,0<=n/\n < B)->zge ms ns=decide (num B ms < num B ns)
 | [],[],_,_,_=>by simp [zge,num]
 | [],_ :: _,h,_,_=>by simp at h
 | _ :: _,[],h,_,_=>by simp at h
 | m :: ms,n :: ns,hl,h1,h2=>by
  have Ag:ms.length=ns.length:=by simpa using hl
  have ih:=zhy hB Ag (fun x hx=>h1 x #[L8]) (fun x hx=>h2 x #[L8]);obtain⟨a1,a2⟩:=EL hB fun x hx=>h1 x (aj m hx)
  obtain⟨b1,b2⟩:=EL hB fun x hx=>h2 x (aj n hx)
  rw [zcl];show _=decide (m*B ^ ms.length+num B ms < n*B ^ ns.length+num B ns);rw [Ag] at a2 |-;have hp:0 < B ^ ns.length:=Int.pow_pos #[O];by_cases e:m=n
  ·rw [if_pos e,ih,e];rw [db];simp only [decide_eq_true_eq];lia
  ·rw [if_neg e,db];simp only [decide_eq_true_eq];have key:∀ x y:Int,x < y->x*B ^ ns.length+B ^ ns.length<=y*B ^ ns.length:=fun x y hxy=>by
    have:=cM (show x+1<=y by lia) (show 0<=B ^ ns.length by lia);rw [Int.add_mul,Int.one_mul] at this;exact this
   constructor
   ·intro h;have:=key m n h;lia
   ·intro h;rcases jt m n with h3 | h3 | h3
    ·exact h3
    ·exact absurd h3 e
    ·have:=key n m h3;lia
section
variable {prog:Program} {w:World} {A:Around} {E:Value->Shared->Prop} {s:Shared}
theorem zhz {Q:Bool->Shared->Prop} {fin:Bool}:∀ {xs ys:List Value} {ms ns:List Int} (i:Nat),IntsAre xs ms->IntsAre ys ns->ms.length=ns.length->Q (if ms=ns then fin else zge ms ns) s->PySem.W.KatLex prog w A true fin Q (xs.zip ys) i s
 | [],[],[],[],i,_,_,_,h=>PySem.W.kat_nil (by simpa using h)
 | _ :: _,_,[],_,_,hx,_,_,_=>by cases hx
 | [],_,_ :: _,_,_,hx,_,_,_=>by cases hx
 | _,[],_,_ :: _,_,_,hy,_,_=>by cases hy
 | _,_ :: _,_,[],_,_,hy,_,_=>by cases hy
 | x :: xs,y :: ys,m :: ms,n :: ns,i,hx,hy,hl,h=>by
  cases hx with
  | cons _ t hx =>
   cases hy with
   | cons _ u hy =>
    refine PySem.W.kat_cons (wpAny_eqBool_int ?_);by_cases e:m=n
    ·rw [show (m == n)=true by simpa using e];refine PySem.W.kat_yes (zhz (i+1) hx hy (by simpa using hl) ?_);subst e;rw [zcl,if_pos rfl] at h;simpa using h
    ·rw [show (m == n)=false by simpa using e];have lW:¬ (m :: ms=n :: ns):=fun z=>e (iD z).1
     rw [if_neg lW,zcl,if_neg e] at h;refine PySem.W.kat_no ?_;by_cases hi:i=0
     ·subst hi;exact oneLt_int h
     ·have hb:(true && i == 0)=false:=by simp [hi]
      rw [hb];exact PySem.W.kat_one _ _ (wpAny_lt_int h)
end
end Srt
end
section
namespace PySem
open PyProof.Rows
noncomputable def zdt (h:Heap) (d:Addr) (es:Array DictEntry) (ep:Nat):Prop:=∃ o,h.get? d=some o/\o.ExactDict/\o.data = .dict es ep
theorem zdt.at' {h h':Heap} {d:Addr} {es:Array DictEntry} {ep:Nat} (x:zdt h d es ep) (e:∀ o,h.get? d=some o->h'.get? d=some o):zdt h' d es ep:=let ⟨o,ho,r⟩:=x; ⟨o,e _ ho,r⟩
theorem zdt.typeIs {s:Shared} {d:Addr} {es:Array DictEntry} {ep:Nat} (x:zdt s.heap d es ep):s.TypeIs (.ref d) "dict":=let ⟨o,ho,hc,_⟩:=x; ⟨o,ho,hc.1⟩
section
variable {prog:Program} {w:World} {A:Around} {E:Value->Shared->Prop} {s:Shared} {it d:Addr} {i ep:Nat} {es:Array DictEntry}
theorem zgf {Q:Value->Shared->Prop} (hd:(d == sysModules)=false) (hm:zdt s.heap d es ep) (hQ:Q #[wf] { s with heap:=s.heap.push { cls:=.type "dict_keyiterator",data:=.fields #[.ref d,.int 0 0,.int es.size 0,.int ep 0] } }):wpAny #[or] A (pyIter (.ref d)) Q E s:=by
 have hT:=hm.typeIs;obtain⟨o,ho,hc,xS⟩:=id hm;refine wpAny_pyIter_slot hT jE (cX jE hT F.entry_dict_iter ?_ (F.args_dict_iter_1 _)); unfold Builtin.«dict.__iter__» Builtin.Dict.dictSlotNone;refine ae (ae (wpAny_notOrdered_dict hT ?_)); show wpAny _ _ (pure (aP d)) _ _ s;refine ak ?_; show wpAny _ _ (hU d >>= _) _ _ s; unfold hU;rw [if_neg (show ¬ ((d == sysModules)=true) by rw [hd]; decide)];refine ae (ak (ae (gk ho xS (ae (gM ho xS (ae (cR (ak ⟨_,rfl,"dict_keyiterator",_,⟨_,aC _ rfl,rfl⟩,F.slot_dict_keyiterator_next.lookup,?_⟩))))))));simpa [rawInt] using hQ
theorem zgg {e:DictEntry} {Q:Option Value->Shared->Prop} (hit:s.heap.IsKeyIter it d i es.size ep) (hm:zdt s.heap d es ep) (he:es[i]? = some e)
  (hQ:∀ h',h'.IsKeyIter it d (i+1) es.size ep->fg it s.heap h'->Q (some e.key) { s with heap:=h' }):wpAny #[or] A #[Ky] Q E s:=by
 (obtain⟨o,ho,hc,hd⟩:=id hit)
 obtain⟨od,xT,n4,vT⟩:=id hm;have kU:i < es.size:=(cF.mp he).1;have vU:fN "dict_keyiterator" = false:=by decide +kernel
 unfold pyNext; refine ae (dg (dv (name:=bG "__next__") hit.typeIs cZ #[Mw]));refine ae #[JK];simp only [vU,bp,if_false]; show wpAny _ _ (if (aP d == cD)=true then _ else _) _ _ s;rw [if_neg (show ¬ ((aP d == cD)=true) from fun z=>aO z)];refine ae (ak (ae (gk xT vT ?_)));rw [if_neg (show ¬ ((((es.size:Nat):Int) != ((es.size:Nat):Int))=true) by simp)];refine ae (ak (ae (gM xT vT ?_)));rw [if_neg #[M]]; refine ak ?_;simp only [show ¬ ((i:Int) < 0) by lia,if_false,bO,he];refine ae (ae (cS hit.typeIs (ak (ae (hV hit.typeIs ?_)))));show wpAny _ _ (setField #[Jl] 1 (rawInt ((i:Int)+1)) >>= _) _ _ s; refine ae #[MG];have uy:(s.heap.update it (iz (·.setIfInBounds 1 (rawInt ((i:Int)+1))))).IsKeyIter it d (i+1) es.size ep:=⟨_,eZ _ ho (fb (dE hd _)),(jm ..).trans hc,by rw [dE hd]; simp [rawInt]⟩;refine ae (df (ae (hV (s:={ s with heap:=s.heap.update it (iz (·.setIfInBounds 1 (rawInt ((i:Int)+1)))) }) uy.typeIs ?_)));show wpAny _ _ (pure e.key) _ _ _; exact ak (ak ⟨_,rfl,ak (hQ _ uy (dt ..))⟩)
theorem zhA {Q:Option Value->Shared->Prop} (hh:A.handled=none) (hit:s.heap.IsKeyIter it d i es.size ep) (hm:zdt s.heap d es ep) (he:es.size<=i) (hQ:∀ h',Heap.ExtBut it s.heap h'->Q none { s with heap:=h' }):wpAny #[or] A #[Ky] Q E s:=by
 (obtain⟨o,ho,hc,hd⟩:=id hit)
 obtain⟨od,xT,n4,vT⟩:=id hm;have vU:fN "dict_keyiterator" = false:=by decide +kernel
 unfold pyNext; refine ae (dg (dv (name:=bG "__next__") hit.typeIs cZ #[Mw]));refine ae #[JK];simp only [vU,bp,if_false]; show wpAny _ _ (if (aP d == cD)=true then _ else _) _ _ s;rw [if_neg (show ¬ ((aP d == cD)=true) from fun z=>aO z)];refine ae (ak (ae (gk xT vT ?_)));rw [if_neg (show ¬ ((((es.size:Nat):Int) != ((es.size:Nat):Int))=true) by simp)];refine ae (ak (ae (gM xT vT ?_)));rw [if_neg #[M]]; refine ak ?_;simp only [show ¬ ((i:Int) < 0) by lia,if_false,bO,Array.getElem?_eq_none he];refine ae (ae (cS hit.typeIs (ak ?_)));show wpAny _ _ (setField #[Jl] 0 .none >>= _) _ _ s; refine ae #[MG];show wpAny _ _ (newExc (.type "StopIteration") [] >>= _) _ _ _; simp only [newExc,newTuple];refine ae (ae (cR (ae (m:=firstArgMember _ _) (d8 (a:=cD) (by first | rfl | (simp only [firstArgMember]; rfl)) (cR ?_ (by size_fits)))) (by size_fits)));simp only [raiseNew]; refine ae (wpAny_handled ?_); rw [show A.in1.handled=none from hh];refine ae (ak (wpAny_throw ?_)); refine ae (gw (T:="StopIteration") (b:=true) ⟨_,aC _ rfl,rfl⟩ isSubtype_stop ?_)
 (exact ak (hQ _ (((dt ..).extBut.push _).push _)))
theorem zil (hh:A.handled=none) (I d:Addr) (lW:d≠I) (es:Array DictEntry) (ep:Nat) :
  Walks prog w A I [I,d] [I] es.size (fun i v=>∃ e,es[i]? = some e/\v=e.key) (fun i h=>h.IsKeyIter I d i es.size ep/\zdt h d es ep) where
 sub:=(fun b hb=>by simp at hb; simp [hb])
 frame:=(fun _ _ _ st hk=>⟨st.1.at fun o e=>hk I #[M] o e,st.2.at' fun o e=>hk d #[M] o e⟩)
 item:=fun i s Q E hi st hQ=>zgg st.1 st.2 (getElem?_pos es i hi) fun h' uy mT=>hQ _ h' s.toks ⟨es[i],getElem?_pos es i hi,rfl⟩ ⟨uy,st.2.at' fun o e=>mT.extBut d o lW e⟩ fun b o hb e=>mT.extBut b o (fun h=>hb (by simp [h])) e
 done:=fun s Q E st hQ=>zhA hh st.1 st.2 (ag _) fun h' xE=>hQ h' s.toks fun b o hb e=>xE b o (fun h=>hb (by simp [h])) e
 self:=(fun _ _ _ _ st hQ=>ip st.1 hQ)
theorem zkJ (lo:(d == sysModules)=false):j2 prog w "dict" d d es.size (fun i v=>∃ e,es[i]? = some e/\v=e.key) (fun h=>zdt h d es ep) where
 type:=fun _ hm=>hm.typeIs
 there:=fun _ hm=>let ⟨_,ho,_⟩:=hm; ⟨az ho,az ho⟩
 keep:=(fun _ _ hm hk=>hm.at' fun o e=>hk d #[IW] o e)
 notList:=by decide
 notTuple:=by decide
 hint:=fun _ _ _ _ hm hq=>PySem.W.kdl_hint_dict hm.typeIs hq
 iter:=fun _ _ hh hm=>⟨_,_,(fun _ _ hq=>zgf lo hm hq),zil hh _ d (by obtain⟨_,ho,_⟩:=id hm; exact aS (az ho)) es ep,⟨⟨_,aC _ rfl,rfl,rfl⟩,hm.at' fun o e=>ai _ e⟩⟩
end
end PySem
end
section
namespace Srt
open PySem PyProof.Rows
variable {vs:List Value}
section
variable {prog:Program} {w:World} {A:Around} {E:Value->Shared->Prop} {s:Shared} {κ:SortKind} {val:Keyed->Int}
theorem zdc {p:Keyed} (h:p∈#[Jn].toList):p.1∈vs/\p.2=p.1:=by
 rw [hX] at h;obtain⟨i,hi,e⟩:=bS h;rw [List.getElem_zip] at e;rw [<- e];exact⟨bF _,rfl⟩
theorem zlY {xs:Array Keyed} (hp:xs.Perm #[Jn]) (hs:SIn val xs 0 #[Jn].size):(xs.map (·.2)).toList.Perm vs/\(xs.map (·.2)).toList.Pairwise fun x y=>val (x,x)<=val (y,y):=by
 (have hl:xs.toList.Perm (vs.zip vs):=by rw [<- hX]; exact d7.mp hp)
 have hm:∀ p∈xs.toList,p=(p.2,p.2):=fun p n6=>by
  have:=zdc (by rw [hX]; exact hl.mem_iff.mp n6);exact Prod.ext this.2.symm rfl
 constructor
 ·rw [jF];refine (hl.map (·.2)).trans ?_;rw [show (vs.zip vs).map (·.2)=vs from jG (ag _)]
 ·rw [jF,bv,ef];intro i j hi hj oO
  (have mJ:i < xs.size:=by simpa using hi)
  (have pG:j < xs.size:=by simpa using hj)
  have h1:=hs i j (bg _) #[O] (by rw [<- hp.size_eq]; exact pG);rw [zV (getElem?_pos xs i mJ),zV (getElem?_pos xs j pG)] at h1;have e1:=hm xs.toList[i] (bF _);have e2:=hm xs.toList[j] (bF _);rw [<- e1,<- e2];simpa using h1
theorem zim {a:Addr} {n:Nat} {P:PySem.Fin->Shared->Prop} (ho:s.heap.get? a=some (seqObj "list" vs.toArray n)) (kB:vs.length<=sizeLine)
  (n5:∀ h',(∀ b o,b≠a->s.heap.get? b=some o->h'.get? b=some o)->2<=vs.length->∀ (Q:SortKind->Shared->Prop) (E:Value->Shared->Prop),Q κ { s with heap:=h' }->wpAny #[or] A (keyKind' vs.toArray) Q E { s with heap:=h' })
  (vV:∀ h',(∀ b o,b≠a->s.heap.get? b=some o->h'.get? b=some o)->Cmp prog w A { s with heap:=h' } κ val #[Jn])
  (h:∀ out:Array Value,out.toList.Perm vs->(out.toList.Pairwise fun x y=>val (x,x)<=val (y,y))->P (.done (.ret .none)) { s with heap:=sortedHeap s.heap a vs out }):wpAny #[or] A (Builtin.«list.sort» ⟨[.ref a],[]⟩) P E s:=by
 rw [list_sort_plain]
 (have ha:a < s.heap.objs.size:=az ho)
 have hz:vs.toArray.size=vs.length:=aq;refine ae (listItems_at ho rfl (ae (iE ho rfl ?_ (hsz:=by rw [hz]; exact kB))))
 (obtain⟨e1,vR⟩:∃ e1,(s.heap.update a (dC fun _=>#[])).get? a=some (seqObj "list" #[] e1):=⟨_,get?_update_seq ho (fun _=>#[])⟩)
 refine ae (jy vR rfl (ae (wpAny_newTuple (ae (iF (df ?_))) (hsz:=kB))));have Av:(((s.heap.update a (dC fun _=>#[])).push (seqObj "tuple" vs.toArray 0)).push (seqObj "list" #[] 0)).get? a=some (seqObj "list" #[] e1):=ai _ (ai _ vR);have hk6:∀ b o,b≠a->s.heap.get? b=some o->(((s.heap.update a (dC fun _=>#[])).push (seqObj "tuple" vs.toArray 0)).push (seqObj "list" #[] 0)).get? b=some o:=fun b o hb e=>ai _ (ai _ ((iM _ _ _ _ hb).trans e))
 (show wpAny #[or] A _ P E { s with heap:=((s.heap.update a (dC fun _=>#[])).push (seqObj "tuple" vs.toArray 0)).push (seqObj "list" #[] 0) })
 dsimp only;have B1:=vV _ hk6;have fin:∀ ku:SortSt,SB κ #[Jn] ku\/(arrOf ku=pairsOf vs/\failedOf ku=none)->SIn val #[wp] 0 #[Jn].size ->
   P (.done (.ret .none)) { s with heap:=sortedHeap s.heap a vs (#[wp].map (·.2)) }:=fun ku hB hs=>by
  have hp:#[wp].Perm #[Jn]:=by
   rcases hB with hB | hB
   ·exact hB.perm
   ·rw [hB.1]
  obtain⟨b1,b2⟩:=zlY hp hs;exact h _ b1 b2
 (by_cases h2:vs.toArray.size < 2)
 ·rw [if_pos h2,if_pos h2];refine ae (ak ?_); rw [StateT.run_pure]; refine ae (ak ?_);dsimp only;refine ae (jy Av rfl (ae (iE Av rfl ?_ (hsz2:=by rw [j3]; show #[Jn].size<=_; rw [gz]; lia))))
  (simp only [bne_self_eq_false,bp,if_false])
  refine ak (fin (jW general' #[M6] #[] 7 none) (.inr ⟨rfl,rfl⟩) fun i j _ oO hj=>?_);have e:i=j:=by rw [gz] at hj; lia
  rw [e];exact bH _
 ·rw [if_neg h2,if_neg h2];refine ae (n5 _ hk6 #[O] _ _ ?_);refine ae (bM (zlX (a₀:=pairsOf vs) (κ:=κ) (val:=val) (st:=jW κ #[M6] #[] 7 none) (Q:=fun _ ku=>SB κ #[Jn] ku/\SIn val #[wp] 0 #[Jn].size)
   B1 ⟨Array.Perm.refl _,rfl,rfl⟩ rfl (by rw [gz]; lia) fun ku a1 a2=>⟨a1,a2⟩) ?_ fun _ _ e=>e)
  rintro⟨⟨⟩,ku⟩ s' ⟨rfl,hB,hs⟩;dsimp only;refine ae (jy Av rfl (ae (iE Av rfl ?_ (hsz2:=bh (Nat.le_of_eq ((j3 ..).trans (hB.perm.size_eq.trans (gz _)))) #[O]))));rw [hB.failed]
  (simp only [bne_self_eq_false,bp,if_false])
  exact ak (fin ku (.inl hB) hs)
theorem zeH {v:Value} {Q:Value->Shared->Prop} (kB:vs.length<=sizeLine)
  (B2:∀ R:List Value->Shared->Prop,(∀ (h':Heap) (tk:Nat),(∀ b o,s.heap.get? b=some o->h'.get? b=some o)->R vs { s with heap:=h',toks:=tk })->wpAny #[or] A.in1 (collect v) R E s)
  (n5:∀ s',(∀ b o,s.heap.get? b=some o->s'.heap.get? b=some o)->2<=vs.length->∀ (A':Around) (Q:SortKind->Shared->Prop) (E:Value->Shared->Prop),Q κ s'->wpAny #[or] A' (keyKind' vs.toArray) Q E s')
  (vV:∀ s' A',(∀ b o,s.heap.get? b=some o->s'.heap.get? b=some o)->Cmp prog w A' s' κ val #[Jn])
  (h:∀ (h':Heap) (tk:Nat) (out:Array Value) (e:Nat) (D:Addr),(∀ b o,s.heap.get? b=some o->h'.get? b=some o)->(∀ b o,s.heap.get? b=some o->b < D)->h'.get? D=some (seqObj "list" out e)->out.toList.Perm vs->(out.toList.Pairwise fun x y=>val (x,x)<=val (y,y))->Q #[Is] { s with heap:=h',toks:=tk }) :
  wpAny #[or] A (call (.builtin "sorted") [v]) Q E s:=by
 refine Calls.call_function_entry kind_sorted plain_sorted entry_sorted (args_sorted1 _) ?_; unfold Builtin.«sorted»;refine ae (m:=checkCount "sorted" 1 1 _) (ak (ae (bM (B2 (fun us s'=>us=vs/\∃ (h':Heap) (tk:Nat),s' = { s with heap:=h',toks:=tk }/\∀ b o,s.heap.get? b=some o->h'.get? b=some o) fun h' tk k=>⟨rfl,h',tk,rfl,k⟩) ?_ fun _ _ e=>e)));rintro us s' ⟨rfl,h1,tk,rfl,kk⟩;refine ae (iF ?_ (hsz:=kB));have tU:(h1.push (seqObj "list" us.toArray 0)).get? h1.objs.size=some (seqObj "list" us.toArray 0):=aC _ rfl;have kn:∀ b o,s.heap.get? b=some o->b≠h1.objs.size:=fun b o e=>aS (az (kk b o e))
 refine ae (df (cX slot_list_sort ⟨_,tU,rfl⟩ entry_list_sort (zim (κ:=κ) (val:=val) tU kB (fun h' hk h2 Q E hq=>n5 _ (fun b o e=>hk b o (kn b o e) (ai _ (kk b o e))) h2 _ Q E hq) (fun h' hk=>vV _ _ fun b o e=>hk b o (kn b o e) (ai _ (kk b o e))) fun out a1 a2=>#[Ni]) (args_list_sort _)));obtain⟨e,he⟩:=sortedHeap_at (out:=out) tU;refine ak ⟨_,rfl,h _ tk out e h1.objs.size (fun b o x=>?_) (fun b o x=>az #[Nb]) he a1 a2⟩;rw [sortedHeap_old (kn b o x) (by rw [bx]; exact cz (az #[Nb]))];exact ai _ #[Nb]
end
end Srt
end
section
namespace L2
open PySem PySem.Spec PyProof.Rows PySem.Builtin.Str
variable {H:Hp} {X:Cx} {h':Heap} {km:List (Addr×Obj)} {s:Shared} {tk:Nat}
theorem Inv.above {σ:St} {D:Addr} {o:HO} (I:Inv X km σ H s) (k:∀ b o,s.heap.get? b=some o->h'.get? b=some o) (hD:∀ b o,s.heap.get? b=some o->b < D)
  (new:z6 X.prog X.w (kx H D o) h' D o):H D=none/\Inv X km σ (kx H D o) { s with heap:=h',toks:=tk }:=by
 have hn:H D=none:=by
  cases e:H D with
  | none=>rfl
  | some u =>
   obtain⟨ob,z⟩:=zgT (I.hok D u e);exact absurd (hD D ob z) (bE _)
 have hL:X.env.locals < D:=by
  obtain⟨m,⟨o,es,ep,ho,_⟩,_⟩:=I.loc;exact hD _ _ ho
 have I1:Inv X km σ H { s with heap:=h',toks:=tk }:=I.kept k;refine⟨hn,I1.GY hn (dI (jf I.ok.above hL)) (aS hL) (fun x c e z=>?_) (fun p hp z=>?_) new⟩
 ·obtain⟨v,oc,q,_⟩:=I.cell x c e;exact absurd (hD c oc q) (by rw [z]; exact bE _)
 ·exact absurd (hD p.1 _ (I.pin p hp).1) (by rw [z]; exact bE _)
end L2
end
section
namespace L2
open PySem PySem.Spec PyProof.Rows Srt
variable {H:Hp} {M:Model} {X:Cx} {h:Heap} {km:List (Addr×Obj)} {kvs:List (List Key×V)} {ns:List Int} {s s':Shared}
noncomputable def zjF (xs:List V):List Int:=xs.filterMap fun x=>match x with
 | .int n=>some n
 | _=>none
theorem zin (ns:List Int):zjF #[ww]=ns:=by
 unfold zjF;rw [List.filterMap_map];induction ns with
 | nil=>rfl
 | cons n ns ih =>
  rw [cU];simp only [Function.comp];rw [ih]
noncomputable def zcx (H:Hp) (v:Value):List Int:=match v with
 | .ref a=>(match H a with
  | some #[J3]=>zjF xs
  | _=>[])
 | _=>[]
theorem zdW {a:Addr} (h:H a=some (.tup #[ww])):zcx H #[IT]=ns:=by
 unfold zcx;simp only [h];exact zin ns
noncomputable def zio (H:Hp) (k:Nat) (B:Int) (ps:List (Addr×List Int)):Prop:=∀ q∈ps,H q.1=some (.tup (q.2.map V.int))/\q.2.length=k/\∀ n∈q.2,0<=n/\n < B
theorem zeI:∀ {ps:List (Addr×List Int)} {us:List Value},zG (ps.map fun q=>V.ref q.1) us->us=ps.map fun q=>aP q.1
 | [],_,r=>by cases r; rfl
 | q :: ps,_,r=>by
  cases r with
  | cons r1 r2 =>
   cases r1;rw [zeI r2];rfl
theorem zbU:∀ (ps:List (Addr×List Int)),zG (ps.map fun q=>V.ref q.1) (ps.map fun q=>aP q.1)
 | []=>.nil
 | q :: ps=>.cons rfl (zbU ps)
section
variable {X:Cx} {km:List (Addr×Obj)} {σ:St} {H:Hp} {s:Shared} {k:Nat} {B:Int} {ps:List (Addr×List Int)}
theorem zfg (I:Inv X km σ H s) {q:Addr×List Int} (h:H q.1=some (.tup (q.2.map V.int))):∃ o kq n,s.heap.get? q.1=some o/\o.cls = .type "tuple"/\o.data = .seq kq n/\IntsAre kq.toList q.2:=by
 obtain⟨kq,r,⟨o,ho,hc,n,hd⟩,hz⟩:=I.tuple (kJ.of h);exact⟨o,kq.toArray,n,ho,hc,hd,by simpa using intsAre_of r⟩
theorem zjG (I:Inv X km σ H s) (hT:zio H k B ps) (hk:1<=k) (kk:∀ b o,s.heap.get? b=some o->s'.heap.get? b=some o):∃ fs:List Value,PySem.W.KatTups s'.heap (ps.map fun q=>aP q.1) fs/\fs.length=ps.length/\∀ v∈fs,∃ n t,v=fQ n t:=by
 induction ps with
 | nil=>exact⟨[],trivial,rfl,fun v hv=>by cases hv⟩
 | cons q ps ih =>
  obtain⟨fs,h1,h2,h3⟩:=ih fun q' sF=>hT q' (aj _ sF)
  obtain⟨hq,hl,_⟩:=hT q #[M];obtain⟨o,kq,n,ho,hc,hd,hi⟩:=zfg I hq;have kB:=hi.length;obtain⟨m,ms,e⟩:∃ m ms,q.2=m :: ms:=by
   cases e:q.2 with
   | nil=>rw [e] at hl; simp at hl; lia
   | cons m ms=>exact⟨m,ms,rfl⟩
  rw [e] at hi;cases e2:kq.toList with
  | nil=>rw [e2] at hi; cases hi
  | cons f fr =>
   rw [e2] at hi;cases hi with
   | cons _ t hi =>
    refine⟨.int m t :: fs,kj (kk _ _ ho) hc hd ?_ h1,by simp [h2],fun v hv=>?_⟩
    ·rw [<- aY,e2];rfl
    ·rcases (aK.mp hv) with rfl | hv
     ·exact⟨m,t,rfl⟩
     ·exact h3 v hv
theorem zeJ:∀ ms:List Int,zge ms ms=false
 | []=>rfl
 | m :: ms=>by rw [zcl,if_pos rfl,zeJ ms]
theorem zjH (I:Inv X km σ H s) (hT:zio H k B ps) (hB:1<=B) {A':Around} (kk:∀ b o,s.heap.get? b=some o->s'.heap.get? b=some o) :
  Cmp X.prog X.w A' s' (tuples' true) (fun p=>num B (zcx H p.1)) (pairsOf (ps.map fun q=>aP q.1)):=by
 intro x y hx hy Q E hQ;obtain⟨qx,mx,ex⟩:=aF.mp (zdc hx).1;obtain⟨qy,my,ey⟩:=aF.mp (zdc hy).1;obtain⟨As,xO,hx3⟩:=hT qx mx;obtain⟨Aw,Ax,hy3⟩:=hT qy my;obtain⟨ox,ix,nx,gx,cx,dx,ax⟩:=zfg I As;obtain⟨oy,iy,ny,gy,cy,dy,ay⟩:=zfg I Aw;have ev:decide ((fun p:Keyed=>num B (zcx H p.1)) x < (fun p:Keyed=>num B (zcx H p.1)) y)=zge qx.2 qy.2:=by
  rw [zhy hB (xO.trans Ax.symm) hx3 hy3,<- zdW As,<- zdW Aw];simp only [ex,ey]
 rw [ev] at hQ;rw [<- ex,<- ey];refine PySem.W.kat_lt (kk _ _ gx) dx (kk _ _ gy) dy (zhz 0 ax ay (xO.trans Ax.symm) ?_);have hsz:decide (ix.size < iy.size)=false:=by
  have e1:=ax.length;have e2:=ay.length;rw [bw] at e1 e2;exact decide_eq_false #[O]
 rw [hsz];by_cases e:qx.2=qy.2
 ·rw [if_pos e];rw [e,zeJ] at hQ;exact hQ
 ·rw [if_neg e];exact hQ
theorem zgh (hT:zio H k B ps) {out:Array Value} (hp:out.toList.Perm (ps.map fun q=>aP q.1)) (hs:out.toList.Pairwise fun x y=>num B (zcx H x)<=num B (zcx H y)) :
  ∃ lQ:List (Addr×List Int),lQ.Perm ps/\(lQ.Pairwise fun a b=>num B a.2<=num B b.2)/\out.toList=lQ.map fun q=>aP q.1:=by
 let g:Value->Addr×List Int:=fun v=>match v with
  | .ref a=>(a,zcx H #[IT])
  | _=>(0,[])
 have hg:∀ q∈ps,g (.ref q.1)=q:=fun q hq=>Prod.ext rfl (zdW (hT q hq).1)
 have hv:∀ v∈out.toList,∃ q∈ps,v = .ref q.1:=fun v hv=>by
  obtain⟨q,hq,e⟩:=aF.mp (hp.mem_iff.mp hv);exact⟨q,hq,e.symm⟩
 refine⟨out.toList.map g,?_,?_,?_⟩
 ·refine (hp.map g).trans ?_;rw [aI];have:ps.map (g ∘ fun q=>aP q.1)=ps:=by
   conv=>rhs; rw [<- gV ps]
   exact ca fun q hq=>hg q hq
  rw [this]
 ·rw [bv];refine cN (fun {x y} hx hy h=>?_) hs;obtain⟨q,hq,rfl⟩:=hv x hx;obtain⟨q',sF,rfl⟩:=hv y hy;exact h
 ·rw [aI]
  conv=>lhs; rw [<- gV out.toList]
  refine ca fun v hv'=>?_
  obtain⟨q,hq,rfl⟩:=hv v hv';rfl
end
theorem zeK {n:Int} {t:Tok}:eT M h (typeOf (.int n t)) (.type "int"):=PySem.W.Looks.of_pure rfl
theorem zkK {σ:St} {d:Addr} {kE:List #[Iv]} (I:Inv X km σ H s) (hd:H d=some #[IL]) (hk:kvs.map (·.1)=kE.map (·.map aZ)) :
  (d == sysModules)=false/\kvs.length<=sizeLine/\∃ (ps:List (Addr×List Int)) (es:Array DictEntry) (ep:Nat),zdt s.heap d es ep/\es.toList.map (·.key)=(ps.map fun q=>aP q.1)/\ps.map (·.2)=kE/\∀ q∈ps,H q.1=some (.tup (q.2.map V.int)):=by
 obtain⟨hz,hs,xs,hp,o,es,ep,ho,hx,he,t6,mH⟩:=I.hok d _ hd;refine⟨hs,hz,?_⟩;have key:∀ {kvs:List (List Key×V)} {xs:List (List Key×Addr×Value)} {kE:List #[Iv]},Paired (fun (p:List Key×V) (q:List Key×Addr×Value)=>p.1=q.1/\H q.2.1=some (.tup (p.1.map kV))/\RelV p.2 q.2.2) kvs xs->kvs.map (·.1)=kE.map (·.map aZ) ->
   ∃ ps:List (Addr×List Int),xs.map (fun x=>aP x.2.1)=(ps.map fun q=>aP q.1)/\ps.map (·.2)=kE/\∀ q∈ps,H q.1=some (.tup (q.2.map V.int)):=by
  intro kvs xs kE hp;induction hp generalizing kE with
  | nil =>
   intro e;cases kE with
   | nil=>exact⟨[],rfl,rfl,fun q hq=>by cases hq⟩
   | cons m kE=>simp at e
  | @cons x y l1 l2 h1 h2 ih =>
   intro e;cases kE with
   | nil=>simp at e
   | cons m kE =>
    rw [aT,aT] at e;obtain⟨e1,e2⟩:=iD e;obtain⟨ps,a1,a2,a3⟩:=ih e2;obtain⟨_,h12,_⟩:=h1;refine⟨(y.2.1,m) :: ps,by rw [aT,aT,a1],by rw [aT,a2],fun q hq=>?_⟩;rcases (aK.mp hq) with rfl | hq
    ·rw [h12,e1,aI];rfl
    ·exact a3 q hq
 obtain⟨ps,a1,a2,a3⟩:=key hp hk;refine⟨ps,es,ep,⟨o,ho,hx,he⟩,?_,a2,a3⟩;rw [t6,aI,<- a1];rfl
theorem zfh {X:Cx} (hc:X.calm=true):za8 X (.builtin "sorted") (fun xs H Q=>∃ (d:Addr) (k:Nat) (B:Int) (kvs:List (List Key×V)) (kE:List #[Iv]),xs = [.ref d]/\H d=some #[IL]/\kvs.map (·.1)=kE.map (·.map aZ)/\(∀ ms∈kE,ms.length=k/\∀ n∈ms,0<=n/\n < B)/\1<=k/\1<=B /\
  ∀ (l:Addr) (lQ:List (Addr×List Int)),H l=none->(lQ.map (·.2)).Perm kE->(lQ.Pairwise fun a b=>num B a.2<=num B b.2)->(∀ q∈lQ,H q.1=some (.tup (q.2.map V.int)))->Q #[JF] (kx H l (.lst (lQ.map fun q=>V.ref q.1)))):=by
 intro km s σ H xs us Q I r h;obtain⟨d,k,B,kvs,kE,rfl,hd,mU,oQ,hk,hB,q⟩:=h;obtain⟨u,rfl,rx⟩:=vals1 r;cases rx;obtain⟨hs,hz,ps,es,ep,sW,hek,vW,hH⟩:=zkK I hd mU;have hT:zio H k B ps:=fun q' sF=>⟨hH q' sF,oQ q'.2 (by rw [<- vW]; exact bT sF)⟩
 have hlp:ps.length=kvs.length:=by
  have e1:=congrArg bU vW;have e2:=congrArg bU mU;rw [aa] at e1;rw [aa,aa] at e2;lia
 have t6:es.size=ps.length:=by
  have:=congrArg bU hek;rw [aa,aa,bw] at this;exact this
 refine zeH (vs:=ps.map fun q=>aP q.1) (κ:=tuples' true) (val:=fun p=>num B (zcx H p.1)) (by rw [aa]; lia) (fun R hR=>?_) #[MQ] #[MR] fun h' tk out e D kk hD sX hp hs=>?_
 ·refine iN (zkJ (es:=es) (ep:=ep) hs) (by simp [I.ok.hd hc]) sW #[O] fun h' tk acc kk pQ=>?_
  have:acc.toList=ps.map fun q=>aP q.1:=by
   rw [<- hek];refine jr fun j=>?_
   by_cases hj:j < es.size
   ·have hja:j < acc.size:=by rw [pQ.1]; exact hj
    obtain⟨e',h1,h2⟩:=pQ.2 j acc[j] (getElem?_pos acc j hja);rw [aY,getElem?_pos acc j hja,aB,aY,h1,h2];rfl
   ·rw [hZ (by rw [bw,pQ.1]; lia),hZ (by rw [aa,bw]; lia)]
  rw [this];exact hR h' tk kk
 ·obtain⟨fs,k1,k2,k3⟩:=zjG I hT hk kk;exact jH (T:=.type "int") k1 (by rw [aa] at h2; lia) (fun v hv=>by obtain⟨n,t,rfl⟩:=k3 v hv; exact zeK) rfl sF
 ·obtain⟨lQ,p1,p2,p3⟩:=zgh hT hp hs;have hl:=p1.length_eq;obtain⟨hn,I2⟩:=I.above (tk:=tk) (D:=D) (o:=.lst (lQ.map fun q=>V.ref q.1)) kk hD ⟨by rw [aa]; lia,lQ.map fun q=>aP q.1,e,zbU lQ,by rw [<- p3]; exact sX⟩;exact⟨.ref D,_,I2,rfl,q D lQ hn (by rw [<- vW]; exact p1.map _) p2 fun q' sF=>(hT q' (p1.mem_iff.mp sF)).1⟩
theorem zfi {X:Cx}:za8 X (.builtin "sorted") (fun xs H Q=>∃ (p:Addr) (k:Nat) (B:Int) (ps:List (Addr×List Int)),xs = [.ref p]/\kr X.K H p (ps.map fun q=>V.ref q.1)/\zio H k B ps/\1<=k/\1<=B /\
  ∀ (l:Addr) (lQ:List (Addr×List Int)),H l=none->lQ.Perm ps->(lQ.Pairwise fun a b=>num B a.2<=num B b.2)->Q #[JF] (kx H l (.lst (lQ.map fun q=>V.ref q.1)))):=by
 intro km s σ H xs us Q I r h;obtain⟨p,k,B,ps,rfl,hq,hT,hk,hB,q⟩:=h;obtain⟨u,rfl,rx⟩:=vals1 r;cases rx;obtain⟨kq,rv,pl,hz⟩:=I.list hq;have ev:=zeI rv;subst ev;rw [aa] at hz;refine zeH (vs:=ps.map fun q=>aP q.1) (κ:=tuples' true) (val:=fun p=>num B (zcx H p.1)) (by rw [aa]; exact hz) (fun R hR=>?_) #[MQ] #[MR] fun h' tk out e D kk hD sX hp hs=>?_
 ·exact collect_list pl.isList (hR _ _ fun b o e=>(iM _ _ _ _ (aS (az e))).trans (ai _ e)) (by rw [aa]; exact hz)
 ·obtain⟨fs,k1,k2,k3⟩:=zjG I hT hk kk;exact jH (T:=.type "int") k1 (by rw [aa] at h2; lia) (fun v hv=>by obtain⟨n,t,rfl⟩:=k3 v hv; exact zeK) rfl sF
 ·obtain⟨lQ,p1,p2,p3⟩:=zgh hT hp hs;have hl:=p1.length_eq;obtain⟨hn,I2⟩:=I.above (tk:=tk) (D:=D) (o:=.lst (lQ.map fun q=>V.ref q.1)) kk hD ⟨by rw [aa]; lia,lQ.map fun q=>aP q.1,e,zbU lQ,by rw [<- p3]; exact sX⟩;exact⟨.ref D,_,I2,rfl,q D lQ hn p1 p2⟩
end L2
end
section
namespace L2
open PySem PySem.Spec PyProof.Rows
variable {H:Hp} {J:It} {sc:Scope} {σ0:St}
section
variable {X:Cx} {elt t1 i1 t2 i2:Expr} {f1 f2:List Expr} {scope:Scope} {pos:Pos} {N':List Str} {ix:List #[FM]} {B3 wX:List Nat} {g1 g2:TG} {ts1 Ay:TT} {te:TE} {wi1 Az:TI}
theorem zlZ (hc:X.calm=true) (B4:GS wX g2) (B5:∀ s₃ H₃ ex km,PI #[dl] t2 i2 Az)
  (B6:∀ s₃ H₃ ex km,PG #[dl] t2 g2) (B7:∀ s₃ H₃ ex km,zdq #[dl] f2 Ay) (he:∀ s₃ H₃ ex km,PE #[dl] elt te)
  (qt:∀ s₃ H₃ ex km x,foldedSetIterable i2 #[dl].env x=pure x) :
  ∀ s₃ H₃ ex km D,PM #[dl] D wX ((fun D env=>zhh (.ListComp elt [⟨t1,i1,f1,0⟩,⟨t2,i2,f2,0⟩] scope pos) i2 1 #[Is] env) D #[dl].env) (zi6 Az g2 Ay (zi5 te)):=by
 intro s₃ H₃ ex km D;have h:=zlF (Y:=zL X N' scope s₃ H₃ ex km) (D:=D) (js:=wX) (js':=[]) (elt:=elt) (gens:=[⟨t1,i1,f1,0⟩,⟨t2,i2,f2,0⟩]) (scope:=scope) (pos:=pos) (d:=1) (p:=i2.pos) hc rfl B4 (fun _ _ z=>by cases z) (B5 s₃ H₃ ex km) (B6 s₃ H₃ ex km) (B7 s₃ H₃ ex km) (zgK rfl (he s₃ H₃ ex km)) rfl (fun it=>zlH it D _) (qt s₃ H₃ ex km);rw [bK] at h;exact h
theorem zgY {i:Nat} {x:Str} {pos' mW:Pos} (hN:X.N.Nodup) (um:X.N[i]? = some x) (hx:Loc X.env.scope x) (SC:DH X N' ix scope) (hc:X.calm=true) (gs1:GS B3 g1) (B4:GS wX g2) (n8:∀ j∈B3,j∉wX) (uk:∀ j∈B3++wX,ix[j]? = some none) (hi1:PI X t1 i1 wi1)
  (AA:∀ s₃ H₃ ex km,PG #[dl] t1 g1) (AB:∀ s₃ H₃ ex km,zdq #[dl] f1 ts1) (B5:∀ s₃ H₃ ex km,PI #[dl] t2 i2 Az)
  (B6:∀ s₃ H₃ ex km,PG #[dl] t2 g2) (B7:∀ s₃ H₃ ex km,zdq #[dl] f2 Ay) (he:∀ s₃ H₃ ex km,PE #[dl] elt te)
  (xy:swapsWith (.ListComp elt [⟨t1,i1,f1,0⟩,⟨t2,i2,f2,0⟩] scope pos) #[MC] mW.line X.env=pure true:=by rfl)
  (hs:∀ x,foldedSetIterable i1 X.env x=pure x:=by intro _; rfl) (qt:∀ s₃ H₃ ex km x,foldedSetIterable i2 #[dl].env x=pure x:=by intros; rfl) (hf:X.fn x=true\/X.env.scope.names.lookup x=some .local:=by first | exact .inl rfl | exact .inr rfl | assumption) :
  PS X (.Assign [.Name x pos'] (.ListComp elt [⟨t1,i1,f1,0⟩,⟨t2,i2,f2,0⟩] scope pos) mW) (zd3 (zgJ ix wi1 g1 ts1 (zi6 Az g2 Ay (zi5 te))) (zaJ i)) :=
 zdh hN um hx SC hc gs1 n8 uk hi1 AA AB (zlZ hc B4 B5 B6 B7 he qt) (fun it D env=>zlG it D env) xy hs hf
end
theorem zlf {n:Nat} {g:TG} {ts:TT} {tm:TM} {Q:List V->Hp->Prop} {ys:List V} (Pv:Nat->List V->Hp->Prop) (h0:Pv 0 ys H) (ui:∀ i ys H,i < n->Pv i ys H->J.go i H) (nN:∀ ys H,Pv n ys H->J.stop n H)
  (hs:∀ i x ys H H',i < n->Pv i ys H->J.yld i H x H'->g x σ0 H' fun σ2 H2=>ts σ2 H2 fun b H3=>if b=true then tm ys σ2 H3 (Pv (i+1)) else Pv (i+1) ys H3)
  (hd:∀ ys H,Pv n ys H->Q ys H):cIn g ts tm σ0 J Q ys H:=by
 refine⟨fun i m ys H=>m=n - i/\i<=n/\Pv i ys H,#[KU],?_⟩;rintro i m ys H ⟨rfl,hi,p⟩;by_cases kU:i < n
 ·exact .inr #[Jc]
 ·have e:i=n:=by lia
  subst e;exact .inl ⟨nN ys H p,hd ys H p⟩
noncomputable def zl0 (sc:Scope) (x:Str):Bool:=match sc.names.lookup x with
 | some .local=>true
 | some .cell=>true
 | some .free=>true
 | _=>false
theorem zkL {x:Str} (h:zl0 sc x=true):Vis sc x:=by
 unfold zl0 at h;unfold Vis;cases e:sc.names.lookup x with
 | none=>rw [e] at h; cases h
 | some k=>cases k <;> simp_all
noncomputable def pvB (N:List Str) (sc:Scope) (i:Nat) (x:Str):Bool:=decide (N[i]? = some x) && zl0 sc x && !(x == ("__debug__" : Str)) && !(x == ("__classdict__" : Str))
theorem pvx {X:Cx} (i:Nat) {x:Str} {pos:Pos} (h:pvB X.N X.env.scope i x=true):PE X #[Kb] (zmb i):=by
 unfold pvB at h;simp only [eW,jp,decide_eq_true_eq] at h;exact zll h.1.1.1 (zkL h.1.1.2) h.1.2 h.2
end L2
end
section
namespace My
open PySem L2 PyProof.Rows
variable {H H':Hp} {k:Nat} {kW:List (Int×Int)} {kvs:List (List Key×V)} {qs:List #[Iv]}
theorem ziq {α β:Type} {f:α->List β} {l:List α} {i:Nat} {c:α} (hc:l[i]? = some c):(l.take (i+1)).flatMap f=(l.take i).flatMap f++f c:=by
 rw [take_snoc hc,List.flatMap_append,ju,List.flatMap_nil,bK]
theorem Paired.get {α β:Type} {F:α->β->Prop}:∀ {l₁:List α} {l₂:List β},Paired F l₁ l₂->∀ {i:Nat} {a:α},l₁[i]? = some a->∃ b,l₂[i]? = some b/\F a b
 | _,_,.nil,i,a,h=>by simp at h
 | _,_,.cons r t,0,a,h=>by
  (simp only [gG,jv] at h)
  subst h;exact⟨_,rfl,r⟩
 | _,_,.cons r t,i+1,a,h=>by
  rw [cv] at h;obtain⟨b,hb,f⟩:=Paired.get t h;exact⟨b,by rw [cv]; exact hb,f⟩
noncomputable def quo (p r:Int):List Int->List Int
 | []=>[]
 | [_]=>[]
 | _ :: d :: cs=>zr p r (d :: cs) :: quo p r (d :: cs)
theorem zhB (p r:Int):∀ (c:Int) (cs:List Int),(quo p r (c :: cs)).length=cs.length
 | _,[]=>rfl
 | _,d :: cs=>by
  show #[Mj].length+1=cs.length+1;rw [zhB p r d cs]
theorem zjI {p r x:Int}:∀ d:List Int,Cg p (zr p x d - zr p r d) ((x - r)*zr p x (quo p r d))
 | []=>Cg.of_eq (by show (0:Int) - 0=(x - r)*0; lia)
 | [c]=>by
  have h1:Cg p (zr p x [c]) (c+x*0):=zaf p x c [];have h2:Cg p (zr p r [c]) (c+r*0):=zaf p r c [];refine (h1.sub h2).trans (Cg.of_eq ?_);show c+x*0 - (c+r*0)=(x - r)*0;lia
 | c :: d :: cs=>by
  have h1:=zaf p x c (d :: cs);have h2:=zaf p r c (d :: cs);have ih:=zjI (p:=p) (r:=r) (x:=x) (d :: cs);have h3:Cg p (zr p x (quo p r (c :: d :: cs))) (zr p r (d :: cs)+x*zr p x #[Mj]):=zaf p x _ _;have h4:=(Cg.refl p (x - r)).mul h3;have h5:=(Cg.refl p x).mul ih;refine (h1.sub h2).trans (Cg.symm (h4.trans ?_));refine (Cg.of_eq (show _=(x - r)*zr p r (d :: cs)+x*((x - r)*zr p x #[Mj]) by grind)).trans ?_;refine ((Cg.refl p ((x - r)*zr p r (d :: cs))).add h5.symm).trans (Cg.of_eq (by grind))
theorem zgi {p r:Int}:∀ d:List Int,Cg p (zr p r d) 0->(∀ c∈quo p r d,Cg p c 0)->∀ c∈d,Cg p c 0
 | [],_,_,c,hc=>by cases hc
 | [a],h,_,c,hc=>by
  obtain rfl:c=a:=by simpa using hc
  have h1:Cg p (zr p r [c]) (c+r*0):=zaf p r c [];exact (#[IG].trans h1.symm).trans h
 | a :: d :: cs,h,hq,c,hc=>by
  have h0:Cg p (zr p r (d :: cs)) 0:=hq _ aw;rcases (aK.mp hc) with rfl | hc
  ·have h1:=zaf p r c (d :: cs);have h2:=(Cg.refl p r).mul h0;have h3:=(h1.symm.trans h).sub h2;exact #[IG].trans (h3.trans #[IG])
  ·exact zgi (d :: cs) h0 (fun c hc=>hq c (aj _ hc)) c hc
theorem zir {p a y:Int} (hp:p∈zy) (ha0:a % p≠0) (h:Cg p (a*y) 0):Cg p y 0:=by
 have rp:=zQ hp;have g0:=aM a (show p≠0 by lia);have g1:=aE a (show 0 < p by lia);have hi:=ze4 hp (h:=a % p) #[O] g1;have h1:Cg p (inv p (a % p)*(a % p)*y) (1*y):=hi.mul (Cg.refl p y);have h2:Cg p (inv p (a % p)*(a % p)*y) (inv p (a % p)*(a*y)):=by
  have:=((Cg.refl p (inv p (a % p))).mul (Cg.emod p a)).mul (Cg.refl p y);exact this.trans (Cg.of_eq (by grind))
 have h3:=(Cg.refl p (inv p (a % p))).mul h;exact #[IG].trans (h1.symm.trans (h2.trans (h3.trans #[IG])))
theorem zdX {p:Int} (hp:p∈zy):∀ (n:Nat) (d xs:List Int),d.length=n->n<=xs.length->xs.Nodup->(∀ x∈xs,0<=x/\x < p)->(∀ x∈xs,Cg p (zr p x d) 0)->∀ c∈d,Cg p c 0
 | 0,d,xs,hd,_,_,_,_,c,hc=>by
  rw [dw] at hd;subst hd;cases hc
 | n+1,d,[],hd,hx,_,_,_,c,hc=>by simp at hx
 | n+1,[],r :: xs,hd,hx,_,_,_,c,hc=>by cases hc
 | n+1,a :: cs,r :: xs,hd,hx,mH,oQ,hz,c,hc=>by
  have rp:=zQ hp;obtain⟨r0,r1⟩:=oQ r aw;have hr:=hz r aw;refine zgi (a :: cs) hr (zdX hp n (quo p r (a :: cs)) xs (by rw [zhB]; simpa using hd) (by simpa using hx) (cI.mp mH).2 (fun x h=>oQ x (aj _ h)) fun x h=>?_) c hc;obtain⟨x0,x1⟩:=oQ x (aj _ h);have lW:x≠r:=fun e=>(cI.mp mH).1 (e ▸ h)
  have he:=zjI (p:=p) (r:=r) (x:=x) (a :: cs);have h0:=(hz x (aj _ h)).sub hr;refine zir hp (a:=x - r) (fun e=>?_) (he.symm.trans (h0.trans #[IG]));have:Cg p x r:=by
   have h1:Cg p (x - r) 0:=Cg.F6 (by rw [e]; simp);have h2:=h1.add (Cg.refl p r);exact #[IG].trans (h2.trans #[IG])
  exact lW (this.eq x0 x1 r0 r1)
theorem zgj {p x:Int}:∀ {a b:List Int},a.length=b.length->Cg p (zr p x (aU (· - ·) a b)) (zr p x a - zr p x b)
 | [],[],_=>Cg.of_eq rfl
 | c :: a,d :: b,h=>by
  have ih:=zgj (p:=p) (x:=x) (a:=a) (b:=b) (by simpa using h);have h1:=zaf p x c a;have h2:=zaf p x d b;have h3:Cg p (zr p x (aU (· - ·) (c :: a) (d :: b))) (c - d+x*zr p x (aU (· - ·) a b)):=zaf p x (c - d) _;refine h3.trans (((Cg.refl p (c - d)).add ((Cg.refl p x).mul ih)).trans (Cg.symm ((h1.sub h2).trans (Cg.of_eq (by grind)))))
 | [],_ :: _,h=>by simp at h
 | _ :: _,[],h=>by simp at h
theorem zgk {p:Int}:∀ {a b:List Int},a.length=b.length->(∀ c∈a,0<=c/\c < p)->(∀ c∈b,0<=c/\c < p)->(∀ c∈aU (· - ·) a b,Cg p c 0)->a=b
 | [],[],_,_,_,_=>rfl
 | c :: a,d :: b,h,ha,hb,hz=>by
  obtain⟨c0,c1⟩:=ha c aw;obtain⟨d0,d1⟩:=hb d aw;have h1:Cg p (c - d) 0:=hz _ aw;have h2:Cg p c d:=#[IG].trans ((h1.add (Cg.refl p d)).trans #[IG]);rw [h2.eq c0 c1 d0 d1,zgk (by simpa using h) (fun c hc=>ha c (aj _ hc)) (fun c hc=>hb c (aj _ hc)) (fun c hc=>hz c (aj _ hc))]
 | [],_ :: _,h,_,_,_=>by simp at h
 | _ :: _,[],h,_,_,_=>by simp at h
theorem zgl {p:Int} (hp:p∈zy) {a b xs:List Int} (hl:a.length=b.length) (hx:a.length<=xs.length) (mH:xs.Nodup) (oQ:∀ x∈xs,0<=x/\x < p) (ha:∀ c∈a,0<=c/\c < p) (hb:∀ c∈b,0<=c/\c < p)
  (he:∀ x∈xs,zr p x a=zr p x b):a=b:=by
 refine zgk hl ha hb (zdX hp a.length _ xs (by rw [fG]; lia) hx mH oQ fun x h=>?_);refine (zgj hl).trans (Cg.of_eq ?_);rw [he x h];lia
theorem zjJ {p:Int} (hp:p∈zy) {pk:List (Int×Int)} (hP:Pts p pk) {q:List Int} (hl:q.length=pk.length) (hq:∀ c∈q,0<=c/\c < p) (hh:∀ a∈pk,zr p a.1 q=a.2):q=thr p pk:=by
 obtain⟨h1,h2,h3⟩:=zjf hp hP;refine zgl hp (xs:=pk.map (·.1)) #[O] (by rw [aa]; lia) hP.nd (fun x hx=>?_) hq h2 fun x hx=>?_
 ·obtain⟨a,ha,rfl⟩:=aF.mp hx;exact⟨(hP.rg a ha).1,(hP.rg a ha).2.1⟩
 ·obtain⟨a,ha,rfl⟩:=aF.mp hx;rw [hh a ha,h3 a ha]
theorem Pts.sub {p:Int} {pk:List (Int×Int)} (h:Pts p kW) (hs:pk.Sublist kW):Pts p pk:=⟨(hs.map _).nodup h.nd,fun q hq=>h.rg q (hs.subset hq)⟩
noncomputable def IsP (p:Int) (k:Nat) (q:List Int):Prop:=q.length=k/\∀ c∈q,0<=c/\c < p
noncomputable def zdd (p:Int) (k:Nat) (qs:List #[Iv]):Prop:=(∀ q∈qs,IsP p k q)/\qs.Pairwise fun a b=>Srt.num p a < Srt.num p b
theorem zhC {B:Int} (hB:1<=B):∀ {a b:List Int},a.length=b.length->(∀ n∈a,0<=n/\n < B)->(∀ n∈b,0<=n/\n < B)->Srt.num B a=Srt.num B b->a=b
 | [],[],_,_,_,_=>rfl
 | c :: a,d :: b,h,ha,hb,e=>by
  have h':a.length=b.length:=by simpa using h
  have ra:=Srt.EL hB (ns:=a) fun n hn=>ha n (aj _ hn)
  have rb:=Srt.EL hB (ns:=b) fun n hn=>hb n (aj _ hn)
  have e':c*B ^ a.length+Srt.num B a=d*B ^ b.length+Srt.num B b:=e;rw [<- h'] at e' rb;generalize B ^ a.length=M at e' ra rb;have hM:0 < M:=by lia
  have n4:c=d:=by
   have e2:(c - d)*M=Srt.num B b - Srt.num B a:=by
    rw [Int.sub_mul];lia
   rcases (jt c d) with kU | heq | hgt
   ·have:(c - d)*M<=(-1)*M:=cM #[O] #[O];lia
   ·exact heq
   ·have:1*M<=(c - d)*M:=cM #[O] #[O];lia
  subst n4;rw [zhC hB h' (fun n hn=>ha n (aj _ hn)) (fun n hn=>hb n (aj _ hn)) #[O]]
 | [],_ :: _,h,_,_,_=>by simp at h
 | _ :: _,[],h,_,_,_=>by simp at h
theorem zhD {p:Int} (hp:1<=p) (h1:∀ q∈qs,IsP p k q) (h2:qs.Nodup) (h3:qs.Pairwise fun a b=>Srt.num p a<=Srt.num p b):zdd p k qs:=by
 refine⟨h1,?_⟩;have h4:=h3.and h2;refine cN (fun {a b} ha hb h=>?_) h4;have lW:Srt.num p a≠Srt.num p b:=fun e=>h.2 (zhC hp ((h1 a ha).1.trans (h1 b hb).1.symm) (h1 a ha).2 (h1 b hb).2 e)
 have:=h.1;lia
theorem zdd.tail {p:Int} {q:List Int} (h:zdd p k (q :: qs)):zdd p k qs:=⟨fun x hx=>h.1 x #[L8],(cn.mp h.2).2⟩
theorem zhE {p:Int} {k:Nat}:∀ {as bs:List #[Iv]},zdd p k as->zdd p k bs->(∀ q,q∈as↔q∈bs)->as=bs
 | [],[],_,_,_=>rfl
 | [],b :: bs,_,_,h=>by
  have:=(h b).mpr aw;cases this
 | a :: as,[],_,_,h=>by
  have:=(h a).mp aw;cases this
 | a :: as,b :: bs,ha,hb,h=>by
  have pa:=(cn.mp ha.2).1;have pb:=(cn.mp hb.2).1;have e:a=b:=by
   rcases (aK.mp ((h a).mp aw)) with e | ma
   ·exact e
   ·rcases (aK.mp ((h b).mpr aw)) with e | mb
    ·exact e.symm
    ·have:=pb a ma;have:=pa b mb;lia
  subst e;rw [zhE ha.tail hb.tail fun q=>?_];have hq:=h q;rw [aK,aK] at hq;constructor
  ·intro m;rcases (hq.mp (.inr m)) with rfl | z
   ·exact absurd (pa q m) #[O]
   ·exact z
  ·intro m;rcases (hq.mpr (.inr m)) with rfl | z
   ·exact absurd (pb q m) #[O]
   ·exact z
theorem zdd.filter {p:Int} (f:List Int->Bool) (h:zdd p k qs):zdd p k (qs.filter f):=⟨fun q hq=>h.1 q (bC.mp hq).1,h.2.filter f⟩
noncomputable def PtB (H:Hp):List Addr->List (Int×Int)->Prop:=Paired fun b q=>H b=some (.tup [.int q.1,.int q.2])
theorem PtB.same (s:zw H H') {bs:List Addr} (h:PtB H bs kW):PtB H' bs kW:=eR #[Kn] h
noncomputable def zbl (H:Hp):List Addr->List #[Iv]->Prop:=Paired fun r q=>H r=some (.tup (q.map V.int))
theorem zbl.same (s:zw H H') {rs:List Addr} (h:zbl H rs qs):zbl H' rs qs:=eR #[Kn] h
theorem zbl.of {H:Hp}:∀ {ps:List (Addr×List Int)},(∀ q∈ps,H q.1=some (.tup (q.2.map V.int)))->zbl H (ps.map (·.1)) (ps.map (·.2))
 | [],_=>.nil
 | a :: ps,h=>.cons (h a aw) (zbl.of fun q hq=>h q (aj _ hq))
theorem zjK {κ:Type} [DecidableEq κ] (kvs:List (κ×V)) (k:κ) (v:V):#[Jj].map (·.1)=if k∈kvs.map (·.1) then kvs.map (·.1) else kvs.map (·.1)++[k]:=by
 unfold putK;by_cases h:(kvs.any fun kv=>decide (kv.1=k))=true
 ·rw [if_pos h];obtain⟨kv,h1,h2⟩:=cp.mp h;have h2:kv.1=k:=by simpa using h2
  rw [if_pos (by rw [<- h2]; exact bT h1),aI];refine ca fun a _=>?_
  show (if a.1=k then (a.1,v) else a).1=a.1;split <;> rfl
 ·rw [if_neg h];rw [if_neg (fun hm=>h ?_),av]
  ·rfl
  ·obtain⟨kv,h1,h2⟩:=aF.mp hm;exact cp.mpr ⟨kv,h1,by simpa using h2⟩
theorem zdD {a b:List Int} (h:(a.map aZ:List Key)=b.map aZ):a=b:=by
 induction a generalizing b with
 | nil=>cases b with
  | nil=>rfl
  | cons _ _=>simp at h
 | cons x a ih=>cases b with
  | nil=>simp at h
  | cons y b =>
   rw [aT,aT] at h;obtain⟨h1,h2⟩:=iD h;rw [gO h1,ih h2]
noncomputable def KeysAre (kvs:List (List Key×V)) (kE:List #[Iv]):Prop:=kvs.map (·.1)=kE.map (·.map aZ)
theorem zcV {kE:List #[Iv]} (h:KeysAre kvs kE) (hn:kE.Nodup) (q:List Int) (v:V):∃ nU,KeysAre (putK kvs (q.map aZ) v) nU/\nU.Nodup/\nU.length<=kE.length+1/\∀ x,x∈nU↔x∈kE\/x=q:=by
 unfold KeysAre at h |-;rw [zjK,h];have hm:(q.map aZ:List Key)∈kE.map (·.map aZ)↔q∈kE:=by
  constructor
  ·intro hm;obtain⟨x,hx,e⟩:=aF.mp hm;rw [<- zdD e];exact hx
  ·intro hm;exact bT hm
 by_cases hq:q∈kE
 ·refine⟨kE,by rw [if_pos (hm.mpr hq)],hn,#[O],fun x=>⟨.inl,fun z=>z.elim id fun e=>e ▸ hq⟩⟩
 ·refine⟨kE++[q],by rw [if_neg fun z=>hq (hm.mp z),av]; rfl,?_,by rw [aA]; exact ag _,fun x=>by rw [aR,aW]⟩;rw [cA];exact⟨hn,#[M],fun a ha b hb e=>hq (by rw [<- aW.mp hb,<- e]; exact ha)⟩
theorem zbx {α β:Type} {F:α->β->Prop}:∀ {a:List α} {b:List β} {c:List α} {d:List β},Paired F a b->Paired F c d->Paired F (a++c) (b++d)
 | _,_,_,_,.nil,h=>h
 | _,_,_,_,.cons r t,h=>.cons r (zbx t h)
theorem zis {α:Type} {xs:List α} {m:Nat} {c:List α}:(c.Sublist xs/\c.length=m+1)↔∃ (j:Nat) (x:α) (c':List α),j < xs.length/\xs[j]? = some x/\c=x :: c'/\c'.Sublist (xs.drop (j+1))/\c'.length=m:=by
 constructor
 ·rintro⟨h,hl⟩;cases c with
  | nil=>simp at hl
  | cons x c' =>
   have go:∀ {xs:List α},(x :: c').Sublist xs->∃ j,j < xs.length/\xs[j]? = some x/\c'.Sublist (xs.drop (j+1)):=by
    intro xs h;induction xs with
    | nil=>exact absurd (List.sublist_nil.mp h) #[M]
    | cons y ys ih =>
     cases h with
     | cons _ h =>
      obtain⟨j,h1,h2,h3⟩:=ih h;exact⟨j+1,by rw [bA]; lia,by rw [cv]; exact h2,by rw [List.drop_succ_cons]; exact h3⟩
     | cons_cons _ h=>exact⟨0,by rw [bA]; lia,rfl,h⟩
   obtain⟨j,h1,h2,h3⟩:=go h;exact⟨j,x,c',h1,h2,rfl,h3,by simpa using hl⟩
 ·rintro⟨j,x,c',h1,h2,rfl,h3,h4⟩;refine⟨?_,by rw [bA,h4]⟩;have e:=zdN h2;rw [e];exact (h3.cons_cons x).trans (List.sublist_append_right _ _)
noncomputable def zdn (p:Int) (q:List Int):List #[Iv]:=(bW p.toNat).map fun n:Nat=>q++[(n:Int)]
theorem zit (p:Int) (q:List Int):(zdn p q).length=p.toNat:=by unfold zdn; rw [aa,gl]
theorem zjL {p:Int} {i:Nat} {q':List Int}:IsP p (i+1) q'↔∃ q,IsP p i q/\q'∈zdn p q:=by
 constructor
 ·rintro⟨h1,h2⟩;have lW:q'≠[]:=fun e=>by rw [e] at h1; simp at h1
  (have e:=List.dropLast_concat_getLast lW)
  refine⟨q'.dropLast,⟨by rw [List.length_dropLast]; lia,fun c hc=>h2 c (List.dropLast_subset _ hc)⟩,?_⟩;obtain⟨b0,b1⟩:=h2 _ (List.getLast_mem lW);unfold zdn;refine aF.mpr ⟨(q'.getLast lW).toNat,cu.mpr #[O],?_⟩;rw [show (((q'.getLast lW).toNat:Nat):Int)=q'.getLast lW by lia];exact e
 ·rintro⟨q,⟨h1,h2⟩,h⟩;unfold zdn at h;obtain⟨n,hn,rfl⟩:=aF.mp h;have:=cu.mp hn;refine⟨by rw [aA,h1]; rfl,fun c hc=>?_⟩;rcases (aR.mp hc) with hc | hc
  ·exact h2 c hc
  ·rw [aW.mp hc];lia
theorem zjM {p:Int} {i:Nat} (h:∀ q,q∈qs↔IsP p i q):∀ q,q∈qs.flatMap (zdn p)↔IsP p (i+1) q:=fun q=>by
 rw [List.mem_flatMap,zjL];constructor
 ·rintro⟨a,h1,h2⟩;exact⟨a,(h a).mp h1,h2⟩
 ·rintro⟨a,h1,h2⟩;exact⟨a,(h a).mpr h1,h2⟩
theorem zcW {p:Int}:∀ qs:List #[Iv],(qs.flatMap (zdn p)).length=qs.length*p.toNat
 | []=>by simp
 | q :: qs=>by
  rw [ju,aA,zit,zcW qs,bA,Nat.succ_mul];lia
noncomputable def zjN (K:af):Sp:=fun vs H Q _=>∃ (p:Int) (k:Nat),vs = [.int p,.int (k:Int)]/\0 < p/\p<=97/\k<=2 /\
 ∀ (l:Addr) (rs:List Addr) (qs:List #[Iv]) (H':Hp),H l=none->zw H H'->H' l=some #[Jt]->zbl H' rs qs->qs.length<=10000->(∀ q,q∈qs↔IsP p k q)->Q #[JF] H'
end My
end
section
namespace L2
open PySem PySem.Spec PyProof.Rows
variable {H:Hp} {P:Program} {X:Cx} {h:Heap} {km:List (Addr×Obj)} {kvs:List (List Key×V)} {s:Shared} {tg:Expr} {w:World}
noncomputable def Itd (d:Addr) (o:Obj) (kvs:List (List Key×V)):It :=
 ⟨fun i H=>H d=some #[JZ]/\i < kvs.length,fun i H x H'=>H'=H/\∃ a k,x = .ref a/\(kvs.map (·.1))[i]? = some k/\H a=some #[Jk],fun i H=>H d=some #[JZ]/\kvs.length<=i⟩
theorem zjO {d:Addr} {o:Obj} {es:Array DictEntry} {ep:Nat} (hd:o.data = .dict es ep) (x:z6 P w H h d #[JZ]) :
  zdt h d es ep/\es.size=kvs.length/\∀ (i:Nat) (e:DictEntry),es[i]? = some e->∃ a k,e.key = .ref a/\(kvs.map (·.1))[i]? = some k/\H a=some #[Jk]:=by
 obtain⟨ho,_,_,xs,hp,o',wK,Af,qm,hx,he,t6,mH⟩:=x;have e1:o'=o:=by rw [ho] at qm; exact (aQ qm).symm
 subst e1;rw [he] at hd;cases hd;have hl:es.toList.length=kvs.length:=by rw [t6,aa]; exact (fZ hp).symm
 refine⟨⟨o',ho,hx,he⟩,by simpa using hl,fun i e h=>?_⟩;have h':es.toList[i]? = some e:=by rw [aY]; exact h
 rw [t6,aB] at h';cases um:xs[i]? with
 | none=>rw [um] at h'; cases h'
 | some x =>
  rw [um] at h';have xE:e=entryOfKey #[Ja] x:=(aQ h').symm;have key:∀ {kvs:List (List Key×V)} {xs:List (List Key×Addr×Value)},Paired (fun (p:List Key×V) (q:List Key×Addr×Value)=>p.1=q.1/\H q.2.1=some (.tup (p.1.map kV))/\RelV p.2 q.2.2) kvs xs->∀ (i:Nat) x,xs[i]? = some x->∃ p,kvs[i]? = some p/\H x.2.1=some (.tup (p.1.map kV)):=by
   intro kvs xs hp;induction hp with
   | nil=>intro i x h; simp at h
   | cons h1 _ ih =>
    intro i x h;cases i with
    | zero =>
     (simp only [gG,jv] at h)
     subst h;exact⟨_,rfl,h1.2.1⟩
    | succ i =>
     rw [cv] at h;obtain⟨p,hp,hh⟩:=ih i x h;exact⟨p,by rw [cv]; exact hp,hh⟩
  obtain⟨p,n6,hh⟩:=key hp i x um;exact⟨x.2.1,p.1,by rw [xE]; rfl,by rw [aB,n6]; rfl,hh⟩
theorem zkM {K:af} (d it:Addr) (o:Obj) (kvs:List (List Key×V)) (es:Array DictEntry) (ep:Nat) (hd:o.data = .dict es ep):Turn P w K tg (Itd d o kvs) [it] it (fun i h=>h.IsKeyIter it d i es.size ep) where
 mem:=by simp
 obj:=fun i h st b hb=>by
  have e:b=it:=by simpa using hb
  subst e;obtain⟨o,e,c,d⟩:=st;exact⟨o,e,fun v z=>by rw [d] at z; cases z⟩
 keep:=fun i h h' st k=>st.at fun o e=>k it #[M] o e
 item:=by
  intro X hP hw hK hc i km s σ H E I hf st hg;subst hP hw hK;obtain⟨hq,hi⟩:=hg;obtain⟨sW,hsz,nh⟩:=zjO hd (I.hok d _ hq);have mJ:i < es.size:=by lia
  obtain⟨a,k,he,hk,ha⟩:=nh i es[i] (getElem?_pos es i mJ);obtain⟨f0,f1,f2,f3,f4,f5⟩:=hf it #[M];refine zgg st sW (getElem?_pos es i mJ) fun h' ku sb=>?_
  have I1:Inv X km σ H { s with heap:=h' }:=I.turned (t':=s.toks) (fun b o hb e=>(sb.2 b hb).trans e) f0 f1 f3 f4 f5;obtain⟨o,e,c,d⟩:=id ku;exact⟨_,rfl,zeg (s:={ s with heap:=h' }) e c d #[D] ⟨.ref a,H,I1,by rw [he]; rfl,⟨rfl,a,k,rfl,hk,ha⟩,ku,fun b hb=>(hf b hb).1⟩⟩
 done:=by
  intro X hP hw hK hc i km s σ H E I hf st hg;subst hP hw hK;obtain⟨hq,hi⟩:=hg;obtain⟨sW,hsz,nh⟩:=zjO hd (I.hok d _ hq);obtain⟨f0,f1,f2,f3,f4,f5⟩:=hf it #[M];exact zhA #[IQ] st sW #[O] fun h' eb=>#[pi]
 self:=fun _ _ _ _ _ st h=>ip st h
theorem Inv.Im {σ:St} {d:Addr} {o:Obj} (I:Inv X km σ H s) (hd:H d=some #[IL]) (ho:s.heap.get? d=some o):Inv X km σ (kx H d #[JZ]) s:=by
 have ne:∀ b u,H b=some u->(∀ k,u≠.dT k)->b≠d:=fun b u e n z=>by subst z; rw [hd] at e; exact n kvs (aQ e).symm
 have nn:∀ b,H b=none->b≠d:=fun b e z=>by subst z; rw [hd] at e; cases e
 have up:∀ b,H b=none->kx H d #[JZ] b=none:=fun b e=>by rw [zp (nn b e)]; exact e
 refine⟨I.ok,I.os,I.bare,⟨I.base.keep,I.base.slot,fun b u e n hx=>up b (I.base.free b u e n hx),I.base.there,fun b xs e=>?_,fun b u xs e=>?_,fun b ps e=>?_⟩,I.loc,I.cell,up _ I.free,fun x c e=>up _ (I.D4 x c e),fun p n6=>?_,fun b u e=>?_,I.len⟩
 ·have:=I.base.Fc b xs e;rw [zp (ne b _ this fun k z=>by cases z)];exact this
 ·have:=I.base.Fz b u xs e;rw [zp (ne b _ this fun k z=>by cases z)];exact this
 ·obtain⟨more,q⟩:=I.base.Fy b ps e;exact⟨more,by rw [zp (ne b _ q fun k z=>by cases z)]; exact q⟩
 ·obtain⟨a1,a2,a3⟩:=I.pin p n6;exact⟨a1,up _ a2,a3⟩
 ·have FF:∀ {u:HO} {b:Addr},z6 X.prog X.w H s.heap b u->z6 X.prog X.w (kx H d #[JZ]) s.heap b u:=fun {u b} x=>x.FF (fun c v _ q=>q) (fun c q=>by rw [zp (ne c _ q fun k z=>by cases z)]; exact q) fun c xs q=>by rw [zp (ne c _ q fun k z=>by cases z)]; exact q
  by_cases hb:b=d
  ·subst hb;rw [zb] at e;cases e;exact⟨ho,FF (I.hok b _ hd)⟩
  ·rw [zp hb] at e;exact FF #[KP]
noncomputable def iDT (tl:TE):TI:=fun σ H R=>tl σ H fun x H1=>∃ d kvs,x = .ref d/\H1 d=some #[IL]/\∀ o,R (Itd d o kvs) (kx H1 d #[JZ])
theorem zlg {X:Cx} {tg l:Expr} {tl:TE} (hl:PE X l tl):PI X tg l (iDT tl):=by
 intro km s σ H R I h;refine thn #[LA] fun v s1 ⟨x,H1,I1,r1,q1⟩=>?_
 obtain⟨d,kvs,e,hd,q⟩:=q1;subst e;cases r1;obtain⟨hz,hs,xs,hp,o,es,ep,ho,hx,he,t6,mH⟩:=I1.hok d _ hd;have I2:=I1.Im hd ho;refine zgf (es:=es) (ep:=ep) hs ⟨o,ho,hx,he⟩ ?_;refine⟨s1.heap.objs.size,[s1.heap.objs.size],_,_,_,rfl,I2.kept (t':=s1.toks) fun b o e=>ai _ e,zkM d _ o kvs es ep he,⟨_,aC _ rfl,rfl,rfl⟩,fun b hb=>?_,q o⟩;have e:b=s1.heap.objs.size:=by simpa using hb
 subst e;exact I2.GB (ag _) (I2.hok.fresh (ag _))
noncomputable def zl1 (K:af):R2:=fun x y H Q=>∃ a b xs ys,x = .ref a/\y = .ref b/\kJ K H a xs/\kJ K H b ys/\ys≠[]/\xs.length+ys.length<=sizeLine /\
 (xs = []->Q #[M9] H)/\(xs≠[]->∀ p,H p=none->Q (.ref p) (kx H p (.tup (xs++ys))))
theorem ziu {X:Cx} {K:af} (hK:X.K=K):OpR X #[LI] (zl1 K):=by
 subst hK;intro km s σ H x y v u Q I rx ry h;obtain⟨a,b,xs,ys,rfl,rfl,ha,hb,hy,hz,q1,q2⟩:=h;by_cases hx:xs = []
 ·cases rx;cases ry;obtain⟨kq,r1,p1,_⟩:=I.tuple ha;obtain⟨ni,r2,p2,_⟩:=I.tuple hb;obtain⟨⟨cls,dd,data,sl⟩,ho,hc,n,hd⟩:=id p1;obtain⟨⟨Bd,Ai,data2,uf⟩,qO,su,n2,hd2⟩:=id p2;simp only at hc hd su hd2;subst hc hd su hd2;exact iW ⟨_,ho,rfl⟩ ⟨_,qO,rfl⟩ gt iu eN eJ (er _ _)
   (tuple_addW0 a b kq.toArray ni.toArray n n2 dd Ai sl uf (by simp [r1.Fm.mpr hx])) ⟨ho,qO,⟨.ref b,H,I,rfl,q1 hx⟩⟩
 ·exact zkj km s σ H _ _ v u Q I rx ry ⟨a,b,xs,ys,rfl,rfl,ha,hb,hx,hz,fun z=>absurd z hy,fun _=>q2 hx⟩
end L2
end
section
namespace My
open PySem L2 PyProof.Rows
variable {H:Hp} {X:Cx} {kW:List (Int×Int)}
theorem zfj {st:Stmt} {ts:TS} (h:PS X st ts):PS X st (fun D σ H=>∃ Pv:L2.St->Hp->Prop,ts { D with nx:=Pv } σ H/\∀ σ' H',Pv σ' H'->D.nx σ' H'):=by
 intro km s σ H D I hq;obtain⟨Pv,h1,h2⟩:=hq;refine thn (h km s σ H _ I h1) fun f s1 q=>?_
 cases f with
 | next =>
  obtain⟨σ',H',I',p⟩:=q;exact⟨σ',H',I',h2 _ _ p⟩
 | ret v=>exact q
 | brk=>exact q
 | cont=>exact q
theorem zbl.zs {H:Hp}:∀ {us:List Addr} {qs:List #[Iv]},zbl H us qs->∃ ps:List (Addr×List Int),us=ps.map (·.1)/\qs=ps.map (·.2)/\∀ q∈ps,H q.1=some (.tup (q.2.map V.int))
 | _,_,.nil=>⟨[],rfl,rfl,#[M]⟩
 | _,_,.cons (a:=b) (b:=q) r t=>by
  obtain⟨zs,h1,h2,h3⟩:=zbl.zs t;refine⟨(b,q) :: zs,by rw [h1]; rfl,by rw [h2]; rfl,fun z hz=>?_⟩;rcases (aK.mp hz) with rfl | hz
  ·exact r
  ·exact h3 z hz
theorem zgm {a:Addr} {o:HO}:zw (hide H a) #[Kg]:=fun b u e=>by
 unfold hide at e;by_cases hb:b=a
 ·rw [if_pos hb] at e; cases e
 ·rw [if_neg hb] at e;rw [zp hb];exact e
theorem PtB.pts {K:af} {a:Addr} {bs:List Addr} (ha:H a=some #[ul]) (h:PtB H bs kW):zk9 K H a kW:=by
 refine⟨bs,kr.of ha,h.length,fun i b q h1 h2=>?_⟩;obtain⟨q',h3,h4⟩:=Paired.get h h1;rw [h2] at h3;cases h3;exact h4
end My
end
section
namespace L2
open PySem PySem.Spec PyProof.Rows
end L2
end
section
namespace HT
open PySem PySem.Spec PyProof.Rows
end HT
namespace L2
open PySem PySem.Spec PyProof.Rows
theorem zjP {X:Cx} {K:af} {tg l:Expr} {tl:TE} (hK:X.K=K) (hl:PE X l tl):PI X tg l (zk3 K tl):=by subst hK; exact zae hl
end L2
end
section
namespace My
open PySem L2 PyProof.Rows
end My
end
section
namespace L2
open PySem PySem.Spec PyProof.Rows PySem.W
variable {A:Around} {CX:CXT} {H:Hp} {M:Model} {N:List Str} {P:Program} {X:Cx} {cP:Addr} {fd:FuncData} {j k:Nat} {km:List (Addr×Obj)} {mg:Str->Option Value} {name qual:Str} {ns:List Int} {oc pm:Value} {od:Option Addr} {params:Arguments} {pos:Pos} {s:Shared} {sc scope:Scope} {sl:Array #[Kj]} {sp:Sp} {vs:List Value} {w:World}
noncomputable def zea (mg:Str->Option Value) (h:Heap):Prop:=∃ bm ob,mg "__builtins__" = some (.ref bm)/\bm≠builtinsNs/\h.get? bm=some ob/\ob.cls = .type "module"/\ob.dict=some builtinsNs/\ob.data = .plain
noncomputable def zhF (c:Addr) (q:Str):HO:=.ext fun h=>h.CodeRec #[K3] q
noncomputable def TbI (P:Addr) (pos:Pos) (q:Str) (H:Hp):Prop:=∃ ps,H P=some #[MW]/\TriplesOk ps.toList/\(codeAmong pos ps.toList=none\/∃ c,codeAmong pos ps.toList=some #[K3]/\H c=some (zhF c q))
theorem ziv {σ:St} {c:Addr} {q:Str} (I:Inv X km σ H s) (h:H c=some (zhF c q)):s.heap.CodeRec #[K3] q:=(I.hok c _ h).1
theorem zcX {a b:Int} {t u:Tok} {c:Value}:∀ {l:List Value},TriplesOk l->TriplesOk (l++[.int a t,.int b u,c])
 | [],_=>trivial
 | [_],h=>by
  unfold TriplesOk at h;split at h <;> first | trivial | (rename_i e; simp at e) | exact h.elim
 | [_,_],h=>by
  unfold TriplesOk at h;split at h <;> first | trivial | (rename_i e; simp at e) | exact h.elim
 | x :: y :: z :: l,h=>by
  unfold TriplesOk at h;split at h
  ·rename_i e; simp at e
  ·rename_i e
   simp only [jX] at e;obtain⟨rfl,rfl,rfl,rfl⟩:=e;exact zcX (l:=l) h
  ·exact h.elim
theorem zjQ {σ:St} {c P:Addr} {q:Str} {body:Expr} {fl:Nat} {GU:List (Str×Addr)} {E:Value->Shared->Prop} {Q:Value->Shared->Prop}
  (I:Inv X km σ H s) (qT:X.env.code = .ref c) (hK:codeHdIn X.K c P=true) (hB:zea X.mg X.base) (oF:closureFor scope X.env=pure GU) (hT:TbI P pos q H)
  (h:∀ (f c':Addr) (qo:Value) (H':Hp) (h':Heap) (tk:Nat),Inv X km σ H' { s with heap:=h',toks:=tk }->(∀ b,b≠P->∀ o,H b=some o->H' b=some o)->TbI P pos q H' ->
   h'.get? f=some (kla_obj name q params body scope GU ((X.mg "__name__").getD .none) c' qo)->h'.CodeRec (.ref c') q->s.heap.objs.size<=f->H' f=none->f≠X.env.locals->Q #[J9] { s with heap:=h',toks:=tk }) :
  wpAny M A (makeFunction name q params (.expr body) scope X.env [] [] [] pos fl) Q E s:=by
 obtain⟨ps,hP,ht,hT⟩:=hT;have hg:s.heap.Ns mainGlobals X.mg:=I.mod.glob.keeps I.bk;have C:CodeHd s.heap c P:=codeHd_of_K I.kIn hK;have oP:s.heap.get? P=some (tabObj ps):=I.hok P _ hP;have hgP:mainGlobals≠P:=fun e=>by
  obtain⟨o,es,ep,e1,hd,_⟩:=hg;rw [e,oP] at e1; cases e1; cases hd
 have hb:s.heap.BuiltinsAt X.mg P:=by
  obtain⟨bm,ob,b1,b2,b3,b4,b5,b6⟩:=hB;have xU:=I.bk _ _ b3;refine⟨bm,ob,b1,b2,fun e=>?_,fun e=>?_,xU,b4,b5,b6⟩
  ·obtain⟨o,es,ep,e1,hd,_⟩:=hg;rw [e,e1] at xU; cases xU; rw [hd] at b6; cases b6
  ·rw [e,oP] at xU; cases xU; cases b4
 have hLP:X.env.locals≠P:=fun e=>by have:=I.free; rw [e,hP] at this; cases this
 obtain⟨m0,n0,_⟩:=id I.loc;have AD:X.env.locals < s.heap.objs.size:=n0.lt;rcases hT with hT | ⟨c0,hT,hc0⟩
 ·refine kla_makeFunction (mg:=X.mg) oF I.ok.glob hg qT C oP ht hT hgP hb fun c' qo h' tk hx nS kU vX qp=>?_
  have vY:H c'=none:=I.hok.fresh nS;have xV:c'≠P:=fun e=>by rw [e,hP] at vY; cases vY
  have k1:∀ b o,b≠P->s.heap.get? b=some o->(h'.push (kla_obj name q params body scope GU ((X.mg "__name__").getD .none) c' qo)).get? b=some o:=fun b o hb e=>ai _ (hx b o hb e)
  have uz:(h'.push (kla_obj name q params body scope GU ((X.mg "__name__").getD .none) c' qo)).get? P=some (tabObj (ps++#[Ir])):=ai _ qp;have vc:(h'.push (kla_obj name q params body scope GU ((X.mg "__name__").getD .none) c' qo)).CodeRec (.ref c') q:=vX.push _;have hsz:s.heap.objs.size<=h'.objs.size:=bh nS (dI kU);have u1:∀ b,b≠P->b≠c'->kx (kx H P (.tbl (ps++#[Ir]))) c' (zhF c' q) b=H b:=fun b h1 h2=>by rw [zp h2,zp h1]
  have old:∀ b o,s.heap.get? b=some o->b≠c':=fun b o e=>aS (aN (az e) nS)
  have rE:∀ b o,H b=some o->b≠c':=fun b o e z=>by rw [z,vY] at e; cases e
  have I2:Inv X km σ (kx (kx H P (.tbl (ps++#[Ir]))) c' (zhF c' q)) { s with heap:=h'.push (kla_obj name q params body scope GU ((X.mg "__name__").getD .none) c' qo),toks:=tk }:=by
   refine I.step (g':=s.gens) (d':=s.drawn) (ch:=[]) (fun _ z=>nomatch z) (fun b o _ _ _ e n=>k1 b o (fun z=>by rw [z,hP] at n; cases n) e) (fun b o _ _ _ e n=>⟨o.slots,k1 b o (fun z=>by rw [z,hP] at n; cases n) e⟩)
    (fun b o _ e n=>by rw [u1 b (fun z=>by rw [z,hP] at n; cases n) (old b o e)]; exact n) (fun b o _ e=>?_) (fun b xs e=>?_) (fun b o u e=>?_) (fun b qs e=>?_) #[Lk] #[L4] I.bare
   ·by_cases hb:b=P
    ·rw [hb]; exact⟨_,uz⟩
    ·exact⟨o,k1 b o hb e⟩
   ·rw [u1 b (fun z=>by rw [z,hP] at e; cases e) (rE b _ e)]; exact e
   ·rw [u1 b (fun z=>by rw [z,hP] at e; cases e) (rE b _ e)]; exact e
   ·by_cases hb:b=P
    ·subst hb;rw [hP] at e; cases e;exact⟨_,by rw [zp (cQ xV),zb]⟩
    ·exact⟨#[],by rw [u1 b hb (rE b _ e),e]; simp⟩
   ·obtain⟨o,es,ep,ho,r⟩:=hm;exact⟨o,es,ep,k1 _ o hLP ho,r⟩
   ·by_cases hbc:b=c'
    ·subst hbc;rw [zb] at e; cases e;obtain⟨cc,oc,vs,t,e2,uT,hd,hv⟩:=vc;cases e2;exact⟨⟨_,oc,vs,t,rfl,uT,hd,hv⟩,⟨oc,uT⟩,fun h1 h2 ⟨cc,o1,vs1,t1,e3,vR,r1⟩ kk=>by cases e3; exact⟨_,o1,vs1,t1,rfl,kk _ vR,r1⟩⟩
    ·rw [zp hbc] at e;by_cases B8:b=P
     ·subst B8;rw [zb] at e; cases e;exact uz
     ·rw [zp B8] at e;refine #[KP].FF (fun d v hd r=>k1 d v (fun z=>?_) r) (fun d r=>?_) fun d xs r=>?_
      ·rcases hd with hd | hd
       ·exact B8 (hd.symm.trans z)
       ·rw [z,hP] at hd; cases hd
      ·rw [u1 d (fun z=>by rw [z,hP] at r; cases r) (rE d _ r)]; exact r
      ·rw [u1 d (fun z=>by rw [z,hP] at r; cases r) (rE d _ r)]; exact r
  refine h h'.objs.size c' qo _ _ tk I2 (fun b hb o e=>by rw [u1 b hb (rE b _ e)]; exact e) ⟨ps++#[Ir],by rw [zp (cQ xV),zb],?_,.inr ⟨c',?_,zb⟩⟩ (aC _ rfl) vc hsz ?_ ?_
  ·rw [bt]; exact zcX ht
  ·rw [bt]; exact codeAmong_snoc _ ht hT
  ·rw [u1 h'.objs.size (fun z=>absurd (show h'.objs.size < s.heap.objs.size from z ▸ az oP) (Nat.not_lt.mpr hsz)) (eh kU)];exact I.hok.fresh hsz
  ·exact eh (aN AD hsz)
 ·refine kla_makeFunctionHit (mg:=X.mg) oF I.ok.glob hg qT C oP ht hT hb fun qo h' tk hk hsz=>?_
  have k2:∀ b o,s.heap.get? b=some o->(h'.push { cls:=.type "function",data:=.func (kla_fn name q params body scope GU ((X.mg "__name__").getD .none) (.ref c0) qo) }).get? b=some o:=fun b o e=>ai _ (hk b o e)
  have I2:Inv X km σ H { s with heap:=h'.push { cls:=.type "function",data:=.func (kla_fn name q params body scope GU ((X.mg "__name__").getD .none) (.ref c0) qo) },toks:=tk } :=
   I.un (Un.kept k2) (I.hok.kept k2)
  exact h h'.objs.size c0 qo H _ tk I2 #[KA] ⟨ps,hP,ht,.inr ⟨c0,hT,hc0⟩⟩ (aC _ rfl) ((ziv I hc0).keeps k2) hsz (I.hok.fresh hsz) (eh (aN AD hsz))
structure HJ (sc:Scope) (x:Str) (ar:Arguments):Prop where
 kind:sc.kind = .function
 co:sc.isCoroutine=false
 gen:sc.isGenerator=false
 loc:sc.names.lookup x=some .local
 HE:∀ y∈sc.names,y.2≠.cell
 bind:∀ (name q:Str) (body:Expr) (cl:List (Str×Addr)) (pm cd ct u:Value),bindArgs (kla_fn name q ar body sc cl pm cd ct) ⟨[u],[]⟩=pure [(x,u)]
 dflt:∀ env,defaultsOf ar env=([],[])
 GU:∀ env,closureFor sc env=pure []
noncomputable def zl2 (P:Addr) (pos:Pos) (q:Str) (te:TE):TE:=fun σ H Q=>te σ H fun x H1=>∃ (l:Addr) (bs:List Addr),x = .ref l/\H1 l=some #[ul]/\bs.length < 64/\(∀ b∈bs,∃ u v n,H1 b=some (.tup [u,v,.int n]))/\TbI P pos q H1 /\
 ∀ (D:Addr) (o6:List Addr) (H2:Hp),o6.Perm bs->(∀ b,b≠P->∀ o,H1 b=some o->H2 b=some o)->TbI P pos q H2->H2 D=none->Q #[Is] (kx H2 D #[J7])
theorem zeL:∀ {rs:List Addr} {us:List Value},zG (rs.map V.ref) us->us=rs.map aP
 | [],_,.nil=>rfl
 | r :: rs,_,.cons h t=>by cases h; rw [zeL t]; rfl
theorem zeM:∀ (rs:List Addr),zG (rs.map V.ref) (rs.map aP)
 | []=>.nil
 | _ :: rs=>.cons rfl (zeM rs)
theorem zkN {f c' a:Addr} {q x:Str} {ar:Arguments} {qo:Value} {p1 p2 p3 p4:Pos} {kq:Array Value} {n:Int} {t:Tok} {Q:Value->Shared->Prop} {E:Value->Shared->Prop}
  (S:HJ sc x ar) (hx:(x == ("__debug__" : Str))=false) (B9:A.depth < recursionLimit) (lim:s.heap.NoLimit)
  (ho:s.heap.get? f=some (kla_obj name q ar #[wr] sc [] pm c' qo)) (n4:s.heap.CodeRec (.ref c') q)
  (ht:IsTup s.heap a kq) (hi:kq[2]? = some (.int n t)) (hz:kq.size=3)
  (h:∀ (h':Heap) (tk:Nat) (t':Tok),(∀ b o,s.heap.get? b=some o->h'.get? b=some o)->Q (.int (-n) t') { s with heap:=h',toks:=tk }) :
  wpAny #[J4] A (call #[J9] [.ref a]) Q E s:=by
 refine dS (kla_callFunE B9 ho rfl S.co S.gen rfl n4 ?_);rw [S.bind];refine ak (wpAny_newFunctionEnv S.HE (fun y hy=>?_) (fun h₁ uq xA=>⟨lim.fresh _ xA,?_⟩) S.kind)
 ·have e:y=(x,aP a):=by simpa using hy
  rw [e]; exact S.loc
 have k1:∀ b o,s.heap.get? b=some o->h₁.get? b=some o:=fun b o e=>xA.extBut b o (aS (az e)) (ai _ e)
 refine kla_codeExpr (UnaryOp_ (ii (ig (fh S.kind S.loc uq (v:=.ref a) ?_ (iU ?_)) hx)))
 ·simp
 have AB:IsTup h₁ a kq:=by obtain⟨o,e,r⟩:=ht; exact⟨o,k1 _ _ e,r⟩
 refine eO (x:=.int n t) AB.typeIs slot_tuple_getitem.lookup (iw (j:=2) (Q:=fun r s'=>r = .int n t/\_) AB #[D] #[D] (by rw [hz]; rfl) hi ⟨rfl,neg_int ?_⟩) rfl;exact h _ _ _ k1
theorem zjR (g:Addr->Int):∀ rs:List Addr,(rs.map fun b=>- g b).length=(rs.map aP).length:=fun rs=>by rw [aa,aa]
theorem zjS {X:Cx} {P c:Addr} {e:Expr} {te:TE} {x:Str} {ar:Arguments} {sc:Scope} {p pos kp lp p1 p2 p3 p4:Pos} {j:Nat} (qT:X.env.code = .ref c) (hK:codeHdIn X.K c P=true) (hB:zea X.mg X.base) (S:HJ sc x ar) (hx:(x == ("__debug__" : Str))=false)
  (B9:X.A.depth < recursionLimit) (hg:Gl X "sorted") (hm:X.mg "sorted" = none) (he:PE X e te)
  (nN:backTo pos (starEach [e] X.env) = [#[wS]]:=by rfl) :
  PE X (.Call (.Name "sorted" p) [e] [⟨some "key",.Lambda ar #[wr] sc lp,kp⟩] pos) (zl2 P lp (X.env.qual++"<lambda>") te):=by
 intro km s σ H Q I h;refine cG (zbH I hg hm gW ?_);refine callWith_kw ?_ (by rw [nN]; rfl) (by rw [nN]; rfl);rw [nN];refine dB (thn #[IR] fun v s1 ⟨y,H1,I1,r1,l,bs,ey,hl,h64,hbs,hT,q1⟩=>?_);subst ey;obtain rfl:v=aP l:=r1;refine eK (kws_cons (kla_eval (S.dflt _) (zjQ I1 qT hK hB (S.GU _) hT fun f c' qo H2 h2 tk I2 s2 pU hf vX hfs tV hfL=>kws_nil ?_)));show wpAny _ _ (call (.builtin "sorted") [.ref l] [(bG "key",.ref f)]) _ _ _;obtain⟨ps2,B',_⟩:=id pU;have neP:∀ b o,H1 b=some o->(∀ ps,o≠.tbl ps)->b≠P:=fun b o e1 nt z=>by
  obtain⟨ps,hP,_⟩:=hT;rw [z,hP] at e1;exact nt ps (aQ e1).symm
 have mS:=s2 l (neP l _ hl (fun _ z=>by cases z)) _ hl;obtain⟨kq,rv,pl,hz⟩:=I2.list (kr.of mS);have ev:=zeL rv;subst ev;have Ca:∀ b∈bs,∃ u v n,H2 b=some (.tup [u,v,.int n]):=fun b hb=>by
  obtain⟨u,v,n,z⟩:=hbs b hb;exact⟨u,v,n,s2 b (neP b _ z (fun _ y=>by cases y)) _ z⟩
 obtain⟨m0,n0,_⟩:=id I2.loc;have hw:∃ g:Addr->Int,∀ b∈bs,∃ u v,H2 b=some (.tup [u,v,.int (g b)]):=by
  refine⟨fun b=>match H2 b with | some (.tup [_,_,.int n])=>n | _=>0,fun b hb=>?_⟩;obtain⟨u,v,n,z⟩:=Ca b hb;refine⟨u,v,?_⟩;simp only [z]
 obtain⟨g,hgw⟩:=hw;have N0:=Att.FO (L:=X.env.locals) hfL hf;have Cb:=I2.ok.mod.nolimit;have bsk:∀ (h3:Heap) (own:List (Addr×Obj)),News (Att.Fe h2) X.env.locals h3 (([]++(f,kla_obj "<lambda>" (X.env.qual++"<lambda>") ar #[wr] sc [] ((X.mg "__name__").getD .none) c' qo) :: Att.ledger h2 X.env.locals f)++own) ->
   ∀ b o,b≠X.env.locals->h2.get? b=some o->h3.get? b=some o:=fun h3 own N b o hb e=>by
  by_cases xW:b=f
  ·subst xW;rw [hf] at e; cases e;exact (N (b,_) (aJ _ (aw ..))).1
  ·exact (N (b,o) (aJ _ #[ND])).1
 have wJ:∀ b o,H2 b=some o->b≠X.env.locals:=fun b o e z=>by have:=I2.free; rw [<- z,e] at this; cases this
 refine ksk_sorted (b:=false) (f:=.ref f) (vs:=bs.map aP) (kz:=bs.map fun b=>- g b) (Att.HG n0) N0 pl.isList (zjR g bs) (by rw [aa]; exact h64) (ksk_s1 _ _) (fun _=>ksk_l1 _ _) (fun _=>ksk_t1 _ _) (fun i v k hv hk h3 tk3 own F3 N3=>?_) fun D h3 tk3 out ce F3 N3 hD ko=>?_
 ·rw [aB] at hv hk;cases eb:bs[i]? with
  | none=>rw [eb] at hv; cases hv
  | some b =>
   rw [eb] at hv hk;cases hv;cases hk;have Cc:=aX eb;obtain⟨u,v,hH⟩:=hgw b Cc;obtain⟨Cd,rv3,ht3,_⟩:=I2.tuple (kJ.of hH);have vS:=rv3.length;obtain⟨u2,e2,t2,r2⟩:=rv3.get (i:=2) (x:=.int (g b)) rfl;have kk:=bsk h3 own N3;subst r2;refine zkN S hx B9 ?_ (kk f _ hfL hf) ?_ (a:=b) (kq:=Cd.toArray) (n:=g b) (t:=t2) ?_ (by simpa using e2) (by rw [aq,<- vS]; rfl) fun h4 tk4 t4 k4=>?_
   ·refine Cb.keeps fun b o e=>kk b o ?_ ((I2.bs b o e).1)
    intro z;have e1:=(I2.ok.bs b o e).1;have:=aN (az e1) I2.ok.above;rw [z] at this;exact bE _ this
   ·obtain⟨cc,oc,vs,tt,e3,uT,hd,hvv⟩:=vX;cases e3;have ne:c'≠X.env.locals:=fun z=>by
     obtain⟨o',es,ep,qm,ud,_⟩:=n0;have xX:h2.get? X.env.locals=some oc:=by rw [<- z]; exact uT
     rw [qm] at xX; cases xX;rw [hd] at ud; cases ud
    exact⟨_,oc,vs,tt,rfl,kk _ _ ne uT,hd,hvv⟩
   ·obtain⟨o,eo,r⟩:=ht3;exact⟨o,kk _ _ (wJ b _ hH) eo,r⟩
   ·exact KskEnd.intro (F3.keeps k4) (fun p hp=>⟨k4 _ _ (N3 p hp).1,(N3 p hp).2⟩) fun p hp=>hp
 ·obtain⟨qs,hp,ho,hs⟩:=ko;have lZ:out.toList.Perm (bs.map aP):=by
   rw [ho];have:=hp.map Prod.snd;rw [jG (by rw [aa,aa]; exact ag _)] at this;exact this
  have N3':News (Att.Fe h2) X.env.locals h3 (([]++(f,kla_obj "<lambda>" (X.env.qual++"<lambda>") ar #[wr] sc [] ((X.mg "__name__").getD .none) c' qo) :: Att.ledger h2 X.env.locals f)++[]):=fun p hp=>N3 p (aj _ (by simpa using hp))
  have kk:=bsk h3 [] N3';obtain⟨o6,sS,qQ⟩:∃ o6:List Addr,out.toList=o6.map aP/\o6.Perm bs:=by
   refine⟨out.toList.map fun v=>match v with | .ref a=>a | _=>0,?_,?_⟩
   ·rw [aI]
    conv=>lhs; rw [<- gV out.toList]
    refine ca fun v hv=>?_
    obtain⟨a,_,rfl⟩:=aF.mp (lZ.mem_iff.mp hv);rfl
   ·have:=lZ.map fun v=>(match v with | .ref a=>a | _=>0:Addr)
    rw [aI] at this;have e:bs.map ((fun v=>(match v with | .ref a=>a | _=>0:Addr)) ∘ aP)=bs:=by
     conv=>rhs; rw [<- gV bs]
     exact ca fun a _=>rfl
    rw [e] at this;exact this
  have Ce:D≠X.env.locals:=(N3 (D,_) (aw ..)).2.1;have Cf:∀ b o,b≠X.env.locals->h2.get? b=some o->b < D:=fun b o hb e=>by
   by_cases xW:b=f
   ·exact xW ▸ hD (f,_) (aw ..)
   ·exact hD (b,o) #[ND]
  have hDn:H2 D=none:=by
   cases e:H2 D with
   | none=>rfl
   | some u =>
    obtain⟨ob,z⟩:=zgT (I2.hok D u e);exact absurd (Cf D ob Ce z) (bE _)
  have I3:Inv X km σ H2 { s1 with heap:=h3,toks:=tk3 }:=by
   refine Inv.step (s:={ s1 with heap:=h2,toks:=tk }) (g':=s1.gens) (d':=s1.drawn) (ch:=[]) I2 (fun _ z=>nomatch z) (fun b o hb _ _ e _=>kk b o hb e) (fun b o hb _ _ e _=>⟨o.slots,kk b o hb e⟩) #[KY] (fun b o _ e=>?_) #[Ll] #[KA] (fun b ps e=>⟨#[],by rw [e]; simp⟩) #[Lk] #[L4] I2.bare
   ·by_cases hb:b=X.env.locals
    ·obtain⟨o',es,ep,qm,_⟩:=F3.ns;exact⟨o',by rw [hb]; exact qm⟩
    ·exact⟨o,kk b o hb e⟩
   ·have e1:=hm.eq_nsMap;have e2:=Heap.Ns.eq_nsMap n0;have e3:m=m0:=e1.trans e2.symm;rw [e3]; exact F3.ns
   ·refine (I2.hok b u e).FF (fun d v hd r=>kk d v (fun z=>?_) r) (fun _ r=>r) fun _ _ r=>r
    rcases hd with hd | hd
    ·exact wJ b u e (hd.symm.trans z)
    ·exact wJ d _ hd z
  have kB:=qQ.length_eq;refine⟨.ref D,_,I3.GY (o:=.lst (o6.map V.ref)) hDn ?_ (cQ Ce) (fun y cc e z=>?_) (fun p hp z=>?_) ⟨?_,o6.map aP,ce,zeM o6,?_⟩,rfl,q1 D o6 H2 qQ s2 pU hDn⟩
  ·have hL0:=I2.ok.above;have h3:f < D:=hD (f,_) (aw ..);have h1:X.s₀.heap.objs.size<=s1.heap.objs.size:=I1.sz;exact bh h1 (bh hfs (dI h3))
  ·obtain⟨v,oc,q,_⟩:=I2.cell y cc e;refine absurd (Cf cc oc (fun w=>?_) q) (by rw [z]; exact bE _);exact Ce (z.symm.trans w)
  ·exact absurd (Cf p.1 _ (I2.pin p hp).2.2.1 (I2.pin p hp).1) (by rw [z]; exact bE _)
  ·rw [aa]; have:=be; lia
  ·rw [<- sS];have:=(N3 (D,_) (aw ..)).1;rw [iq];exact this
theorem ziw {K:af} {mb:Str->Option Value} {fa a TP:Addr} {x:Str} {s₁:Shared} 
  (KX:K.In s₁.heap) (uq:s₁.heap.Ns mainGlobals mg) (hb:s₁.heap.Ns builtinsNs mb) (hbb:∀ x:Str,x≠"__name__"->mb x=bootBuiltins x) (Ci:s₁.heap.NoLimit) (hg:s₁.gens = #[])
  (ha:s₁.heap.get? a=some { cls:=.type "list",data:=.seq vs.toArray }) (hi:IntsAre vs ns) (hl:ns.length<=sizeLine) (hr:EZ k callerA)
  (hT:s₁.heap.get? TP=some (tabObj #[])) (xY:K.lookup TP=none) (hC:CodeHd s₁.heap cP TP) (Cc:zea mg s₁.heap)
  (F:∀ base:Heap,K.In base->base.Ns mainGlobals mg->zea mg base->D1 P w K mg base CX k fa fd [x] sp) (xZ:∀ (s:Shared) (u:Value),BindsTo s fd ⟨[u],[]⟩ [(x,u)])
  (oY:∀ H:Hp,H TP=some (.tbl #[])->kr K H a #[ww]->sp [.ref a] H (fun v _=>v = .bl true) fun _ _ _=>False)
  (Cj:∀ H e s',CX [] H s₁ (fun _ _ _=>False) e s'->False) :
  codeAny #[J4] callerA (.call (.ref fa) ⟨[.ref a],[]⟩) (fun r s'=>r = .ok (.ret #[Ka])/\OldK s₁.heap s'.heap/\s'.os=s₁.os/\AllBare s'.gens) s₁:=by
 have rv:=zet hi;have Ck:=hi.length;have Cm:a≠TP:=fun e=>by rw [e,hT] at ha; cases ha
 have core:∀ H:Hp,(∀ b,b≠TP->H b=none\/∃ o xs,H b=some (.frz o #[JS]))->H TP=some (.tbl #[])->kr K H a #[ww]->HOk P w H s₁.heap->(∀ b,H b≠none->b=a\/b=TP)->(H a≠none->K.lookup a=none) ->
   codeAny #[J4] callerA (.call (.ref fa) ⟨[.ref a],[]⟩) (fun r s'=>r = .ok (.ret #[Ka])/\OldK s₁.heap s'.heap/\s'.os=s₁.os/\AllBare s'.gens) s₁:=by
  intro H hO hHT hS hok hA hK;have o7:∀ {b:Addr} {o:Obj},s₁.heap.get? b=some o->H b=none->#[JB].get? b=some o:=fun e n=>ziN e n
  have uU:∀ {b:Addr} {o:Obj},s₁.heap.get? b=some o->(∀ xs n,o.data≠.seq xs n)->(∀ xs,o.data≠.fields xs)->H b=none:=fun {b o} e d1 d2=>by
   cases q:H b with
   | none=>rfl
   | some u =>
    rcases hA b (by rw [q]; simp) with e' | e'
    ·subst e';rw [ha] at e; cases e;exact absurd rfl (d1 _ _)
    ·subst e';rw [hT] at e; cases e;exact absurd rfl (d2 _)
  have AE:∀ {b:Addr} {m:Str->Option Value},s₁.heap.Ns b m->#[JB].Ns b m:=fun {b m} ⟨o,es,ep,e,d,r⟩=>⟨o,es,ep,o7 e (uU e (fun xs n z=>by rw [d] at z; cases z) (fun xs z=>by rw [d] at z; cases z)),d,r⟩
  have hKb:K.In #[JB]:=fun b o e=>o7 (KX b o e) (by
   cases q:H b with
   | none=>rfl
   | some u =>
    rcases hA b (by rw [q]; simp) with e' | e'
    ·subst e';rw [hK (by rw [q]; simp)] at e; cases e
    ·subst e';rw [xY] at e; cases e)
  have hM:Mod K mg #[JB]:=⟨hKb,AE uq,⟨mb,AE hb,hbb⟩,let ⟨mc,h1,h2⟩:=Ci; ⟨mc,AE h1,h2⟩⟩;have hBb:zea mg #[JB]:=by
   obtain⟨bm,ob,b1,b2,b3,b4,b5,b6⟩:=Cc;exact⟨bm,ob,b1,b2,o7 b3 (uU b3 (fun xs n z=>by rw [b6] at z; cases z) (fun xs z=>by rw [b6] at z; cases z)),b4,b5,b6⟩
  have e0:Hy P w K mg #[JB] callerA [] s₁ H:=⟨rfl,hM,fun b o e=>zkd e,Nat.le_of_eq (zhN _ _),trivial,fun b hb=>absurd (show b∈([]:List Addr) from hb) #[M],hok,.of_eq hg⟩;refine c7 ((F _ hKb (AE uq) hBb).run callerA [] s₁ H ⟨[.ref a],[]⟩ [.ref a] [.ref a] _ _ hr e0 (xZ s₁ #[IT]) (.cons rfl .nil) (oY H hHT hS)) fun r s' h=>?_
  cases r with
  | error e=>exact (Cj H e s' h).elim
  | ok fl =>
   cases fl with
   | next=>exact bR h
   | brk=>exact bR h
   | cont=>exact bR h
   | ret u =>
    obtain⟨v,H',os,bare,un,x5,r',q⟩:=h;have q':v = .bl true:=q;subst q';obtain rfl:u=eC true:=r';have keep:∀ b o,b≠TP->s₁.heap.get? b=some o->s'.heap.get? b=some o:=fun b o pV e=>by
     cases q:H b with
     | none=>exact un.keep b o e q (by intro z; exact absurd (show b∈([]:List Addr) from z) #[M]) #[M]
     | some u =>
      rcases hO b pV with z | ⟨ob,xs,z⟩
      ·rw [q] at z; cases z
      ·have z2:=un.Fz b ob _ z;obtain⟨e1,_⟩:=hok b _ z;obtain⟨e2,_⟩:=x5 b _ z2;rw [e] at e1; cases e1;exact e2
    obtain⟨more,hm⟩:=un.Fy TP #[] hHT;have x6:s'.heap.get? TP=some { cls:=.none,data:=.fields (#[]++more) }:=x5 TP _ hm;refine⟨rfl,⟨fun b o e=>?_,fun b o e=>?_⟩,os,bare⟩
    ·by_cases pV:b=TP
     ·subst pV;rw [hT] at e; cases e;obtain⟨oc,vs',_,_,_,_,_,_,_,c1,c2,c3,c4,_⟩:=hC;exact .inr (.inl ⟨⟨cP,oc,vs',c1,c2,c3,c4⟩,rfl,#[],more,rfl,x6⟩)
     ·exact .inl (keep b o pV e)
    ·by_cases pV:b=TP
     ·subst pV; exact⟨_,x6⟩
     ·exact⟨o,keep b o pV e⟩
 have x8:∀ (H:Hp),z6 P w H s₁.heap TP (.tbl #[]):=fun H=>hT
 cases hk:K.lookup a with
 | some o =>
  have e:=KX a o hk;rw [ha] at e;cases e;refine core (fun b=>if b=TP then some (.tbl #[]) else none) (fun b hb=>.inl (if_neg hb)) (if_pos rfl) (.inr ⟨_,vs.toArray,_,hk,rfl,rfl,rfl,by rw [aq,Ck]; exact hl,by simpa using rv⟩) (fun b u z=>?_) (fun b z=>?_) fun z=>absurd (if_neg Cm) z
  ·by_cases hb:b=TP
   ·have z':=(if_pos hb).symm.trans z;cases z';subst hb;exact x8 _
   ·have z':=(if_neg hb).symm.trans z;cases z'
  ·by_cases hb:b=TP
   ·exact .inr hb
   ·exact absurd (if_neg hb) z
 | none =>
  have lW:∀ {o:HO},(if a=TP then some (HO.tbl #[]) else if a=a then some o else none)=some o:=fun {o}=>by rw [if_neg Cm,if_pos rfl]
  refine core (fun b=>if b=TP then some (.tbl #[]) else if b=a then some (.frz { cls:=.type "list",data:=.seq vs.toArray } (.lst #[ww])) else none) (fun b pV=>?_) (if_pos rfl) (.inl (.inr ⟨{ cls:=.type "list",data:=.seq vs.toArray },lW⟩)) (fun b u z=>?_) (fun b z=>?_) fun _=>hk
  ·by_cases hb:b=a
   ·exact .inr ⟨_,_,by rw [if_neg pV,if_pos hb]⟩
   ·exact .inl (by rw [if_neg pV,if_neg hb])
  ·by_cases pV:b=TP
   ·have z':=(if_pos pV).symm.trans z;cases z';subst pV;exact x8 _
   ·have z1:=(if_neg pV).symm.trans z;by_cases hb:b=a
    ·have z':=(if_pos hb).symm.trans z1;cases z';subst hb;exact⟨ha,by rw [aa]; exact hl,vs,_,rv,ha⟩
    ·have z':=(if_neg hb).symm.trans z1;cases z'
  ·by_cases pV:b=TP
   ·exact .inr pV
   ·by_cases hb:b=a
    ·exact .inl hb
    ·exact absurd (by rw [if_neg pV,if_neg hb]) z
theorem zjT {l:gN} {n:Nat} {q:Program} {loose:List Str} {XP:#[Mo]->Heap->Prop} {YP:World->Heap->Prop} {d:DefRec} {K:Params->af} {CX:World->CXT} {sp:World->Sp} {x:Str} {TP:Addr}
  (hn:l.most=some n) (sy:n<=sizeLine) (tW:d.params.defaults = []) (hr:EZ k callerA)
  (hY:∀ (w:World) (h:Heap),YP w h->#[IP].In h/\h.get? TP=some (tabObj #[])) (xY:∀ w:World,#[IP].lookup TP=none) (Cn:∀ w:World,codeHdIn #[IP] cP TP=true)
  (F:∀ (w:World) (mg:Str->Option Value) (fa:Addr) (h:Heap),#[IP].In h->h.Ns mainGlobals mg->mg d.name=some (.ref fa) ->
   ∃ fd:FuncData,(∀ (s:Shared) (u:Value),BindsTo s fd ⟨[u],[]⟩ [(x,u)]) /\
    ∀ base:Heap,#[IP].In base->base.Ns mainGlobals mg->zea mg base->D1 l.prog w #[IP] mg base (CX w) k fa fd [x] (sp w))
  (oY:∀ (w:World) (H:Hp) (a:Addr) (ns:List Int),ns.length<=n->H TP=some (.tbl #[])->kr #[IP] H a #[ww]->sp w [.ref a] H (fun v _=>v = .bl true) fun _ _ _=>False)
  (Cj:∀ (w:World) (H:Hp) (s:Shared) (e:Value) (s':Shared),CX w [] H s (fun _ _ _=>False) e s'->False) :
  j9 q loose XP YP l.row.toRowW d [] #[Ml]:=by
 refine Att.FV hn tW fun w s₀ s₁ mg mb fa o pm cd doc a vs ns G Y ho hd n4 rk vz hints kB hg=>?_
 obtain⟨KX,hT⟩:=hY w _ Y;obtain⟨fd,hb,hF⟩:=F w mg fa _ KX G.T.g rk;exact ziw KX G.T.g G.T.b G.T.builtins G.T.nolimit hg vz hints (bh kB sy) hr hT (xY w) (codeHd_of_K KX (Cn w)) G.T.bmain hF hb (fun H hO hS=>oY w H a ns kB hO hS) fun H e s'=>Cj w H s₁ e s'
noncomputable def TabOf (K:af) (f TP:Addr):Prop:=∀ o fd,K.lookup f=some o->o.data = .func fd->∃ c,fd.code = .ref c/\codeHdIn K c TP=true
theorem zl3 {K:af} {f c TP:Addr} (l:K.lookup f=some ⟨oc,od,.func fd,sl⟩) (e:fd.code = .ref c) (h:codeHdIn K c TP=true):TabOf K f TP:=fun o fd' l' d=>by
 rw [l] at l';cases l';cases d;exact⟨c,e,h⟩
theorem Fun.okT {K:af} {base:Heap} {x:Str} {st:Stmt} {f:Addr} {ps:List Str} {TP:Addr} (F:Fun K x qual st f fd) (hT:TabOf K f TP) (S:DF N ps (zh st)) (len:∀ vs H Q E,sp vs H Q E->vs.length=ps.length)
  (l8:∀ (cP:Addr) (hK:codeHdIn K cP TP=true) (A:Around) (outer:List Env) (s:Shared) (H:Hp) (vs:List V) (Q:VK) (E:XK),EZ k (A.deeper (envOfC qual (zh st) s.heap.objs.size f (.ref cP)))->sp vs H Q E ->
   ∃ t,PSs (zcA CX0 P w K mg base N qual (zh st) f (.ref cP) A outer s H E).nox (zaN st) t/\t { nx:=fun _ H'=>Q .non H',rt:=Q } #[Jh] H):D1 P w K mg base CX0 (k+1) f fd ps sp:=by
 obtain⟨oc,od,kV,doc,pm,an,kL,ct,ri,rfl,lk,n4⟩:=F.ex;obtain⟨cP,hc,hK⟩:=hT _ _ lk rfl;have lE:kL = .ref cP:=hc;subst lE;refine ziZ lk n4 S len fun A outer s H vs Q E hr oY=>?_
 obtain⟨t,h,q⟩:=l8 cP hK A outer s H vs Q E hr oY;exact⟨t,h.nox,q⟩
end L2
end
section
namespace My
open PySem L2 PyProof.Rows
variable {j k:Nat} {q:Int×Int}
abbrev Wt3:=Int×Int×Int
noncomputable def pt (q:Wt3):Int×Int:=(q.1,q.2.1)
noncomputable def kw (q:Wt3):Int×Int:=(q.1,q.2.2)
noncomputable def zai (p:Int) (f:List Int) (q:Wt3):Bool:=decide (zr p q.1 f=q.2.1)
noncomputable def wts (ts:List Wt3):Int:=(ts.map (·.2.2)).sum
noncomputable def wsum (p:Int) (f:List Int) (ts:List Wt3):Int:=wts #[Id]
structure Wp (p:Int) (ts:List Wt3):Prop where
 nd:(ts.map pt).Nodup
 rg:∀ q∈ts,0<=q.1/\q.1 < p/\0<=q.2.1/\q.2.1 < p/\0<=q.2.2
theorem Wp.perm {p:Int} {ts us:List Wt3} (h:Wp p ts) (e:us.Perm ts):Wp p us:=⟨(e.map pt).nodup_iff.mpr h.nd,fun q hq=>h.rg q (e.mem_iff.mp hq)⟩
theorem Wp.sub {p:Int} {ts us:List Wt3} (h:Wp p ts) (e:us.Sublist ts):Wp p us:=⟨(e.map pt).nodup h.nd,fun q hq=>h.rg q (e.subset hq)⟩
theorem zfk (a b:List Wt3):wts (a++b)=wts a+wts b:=by unfold wts; rw [av,jY]
theorem zl4 {ts:List Wt3} (h:∀ q∈ts,0<=q.2.2):0<=wts ts:=by
 induction ts with
 | nil=>exact bH _
 | cons q r ih =>
  have h1:=ih fun x hx=>h x #[L8]
  have h2:=h q aw;show 0<=((q :: r).map (·.2.2)).sum
  (rw [aT,bX])
  unfold wts at h1;lia
theorem zkO {ts us:List Wt3} (e:us.Sublist ts) (h:∀ q∈ts,0<=q.2.2):wts us<=wts ts:=by
 induction e with
 | slnil=>exact bH _
 | cons a e ih =>
  have:=ih fun x hx=>h x #[L8]
  have h2:=h a aw;unfold wts at *
  (rw [aT,bX])
  lia
 | cons_cons a e ih =>
  have:=ih fun x hx=>h x #[L8]
  unfold wts at *;rw [aT,bX,aT,bX];lia
theorem zgn {a b:List Int} (h:a.Perm b):a.sum=b.sum:=by
 induction h with
 | nil=>rfl
 | cons x _ ih=>rw [bX,bX,ih]
 | swap x y l=>simp only [bX]; lia
 | trans _ _ i1 i2=>exact i1.trans i2
theorem zeN {p:Int} {f:List Int} {ts us:List Wt3} (e:us.Perm ts):wsum p f us=wsum p f ts:=zgn ((e.filter _).map _)
theorem zjU (p:Int) (f:List Int) (a b:List Wt3):wsum p f (a++b)=wsum p f a+wsum p f b:=by unfold wsum; rw [cq,zfk]
theorem zfl {p:Int} {f:List Int} {ts:List Wt3} (h:Wp p ts):(#[Id].map (·.1)).Nodup:=by
 have h1:=(iO (p:=zai p f) (l:=ts)).map pt |>.nodup h.nd
 rw [bi,bv] at h1 |-;refine cN (fun {a b} ha hb n e=>n ?_) h1;have e1:=of_decide_eq_true (bC.mp ha).2;have e2:=of_decide_eq_true (bC.mp hb).2;unfold pt;rw [<- e1,<- e2,e]
theorem zkP {p:Int} {f:List Int} {ts:List Wt3} (h:Wp p ts):Pts p (#[Id].map pt):=by
 refine#[LP]
 ·rw [aI]; exact zfl h
 ·obtain⟨x,hx,rfl⟩:=aF.mp hq;obtain⟨a,b,c,d,_⟩:=h.rg x (bC.mp hx).1;exact⟨a,b,c,d⟩
noncomputable def zb6 (d:List (Int×Int)) (x:Int):Option Int:=(d.find? fun e=>decide (e.1=x)).map (·.2)
noncomputable def zcs (d:List (Int×Int)) (x v:Int):List (Int×Int):=if (d.any fun e=>decide (e.1=x))=true then d.map (fun e=>if e.1=x then (e.1,v) else e) else d++[(x,v)]
noncomputable def zcY (e:Int×Int):Key×V:=(aZ e.1,V.int e.2)
theorem zhG (a x:Int):decide ((aZ a:Key)=aZ x)=decide (a=x):=by
 by_cases h:a=x
 ·rw [h]; simp
 ·rw [decide_eq_false h,decide_eq_false]; intro e; exact h (gO e)
theorem zgo (d:List (Int×Int)) (x:Int):zaB (d.map zcY) (aZ x)=(zb6 d x).map V.int:=by
 induction d with
 | nil=>rfl
 | cons e r ih =>
  unfold zaB zb6 at *;rw [aT,bV,bV];have:decide ((zcY e).1=aZ x)=decide (e.1=x):=zhG _ _;rw [this];cases decide (e.1=x) with
  | true=>rfl
  | false=>exact ih
theorem zgp (d:List (Int×Int)) (x v:Int):putK (d.map zcY) (aZ x) (V.int v)=(zcs d x v).map zcY:=by
 have ha:((d.map zcY).any fun kv=>decide (kv.1=aZ x))=d.any fun e=>decide (e.1=x):=by
  rw [List.any_map];congr 1;funext e;exact zhG _ _
 unfold putK zcs;rw [ha];split
 ·rw [aI,aI];refine ca fun e _=>?_
  show (if (zcY e).1=aZ x then _ else _)=zcY (if e.1=x then _ else _);by_cases h:e.1=x
  ·rw [if_pos h,if_pos (show (zcY e).1=aZ x by unfold zcY; rw [h])]; rfl
  ·rw [if_neg h,if_neg (show ¬ (zcY e).1=aZ x from fun z=>h (gO z))]
 ·rw [av]; rfl
noncomputable def mxS (d:List (Int×Int)) (q:Int×Int):List (Int×Int):=zcs d q.1 (if (zb6 d q.1).getD 0 > q.2 then (zb6 d q.1).getD 0 else q.2)
noncomputable def mxs (l:List (Int×Int)):List (Int×Int):=l.foldl mxS []
theorem zb7 (l:List (Int×Int)) (q:Int×Int):mxs (l++[q])=mxS (mxs l) q:=by unfold mxs; rw [eL]; rfl
theorem zeO (d:List (Int×Int)) (x v:Int):(zcs d x v).map (·.1)=if x∈d.map (·.1) then d.map (·.1) else d.map (·.1)++[x]:=by
 unfold zcs;have hm:(d.any fun e=>decide (e.1=x))=true↔x∈d.map (·.1):=by
  rw [cp];constructor
  ·rintro⟨e,h1,h2⟩;exact aF.mpr ⟨e,h1,of_decide_eq_true h2⟩
  ·intro h;obtain⟨e,h1,h2⟩:=aF.mp h;exact⟨e,h1,decide_eq_true h2⟩
 by_cases h:x∈d.map (·.1)
 ·rw [if_pos (hm.mpr h),if_pos h,aI];refine ca fun e _=>?_
  show (if e.1=x then (e.1,v) else e).1=e.1;split <;> rfl
 ·rw [if_neg (fun z=>h (hm.mp z)),if_neg h,av]; rfl
theorem zkQ {d:List (Int×Int)} (hn:(d.map (·.1)).Nodup) {e:Int×Int} (h:e∈d):zb6 d e.1=some e.2:=by
 induction d with
 | nil=>cases h
 | cons a r ih =>
  unfold zb6 at *;rw [bV]
  (rw [aT,cI] at hn)
  rcases (aK.mp h) with rfl | h
  ·simp
  ·have:decide (a.1=e.1)=false:=decide_eq_false fun z=>hn.1 (aF.mpr ⟨e,h,z.symm⟩)
   rw [this];exact ih hn.2 h
structure Mx (l d:List (Int×Int)):Prop where
 nd:(d.map (·.1)).Nodup
 up:∀ q∈l,∃ v,(q.1,v)∈d/\q.2<=v
 nn:∀ e∈d,0<=e.2
 ln:d.length<=l.length
theorem zkR {l d:List (Int×Int)} (h:Mx l d) (q0:0<=q.2):Mx (l++[q]) (mxS d q):=by
 obtain⟨M,hM⟩:∃ M,M=(if (zb6 d q.1).getD 0 > q.2 then (zb6 d q.1).getD 0 else q.2):=⟨_,rfl⟩;have e:mxS d q=zcs d q.1 M:=by rw [hM]; rfl
 have hq:q.2<=M:=by rw [hM]; split <;> lia
 have hg:∀ v,(q.1,v)∈d->v<=M:=fun v hv=>by
  rw [hM,zkQ h.nd hv];show v<=if v > q.2 then v else q.2;split <;> lia
 have hk:=zeO d q.1 M;have kZ:∀ e',e'∈zcs d q.1 M->e'=(q.1,M)\/(e'∈d/\e'.1≠q.1):=fun e' he=>by
  unfold zcs at he;split at he
  ·obtain⟨a,h1,h2⟩:=aF.mp he;by_cases ha:a.1=q.1
   ·rw [if_pos ha,ha] at h2; exact .inl h2.symm
   ·rw [if_neg ha] at h2; subst h2; exact .inr ⟨h1,ha⟩
  ·rename_i hn
   rcases (aR.mp he) with he | he
   ·refine .inr ⟨he,fun z=>hn ?_⟩;rw [cp];exact⟨e',he,decide_eq_true z⟩
   ·exact .inl (by simpa using he)
 have oD:(q.1,M)∈zcs d q.1 M:=by
  unfold zcs;split
  ·rename_i hn
   obtain⟨a,h1,h2⟩:=cp.mp hn;have h2:=of_decide_eq_true h2;exact aF.mpr ⟨a,h1,by rw [if_pos h2,h2]⟩
  ·simp
 have hold:∀ a∈d,a.1≠q.1->a∈zcs d q.1 M:=fun a ha hn=>by
  unfold zcs;split
  ·exact aF.mpr ⟨a,ha,by rw [if_neg hn]⟩
  ·exact aJ _ ha
 rw [e];refine⟨?_,fun r hr=>?_,fun e' he=>?_,?_⟩
 ·rw [hk];split
  ·exact h.nd
  ·rename_i hn
   rw [cA];exact⟨h.nd,#[M],fun a ha b hb z=>by
    have hb:b=q.1:=by simpa using hb
    exact hn (by rw [<- hb,<- z]; exact ha)⟩
 ·rcases aR.mp hr with hr | hr
  ·obtain⟨v,h1,h2⟩:=h.up r hr;by_cases hx:r.1=q.1
   ·rw [hx] at h1 |-;exact⟨M,oD,bu h2 (hg v h1)⟩
   ·exact⟨v,hold _ h1 hx,h2⟩
  ·have hr:r=q:=by simpa using hr
   rw [hr];exact⟨M,oD,hq⟩
 ·rcases kZ e' he with rfl | ⟨h1,_⟩
  ·exact bu q0 hq
  ·exact h.nn e' h1
 ·have:=congrArg bU hk;have hl:=h.ln;rw [aa] at this;rw [this,aA,cg];split
  ·rw [aa]; lia
  ·rw [aA,aa,cg]; lia
theorem zdY:∀ {l:List (Int×Int)} (n:Nat),(∀ q∈l,0<=q.2)->Mx (l.take n) (mxs (l.take n))
 | l,0,_=>by rw [eI]; exact⟨.nil,(fun q hq=>by cases hq),(fun e he=>by cases he),ag _⟩
 | l,n+1,h=>by
  by_cases hn:n < l.length
  ·have e:l[n]? = some l[n]:=ah hn;rw [take_snoc e,zb7];exact zkR (zdY n h) (h _ (bF hn))
  ·have e:l.take (n+1)=l.take n:=by rw [aV #[O],aV #[O]]
   rw [e];exact zdY n h
theorem zjV {l:List (Int×Int)} (h:∀ q∈l,0<=q.2):Mx l (mxs l):=by
 have:=zdY l.length h;rw [bf] at this;exact this
noncomputable def zeb (vs:List Int) (m:Nat) (v:Int):Prop:=∃ D:List Int,D.Perm vs/\(D.Pairwise fun a b=>b<=a)/\v=(D.take m).sum
theorem zeP:∀ {a b:List Int},a.Perm b->(a.Pairwise fun x y=>y<=x)->(b.Pairwise fun x y=>y<=x)->a=b
 | [],b,h,_,_=>by rw [h.symm.eq_nil]
 | x :: a,b,h,ha,hb=>by
  cases b with
  | nil=>cases h.eq_nil
  | cons y b =>
   have e:x=y:=by
    have h1:y∈x :: a:=h.mem_iff.mpr aw;have h2:x∈y :: b:=h.mem_iff.mp aw;rcases aK.mp h1 with h1 | h1
    ·exact h1.symm
    ·rcases aK.mp h2 with h2 | h2
     ·exact h2
     ·have l1:=(cn.mp ha).1 y h1;have l2:=(cn.mp hb).1 x h2;lia
   subst e;rw [zeP (h7 _ |>.mp h) (cn.mp ha).2 (cn.mp hb).2]
theorem zeb.one {vs us:List Int} {m:Nat} {v u:Int} (h:zeb vs m v) (h':zeb us m u) (e:vs.Perm us):v=u:=by
 obtain⟨D,a1,a2,rfl⟩:=h;obtain⟨D',b1,b2,rfl⟩:=h';rw [zeP (a1.trans (e.trans b1.symm)) a2 b2]
theorem Eu {D:List Int} {a:Int} (m:Nat) (h:0<=a) (hb:∀ x∈D,x<=a):(D.take m).sum<=((a :: D).take m).sum:=by
 cases m with
 | zero=>simp
 | succ m =>
  rw [iP,bX,gi,jY];cases e:D[m]? with
  | none=>simp; lia
  | some x =>
   have:=hb x (aX e);simp;lia
theorem zgZ:∀ {D A R:List Int} {m:Nat},(A++R).Perm D->(D.Pairwise fun a b=>b<=a)->(∀ x∈D,0<=x)->A.length<=m->A.sum<=(D.take m).sum
 | [],A,R,m,h,_,_,_=>by
  have:=h.eq_nil;have e:A = []:=(List.append_eq_nil_iff.mp this).1;subst e;simp
 | a :: D,A,R,m,h,hD,h0,hm=>by
  have hd:=cn.mp hD;by_cases ha:a∈A
  ·have p1:=fA ha;have hl:=p1.length_eq;rw [bA] at hl;have p2:(A.erase a++R).Perm D:=(h7 a).mp (((p1.append_right R).symm).trans h);cases m with
   | zero=>lia
   | succ m =>
    have:=zgZ (m:=m) p2 hd.2 (fun x hx=>h0 x #[L8]) #[O];rw [zgn p1,bX,iP,bX];lia
  ·have hr:a∈R:=(aR.mp (h.mem_iff.mpr aw)).resolve_left ha;have p1:=fA hr;have p2:(A++R.erase a).Perm D:=(h7 a).mp ((List.perm_middle.symm).trans (((List.Perm.append_left A p1).symm).trans h));exact bu (zgZ p2 hd.2 (fun x hx=>h0 x #[L8]) hm) (Eu m (h0 a aw) hd.1)
theorem zgq:∀ {S d:List (Int×Int)},(S.map (·.1)).Nodup->(∀ e∈S,∃ v,(e.1,v)∈d/\e.2<=v)->∃ A R:List Int,(A++R).Perm (d.map (·.2))/\A.length=S.length/\(S.map (·.2)).sum<=A.sum
 | [],d,_,_=>⟨[],d.map (·.2),.refl _,rfl,bH _⟩
 | e :: S,d,hn,h=>by
  obtain⟨v,h1,h2⟩:=h e aw
  (rw [aT,cI] at hn)
  have p1:=fA h1;obtain⟨A,R,a1,a2,a3⟩:=zgq (d:=d.erase (e.1,v)) hn.2 fun x hx=>by
   obtain⟨u,g1,g2⟩:=h x #[L8];refine⟨u,?_,g2⟩;rcases aK.mp (p1.mem_iff.mp g1) with z | z
   ·injection z with z1 z2
    exact absurd (aF.mpr ⟨x,hx,z1⟩) hn.1
   ·exact z
  refine⟨v :: A,R,?_,by rw [bA,bA,a2],by rw [aT,bX,bX]; lia⟩;exact (a1.cons v).trans (p1.map (fun x:Int×Int=>x.2)).symm
theorem zdZ {p:Int} {f:List Int} {ts:List Wt3} {m:Nat} {v:Int} (h:Wp p ts) (ht:zeb ((mxs #[IN]).map (·.2)) m v) (hm:#[Id].length<=m):wsum p f ts<=v:=by
 have t7:=zjV (l:=ts.map kw) fun q hq=>by
  obtain⟨x,hx,rfl⟩:=aF.mp hq;exact (h.rg x hx).2.2.2.2
 obtain⟨D,d1,d2,rfl⟩:=ht;obtain⟨A,R,a1,a2,a3⟩:=zgq (S:=#[Id].map kw) (d:=mxs #[IN]) (by rw [aI]; exact zfl h) fun e he=>by
  obtain⟨x,hx,rfl⟩:=aF.mp he;exact t7.up _ (aF.mpr ⟨x,(bC.mp hx).1,rfl⟩)
 rw [aa] at a2;have h3:=zgZ (m:=m) (a1.trans d1.symm) d2 (fun x hx=>by
  obtain⟨e,he,rfl⟩:=aF.mp (d1.mem_iff.mp hx);exact t7.nn e he) #[O]
 rw [aI] at a3;exact bu a3 h3
abbrev Pk:=Nat×List Wt3
noncomputable def pkP (p:Int) (k:Nat) (S:List Wt3):List Int×List Int:=zfS p k (S.map pt)
structure HI (p:Int) (ts:List Wt3) (j:Nat) (c:Pk):Prop where
 len:c.2.length=j
 sub:c.2.Sublist (ts.take c.1)
 Hw:Pts p (c.2.map pt)
 le:c.1<=ts.length
theorem zjW {p:Int} (hp:p∈zy) :∀ {S:List (Int×Int)},Pts p S->S.length<=k->Nw p k S (zfS p k S):=by
 intro S;generalize hr:S.reverse=R;induction R generalizing S with
 | nil =>
  intro _ _;have:S = []:=by simpa using hr
  subst this;exact zdJ hp k
 | cons q R ih =>
  intro hP hl;have e:S=R.reverse++[q]:=by rw [<- List.reverse_reverse S,hr,List.reverse_cons]
  subst e;have h1:=ih (S:=R.reverse) #[M] ⟨by have:=hP.nd; rw [av,cA] at this; exact this.1,fun x hx=>hP.rg x (aJ _ hx)⟩ (by rw [aA] at hl; lia);obtain⟨a,b,c,d⟩:=hP.rg q #[M];have h2:=ze6 hp h1 (q:=q) (by rw [aA,cg] at hl; lia) a b c d (by have:=hP.apart (done:=R.reverse) (q:=q) (rest:=[]); exact this);unfold zfS at *;rw [eL];exact h2
theorem zgr (p:Int) (k:Nat) (S:List Wt3) (q:Wt3):pkP p k (S++[q])=zdH p (pkP p k S) (pt q):=by
 unfold pkP zfS;rw [av,eL];rfl
theorem zkS {p:Int} (hp:p∈zy) {S:List Wt3} (hP:Pts p (S.map pt)) (hl:S.length<=k) {x:Int} (x0:0<=x) (x1:x < p):zr p x (pkP p k S).2=0↔x∈S.map (·.1):=by
 have hw:=zjW hp (k:=k) hP (by rw [aa]; exact hl);constructor
 ·intro h;by_cases hx:x∈S.map (·.1)
  ·exact hx
  ·have:=(ze5 hp hw (q:=(x,0)) x0 x1 fun a ha=>by
    obtain⟨b,hb,rfl⟩:=aF.mp ha;obtain⟨r1,r2,_⟩:=hP.rg _ ha;exact⟨r1,r2,fun e=>hx (aF.mpr ⟨b,hb,e⟩)⟩).1
   have h':zr p x (zfS p k (S.map pt)).2=0:=h;have this':0 < zr p x (zfS p k (S.map pt)).2:=this;lia
 ·intro h;obtain⟨b,hb,e⟩:=aF.mp h;have rp:=zQ hp;have h1:=(hw.van x).trans (Cg.of_eq (zcD ⟨pt b,aF.mpr ⟨b,hb,rfl⟩,e⟩));exact h1.eq (za6 #[O] _) (za7 #[O] _) (bH _) #[O]
theorem zix {p:Int} {ts:List Wt3} (h:Wp p ts) {c:Pk} (hc:HI p ts j c) {a:Nat} {q:Wt3} (ha:c.1<=a) (hq:ts[a]? = some q) (hx:q.1∉c.2.map (·.1)):HI p ts (j+1) (a+1,c.2++[q]):=by
 have kU:=(aH.mp hq).1;refine⟨by show (c.2++[q]).length=_; rw [aA,hc.len]; rfl,?_,?_,kU⟩
 ·show (c.2++[q]).Sublist (ts.take (a+1));rw [take_snoc hq];exact (hc.sub.trans (List.take_sublist_take_left ha)).append (.refl _)
 ·show Pts p ((c.2++[q]).map pt);refine⟨?_,fun x tX=>?_⟩
  ·rw [aI,av,cA];refine⟨by have:=hc.Hw.nd; rw [aI] at this; exact this,#[M],fun x tX y hy e=>?_⟩;have:y=q.1:=(by simpa using hy:y=(pt q).1);exact hx (by rw [<- this,<- e]; exact tX)
  ·obtain⟨z,hz,rfl⟩:=aF.mp tX;rcases (aR.mp hz) with hz | hz
   ·exact hc.Hw.rg _ (aF.mpr ⟨z,hz,rfl⟩)
   ·have e:z=q:=by simpa using hz
    subst e;obtain⟨b1,b2,b3,b4,_⟩:=h.rg z (aX hq);exact⟨b1,b2,b3,b4⟩
structure G8 (ts:List Wt3) (R:Nat->Int) (T:Int) (c:Pk) (res:List Pk):Prop where
 src:∀ d∈res,∃ a q,c.1<=a/\ts[a]? = some q/\q.1∉c.2.map (·.1)/\d=(a+1,c.2++[q])
 all:∀ a q,c.1<=a->ts[a]? = some q->q.1∉c.2.map (·.1)->(∀ i,c.1<=i->i<=a->T<=wts c.2+R i)->(a+1,c.2++[q])∈res
 ln:res.length<=ts.length
structure Pks (p:Int) (ts:List Wt3) (k:Nat) (T:Int) (j:Nat) (o8:List Pk):Prop where
 ok:∀ c∈o8,HI p ts j c
 all:∀ f,T<=wsum p f ts->k<=#[Id].length->∃ s,s<=ts.length/\(s,#[Kh].filter #[JI])∈o8
 ln:o8.length<=ts.length ^ j
theorem zgs {ts:List Wt3} {R:Nat->Int} {T:Int} {cs:List Pk} {rs:List (List Pk)} (hp:Paired (G8 ts R T) cs rs):rs.flatten.length<=cs.length*ts.length:=by
 induction hp with
 | nil=>simp
 | cons h1 _ ih =>
  rw [di,aA,bA,gX,gZ];have:=h1.ln;lia
theorem ziy {p:Int} {ts:List Wt3} {T:Int}:Pks p ts k T 0 [(0,[])]:=by
 refine⟨fun c hc=>?_,fun f _ _=>⟨0,bg _,#[M]⟩,#[M]⟩;have e:c=(0,[]):=by simpa using hc
 subst e;exact⟨rfl,jI _,⟨.nil,fun q hq=>by cases hq⟩,bg _⟩
theorem zeQ {α:Type} {h:α->Bool}:∀ {l:List α},l.filter h≠[]->∃ a q b,l=a++q :: b/\h q=true/\a.filter h = []
 | [],e=>absurd rfl e
 | x :: l,e=>by
  by_cases hx:h x=true
  ·exact⟨[],x,l,rfl,hx,rfl⟩
  ·rw [cw hx] at e;obtain⟨a,q,b,rfl,h1,h2⟩:=zeQ e;exact⟨x :: a,q,b,rfl,h1,by rw [cw hx]; exact h2⟩
theorem zjX {p:Int} {ts:List Wt3} (hW:Wp p ts) {T:Int} (hj:j < k) {R:Nat->Int} (hR:∀ f i,i < ts.length->wsum p f (ts.drop i)<=R i) {o8:List Pk} (h:Pks p ts k T j o8) {nV:List (List Pk)} (hr:Paired (G8 ts R T) o8 nV):Pks p ts k T (j+1) nV.flatten:=by
 refine⟨fun d hd=>?_,fun f hT hk=>?_,?_⟩
 ·obtain⟨res,h1,h2⟩:=jJ.mp hd;obtain⟨i,hi,e⟩:=bS h1;have mJ:i < o8.length:=by rw [hr.length]; exact hi
  obtain⟨r',e1,hn⟩:=Paired.get hr (ah mJ);rw [ah hi,e] at e1;cases e1;obtain⟨a,q,g1,g2,g3,rfl⟩:=hn.src d h2;exact zix hW (h.ok _ (bF mJ)) g1 g2 g3
 ·obtain⟨s,hs,hm⟩:=h.all f hT hk;have hok:=h.ok _ hm;have kB:(#[Kh].filter #[JI]).length=j:=hok.len;have esp:ts.filter #[JI]=#[Kh].filter #[JI]++#[KO].filter #[JI]:=by rw [<- cq,bN]
  have lW:#[KO].filter #[JI]≠[]:=fun e=>by
   rw [esp,e,bK] at hk;lia
  obtain⟨a,q,b,e1,hq,ha⟩:=zeQ lW;have l7:ts[s+a.length]? = some q:=by
   have:#[KO][a.length]? = some q:=by rw [e1]; simp
   rw [et] at this;exact this
  have sm:(ts.take (s+a.length+1)).filter #[JI]=#[Kh].filter #[JI]++[q]:=by
   have e2:ts.take (s+a.length+1)=ts.take s++(a++[q]):=by
    rw [iC,List.take_add,e1];congr 1;rw [List.take_append];simp [aV]
   rw [e2,cq,cq,ha,dD,cT hq];rfl
  obtain⟨i,hi,ei⟩:=bS hm;obtain⟨res,g1,hn⟩:=Paired.get hr (ah hi);rw [ei] at hn;refine⟨s+a.length+1,(aH.mp l7).1,jJ.mpr ⟨res,aX g1,?_⟩⟩;rw [sm];refine hn.all (s+a.length) q (Nat.le_add_right _ _) l7 (fun hx=>?_) fun i h1 h2=>?_
  ·have nd:=zfl (f:=f) (hW.sub (dG (s+a.length+1) ts));rw [sm,av,cA] at nd;exact nd.2.2 q.1 hx q.1 #[M] rfl
  ·have ur:i < ts.length:=jf h2 (aH.mp l7).1;have h3:=hR f i ur;obtain⟨c,rfl⟩:∃ c,i=s+c:=⟨i - s,#[O]⟩;have e3:wsum p f #[KO]=wsum p f (ts.drop (s+c)):=by
    have e4:ts.drop s=#[KO].take c++ts.drop (s+c):=by rw [<- fL,bN]
    have e5:(#[KO].take c).filter #[JI] = []:=by
     rw [e1,List.take_append_of_le_length #[O]];exact g5.mpr fun x hx=>g5.mp ha x (List.mem_of_mem_take hx)
    rw [e4,zjU]
    conv=>lhs; rw [show wsum p f (#[KO].take c)=0 by unfold wsum; rw [e5]; rfl]
    lia
   have e6:wsum p f ts=wts (#[Kh].filter #[JI])+wsum p f #[KO]:=by
    unfold wsum;rw [esp,zfk]
   show T<=wts (#[Kh].filter #[JI])+R (s+c);lia
 ·have:=zgs hr;have h2:=fB ts.length h.ln;rw [fC];lia
theorem zjY {p:Int} (hp:p∈zy) {ts:List Wt3} (hW:Wp p ts) {c:Pk} (h:HI p ts k c):IsP p k (pkP p k c.2).1/\wts c.2<=wsum p (pkP p k c.2).1 ts:=by
 have hw:=zjW hp (k:=k) h.Hw (by rw [aa,h.len]; exact ag _);refine⟨⟨hw.lc,hw.rc⟩,?_⟩;have hs:c.2.Sublist (ts.filter (zai p (pkP p k c.2).1)):=by
  have h1:=(h.sub.trans (dG _ _)).filter (zai p (pkP p k c.2).1);rw [(List.filter_eq_self (p:=zai p (pkP p k c.2).1)).mpr (fun q hq=>decide_eq_true (hw.hit (pt q) (aF.mpr ⟨q,hq,rfl⟩)))] at h1;exact h1
 exact zkO hs fun q hq=>(hW.rg q (bC.mp hq).1).2.2.2.2
theorem zkT {p:Int} (hp:p∈zy) {ts:List Wt3} (hW:Wp p ts) {T:Int} {o8:List Pk} (h:Pks p ts k T k o8) {f:List Int} (hf:IsP p k f) (hT:T<=wsum p f ts) (hk:k<=#[Id].length):∃ c∈o8,(pkP p k c.2).1=f:=by
 obtain⟨s,_,hm⟩:=h.all f hT hk;have hok:=h.ok _ hm;refine⟨_,hm,?_⟩;have hl:((#[Kh].filter #[JI]).map pt).length=k:=by rw [aa]; exact hok.len
 have:=zjJ hp hok.Hw (q:=f) (by rw [hl]; exact hf.1) hf.2 fun a ha=>by
  obtain⟨q,hq,rfl⟩:=aF.mp ha;exact of_decide_eq_true (bC.mp hq).2
 refine Eq.trans ?_ this.symm;show (zfS p k ((#[Kh].filter #[JI]).map pt)).1=thr p ((#[Kh].filter #[JI]).map pt);unfold thr;rw [hl]
end My
end
section
namespace PySem
open PyProof.Rows
section
variable {prog:Program} {w:World} {A:Around} {E:Value->Shared->Prop} {s:Shared}
theorem zfm {T:String} {r d:Addr} {n:Nat} {P:Nat->Value->Prop} {OK:Heap->Prop} {ns:List Int} {Q:Value->Shared->Prop} (K:j2 prog w T r d n P OK) (hh:A.handled=none) (hok:OK s.heap) (hn:n < 64)
  (hP:∀ vs:List Value,vs.length=n->(∀ (j:Nat) v,vs[j]? = some v->P j v)->IntsAre vs ns)
  (h:∀ (h':Heap) (tk:Nat) (out:Array Value) (oa:List Int) (e:Nat) (D:Addr),(∀ c o,s.heap.get? c=some o->h'.get? c=some o)->(∀ c o,s.heap.get? c=some o->c < D)->h'.get? D=some (seqObj "list" out e)->IntsAre out.toList oa->oa.Perm ns->(oa.Pairwise fun x y=>y<=x)->Q #[Is] { s with heap:=h',toks:=tk }) :
  wpAny #[or] A (call (.builtin "sorted") [.ref r] [(bG "reverse",.bool true)]) Q E s:=by
 (refine call_function_entry_kw kind_sorted plain_sorted entry_sorted (args_sorted_rev _ _) ?_)
 unfold Builtin.«sorted»; refine ae (m:=checkCount "sorted" 1 1 _) (ak ?_);refine ae (iN K (by simp [hh]) hok (by rw [be]; lia) fun h1 tk acc kk pQ=>?_);have hl:acc.toList.length=n:=(bw ..).trans pQ.1;have hI:IntsAre acc.toList ns:=hP acc.toList hl fun j v e=>pQ.2 j v (by rw [<- aY]; exact e)
 refine ae (iF ?_ (hsz:=by rw [hl,be]; lia));have tU:(h1.push (seqObj "list" acc.toList.toArray 0)).get? h1.objs.size=some (seqObj "list" acc.toList.toArray 0):=aC _ rfl;refine ae (df (wpAny_call_entry_kw slot_list_sort ⟨_,tU,rfl⟩ entry_list_sort (list_sort_tree_rev tU hI #[O] fun out oa a1 a2 a3=>#[Ni]) (args_list_sort_rev _ _)));obtain⟨e,he⟩:=sortedHeap_at (out:=out) tU;refine ak ⟨_,rfl,h _ tk out oa e h1.objs.size (fun c o x=>?_) (fun c o x=>az #[Nb]) he a1 a2 a3⟩;have kU:c < h1.objs.size:=az #[Nb];rw [sortedHeap_old (aS kU) (by rw [bx]; exact cz kU)];exact ai _ #[Nb]
end
end PySem
namespace L2
open PySem PySem.Spec PyProof.Rows
variable {X:Cx} {pos:Pos}
noncomputable def zkU (td:TE):TE:=fun σ H Q=>td σ H fun x H1=>∃ (a:Addr) (kvs:List (Key×V)) (ns:List Int),x = .ref a/\H1 a=some #[Lg]/\kvs.map (·.2)=ns.map V.int/\ns.length < 64 /\
 ∀ (l:Addr) (oa:List Int),H1 l=none->oa.Perm ns->(oa.Pairwise fun x y=>y<=x)->Q #[JF] (kx H1 l (.lst #[K5]))
theorem zeR {o:Expr} {td:TE} {p apos kY kp vp:Pos} (hc:X.calm=true) (hg:Gl X "sorted") (hm:X.mg "sorted" = none) (ho:PE X o td)
  (pN:attributeBase o "values" X.env #[Md]=eval o X.env:=by rfl) (pO:(apos.endLine == kY.line)=true:=by rfl) :
  PE X (.Call (.Name "sorted" p) [.Call (.Attribute o "values" apos) [] [] kY] [⟨some "reverse",.Constant #[Ka] 0 vp,kp⟩] pos) (zkU td):=by
 intro km s σ H Q I h;refine cG (zbH I hg hm gW ?_);refine callWith_kw ?_;show wpAny _ _ (spliced ((false,eval (.Call (.Attribute o "values" apos) [] [] kY) X.env) :: [])) _ _ s;refine dB ?_;refine wpAny_Call_method0_late pN pO (thn #[Kc] fun v s1 ⟨x,H1,I1,r1,a,kvs,ns,ex,hH,uq,h64,q1⟩=>?_);subst ex;obtain rfl:v=aP a:=r1;obtain⟨t1,t2,_⟩:=zjt I1 (.inl ⟨kvs,.inl hH⟩);obtain⟨z,hd,vs,rel,dd⟩:=zlc I1.hok hH;refine⟨"dict","dict.values",gF,gA,PySem.F.type_dict_values,t1,t2,eP rfl (PySem.evalArgs_none ?_)⟩;refine jd gA dd.typeIs PySem.F.entry_dict_values (PySem.F.args_dict_values_1 _) (meets_dict_values #[Nj] a hd) ⟨⟨vs,dd⟩,?_⟩;refine eK (kws_cons (Constant_bool (kws_nil ?_)));obtain⟨ep,l7⟩:=dd.dictAt;have kB:vs.length=ns.length:=by
  have e1:=rel.length;have e2:=congrArg bU uq;rw [aa,aa] at e2;lia
 obtain⟨s2,e2⟩:∃ s2,s2=({ s1 with heap:=s1.heap.push { cls:=.type "dict_values",data:=.fields #[.ref a] } }:Shared):=⟨_,rfl⟩;have hv:s2.heap.get? s1.heap.objs.size=some { cls:=.type "dict_values",data:=.fields #[.ref a] }:=by rw [e2]; exact aC _ rfl
 have k2:∀ c o,s1.heap.get? c=some o->s2.heap.get? c=some o:=fun c o x=>by rw [e2]; exact ai _ x
 have hu:s2 = { s1 with heap:=s2.heap }:=by rw [e2]
 show wpAny _ _ (call (.builtin "sorted") [.ref s1.heap.objs.size] [(bG "reverse",.bool true)]) _ _ _;rw [<- e2];refine zfm (ns:=ns) (PySem.W.kdl_values (knd:=zan X.prog X.w) (d:=a) (r:=s1.heap.objs.size) (kvs:=vs) (ep:=ep)) (I1.ok.hd hc) ⟨⟨_,hv,rfl,rfl⟩,l7.keep k2⟩ #[O] (fun us hl hj=>?_) fun h' tk out oa e D kk hD sX hI hp vZ=>?_
 ·rw [PySem.W.kdl_vals_eq us hl hj];exact zkC rel uq
 ·have hle:s1.heap.objs.size<=D:=dI (hD _ _ hv);have hr:=zfc hI;have vd:oa.length=ns.length:=hp.length_eq;have I2:Inv X km σ (kx H1 D (.lst #[K5])) { s1 with heap:=h',toks:=tk } :=
   I1.laid (fun c o x=>kk c o (k2 c o x)) hle ⟨by rw [aa,be]; lia,out.toList,e,hr,by rw [iq]; exact sX⟩
  have e3:({ s2 with heap:=h',toks:=tk }:Shared) = { s1 with heap:=h',toks:=tk }:=by rw [e2]
  rw [e3];exact⟨.ref D,_,I2,rfl,q1 D oa (I1.hok.fresh hle) hp vZ⟩
end L2
end
section
namespace My
open PySem L2 PyProof.Rows
variable {H H':Hp} {fd:FuncData} {k:Nat} {pl:List Int}
noncomputable def top (i:Nat):Stmt:=PySem.Challenge.pw_slipcurve_k21_whole_heavy_ones.main.body.getD i (.Pass ⟨0,0,0,0⟩)
abbrev zbV:Stmt:=top 1
abbrev zcm:Stmt:=top 2
abbrev za0:Stmt:=top 3
abbrev zd0:Stmt:=top 4
abbrev zar:Stmt:=top 18
abbrev zbc:Stmt:=top 19
abbrev zbs:Stmt:=top 20
abbrev zaL:Stmt:=top 21
abbrev zbm:Stmt:=top 22
abbrev zaa:Stmt:=top 23
abbrev zcn:Stmt:=top 24
abbrev zcZ:Stmt:=top 26
abbrev zco:Stmt:=top 27
abbrev zcp:Stmt:=top 28
abbrev zb8:Stmt:=top 29
abbrev zcq:Stmt:=top 30
abbrev zaE:Stmt:=top 31
abbrev zaT:Stmt:=top 32
abbrev zc0:Stmt:=top 33
abbrev zaU:Stmt:=top 34
abbrev zc1:Stmt:=top 35
abbrev zaF:Stmt:=top 36
abbrev zaM:Stmt:=top 37
abbrev zaV:Stmt:=top 38
abbrev zc2:Stmt:=top 39
abbrev zbX:Stmt:=top 40
structure Adr where
 tab:Addr
 EX:Addr
 Ff:Addr
 F0:Addr
 FZ:Addr
 FY:Addr
 Fx:Addr
 Hv:Addr
 Fw:Addr
 Em:Addr
 GQ:Addr
 Hu:Addr
 EH:Addr
 inverse:Addr
 Ed:Addr
 HN:Addr
 DK:Addr
 Eo:Addr
 En:Addr
 DP:Addr
 Ee:Addr
 DI:Addr
 GA:Addr
 Gb:Addr
 Fp:Addr
 Fn:Addr
 Ga:Addr
 Fo:Addr
 Et:Addr
 D7:Addr
 F8:Addr
 DU:Addr
 G5:Addr
 DQ:Addr
 DX:Addr
 EO:Addr
 F9:Addr
 law:Addr
structure KW (K:af) (t:Adr) (C:Addr) (b0 b1 b2 b3 b4 b5 b6 b7 b8 b9:Bool):Prop where
 i0:a8 K #[IE] (.ref t.Ff)=some b0
 i1:a8 K #[IE] (.ref t.F0)=some b1
 i2:a8 K #[IE] (.ref t.FZ)=some b2
 i3:a8 K #[IE] (.ref t.FY)=some b3
 i4:a8 K #[IE] (.ref t.Fx)=some b4
 i5:a8 K #[IE] (.ref t.Hv)=some b5
 i6:a8 K #[IE] (.ref t.Fw)=some b6
 i7:a8 K #[IE] (.ref t.Em)=some b7
 i8:a8 K #[IE] (.ref t.GQ)=some b8
 i9:a8 K #[IE] (.ref t.Hu)=some b9
 iv:a8 K #[IE] (.type "ValueError")=some true
 xc:Xc K C
 sl:dN K #[IE] (.ref t.EX)=some true
abbrev FbQ (K:af) (x:Str) (s:Stmt) (a:Addr) (p:List Str):Prop:=∃ fd,Fun K x x s a fd/\Binds K fd p []
structure Txt (K:af) (mg:Str->Option Value) (base:Heap) (t:Adr):Prop where
 bm:zea mg base
 tb:TabOf K t.DI t.tab
 F7:mg "len" = none
 D0:mg "range" = none
 Hq:mg "list" = none
 FE:mg "tuple" = none
 Ig:mg "min" = none
 HM:mg "max" = none
 DG:mg "isinstance" = none
 Il:mg "int" = none
 Ic:mg "bool" = none
 HK:mg "zip" = none
 Gu:mg "reversed" = none
 EK:mg "sorted" = none
 HL:mg "sum" = none
 Ii:mg "set" = none
 FX:mg "ValueError" = none
 FK:mg "SlipError" = some (.ref t.EX)
 F4:mg "TooFew" = some (.ref t.Ff)
 Gn:mg "NoCurve" = some (.ref t.F0)
 Gm:mg "NoPaper" = some (.ref t.FZ)
 Gk:mg "NoPlace" = some (.ref t.FY)
 Ge:mg "NoNumber" = some (.ref t.Fx)
 Hl:mg "Heard" = some (.ref t.Hv)
 Gd:mg "NotHeard" = some (.ref t.Fw)
 Fh:mg "NothingLeft" = some (.ref t.Em)
 GW:mg "NoText" = some (.ref t.GQ)
 Hk:mg "NoRow" = some (.ref t.Hu)
 D5:eU K t.Ff zjl "ValueError.__new__" = true
 FJ:KW K t t.Ff true false false false false false false false false false
 sb:bI K t.EX (.type "BaseException")=some true
 Ef:mg "value_at" = some (.ref t.EH)
 Gy:mg "inverse" = some (.ref t.inverse)
 FH:mg "times_root" = some (.ref t.Ed)
 HF:mg "bent" = some (.ref t.HN)
 DT:mg "weighted_points" = some (.ref t.DK)
 EM:mg "weight_in" = some (.ref t.Eo)
 Ei:mg "weight_of" = some (.ref t.En)
 Er:mg "most_weight" = some (.ref t.DP)
 FI:mg "next_picks" = some (.ref t.Ee)
 EC:mg "picked_weights" = some (.ref t.DI)
 Ho:mg "heavy" = some (.ref t.GA)
 G3:mg "_law_cell" = some (.ref t.Gb)
 D6:mg "_law_draws" = some (.ref t.Fp)
 Gw:mg "_law_whole" = some (.ref t.Fn)
 G2:mg "_law_code" = some (.ref t.Ga)
 Es:mg "_law_value" = some (.ref t.Fo)
 FP:mg "_law_through" = some (.ref t.Et)
 FQ:mg "_law_guesses" = some (.ref t.D7)
 G0:mg "_law_word" = some (.ref t.F8)
 EN:mg "_law_choices" = some (.ref t.DU)
 Hn:mg "_law_all" = some (.ref t.G5)
 E6:mg "_law_polynomial" = some (.ref t.DQ)
 DW:mg "_law_weight_of" = some (.ref t.DX)
 Gx:mg "_law_heavy" = some (.ref t.EO)
 G1:mg "_law_told" = some (.ref t.F9)
 DV:FbQ K "value_at" zbV t.EH ["p","polynomial","x"]
 EV:FbQ K "inverse" zcm t.inverse ["p","number"]
 D8:FbQ K "times_root" za0 t.Ed ["p","polynomial","root"]
 GD:FbQ K "bent" zd0 t.HN ["p","polynomial","vanishing","point"]
 DJ:FbQ K "weighted_points" zar t.DK ["code","guesses"]
 DY:FbQ K "weight_in" zbc t.Eo ["p","points","polynomial"]
 Ej:FbQ K "weight_of" zbs t.En ["code","guesses","polynomial"]
 DN:FbQ K "most_weight" zaL t.DP ["points","many"]
 D9:FbQ K "next_picks" zbm t.Ee ["p","points","rests","least","pick"]
 DM:FbQ K "picked_weights" zaa t.DI ["p","k","points","least"]
 FU:FbQ K "heavy" zcn t.GA ["code","guesses","least"]
 Fu:FbQ K "_law_cell" zcZ t.Gb ["script","k"]
 Eb:FbQ K "_law_draws" zco t.Fp ["script","k","many","base"]
 ET:FbQ K "_law_whole" zcp t.Fn ["found"]
 Ft:FbQ K "_law_code" zb8 t.Ga ["script","at","most_k","most_n"]
 Ea:FbQ K "_law_value" zcq t.Fo ["p","polynomial","x"]
 Ek:FbQ K "_law_through" zaE t.Et ["p","points"]
 El:FbQ K "_law_guesses" zaT t.D7 ["script","at","code","most","top"]
 Fq:FbQ K "_law_word" zc0 t.F8 ["e"]
 DZ:FbQ K "_law_choices" zaU t.DU ["some","many"]
 FT:FbQ K "_law_all" zc1 t.G5 ["p","k"]
 DR:FbQ K "_law_polynomial" zaF t.DQ ["draws","p","k"]
 DO:FbQ K "_law_weight_of" zaM t.DX ["code","guesses","one"]
 EU:FbQ K "_law_heavy" zaV t.EO ["code","guesses","least"]
 Fs:FbQ K "_law_told" zc2 t.F9 ["code","guesses","least"]
section
variable {P:Program} {w:World} {K:af} {mg:Str->Option Value} {base:Heap} {t:Adr}
theorem ziz:DF ["script","k"] ["script","k"] (zh zcZ):=#[S]
theorem ziA (T:Txt K mg base t) (F:Fun K "_law_cell" "_law_cell" zcZ t.Gb fd):D1 P w K mg base CX0 1 t.Gb fd ["script","k"] (zh2 K):=by
 refine F.ok ziz #[pc] #[ld]
 ·obtain⟨a,ns,k,rfl,_⟩:=h; rfl
 ·obtain⟨a,ns,k,rfl,hS,kB,k0,k1,q⟩:=h;refine zbg ?_; intro zX;refine⟨_,#[ze,#[zaX,#[zH,#[zej],#[Ev],#[Jq],(z7 _)],#[zl,#[zJ,#[zW,#[zO],#[xL],#[Ev]]]],#[zaq]],#[ze,#[zaX,#[zH,#[zdF],#[Jq],#[zg],(z7 _)],#[zl,#[zJ,#[Ku]]],#[zaq]],#[zl,#[zJ,#[zi,#[zK],#[zi,#[zF],#[zW,#[zO],#[xL],#[zi,#[zF],#[Ev],#[Jq]]],#[zg]],#[IC]]]]]],?_⟩;refine zhV ?_; intro pW oR;refine⟨_,rfl,_,rfl,a,_,rfl,.inl hS,_,_,rfl,rfl,_,rfl,?_⟩; rw [aa];refine zaW #[K0] #[K0]
  ·have h:k < (ns.length:Int):=by simpa using h
   obtain⟨c,hc⟩:=ze8 k0 h;exact⟨_,rfl,_,rfl,a,_,k,_,rfl,rfl,hS,hc,q c⟩
  ·have h:¬ k < (ns.length:Int):=by simpa using h
   refine⟨_,rfl,a,_,rfl,.inl hS,rfl,_,rfl,?_⟩;rw [aa];refine zaW (fun h2=>?_) (fun h2=>?_)
   ·exact#[Nn]
   ·have h2:¬ V.int (ns.length:Int)=V.int 0:=by simpa using h2
    have rA:0 < (ns.length:Int):=by
     have:(ns.length:Int)≠0:=fun z=>h2 (by rw [z])
     lia
    have m0:=aM k (show (ns.length:Int)≠0 by lia);have m1:=aE k rA;obtain⟨c,hc⟩:=ze8 m0 m1;refine⟨_,rfl,_,rfl,_,rfl,a,_,rfl,.inl hS,_,_,rfl,rfl,by rw [aa]; exact rA,a,_,_,_,rfl,rfl,hS,by rw [aa]; exact hc,_,_,rfl,rfl,(by show (0:Int) < 1000003; decide),?_⟩;exact#[Nn]
theorem zab:DF ["script","k","many","base","primes","cell","rest","row","j","mash"] ["script","k","many","base"] (zh zco):=#[S]
theorem zcH (T:Txt K mg base t) (F:Fun K "_law_draws" "_law_draws" zco t.Fp fd):D1 P w K mg base CX0 2 t.Fp fd ["script","k","many","base"] (zgN K):=by
 obtain⟨rF,pX,oe⟩:=T.Fu;have sY:=ziA (P:=P) (w:=w) (base:=base) T pX;refine F.ok zab #[pc] #[ld]
 ·obtain⟨a,ns,k,many,base,rfl,_⟩:=h;rfl
 ·obtain⟨a,ns,k,many,bs,rfl,hS,kB,k0,k1,m0,m1,b0,b1,q⟩:=h;refine zbg ?_; intro zX;refine⟨_,#[ze,#[zn,4,zab.nd,#[A],#[zbf,#[zey,#[zey,#[zey,#[zey,#[zey,#[za,#[zg],#[Js]]]]]]]]],#[ze,#[zn,5,zab.nd,#[A],#[zu,sY,#[pp],T.G3,pX.kp,oe,#[zY],#[L5]]],#[ze,#[zn,6,zab.nd,#[A],#[zg]],#[ze,#[zaX,#[zH,#[zhc],#[K2],#[zi,(@zlu _),#[zg],#[zg]],(z7 _)],#[zl,#[zn,6,zab.nd,#[A],#[K2]]],#[zaq]],#[ze,#[zn,7,zab.nd,#[A],#[Nh]],#[ze,#[zaA,bj,#[zay,T.D0,#[LO]],#[zj,8,zab.nd,#[A]],#[ze,#[zn,9,zab.nd,#[A],#[zi,#[zZ],#[zi,#[zF],#[K2],#[zW,#[zbL],#[Je],#[zi,#[zF],#[Kw],#[zg]]]],#[zi,#[zK],#[zg],#[zi,#[zZ],#[zi,#[zZ],#[zg],#[Kw]],#[Kw]]]]],#[ze,#[zn,9,zab.nd,#[A],#[zi,#[zK],#[zi,#[zK],#[LM],#[zi,#[zZ],#[zi,#[zZ],#[zg],#[ML]],#[ML]]],#[IC]]],#[ze,#[zn,9,zab.nd,#[A],#[zi,#[zF],#[LM],#[zW,#[zbL],#[Je],#[zi,#[zF],#[zi,#[zK],#[zi,#[zZ],#[zg],#[Kw]],#[Ev]],#[zg]]]]],#[ze,#[zn,9,zab.nd,#[A],#[zi,#[zF],#[zi,#[zZ],#[zi,#[zZ],#[LM],#[LM]],#[LM]],#[zW,#[zbL],#[Je],#[zi,#[zF],#[ML],#[zg]]]]],#[ze,#[zaX,#[zH,#[zhb],#[KH],#[zg],(z7 _)],#[zl,#[zn,9,zab.nd,#[A],#[KH]]],#[zaq]],#[ze,#[zcJ,#[zdf,bP,eA,eB,#[zc8],#[pvx,7],#[ya,#[zi,#[zF],#[LM],#[Iz]]]]],#[zl,#[zn,6,zab.nd,#[A],#[zi,#[zeU],#[KH],#[Iz]]]]]]]]]]],#[zl,#[zJ,#[pvx,7]]]]]]]]],?_⟩;refine zkp ?_; intro Co AF wa sZ pW oR;refine⟨by show 8<=sizeLine; rw [be]; decide,fun tp ht=>?_⟩;have s1:zw H (kx H tp (.tup zkv)):=zd ht;refine⟨_,rfl,_,rfl,a,ns,k,rfl,s1.seq hS,kB,k0,k1,fun c=>?_⟩;refine⟨_,rfl,_,_,rfl,rfl,⟨#[D],#[D],#[D]⟩,_,_,rfl,rfl,_,rfl,?_⟩;refine zaW (fun _=>#[Ni]) #[wE]
  all_goals
   refine⟨bg _,fun l hl=>?_⟩;have AG:H l=none:=zw.free s1 hl;have rq:tp≠l:=zq zb hl;refine⟨_,rfl,many,rfl,#[O],#[O],zaP (lo:=0) (n:=many.toNat) (fun i σ H'=>∃ (r:Int) (v8 v9:Option V) (ds:List Int),σ = [some #[IT],some (.int k),some (.int many),some (.int bs),some (.ref tp),some (.int c),some (.int r),some #[JF],v8,v9]/\zhm i bs ds/\zw H H'/\H' tp=some (.tup zkv)/\H' l=some #[ME])
    ⟨_,none,none,[],rfl,⟨rfl,#[M]⟩,zav s1 AG,by rw [zp rq]; exact zb,zb⟩ ?_ ?_⟩
   ·rintro zD zT i σ H2 hi ⟨r,v8,v9,ds,rfl,hd,s2,x9,uA⟩;obtain⟨q1,e1,q1p,q1l⟩:=zdK (0+(i:Int));obtain⟨q2,e2,q2p,q2l⟩:=zdK (3*(0+(i:Int))+k);obtain⟨q3,e3,q3p,q3l⟩:=zdK (0+(i:Int)+5);have c1:=aM c (show q1≠0 by lia);have c2:=aE c q1p;have mJ:(i:Int) < 1000:=by lia
    refine⟨_,rfl,_,rfl,_,rfl,_,_,rfl,rfl,(by show (0:Int) < 8; decide),tp,_,_,_,rfl,rfl,kJ.of x9,e1,_,_,rfl,rfl,q1p,_,rfl,_,_,rfl,rfl,.inl #[AC],_,rfl,_,_,rfl,rfl,.inl #[wT],_,_,rfl,rfl,_,_,rfl,rfl,.inl #[wT],?_⟩;refine⟨_,rfl,_,rfl,_,_,rfl,rfl,_,_,rfl,rfl,.inl #[AC],_,rfl,_,_,rfl,rfl,_,_,rfl,rfl,.inl #[wT],_,_,rfl,rfl,_,rfl,_,_,rfl,rfl,.inl #[AC],_,_,rfl,rfl,?_⟩;refine⟨_,rfl,_,rfl,_,rfl,_,_,rfl,rfl,.inl #[AC],_,rfl,_,_,rfl,rfl,_,_,rfl,rfl,(by show (0:Int) < 8; decide),tp,_,_,_,rfl,rfl,kJ.of x9,e2,_,_,rfl,rfl,q2p,?_⟩;generalize c % q1*(48271+2*(0+(i:Int))*(0+(i:Int)))+7919*(0+(i:Int)+1)*(0+(i:Int)+1)+104729*k=ms;have d1:=aM ms (show q2≠0 by lia);have d2:=aE ms q2p;refine⟨_,rfl,_,rfl,_,_,rfl,rfl,.inl #[wT],_,rfl,_,_,rfl,rfl,.inr #[wT],_,rfl,_,rfl,_,_,rfl,rfl,_,_,rfl,rfl,(by show (0:Int) < 8; decide),tp,_,_,_,rfl,rfl,kJ.of x9,e3,_,_,rfl,rfl,q3p,?_⟩;refine#[IJ];have pY:=hd.1;refine zaW (fun _=>#[Ni]) #[wE]
    all_goals
     refine⟨_,rfl,.inl ⟨rfl,_,kr.of uA⟩,_,rfl,_,rfl,_,_,rfl,rfl,b0,l,_,_,rfl,rfl,uA,za1 (by rw [aa]; lia),?_⟩;refine⟨_,rfl,_,rfl,_,_,rfl,rfl,⟨b0,b1⟩,?_⟩;refine⟨_,_,_,ds++[_],rfl,⟨by rw [aA,pY]; rfl,fun d hm=>?_⟩,zav s2 AG,by rw [zp rq]; exact x9,by rw [zb,av]; rfl⟩; rcases aR.mp hm with hm | hm
     ·exact hd.2 d hm
     ·have e:=aW.mp hm;rw [e];exact⟨aM _ #[O],aE _ b0⟩
   ·rintro σ H2 ⟨r,v8,v9,ds,rfl,hd,s2,x9,uA⟩;exact⟨_,rfl,q l ds H2 AG s2 hd uA⟩
theorem za2:DF ["script","at","most_k","most_n","plan","primes","p","k","many","left"] ["script","at","most_k","most_n"] (zh zb8):=#[S]
theorem ziB (T:Txt K mg base t) (F:Fun K "_law_code" "_law_code" zb8 t.Ga fd):D1 P w K mg base CX0 3 t.Ga fd ["script","at","most_k","most_n"] (zh3 K):=by
 obtain⟨mM,kM,kQ⟩:=T.Eb;have k8:=zcH (P:=P) (w:=w) (base:=base) T kM;refine F.ok za2 #[pc] #[ld]
 ·obtain⟨a,ns,at',mk,mn,rfl,_⟩:=h;rfl
 ·obtain⟨a,ns,at',mk,mn,rfl,hS,kB,a0,a1,k1,k5,kn,n16,q⟩:=h;refine zbg ?_; intro zX;refine⟨_,#[ze,#[zn,4,za2.nd,#[KI],#[zu,k8,#[pp],T.D6,kM.kp,kQ,#[zY],#[za,#[xL],by exact #[za,#[Ev],#[Js]]]]],(by exact (@zja _ 5 _ _ _ _ _ _ _ [5,7,11,13,17,19,23,29,31,37,41,43,47,53,59,61,67,71,73,79,83,89,97] #[N] za2.nd rfl #[A] (by first | exact .inl rfl | exact .inr rfl) (by exact #[ze,#[zn,6,za2.nd,#[A],#[zW,#[zO],#[zag,#[za,#[zW,#[zO],#[K2],#[MM]],#[ya,#[zW,#[zO],#[K2],#[MM]]]]],#[MM]]],#[ze,#[zn,7,za2.nd,#[A],#[zi,#[zK],#[zg],#[zi,#[zF],#[Jz],#[zt,#[zek],T.Ig,boot_min,#[za,#[IO],#[ya,#[KH]]]]]]],#[ze,#[zn,8,za2.nd,#[A],#[zi,#[zK],#[pvx,7],#[zi,#[zF],#[Jz],#[zi,#[zK],#[zi,#[zbe],#[zt,#[zek],T.Ig,boot_min,#[za,#[Iz],#[ya,#[KH]]]],#[pvx,7]],#[zg]]]]],#[ze,#[zn,9,za2.nd,#[KI],#[zaH,(@zd8 _ rfl),T.Hq,boot_list,#[ya,#[zaH,(@zfN _),T.D0,jO,#[ya,#[KH]]]]]],#[zl,#[zJ,#[zbf,#[za,#[KH],#[za,#[pvx,7],#[ya,#[zaH,#[zaK],T.FE,gn,#[ya,#[zat,(DH.of (N':=["j","left","plan"]) (ix:=[none,some 9,some 4]) (zh zb8) _ rfl rfl rfl),#[za5],#[zay,T.D0,#[ya,#[Kw]]],#[ut],#[wn],(fun _ _ _ _=>(@zlK _ (K) _ _ _ _ _ _ _ _ _ _ _ rfl bP PySem.F.slot_list_pop PySem.F.type_list_pop (@zi0 _) #[Ev] #[ya,#[zi,#[zF],#[zW,#[zfO,(K)],#[IO],#[zi,#[zK],#[zg],#[xL]]],#[zt,#[zbw,(K)],T.F7,c6,#[Jv]]]] (by rfl) (by rfl) (by rfl) (by rfl) (by rfl)))]]]]]]]]]]]]])))],?_⟩;refine zkp ?_; intro Co AF wa sZ pW oR;refine⟨_,rfl,_,rfl,a,ns,at',20,27720,rfl,hS,kB,a0,a1,#[D],#[D],#[D],#[D],fun l ds H1 hl s1 hd lR=>?_⟩;have pY:ds.length=20:=hd.1;have dat:∀ m:Int,0<=m->m < 20->∃ c:Int,atI #[Iw] m=some (.int c):=fun m h0 h1=>ze8 h0 #[O]
  refine⟨by show 23<=sizeLine; rw [be]; decide,fun pr hpr=>?_⟩;have Cp:l≠pr:=zq lR hpr;obtain⟨d0,ed0⟩:=dat 0 #[D] #[D];obtain⟨d1,ed1⟩:=dat 1 #[D] #[D];obtain⟨d2,ed2⟩:=dat 2 #[D] #[D];obtain⟨d3,ed3⟩:=dat 3 #[D] #[D];have nj:#[IZ] l=some #[ME]:=by rw [zp Cp]; exact lR
  obtain⟨p1,mp1,ep1⟩:=zbp (ns:=zy) (k:=d0 % 23) (aM _ #[D]) (aE _ #[D]);obtain⟨p2,mp2,ep2⟩:=zbp (ns:=zy) (k:=d0 % 3) (aM _ #[D]) (by have:=aE d0 (show (0:Int) < 3 by decide); have e:(zy.length:Int)=23:=rfl; lia);obtain⟨p,ep,Ap⟩:=zjh (x:=p1) (y:=p2) (m:=d1 % 2) (aM _ #[D]) (aE _ #[D]);have mp:p∈zy:=by rcases Ap with e | e <;> rw [e] <;> assumption
  have rp:=zQ mp;refine⟨_,rfl,_,rfl,l,_,_,_,rfl,rfl,kr.of nj,ed0,_,_,rfl,rfl,(by show (0:Int) < 23; decide),pr,_,_,_,rfl,rfl,kr.of zb,ep1,
   _,rfl,_,rfl,l,_,_,_,rfl,rfl,kr.of nj,ed0,_,_,rfl,rfl,(by show (0:Int) < 3; decide),pr,_,_,_,rfl,rfl,kr.of zb,ep2,zb1,fun l2 mS=>?_⟩
  have Cq:l≠l2:=zq nj mS;have t5:(kx #[IZ] l2 (.lst [.int p1,.int p2])) l=some #[ME]:=by rw [zp Cq]; exact nj
  refine⟨_,rfl,l,_,_,_,rfl,rfl,kr.of t5,ed1,_,_,rfl,rfl,(by show (0:Int) < 2; decide),l2,_,_,_,rfl,rfl,kr.of zb,ep,?_⟩;have tY:(0:Int) < (if p < mk then p else mk):=by split <;> lia
  have sP:(if p < mk then p else mk)<=mk:=by split <;> lia
  have BV:(if p < mk then p else mk)<=p:=by split <;> lia
  refine⟨_,rfl,l,_,_,_,rfl,rfl,kr.of t5,ed2,_,rfl,_,rfl,_,_,rfl,_,_,rfl,rfl,tY,_,_,rfl,rfl,?_⟩;generalize (if p < mk then p else mk)=mm at tY sP BV |-;have sC:=aM d2 (show mm≠0 by lia);have Au:=aE d2 tY;have sx:(if p < mn then p else mn)<=mn:=by split <;> lia
  have sy:(if p < mn then p else mn)<=p:=by split <;> lia
  have hn3:mm<=(if p < mn then p else mn):=by split <;> lia
  refine⟨_,rfl,_,rfl,l,_,_,_,rfl,rfl,kr.of t5,ed3,_,rfl,_,rfl,_,_,rfl,_,rfl,_,_,rfl,rfl,_,_,rfl,rfl,_,_,rfl,rfl,#[O],_,_,rfl,rfl,?_⟩;generalize (if p < mn then p else mn)=nn at sx sy hn3 |-;have hq0:=aM d3 (show nn - (1+d2 % mm)+1≠0 by lia);have vE:=aE d3 (show 0 < nn - (1+d2 % mm)+1 by lia);refine⟨_,rfl,p,rfl,fun r xN=>⟨r,p,rfl,zb,#[O],#[O],fun lf Cr=>?_⟩⟩;have wV:l≠r:=zq t5 xN;have yb:l≠lf:=by
   refine zq (H:=kx (kx #[IZ] l2 (.lst [.int p1,.int p2])) r (.rng 0 p)) (o:=.lst #[Iw]) ?_ Cr;rw [zp wV]; exact t5
  have sA:zw H (kx #[IZ] l2 (.lst [.int p1,.int p2])):=(s1.trans (zd hpr)).trans (zd mS);have sB:=#[Nq].trans (zd (o:=.lst ((zbv 0 p.toNat).map V.int)) Cr);have Cs:H lf=none:=#[Nq].free Cr;obtain⟨nd0,rg0⟩:=zh4 p;refine⟨_,rfl,_,rfl,_,rfl,_,rfl,#[O],#[O],zal (n:=(1+d2 % mm+d3 % (nn - (1+d2 % mm)+1)).toNat) (fun i ys H'=>∃ xs ls:List Int,ys=xs.map V.int/\xs.length=i/\zw H H'/\H' l=some #[ME]/\H' lf=some (.lst (ls.map V.int))/\ls.length+i=p.toNat/\(xs++ls).Nodup/\∀ y∈xs++ls,0<=y/\y < p)
   ⟨[],zbv 0 p.toNat,rfl,rfl,sB,by rw [zp yb,zp wV]; exact t5,zb,by rw [zcv]; rfl,by simpa using nd0,by simpa using rg0⟩ #[Lo] #[KB] ?_ ?_⟩
  ·rintro zS zT zE i x ys H4 H5 hi ⟨xs,ls,rfl,BY,s4,wc,uB,hll,nd,rg⟩ ⟨rfl,rfl⟩;refine gY ?_;obtain⟨c,ec⟩:=dat (4+(0+(i:Int))) #[O] #[O];have lpos:0 < ls.length:=by lia
   have lm:((ls.map V.int).length:Int)=(ls.length:Int):=by rw [aa]
   have c0:=aM c (show (ls.length:Int)≠0 by lia);have c1:=aE c (show (0:Int) < ls.length by lia);have oE:=be;obtain⟨y,ey⟩:∃ y,ls[(c % (ls.length:Int)).toNat]? = some y:=⟨ls[(c % (ls.length:Int)).toNat]'#[O],#[M]⟩;refine⟨_,rfl,.inl ⟨rfl,_,kr.of uB⟩,_,rfl,_,rfl,_,_,rfl,rfl,l,_,_,_,rfl,rfl,kr.of wc,ec,_,rfl,lf,_,rfl,.inl (kr.of uB),_,_,rfl,rfl,(by rw [lm]; lia),lf,_,_,(c % (ls.length:Int)).toNat,.int y,rfl,rfl,uB,?_⟩;rw [lm];refine⟨#[O],#[O],by rw [aa]; exact gQ c0 c1,by rw [aB,ey]; rfl,za1 (by rw [aa]; lia),xs++[y],ls.eraseIdx (c % (ls.length:Int)).toNat,by rw [av]; rfl,by rw [aA,BY]; rfl,zav s4 Cs,by rw [zp yb]; exact wc,by rw [zb,zeD],?_,zkx ey nd rg⟩;rw [List.length_eraseIdx];split <;> lia
  ·rintro ys H4 D ⟨xs,ls,rfl,BY,s4,wc,uB,hll,nd,rg⟩ hD;refine⟨D,_,rfl,.inl ⟨kr.of zb,fun tt htt=>⟨by show 3<=sizeLine; rw [be]; decide,fun c hc=>?_⟩⟩⟩;have s5:=(s4.trans (zd (o:=.lst (xs.map V.int)) hD)).trans (zd (o:=.tup (xs.map V.int)) htt);refine q c tt p _ xs _ (s5.free hc) (s5.trans (zd hc)) ⟨mp,#[O],#[O],#[O],#[O],(cA.mp nd).1,fun y hy=>rg y (aJ _ hy)⟩ zb ?_;rw [zp (zq zb hc)];exact zb
theorem za3:DF ["p","polynomial","x","total","power","number"] ["p","polynomial","x"] (zh zcq):=#[S]
theorem zcI (T:Txt K mg base t) (F:Fun K "_law_value" "_law_value" zcq t.Fo fd):D1 P w K mg base CX0 1 t.Fo fd ["p","polynomial","x"] (zgO K):=by
 refine F.ok za3 #[pc] #[ld]
 ·obtain⟨p,x,a,cs,rfl,_⟩:=h;rfl
 ·obtain⟨p,x,a,cs,rfl,hS,p0,p1,x0,x1,q⟩:=h;refine zbg ?_; intro zX;refine⟨_,#[ze,#[zn,3,za3.nd,#[A],#[zg]],#[ze,#[zn,4,za3.nd,#[A],#[zg]],#[ze,#[zaA,bj,(@zlJ _ _ _ _ #[Ev]),#[zj,5,za3.nd,#[A]],#[ze,#[zn,3,za3.nd,#[A],#[zi,#[zF],#[zi,#[zK],#[Iz],#[zi,#[zZ],#[K2],#[Je]]],#[xL]]],#[zl,#[zn,4,za3.nd,#[A],#[zi,#[zF],#[zi,#[zZ],#[Je],#[IO]],#[xL]]]]]],#[zl,#[zJ,#[Iz]]]]]],?_⟩;refine zko ?_; intro sZ pW oR;refine⟨_,rfl,a,rfl,?_⟩;rcases hS with hS | hS
  ·refine .inl ⟨⟨_,hS⟩,zaz (K:=K) (a:=a) (xs:=cs.map V.int) (fun i σ H'=>H'=H/\∃ (kC power:Int) (nb:Option V),σ = [some #[Ld],some #[IT],some (.int x),some (.int kC),some (.int power),nb]/\0<=power/\power<=97/\lv p x kC power (cs.drop i)=lv p x 0 1 cs)
    ⟨rfl,0,1,none,rfl,#[D],#[D],rfl⟩ (fun i σ H' _ ⟨e,_⟩=>by rw [e]; exact hS) ?_ ?_⟩
   ·rintro zD zT i y σ H1 hy ⟨rfl,kC,power,nb,rfl,w0,w1,hl⟩;obtain⟨c,rfl,hc⟩:=zaY hy;have m0:=aM (power*x) (show p≠0 by lia);have m1:=aE (power*x) p0;refine#[Lq];refine#[Mp];exact⟨rfl,_,_,_,rfl,m0,#[O],(zhn hc).symm.trans hl⟩
   ·rintro σ H1 ⟨rfl,kC,power,nb,rfl,w0,w1,hl⟩;rw [aa,eY] at hl;have hl:kC=lv p x 0 1 cs:=hl;rw [zhj p0] at hl;rw [<- hl] at q;exact⟨_,rfl,q⟩
  ·refine .inr ⟨⟨_,hS⟩,zi3 (K:=K) (a:=a) (xs:=cs.map V.int) (fun i σ H'=>H'=H/\∃ (kC power:Int) (nb:Option V),σ = [some #[Ld],some #[IT],some (.int x),some (.int kC),some (.int power),nb]/\0<=power/\power<=97/\lv p x kC power (cs.drop i)=lv p x 0 1 cs)
    ⟨rfl,0,1,none,rfl,#[D],#[D],rfl⟩ (fun i σ H' _ ⟨e,_⟩=>by rw [e]; exact hS) ?_ ?_⟩
   ·rintro zD zT i y σ H1 hy ⟨rfl,kC,power,nb,rfl,w0,w1,hl⟩;obtain⟨c,rfl,hc⟩:=zaY hy;have m0:=aM (power*x) (show p≠0 by lia);have m1:=aE (power*x) p0;refine#[Lq];refine#[Mp];exact⟨rfl,_,_,_,rfl,m0,#[O],(zhn hc).symm.trans hl⟩
   ·rintro σ H1 ⟨rfl,kC,power,nb,rfl,w0,w1,hl⟩;rw [aa,eY] at hl;have hl:kC=lv p x 0 1 cs:=hl;rw [zhj p0] at hl;rw [<- hl] at q;exact⟨_,rfl,q⟩
theorem zfn (xs:List V) (j:Nat):zc7 xs none (some (j:Int))=xs.take j:=by
 unfold zc7;rw [HT.Gs,HT.F5,jg,fM];by_cases h:j<=xs.length
 ·rw [fu h]
 ·rw [show min j xs.length=xs.length by lia,aV (ag _),aV (show xs.length<=j by lia)]
noncomputable def ziC (K:af):Sp:=fun vs H Q _=>∃ (a:Addr) (ds:List Int) (p k:Int),vs = [.ref a,.int p,.int k]/\kr K H a #[Iw]/\ds.length<=1000/\0 < p /\
 ∀ (l:Addr) (qC:List Int) (H':Hp),H l=none->zw H H'->(qC.length<=ds.length/\∀ x∈qC,0<=x/\x < p)->H' l=some (.tup (qC.map V.int))->(∀ n:Nat,k=(n:Int)->n<=ds.length->qC.length=n)->Q #[JF] H'
theorem zdu:DF ["draws","p","k"] ["draws","p","k"] (zh zaF):=#[S]
theorem zdv (T:Txt K mg base t) (F:Fun K "_law_polynomial" "_law_polynomial" zaF t.DQ fd):D1 P w K mg base CX0 1 t.DQ fd ["draws","p","k"] (ziC K):=by
 refine F.ok zdu #[pc] #[ld]
 ·obtain⟨a,ds,p,k,rfl,_⟩:=h;rfl
 ·obtain⟨a,ds,p,k,rfl,ha,hn,p0,q⟩:=h;refine zbg ?_; intro zX;refine⟨_,#[zl,#[zJ,#[zaH,#[zaK],T.FE,gn,#[ya,#[zat,(DH.of (N':=["draw","p"]) (ix:=[none,some 1]) (zh zaF) _ rfl rfl rfl),#[za5],#[zae,#[zbo,zbM,#[xL],#[zbJ],#[zbK,#[IO]]]],#[ut],#[wn],(fun _ _ _ _=>#[zi,#[zF],#[xL],#[Ev]])]]]]],?_⟩;obtain⟨ms,ems,lms⟩:=zjj ds none (some k);refine⟨_,rfl,_,rfl,_,rfl,a,_,rfl,ha,fun z hz=>?_⟩;rw [ems];have s4:=zd (o:=.lst #[Jx]) hz;refine⟨z,rfl,⟨_,kr.of zb⟩,zh5 (K:=K) (xs:=ms.map V.int) (fs:=ms.map fun d=>V.int (d % p)) (kr.of zb) (by rw [aa,aa]) (by rw [aa]; lia) ?_ ?_⟩
  ·intro j x y R B hx hy hR;obtain⟨c,_,rfl,rfl⟩:=zfW hx hy;refine gY ?_;exact⟨_,rfl,_,rfl,_,_,rfl,rfl,p0,hR⟩
  intro D hD;have Ct:(ms.map fun d=>V.int (d % p))=(ms.map (· % p)).map V.int:=by rw [aI]; rfl
  rw [Ct];refine⟨D,_,rfl,.inl ⟨kr.of zb,fun po Cu=>?_⟩⟩;have s5:=s4.trans (zd (o:=.lst ((ms.map (· % p)).map V.int)) hD);refine q po _ _ (s5.free Cu) (s5.trans (zd Cu)) ⟨by rw [aa]; exact lms,fun x hx=>?_⟩ zb (fun n Ar hle=>?_)
  ·obtain⟨d,_,rfl⟩:=aF.mp hx;exact⟨aM _ #[O],aE _ p0⟩
  ·have h1:=congrArg bU ems;rw [Ar,zfn,aG,aa,aa] at h1;rw [aa];lia
theorem zg0:DF ["found"] ["found"] (zh zcp):=#[S]
theorem zg1 (T:Txt K mg base t) (F:Fun K "_law_whole" "_law_whole" zcp t.Fn fd):D1 P w K mg base CX0 1 t.Fn fd ["found"] (zgP K):=by
 refine F.ok zg0 #[pc] #[ld]
 ·obtain⟨i,rfl,_⟩:=h;rfl
 ·obtain⟨i,rfl,q⟩:=h;refine zbg ?_; intro zX;refine⟨_,#[zl,#[zJ,(@zlp _ _ _ _ _ _ _ #[zt,#[zb3],T.DG,bD,#[za,#[xL],#[ya,#[zdw,(.ty "int"),T.Il,boot_int]]]] (@zlo _ _ _ _ _ (@zlq _ _ _ _ #[zt,#[zb3],T.DG,bD,#[za,#[xL],#[ya,#[zdw,(.ty "bool"),T.Ic,boot_bool]]]])))]],?_⟩;refine⟨_,rfl,_,_,_,_,rfl,.int i,rfl,_,rfl,zmS ?_⟩;exact⟨_,rfl,_,_,_,_,rfl,.int i,rfl,_,rfl,q⟩
theorem zbt:DF ["p","polynomial","x","value","number"] ["p","polynomial","x"] (zh zbV):=#[S]
theorem zb9 (T:Txt K mg base t) (F:Fun K "value_at" "value_at" zbV t.EH fd):D1 P w K mg base CX0 1 t.EH fd ["p","polynomial","x"] (zdi K):=by
 refine F.ok zbt #[pc] #[ld]
 ·obtain⟨p,x,a,cs,rfl,_⟩:=h;rfl
 ·obtain⟨p,x,a,cs,rfl,hS,p0,p1,x0,x1,q⟩:=h;refine zbg ?_; intro zX;refine⟨_,#[ze,#[zn,3,zbt.nd,#[A],#[zg]],#[ze,#[zaA,bj,(@zlI _ _ _ _ _ _ rfl T.Gu #[Jv] (by rfl)),#[zj,4,zbt.nd,#[A]],#[zl,#[zn,3,zbt.nd,#[A],#[zi,#[zF],#[zi,#[zK],#[zi,#[zZ],#[Iz],#[IO]],#[Je]],#[xL]]]]],#[zl,#[zJ,#[Iz]]]]],?_⟩;refine zhV ?_; intro pW oR;refine⟨_,rfl,a,cs.map V.int,rfl,?_⟩;rcases hS with hS | hS
  ·refine .inl ⟨hS,?_⟩;rw [aa];refine zhg (n:=cs.length) (fun i σ H'=>H'=H/\∃ nb,σ = [some #[Ld],some #[IT],some (.int x),some (.int (zr p x #[EQ])),nb]) ⟨rfl,none,by rw [jg,eY]; rfl⟩
    (fun i σ H' hi ⟨e,_⟩=>⟨hi,cs.map V.int,by rw [e]; exact hS,by rw [aa]⟩) (fun σ H' _=>ag _) ?_ ?_
   ·rintro zD zT i y σ H1 H2 hi ⟨rfl,nb,rfl⟩ ⟨rfl,hy⟩;obtain⟨c,rfl,hc⟩:=zaY (hy _ hS);have v0:=za6 (x:=x) p0 #[EQ];have v1:=za7 (x:=x) p0 #[EQ];refine#[Lr];refine⟨rfl,some (.int c),?_⟩;rw [zeE hi hc];show _ = [some (V.int p),_,_,some (V.int ((c+x*zr p x #[EQ]) % p)),_];rw [Int.add_comm c,je x];rfl
   ·rintro σ H1 ⟨rfl,nb,rfl⟩;rw [jh,fM];exact⟨_,rfl,q⟩
  ·refine .inr ⟨hS,?_⟩;rw [aa];refine zhg (n:=cs.length) (fun i σ H'=>H'=H/\∃ nb,σ = [some #[Ld],some #[IT],some (.int x),some (.int (zr p x #[EQ])),nb]) ⟨rfl,none,by rw [jg,eY]; rfl⟩
    (fun i σ H' hi ⟨e,_⟩=>⟨hi,cs.map V.int,by rw [e]; exact hS,by rw [aa]⟩) (fun σ H' _=>ag _) ?_ ?_
   ·rintro zD zT i y σ H1 H2 hi ⟨rfl,nb,rfl⟩ ⟨rfl,hy⟩;obtain⟨c,rfl,hc⟩:=zaY (hy _ hS);have v0:=za6 (x:=x) p0 #[EQ];have v1:=za7 (x:=x) p0 #[EQ];refine#[Lr];refine⟨rfl,some (.int c),?_⟩;rw [zeE hi hc];show _ = [some (V.int p),_,_,some (V.int ((c+x*zr p x #[EQ]) % p)),_];rw [Int.add_comm c,je x];rfl
   ·rintro σ H1 ⟨rfl,nb,rfl⟩;rw [jh,fM];exact⟨_,rfl,q⟩
theorem zaQ:DF ["p","number","product","square","left"] ["p","number"] (zh zcm):=#[S]
theorem zg2 (T:Txt K mg base t) (F:Fun K "inverse" "inverse" zcm t.inverse fd):D1 P w K mg base CX0 1 t.inverse fd ["p","number"] (zgQ K):=by
 refine F.ok zaQ #[pc] #[ld]
 ·obtain⟨p,h,rfl,_⟩:=h;rfl
 ·obtain⟨p,hh,rfl,mp,h0,h1,q⟩:=h;refine zbg ?_; intro zX;refine⟨_,#[ze,#[zn,2,zaQ.nd,#[A],#[zg]],#[ze,#[zn,3,zaQ.nd,#[A],#[zi,#[zF],#[Ev],#[xL]]],#[ze,#[zn,4,zaQ.nd,#[A],#[zi,#[zbe],#[xL],#[zg]]],#[ze,(@ziR _ _ _ _ _ _ bj #[zH,#[zhb],#[Je],#[zg],(z7 _)] #[ze,#[zaX,#[zH,#[zdF],#[zi,#[zF],#[Je],#[zg]],#[zg],(z7 _)],#[zl,#[zn,2,zaQ.nd,#[A],#[zi,#[zF],#[zi,#[zZ],#[IO],#[Iz]],#[xL]]]],#[zaq]],#[ze,#[zn,3,zaQ.nd,#[A],#[zi,#[zF],#[zi,#[zZ],#[Iz],#[Iz]],#[xL]]],#[zl,(@zls _ _ (4) _ _ _ _ _ _ zaQ.nd rfl #[A] #[zg] ziU (by trivial))]]]),#[zl,#[zJ,#[IO]]]]]]],?_⟩;refine zlC ?_; intro wa sZ pW oR;have rp:=zQ mp;have e0:=aM hh (show p≠0 by lia);have e1:=aE hh (show 0 < p by lia);refine⟨_,rfl,_,rfl,_,_,rfl,rfl,(by show 0 < p; lia),_,rfl,_,_,rfl,rfl,?_⟩;refine ziT (fun σ H'=>H'=H/\∃ (prod sq left:Int) (n:Nat),σ = [some #[Ld],some (.int hh),some (.int prod),some (.int sq),some (.int left)]/\0<=prod/\prod < p/\0<=sq/\sq < p/\0<=left/\left < 2 ^ n/\zch p n prod sq left=inv p hh) (fun σ _=>zlM σ)
   ⟨rfl,1,hh % p,p - 2,7,rfl,#[O],#[O],e0,e1,#[O],#[O],rfl⟩ ?_ ?_
  ·rintro σ H1 ⟨rfl,prod,sq,left,n,rfl,b0,b1,s0,s1,l0,l1,hi⟩;refine#[IJ];refine zaW (fun hl=>?_) (fun hl=>?_)
   ·have hl:0 < left:=by simpa using hl
    obtain⟨m,rfl⟩:∃ m,n=m+1:=by
     cases n with
     | zero=>lia
     | succ m=>exact⟨m,rfl⟩
    rw [ze9 hl l1] at hi;have l2:left / 2 < 2 ^ m:=by
     have:(2:Int) ^ (m+1)=2 ^ m*2:=Int.pow_succ ..;lia
    have m0:=aM (prod*sq) (show p≠0 by lia);have m1:=aE (prod*sq) (show 0 < p by lia);have n0:=aM (sq*sq) (show p≠0 by lia);have n1:=aE (sq*sq) (show 0 < p by lia);refine⟨_,rfl,_,_,rfl,rfl,(by show (0:Int) < 2; decide),rfl,_,rfl,?_⟩; refine zaW (fun ho=>?_) (fun ho=>?_)
    ·have ho:left % 2=1:=by simpa using ho
     rw [if_pos ho] at hi;refine⟨_,rfl,_,rfl,_,_,rfl,rfl,.inl #[wT],_,rfl,_,_,rfl,rfl,(by show 0 < p; lia),?_⟩;refine⟨_,rfl,_,rfl,_,_,rfl,rfl,.inl #[wT],_,rfl,_,_,rfl,rfl,(by show 0 < p; lia),?_⟩;refine⟨_,rfl,_,_,rfl,rfl,#[AC],⟨rfl,_,_,_,m,rfl,m0,m1,n0,n1,#[O],l2,hi⟩,?_⟩;show (left / 2).toNat < left.toNat;lia
    ·have ho:¬ left % 2=1:=by simpa using ho
     rw [if_neg ho] at hi;refine⟨_,rfl,_,rfl,_,_,rfl,rfl,.inl #[wT],_,rfl,_,_,rfl,rfl,(by show 0 < p; lia),?_⟩;refine⟨_,rfl,_,_,rfl,rfl,#[AC],⟨rfl,_,_,_,m,rfl,b0,b1,n0,n1,#[O],l2,hi⟩,?_⟩;show (left / 2).toNat < left.toNat;lia
   ·have hl:¬ 0 < left:=by simpa using hl
    have el:left=0:=by lia
    subst el;rw [zfU] at hi;rw [<- hi] at q;exact⟨_,rfl,q⟩
  ·rintro σ H1 Q1 Q2 hq ⟨v,e,i,j,e1,e2,k,e3,q⟩;exact⟨v,e,i,j,e1,e2,k,e3,hq _ _ q⟩
theorem zby:DF ["p","polynomial","root","raised","kept"] ["p","polynomial","root"] (zh za0):=#[S]
theorem zec (T:Txt K mg base t) (F:Fun K "times_root" "times_root" za0 t.Ed fd):D1 P w K mg base CX0 1 t.Ed fd ["p","polynomial","root"] (zd9 K):=by
 refine F.ok zby #[pc] #[ld]
 ·obtain⟨p,r,a,cs,rfl,_⟩:=h;rfl
 ·obtain⟨p,r,a,cs,rfl,ha,kB,p0,r0,r1,q⟩:=h;refine zbg ?_; intro zX;refine⟨_,#[ze,#[zn,3,zby.nd,#[A],#[zi,#[zbN],#[Kx],#[Ev]]],#[ze,#[zn,4,zby.nd,#[A],#[zi,#[zbN],#[Ev],#[Kx]]],#[zl,#[zJ,#[zat,(DH.of (N':=["high","low","root","p"]) (ix:=[none,none,some 2,some 0]) (zh za0) _ rfl rfl rfl),#[Ng],#[zdx,T.HK,#[za,#[Iz],#[Kf]]],#[sK],#[wn],#[Mv]]]]]],?_⟩;refine zhV ?_; intro pW oR;have oE:=be;refine⟨by show 1<=sizeLine; lia,fun z hz=>⟨_,rfl,z,a,[.int 0],cs.map V.int,rfl,rfl,zb,by rw [zp (zq ha hz)]; exact ha,by rw [aa]; show 1+cs.length<=sizeLine; lia,fun ra hra=>?_⟩⟩;have s1:zw H (kx (kx H z (.lst [.int 0])) ra (.lst ([.int 0]++cs.map V.int))):=(zd hz).trans (zd hra);refine⟨_,rfl,by show 1<=sizeLine; lia,fun z2 pH=>⟨a,z2,cs.map V.int,[.int 0],rfl,rfl,by rw [zp (zq (s1 _ _ ha) pH)]; exact s1 _ _ ha,zb,by rw [aa]; show cs.length+1<=sizeLine; lia,fun ke hke=>?_⟩⟩;have s2:=s1.trans ((zd (o:=.lst [.int 0]) pH).trans (zd (o:=.lst (cs.map V.int++[.int 0])) hke));have tf:kx (kx (kx (kx H z (.lst [.int 0])) ra (.lst ([.int 0]++cs.map V.int))) z2 (.lst [.int 0])) ke (.lst (cs.map V.int++[.int 0])) ra=some (.lst ((0 :: cs).map V.int)) :=
   ((zd (o:=.lst [.int 0]) pH).trans (zd (o:=.lst (cs.map V.int++[.int 0])) hke)) _ _ zb
  have tj:kx (kx (kx (kx H z (.lst [.int 0])) ra (.lst ([.int 0]++cs.map V.int))) z2 (.lst [.int 0])) ke (.lst (cs.map V.int++[.int 0])) ke=some (.lst ((cs++[0]).map V.int)):=by rw [zb,av]; rfl
  generalize kx (kx (kx (kx H z (.lst [.int 0])) ra (.lst ([.int 0]++cs.map V.int))) z2 (.lst [.int 0])) ke (.lst (cs.map V.int++[.int 0]))=H2 at s2 tf tj |-;refine⟨_,rfl,_,rfl,ra,ke,_,_,rfl,kr.of tf,kr.of tj,zal (n:=cs.length+1) (fun i ys H'=>ys=((zcM p r cs).take i).map V.int/\zw H2 H') ⟨#[M],fun _ _ e=>e⟩ ?_ ?_ ?_ ?_⟩
  ·rintro i ys H3 hi ⟨_,s3⟩;obtain⟨x,hx⟩:∃ x,(0 :: cs)[i]? = some x:=⟨(0 :: cs)[i]'(by simpa using hi),#[M]⟩;obtain⟨y,hy⟩:∃ y,(cs++[0])[i]? = some y:=⟨(cs++[0])[i]'(by simpa using hi),#[M]⟩;exact⟨_,_,.int x,.int y,kr.of (s3 _ _ tf),kr.of (s3 _ _ tj),by rw [aB,hx]; rfl,by rw [aB,hy]; rfl⟩
  ·rintro ys H3 ⟨_,s3⟩;exact⟨_,_,kr.of (s3 _ _ tf),kr.of (s3 _ _ tj),.inl #[M]⟩
  ·rintro zS zT zE i x ys H3 H4 hi ⟨rfl,s3⟩ ⟨T,u,v,hT,rfl,rfl,hu,hv⟩;obtain⟨x,rfl,hx⟩:=zaY (hu _ (kr.of (s3 _ _ tf)));obtain⟨y,rfl,hy⟩:=zaY (hv _ (kr.of (s3 _ _ tj)));refine gY2 (kJ.of zb) ?_;refine⟨_,rfl,_,rfl,_,rfl,_,_,rfl,rfl,.inl #[wT],_,_,rfl,rfl,_,rfl,_,_,rfl,rfl,p0,za1 ?_,?_,s3.trans (zd hT)⟩
   ·rw [aa];exact bh (fH _ _) #[O]
   ·show _=(List.take (i+1) (aU #[Lf] (0 :: cs) (cs++[0]))).map V.int;rw [zfV hx hy,av];rfl
  ·rintro ys H3 D ⟨rfl,s3⟩ hD;refine q D _ ((s2.trans s3).free hD) ((s2.trans s3).trans (zd hD)) ?_;rw [zb,aV (by rw [zez]; exact ag _)]
theorem zjZ {p f:Int}:∀ (cs vs:List Int),vs.length<=cs.length->ad p f cs vs=aU (fun number other=>(number+f*other) % p) cs vs++cs.drop vs.length
 | [],[],_=>rfl
 | _ :: _,[],_=>rfl
 | [],_ :: _,h=>by simp at h
 | c :: cs,v :: vs,h=>by
  show (c+f*v) % p :: ad p f cs vs=(c+f*v) % p :: (aU _ cs vs++cs.drop vs.length);rw [zjZ cs vs (by simpa using h)]
theorem zgt {xs:List V} (h:k<=xs.length):zc7 xs (some (k:Int)) none=xs.drop k:=by
 have e1:HT.sIx xs.length 0 (some (k:Int))=k:=by
  unfold HT.sIx;simp;split <;> lia
 have e2:HT.sIx xs.length xs.length none=xs.length:=rfl;unfold zc7;rw [e1,e2];exact aV (by rw [bL]; exact ag _)
noncomputable def zkV (K:af):Sp:=fun vs H Q _=>∃ (p x y:Int) (c v b:Addr) (cs ws:List Int),vs = [.int p,.ref c,.ref v,.ref b]/\H c=some (.lst #[Jy])/\H v=some (.lst (ws.map V.int))/\H b=some (.tup [.int x,.int y])/\p∈zy/\0<=x/\x < p/\0<=y/\y < 10000/\0 < zr p x ws/\zr p x ws < p/\ws.length<=cs.length/\cs.length<=1000 /\
 ∀ (l:Addr) (H':Hp),H l=none->zw H H'->H' l=some (.lst ((ad p (#[LH]*inv p (zr p x ws) % p) cs ws).map V.int))->Q #[JF] H'
theorem zcr:DF ["p","polynomial","vanishing","point","x","y","missing","factor","added"] ["p","polynomial","vanishing","point"] (zh zd0):=#[S]
theorem zkW (T:Txt K mg base t) (F:Fun K "bent" "bent" zd0 t.HN fd):D1 P w K mg base CX0 2 t.HN fd ["p","polynomial","vanishing","point"] (zkV K):=by
 obtain⟨me,kK,kP⟩:=T.DV;have k9:=zb9 (P:=P) (w:=w) (base:=base) T kK;obtain⟨qD,oS,nk⟩:=T.EV;have rG:=zg2 (P:=P) (w:=w) (base:=base) T oS;refine F.ok zcr #[pc] #[ld]
 ·obtain⟨p,x,y,c,v,b,cs,ws,rfl,_⟩:=h;rfl
 ·obtain⟨p,x,y,c,v,b,cs,ws,rfl,hc,hv,hb,mp,x0,x1,y0,y1,g0,g1,hle,kB,q⟩:=h;refine zbg ?_; intro zX;refine⟨_,#[ze,#[zcz,#[Iz],#[zbd,#[zm,#[zj,4,zcr.nd,#[A]],#[zm,#[zj,5,zcr.nd,#[A]],#[zad]]]]],#[ze,#[zn,6,zcr.nd,#[A],#[zi,#[zbe],#[K2],#[zu,k9,#[pp],T.Ef,kK.kp,kP,#[zY],#[za,#[xL],#[za,#[Ev],#[Kf]]]]]],#[ze,#[zn,7,zcr.nd,#[KI],#[zi,#[zF],#[zi,#[zZ],#[KH],#[zu,rG,#[pp],T.Gy,oS.kp,nk,#[zY],#[za,#[xL],#[ya,#[zu,k9,#[pp],T.Ef,kK.kp,kP,#[zY],#[za,#[xL],#[za,#[IO],#[Kf]]]]]]]],#[xL]]],#[ze,#[zcC,8,zcr.nd,#[A],(DH.of (N':=["number","other","factor","p"]) (ix:=[none,none,some 7,some 0]) (zh zd0) _ rfl rfl rfl),#[Ng],#[zdx,T.HK,#[za,#[Ev],#[LO]]],#[sK],#[wn],#[MT]],#[zl,#[zJ,#[zi,#[zbN],#[Kw],#[zbo,zbM,#[Ev],#[zbK,#[zt,#[z8],T.F7,c6,#[ya,#[Kw]]]],#[zbJ]]]]]]]]],?_⟩;refine zlC ?_; intro wa sZ pW oR;have oE:=be;have rp:=zQ mp;have p0:0 < p:=by lia
  have v0:=za6 (x:=x) p0 cs;have v1:=za7 (x:=x) p0 cs;refine⟨_,rfl,b,_,rfl,kJ.of hb,rfl,_,_,rfl,_,_,rfl,rfl,?_⟩;refine⟨_,rfl,_,rfl,_,rfl,_,rfl,p,x,c,cs,rfl,.inl (kr.of hc),p0,#[O],x0,x1,_,_,rfl,rfl,?_⟩;refine⟨_,rfl,_,rfl,_,rfl,_,rfl,_,rfl,p,x,v,ws,rfl,.inl (kr.of hv),p0,#[O],x0,x1,p,_,rfl,mp,#[O],#[O],_,_,rfl,rfl,.inl #[wT],_,rfl,_,_,rfl,rfl,p0,?_⟩;have f0:=aM (#[LH]*inv p (zr p x ws)) (show p≠0 by lia);have f1:=aE (#[LH]*inv p (zr p x ws)) p0;refine⟨_,rfl,_,rfl,c,v,_,_,rfl,kr.of hc,kr.of hv,zda (n:=ws.length) (f:=fun number other=>(number+(#[LH]*inv p (zr p x ws) % p)*other) % p) hc hv hle (ag _) (.inr (ag _)) #[O] ?_ ?_⟩
  ·intro j u w H6 T R B hu hv s6 hT hR;refine gY2 (kJ.of zb) ?_;exact#[GE]
  ·intro D H6 s6 hD;obtain⟨f,hf⟩:∃ f,(y - zr p x cs)*inv p (zr p x ws) % p=f:=⟨_,rfl⟩;rw [hf] at q |-;have lz:(aU (fun number other=>(number+f*other) % p) cs ws).length=ws.length:=by rw [fG]; lia
   have s7:=s6.trans (zd (o:=.lst ((aU (fun number other=>(number+f*other) % p) cs ws).map V.int)) hD);have Cv:kx H6 D (.lst ((aU (fun number other=>(number+f*other) % p) cs ws).map V.int)) D=some (.lst ((aU (fun number other=>(number+f*other) % p) cs ws).map V.int)):=zb;generalize kx H6 D (.lst ((aU (fun number other=>(number+f*other) % p) cs ws).map V.int))=H7 at s7 Cv |-;have qU:=s7 _ _ hc;refine⟨_,rfl,_,rfl,_,rfl,D,_,rfl,.inl (kr.of Cv),?_⟩;refine⟨_,rfl,c,_,rfl,kr.of qU,fun z hz=>?_⟩;have ec:zc7 #[Jy] (some ((((aU (fun number other=>(number+f*other) % p) cs ws).map V.int).length:Nat):Int)) none=(cs.drop ws.length).map V.int:=by
    rw [aa,lz,zgt (by rw [aa]; exact hle),iA]
   rw [ec];have s8:=zd (o:=.lst ((cs.drop ws.length).map V.int)) hz;refine⟨D,z,_,_,rfl,rfl,s8 _ _ Cv,zb,by rw [aa,aa,lz,bL]; lia,fun l hl=>q l _ (((s7.trans s8).free hl)) ((s7.trans s8).trans (zd hl)) ?_⟩;rw [zb,zjZ cs ws hle,av]
theorem zac:DF ["p","points","found","wall","x","y","step","high","by"] ["p","points"] (zh zaE):=#[S]
theorem zfo (T:Txt K mg base t) (F:Fun K "_law_through" "_law_through" zaE t.Et fd):D1 P w K mg base CX0 2 t.Et fd ["p","points"] (zfa K):=by
 obtain⟨mO,kR,kX⟩:=T.Ea;have lA:=zcI (P:=P) (w:=w) (base:=base) T kR;refine F.ok zac #[pc] #[ld]
 ·obtain⟨p,a,kW,rfl,_⟩:=h;rfl
 ·obtain⟨p,a,kW,rfl,hP,kB,mp,hp,q⟩:=h;refine zbg ?_; intro zX;refine⟨_,#[ze,#[zn,2,zac.nd,#[A],#[zi,#[zgG],#[Kx],#[LV]]],#[ze,#[zn,3,zac.nd,#[A],#[zi,#[zbN],#[Kx],#[zi,#[zgG],#[Kx],#[LV]]]],#[ze,#[zaA,bj,#[zae,#[Ev]],#[zbd,#[zm,#[zj,4,zac.nd,#[KI]],#[zm,#[zj,5,zac.nd,#[A]],#[zad]]]],#[ze,#[zn,6,zac.nd,#[KI],#[zi,#[zF],#[zi,#[zbe],#[K2],#[zu,lA,#[pp],T.Es,kR.kp,kX,#[zY],#[za,#[xL],#[za,#[IO],#[Kf]]]]],#[xL]]],#[ze,#[zn,7,zac.nd,#[KI],#[zu,lA,#[pp],T.Es,kR.kp,kX,#[zY],#[za,#[xL],#[za,#[Iz],#[Kf]]]]],#[ze,#[zn,8,zac.nd,#[KI],#[zW,#[zO],#[zat,(DH.of (N':=["number","high","p","step"]) (ix:=[none,some 7,some 0,some 6]) (zh zaE) _ rfl rfl rfl),#[za5],#[zay,T.D0,#[LN]],#[ut],(fun _ _ _ _=>#[zbA,#[zH,#[zdF],#[zi,#[zF],#[zi,#[zZ],#[xL],#[Ev]],#[IO]],#[Iz],(z7 _)]]),#[Mn]],#[zg]]],#[ze,#[zcC,2,zac.nd,#[A],(DH.of (N':=["one","other","by","p"]) (ix:=[none,none,some 8,some 0]) (zh zaE) _ rfl rfl rfl),#[Ng],#[zdx,T.HK,#[za,#[IO],#[ya,#[Iz]]]],#[sK],#[wn],#[MT]],#[zl,#[zcC,3,zac.nd,#[A],(DH.of (N':=["below","one","x","p"]) (ix:=[none,none,some 4,some 0]) (zh zaE) _ rfl rfl rfl),#[Ng],#[zdx,T.HK,#[za,#[zi,#[zbN],#[Kx],#[Iz]],#[ya,#[Iz]]]],#[sK],#[wn],#[Mv]]]]]]]],#[zl,#[zJ,#[zaH,#[zaK],T.FE,gn,#[LO]]]]]]],?_⟩;refine zko ?_; intro sZ pW oR;have oE:=be;have rp:=zQ mp;have p0:0 < p:=by lia
  obtain⟨bs,hS,pJ,hb⟩:=id hP;refine⟨by show 1<=sizeLine; lia,fun z hz=>⟨_,rfl,a,_,rfl,.inl ((zd hz).seq hS),z,_,[.int 0],rfl,rfl,zb,by rw [aa]; lia,by rw [aa]; lia,by rw [aa]; show 1*_<=sizeLine; lia,fun c hc=>?_⟩⟩;have s0:=zd (o:=.lst [.int 0]) hz;rw [aa,zdM,pJ,bO];have s1:zw H (kx (kx H z (.lst [.int 0])) c (.lst (#[Kk].map V.int))):=s0.trans (zd hc);refine⟨by show 1<=sizeLine; lia,fun z1 uo=>⟨by show 1<=sizeLine; lia,fun z2 pH=>?_⟩⟩;have t1:=zd (o:=.lst [.int 1]) uo;have t2:=zd (o:=.lst [.int 0]) pH;refine⟨_,rfl,a,_,rfl,.inl (((s1.trans t1).trans t2).seq hS),z2,_,[.int 0],rfl,rfl,zb,by rw [aa]; lia,by rw [aa]; lia,by rw [aa]; show 1*_<=sizeLine; lia,fun z3 t8=>?_⟩;rw [aa,zdM,pJ,bO];have t3:=zd (o:=.lst (#[Kk].map V.int)) t8;refine⟨z1,z3,[.int 1],#[Kk].map V.int,rfl,rfl,(t2.trans t3) _ _ zb,zb,by rw [aa,dJ]; show 1+_<=sizeLine; lia,fun wl xp=>?_⟩;have t4:=zd (o:=.lst ([.int 1]++#[Kk].map V.int)) xp;have sA:=s1.trans #[L6];have hcA:=#[L6] _ _ (zb (H:=kx H z (.lst [.int 0])) (a:=c) (o:=.lst (#[Kk].map V.int)));refine⟨_,rfl,a,rfl,⟨_,sA.seq hS⟩,zaz (K:=K) (a:=a) (xs:=bs.map V.ref) (fun i σ H'=>∃ (c wl:Addr) (s:List Int×List Int) (e4 e5 e6 e7 e8:Option V),σ = [some #[Ld],some #[IT],some #[K3],some (.ref wl),e4,e5,e6,e7,e8] /\
   s=(kW.take i).foldl (zdH p) (au kW.length 0,[1])/\Nw p kW.length (kW.take i) s/\zw H H'/\H' c=some (.lst (s.1.map V.int))/\H' wl=some (.lst ((s.2++au #[J5] 0).map V.int)))
   ⟨c,wl,_,none,none,none,none,none,rfl,rfl,by rw [eI]; exact zdJ mp _,sA,hcA,by rw [zb]; rfl⟩ (fun i σ H' _ hq=>by obtain⟨_,_,_,_,_,_,_,_,_,_,_,s3,_⟩:=hq; exact (s3.seq hS)) ?_ ?_⟩
  ·rintro zD zT i y σ H1 hy ⟨c,wl,s,e4,e5,e6,e7,e8,rfl,hs,nw,s1,AH,AI⟩;obtain⟨b,rfl,sG⟩:=zao hy;obtain⟨hi,_⟩:=aH.mp sG;obtain⟨⟨x,y⟩,hq⟩:∃ q,kW[i]? = some q:=⟨kW[i]'#[O],#[M]⟩;have hbq:=s1 _ _ (hb i b _ sG hq);have oY:=zdN hq;have n6:=hp;rw [oY] at n6;have wd:=n6.apart;have yc:∀ a∈kW.take i,0<=a.1/\a.1 < p/\a.1≠x:=fun a ha=>⟨(wd a ha).1,(wd a ha).2.1,(wd a ha).2.2.1⟩
   obtain⟨x0,x1,y0,y1⟩:=hp.rg _ (aX hq);dsimp only at x0 x1 y0 y1;have ur:i < kW.length:=by lia
   have rq:(kW.take i).length=i:=by rw [aG]; lia
   have nw2:=ze6 mp nw (q:=(x,y)) (by rw [rq]; exact ur) x0 x1 y0 y1 wd;obtain⟨hg0,AA⟩:=ze5 mp nw (q:=(x,y)) x0 x1 yc;have uC:=zeB mp nw (q:=(x,y)) x0 x1 yc;dsimp only at hg0 AA uC;have l1:=nw.lc;have l2:=nw.lv;rw [rq] at l2;have f0:=aM ((y - zr p x s.1)*inv p (zr p x s.2)) (show p≠0 by lia);have f1:=aE ((y - zr p x s.1)*inv p (zr p x s.2)) p0;have nN:zdH p s (x,y)=(ad p ((y - zr p x s.1)*inv p (zr p x s.2) % p) s.1 s.2,zcM p x s.2):=rfl;obtain⟨f,hf⟩:∃ f,(y - zr p x s.1)*inv p (zr p x s.2) % p=f:=⟨_,rfl⟩;rw [hf] at f0 f1 nN uC;rw [nN] at nw2;refine⟨b,_,rfl,kJ.of hbq,rfl,_,_,rfl,_,_,rfl,rfl,?_⟩;refine⟨_,rfl,_,rfl,_,rfl,_,rfl,p,x,c,s.1,rfl,.inl (kr.of AH),p0,#[O],x0,x1,_,_,rfl,rfl,_,rfl,_,_,rfl,rfl,p0,?_⟩;refine⟨_,rfl,_,rfl,_,rfl,p,x,wl,_,rfl,.inl (kr.of AI),p0,#[O],x0,x1,?_⟩;rw [zfP];refine⟨_,rfl,p,rfl,#[O],#[O],zal (n:=p.toNat) (fun i ys H'=>zw H1 H'/\ys=if f < (i:Int) then [V.int f] else []) ⟨fun _ _ e=>e,by rw [if_neg #[O]]⟩ #[Lo] #[KB] ?_ ?_⟩
   ·rintro zS zT zE m xx ys H4 H5 hm ⟨s4,wY⟩ ⟨rfl,rfl⟩;refine⟨_,rfl,_,rfl,_,_,rfl,rfl,.inl #[wT],_,rfl,_,_,rfl,rfl,p0,_,rfl,rfl,_,rfl,?_⟩;refine zaW (fun ho=>?_) (fun ho=>?_)
    ·have ho:(0+(m:Int))*zr p x s.2 % p=(y - zr p x s.1) % p:=by simpa using ho
     have e:f=0+(m:Int):=zh1 mp hg0 AA uC (Cg.F6 ho) f0 f1 #[O] #[O];rw [if_neg #[O]] at wY;subst wY;refine⟨_,rfl,za1 (by show 0<=10000; decide),s4,?_⟩;rw [if_pos #[O],e];rfl
    ·have ho:¬ (0+(m:Int))*zr p x s.2 % p=(y - zr p x s.1) % p:=by simpa using ho
     have e:f≠(m:Int):=fun e=>ho (by rw [Int.zero_add,<- e]; exact uC.mod_eq)
     refine⟨s4,?_⟩;rw [wY];by_cases hfm:f < (m:Int)
     ·rw [if_pos hfm,if_pos #[O]]
     ·rw [if_neg hfm,if_neg #[O]]
   ·rintro ys H4 D ⟨s4,wY⟩ hD;rw [if_pos #[O]] at wY;subst wY;refine⟨D,_,_,_,rfl,rfl,kr.of zb,rfl,?_⟩;have s5:=s4.trans (zd (o:=.lst [.int f]) hD);generalize kx H4 D (.lst [.int f])=H5 at s5 |-;have h5c:=s5 _ _ AH;have h5w:=s5 _ _ AI;refine⟨_,rfl,_,rfl,c,wl,_,_,rfl,kr.of h5c,kr.of h5w,zda (n:=kW.length) (f:=fun one other=>(one+f*other) % p) h5c h5w #[O] (by rw [aA,dJ]; lia) (.inl #[O]) #[O] ?_ ?_⟩
    ·intro j u v H6 T R B hu hv s6 hT hR;refine gY2 (kJ.of zb) ?_;exact#[GE]
    ·intro D2 H6 s6 yd;rw [ze7 p0 s.1 s.2 _ nw.rc #[O] #[O]];have s7:=(s5.trans s6).trans (zd (o:=.lst ((ad p f s.1 s.2).map V.int)) yd);have qU:kx H6 D2 (.lst ((ad p f s.1 s.2).map V.int)) D2=some (.lst ((ad p f s.1 s.2).map V.int)):=zb;generalize kx H6 D2 (.lst ((ad p f s.1 s.2).map V.int))=H7 at s7 qU |-;have h7w:=s7 _ _ AI;have lw:(s.2++au #[J5] 0).length=kW.length+1:=by rw [aA,dJ]; lia
     refine⟨by show 1<=sizeLine; lia,fun z hz=>⟨_,rfl,z,wl,[.int 0],_,rfl,rfl,zb,(zd hz) _ _ h7w,by rw [aa,lw]; show 1+_<=sizeLine; lia,fun zc hzc=>?_⟩⟩;have u1:=zd (o:=.lst [.int 0]) hz;have u2:=zd (o:=.lst ([.int 0]++(s.2++au #[J5] 0).map V.int)) hzc;have Cw:kx (kx H7 z (.lst [.int 0])) zc (.lst ([.int 0]++(s.2++au #[J5] 0).map V.int)) zc=some (.lst ((0 :: (s.2++au #[J5] 0)).map V.int)):=by rw [zb]; rfl
     have s8:=s7.trans (u1.trans u2);have Cy:=(u1.trans u2) _ _ h7w;have ye:=(u1.trans u2) _ _ qU;generalize kx (kx H7 z (.lst [.int 0])) zc (.lst ([.int 0]++(s.2++au #[J5] 0).map V.int))=H8 at Cw s8 Cy ye |-;refine⟨_,rfl,zc,wl,_,_,rfl,kr.of Cw,kr.of Cy,zda (n:=kW.length+1) (f:=trF p x) Cw Cy (by rw [bA,lw]; lia) (by rw [lw]; exact ag _) (.inr (by rw [lw]; exact ag _)) #[O] ?_ ?_⟩
     ·intro j u v H9 T R B hu hv s9 hT hR;refine gY2 (kJ.of zb) ?_;exact#[GE]
     ·intro D3 H9 s9 Ak;have em:kW.length - i=kW.length - (i+1)+1:=by lia
      rw [em,zhl (kW.length - (i+1)) s.2 0];refine⟨D2,D3,zdH p s (x,y),_,_,_,_,_,rfl,?_,?_,((s1.trans s8).trans s9).trans (zd Ak),?_,?_⟩
      ·rw [take_snoc hq,eL,<- hs];rfl
      ·rw [take_snoc hq,nN];exact nw2
      ·rw [nN];exact (s9.trans (zd Ak)) _ _ ye
      ·rw [nN];exact zb
  ·rintro σ H1 ⟨c,wl,s,e4,e5,e6,e7,e8,rfl,hs,nw,s1,AH,AI⟩;rw [aa,pJ,bf] at hs;refine⟨_,rfl,c,_,rfl,.inl ⟨kr.of AH,fun l hl=>q l _ (s1.free hl) (s1.trans (zd hl)) ?_⟩⟩;rw [zb,hs];rfl
noncomputable def T3 (H:Hp):List Addr->List Wt3->Prop:=Paired fun b q=>H b=some (.tup [.int q.1,.int q.2.1,.int q.2.2])
theorem T3.same (s:zw H H') {bs:List Addr} {ts:List Wt3} (h:T3 H bs ts):T3 H' bs ts:=eR #[Kn] h
noncomputable def wpp (pl:List Int) (q:Wt3):Wt3:=(pl.getD q.1.toNat 0,q.2.1,q.2.2)
theorem zhH {x:Int} (x0:0<=x) (x1:x < pl.length):atI #[JT] x=some (.int (pl.getD x.toNat 0)):=by
 obtain⟨n,rfl⟩:∃ n:Nat,x=n:=⟨x.toNat,#[O]⟩;have hn:n < pl.length:=by lia
 refine zcf ?_;rw [aB,ah hn,bO,bd,ah hn];rfl
noncomputable def zkX (K:af):Sp:=fun vs H Q _=>∃ (c tt g:Addr) (p k:Int) (pl:List Int) (bs:List Addr) (ts:List Wt3),vs = [.ref c,.ref g]/\zaZ H c tt p k pl/\H g=some #[ul]/\T3 H bs ts/\ts.length<=60/\(∀ q∈ts,0<=q.1/\q.1 < pl.length) /\
 ∀ (l:Addr) (ds:List Addr) (H':Hp),H l=none->zw H H'->H' l=some #[Ju]->T3 H' ds #[o0]->Q #[JF] H'
theorem zaw:DF ["code","guesses","p","k","places"] ["code","guesses"] (zh zar):=#[S]
theorem zbq (T:Txt K mg base t) (F:Fun K "weighted_points" "weighted_points" zar t.DK fd):D1 P w K mg base CX0 1 t.DK fd ["code","guesses"] (zkX K):=by
 refine F.ok zaw #[pc] #[ld]
 ·obtain⟨c,tt,g,p,k,pl,bs,ts,rfl,_⟩:=h;rfl
 ·obtain⟨c,tt,g,p,k,pl,bs,ts,rfl,hc,hg,hT,hn,hq,q⟩:=h;refine zbg ?_; intro zX;refine⟨_,#[ze,#[zcz,#[xL],#[zbd,#[zm,#[zj,2,zaw.nd,#[A]],#[zm,#[zj,3,zaw.nd,#[A]],#[zm,#[zj,4,zaw.nd,#[KI]],#[zad]]]]]],#[zl,#[zJ,#[zat,(DH.of (N':=["number","entry","weight","places"]) (ix:=[none,none,none,some 4]) (zh zar) _ rfl rfl rfl),#[Lz],#[zae,#[Ev]],#[u8],(fun _ _ _ _=>#[zbA,(@ziX _ _ _ _ _ _ _ _ _ _ _ _ #[ziW] #[zej] #[zg] #[xL] #[zt,#[zbw,(K)],T.F7,c6,#[ya,#[Iz]]] (by with_unfolding_all rfl))]),(fun _ _ _ _=>#[zbf,#[za,#[zW,#[zcg,(K)],#[Iz],#[xL]],#[za,#[Ev],#[LO]]]])]]]],?_⟩;refine zlB ?_; intro oR;have oE:=be;have pJ:=hT.length;refine⟨_,rfl,c,_,rfl,kJ.of hc.1,rfl,_,_,rfl,_,_,rfl,_,_,rfl,rfl,?_⟩;refine⟨_,rfl,g,rfl,⟨_,kr.of hg⟩,zal (n:=bs.length) (fun i ys H'=>(∃ ds:List Addr,ys=ds.map V.ref/\T3 H' ds (#[Lh].map (wpp pl)))/\zw H H') ⟨⟨[],rfl,.nil⟩,fun _ _ e=>e⟩ ?_ ?_ ?_ ?_⟩
  ·rintro i ys H3 hi ⟨_,s3⟩;exact⟨_,.ref bs[i],kr.of #[LY],by rw [aB,ah hi]; rfl⟩
  ·rintro ys H3 ⟨_,s3⟩;exact⟨_,kr.of #[LY],by rw [aa]; exact ag _⟩
  ·rintro zS zT zE i xx ys H3 H4 hi ⟨⟨ds,rfl,qV⟩,s3⟩ ⟨rfl,uD⟩;obtain⟨b,rfl,sG⟩:=zao (uD _ (kr.of #[LY]));obtain⟨z,hz,hb⟩:=Paired.get hT sG;obtain⟨z0,z1⟩:=hq z (aX hz);have pY:=qV.length;rw [aa,aG] at pY;refine#[IK];refine#[IJ];refine zaW #[wE] (fun h1=>absurd (decide_eq_true z0) h1);refine⟨_,rfl,tt,_,rfl,.inr (kJ.of (s3 _ _ hc.2)),_,_,rfl,rfl,_,rfl,?_⟩;refine zaW #[wE] (fun h2=>absurd (decide_eq_true (by rw [aa]; exact z1)) h2);refine⟨_,rfl,_,rfl,tt,_,_,_,rfl,rfl,kJ.of (s3 _ _ hc.2),zhH z0 z1,_,rfl,_,rfl,by show 3<=sizeLine; lia,fun T2 pU=>⟨by rw [aa]; lia,⟨ds++[T2],by rw [av]; rfl,?_⟩,s3.trans (zd pU)⟩⟩;rw [take_snoc hz,av];exact cr (qV.same (zd pU)) zb
  ·rintro ys H3 D ⟨⟨ds,rfl,qV⟩,s3⟩ hD;rw [pJ,bf] at qV;exact q D ds _ (s3.free hD) (s3.trans (zd hD)) zb (qV.same (zd hD))
noncomputable def zl5 (K:af):Sp:=fun vs H Q _=>∃ (a f:Addr) (p:Int) (cs:List Int) (bs:List Addr) (ts:List Wt3),vs = [.int p,.ref a,.ref f]/\H a=some #[ul]/\T3 H bs ts/\H f=some (.tup #[Jy])/\ts.length<=60/\0 < p/\p<=97/\(∀ q∈ts,0<=q.1/\q.1 < p) /\
 ∀ H',zw H H'->Q (.int (wsum p cs ts)) H'
theorem zfp:DF ["p","points","polynomial"] ["p","points","polynomial"] (zh zbc):=#[S]
theorem zc3 (T:Txt K mg base t) (F:Fun K "weight_in" "weight_in" zbc t.Eo fd):D1 P w K mg base CX0 2 t.Eo fd ["p","points","polynomial"] (zl5 K):=by
 obtain⟨me,kK,kP⟩:=T.DV;have k9:=zb9 (P:=P) (w:=w) (base:=base) T kK;refine F.ok zfp #[pc] #[ld]
 ·obtain⟨a,f,p,cs,bs,ts,rfl,_⟩:=h;rfl
 ·obtain⟨a,f,p,cs,bs,ts,rfl,ha,hT,hf,hn,p0,p1,hq,q⟩:=h;refine zbg ?_; intro zX;refine⟨_,#[zl,#[zJ,#[zt,#[zcj],T.HL,jK,#[ya,#[zat,(DH.of (N':=["x","y","weight","p","polynomial"]) (ix:=[none,none,none,some 0,some 2]) (zh zbc) _ rfl rfl rfl),#[Lz],#[zae,#[Ev]],#[u8],(fun _ _ _ _=>#[zbA,#[zH,#[zdF],#[zu,k9,#[pp],T.Ef,kK.kp,kP,#[zY],#[za,#[Iz],#[za,#[Je],#[LN]]]],#[Ev],(z7 _)]]),(fun _ _ _ _=>#[IO])]]]]],?_⟩;have oE:=be;have pJ:=hT.length;refine⟨_,rfl,a,rfl,⟨_,kr.of ha⟩,zal (n:=bs.length) (fun i ys H'=>ys=((#[Lh].filter #[KJ]).map (·.2.2)).map V.int/\zw H H') ⟨rfl,fun _ _ e=>e⟩ ?_ ?_ ?_ ?_⟩
  ·rintro i ys H3 hi ⟨_,s3⟩;exact⟨_,.ref bs[i],kr.of #[Li],by rw [aB,ah hi]; rfl⟩
  ·rintro ys H3 ⟨_,s3⟩;exact⟨_,kr.of #[Li],by rw [aa]; exact ag _⟩
  ·rintro zS zT zE i xx ys H3 H4 hi ⟨rfl,s3⟩ ⟨rfl,uD⟩;obtain⟨b,rfl,sG⟩:=zao (uD _ (kr.of #[Li]));obtain⟨z,hz,hb⟩:=Paired.get hT sG;obtain⟨z0,z1⟩:=hq z (aX hz);have e1:(ts.take (i+1)).filter #[KJ]=#[Lh].filter #[KJ]++[z].filter #[KJ]:=by rw [take_snoc hz,cq]
   have yf:=dP #[KJ] #[Lh];rw [aG] at yf;refine#[IK];refine⟨_,rfl,_,rfl,_,rfl,p,z.1,f,cs,rfl,.inr (kJ.of (s3 _ _ hf)),p0,p1,z0,z1,_,rfl,rfl,_,rfl,?_⟩;have eD:decide (V.int (zr p z.1 cs)=V.int z.2.1)=zai p cs z:=by
    unfold zai;by_cases h:zr p z.1 cs=z.2.1
    ·rw [h]; simp
    ·rw [decide_eq_false h,decide_eq_false fun e=>h (by injection e)]
   rw [eD,e1];refine zaW (fun h=>⟨_,rfl,?_,?_,s3⟩) (fun h=>⟨?_,s3⟩)
   ·rw [aa,aa]; lia
   ·rw [cT h,av,av]; rfl
   ·rw [cw h,fE,bK]
  ·rintro ys H3 D ⟨rfl,s3⟩ hD;rw [pJ,bf];exact#[LK]
noncomputable def zj0 (K:af):Sp:=fun vs H Q _=>∃ (c tt g f:Addr) (p k:Int) (pl cs:List Int) (bs:List Addr) (ts:List Wt3),vs = [.ref c,.ref g,.ref f]/\zaZ H c tt p k pl/\H g=some #[ul]/\T3 H bs ts/\H f=some (.tup #[Jy])/\ts.length<=60/\0 < p/\p<=97/\(∀ q∈ts,0<=q.1/\q.1 < pl.length)/\(∀ x∈pl,0<=x/\x < p) /\
 ∀ H',zw H H'->Q (.int (wsum p cs #[o0])) H'
theorem zg3 {p:Int} {ts:List Wt3} (h:∀ q∈ts,0<=q.1/\q.1 < pl.length) (hp:∀ x∈pl,0<=x/\x < p):∀ q∈ts.map (wpp pl),0<=q.1/\q.1 < p:=fun q hq=>by
 obtain⟨z,hz,rfl⟩:=aF.mp hq;obtain⟨z0,z1⟩:=h z hz;have hn:z.1.toNat < pl.length:=by lia
 show 0<=pl.getD z.1.toNat 0/\pl.getD z.1.toNat 0 < p;rw [bd,ah hn];exact hp _ (bF hn)
theorem zfq:DF ["code","guesses","polynomial"] ["code","guesses","polynomial"] (zh zbs):=#[S]
theorem zfr (T:Txt K mg base t) (F:Fun K "weight_of" "weight_of" zbs t.En fd):D1 P w K mg base CX0 3 t.En fd ["code","guesses","polynomial"] (zj0 K):=by
 obtain⟨mX,lq,lr⟩:=T.DY;have mf:=zc3 (P:=P) (w:=w) (base:=base) T lq;obtain⟨lB,kG,kH⟩:=T.DJ;have k6:=zbq (P:=P) (w:=w) (base:=base) T kG;refine F.ok zfq #[pc] #[ld]
 ·obtain⟨c,tt,g,f,p,k,pl,cs,bs,ts,rfl,_⟩:=h;rfl
 ·obtain⟨c,tt,g,f,p,k,pl,cs,bs,ts,rfl,hc,hg,hT,hf,hn,p0,p1,hq,lR,q⟩:=h;refine zbg ?_; intro zX;refine⟨_,#[zl,#[zJ,#[zu,mf,#[pp],T.EM,lq.kp,lr,#[zY],#[za,#[zW,#[zbL],#[xL],#[zg]],#[za,#[zu,k6,#[pp],T.DT,kG.kp,kH,#[zY],#[L5]],#[LO]]]]]],?_⟩;refine⟨_,rfl,c,_,_,_,rfl,rfl,kJ.of hc.1,rfl,_,rfl,_,rfl,c,tt,g,p,k,pl,bs,ts,rfl,hc,hg,hT,hn,hq,fun l ds H1 hl s1 h1 AJ=>?_⟩;exact⟨_,rfl,l,f,p,cs,ds,_,rfl,h1,AJ,s1 _ _ hf,by rw [aa]; exact hn,p0,p1,zg3 hq lR,fun H2 s2=>q H2 (s1.trans s2)⟩
noncomputable def zmA (K:af):Sp:=fun vs H Q _=>∃ (a:Addr) (m:Nat) (bs:List Addr) (ts:List Wt3),vs = [.ref a,.int (m:Int)]/\H a=some #[ul]/\T3 H bs ts/\ts.length<=60/\(∀ q∈ts,0<=q.2.2) /\
 ∀ (v:Int) (H':Hp),zeb ((mxs #[IN]).map (·.2)) m v->zw H H'->Q (.int v) H'
theorem zaG:DF ["points","many","greatest","x","y","weight"] ["points","many"] (zh zaL):=#[S]
theorem zca (T:Txt K mg base t) (F:Fun K "most_weight" "most_weight" zaL t.DP fd):D1 P w K mg base CX0 1 t.DP fd ["points","many"] (zmA K):=by
 refine F.ok zaG #[pc] #[ld]
 ·obtain⟨a,m,bs,ts,rfl,_⟩:=h;rfl
 ·obtain⟨a,m,bs,ts,rfl,ha,hT,hn,hw,q⟩:=h;have hu:(A.deeper (envOfC (bG "most_weight") (zh zaL) s.heap.objs.size t.DP kL)).units+1 < cLine:=by have:=hr.units; lia
  refine zbg ?_; intro zX;refine⟨_,#[ze,#[zn,2,zaG.nd,#[A],#[zf7]],#[ze,#[zaA,bj,#[zae,#[xL]],#[zbd,#[zm,#[zj,3,zaG.nd,#[A]],#[zm,#[zj,4,zaG.nd,#[A]],#[zm,#[zj,5,zaG.nd,#[A]],#[zad]]]]],#[zl,#[zci,hu,#[IO],#[Iz],#[zt,#[zce],T.HM,jL,#[za,#[K2],#[ya,#[zdS,hu,#[IO],#[Iz],#[zg],⟨rfl,rfl,rfl,rfl⟩]]]]]]],#[zl,#[zJ,#[zt,#[zcj],T.HL,jK,#[ya,#[zbo,zbM,(zeR rfl rfl T.EK #[IO]),#[zbJ],#[zbK,#[Ev]]]]]]]]],?_⟩;refine zhV ?_; intro pW oR;have oE:=be;have pJ:=hT.length;have qz:∀ q∈ts.map kw,0<=q.2:=fun x hx=>by
   obtain⟨z,hz,rfl⟩:=aF.mp hx;exact hw z hz
  intro D hD;have s0:=zd (o:=.dK []) hD;refine⟨_,rfl,a,rfl,⟨_,kr.of (s0 _ _ ha)⟩,zaz (K:=K) (a:=a) (xs:=bs.map V.ref) (fun i σ H'=>∃ (e3 e4 e5:Option V),σ = [some #[IT],some (.int (m:Int)),some #[Is],e3,e4,e5]/\zw H H'/\H' D=some (.dK ((mxs (#[IN].take i)).map zcY)))
   ⟨none,none,none,rfl,s0,zb⟩ (fun i σ H' _ hq=>by obtain⟨_,_,_,_,s3,_⟩:=hq; exact (kr.of #[Li])) ?_ ?_⟩
  ·rintro zD zT i xx σ H1 uD ⟨e3,e4,e5,rfl,s1,oT⟩;obtain⟨b,rfl,sG⟩:=zao uD;obtain⟨z,hz,hb⟩:=Paired.get hT sG;have t7:=zdY (l:=ts.map kw) i qz;have oU:=t7.ln;rw [aG,aa] at oU;have sM:#[IN][i]? = some (z.1,z.2.2):=by rw [aB,hz]; rfl
   refine⟨b,_,rfl,kJ.of (s1 _ _ hb),rfl,_,_,rfl,_,_,rfl,_,_,rfl,rfl,?_⟩;refine⟨_,rfl,_,rfl,D,rfl,.inl ⟨_,.inl oT⟩,_,rfl,_,.inl ⟨_,aZ z.1,.inl oT,rfl,rfl⟩,?_⟩;have hg:(zaB ((mxs (#[IN].take i)).map zcY) (aZ z.1)).getD (.int 0) = .int ((zb6 (mxs (#[IN].take i)) z.1).getD 0):=by
    rw [zgo];cases zb6 (mxs (#[IN].take i)) z.1 <;> rfl
   rw [hg];refine⟨_,_,rfl,_,rfl,_,rfl,D,_,rfl,.inl ⟨_,aZ z.1,oT,rfl,by rw [aa]; lia,rfl⟩,?_⟩;refine⟨_,_,_,rfl,fun c o e=>by rw [zp (zq e hD)]; exact s1 _ _ e,?_⟩;rw [zb,zgp,take_snoc sM,zb7];rfl
  ·rintro σ H1 ⟨e3,e4,e5,rfl,s1,oT⟩;have t7:=zjV qz;have oU:=t7.ln;rw [aa] at oU oT;rw [pJ,aV (by rw [aa]; exact ag _)] at oT;refine⟨_,rfl,D,_,(mxs #[IN]).map (·.2),rfl,oT,by rw [aI,aI]; rfl,by rw [aa]; lia,fun l oa hl hp vZ=>?_⟩;have s2:=s1.trans (zd (o:=.lst #[K5]) hl);refine⟨_,rfl,_,rfl,l,_,rfl,kr.of zb,fun l2 mS=>?_⟩;rw [zfn,<- gc];exact⟨l2,_,rfl,kr.of zb,q _ _ ⟨oa,hp,vZ,rfl⟩ (s2.trans (zd mS))⟩
noncomputable def PkA (H:Hp) (p:Int) (k:Nat) (b:Addr) (c:Pk):Prop:=∃ la lv,H b=some (.tup [.int (c.1:Int),.int (wts c.2),.ref la,.ref lv])/\H la=some (.lst ((pkP p k c.2).1.map V.int))/\H lv=some (.lst ((pkP p k c.2).2.map V.int))
theorem PkA.same (s:zw H H') {p:Int} {b:Addr} {c:Pk} (h:PkA H p k b c):PkA H' p k b c:=by
 obtain⟨la,lv,h1,h2,h3⟩:=h;exact⟨la,lv,s _ _ h1,s _ _ h2,s _ _ h3⟩
noncomputable def PkB (H:Hp) (p:Int) (k:Nat):List Addr->List Pk->Prop:=Paired (PkA H p k)
theorem PkB.same (s:zw H H') {p:Int} {bs:List Addr} {cs:List Pk} (h:PkB H p k bs cs):PkB H' p k bs cs:=eR (fun _ _ z=>PkA.same s z) h
theorem zj1 (S:List Wt3) (q:Wt3):wts (S++[q])=wts S+q.2.2:=by rw [zfk]; unfold wts; simp
noncomputable def zmB (K:af):Sp:=fun vs H Q _=>∃ (a r b:Addr) (p T:Int) (k j:Nat) (c:Pk) (bs:List Addr) (ts:List Wt3) (R:List Int),vs = [.int p,.ref a,.ref r,.int T,.ref b]/\H a=some #[ul]/\T3 H bs ts/\H r=some #[Kr]/\R.length=ts.length/\PkA H p k b c/\HI p ts j c/\j < k/\k<=5/\Wp p ts/\p∈zy/\ts.length<=60 /\
 ∀ (l:Addr) (ds:List Addr) (res:List Pk) (H':Hp),H l=none->zw H H'->H' l=some #[Ju]->PkB H' p k ds res->G8 ts #[Mk] T c res->Q #[JF] H'
theorem zR:DF ["p","points","rests","least","pick","start","weight","polynomial","vanishing","found","at","x","y","more","longer"] ["p","points","rests","least","pick"] (zh zbm):=#[S]
theorem zed (T:Txt K mg base t) (F:Fun K "next_picks" "next_picks" zbm t.Ee fd):D1 P w K mg base CX0 3 t.Ee fd ["p","points","rests","least","pick"] (zmB K):=by
 obtain⟨me,kK,kP⟩:=T.DV;have k9:=zb9 (P:=P) (w:=w) (base:=base) T kK;obtain⟨uE,tq,qE⟩:=T.GD;have we:=zkW (P:=P) (w:=w) (base:=base) T tq;obtain⟨oH,mY,lS⟩:=T.D8;have o9:=zec (P:=P) (w:=w) (base:=base) T mY;refine F.ok zR #[pc] #[ld]
 ·obtain⟨a,r,b,p,T',k,j,c,bs,ts,R,rfl,_⟩:=h;rfl
 ·obtain⟨a,r,b,p,T',k,j,c,bs,ts,R,rfl,ha,hT,yg,AK,hb,hok,hjk,hk5,hW,hp,hn,q⟩:=h;refine zbg ?_; intro zX;refine⟨_,#[ze,#[zcz,#[Je],#[zbd,#[zm,#[zj,5,zR.nd,#[A]],#[zm,#[zj,6,zR.nd,#[A]],#[zm,#[zj,7,zR.nd,#[A]],#[zm,#[zj,8,zR.nd,#[A]],#[zad]]]]]]],#[ze,#[zn,9,zR.nd,#[A],#[Nh]],#[ze,#[zaA,bj,(@zhP _ _ _ _ _ _ _ rfl T.D0 #[za,#[K2],#[ya,#[LV]]] (by rfl) (by rfl)),#[zj,10,zR.nd,#[A]],#[ze,#[zaX,#[zH,#[zej],#[zi,#[zK],#[KH],#[zW,#[zO],#[IO],#[Nx]]],#[Iz],(z7 _)],#[zl,(@ziO _ _)],#[zaq]],#[ze,#[zcz,#[zW,#[zO],#[Ev],#[Nx]],#[zbd,#[zm,#[zj,11,zR.nd,#[A]],#[zm,#[zj,12,zR.nd,#[A]],#[zm,#[zj,13,zR.nd,#[A]],#[zad]]]]]],#[zl,#[zaX,#[zH,#[zfG],#[zu,k9,#[pp],T.Ef,kK.kp,kP,#[zY],#[za,#[xL],#[za,#[Kw],#[Lm]]]],#[zg],(z7 _)],#[ze,#[zn,14,zR.nd,#[A],#[zu,we,#[pp],T.HF,tq.kp,qE,#[zY],#[za,#[xL],by exact #[za,#[pvx,7],#[za,#[Kw],#[ya,#[zbf,#[za,#[pvx,11],#[ya,#[pvx,12]]]]]]]]]],#[zl,#[zcJ,#[zdf,bP,eA,eB,#[zc8],#[LM],#[ya,#[zbf,#[za,#[zi,#[zK],#[Nx],#[zg]],by exact #[za,#[zi,#[zK],#[KH],#[LX]],#[za,#[pvx,14],#[ya,#[zu,o9,#[pp],T.FH,mY.kp,lS,#[zY],#[za,#[xL],#[za,#[Kw],#[Lm]]]]]]]]]]]]]],#[zaq]]]]]],#[zl,#[zJ,#[LM]]]]]],?_⟩;refine zko ?_; intro sZ pW oR;have oE:=be;have rp:=zQ hp;have pJ:=hT.length;obtain⟨la,lv,sS,qQ,uv⟩:=id hb;have hcle:=hok.le;have oF:=hok.len;have Cz:=zjW hp (k:=k) hok.Hw (by rw [aa,hok.len]; lia);have oC:(pkP p k c.2).1.length=k:=Cz.lc;have mS:(pkP p k c.2).2.length=j+1:=by have:=Cz.lv; rw [aa,hok.len] at this; exact this
  refine⟨_,rfl,b,_,rfl,kJ.of sS,rfl,_,_,rfl,_,_,rfl,_,_,rfl,_,_,rfl,rfl,?_⟩;refine#[Ln];have u0:=zd (o:=.lst []) hD;have h0D:kx H D (.lst []) D=some (.lst ([].map V.ref)):=zb;generalize kx H D (.lst [])=H0 at u0 h0D |-;have hD0:H D=none:=hD;refine⟨_,rfl,_,rfl,a,_,rfl,.inl (kr.of (u0 _ _ ha)),_,_,rfl,⟨#[O],#[O],by rw [aa]; lia,by rw [aa]; lia⟩,?_⟩;have en:((#[K7].length:Int) - (c.1:Int)).toNat=ts.length - c.1:=by rw [aa]; lia
  rw [en];have fin:∀ (m:Nat) (ds:List Addr) (res:List Pk) (H':Hp),zw H H'->H' D=some #[Ju]->PkB #[L1] p k ds res->(∀ d∈res,∃ a q,c.1<=a/\ts[a]? = some q/\q.1∉c.2.map (·.1)/\d=(a+1,c.2++[q]))->(∀ a q,c.1<=a->a < c.1+m->ts[a]? = some q->q.1∉c.2.map (·.1)->(a+1,c.2++[q])∈res)->res.length<=m->m<=ts.length - c.1->(m=ts.length - c.1\/¬ T'<=wts c.2+R.getD (c.1+m) 0)->Q #[Is] H':=by
   intro m ds res H' s' hD' qV qF l9 tu hm CA;refine q D ds res H' hD s' hD' (qV.same (za9 _ _)) ⟨qF,fun a x g1 g2 g3 g4=>?_,#[O]⟩;by_cases kU:a < c.1+m
   ·exact l9 a x g1 kU g2 g3
   ·rcases CA with e | e
    ·have:=(aH.mp g2).1;lia
    ·exact absurd (g4 (c.1+m) #[O] #[O]) e
  refine zaP (lo:=(c.1:Int)) (n:=ts.length - c.1) (fun i σ H'=>∃ (ds:List Addr) (res:List Pk) (qW qX pK pL qY:Option V),σ = [some #[Ld],some #[IT],some (.ref r),some (.int T'),some #[M9],some (.int (c.1:Int)),some (.int (wts c.2)),some (.ref la),some (.ref lv),some #[Is],qW,qX,pK,pL,qY]/\zw H H'/\H' D=some #[Ju]/\PkB #[L1] p k ds res/\(∀ d∈res,∃ a q,c.1<=a/\ts[a]? = some q/\q.1∉c.2.map (·.1)/\d=(a+1,c.2++[q]))/\(∀ a q,c.1<=a->a < c.1+i->ts[a]? = some q->q.1∉c.2.map (·.1)->(a+1,c.2++[q])∈res)/\res.length<=i)
   ⟨[],[],none,none,none,none,none,rfl,u0,h0D,.nil,(fun d hd=>by cases hd),(fun a x g1 g2=>by lia),ag _⟩ ?_ ?_
  ·rintro zD zT i σ H1 hi ⟨ds,res,qW,qX,pK,pL,qY,rfl,s1,oT,qV,qF,l9,tu⟩;obtain⟨z,hz⟩:∃ z,ts[c.1+i]? = some z:=⟨ts[c.1+i]'#[O],#[M]⟩;obtain⟨bz,hbz⟩:∃ bz,bs[c.1+i]? = some bz:=⟨bs[c.1+i]'#[O],#[M]⟩;obtain⟨z',sM,hbt⟩:=Paired.get hT hbz;rw [hz] at sM;cases sM;obtain⟨w0,w1,w2,w3,w4⟩:=hW.rg z (aX hz);have ei:(c.1:Int)+(i:Int)=((c.1+i:Nat):Int):=by lia
   have CB:atI (R.map V.int) ((c.1:Int)+(i:Int))=some (.int (R.getD (c.1+i) 0)):=by
    rw [ei];refine zcf ?_;rw [aB,ah #[O],bd,ah #[O]];rfl
   have CC:atI #[K7] ((c.1:Int)+(i:Int))=some (.ref bz):=by
    rw [ei];exact zcf (by rw [aB,hbz]; rfl)
   have ve:=Cz.rv;have AL:zr p z.1 (pkP p k c.2).2=0↔z.1∈c.2.map (·.1):=zkS hp hok.Hw #[O] w0 w1;have hpv0:=za6 (x:=z.1) (show 0 < p by lia) (pkP p k c.2).2;have CD:=za7 (x:=z.1) (show 0 < p by lia) (pkP p k c.2).2;refine⟨_,rfl,_,rfl,_,rfl,r,_,_,_,rfl,rfl,kr.of (s1 _ _ yg),CB,_,_,rfl,rfl,_,rfl,_,_,rfl,rfl,_,rfl,?_⟩;refine zaW (fun kU=>?_) (fun nS=>?_)
   ·have kU:=of_decide_eq_true kU;exact⟨_,rfl,fin i ds res H1 s1 oT qV qF l9 tu #[O] (.inr #[O])⟩
   refine⟨_,rfl,_,rfl,a,_,_,_,rfl,rfl,kr.of (s1 _ _ ha),CC,bz,_,rfl,kJ.of (s1 _ _ hbt),rfl,_,_,rfl,_,_,rfl,_,_,rfl,rfl,?_⟩;refine⟨_,rfl,_,rfl,_,rfl,p,z.1,lv,(pkP p k c.2).2,rfl,.inl (kr.of (s1 _ _ uv)),#[O],#[O],w0,w1,rfl,_,rfl,?_⟩;have yh:z.1∈c.2.map (·.1)->∀ a q,c.1<=a->a < c.1+(i+1)->ts[a]? = some q->q.1∉c.2.map (·.1)->(a+1,c.2++[q])∈res:=fun hm a x g1 g2 g3 g4=>by
    by_cases e:a < c.1+i
    ·exact l9 a x g1 e g3 g4
    ·have e:a=c.1+i:=by lia
     subst e;rw [hz] at g3;cases g3;exact absurd hm g4
   refine zaW (fun lW=>?_) (fun heq=>?_)
   ·have hnz:zr p z.1 (pkP p k c.2).2≠0:=fun e=>by rw [e] at lW; simp at lW
    have hnm:z.1∉c.2.map (·.1):=fun e=>hnz (AL.mpr e)
    refine⟨_,rfl,_,rfl,_,rfl,_,rfl,_,rfl,by show 2<=sizeLine; lia,fun T2 pU=>?_⟩;have v1:=zd (o:=.tup [.int z.1,.int z.2.1]) pU;refine⟨p,z.1,z.2.1,la,lv,T2,_,_,rfl,(s1.trans v1) _ _ qQ,(s1.trans v1) _ _ uv,zb,hp,w0,w1,w2,#[O],#[O],CD,#[O],#[O],fun l1 H2 oC s2 h2=>?_⟩;have wg:=v1.trans s2;have yi:=wg _ _ oT;refine⟨_,rfl,.inl ⟨rfl,_,kr.of yi⟩,_,rfl,_,_,rfl,rfl,_,rfl,_,rfl,_,_,rfl,rfl,_,rfl,_,rfl,_,rfl,_,rfl,p,z.1,lv,_,rfl,(s1.trans wg) _ _ uv,#[O],#[O],#[O],#[O],fun l2 H3 mS s3 h3=>?_⟩;have v2:=wg.trans s3;have tw:=v2 _ _ oT;have CF:=s3 _ _ h2;refine⟨by show 4<=sizeLine; lia,fun T3 pZ=>?_⟩;have v3:=zd (o:=.tup [.int ((c.1:Int)+(i:Int)+1),.int (wts c.2+z.2.2),.ref l1,.ref l2]) pZ;have h4T:kx H3 T3 (.tup [.int ((c.1:Int)+(i:Int)+1),.int (wts c.2+z.2.2),.ref l1,.ref l2]) T3=some (.tup [.int ((c.1:Int)+(i:Int)+1),.int (wts c.2+z.2.2),.ref l1,.ref l2]):=zb;have nT:T3≠D:=fun e=>by rw [e,tw] at pZ; cases pZ
    have n1:l1≠D:=fun e=>by rw [e,v1 _ _ oT] at oC; cases oC
    have n2:l2≠D:=fun e=>by rw [e,yi] at mS; cases mS
    have rH:=v3 _ _ tw;have yj:=v3 _ _ CF;have yk:=v3 _ _ h3;have v4:=v2.trans v3;generalize kx H3 T3 (.tup [.int ((c.1:Int)+(i:Int)+1),.int (wts c.2+z.2.2),.ref l1,.ref l2])=H4 at h4T rH yj yk v4 |-;have pY:=qV.length;refine⟨D,_,_,rfl,rfl,rH,by rw [aa]; lia,?_⟩;refine⟨ds++[T3],res++[(c.1+i+1,c.2++[z])],_,_,_,_,_,rfl,zav (s1.trans v4) hD,by rw [zb,av]; rfl,?_,fun d hd=>?_,fun a' x g1 g2 g3 g4=>?_,by rw [aA]; exact eV tu⟩
    ·rw [zdO];refine cr (qV.same (zaS v4)) ⟨l1,l2,?_,?_,?_⟩
     ·rw [zj1];show hide H4 D T3=some (.tup [.int ((c.1+i+1:Nat):Int),.int (wts c.2+z.2.2),.ref l1,.ref l2]);rw [show ((c.1+i+1:Nat):Int)=(c.1:Int)+(i:Int)+1 by lia];exact zI h4T nT
     ·rw [zgr]; exact zI yj n1
     ·rw [zgr]; exact zI yk n2
    ·rcases aR.mp hd with hd | hd
     ·exact qF d hd
     ·exact⟨c.1+i,z,#[O],hz,hnm,by simpa using hd⟩
    ·by_cases e:a' < c.1+i
     ·exact aJ _ (l9 a' x g1 e g3 g4)
     ·have e:a'=c.1+i:=by lia
      subst e;rw [hz] at g3;cases g3;simp
   ·have hm:z.1∈c.2.map (·.1):=AL.mp (by
     by_cases e:zr p z.1 (pkP p k c.2).2=0
     ·exact e
     ·exact absurd (by rw [decide_eq_false (fun e'=>e (by injection e'))]; rfl) heq)
    exact⟨ds,res,_,_,_,_,_,rfl,s1,oT,qV,qF,yh hm,#[O]⟩
  ·rintro σ H1 ⟨ds,res,qW,qX,pK,pL,qY,rfl,s1,oT,qV,qF,l9,tu⟩;exact⟨_,rfl,fin _ ds res H1 s1 oT qV qF l9 tu (ag _) #[IW]⟩
abbrev zmC:Pos:=⟨75,33,75,56⟩
abbrev zmD:Str:=(bG "picked_weights"++bG ".<locals>.")++bG "<lambda>"
noncomputable def TbA (t:Adr) (H:Hp):Prop:=TbI t.tab zmC zmD H
theorem TbA.same {t:Adr} (s:zw H H') (h:TbA t H):TbA t H':=by
 obtain⟨ps,h1,h2,h3⟩:=h;exact⟨ps,s _ _ h1,h2,h3.imp id fun ⟨c,z1,z2⟩=>⟨c,z1,s _ _ z2⟩⟩
theorem TbA.at_ {t:Adr} (h:TbA t H):∃ ps,H t.tab=some #[MW]:=by
 obtain⟨ps,h1,_⟩:=h;exact⟨ps,h1⟩
theorem zgu {α β:Type} {F:α->β->Prop} {as bs:List α} (h:as.Perm bs):∀ {ys:List β},Paired F bs ys->∃ xs:List β,xs.Perm ys/\Paired F as xs:=by
 induction h with
 | nil=>intro ys r; cases r; exact⟨[],.refl _,.nil⟩
 | cons x _ ih =>
  intro ys r;cases r with
  | cons r1 r2 =>
   obtain⟨xs,h1,h2⟩:=ih r2;exact⟨_ :: xs,h1.cons _,.cons r1 h2⟩
 | swap x y l =>
  intro ys r;cases r with
  | cons r1 r2 =>
   cases r2 with
   | cons r3 r4=>exact⟨_ :: _ :: _,.swap _ _ _,.cons r3 (.cons r1 r4)⟩
 | trans _ _ i1 i2 =>
  intro ys r;obtain⟨xs,h1,h2⟩:=i2 r;obtain⟨zs,h3,h4⟩:=i1 h2;exact⟨zs,h3.trans h1,h4⟩
theorem zdo {α β:Type} {F:α->β->Prop}:∀ {as:List α} {bs:List β} (n:Nat),Paired F as bs->Paired F (as.drop n) (bs.drop n)
 | _,_,0,h=>h
 | _,_,_+1,.nil=>.nil
 | _,_,n+1,.cons _ t=>zdo n t
theorem T3.hid {a:Addr} {ps:Array Value} (ha:H a=some #[MW]) {bs:List Addr} {ts:List Wt3} (h:T3 H bs ts):T3 (hide H a) bs ts:=eR (fun _ _ z=>zI z fun e=>by rw [e,ha] at z; cases z) h
theorem zc4 {κ:Type} [DecidableEq κ] (kvs:List (κ×V)) (k:κ) (v:V):zaB #[Jj] k=some v:=by
 rw [zf2]; simp
theorem zd1 {κ:Type} [DecidableEq κ] {kvs:List (κ×V)} {k k':κ} {v:V} (h:k'≠k):zaB #[Jj] k'=zaB kvs k':=by
 rw [zf2]; simp [h]
noncomputable def zmE (t:Adr) (K:af):Sp:=fun vs H Q _=>∃ (a:Addr) (p T:Int) (k:Nat) (bs:List Addr) (ts:List Wt3),vs = [.int p,.int (k:Int),.ref a,.int T]/\H a=some #[ul]/\T3 H bs ts/\Wp p ts/\p∈zy/\1<=k/\k<=5/\ts.length<=30/\ts.length ^ k<=1000000/\TbA t H /\
 ∀ (d:Addr) (kvs:List (List Key×V)) (kE:List #[Iv]) (H':Hp),H d=none->zw #[K6] H'->TbA t H'->H' d=some #[IL]->KeysAre kvs kE->kE.Nodup->kE.length<=1000000->(∀ f∈kE,IsP p k f)->(∀ f,IsP p k f->T<=wsum p f ts->k<=#[Id].length->f∈kE) ->
  (∀ f∈kE,∃ v,zaB kvs (f.map aZ)=some (.int v)/\v<=wsum p f ts)->Q (.ref d) H'
theorem zC:DF ["p","k","points","least","ordered","rests","picks","step","found","at","weight","polynomial","vanishing","known"] ["p","k","points","least"] (zh zaa):=#[S]
theorem zc5 (T:Txt K mg base t) (F:Fun K "picked_weights" "picked_weights" zaa t.DI fd):D1 P w K mg base CX0 4 t.DI fd ["p","k","points","least"] (zmE t K):=by
 obtain⟨mh,kS,kT⟩:=T.DN;have lI:=zca (P:=P) (w:=w) (base:=base) T kS;obtain⟨oI,mZ,lT⟩:=T.D9;have pd:=zed (P:=P) (w:=w) (base:=base) T mZ;refine F.okT T.tb zC #[pc] (fun cP hKc A outer s H vs Q E hr h=>?_)
 ·obtain⟨a,p,T',k,bs,ts,rfl,_⟩:=h;rfl
 ·obtain⟨a,p,T',k,bs,ts,rfl,ha,hT,hW,hp,k1,k5,hn,t9,qp,q⟩:=h;have hu:(A.deeper (envOfC (bG "picked_weights") (zh zaa) s.heap.objs.size t.DI (.ref cP))).units+1 < cLine:=by have:=hr.units; lia
  refine zbg ?_; intro zX;refine⟨_,#[ze,#[zn,4,zC.nd,#[KI],(@zjS _ t.tab cP _ _ _ _ _ _ _ _ _ _ _ _ _ _ rfl hKc T.bm (by exact⟨rfl,rfl,rfl,rfl,#[D],(fun _ _ _ _ _ _ _ _=>rfl),#[MD],#[MD]⟩) rfl hr.depth rfl T.EK #[IO] rfl)],#[ze,#[zn,5,zC.nd,#[KI],#[zat,(DH.of (N':=["at","ordered"]) (ix:=[none,some 4]) (zh zaa) _ rfl rfl rfl),#[za5],#[zay,T.D0,#[ya,#[zt,#[z8],T.F7,c6,#[Kf]]]],#[ut],#[wn],(fun _ _ _ _=>#[zu,lI,#[pp],T.Er,kS.kp,kT,#[zY],#[za,#[zbo,(zjb (K:=K) rfl),#[Ev],#[zbK,#[xL]],#[zbJ]],#[ya,#[zt,#[zbw,(K)],T.F7,c6,#[Jv]]]]])]],#[ze,#[zn,6,zC.nd,#[A],#[zag,#[ya,#[zbf,#[zey,#[za,#[zg],#[za,#[zi,#[zgG],#[Kx],#[Ev]],#[ya,#[Kx]]]]]]]]],#[ze,#[zaA,bj,#[zay,T.D0,#[Jv]],#[zj,7,zC.nd,#[A]],#[zl,(@zgY _ _ _ _ _ _ _ _ _ _ _ _ _ _ _ _ _ _ _ _ _ (6) _ _ _ zC.nd rfl #[A] (DH.of (N':=["pick","longer","p","ordered","rests","least"]) (ix:=[none,none,some 0,some 4,some 5,some 3]) (zh zaa) _ rfl rfl rfl) rfl (ze1 (js:=[0]) (i:=0) #[D]) (ze1 (js:=[1]) (i:=1) #[D]) #[D] #[D] #[zae,#[KH]] #[ut] #[wn] (fun _ _ _ _=>(@zjP _ (K) _ _ _ rfl #[zu,pd,#[pp],T.FI,mZ.kp,lT,#[zY],#[za,#[IO],by exact #[za,#[Iz],by exact #[za,#[Je],#[za,#[K2],#[LN]]]]]])) (fun _ _ _ _=>#[zj,1,#[Y],#[A]]) #[wn] (fun _ _ _ _=>#[Ev]) (by rfl) (by intro _; rfl) (by intros; rfl) (by trivial))]],#[ze,#[zn,8,zC.nd,#[A],#[zdR]],#[ze,#[zaA,bj,#[zae,#[KH]],#[zbd,#[zm,#[zj,9,zC.nd,#[A]],#[zm,#[zj,10,zC.nd,#[A]],#[zm,#[zj,11,zC.nd,#[A]],#[zm,#[zj,12,zC.nd,#[A]],#[zad]]]]]],#[ze,#[zn,13,zC.nd,#[A],#[zaH,#[zaK],T.FE,gn,#[Lm]]],#[zl,#[zci,hu,#[Kw],#[LX],#[zt,#[zce],T.HM,jL,#[za,#[Nx],#[ya,#[zdS,hu,#[Kw],#[LX],#[zg],⟨rfl,rfl,rfl,rfl⟩]]]]]]]],#[zl,#[zJ,#[Kw]]]]]]]]],?_⟩;refine zkp ?_; intro Co AF wa sZ pW oR;have oE:=be;have rp:=zQ hp;have pJ:=hT.length;obtain⟨ps0,AM⟩:=qp.at_;have Cm:a≠t.tab:=fun e=>by rw [e,AM] at ha; cases ha
  refine⟨_,rfl,a,bs,rfl,ha,#[O],(fun b hb=>?_),qp,fun D o6 H2 AN s2' pU hD=>?_⟩
  ·obtain⟨i,hi,e⟩:=bS hb;obtain⟨z,_,h2⟩:=Paired.get hT (ah hi);rw [e] at h2;exact⟨_,_,_,h2⟩
  have s2:zw #[K6] H2:=fun b o e=>by
   by_cases hb:b=t.tab
   ·rw [hb] at e; unfold hide at e; rw [if_pos rfl] at e; cases e
   ·unfold hide at e; rw [if_neg hb] at e; exact s2' b hb o e
  obtain⟨us,lM,hTu⟩:=zgu AN (hT.hid AM);have vf:=hW.perm lM;have pM:=lM.length_eq;have CG:=hTu.length;have CH:TbA t H2:=pU;have u3:=zd (o:=.lst (o6.map V.ref)) hD;have tw:kx H2 D #[J7] D=some #[J7]:=zb;have pZ:=(T3.same s2 hTu).same u3;have va:=CH.same u3;have s3:=s2.trans u3;generalize kx H2 D #[J7]=H3 at u3 tw pZ va s3 |-;refine⟨_,rfl,D,_,rfl,.inl (kr.of tw),_,rfl,by rw [aa]; lia,by rw [aa]; lia,?_⟩;rw [aa,bO];refine zal (n:=o6.length) (fun i ys H'=>∃ R:List Int,ys=R.map V.int/\R.length=i/\zw H3 H'/\∀ j v,R[j]? = some v->zeb ((mxs ((us.drop j).map kw)).map (·.2)) us.length v) ⟨[],rfl,rfl,fun _ _ e=>e,fun j v e=>by simp at e⟩ #[Lo] #[KB] ?_ ?_
  ·rintro zS zT zE i xx ys H4 H5 hi ⟨R,rfl,AK,s4,hR⟩ ⟨rfl,rfl⟩;refine gY ⟨_,rfl,_,rfl,_,rfl,D,_,rfl,kr.of (s4 _ _ tw),fun z hz=>?_⟩;rw [show (0:Int)+(i:Int)=(i:Int) by lia,zgt (by rw [aa]; lia),<- iA];have v5:=zd (o:=.lst ((o6.drop i).map V.ref)) hz;refine⟨_,rfl,D,_,rfl,.inl (kr.of ((s4.trans v5) _ _ tw)),z,us.length,o6.drop i,us.drop i,?_,zb,zdo i (pZ.same (s4.trans v5)),by rw [bL]; lia,(fun x hx=>(vf.rg x (io hx)).2.2.2.2),fun v H6 hv s6=>?_⟩
   ·rw [aa,CG]; rfl
   refine⟨by rw [aa]; lia,R++[v],by rw [av]; rfl,by rw [aA,AK]; rfl,s4.trans (v5.trans s6),fun j v' e=>?_⟩;by_cases hj:j < R.length
   ·rw [dj hj] at e;exact hR j v' e
   ·have oG:j=R.length:=by
     have:=(aH.mp e).1;rw [aA,cg] at this;lia
    rw [oG,de (ag _),jh] at e;have e:v=v':=by simpa using e
    subst e;rw [oG,AK];exact hv
  rintro ys H4 rl ⟨R,rfl,AK,s4,hR⟩ tu;have u5:=zd (o:=.lst (R.map V.int)) tu;have h5r:kx H4 rl #[Kr] rl=some #[Kr]:=zb;have yl:=s4.trans u5;generalize kx H4 rl #[Kr]=H5 at u5 h5r yl |-;have hRb:∀ f i,i < us.length->wsum p f (us.drop i)<=#[Mk] i:=fun f i hi=>by
   have mJ:i < R.length:=by lia
   have hv:=hR i R[i] (ah mJ);have h1:=zdZ (f:=f) (vf.sub (jq i us)) hv (bh (dP _ _) (by rw [bL]; lia));show _<=R.getD i 0;rw [bd,ah mJ];exact h1
  refine⟨by show 1<=sizeLine; lia,fun z0 AL=>⟨_,rfl,z0,_,[.int 0],rfl,rfl,zb,#[O],#[O],by show 1*_<=sizeLine; lia,fun z1 uo=>⟨by show 1<=sizeLine; lia,fun z2 pH=>⟨by show 4<=sizeLine; lia,fun z3 t8=>⟨by show 1<=sizeLine; lia,fun z4 hz4=>?_⟩⟩⟩⟩⟩;rw [zdM,bO] at pH t8 hz4 |-;have w0:=zd (o:=.lst [.int 0]) AL;have w1:=zd (o:=.lst ((au k 0).map V.int)) uo;have w2:=zd (o:=.lst [.int 1]) pH;have w3:=zd (o:=.tup [.int 0,.int 0,.ref z1,.ref z2]) t8;have w4:=zd (o:=.lst [.ref z3]) hz4;have hA1:=(w2.trans #[MY]) _ _ zb;have hA2:=#[MY] _ _ zb;have hA3:=w4 _ _ zb;have hA4:kx (kx (kx (kx (kx H5 z0 (.lst [.int 0])) z1 (.lst ((au k 0).map V.int))) z2 (.lst [.int 1])) z3 (.tup [.int 0,.int 0,.ref z1,.ref z2])) z4 (.lst [.ref z3]) z4=some (.lst ([z3].map V.ref)):=zb;have wZ:=w0.trans (w1.trans (w2.trans #[MY]));generalize kx (kx (kx (kx (kx H5 z0 (.lst [.int 0])) z1 (.lst ((au k 0).map V.int))) z2 (.lst [.int 1])) z3 (.tup [.int 0,.int 0,.ref z1,.ref z2])) z4 (.lst [.ref z3])=H6 at hA1 hA2 hA3 hA4 wZ |-;have h6D:=#[MX] _ _ tw;have h6r:=wZ _ _ h5r;have hT6:=pZ.same #[MX];have hB6:=va.same #[MX];have sA6:=s3.trans #[MX];refine⟨_,rfl,_,rfl,#[O],#[O],?_⟩;rw [bO];refine zaP (lo:=0) (n:=k) (fun i σ H'=>∃ (c:Addr) (ds:List Addr) (o8:List Pk) (e7:Option V),σ = [some #[Ld],some (.int (k:Int)),some #[IT],some (.int T'),some #[Is],some (.ref rl),some #[K3],e7,none,none,none,none,none,none]/\zw H6 H'/\H' c=some #[Ju]/\PkB H' p k ds o8/\Pks p us k T' i o8)
   ⟨z4,[z3],[(0,[])],none,rfl,fun _ _ e=>e,hA4,.cons ⟨z1,z2,hA3,hA1,hA2⟩ .nil,ziy⟩ ?_ ?_
  ·rintro zD zT i σ H7 hi ⟨c,ds,o8,e7,rfl,s7,qU,w6,hP⟩;have pY:=w6.length;refine⟨_,rfl,c,rfl,⟨_,kr.of qU⟩,zlf (n:=ds.length) (fun i' ys H'=>∃ (es:List Addr) (nV:List (List Pk)),ys=es.map V.ref/\zw H7 H'/\Paired (G8 us #[Mk] T') (o8.take i') nV/\PkB H' p k es nV.flatten) ⟨[],[],rfl,fun _ _ e=>e,.nil,.nil⟩ ?_ ?_ ?_ ?_⟩
   ·rintro i' ys H8 mJ ⟨es,nV,_,s8,_⟩;exact⟨_,.ref ds[i'],kr.of (s8 _ _ qU),by rw [aB,ah mJ]; rfl⟩
   ·rintro ys H8 ⟨es,nV,_,s8,_⟩;exact⟨_,kr.of (s8 _ _ qU),by rw [aa]; exact ag _⟩
   ·rintro i' y ys H8 H9 mJ ⟨es,nV,rfl,s8,wj,t6⟩ ⟨rfl,hy⟩;obtain⟨pb,rfl,CI⟩:=zao (hy _ (kr.of (s8 _ _ qU)));obtain⟨cc,ng,l7⟩:=Paired.get w6 CI;have s79:=s7.trans s8;have CJ:=s7.trans s8;refine gY ⟨_,rfl,_,rfl,_,rfl,_,rfl,_,rfl,D,rl,pb,p,T',k,i,cc,o6,us,R,rfl,CJ _ _ h6D,hT6.same CJ,CJ _ _ h6r,#[O],l7.same s8,hP.ok cc (aX ng),hi,k5,vf,hp,#[O],fun l ds' res xa hl ua AO ym ve=>?_⟩;have CK:=ym.length;have yf:=zgs wj;have AG:=hP.ln;have hnl:=ve.ln;have h1i:(o8.take i').length=i':=by rw [aG]; lia
    rw [h1i] at yf;have hbnd:i'*us.length+us.length<=1000000\/us.length=0:=by
     by_cases h0:us.length=0
     ·exact .inr h0
     ·left;have g1:(i'+1)*us.length<=us.length ^ i*us.length:=fB _ #[O];have g2:us.length ^ i*us.length<=us.length ^ k:=by rw [<- fC]; exact cO #[O] hi
      have g3:us.length ^ k<=1000000:=by rw [pM]; exact t9
      rw [gX,gZ] at g1;lia
    refine⟨l,rfl,⟨_,kr.of AO⟩,zlf (n:=ds'.length) (fun j ys H'=>∃ vg:List Addr,ys=vg.map V.ref/\zw xa H'/\PkB H' p k vg (nV.flatten++res.take j)) ⟨es,rfl,fun _ _ e=>e,by rw [eI,bK]; exact t6.same ua⟩ ?_ ?_ ?_ ?_⟩
    ·rintro j ys wm hj ⟨vg,_,oV,_⟩;exact⟨_,.ref ds'[j],kr.of (oV _ _ AO),by rw [aB,ah hj]; rfl⟩
    ·rintro ys wm ⟨vg,_,oV,_⟩;exact⟨_,kr.of (oV _ _ AO),by rw [aa]; exact ag _⟩
    ·rintro j y ys wm H12 hj ⟨vg,rfl,oV,tz⟩ ⟨rfl,hy⟩;obtain⟨eb,rfl,heb⟩:=zao (hy _ (kr.of (oV _ _ AO)));obtain⟨cj,hcj,CL⟩:=Paired.get ym heb;have CM:=tz.length;rw [aA,aG] at CM;refine gY ⟨_,rfl,by rw [aa]; lia,vg++[eb],by rw [av]; rfl,oV,?_⟩;rw [take_snoc hcj,<- bn];exact cr tz (CL.same oV)
    ·rintro ys wm ⟨vg,rfl,oV,tz⟩;rw [CK,bf] at tz;refine⟨vg,nV++[res],rfl,s8.trans (ua.trans oV),?_,?_⟩
     ·rw [take_snoc ng];exact cr wj ve
     ·rw [List.flatten_append];simpa using tz
   ·rintro ys H8 ⟨es,nV,rfl,s8,wj,t6⟩ D2 yd;rw [pY,bf] at wj;have v9:=zd (o:=.lst (es.map V.ref)) yd;exact⟨D2,es,nV.flatten,_,rfl,s7.trans (s8.trans v9),zb,t6.same v9,zjX vf hi hRb hP wj⟩
  ·rintro σ H7 ⟨c,ds,o8,e7,rfl,s7,qU,w6,hP⟩;have pY:=w6.length;have lR:=hP.ln;rw [pM] at lR;intro d hd;have w8:=zd (o:=.dT []) hd;have h8d:kx H7 d (.dT []) d=some (.dT []):=zb;have ye:=w8 _ _ qU;have CN:=w6.same w8;generalize kx H7 d (.dT [])=H8 at w8 h8d ye CN |-;have n4:c≠d:=fun e=>by rw [e,hd] at qU; cases qU
   refine⟨_,rfl,c,rfl,⟨_,kr.of ye⟩,zaz (K:=K) (a:=c) (xs:=ds.map V.ref) (fun i σ H'=>∃ (kvs:List (List Key×V)) (kE:List #[Iv]) (e9 qW qX pK pL:Option V),σ = [some #[Ld],some (.int (k:Int)),some #[IT],some (.int T'),some #[Is],some (.ref rl),some #[K3],e7,some (.ref d),e9,qW,qX,pK,pL]/\zw H7 H'/\H' d=some #[IL]/\KeysAre kvs kE/\kE.Nodup/\kE.length<=i/\(∀ x,x∈kE↔∃ cc∈o8.take i,x=(pkP p k cc.2).1)/\∀ f∈kE,∃ v,zaB kvs (f.map aZ)=some (.int v)/\v<=wsum p f us)
    ⟨[],[],none,none,none,none,none,rfl,w8,h8d,rfl,#[M],ag _,fun x=>by simp,fun f hf=>by cases hf⟩ (fun i σ H' _ hq=>by obtain⟨_,_,_,_,_,_,_,_,s3,_⟩:=hq; exact kr.of (s3 _ _ qU)) ?_ ?_⟩
   ·rintro zD zT i y σ H9 hy ⟨kvs,kE,e9,qW,qX,pK,pL,rfl,s9,CP,mU,mH,oU,kZ,rJ⟩;obtain⟨pb,rfl,CI⟩:=zao hy;obtain⟨cc,ng,l7⟩:=Paired.get w6 CI;obtain⟨la,lv,g1,g2,g3⟩:=l7.same s9;have hok:=hP.ok cc (aX ng);obtain⟨hiP,hwle⟩:=zjY hp vf hok;have uF:kvs.length=kE.length:=by
     have:=congrArg bU mU;rw [aa,aa] at this;exact this
    have ur:i < o8.length:=(aH.mp ng).1;refine⟨pb,_,rfl,kJ.of g1,rfl,_,_,rfl,_,_,rfl,_,_,rfl,_,_,rfl,rfl,?_⟩;refine⟨_,rfl,la,_,rfl,.inl ⟨kr.of g2,fun kt yn=>?_⟩⟩;have v10:=zd (o:=.tup ((pkP p k cc.2).1.map V.int)) yn;have yo:kx H9 kt (.tup ((pkP p k cc.2).1.map V.int)) kt=some (.tup ((pkP p k cc.2).1.map V.int)):=zb;have uG:=v10 _ _ CP;generalize kx H9 kt (.tup ((pkP p k cc.2).1.map V.int))=xa at v10 yo uG |-;have yp:xa kt=some (.tup (((pkP p k cc.2).1.map aZ).map kV)):=by rw [yo,aI]; rfl
    refine⟨_,rfl,_,rfl,d,rfl,.inr ⟨kvs,.inl uG⟩,_,rfl,_,zds.t uG yp,?_⟩;obtain⟨g,hg,hgle⟩:∃ g:Int,(zaB kvs ((pkP p k cc.2).1.map aZ)).getD (.int 0) = .int g/\g<=wsum p (pkP p k cc.2).1 us:=by
     by_cases oD:(pkP p k cc.2).1∈kE
     ·obtain⟨v,h1,h2⟩:=rJ _ oD;exact⟨v,by rw [h1]; rfl,h2⟩
     ·have yq:zaB kvs ((pkP p k cc.2).1.map aZ)=none:=by
       cases e:zaB kvs ((pkP p k cc.2).1.map aZ) with
       | none=>rfl
       | some v =>
        exfalso;unfold zaB at e;rw [eQ] at e;obtain⟨x,hx,_⟩:=e;have h1:=List.mem_of_find?_eq_some hx;have h2':=List.find?_some hx;have h2:x.1=(pkP p k cc.2).1.map aZ:=of_decide_eq_true h2';have h3:x.1∈kvs.map (·.1):=bT h1;rw [mU,h2] at h3;obtain⟨y,Aw,Ax⟩:=aF.mp h3;exact oD (zdD Ax ▸ Aw)
      refine⟨0,by rw [yq]; rfl,?_⟩;exact zl4 fun x hx=>(vf.rg x (bC.mp hx).1).2.2.2.2
    rw [hg];refine⟨_,_,rfl,_,rfl,_,rfl,d,_,rfl,zf5.t uG yp #[O],?_⟩;obtain⟨nU,m1,m2,m3,m4⟩:=zcV mU mH (pkP p k cc.2).1 (.int (if g > wts cc.2 then g else wts cc.2));refine⟨_,nU,_,_,_,_,_,rfl,zav (s9.trans v10) hd,zb,m1,m2,#[O],fun x=>?_,fun f hf=>?_⟩
    ·rw [m4 x,kZ x,take_snoc ng];constructor
     ·rintro (⟨c',h1,h2⟩ | e)
      ·exact⟨c',aJ _ h1,h2⟩
      ·exact⟨cc,aD _ (aW.mpr rfl),e⟩
     ·rintro⟨c',h1,h2⟩;rcases aR.mp h1 with h1 | h1
      ·exact .inl ⟨c',h1,h2⟩
      ·rw [aW.mp h1] at h2;exact .inr h2
    ·by_cases CQ:f=(pkP p k cc.2).1
     ·subst CQ;refine⟨_,zc4 ..,?_⟩;split <;> assumption
     ·rcases (m4 f).mp hf with h1 | h1
      ·obtain⟨v,h2,h3⟩:=rJ f h1;exact⟨v,by rw [zd1 (fun e=>CQ (zdD e))]; exact h2,h3⟩
      ·exact absurd h1 CQ
   ·rintro σ H9 ⟨kvs,kE,e9,qW,qX,pK,pL,rfl,s9,CP,mU,mH,oU,kZ,rJ⟩;rw [aa,pY] at oU kZ;rw [bf] at kZ;refine⟨_,rfl,q d kvs kE H9 ?_ (sA6.trans (s7.trans s9)) (hB6.same (s7.trans s9)) CP mU mH #[O] (fun f hf=>?_) (fun f hf x6 sJ=>?_) fun f hf=>?_⟩
    ·by_cases e:d=t.tab
     ·rw [e] at hd;obtain⟨ps,vW⟩:=hB6.at_;rw [s7 _ _ vW] at hd;cases hd
     ·have:=(sA6.trans s7).free hd;unfold hide at this;rw [if_neg e] at this;exact this
    ·obtain⟨cc,h1,rfl⟩:=(kZ f).mp hf;exact (zjY hp vf (hP.ok cc h1)).1
    ·obtain⟨cc,h1,h2⟩:=zkT hp vf hP hf (by rw [zeN lM]; exact x6) (by rw [(lM.filter _).length_eq]; exact sJ);exact (kZ f).mpr ⟨cc,h1,h2.symm⟩
    ·obtain⟨v,h1,h2⟩:=rJ f hf;exact⟨v,h1,by rw [<- zeN lM]; exact h2⟩
theorem zfs {p:Int} {ts:List Wt3} (mH:pl.Nodup) (lR:∀ x∈pl,0<=x/\x < p) (h1:(ts.map pt).Nodup) (h2:∀ q∈ts,0<=q.1/\q.1 < pl.length/\0<=q.2.1/\q.2.1 < p/\0<=q.2.2):Wp p #[o0]:=by
 have hg:∀ q∈ts,∃ hn:q.1.toNat < pl.length,pl.getD q.1.toNat 0=pl[q.1.toNat]:=fun q hq=>by
  obtain⟨z0,z1,_⟩:=h2 q hq;have hn:q.1.toNat < pl.length:=by lia
  exact⟨hn,by rw [bd,ah hn]; rfl⟩
 refine#[LP]
 ·rw [aI,bi,bv];rw [bi,bv] at h1;refine cN (fun {a b} ha hb n e=>n ?_) h1;obtain⟨na,ea⟩:=hg a ha;obtain⟨nb,eb⟩:=hg b hb;have e1:pl.getD a.1.toNat 0=pl.getD b.1.toNat 0:=congrArg Prod.fst e;have e2:a.2.1=b.2.1:=congrArg Prod.snd e;rw [ea,eb] at e1;have e3:=(dQ mH).mp e1;have:=(h2 a ha).1;have:=(h2 b hb).1;have e4:a.1=b.1:=by lia
  unfold pt;rw [e4,e2]
 ·obtain⟨z,hz,rfl⟩:=aF.mp hq;obtain⟨nz,ez⟩:=hg z hz;obtain⟨_,_,a,b,c⟩:=h2 z hz;have:=lR _ (bF nz);rw [<- ez] at this;exact⟨this.1,this.2,a,b,c⟩
structure Gss (p:Int) (pl:List Int) (ts:List Wt3):Prop where
 nd:(ts.map pt).Nodup
 rg:∀ q∈ts,0<=q.1/\q.1 < pl.length/\0<=q.2.1/\q.2.1 < p/\0<=q.2.2
noncomputable def ziD (t:Adr) (K:af):Sp:=fun vs H Q E=>∃ (c tt g:Addr) (p T:Int) (k:Nat) (pl:List Int) (bs:List Addr) (ts:List Wt3),vs = [.ref c,.ref g,.int T]/\zaZ H c tt p k pl/\H g=some #[ul]/\T3 H bs ts/\Gss p pl ts/\p∈zy/\pl.Nodup/\(∀ x∈pl,0<=x/\x < p)/\1<=k/\k<=5/\ts.length<=30/\ts.length ^ k<=1000000/\TbA t H /\
 ∃ low,zeb ((mxs (#[o0].map kw)).map (·.2)) (k - 1) low /\
 ((T<=low/\∀ H',zw H H'->E (.ref t.Ff) none H')\/(low < T/\∀ (l:Addr) (rs:List Addr) (qs:List #[Iv]) (H':Hp),H l=none->zw #[K6] H'->TbA t H'->H' l=some #[Jt]->zbl H' rs qs->qs.length<=1000000->zdd p k qs->(∀ q,q∈qs↔IsP p k q/\T<=wsum p q #[o0])->Q #[JF] H'))
theorem zbD:DF ["code","guesses","least","p","k","places","points","found"] ["code","guesses","least"] (zh zcn):=#[S]
theorem zj2 (T:Txt K mg base t) (F:Fun K "heavy" "heavy" zcn t.GA fd):D1 P w K mg base (CX1 P w) 5 t.GA fd ["code","guesses","least"] (ziD t K):=by
 obtain⟨lB,kG,kH⟩:=T.DJ;have k6:=zbq (P:=P) (w:=w) (base:=base) T kG;obtain⟨mh,kS,kT⟩:=T.DN;have lI:=zca (P:=P) (w:=w) (base:=base) T kS;obtain⟨m5,lP,lg⟩:=T.DM;have nq:=zc5 (P:=P) (w:=w) (base:=base) T lP;obtain⟨mX,lq,lr⟩:=T.DY;have mf:=zc3 (P:=P) (w:=w) (base:=base) T lq;refine F.okX zbD #[pc] #[ld]
 ·obtain⟨c,tt,g,p,T',k,pl,bs,ts,rfl,_⟩:=h;rfl
 ·obtain⟨c,tt,g,p,T',k,pl,bs,ts,rfl,hc,hg,hT,hG,hp,mH,lR,k1,k5,hn,t9,qp,low,pe,q⟩:=h;have hu:(A.deeper (envOfC (bG "heavy") (zh zcn) s.heap.objs.size t.GA kL)).units+1 < cLine:=by have:=hr.units; lia
  refine zbg ?_; intro zX;refine⟨_,#[ze,#[zcz,#[xL],#[zbd,#[zm,#[zj,3,zbD.nd,#[KI]],#[zm,#[zj,4,zbD.nd,#[A]],#[zm,#[zj,5,zbD.nd,#[A]],#[zad]]]]]],#[ze,#[zn,6,zbD.nd,#[KI],#[zu,k6,#[pp],T.DT,kG.kp,kH,#[zY],#[L5]]],#[ze,#[zaX,#[zH,#[ziW],#[IO],#[zu,lI,#[pp],T.Er,kS.kp,kT,#[zY],#[za,#[KH],#[ya,#[zt,#[zce],T.HM,jL,#[za,#[zi,#[zbe],#[Je],#[zg]],#[IB]]]]]],(z7 _)],#[zl,(@zjo _ _ _ _ _ _ _ _ _ (fun _ _ _ _ _ _ _ _ I m q=>zgU I m q) rfl rfl T.F4 T.D5 #[zeT] #[D] (by rfl) (by rfl))],#[zaq]],#[ze,#[zn,7,zbD.nd,#[KI],#[zu,nq,#[pp],T.EC,lP.kp,lg,#[zY],#[za,#[Iz],by exact #[za,#[Je],#[za,#[KH],#[LO]]]]]],#[zl,#[zJ,#[zat,(DH.of (N':=["polynomial","found","least","p","points"]) (ix:=[none,some 7,some 2,some 3,some 6]) (zh zcn) _ rfl rfl rfl),#[za5],#[zae,#[zt,(@zfh _ rfl),T.EK,gW,#[ya,#[pvx,7]]]],#[ut],(fun _ _ _ _=>#[zbA,(@PW.pt _ _ _ #[zg7,#[zH,#[zhc],#[zhq,hu,#[Ev],#[xL]],#[IO],(z7 _)],#[zgz,#[zH,#[zhc],#[zu,mf,#[pp],T.EM,lq.kp,lr,#[zY],#[za,#[Iz],#[za,#[Je],#[LN]]]],#[IO],(z7 _)]]])]),#[Mn]]]]]]]],?_⟩;refine zlC ?_; intro wa sZ pW oR;have oE:=be;have rp:=zQ hp;have hW:=zfs mH lR hG.nd hG.rg;refine⟨_,rfl,c,_,rfl,kJ.of hc.1,rfl,_,_,rfl,_,_,rfl,_,_,rfl,rfl,?_⟩;refine⟨_,rfl,_,rfl,c,tt,g,p,k,pl,bs,ts,rfl,hc,hg,hT,#[O],(fun z hz=>⟨(hG.rg z hz).1,(hG.rg z hz).2.1⟩),fun l ds H1 hl s1 h1 AJ=>?_⟩;refine⟨_,rfl,_,rfl,_,rfl,_,_,rfl,rfl,_,_,rfl,l,k - 1,ds,_,?_,h1,AJ,by rw [aa]; lia,(fun z hz=>(hW.rg z hz).2.2.2.2),fun v H2 hv s2=>?_⟩
  ·have e:(if (0:Int) > (k:Int) - 1 then (0:Int) else (k:Int) - 1)=((k - 1:Nat):Int):=by split <;> lia
   rw [e]; rfl
  have ev:v=low:=hv.one pe (.refl _);subst ev;refine⟨_,_,rfl,rfl,_,rfl,?_⟩;rcases q with ⟨hle,q⟩ | ⟨kU,q⟩
  ·refine zaW (fun _=>?_) (fun h=>absurd (decide_eq_true hle) h);exact⟨rfl,q H2 (s1.trans s2)⟩
  refine zaW (fun h=>absurd #[IX] #[O]) #[wE];have wg:=s1.trans s2;have pT:=qp.same wg;obtain⟨ps2,B'⟩:=pT.at_;have tD:=s2 _ _ h1;have pU:=AJ.same s2;refine⟨_,rfl,_,rfl,_,rfl,_,rfl,l,p,T',k,ds,_,rfl,tD,pU,hW,hp,k1,k5,by rw [aa]; lia,by rw [aa]; exact t9,pT,fun d kvs kE H3 hd s3 va h3d mU nW oU hP l9 rJ=>?_⟩;have hlT:l≠t.tab:=fun e=>by rw [e,B'] at tD; cases tD
  have xb:=s3 _ _ (zI tD hlT);have pZ:=(pU.hid B').same s3;refine⟨_,rfl,d,k,p,kvs,kE,rfl,h3d,mU,hP,k1,#[O],fun l2 lQ mS lZ yr CS=>?_⟩;have v4:=zd (o:=.lst (lQ.map fun q=>V.ref q.1)) mS;have xf:kx H3 l2 (.lst (lQ.map fun q=>V.ref q.1)) l2=some (.lst ((lQ.map (·.1)).map V.ref)):=by rw [zb,aI]; rfl
  have kB:=lZ.length_eq;rw [aa] at kB;have yt:zbl (kx H3 l2 (.lst (lQ.map fun q=>V.ref q.1))) (lQ.map (·.1)) (lQ.map (·.2)):=zbl.of fun z hz=>v4 _ _ (CS z hz)
  have h4d:=v4 _ _ h3d;have yu:=v4 _ _ xb;have hT4:=pZ.same v4;have CT:=va.same v4;have s4:=s3.trans v4;have hRi:zdd p k (lQ.map (·.2)):=zhD #[O] (fun z hz=>hP z (lZ.mem_iff.mp hz)) (lZ.nodup_iff.mpr nW) (bv.mpr yr);generalize kx H3 l2 (.lst (lQ.map fun q=>V.ref q.1))=H4 at v4 xf yt h4d yu hT4 CT s4 |-;have tE:∀ z,z∈lQ.map (·.2)↔z∈kE:=fun z=>lZ.mem_iff
  obtain⟨rs,wj⟩:∃ rs,lQ.map (·.1)=rs:=⟨_,rfl⟩;obtain⟨qs,hqs⟩:∃ qs,lQ.map (·.2)=qs:=⟨_,rfl⟩;rw [wj] at xf yt;rw [hqs] at yt hRi tE;have tu:=yt.length;have AQ:qs.length=kE.length:=by rw [<- hqs,aa]; exact kB
  refine⟨l2,rfl,⟨_,kr.of xf⟩,zal (n:=rs.length) (fun i ys H'=>zw H4 H'/\∃ us:List Addr,ys=us.map V.ref/\us.length<=i/\zbl H' us ((qs.take i).filter fun x=>decide #[xz])) ⟨fun _ _ e=>e,[],rfl,ag _,.nil⟩ ?_ ?_ ?_ ?_⟩
  ·rintro i ys H5 hi ⟨s5,_⟩;exact⟨_,.ref rs[i],kr.of (s5 _ _ xf),by rw [aB,ah hi]; rfl⟩
  ·rintro ys H5 ⟨s5,_⟩;exact⟨_,kr.of (s5 _ _ xf),by rw [aa]; exact ag _⟩
  ·rintro zS zT zE i y ys H5 H6 hi ⟨s5,us,rfl,pM,lM⟩ ⟨rfl,hy⟩;obtain⟨rb,rfl,yw⟩:=zao (hy _ (kr.of (s5 _ _ xf)));obtain⟨qq,qG,l7⟩:=Paired.get yt yw;obtain⟨v',hv1,hv2⟩:=rJ qq ((tE qq).mp (aX qG));have yx:zds H6 d (.ref rb) (some (.int v')):=by
    have:=zds.t (k:=qq.map aZ) (b:=rb) (s5 _ _ h4d) (by rw [s5 _ _ l7,aI]; rfl);rw [hv1] at this;exact this
   have tZ:(qs.take (i+1)).filter #[Jd]=(qs.take i).filter #[Jd]++[qq].filter #[Jd]:=by rw [take_snoc qG,cq]
   have yes:∀ H',zw H6 H'->T'<=wsum p qq #[o0]->#[IF].length < sizeLine/\zw H4 H'/\∃ wo:List Addr,us.map V.ref++[V.ref rb]=wo.map V.ref/\wo.length<=i+1/\zbl H' wo ((qs.take (i+1)).filter fun x=>decide #[xz]):=fun H' s' h=>by
    refine⟨by rw [aa]; lia,s5.trans s',us++[rb],by rw [av]; rfl,by rw [aA]; exact eV pM,?_⟩;rw [tZ,cT (p:=fun x=>decide #[xz]) (decide_eq_true h)];exact cr (lM.same s') ((s5.trans s') _ _ l7)
   refine⟨_,rfl,_,rfl,d,_,rfl,yx,_,rfl,_,_,rfl,rfl,_,rfl,?_⟩;refine zaW #[K0] #[K0]
   ·exact⟨_,rfl,yes H6 #[Ll] (bu #[IX] hv2)⟩
   refine⟨_,rfl,_,rfl,_,rfl,l,rb,p,qq,ds,_,rfl,s5 _ _ yu,hT4.same s5,s5 _ _ l7,by rw [aa]; lia,#[O],#[O],(fun z hz=>⟨(hW.rg z hz).1,(hW.rg z hz).2.1⟩),fun H7 s7=>?_⟩;refine#[IJ];refine zaW (fun h=>⟨_,rfl,yes H7 s7 #[IX]⟩) (fun h=>⟨s5.trans s7,us,rfl,#[O],?_⟩);rw [tZ,cw (p:=fun x=>decide #[xz]) #[KD],fE,bK];exact lM.same s7
  ·rintro ys H5 D ⟨s5,us,rfl,pM,lM⟩ hD;rw [tu,bf] at lM;have v6:=zd (o:=.lst #[IF]) hD;have sA:=s4.trans (s5.trans v6);refine q D us _ _ ?_ (fun b o e=>?_) (CT.same (s5.trans v6)) zb (lM.same v6) (bh (dP _ _) #[O]) (hRi.filter _) fun x=>?_
   ·by_cases e:D=t.tab
    ·obtain⟨ps,vW⟩:=CT.at_;rw [e,s5 _ _ vW] at hD;cases hD
    ·have:=(s4.trans s5).free hD;unfold hide at this;rw [if_neg e] at this;exact wg.free this
   ·refine sA b o ?_;unfold hide at e |-;by_cases hb:b=t.tab
    ·rw [if_pos hb] at e; cases e
    ·rw [if_neg hb] at e |-; exact wg _ _ e
   ·rw [bC,decide_eq_true_iff,tE x];constructor
    ·rintro⟨h1,h2⟩;exact⟨hP x h1,h2⟩
    ·rintro⟨h1,h2⟩;refine⟨l9 x h1 h2 ?_,h2⟩;by_cases hk:k<=(#[o0].filter (zai p x)).length
     ·exact hk
     ·have:=zdZ (f:=x) hW pe #[O];lia
noncomputable def zl6 (K:af):Sp:=fun vs H Q _=>∃ (a c tt:Addr) (ns:List Int) (at' p M top:Int) (k:Nat) (pl:List Int),vs = [.ref a,.int at',.ref c,.int M,.int top]/\kr K H a #[ww]/\ns.length<=63/\0<=at'/\at'<=900/\zaZ H c tt p k pl/\1<=k/\k<=20/\5<=p/\p<=97/\(∀ x∈pl,0<=x/\x < p)/\1<=pl.length/\pl.length<=16/\1<=M/\M<=30/\1<=top/\top<=9 /\
 ∀ (l:Addr) (bs:List Addr) (ts:List Wt3) (H':Hp),H l=none->zw H H'->H' l=some #[ul]->T3 H' bs ts->Gss p pl ts->(∀ q∈ts,1<=q.2.2/\q.2.2<=top)->(ts.length:Int)<=M->1<=ts.length->Q #[JF] H'
theorem zU:DF ["script","at","code","most","top","p","k","places","plan","draws","one","found","j","number","entry"] ["script","at","code","most","top"] (zh zaT):=#[S]
theorem zft (T:Txt K mg base t) (F:Fun K "_law_guesses" "_law_guesses" zaT t.D7 fd):D1 P w K mg base CX0 3 t.D7 fd ["script","at","code","most","top"] (zl6 K):=by
 obtain⟨mM,kM,kQ⟩:=T.Eb;have k8:=zcH (P:=P) (w:=w) (base:=base) T kM;obtain⟨nX,mi,lC⟩:=T.DR;have og:=zdv (P:=P) (w:=w) (base:=base) T mi;obtain⟨mO,kR,kX⟩:=T.Ea;have lA:=zcI (P:=P) (w:=w) (base:=base) T kR;refine F.ok zU #[pc] #[ld]
 ·obtain⟨a,c,tt,ns,at',p,M,top,k,pl,rfl,_⟩:=h;rfl
 ·obtain⟨a,c,tt,ns,at',p,M,top,k,pl,rfl,hS,kB,a0,a1,hc,k1,k2,p0,p1,lR,oC,mS,M0,M1,t0,t1,q⟩:=h;have hu:(A.deeper (envOfC (bG "_law_guesses") (zh zaT) s.heap.objs.size t.D7 kL)).units+1 < cLine:=by have:=hr.units; lia
  refine zbg ?_; intro zX;refine⟨_,#[ze,#[zcz,#[IO],#[zbd,#[zm,#[zj,5,zU.nd,#[A]],#[zm,#[zj,6,zU.nd,#[A]],#[zm,#[zj,7,zU.nd,#[A]],#[zad]]]]]],#[ze,#[zn,8,zU.nd,#[A],#[zu,k8,#[pp],T.D6,kM.kp,kQ,#[zY],#[za,#[xL],by exact #[za,#[Ev],#[Js]]]]],#[ze,#[zn,9,zU.nd,#[A],#[zu,k8,#[pp],T.D6,kM.kp,kQ,#[zY],#[za,#[xL],by exact #[za,#[zi,#[zK],#[Ev],#[zg]],#[Js]]]]],#[ze,#[zn,10,zU.nd,#[A],#[zu,og,#[pp],T.E6,mi.kp,lC,#[zY],#[za,#[Kw],#[za,#[K2],#[ya,#[KH]]]]]],#[ze,#[zn,11,zU.nd,#[KI],#[zdR]],#[ze,#[zaA,bj,#[zay,T.D0,#[ya,#[zi,#[zK],#[zg],#[zi,#[zF],#[zW,#[zO],#[Kw],#[zg]],#[Iz]]]]],#[zj,12,zU.nd,#[A]],#[ze,#[zn,13,zU.nd,#[A],#[zi,#[zF],#[zW,#[zO],#[LM],#[zi,#[zF],#[zi,#[zZ],#[zg],#[pvx,12]],#[zg]]],#[zt,#[z8],T.F7,c6,#[ya,#[pvx,7]]]]],#[ze,#[zn,14,zU.nd,#[A],#[zi,#[zF],#[zi,#[zeU],#[GT],#[zg]],#[K2]]],#[ze,(zfj #[zaX,#[zH,#[zej],#[zi,#[zF],#[GT],#[zg]],#[zg],(z7 _)],#[zl,#[zn,14,zU.nd,#[A],#[zu,lA,#[pp],T.Es,kR.kp,kX,#[zY],#[za,#[K2],#[za,#[Nx],#[ya,#[zW,#[zbL],#[pvx,7],#[LX]]]]]]]],#[zaq]]),#[zl,#[zci,hu,#[pvx,11],#[zbf,#[za,#[LX],#[ya,#[pvx,14]]]],#[zi,#[zK],#[zg],#[zi,#[zF],#[zi,#[zeU],#[GT],#[zg]],#[Je]]]]]]]]],#[zl,#[zJ,#[zat,(DH.of (N':=["number","entry","found"]) (ix:=[none,none,some 11]) (zh zaT) _ rfl rfl rfl),#[Ng],#[zlg,#[pvx,11]],#[sK],#[wn],(fun _ _ _ _=>#[zbf,#[za,#[xL],#[za,#[Ev],#[ya,#[zhq,hu,#[IO],#[zbf,#[L5]]]]]]])]]]]]]]]],?_⟩;refine zkp ?_; intro Co AF wa sZ pW oR;have oE:=be;refine⟨_,rfl,c,_,rfl,kJ.of hc.1,rfl,_,_,rfl,_,_,rfl,_,_,rfl,rfl,?_⟩;refine⟨_,rfl,_,rfl,a,ns,at',20,27720,rfl,hS,kB,#[O],#[O],#[D],#[D],#[D],#[D],fun pa ds H1 hpa s1 hd CU=>?_⟩;refine⟨_,rfl,_,rfl,_,_,rfl,rfl,a,ns,at'+1,60,27720,rfl,s1.seq hS,kB,#[O],#[O],#[D],#[D],#[D],#[D],fun da es H2 hda s2 he h2d=>?_⟩;have pY:ds.length=20:=hd.1;have hel:es.length=60:=he.1;have h2p:=s2 _ _ CU;refine⟨_,rfl,_,rfl,_,rfl,pa,ds,p,k,rfl,kr.of h2p,#[O],#[O],fun on qC H3 hon s3 Cu h3o _=>?_⟩;intro Fd CV;have v4:=zd (o:=.dT []) CV;have h4F:kx H3 Fd (.dT []) Fd=some (.dT []):=zb;have CW:=(s1.trans s2).trans s3;obtain⟨d6,m6,g6⟩:=zbp (ns:=ds) (k:=6) #[D] #[O];have b6:=aM d6 (show M≠0 by lia);have b6':=aE d6 (show 0 < M by lia);have yu:=v4 _ _ (s3 _ _ h2p);generalize kx H3 Fd (.dT [])=H4 at v4 h4F yu |-;refine⟨_,rfl,pa,_,_,_,rfl,rfl,kr.of yu,g6,_,rfl,_,_,rfl,rfl,(by show (0:Int) < M; lia),_,_,rfl,rfl,_,rfl,#[O],#[O],?_⟩;obtain⟨n,hn⟩:∃ n:Nat,(1+d6 % M).toNat=n:=⟨_,rfl⟩;rw [hn];refine zaP (lo:=0) (n:=n) (fun i σ H'=>∃ (kvs:List (List Key×V)) (kE:List #[Iv]) (pK pL qY:Option V),σ = [some #[IT],some (.int at'),some #[K3],some (.int M),some (.int top),some #[Ld],some (.int (k:Int)),some (.ref tt),some (.ref pa),some (.ref da),some (.ref on),some (.ref Fd),pK,pL,qY]/\zw H3 H'/\H' Fd=some #[IL]/\KeysAre kvs kE/\kE.Nodup/\kE.length<=i/\(0 < i->kE≠[])/\∀ m∈kE,∃ x y w,m = [x,y]/\0<=x/\x < pl.length/\0<=y/\y < p/\zaB kvs (m.map aZ)=some (.int w)/\1<=w/\w<=top)
   ⟨[],[],none,none,none,rfl,v4,h4F,rfl,#[M],ag _,(fun h=>by lia),fun m hm=>by cases hm⟩ ?_ ?_
  ·rintro zD zT i σ H5 hi ⟨kvs,kE,pK,pL,qY,rfl,s5,CY,mU,mH,oU,lW,xw⟩;have AR:=(s3.trans s5) _ _ h2d;have AS:=hc.same (CW.trans s5);have a1':=aM (2*(0+(i:Int))) (show (60:Int)≠0 by decide);have a2':=aE (2*(0+(i:Int))) (show (0:Int) < 60 by decide);obtain⟨x1,mx1,gx1⟩:=zbp (ns:=es) (k:=2*(0+(i:Int)) % 60) a1' #[O];refine⟨_,rfl,_,rfl,_,_,rfl,rfl,.inl #[AC],_,_,rfl,rfl,(by show (0:Int) < 60; decide),da,_,_,_,rfl,rfl,kr.of AR,gx1,_,rfl,tt,_,rfl,.inr (kJ.of AS.2),_,_,rfl,rfl,(by show (0:Int) < _; rw [aa]; lia),?_⟩;have qS:=aM x1 (show (#[JT].length:Int)≠0 by rw [aa]; lia);have AU:=aE x1 (show (0:Int) < (#[JT].length:Int) by rw [aa]; lia);obtain⟨nx,ve⟩:∃ nx,x1 % ((pl.map V.int).length:Int)=nx:=⟨_,rfl⟩;rw [ve] at qS AU;rw [aa] at AU;have a3:=aM (2*(0+(i:Int))+1) (show (60:Int)≠0 by decide);have a4:=aE (2*(0+(i:Int))+1) (show (0:Int) < 60 by decide);obtain⟨x2,mx2,gx2⟩:=zbp (ns:=es) (k:=(2*(0+(i:Int))+1) % 60) a3 #[O];have a5:=aM (3*(0+(i:Int))+1) (show (60:Int)≠0 by decide);have a6:=aE (3*(0+(i:Int))+1) (show (0:Int) < 60 by decide);obtain⟨x3,mx3,gx3⟩:=zbp (ns:=es) (k:=(3*(0+(i:Int))+1) % 60) a5 #[O];have sD:=aM (x2 / 7) (show p≠0 by lia);have ey1:=aE (x2 / 7) (show 0 < p by lia);have ew0:=aM (x3 / 5) (show top≠0 by lia);have ew1:=aE (x3 / 5) (show 0 < top by lia);have hpx:0<=pl.getD nx.toNat 0/\pl.getD nx.toNat 0 < p:=by
    have uS:nx.toNat < pl.length:=by lia
    rw [bd,ah uS];exact lR _ (bF uS)
   have h5o:=s5 _ _ h3o;have uF:kvs.length=kE.length:=by
    have:=congrArg bU mU;rw [aa,aa] at this;exact this
   refine⟨_,rfl,_,rfl,_,_,rfl,rfl,.inl #[AC],_,_,rfl,rfl,_,_,rfl,rfl,(by show (0:Int) < 60; decide),da,_,_,_,rfl,rfl,kr.of AR,gx2,_,_,rfl,rfl,#[AC],_,rfl,_,_,rfl,rfl,(by show (0:Int) < p; lia),?_⟩;refine⟨fun σ H'=>∃ y:Int,σ = [some #[IT],some (.int at'),some #[K3],some (.int M),some (.int top),some #[Ld],some (.int (k:Int)),some (.ref tt),some (.ref pa),some (.ref da),some (.ref on),some (.ref Fd),some (.int (0+(i:Int))),some (.int nx),some (.int y)]/\H'=H5/\0<=y/\y < p,?_,?_⟩
   ·refine⟨_,rfl,_,rfl,_,_,rfl,rfl,.inl #[AC],_,_,rfl,rfl,_,_,rfl,rfl,(by show (0:Int) < 60; decide),da,_,_,_,rfl,rfl,kr.of AR,gx2,_,_,rfl,rfl,(by show (0:Int) < 7; decide),_,_,rfl,rfl,_,rfl,zaW #[wE] #[wE]⟩
    ·refine⟨_,rfl,_,rfl,_,rfl,_,rfl,tt,_,_,_,rfl,rfl,kJ.of AS.2,(by show atI #[JT] (x1 % (#[JT].length:Int))=_; rw [ve]; exact zhH qS AU),p,_,on,qC,rfl,.inr (kJ.of h5o),#[O],#[O],hpx.1,hpx.2,zr p (pl.getD nx.toNat 0) qC,?_,rfl,za6 #[O] _,za7 #[O] _⟩;rw [<- ve]; rfl
    ·refine⟨_,?_,rfl,sD,ey1⟩;rw [<- ve]; rfl
   ·rintro σ' H' ⟨y,rfl,rfl,y0,y1⟩;refine⟨_,rfl,_,rfl,_,_,rfl,rfl,.inl #[AC],_,_,rfl,rfl,_,_,rfl,rfl,(by show (0:Int) < 60; decide),da,_,_,_,rfl,rfl,kr.of AR,gx3,_,_,rfl,rfl,#[AC],_,rfl,_,_,rfl,rfl,(by show (0:Int) < top; lia),_,_,rfl,rfl,_,rfl,_,rfl,_,rfl,by show 2<=sizeLine; lia,fun kt yn=>?_⟩;have v6:=zd (o:=.tup [.int nx,.int y]) yn;have h6F:=v6 _ _ CY;refine⟨Fd,_,rfl,zf5.t (k:=[aZ nx,aZ y]) h6F zb #[O],?_⟩;obtain⟨nU,m1,m2,m3,m4⟩:=zcV mU mH [nx,y] (.int (1+x3 / 5 % top));refine⟨_,nU,_,_,_,rfl,zav (s5.trans v6) CV,zb,m1,m2,#[O],(fun _ e=>?_),fun m hm=>?_⟩
    ·have:=(m4 [nx,y]).mpr (.inr rfl);rw [e] at this;cases this
    ·by_cases xH:m = [nx,y]
     ·subst xH;exact⟨nx,y,1+x3 / 5 % top,rfl,qS,AU,y0,y1,zc4 ..,#[O],#[O]⟩
     ·rcases (m4 m).mp hm with h1 | h1
      ·obtain⟨x,y',w',b1,b2,b3,b4,b5,b6,b7,b8⟩:=xw m h1;exact⟨x,y',w',b1,b2,b3,b4,b5,by rw [zd1 (k:=[aZ nx,aZ y]) (fun e=>xH (zdD (b:=[nx,y]) e))]; exact b6,b7,b8⟩
      ·exact absurd h1 xH
  ·rintro σ H5 ⟨kvs,kE,pK,pL,qY,rfl,s5,CY,mU,mH,oU,lW,xw⟩;have uF:kvs.length=kE.length:=by
    have:=congrArg bU mU;rw [aa,aa] at this;exact this
   refine⟨_,rfl,Fd,kvs,rfl,CY,fun ob=>?_⟩;refine zal (n:=kvs.length) (fun i ys H'=>zw (hide H5 Fd) H'/\H' Fd=some (.frz ob #[IL])/\∃ (us:List Addr) (ts:List Wt3),ys=us.map V.ref/\T3 H' us ts/\ts.map (fun q=>[q.1,q.2.1])=kE.take i/\∀ q∈ts,0<=q.1/\q.1 < pl.length/\0<=q.2.1/\q.2.1 < p/\1<=q.2.2/\q.2.2<=top) ⟨zgm,zb,[],[],rfl,.nil,rfl,fun q hq=>by cases hq⟩ (fun i ys H' hi hq=>by obtain⟨_,hK,_⟩:=hq; exact⟨hK,hi⟩) (fun ys H' hq=>by obtain⟨_,hK,_⟩:=hq; exact⟨hK,ag _⟩) ?_ ?_
   ·rintro zS zT zE i y ys H8 H9 hi ⟨s8,xg,us,ts,rfl,lM,sm,oQ⟩ ⟨rfl,a',kk,rfl,hk,ha⟩;obtain⟨qq,qG,rfl⟩:∃ qq,kE[i]? = some qq/\kk=qq.map aZ:=by
     rw [mU,aB] at hk;cases e:kE[i]? with
     | none=>rw [e] at hk; cases hk
     | some qq=>rw [e] at hk; exact⟨qq,rfl,(aQ hk).symm⟩
    obtain⟨x,y,w',rfl,b2,b3,b4,b5,b6,b7,b8⟩:=xw qq (aX qG);have pM:=lM.length;have rq:=congrArg bU sm;rw [aa,aG] at rq;have wR:H9 a'=some (.tup [.int x,.int y]):=ha;refine gY2 (kJ.of wR) ⟨_,rfl,_,rfl,_,rfl,_,rfl,_,rfl,by show 2<=sizeLine; lia,fun kt yn=>?_⟩;have v10:=zd (o:=.tup [.int x,.int y]) yn;have yx:zds (kx H9 kt (.tup [.int x,.int y])) Fd (.ref kt) (some (.int w')):=by
     have:=(show zds (kx H9 kt (.tup [.int x,.int y])) Fd (.ref kt) (zaB kvs [aZ x,aZ y]) from .inr ⟨kvs,_,kt,.inr ⟨ob,v10 _ _ xg⟩,rfl,zb,rfl⟩);rw [show zaB kvs [aZ x,aZ y]=some (.int w') from b6] at this;exact this
    refine⟨Fd,_,rfl,yx,by show 3<=sizeLine; lia,fun T2 pU=>?_⟩;have v11:=zd (o:=.tup [.int x,.int y,.int w']) pU;refine⟨by rw [aa]; lia,s8.trans (v10.trans v11),(v10.trans v11) _ _ xg,us++[T2],ts++[(x,y,w')],by rw [av]; rfl,cr (lM.same (v10.trans v11)) zb,?_,fun z hz=>?_⟩
    ·rw [av,sm,take_snoc qG]; rfl
    ·rcases aR.mp hz with hz | hz
     ·exact oQ z hz
     ·(rw [aW.mp hz])
      exact⟨b2,b3,b4,b5,b7,b8⟩
   ·rintro ys H6 D ⟨s6,vh,us,ts,rfl,lM,sm,oQ⟩ hD;rw [uF,bf] at sm;have pM:=lM.length;have rq:=congrArg bU sm;rw [aa] at rq;have v7:=zd (o:=.lst #[IF]) hD;have xh:zw H3 (hide H5 Fd):=fun b u e=>zI (s5 _ _ e) (zq e CV)
    have sx:1<=n:=by lia
    have tY:=lW sx;have sP:kE.length≠0:=fun e=>tY (dw.mp e)
    refine q D us ts _ ((CW.trans (xh.trans s6)).free hD) (CW.trans (xh.trans (s6.trans v7))) zb (lM.same v7) ⟨?_,fun z hz=>?_⟩ (fun z hz=>⟨(oQ z hz).2.2.2.2.1,(oQ z hz).2.2.2.2.2⟩) #[O] #[O]
    ·rw [<- sm,bi,bv] at mH;rw [bi,bv];refine mH.imp fun {a b} n e=>n ?_
     unfold pt at e;injection e with e1 e2
     rw [e1,e2]
    ·obtain⟨c1,c2,c3,c4,c5,_⟩:=oQ z hz;exact⟨c1,c2,c3,c4,#[O]⟩
theorem zcb:DF ["code","guesses","one","places"] ["code","guesses","one"] (zh zaM):=#[S]
theorem zcc (T:Txt K mg base t) (F:Fun K "_law_weight_of" "_law_weight_of" zaM t.DX fd):D1 P w K mg base CX0 2 t.DX fd ["code","guesses","one"] (zj0 K):=by
 obtain⟨mO,kR,kX⟩:=T.Ea;have lA:=zcI (P:=P) (w:=w) (base:=base) T kR;refine F.ok zcb #[pc] #[ld]
 ·obtain⟨c,tt,g,f,p,k,pl,cs,bs,ts,rfl,_⟩:=h;rfl
 ·obtain⟨c,tt,g,f,p,k,pl,cs,bs,ts,rfl,hc,hg,hT,hf,hn,p0,p1,hq,lR,q⟩:=h;refine zbg ?_; intro zX;refine⟨_,#[ze,#[zn,3,zcb.nd,#[KI],#[zW,#[zbL],#[xL],#[zg]]],#[zl,#[zJ,#[zt,#[zcj],T.HL,jK,#[ya,#[zat,(DH.of (N':=["number","entry","weight","code","one","places"]) (ix:=[none,none,none,some 0,some 2,some 3]) (zh zaM) _ rfl rfl rfl),#[Lz],#[zae,#[Ev]],#[u8],(fun _ _ _ _=>#[zbA,#[zH,#[zdF],#[zu,lA,#[pp],T.Es,kR.kp,kX,#[zY],#[za,#[zW,#[zcg,(K)],#[Iz],#[zg]],#[za,#[Je],#[ya,#[zW,#[zcg,(K)],#[K2],#[xL]]]]]],#[Ev],(z7 _)]]),(fun _ _ _ _=>#[IO])]]]]]],?_⟩;refine zlB ?_; intro oR;have oE:=be;have pJ:=hT.length;refine⟨_,rfl,c,_,_,_,rfl,rfl,kJ.of hc.1,rfl,?_⟩;refine⟨_,rfl,g,rfl,⟨_,kr.of hg⟩,zal (n:=bs.length) (fun i ys H'=>ys=(((#[Lh].map (wpp pl)).filter #[KJ]).map (·.2.2)).map V.int/\zw H H') ⟨rfl,fun _ _ e=>e⟩ ?_ ?_ ?_ ?_⟩
  ·rintro i ys H3 hi ⟨_,s3⟩;exact⟨_,.ref bs[i],kr.of #[LY],by rw [aB,ah hi]; rfl⟩
  ·rintro ys H3 ⟨_,s3⟩;exact⟨_,kr.of #[LY],by rw [aa]; exact ag _⟩
  ·rintro zS zT zE i xx ys H3 H4 hi ⟨rfl,s3⟩ ⟨rfl,uD⟩;obtain⟨b,rfl,sG⟩:=zao (uD _ (kr.of #[LY]));obtain⟨z,hz,hb⟩:=Paired.get hT sG;obtain⟨z0,z1⟩:=hq z (aX hz);obtain⟨w0,w1⟩:=zg3 hq lR #[L9] (bT (aX hz));have yy:=hc.same s3;have e1:((ts.take (i+1)).map (wpp pl)).filter #[KJ]=(#[Lh].map (wpp pl)).filter #[KJ]++[wpp pl z].filter #[KJ]:=by rw [take_snoc hz,av,cq]; rfl
   have yf:=dP #[KJ] (#[Lh].map (wpp pl));rw [aa,aG] at yf;refine#[IK];refine⟨_,rfl,c,_,_,_,rfl,rfl,kJ.of yy.1,rfl,_,rfl,_,rfl,_,rfl,tt,_,_,_,rfl,rfl,kJ.of yy.2,zhH z0 z1,p,#[L9].1,f,cs,rfl,.inr (kJ.of (s3 _ _ hf)),p0,p1,w0,w1,_,rfl,rfl,_,rfl,?_⟩;have eD:decide (V.int (zr p #[L9].1 cs)=V.int z.2.1)=zai p cs #[L9]:=by
    show _=decide (zr p #[L9].1 cs=z.2.1);by_cases h:zr p #[L9].1 cs=z.2.1
    ·rw [h]; simp
    ·rw [decide_eq_false h,decide_eq_false fun e=>h (by injection e)]
   rw [eD,e1];refine zaW (fun h=>⟨_,rfl,?_,?_,s3⟩) (fun h=>⟨?_,s3⟩)
   ·rw [aa,aa]; lia
   ·rw [cT h,av,av]; rfl
   ·rw [cw h,fE,bK]
  ·rintro ys H3 D ⟨rfl,s3⟩ hD;rw [pJ,bf];exact#[LK]
noncomputable def ziE (H:Hp):List Addr->List (List V)->Prop:=Paired fun l c=>H l=some (.lst c)
theorem ziE.same (s:zw H H') {ls:List Addr} {cs:List (List V)} (h:ziE H ls cs):ziE H' ls cs:=eR #[Kn] h
noncomputable def zhI (K:af):Nat->Sp
 | 0=>fun _ _ _ _=>False
 | m+1=>fun vs H Q _=>∃ (a:Addr) (ns:List V),vs = [.ref a,.int (m:Int)]/\kr K H a ns/\ns.length<=60/\m<=100/\ns.length ^ m<=1000000 /\
  ∀ (l:Addr) (ls:List Addr) (cs:List (List V)) (H':Hp),H l=none->zw H H'->H' l=some (.lst (ls.map V.ref))->ziE H' ls cs->cs.length<=ns.length ^ m->(∀ c,c∈cs↔c.Sublist ns/\c.length=m)->Q #[JF] H'
theorem zj3 (xs:List V) (i:Nat):zc7 xs (some (i:Int)) none=xs.drop i:=by
 unfold zc7;rw [HT.Gs,HT.F5];by_cases h:i<=xs.length
 ·rw [fu h];exact aV (by rw [bL]; exact ag _)
 ·rw [Nat.min_eq_right #[O],bZ (ag _),bZ #[O]];simp
theorem zbn:DF ["some","many","found","at"] ["some","many"] (zh zaU):=#[S]
theorem zcy:∀ (m:Nat) {fd:FuncData} (T:Txt K mg base t) (F:Fun K "_law_choices" "_law_choices" zaU t.DU fd),D1 P w K mg base CX0 (m+1) t.DU fd ["some","many"] (zhI K m):=by
 intro m;induction m with
 | zero=>exact fun {fd} T F=>F.ok zbn (fun vs H Q E h=>h.elim) (fun kL A outer s H vs Q E hr h=>h.elim)
 | succ m ih =>
  intro fd T F;obtain⟨m7,lu,lx⟩:=T.DZ;have mj:=ih T lu;refine F.ok zbn #[pc] #[ld]
  ·obtain⟨a,ns,rfl,_⟩:=h;rfl
  obtain⟨a,ns,rfl,hS,hn,hm,vZ,q⟩:=h;refine⟨_,#[ze,#[zaX,#[zH,#[zdF],#[Ev],#[zg],(z7 _)],#[zl,#[zJ,#[zag,#[ya,#[Nh]]]]],#[zaq]],#[ze,#[zn,2,zbn.nd,#[A],#[Nh]],#[ze,#[zaA,bj,#[zay,T.D0,#[ya,#[Jq]]],#[zj,3,zbn.nd,#[KI]],#[zl,#[zcJ,#[zdf,bP,gB,gC,#[zes],#[IO],#[ya,#[zat,(DH.of (N':=["one","some","at"]) (ix:=[none,some 0,some 3]) (zh zaU) _ rfl rfl rfl),#[za5],#[zae,#[zu,mj,(hr.mono (ag _)),T.EN,lu.kp,lx,#[zY],#[za,#[zbo,zbM,#[xL],#[zbK,#[zi,#[zK],#[Iz],#[zg]]],#[zbJ]],#[ya,#[zi,#[zbe],#[Ev],#[zg]]]]]],#[ut],#[wn],(fun _ _ _ _=>#[zi,#[zbN],#[zag,#[ya,#[zW,#[zfO,(K)],#[Ev],#[IO]]]],#[xL]])]]]]]],#[zl,#[zJ,#[IO]]]]]],?_⟩;have oE:=be;have r0:zw H H:=fun _ _ e=>e
  refine⟨_,rfl,rfl,_,rfl,zaW (fun h0=>?_) (fun h0=>?_)⟩
  ·have h0:(m:Int)=0:=by
    have:=of_decide_eq_true h0;injection this
   have h0:m=0:=by lia
   subst h0;refine⟨bg _,fun L0 hL0=>⟨by show 1<=sizeLine; lia,fun l hl=>?_⟩⟩;have u0:=zd (o:=.lst []) hL0;refine q l [L0] [[]] _ (u0.free hl) (u0.trans (zd hl)) zb (.cons ((zd hl) _ _ zb) .nil) #[M] fun c=>?_
   rw [aW,dw];exact⟨fun e=>by subst e; exact⟨jI _,rfl⟩,fun e=>e.2⟩
  ·have h0:m≠0:=fun z=>h0 (decide_eq_true (by rw [z]; rfl))
   cases m with
   | zero=>exact absurd rfl h0
   | succ m =>
   refine#[Ln];have s0:=zd (o:=.lst []) hD;refine⟨_,rfl,a,_,rfl,.inl (s0.seq hS),_,rfl,#[O],#[O],?_⟩;rw [bO];refine zaP (lo:=0) (n:=ns.length) (fun i σ H'=>∃ (e3:Option V) (ls:List Addr) (cs:List (List V)),σ = [some #[IT],some (.int ((m+1:Nat):Int)),some #[Is],e3]/\zw H H'/\H' D=some (.lst (ls.map V.ref))/\ziE #[L1] ls cs/\cs.length<=i*ns.length ^ m /\
    ∀ c,c∈cs↔∃ (j:Nat) (x:V) (c':List V),j < i/\ns[j]? = some x/\c=x :: c'/\c'.Sublist (ns.drop (j+1))/\c'.length=m)
    ⟨none,[],[],rfl,s0,zb,.nil,#[M],fun c=>by simp⟩ ?_ ?_
   ·rintro zD zT i σ H1 hi ⟨e3,ls,cs,rfl,s1,oT,hI,kB,kZ⟩;have ur:=hI.length;obtain⟨x,hx⟩:∃ x,ns[i]? = some x:=⟨ns[i]'hi,#[M]⟩;have CZ:atI ns (0+(i:Int))=some x:=by rw [Int.zero_add]; exact zcf hx
    have AN:ns.length ^ m<=1000000:=bh (cO #[O] (Nat.le_succ m)) vZ;have em:((m+1:Nat):Int) - 1=(m:Int):=by lia
    have ec:(0+(i:Int))+1=((i+1:Nat):Int):=by lia
    have hSa:=s1.seq hS;refine⟨_,rfl,.inl ⟨rfl,_,kr.of oT⟩,_,rfl,_,rfl,_,_,rfl,rfl,_,rfl,a,_,rfl,hSa,fun z hz=>?_⟩;rw [ec,zj3];have v1:=zd (o:=.lst (ns.drop (i+1))) hz;refine⟨_,rfl,_,_,rfl,rfl,z,ns.drop (i+1),by show [V.ref z,V.int (((m+1:Nat):Int) - 1)]=_; rw [em],kr.of zb,by rw [bL]; lia,#[O],by rw [bL]; exact bh (ed (Nat.sub_le _ _) m) AN,fun l ls' cs' H3 hl s3 xb hI' vd mI=>?_⟩;have xi:=v1.trans s3;have tw:=xi _ _ oT;have C0:=hI'.length;rw [bL] at vd;have hpow:(ns.length - (i+1)) ^ m<=ns.length ^ m:=ed (Nat.sub_le _ _) m;have hmul:i*ns.length ^ m+ns.length ^ m<=ns.length ^ (m+1):=by
     have:=fB (ns.length ^ m) (show i+1<=ns.length from hi);rw [fC,iZ (ns.length ^ m)];rw [gX,gZ] at this;exact this
    refine⟨l,rfl,⟨_,kr.of xb⟩,zal (n:=ls'.length) (fun j ys H'=>zw H3 H'/\∃ us:List Addr,ys=us.map V.ref/\ziE #[L1] us ((cs'.take j).map (x :: ·))) ⟨fun _ _ e=>e,[],rfl,.nil⟩ ?_ ?_ ?_ ?_⟩
    ·rintro j ys H4 hj ⟨s4,_⟩;exact⟨_,.ref ls'[j],kr.of (s4 _ _ xb),by rw [aB,ah hj]; rfl⟩
    ·rintro ys H4 ⟨s4,_⟩;exact⟨_,kr.of (s4 _ _ xb),by rw [aa]; exact ag _⟩
    ·rintro zS zT zE j y ys H4 H5 hj ⟨s4,us,rfl,lM⟩ ⟨rfl,hy⟩;obtain⟨lo,rfl,nR⟩:=zao (hy _ (kr.of (s4 _ _ xb)));obtain⟨c',lE,hlc⟩:=Paired.get hI' nR;have B1:=(mI c').mp (aX lE);have pM:=lM.length;rw [aa,aG] at pM;refine gY ⟨_,rfl,_,rfl,a,_,_,x,rfl,rfl,(xi.trans s4).seq hSa,CZ,by show 1<=sizeLine; lia,fun b hb=>?_⟩;have v5:=zd (o:=.lst [x]) hb;refine⟨_,rfl,b,lo,[x],c',rfl,rfl,zb,v5 _ _ (s4 _ _ hlc),by rw [B1.2]; show 1+m<=sizeLine; lia,fun l2 mS=>⟨by rw [aa]; lia,s4.trans (v5.trans (zd mS)),us++[l2],by rw [av]; rfl,?_⟩⟩;rw [take_snoc lE,av];have C1:l2≠D:=fun e=>by
      rw [e,v5 _ _ (s4 _ _ tw)] at mS;cases mS
     refine cr (lM.same (zaS (v5.trans (zd mS)))) (zI ?_ C1);rw [zb];rfl
    ·rintro ys H4 Dc ⟨s4,us,rfl,lM⟩ AV;rw [C0,bf] at lM;have pM:=lM.length;rw [aa] at pM;have v6:=zd (o:=.lst #[IF]) AV;have rH:=s4 _ _ tw;have hDD:D≠Dc:=zq rH AV;refine⟨D,Dc,ls.map V.ref,us.map V.ref,rfl,rfl,v6 _ _ rH,zb,by rw [aa,aa]; lia,?_⟩;refine⟨_,ls++us,cs++cs'.map (x :: ·),rfl,?_,?_,?_,?_,fun c=>?_⟩
     ·exact zav (s1.trans (xi.trans #[M3])) hD
     ·rw [zb,av]
     ·rw [zdO];have t1:zw (hide H1 D) (hide (kx H4 Dc #[Lx]) D):=zaS (xi.trans #[M3]);have t2:zw (hide H4 D) (hide (kx H4 Dc #[Lx]) D):=zaS v6;exact zbx (hI.same t1) (lM.same t2)
     ·rw [aA,aa,gX,gZ];lia
     ·rw [aR,kZ c,aF];constructor
      ·rintro (⟨j,x',c',h1,h2,h3,h4,h5⟩ | ⟨c',h1,rfl⟩)
       ·exact⟨j,x',c',#[O],h2,h3,h4,h5⟩
       ·obtain⟨h2,h3⟩:=(mI c').mp h1;exact⟨i,x,c',#[O],hx,rfl,h2,h3⟩
      ·rintro⟨j,x',c',h1,h2,h3,h4,h5⟩;by_cases hj:j < i
       ·exact .inl ⟨j,x',c',hj,h2,h3,h4,h5⟩
       ·have:j=i:=by lia
        subst this;rw [hx] at h2;cases h2;exact .inr ⟨c',(mI c').mpr ⟨h4,h5⟩,h3.symm⟩
   ·rintro σ H1 ⟨e3,ls,cs,rfl,s1,oT,hI,kB,kZ⟩;refine⟨_,rfl,q D ls cs H1 hD s1 oT (hI.same (za9 H1 D)) (by rw [fC,iZ]; exact kB) fun c=>?_⟩;rw [kZ c,zis]
end
end My
end
section
namespace PySem
noncomputable def zP (led:Bool):Obj:={ cls:=.type "set",dict:=none,data:=.set #[] 0 (.fresh 0 0 led) }
theorem ziF:isSubtype (.type "tuple") (.type "set")=pure false:=by rw [cW]; kernel_rfl
theorem zj4:isSubtype (.type "tuple") (.type "frozenset")=pure false:=by rw [cW]; kernel_rfl
section
variable {prog:Program} {w:World} {A:Around} {E:Value->Shared->Prop} {s:Shared}
abbrev Fg (prog:Program) (w:World) (s:Shared) (ns:List Int) (n:Nat) (h':Heap):Prop :=
 h'.SetOf (intKind prog w) s.heap.objs.size (fun k'=>(h9 #[Km] n).any (· == k')) (h9 #[Km] n).length/\∀ b o,b < s.heap.objs.size->s.heap.get? b=some o->h'.get? b=some o
theorem zfu {l:Addr} {kA:Array Value} {ns:List Int} {led:Bool} {R:Result->Shared->Prop} (hh:A.handled=none) (hl:s.heap.IsTuple l kA) (hi:dZ kA.toList ns) (hb:kA.size+1 < scanBound)
  (h:∀ h' tk,Fg prog w s ns kA.size h'->R (.ok (.ret .none)) { s with heap:=h',toks:=tk }) :
  wpAny #[or] A.in1 (Builtin.«set.__init__» ⟨[.ref s.heap.objs.size,.ref l],[]⟩) (fun fin s'=>match fin with | .done f=>R (.ok f) s' | .again c'=>c'.quiet=true/\codeAny #[or] A c' R s') (fun e s'=>R (.error e) s') { s with heap:=s.heap.push #[Mz] }:=by
 have hS:#[Cl].get? s.heap.objs.size=some #[Mz]:=aC _ rfl;have kU:l < s.heap.objs.size:=by obtain⟨o,ho,_⟩:=hl; exact az ho
 have zz:#[Cl].objs.size=s.heap.objs.size+1:=bx ..;have oC:#[Cl].IsTuple l kA:=hl.push _;have hT:gd { s with heap:=s.heap.push #[Mz] } #[wf] "set":=⟨_,hS,rfl⟩;have q1:=ziF;have q2:=zj4;have q3:(gm "tuple" == gm "dict")=false:=by decide
 obtain⟨ol,C2,oF,nl,pY⟩:=id oC
 (obtain⟨C3,yz,yA,wq⟩:=ol)
 simp only at oF pY;subst oF pY;unfold Builtin.«set.__init__» noKeywords fO zP;unfold zP at hS hT C2 oC zz;generalize C4:pyIter=PI
 wp_walk
 subst C4;refine jc oC (ae (wpAny_runValue ?_));have z0:s.heap.objs.size≠s.heap.objs.size+1:=aS (gu _);refine eg ((Walks.tuple (show A.in1.in1.handled=none by simp [hh]) #[Cl].objs.size l (by rw [bx]; exact aS (cz kU)) kA).toS) s.heap.objs.size (by
   rw [bx];intro m;rcases (aK.mp m) with e | e
   ·exact z0 e
   ·exact eh kU (aW.mp e)) #[Km] (fun i v hv=>fX hi i v (by rw [aY]; exact hv)) hb (kA.size - 0) 0 _ #[O] (bg _) ⟨⟨_,aC _ rfl,rfl,rfl⟩,oC.push _⟩
  (gD (#[Nu].setOf (ai _ hS) (by unfold scanBound; lia)) #[MD] rfl) fun s' hm C5=>?_
 (obtain⟨h',g',d',C6,xn⟩:=s')
 obtain rfl:g'=s.gens:=hm.gens;obtain rfl:d'=s.drawn:=hm.drawn;obtain rfl:xn=s.os:=hm.os;refine ak ?_
 (show wpAny _ _ (ret cD) _ _ _)
 refine ak #[Ms];refine hm.heap b o ?_ (ai _ (ai _ e));intro m;rcases (aK.mp m) with e | e
 ·exact aS sL e
 ·have e:=aW.mp e;rw [bx] at e;exact aS (cz sL) e
theorem zfv {l:Addr} {kA:Array Value} {ns:List Int} {Q:Value->Shared->Prop} (hh:A.handled=none) (hl:s.heap.IsTuple l kA) (hi:dZ kA.toList ns) (hb:kA.size+1 < scanBound)
  (h:∀ h' tk,Fg prog w s ns kA.size h'->Q #[wf] { s with heap:=h',toks:=tk }):wpAny #[or] A (call (.type "set") [.ref l]) Q E s:=by
 have ft:=F.called_set
 (obtain⟨c,tl,C7⟩:=ft.mro)
 have p1:=ft.made;have p2:=ft.sub;have p3:=ft.notType;have p4:=ft.canCreate;have p5:=jM #[JF];refine dS (gJ ?_); show wpAny _ _ (callAny (.type "set") _) _ _ _;refine ak ⟨fV _ #[N],gK jw ?_⟩; rw [ji (ic "set" [.ref l] []) rfl]; repeat (any_goals (first | assumption | wp_step))
 refine c7 (code_set_new_1 #[JF] (E:=E) (Q₁:=fun obj s₁=>∃ led:Bool,obj = .ref s.heap.objs.size/\s₁ = { s with heap:=s.heap.push #[Mz] }) fun led=>⟨led,rfl,rfl⟩) fun r s₁ hr=>?_
 cases r with
 | error e=>exact hr
 | ok fl =>
  cases fl with
  | ret obj =>
   obtain⟨led,rfl,rfl⟩:=hr;have hS:#[Cl].get? s.heap.objs.size=some #[Mz]:=aC _ rfl;have hT:gd { s with heap:=s.heap.push #[Mz] } #[wf] "set":=⟨_,hS,rfl⟩;have p6:=ft.init.lookup;have p7:=ft.init.bind #[wf]; repeat (any_goals (first | assumption | wp_step))
   refine c7 (dX (R:=wants (fun r s₂=>r = .none/\∃ h' tk,s₂ = { s with heap:=h',toks:=tk }/\Fg prog w s ns kA.size h') E) ft.init.plain jN (check_set_init_1 hT (zfu (A:=A.in1) (by simp [hh]) hl hi hb fun h' tk fl=>⟨rfl,h',tk,rfl,fl⟩))) fun r₂ s₂ hr₂=>?_
   cases r₂ with
   | error e=>exact hr₂
   | ok fl₂ =>
    cases fl₂ with
    | ret r =>
     obtain⟨rfl,h',tk,rfl,fl⟩:=hr₂; repeat (any_goals (first | assumption | wp_step))
     exact h _ _ fl
    | _=>exact hr₂.elim
  | _=>exact hr.elim
end
end PySem
namespace L2
open PySem PySem.Spec PyProof.Rows PySem.Builtin.Str
theorem zhJ {ns:List Int} (nd:ns.Nodup):∀ i,i<=ns.length->#[IV].length=i
 | 0,_=>rfl
 | i+1,h=>by
  have ih:=zhJ nd i #[O];rw [iG,jz,ih];have yB:#[IV].any (· == ns.getD i 0)=false:=by
   rw [firstMet_any];cases e:((bW i).map fun j=>ns.getD j 0).any (· == ns.getD i 0) with
   | false=>rfl
   | true =>
    obtain⟨x,hx,hxe⟩:=cp.mp e;obtain⟨j,hj,rfl⟩:=aF.mp hx;have hj:=cu.mp hj;have h1:ns.getD j 0=ns[j]'#[O]:=by simp [bd,ah (show j < ns.length by lia)]
    have h2:ns.getD i 0=ns[i]'#[O]:=by simp [bd,ah (show i < ns.length by lia)]
    have h3:ns[j]'#[O]=ns[i]'#[O]:=by rw [<- h1,<- h2]; exact beq_iff_eq.mp hxe
    exact absurd ((dQ nd).mp h3) #[O]
  rw [yB];rfl
theorem zgv {X:Cx}:za8 X (.builtin "len") (fun xs H Q=>∃ l S n,xs = [.ref l]/\H l=some (.set S n)/\Q (.int (n:Nat)) H):=by
 intro km s σ H xs us Q I r h;obtain⟨l,S,n,rfl,hH,q⟩:=h;obtain⟨u,rfl,rx⟩:=vals1 r;cases rx;obtain⟨o,es,ep,t,ho,hex,hd,_,_,hb,hf,hn⟩:=I.hok l _ hH;subst hn;exact call_len_set ho hex hd hf (by unfold scanBound at hb; lia) ⟨.int (es.size:Nat),H,I.tok _,⟨_,rfl⟩,q⟩
end L2
end
section
namespace PySem
theorem ziG:isSubtype (.type "list") (.type "set")=pure false:=by rw [cW]; kernel_rfl
theorem zj5:isSubtype (.type "list") (.type "frozenset")=pure false:=by rw [cW]; kernel_rfl
section
variable {prog:Program} {w:World} {A:Around} {E:Value->Shared->Prop} {s:Shared}
theorem zfw {l:Addr} {kA:Array Value} {ns:List Int} {led:Bool} {R:Result->Shared->Prop} (hh:A.handled=none) (hl:s.heap.IsList l kA) (hi:dZ kA.toList ns) (hb:kA.size+1 < scanBound)
  (h:∀ h' tk,Fg prog w s ns kA.size h'->R (.ok (.ret .none)) { s with heap:=h',toks:=tk }) :
  wpAny #[or] A.in1 (Builtin.«set.__init__» ⟨[.ref s.heap.objs.size,.ref l],[]⟩) (fun fin s'=>match fin with | .done f=>R (.ok f) s' | .again c'=>c'.quiet=true/\codeAny #[or] A c' R s') (fun e s'=>R (.error e) s') { s with heap:=s.heap.push #[Mz] }:=by
 have hS:#[Cl].get? s.heap.objs.size=some #[Mz]:=aC _ rfl;have kU:l < s.heap.objs.size:=(by obtain⟨o,ho,_⟩:=hl; exact az ho);have zz:#[Cl].objs.size=s.heap.objs.size+1:=bx ..;have oC:#[Cl].IsList l kA:=hl.push _;have hT:gd { s with heap:=s.heap.push #[Mz] } #[wf] "set":=⟨_,hS,rfl⟩;have q1:=ziG;have q2:=zj5;have q3:(gm "list" == gm "dict")=false:=by decide
 obtain⟨ol,C2,oF,nl,pY⟩:=id oC
 (obtain⟨C3,yz,yA,wq⟩:=ol)
 simp only at oF pY;subst oF pY;unfold Builtin.«set.__init__» noKeywords fO zP;unfold zP at hS hT C2 oC zz;generalize C4:pyIter=PI
 wp_walk
 subst C4;refine gf oC (ae (wpAny_runValue ?_));have z0:s.heap.objs.size≠s.heap.objs.size+1:=aS (gu _);refine eg ((Walks.list (show A.in1.in1.handled=none by simp [hh]) #[Cl].objs.size l (by rw [bx]; exact aS (cz kU)) kA).toS) s.heap.objs.size (by
   rw [bx];intro m;rcases (aK.mp m) with e | e
   ·exact z0 e
   ·exact eh kU (aW.mp e)) #[Km] (fun i v hv=>fX hi i v (by rw [aY]; exact hv)) hb (kA.size - 0) 0 _ #[O] (bg _) ⟨⟨_,aC _ rfl,rfl,rfl⟩,oC.push _⟩
  (gD (#[Nu].setOf (ai _ hS) (by unfold scanBound; lia)) #[MD] rfl) fun s' hm C5=>?_
 (obtain⟨h',g',d',C6,xn⟩:=s')
 obtain rfl:g'=s.gens:=hm.gens;obtain rfl:d'=s.drawn:=hm.drawn;obtain rfl:xn=s.os:=hm.os;refine ak ?_
 (show wpAny _ _ (ret cD) _ _ _)
 refine ak #[Ms];refine hm.heap b o ?_ (ai _ (ai _ e));intro m;rcases (aK.mp m) with e | e
 ·exact aS sL e
 ·have e:=aW.mp e;rw [bx] at e;exact aS (cz sL) e
theorem zfx {l:Addr} {kA:Array Value} {ns:List Int} {Q:Value->Shared->Prop} (hh:A.handled=none) (hl:s.heap.IsList l kA) (hi:dZ kA.toList ns) (hb:kA.size+1 < scanBound)
  (h:∀ h' tk,Fg prog w s ns kA.size h'->Q #[wf] { s with heap:=h',toks:=tk }):wpAny #[or] A (call (.type "set") [.ref l]) Q E s:=by
 have ft:=F.called_set
 (obtain⟨c,tl,C7⟩:=ft.mro)
 have p1:=ft.made;have p2:=ft.sub;have p3:=ft.notType;have p4:=ft.canCreate;have p5:=jM #[JF];refine dS (gJ ?_); show wpAny _ _ (callAny (.type "set") _) _ _ _;refine ak ⟨fV _ #[N],gK jw ?_⟩; rw [ji (ic "set" [.ref l] []) rfl]; repeat (any_goals (first | assumption | wp_step))
 refine c7 (code_set_new_1 #[JF] (E:=E) (Q₁:=fun obj s₁=>∃ led:Bool,obj = .ref s.heap.objs.size/\s₁ = { s with heap:=s.heap.push #[Mz] }) fun led=>⟨led,rfl,rfl⟩) fun r s₁ hr=>?_
 cases r with
 | error e=>exact hr
 | ok fl =>
  cases fl with
  | ret obj =>
   obtain⟨led,rfl,rfl⟩:=hr;have hS:#[Cl].get? s.heap.objs.size=some #[Mz]:=aC _ rfl;have hT:gd { s with heap:=s.heap.push #[Mz] } #[wf] "set":=⟨_,hS,rfl⟩;have p6:=ft.init.lookup;have p7:=ft.init.bind #[wf]; repeat (any_goals (first | assumption | wp_step))
   refine c7 (dX (R:=wants (fun r s₂=>r = .none/\∃ h' tk,s₂ = { s with heap:=h',toks:=tk }/\Fg prog w s ns kA.size h') E) ft.init.plain jN (check_set_init_1 hT (zfw (A:=A.in1) (by simp [hh]) hl hi hb fun h' tk fl=>⟨rfl,h',tk,rfl,fl⟩))) fun r₂ s₂ hr₂=>?_
   cases r₂ with
   | error e=>exact hr₂
   | ok fl₂ =>
    cases fl₂ with
    | ret r =>
     obtain⟨rfl,h',tk,rfl,fl⟩:=hr₂; repeat (any_goals (first | assumption | wp_step))
     exact h _ _ fl
    | _=>exact hr₂.elim
  | _=>exact hr.elim
end
end PySem
namespace L2
open PySem PySem.Spec PyProof.Rows PySem.Builtin.Str
variable {ns:List Int}
theorem zj6 {ns:List Int}:∀ i,#[IV].length<=i
 | 0=>ag _
 | i+1=>by
  have ih:=zj6 (ns:=ns) i;rw [iG,jz];split <;> lia
theorem getD_at {i:Nat} (h:i < ns.length):ns.getD i 0=ns[i]:=by simp [bd,ah h]
theorem zgw {ns:List Int}:∀ i,i<=ns.length->#[IV].length=i->(ns.take i).Nodup
 | 0,_,_=>by simp
 | i+1,hi,h=>by
  have hle:=zj6 (ns:=ns) i;rw [iG,jz] at h;split at h
  ·lia
  ·rename_i yB
   have ih:=zgw (ns:=ns) i #[O] #[O];rw [List.take_succ_eq_append_getElem #[O],cA];refine⟨ih,#[M],fun a ha b hb=>?_⟩;rw [aW] at hb;subst hb;intro e;apply yB;rw [firstMet_any,cp];obtain⟨j,hj,rfl⟩:=bS ha;have oG:j < i:=by rw [aG] at hj; lia
   refine⟨ns.getD j 0,aF.mpr ⟨j,cu.mpr oG,rfl⟩,?_⟩;rw [getD_at (show j < ns.length by lia),getD_at (show i < ns.length by lia)];rw [gj] at e;rw [e];exact beq_self_eq_true _
noncomputable def zfy (ns:List Int):Nat:=(firstMet (fun j=>ns.getD j 0) ns.length).length
theorem zj7:zfy ns=ns.length↔ns.Nodup:=by
 constructor
 ·intro h;have:=zgw ns.length (ag _) h
  rwa [bf] at this
 ·intro h;exact zhJ h _ (ag _)
theorem ziH {X:Cx} (hc:X.calm=true):za8 X (.type "set") (fun xs H Q=>∃ (p:Addr) (ns:List Int),xs = [.ref p]/\(kJ X.K H p #[ww]\/kr X.K H p #[ww])/\ns.length<=4000/\∀ l S,H l=none->Q #[JF] (kx H l (.set S (zfy ns)))):=by
 intro km s σ H xs us Q I r h;obtain⟨p,ns,rfl,hq,hn,q⟩:=h;obtain⟨u,rfl,rx⟩:=vals1 r;cases rx;rcases hq with hq | hq
 ·obtain⟨kq,rv,pl,hz⟩:=I.tuple hq;have hl:=rv.length;rw [aa] at hl;refine zfv (ns:=ns) #[IQ] (show s.heap.IsTuple p kq.toArray from pl) (by simpa using intsAre_of rv) (by rw [aq]; unfold scanBound; lia) fun h' tk fl=>?_
  obtain⟨f1,f2⟩:=fl;have pH:kq.toArray.size=ns.length:=by rw [aq]; exact hl.symm
  rw [pH] at f1;have k:∀ b o,s.heap.get? b=some o->h'.get? b=some o:=fun b o e=>f2 b o (az e) e
  exact#[Ji]
 ·obtain⟨kq,rv,pl,hz⟩:=I.list hq;have hl:=rv.length;rw [aa] at hl;refine zfx (ns:=ns) #[IQ] pl.isList (by simpa using intsAre_of rv) (by rw [aq]; unfold scanBound; lia) fun h' tk fl=>?_
  obtain⟨f1,f2⟩:=fl;have pH:kq.toArray.size=ns.length:=by rw [aq]; exact hl.symm
  rw [pH] at f1;have k:∀ b o,s.heap.get? b=some o->h'.get? b=some o:=fun b o e=>f2 b o (az e) e
  exact#[Ji]
end L2
end
section
namespace My
open PySem L2 PyProof.Rows
variable {H H':Hp} {an od:Option Addr} {cP:Addr} {cd ct oc pm:Value} {fd:FuncData} {h:Heap} {j k:Nat} {mg:Str->Option Value} {pl:List Int} {qs:List #[Iv]} {sl:Array #[Kj]} {us:List Value} {w:World} {y:V}
section
variable {P:Program} {w:World} {K:af} {mg:Str->Option Value} {base:Heap} {t:Adr}
theorem zbE:DF ["p","k","found","step","longer","one"] ["p","k"] (zh zc1):=#[S]
theorem zj8 (T:Txt K mg base t) (F:Fun K "_law_all" "_law_all" zc1 t.G5 fd):D1 P w K mg base CX0 1 t.G5 fd ["p","k"] (zjN K):=by
 refine F.ok zbE #[pc] #[ld]
 ·obtain⟨p,k,rfl,_⟩:=h;rfl
 ·obtain⟨p,k,rfl,p0,p1,hk,q⟩:=h;refine zbg ?_; intro zX;refine⟨_,#[ze,#[zn,2,zbE.nd,#[A],#[zag,#[ya,#[zbf,#[zf]]]]],#[ze,#[zaA,bj,#[zay,T.D0,#[Jv]],#[zj,3,zbE.nd,#[A]],#[ze,#[zn,4,zbE.nd,#[A],#[Nh]],#[ze,#[zaA,bj,#[zae,#[IO]],#[zj,5,zbE.nd,#[KI]],#[zl,#[zcJ,#[zdf,bP,gB,gC,#[zes],#[Je],#[ya,#[zat,(DH.of (N':=["number","one"]) (ix:=[none,some 5]) (zh zc1) _ rfl rfl rfl),#[za5],#[zay,T.D0,#[LN]],#[ut],#[wn],(fun _ _ _ _=>#[zi,(@ziu _ (K) rfl),#[Ev],#[zbf,#[LN]]])]]]]]],#[zl,#[zn,2,zbE.nd,#[A],#[Je]]]]]],#[zl,#[zJ,#[IO]]]]],?_⟩;refine zhV ?_; intro pW oR;have oE:=be;refine⟨bg _,fun E0 hE0=>⟨by show 1<=sizeLine; lia,fun c hc=>?_⟩⟩;have u0:=zd (o:=.tup []) hE0;have u1:=zd (o:=.lst [.ref E0]) hc;refine⟨_,rfl,_,rfl,#[O],#[O],?_⟩;rw [bO];refine zaP (lo:=0) (n:=k) (fun i σ H'=>∃ (f:Addr) (rs:List Addr) (qs:List #[Iv]) (e3 e4 e5:Option V),σ = [some #[Ld],some (.int k),some #[J9],e3,e4,e5]/\H f=none/\zw H H'/\H' f=some #[Jt]/\zbl H' rs qs/\qs.length<=97 ^ i/\∀ x,x∈qs↔IsP p i x)
   ⟨c,[E0],[[]],none,none,none,rfl,u0.free hc,u0.trans u1,zb,.cons (u1 _ _ zb) .nil,ag _,fun x=>?_⟩ ?_ ?_
  ·rw [aW];exact⟨fun e=>by subst e; exact⟨rfl,#[M]⟩,fun e=>dw.mp e.1⟩
  ·rintro zD zT i σ H1 hi ⟨f,rs,qs,e3,e4,e5,rfl,hf,s1,yC,hT,AQ,kZ⟩;have tu:=hT.length;have h97:97 ^ i<=97 ^ 1:=cO #[D] #[O];have C8:97 ^ (i+1)=97 ^ i*97:=fC ..;refine#[Ln];have s0:=zd (o:=.lst []) hD;have hfD:f≠D:=zq yC hD;refine⟨_,rfl,f,rfl,⟨_,kr.of (s0 _ _ yC)⟩,zaz (K:=K) (a:=f) (xs:=rs.map V.ref) (fun j σ H'=>∃ (us:List Addr) (e3 e5:Option V),σ = [some #[Ld],some (.int k),some #[J9],e3,some #[Is],e5]/\zw H1 H'/\H' D=some #[Lx]/\zbl #[L1] us ((qs.take j).flatMap (zdn p)))
    ⟨[],_,_,rfl,s0,zb,.nil⟩ (fun j σ H' _ hq=>by obtain⟨_,_,_,_,s3,_⟩:=hq; exact (kr.of (s3 _ _ yC))) ?_ ?_⟩
   ·rintro zD zT j y σ H2 hy ⟨us,e3,e5,rfl,s2,yD,lM⟩;obtain⟨ob,rfl,Bx⟩:=zao hy;obtain⟨qq,qG,l7⟩:=Paired.get hT Bx;have pM:=lM.length;rw [zcW,aG] at pM;have hjl:j < qs.length:=(aH.mp qG).1;have hqi:qq.length=i:=((kZ qq).mp (aX qG)).1;have AW:=zcW (p:=p) qs;have BA:((qs.take j).length)*p.toNat<=97*97:=j4 (by rw [aG]; lia) #[O];rw [aG] at BA;refine⟨_,rfl,.inl ⟨rfl,_,kr.of yD⟩,_,rfl,p,rfl,#[O],#[O],zal (n:=p.toNat) (fun m ys H'=>zw H2 H'/\∃ vs:List Addr,ys=vs.map V.ref/\zbl #[L1] vs ((bW m).map fun n:Nat=>qq++[(n:Int)])) ⟨fun _ _ e=>e,[],rfl,.nil⟩ (fun m ys H' hm _=>hm) #[KB] ?_ ?_⟩
    ·rintro zS zT zE m y ys H4 H5 hm ⟨s4,vs,rfl,xj⟩ ⟨rfl,rfl⟩;have Aj:=xj.length;rw [aa,gl] at Aj;have rH:=s4 _ _ yD;have ug:(vs.map V.ref).length < sizeLine:=by rw [aa]; lia
     have C9:=(s2.trans s4) _ _ l7;have z0:(0:Int)+(m:Int)=(m:Int):=by lia
     refine gY ⟨_,rfl,_,rfl,by show 1<=sizeLine; lia,fun tb qp=>?_⟩;have v5:=zd (o:=.tup [.int (0+(m:Int))]) qp;have htD:tb≠D:=fun e=>by rw [e,rH] at qp; cases qp
     refine⟨ob,tb,qq.map V.int,[.int (0+(m:Int))],rfl,rfl,kJ.of (v5 _ _ C9),kJ.of zb,#[M],by rw [aa]; show qq.length+1<=sizeLine; lia,fun hx=>?_,fun hx r yg=>?_⟩
     ·refine⟨ug,s4.trans v5,vs++[tb],by rw [av]; rfl,?_⟩;rw [jZ,av];refine cr (xj.same (zaS v5)) (zI ?_ htD);rw [zb,av,hx,z0];rfl
     ·have v6:=zd (o:=.tup (qq.map V.int++[.int (0+(m:Int))])) yg;have hrD:r≠D:=fun e=>by rw [e,v5 _ _ rH] at yg; cases yg
      refine⟨ug,s4.trans (v5.trans v6),vs++[r],by rw [av]; rfl,?_⟩;rw [jZ,av];refine cr (xj.same (zaS (v5.trans v6))) (zI ?_ hrD);rw [zb,av,z0];rfl
    ·rintro ys H4 Dc ⟨s4,vs,rfl,xj⟩ AV;have v6:=zd (o:=.lst (vs.map V.ref)) AV;have rH:=s4 _ _ yD;have Aj:=xj.length;rw [aa,gl] at Aj;refine⟨D,Dc,us.map V.ref,vs.map V.ref,rfl,rfl,v6 _ _ rH,zb,by rw [aa,aa]; lia,?_⟩;refine⟨us++vs,_,_,rfl,zav (s2.trans #[M3]) hD,by rw [zb,av],?_⟩;rw [zdO,ziq qG];exact zbx (lM.same (zaS #[M3])) (xj.same (zaS v6))
   ·rintro σ H2 ⟨us,e3,e5,rfl,s2,yD,lM⟩;rw [aa,tu,bf] at lM;refine⟨_,rfl,D,us,_,_,_,_,rfl,s1.free hD,s1.trans s2,yD,lM.same (za9 H2 D),?_,zjM kZ⟩;rw [zcW,C8];exact j4 AQ #[O]
  ·rintro σ H1 ⟨f,rs,qs,e3,e4,e5,rfl,hf,s1,yC,hT,AQ,kZ⟩;have h97:97 ^ k<=97 ^ 2:=cO #[D] hk;exact⟨_,rfl,q f rs qs H1 hf s1 yC hT #[O] kZ⟩
theorem gW3 {K:af} {i l:Nat} {b:Addr} {x z:V} {σ:L2.St} {A B:L2.St->Hp->Prop} (hT:kJ K H b [x,y,z]) (h:A ((#[Ip].set j (some y)).set l (some z)) H) :
  zhO K 3 (zde (zaJ i) (zde (zaJ j) (zde (zaJ l) ziP))) #[M9] σ H (fun σ2 H2=>zkq σ2 H2 fun b H3=>if b=true then A σ2 H3 else B σ2 H3):=by
 refine⟨b,_,rfl,hT,rfl,x,_,rfl,y,_,rfl,z,_,rfl,rfl,?_⟩;show (if true=true then A ((#[Ip].set j (some y)).set l (some z)) H else B ((#[Ip].set j (some y)).set l (some z)) H);rw [if_pos rfl];exact h
noncomputable def zfz (K:af):Sp:=fun vs H Q E=>∃ m,m<=5/\zhI K (m+1) vs H Q E
theorem zfA (T:Txt K mg base t) (F:Fun K "_law_choices" "_law_choices" zaU t.DU fd):D1 P w K mg base CX0 7 t.DU fd ["some","many"] (zfz K) :=
 ⟨fun vs H Q E ⟨m,_,h⟩=>#[No].len vs H Q E h,fun A outer s H args us vs Q E hr he hb hv ⟨m,hm,h⟩=>#[No].run A outer s H args us vs Q E (hr.mono #[O]) he hb hv h⟩
theorem T3.zs {H:Hp}:∀ {bs:List Addr} {ts:List Wt3},T3 H bs ts->∃ zs:List (Addr×Wt3),bs=zs.map (·.1)/\ts=zs.map (·.2)/\∀ z∈zs,H z.1=some (.tup [.int z.2.1,.int z.2.2.1,.int z.2.2.2])
 | _,_,.nil=>⟨[],rfl,rfl,fun z hz=>by cases hz⟩
 | _,_,.cons h t=>by
  obtain⟨zs,rfl,rfl,h3⟩:=T3.zs t;exact⟨(_,_) :: zs,rfl,rfl,fun z hz=>by
   rcases (aK.mp hz) with rfl | hz
   ·exact h
   ·exact h3 z hz⟩
theorem zj9 {H:Hp}:∀ {as bs:List (Addr×Wt3)},(∀ z∈as,H z.1=some (.tup [.int z.2.1,.int z.2.2.1,.int z.2.2.2]))->(∀ z∈bs,H z.1=some (.tup [.int z.2.1,.int z.2.2.1,.int z.2.2.2]))->(as.map fun z=>V.ref z.1)=(bs.map fun z=>V.ref z.1)->as=bs
 | [],[],_,_,_=>rfl
 | [],_ :: _,_,_,e=>by simp at e
 | _ :: _,[],_,_,e=>by simp at e
 | x :: as,y :: bs,h1,h2,e=>by
  rw [aT,aT] at e;injection e with e1 e2
  injection e1 with e1
  have a:=h1 x aw;have b:=h2 y aw;rw [e1,b] at a;injection a with a
  injection a with a
  simp only [jX,V.int.injEq,and_true] at a;rw [zj9 (fun z hz=>h1 z (aj _ hz)) (fun z hz=>h2 z (aj _ hz)) e2];congr 1;obtain⟨x1,x2,x3,x4⟩:=x;obtain⟨y1,y2,y3,y4⟩:=y;simp only at e1 a;obtain⟨a1,a2,a3⟩:=a;rw [e1,a1,a2,a3]
noncomputable def ptw (pl:List Int) (q:Wt3):Int×Int:=pt (wpp pl q)
theorem ziI {p:Int} {ts c:List Wt3} (mH:pl.Nodup) (lR:∀ x∈pl,0<=x/\x < p) (hG:Gss p pl ts) (hc:c.Sublist ts) (hn:(c.map (·.1)).Nodup):Pts p (c.map (ptw pl)):=by
 refine#[LP]
 ·rw [aI,bi,bv];rw [bi,bv] at hn;refine cN (fun {a b} ha hb n e=>n ?_) hn;obtain⟨a0,a1,_⟩:=hG.rg a (hc.subset ha);obtain⟨b0,b1,_⟩:=hG.rg b (hc.subset hb);have na:a.1.toNat < pl.length:=by lia
  have nb:b.1.toNat < pl.length:=by lia
  have e':pl.getD a.1.toNat 0=pl.getD b.1.toNat 0:=e;rw [bd,ah na,bd,ah nb] at e';have:=(dQ mH).mp e';lia
 ·obtain⟨z,hz,rfl⟩:=aF.mp hq;obtain⟨w0,w1⟩:=zg3 (fun q hq=>⟨(hG.rg q hq).1,(hG.rg q hq).2.1⟩) lR #[L9] (bT (hc.subset hz));obtain⟨_,_,a,b,_⟩:=hG.rg z (hc.subset hz);exact⟨w0,w1,a,b⟩
theorem zg4 {p:Int} (hp:p∈zy) {ts:List Wt3} (mH:pl.Nodup) (lR:∀ x∈pl,0<=x/\x < p) (hG:Gss p pl ts) {f:List Int} (hf:IsP p k f) (hk:k<=(#[o0].filter #[JI]).length) :
  ∃ c:List Wt3,c.Sublist ts/\c.length=k/\(c.map (·.1)).Nodup/\f=thr p (c.map (ptw pl)):=by
 have e:#[o0].filter #[JI]=#[At].map (wpp pl):=List.filter_map;have hW:=zfs mH lR hG.nd hG.rg;have tV:=zfl (f:=f) hW;have AW:=zkP (f:=f) hW;rw [e] at hk tV AW;rw [aa] at hk;have hs:(#[At].take k).Sublist #[At]:=dG _ _;refine⟨#[At].take k,hs.trans iO,by rw [aG]; lia,?_,?_⟩
 ·have h1:(#[At].map (·.1)).Nodup:=by
   rw [aI,bi,bv] at tV;rw [bi,bv];exact tV.imp fun {a b} n e=>n (by show pl.getD a.1.toNat 0=pl.getD b.1.toNat 0; rw [e])
  exact (hs.map _).nodup h1
 ·rw [aI] at AW;have hP:Pts p ((#[At].take k).map (ptw pl)):=AW.sub (hs.map (ptw pl));refine zjJ hp hP (by rw [aa,aG,hf.1]; lia) hf.2 fun a ha=>?_
  obtain⟨z,hz,rfl⟩:=aF.mp ha;exact of_decide_eq_true (bC.mp (hs.subset hz)).2
noncomputable def zl7 (K:af):Sp:=fun vs H Q _=>∃ (c tt g:Addr) (p T low:Int) (k:Nat) (pl:List Int) (bs:List Addr) (ts:List Wt3),vs = [.ref c,.ref g,.int T]/\zaZ H c tt p k pl/\H g=some #[ul]/\T3 H bs ts/\Gss p pl ts/\p∈zy/\pl.Nodup/\(∀ x∈pl,0<=x/\x < p)/\1<=k/\k<=5/\ts.length<=30/\ts.length ^ k<=1000000/\zeb ((mxs (#[o0].map kw)).map (·.2)) (k - 1) low/\low < T /\
 ∀ (l:Addr) (rs:List Addr) (qs:List #[Iv]) (H':Hp),H l=none->zw H H'->H' l=some #[Jt]->zbl H' rs qs->zdd p k qs->(∀ q,q∈qs↔IsP p k q/\T<=wsum p q #[o0])->Q #[JF] H'
theorem zaR:DF ["code","guesses","least","p","k","places","known","one","choice"] ["code","guesses","least"] (zh zaV):=#[S]
theorem zg5 (T:Txt K mg base t) (F:Fun K "_law_heavy" "_law_heavy" zaV t.EO fd):D1 P w K mg base CX0 8 t.EO fd ["code","guesses","least"] (zl7 K):=by
 obtain⟨tF,qZ,pf⟩:=T.FT;have uH:=zj8 (P:=P) (w:=w) (base:=base) T qZ;obtain⟨m7,lu,lx⟩:=T.DZ;have mj:=zfA (P:=P) (w:=w) (base:=base) T lu;obtain⟨ph,nP,ml⟩:=T.Ek;have p8:=zfo (P:=P) (w:=w) (base:=base) T nP;obtain⟨mo,kN,kO⟩:=T.DO;have lj:=zcc (P:=P) (w:=w) (base:=base) T kN;refine F.ok zaR #[pc] #[ld]
 ·obtain⟨c,tt,g,p,T',low,k,pl,bs,ts,rfl,_⟩:=h;rfl
 ·obtain⟨c,tt,g,p,T',low,k,pl,bs,ts,rfl,hc,hg,hT,hG,hp,mH,lR,k1,k5,hn,t9,pe,kU,q⟩:=h;have hu:(A.deeper (envOfC (bG "_law_heavy") (zh zaV) s.heap.objs.size t.EO kL)).units+1 < cLine:=by have:=hr.units; lia
  refine zbg ?_; intro zX;refine⟨_,#[ze,#[zcz,#[xL],#[zbd,#[zm,#[zj,3,zaR.nd,#[A]],#[zm,#[zj,4,zaR.nd,#[A]],#[zm,#[zj,5,zaR.nd,#[KI]],#[zad]]]]]],#[ze,#[zn,6,zaR.nd,#[A],#[zdR]],#[ze,(zfj #[zaX,(@PW.pt _ _ _ (@zln _ _ _ _ _ _ _ #[zH,#[zej],#[Je],#[zg],(z7 _)] (@zke _ _ _ _ #[zH,#[zej],#[Iz],#[zg],(z7 _)]))),#[zl,#[zaA,bj,#[zae,#[zu,uH,#[pp],T.Hn,qZ.kp,pf,#[zY],#[za,#[Iz],#[Kf]]]],#[zj,7,zaR.nd,#[A]],#[zl,#[zci,hu,#[KH],#[pvx,7],#[zct]]]]],#[zl,#[zaA,bj,#[zae,#[zu,mj,#[pp],T.EN,lu.kp,lx,#[zY],#[za,#[Ev],#[Kf]]]],#[zj,8,zaR.nd,#[A]],#[zl,#[zaX,#[zH,#[zdF],#[zt,(@zgv _),T.F7,c6,#[ya,#[zaH,(@ziH _ rfl),T.Ii,boot_set,#[ya,#[zat,(DH.of (N':=["guess"]) (ix:=[none]) (zh zaV) _ rfl rfl rfl),#[za5],#[zae,#[Kw]],#[ut],#[wn],(fun _ _ _ _=>#[zW,#[zcg,(K)],#[xL],#[zg]])]]]]],#[Je],(z7 _)],#[zl,#[zci,hu,#[KH],#[zu,p8,#[pp],T.FP,nP.kp,ml,#[zY],#[za,#[Iz],#[ya,#[zat,(DH.of (N':=["number","entry","weight","places"]) (ix:=[none,none,none,some 5]) (zh zaV) _ rfl rfl rfl),#[Lz],#[zae,#[Kw]],#[u8],#[wn],(fun _ _ _ _=>#[zbf,#[za,#[zW,#[zcg,(K)],#[Iz],#[xL]],#[Jv]]])]]]],#[zct]]],#[zaq]]]]]]),#[zl,#[zJ,#[zt,(@zfi _),T.EK,gW,#[ya,#[zat,(DH.of (N':=["one","code","guesses","least"]) (ix:=[none,some 0,some 1,some 2]) (zh zaV) _ rfl rfl rfl),#[za5],#[zlg,#[KH]],#[ut],(fun _ _ _ _=>#[zbA,#[zH,#[zhc],#[zu,lj,#[pp],T.DW,kN.kp,kO,#[zY],#[za,#[Ev],#[za,#[IO],#[LN]]]],#[Iz],(z7 _)]]),#[Mn]]]]]]]]],?_⟩;refine zko ?_; intro sZ pW oR;have oE:=be;have rp:=zQ hp;have hW:=zfs mH lR hG.nd hG.rg;have pJ:=hT.length;have wt:∀ f,IsP p k f->T'<=wsum p f #[o0]->k<=(#[o0].filter #[JI]).length:=fun f hf h=>by
   by_cases hk:k<=(#[o0].filter #[JI]).length
   ·exact hk
   ·have:=zdZ (f:=f) hW pe #[O];lia
  refine⟨_,rfl,c,_,rfl,kJ.of hc.1,rfl,_,_,rfl,_,_,rfl,_,_,rfl,rfl,?_⟩;intro Kd xk;have v0:=zd (o:=.dT []) xk;have yE:kx H Kd (.dT []) Kd=some (.dT []):=zb;generalize kx H Kd (.dT [])=H0 at v0 yE |-;refine⟨fun σ H'=>∃ (kvs:List (List Key×V)) (kE:List #[Iv]) (e7 e8:Option V),σ = [some #[K3],some (.ref g),some (.int T'),some #[Ld],some (.int (k:Int)),some (.ref tt),some (.ref Kd),e7,e8]/\zw H H'/\H' Kd=some #[IL]/\KeysAre kvs kE/\kE.Nodup/\kE.length<=1000000/\(∀ x∈kE,IsP p k x)/\∀ x,IsP p k x->T'<=wsum p x #[o0]->x∈kE,?_,?_⟩
  ·refine⟨_,rfl,_,_,rfl,rfl,_,rfl,zaW (fun h1=>⟨_,rfl,_,_,rfl,rfl,_,rfl,zaW (fun h2=>?_) (fun h2=>?_)⟩) (fun h1=>zgH ?_)⟩
   ·have h1:=of_decide_eq_true h1;refine⟨_,rfl,_,rfl,p,k,rfl,#[O],#[O],#[O],fun l rs qs H6 hl s6 h6 hTq AQ kZ=>?_⟩;have hrq:=hTq.length;have yF:=v0.trans s6;have vh:=s6 _ _ yE;have Dd:l≠Kd:=fun e=>by rw [e,yE] at hl; cases hl
    refine⟨l,rfl,⟨_,kr.of h6⟩,zaz (K:=K) (a:=l) (xs:=rs.map V.ref) (fun i σ H'=>∃ (kvs:List (List Key×V)) (kE:List #[Iv]) (e7:Option V),σ = [some #[K3],some (.ref g),some (.int T'),some #[Ld],some (.int (k:Int)),some (.ref tt),some (.ref Kd),e7,none]/\zw #[Mc] H'/\H' Kd=some #[IL]/\KeysAre kvs kE/\kE.Nodup/\kE.length<=i/\∀ x,x∈kE↔x∈qs.take i)
     ⟨[],[],none,rfl,za9 H6 Kd,vh,rfl,#[M],ag _,fun x=>by simp⟩ (fun i σ H' _ hq=>by obtain⟨_,_,_,_,s3,_⟩:=hq; exact kr.of (s3 _ _ (zI h6 Dd))) ?_ ?_⟩
    ·rintro zD zT i y σ H7 hy ⟨kvs,kE,e7,rfl,s7,wu,mU,nW,oU,mI⟩;obtain⟨rb,rfl,yw⟩:=zao hy;obtain⟨qq,qG,l7⟩:=Paired.get hTq yw;have hiq:i < qs.length:=(aH.mp qG).1;have hrK:rb≠Kd:=fun e=>by rw [e,vh] at l7; cases l7
     have uF:kvs.length=kE.length:=by
      have:=congrArg bU mU;rw [aa,aa] at this;exact this
     refine⟨_,rfl,_,rfl,Kd,_,rfl,zf5.t (k:=qq.map aZ) wu (by rw [s7 _ _ (zI l7 hrK),aI]; rfl) #[O],?_⟩;obtain⟨nU,m1,m2,m3,m4⟩:=zcV mU nW qq (.bl true);refine⟨_,nU,_,rfl,zav s7 ?_,zb,m1,m2,#[O],fun x=>?_⟩
     ·unfold hide; rw [if_pos rfl]
     ·rw [m4 x,mI x,take_snoc qG,aR,aW]
    ·rintro σ H7 ⟨kvs,kE,e7,rfl,s7,wu,mU,nW,oU,mI⟩;rw [aa,hrq] at mI oU;rw [bf] at mI;refine⟨kvs,kE,_,_,rfl,fun b u e=>s7 _ _ (zI (yF _ _ e) (zq e xk)),wu,mU,nW,#[O],fun x hx=>(kZ x).mp ((mI x).mp hx),fun x hx _=>(mI x).mpr ((kZ x).mpr hx)⟩
   all_goals
    refine⟨_,rfl,_,rfl,k,k5,g,bs.map V.ref,rfl,kr.of (v0 _ _ hg),by rw [aa]; lia,#[O],by rw [aa,pJ]; exact t9,fun l ls cs H6 hl s6 h6 hI kB kZ=>?_⟩;rw [aa,pJ] at kB;have ur:=hI.length;have yF:=v0.trans s6;have vh:=s6 _ _ yE;have Dd:l≠Kd:=fun e=>by rw [e,yE] at hl; cases hl
    obtain⟨zs,uo,pH,t8⟩:=hT.zs;refine⟨l,rfl,⟨_,kr.of h6⟩,zaz (K:=K) (a:=l) (xs:=ls.map V.ref) (fun i σ H'=>∃ (kvs:List (List Key×V)) (kE:List #[Iv]) (e8:Option V),σ = [some #[K3],some (.ref g),some (.int T'),some #[Ld],some (.int (k:Int)),some (.ref tt),some (.ref Kd),none,e8]/\zw #[Mc] H'/\H' Kd=some #[IL]/\KeysAre kvs kE/\kE.Nodup/\kE.length<=i/\(∀ x∈kE,IsP p k x)/\∀ zk:List (Addr×Wt3),zk.Sublist zs->(zk.map fun z=>V.ref z.1)∈cs.take i->(zk.map (·.2.1)).Nodup->thr p (zk.map fun z=>ptw pl z.2)∈kE)
     ⟨[],[],none,rfl,za9 H6 Kd,vh,rfl,#[M],ag _,(fun x hx=>by cases hx),fun zk _ hm=>by simp at hm⟩ (fun i σ H' _ hq=>by obtain⟨_,_,_,_,s3,_⟩:=hq; exact kr.of (s3 _ _ (zI h6 Dd))) ?_ ?_⟩
    ·rintro zD zT i y σ H7 hy ⟨kvs,kE,e8,rfl,s7,wu,mU,nW,oU,rK,p9⟩;obtain⟨lo,rfl,nR⟩:=zao hy;obtain⟨ch,qr,l7⟩:=Paired.get hI nR;obtain⟨yG,oF⟩:=(kZ ch).mp (aX qr);have hici:i < cs.length:=(aH.mp qr).1;obtain⟨zk,yH,rfl⟩:∃ zk:List (Addr×Wt3),zk.Sublist zs/\ch=zk.map fun z=>V.ref z.1:=by
      rw [uo,aI] at yG;obtain⟨zk,h1,h2⟩:=ir.mp yG;exact⟨zk,h1,h2⟩
     rw [aa] at oF;have De:lo≠Kd:=fun e=>by rw [e,vh] at l7; cases l7
     have tG:=s7 _ _ (zI l7 De);have h7z:∀ z∈zk,H7 z.1=some (.tup [.int z.2.1,.int z.2.2.1,.int z.2.2.2]):=fun z hz=>by
      have h8:=t8 z (yH.subset hz);exact s7 _ _ (zI (yF _ _ h8) (zq h8 xk))
     have vi:(zk.map (·.2)).Sublist ts:=by rw [pH]; exact yH.map _
     have uF:kvs.length=kE.length:=by
      have:=congrArg bU mU;rw [aa,aa] at this;exact this
     have Df:∀ z∈zk,z.2∈ts:=fun z hz=>vi.subset (bT hz)
     refine⟨_,rfl,lo,rfl,⟨_,kr.of tG⟩,zal (n:=zk.length) (fun j ys H'=>ys=((zk.take j).map (·.2.1)).map V.int/\H'=H7) ⟨rfl,rfl⟩ ?_ ?_ ?_ ?_⟩
     ·rintro j ys H8 hj ⟨_,rfl⟩;exact⟨_,.ref zk[j].1,kr.of tG,by rw [aB,ah hj]; rfl⟩
     ·rintro ys H8 ⟨_,rfl⟩;exact⟨_,kr.of tG,by rw [aa]; exact ag _⟩
     ·rintro zS zT zE j y ys H8 H9 hj ⟨rfl,rfl⟩ ⟨rfl,hy⟩;have vj:zk[j]? = some zk[j]:=ah hj;have ey:=hy _ (kr.of tG);rw [aB,vj] at ey;have ey:V.ref zk[j].1=y:=aQ ey;subst ey;have hb:=h7z _ (bF hj);refine gY ⟨_,rfl,zk[j].1,_,_,_,rfl,rfl,kJ.of hb,rfl,by rw [aa,aa,aG]; lia,?_,rfl⟩;rw [take_snoc vj,av,av];rfl
     rintro ys H8 Ds ⟨rfl,rfl⟩ hDs;rw [bf];have v9:=zd (o:=.lst ((zk.map (·.2.1)).map V.int)) hDs;refine⟨Ds,_,rfl,.inr (kr.of zb),by rw [aa]; lia,fun sl S oE=>?_⟩;have v10:=zd (o:=.set S (zfy (zk.map (·.2.1)))) oE;refine⟨sl,S,_,rfl,zb,_,rfl,rfl,_,rfl,?_⟩;have yI:=v9.trans v10;have wx:=yI _ _ wu;have qa:=yI _ _ tG;have yJ:∀ z∈zk,_:=fun z hz=>yI _ _ (h7z z hz)
     have yK:=yI _ _ (s7 _ _ (zI (yF _ _ hc.2) (zq hc.2 xk)));have wy:zw #[Mc] (kx (kx H8 Ds (.lst ((zk.map (·.2.1)).map V.int))) sl (.set S (zfy (zk.map (·.2.1))))):=s7.trans yI;generalize kx (kx H8 Ds (.lst ((zk.map (·.2.1)).map V.int))) sl (.set S (zfy (zk.map (·.2.1))))=xa at wx qa yJ yK wy |-;have yL:zfy (zk.map (·.2.1))=k↔(zk.map (·.2.1)).Nodup:=by
      have:=zj7 (ns:=zk.map (·.2.1));rw [aa,oF] at this;exact this
     refine zaW (fun wz=>?_) (fun yB=>?_)
     ·have wz:zfy (zk.map (·.2.1))=k:=by
       have:=of_decide_eq_true wz;injection this with this
       lia
      have hun:=yL.mp wz;have Dg:Pts p ((zk.map (·.2)).map (ptw pl)):=ziI mH lR hG vi (by rw [aI]; exact hun);rw [aI] at Dg;refine⟨_,rfl,_,rfl,_,rfl,lo,rfl,⟨_,kr.of qa⟩,zal (n:=zk.length) (fun j ys H'=>zw xa H'/\∃ us:List Addr,ys=us.map V.ref/\PtB H' us ((zk.take j).map (ptw pl ∘ fun x=>x.2))) ⟨fun _ _ e=>e,[],rfl,.nil⟩ ?_ ?_ ?_ ?_⟩
      ·rintro j ys wm hj ⟨oV,_⟩;exact⟨_,.ref zk[j].1,kr.of (oV _ _ qa),by rw [aB,ah hj]; rfl⟩
      ·rintro ys wm ⟨oV,_⟩;exact⟨_,kr.of (oV _ _ qa),by rw [aa]; exact ag _⟩
      ·rintro zS zT zE j y ys wm H12 hj ⟨oV,us,rfl,lM⟩ ⟨rfl,hy⟩;have vj:zk[j]? = some zk[j]:=ah hj;have ey:=hy _ (kr.of (oV _ _ qa));rw [aB,vj] at ey;have ey:V.ref zk[j].1=y:=aQ ey;subst ey;have hb:=oV _ _ (yJ _ (bF hj));obtain⟨g0,g1,_⟩:=hG.rg _ (Df _ (bF hj));have pM:=lM.length;rw [aa,aG] at pM;refine gW3 (kJ.of hb) ⟨_,rfl,_,rfl,tt,_,_,_,rfl,rfl,kJ.of (oV _ _ yK),zhH g0 g1,_,rfl,by show 2<=sizeLine; lia,fun T2 pU=>⟨by rw [aa]; lia,oV.trans (zd pU),us++[T2],by rw [av]; rfl,?_⟩⟩;rw [take_snoc vj,av];exact cr (lM.same (zd pU)) zb
      ·rintro ys wm Dp ⟨oV,us,rfl,lM⟩ hDp;rw [bf] at lM;have v12:=zd (o:=.lst #[IF]) hDp;refine⟨p,Dp,_,rfl,(lM.same v12).pts zb,by rw [aa]; lia,hp,Dg,fun tl H13 rq xi h13=>?_⟩;have vk:=oV.trans (v12.trans xi);have Dh:=vk _ _ wx;refine⟨Kd,_,rfl,zf5.t (k:=(thr p (zk.map (ptw pl ∘ fun x=>x.2))).map aZ) Dh (by rw [h13,aI]; rfl) #[O],?_⟩;obtain⟨nU,m1,m2,m3,m4⟩:=zcV mU nW (thr p (zk.map (ptw pl ∘ fun x=>x.2))) (.bl true);refine⟨_,nU,_,rfl,zav (wy.trans vk) (by unfold hide; rw [if_pos rfl]),zb,m1,m2,#[O],fun x hx=>?_,fun Di z1 z2 z3=>?_⟩
       ·rcases (m4 x).mp hx with h1 | h1
        ·exact rK x h1
        ·obtain⟨b1,b2,_⟩:=zjf hp Dg;rw [h1];exact⟨by rw [b1,aa]; exact oF,b2⟩
       ·rw [take_snoc qr] at z2;rcases aR.mp z2 with z2 | z2
        ·exact (m4 _).mpr (.inl (p9 Di z1 z2 z3))
        ·have e:=zj9 (H:=H) #[M7] #[M8] (aW.mp z2);rw [e];exact (m4 _).mpr (.inr rfl)
     ·refine⟨kvs,kE,_,rfl,wy,wx,mU,nW,#[O],rK,fun Di z1 z2 z3=>?_⟩;rw [take_snoc qr] at z2;rcases aR.mp z2 with z2 | z2
      ·exact p9 Di z1 z2 z3
      ·have e:=zj9 (H:=H) #[M7] #[M8] (aW.mp z2);rw [e] at z3;exact absurd (decide_eq_true (by rw [yL.mpr z3])) yB
    ·rintro σ H7 ⟨kvs,kE,e8,rfl,s7,wu,mU,nW,oU,rK,p9⟩;rw [aa,ur] at p9 oU;rw [bf] at p9;refine⟨kvs,kE,_,_,rfl,fun b u e=>s7 _ _ (zI (yF _ _ e) (zq e xk)),wu,mU,nW,#[O],rK,fun x hx hw=>?_⟩;obtain⟨cc,c1,c2,c3,rfl⟩:=zg4 hp mH lR hG hx (wt x hx hw);rw [pH] at c1;obtain⟨zk,z1,rfl⟩:=ir.mp c1;rw [aa] at c2;rw [aI] at c3 |-;refine p9 zk z1 ((kZ _).mpr ⟨?_,by rw [aa]; exact c2⟩) c3;rw [uo,aI];exact z1.map _
  ·rintro σ H6 ⟨kvs,kE,e7,e8,rfl,s6,vh,mU,nW,oU,rK,p9⟩;have uF:kvs.length=kE.length:=by
    have:=congrArg bU mU;rw [aa,aa] at this;exact this
   refine⟨_,rfl,Kd,kvs,rfl,vh,fun ob=>?_⟩;have s78:zw H #[Mc]:=fun b u e=>zI (s6 _ _ e) (zq e xk)
   refine zal (n:=kvs.length) (fun i ys H'=>zw #[Mc] H'/\H' Kd=some (.frz ob #[IL])/\∃ us:List Addr,ys=us.map V.ref/\us.length<=i/\zbl H' us ((kE.take i).filter fun x=>decide #[xz])) ⟨zgm,zb,[],rfl,ag _,.nil⟩ (fun i ys H' hi hq=>by obtain⟨_,hK,_⟩:=hq; exact⟨hK,hi⟩) (fun ys H' hq=>by obtain⟨_,hK,_⟩:=hq; exact⟨hK,ag _⟩) ?_ ?_
   ·rintro zS zT zE i y ys H8 H9 hi ⟨s8,xg,us,rfl,pM,lM⟩ ⟨rfl,a',kk,rfl,hk,ha⟩;obtain⟨qq,qG,rfl⟩:∃ qq,kE[i]? = some qq/\kk=qq.map aZ:=by
     rw [mU,aB] at hk;cases e:kE[i]? with
     | none=>rw [e] at hk; cases hk
     | some qq=>rw [e] at hk; exact⟨qq,rfl,(aQ hk).symm⟩
    have wR:H9 a'=some (.tup (qq.map V.int)):=by rw [ha,aI]; rfl
    have s9:=s78.trans s8;have tZ:(kE.take (i+1)).filter #[Jd]=(kE.take i).filter #[Jd]++[qq].filter #[Jd]:=by rw [take_snoc qG,cq]
    refine⟨_,rfl,_,rfl,_,rfl,c,tt,g,a',p,k,pl,qq,bs,ts,rfl,hc.same s9,s9 _ _ hg,hT.same s9,wR,#[O],#[O],#[O],(fun z hz=>⟨(hG.rg z hz).1,(hG.rg z hz).2.1⟩),lR,fun xa ua=>?_⟩;refine#[IJ];refine zaW (fun h=>⟨_,rfl,by rw [aa]; lia,s8.trans ua,ua _ _ xg,us++[a'],by rw [av]; rfl,by rw [aA]; exact eV pM,?_⟩) (fun h=>⟨s8.trans ua,ua _ _ xg,us,rfl,#[O],?_⟩)
    ·rw [tZ,cT (p:=fun x=>decide #[xz]) (decide_eq_true #[IX])];exact cr (lM.same ua) (ua _ _ wR)
    ·rw [tZ,cw (p:=fun x=>decide #[xz]) #[KD],fE,bK];exact lM.same ua
   ·rintro ys H8 D ⟨s8,xg,us,rfl,pM,lM⟩ hD;rw [uF,bf] at lM;have v9:=zd (o:=.lst #[IF]) hD;have Dj:=(s78.trans s8).trans v9;have yM:=lM.same v9;have Dk:kx H8 D #[Lx] D=some #[Lx]:=zb;generalize kx H8 D #[Lx]=H9 at Dj yM Dk |-;obtain⟨ps,rfl,yN,yO⟩:=yM.zs;have hL:∀ x,x∈ps.map (·.2)↔IsP p k x/\T'<=wsum p x #[o0]:=fun x=>by
     rw [<- yN,bC,decide_eq_true_iff];exact⟨fun h=>⟨rK x h.1,h.2⟩,fun h=>⟨p9 x h.1 h.2,h.2⟩⟩
    have hTL:zio H9 k p ps:=fun x hx=>⟨yO x hx,((hL x.2).mp (bT hx)).1⟩
    have e1:(ps.map (·.1)).map V.ref=ps.map (fun q=>V.ref q.1):=by rw [aI]; rfl
    rw [e1] at Dk;refine⟨D,k,p,ps,rfl,kr.of Dk,hTL,k1,#[O],fun l lQ hl lZ yP=>?_⟩;have e2:lQ.map (fun q=>V.ref q.1)=(lQ.map (·.1)).map V.ref:=by rw [aI]; rfl
    rw [e2];have nj:(lQ.map (·.2)).Perm (ps.map (·.2)):=lZ.map _;refine q l (lQ.map (·.1)) (lQ.map (·.2)) _ (Dj.free hl) (Dj.trans (zd hl)) zb ((zbl.of fun x hx=>yO x (lZ.mem_iff.mp hx)).same (zd hl)) (zhD #[O] (fun x hx=>((hL x).mp (nj.mem_iff.mp hx)).1) (nj.nodup_iff.mpr (by rw [<- yN]; exact nW.filter _)) ?_) fun x=>?_
    ·rw [bv];exact yP
    ·rw [nj.mem_iff];exact hL x
noncomputable def zg6:List Str:=["few","curve","paper","place","number","heard","not heard","nothing","text","row"]
noncomputable def ziJ (t:Adr) (K:af):Sp:=fun vs H Q _=>∃ (e C:Addr) (b0 b1 b2 b3 b4 b5 b6 b7 b8 b9:Bool) (j:Nat) (x:Str),vs = [.ref e]/\H e=some (zjk e C)/\KW K t C b0 b1 b2 b3 b4 b5 b6 b7 b8 b9/\[b0,b1,b2,b3,b4,b5,b6,b7,b8,b9].count true=1/\[b0,b1,b2,b3,b4,b5,b6,b7,b8,b9][j]? = some true/\(∀ m,m < j->[b0,b1,b2,b3,b4,b5,b6,b7,b8,b9][m]? = some false)/\j < 10/\zg6[j]? = some x/\∀ H',zw H H'->Q (.str x) H'
theorem zbF:DF ["e","kinds","words"] ["e"] (zh zc0):=#[S]
theorem ziK (T:Txt K mg base t) (F:Fun K "_law_word" "_law_word" zc0 t.F8 fd):G9 P w K mg base 1 t.F8 fd ["e"] (ziJ t K):=by
 refine F.okH zbF #[pc] #[ld]
 ·obtain⟨e,C,b0,b1,b2,b3,b4,b5,b6,b7,b8,b9,j,x,rfl,_⟩:=h;rfl
 ·obtain⟨e,C,b0,b1,b2,b3,b4,b5,b6,b7,b8,b9,j,x,rfl,he,kw,hc,hj,hm,hj10,hx,q⟩:=h;refine zbg ?_; intro zX;refine⟨_,#[ze,#[zn,1,zbF.nd,#[A],#[zag,#[za,#[zt,#[z9],T.DG,bD,#[za,#[xL],#[ya,#[za4,(.ref t.Ff),T.F4]]]],by exact #[za,#[zt,#[z9],T.DG,bD,#[za,#[xL],#[ya,#[za4,(.ref t.F0),T.Gn]]]],#[za,#[zt,#[z9],T.DG,bD,#[za,#[xL],#[ya,#[za4,(.ref t.FZ),T.Gm]]]],#[ya,#[zt,#[z9],T.DG,bD,#[za,#[xL],#[ya,#[za4,(.ref t.FY),T.Gk]]]]]]]]]],#[ze,#[zn,1,zbF.nd,#[A],#[zi,#[zbN],#[Ev],#[zag,#[za,#[zt,#[z9],T.DG,bD,#[za,#[xL],#[ya,#[za4,(.ref t.Fx),T.Ge]]]],#[za,#[zt,#[z9],T.DG,bD,#[za,#[xL],#[ya,#[za4,(.ref t.Hv),T.Hl]]]],#[ya,#[zt,#[z9],T.DG,bD,#[za,#[xL],#[ya,#[za4,(.ref t.Fw),T.Gd]]]]]]]]]],#[ze,#[zn,1,zbF.nd,#[A],#[zi,#[zbN],#[Ev],#[zag,#[za,#[zt,#[z9],T.DG,bD,#[za,#[xL],#[ya,#[za4,(.ref t.Em),T.Fh]]]],#[za,#[zt,#[z9],T.DG,bD,#[za,#[xL],#[ya,#[za4,(.ref t.GQ),T.GW]]]],#[ya,#[zt,#[z9],T.DG,bD,#[za,#[xL],#[ya,#[za4,(.ref t.Hu),T.Hk]]]]]]]]]],#[ze,#[zaX,(@PW.pt _ _ _ #[zg7,#[zH,#[zfG],#[zdf,bP,PySem.F.slot_list_count,PySem.F.type_list_count,(@zic _),#[Ev],#[ya,#[zct]]],#[zg],(z7 _)],#[zgz,#[zgA,#[zgy,#[zt,#[z9],T.DG,bD,#[za,#[xL],#[ya,#[zdw,(.ty "ValueError"),T.FX,j5]]]]]]]]),#[zl,#[zJ,#[zeT]]],#[zaq]],(by exact (@zjq _ 2 _ _ _ _ _ _ _ ["few","curve","paper","place","number","heard","not heard","nothing","text","row"] #[N] zbF.nd rfl #[A] (by first | exact .inl rfl | exact .inr rfl) (by exact #[zl,#[zJ,#[zW,#[zO],#[IO],#[zdf,bP,PySem.F.slot_list_index,PySem.F.type_list_index,(@zid _),#[Ev],#[ya,#[zct]]]]]])))]]]],?_⟩;refine zmT ?_; intro AF wa sZ pW oR;have oE:=be;have xc:=kw.xc;refine⟨_,rfl,e,C,_,_,rfl,he,xc,.inl ⟨_,rfl,kw.i0⟩,_,rfl,e,C,_,_,rfl,he,xc,.inl ⟨_,rfl,kw.i1⟩,_,rfl,e,C,_,_,rfl,he,xc,.inl ⟨_,rfl,kw.i2⟩,_,rfl,e,C,_,_,rfl,he,xc,.inl ⟨_,rfl,kw.i3⟩,by show 4<=sizeLine; lia,fun l1 oC=>?_⟩;have s1:=zd (o:=.lst [.bl b0,.bl b1,.bl b2,.bl b3]) oC;have AX:=s1 _ _ he;refine⟨_,rfl,_,rfl,e,C,_,_,rfl,AX,xc,.inl ⟨_,rfl,kw.i4⟩,_,rfl,e,C,_,_,rfl,AX,xc,.inl ⟨_,rfl,kw.i5⟩,_,rfl,e,C,_,_,rfl,AX,xc,.inl ⟨_,rfl,kw.i6⟩,by show 3<=sizeLine; lia,fun l2 mS=>?_⟩;have s2:=zd (o:=.lst [.bl b4,.bl b5,.bl b6]) mS;refine⟨l1,l2,_,_,rfl,rfl,s2 _ _ zb,zb,by show 7<=sizeLine; lia,fun l3 vS=>?_⟩;have s3:=zd (o:=.lst ([V.bl b0,.bl b1,.bl b2,.bl b3]++[.bl b4,.bl b5,.bl b6])) vS;have AY:=s3 _ _ (s2 _ _ AX);refine⟨_,rfl,_,rfl,e,C,_,_,rfl,AY,xc,.inl ⟨_,rfl,kw.i7⟩,_,rfl,e,C,_,_,rfl,AY,xc,.inl ⟨_,rfl,kw.i8⟩,_,rfl,e,C,_,_,rfl,AY,xc,.inl ⟨_,rfl,kw.i9⟩,by show 3<=sizeLine; lia,fun l4 hl4=>?_⟩;have s4:=zd (o:=.lst [.bl b7,.bl b8,.bl b9]) hl4;refine⟨l3,l4,_,_,rfl,rfl,s4 _ _ zb,zb,by show 10<=sizeLine; lia,fun l5 hl5=>?_⟩;have s5:=zd (o:=.lst ([V.bl b0,.bl b1,.bl b2,.bl b3]++[.bl b4,.bl b5,.bl b6]++[.bl b7,.bl b8,.bl b9])) hl5;have he5:=s5 _ _ (s4 _ _ AY);have sA:=s1.trans (s2.trans (s3.trans (s4.trans s5)));have h5:kx (kx (kx (kx (kx H l1 (.lst [.bl b0,.bl b1,.bl b2,.bl b3])) l2 (.lst [.bl b4,.bl b5,.bl b6])) l3 (.lst ([V.bl b0,.bl b1,.bl b2,.bl b3]++[.bl b4,.bl b5,.bl b6]))) l4 (.lst [.bl b7,.bl b8,.bl b9])) l5 (.lst ([V.bl b0,.bl b1,.bl b2,.bl b3]++[.bl b4,.bl b5,.bl b6]++[.bl b7,.bl b8,.bl b9])) l5=some (.lst ([b0,b1,b2,b3,b4,b5,b6,b7,b8,b9].map V.bl)):=zb;generalize kx (kx (kx (kx (kx H l1 (.lst [.bl b0,.bl b1,.bl b2,.bl b3])) l2 (.lst [.bl b4,.bl b5,.bl b6])) l3 (.lst ([V.bl b0,.bl b1,.bl b2,.bl b3]++[.bl b4,.bl b5,.bl b6]))) l4 (.lst [.bl b7,.bl b8,.bl b9])) l5 (.lst ([V.bl b0,.bl b1,.bl b2,.bl b3]++[.bl b4,.bl b5,.bl b6]++[.bl b7,.bl b8,.bl b9]))=H5 at he5 sA h5 |-;refine⟨_,rfl,.inl ⟨rfl,_,kr.of h5⟩,l5,_,true,rfl,rfl,h5,?_⟩;rw [hc];refine⟨rfl,_,rfl,?_⟩;refine zgH ?_;refine⟨_,rfl,e,C,_,_,rfl,he5,xc,.inr ⟨_,rfl,kw.iv⟩,_,rfl,?_⟩;refine zgH ?_;refine⟨by show 10<=sizeLine; lia,fun lw hlw=>?_⟩;have s6:=zd (o:=.lst (zg6.map V.str)) hlw;refine⟨_,rfl,_,rfl,.inl ⟨rfl,_,kr.of (s6 _ _ h5)⟩,l5,_,true,j,rfl,rfl,s6 _ _ h5,hj,hm,#[O],?_⟩;refine⟨lw,_,_,.str x,rfl,rfl,kr.of zb,?_,q _ (sA.trans s6)⟩;exact zcf (xs:=zg6.map V.str) (by rw [aB,hx]; rfl)
noncomputable def zmF (p T low:Int) (k:Nat) (us:List Wt3) (H H':Hp) (v:V):Prop:=(T<=low/\v = .str "few")\/(low < T/\∃ (l:Addr) (rs:List Addr) (qs:List #[Iv]),v = .ref l/\H l=none/\H' l=some #[Jt]/\zbl H' rs qs/\qs.length<=1000000/\zdd p k qs/\∀ q,q∈qs↔IsP p k q/\T<=wsum p q us)
noncomputable def ziL (t:Adr) (K:af):Sp:=fun vs H Q _=>∃ (c tt g:Addr) (p T low:Int) (k:Nat) (pl:List Int) (bs:List Addr) (ts:List Wt3),vs = [.ref c,.ref g,.int T]/\zaZ H c tt p k pl/\H g=some #[ul]/\T3 H bs ts/\Gss p pl ts/\p∈zy/\pl.Nodup/\(∀ x∈pl,0<=x/\x < p)/\1<=k/\k<=5/\ts.length<=30/\ts.length ^ k<=1000000/\TbA t H/\zeb ((mxs (#[o0].map kw)).map (·.2)) (k - 1) low /\
 ∀ v H',zw #[K6] H'->TbA t H'->zmF p T low k #[o0] H H' v->Q v H'
theorem zbG:DF ["code","guesses","least","found","e"] ["code","guesses","least"] (zh zc2):=#[S]
theorem ziM (T:Txt K mg base t) (F:Fun K "_law_told" "_law_told" zc2 t.F9 fd):D1 P w K mg base CX0 7 t.F9 fd ["code","guesses","least"] (ziL t K):=by
 obtain⟨tH,rf,pj⟩:=T.FU;have uI:=zj2 (P:=P) (w:=w) (base:=base) T rf;obtain⟨rL,qb,oh⟩:=T.Fq;have tI:=ziK (P:=P) (w:=w) (base:=base) T qb;refine F.ok zbG #[pc] #[ld]
 ·obtain⟨c,tt,g,p,T',low,k,pl,bs,ts,rfl,_⟩:=h;rfl
 ·obtain⟨c,tt,g,p,T',low,k,pl,bs,ts,rfl,hc,hg,hT,hG,hp,mH,lR,k1,k5,hn,t9,qp,pe,q⟩:=h;refine zbg ?_; intro zX;refine⟨_,#[ze,#[zn,3,zbG.nd,#[A],(@zlm _ _ _)],#[ze,(@zlP _ _ _ _ (4) _ _ _ _ _ _ _ _ rfl rfl rfl rfl T.FK T.sb zbG.nd rfl rfl (fun xe km σ E hp=>(@zgW _ _ _ _ _ (@zia _ _ _ _ _ _ _ (3) _ zbG.nd rfl #[A] (@zgV _ _ _ _ _ _ _ _ _ _ _ _ _ _ _ _ _ _ uI #[pp] rfl T.Ho rf.kp pj .nil hp #[za,#[xL],#[za,#[Ev],#[LO]]] #[D] (by rfl) (by rfl)) (by rfl) (by trivial)))) (fun e=>zl #[zn,3,zbG.nd,#[A],(@zjp _ _ _ _ _ _ _ _ _ _ _ _ tI (Fb.of #[pp]) rfl T.G0 qb.kp oh #[Kf] #[D] (by rfl) (by rfl))]) #[D]),#[zl,#[zJ,#[Iz]]]]],?_⟩;refine zhV ?_; intro pW oR;refine⟨_,rfl,_,rfl,_,rfl,c,tt,g,p,T',k,pl,bs,ts,rfl,hc,hg,hT,hG,hp,mH,lR,k1,k5,hn,t9,qp,low,pe,?_⟩;by_cases h1:T'<=low
  ·refine .inl ⟨h1,fun H1 s1=>⟨_,rfl,T.FJ.sl,fun e he=>?_⟩⟩;refine⟨_,rfl,e,_,_,_,_,_,_,_,_,_,_,_,0,"few",rfl,zb,T.FJ,rfl,rfl,#[D],#[D],rfl,fun H' s'=>?_⟩;have sA:=s1.trans ((zd he).trans s');exact⟨_,rfl,q _ H' ((za9 _ _).trans sA) (qp.same sA) (.inl ⟨h1,rfl⟩)⟩
  ·refine .inr ⟨#[O],fun l rs qs H' hl s' uz h1' ht sM hR hm=>?_⟩;exact⟨_,rfl,q _ H' s' uz (.inr ⟨#[O],l,rs,qs,rfl,hl,h1',ht,sM,hR,hm⟩)⟩
theorem zeS {Q:VK} {a b:Addr} {xs ys:List V} (ha:kr K H a xs) (hb:kr K H b ys) (hl:xs.length=ys.length) (he:∀ (j:Nat) x y,xs[j]? = some x->ys[j]? = some y->EqD K H 8 x y true) (q:Q (.bl false) H):zmr K true #[IT] #[M9] H Q:=by
 refine⟨a,b,_,_,rfl,rfl,.inl ⟨ha,hb⟩,.inr ⟨hl,fun _=>true,he,?_⟩⟩;have:#[Mf].all (fun _=>true)=true:=by simp
 rw [this];exact q
theorem zka {d:Nat} {x:V} (hx:zeq x=true):EqD K H d x x true:=by
 have h:=EqD.flat (K:=K) (H:=H) (d:=d) (x:=x) (y:=x) hx hx;have e:eqV x x=true:=by
  cases x <;> simp_all [eqV,zeq]
 rw [e] at h;exact h
theorem zkY {a b:Addr} {ms:List Int} (ha:H a=some (.tup #[Jx])) (hb:H b=some (.tup #[Jx])):EqD K H 8 #[IT] #[M9] true:=by
 by_cases lW:a=b
 ·subst lW;exact .same
 ·have h:=EqD.Fc (K:=K) (H:=H) (d:=7) (e:=fun _=>true) lW (kJ.of ha) (kJ.of hb) fun j x y h1 h2=>by
   rw [h1] at h2;cases h2;obtain⟨z,rfl,_⟩:=zaY h1;exact zka rfl
  have e:((bW (min #[Jx].length #[Jx].length)).all (fun _=>true) && #[Jx].length == #[Jx].length)=true:=by simp
  rw [e] at h;exact h
theorem zkZ {rs Dl:List Addr} (h1:zbl H rs qs) (h2:zbl H Dl qs):∀ (j:Nat) x y,(rs.map V.ref)[j]? = some x->(Dl.map V.ref)[j]? = some y->EqD K H 8 x y true:=fun j x y e1 e2=>by
 obtain⟨a,rfl,ha⟩:=zao e1;obtain⟨b,rfl,hb⟩:=zao e2;obtain⟨q,g1,g2⟩:=Paired.get h1 ha;obtain⟨q',g3,g4⟩:=Paired.get h2 hb;rw [g1] at g3;cases g3;exact zkY g2 g4
theorem zk0 {a b:Addr} {xs:List V} {ps:Array Value} (hP:H b=some #[MW]) (h:kr K H a xs):kr K (hide H b) a xs:=by
 rcases h with (h | ⟨o,h⟩) | h
 ·exact .inl (.inl (zI h fun e=>by rw [e,hP] at h; cases h))
 ·exact .inl (.inr ⟨o,zI h fun e=>by rw [e,hP] at h; cases h⟩)
 ·exact .inr h
theorem zk1 {t:Adr} {G:Hp} (h0:G t.tab=none) (s:zw G H) (s':zw #[K6] H'):zw G H':=fun b u e=>s' _ _ (zI (s _ _ e) (zq e h0))
noncomputable def zbW (f:Int->Int) (e:Int×Int):Int×Int:=(f e.1,e.2)
theorem zgx {f:Int->Int} {x:Int}:∀ {d:List (Int×Int)},(∀ e∈d,f e.1=f x->e.1=x)->zb6 (d.map (zbW f)) (f x)=zb6 d x
 | [],_=>rfl
 | e :: d,h=>by
  have ih:=zgx (d:=d) fun y hy=>h y (aj _ hy)
  unfold zb6 at *;rw [aT,bV,bV];have:decide ((zbW f e).1=f x)=decide (e.1=x):=by
   by_cases hx:e.1=x
   ·rw [decide_eq_true hx,decide_eq_true (show (zbW f e).1=f x by unfold zbW; rw [hx])]
   ·rw [decide_eq_false hx,decide_eq_false (show ¬ (zbW f e).1=f x from fun z=>hx (h e aw z))]
  rw [this];cases decide (e.1=x) with
  | true=>rfl
  | false=>exact ih
theorem zkb {f:Int->Int} {x v:Int} {d:List (Int×Int)} (h:∀ e∈d,f e.1=f x->e.1=x):zcs (d.map (zbW f)) (f x) v=(zcs d x v).map (zbW f):=by
 have ha:((d.map (zbW f)).any fun e=>decide (e.1=f x))=d.any fun e=>decide (e.1=x):=by
  rw [List.any_map,db,cp,cp];constructor
  ·rintro⟨e,h1,h2⟩;exact⟨e,h1,decide_eq_true (h e h1 (of_decide_eq_true h2))⟩
  ·rintro⟨e,h1,h2⟩;exact⟨e,h1,decide_eq_true (show f e.1=f x by rw [of_decide_eq_true h2])⟩
 unfold zcs;rw [ha];split
 ·rw [aI,aI];refine ca fun e he=>?_
  show (if (zbW f e).1=f x then _ else _)=zbW f (if e.1=x then _ else _);by_cases hx:e.1=x
  ·rw [if_pos hx,if_pos (show (zbW f e).1=f x by unfold zbW; rw [hx])]; rfl
  ·rw [if_neg hx,if_neg (show ¬ (zbW f e).1=f x from fun z=>hx (h e he z))]
 ·rw [av]; rfl
theorem zhK {f:Int->Int} {L:List (Int×Int)} (hf:∀ a∈L,∀ b∈L,f a.1=f b.1->a.1=b.1):∀ n,mxs ((L.take n).map (zbW f))=#[Kz].map (zbW f)/\∀ e∈mxs (L.take n),∃ a∈L,a.1=e.1
 | 0=>by simp [mxs]
 | n+1=>by
  obtain⟨ih,hk⟩:=zhK hf n;by_cases hn:n < L.length
  ·have e:L[n]? = some L[n]:=ah hn;have hi:∀ e∈mxs (L.take n),f e.1=f L[n].1->e.1=L[n].1:=fun e he z=>by
    obtain⟨a,h1,h2⟩:=hk e he;rw [<- h2] at z |-;exact hf a h1 _ (bF hn) z
   rw [take_snoc e,av,List.map_singleton,zb7,zb7,ih];refine⟨?_,fun e' he=>?_⟩
   ·show zcs (#[Kz].map (zbW f)) (f L[n].1) (if (zb6 (#[Kz].map (zbW f)) (f L[n].1)).getD 0 > L[n].2 then (zb6 (#[Kz].map (zbW f)) (f L[n].1)).getD 0 else L[n].2)=_;rw [zgx hi,zkb hi];rfl
   ·have:=bT (f:=(·.1)) he;have yQ:(mxS #[Kz] L[n]).map (·.1)=_:=zeO _ _ _;rw [yQ] at this;split at this
    ·obtain⟨e2,h1,h2⟩:=aF.mp this;obtain⟨a,h3,h4⟩:=hk e2 h1;exact⟨a,h3,h4.trans h2⟩
    ·rcases aR.mp this with h1 | h1
     ·obtain⟨e2,h1,h2⟩:=aF.mp h1;obtain⟨a,h3,h4⟩:=hk e2 h1;exact⟨a,h3,h4.trans h2⟩
     ·exact⟨L[n],bF hn,(by simpa using h1:e'.1=L[n].1).symm⟩
  ·have e:L.take (n+1)=L.take n:=by rw [aV #[O],aV #[O]]
   rw [e];exact⟨ih,hk⟩
theorem zk2 {p:Int} {ts:List Wt3} (mH:pl.Nodup) (hG:Gss p pl ts):(mxs (#[o0].map kw)).map (·.2)=(mxs #[IN]).map (·.2):=by
 have h:=(zhK (f:=fun n=>pl.getD n.toNat 0) (L:=ts.map kw) (fun a ha b hb e=>by
  obtain⟨x,hx,rfl⟩:=aF.mp ha;obtain⟨y,hy,rfl⟩:=aF.mp hb;obtain⟨a0,a1,_⟩:=hG.rg x hx;obtain⟨b0,b1,_⟩:=hG.rg y hy;have na:x.1.toNat < pl.length:=by lia
  have nb:y.1.toNat < pl.length:=by lia
  have e':pl.getD x.1.toNat 0=pl.getD y.1.toNat 0:=e;rw [bd,ah na,bd,ah nb] at e';have:=(dQ mH).mp e';show x.1=y.1;lia) #[IN].length).1
 rw [bf] at h;have e1:#[o0].map kw=#[IN].map (zbW fun n=>pl.getD n.toNat 0):=by rw [aI,aI]; rfl
 rw [e1,h,aI];rfl
theorem zaZ.hid {b c tt:Addr} {p k:Int} {ps:Array Value} (hP:H b=some #[MW]) (h:zaZ H c tt p k pl):zaZ (hide H b) c tt p k pl:=⟨zI h.1 (fun e=>by have:=h.1; rw [e,hP] at this; cases this),zI h.2 (fun e=>by have:=h.2; rw [e,hP] at this; cases this)⟩
theorem TbA.put {t:Adr} {l:Addr} {xs:List V} {o:HO} (h:TbA t H) (hl:H l=some #[JS]):TbA t (kx H l o):=by
 obtain⟨ps,h1,h2,h3⟩:=h;refine⟨ps,by rw [zp (fun e=>by rw [e,hl] at h1; cases h1)]; exact h1,h2,h3.imp id fun ⟨c,z1,z2⟩=>⟨c,z1,by rw [zp (fun e=>by rw [e,hl] at z2; cases z2)]; exact z2⟩⟩
noncomputable def zkc (t:Adr) (K:af):Sp:=fun vs H Q _=>∃ (a:Addr) (ns:List Int),vs = [.ref a]/\kr K H a #[ww]/\ns.length<=63/\TbA t H/\∀ H',Q (.bl true) H'
theorem zaI:DF ["script","at","many","code","guesses","tops","number","entry","weight","low","plan","least","handed","found","one"] ["script"] (zh zbX):=#[S]
theorem zl8 (T:Txt K mg base t) (F:Fun K "law" "law" zbX t.law fd):D1 P w K mg base CX0 9 t.law fd ["script"] (zkc t K):=by
 obtain⟨mM,kM,kQ⟩:=T.Eb;have k8:=zcH (P:=P) (w:=w) (base:=base) T kM;obtain⟨rM,qc,oj⟩:=T.Ft;have tJ:=ziB (P:=P) (w:=w) (base:=base) T qc;obtain⟨pq,nQ,mq⟩:=T.El;have qd:=zft (P:=P) (w:=w) (base:=base) T nQ;obtain⟨rN,qe,om⟩:=T.Fs;have tK:=ziM (P:=P) (w:=w) (base:=base) T qe;obtain⟨qH,oW,nr⟩:=T.EU;have rO:=zg5 (P:=P) (w:=w) (base:=base) T oW;obtain⟨pv,lF,ly⟩:=T.Ej;have mv:=zfr (P:=P) (w:=w) (base:=base) T lF;obtain⟨mo,kN,kO⟩:=T.DO;have lj:=zcc (P:=P) (w:=w) (base:=base) T kN;obtain⟨qI,oX,nu⟩:=T.ET;have rP:=zg1 (P:=P) (w:=w) (base:=base) T oX;refine F.ok zaI #[pc] #[ld]
 ·obtain⟨a,ns,rfl,_⟩:=h;rfl
 ·obtain⟨a,ns,rfl,hS,kB,qp,q⟩:=h;have hu:(A.deeper (envOfC (bG "law") (zh zbX) s.heap.objs.size t.law kL)).units+20 < cLine:=by have:=hr.units; lia
  have hu':(A.deeper (envOfC (bG "law") (zh zbX) s.heap.objs.size t.law kL)).units+1 < cLine:=by lia
  refine zbg ?_; intro zX;refine⟨_,#[ze,#[zaA,bj,#[zay,T.D0,#[IB]],#[zj,1,zaI.nd,#[A]],#[ze,#[zn,2,zaI.nd,#[A],#[zi,#[zF],#[zW,#[zO],#[zu,k8,#[pp],T.D6,kM.kp,kQ,#[zY],#[za,#[xL],by exact #[za,#[Ku],#[Js]]]],#[zg]],#[zg]]],#[ze,(zfj #[zn,3,zaI.nd,#[KI],#[zu,tJ,#[pp],T.G2,qc.kp,oj,#[zY],#[za,#[xL],by exact #[za,#[IC],#[za,#[zfE,#[zH,#[zhb],#[IO],#[zg],(z7 _)],#[zW,#[zO],#[zag,#[Js]],#[Ev]],#[zg]],#[IB]]]]]]),#[ze,(zfj #[zn,4,zaI.nd,#[A],#[zu,qd,#[pp],T.FQ,nQ.kp,mq,#[zY],#[za,#[xL],by exact #[za,#[Ku],by exact #[za,#[Iz],#[za,#[zfE,#[zH,#[zhb],#[IO],#[zg],(z7 _)],#[zg],#[zg]],#[IB]]]]]]]),#[ze,#[zn,5,zaI.nd,#[A],#[zf7]],#[ze,#[zaA,bj,#[zae,#[Je]],#[zbd,#[zm,#[zj,6,zaI.nd,#[A]],#[zm,#[zj,7,zaI.nd,#[A]],#[zm,#[zj,8,zaI.nd,#[A]],#[zad]]]]],#[zl,#[zci,hu',#[K2],#[KH],#[zt,#[zce],T.HM,jL,#[za,#[Kw],#[ya,#[zdS,hu',#[K2],#[KH],#[zg],⟨rfl,rfl,rfl,rfl⟩]]]]]]],#[ze,#[zn,9,zaI.nd,#[A],#[zt,#[zcj],T.HL,jK,#[ya,#[zbo,zbM,(zeR rfl rfl T.EK #[K2]),#[zbJ],#[zbK,#[zi,#[zbe],#[zW,#[zbL],#[Iz],#[zg]],#[zg]]]]]]],#[ze,#[zn,10,zaI.nd,#[A],#[zu,k8,#[pp],T.D6,kM.kp,kQ,#[zY],#[za,#[xL],by exact #[za,#[Ku],#[Js]]]]],#[ze,#[zaA,bj,#[zae,#[zag,#[za,#[zi,#[zK],#[LM],#[zg]],by exact #[za,#[zi,#[zK],#[zi,#[zK],#[LM],#[zg]],#[JH]],by exact #[za,#[zi,#[zK],#[LM],#[JH]],by exact #[za,#[LM],#[za,#[zi,#[zbe],#[zi,#[zbe],#[LM],#[zg]],#[JH]],#[ya,#[zi,#[zbe],#[zg],#[zW,#[zO],#[Nx],#[zg]]]]]]]]]]],#[zj,11,zaI.nd,#[A]],#[ze,#[zn,12,zaI.nd,#[A],#[zaH,(@zeW _),T.Hq,boot_list,#[Kf]]],#[ze,#[zn,13,zaI.nd,#[A],#[zu,tK,#[pp],T.G1,qe.kp,om,#[zY],#[za,#[Iz],#[za,#[pvx,12],#[Lm]]]]],#[zl,#[zaX,#[zH,#[ziW],#[pvx,11],#[LM],(z7 _)],#[zl,#[zaX,#[zH,#[zfG],#[LX],#[zeT],(z7 _)],#[JG],#[zaq]]],#[ze,#[zaX,(@PW.pt _ _ _ #[zg7,#[zgA,#[zgy,#[zt,#[zb3],T.DG,bD,#[za,#[LX],#[ya,#[zdw,(.ty "list"),T.Hq,boot_list]]]]]],#[zg7,#[zH,#[zi8,hu],#[LX],#[zu,rO,#[pp],T.Gx,oW.kp,nr,#[zY],#[za,#[Iz],#[za,#[Je],#[Lm]]]],(z7 _)],#[zgz,#[zH,#[zi8,hu],#[pvx,12],#[Je],(z7 _)]]]]),#[JG],#[zaq]],#[ze,#[zaA,bj,#[zae,#[LX]],#[zj,14,zaI.nd,#[A]],#[zl,#[zaX,#[zH,#[zfG],#[zu,mv,#[pp],T.Ei,lF.kp,ly,#[zY],#[za,#[Iz],#[za,#[pvx,12],#[ya,#[pvx,14]]]]],#[zu,lj,#[pp],T.DW,kN.kp,kO,#[zY],#[IS]],(z7 _)],#[JG],#[zaq]]]],#[zl,#[zcJ,#[zdf,bP,eA,eB,#[zc8],#[LX],#[IB]]]]]]]]]]],#[ze,#[zn,14,zaI.nd,#[A],#[zaH,#[zaK],T.FE,gn,#[ya,#[zat,(DH.of (N':=["draw","code"]) (ix:=[none,some 3]) (zh zbX) _ rfl rfl rfl),#[za5],#[zae,#[zbo,zbM,#[zi,#[zbN],#[Nx],#[Nx]],#[zbJ],#[zbK,#[zW,#[zbL],#[Iz],#[zg]]]]],#[ut],#[wn],(fun _ _ _ _=>#[zi,#[zF],#[xL],#[zW,#[zcg,(K)],#[Ev],#[zg]]])]]]],#[ze,#[zaX,#[zgA,#[zgy,#[zu,rP,#[pp],T.Gw,oX.kp,nu,#[zY],#[ya,#[zu,mv,#[pp],T.Ei,lF.kp,ly,#[zY],#[IS]]]]]],#[JG],#[zaq]],#[zl,#[zaX,#[zH,#[zfG],#[zu,mv,#[pp],T.Ei,lF.kp,ly,#[zY],#[IS]],#[zu,lj,#[pp],T.DW,kN.kp,kO,#[zY],#[IS]],(z7 _)],#[JG],#[zaq]]]]]]]]]]]]]],#[JG]],?_⟩;refine zlB ?_; intro oR;have oE:=be;obtain⟨ps0,AM⟩:=qp.at_;have hG0:hide H t.tab t.tab=none:=by unfold hide; rw [if_pos rfl]
  have wA:=zk0 (K:=K) AM hS;have hGH:=za9 H t.tab;generalize hide H t.tab=G at hG0 wA hGH |-;refine⟨2,rfl,#[D],#[D],?_⟩;refine zaP (lo:=0) (n:=2) (fun i σ H'=>∃ e1 e2 e3 e4 e5 e6 e7 e8 e9 qW qX pK pL qY:Option V,σ = [some #[IT],e1,e2,e3,e4,e5,e6,e7,e8,e9,qW,qX,pK,pL,qY]/\zw G H'/\TbA t H') ⟨none,none,none,none,none,none,none,none,none,none,none,none,none,none,rfl,hGH,qp⟩ ?_ ?_
  ·rintro zD zT i σ H0 hi ⟨e1,e2,e3,e4,e5,e6,e7,e8,e9,qW,qX,pK,pL,qY,rfl,s0,tb0⟩;refine⟨_,rfl,_,rfl,_,_,rfl,rfl,.inl #[AC],_,_,rfl,rfl,a,ns,4*(0+(i:Int))+3,5,27720,rfl,s0.seq wA,kB,#[O],#[O],#[D],#[D],#[D],#[D],fun pm ds H1 AN s1 hd CU=>?_⟩;have pY:ds.length=5:=hd.1;obtain⟨d4,m4,g4⟩:=zbp (ns:=ds) (k:=4) #[D] #[O];refine⟨pm,_,_,_,rfl,rfl,kr.of CU,g4,_,_,rfl,rfl,(by show (0:Int) < 6; decide),?_⟩;have AZ:=s0.trans s1;have Dm:=tb0.same s1;obtain⟨my,hmy⟩:∃ my,d4 % 6=my:=⟨_,rfl⟩;refine⟨fun σ H'=>∃ (c tt:Addr) (p kI mk:Int) (pl:List Int),σ = [some #[IT],some (.int (0+(i:Int))),some (.int my),some #[K3],e4,e5,e6,e7,e8,e9,qW,qX,pK,pL,qY]/\zw G H'/\TbA t H'/\Hh mk 16 p kI pl/\zaZ H' c tt p kI pl/\mk<=5/\(0 < my\/mk=2),?_,?_⟩
   ·subst hmy;refine⟨_,rfl,_,rfl,_,_,rfl,rfl,.inl #[AC],_,rfl,_,_,rfl,rfl,_,rfl,zaW #[K0] #[K0]⟩
    ·obtain⟨mn,hmn,hmn'⟩:=zjh (x:=5) (y:=3) (m:=0+(i:Int)) #[O] #[O];refine⟨zb1,fun lb hlb=>?_⟩;have u0:=zd (o:=.lst [.int 5,.int 3]) hlb;refine⟨_,rfl,lb,_,_,_,rfl,rfl,kr.of zb,hmn,a,ns,4*(0+(i:Int)),mn,16,rfl,(AZ.trans u0).seq wA,kB,#[O],#[O],#[O],#[O],#[O],#[D],fun c tt p kI pl H2 su s2 co Dq Dr=>?_⟩;exact⟨c,tt,p,kI,mn,pl,rfl,AZ.trans (u0.trans s2),Dm.same (u0.trans s2),co,⟨Dq,Dr⟩,#[O],.inl #[IX]⟩
    ·refine⟨a,ns,4*(0+(i:Int)),2,16,rfl,AZ.seq wA,kB,#[O],#[O],#[D],#[D],#[D],#[D],fun c tt p kI pl H2 su s2 co Dq Dr=>?_⟩;exact⟨c,tt,p,kI,2,pl,rfl,AZ.trans s2,Dm.same s2,co,⟨Dq,Dr⟩,#[D],.inr rfl⟩
   rintro σ' H2 ⟨c,tt,p,kI,mk,pl,rfl,A0,tb2,co,su,hmk,BB⟩;have rp:=zQ co.pr;have k1:=co.k1;have kk:=co.kk;have kn:=co.kl;have ln:=co.ln;obtain⟨k,rfl⟩:∃ k:Nat,kI=k:=⟨kI.toNat,#[O]⟩;refine⟨fun σ H'=>∃ (g:Addr) (bs:List Addr) (ts:List Wt3),σ = [some #[IT],some (.int (0+(i:Int))),some (.int my),some #[K3],some (.ref g),e5,e6,e7,e8,e9,qW,qX,pK,pL,qY]/\zw G H'/\TbA t H'/\zaZ H' c tt p k pl/\H' g=some #[ul]/\T3 H' bs ts/\Gss p pl ts/\(∀ q∈ts,1<=q.2.2/\q.2.2<=9)/\ts.length<=30/\ts.length ^ k<=1000000,?_,?_⟩
   ·have yR:∀ n:Nat,n<=14->n ^ k<=1000000:=fun n hn=>bh (ed hn k) (bh (cO #[D] (show k<=5 by lia)) #[D])
    refine⟨_,rfl,_,rfl,_,_,rfl,rfl,.inl #[AC],_,_,rfl,rfl,_,rfl,_,rfl,_,_,rfl,rfl,_,rfl,zaW #[K0] #[K0]⟩
    ·refine⟨a,c,tt,ns,4*(0+(i:Int))+1,p,14,9,k,pl,rfl,A0.seq wA,kB,#[O],#[O],su,#[O],#[O],#[O],#[O],co.rg,#[O],#[O],#[D],#[D],#[D],#[D],fun l bs ts H3 hl s3 h3 pZ rh hw oC mS=>?_⟩;exact⟨l,bs,ts,rfl,A0.trans s3,tb2.same s3,su.same s3,h3,pZ,rh,hw,#[O],yR _ #[O]⟩
    ·have oZ:k<=2:=by
      rcases BB with z | z
      ·exact absurd (decide_eq_true z) h
      ·lia
     refine⟨a,c,tt,ns,4*(0+(i:Int))+1,p,30,9,k,pl,rfl,A0.seq wA,kB,#[O],#[O],su,#[O],#[O],#[O],#[O],co.rg,#[O],#[O],#[D],#[D],#[D],#[D],fun l bs ts H3 hl s3 h3 pZ rh hw oC mS=>?_⟩;exact⟨l,bs,ts,rfl,A0.trans s3,tb2.same s3,su.same s3,h3,pZ,rh,hw,#[O],bh (ed (show ts.length<=30 by lia) k) (bh (cO #[D] oZ) #[D])⟩
   rintro σ' H3 ⟨g,bs,ts,rfl,sG3,tb3,yy,Dt,pZ,rh,hw,yS,t9⟩;have pJ:=pZ.length;have hW:=zfs co.nd co.rg rh.nd rh.rg;have qz:∀ q∈ts.map kw,0<=q.2:=fun x hx=>by
    obtain⟨z,hz,rfl⟩:=aF.mp hx;exact #[Mb].2.2.2.2
   intro D hD;have u4:=zd (o:=.dK []) hD;have rH:kx H3 D (.dK []) D=some (.dK []):=zb;generalize kx H3 D (.dK [])=H4 at u4 rH |-;refine⟨_,rfl,g,rfl,⟨_,kr.of (u4 _ _ Dt)⟩,zaz (K:=K) (a:=g) (xs:=bs.map V.ref) (fun j σ H'=>∃ (f6 f7 f8:Option V),σ = [some #[IT],some (.int (0+(i:Int))),some (.int my),some #[K3],some (.ref g),some #[Is],f6,f7,f8,e9,qW,qX,pK,pL,qY]/\zw H3 H'/\H' D=some (.dK ((mxs (#[IN].take j)).map zcY)))
    ⟨_,_,_,rfl,u4,rH⟩ (fun j σ H' _ hq=>by obtain⟨_,_,_,_,s3,_⟩:=hq; exact kr.of (s3 _ _ Dt)) ?_ ?_⟩
   ·rintro zD zT j xx σ H5 uD ⟨f6,f7,f8,rfl,s5,wB⟩;obtain⟨b,rfl,sG⟩:=zao uD;obtain⟨z,hz,hb⟩:=Paired.get pZ sG;have t7:=zdY (l:=ts.map kw) j qz;have oU:=t7.ln;rw [aG,aa] at oU;have sM:#[IN][j]? = some (z.1,z.2.2):=by rw [aB,hz]; rfl
    refine⟨b,_,rfl,kJ.of (s5 _ _ hb),rfl,_,_,rfl,_,_,rfl,_,_,rfl,rfl,?_⟩;refine⟨_,rfl,_,rfl,D,rfl,.inl ⟨_,.inl wB⟩,_,rfl,_,.inl ⟨_,aZ z.1,.inl wB,rfl,rfl⟩,?_⟩;have hg':(zaB ((mxs (#[IN].take j)).map zcY) (aZ z.1)).getD (.int 0) = .int ((zb6 (mxs (#[IN].take j)) z.1).getD 0):=by
     rw [zgo];cases zb6 (mxs (#[IN].take j)) z.1 <;> rfl
    rw [hg'];refine⟨_,_,rfl,_,rfl,_,rfl,D,_,rfl,.inl ⟨_,aZ z.1,wB,rfl,by rw [aa]; lia,rfl⟩,?_⟩;refine⟨_,_,_,rfl,fun c o e=>by rw [zp (zq e hD)]; exact s5 _ _ e,?_⟩;rw [zb,zgp,take_snoc sM,zb7];rfl
   rintro σ H5 ⟨f6,f7,f8,rfl,s5,wB⟩;have t7:=zjV qz;have oU:=t7.ln;rw [aa] at oU wB;rw [pJ,aV (by rw [aa]; exact ag _)] at wB;have AS:=yy.same s5;refine⟨_,rfl,D,_,(mxs #[IN]).map (·.2),rfl,wB,by rw [aI,aI]; rfl,by rw [aa]; lia,fun l oa hl n6 vZ=>?_⟩;have v6:=zd (o:=.lst #[K5]) hl;have hc6:=AS.same v6;refine⟨_,rfl,c,_,_,_,rfl,rfl,kJ.of hc6.1,rfl,_,_,rfl,rfl,_,rfl,l,_,rfl,kr.of zb,fun l2 mS=>?_⟩;rw [show (k:Int) - 1=((k - 1:Nat):Int) by lia,zfn,<- gc];have v7:=zd (o:=.lst ((oa.take (k - 1)).map V.int)) mS;refine⟨l2,_,rfl,kr.of zb,?_⟩;obtain⟨low,pe⟩:∃ low,(oa.take (k - 1)).sum=low:=⟨_,rfl⟩;have yT:zeb ((mxs (#[o0].map kw)).map (·.2)) (k - 1) low:=by rw [zk2 co.nd rh]; exact⟨oa,n6,vZ,pe.symm⟩
   rw [pe];have xh:=s5.trans (v6.trans v7);generalize kx (kx H5 l (.lst #[K5])) l2 (.lst ((oa.take (k - 1)).map V.int))=H7 at xh |-;have sG7:=sG3.trans xh;refine⟨_,rfl,_,rfl,_,_,rfl,rfl,.inl #[AC],_,_,rfl,rfl,a,ns,4*(0+(i:Int))+3,4,27720,rfl,sG7.seq wA,kB,#[O],#[O],#[D],#[D],#[D],#[D],fun pa es H8 hpa s8 he yU=>?_⟩;have hel:es.length=4:=he.1;obtain⟨d0,m0,g0⟩:=zbp (ns:=es) (k:=0) #[D] #[O];obtain⟨d1,m1,g1⟩:=zbp (ns:=es) (k:=1) #[D] #[O];obtain⟨d2,m2,g2⟩:=zbp (ns:=es) (k:=2) #[D] #[O];obtain⟨d3,m3,g3⟩:=zbp (ns:=es) (k:=3) #[D] #[O];refine⟨_,rfl,_,_,rfl,rfl,_,rfl,_,_,rfl,rfl,_,rfl,pa,_,_,_,rfl,rfl,kr.of yU,g0,_,_,rfl,rfl,(by show (0:Int) < 9; decide),_,_,rfl,rfl,_,rfl,_,rfl,pa,_,_,_,rfl,rfl,kr.of yU,g1,_,_,rfl,rfl,(by show (0:Int) < 40; decide),_,_,rfl,rfl,_,rfl,_,rfl,_,_,rfl,rfl,_,rfl,pa,_,_,_,rfl,rfl,kr.of yU,g2,_,_,rfl,rfl,(by show (0:Int) < 9; decide),_,_,rfl,rfl,_,rfl,pa,_,_,_,rfl,rfl,kr.of yU,g3,_,_,rfl,rfl,by show 6<=sizeLine; lia,fun lt kU=>?_⟩;obtain⟨Ls,AD⟩:∃ Ls:List Int,Ls = [low+1,low+1+d0 % 9,low+d1 % 40,low,low - 1 - d2 % 9,0 - d3]:=⟨_,rfl⟩;obtain⟨H9,Du⟩:∃ H9,H9=kx H8 lt (.lst (Ls.map V.int)):=⟨_,rfl⟩;have wC:H9=kx H8 lt (.lst [.int (low+1),.int (low+1+d0 % 9),.int (low+d1 % 40),.int low,.int (low - 1 - d2 % 9),.int (0 - d3)]):=by rw [Du,AD]; rfl
   have u9:zw H8 H9:=by rw [Du]; exact zd kU
   have A8:H9 lt=some (.lst (Ls.map V.int)):=by rw [Du]; exact zb
   have yV:=xh.trans (s8.trans u9);have sG9:=sG3.trans yV;have tb9:=tb3.same yV;have hc9:=yy.same yV;have Dv:=yV _ _ Dt;have hT9:=pZ.same yV;have Dw:=u9 _ _ yU;obtain⟨ps9,yW⟩:=tb9.at_;have ub:=hc9.hid yW;have vm:=hT9.hid yW;have vn:hide H9 t.tab g=some #[ul]:=zI Dv (fun e=>by rw [e,yW] at Dv; cases Dv);have hpG:hide H9 t.tab pa=some (.lst (es.map V.int)):=zI Dw (fun e=>by rw [e,yW] at Dw; cases Dw);have htG:hide H9 t.tab lt=some (.lst (Ls.map V.int)):=zI A8 (fun e=>by rw [e,yW] at A8; cases A8);have hN:hide H9 t.tab t.tab=none:=by unfold hide; rw [if_pos rfl]
   have sGX:zw G (hide H9 t.tab):=fun b u e=>zI (sG9 _ _ e) (zq e hG0)
   have sX9:=za9 H9 t.tab;obtain⟨X9,hX9⟩:∃ X9,hide H9 t.tab=X9:=⟨_,rfl⟩;rw [hX9] at ub vm vn hpG htG hN sGX sX9;refine⟨lt,rfl,⟨Ls.map V.int,kr.of (by rw [<- wC]; exact A8)⟩,zaz (K:=K) (a:=lt) (xs:=Ls.map V.int) (fun j σ H'=>∃ (Dx Dy Dz yX:Option V),σ = [some #[IT],some (.int (0+(i:Int))),some (.int my),some #[K3],some (.ref g),some #[Is],f6,f7,f8,some (.int low),some (.ref pa),Dx,Dy,Dz,yX]/\zw X9 H'/\TbA t H')
    ⟨_,_,_,_,rfl,by rw [<- wC]; exact sX9,by rw [<- wC]; exact tb9⟩ (fun j σ H' _ hq=>by obtain⟨_,_,_,_,_,s',_⟩:=hq; exact kr.of (s' _ _ htG)) ?_ ?_⟩
   ·rintro zD zT j y σ Ha hy ⟨Dx,Dy,Dz,yX,rfl,sa,A9⟩;obtain⟨T',rfl,x6⟩:=zaY hy;refine⟨_,rfl,g,_,rfl,.inl (kr.of (sa _ _ vn)),fun hn BH=>?_⟩;have vb:=zd (o:=.lst #[K7]) BH;have yY:kx Ha hn #[ul] hn=some #[ul]:=zb;generalize kx Ha hn #[ul]=Hb at vb yY |-;have sb:=sa.trans vb;refine⟨_,rfl,_,rfl,_,rfl,c,tt,hn,p,T',low,k,pl,bs,ts,rfl,ub.same sb,yY,vm.same sb,rh,co.pr,co.nd,co.rg,#[O],#[O],yS,t9,A9.same vb,yT,fun v Hc sc tbc hv=>?_⟩;have uc:zw X9 Hc:=zk1 (t:=t) hN sb sc;refine⟨_,rfl,_,rfl,_,_,rfl,rfl,_,rfl,?_⟩;rcases hv with ⟨hle,rfl⟩ | ⟨DA,fo,rs,qs,rfl,hfo,hcf,hTf,hqz,hRf,uF⟩
    ·refine zaW #[wE] (fun h=>absurd (decide_eq_true hle) h);refine⟨_,rfl,rfl,_,rfl,zaW #[La] #[wE]⟩;exact⟨_,_,_,_,rfl,uc,tbc⟩
    refine zaW (fun h=>absurd #[IX] #[O]) #[wE];obtain⟨psb,hPb⟩:=(A9.same vb).at_;have hcn:Hc hn=some #[ul]:=sc _ _ (zI yY fun e=>by rw [e,hPb] at yY; cases yY);refine⟨_,rfl,_,_,_,_,rfl,.lst hcf,rfl,true,rfl,zgH ⟨_,rfl,_,rfl,_,rfl,_,rfl,c,tt,g,p,T',low,k,pl,bs,ts,rfl,ub.same uc,uc _ _ vn,vm.same uc,rh,co.pr,co.nd,co.rg,#[O],#[O],yS,t9,yT,DA,fun du Dl qs' Hd hdu sd vT hTd hRd hmd=>?_⟩⟩;have eq:qs'=qs:=zhE hRd hRf fun x=>(hmd x).trans (uF x).symm
    subst eq;have vo:=uc.trans sd;have tW:=sd _ _ hcf;have wD:=hTf.same sd;have oC:=wD.length;have mS:=hTd.length;have hdn:=sd _ _ hcn;have yx:=vo _ _ vn;refine zeS (kr.of tW) (kr.of vT) (by rw [aa,aa]; lia) (zkZ wD hTd) ⟨_,rfl,zgH ⟨_,rfl,_,rfl,zeS (kr.of hdn) (kr.of yx) rfl (fun j x y x1 x2=>?_) ⟨_,rfl,zgH ?_⟩⟩⟩
    ·rw [x1] at x2;cases x2;obtain⟨b,rfl,_⟩:=zao x1;exact .same
    refine⟨_,rfl,fo,rfl,⟨_,kr.of tW⟩,zaz (K:=K) (a:=fo) (xs:=rs.map V.ref) (fun m σ H'=>∃ yX:Option V,σ = [some #[IT],some (.int (0+(i:Int))),some (.int my),some #[K3],some (.ref g),some #[Is],f6,f7,f8,some (.int low),some (.ref pa),some (.int T'),some (.ref hn),some (.ref fo),yX]/\zw Hd H') ⟨_,rfl,fun _ _ e=>e⟩ (fun m σ H' _ hq=>by obtain⟨_,_,s'⟩:=hq; exact kr.of (s' _ _ tW)) ?_ ?_⟩
    ·rintro zD zT m y σ He vA ⟨g14,rfl,se⟩;obtain⟨rb,rfl,yw⟩:=zao vA;obtain⟨qq,qG,l7⟩:=Paired.get wD yw;have vq:=vo.trans se;have oQ:∀ q∈ts,0<=q.1/\q.1 < pl.length:=fun z hz=>⟨#[Mb].1,#[Mb].2.1⟩
     refine⟨_,rfl,_,rfl,_,rfl,c,tt,hn,rb,p,k,pl,qq,bs,ts,rfl,ub.same vq,se _ _ hdn,vm.same vq,se _ _ l7,#[O],#[O],#[O],oQ,co.rg,fun Hf sf=>?_⟩;have DB:=vq.trans sf;refine⟨_,rfl,_,rfl,_,rfl,c,tt,g,rb,p,k,pl,qq,bs,ts,rfl,ub.same DB,DB _ _ vn,vm.same DB,(se.trans sf) _ _ l7,#[O],#[O],#[O],oQ,co.rg,fun Hg sg=>?_⟩;refine⟨rfl,_,rfl,zaW #[La] #[wE]⟩;exact⟨_,rfl,se.trans (sf.trans sg)⟩
    ·rintro σ He ⟨g14,rfl,se⟩;have DC:=se _ _ tW;refine⟨_,rfl,.inl ⟨rfl,_,kr.of DC⟩,fo,_,_,rfl,rfl,DC,by rw [aa]; lia,?_⟩;exact⟨_,_,_,_,rfl,zav (vo.trans se) (sb.free hfo),(tbc.same (sd.trans se)).put DC⟩
   rintro σ Ha ⟨Dx,Dy,Dz,yX,rfl,sa,A9⟩;have oQ:∀ q∈ts,0<=q.1/\q.1 < pl.length:=fun z hz=>⟨#[Mb].1,#[Mb].2.1⟩
   have wd:=sa _ _ hpG;have hca:=ub.same sa;refine⟨_,rfl,_,rfl,pa,pa,_,_,rfl,rfl,wd,wd,by rw [aa]; lia,fun l1 oC=>?_⟩;have w1:=zd (o:=.lst #[Nv]) oC;refine⟨_,rfl,c,_,_,_,rfl,rfl,kJ.of (hca.same w1).1,rfl,_,rfl,l1,_,rfl,kr.of zb,fun l3 vS=>?_⟩;rw [zfn,<- av,<- gc];obtain⟨zs,Ao⟩:∃ zs,(es++es).take k=zs:=⟨_,rfl⟩;have hzl:zs.length<=8:=by rw [<- Ao,aG,aA]; lia
   have yH:zs.length=k:=by rw [<- Ao,aG,aA]; lia
   rw [Ao];have w2:=zd (o:=.lst (zs.map V.int)) vS;have tD:kx (kx Ha l1 (.lst #[Nv])) l3 #[LD] l3=some #[LD]:=zb;rw [<- av] at w1 vS w2 tD;have DD:=w1.trans w2;generalize kx (kx Ha l1 (.lst ((es++es).map V.int))) l3 #[LD]=Hb at tD DD |-;have sXb:=sa.trans DD;refine⟨l3,rfl,⟨_,kr.of tD⟩,zal (n:=zs.length) (fun j ys H'=>ys=((zs.take j).map (· % p)).map V.int/\H'=Hb) ⟨rfl,rfl⟩ ?_ ?_ ?_ ?_⟩
   ·rintro j ys H' hj ⟨_,rfl⟩;exact⟨_,.int zs[j],kr.of tD,by rw [aB,ah hj]; rfl⟩
   ·rintro ys H' ⟨_,rfl⟩;exact⟨_,kr.of tD,by rw [aa]; exact ag _⟩
   ·rintro zS zT zE j y ys H' H'' hj ⟨rfl,rfl⟩ ⟨rfl,hy⟩;have vj:zs[j]? = some zs[j]:=ah hj;have ey:=hy _ (kr.of tD);rw [aB,vj] at ey;have ey:V.int zs[j]=y:=aQ ey;subst ey;refine gY ⟨_,rfl,_,rfl,c,_,_,_,rfl,rfl,kJ.of (ub.same sXb).1,rfl,_,_,rfl,rfl,(by show (0:Int) < p; lia),by rw [aa,aa,aG]; lia,?_,rfl⟩;rw [take_snoc vj,av,av];rfl
   rintro ys H' D2 ⟨rfl,rfl⟩ yd;rw [bf];have w3:=zd (o:=.lst ((zs.map (· % p)).map V.int)) yd;refine⟨D2,_,rfl,.inl ⟨kr.of zb,fun on hon=>?_⟩⟩;have w4:=zd (o:=.tup ((zs.map (· % p)).map V.int)) hon;have uJ:kx (kx H' D2 (.lst ((zs.map (· % p)).map V.int))) on (.tup ((zs.map (· % p)).map V.int)) on=some (.tup ((zs.map (· % p)).map V.int)):=zb;have DE:=DD.trans #[MY];generalize kx (kx H' D2 (.lst ((zs.map (· % p)).map V.int))) on (.tup ((zs.map (· % p)).map V.int))=Hc at uJ DE |-;have uc:=sa.trans DE;refine⟨_,rfl,_,rfl,_,rfl,c,tt,g,on,p,k,pl,_,bs,ts,rfl,ub.same uc,uc _ _ vn,vm.same uc,uJ,#[O],#[O],#[O],oQ,co.rg,fun Hd sd=>⟨_,rfl,true,rfl,zgH ?_⟩⟩;have vo:=uc.trans sd;refine⟨_,rfl,_,rfl,_,rfl,c,tt,g,on,p,k,pl,_,bs,ts,rfl,ub.same vo,vo _ _ vn,vm.same vo,sd _ _ uJ,#[O],#[O],#[O],oQ,co.rg,fun He se=>?_⟩;have vq:=vo.trans se;refine⟨_,rfl,_,rfl,_,rfl,c,tt,g,on,p,k,pl,_,bs,ts,rfl,ub.same vq,vq _ _ vn,vm.same vq,(sd.trans se) _ _ uJ,#[O],#[O],#[O],oQ,co.rg,fun Hf sf=>?_⟩;refine⟨rfl,_,rfl,zaW #[La] #[wE]⟩;exact⟨_,_,_,_,_,_,_,_,_,_,_,_,_,_,rfl,sGX.trans (vq.trans sf),A9.same (DE.trans (sd.trans (se.trans sf)))⟩
  ·rintro σ H1 ⟨e1,e2,e3,e4,e5,e6,e7,e8,e9,qW,qX,pK,pL,qY,rfl,s1,Dm⟩;exact q _
end
structure Dn (K:af) (x:Str) (st:Stmt) (f:Addr) (fd:FuncData):Prop where
 a:ba K mainGlobals x=some (some #[J9])
 f:Fun K x x st f fd
theorem zax {K:af} {x:Str} {st:Stmt} {f:Addr} {kV dc:Value} (a:ba K mainGlobals x=some (some #[J9])) (l:K.lookup f=some ⟨oc,od,.func #[J0],sl⟩) (c:dL K cd x=true) (k:dm K #[J9]=true):Dn K x st f #[J0]:=⟨a,zi1 l c k⟩
theorem el0 {n:Nat} (e:us.length=n+1):∃ a v,us=a :: v/\v.length=n:=by
 cases us with
 | nil=>cases e
 | cons a v=>exact⟨a,v,rfl,Nat.succ.inj e⟩
theorem el1 (e:us.length=1):∃ a,us = [a]:=by
 obtain⟨a,v,rfl,h⟩:=el0 e;exact⟨a,by rw [List.eq_nil_of_length_eq_zero h]⟩
theorem el2 (e:us.length=2):∃ a b,us = [a,b]:=by
 obtain⟨a,v,rfl,h⟩:=el0 e;obtain⟨b,rfl⟩:=el1 h;exact⟨a,b,rfl⟩
theorem el3 (e:us.length=3):∃ a b c,us = [a,b,c]:=by
 obtain⟨a,v,rfl,h⟩:=el0 e;obtain⟨b,c,rfl⟩:=el2 h;exact⟨a,b,c,rfl⟩
theorem el4 (e:us.length=4):∃ a b c d,us = [a,b,c,d]:=by
 obtain⟨a,v,rfl,h⟩:=el0 e;obtain⟨b,c,d,rfl⟩:=el3 h;exact⟨a,b,c,d,rfl⟩
theorem el5 (e:us.length=5):∃ a b c d i,us = [a,b,c,d,i]:=by
 obtain⟨a,v,rfl,h⟩:=el0 e;obtain⟨b,c,d,i,rfl⟩:=el4 h;exact⟨a,b,c,d,i,rfl⟩
noncomputable def zfB (TP:Addr) (K:af):Sp:=fun vs H Q _=>∃ (a:Addr) (ns:List Int),vs = [.ref a]/\kr K H a #[ww]/\ns.length<=63/\TbI TP zmC zmD H/\∀ H',Q (.bl true) H'
local macro_rules|`(#[E1])=>`(fun _ _ _ _ _ _ _ h=>by obtain⟨_,e⟩:=el1 h;subst e;exact rfl)
local macro_rules|`(#[E2])=>`(fun _ _ _ _ _ _ _ h=>by obtain⟨_,_,e⟩:=el2 h;subst e;exact rfl)
local macro_rules|`(#[E3])=>`(fun _ _ _ _ _ _ _ h=>by obtain⟨_,_,_,e⟩:=el3 h;subst e;exact rfl)
local macro_rules|`(#[E4])=>`(fun _ _ _ _ _ _ _ h=>by obtain⟨_,_,_,_,e⟩:=el4 h;subst e;exact rfl)
local macro_rules|`(#[E5])=>`(fun _ _ _ _ _ _ _ h=>by obtain⟨_,_,_,_,_,e⟩:=el5 h;subst e;exact rfl)
theorem zl9 {TP:Addr} {l:gN} {K:af} {fa fl lG ky nv nA nB mP px mQ lJ oo pz:Addr} (X:K.In h) (G:h.Ns mainGlobals mg) (hfa:mg "law" = some (.ref fa))
  {kV dc:Value} (qf:ba K mainGlobals "SlipError" = some (some (.ref lG))) (tL:ba K mainGlobals "TooFew" = some (some #[JC])) (rQ:ba K mainGlobals "NoCurve" = some (some (.ref nv))) (rR:ba K mainGlobals "NoPaper" = some (some (.ref nA))) (rS:ba K mainGlobals "NoPlace" = some (some (.ref nB))) (qJ:ba K mainGlobals "NoNumber" = some (some (.ref mP))) (uK:ba K mainGlobals "Heard" = some (some (.ref px))) (qK:ba K mainGlobals "NotHeard" = some (some (.ref mQ))) (oJ:ba K mainGlobals "NothingLeft" = some (some (.ref lJ))) (tM:ba K mainGlobals "NoText" = some (some (.ref oo))) (uL:ba K mainGlobals "NoRow" = some (some (.ref pz))) (qL:∃ f fd,Dn K "value_at" zbV f fd) (rT:∃ f fd,Dn K "inverse" zcm f fd) (pA:∃ f fd,Dn K "times_root" za0 f fd) (wF:∃ f fd,Dn K "bent" zd0 f fd) (m8:∃ f fd,Dn K "weighted_points" zar f fd) (qg:∃ f fd,Dn K "weight_in" zbc f fd) (qh:∃ f fd,Dn K "weight_of" zbs f fd) (oK:∃ f fd,Dn K "most_weight" zaL f fd) (pB:∃ f fd,Dn K "next_picks" zbm f fd) (nC:∃ f fd,Dn K "picked_weights" zaa f fd/\TabOf K f TP) (uM:∃ f fd,Dn K "heavy" zcn f fd) (tN:∃ f fd,Dn K "_law_cell" zcZ f fd) (rU:∃ f fd,Dn K "_law_draws" zco f fd) (rV:∃ f fd,Dn K "_law_whole" zcp f fd) (tO:∃ f fd,Dn K "_law_code" zb8 f fd) (rW:∃ f fd,Dn K "_law_value" zcq f fd) (qi:∃ f fd,Dn K "_law_through" zaE f fd) (qj:∃ f fd,Dn K "_law_guesses" zaT f fd) (tP:∃ f fd,Dn K "_law_word" zc0 f fd) (qk:∃ f fd,Dn K "_law_choices" zaU f fd) (uN:∃ f fd,Dn K "_law_all" zc1 f fd) (oq:∃ f fd,Dn K "_law_polynomial" zaF f fd) (oM:∃ f fd,Dn K "_law_weight_of" zaM f fd) (rX:∃ f fd,Dn K "_law_heavy" zaV f fd) (tQ:∃ f fd,Dn K "_law_told" zc2 f fd)  (D5:eU K ky zjl "ValueError.__new__" = true) (nY:a8 K #[JC] #[JC]=some true) (nD:a8 K #[JC] (.ref nv)=some false) (nE:a8 K #[JC] (.ref nA)=some false) (nF:a8 K #[JC] (.ref nB)=some false) (m9:a8 K #[JC] (.ref mP)=some false) (ot:a8 K #[JC] (.ref px)=some false) (nc:a8 K #[JC] (.ref mQ)=some false) (mw:a8 K #[JC] (.ref lJ)=some false) (nZ:a8 K #[JC] (.ref oo)=some false) (ou:a8 K #[JC] (.ref pz)=some false) (tR:a8 K #[JC] (.type "ValueError")=some true) (tS:dN K #[JC] (.ref lG)=some true) (rY:bY K #[JC] "__getattribute__" = some (some (.builtin "BaseException.__getattribute__"))) (rZ:bY K #[JC] "__getattr__" = some none) (sh:bY K #[JC] "__class__" = some (some (.builtin "object.__class__"))) (si:bI K ky (.type "object")=some true) (sj:bI K ky (.type "BaseException")=some true) (sk:dN K #[JC] #[JC]=some true) (sb:bI K lG (.type "BaseException")=some true)
  (al:ba K mainGlobals "law" = some (some (.ref fl))) (ll:K.lookup fl=some ⟨oc,od,.func (ci "law" "law" (zbr zbX) (zaN zbX) (zh zbX) .none kV dc pm an cd ct),sl⟩) (cl:dL K cd "law" = true) (kl:dm K (.ref fl)=true) (yZ:ba K mainGlobals "len" = some none) (uO:ba K mainGlobals "range" = some none) (wG:ba K mainGlobals "list" = some none) (uP:ba K mainGlobals "tuple" = some none) (y6:ba K mainGlobals "min" = some none) (y8:ba K mainGlobals "max" = some none) (pC:ba K mainGlobals "isinstance" = some none) (y9:ba K mainGlobals "int" = some none) (wH:ba K mainGlobals "bool" = some none) (Aa:ba K mainGlobals "zip" = some none) (qM:ba K mainGlobals "reversed" = some none) (tT:ba K mainGlobals "sorted" = some none) (Ab:ba K mainGlobals "sum" = some none) (Ac:ba K mainGlobals "set" = some none) (pD:ba K mainGlobals "ValueError" = some none) :
  ∃ fd:FuncData,(∀ (s:Shared) (v:Value),BindsTo s fd ⟨[v],[]⟩ [("script",v)])/\∀ base:Heap,K.In base->base.Ns mainGlobals mg->zea mg base->D1 l.prog w K mg base CX0 9 fa fd ["script"] (zfB TP K):=by
 cases hfa.symm.trans (aL X G al);obtain⟨DV,me,mR⟩:=qL;have kP:=mR.f.binds (ps:=["p","polynomial","x"]) #[E3]
 obtain⟨EV,qD,nG⟩:=rT;have nk:=nG.f.binds (ps:=["p","number"]) #[E2]
 obtain⟨D8,oH,lU⟩:=pA;have lS:=lU.f.binds (ps:=["p","polynomial","root"]) #[E3]
 obtain⟨GD,uE,qN⟩:=wF;have qE:=qN.f.binds (ps:=["p","polynomial","vanishing","point"]) #[E4]
 obtain⟨DJ,lB,k7⟩:=m8;have kH:=k7.f.binds (ps:=["code","guesses"]) #[E2]
 obtain⟨DY,mX,mB⟩:=qg;have lr:=mB.f.binds (ps:=["p","points","polynomial"]) #[E3]
 obtain⟨Ej,pv,mC⟩:=qh;have ly:=mC.f.binds (ps:=["code","guesses","polynomial"]) #[E3]
 obtain⟨DN,mh,lK⟩:=oK;have kT:=lK.f.binds (ps:=["points","many"]) #[E2]
 obtain⟨D9,oI,lV⟩:=pB;have lT:=lV.f.binds (ps:=["p","points","rests","least","pick"]) #[E5]
 obtain⟨DM,m5,lh,tb⟩:=nC;have lg:=lh.f.binds (ps:=["p","k","points","least"]) #[E4]
 obtain⟨FU,tH,pE⟩:=uM;have pj:=pE.f.binds (ps:=["code","guesses","least"]) #[E3]
 obtain⟨Fu,rF,ow⟩:=tN;have oe:=ow.f.binds (ps:=["script","k"]) #[E2]
 obtain⟨Eb,mM,nH⟩:=rU;have kQ:=nH.f.binds (ps:=["script","k","many","base"]) #[E4]
 obtain⟨ET,qI,nI⟩:=rV;have nu:=nI.f.binds (ps:=["found"]) #[E1]
 obtain⟨Ft,rM,oz⟩:=tO;have oj:=oz.f.binds (ps:=["script","at","most_k","most_n"]) #[E4]
 obtain⟨Ea,mO,nJ⟩:=rW;have kX:=nJ.f.binds (ps:=["p","polynomial","x"]) #[E3]
 obtain⟨Ek,ph,mE⟩:=qi;have ml:=mE.f.binds (ps:=["p","points"]) #[E2]
 obtain⟨El,pq,mF⟩:=qj;have mq:=mF.f.binds (ps:=["script","at","code","most","top"]) #[E5]
 obtain⟨Fq,rL,oA⟩:=tP;have oh:=oA.f.binds (ps:=["e"]) #[E1]
 obtain⟨DZ,m7,mG⟩:=qk;have lx:=mG.f.binds (ps:=["some","many"]) #[E2]
 obtain⟨FT,tF,pF⟩:=uN;have pf:=pF.f.binds (ps:=["p","k"]) #[E2]
 obtain⟨DR,nX,lD⟩:=oq;have lC:=lD.f.binds (ps:=["draws","p","k"]) #[E3]
 obtain⟨DO,mo,lL⟩:=oM;have kO:=lL.f.binds (ps:=["code","guesses","one"]) #[E3]
 obtain⟨EU,qH,nK⟩:=rX;have nr:=nK.f.binds (ps:=["code","guesses","least"]) #[E3]
 obtain⟨Fs,rN,oB⟩:=tQ;have om:=oB.f.binds (ps:=["code","guesses","least"]) #[E3]
 let t:Adr:=⟨TP,lG,ky,nv,nA,nB,mP,px,mQ,lJ,oo,pz,DV,EV,D8,GD,DJ,DY,Ej,DN,D9,DM,FU,Fu,Eb,ET,Ft,Ea,Ek,El,Fq,DZ,FT,DR,DO,EU,Fs,fa⟩
 have T:∀ base:Heap,zea mg base->Txt K mg base t:=fun base hB=>⟨hB,tb,bq X G yZ,bq X G uO,bq X G wG,bq X G uP,bq X G y6,bq X G y8,bq X G pC,bq X G y9,bq X G wH,bq X G Aa,bq X G qM,bq X G tT,bq X G Ab,bq X G Ac,bq X G pD,aL X G qf,aL X G tL,aL X G rQ,aL X G rR,aL X G rS,aL X G qJ,aL X G uK,aL X G qK,aL X G oJ,aL X G tM,aL X G uL,D5,⟨nY,nD,nE,nF,m9,ot,nc,mw,nZ,ou,tR,⟨rY,rZ,sh,si,sj,sk⟩,tS⟩,sb,aL X G mR.a,aL X G nG.a,aL X G lU.a,aL X G qN.a,aL X G k7.a,aL X G mB.a,aL X G mC.a,aL X G lK.a,aL X G lV.a,aL X G lh.a,aL X G pE.a,aL X G ow.a,aL X G nH.a,aL X G nI.a,aL X G oz.a,aL X G nJ.a,aL X G mE.a,aL X G mF.a,aL X G oA.a,aL X G mG.a,aL X G pF.a,aL X G lD.a,aL X G lL.a,aL X G nK.a,aL X G oB.a,⟨_,mR.f,kP⟩,⟨_,nG.f,nk⟩,⟨_,lU.f,lS⟩,⟨_,qN.f,qE⟩,⟨_,k7.f,kH⟩,⟨_,mB.f,lr⟩,⟨_,mC.f,ly⟩,⟨_,lK.f,kT⟩,⟨_,lV.f,lT⟩,⟨_,lh.f,lg⟩,⟨_,pE.f,pj⟩,⟨_,ow.f,oe⟩,⟨_,nH.f,kQ⟩,⟨_,nI.f,nu⟩,⟨_,oz.f,oj⟩,⟨_,nJ.f,kX⟩,⟨_,mE.f,ml⟩,⟨_,mF.f,mq⟩,⟨_,oA.f,oh⟩,⟨_,mG.f,lx⟩,⟨_,pF.f,pf⟩,⟨_,lD.f,lC⟩,⟨_,lL.f,kO⟩,⟨_,nK.f,nr⟩,⟨_,oB.f,om⟩⟩
 have FL:=zi1 (st:=zbX) ll cl kl;exact⟨ci "law" "law" (zbr zbX) (zaN zbX) (zh zbX) .none kV dc pm an cd ct,fun s v=>.of_eq rfl,fun base _ _ hB=>zl8 (t:=t) (T base hB) FL⟩
theorem walk {TP:Addr} {l:gN} {q:Program} {loose:List Str} {XP:#[Mo]->Heap->Prop} {YP:World->Heap->Prop} {d:DefRec} {K:Params->af} (hn:l.most=some 63) (tW:d.params.defaults = []) (hY:∀ (w:World) (h:Heap),YP w h->#[IP].In h/\h.get? TP=some (PySem.W.tabObj #[])) (xY:∀ w:World,#[IP].lookup TP=none) (Cn:∀ w:World,PySem.W.codeHdIn #[IP] cP TP=true)
  (F:∀ (w:World) (mg:Str->Option Value) (fa:Addr) (h:Heap),#[IP].In h->h.Ns mainGlobals mg->mg d.name=some (.ref fa)->∃ fd:FuncData,(∀ (s:Shared) (u:Value),BindsTo s fd ⟨[u],[]⟩ [("script",u)])/\∀ base:Heap,#[IP].In base->base.Ns mainGlobals mg->zea mg base->D1 l.prog w #[IP] mg base CX0 9 fa fd ["script"] (zfB TP #[IP])):j9 q loose XP YP l.row.toRowW d [] #[Ml] :=
 L2.zjT (n:=63) (k:=9) (x:="script") (CX:=fun _=>CX0) (sp:=fun w=>zfB TP #[IP]) hn #[D] tW ⟨rfl,#[D],#[D]⟩ hY xY Cn F (fun _ _ a ns hl hT hS=>⟨a,ns,rfl,hS,hl,⟨#[],hT,trivial,.inl rfl⟩,fun _=>rfl⟩) fun _ _ _ _ _ z=>z
end My
namespace PySem.W.Fast
def tw6207332914346776471:=0
def tw15423194105984894308:=0
def tw6054721925030210322:=0
def tw2480709525385950440:=0
def tw7549763330531653962:=0
def tw14780231202762423718:=0
def tw10638610834616121779:=0
def tw10574956964750587309:=0
def tw535226110737370026:=0
def tw13078229325946303474:=0
def tw9142187649131364763:=0
def tw15338878882189241174:=0
def tw8998876976091079970:=0
def tw5048466403379590711:=0
def tw1437916421526005795:=0
def tw13610463831248727163:=0
def tw6526329451224073187:=0
def tw2051487448408666219:=0
def tw17114786166783956425:=0
def tw10994102099041379335:=0
def tw17157055386751773727:=0
def tw150080288237478762:=0
def tw1593038554290735963:=0
def tw110437989876154873:=0
def tw5558632560833779961:=0
def tw3696034212554751265:=0
def tw8888771123227792131:=0
def tw17291737791722967972:=0
def tw15862771930792100954:=0
def tw13972711132075911219:=0
def tw13619820668304192691:=0
def tw10170605357769187229:=0
def tw17195428773826915362:=0
def tw15418920598727900121:=0
def tw16015125727968330198:=0
def tw11600413688027047107:=0
def tw4541127973137438132:=0
def tw10317089374288432632:=0
def tw2798961177121919786:=0
def tw17899628954646031036:=0
def tw9423776726639881936:=0
def tw2098663383759116573:=0
def tw17095740486661651647:=0
def tw5181144459789794340:=0
def tw5895957460114203769:=0
def tw3273598678307597636:=0
def tw8568689314981317142:=0
def tw2522888255470823700:=0
def tw15980756619730976226:=0
def tw2528624397548047794:=0
def tw3630673939438978553:=0
def tw5117777880172192689:=0
def tw156547907369867659:=0
def tw2552023021092716064:=0
def tw8109429014664077811:=0
def tw3252636167492587145:=0
def tw3051698459682298213:=0
def tw8797045069115801856:=0
def tw1361963022381883223:=0
def tw2732612455359110427:=0
def tw454024040384671513:=0
def tw2049086284589760213:=0
def tw15450111720494828427:=0
def tw17321110299834935983:=0
def tw17869960363286067477:=0
def tw11464095781297394996:=0
def tw8147320574260096450:=0
def tw10459523689512722460:=0
def tw4180397303926239155:=0
def tw12089354256111288463:=0
def tw7204004407183736347:=0
def tw17282855492693480542:=0
def tw3477126281518696372:=0
def tw10539182319093104116:=0
def tw8615847845228208101:=0
def tw17549883810954176067:=0
def tw17746058059761210698:=0
def tw13127486901796893526:=0
def tw13625926598372863304:=0
def tw4569099498977499441:=0
def tw7223253488456583343:=0
def tw1983686645927965263:=0
def tw184504214212282876:=0
def tw3062831987401057245:=0
def tw10923673197900182952:=0
def tw13945442316446682313:=0
def tw4527065863559267963:=0
def tw464888586456009297:=0
def tw6326905658683975953:=0
def tw14989340121240221492:=0
def tw12320329377526990925:=0
def tw1506360046206893585:=0
def tw2786991160251891302:=0
def tw13031827397958588314:=0
def tw6492538053325869909:=0
def tw516380052829589474:=0
def tw6862185568637794892:=0
def tw15427327563524353168:=0
def tw10337919575481821195:=0
def tw7015514898127014494:=0
def tw253174946387279520:=0
def tw5854909742378571130:=0
def tw2969844553036457064:=0
def tw10384341123382261525:=0
def tw17383848999534272125:=0
def tw5424964431380317218:=0
def tw14329317624941848231:=0
def tw15405802898497421738:=0
def tw14495528279751562800:=0
def tw13911004650482960743:=0
def tw17160226041204241676:=0
def tw15717001986532210689:=0
def tw15883084535974041772:=0
def tw15599176815440467963:=0
def tw9951840185175080392:=0
def tw17426117524890742528:=0
def tw3057922108801486649:=0
def tw13055697104094481027:=0
def tw7505236626293402593:=0
def tw10418426573120062300:=0
end PySem.W.Fast
open PySem PySem.W
open PyProof.Rows
set_option maxHeartbeats 0 in
theorem PySem.Challenge.cw_slipcurve_k21_whole_heavy_ones_holds : PySem.Challenge.rw_slipcurve_k21_whole_heavy_ones.Holds := by
 w_on; o_law; k_head; (case hw=>w_witness2)
 k_fill
 refine My.walk (TP:=204) (cP:=?cP) (l:=PySem.Challenge.rw_slipcurve_k21_whole_heavy_ones) rfl rfl (fun w h Y=>⟨PySem.W.km_in_of Y,PySem.W.km_tabs_of Y 204 #[D]⟩) (fun w=>?KT) (fun w=>?KC) ?F;rotate_left
 case KC=>first | (show PySem.W.codeHdIn _ 206 204=true; with_unfolding_all rfl)
 case KT=>with_unfolding_all rfl
 case F =>
  intro w mg fa h KX G hmg;refine' My.zl9 KX G hmg ?FW ?G6 ?GP ?GO ?GN ?Gi ?Ht ?Gh ?Fv ?G7 ?Hs ⟨_,_,My.zax ?da_value_at ?dl_value_at ?dc_value_at ?dk_value_at⟩ ⟨_,_,My.zax ?da_inverse ?dl_inverse ?dc_inverse ?dk_inverse⟩ ⟨_,_,My.zax ?da_times_root ?dl_times_root ?dc_times_root ?dk_times_root⟩ ⟨_,_,My.zax ?da_bent ?dl_bent ?dc_bent ?dk_bent⟩ ⟨_,_,My.zax ?da_weighted_points ?dl_weighted_points ?dc_weighted_points ?dk_weighted_points⟩ ⟨_,_,My.zax ?da_weight_in ?dl_weight_in ?dc_weight_in ?dk_weight_in⟩ ⟨_,_,My.zax ?da_weight_of ?dl_weight_of ?dc_weight_of ?dk_weight_of⟩ ⟨_,_,My.zax ?da_most_weight ?dl_most_weight ?dc_most_weight ?dk_most_weight⟩ ⟨_,_,My.zax ?da_next_picks ?dl_next_picks ?dc_next_picks ?dk_next_picks⟩ ⟨_,_,My.zax ?da_picked_weights ?dl_picked_weights ?dc_picked_weights ?dk_picked_weights,L2.zl3 ?dl_picked_weights rfl ?tc⟩ ⟨_,_,My.zax ?da_heavy ?dl_heavy ?dc_heavy ?dk_heavy⟩ ⟨_,_,My.zax ?da_l_cell ?dl_l_cell ?dc_l_cell ?dk_l_cell⟩ ⟨_,_,My.zax ?da_l_draws ?dl_l_draws ?dc_l_draws ?dk_l_draws⟩ ⟨_,_,My.zax ?da_l_whole ?dl_l_whole ?dc_l_whole ?dk_l_whole⟩ ⟨_,_,My.zax ?da_l_code ?dl_l_code ?dc_l_code ?dk_l_code⟩ ⟨_,_,My.zax ?da_l_value ?dl_l_value ?dc_l_value ?dk_l_value⟩ ⟨_,_,My.zax ?da_l_through ?dl_l_through ?dc_l_through ?dk_l_through⟩ ⟨_,_,My.zax ?da_l_guesses ?dl_l_guesses ?dc_l_guesses ?dk_l_guesses⟩ ⟨_,_,My.zax ?da_l_word ?dl_l_word ?dc_l_word ?dk_l_word⟩ ⟨_,_,My.zax ?da_l_choices ?dl_l_choices ?dc_l_choices ?dk_l_choices⟩ ⟨_,_,My.zax ?da_l_all ?dl_l_all ?dc_l_all ?dk_l_all⟩ ⟨_,_,My.zax ?da_l_polynomial ?dl_l_polynomial ?dc_l_polynomial ?dk_l_polynomial⟩ ⟨_,_,My.zax ?da_l_weight_of ?dl_l_weight_of ?dc_l_weight_of ?dk_l_weight_of⟩ ⟨_,_,My.zax ?da_l_heavy ?dl_l_heavy ?dc_l_heavy ?dk_l_heavy⟩ ⟨_,_,My.zax ?da_l_told ?dl_l_told ?dc_l_told ?dk_l_told⟩ ?D5 ?ER ?EF ?EE ?ED ?Ey ?E8 ?Ex ?Eg ?ES ?E7 ?GX ?GZ ?GL ?GJ ?GI ?GH ?GG ?GF ?sb ?al ?ll ?cl ?kl ?HW ?Hj ?Hz ?Hi ?HU ?HV ?FA ?HX ?HA ?HQ ?Gc ?GV ?HR ?HS ?FC
  (case FW=>k_is)
  (case G6=>k_is)
  (case GP=>k_is)
  (case GO=>k_is)
  (case GN=>k_is)
  (case Gi=>k_is)
  (case Ht=>k_is)
  (case Gh=>k_is)
  (case Fv=>k_is)
  (case G7=>k_is)
  (case Hs=>k_is)
  (case da_value_at=>k_is)
  (case dl_value_at=>k_is)
  (case dc_value_at=>k_is)
  (case dk_value_at=>k_is)
  (case da_inverse=>k_is)
  (case dl_inverse=>k_is)
  (case dc_inverse=>k_is)
  (case dk_inverse=>k_is)
  (case da_times_root=>k_is)
  (case dl_times_root=>k_is)
  (case dc_times_root=>k_is)
  (case dk_times_root=>k_is)
  (case da_bent=>k_is)
  (case dl_bent=>k_is)
  (case dc_bent=>k_is)
  (case dk_bent=>k_is)
  (case da_weighted_points=>k_is)
  (case dl_weighted_points=>k_is)
  (case dc_weighted_points=>k_is)
  (case dk_weighted_points=>k_is)
  (case da_weight_in=>k_is)
  (case dl_weight_in=>k_is)
  (case dc_weight_in=>k_is)
  (case dk_weight_in=>k_is)
  (case da_weight_of=>k_is)
  (case dl_weight_of=>k_is)
  (case dc_weight_of=>k_is)
  (case dk_weight_of=>k_is)
  (case da_most_weight=>k_is)
  (case dl_most_weight=>k_is)
  (case dc_most_weight=>k_is)
  (case dk_most_weight=>k_is)
  (case da_next_picks=>k_is)
  (case dl_next_picks=>k_is)
  (case dc_next_picks=>k_is)
  (case dk_next_picks=>k_is)
  (case da_picked_weights=>k_is)
  (case dl_picked_weights=>k_is)
  (case dc_picked_weights=>k_is)
  (case dk_picked_weights=>k_is)
  (case da_heavy=>k_is)
  (case dl_heavy=>k_is)
  (case dc_heavy=>k_is)
  (case dk_heavy=>k_is)
  (case da_l_cell=>k_is)
  (case dl_l_cell=>k_is)
  (case dc_l_cell=>k_is)
  (case dk_l_cell=>k_is)
  (case da_l_draws=>k_is)
  (case dl_l_draws=>k_is)
  (case dc_l_draws=>k_is)
  (case dk_l_draws=>k_is)
  (case da_l_whole=>k_is)
  (case dl_l_whole=>k_is)
  (case dc_l_whole=>k_is)
  (case dk_l_whole=>k_is)
  (case da_l_code=>k_is)
  (case dl_l_code=>k_is)
  (case dc_l_code=>k_is)
  (case dk_l_code=>k_is)
  (case da_l_value=>k_is)
  (case dl_l_value=>k_is)
  (case dc_l_value=>k_is)
  (case dk_l_value=>k_is)
  (case da_l_through=>k_is)
  (case dl_l_through=>k_is)
  (case dc_l_through=>k_is)
  (case dk_l_through=>k_is)
  (case da_l_guesses=>k_is)
  (case dl_l_guesses=>k_is)
  (case dc_l_guesses=>k_is)
  (case dk_l_guesses=>k_is)
  (case da_l_word=>k_is)
  (case dl_l_word=>k_is)
  (case dc_l_word=>k_is)
  (case dk_l_word=>k_is)
  (case da_l_choices=>k_is)
  (case dl_l_choices=>k_is)
  (case dc_l_choices=>k_is)
  (case dk_l_choices=>k_is)
  (case da_l_all=>k_is)
  (case dl_l_all=>k_is)
  (case dc_l_all=>k_is)
  (case dk_l_all=>k_is)
  (case da_l_polynomial=>k_is)
  (case dl_l_polynomial=>k_is)
  (case dc_l_polynomial=>k_is)
  (case dk_l_polynomial=>k_is)
  (case da_l_weight_of=>k_is)
  (case dl_l_weight_of=>k_is)
  (case dc_l_weight_of=>k_is)
  (case dk_l_weight_of=>k_is)
  (case da_l_heavy=>k_is)
  (case dl_l_heavy=>k_is)
  (case dc_l_heavy=>k_is)
  (case dk_l_heavy=>k_is)
  (case da_l_told=>k_is)
  (case dl_l_told=>k_is)
  (case dc_l_told=>k_is)
  (case dk_l_told=>k_is)
  (case D5=>with_unfolding_all rfl)
  (case ER=>rfl)
  (case EF=>rfl)
  (case EE=>rfl)
  (case ED=>rfl)
  (case Ey=>rfl)
  (case E8=>rfl)
  (case Ex=>rfl)
  (case Eg=>rfl)
  (case ES=>rfl)
  (case E7=>rfl)
  (case GX=>rfl)
  (case GZ=>rfl)
  (case GL=>k_is)
  (case GJ=>k_is)
  (case GI=>k_is)
  (case GH=>k_is)
  (case GG=>k_is)
  (case GF=>rfl)
  (case sb=>k_is)
  (case al=>k_is)
  (case ll=>k_is)
  (case cl=>k_is)
  (case kl=>k_is)
  (case HW=>k_is)
  (case Hj=>k_is)
  (case Hz=>k_is)
  (case Hi=>k_is)
  (case HU=>k_is)
  (case HV=>k_is)
  (case FA=>k_is)
  (case HX=>k_is)
  (case HA=>k_is)
  (case HQ=>k_is)
  (case Gc=>k_is)
  (case GV=>k_is)
  (case HR=>k_is)
  (case HS=>k_is)
  (case FC=>k_is)
  (case tc=>with_unfolding_all rfl)
#print axioms PySem.Challenge.cw_slipcurve_k21_whole_heavy_ones_holds
end