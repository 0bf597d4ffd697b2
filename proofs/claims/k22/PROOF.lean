import PyProof.Rows.All
import Wide.All
import OpenK.AllK
import Wide.FinOn
import Lean
import PyProof.EqAt
import PyProof.EqKinds
import KE.KSortKey
import KE.KLam
import KE.KDictOf
import PyProof.AttrMissHeap
import PyProof.Rows.MinMaxN
import PyProof.ListMulRoad
import KE.KUnpackStar
import KE.KIntText
import PyProof.CallStr
import KE.KDictSum
import KE.KSortTup
import PyProof.Walk
import PyProof.Rows.SortRuns
import PyProof.Rows.ChunkEnd
import PyProof.Rows.Range3
import PyProof.Rows.SeqGen
import PyProof.ConsumeWalk
import PyProof.ListRange
import PyProof.NeKinds
import PyProof.TupleCall
import PySem.Challenge.RW_slipcurve_k22_whole_curves_by_guesses
set_option maxHeartbeats 3999000
open List renaming length_map->aA,getElem?_map->aF,getElem?_eq_getElem->aJ,getElem?_eq_some_iff->aK,map_append->aN,mem_of_getElem?->aO,size_toArray->aP,mem_map->aQ,length_append->aS,range->aU,replicate->aV,mem_cons_of_mem->aY,length_take->bC,mem_cons->bD,getD_eq_getElem?_getD->bE,mem_cons_self->bF,mem_append_right->bG,length_range->bJ,mem_append_left->bM,take_of_length_le->bO,mem_range->bP,map_cons->bT,zipWith->bV,lookup_cons->bY,mem_append->bZ,range_succ->cA,append_assoc->cE,not_mem_nil->cG,nodup_iff_pairwise_ne->cJ,mem_filter->cK,getElem?_append_left->cQ,length_replicate->cU,map_map->cV,mem_singleton->cW,getElem?_range->cY,pairwise_map->di,append_nil->du,getElem?_take_of_lt->dw,getElem?_set_ne->dI,getElem?_set_self->dJ,length_cons->dN,flatMap_append->dO,getElem?_append_right->dQ,take_length->dW,mem_flatMap->dX,sum_cons->dZ,mem_iff_getElem?->d7,getElem_mem->ef,getElem?_of_mem->eg,replicate_succ->eC,length_set->eE,pairwise_iff_getElem->eI,take_append_drop->eK,length->eX,getElem?_cons_succ->fc,nodup_append->ff,getElem_of_mem->fj,map_congr_left->fk,length_drop->fq,getElem?_eq_none->fA,drop_eq_getElem_cons->fB,extract_eq_take_drop->fC,getElem?_replicate->fO,filter_cons_of_pos->fP,filter_cons_of_neg->fQ,filterMap_cons->fR,drop_zero->fU,drop_eq_nil_of_le->fX,map_nil->f8,zip_cons_cons->f9,forIn_cons->ge,length_filter_le->gh,take_sublist->gk,flatten_cons->gm,mem_or_eq_of_mem_set->gq,nodup_range->gw,flatten_replicate_singleton->gB,mem_map_of_mem->gD,map_take->gE,find?_cons->gI,filter_append->gK,filter_nil->gL,length_singleton->gR,take_zero->gV,all_eq_true->gW,mem_of_mem_take->g7,perm_ext_iff_of_nodup->ic,length_zipWith->ig,length_take_le->ij,nodup_cons->ik,of_mem_zip->il,getElem?_zip_eq_some->io,getElem?_drop->iu,eq_of_mem_replicate->iA,map_set->iD,forIn_nil->iG,flatMap_cons->iM,filter_eq_nil_iff->iR,any_cons->iS,drop_length->iW,concat_eq_append->ja,length_pos_iff->jp,filter_sublist->jq,lookup->jA,mem_filterMap->jD,map_replicate->jJ,map_drop->jP,take_add_one->jY,ext_getElem?->jZ,flatMap_nil->kf,getElem?_cons_zero->ku,length_eq_zero_iff->kA,length_nil->kF,sum_append->kH,map_id->kQ,drop_of_length_le->kR,getElem?_zipWith->kX,drop_drop->k6,eq_nil_or_concat->k7,pairwise_append->lE,mem_of_mem_drop->lF,all_cons->lM,take_nil->lR,filter_eq_self->l6,length_flatMap->l7,mem_replicate->mE,forIn_toArray->mF,getElem_take->mU,foldl_append->mW,getElem_inj->nh,zipIdx_cons->nv,map_snd_zip->nE,any_eq_true->nF,prefix_refl->nG,foldl->nK,nil_append->nL,zipIdx_nil->nN,length_zip->nR,nodup_nil->nV,getD->n4
open PySem renaming wpAny_bind->aB,wpAny_pure->aL,sizeLine_eq->bN,wpAny_holding->dj,boot_len->dn,wpAny_mono->dA,wpAny_field->dD,wpAny_call_entry->dG,wpAny_callSpecial?_slot->dH,wpAny_rule->ee,wpAny_newObj_type->eB,builtinLookup_eq_fast->eJ,wpAny_setField_rec->eR,wpAny_attempt->eY,wpAny_ite_false->fg,wpAny_Call_Name_kw->ft,wpAny_seqItems->fw,wpAny_truthy_bool->fM,wpAny_typeNameOfWhole_keyiter->fN,wpAny_of_eq->fW,wpAny_execs_nil->gb,wpAny_passesOwn->gc,typeLookup_type->gf,call_meets->gp,wpAny_setField->gt,mem_of_lookup->gC,wpAny_pyIter_tuple->gG,wpAny_isInstance->gX,wpAny_standAt->hU,tupleKind_room_in1->ir,wpAny_pyIter_enum->iJ,wpAny_onRaise->iT,wpAny_loadName_local->jb,wpAny_call->jc,codeAny_mono->jd,wpAny_specialOf->jf,wpAny_updateSeq_pair->jg,isSubtype_type->jt,isSubtype_stop->ju,wpAny_ite_true->jw,seqIndex_of->jz,wpAny_newFunctionEnv_cells->jM,wpAny_letOwnedTupleGo_enum->jN,wpAny_pyIter_list->jS,wpAny_pyIter_slot->jW,wpAny_dictEntries->j0,wpAny_execs_cons->j5,wpAny_comprehension_free->j9,wpAny_loadPart'->kC,codeAny_builtin->kD,wpAny_looks_onW->kE,wpAny_dictEpoch->kG,codeAny_call_function->kU,wpAny_newTuple->kY,codeAny_handlers_test->kZ,wpAny_notOrdered_dict->k8,wpAny_isOneOf_keyiter->lg,wpAny_Name->lq,wpAny_pyIter_revIter->ly,codeAny_call_builtin->lB,wpAny_pyIter_keyiter->lG,wpAny_handled->lN,wpAny_newList->lQ,wpAny_loadName_cell->lT,wpAny_specialOf_val->lW,wpAny_handleBy_cons->lX,wpAny_Constant_int->mi,seqIndex_neg->ml,callType_new->mC,wpAny_landsW->mG,call_meetsIn->mH,wpAny_typeOf->mK,list_append->mP,wpAny_throw->m5,wpAny_letGo->m8,typeIs_int->nJ,call->nM,Within->oh
open PySem.W renaming Frag->aD,kitOne->bK,nsIn->bW,mroIn->dk,findIn->dL,kia_one->dM,fnOf->eL,kitCls->fz,hideAll->f',keepIn->gr,excIn->gF,codeIn->gQ,hideAll_get->ie,cellsFrom_some->iN,Looks->iU,looks_mroIn->jo,of_hideAll->jC,callWith_K->jE,methodObj->jR,instObj->kB,OpenLaw->kJ,lookIn->kT,hideAll_none->lj,looks_findIn->lC,mg_of->lS,kdu_collect->lZ,codeRec_of->mj,kitx_list->mM,kitx_dict->mO,plainGet->ni,kit_cls->nP,KdlSrc->nW,WalkO->n9
open Nat renaming le_refl->aG,lt_of_lt_of_le->bQ,ne_of_lt->bU,zero_le->bX,le_trans->cC,add_sub_cancel->dz,le_div_iff_mul_le->dB,lt_irrefl->dF,mul_comm->eh,add_sub_cancel_left->fe,zero_add->fH,min_eq_left->fJ,mul_succ->fL,succ_le_succ->fS,le_of_lt->fY,mul_le_mul->gu,add_zero->gz,sub_zero->gA,div_le_self->gM,lt_succ_of_lt->gP,mul_le_mul_right->g8,ne_of_gt->ip,sub_self->iB,lt_succ_of_le->iL,lt_of_le_of_lt->jI,add_assoc->jQ,le_of_succ_le->jU,succ_ne_self->j8,le_add_right->kb,le_succ->kM,pow_le_pow_right->lK,add_le_add_left->l8,succ_mul->mv,le_of_not_lt->nr,le_add_left->nS
open Or renaming inl->aH,inr->dm
open PySem.Heap renaming get?_push_of_some->aI,lt_size->aX,get?_push_size->aZ,SameBut->cT,size_push->cZ,get?_update_self->gd,get?_update_other->iP,ExtBut->mZ
open PyProof.Rows renaming wpS_bind->aR,wpS_pure->aT,callWith_type1->cR,boot_isinstance->dC,wpS_forRange->eS,zipApart_new->fG,wpS_mono->fT,wpS_modify->gZ,boot_max->g9,wpS_get->iH,subscriptTail_builtinR->iO,boot_sum->iX,boot_tuple->jl,wpS_lift->jx,lands_againW->j2,pairsOf_size->kd,mirror_perm->kP,pairsOf_toList->lh,Subscript_->lr,getItem_tuple->lL,listUpdate_at->lP,getElem?_mirror_all->lY,boot_list->mL,seqEpoch_at->nc,boot_sorted->ng,boot_range->nH
open Int renaming emod_lt_of_pos->aW,emod_nonneg->bA,toNat_natCast->cB,zero_add->cI,le_trans->cX,zero_mul->dq,le_refl->dv,emod_eq_of_lt->dP,mul_zero->eP,add_zero->eQ,pow_succ->eU,mul_le_mul_of_nonneg_right->fK,natCast_add->gi,lt_of_le_of_lt->gJ,natCast_mul->gN,le_of_lt->gT,natCast_ediv->hJ,mul_comm->iw,natCast_nonneg->iE,natCast_sub->jm,fdiv_eq_ediv_of_nonneg->jL,ofNat_le->kh,pow_nonneg->li,pow_zero->mI,sub_zero->mJ,mul_one->mY,one_mul->m9
open Bool renaming false_ne_true->bH,false_eq_true->cF,and_eq_true->gv,eq_iff_iff->gH,and_false->jr,not_eq_true'->mT,and_true->n6
open Option.some renaming inj->bI,injEq->mV
open PySem.Value renaming ref->bL,none->eZ,bool->iF,int->jB,str->md,isStrOf->n5,builtin->n8
open PySem.PassesOwn renaming never->bR
open PySem.Paired renaming length->bS,snoc->dE,mono->eA
open Array renaming getElem?_toList->cD,length_toList->cL,toList_append->cS,getElem?_eq_some_iff->fo,toList_extract->fI,perm_iff_toList_perm->h9,toList_reverse->jj,toArray_toList->lJ,append_assoc->mh,toList_map->nC,size_map->nX,toList->oj
open PySem.Builtin.SmallTypes renaming nextOf->cH,ownedTupleIsFree->fb,ownedTupleHandOut->iq,newRecord->nU
open Sum renaming inl->cM,inr->j4
open PySem.Str renaming ofString->cN
open PySem.F renaming plainAttrs_list->cO,slot_list_append->d8,type_list_append->d9,slot_dict_keyiterator_next->fV,slot_tuple_iterator_next->gj,slot_dict_get->iZ,slot_zip_next->jh,args_dict_keyiterator_next_1->jk,entry_dict_keyiterator_next->jn,args_tuple_iterator_next_1->jv,entry_tuple_iterator_next->jF,slot_dict_values->kg,slot_list_extend->ki,type_list_extend->kj,args_dict_get_3->kq,plainAttrs_dict->kr,entry_dict_get->kO,slot_enumerate_next->kW,args_list_append_2->lx,args_object_init_2->lA,excBase_ValueError->lD,entry_list_append->lU,slot_list_append->mo,args_zip_next_1->mQ,entry_zip_next->nA,slot_dict_iter->nB
open PySem.NameKind renaming free->dR,cell->fm
open False renaming elim->dU
open Ne renaming symm->dY
open Option renaming map_eq_some_iff->et,map_some->ji,isSome_iff_exists->j6,getD_some->j7,toList->lO,isSome_some->mB,getD_none->nj,none->ow
open ForInStep renaming yield->eG,done->iI
open PySem.Around renaming in1_units->eO,under_plainId->lH
open PySem.Heap.SameBut renaming update->fh
open PySem.Obj renaming data_mapFields->fu,mapSeq->fE,isFreed_of_fields->gS,mapFields->jO,cls_mapFields->jV
open PySem.Builtin.List renaming listTooLong->fF
open PySem.Calls renaming spliced_cons->fZ,spliced_nil->gO,callWith_builtin->iQ,evalArgs_plain->je,Name_function_global->jK
open True renaming intro->gn
open List.Pairwise renaming sublist->gU,imp_of_mem->iz,imp->iK,nil->jT
open List.Perm renaming trans->im
open List.Sublist renaming nodup->iC
open List.cons renaming inj->iV
open PySem.W.KF renaming type_class->iY
open PySem.Builtin.Dict_items renaming ownsTuple->jy
open PySem.SeqAt.EqAt renaming of_refs->jG,int_str->me,str_int->mf,same->nI
open PySem.ExceptHandler renaming ExceptHandler->jH
open PySem.SeqAt.RcAt renaming tuples->jX,lists_lengths->ka,lists->nu
open PySem.Draws renaming list->j1
open Classical renaming byContradiction->j3,axiomOfChoice->km,em->mw
open PySem.Builtin.Dict renaming updateFrom->kx,showsAll->k9
open Sum.inl renaming inj->kK
open PyProof renaming noPylong_small->kL
open PySem.Builtin.Getset_descriptor renaming descrCheckInstance->kN,descrNameAndClass->kS,descrGetter->l9,descrGet->mR
open PySem.SeqAt renaming EqAt->lu
open Prod renaming snd->lI,ext->oo,fst->oq
open PySem.SeqAt.RcNeAt renaming tuples->lV
open PySem.Builtin.ObjectAttr renaming dataDescriptor?->mS,takesStores->nO,attrName->nZ,bindTo->og,getOf->om,find->ou
open PySem.Data renaming fields->mX
open PySem.Shared renaming heap->m7
open PySem.IsL renaming update->nk
open PyProof.Rows.SortSt renaming mk'->nQ
open PyProof.Rows.Boot renaming ValueError->nY
open PySem.Manifest.AttrKind renaming slot->oz
open PySem.PyData renaming bool->oA
open PySem.W.KatTups renaming cons->oB
local macro_rules | `(tactic| trivial)=>`(tactic| first | exact .inl rfl | exact .inr rfl | assumption)
abbrev TB:=PySem.Value->PySem.Shared->Prop
abbrev TC:=List (PySem.Addr×PySem.Obj)
abbrev TD:=List Int
abbrev TF:=List PySem.Addr
abbrev TH:=List PySem.Value
abbrev TJ:=PySem.Str->Option PySem.Value
local macro_rules|`(#[$xs,*])=>do
 let a:=xs.getElems
 if h:a.size=0 then Lean.Macro.throwUnsupported else
 let s:=a[0].raw.getId.eraseMacroScopes.toString
 if s=="U" then return <-`((by simpa using $(a[1]!)))
 if s.startsWith "Q" then
  let mut e:=a[1]!
  for c in (s.toList.drop 1).reverse do
   e<-if c=='K' then `($(Lean.mkIdent `oD) rfl $e) else `($(Lean.mkIdent `oH) rfl rfl $e)
  return e
 if s=="Y" then `((of_decide_eq_true rfl)) else if s=="O" then `(by lia) else if s=="D" then `(by decide) else if s=="N" then `(by decide +kernel) else if s=="S" then `(⟨rfl,rfl,rfl,by decide +kernel,rfl,by decide +kernel,by decide +kernel⟩) else if s=="A" then `(Or.inl rfl) else if s=="M" then `(by simp) else
 match [("_____eb","zd"),("________eee","zaX zi zhF"),("________eeee","zK zgN"),("_","zdH zt zB zal zhH zz zH zL zZ zgf ze zdu zge zbz zbh zaa zbd zy zb8 zcZ zcW zav zI zpd zdG zfm zam zgn zcD"),("_e__f","pvx"),("_________ereeeddrr","zm zaR"),("___er","ya"),("___e","zk zbI zb2"),("____e","zA zab zai zaK ziQ zgK zpo zgL zjJ"),("_______eeeu","zM"),("____","zg zfg zcT"),("__e____efeert","zl"),("_____e","zaZ zfv"),("______b","zfo"),("_____eer","za zj"),("________________eefeeeneedrr","zq"),("________efeeei","zao"),("______feer","zO"),("__e_efet","zf"),("____er","zbH"),("____________eeeeeerrrrr","zcR"),("_f","zgg zbp zeh zbC"),("_____________efeeeeei","zU"),("__f","zar"),("_ef","zaN zbe zjW"),("__________eeee","zbs"),("__e__feefdd","zeW"),("______eee","zdF"),("__e______efeeet","ziR"),("___fe","zp"),("_________feerr","zdN"),("_e___e_fferr","zaw"),("______eerrr","zaY"),("______ferr","zaI"),("_____________e___efeefeeeeerit","zbm"),("_________eeeef","zg3"),("_________eeeee","zfx"),("_______feerr","zda"),("_e___fe","zir"),("__","zid"),("_________effeeedrr","zh4"),("_______ee","zhE zlV"),("______eeeu","zj4"),("________feer","zhO zhT"),("_______eeei","zeg"),("___","zlU"),("______ee","zjK"),("__e__fefd","zbG"),("___ei","zgJ"),("_______e_efeert","zgw"),("__________________eefeeeneedrr","zfu"),("_e","zi0")].find? fun q=>(q.2.splitOn " ").contains s with
 |none=>Lean.Macro.throwUnsupported
 |some (p,_)=>do
  let mut r:=#[]
  let mut i:=1
  for c in p.toList do
   if c=='e' then
    r:=r.push (a[i]!)
    i:=i+1
   else if c=='b' then
    r:=r.push (<-`((by exact $(a[i]!))))
    i:=i+1
   else r:=r.push (<-match c with|'_'=>`(_)|'r'=>`((by rfl))|'d'=>`((by decide))|'f'=>`(rfl)|'t'=>`((by trivial))|'i'=>`((by intro _; rfl))|'u'=>`((fun _ _=>rfl))|'n'=>`(.nil)|'l'=>`(Or.inl rfl)|'o'=>`(Or.inr rfl)|_=>`(nomark _))
  return Lean.Syntax.mkApp (<-`(@$(⟨a[0].raw⟩):ident)) r
def qO:=["::","+","-","++","=","<=","->","<"]
def Xs:Nat->Nat->List String->Lean.MacroM (List (Lean.TSyntax `term)×List String)
|0,_,_=>Lean.Macro.throwUnsupported
|n+1,0,ts=>match ts with
 |"fun"::ts=>do
  let (bs,r):=ts.span (·≠"=>")
  let (b,r)<-Xs n 0 (r.drop 1)
  let mut e:=b.head!
  for x in bs.reverse do
   e<-if x=="_" then `(fun _=>$e) else let i:=Lean.mkIdent x.toName; `(fun $i=>$e)
  return ([e],r)
 |_=>do
  let (a,r)<-Xs n 1 ts
  let l:Lean.TSyntax `term:=if a.length=1 then a.head! else Lean.Syntax.mkApp a.head! a.tail.toArray
  match r with
  |o::q=>do
    if !qO.contains o then return ([l],r)
    let (e,q)<-Xs n 0 q
    let e:=e.head!
    let x<-match o with|"::"=>`($l :: $e)|"+"=>`($l+$e)|"-"=>`($l-$e)|"++"=>`($l++$e)|"="=>`($l=$e)|"<="=>`($l<=$e)|"->"=>`($l->$e)|_=>`($l<$e)
    return ([x],q)
  |_=>return ([l],r)
|n+1,1,ts=>match ts with
 |[]=>return ([],[])
 |t::ts=>if t==")"||t=="⟩"||t==","||t=="]"||qO.contains t then return ([],t::ts) else do
  let (a,r)<-if t=="(" && ts[1]?==some ":=" then do
    let (e,r)<-Xs n 0 (ts.drop 2)
    pure (⟨.node .none ``Lean.Parser.Term.namedArgument #[.atom .none "(",Lean.mkIdent ts.head!.toName,.atom .none ":=",e.head!,.atom .none ")"]⟩,r.drop 1)
   else if t=="(" then do
    let (e,r)<-Xs n 2 ts
    let f:=e.head!
    let e:=e.tail.toArray
    pure (<-if e.size=0 then `(($f)) else `(($f,$e,*)),r.drop 1)
   else if t=="⟨" then do
    let (e,r)<-Xs n 2 ts
    let e:=e.toArray
    pure (<-`(⟨$e,*⟩),r.drop 1)
   else if t=="#[" then do
    let (e,r)<-Xs n 2 ts
    let e:=e.toArray
    pure (<-`(#[$e,*]),r.drop 1)
   else if t=="_" then pure (<-`(_),ts)
   else if t=="?_" then pure (<-`(?_),ts)
   else if t.front.isDigit then pure (Lean.Syntax.mkNumLit t,ts)
   else if t.front=='.' then let i:=Lean.mkIdent (t.drop 1).toString.toName; pure (<-`(.$i:ident),ts)
   else if t.front=='@' then let i:=Lean.mkIdent (t.drop 1).toString.toName; pure (<-`(@$i),ts)
   else pure (⟨Lean.mkIdent t.toName⟩,ts)
  let (l,r)<-Xs n 1 r
  return (a::l,r)
|n+1,_,ts=>do
 let (e,r)<-Xs n 0 ts
 if r.head?==some "," then
  let (l,r)<-Xs n 2 (r.drop 1)
  return (e++l,r)
 return (e,r)
local macro_rules|`(#[$x:ident])=>do
 let s:=x.getId.eraseMacroScopes.toString++" "
 match ("dl ( fun oU A outer s H vs Q E hr h => ?_ )
mt ( zV X N' scope s₃ H₃ ex oC )
or ( model X.prog X.w )
o0 ( fun _ _ _ _ => #[ zaw , ( K ) , 2 , #[ zj , #[ zf , 0 , #[ Y ] , #[ A ] ] , #[ zj , #[ zf , 1 , #[ Y ] , #[ A ] ] , #[ zI ] ] ] ] )
pc ( fun vs H Q E h => ?_ )
pi ( fun _ _ _ _ => #[ zf , 0 , #[ Y ] , #[ A ] ] )
re ( fun _ _ _ _ => #[ zaw , ( K ) , 3 , #[ zj , #[ zf , 0 , #[ Y ] , #[ A ] ] , #[ zj , #[ zf , 1 , #[ Y ] , #[ A ] ] , #[ zj , #[ zf , 2 , #[ Y ] , #[ A ] ] , #[ zI ] ] ] ] ] )
ss ( .ListComp elt ( ⟨ tg , iter , ifs , 0 ⟩ :: gs ) scope pos )
sK ( fun _ _ _ _ => #[ zy ] )
ul ( model prog w )
ut ( hr.mono #[ D ] )
u8 ⟨ #[ O ] , #[ O ] ⟩
wf ( cxX P w K mg base N qual scope f cd A outer s₀ H₀ E )
wn ⟨ rfl , I.turned ( t' := s.toks ) ( fun b o hb e => eb b o hb e ) f0 f1 f3 f4 f5 ⟩
wp ( arrOf st )
wr ( .lst ( bs.map V.ref ) )
wv ( a.toList ++ b.toList )
ww ( .ListComp elt gens scope pos )
wE ( List Int )
wP #[ pvx , 1 ]
xz ( ts.map ( wpp pl ) )
xL #[ pvx , 0 ]
At ( .ref s.heap.objs.size )
AC ( fun _ => ?_ )
AT #[ zp , #[ zp , #[ zav ] ] ]
BT ( arrOf oI )
Ch ( ha pos oC s σ H _ I h )
Cl ( .UnaryOp .USub ( .Subscript ( .Name x p1 ) ( .Constant ( .int 2 ) j p2 ) p3 ) p4 )
Db ( ns.map V.int )
Do ⟨ fun b o e n hb hx => ?_ , fun b o e n hb hx => ?_ , I.base.free , fun b o e hx => ?_ , I.base.Nd , I.base.Nj , I.base.Ng ⟩
Ev ( fun t => b ( t + 1 ) )
EQ ( us.map V.ref )
Fa ( Cg.refl p _ )
FB #[ pvx , 2 ]
FM ( wb ( sa + k ) out.toList.zipIdx #[ wp ] )
FS ( zaj I q #[ M ] )
Go ( false , eval e X.env )
GE ( fun ys H' _ => aG _ )
GM ( false , eval b X.env )
GT #[ zm , #[ zt ] , T.MC , dn , #[ ya , #[ wP ] ] ]
Id ( qx x0 ( n + 1 ) A )
Ix ( .lst ( ls.map V.ref ) )
IN ( eL name qual params body scope dV kV doc pm an oU ct )
IO ( envOfC qual scope s.heap.objs.size f cd )
IR ⟨ _ , rfl , .inr ⟨ _ , _ , _ , _ , _ , _ , rfl , qD , #[ O ] , #[ O ] , #[ O ] , #[ O ] , #[ O ] ⟩ ⟩
KB #[ pvx , 3 ]
KK ⟨ #[ D ] , #[ D ] ⟩
KM ( cs.drop ( cs.length - i ) )
LE ( backTo pos ( starEach es X.env ) )
No ( Cg.emod p _ )
NE ( ha oC s σ H _ I h )
On ( fun i ys H' hi _ => hi )
Op ( fun t => F ( t + 1 ) )
Os ( false , eval a X.env )
Pi #[ za , #[ xL ] , #[ ya , #[ wP ] ] ]
PP #[ .int lo t , .int hi u , .int 1 v ]
P3 ( Option Nat )
Qj ⟨ _ , rfl , .inr ⟨ _ , _ , _ , _ , _ , _ , rfl , qD , #[ O ] , #[ O ] , #[ O ] ⟩ ⟩
Qk #[ zab , #[ ya , #[ zg ] ] ]
Ql ( s.heap.push ( zbW l1 ) )
Qm ⟨ _ , _ , _ , _ , _ , _ , _ , rfl , rfl , qD , #[ O ] , #[ O ] , #[ O ] , #[ O ] , #[ O ] ⟩
Qn #[ zM , #[ zB ] , #[ pvx , 4 ] , #[ zg ] ]
Qo ( eL x qual ( zb9 st ) ( zbi st ) ( zh st ) .none kV doc pm an oU ct )
Qp ( EP X oC σ Q )
Qq ⟨ .bl _ , H , I , rfl , ?_ ⟩
Qr #[ zM , #[ zB ] , #[ pvx , 9 ] , #[ zi , #[ zL ] , #[ zi , #[ zz ] , #[ zi , #[ zH ] , #[ zg ] , #[ pvx , 12 ] ] , #[ zg ] ] , #[ zg ] ] ]
Qs ( I1.hok.fresh ( aG _ ) )
Qt ( σ.set i ( some x ) )
Qu ( bU ( bQ ( aX e ) I.ok.above ) )
Qv #[ rawInt pos.line , rawInt pos.col , .ref c' ]
Qw ( zt5 C s.heap l1 l2 )
Qx ( zt2 C s.heap l1 l2 )
Qy ( fun _ _ _ _ => #[ zi , #[ zbh ] , #[ zi , #[ zH ] , #[ FB ] , #[ zi , #[ zz ] , #[ FB ] , #[ zg ] ] ] , #[ zg ] ] )
Qz ( ds.map V.int )
QA ( zb1 CX P w K mg base N qual scope f oU A outer s H E )
QB ( .ref D )
QC ( .ref C )
QD ( .ref a )
QE ( A.deeper ( envOfC qual ( zh st ) s.heap.objs.size f oU ) )
QF #[ ya , #[ FB ] ]
QG ( cxH P w K mg base N qual scope f oU A outer s H E )
QH ⟨ rfl , ?_ ⟩
QI ( Cg.of_eq #[ O ] )
QJ ( .lst ( ds.map V.ref ) )
QL ⟨ _ , _ , _ , _ , _ , _ , _ , rfl , rfl , qD , #[ O ] , #[ O ] , #[ O ] ⟩
QM ( .tup ( k.map kV ) )
QN ( K w.params )
QO ( I.ok.hd hc )
QP ( he oC s σ H _ I h )
QQ #[ pvx , 4 ]
QS ( aU ( R.length - pv.length ) )
QT #[ ya , #[ zi , #[ zz ] , #[ zi , #[ zbh ] , #[ KB ] , #[ zi , #[ zaa ] , #[ wP ] , #[ zg ] ] ] , #[ zg ] ] ]
QU ⟨ I.base.keep , I.base.slot , fun b u e n hx => ?_ , I.base.there , fun b xs e => ?_ , fun b u xs e => ?_ , fun b ps e => ?_ ⟩
QV ( za9 k s g )
QW ( putK kvs k v )
QX ( bs.map V.ref )
QY ( T' <= wsum p x #[ xz ] )
QZ ( .dT kvs )
Q0 ( dm rfl )
Q3 ( .inl rfl )
Q4 ⟨ #[ O ] , #[ O ] , ?_ ⟩
Q5 #[ zk , #[ zA , #[ zcT ] ] ]
Q6 ( ts.map ( za2 p oJ ) )
Q7 ⟨ rfl , fun _ _ e => e ⟩
Q8 ( .ref it )
Q9 #[ zab , #[ ze ] ]
Ra ( oG H1 pr ( .lst ( zw.map V.int ) ) )
Rb #[ zi , #[ zaa ] , #[ wP ] , #[ zi , #[ zH ] , #[ zi , #[ zaa ] , #[ FB ] , #[ zg ] ] , #[ xL ] ] ]
Rc ( tupleKind ( zat P w ) )
Re ( .lst ( cs.map V.ref ) )
Rf #[ za , #[ zg ] , #[ ya , #[ zg ] ] ]
Rg ( .Name x pos' )
Rh ( decide_eq_true h )
Ri ⟨ AJ i ys H oY p , Pv ( i + 1 ) , fun uH H' p' => ⟨ n - ( i + 1 ) , #[ O ] , rfl , oY , p' ⟩ , fun x H' y => hs i x ys H H' oY p y ⟩
Rj #[ pvx , 5 ]
Rk ⟨ bA _ #[ O ] , aW _ #[ O ] ⟩
Rl ( mq 0 n #[ Ev ] l )
Rm ( h3.objs.size + 1 )
Rn ( s.heap.objs.size + 1 )
Ro ( zc3 hC hk qV ep mp ?_ )
Rp #[ QR , ⟨ .inr #[ u8 ] , ?_ ⟩ ]
Rq ( shO ( mq 0 ( k1 + 1 ) b ) n #[ Op ] v )
Rr ( start N vs )
Rs ( fun h => absurd ( of_decide_eq_true h ) #[ O ] )
Rt #[ pvx , 6 ]
Ru ( .int p )
Rv ( us.set k0 bo )
Rw ( cs.map V.int )
Rx #[ zaK , #[ zp , #[ AT ] ] ]
Ry ( .lst xs )
Rz ( c.map V.int )
RA ( I.base.keep b o e n hb hx )
RB ( .ref l )
RC #[ zaK , #[ AT ] ]
RD ( rows.map ( sms p x i ) )
RE ⟨ T , _ , rfl , oQ.of zb , rfl , _ , _ , rfl , _ , _ , rfl , rfl , ?_ ⟩
RF ( Cg.of_eq #[ M ] )
RG ( pairsOf vs )
RH ( model Y.prog Y.w )
RI ( I1.hok.fresh hle )
RJ ( assignEach es X.env )
RM ( fun _ _ => False )
RN ( fun _ _ _ e => e )
RO ( fun _ _ _ _ n => n )
RP ( .ref oM )
RQ ( .ref oK )
RS ( pendingOf pD )
RT ( ho oC s σ H _ I h )
RU ( bU ( bQ ( aX e ) ( I.ok.cab x c DR hc ) ) )
RV ( zfU s₁.heap H )
RX ( .Tuple es k pos )
RY ( .bool true )
RZ ( D , zeL oF nn )
R1 ( fun t => l ( t + 1 ) )
R3 ( fun _ _ z => s _ _ z )
R4 ( fun j h1 h2 => ?_ )
R5 ( aV ( kept - 1 ) ( V.int 0 ) )
R6 ( .lst #[ EQ ] )
R7 ( fun _ _ _ _ => #[ xL ] )
Sa ( fun v s2 => wpAny #[ or ] X.A ( pyIter v ) ( PIE X oC σ tg R ) X.xe s2 )
Sb ( aL ( aB ( aB ( aB ( fN hit.typeIs ( aL ( aB ( wpAny_fieldsOf ho hd ?_ ) ) ) ) ) ) ) )
Sc ( cos oJ )
Sd ( ts.map tK )
Se ( s1 _ _ ha )
Sf ( xs.extract i j )
Sg ( .Tuple es k rK )
Sh ( oG H' D ( .lst ys ) )
Si ( bG _ ( bG _ ( zcC hb e ) ) )
Sj ( setArr ( zaA qT g ) ( wb ( sa + k ) out.toList.zipIdx ( arrOf ( zaA qT g ) ) ) )
Sl ( .builtin id )
Sm ( HT.sIx xs.length xs.length hi - HT.sIx xs.length 0 lo )
Sn ( gps k s )
So ( pl.map V.int )
Sr ( Option Value )
Ss ( xs.toList.drop i )
Su ⟨ .inl #[ u8 ] , #[ QRKR , ⟨ p0 , hR ⟩ ] ⟩
Sv ( backTo pd ( starEach es X.env ) )
Sw ( .compLoop #[ ss ] 0 it #[ QB ] env )
Sx #[ QKKRKR , ⟨ .inl #[ u8 ] , #[ QRR , ?_ ] ⟩ ]
Sy ⟨ len , fun A outer s H args us vs Q E hr e0 hb r uD => ?_ ⟩
Sz ( zb1 CX P w K mg base N qual scope f cd A outer s H E )
SA #[ zk , #[ zA , #[ KB ] ] ]
SD ( xf.extBut _ _ Z.zTO.symm ( pZ.extBut _ _ Z.z1.symm BN ) )
SE ( .ref z )
SG ( fun m hm => ?_ )
SH ( fun _ _ e => e )
SI ( .frz o #[ QZ ] )
SJ #[ zi , #[ zz ] , #[ pvx , 8 ] , #[ zg ] ]
SK ⟨ .inl #[ u8 ] , #[ QKR , ⟨ p0 , ?_ ⟩ ] ⟩
SM ( zc ( o := .lst ( vs.map V.ref ) ) hD )
SN ( eL x x ( zb9 st ) ( zbi st ) ( zh st ) .none kV dc pm an cd ct )
SO ( .tup xs )
SQ ( zac ez ?_ )
SR ( model P w )
SS #[ zm , #[ zt ] , T.MC , dn , #[ QF ] ]
ST ( oG H a o )
SU ( zac ey ( aR ( zac ez ( aR ( zmG hC hk ( mb y my ) ( ma z mz ) ?_ ) ) ) ) )
SV ( A.deeper ( envOfC qual scope s.heap.objs.size f oU ) )
SW #[ QK , ( q D ds res H1 Em s1 xl ( sj.same ( zc1 _ _ ) ) ⟨ tZ , #[ O ] ⟩ ) ]
SX ( s.heap.push ( zbW l ) )
SY ( byL p x i ( wd rows ) )
SZ ( .tup ( ls.map V.ref ) )
S0 ( .lst ( uc.map V.ref ) )
S3 ( fun s₃ H₃ ex oC D => ziX rfl ( he s₃ H₃ ex oC ) )
S4 ( .Name x pos )
S5 ⟨ rfl , #[ QK , ?_ ] ⟩
S6 ( fun t i => g ( i , t ) )
S7 ( hl oC s σ H _ I h )
S8 ( fun i x y R B hx hy hR => ?_ )
S9 ( n - ( t + 1 ) )
Ta #[ ya , #[ xL ] ]
Tb ( jx ( ee #[ QH ] ) )
Tc #[ zaN , ( K ) ]
Td ( ks.zip ys )
Te ( fun _ q => q )
Tf ( pv.length + m )
Tg ( pendingOf st )
Th ( as.map V.int )
Ti ( pwr p x kept n )
Tj ( pwr p x kept 0 )
Tk ( R.set k0 other )
Tl ( I.hok.fresh ( aG _ ) )
Tn ( .lst ( R.map V.int ) )
To ( sliceBounds lo hi none n )
Tp ( gl w ld )
Tq ( .dK kvs )
Tr ⟨ lim.keeps x.toInCall.keep , codeAny_func ?_ ⟩
Ts ( .ref f )
Tt ( pyNext #[ Q8 ] )
Tu ( jf hl.typeIs slot_tuple_getitem.lookup ?_ )
Tv #[ pvx , 8 ]
Tw ( fG ha hb )
Tx #[ za , #[ wP ] , #[ QF ] ]
Ty ( X.env :: X.outer )
Tz ( hb oC s1 σ H1 _ I1 q1 )
TK ( I.base.free b o e n hx )
TN ( s3 _ _ ha )
TQ ( I.hok b u e )
TR ( .List es qB )
TU ( ( p , w ) :: P.zip vs )
TV ( fun c o _ _ pT e _ => ⟨ o.slots , k1 c o pT e ⟩ )
TW #[ pvx , 7 ]
TX ( z8 k S )
TY ⟨ n , #[ M ] , bX _ , h0 ⟩
TZ ⟨ #[ u8 ] , #[ QR , ?_ ] ⟩
T4 ( gt ho hd #[ M ] ?_ )
T5 ( f ( .int i t ) ( .int j u ) )
T6 ( fun h' c' kp e => fin oF r' hz h' c' kp e )
T7 ( .ref b )
T8 ( arrOf qe )
T9 #[ zai , #[ wP ] ]
Ua ( hide H t.tab )
Ub ( eval o X.env )
Uc ( bs.map V.int )
Ud ( sb.sub #[ O ] #[ O ] )
Ue ( zjU Eb g2 Ea ( zjT te ) )
Uf ( fun h => absurd #[ U , h0 ] h )
Ug ( fun b z => absurd z #[ M ] )
Uh ( ho oC s2 σ H2 x y v u _ I2 r1 r2 q2 )
Ui ( nq #[ O ] )
Uj #[ ya , #[ Rt ] ]
Uk #[ ya , #[ QQ ] ]
Ul #[ ya , #[ KB ] ]
Um ( typeOf ( .ref x ) )
Uo ( fun T t R B ht hT hR => gY2 hT ⟨ _ , rfl , hR ⟩ )
Up ( .ref fa )
Uq ( .lst ys )
Ur #[ QKRK , ?_ ]
Us ( mq 0 n b l )
Ut ( bV f as bs )
Uu ( zat X.prog X.w )
Uv ( he j x y hx hy )
Uw ⟨ bA _ #[ O ] , aW _ p0 ⟩
Ux ( fun _ _ _ _ _ _ _ _ I m q => zft I m q )
Uy ( vy ( j - 1 ) #[ O ] )
Uz ⟨ e , fun y hy => zh5 ( bs := bs ) k y #[ U , hy ] _ _ , ?_ ⟩
UA ( fun c o oT eo => qt.extBut c o #[ U , oT ] eo )
UB ( fun b o hb eo => qt.extBut b o #[ U , hb ] eo )
UC ( fun _ _ _ _ => #[ zi , #[ zL ] , #[ zi , #[ zaa ] , #[ xL ] , #[ zi , #[ zH ] , #[ FB ] , #[ wP ] ] ] , #[ KB ] ] )
UD ( Draws.tuple hh n a #[ Ui ] p8.toArray )
UE #[ pvx , 9 ]
UF ( some v )
UG ( s2.trans s3 )
UH ( gallopOf st )
UI ( Cg.refl _ _ )
UJ ⟨ rfl , fun _ _ => rfl ⟩
UK ⟨ fun _ _ e => e , rfl ⟩
UL ( zt4 C s.heap l1 l2 )
UM ( hi oC s σ H _ I h )
UN ( h oC s σ H _ I hw )
UO ( fun t => sh x0 W ( F t ) )
UP ( fun h => absurd rfl h )
UQ ( .lst ( rs.map V.int ) )
UR ( .lst ( fs.map V.int ) )
US ( .Subscript o i pos )
UT #[ QK , ⟨ oE.of zb , ?_ ⟩ ]
UU ⟨ b , _ , rfl , oQ.of ( s3 _ _ hb ) , rfl , _ , _ , rfl , _ , _ , rfl , _ , _ , rfl , rfl , ?_ ⟩
UV ( backTo pd ( starEach ( e :: es ) X.env ) )
UW ( .ref i2 )
UX ( .ref i1 )
UY ( σ.set i none )
UZ ( y - zR p x cs )
U0 ( I.ok.bs b o e )
U1 ( fun Io s' h' => aL ( And.intro rfl h' ) )
U2 ( ee ( aB ( dD hz rfl ( x := .ref TO ) rfl ?_ ) ) )
U3 ( zcu oJ + 1 )
U4 #[ ya , #[ wP ] ]
U5 ⟨ k - 1 , #[ O ] ⟩
U6 ( vl ( k1 + 1 ) f x0 )
U7 ( fun i => u i + v i )
U8 ( zcB I hg hm ?_ AH )
U9 ( wF a1 a2 a3 a4 a5 )
Va ( oC ++ zcU fp s7.heap )
Vb ( fun x => decide #[ QY ] )
Vc ( assign #[ Rg ] X.env )
Vd ( @ite _ c inst x y )
Ve ( .lst ( v.map V.int ) )
Vf #[ zm , #[ zt ] , T.MC , dn , #[ Ta ] ]
Vg ( kk _ _ Z.zTI Z.TT Z.T1 Z.T2 AR )
Vh ( iI ( some none , st.snd.fst , st.snd.snd ) )
Vi ( zac ey ?_ )
Vj ( ts.take i )
Vl ( ps.zip us )
Vm ( SP X oC D )
Vn ( lo + st.snd.fst )
Vo ( fun b u e => ?_ )
Vp #[ zk , #[ zA , #[ FB ] ] ]
Vq ( oF.toArray.size + pj.toArray.size )
Vr ( fun c o _ _ pT e _ => k1 c o pT e )
Vs ( dD hz rfl ( x := .bool false ) rfl ?_ )
Vt ( .compLoop #[ ww ] d #[ Q8 ] #[ QB ] Y.env )
Vu #[ QK , ?_ ]
Vv ( .int x )
Vw ( hf b hb )
Vx ( zaB rows )
Vy ( gps k sz )
Vz ( .frz o u )
VA ( hW.rg z hz )
VB ( hG.rg z hz )
VC ( rs.map V.ref )
VD ( eval e X.env )
VE ( ad p f cs vs )
VF ( aU xs.length )
VG ( TP X oC σ Q )
VH #[ zO , T.Lw , #[ QF ] ]
VI ( xs.extract i ( i + k ) )
VJ ( fun f vs => nM f vs )
VL ( fun _ _ q => aI _ q )
VM ( Str -> Option Value )
VN ( .int ( gl row at' ) )
VO ( fun w hw => zfk rx fx r fs w #[ U , hw ] )
VP ( fun _ _ _ _ => #[ zaZ , #[ za , #[ zM , #[ zjW , ( K ) ] , #[ KB ] , #[ xL ] ] , #[ Tx ] ] ] )
VQ ( S.h.dr hh ( n + 1 ) b #[ Ui ] pj.toArray )
VR ( .compLoop #[ ww ] d it #[ QB ] Y.env )
VS ( ts.take ( m + 1 ) )
VT ⟨ w' , z.sameBut hs ( cne y c e ) ⟩
VU ( fun oV pP pK ac bc => ( none , oV , pP , pK , ac , bc ) )
VV ( fun oV p6 p7 ac bc => ( none , p6 , p7 , oV , ac , bc ) )
VW ( dG gj hit.typeIs jF ?_ ( jv _ ) )
VX ( dG fV hit.typeIs jn ?_ ( jk _ ) )
VY #[ QKKR , ⟨ .inl #[ u8 ] , #[ QKRKR , ⟨ p0 , ?_ ⟩ ] ⟩ ]
VZ #[ QKKKR , ⟨ .inr #[ u8 ] , #[ QRKR , ⟨ p0 , ?_ ⟩ ] ⟩ ]
V1 ( some #[ Rg ] )
V2 ( fun p9 => ?_ )
V3 ( fun oY => ?_ )
V4 ( aL ( aL ?_ ) )
V5 ( .lst #[ Qz ] )
V6 ( fun a ha => ?_ )
V7 ( rows.length - v )
V8 ( fun x1 x2 => x1 ++ x2 )
V9 ( SC.free y hy hf )
Wa #[ zi , #[ zz ] , #[ KB ] , #[ zg ] ]
Wb #[ zi , #[ zL ] , #[ Qn ] , #[ zg ] ]
Wc #[ zi , #[ zH ] , #[ zg ] , #[ wP ] ]
Wd #[ zM , #[ Tc ] , #[ wP ] , #[ xL ] ]
We ⟨ oE.of ( t7 _ _ Eu ) , oE.of zb ⟩
Wf ⟨ k , c , e , z.sameBut hs ( cne y c e ) ⟩
Wg ⟨ _ , uw , fun j y v' e1 e2 e3 => ?_ ⟩
Wi ⟨ .int ( g i j ) , H , I.tok _ , ⟨ _ , rfl ⟩ , q ⟩
Wj ( fun r => Good val #[ wv ] r.toList )
Wk ( .BoolOp .And ( b :: rest ) pos )
Wl #[ QKKRR , ⟨ .inl #[ u8 ] , #[ QR , ⟨ #[ KK ] , ?_ ⟩ ] ⟩ ]
Wm ( aY _ hx )
Wn ( Itt K a )
Wo ( Itl K a )
Wq #[ ya , #[ Rj ] ]
Wr #[ ya , #[ GT ] ]
Ws ( u2.trans u3 )
Wt ( tOp r ta tb )
Wu ( s5.trans s6 )
Wv ( f.map V.int )
Ww ( e0.bs b o e )
Wx ( GJ b o e hx )
Wy ( FV.trans En )
Wz ( Cg.of_eq ?_ )
WA ( zc ( o := .lst ( ds.map V.ref ) ) hWL )
WB ( vs.toArray.zip vs.toArray )
WC ( fun d v' hd q => k1 d v' ?_ q )
WD ( dD hz rfl ( x := .ref TI ) rfl ?_ )
WE ( dD ho hd ( x := .int _ 0 ) rfl ?_ )
WF ( .ref c )
WG ( w.drop L )
WH ( tz k top )
WI ( oQ.of zb )
WJ ( kk _ _ x )
WK ( zdK ix σ )
WM ( zaO kvs k )
WN ( wpp pl y0 )
WO ( ts.map tI )
WP ( oJ.take n )
WQ ( V.bl true )
WR ( OH p k sz )
WS ( .ref t.Ms )
WT ( .ref ( n + 4 ) )
WU ( .Name x p )
WV #[ QKK , #[ Q4 ] ]
WW ⟨ _ , rfl , ?_ ⟩
WX #[ QK , ( zgR ?_ ) ]
WY ( h.push ( zbW l1 ) )
WZ ( a₀.size - lo )
W1 ⟨ rfl , .inr ⟨ _ , _ , _ , _ , _ , rfl , rD , #[ O ] , #[ O ] , #[ O ] , #[ O ] , #[ O ] ⟩ ⟩
W2 ⟨ plainId_quiet zdZ _ , ?_ ⟩
W4 ( zmT hc Fs Ft CQ Fu he qU )
W5 ( wb sa m.toList.zipIdx xs )
W6 ( us.map V.ref ++ vs.map V.ref )
W7 ( sA.trans ( zc ( o := .rng 0 p ) CH ) )
W8 ( letOwnedTupleGo tg #[ Q8 ] u )
W9 ( j1 Fy n a #[ Ui ] p8.toArray )
Xa ( j1 Fy ( n + 1 ) b #[ Ui ] pj.toArray )
Xb ( fun x l' r' R BU k1 k2 => ?_ )
Xd ( fun it D env => zme it D env )
Xe #[ pvx , 10 ]
Xf ⟨ za0 ( cC ( ij _ _ ) #[ O ] ) , ?_ , rfl ⟩
Xg ( zbr I hg hm hv ?_ hn AH )
Xh ( yz a1 a2 a3 a4 a5 a6 a7 )
Xi ( wF a1 a2 a3 a4 a5 a6 a7 )
Xj ( min xs.length ys.length )
Xk ( fun r o hG => aT ⟨ g , r , _ , rfl , rfl , hG ⟩ )
Xm ( fun _ _ _ _ => #[ zm , #[ zbe , ( K ) ] , T.MC , dn , #[ Ta ] ] )
Xn ( dD ho hd ( x := .ref t ) rfl ?_ )
Xo ( dD ho hd ( x := .ref l ) rfl ?_ )
Xq ( aY _ ( Att.MG.mpr ⟨ hb , CW , e ⟩ ) )
Xr #[ QK , ⟨ oE.of h1 , fun z hz => ?_ ⟩ ]".splitOn "\n").find? (·.startsWith s) with
 |some l=>return ((<-Xs 400 0 ((l.splitOn " ").drop 1)).1.head!)
 |none=>Lean.Macro.throwUnsupported
noncomputable section
set_option Elab.async false
set_option linter.all false
set_option maxRecDepth 100000
namespace L2
open PySem PySem.Spec PyProof.Rows
variable {A:Around} {C it:Addr} {CX:CXT} {H H':Hp} {M:Model} {N:List Str} {P:Program} {X:Cx} {an od:Option Addr} {cd ct doc oU oc pm:Value} {fd:FuncData} {fp:TF} {h:Heap} {j k t' tk:Nat} {mg:TJ} {name qual:Str} {oC rB:TC} {oF us:TH} {params:Arguments} {pos:Pos} {s s' s1:Shared} {sc scope:Scope} {sp:Sp} {tg:Expr} {v y:V} {w:World} {wV:Array #[Sr]}
abbrev Key:=Sum Int Str
noncomputable def zf9:Key->Value->Bool
 | .inl k,v=>Value.isInt k v
 | .inr x,v=>n5 x v
noncomputable def zrn (w:World):Key->Int
 | .inl k=>hashInt k
 | .inr x=>hashStr w x
theorem zaC:∀ {k:Key} {v:Value},zf9 k v=true->(∃ i t,k=cM i/\v=jB i t)\/(∃ x t,k=j4 x/\v=md x t)
 | .inl i,v,h=>by
  obtain⟨t,e⟩:=Value.isInt_shape (k:=i) (v:=v) h;exact .inl ⟨i,t,rfl,e⟩
 | .inr x,v,h=>by
  obtain⟨t,e⟩:=Value.isStrOf_shape (x:=x) (v:=v) h;exact .inr ⟨x,t,rfl,e⟩
theorem zkE (i:Int) (t:Tok):zf9 (.inl i) (.int i t)=true:=by simp [zf9,Value.isInt]
theorem zkF (x:Str) (t:Tok):zf9 (.inr x) (.str x t)=true:=by simp [zf9,n5]
theorem zpA (a b:Int):decide ((cM a:Key)=cM b)=(a == b):=by
 by_cases e:a=b
 ·subst e; simp
 ·have h:¬ (cM a:Key)=cM b:=fun q=>e (kK q)
  rw [decide_eq_false h];exact (beq_eq_false_iff_ne.mpr e).symm
theorem zpB (a b:Str):decide ((j4 a:Key)=j4 b)=decide (a=b):=by
 by_cases e:a=b
 ·subst e; simp
 ·have h:¬ (j4 a:Key)=j4 b:=fun q=>e (Sum.inr.inj q)
  rw [decide_eq_false h,decide_eq_false e]
theorem zpC (a:Int) (b:Str):decide ((cM a:Key)=j4 b)=false:=decide_eq_false (fun q=>nomatch q)
theorem zpD (a:Str) (b:Int):decide ((j4 a:Key)=cM b)=false:=decide_eq_false (fun q=>nomatch q)
noncomputable def zat (prog:Program) (w:World):PySem.KeyKind prog w Key where
 is:=zf9
 hash:=zrn w
 inj:=fun v a b ha hb=>by
  rcases zaC ha with ⟨i,t,rfl,rfl⟩ | ⟨x,t,rfl,rfl⟩
  ·rcases zaC hb with ⟨j,u,rfl,e⟩ | ⟨y,u,rfl,e⟩
   ·injection e with e1 _; rw [e1]
   ·exact nomatch e
  ·rcases zaC hb with ⟨j,u,rfl,e⟩ | ⟨y,u,rfl,e⟩
   ·exact nomatch e
   ·injection e with e1 _; rw [e1]
 byValue:=fun k v h=>by
  rcases zaC h with ⟨i,t,rfl,rfl⟩ | ⟨x,t,rfl,rfl⟩ <;> rfl
 pyHash:=fun hv h=>by
  rcases zaC hv with ⟨i,t,rfl,rfl⟩ | ⟨x,t,rfl,rfl⟩
  ·exact wpAny_pyHash_int h
  ·exact wpAny_pyHash_str h
 eqBool:=fun hu hv h=>by
  rcases zaC hu with ⟨i,t,rfl,rfl⟩ | ⟨x,t,rfl,rfl⟩
  ·rcases zaC hv with ⟨j,u,rfl,rfl⟩ | ⟨y,u,rfl,rfl⟩
   ·rw [zpA] at h; exact wpAny_eqBool_int h
   ·rw [zpC] at h; exact me i t y u _ _ _ _ h
  ·rcases zaC hv with ⟨j,u,rfl,rfl⟩ | ⟨y,u,rfl,rfl⟩
   ·rw [zpD] at h; exact mf x t j u _ _ _ _ h
   ·rw [zpB] at h; exact wpAny_eqBool_str h
 «strs»:=fun k x t v h=>by
  rcases zaC h with ⟨i,u,rfl,e⟩ | ⟨y,u,rfl,e⟩
  ·exact nomatch e
  ·injection e with e1 _
   subst e1;cases v <;> rfl
theorem zhC (prog:Program) (w:World) (i:Int) (t:Tok):(zat prog w).is (.inl i) (.int i t)=true:=zkE i t
theorem zhD (prog:Program) (w:World) (x:Str) (t:Tok):(zat prog w).is (.inr x) (.str x t)=true:=zkF x t
inductive V where
 | non | bl (b:Bool) | int (i:Int) | str (x:Str) | byt (b:Array UInt8) | flt (b:UInt64) | ref (a:Addr) | ty (n:String)
 deriving DecidableEq
noncomputable def RelV:V->Value->Prop
 | .non,u=>u=eZ
 | .bl b,u=>u=iF b
 | .int i,u=>∃ t,u=jB i t
 | .str x,u=>∃ t,u=md x t
 | .byt b,u=>∃ t,u=Value.bytes b t
 | .flt b,u=>∃ t,u=Value.float b t
 | .ref a,u=>u=bL a
 | .ty n,u=>u=Value.type n
abbrev zQ:List V->List Value->Prop:=Paired RelV
theorem zQ.length {xs:List V} (r:zQ xs us):xs.length=us.length:=bS r
theorem zQ.get:∀ {xs:List V} {us:TH} {i:Nat} {x:V},zQ xs us->xs[i]? = some x->∃ u,us[i]? = some u/\RelV x u
 | _,_,_,_,.nil,e=>by simp at e
 | _,_,0,_,.cons r _,e=>by simp at e; subst e; exact⟨_,rfl,r⟩
 | _,_,i+1,x,.cons _ t,e=>by
  obtain⟨u,h1,h2⟩:=zQ.get (i:=i) (x:=x) t #[U,e];exact⟨u,by simpa using h1,h2⟩
theorem zQ.set {x:V} {u:Value} (r:RelV x u):∀ {xs:List V} {us:TH} (i:Nat),zQ xs us->zQ (xs.set i x) (us.set i u)
 | _,_,_,.nil=>.nil
 | _,_,0,.cons _ t=>.cons r t
 | _,_,i+1,.cons q t=>.cons q (zQ.set r i t)
theorem zQ.append:∀ {xs ys:List V} {us ws:TH},zQ xs us->zQ ys ws->zQ (xs++ys) (us++ws)
 | _,_,_,_,.nil,s=>s
 | _,_,_,_,.cons r t,s=>.cons r (zQ.append t s)
theorem zQ.take:∀ {xs:List V} {us:TH} (n:Nat),zQ xs us->zQ (xs.take n) (us.take n)
 | _,_,0,_=>.nil
 | _,_,_+1,.nil=>.nil
 | _,_,n+1,.cons r t=>.cons r (zQ.take n t)
theorem zQ.drop:∀ {xs:List V} {us:TH} (n:Nat),zQ xs us->zQ (xs.drop n) (us.drop n)
 | _,_,0,r=>r
 | _,_,_+1,.nil=>.nil
 | _,_,n+1,.cons _ t=>zQ.drop n t
noncomputable def zef:Option V->Option Value->Prop
 | some v,some u=>RelV v u
 | none,none=>True
 | _,_=>False
noncomputable def KV {κ:Type}:List (κ×V)->List (κ×Value)->Prop:=Paired fun (p:κ×V) (q:κ×Value)=>p.1=q.1/\RelV p.2 q.2
noncomputable def kV:Key->V
 | .inl i=>.int i
 | .inr x=>.str x
inductive HO where
 | lst (xs:List V)
 | tup (xs:List V)
 | dK (kvs:List (Key×V)) | dT (kvs:List (List Key×V))
 | set (S:Int->Bool) (n:Nat)
 | ins (C dx:Addr) (fs:List (Str×V))
 | own (x:Addr)
 | xd (fs:List (Str×V))
 | met (f x:Addr)
 | rng (lo hi:Int)
 | frz (o:Obj) (u:HO)
 | tbl (ps:Array Value)
 | ext (φ:Heap->Prop)
abbrev Hp:=Addr->Option HO
noncomputable def oG (H:Hp) (a:Addr) (o:HO):Hp:=fun b=>if b=a then some o else H b
theorem zb {a:Addr} {o:HO}:oG H a o a=some o:=by unfold oG; rw [if_pos rfl]
theorem zn {a b:Addr} {o:HO} (h:b≠a):oG H a o b=H b:=by unfold oG; rw [if_neg h]
theorem zjI {a:Addr} {o u:HO}:oG #[ST] a u=oG H a u:=by
 funext b; unfold oG; split <;> rfl
theorem zpb {a b:Addr} {o u:HO} (h:H a=some o) (h':H b=some u) (d:o≠u):a≠b:=by
 intro e; subst e; rw [h] at h'; exact d (bI h')
theorem zu {a b:Addr} {o:HO} (h:H a=some o) (h':H b=none):a≠b:=by
 intro e; subst e; rw [h] at h'; cases h'
section
variable (P:Program) (w:World)
noncomputable def zak (H:Hp) (h:Heap) (a:Addr):HO->Prop
 | .lst xs=>xs.length<=sizeLine/\∃ (oF:TH) (n:Nat),zQ xs oF/\h.get? a=some { cls:=.type "list",data:=.seq oF.toArray n }
 | .tup xs=>xs.length<=sizeLine/\∃ oF:List Value,zQ xs oF/\IsTup h a oF.toArray
 | .dK kvs=>kvs.length<=sizeLine/\(a == sysModules)=false/\∃ vs,KV kvs vs/\h.DictOf (zat P w) a vs
 | .dT kvs=>kvs.length<=sizeLine/\(a == sysModules)=false/\∃ xs:List (List Key×Addr×Value),
   Paired (fun (p:List Key×V) (q:List Key×Addr×Value)=>p.1=q.1/\H q.2.1=some (.tup (p.1.map kV))/\RelV p.2 q.2.2) kvs xs /\
   ∃ o es ep,h.get? a=some o/\o.ExactDict/\o.data = .dict es ep/\es.toList=xs.map (entryOfKey #[Rc])/\(xs.map (·.1)).Nodup
 | .set S n=>h.SetOf (intKind P w) a S n
 | .ins C dx fs=>H dx=some (.own a)/\fs.length<=1000/\dx≠a/\h.get? a=some (kB C dx) /\
   ∃ mA,h.Ns1 dx mA/\(∀ f,zef (fs.lookup f) (mA f))/\oh mA (fs.map (·.1))
 | .own _=>∃ o,h.get? a=some o
 | .xd fs=>∃ mA,h.Ns1 a mA/\∀ f,zef (fs.lookup f) (mA f)
 | .rng lo hi=>∃ t u v,h.get? a=some { cls:=.type "range",data:=.fields #[PP] }
 | .frz o u=>h.get? a=some o/\zak H h a u
 | .tbl ps=>h.get? a=some { cls:=.none,data:=.fields ps }
 | .met f x=>h.get? a=some (jR #[Ts] (.ref x))
 | .ext φ=>φ h/\(∃ o,h.get? a=some o)/\∀ h1 h2:Heap,φ h1->(∀ o,h1.get? a=some o->h2.get? a=some o)->φ h2
noncomputable def HOk (H:Hp) (h:Heap):Prop:=∀ a o,H a=some o->zak P w H h a o
end
section
variable {P:Program} {w:World} {H H':Hp} {h h':Heap} {a:Addr} {o:HO}
theorem zak.lt (x:zak P w H h a o):a < h.objs.size:=by
 cases o with
 | lst xs=>obtain⟨_,_,_,_,e⟩:=x; exact aX e
 | tup xs=>obtain⟨_,_,_,p⟩:=x; exact p.lt
 | dK kvs=>obtain⟨_,_,_,_,o,_,_,e,_⟩:=x; exact aX e
 | dT kvs=>obtain⟨_,_,_,_,o,_,_,e,_⟩:=x; exact aX e
 | set S n=>obtain⟨o,_,_,_,e,_⟩:=x; exact aX e
 | ins C dx fs=>obtain⟨_,_,_,e,_⟩:=x; exact aX e
 | own y=>obtain⟨_,e⟩:=x; exact aX e
 | xd fs=>obtain⟨_,⟨_,_,_,e,_⟩,_⟩:=x; exact aX e
 | rng lo hi=>obtain⟨_,_,_,e⟩:=x; exact aX e
 | frz ob u=>obtain⟨e,_⟩:=x; exact aX e
 | tbl ps=>exact aX (show h.get? a=some _ from x)
 | met f y=>exact aX (show h.get? a=some _ from x)
 | ext φ=>obtain⟨_,⟨_,e⟩,_⟩:=x; exact aX e
theorem Paired.PY {α β:Type} {F G:α->β->Prop}:∀ {l₁:List α} {l₂:List β},Paired F l₁ l₂->(∀ a b,F a b->G a b)->Paired G l₁ l₂
 | _,_,.nil,_=>.nil
 | _,_,.cons r t,f=>.cons (f _ _ r) (Paired.PY t f)
theorem zak.Ny (x:zak P w H h a o) (k:∀ b u,(b=a\/H b=some (.own a))->h.get? b=some u->h'.get? b=some u)
  (ho:∀ b,H b=some (.own a)->H' b=some (.own a)) (ht:∀ b xs,H b=some #[SO]->H' b=some #[SO]):zak P w H' h' a o:=by
 induction o with
 | lst xs=>obtain⟨z,oF,n,r,e⟩:=x; exact⟨z,oF,n,r,k _ _ #[Q3] e⟩
 | tup xs=>obtain⟨z,oF,r,ob,e,c⟩:=x; exact⟨z,oF,r,ob,k _ _ #[Q3] e,c⟩
 | dK kvs=>obtain⟨z,y,vs,r,ob,es,ep,e,c⟩:=x; exact⟨z,y,vs,r,ob,es,ep,k _ _ #[Q3] e,c⟩
 | dT kvs =>
  obtain⟨z,y,xs,r,ob,es,ep,e,c⟩:=x;exact⟨z,y,xs,Paired.PY r fun p q z=>⟨z.1,ht _ _ z.2.1,z.2.2⟩,ob,es,ep,k _ _ #[Q3] e,c⟩
 | set S n=>obtain⟨ob,es,ep,t,e,c⟩:=x; exact⟨ob,es,ep,t,k _ _ #[Q3] e,c⟩
 | ins C dx fs =>
  obtain⟨d,z,ne,e,mA,⟨od,es,ep,e2,c⟩,r⟩:=x;exact⟨ho _ d,z,ne,k _ _ #[Q3] e,mA,⟨od,es,ep,k _ _ (.inr d) e2,c⟩,r⟩
 | own y=>obtain⟨ob,e⟩:=x; exact⟨ob,k _ _ #[Q3] e⟩
 | xd fs=>obtain⟨mA,⟨od,es,ep,e,c⟩,r⟩:=x; exact⟨mA,⟨od,es,ep,k _ _ #[Q3] e,c⟩,r⟩
 | rng lo hi=>obtain⟨t,u,v,e⟩:=x; exact⟨t,u,v,k _ _ #[Q3] e⟩
 | frz ob u ih=>obtain⟨e,q⟩:=x; exact⟨k _ _ #[Q3] e,ih q⟩
 | tbl ps =>
  have e:h.get? a=some { cls:=.none,data:=.fields ps }:=x;show h'.get? a=some { cls:=.none,data:=.fields ps };exact k a _ #[Q3] e
 | met f y =>
  have e:h.get? a=some (jR #[Ts] (.ref y)):=x;show h'.get? a=some (jR #[Ts] (.ref y));exact k a _ #[Q3] e
 | ext φ=>obtain⟨p,⟨o,e⟩,st⟩:=x; exact⟨st _ _ p fun o q=>k _ _ #[Q3] q,⟨o,k _ _ #[Q3] e⟩,st⟩
theorem HOk.lt (x:HOk P w H h) (e:H a=some o):a < h.objs.size:=(x a o e).lt
theorem HOk.fresh (x:HOk P w H h) (e:h.objs.size<=a):H a=none:=by
 cases q:H a with
 | none=>rfl
 | some u=>exact absurd (bQ (x.lt q) e) (dF _)
theorem HOk.kept (x:HOk P w H h) (k:∀ b u,h.get? b=some u->h'.get? b=some u):HOk P w H h':=fun a o e =>
 (x a o e).Ny (fun b u _ q=>k b u q) #[Te] fun _ _ q=>q
theorem HOk.laid (x:HOk P w H h) (k:∀ b u,h.get? b=some u->h'.get? b=some u) (hp:h.objs.size<=a) (new:zak P w #[ST] h' a o):HOk P w #[ST] h':=fun b u e=>by
 have hn:=x.fresh hp;by_cases hb:b=a
 ·subst hb; rw [zb] at e; cases e; exact new
 ·rw [zn hb] at e;exact (x b u e).Ny (fun c v _ q=>k c v q) (fun c q=>by rw [zn (zu q hn)]; exact q) fun c xs q=>by rw [zn (zu q hn)]; exact q
end
noncomputable def Rd (H:Hp) (a:Addr) (u:HO):Prop:=H a=some u\/∃ o,H a=some #[Vz]
theorem Rd.ok {a:Addr} {u:HO} (r:Rd H a u) (x:HOk P w H h):zak P w H h a u:=by
 rcases r with r | ⟨o,r⟩
 ·exact x a u r
 ·obtain⟨_,q⟩:=x a _ r;exact q
noncomputable def Mut:Option HO->Prop
 | some (.lst _)=>True
 | some (.dK _)=>True
 | some (.dT _)=>True
 | some (.set _ _)=>True
 | some (.ins _ _ _)=>True
 | some (.ext _)=>True
 | _=>False
section
variable {P:Program} {w:World} {H:Hp} {h h':Heap} {x e:Addr} {o':HO}
theorem HOk.write (ok:HOk P w H h) (mu:Mut (H x)) (he:e=x\/H e=some (.own x)) (k:∀ b u,b≠e->h.get? b=some u->h'.get? b=some u) (DO:∃ u,h'.get? e=some u)
  (new:zak P w (oG H x o') h' x o'):HOk P w (oG H x o') h':=fun b u q=>by
 have ES:∀ c y,H c=some (.own y)->c≠x:=fun c y r z=>by subst z; rw [r] at mu; exact mu
 have Ic:∀ c xs,H c=some #[SO]->c≠x:=fun c xs r z=>by subst z; rw [r] at mu; exact mu
 by_cases hb:b=x
 ·subst hb; rw [zb] at q; cases q; exact new
 ·rw [zn hb] at q;by_cases Ci:b=e
  ·have q':H b=some (.own x):=by
    rcases he with z | z
    ·exact absurd (Ci.trans z) hb
    ·rw [Ci]; exact z
   rw [q] at q'; cases q';obtain⟨v,hv⟩:=DO;exact⟨v,by rw [Ci]; exact hv⟩
  ·refine (ok b u q).Ny (fun c v hc r=>k c v ?_ r) (fun c r=>by rw [zn (ES c b r)]; exact r) fun c xs r=>by rw [zn (Ic c xs r)]; exact r
   rcases hc with rfl | hc
   ·exact Ci
   ·rintro rfl;rcases he with z | z
    ·exact ES c b hc z
    ·rw [hc] at z; cases z; exact hb rfl
end
structure Un (fs ex:TF) (H H':Hp) (h h':Heap):Prop where
 keep:∀ b o,h.get? b=some o->H b=none->b∉fs->b∉ex->h'.get? b=some o
 slot:∀ b o,h.get? b=some o->H b=none->b∈fs->b∉ex->∃ sl,h'.get? b=some { o with slots:=sl }
 free:∀ b o,h.get? b=some o->H b=none->b∉ex->H' b=none
 there:∀ b o,h.get? b=some o->b∉ex->∃ o',h'.get? b=some o'
 Nd:∀ b xs,H b=some #[SO]->H' b=some #[SO]
 Nj:∀ b o u,H b=some #[Vz]->H' b=some #[Vz]
 Ng:∀ b ps,H b=some (.tbl ps)->∃ more,H' b=some (.tbl (ps++more))
section
variable {fs fs' ex ex':TF} {H H1 H2:Hp} {h h1 h2 h':Heap} {a x e:Addr} {o:HO}
theorem Un.any (u:Un fs ex H H1 h h1) {b:Addr} {ob:Obj} (q:h.get? b=some ob) (n:H b=none) (hx:b∉ex):∃ sl,h1.get? b=some { ob with slots:=sl }:=by
 by_cases hb:b∈fs
 ·exact u.slot b ob q n hb hx
 ·exact⟨ob.slots,u.keep b ob q n hb hx⟩
theorem Un.kept (k:∀ b u,h.get? b=some u->h'.get? b=some u):Un fs ex H H h h' :=
 ⟨fun b ob q _ _ _=>k b ob q,fun b ob q _ _ _=>⟨ob.slots,k b ob q⟩,fun _ _ _ n _=>n,fun b ob q _=>⟨ob,k b ob q⟩,fun _ _ q=>q,fun _ _ _ q=>q,fun _ ps q=>⟨#[],by rw [q]; simp⟩⟩
theorem Un.refl:Un fs ex H H h h:=Un.kept fun _ _ q=>q
theorem Un.laid (k:∀ b u,h.get? b=some u->h'.get? b=some u) (hp:h.objs.size<=a) (hn:H a=none):Un fs ex H #[ST] h h' where
 keep:=fun b u q _ _ _=>k b u q
 slot:=fun b u q _ _ _=>⟨u.slots,k b u q⟩
 free:=fun b u q n _=>by rw [zn (bU (bQ (aX q) hp))]; exact n
 there:=fun b u q _=>⟨u,k b u q⟩
 Nd:=fun b xs q=>by rw [zn (zu q hn)]; exact q
 Nj:=fun b u xs q=>by rw [zn (zu q hn)]; exact q
 Ng:=fun b ps q=>⟨#[],by rw [zn (zu q hn),q]; simp⟩
theorem Un.write (mu:Mut (H x)) (he:e=x\/H e=some (.own x)) (k:∀ b u,b≠e->h.get? b=some u->h'.get? b=some u) (DO:∃ u,h'.get? e=some u):Un fs ex H (oG H x o) h h':=by
 have hx:∀ b,H b=none->b≠x:=fun b n z=>by subst z; rw [n] at mu; exact mu
 have hb:∀ b,H b=none->b≠e:=fun b n z=>by
  subst z;rcases he with r | r
  ·exact hx b n r
  ·rw [n] at r; cases r
 have hm:∀ b u,H b=some u->¬ Mut (some u)->b≠x:=fun b u q nm z=>by subst z; rw [q] at mu; exact nm mu
 refine⟨fun b u q n _ _=>k b u (hb b n) q,fun b u q n _ _=>⟨u.slots,k b u (hb b n) q⟩,fun b u q n _=>by rw [zn (hx b n)]; exact n,fun b u q _=>?_,
  fun b xs q=>by rw [zn (hm b _ q fun z=>z)]; exact q,fun b u xs q=>by rw [zn (hm b _ q fun z=>z)]; exact q,fun b ps q=>⟨#[],by rw [zn (hm b _ q fun z=>z),q]; simp⟩⟩
 by_cases Ci:b=e
 ·subst Ci; exact DO
 ·exact⟨u,k b u Ci q⟩
end
noncomputable def trk (h:Heap) (H:Hp):List Addr:=(aU h.objs.size).filter fun a=>(H a).isSome
noncomputable def zfU (h:Heap) (H:Hp):Heap:=f' h (trk h H)
theorem zkG (h:Heap) (H:Hp):(zfU h H).objs.size=h.objs.size:=PySem.W.hideAll_size _ _
theorem zlT {b:Addr} {o:Obj} (e:h.get? b=some o) (n:H b=none):(zfU h H).get? b=some o :=
 ie _ e fun hm=>by
  have q:(H b).isSome=true:=(cK.mp hm).2;rw [n] at q; simp at q
theorem zn0 {b:Addr} {o:Obj} (e:(zfU h H).get? b=some o):h.get? b=some o/\H b=none:=by
 have e':h.get? b=some o:=jC (trk h H) e;refine⟨e',?_⟩;cases q:H b with
 | none=>rfl
 | some x =>
  have hm:b∈trk h H:=cK.mpr ⟨bP.mpr (aX e'),by simp [q]⟩;have z:(zfU h H).get? b=none:=lj (trk h H) hm;rw [z] at e; cases e
structure Mod (K:aD) (mg:TJ) (base:Heap):Prop where
 kin:K.In base
 glob:base.Ns mainGlobals mg
 blt:∃ mb,base.Ns builtinsNs mb/\∀ x:Str,x≠"__name__"->mb x=bootBuiltins x
 nolimit:base.NoLimit
structure Cx where
 prog:Program
 w:World
 K:aD
 mg:Str->Option Value
 base:Heap
 A:Around
 N:List Str
 s₀:Shared
 H₀:Hp
 env:Env
 outer:List Env
 stack:List Env
 ex:List Addr
 fn:Str->Bool
 calm:Bool
 pn:List (Addr×Obj)
 xe:Value->Shared->Prop
noncomputable def frs (l:List Env):List Addr:=l.filterMap (·.frame)
abbrev Cx.fs (X:Cx):List Addr:=frs X.outer
noncomputable def Vis (sc:Scope) (x:Str):Prop:=sc.names.lookup x=some .local\/sc.names.lookup x=some .cell\/sc.names.lookup x=some .free
noncomputable def Loc (sc:Scope) (x:Str):Prop:=sc.names.lookup x=some .local\/sc.names.lookup x=some .cell
noncomputable def Look (env:Env) (h:Heap) (m:TJ) (x:Str) (u:Value):Prop :=
 (env.kindOf x=some .local/\m x=some u)\/((env.kindOf x=some .cell\/env.kindOf x=some .free)/\∃ c,env.cells.lookup x=some c/\h.IsCell c (some u))
structure Cx.Ok (X:Cx):Prop where
 mod:Mod X.K X.mg X.base
 kind:X.env.scope.kind = .function
 glob:X.env.globals=mainGlobals
 blt:X.env.builtins=builtinsNs
 above:X.s₀.heap.objs.size<=X.env.locals
 inj:∀ x y c,X.env.cells.lookup x=some c->X.env.cells.lookup y=some c->x=y
 has:∀ x,(X.env.kindOf x=some .cell\/X.env.kindOf x=some .free)->∃ c,X.env.cells.lookup x=some c
 cab:∀ x c,X.fn x=true->X.env.cells.lookup x=some c->X.s₀.heap.objs.size<=c
 hd:X.calm=true->X.A.handled=none
 frames:X.A.frames=some X.stack
 stk:X.stack=X.outer\/(X.stack=X.env :: X.outer/\X.env.frame=some X.env.locals)
 exf:∀ b∈X.ex,b≠X.env.locals/\∀ x c,X.env.cells.lookup x=some c->c≠b
 bs:∀ b o,X.base.get? b=some o->X.s₀.heap.get? b=some o/\X.H₀ b=none
 bsz:X.base.objs.size<=X.s₀.heap.objs.size
 Po:∀ b o,X.base.get? b=some o->b∉X.ex
 Pu:∀ b∈X.ex,b∉X.fs
 Oh:X.s₀.heap.FunFrames X.base X.outer
 frf:∀ b∈X.fs,X.H₀ b=none
structure Inv (X:Cx) (oC:TC) (σ:List (Option V)) (H:Hp) (s:Shared):Prop where
 ok:X.Ok
 os:s.os=X.s₀.os
 bare:AllBare s.gens
 base:Un X.fs X.ex X.H₀ H X.s₀.heap s.heap
 loc:∃ m,s.heap.Ns X.env.locals m/\∀ (i:Nat) (x:Str) (v:V),X.N[i]? = some x->σ[i]? = some #[UF]->Vis X.env.scope x->∃ u,RelV v u/\Look X.env s.heap m x u
 cell:∀ x c,X.env.cells.lookup x=some c->∃ v,s.heap.IsCell c v
 free:H X.env.locals=none
 L3:∀ x c,X.env.cells.lookup x=some c->H c=none
 pin:∀ p∈X.pn++oC,s.heap.get? p.1=some p.2/\H p.1=none/\p.1≠X.env.locals/\p.1∉X.fs/\∀ v,p.2.data≠.cell v
 hok:HOk X.prog X.w H s.heap
 len:σ.length=X.N.length
section
variable {X:Cx} {oC:TC} {σ:List (Option V)} {H H':Hp} {s:Shared} {h':Heap}
theorem Cx.Ok.Qf (ok:X.Ok) {b:Addr} {o:Obj} (e:X.base.get? b=some o):b∉X.fs:=fun hb=>by
 have:=(ok.Oh.mem hb).1;rw [e] at this; cases this
theorem Inv.bs (I:Inv X oC σ H s):∀ b o,X.base.get? b=some o->s.heap.get? b=some o/\H b=none:=fun b o e =>
 ⟨I.base.keep b o #[U0].1 #[U0].2 (I.ok.Qf e) (I.ok.Po b o e),I.base.free b o #[U0].1 #[U0].2 (I.ok.Po b o e)⟩
theorem Inv.bk (I:Inv X oC σ H s):∀ b o,X.base.get? b=some o->s.heap.get? b=some o:=fun b o e=>(I.bs b o e).1
theorem Inv.mod (I:Inv X oC σ H s):Mod X.K X.mg X.base:=I.ok.mod
theorem Inv.kIn (I:Inv X oC σ H s):X.K.In s.heap:=I.ok.mod.kin.keeps I.bk
theorem Inv.lt (I:Inv X oC σ H s):X.env.locals < s.heap.objs.size:=let ⟨_,hn,_⟩:=I.loc; hn.lt
theorem Inv.sz (I:Inv X oC σ H s):X.s₀.heap.objs.size<=s.heap.objs.size:=cC I.ok.above (fY I.lt)
theorem Inv.Qe (I:Inv X oC σ H s) {a:Addr} (h:s.heap.objs.size<=a):a∉X.fs:=fun hb=>by
 obtain⟨_,o,ho,_⟩:=I.ok.Oh.mem hb;exact absurd (bQ (aX ho) (cC I.sz h)) (dF _)
theorem Inv.cne (I:Inv X oC σ H s):∀ x c,X.env.cells.lookup x=some c->c≠X.env.locals:=fun x c e z=>by
 obtain⟨v,o,ho,hd⟩:=I.cell x c e;obtain⟨m,⟨o',es,ep,sJ,AG,_⟩,_⟩:=I.loc;rw [z,sJ] at ho; cases ho; rw [AG] at hd; cases hd
theorem Inv.Oh (I:Inv X oC σ H s):s.heap.FunFrames X.base X.outer:=by
 have all:∀ (l:List Env),(∀ b∈frs l,b∈X.fs)->X.s₀.heap.FunFrames X.base l->s.heap.FunFrames X.base l:=by
  intro l;induction l with
  | nil=>intro _ _; trivial
  | cons env r ih =>
   intro hs hl;obtain⟨hk,⟨L,o,hf,hn,ho,hd⟩,hr⟩:=hl;have hL:L∈X.fs:=hs L (by unfold frs; rw [fR,hf]; exact bF);obtain⟨sl,e⟩:=I.base.slot L o ho (I.ok.frf L hL) hL fun z=>I.ok.Pu L z hL
   exact⟨hk,⟨L,_,hf,hn,e,hd⟩,ih (fun b hb=>hs b (by unfold frs; rw [fR,hf]; exact aY _ hb)) hr⟩
 exact all X.outer (fun _ hb=>hb) I.ok.Oh
theorem Inv.stack (I:Inv X oC σ H s):s.heap.FunFrames X.base X.stack:=by
 rcases I.ok.stk with e | ⟨e,hf⟩
 ·rw [e]; exact I.Oh
 ·rw [e];obtain⟨m,hn,_⟩:=I.loc;refine .cons (by rw [I.ok.kind]; decide) hf hn ?_ I.Oh;exact Heap.get?_none_of_le (cC I.ok.bsz I.ok.above)
theorem Inv.OP (I:Inv X oC σ H s):∀ b∈frs X.stack,b∈X.env.locals :: X.fs:=fun b hb=>by
 rcases I.ok.stk with e | ⟨e,hf⟩
 ·rw [e] at hb; exact aY _ hb
 ·rw [e] at hb;unfold frs at hb;rw [fR,hf] at hb;exact hb
theorem Inv.MY (I:Inv X oC σ H s):∀ b∈frs X.stack,H b=none:=fun b hb=>by
 rcases bD.mp (I.OP b hb) with e | hb
 ·rw [e]; exact I.free
 ·obtain⟨_,o,ho,_⟩:=I.ok.Oh.mem hb;exact I.base.free b o ho (I.ok.frf b hb) fun z=>I.ok.Pu b z hb
theorem Inv.step {g':Array GenState} {d':Drawn} {ch:TF} (I:Inv X oC σ H s)
  (Am:∀ b∈ch,(b∈X.ex\/X.s₀.heap.objs.size<=b)/\b≠X.env.locals/\(∀ x c,X.env.cells.lookup x=some c->c≠b)/\∀ p∈X.pn++oC,p.1≠b)
  (keep:∀ b o,b≠X.env.locals->b∉X.fs->b∉ch->s.heap.get? b=some o->H b=none->h'.get? b=some o)
  (slot:∀ b o,b≠X.env.locals->b∈X.fs->b∉ch->s.heap.get? b=some o->H b=none->∃ sl,h'.get? b=some { o with slots:=sl }) (free:∀ b o,b∉ch->s.heap.get? b=some o->H b=none->H' b=none)
  (there:∀ b o,b∉ch->s.heap.get? b=some o->∃ o',h'.get? b=some o')
  (Nd:∀ b xs,H b=some #[SO]->H' b=some #[SO]) (Nj:∀ b o u,H b=some #[Vz]->H' b=some #[Vz]) (Ng:∀ b ps,H b=some (.tbl ps)->∃ more,H' b=some (.tbl (ps++more)))
  (ns:∀ m,s.heap.Ns X.env.locals m->h'.Ns X.env.locals m) (hok:HOk X.prog X.w H' h') (hg:AllBare g') :
  Inv X oC σ H' { s with heap:=h',gens:=g',drawn:=d',toks:=t' }:=by
 have DQ:∀ b o,X.s₀.heap.get? b=some o->b≠X.env.locals:=fun b o e=>bU (bQ (aX e) I.ok.above)
 have GJ:∀ b o,X.s₀.heap.get? b=some o->b∉X.ex->b∉ch:=fun b o e hx hb=>by
  rcases (Am b hb).1 with z | z
  ·exact hx z
  ·exact absurd (bQ (aX e) z) (dF _)
 have cellK:∀ x c,X.env.cells.lookup x=some c->∀ v,s.heap.IsCell c v->h'.IsCell c v:=fun x c e v ⟨o,ho,hd⟩=>by
  have ET:c∉ch:=fun z=>(Am c z).2.2.1 x c e rfl
  by_cases hc:c∈X.fs
  ·obtain⟨sl,q⟩:=slot c o (I.cne x c e) hc ET ho (I.L3 x c e);exact⟨_,q,hd⟩
  ·exact⟨o,keep c o (I.cne x c e) hc ET ho (I.L3 x c e),hd⟩
 refine⟨I.ok,I.os,hg,⟨fun b o e n hb hx=>?_,fun b o e n hb hx=>?_,fun b o e n hx=>?_,fun b o e hx=>?_,fun b xs e=>Nd b xs (I.base.Nd b xs e),fun b o xs e=>Nj b o xs (I.base.Nj b o xs e),fun b ps e=>?_⟩,?_,fun x c e=>?_,?_,fun x c e=>?_,fun p hp=>?_,hok,I.len⟩
 ·exact keep b o (DQ b o e) hb #[Wx] #[RA] #[TK]
 ·obtain⟨sl,e1⟩:=I.base.slot b o e n hb hx;obtain⟨GL,e2⟩:=slot b _ (DQ b o e) hb #[Wx] e1 #[TK];exact⟨GL,e2⟩
 ·obtain⟨o',e1⟩:=I.base.there b o e hx;exact free b o' #[Wx] e1 #[TK]
 ·obtain⟨o',e1⟩:=I.base.there b o e hx;exact there b o' #[Wx] e1
 ·obtain⟨m1,e1⟩:=I.base.Ng b ps e;obtain⟨m2,e2⟩:=Ng b _ e1;exact⟨m1++m2,by rw [e2,mh]⟩
 ·obtain⟨m,hn,hl⟩:=I.loc;refine⟨m,ns m hn,fun i x v e1 e2 e3=>?_⟩;obtain⟨u,r,l⟩:=hl i x v e1 e2 e3;refine⟨u,r,?_⟩;rcases l with l | ⟨k,c,e,z⟩
  ·exact .inl l
  ·exact .inr ⟨k,c,e,cellK x c e _ z⟩
 ·obtain⟨v,z⟩:=I.cell x c e;exact⟨v,cellK x c e v z⟩
 ·obtain⟨m,⟨o,_,_,ho,_⟩,_⟩:=I.loc;exact free _ o (fun z=>(Am _ z).2.1 rfl) ho I.free
 ·obtain⟨v,o,ho,hd⟩:=I.cell x c e;exact free c o (fun z=>(Am c z).2.2.1 x c e rfl) ho (I.L3 x c e)
 ·obtain⟨e,n,ne,nf,d⟩:=I.pin p hp;have ET:p.1∉ch:=fun z=>(Am p.1 z).2.2.2 p hp rfl
  exact⟨keep p.1 p.2 ne nf ET e n,free p.1 p.2 ET e n,ne,nf,d⟩
theorem Inv.un (I:Inv X oC σ H s) (u:Un X.fs [] H H' s.heap h') (hok:HOk X.prog X.w H' h'):Inv X oC σ H' { s with heap:=h',toks:=t' }:=by
 obtain⟨m,⟨o,es,ep,ho,r⟩,_⟩:=id I.loc;obtain⟨sl,hL⟩:=u.any ho I.free #[M];exact I.step (g':=s.gens) (d':=s.drawn) (ch:=[]) (fun _ z=>nomatch z) (fun b o _ hb _ e n=>u.keep b o e n hb #[M]) (fun b o _ hb _ e n=>u.slot b o e n hb #[M]) (fun b o _ e n=>u.free b o e n #[M]) (fun b o _ e=>u.there b o e #[M]) u.Nd u.Nj u.Ng (fun m' hm=>by
  obtain⟨o',An,GN,sJ,r'⟩:=hm;rw [ho] at sJ; cases sJ;exact⟨_,An,GN,hL,r'⟩) hok I.bare
theorem Inv.call {g':Array GenState} {d':Drawn} {ch:TF} (I:Inv X oC σ H s) (u:Un (frs X.stack) ch H H' s.heap h') (hok:HOk X.prog X.w H' h') (hg:AllBare g')
  (Am:∀ b∈ch,(b∈X.ex\/X.s₀.heap.objs.size<=b)/\b≠X.env.locals/\(∀ x c,X.env.cells.lookup x=some c->c≠b)/\∀ p∈X.pn++oC,p.1≠b) :
  Inv X oC σ H' { s with heap:=h',gens:=g',drawn:=d',toks:=t' }:=by
 obtain⟨m,⟨o,es,ep,ho,r⟩,_⟩:=id I.loc;obtain⟨sl,hL⟩:=u.any ho I.free fun z=>(Am _ z).2.1 rfl
 exact I.step (ch:=ch) Am (fun b o hL hb hc e n=>u.keep b o e n (fun z=>(bD.mp (I.OP b z)).elim hL hb) hc) (fun b o _ _ hc e n=>u.any e n hc) (fun b o hc e n=>u.free b o e n hc) (fun b o hc e=>u.there b o e hc) u.Nd u.Nj u.Ng (fun m' hm=>by
  obtain⟨o',An,GN,sJ,r'⟩:=hm;rw [ho] at sJ; cases sJ;exact⟨_,An,GN,hL,r'⟩) hok hg
theorem Inv.turned (I:Inv X oC σ H s) (k:∀ b o,b≠it->s.heap.get? b=some o->h'.get? b=some o) (hn:H it=none) (hL:it≠X.env.locals)
  (h1:it∈X.ex\/X.s₀.heap.objs.size<=it) (h2:∀ x c,X.env.cells.lookup x=some c->c≠it) (h3:∀ p∈X.pn++oC,p.1≠it):Inv X oC σ H { s with heap:=h',toks:=t' }:=by
 have wu:∀ b u,H b=some u->b≠it:=fun b u e z=>by rw [z,hn] at e; cases e
 refine I.step (g':=s.gens) (d':=s.drawn) (ch:=[it]) (fun b hb=>?_) (fun b o _ _ hc e _=>k b o (fun z=>hc (by simp [z])) e) (fun b o _ _ hc e _=>⟨o.slots,k b o (fun z=>hc (by simp [z])) e⟩) #[RO]
  (fun b o hc e=>⟨o,k b o (fun z=>hc (by simp [z])) e⟩) #[SH] #[RN] (fun b ps e=>⟨#[],by rw [e]; simp⟩) #[SG] #[Vo] I.bare
 ·have e:b=it:=by simpa using hb
  subst e;exact⟨h1,hL,h2,h3⟩
 ·obtain⟨o,es,ep,ho,r⟩:=hm;exact⟨o,es,ep,k _ o (dY hL) ho,r⟩
 ·refine #[TQ].Ny (fun c v hc q=>k c v ?_ q) #[Te] fun _ _ q=>q
  rcases hc with z | z
  ·rw [z]; exact wu b u e
  ·exact wu c _ z
theorem Inv.tok (I:Inv X oC σ H s) (t:Nat):Inv X oC σ H { s with toks:=t }:=I.un (h':=s.heap) (t':=t) Un.refl I.hok
theorem Inv.kept (I:Inv X oC σ H s) (k:∀ b u,s.heap.get? b=some u->h'.get? b=some u):Inv X oC σ H { s with heap:=h',toks:=t' }:=I.un (Un.kept k) (I.hok.kept k)
theorem Inv.laid {a:Addr} {o:HO} (I:Inv X oC σ H s) (k:∀ b u,s.heap.get? b=some u->h'.get? b=some u) (hp:s.heap.objs.size<=a) (new:zak X.prog X.w #[ST] h' a o) :
  Inv X oC σ #[ST] { s with heap:=h',toks:=t' }:=I.un (Un.laid k hp (I.hok.fresh hp)) (I.hok.laid k hp new)
theorem Inv.write {x e:Addr} {o:HO} (I:Inv X oC σ H s) (mu:Mut (H x)) (he:e=x\/H e=some (.own x)) (k:∀ b u,b≠e->s.heap.get? b=some u->h'.get? b=some u) (DO:∃ u,h'.get? e=some u)
  (new:zak X.prog X.w (oG H x o) h' x o):Inv X oC σ (oG H x o) { s with heap:=h',toks:=t' }:=I.un (Un.write mu he k DO) (I.hok.write mu he k DO new)
theorem Inv.weak {σ':List (Option V)} (I:Inv X oC σ H s) (hl:σ'.length=σ.length) (w:∀ (i:Nat) v,σ'[i]? = some #[UF]->σ[i]? = some #[UF]):Inv X oC σ' H s :=
 ⟨I.ok,I.os,I.bare,I.base,let ⟨m,hn,GO⟩:=I.loc; ⟨m,hn,fun i x v e1 e2 e3=>GO i x v e1 (w i v e2) e3⟩,I.cell,I.free,I.L3,I.pin,I.hok,hl.trans I.len⟩
theorem Inv.Nz (I:Inv X oC σ H s) (h:∀ p∈rB,s.heap.get? p.1=some p.2/\H p.1=none/\p.1≠X.env.locals/\p.1∉X.fs/\∀ v,p.2.data≠.cell v):Inv X rB σ H s :=
 ⟨I.ok,I.os,I.bare,I.base,I.loc,I.cell,I.free,I.L3,fun p hp=>(bZ.mp hp).elim (fun z=>I.pin p (bM _ z)) (h p),I.hok,I.len⟩
theorem zff (hN:N.Nodup) {i:Nat} {x:Str} (a:N[i]? = some x) (b:N[j]? = some x):i=j:=by
 obtain⟨h1,e1⟩:=aK.mp a;obtain⟨h2,e2⟩:=aK.mp b;exact (nh hN).mp (e1.trans e2.symm)
theorem zga {E:TB} {i:Nat} {x:Str} {u:Value} {Q:Unit->Shared->Prop} (I:Inv X oC σ H s) (hN:X.N.Nodup) (hi:X.N[i]? = some x) (hx:Loc X.env.scope x) (r:RelV v u)
  (h:∀ s',Inv X oC (σ.set i #[UF]) H s'->(∃ a,cT a s.heap s'.heap/\(a=X.env.locals\/X.env.cells.lookup x=some a))->Q () s') (hf:X.fn x=true\/X.env.scope.names.lookup x=some .local:=by first | exact .inl rfl | exact .inr rfl | assumption):wpAny M A (storeName X.env x u) Q E s:=by
 obtain⟨m,hn,hl⟩:=id I.loc;have yo:(X.env.scope.kind == .class || (X.env.scope.kind == .module && X.env.locals != X.env.globals))=false:=by rw [I.ok.kind]; rfl
 have hiσ:i < σ.length:=by rw [I.len]; exact (aK.mp hi).1
 have cne:=I.cne;have tracked:∀ {a:Addr} {h':Heap},(∃ o,s.heap.get? a=some o/\H a=none)->cT a s.heap h'->HOk X.prog X.w H h':=fun {a h'} ha hs b ob e=>by
  obtain⟨_,_,BD⟩:=ha;refine (I.hok b ob e).Ny (fun c w' hc q=>(hs.2 c ?_).trans q) #[Te] fun _ _ q=>q
  rintro rfl;rcases hc with rfl | hc
  ·rw [BD] at e; cases e
  ·rw [BD] at hc; cases hc
 rcases hx with hk | hk
 ·refine wpAny_storeName_local hk hn (fun h' uw hs=>?_) yo;obtain⟨oL,_,_,Ao,_⟩:=id hn;refine h _ ⟨I.ok,I.os,I.bare,#[Do],#[Wg],fun y c e=>?_,I.free,I.L3,fun p hp=>?_,tracked ⟨oL,Ao,I.free⟩ hs,by simpa using I.len⟩ ⟨_,hs,.inl rfl⟩
  ·exact (hs.2 b #[Qu]).trans #[RA]
  ·obtain⟨sl,e1⟩:=I.base.slot b o e n hb hx;exact⟨sl,(hs.2 b #[Qu]).trans e1⟩
  ·obtain⟨o',e1⟩:=I.base.there b o e hx;exact⟨o',(hs.2 b #[Qu]).trans e1⟩
  ·by_cases hj:j=i
   ·subst hj;rw [hi] at e1; cases e1;rw [dJ hiσ] at e2;cases e2;exact⟨u,r,.inl ⟨hk,#[M]⟩⟩
   ·rw [dI (dY hj)] at e2;obtain⟨u',r',q⟩:=hl j y v' e1 e2 e3;refine⟨u',r',?_⟩;rcases q with ⟨k,e⟩ | ⟨k,c,e,z⟩
    ·refine .inl ⟨k,?_⟩;have:y≠x:=fun e=>hj (zff hN e1 (e ▸ hi))
     simp [this,e]
    ·exact .inr #[Wf]
  ·obtain⟨w',z⟩:=I.cell y c e;exact#[VT]
  ·obtain⟨e,n,ne,nf,d⟩:=I.pin p hp;exact⟨(hs.2 p.1 ne).trans e,n,ne,nf,d⟩
 ·have DR:X.fn x=true:=by
   rcases hf with z | z
   ·exact z
   ·rw [z] at hk; cases hk
  obtain⟨c,hc⟩:=I.ok.has x (.inl hk);obtain⟨w',z⟩:=I.cell x c hc;refine wpAny_storeName_cell I.ok.kind hk hc z (fun h' oT hs=>?_);obtain⟨oc,BE,Ie⟩:=id z;refine h { s with heap:=h' } ⟨I.ok,I.os,I.bare,#[Do],⟨m,hn.sameBut hs (dY (cne x c hc)),fun j y v' e1 e2 e3=>?_⟩,fun y c' e=>?_,I.free,I.L3,fun p hp=>?_,tracked ⟨oc,BE,I.L3 x c hc⟩ hs,by simpa using I.len⟩ ⟨c,hs,.inr hc⟩
  ·exact (hs.2 b #[RU]).trans #[RA]
  ·obtain⟨sl,e1⟩:=I.base.slot b o e n hb hx;exact⟨sl,(hs.2 b #[RU]).trans e1⟩
  ·obtain⟨o',e1⟩:=I.base.there b o e hx;exact⟨o',(hs.2 b #[RU]).trans e1⟩
  ·by_cases hj:j=i
   ·subst hj;rw [hi] at e1; cases e1;rw [dJ hiσ] at e2;cases e2;exact⟨u,r,.inr ⟨.inl hk,c,hc,oT⟩⟩
   ·rw [dI (dY hj)] at e2;obtain⟨u',r',q⟩:=hl j y v' e1 e2 e3;refine⟨u',r',?_⟩;rcases q with q | ⟨k,c',e,z'⟩
    ·exact .inl q
    ·refine .inr ⟨k,c',e,z'.sameBut hs ?_⟩;rintro rfl;exact hj (zff hN e1 (I.ok.inj _ _ _ e hc ▸ hi))
  ·by_cases pT:c'=c
   ·subst pT; exact⟨_,oT⟩
   ·obtain⟨w2,z2⟩:=I.cell y c' e;exact⟨w2,z2.sameBut hs pT⟩
  ·obtain⟨e,n,ne,nf,d⟩:=I.pin p hp;refine⟨(hs.2 p.1 ?_).trans e,n,ne,nf,d⟩;intro q;rw [q,BE] at e;have q':oc=p.2:=bI e;exact d w' (by rw [<- q']; exact Ie)
theorem zco {E:TB} {i:Nat} {x:Str} {u:Value} {Q:Unit->Shared->Prop} (I:Inv X oC σ H s) (hN:X.N.Nodup) (hi:X.N[i]? = some x) (hx:Loc X.env.scope x) (r:RelV v u)
  (h:∀ s',Inv X oC (σ.set i #[UF]) H s'->Q () s') (hf:X.fn x=true\/X.env.scope.names.lookup x=some .local:=by first | exact .inl rfl | exact .inr rfl | assumption):wpAny M A (storeName X.env x u) Q E s :=
 zga I hN hi hx r (fun s' I' _=>h s' I') hf
theorem Inv.Pq {ch:TF} (I:Inv X oC σ H s) (ho:s'.os=s.os) (u:Un (frs X.stack) ch H H' s.heap s'.heap) (hok:HOk X.prog X.w H' s'.heap) (hg:AllBare s'.gens)
  (Am:∀ b∈ch,(b∈X.ex\/X.s₀.heap.objs.size<=b)/\b≠X.env.locals/\(∀ x c,X.env.cells.lookup x=some c->c≠b)/\∀ p∈X.pn++oC,p.1≠b):Inv X oC σ H' s':=by
 obtain⟨h',g',d',t',o'⟩:=s';have e:o'=s.os:=ho;subst e;exact I.call (g':=g') (t':=t') (d':=d') u hok hg Am
end
abbrev XK:=Value->Option Addr->Hp->Prop
abbrev St:=List (Option V)
abbrev VK:=V->Hp->Prop
abbrev TE:=St->Hp->VK->Prop
abbrev TT:=St->Hp->(Bool->Hp->Prop)->Prop
abbrev TA:=St->Hp->(List V->Hp->Prop)->Prop
structure Ends where
 nx:St->Hp->Prop
 rt:VK
 bk:St->Hp->Prop:=fun _ _=>False
 ct:St->Hp->Prop:=fun _ _=>False
abbrev TS:=Ends->St->Hp->Prop
noncomputable def EP (X:Cx) (oC:TC) (σ:St) (Q:VK) (u:Value) (s':Shared):Prop:=∃ v H',Inv X oC σ H' s'/\RelV v u/\Q v H'
noncomputable def TP (X:Cx) (oC:TC) (σ:St) (Q:Bool->Hp->Prop) (b:Bool) (s':Shared):Prop:=∃ H',Inv X oC σ H' s'/\Q b H'
noncomputable def AP (X:Cx) (oC:TC) (σ:St) (Q:List V->Hp->Prop) (us:TH) (s':Shared):Prop:=∃ vs H',Inv X oC σ H' s'/\zQ vs us/\Q vs H'
noncomputable def SP (X:Cx) (oC:TC) (D:Ends) (f:Flow) (s':Shared):Prop :=
 match f with
 | .next=>∃ σ' H',Inv X oC σ' H' s'/\D.nx σ' H'
 | .brk=>∃ σ' H',Inv X oC σ' H' s'/\D.bk σ' H'
 | .cont=>∃ σ' H',Inv X oC σ' H' s'/\D.ct σ' H'
 | .ret u=>∃ v σ' H',Inv X oC σ' H' s'/\RelV v u/\D.rt v H'
noncomputable def PE (X:Cx) (e:Expr) (t:TE):Prop :=
 ∀ (oC:TC) (s:Shared) (σ:St) (H:Hp) (Q:VK),Inv X oC σ H s->t σ H Q->wpAny #[or] X.A #[VD] #[Qp] X.xe s
noncomputable def PT (X:Cx) (e:Expr) (t:TT):Prop :=
 ∀ (oC:TC) (s:Shared) (σ:St) (H:Hp) (Q:Bool->Hp->Prop),Inv X oC σ H s->t σ H Q->wpAny #[or] X.A (isTrue e X.env #[VD]) #[VG] X.xe s
noncomputable def PW (X:Cx) (e:Expr) (t:TT):Prop :=
 ∀ (whole:Sem Value) (oC:TC) (s:Shared) (σ:St) (H:Hp) (Q:Bool->Hp->Prop),Inv X oC σ H s->t σ H Q->wpAny #[or] X.A (isTrue e X.env whole) #[VG] X.xe s
theorem PW.pt {X:Cx} {e:Expr} {t:TT} (h:PW X e t):PT X e t:=h _
noncomputable def PA (X:Cx) (es:List Expr) (t:TA):Prop :=
 ∀ (pos:Pos) (oC:TC) (s:Shared) (σ:St) (H:Hp) (Q:List V->Hp->Prop),Inv X oC σ H s->t σ H Q->wpAny #[or] X.A (spliced #[LE]) (AP X oC σ Q) X.xe s
noncomputable def PS (X:Cx) (st:Stmt) (t:TS):Prop :=
 ∀ (oC:TC) (s:Shared) (σ:St) (H:Hp) (D:Ends),Inv X oC σ H s->t D σ H->wpAny #[or] X.A (exec st X.env) #[Vm] X.xe s
noncomputable def PSs (X:Cx) (st:List Stmt) (t:TS):Prop :=
 ∀ (oC:TC) (s:Shared) (σ:St) (H:Hp) (D:Ends),Inv X oC σ H s->t D σ H->wpAny #[or] X.A (execs st X.env) #[Vm] X.xe s
theorem thn {α:Type} {t:Sem α} {Q Q':α->Shared->Prop} {E:TB} (h:wpAny M A t Q E s) (hQ:∀ a s,Q a s->Q' a s):wpAny M A t Q' E s:=dA h hQ fun _ _ x=>x
section
variable {X:Cx}
noncomputable def zqH (i:Nat):TE:=fun σ H Q=>∃ v,σ[i]? = some #[UF]/\Q v H
noncomputable def tC (v:V):TE:=fun _ H Q=>Q v H
theorem zpE {i:Nat} {x:Str} (hN:X.N[i]? = some x) (hv:Vis X.env.scope x) (hd:(x == ("__debug__" : Str))=false:=by decide) (sL:(x == ("__classdict__" : Str))=false:=by decide):PE X #[S4] (zqH i):=by
 intro oC s σ H Q I h;obtain⟨v,e,h⟩:=h;obtain⟨m,hn,hl⟩:=I.loc;obtain⟨u,r,l⟩:=hl i x v hN e hv;have fin:EP X oC σ Q u s:=⟨v,H,I,r,h⟩;rcases l with ⟨hk,hm⟩ | ⟨hk,c,hc,rC⟩
 ·exact lq (jb I.ok.kind hk hn hm fin) hd
 ·rcases hk with hk | hk
  ·exact lq (lT I.ok.kind hk hc rC fin) hd
  ·exact lq (wpAny_loadName_free I.ok.kind hk hc rC fin sL) hd
theorem zg {i j pos}:PE X (.Constant (.int i) j pos) (tC (.int i)):=fun _ _ _ H _ I h=>mi ⟨.int i,H,I.tok _,⟨_,rfl⟩,h⟩
theorem zcT {b j pos}:PE X (.Constant (.bool b) j pos) (tC (.bl b)):=fun _ _ _ H _ I h=>Constant_bool ⟨.bl b,H,I,rfl,h⟩
theorem zlU {j pos}:PE X (.Constant .none j pos) (tC .non):=fun _ _ _ H _ I h=>Constant_none ⟨.non,H,I,rfl,h⟩
theorem zfg {x j pos}:PE X (.Constant (.str x) j pos) (tC (.str x)):=fun _ _ _ H _ I h=>Calls.Constant_str ⟨.str x,H,I.tok _,⟨_,rfl⟩,h⟩
noncomputable def Gl (X:Cx) (x:Str):Prop:=X.env.kindOf x=some .globalImplicit
theorem zcB {E:TB} {σ:St} {x:Str} {u:Value} {Q:TB} (I:Inv X oC σ H s) (hg:Gl X x) (hm:X.mg x=some u) (h:Q u s)
  (hd:(x == ("__debug__" : Str))=false:=by decide):wpAny #[or] X.A (eval #[S4] X.env) Q E s :=
 jK I.ok.kind hg (Calls.loadGlobal_global (by rw [I.ok.glob]; exact I.mod.glob.keeps I.bk) hm h) hd
theorem zbr {E:TB} {σ:St} {x:Str} {u:Value} {Q:TB} (I:Inv X oC σ H s) (hg:Gl X x) (hm:X.mg x=none) (hv:bootBuiltins x=some u) (h:Q u s)
  (hn:x≠"__name__":=by decide) (hd:(x == ("__debug__" : Str))=false:=by decide):wpAny #[or] X.A (eval #[S4] X.env) Q E s:=by
 obtain⟨mb,h1,h2⟩:=I.mod.blt;exact jK I.ok.kind hg (Calls.loadGlobal_builtin (by rw [I.ok.glob]; exact I.mod.glob.keeps I.bk) hm (by rw [I.ok.blt]; exact h1.keeps I.bk) ((h2 x hn).trans hv) h) hd
theorem zbG {x:Str} {v:V} {u:Value} {pos:Pos} (hg:Gl X x) (hm:X.mg x=some u) (r:RelV v u) (hd:(x == ("__debug__" : Str))=false:=by decide):PE X #[S4] (tC v) :=
 fun _ _ _ H _ I h=>zcB I hg hm ⟨v,H,I,r,h⟩ hd
theorem zeW {x:Str} {v:V} {u:Value} {pos:Pos} (hg:Gl X x) (hm:X.mg x=none) (hv:bootBuiltins x=some u) (r:RelV v u) (hn:x≠"__name__":=by decide) (hd:(x == ("__debug__" : Str))=false:=by decide):PE X #[S4] (tC v) :=
 fun _ _ _ H _ I h=>zbr I hg hm hv ⟨v,H,I,r,h⟩ hn hd
variable {a b:Expr} {ta tb:TE} {pos:Pos}
noncomputable def tB (t:TE):TT:=fun σ H Q=>t σ H fun x H1=>∃ c,x = .bl c/\Q c H1
theorem zgJ {e:Expr} {t:TE} (h:PE X e t) (he:∀ whole,isTrue e X.env whole=(do let v <- whole; standAt e.pos; holding [v] (truthy v)):=by intro _; rfl):PT X e (tB t):=by
 intro oC s σ H Q I hw;refine isTrue_plain (thn #[UN] fun v s1 ⟨x,H1,I1,r1,q1⟩=>?_) (he _);obtain⟨d,rfl,q⟩:=q1;cases r1;exact fM ⟨H1,I1,q⟩
variable {tA GP:TT} {rest:List Expr}
noncomputable def zro (t u:TT):TT:=fun σ H Q=>t σ H fun c H1=>if c=true then u σ H1 Q else Q false H1
noncomputable def tOr (t u:TT):TT:=fun σ H Q=>t σ H fun c H1=>if c=true then Q true H1 else u σ H1 Q
noncomputable def zrp (t:TT):TT:=fun σ H Q=>t σ H fun c H1=>Q (!c) H1
theorem zjJ (ha:PT X a tA):PW X (.BoolOp .And [a] pos) tA:=by
 intro wh oC s σ H Q I h;refine isTrue_and (thn (ha oC s σ H Q I h) fun c s1 e=>?_);cases c with
 | true=>exact isTrue_and_nil e
 | false=>exact e
theorem ziQ (ha:PT X a tA):PW X (.BoolOp .Or [a] pos) tA:=by
 intro wh oC s σ H Q I h;refine isTrue_or (thn (ha oC s σ H Q I h) fun c s1 e=>?_);cases c with
 | false=>exact isTrue_or_nil e
 | true=>exact e
theorem zlV (ha:PT X a tA) (hb:PW X #[Wk] GP):PW X (.BoolOp .And (a :: b :: rest) pos) (zro tA GP):=by
 intro wh oC s σ H Q I h;refine isTrue_and (thn #[NE] fun c s1 ⟨H1,I1,q1⟩=>?_);cases c with
 | true=>exact hb wh oC s1 σ H1 Q I1 q1
 | false=>exact⟨H1,I1,q1⟩
theorem zhE (ha:PT X a tA) (hb:PW X (.BoolOp .Or (b :: rest) pos) GP):PW X (.BoolOp .Or (a :: b :: rest) pos) (tOr tA GP):=by
 intro wh oC s σ H Q I h;refine isTrue_or (thn #[NE] fun c s1 ⟨H1,I1,q1⟩=>?_);cases c with
 | true=>exact⟨H1,I1,q1⟩
 | false=>exact hb wh oC s1 σ H1 Q I1 q1
theorem zgK (ha:PT X a tA):PT X (.UnaryOp .Not a pos) (zrp tA):=by
 intro oC s σ H Q I h;exact isTrue_not (ha oC s σ H (fun c H1=>Q (!c) H1) I h)
noncomputable def zqI (ta tb:TE):TE:=fun σ H Q=>ta σ H fun x H1=>∃ c,x = .bl c/\if c=true then tb σ H1 Q else Q (.bl false) H1
noncomputable def zqJ (ta:TE):TE:=fun σ H Q=>ta σ H fun x H1=>∃ c,x = .bl c/\Q (.bl (!c)) H1
theorem zpF {op} {t:TE} (h:PE X a t):PE X (.BoolOp op [a] pos) t:=fun oC s σ H Q I hw=>BoolOp_one (h oC s σ H Q I hw)
theorem zpG (ha:PE X a ta) (hb:PE X #[Wk] tb):PE X (.BoolOp .And (a :: b :: rest) pos) (zqI ta tb):=by
 intro oC s σ H Q I h;refine BoolOp_and (thn #[NE] fun v s1 ⟨x,H1,I1,r1,q1⟩=>?_);obtain⟨c,rfl,q1⟩:=q1;cases r1;refine fM ?_;cases c with
 | true=>exact hb oC s1 σ H1 Q I1 q1
 | false=>exact⟨.bl false,H1,I1,rfl,q1⟩
theorem zpH (ha:PE X a ta):PE X (.UnaryOp .Not a pos) (zqJ ta):=by
 intro oC s σ H Q I h;refine UnaryOp_ (thn #[NE] fun v s1 ⟨x,H1,I1,r1,q1⟩=>?_);obtain⟨c,rfl,q1⟩:=q1;cases r1;exact not_of (fM ⟨.bl (!c),H1,I1,rfl,q1⟩)
noncomputable def tIf (t:TT) (ta tb:TE):TE:=fun σ H Q=>t σ H fun c H1=>if c=true then ta σ H1 Q else tb σ H1 Q
theorem zhF {c:Expr} (hc:PT X c tA) (ha:PE X a ta) (hb:PE X b tb):PE X (.IfExp c a b pos) (tIf tA ta tb):=by
 intro oC s σ H Q I h;refine wpAny_IfExp (thn (hc oC s σ H _ I h) fun d s1 ⟨H1,I1,q1⟩=>?_);cases d with
 | true=>exact ha oC s1 σ H1 Q I1 q1
 | false=>exact hb oC s1 σ H1 Q I1 q1
end
noncomputable def oE (K:aD) (H:Hp) (a:Addr) (xs:List V):Prop :=
 Rd H a #[Ry] \/
  ∃ (o:Obj) (oF:Array Value) (n:Nat),K.lookup a=some o/\o.cls = .type "list"/\o.dict=none/\o.data = .seq oF n/\oF.size<=sizeLine/\zQ xs oF.toList
noncomputable def oQ (K:aD) (H:Hp) (a:Addr) (xs:List V):Prop :=
 Rd H a #[SO] \/
  ∃ (o:Obj) (oF:Array Value) (n:Nat),K.lookup a=some o/\o.cls = .type "tuple"/\o.data = .seq oF n/\oF.size<=sizeLine/\zQ xs oF.toList
noncomputable def zrq:Value->Option V
 | .none=>some .non
 | .bool b=>some (.bl b)
 | .int i _=>some (.int i)
 | .str x _=>some (.str x)
 | .bytes b _=>some (.byt b)
 | .float b _=>some (.flt b)
 | .ref a=>some #[QD]
 | .type n=>some (.ty n)
 | _=>none
theorem RelV.abs {x:V} {u:Value} (r:RelV x u):zrq u=some x:=by
 cases x with
 | non=>cases r; rfl
 | bl _=>cases r; rfl
 | int _=>obtain⟨t,rfl⟩:=r; rfl
 | str _=>obtain⟨t,rfl⟩:=r; rfl
 | byt _=>obtain⟨t,rfl⟩:=r; rfl
 | flt _=>obtain⟨t,rfl⟩:=r; rfl
 | ref _=>cases r; rfl
 | ty _=>cases r; rfl
theorem RelV.inj {x:V} {u:Value} (r:RelV x u) (q:RelV y u):x=y:=bI (r.abs.symm.trans q.abs)
theorem zQ.inj:∀ {xs ys:List V} {us:TH},zQ xs us->zQ ys us->xs=ys
 | _,_,_,.nil,.nil=>rfl
 | _,_,_,.cons r t,.cons r' t'=>by rw [r.inj r',zQ.inj t t']
section
variable {X:Cx} {oC:TC} {σ:St} {H:Hp} {s:Shared} {a:Addr} {xs ys:List V}
theorem oE.of {K:aD} (h:H a=some #[Ry]):oE K H a xs:=.inl (.inl h)
theorem oQ.of {K:aD} (h:H a=some #[SO]):oQ K H a xs:=.inl (.inl h)
theorem Inv.list (I:Inv X oC σ H s) (h:oE X.K H a xs):∃ oF:List Value,zQ xs oF/\PlainL s.heap a oF.toArray/\xs.length<=sizeLine:=by
 rcases h with h | ⟨o,oF,n,hk,hc,hd,hs,hz,r⟩
 ·obtain⟨z,oF,n,r,e⟩:=h.ok I.hok;exact⟨oF,r,⟨_,n,e,rfl,rfl,rfl⟩,z⟩
 ·refine⟨oF.toList,r,⟨o,n,I.kIn a o hk,hc,hd,by simpa using hs⟩,?_⟩;have e:=r.length;simp only [cL] at e;lia
theorem Inv.tuple (I:Inv X oC σ H s) (h:oQ X.K H a xs):∃ oF:List Value,zQ xs oF/\IsTup s.heap a oF.toArray/\xs.length<=sizeLine:=by
 rcases h with h | ⟨o,oF,n,hk,hc,hs,hz,r⟩
 ·obtain⟨z,oF,r,p⟩:=h.ok I.hok;exact⟨oF,r,p,z⟩
 ·refine⟨oF.toList,r,⟨o,I.kIn a o hk,hc,n,by simpa using hs⟩,?_⟩;have e:=r.length;simp only [cL] at e;lia
theorem Inv.Mh (I:Inv X oC σ H s) (h:oE X.K H a xs) (h':oE X.K H a ys):xs=ys:=by
 obtain⟨oF,r,⟨o,n,e,_,_,d⟩,_⟩:=I.list h;obtain⟨its',r',⟨o',n',e',_,_,d'⟩,_⟩:=I.list h';rw [e] at e'; cases e';rw [d] at d';injection d' with d1 _
 have:oF=its':=by simpa using congrArg oj d1
 subst this;exact r.inj r'
theorem Inv.Mv (I:Inv X oC σ H s) (h:oQ X.K H a xs) (h':oQ X.K H a ys):xs=ys:=by
 obtain⟨oF,r,⟨o,e,_,n,d⟩,_⟩:=I.tuple h;obtain⟨its',r',⟨o',e',_,n',d'⟩,_⟩:=I.tuple h';rw [e] at e'; cases e';rw [d] at d';injection d' with d1 _
 have:oF=its':=by simpa using congrArg oj d1
 subst this;exact r.inj r'
end
abbrev Cx.Of (X:Cx) (E:TB):Cx:={ X with xe:=E }
abbrev Cx.nox (X:Cx):Cx:=X.Of fun _ _=>False
theorem Cx.Ok.Of (ok:X.Ok) (E:TB):(X.Of E).Ok :=
 ⟨ok.mod,ok.kind,ok.glob,ok.blt,ok.above,ok.inj,ok.has,ok.cab,ok.hd,ok.frames,ok.stk,ok.exf,ok.bs,ok.bsz,ok.Po,ok.Pu,ok.Oh,ok.frf⟩
theorem Cx.Ok.LB {E:TB} (ok:(X.Of E).Ok):X.Ok :=
 ⟨ok.mod,ok.kind,ok.glob,ok.blt,ok.above,ok.inj,ok.has,ok.cab,ok.hd,ok.frames,ok.stk,ok.exf,ok.bs,ok.bsz,ok.Po,ok.Pu,ok.Oh,ok.frf⟩
section
variable {X:Cx} {oC:TC} {σ:St} {H:Hp} {s:Shared} {E:TB}
theorem Inv.Of (I:Inv X oC σ H s) (E:TB):Inv (X.Of E) oC σ H s:=⟨I.ok.Of E,I.os,I.bare,I.base,I.loc,I.cell,I.free,I.L3,I.pin,I.hok,I.len⟩
theorem Inv.LB (I:Inv (X.Of E) oC σ H s):Inv X oC σ H s:=⟨I.ok.LB,I.os,I.bare,I.base,I.loc,I.cell,I.free,I.L3,I.pin,I.hok,I.len⟩
theorem SP.LB {D:Ends} {f:Flow} (h:SP (X.Of E) oC D f s'):SP X oC D f s':=by
 cases f with
 | next=>obtain⟨σ',H',I,q⟩:=h; exact⟨σ',H',I.LB,q⟩
 | brk=>obtain⟨σ',H',I,q⟩:=h; exact⟨σ',H',I.LB,q⟩
 | cont=>obtain⟨σ',H',I,q⟩:=h; exact⟨σ',H',I.LB,q⟩
 | ret u=>obtain⟨v,σ',H',I,r,q⟩:=h; exact⟨v,σ',H',I.LB,r,q⟩
theorem PSs.nox {st:List Stmt} {t:TS} (h:PSs X.nox st t):PSs X st t:=fun oC s σ H D I hw =>
 dA (h oC s σ H D (I.Of _) hw) (fun _ _ q=>q.LB) fun _ _ z=>dU z
end
section
variable {X:Cx} {st:Stmt} {rest:List Stmt} {t u:TS} {e:Expr} {te:TE} {pos:Pos}
noncomputable def zqK:TS:=fun D σ H=>D.nx σ H
noncomputable def zaV (t u:TS):TS:=fun D σ H=>t { D with nx:=u D } σ H
theorem zal:PSs X [] zqK:=fun _ _ σ H _ I h=>gb ⟨σ,H,I,h⟩
theorem zd (h1:PS X st t) (h2:PSs X rest u):PSs X (st :: rest) (zaV t u):=by
 intro oC s σ H D I h;refine j5 (thn (h1 oC s σ H { D with nx:=u D } I h) fun f s1 q=>?_);cases f with
 | next =>
  obtain⟨σ',H',I',q⟩:=q;exact h2 oC s1 σ' H' D I' q
 | ret v=>exact q
 | brk=>exact q
 | cont=>exact q
theorem zk (h1:PS X st t):PSs X [st] t:=by
 intro oC s σ H D I h;refine j5 (thn (h1 oC s σ H D I h) fun f s1 q=>?_);cases f with
 | next=>exact gb q
 | ret v=>exact q
 | brk=>exact q
 | cont=>exact q
noncomputable def zpI:TS:=fun D σ H=>D.bk σ H
theorem zlW:PS X (.Break pos) zpI:=fun _ _ σ H _ I h=>wpAny_Break ⟨σ,H,I,h⟩
theorem Inv.quiet {σ:St} (I:Inv X oC σ H s):interactive X.env=false:=by simp [interactive,I.ok.kind]
noncomputable def zqL (te:TE):TS:=fun D σ H=>te σ H fun _ H1=>D.nx σ H1
theorem zbH (he:PE X e te) (hs:swapsWith e none pos.line X.env=pure false:=by rfl):PS X (.Expr e pos) (zqL te):=by
 intro oC s σ H D I h;exact wpAny_Expr_any (thn #[QP] fun v s1 ⟨x,H1,I1,r1,q1⟩=>⟨σ,H1,I1,q1⟩) I.quiet hs
noncomputable def zrr (te:TE):TS:=fun D σ H=>te σ H D.rt
theorem zA (he:PE X e te):PS X (.Return (some e) pos) (zrr te):=by
 intro oC s σ H D I h;exact wpAny_Return_some (thn #[QP] fun v s1 ⟨x,H1,I1,r1,q1⟩=>⟨x,σ,H1,I1,r1,q1⟩)
noncomputable def zrs (c:TT) (t u:TS):TS:=fun D σ H=>c σ H fun b H1=>if b=true then t D σ H1 else u D σ H1
theorem zaX {c:Expr} {a b:List Stmt} {tc:TT} (hc:PT X c tc) (ha:PSs X a t) (hb:PSs X b u):PS X (.If c a b pos) (zrs tc t u):=by
 intro oC s σ H D I h;refine wpAny_If (thn (hc oC s σ H _ I h) fun d s1 ⟨H1,I1,q1⟩=>?_);cases d with
 | true=>exact ha oC s1 σ H1 D I1 q1
 | false=>exact hb oC s1 σ H1 D I1 q1
end
abbrev TG:=V->St->Hp->(St->Hp->Prop)->Prop
abbrev TGs:=List V->St->Hp->(St->Hp->Prop)->Prop
noncomputable def PG (X:Cx) (target:Expr) (t:TG):Prop :=
 ∀ (oC:TC) (s:Shared) (σ:St) (H:Hp) (v:V) (u:Value) (Q:St->Hp->Prop),Inv X oC σ H s->RelV v u->t v σ H Q ->
  wpAny #[or] X.A (assign target X.env u) (fun _ s'=>∃ σ' H',Inv X oC σ' H' s'/\Q σ' H') X.xe s
noncomputable def PGs (X:Cx) (ts:List Expr) (t:TGs):Prop :=
 ∀ (oC:TC) (s:Shared) (σ:St) (H:Hp) (vs:List V) (us:TH) (Q:St->Hp->Prop),Inv X oC σ H s->zQ vs us->t vs σ H Q ->
  wpAny #[or] X.A (assignInOrder ((assignEach ts X.env).map (·.2)) us) (fun _ s'=>∃ σ' H',Inv X oC σ' H' s'/\Q σ' H') X.xe s
abbrev zpJ:=V->V->V->Hp->(Hp->Prop)->Prop
noncomputable def zqM (X:Cx) (t:zpJ):Prop :=
 ∀ (oC:TC) (s:Shared) (σ:St) (H:Hp) (o i v:V) (ov iv u:Value) (Q:Hp->Prop),Inv X oC σ H s->RelV o ov->RelV i iv->RelV v u->t o i v H Q ->
  wpAny #[or] X.A (setItem ov iv u) (fun _ s'=>∃ H',Inv X oC σ H' s'/\Q H') X.xe s
abbrev TIp:=V->V->Hp->VK->Prop
noncomputable def PIp (X:Cx) (op:Operator) (t:TIp):Prop :=
 ∀ (oC:TC) (s:Shared) (σ:St) (H:Hp) (x y:V) (v u:Value) (Q:VK),Inv X oC σ H s->RelV x v->RelV y u->t x y H Q ->
  wpAny #[or] X.A (inplaceOp op v u) #[Qp] X.xe s
section
variable {X:Cx} {pos:Pos}
noncomputable def zbc (i:Nat):TG:=fun v σ H Q=>Q (σ.set i #[UF]) H
theorem zf {i:Nat} {x:Str} (hN:X.N.Nodup) (hi:X.N[i]? = some x) (hx:Loc X.env.scope x) (hf:X.fn x=true\/X.env.scope.names.lookup x=some .local:=by first | exact .inl rfl | exact .inr rfl | assumption):PG X #[S4] (zbc i):=by
 intro oC s σ H v u Q I r h;exact wpAny_assign_Name (zco I hN hi hx r (fun s' I'=>⟨_,H,I',h⟩) hf)
noncomputable def zlX:TGs:=fun vs σ H Q=>vs = []/\Q σ H
noncomputable def zet (t:TG) (u:TGs):TGs:=fun vs σ H Q=>∃ v r,vs=v :: r/\t v σ H fun σ' H'=>u r σ' H' Q
theorem zI:PGs X [] zlX:=by
 intro oC s σ H vs us Q I r h;obtain⟨e,h⟩:=h;subst e;cases r;exact assignInOrder_nil ⟨σ,H,I,h⟩
theorem zj {e:Expr} {es:List Expr} {t:TG} {u:TGs} (h1:PG X e t) (h2:PGs X es u)
  (hs:(assignEach (e :: es) X.env).map (·.2)=assign e X.env :: #[RJ].map (·.2):=by rfl):PGs X (e :: es) (zet t u):=by
 intro oC s σ H vs us Q I r h;obtain⟨v,vr,e1,h⟩:=h;subst e1;cases r with
 | cons r rr =>
  rw [hs];refine assignInOrder_cons (thn (h1 oC s σ H _ _ _ I r h) fun _ s1 ⟨σ1,H1,I1,q1⟩=>?_);exact h2 oC s1 σ1 H1 _ _ Q I1 rr q1
noncomputable def zkH (K:aD) (n:Nat) (t:TGs):TG:=fun v σ H Q=>∃ a xs,v = .ref a/\oQ K H a xs/\xs.length=n/\t xs σ H Q
theorem zaI {es:List Expr} {k:Nat} {t:TGs} {n:Nat} (hc:X.calm=true) (h:PGs X es t)
  (hn:#[RJ].length=n:=by rfl) (tF:#[RJ].findIdx? (·.1)=none:=by rfl):PG X #[RX] (zkH X.K n t):=by
 intro oC s σ H v u Q I r hw;obtain⟨a,xs,e1,hq,hl,hw⟩:=hw;subst e1;cases r;obtain⟨oF,rv,ht,hz⟩:=I.tuple hq;refine assign_Tuple_tuple #[QO] ht (by simp [hn,<- hl,rv.length]) tF fun h' hx=>?_
 have I1:Inv X oC σ H { s with heap:=h' }:=I.kept (t':=s.toks) fun b o e=>hx b o (bU (aX e)) e
 exact h oC _ σ H xs _ Q I1 #[U,rv] hw
noncomputable def zrt (to ti:TE) (t:zpJ):TG:=fun v σ H Q=>to σ H fun o H1=>ti σ H1 fun i H2=>t o i v H2 fun H3=>Q σ H3
theorem zeg {o i:Expr} {to ti:TE} {t:zpJ} (ho:PE X o to) (hi:PE X i ti) (hs:zqM X t)
  (ha:∀ v,assign #[US] X.env v=(do
   let ov <- holding [v] #[Ub]
   let iv <- holding [v,ov] (eval i X.env)
   standAt pos
   holding [v,ov,iv] (setItem ov iv v)
   release [v,ov,iv] []):=by intro _; rfl):PG X #[US] (zrt to ti t):=by
 intro oC s σ H v u Q I r h;rw [ha];refine aB (dj (thn #[RT] fun ov s1 ⟨x,H1,I1,r1,q1⟩=>?_));refine aB (dj (thn (hi oC s1 σ H1 _ I1 q1) fun iv s2 ⟨y,H2,I2,r2,q2⟩=>?_));refine aB (hU (aB (dj (thn (hs oC s2 σ H2 x y v ov iv u _ I2 r1 r2 r q2) fun _ s3 ⟨H3,I3,q3⟩=>?_))));exact wpAny_release ⟨σ,H3,I3,q3⟩
noncomputable def zfV (te:TE) (g:TG):TS:=fun D σ H=>te σ H fun x H1=>g x σ H1 D.nx
theorem zaY {tg e:Expr} {te:TE} {g:TG} (he:PE X e te) (hg:PG X tg g) (hs:swapsWithSole [tg] e pos.line X.env=pure false:=by rfl) (hw:swappedStores [tg] e X.env=pure none:=by rfl)
  (h1:(assignEach [tg] X.env).map (·.2) = [assign tg X.env]:=by rfl):PS X (.Assign [tg] e pos) (zfV te g):=by
 intro oC s σ H D I h;refine wpAny_Assign_stores (thn #[QP] fun v s1 ⟨x,H1,I1,r1,q1⟩=>?_) hs hw;rw [h1];exact thn (hg oC s1 σ H1 x v _ I1 r1 q1) fun _ s2 q=>q
theorem zl {i:Nat} {x:Str} {e:Expr} {te:TE} {pos':Pos} (hN:X.N.Nodup) (hi:X.N[i]? = some x) (hx:Loc X.env.scope x) (he:PE X e te) (hs:swapsWith e #[V1] pos.line X.env=pure false:=by rfl) (hf:X.fn x=true\/X.env.scope.names.lookup x=some .local:=by first | exact .inl rfl | exact .inr rfl | assumption) :
  PS X (.Assign [.Name x pos'] e pos) (zfV te (zbc i)):=by
 intro oC s σ H D I h;refine wpAny_Assign_Name (thn #[QP] fun v s1 ⟨y,H1,I1,r1,q1⟩=>?_) hs;exact zco I1 hN hi hx r1 (fun s2 I2=>⟨_,H1,I2,q1⟩) hf
noncomputable def zru (i:Nat) (te:TE) (ti:TIp):TS:=fun D σ H=>∃ x,σ[i]? = some (some x)/\te σ H fun y H1=>ti x y H1 fun z H2=>D.nx (σ.set i (some z)) H2
theorem ziR {i:Nat} {x:Str} {e:Expr} {te:TE} {op:Operator} {ti:TIp} {pos':Pos} (hN:X.N.Nodup) (hi:X.N[i]? = some x) (hx:Loc X.env.scope x) (he:PE X e te) (ho:PIp X op ti) (hf:X.fn x=true\/X.env.scope.names.lookup x=some .local:=by first | exact .inl rfl | exact .inr rfl | assumption) :
  PS X (.AugAssign #[Rg] op e pos) (zru i te ti):=by
 intro oC s σ H D I h;obtain⟨v,e1,h⟩:=h;obtain⟨m,hn,hl⟩:=I.loc;have vis:Vis X.env.scope x:=by rcases hx with k | k; exact .inl k; exact .inr (.inl k)
 obtain⟨u,r,l⟩:=hl i x v hi e1 vis;refine wpAny_AugAssign_Name ?_;have go:wpAny #[or] X.A #[VD] (fun w s₂=>wpAny #[or] X.A (inplaceOp op u w) (fun r s₃=>wpAny #[or] X.A (storeName X.env x r) (fun _=>SP X oC D .next) X.xe s₃) X.xe s₂) X.xe s:=by
  refine thn #[QP] fun w s1 ⟨y,H1,I1,r1,q1⟩=>?_
  refine thn (ho oC s1 σ H1 v y u w _ I1 r r1 q1) fun z s2 ⟨zv,H2,I2,r2,q2⟩=>?_
  exact zco I2 hN hi hx r2 (fun s3 I3=>⟨_,H2,I3,q2⟩) hf
 rcases l with ⟨hk,hm⟩ | ⟨hk,c,hc,rC⟩
 ·exact jb I.ok.kind hk hn hm go
 ·rcases hk with hk | hk
  ·exact lT I.ok.kind hk hc rC go
  ·rcases hx with k | k
   ·have:X.env.scope.names.lookup x=some .free:=hk;rw [k] at this; cases this
   ·have:X.env.scope.names.lookup x=some .free:=hk;rw [k] at this; cases this
noncomputable def zlY (c:TT) (tb:TS):TS:=fun D σ H=>∃ W:Nat->St->Hp->Prop,(∃ m,W m σ H)/\∀ m σ H,W m σ H ->
 c σ H fun b H1=>if b=true then ∃ N:St->Hp->Prop,(∀ σ' H',N σ' H'->∃ m',m' < m/\W m' σ' H')/\tb { D with nx:=N,ct:=N,bk:=D.nx } σ H1 else D.nx σ H1
theorem zdF {c:Expr} {body:List Stmt} {tc:TT} {tb:TS} (hp:PassesOwn #[or] X.A X.env X.xe) (hc:PT X c tc) (hb:PSs X body tb):PS X (.While c body [] pos) (zlY tc tb):=by
 intro oC s σ H D I h;obtain⟨W,⟨m0,w0⟩,turn⟩:=h;refine wpAny_While (codeAny_whileLoop (fun n s'=>∃ σ' H',Inv X oC σ' H' s'/\W n σ' H') ?_ m0 ⟨σ,H,I,w0⟩);rintro n s1 ⟨σ1,H1,I1,w1⟩;refine gc hp (thn (hc oC s1 σ1 H1 _ I1 (turn n σ1 H1 w1)) fun b s2 ⟨H2,I2,q2⟩=>?_);cases b with
 | true =>
  obtain⟨N,hN,q2⟩:=q2;rw [if_pos rfl];refine gc hp (thn (hb oC s2 σ1 H2 _ I2 q2) fun f s3 q3=>?_);cases f with
  | next =>
   obtain⟨σ3,H3,I3,n3⟩:=q3;obtain⟨m',hm,w3⟩:=hN σ3 H3 n3;exact⟨m',hm,σ3,H3,I3,w3⟩
  | cont =>
   obtain⟨σ3,H3,I3,n3⟩:=q3;obtain⟨m',hm,w3⟩:=hN σ3 H3 n3;exact⟨m',hm,σ3,H3,I3,w3⟩
  | brk=>exact q3
  | ret v=>exact q3
 | false =>
  rw [if_neg bH];exact gb ⟨σ1,H2,I2,q2⟩
end
structure It where
 go:Nat->Hp->Prop
 yld:Nat->Hp->V->Hp->Prop
 stop:Nat->Hp->Prop
noncomputable def zcg (X:Cx) (oC:TC) (H:Hp) (b:Addr):Prop :=
 H b=none/\b≠X.env.locals/\b∉X.fs/\(b∈X.ex\/X.s₀.heap.objs.size<=b)/\(∀ x c,X.env.cells.lookup x=some c->c≠b)/\∀ p∈X.pn++oC,p.1≠b
theorem Inv.Oi {σ:St} {b:Addr} (I:Inv X oC σ H s) (hb:s.heap.objs.size<=b) (hn:H' b=none):zcg X oC H' b:=by
 refine⟨hn,ip (bQ I.lt hb),I.Qe hb,.inr (cC I.sz hb),fun x c e z=>?_,fun p hp z=>?_⟩
 ·obtain⟨v,q⟩:=I.cell x c e;exact absurd (bQ q.lt (by rw [z]; exact hb)) (dF _)
 ·exact absurd (bQ (aX (I.pin p hp).1) (by rw [z]; exact hb)) (dF _)
structure Turn (P:Program) (w:World) (K:aD) (tg:Expr) (J:It) (fp:TF) (it:Addr) (tn:Nat->Heap->Prop):Prop where
 mem:it∈fp
 obj:∀ i h,tn i h->∀ b∈fp,∃ o,h.get? b=some o/\∀ v,o.data≠.cell v
 keep:∀ i h h',tn i h->(∀ b∈fp,∀ o,h.get? b=some o->h'.get? b=some o)->tn i h'
 item:∀ (X:Cx),X.prog=P->X.w=w->X.K=K->X.calm=true->∀ (i:Nat) (oC:TC) (s:Shared) (σ:St) (H:Hp) (E:TB),Inv X oC σ H s->(∀ b∈fp,zcg X oC H b)->tn i s.heap->J.go i H ->
  wpAny #[SR] X.A #[Tt] (fun r s1=>∃ u,r=some u /\
   wpAny #[SR] X.A #[W8] (fun _ s2=>∃ x H',Inv X oC σ H' s2/\RelV x u/\J.yld i H x H'/\tn (i+1) s2.heap/\∀ b∈fp,H' b=none) E s1) E s
 done:∀ (X:Cx),X.prog=P->X.w=w->X.K=K->X.calm=true->∀ (i:Nat) (oC:TC) (s:Shared) (σ:St) (H:Hp) (E:TB),Inv X oC σ H s->(∀ b∈fp,zcg X oC H b)->tn i s.heap->J.stop i H ->
  wpAny #[SR] X.A #[Tt] (fun r s1=>r=none/\Inv X oC σ H s1) E s
 self:∀ (A:Around) (i:Nat) (s:Shared) (Q:TB) (E:TB),tn i s.heap->Q #[Q8] s->wpAny #[SR] A (pyIter #[Q8]) Q E s
abbrev TI:=St->Hp->(It->Hp->Prop)->Prop
noncomputable def PIE (X:Cx) (oC:TC) (σ:St) (tg:Expr) (R:It->Hp->Prop) (Cj:Value) (s2:Shared):Prop :=
 ∃ (it:Addr) (fp:TF) (tn:Nat->Heap->Prop) (J:It) (H':Hp),Cj = .ref it/\Inv X oC σ H' s2/\Turn X.prog X.w X.K tg J fp it tn/\tn 0 s2.heap/\(∀ b∈fp,zcg X oC H' b)/\R J H'
noncomputable def PI (X:Cx) (tg iter:Expr) (wi:TI):Prop :=
 ∀ (oC:TC) (s:Shared) (σ:St) (H:Hp) (R:It->Hp->Prop),Inv X oC σ H s->wi σ H R ->
  wpAny #[or] X.A (eval iter X.env) (fun v s1=>wpAny #[or] X.A (pyIter v) (PIE X oC σ tg R) X.xe s1) X.xe s
theorem zgb {E:TB} {u:Value} {o:Obj} {n:String} {vs:Array Value} {Q:Unit->Shared->Prop} (ho:s.heap.get? it=some o) (hc:o.cls = .type n) (hd:o.data = .fields vs)
  (hn:["enumerate","zip","dict_itemiterator","dict_reverseitemiterator","odict_iterator","itertools.zip_longest","itertools.pairwise"].contains n=false) (hQ:Q () s):wpAny M A #[W8] Q E s:=by
 unfold letOwnedTupleGo;cases tg <;> first
  | exact aL hQ
  | (cases u <;> first
    | exact aL hQ
    | (refine aB (wpAny_load ho ?_)
       rw [hc,hd];show wpAny M A (if (["enumerate","zip","dict_itemiterator","dict_reverseitemiterator","odict_iterator","itertools.zip_longest","itertools.pairwise"].contains n && vs[0]? == some (rawInt _))=true then _ else _) Q E s;rw [if_neg (by intro h; rw [hn,Bool.false_and] at h; cases h)];exact aL hQ))
noncomputable def Itl (K:aD) (a:Addr):It :=
 ⟨fun i H=>∃ xs x,oE K H a xs/\xs[i]? = some x,fun i H x H'=>H'=H/\∀ xs,oE K H a xs->xs[i]? = some x,fun i H=>∃ xs,oE K H a xs/\xs.length<=i⟩
noncomputable def Itt (K:aD) (a:Addr):It :=
 ⟨fun i H=>∃ xs x,oQ K H a xs/\xs[i]? = some x,fun i H x H'=>H'=H/\∀ xs,oQ K H a xs->xs[i]? = some x,fun i H=>∃ xs,oQ K H a xs/\xs.length<=i⟩
noncomputable def Itr (lo:Int) (n:Nat):It:=⟨fun i _=>i < n,fun i H x H'=>H'=H/\x = .int (lo+i),fun i _=>n<=i⟩
theorem zgc {K:aD} (a it:Addr):Turn P w K tg #[Wo] [it] it (fun i h=>h.IsListIter it a i) where
 mem:=by simp
 obj:=fun i h st b hb=>by
  have e:b=it:=by simpa using hb
  subst e;obtain⟨o,e,c,d⟩:=st;exact⟨o,e,fun v z=>by rw [d] at z; cases z⟩
 keep:=fun i h h' st k=>st.at fun o e=>k it #[M] o e
 item:=by
  intro X hP hw hK hc i oC s σ H E I hf st hg;subst hP hw hK;obtain⟨xs,x,hq,hx⟩:=hg;obtain⟨oF,rv,p,hz⟩:=I.list hq;obtain⟨u,hu,ru⟩:=rv.get hx;obtain⟨f0,f1,f2,f3,f4,f5⟩:=hf it #[M];refine wpAny_pyNext_list_item st p.isList (x:=u) #[U,hu] fun h' oI sb=>?_
  have I1:Inv X oC σ H { s with heap:=h' }:=I.turned (t':=s.toks) (fun b o hb e=>(sb.2 b hb).trans e) f0 f1 f3 f4 f5;obtain⟨o,e,c,d⟩:=id oI;exact⟨u,rfl,zgb (s:={ s with heap:=h' }) e c d #[D] ⟨x,H,I1,ru,⟨rfl,fun ys hy=>by rw [I.Mh hy hq]; exact hx⟩,oI,fun b hb=>#[Vw].1⟩⟩
 done:=by
  intro X hP hw hK hc i oC s σ H E I hf st hg;subst hP hw hK;obtain⟨xs,hq,hx⟩:=hg;obtain⟨oF,rv,p,hz⟩:=I.list hq;obtain⟨f0,f1,f2,f3,f4,f5⟩:=hf it #[M];have hl:=rv.length;exact wpAny_pyNext_list_end #[QO] st p.isList (by simp; lia) fun h' eb=>#[wn]
 self:=fun _ _ _ _ _ st h=>wpAny_pyIter_listiter st h
theorem zfh {K:aD} (a it:Addr):Turn P w K tg #[Wn] [it] it (fun i h=>h.IsTupleIter it a i) where
 mem:=by simp
 obj:=fun i h st b hb=>by
  have e:b=it:=by simpa using hb
  subst e;obtain⟨o,e,c,d⟩:=st;exact⟨o,e,fun v z=>by rw [d] at z; cases z⟩
 keep:=fun i h h' st k=>st.at fun o e=>k it #[M] o e
 item:=by
  intro X hP hw hK hc i oC s σ H E I hf st hg;subst hP hw hK;obtain⟨xs,x,hq,hx⟩:=hg;obtain⟨oF,rv,p,hz⟩:=I.tuple hq;obtain⟨u,hu,ru⟩:=rv.get hx;obtain⟨f0,f1,f2,f3,f4,f5⟩:=hf it #[M];refine wpAny_pyNext_tuple_item st (show s.heap.IsTuple a oF.toArray from p) (x:=u) #[U,hu] fun h' oI sb=>?_
  have I1:Inv X oC σ H { s with heap:=h' }:=I.turned (t':=s.toks) (fun b o hb e=>(sb.2 b hb).trans e) f0 f1 f3 f4 f5;obtain⟨o,e,c,d⟩:=id oI;exact⟨u,rfl,zgb (s:={ s with heap:=h' }) e c d #[D] ⟨x,H,I1,ru,⟨rfl,fun ys hy=>by rw [I.Mv hy hq]; exact hx⟩,oI,fun b hb=>#[Vw].1⟩⟩
 done:=by
  intro X hP hw hK hc i oC s σ H E I hf st hg;subst hP hw hK;obtain⟨xs,hq,hx⟩:=hg;obtain⟨oF,rv,p,hz⟩:=I.tuple hq;obtain⟨f0,f1,f2,f3,f4,f5⟩:=hf it #[M];have hl:=rv.length;exact wpAny_pyNext_tuple_end #[QO] st (show s.heap.IsTuple a oF.toArray from p) (by simp; lia) fun h' eb=>#[wn]
 self:=fun _ _ _ _ _ st h=>wpAny_pyIter_tupleiter st h
theorem ziS {K:aD} (it:Addr) (lo:Int) (n:Nat):Turn P w K tg (Itr lo n) [it] it (fun i h=>IsRangeIter h it (lo+(i:Nat)*1) ((n:Int) - (i:Nat)) 1) where
 mem:=by simp
 obj:=fun i h st b hb=>by
  have e:b=it:=by simpa using hb
  subst e;exact⟨_,st,fun v z=>by
   have z':mX _=Data.cell v:=z;cases z'⟩
 keep:=fun i h h' st k=>k it #[M] _ st
 item:=by
  intro X hP hw hK hc i oC s σ H E I hf st hg;subst hP hw hK;obtain⟨f0,f1,f2,f3,f4,f5⟩:=hf it #[M];have W:=Walks.range (prog:=X.prog) (w:=X.w) #[QO] it lo 1 n;refine W.item i s _ _ hg st fun v h' tk hv oI kk=>?_
  obtain⟨t,rfl⟩:=hv;have I1:Inv X oC σ H { s with heap:=h',toks:=tk }:=I.turned (fun b o hb e=>kk b o #[U,hb] e) f0 f1 f3 f4 f5;refine⟨_,rfl,zgb (s:={ s with heap:=h',toks:=tk }) (n:="range_iterator") oI rfl rfl #[D] ⟨.int (lo+i),H,I1,⟨t,?_⟩,⟨rfl,rfl⟩,oI,fun b hb=>#[Vw].1⟩⟩;rw [mY]
 done:=by
  intro X hP hw hK hc i oC s σ H E I hf st hg;subst hP hw hK;obtain⟨f0,f1,f2,f3,f4,f5⟩:=hf it #[M];exact wpAny_pyNext_range_end #[QO] st (by have:n<=i:=hg; lia) fun h' eb=>#[wn]
 self:=fun _ _ _ _ _ st h=>wpAny_pyIter_rangeiter st h
section
variable {X:Cx} {tg:Expr}
noncomputable def zpc (K:aD) (tl:TE):TI:=fun σ H R=>tl σ H fun x H1=>∃ a,x = .ref a/\(∃ xs,oE K H1 a xs)/\R #[Wo] H1
noncomputable def zrv (K:aD) (tl:TE):TI:=fun σ H R=>tl σ H fun x H1=>∃ a,x = .ref a/\(∃ xs,oQ K H1 a xs)/\R #[Wn] H1
theorem zai {l:Expr} {tl:TE} (hl:PE X l tl):PI X tg l (zpc X.K tl):=by
 intro oC s σ H R I h;refine thn #[S7] fun v s1 ⟨x,H1,I1,r1,q1⟩=>?_
 obtain⟨a,e,⟨xs,hq⟩,q⟩:=q1;subst e;cases r1;obtain⟨oF,rv,p,hz⟩:=I1.list hq;refine jS p.isList ?_;refine⟨s1.heap.objs.size,[s1.heap.objs.size],_,_,H1,rfl,I1.kept (t':=s1.toks) fun b o e=>aI _ e,zgc a _,⟨_,aZ _ rfl,rfl,rfl⟩,fun b hb=>?_,q⟩;have e:b=s1.heap.objs.size:=by simpa using hb
 subst e;exact I1.Oi (aG _) #[Qs]
theorem zgL {l:Expr} {tl:TE} (hl:PE X l tl):PI X tg l (zrv X.K tl):=by
 intro oC s σ H R I h;refine thn #[S7] fun v s1 ⟨x,H1,I1,r1,q1⟩=>?_
 obtain⟨a,e,⟨xs,hq⟩,q⟩:=q1;subst e;cases r1;obtain⟨oF,rv,p,hz⟩:=I1.tuple hq;refine gG (show s1.heap.IsTuple a oF.toArray from p) ?_;refine⟨s1.heap.objs.size,[s1.heap.objs.size],_,_,H1,rfl,I1.kept (t':=s1.toks) fun b o e=>aI _ e,zfh a _,⟨_,aZ _ rfl,rfl,rfl⟩,fun b hb=>?_,q⟩;have e:b=s1.heap.objs.size:=by simpa using hb
 subst e;exact I1.Oi (aG _) #[Qs]
theorem zhG {σ:St} {R:It->Hp->Prop} {E:TB} {lo hi:Int} {t u v:Tok} (I:Inv X oC σ H s) (h1:-(2 ^ 62)<=lo) (h2:lo < 2 ^ 62) (h3:-(2 ^ 62)<=hi) (h4:hi < 2 ^ 62)
  (q:R (Itr lo (hi - lo).toNat) H):wpAny #[or] X.A (pyIter #[At]) (PIE X oC σ tg R) E { s with heap:=s.heap.push { cls:=.type "range",data:=.fields #[PP] },toks:=tk }:=by
 refine wpAny_pyIter_range (IsRange.new ..) (small_one h1 h2 h3 h4) ?_;have I1:Inv X oC σ H { s with heap:=s.heap.push { cls:=.type "range",data:=.fields #[PP] },toks:=tk }:=I.kept fun b o e=>aI _ e
 refine⟨(s.heap.push { cls:=.type "range",data:=.fields #[PP] }).objs.size,[(s.heap.push { cls:=.type "range",data:=.fields #[PP] }).objs.size],_,_,H,rfl,
  I1.kept (t':=tk) fun b o e=>aI _ e,ziS _ lo (hi - lo).toNat,?_,fun b hb=>?_,q⟩
 ·have e1:lo+((0:Nat):Int)*1=lo:=by simp
  have e2:(((hi - lo).toNat:Nat):Int) - ((0:Nat):Int)=Builtin.Range.rangeSize lo hi 1:=by rw [rangeSize_one]; split <;> lia
  show IsRangeIter _ _ (lo+((0:Nat):Int)*1) ((((hi - lo).toNat:Nat):Int) - ((0:Nat):Int)) 1;rw [e1,e2];exact aZ _ rfl
 ·have e:b=(s.heap.push { cls:=.type "range",data:=.fields #[PP] }).objs.size:=by simpa using hb
  subst e;exact I1.Oi (aG _) #[Qs]
noncomputable def zqN (ta:TA):TI:=fun σ H R=>ta σ H fun vs H1=>∃ j:Int,vs = [.int j]/\-(2 ^ 62)<=j/\j < 2 ^ 62/\R (Itr 0 j.toNat) H1
noncomputable def zqO (ta:TA):TI:=fun σ H R=>ta σ H fun vs H1=>∃ i j:Int,vs = [.int i,.int j]/\(-(2 ^ 62)<=i/\i < 2 ^ 62/\-(2 ^ 62)<=j/\j < 2 ^ 62)/\R (Itr i (j - i).toNat) H1
theorem zO {a:Expr} {ta:TA} {p pos:Pos} (hg:Gl X "range") (hm:X.mg "range" = none) (ha:PA X [a] ta) (hs:starEach [a] X.env = [#[Os]]:=by rfl):PI X tg (.Call (.Name "range" p) [a] [] pos) (zqN ta):=by
 intro oC s σ H R I h;refine Call_ (zbr I hg hm nH (cR (thn #[Ch] fun us s1 ⟨vs,H1,I1,r1,q1⟩=>?_) hs rfl));obtain⟨j,e,q1,q2,q⟩:=q1;subst e;cases r1 with
 | cons r rr =>
  cases rr;obtain⟨t,rfl⟩:=r;exact call_range_1 (zhG I1 #[O] #[O] q1 q2 #[U,q])
theorem zda {a b:Expr} {ta:TA} {p pos:Pos} (hg:Gl X "range") (hm:X.mg "range" = none) (ha:PA X [a,b] ta) (hs:starEach [a,b] X.env = [#[Os],#[GM]]:=by rfl) (qU:starEach [b] X.env = [#[GM]]:=by rfl) :
  PI X tg (.Call (.Name "range" p) [a,b] [] pos) (zqO ta):=by
 intro oC s σ H R I h;refine Call_ (zbr I hg hm nH (cR (thn #[Ch] fun us s1 ⟨vs,H1,I1,r1,q1⟩=>?_) (by rw [hs,qU]) (by rw [qU]; rfl)));obtain⟨i,j,e,⟨q1,q2,q3,q4⟩,q⟩:=q1;subst e;cases r1 with
 | cons r rr =>
  cases rr with
  | cons r' rr =>
   cases rr;obtain⟨t,rfl⟩:=r;obtain⟨t',rfl⟩:=r';exact call_range_2 (zhG I1 q1 q2 q3 q4 q)
noncomputable def zrw (wi:TI) (g:TG) (tb:TS):TS:=fun D σ H=>wi σ H fun J H1=>∃ W:Nat->Nat->St->Hp->Prop,(∃ m,W 0 m σ H1)/\∀ i m σ H,W i m σ H ->
 (J.stop i H/\D.nx σ H)\/(J.go i H/\∃ N:St->Hp->Prop,(∀ σ' H',N σ' H'->∃ m',m' < m/\W (i+1) m' σ' H')/\∀ x H',J.yld i H x H'->g x σ H' fun σ2 H2=>tb { D with nx:=N,ct:=N,bk:=D.nx } σ2 H2)
noncomputable def zcU (fp:TF) (h:Heap):List (Addr×Obj):=fp.filterMap fun b=>(h.get? b).map fun o=>(b,o)
theorem zcC {b:Addr} {o:Obj} (hb:b∈fp) (e:h.get? b=some o):(b,o)∈zcU fp h:=jD.mpr ⟨b,hb,by rw [e]; rfl⟩
theorem zgd {p:Addr×Obj} (hp:p∈zcU fp h):p.1∈fp/\h.get? p.1=some p.2:=by
 obtain⟨b,hb,e⟩:=jD.mp hp;cases q:h.get? b with
 | none=>rw [q] at e; cases e
 | some o =>
  rw [q] at e;have e':(b,o)=p:=bI e;subst e';exact⟨hb,q⟩
theorem Inv.pinned {σ:St} (I:Inv X oC σ H s) (hf:∀ b∈fp,zcg X oC H b) (ho:∀ b∈fp,∃ o,s.heap.get? b=some o/\∀ v,o.data≠.cell v):Inv X (oC++zcU fp s.heap) σ H s :=
 I.Nz fun p hp=>(bZ.mp hp).elim (fun z=>I.pin p (bG _ z)) fun z=>by
  obtain⟨hb,e⟩:=zgd z;obtain⟨f0,f1,f2,_⟩:=hf p.1 hb;obtain⟨o,e',d⟩:=ho p.1 hb;rw [e] at e'; cases e';exact⟨e,f0,f1,f2,d⟩
theorem Inv.Nv {pl:TC} {σ:St} (I:Inv X (oC++pl) σ H s):Inv X oC σ H s:=I.Nz fun p hp=>I.pin p (bG _ (bM _ hp))
theorem zao {iter:Expr} {body:List Stmt} {wi:TI} {g:TG} {tb:TS} {pos:Pos} (hp:PassesOwn #[or] X.A X.env X.xe) (hc:X.calm=true) (hi:PI X tg iter wi) (hg:PG X tg g) (hb:PSs X body tb)
  (hs:∀ x,foldedSetIterable iter X.env x=pure x:=by intro _; rfl):PS X (.For tg iter body [] pos) (zrw wi g tb):=by
 intro oC s σ H D I h;refine wpAny_For (thn #[UM] fun v s1 h1=>thn h1 fun Cj s2 h2=>?_) hs;obtain⟨it,fp,tn,J,H2,e,I2,T,pD,f2,W,⟨m0,w0⟩,turn⟩:=h2;subst e;have Ck:∀ {H':Hp},(∀ b∈fp,H' b=none)->∀ b∈fp,zcg X oC H' b:=fun hn b hb=>⟨hn b hb,(f2 b hb).2⟩
 refine codeAny_forLoop_any (fun n s'=>∃ i σ' H',Inv X oC σ' H' s'/\tn i s'.heap/\(∀ b∈fp,H' b=none)/\W i n σ' H') ?_ m0 ⟨0,σ,H2,I2,pD,fun b hb=>(f2 b hb).1,w0⟩;rintro n s3 ⟨i,σ3,H3,I3,xV,fr3,w3⟩;rcases turn i n σ3 H3 w3 with ⟨stop,qn⟩ | ⟨go,N,hN,step⟩
 ·refine gc hp (thn (T.done X rfl rfl rfl hc i oC s3 σ3 H3 X.xe I3 (Ck fr3) xV stop) fun r s4 ⟨hr,I4⟩=>?_);subst hr;exact gb ⟨σ3,H3,I4,qn⟩
 ·refine gc hp (thn (T.item X rfl rfl rfl hc i oC s3 σ3 H3 X.xe I3 (Ck fr3) xV go) fun r s4 ⟨u,hr,h4⟩=>?_);subst hr;refine gc hp (thn h4 fun _ s5 ⟨x,H5,I5,r5,y5,DS,fr5⟩=>?_);have I5':=I5.pinned (Ck fr5) (T.obj _ _ DS);refine gc hp (thn (hg _ s5 σ3 H5 x u _ I5' r5 (step x H5 y5)) fun _ s6 ⟨σ6,H6,I6,q6⟩=>?_);refine gc hp (thn (hb _ s6 σ6 H6 _ I6 q6) fun f s7 q7=>?_);have again:∀ {σ7:St} {H7:Hp},Inv X (oC++zcU fp s5.heap) σ7 H7 s7->N σ7 H7->∃ m,m < n/\∃ i σ' H',Inv X oC σ' H' s7/\tn i s7.heap/\(∀ b∈fp,H' b=none)/\W i m σ' H':=fun {σ7 H7} I7 n7=>by
   obtain⟨m',hm,w7⟩:=hN σ7 H7 n7;refine⟨m',hm,i+1,σ7,H7,I7.Nv,T.keep _ _ _ DS fun b hb o e=>(I7.pin (b,o) #[Si]).1,fun b hb=>?_,w7⟩;obtain⟨o,e,d⟩:=T.obj _ _ DS b hb;exact (I7.pin (b,o) #[Si]).2.1
  cases f with
  | next=>obtain⟨σ7,H7,I7,n7⟩:=q7; exact again I7 n7
  | cont=>obtain⟨σ7,H7,I7,n7⟩:=q7; exact again I7 n7
  | brk=>obtain⟨σ7,H7,I7,q7⟩:=q7; exact⟨σ7,H7,I7.Nv,q7⟩
  | ret v=>obtain⟨x7,σ7,H7,I7,r7,q7⟩:=q7; exact⟨x7,σ7,H7,I7.Nv,r7,q7⟩
end
theorem zlZ {K:aD} {a:Addr} {xs:List V} {g:TG} {tb:TS} {D:Ends} {σ:St} (Pv:Nat->St->Hp->Prop) (h0:Pv 0 σ H) (hl:∀ i σ H,i<=xs.length->Pv i σ H->oE K H a xs)
  (hs:∀ i x σ H,xs[i]? = some x->Pv i σ H->g x σ H fun σ2 H2=>tb { D with nx:=Pv (i+1),ct:=Pv (i+1),bk:=D.nx } σ2 H2) (hd:∀ σ H,Pv xs.length σ H->D.nx σ H) :
  ∃ W:Nat->Nat->St->Hp->Prop,(∃ m,W 0 m σ H)/\∀ i m σ H,W i m σ H ->
   (#[Wo].stop i H/\D.nx σ H)\/(#[Wo].go i H/\∃ N:St->Hp->Prop,(∀ σ' H',N σ' H'->∃ m',m' < m/\W (i+1) m' σ' H')/\∀ x H',#[Wo].yld i H x H'->g x σ H' fun σ2 H2=>tb { D with nx:=N,ct:=N,bk:=D.nx } σ2 H2):=by
 refine⟨fun i m σ H=>m=xs.length - i/\i<=xs.length/\Pv i σ H,⟨xs.length,#[M],bX _,h0⟩,?_⟩;rintro i m σ H ⟨rfl,hi,p⟩;have q:=hl i σ H hi p;by_cases oY:i < xs.length
 ·refine .inr ⟨⟨xs,xs[i],q,by simp [oY]⟩,Pv (i+1),fun σ' H' p'=>⟨xs.length - (i+1),#[O],rfl,oY,p'⟩,fun x H' y=>?_⟩;obtain⟨e,y⟩:=y;subst e;exact hs i x σ _ (y xs q) p
 ·have e:i=xs.length:=by lia
  subst e;exact .inl ⟨⟨xs,q,aG _⟩,hd σ H p⟩
theorem zn1 {K:aD} {a:Addr} {xs:List V} {g:TG} {tb:TS} {D:Ends} {σ:St} (Pv:Nat->St->Hp->Prop) (h0:Pv 0 σ H) (hl:∀ i σ H,i<=xs.length->Pv i σ H->oQ K H a xs)
  (hs:∀ i x σ H,xs[i]? = some x->Pv i σ H->g x σ H fun σ2 H2=>tb { D with nx:=Pv (i+1),ct:=Pv (i+1),bk:=D.nx } σ2 H2) (hd:∀ σ H,Pv xs.length σ H->D.nx σ H) :
  ∃ W:Nat->Nat->St->Hp->Prop,(∃ m,W 0 m σ H)/\∀ i m σ H,W i m σ H ->
   (#[Wn].stop i H/\D.nx σ H)\/(#[Wn].go i H/\∃ N:St->Hp->Prop,(∀ σ' H',N σ' H'->∃ m',m' < m/\W (i+1) m' σ' H')/\∀ x H',#[Wn].yld i H x H'->g x σ H' fun σ2 H2=>tb { D with nx:=N,ct:=N,bk:=D.nx } σ2 H2):=by
 refine⟨fun i m σ H=>m=xs.length - i/\i<=xs.length/\Pv i σ H,⟨xs.length,#[M],bX _,h0⟩,?_⟩;rintro i m σ H ⟨rfl,hi,p⟩;have q:=hl i σ H hi p;by_cases oY:i < xs.length
 ·refine .inr ⟨⟨xs,xs[i],q,by simp [oY]⟩,Pv (i+1),fun σ' H' p'=>⟨xs.length - (i+1),#[O],rfl,oY,p'⟩,fun x H' y=>?_⟩;obtain⟨e,y⟩:=y;subst e;exact hs i x σ _ (y xs q) p
 ·have e:i=xs.length:=by lia
  subst e;exact .inl ⟨⟨xs,q,aG _⟩,hd σ H p⟩
theorem zkI {lo:Int} {n:Nat} {g:TG} {tb:TS} {D:Ends} {σ:St} (Pv:Nat->St->Hp->Prop) (h0:Pv 0 σ H)
  (hs:∀ i σ H,i < n->Pv i σ H->g (.int (lo+i)) σ H fun σ2 H2=>tb { D with nx:=Pv (i+1),ct:=Pv (i+1),bk:=D.nx } σ2 H2) (hd:∀ σ H,Pv n σ H->D.nx σ H) :
  ∃ W:Nat->Nat->St->Hp->Prop,(∃ m,W 0 m σ H)/\∀ i m σ H,W i m σ H ->
   ((Itr lo n).stop i H/\D.nx σ H)\/((Itr lo n).go i H/\∃ N:St->Hp->Prop,(∀ σ' H',N σ' H'->∃ m',m' < m/\W (i+1) m' σ' H')/\∀ x H',(Itr lo n).yld i H x H'->g x σ H' fun σ2 H2=>tb { D with nx:=N,ct:=N,bk:=D.nx } σ2 H2):=by
 refine⟨fun i m σ H=>m=n - i/\i<=n/\Pv i σ H,#[TY],?_⟩;rintro i m σ H ⟨rfl,hi,p⟩;by_cases oY:i < n
 ·refine .inr ⟨oY,Pv (i+1),fun σ' H' p'=>⟨n - (i+1),#[O],rfl,oY,p'⟩,fun x H' y=>?_⟩;obtain⟨e,y⟩:=y;subst e y;exact hs i σ _ oY p
 ·have e:i=n:=by lia
  subst e;exact .inl ⟨aG _,hd σ H p⟩
theorem zl0 {c:TT} {tb:TS} {D:Ends} {σ:St} (Pv:St->Hp->Prop) (μ:St->Hp->Nat) (h0:Pv σ H)
  (hs:∀ σ H,Pv σ H->c σ H fun b H1=>if b=true then tb { D with nx:=fun σ' H'=>Pv σ' H'/\μ σ' H' < μ σ H,ct:=fun σ' H'=>Pv σ' H'/\μ σ' H' < μ σ H,bk:=D.nx } σ H1 else D.nx σ H1)
  (mono:∀ σ H Q Q',(∀ b H1,Q b H1->Q' b H1)->c σ H Q->c σ H Q'):zlY c tb D σ H:=by
 refine⟨fun m σ H=>m=μ σ H/\Pv σ H,⟨_,rfl,h0⟩,?_⟩;rintro m σ H ⟨rfl,p⟩;refine mono σ H _ _ (fun b H1 q=>?_) (hs σ H p);cases b with
 | true=>exact⟨_,fun σ' H' ⟨p',l⟩=>⟨_,l,rfl,p'⟩,q⟩
 | false=>exact q
abbrev R2:=V->V->Hp->VK->Prop
noncomputable def OpR (X:Cx) (f:Value->Value->Sem Value) (r:R2):Prop :=
 ∀ (oC:TC) (s:Shared) (σ:St) (H:Hp) (x y:V) (v u:Value) (Q:VK),Inv X oC σ H s->RelV x v->RelV y u->r x y H Q ->
  wpAny #[or] X.A (f v u) #[Qp] X.xe s
noncomputable def UnR (X:Cx) (f:Value->Sem Value) (r:V->Hp->VK->Prop):Prop :=
 ∀ (oC:TC) (s:Shared) (σ:St) (H:Hp) (x:V) (v:Value) (Q:VK),Inv X oC σ H s->RelV x v->r x H Q ->
  wpAny #[or] X.A (f v) #[Qp] X.xe s
noncomputable def zbx (X:Cx) (f:Value) (r:List V->Hp->VK->Prop):Prop :=
 ∀ (oC:TC) (s:Shared) (σ:St) (H:Hp) (xs:List V) (us:TH) (Q:VK),Inv X oC σ H s->zQ xs us->r xs H Q ->
  wpAny #[or] X.A (call f us) #[Qp] X.xe s
noncomputable def zrx (X:Cx) (r:V->Hp->(Bool->Hp->Prop)->Prop):Prop :=
 ∀ (oC:TC) (s:Shared) (σ:St) (H:Hp) (x:V) (v:Value) (Q:Bool->Hp->Prop),Inv X oC σ H s->RelV x v->r x H Q ->
  wpAny #[or] X.A (truthy v) #[VG] X.xe s
noncomputable def tOp (r:R2) (ta tb:TE):TE:=fun σ H Q=>ta σ H fun x H1=>tb σ H1 fun y H2=>r x y H2 Q
noncomputable def tUn (r:V->Hp->VK->Prop) (ta:TE):TE:=fun σ H Q=>ta σ H fun x H1=>r x H1 Q
noncomputable def rI (C:Int->Int->Prop) (g:Int->Int->V):R2:=fun x y H Q=>∃ i j,x = .int i/\y = .int j/\C i j/\Q (g i j) H
noncomputable def rI0 (g:Int->Int->V):R2:=fun x y H Q=>∃ i j,x = .int i/\y = .int j/\Q (g i j) H
noncomputable def rU (g:Int->V):V->Hp->VK->Prop:=fun x H Q=>∃ i,x = .int i/\Q (g i) H
section
variable {X:Cx} {a b c:Expr} {ta tb tc:TE} {pos:Pos}
theorem zpK (ha:PE X a ta) (hb:PE X b tb) {σ:St} {R:V->V->Hp->Prop} (I:Inv X oC σ H s)
  (h:ta σ H fun x H1=>tb σ H1 fun y H2=>R x y H2) {Q:TB} {f:Value->Value->Sem Value}
  (hf:∀ v u s2 x y H2,Inv X oC σ H2 s2->RelV x v->RelV y u->R x y H2->wpAny #[or] X.A (f v u) Q X.xe s2) :
  wpAny #[or] X.A (eval a X.env) (fun v s₁=>wpAny #[or] X.A (eval b X.env) (fun u s₂=>wpAny #[or] X.A (f v u) Q X.xe s₂) X.xe s₁) X.xe s:=by
 refine thn #[NE] fun v s1 ⟨x,H1,I1,r1,q1⟩=>?_
 refine thn #[Tz] fun u s2 ⟨y,H2,I2,r2,q2⟩=>?_
 exact hf v u s2 x y H2 I2 r1 r2 q2
theorem zi {op:Operator} {r:R2} (ho:OpR X (binaryOp op) r) (ha:PE X a ta) (hb:PE X b tb):PE X (.BinOp a op b pos) #[Wt]:=by
 intro oC s σ H Q I h;exact wpAny_BinOp (zpK ha hb I h fun v u s2 x y H2 I2 rx ry q=>ho oC s2 σ H2 x y v u Q I2 rx ry q)
theorem zjK {op:UnaryOp} {r:V->Hp->VK->Prop} (ho:UnR X (unaryOp op) r) (ha:PE X a ta):PE X (.UnaryOp op a pos) (tUn r ta):=by
 intro oC s σ H Q I h;exact UnaryOp_ (thn #[NE] fun v s1 ⟨x,H1,I1,r1,q1⟩=>ho oC s1 σ H1 x v Q I1 r1 q1)
theorem opI {f:Value->Value->Sem Value} {C:Int->Int->Prop} {g:Int->Int->Int}
  (rule:∀ (i j:Int) (t u:Tok) (s:Shared) (Q:TB) (E:TB),C i j->Q (.int (g i j) s.toks) { s with toks:=s.toks+1 }->wpAny #[or] X.A #[T5] Q E s) :
  OpR X f (rI C fun i j=>.int (g i j)):=by
 intro oC s σ H x y v u Q I rx ry h;obtain⟨i,j,rfl,rfl,hc,q⟩:=h;obtain⟨t,rfl⟩:=rx;obtain⟨t',rfl⟩:=ry;exact rule i j t t' s _ _ hc #[Wi]
theorem zpL {f:Value->Value->Sem Value} {g:Int->Int->Int}
  (rule:∀ (i j:Int) (t u:Tok) (s:Shared) (Q:TB) (E:TB),Q (.int (g i j) s.toks) { s with toks:=s.toks+1 }->wpAny #[or] X.A #[T5] Q E s) :
  OpR X f (rI0 fun i j=>.int (g i j)):=by
 intro oC s σ H x y v u Q I rx ry h;obtain⟨i,j,rfl,rfl,q⟩:=h;obtain⟨t,rfl⟩:=rx;obtain⟨t',rfl⟩:=ry;exact rule i j t t' s _ _ #[Wi]
theorem zn2 {f:Value->Value->Sem Value} {g:Int->Int->Bool}
  (rule:∀ (i j:Int) (t u:Tok) (s:Shared) (Q:TB) (E:TB),Q (.bool (g i j)) s->wpAny #[or] X.A #[T5] Q E s) :
  OpR X f (rI0 fun i j=>.bl (g i j)):=by
 intro oC s σ H x y v u Q I rx ry h;obtain⟨i,j,rfl,rfl,q⟩:=h;obtain⟨t,rfl⟩:=rx;obtain⟨t',rfl⟩:=ry;exact rule i j t t' s _ _ ⟨.bl (g i j),H,I,rfl,q⟩
noncomputable def zqP (i j:Int):Prop:=0 < j/\j < 1073741824
noncomputable def zry (i j:Int):Prop:=0<=j/\j<=1000000/\i.natAbs < 2 ^ 64
noncomputable def zpM (i j:Int):Prop:=(-(2 ^ 64) < i/\i < 2 ^ 64)\/(-(2 ^ 64) < j/\j < 2 ^ 64)
theorem zpM.ok {i j:Int} (h:zpM i j):IntMulOk i j:=by
 rcases h with ⟨h1,h2⟩ | ⟨h1,h2⟩
 ·exact .of_left (intBits_le_64 h1 h2)
 ·exact .of_right (intBits_le_64 h1 h2)
theorem zz:OpR X (binaryOp .Add) (rI0 fun i j=>.int (i+j)):=zpL fun _ _ _ _ _ _ _ q=>add_int q
theorem zaa:OpR X (binaryOp .Sub) (rI0 fun i j=>.int (i - j)):=zpL fun _ _ _ _ _ _ _ q=>sub_int q
theorem zH:OpR X (binaryOp .Mult) (rI zpM fun i j=>.int (i*j)):=opI fun _ _ _ _ _ _ _ hc q=>mul_int q hc.ok
theorem zbh:OpR X (binaryOp .FloorDiv) (rI zqP fun i j=>.int (i / j)):=opI fun i j _ _ _ _ _ hc q=>by
 have h1:(0:Int) < j:=hc.1;have h2:j < 1073741824:=hc.2;exact floordiv_int #[O] (by rw [jL i #[O]]; exact q) (.inl (kL #[O]))
theorem zL:OpR X (binaryOp .Mod) (rI (fun _ j=>0 < j) fun i j=>.int (i % j)):=opI fun i j _ _ _ _ _ hc q=>by
 have h1:(0:Int) < j:=hc;exact mod_int' #[O] (by rw [Int.fmod_eq_emod_of_nonneg i #[O]]; exact q)
theorem zpN:OpR X (binaryOp .Pow) (rI zry fun i j=>.int (i ^ j.toNat)):=opI fun _ _ _ _ _ _ _ hc q=>pow_int_small hc.1 hc.2.1 hc.2.2 q
theorem zn3:OpR X (inplaceOp .Add) (rI0 fun i j=>.int (i+j)):=zpL fun _ _ _ _ _ _ _ q=>iadd_int q
theorem zl1:OpR X (inplaceOp .FloorDiv) (rI zqP fun i j=>.int (i / j)):=opI fun i j _ _ _ _ _ hc q=>by
 have h1:(0:Int) < j:=hc.1;have h2:j < 1073741824:=hc.2;exact ifloordiv_int #[O] (by rw [jL i #[O]]; exact q) (.inl (kL #[O]))
theorem unI {f:Value->Sem Value} {g:Int->Int}
  (rule:∀ (i:Int) (t:Tok) (s:Shared) (Q:TB) (E:TB),Q (.int (g i) s.toks) { s with toks:=s.toks+1 }->wpAny #[or] X.A (f (.int i t)) Q E s) :
  UnR X f (rU fun i=>.int (g i)):=by
 intro oC s σ H x v Q I rx h;obtain⟨i,rfl,q⟩:=h;obtain⟨t,rfl⟩:=rx;exact rule i t s _ _ ⟨.int (g i),H,I.tok _,⟨_,rfl⟩,q⟩
theorem zgM:UnR X (unaryOp .USub) (rU fun i=>.int (-i)):=unI fun _ _ _ _ _ q=>neg_int q
end
noncomputable def zqQ:V->V->Bool
 | .non,.non=>true | .non,.int _=>true | .int _,.non=>true | .non,.bl _=>true | .bl _,.non=>true | .non,.str _=>true | .str _,.non=>true
 | .int _,.int _=>true | .bl _,.bl _=>true | .str _,.str _=>true | .byt _,.byt _=>true
 | .int _,.str _=>true | .str _,.int _=>true | .bl _,.str _=>true | .str _,.bl _=>true
 | _,_=>false
noncomputable def rEq:R2:=fun x y H Q=>zqQ x y=true/\Q (.bl (decide (x=y))) H
noncomputable def rNe:R2:=fun x y H Q=>zqQ x y=true/\Q (.bl (!decide (x=y))) H
theorem zjL {i j:Int}:decide (V.int i=V.int j)=(i == j):=by
 rw [gH];simp
theorem zl2 {i j:Bool}:decide (V.bl i=V.bl j)=(i == j):=by
 rw [gH];simp
theorem zjM {i j:Str}:decide (V.str i=V.str j)=(i == j):=by
 rw [gH];simp
theorem zjN {i j:Array UInt8}:decide (V.byt i=V.byt j)=(i.toList == j.toList):=by
 rw [gH];cases i;cases j;simp
section
variable {X:Cx} {a b c:Expr} {ta tb tc:TE} {pos:Pos}
theorem zaj {σ:St} {Q:VK} {k k':Bool} (I:Inv X oC σ H s) (q:Q (.bl k) H) (e:k=k'):EP X oC σ Q (.bool k') s:=by
 subst e;exact⟨.bl k,H,I,rfl,q⟩
theorem zhH:OpR X (compareOp .Eq) rEq:=by
 intro oC s σ H x y v u Q I rx ry h;obtain⟨hs,q⟩:=h;cases x with
 | non =>
  cases rx;cases y with
  | non=>cases ry; exact PySem.EqNone.eq_none_none #[FS]
  | bl j=>cases ry; exact PySem.EqNone.eq_none_bool #[FS]
  | int j=>obtain⟨t',rfl⟩:=ry; exact PySem.EqNone.eq_none_int #[FS]
  | str j=>obtain⟨t',rfl⟩:=ry; exact PySem.EqNone.eq_none_str #[FS]
  | _=>exact absurd (show false=true from hs) bH
 | bl i =>
  cases rx;cases y with
  | non=>cases ry; exact PySem.EqNone.eq_bool_none #[FS]
  | bl j=>cases ry; exact eq_bool (zaj I q zl2)
  | str j=>obtain⟨t',rfl⟩:=ry; exact PySem.EqMixed.eq_bool_str #[FS]
  | _=>exact absurd (show false=true from hs) bH
 | int i =>
  obtain⟨t,rfl⟩:=rx;cases y with
  | non=>cases ry; exact PySem.EqNone.eq_int_none #[FS]
  | int j=>obtain⟨t',rfl⟩:=ry; exact eq_int (zaj I q zjL)
  | str j=>obtain⟨t',rfl⟩:=ry; exact PySem.EqMixed.eq_int_str #[FS]
  | _=>exact absurd (show false=true from hs) bH
 | str i =>
  obtain⟨t,rfl⟩:=rx;cases y with
  | non=>cases ry; exact PySem.EqNone.eq_str_none #[FS]
  | bl j=>cases ry; exact PySem.EqMixed.eq_str_bool #[FS]
  | int j=>obtain⟨t',rfl⟩:=ry; exact PySem.EqMixed.eq_str_int #[FS]
  | str j=>obtain⟨t',rfl⟩:=ry; exact eq_str (zaj I q zjM)
  | _=>exact absurd (show false=true from hs) bH
 | byt i =>
  obtain⟨t,rfl⟩:=rx;cases y with
  | byt j=>obtain⟨t',rfl⟩:=ry; exact PySem.W.eq_bytes (zaj I q zjN)
  | _=>exact absurd (show false=true from hs) bH
 | _=>cases y <;> exact absurd (show false=true from hs) bH
theorem zdG:OpR X (compareOp .NotEq) rNe:=by
 intro oC s σ H x y v u Q I rx ry h;obtain⟨hs,q⟩:=h;cases x with
 | non =>
  cases rx;cases y with
  | non=>cases ry; exact PySem.EqNone.ne_none_none #[FS]
  | bl j=>cases ry; exact PySem.EqNone.ne_none_bool #[FS]
  | int j=>obtain⟨t',rfl⟩:=ry; exact PySem.EqNone.ne_none_int #[FS]
  | str j=>obtain⟨t',rfl⟩:=ry; exact PySem.EqNone.ne_none_str #[FS]
  | _=>exact absurd (show false=true from hs) bH
 | bl i =>
  cases rx;cases y with
  | non=>cases ry; exact PySem.EqNone.ne_bool_none #[FS]
  | bl j=>cases ry; exact ne_bool (zaj I q (congrArg not zl2))
  | str j=>obtain⟨t',rfl⟩:=ry; exact PySem.EqMixed.ne_bool_str #[FS]
  | _=>exact absurd (show false=true from hs) bH
 | int i =>
  obtain⟨t,rfl⟩:=rx;cases y with
  | non=>cases ry; exact PySem.EqNone.ne_int_none #[FS]
  | int j=>obtain⟨t',rfl⟩:=ry; exact ne_int (zaj I q (congrArg not zjL))
  | str j=>obtain⟨t',rfl⟩:=ry; exact PySem.EqMixed.ne_int_str #[FS]
  | _=>exact absurd (show false=true from hs) bH
 | str i =>
  obtain⟨t,rfl⟩:=rx;cases y with
  | non=>cases ry; exact PySem.EqNone.ne_str_none #[FS]
  | bl j=>cases ry; exact PySem.EqMixed.ne_str_bool #[FS]
  | int j=>obtain⟨t',rfl⟩:=ry; exact PySem.EqMixed.ne_str_int #[FS]
  | str j=>obtain⟨t',rfl⟩:=ry; exact ne_str (zaj I q (congrArg not zjM))
  | _=>exact absurd (show false=true from hs) bH
 | byt i =>
  obtain⟨t,rfl⟩:=rx;cases y with
  | byt j=>obtain⟨t',rfl⟩:=ry; exact PySem.W.ne_bytes (zaj I q (congrArg not zjN))
  | _=>exact absurd (show false=true from hs) bH
 | _=>cases y <;> exact absurd (show false=true from hs) bH
theorem zdH:OpR X (compareOp .Lt) (rI0 fun i j=>.bl (decide (i < j))):=zn2 fun _ _ _ _ _ _ _ q=>lt_int q
theorem zpd:OpR X (compareOp .LtE) (rI0 fun i j=>.bl (decide (i<=j))):=zn2 fun _ _ _ _ _ _ _ q=>le_int q
theorem zge:OpR X (compareOp .Gt) (rI0 fun i j=>.bl (decide (j < i))):=zn2 fun _ _ _ _ _ _ _ q=>gt_int q
theorem zgf:OpR X (compareOp .GtE) (rI0 fun i j=>.bl (decide (j<=i))):=zn2 fun _ _ _ _ _ _ _ q=>ge_int q
theorem zY (b:Expr) {op:CmpOp} (h:op≠.In:=by decide) (h2:op≠.NotIn:=by decide):behindInMarks op b=false:=by
 have e1:(op == CmpOp.In)=false:=by cases op <;> first | rfl | exact absurd rfl h
 have e2:(op == CmpOp.NotIn)=false:=by cases op <;> first | rfl | exact absurd rfl h2
 cases b <;> simp [behindInMarks,e1,e2]
theorem zgN {op:CmpOp} {r:R2} (ho:OpR X (compareOp op) r) (ha:PE X a ta) (hb:PE X b tb) (hm:behindInMarks op b=false):PE X (.Compare a [op] [b] pos) #[Wt]:=by
 intro oC s σ H Q I h;exact wpAny_Compare1 (zpK ha hb I h fun v u s2 x y H2 I2 rx ry q=>ho oC s2 σ H2 x y v u Q I2 rx ry q) hm
noncomputable def zpe (t:TE):TT:=fun σ H Q=>t σ H fun x H'=>∃ k,x = .bl k/\Q k H'
theorem zK {op:CmpOp} {r:R2} (ho:OpR X (compareOp op) r) (ha:PE X a ta) (hb:PE X b tb) (hm:behindInMarks op b=false):PT X (.Compare a [op] [b] pos) (zpe #[Wt]):=by
 intro oC s σ H Q I h;refine wpAny_isTrue_Compare1 (thn #[NE] fun v s1 ⟨x,H1,I1,r1,q1⟩=>thn #[Tz] fun u s2 ⟨y,H2,I2,r2,q2⟩ =>
  thn #[Uh] fun c s3 ⟨z,H3,I3,r3,k,e,q3⟩=>?_) hm
 subst e;cases r3;exact fM ⟨H3,I3,q3⟩
noncomputable def zpO (r r':R2) (ta tb tc:TE):TE:=fun σ H Q=>ta σ H fun x H1=>tb σ H1 fun y H2=>r x y H2 fun z H3=>∃ k,z = .bl k /\
 (if k=true then tc σ H3 fun w' H4=>r' y w' H4 Q else Q (.bl false) H3)
theorem zl3 {op Ig:CmpOp} {r r':R2} (ho:OpR X (compareOp op) r) (sJ:OpR X (compareOp Ig) r') (ha:PE X a ta) (hb:PE X b tb) (hc:PE X c tc)
  (hm:lastMarks [op,Ig] [b,c]=false:=by with_unfolding_all rfl):PT X (.Compare a [op,Ig] [b,c] pos) (zpe (zpO r r' ta tb tc)):=by
 intro oC s σ H Q I h;refine isTrue_chain (thn #[NE] fun v s1 ⟨x,H1,I1,r1,q1⟩=>test_link (thn #[Tz] fun u s2 ⟨y,H2,I2,r2,q2⟩ =>
  thn #[Uh] fun d s3 ⟨z,H3,I3,r3,k,e,q3⟩=>?_)) hm
 subst e;cases r3;refine fM ?_;cases k with
 | false =>
  obtain⟨k',e',q'⟩:=q3;cases e';exact ite_ff ⟨H3,I3,q'⟩
 | true =>
  refine ite_tt (test_last (thn (hc oC s3 σ H3 _ I3 q3) fun w' s4 ⟨z',H4,I4,r4,q4⟩=>thn (sJ oC s4 σ H4 y z' u w' _ I4 r2 r4 q4) fun d' s5 ⟨z2,H5,I5,r5,k2,e2,q5⟩=>?_));subst e2;cases r5;exact fM ⟨H5,I5,q5⟩
noncomputable def zqR (K:aD) (x:V) (H:Hp) (k:Bool):Prop :=
 match x with
 | .non=>k=false
 | .bl b=>k=b
 | .int i=>k=(i != 0)
 | .str y=>y.length<=sizeLine/\k=((y.length:Int) != 0)
 | .byt y=>y.size<=sizeLine/\k=((y.size:Int) != 0)
 | .ref p=>(∃ xs,oE K H p xs/\k = !xs.isEmpty)\/(∃ xs,oQ K H p xs/\k = !xs.isEmpty)\/∃ kvs,H p=some #[Tq]/\k = !kvs.isEmpty
 | _=>False
theorem ziT {κ:Type} {kvs:List (κ×V)} {vs:List (κ×Value)} (r:KV kvs vs):(!vs.isEmpty) = !kvs.isEmpty:=by
 cases r <;> rfl
theorem zfi {xs:List V} (r:zQ xs oF):(!oF.toArray.isEmpty) = !xs.isEmpty:=by
 cases r <;> simp
theorem zfj:(sizeLine:Nat) < 2 ^ 63:=by rw [bN]; decide
theorem zpP:zrx X (fun x H Q=>∃ k,zqR X.K x H k/\Q k H):=by
 intro oC s σ H x v Q I rx h;obtain⟨k,e,q⟩:=h;have hl:=zfj;have hs:sizeLine=16777216:=bN;cases x with
 | non =>
  cases rx;have e':k=false:=e;subst e';exact truthy_none ⟨H,I,q⟩
 | bl b =>
  cases rx;have e':k=b:=e;subst e';exact fM ⟨H,I,q⟩
 | int i =>
  obtain⟨t,rfl⟩:=rx;have e':k=(i != 0):=e;subst e';exact PySem.P.truthy_int ⟨H,I,q⟩
 | str y =>
  obtain⟨t,rfl⟩:=rx;obtain⟨hy,e'⟩:y.length<=sizeLine/\k=((y.length:Int) != 0):=e;subst e';exact PySem.P.truthy_str #[O] ⟨H,I.tok _,q⟩
 | byt y =>
  obtain⟨t,rfl⟩:=rx;obtain⟨hy,e'⟩:y.size<=sizeLine/\k=((y.size:Int) != 0):=e;subst e';exact PySem.W.truthy_bytes #[O] ⟨H,I.tok _,q⟩
 | ref p =>
  cases rx;have e':(∃ xs,oE X.K H p xs/\k = !xs.isEmpty)\/(∃ xs,oQ X.K H p xs/\k = !xs.isEmpty)\/∃ kvs,H p=some #[Tq]/\k = !kvs.isEmpty:=e;rcases e' with ⟨xs,hx,e'⟩ | ⟨xs,hx,e'⟩ | ⟨kvs,hx,e'⟩
  ·subst e';obtain⟨oF,r,pl,hz⟩:=I.list hx;have oO:=r.length;exact wpAny_truthy_list pl.isList (by simp only [aP]; lia) ⟨H,I.tok _,by rw [zfi r]; exact q⟩
  ·subst e';obtain⟨oF,r,pl,hz⟩:=I.tuple hx;have oO:=r.length;exact truthy_tuple pl (by simp only [aP]; lia) ⟨H,I.tok _,by rw [zfi r]; exact q⟩
  ·subst e';obtain⟨hz,hS,vs,r,m⟩:kvs.length<=sizeLine/\(p == sysModules)=false/\∃ vs,KV kvs vs/\s.heap.DictOf #[Uu] p vs:=I.hok p _ hx;have oO:kvs.length=vs.length:=bS r;exact wpAny_truthy_dict hS m #[O] ⟨H,I.tok _,by rw [ziT r]; exact q⟩
 | _=>exact (show False from e).elim
theorem zl4 (ha:PE X a ta) (he:∀ whole,isTrue a X.env whole=(do let v <- whole; standAt a.pos; holding [v] (truthy v))) :
  PT X a (fun σ H Q=>ta σ H fun x H'=>∃ k,zqR X.K x H' k/\Q k H'):=by
 intro oC s σ H Q I h;exact isTrue_plain (thn #[NE] fun v s1 ⟨x,H1,I1,r1,q1⟩=>zpP oC s1 σ H1 x v Q I1 r1 q1) (he _)
theorem vals1 {x:V} (r:zQ [x] us):∃ u,us = [u]/\RelV x u:=by
 cases r with
 | cons r1 r2=>cases r2; exact⟨_,rfl,r1⟩
theorem vals2 {x:V} (r:zQ [x,y] us):∃ u w',us = [u,w']/\RelV x u/\RelV y w':=by
 cases r with
 | cons r1 r2 =>
  cases r2 with
  | cons r3 r4=>cases r4; exact⟨_,_,rfl,r1,r3⟩
theorem zeh (hc:X.calm=true):zbx X (.builtin "max") (fun xs H Q=>∃ i j,xs = [.int i,.int j]/\Q (.int (if j > i then j else i)) H):=by
 intro oC s σ H xs us Q I r h;obtain⟨i,j,rfl,q⟩:=h;obtain⟨u,w',rfl,⟨t,rfl⟩,⟨t',rfl⟩⟩:=vals2 r;refine max_two_ints #[QO] fun h' tk k=>⟨_,H,I.kept k,?_,q⟩
 by_cases hj:j > i
 ·rw [if_pos hj,if_pos hj]; exact⟨_,rfl⟩
 ·rw [if_neg hj,if_neg hj]; exact⟨_,rfl⟩
theorem zgg (hc:X.calm=true):zbx X (.builtin "min") (fun xs H Q=>∃ i j,xs = [.int i,.int j]/\Q (.int (if j < i then j else i)) H):=by
 intro oC s σ H xs us Q I r h;obtain⟨i,j,rfl,q⟩:=h;obtain⟨u,w',rfl,⟨t,rfl⟩,⟨t',rfl⟩⟩:=vals2 r;refine min_two_ints #[QO] fun h' tk k=>⟨_,H,I.kept k,?_,q⟩
 by_cases hj:j < i
 ·rw [if_pos hj,if_pos hj]; exact⟨_,rfl⟩
 ·rw [if_neg hj,if_neg hj]; exact⟨_,rfl⟩
end
structure P5 (h:Heap) (x dx C:Addr) (mA:TJ):Prop where
 obj:h.get? x=some (kB C dx)
 ns:h.Ns1 dx mA
 ne:dx≠x
theorem zkJ {dx:Addr} {mA:TJ} (n:h.Ns1 dx mA):∃ od,h.get? dx=some od/\∀ name,kT name od=some (mA name):=by
 obtain⟨o,es,ep,ho,hd,hk,_,hm⟩:=n;refine⟨o,ho,fun name=>?_⟩;have e:=hm name;unfold nsFind findBy at e;rw [<- Array.find?_toList] at e;unfold kT;rw [hd];dsimp only;split
 ·rename_i y q
  rw [q] at e;exact congrArg some e
 ·rename_i q
  rw [q] at e;have a:es.toList.any (·.refKey)=false:=by
   rw [List.any_eq_false];intro y hy;obtain⟨z,t,qV⟩:=hk y (Array.mem_toList_iff.mp hy);simp [DictEntry.refKey,qV]
  have a':¬ es.toList.any (·.refKey)=true:=by rw [a]; exact bH
  rw [if_neg a'];exact congrArg some e
theorem P5.look {x dx:Addr} {mA:TJ} (I:P5 h x dx C mA):∃ od,PySem.W.InstAt h x (kB C dx) C (some od)/\∀ name,kT name od=some (mA name) :=
 let ⟨od,ho,hl⟩:=zkJ I.ns
 ⟨od,⟨I.obj,rfl,rfl,ho⟩,hl⟩
theorem zef.some_of {o:Option Value} (r:zef #[UF] o):∃ u,o=some u/\RelV v u:=by
 cases o with
 | none=>exact (show False from r).elim
 | some u=>exact⟨u,rfl,r⟩
section
variable {P:Program} {w:World} {H H':Hp} {h h':Heap} {a C dx:Addr} {fs fs':List (Str×V)}
theorem zn4 (hok:HOk P w H h) (e:H a=some (.ins C dx fs)):∃ mA,P5 h a dx C mA/\(∀ f,zef (fs.lookup f) (mA f))/\oh mA (fs.map (·.1))/\fs.length<=1000/\H dx=some (.own a):=by
 obtain⟨d,z,ne,ob,mA,n,r,q⟩:=(show zak P w H h a (.ins C dx fs) from hok a _ e);exact⟨mA,⟨ob,n,ne⟩,r,q,z,d⟩
end
structure Cls (K:aD) (C:Addr):Prop where
 pg:ni K C Str.empty=true
 hd:PySem.W.hasDictIn K C=true
 po:PySem.W.plainOver K C=true
 sa:dL K #[QC] "__setattr__" = some (some (.builtin "object.__setattr__"))
theorem Cls.get {K:aD} (c:Cls K C) (f:Str):ni K C f=true:=c.pg
section
variable {X:Cx} {oC:TC} {σ:St} {H:Hp} {s:Shared} {A:Around} {E:TB} {Q:TB} {c:Value} {b:Bool}
inductive OM (K:aD) (H:Hp):V->Value->Prop where
 | non:OM K H .non (.type "NoneType")
 | bl (x:Bool):OM K H (.bl x) (.type "bool")
 | int (i:Int):OM K H (.int i) (.type "int")
 | str (x:Str):OM K H (.str x) (.type "str")
 | flt (x:UInt64):OM K H (.flt x) (.type "float")
 | lst {a:Addr} {xs:List V} (e:H a=some #[Ry]):OM K H #[QD] (.type "list")
 | frz {a:Addr} {o:Obj} {xs:List V} (e:H a=some (.frz o #[Ry])):OM K H #[QD] (.type "list")
 | tup {a:Addr} {xs:List V} (e:H a=some #[SO]):OM K H #[QD] (.type "tuple")
 | dK {a:Addr} {kvs:List (Key×V)} (e:H a=some #[Tq]):OM K H #[QD] (.type "dict")
 | dT {a:Addr} {kvs:List (List Key×V)} (e:H a=some #[QZ]):OM K H #[QD] (.type "dict")
 | ins {a C dx:Addr} {fs:List (Str×V)} (e:H a=some (.ins C dx fs)) (cl:Cls K C) (ha:dL K #[QC] "__class__" = some (some (.builtin "object.__class__")))
   (hn:PySem.W.specialIn K (.builtin "object.__class__") "__get__" = some (some (.builtin "getset_descriptor.__get__"))) (Ap:PySem.W.takesIn K (.builtin "object.__class__")=some true)
   (hm:dk K C (.type "object")=some true):OM K H #[QD] #[QC]
theorem zkK {x:V} {u t:Value} (I:Inv X oC σ H s) (rx:RelV x u) (ty:OM X.K H x t) (e:bK X.K t c=some b) (h:∀ tk,Q (.bool b) { s with toks:=tk }) :
  wpAny #[or] A (call (.builtin "isinstance") [u,c]) Q E s:=by
 cases ty with
 | non=>cases (show u=eZ from rx); exact dM PySem.W.kitx_none I.kIn gn e (fun z=>nomatch z) h
 | bl y=>cases (show u=iF y from rx); exact dM PySem.W.kitx_bool I.kIn gn e (fun z=>nomatch z) h
 | int i=>obtain⟨t,q⟩:=(show ∃ t,u=jB i t from rx); cases q; exact dM PySem.W.kitx_int I.kIn gn e (fun z=>nomatch z) h
 | str y=>obtain⟨t,q⟩:=(show ∃ t,u=md y t from rx); cases q; exact dM PySem.W.kitx_str I.kIn gn e (fun z=>nomatch z) h
 | flt y=>obtain⟨t,q⟩:=(show ∃ t,u=Value.float y t from rx); cases q; exact dM PySem.W.kitx_float I.kIn gn e (fun z=>nomatch z) h
 | @lst a xs ea =>
  cases (show u=bL a from rx);obtain⟨_,_,n,_,h1⟩:=(show zak X.prog X.w H s.heap a #[Ry] from I.hok a _ ea);exact dM mM I.kIn ⟨_,h1,rfl⟩ e (fun z=>nomatch z) h
 | @frz a ob xs ea =>
  cases (show u=bL a from rx);obtain⟨_,_,_,n,_,h1⟩:=(show zak X.prog X.w H s.heap a (.frz ob #[Ry]) from I.hok a _ ea);exact dM mM I.kIn ⟨_,h1,rfl⟩ e (fun z=>nomatch z) h
 | @tup a xs ea =>
  cases (show u=bL a from rx);obtain⟨_,_,_,p⟩:=(show zak X.prog X.w H s.heap a #[SO] from I.hok a _ ea);obtain⟨o,h1,h2,_⟩:=p;exact dM PySem.W.kitx_tuple I.kIn ⟨o,h1,h2⟩ e (fun z=>nomatch z) h
 | @dK a kvs ea =>
  cases (show u=bL a from rx);obtain⟨_,_,vs,_,p⟩:=(show zak X.prog X.w H s.heap a #[Tq] from I.hok a _ ea);obtain⟨o,es,ep,h1,h2,_⟩:=p;exact dM mO I.kIn ⟨o,h1,h2.1⟩ e (fun z=>nomatch z) h
 | @dT a kvs ea =>
  cases (show u=bL a from rx);obtain⟨_,_,xs,_,o,es,ep,h1,h2,_⟩:=(show zak X.prog X.w H s.heap a #[QZ] from I.hok a _ ea);exact dM mO I.kIn ⟨o,h1,h2.1⟩ e (fun z=>nomatch z) h
 | @ins a C dx fs ea cl ha hn Ap hm =>
  cases (show u=bL a from rx);obtain⟨mA,O,_⟩:=zn4 I.hok ea;obtain⟨od,J,_⟩:=O.look;exact dM (PySem.W.kitx_own (cl.get _) cl.hd ha hn Ap hm) I.kIn J e (fun z=>nomatch z) h
end
structure Nf (k:Nat) (A:Around):Prop where
 hd:A.handled=none
 dp:A.depth+3*k+5 < recursionLimit
 un:A.units+16*k+200 < cLine
theorem Nf.mono (r:Nf k A) (h:j<=k):Nf j A:=⟨r.hd,by have:=r.dp; lia,by have:=r.un; lia⟩
theorem Nf.deeper (r:Nf (k+1) A) (env:Env):Nf k (A.deeper env) :=
 ⟨r.hd,by have:=r.dp; show A.depth+1+3*k+5 < _; lia,by have:=r.un; show A.units+3+16*k+200 < _; lia⟩
theorem Nf.depth (r:Nf k A):A.depth < recursionLimit:=by have:=r.dp; lia
theorem Nf.units (r:Nf k A):A.units+64 < cLine:=by have:=r.un; lia
noncomputable def zpQ:TA:=fun _ H Q=>Q [] H
noncomputable def zjO (ta:TE) (tr:TA):TA:=fun σ H Q=>ta σ H fun x H1=>tr σ H1 fun xs H2=>Q (x :: xs) H2
section
variable {X:Cx} {e:Expr} {es:List Expr} {te:TE} {t:TA} {pos:Pos}
theorem ze:PA X [] zpQ:=fun _ _ _ _ H Q I h=>gO ⟨[],H,I,.nil,h⟩
theorem za (ha:PE X e te) (hr:PA X es t) (hs:starEach (e :: es) X.env=#[Go] :: starEach es X.env:=by rfl):PA X (e :: es) (zjO te t):=by
 intro pos oC s σ H Q I h;rw [hs];show wpAny _ _ (spliced (#[Go] :: backTo pos (starEach es X.env))) _ _ s;refine fZ (thn #[NE] fun u s1 ⟨x,H1,I1,r1,q1⟩=>?_);exact thn (hr pos oC s1 σ H1 _ I1 q1) fun us s2 ⟨xs,H2,I2,r2,q2⟩=>⟨x :: xs,H2,I2,.cons r1 r2,q2⟩
theorem ya {X:Cx} {e:Expr} {te:TE} (a:PE X e te) (b:starEach [e] X.env=#[Go] :: starEach [] X.env):PA X [e] (zjO te zpQ):=za a ze b
noncomputable def zrz (t:TA):TE:=fun σ H Q=>t σ H fun xs H1=>xs.length<=sizeLine/\∀ p,H1 p=none->Q (.ref p) (oG H1 p #[SO])
noncomputable def ziU (t:TA):TE:=fun σ H Q=>t σ H fun xs H1=>xs.length<=sizeLine/\∀ p,H1 p=none->Q (.ref p) (oG H1 p #[Ry])
theorem zaZ {x1} (h:PA X es t):PE X (.Tuple es x1 pos) (zrz t):=by
 intro oC s σ H Q I hq;refine wpAny_Tuple_spliced (thn (h pos oC s σ H _ I hq) fun us s1 ⟨xs,H1,I1,r,z,q⟩=>⟨by rw [<- r.length]; exact z,?_⟩);have hf:H1 s1.heap.objs.size=none:=I1.hok.fresh (aG _);refine⟨.ref s1.heap.objs.size,oG H1 s1.heap.objs.size #[SO],I1.laid (t':=s1.toks) (fun b u e=>aI _ e) (aG _) ?_,rfl,q _ hf⟩;exact⟨z,us,r,⟨_,aZ _ rfl,rfl,_,rfl⟩⟩
theorem zab (h:PA X es t):PE X (.List es pos) (ziU t):=by
 intro oC s σ H Q I hq;refine wpAny_List_spliced (thn (h pos oC s σ H _ I hq) fun us s1 ⟨xs,H1,I1,r,z,q⟩=>⟨by rw [<- r.length]; exact z,?_⟩);have hf:H1 s1.heap.objs.size=none:=I1.hok.fresh (aG _);refine⟨.ref s1.heap.objs.size,oG H1 s1.heap.objs.size #[Ry],I1.laid (t':=s1.toks) (fun b u e=>aI _ e) (aG _) ?_,rfl,q _ hf⟩;exact⟨z,us,0,r,aZ _ rfl⟩
end
abbrev Sp:=List V->Hp->VK->XK->Prop
abbrev CXT:=List Env->Hp->Shared->XK->Value->Shared->Prop
structure Pw (P:Program) (w:World) (K:aD) (mg:TJ) (base:Heap) (A:Around) (outer:List Env) (s:Shared) (H:Hp):Prop where
 frames:A.frames=some outer
 mod:Mod K mg base
 bs:∀ b o,base.get? b=some o->s.heap.get? b=some o/\H b=none
 bsz:base.objs.size<=s.heap.objs.size
 Oh:s.heap.FunFrames base outer
 frf:∀ b∈frs outer,H b=none
 hok:HOk P w H s.heap
 bare:AllBare s.gens
noncomputable def CE (outer:List Env) (P:Program) (w:World) (H:Hp) (s:Shared) (Q:VK) (u:Value) (s':Shared):Prop :=
 ∃ v H',s'.os=s.os/\AllBare s'.gens/\Un (frs outer) [] H H' s.heap s'.heap/\HOk P w H' s'.heap/\RelV v u/\Q v H'
noncomputable def CR (CX:CXT) (outer:List Env) (P:Program) (w:World) (H:Hp) (s:Shared) (Q:VK) (E:XK) (r:Result) (s':Shared):Prop :=
 match r with
 | .ok (.ret u)=>CE outer P w H s Q u s'
 | .ok _=>False
 | .error e=>CX outer H s E e s'
structure LG (P:Program) (w:World) (K:aD) (mg:TJ) (base:Heap) (CX:CXT) (k:Nat) (f:Addr) (fd:FuncData) (ps:List Str) (sp:Sp):Prop where
 len:∀ vs H Q E,sp vs H Q E->vs.length=ps.length
 run:∀ (A:Around) (outer:List Env) (s:Shared) (H:Hp) (args:Args) (us:TH) (vs:List V) (Q:VK) (E:XK),Nf k A->Pw P w K mg base A outer s H->BindsTo s fd args #[Vl]->zQ vs us->sp vs H Q E ->
  codeAny #[SR] A (.call #[Ts] args) (CR CX outer P w H s Q E) s
section
variable {X:Cx} {oC:TC} {σ:St} {H:Hp} {s s':Shared}
theorem Inv.PZ (I:Inv X oC σ H s):Pw X.prog X.w X.K X.mg X.base X.A X.stack s H :=
 ⟨I.ok.frames,I.ok.mod,I.bs,cC I.ok.bsz I.sz,I.stack,I.MY,I.hok,I.bare⟩
theorem Inv.after {Q:VK} {u:Value} (I:Inv X oC σ H s) (h:CE X.stack X.prog X.w H s Q u s'):EP X oC σ Q u s':=by
 obtain⟨v,H',os,bare,un,hok,r,q⟩:=h;obtain⟨hh,g,d,t,os'⟩:=s';obtain rfl:os'=s.os:=os;exact⟨v,H',I.call (h':=hh) (g':=g) (d':=d) (t':=t) (ch:=[]) un hok bare #[Ug],r,q⟩
end
noncomputable def zl5 (sp:Sp) (vD:List V) (E:XK) (t:TA):TE:=fun σ H Q=>t σ H fun vs H1=>sp (vs++vD) H1 Q E
noncomputable def Binds (K:aD) (fd:FuncData) (ps:List Str) (ds:TH):Prop :=
 ∀ (s:Shared) (us:TH),K.In s.heap->(us++ds).length=ps.length->BindsTo s fd ⟨us,[]⟩ (ps.zip (us++ds))
theorem Binds.all {K:aD} {ps:List Str} (h:∀ us:List Value,us.length=ps.length->bindArgs fd ⟨us,[]⟩=pure #[Vl]):Binds K fd ps []:=fun s us _ hl=>by
 rw [du] at hl |-;exact .of_eq (h us hl)
noncomputable def zgO (CX:CXT) (X:Cx) (E:XK):Prop:=∀ (oC:TC) (σ:St) (H:Hp) (s:Shared) (e:Value) (s':Shared),Inv X oC σ H s->CX X.stack H s E e s'->X.xe e s'
section
variable {X:Cx} {CX:CXT} {k:Nat} {f C:Addr} {fd:FuncData} {ps:List Str} {sp:Sp} {vD:List V} {ds:TH} {E:XK} {x m:Str} {p pos apos:Pos} {e o:Expr} {es:List Expr} {ta:TE} {t:TA}
theorem zpR {σ:St} {Q:VK} {vs:List V} (F:LG X.prog X.w X.K X.mg X.base CX k f fd ps sp) (hr:Nf k X.A) (hb:Binds X.K fd ps ds) (hd:zQ vD ds) (hx:zgO CX X E)
  (I:Inv X oC σ H s) (r:zQ vs us) (h:sp (vs++vD) H Q E):wpAny #[or] X.A (call #[Ts] us) #[Qp] X.xe s:=by
 have r2:zQ (vs++vD) (us++ds):=r.append hd;have hl:(us++ds).length=ps.length:=by rw [<- r2.length]; exact F.len _ _ _ _ h
 refine jc (jd (F.run X.A X.stack s H ⟨us,[]⟩ (us++ds) (vs++vD) Q E hr I.PZ (hb s us I.kIn hl) r2 h) fun r s' hq=>?_);cases r with
 | error e=>exact hx oC σ H s e s' I hq
 | ok fl =>
  cases fl with
  | ret u=>exact I.after hq
  | next=>exact dU hq
  | brk=>exact dU hq
  | cont=>exact dU hq
theorem zq (F:LG X.prog X.w X.K X.mg X.base CX k f fd ps sp) (hr:Nf k X.A) (hg:Gl X x) (hm:X.mg x=some #[Ts]) (hk:gr X.K #[Ts]=true) (hb:Binds X.K fd ps ds) (hd:zQ vD ds) (hx:zgO CX X E)
  (ha:PA X (e :: es) t) (AH:(x == ("__debug__" : Str))=false:=by decide) (he:starEach (e :: es) X.env=#[Go] :: starEach es X.env:=by rfl) (pN:#[LE].any (·.1)=false:=by rfl) :
  PE X (.Call #[WU] (e :: es) [] pos) (zl5 sp vD E t):=by
 intro oC s σ H Q I h;refine ft #[U8];refine jE (h₀:=X.base) I.ok.mod.kin hk (thn #[Ch] fun us s1 ⟨vs,H1,I1,r,q⟩=>⟨I1.kIn,?_⟩) he pN;exact zpR F hr hb hd hx I1 r q
end
structure KE (N P:List Str) (sc:Scope):Prop where
 kind:sc.kind = .function
 co:sc.isCoroutine=false
 gen:sc.isGenerator=false
 nd:N.Nodup
 pre:N.take P.length=P
 par:∀ x∈P,sc.names.lookup x=some .local\/sc.names.lookup x=some .cell
 Pz:∀ y∈sc.names,y.2≠.free
theorem zgh {kindOf:Str->Option NameKind} {x:Str}:∀ {binds:List (Str×Value)} {m:TJ},(∀ v,(x,v)∉binds)->bindL kindOf binds m x=m x
 | [],_,_=>rfl
 | (n,v) :: r,m,h=>by
  unfold bindL;rw [zgh fun w hw=>h w (aY _ hw)];split
  ·have:x≠n:=by rintro rfl; exact h v bF
   simp [this]
  ·rfl
theorem zgi {kindOf:Str->Option NameKind} {x:Str}:∀ {binds:List (Str×Value)} {m:TJ},(∀ v,(x,v)∉binds)->bindC kindOf binds m x=m x
 | [],_,_=>rfl
 | (n,v) :: r,m,h=>by
  unfold bindC;rw [zgi fun w hw=>h w (aY _ hw)];split
  ·rfl
  ·have:x≠n:=by rintro rfl; exact h v bF
   simp [this]
theorem zgj {kindOf:Str->Option NameKind} {x:Str} {v:Value}:∀ {P:List Str} {vs:TH} {i:Nat} {m:TJ},P.Nodup->P[i]? = some x->vs[i]? = some v->kindOf x=some .local ->
  bindL kindOf (P.zip vs) m x=some v
 | [],_,_,_,_,h,_,_=>by simp at h
 | _ :: _,[],_,_,_,_,h,_=>by simp at h
 | p :: P,w :: vs,0,m,nd,h1,h2,hk=>by
  simp at h1 h2; subst h1; subst h2;show bindL kindOf #[TU] m p=_;unfold bindL;rw [zgh fun v hv=>(ik.mp nd).1 (il hv).1,if_pos hk];simp
 | p :: P,w :: vs,i+1,m,nd,h1,h2,hk=>by
  show bindL kindOf #[TU] m x=_;unfold bindL;exact zgj (i:=i) (ik.mp nd).2 #[U,h1] #[U,h2] hk
theorem zgk {kindOf:Str->Option NameKind} {x:Str} {v:Value}:∀ {P:List Str} {vs:TH} {i:Nat} {m:TJ},P.Nodup->P[i]? = some x->vs[i]? = some v->kindOf x≠some .local ->
  bindC kindOf (P.zip vs) m x=some v
 | [],_,_,_,_,h,_,_=>by simp at h
 | _ :: _,[],_,_,_,_,h,_=>by simp at h
 | p :: P,w :: vs,0,m,nd,h1,h2,hk=>by
  simp at h1 h2; subst h1; subst h2;show bindC kindOf #[TU] m p=_;unfold bindC;rw [zgi fun v hv=>(ik.mp nd).1 (il hv).1,if_neg hk];simp
 | p :: P,w :: vs,i+1,m,nd,h1,h2,hk=>by
  show bindC kindOf #[TU] m x=_;unfold bindC;exact zgk (i:=i) (ik.mp nd).2 #[U,h1] #[U,h2] hk
noncomputable def start (N:List Str) (vs:List V):St:=vs.map some++aV (N.length - vs.length) none
noncomputable def zb1 (CX:CXT) (P:Program) (w:World) (K:aD) (mg:TJ) (base:Heap) (N:List Str) (qual:Str) (scope:Scope) (f:Addr) (cd:Value) (A:Around) (outer:List Env) (s:Shared) (H:Hp) (E:XK):Cx where
 prog:=P
 w:=w
 K:=K
 mg:=mg
 base:=base
 A:=A.deeper #[IO]
 N:=N
 s₀:=s
 H₀:=H
 env:=envOfC qual scope s.heap.objs.size f cd
 outer:=outer
 stack:=envOfC qual scope s.heap.objs.size f cd :: outer
 ex:=[]
 calm:=true
 fn:=fun _=>true
 pn:=[]
 xe:=fun e s'=>wpAny #[SR] (A.deeper #[IO]) (leaving #[IO] e) (fun _ EU=>CX outer H s E e EU) (fun e' EU=>CX outer H s E e' EU) s'
theorem zhI {n:Nat} {x:Str} (h:sc.names.lookup x=some .cell):∃ c,(cellsFrom n sc.names []).lookup x=some c:=by
 have q:=iN sc.names n [] (.inl h);exact j6.mp q
theorem zgl {K:aD} {base:Heap} {ps:List Str} {f:Addr} {outer:List Env} {E:XK} {vs:List V}
  (S:KE N ps scope) (hd:A.handled=none) (e0:Pw P w K mg base A outer s H) (hl:vs.length=ps.length) (r:zQ vs us)
  (x:InCallC s s.heap.objs.size (bindL #[IO].kindOf #[Vl] fun _=>none) (cellsFrom #[Rn] scope.names []) (bindC #[IO].kindOf #[Vl] fun _=>none) s1) :
  Inv #[Sz] [] #[Rr] H s1:=by
 have pN:ps.length<=N.length:=by have:=congrArg eX S.pre; rw [bC] at this; lia
 obtain⟨h1,tk,rfl,hk⟩:=x.done;have BF:∀ b:Addr,b∉#[Sz].ex:=fun b z=>absurd (show b∈([]:TF) from z) #[M]
 refine⟨⟨e0.mod,S.kind,rfl,rfl,aG _,fun y z c h1 h2=>?_,fun y hy=>?_,fun y c _ h=>?_,fun _=>hd,Around.frames_deeper e0.frames,.inr ⟨rfl,rfl⟩,fun b z=>absurd z (BF b),e0.bs,e0.bsz,fun b _ _=>BF b,fun b z=>absurd z (BF b),e0.Oh,e0.frf⟩,
  rfl,e0.bare,Un.kept hk,⟨_,x.toInCall.ns,fun i y v h1 h2 h3=>?_⟩,fun y c h=>⟨_,x.cell y c h⟩,e0.hok.fresh (aG _),fun y c h=>?_,fun p hp=>absurd (show p∈([]:TC) from hp) #[M],e0.hok.kept hk,?_⟩
 ·exact name_of_addr x.apart (gC h1) (gC h2)
 ·have hy:scope.names.lookup y=some .cell\/scope.names.lookup y=some .free:=hy;rcases hy with hy | hy
  ·exact zhI hy
  ·exact absurd rfl (S.Pz _ (gC hy))
 ·exact fY (x.above y c (gC h))
 ·have hi:i < vs.length:=by
   unfold start at h2;by_cases hi:i < vs.length
   ·exact hi
   ·rw [dQ #[U,hi]] at h2;rw [fO] at h2;split at h2 <;> cases h2
  have ha:vs[i]? = some v:=by
   unfold start at h2;rw [cQ #[U,hi],aF] at h2;cases e:vs[i]? with
   | none=>rw [e] at h2; cases h2
   | some a=>rw [e] at h2; cases h2; rfl
  obtain⟨u,hu,rv⟩:=r.get ha;have hp:ps[i]? = some y:=by
   rw [<- S.pre,dw #[O]]; exact h1
  have ndP:ps.Nodup:=by rw [<- S.pre]; exact S.nd.sublist (gk _ _)
  refine⟨u,rv,?_⟩;rcases S.par y (aO hp) with k | k
  ·exact .inl ⟨k,zgj ndP hp hu k⟩
  ·obtain⟨c,e⟩:=zhI (n:=s.heap.objs.size+1) k;refine .inr ⟨.inl k,c,e,?_⟩;have q:=x.cell y c e;rw [zgk ndP hp hu (by show scope.names.lookup y≠_; rw [k]; decide)] at q;exact q
 ·exact e0.hok.fresh (fY (x.above y c (gC h)))
 ·unfold start;show _=N.length;rw [aS,aA,cU];lia
theorem zl6 {K:aD} {base:Heap} {f:Addr} {body:List Stmt} {dV kV:Value} 
  {ps:List Str} (lk:K.lookup f=some ⟨oc,od,.func #[IN],wV⟩) (sL:gQ K oU qual=true) (S:KE N ps scope)
  (len:∀ vs H Q E,sp vs H Q E->vs.length=ps.length)
  (qb:∀ (A:Around) (outer:List Env) (s:Shared) (H:Hp) (vs:List V) (Q:VK) (E:XK),Nf k #[SV]->sp vs H Q E ->
   ∃ t,PSs #[QA] body t/\t { nx:=fun _ H'=>Q .non H',rt:=Q } #[Rr] H) :
  LG P w K mg base CX (k+1) f #[IN] ps sp:=by
 refine#[Sy];have hl:=len _ _ _ _ uD;have KX:K.In s.heap:=e0.mod.kin.keeps fun b o e=>#[Ww].1
 have lim:s.heap.NoLimit:=e0.mod.nolimit.keeps fun b o e=>#[Ww].1
 have rV:∀ y∈ps.zip us,scope.names.lookup y.1=some .local\/(scope.names.lookup y.1=some .cell/\((cellsFrom #[Rn] scope.names []).lookup y.1).isSome=true):=fun ⟨n,v⟩ hy=>by
  rcases S.par n (il hy).1 with q | q
  ·exact .inl q
  ·exact .inr ⟨q,iN _ _ _ (.inl q)⟩
 refine kU hr.depth (KX _ _ lk) rfl S.co S.gen rfl (mj KX sL) (hb _ _ _ _ ?_);refine jM S.kind rV fun env he s1 x=>?_
 subst he;refine#[Tr];obtain⟨t,ht,hq⟩:=qb A outer s H vs Q E (hr.deeper _) uD;have I:Inv #[QA] [] #[Rr] H s1:=zgl S hr.hd e0 hl r x;refine dA (ht [] s1 #[Rr] H _ I hq) (fun fl s' hs=>?_) fun e s' hs=>hs
 have fin:∀ {σ':St} {H':Hp} {v:V} {u:Value},Inv #[QA] [] σ' H' s'->RelV v u->Q v H'->CE outer P w H s Q u s' :=
  fun {σ' H' v u} J rv q=>⟨v,H',J.os,J.bare,J.base,J.hok,rv,q⟩
 cases fl with
 | ret u =>
  obtain⟨v,σ',H',J,rv,q⟩:=hs;exact fin J rv q
 | next =>
  obtain⟨σ',H',J,q⟩:=hs;exact fin (v:=V.non) (u:=eZ) J rfl q
 | brk =>
  obtain⟨_,_,_,q⟩:=hs;exact dU q
 | cont =>
  obtain⟨_,_,_,q⟩:=hs;exact dU q
section
variable {X:Cx} {x:Str} {p pos:Pos} {e:Expr} {es:List Expr} {t:TA} {id T:String} {r:List V->Hp->VK->Prop}
noncomputable def tCB (r:List V->Hp->VK->Prop) (t:TA):TE:=fun σ H Q=>t σ H fun vs H1=>r vs H1 Q
theorem zm (hc:zbx X #[Sl] r) (hg:Gl X x) (hm:X.mg x=none) (hv:bootBuiltins x=some #[Sl]) (ha:PA X (e :: es) t) (hn:x≠"__name__":=by decide) (AH:(x == ("__debug__" : Str))=false:=by decide)
  (he:starEach (e :: es) X.env=#[Go] :: starEach es X.env:=by rfl) (pN:#[LE].any (·.1)=false:=by rfl):PE X (.Call #[WU] (e :: es) [] pos) (tCB r t):=by
 intro oC s σ H Q I h;refine ft #[Xg];exact PyProof.Rows.callWith_builtin1 (thn #[Ch] fun us s1 ⟨vs,H1,I1,r1,q1⟩=>hc oC s1 σ H1 vs us Q I1 r1 q1) he pN
theorem zaR (hc:zbx X (.type T) r) (hg:Gl X x) (hm:X.mg x=none) (hv:bootBuiltins x=some (.type T)) (ha:PA X (e :: es) t) (hn:x≠"__name__":=by decide) (AH:(x == ("__debug__" : Str))=false:=by decide)
  (he:starEach (e :: es) X.env=#[Go] :: starEach es X.env:=by rfl) (pN:#[LE].any (·.1)=false:=by rfl):PE X (.Call #[WU] (e :: es) [] pos) (tCB r t):=by
 intro oC s σ H Q I h;refine ft #[Xg];exact cR (thn #[Ch] fun us s1 ⟨vs,H1,I1,r1,q1⟩=>hc oC s1 σ H1 vs us Q I1 r1 q1) he pN
end
end L2
namespace HT
open PySem PyProof.Rows
section
variable {prog:Program} {w:World} {A:Around} {E:TB} {s:Shared}
noncomputable def sIx (n d:Nat):Option Int->Nat
 | none=>d
 | some v=>if v < 0 then (v+(n:Int)).toNat else min v.toNat n
theorem Mx (n d:Nat):sIx n d none=d:=rfl
theorem MF (n d k:Nat):sIx n d (some (k:Int))=min k n:=by
 show (if (k:Int) < 0 then ((k:Int)+(n:Int)).toNat else min (k:Int).toNat n)=min k n;rw [if_neg #[O],cB]
end
end HT
namespace L2
open PySem PySem.Spec PyProof.Rows
variable {A:Around} {H:Hp} {j t':Nat} {ns:TD} {oC:TC} {oF:TH} {s:Shared} {y:V} {ys:List V}
abbrev TO:=St->Hp->(Option Int->Hp->Prop)->Prop
noncomputable def PO (X:Cx) (e:Option Expr) (t:TO):Prop :=
 ∀ (oC:TC) (s:Shared) (σ:St) (H:Hp) (Q:Option Int->Hp->Prop),Inv X oC σ H s->t σ H Q ->
  wpAny #[or] X.A (evalPart e X.env) (fun u s'=>∃ o H',Inv X oC σ H' s'/\IsPart u o/\Q o H') X.xe s
noncomputable def zn5:TO:=fun _ H Q=>Q none H
noncomputable def zqS (t:TE):TO:=fun σ H Q=>t σ H fun x H1=>∃ i,x = .int i/\Q (some i) H1
theorem intsAre_of:∀ {us:TH},zQ #[Db] us->IntsAre us ns:=by
 induction ns with
 | nil=>intro us r; rw [f8] at r; cases r; exact .nil
 | cons n ns ih =>
  intro us r;rw [bT] at r;cases r with
  | cons r1 r2 =>
   obtain⟨t,e⟩:=r1;subst e;exact .cons n t (ih r2)
section
variable {X:Cx} {e:Expr} {te:TE} {lo hi:Option Expr} {tl th:TO} {pos p2:Pos}
theorem zb8:PO X none zn5:=by
 intro oC s σ H Q I h;rw [evalPart_none];exact aL ⟨none,H,I,.none,h⟩
theorem zbI (h:PE X e te):PO X (some e) (zqS te):=by
 intro oC s σ H Q I hw;rw [evalPart_some];refine thn #[UN] fun u s1 ⟨x,H1,I1,r1,q1⟩=>?_
 obtain⟨i,rfl,q⟩:=q1;obtain⟨t,rfl⟩:=r1;exact⟨some i,H1,I1,.int i t,q⟩
noncomputable def SlR (X:Cx) (r:V->Option Int->Option Int->Hp->VK->Prop):Prop :=
 ∀ (oC:TC) (s:Shared) (σ:St) (H:Hp) (x:V) (v vl vu:Value) (lo hi:Option Int) (sl:Addr) (Q:VK),Inv X oC σ H s->RelV x v->s.heap.IsSliceOf sl vl vu .none->IsPart vl lo->IsPart vu hi->r x lo hi H Q ->
  ∃ T id,typeLookup (.type T) "__getitem__" = pure (some #[Sl])/\s.TypeIs v T/\wpAny #[or] X.A (getItem v (.ref sl)) #[Qp] X.xe s
noncomputable def tSl (r:V->Option Int->Option Int->Hp->VK->Prop) (te:TE) (tl th:TO):TE:=fun σ H Q=>te σ H fun x H1=>tl σ H1 fun l H2=>th σ H2 fun u H3=>r x l u H3 Q
theorem zbs {r:V->Option Int->Option Int->Hp->VK->Prop} (hr:SlR X r) (he:PE X e te) (hl:PO X lo tl) (hu:PO X hi th):PE X (.Subscript e (.Slice lo hi none p2) pos) (tSl r te tl th):=by
 intro oC s σ H Q I h;refine lr (thn #[QP] fun v s1 ⟨x,H1,I1,r1,q1⟩=>?_);refine wpAny_Slice (thn (hl oC s1 σ H1 _ I1 q1) fun vl s2 ⟨l,H2,I2,pl,q2⟩=>thn (hu oC s2 σ H2 _ I2 q2) fun vu s3 ⟨u,H3,I3,pu,q3⟩=>?_);rw [evalPart_none];refine aL ?_;have I4:Inv X oC σ H3 { s3 with heap:=s3.heap.push { cls:=.type "slice",data:=.fields #[vl,vu,.none] } }:=I3.kept (t':=s3.toks) fun b ob q=>aI _ q
 obtain⟨T,id,hT,ht,hg⟩:=hr oC { s3 with heap:=s3.heap.push { cls:=.type "slice",data:=.fields #[vl,vu,.none] } } σ H3 x v vl vu l u s3.heap.objs.size Q I4 r1 (Heap.IsSliceOf.new ..) pl pu q3;show wpAny #[or] X.A (subscriptTail e (.Slice lo hi none p2) v (.ref s3.heap.objs.size)) #[Qp] X.xe { s3 with heap:=s3.heap.push { cls:=.type "slice",data:=.fields #[vl,vu,.none] } };exact tail_any (ops:=[.ref s3.heap.objs.size,v]) ht hT hg (by with_unfolding_all rfl)
noncomputable def zb6 (xs:List V) (lo hi:Option Int):List V:=(xs.drop (HT.sIx xs.length 0 lo)).take #[Sm]
theorem zhJ (xs:List V) (lo hi:Option Int):(zb6 xs lo hi).length<=xs.length:=by
 unfold zb6;rw [bC,fq];lia
end
noncomputable def ixN (n:Nat) (i:Int):Option Nat:=if 0<=i then (if i < n then some i.toNat else none) else if -(n:Int)<=i then some (i+n).toNat else none
noncomputable def atI {α:Type} (xs:List α) (i:Int):Option α:=(ixN xs.length i).bind fun j=>xs[j]?
theorem zjP {n:Nat} {i:Int} (h:ixN n i=some j):seqIndex? i n=some j/\j < n/\-(n:Int)<=i/\i < n:=by
 unfold ixN at h;by_cases h0:0<=i
 ·rw [if_pos h0] at h;by_cases h1:i < n
  ·rw [if_pos h1] at h;have e:i.toNat=j:=bI h;exact⟨by rw [jz h0 h1,e],#[O],#[O],h1⟩
  ·rw [if_neg h1] at h; cases h
 ·rw [if_neg h0] at h;by_cases h1:-(n:Int)<=i
  ·rw [if_pos h1] at h;have e:(i+n).toNat=j:=bI h;exact⟨by rw [ml #[O] h1,e],#[O],h1,#[O]⟩
  ·rw [if_neg h1] at h; cases h
theorem zjQ {α:Type} {xs:List α} {i:Int} {v:α} (h:atI xs i=some v):∃ j,seqIndex? i xs.length=some j/\xs[j]? = some v/\j < xs.length/\-(xs.length:Int)<=i/\i < xs.length:=by
 unfold atI at h;cases e:ixN xs.length i with
 | none=>rw [e] at h; cases h
 | some j =>
  rw [e] at h;obtain⟨h1,h2,h3,h4⟩:=zjP e;exact⟨j,h1,h,h2,h3,h4⟩
theorem z9 {α:Type} {xs:List α} {v:α} (h:xs[j]? = some v):atI xs (j:Int)=some v:=by
 have hj:j < xs.length:=(aK.mp h).1;have e:ixN xs.length (j:Int)=some j:=by
  unfold ixN;rw [if_pos #[O],if_pos #[O]]; simp
 unfold atI; rw [e]; exact h
noncomputable def zn6 (b:Expr):Prop:=∀ o i,subscripted b false o i=operate [o,i] (getItem o i)
noncomputable def IxR (X:Cx) (r:R2):Prop :=
 ∀ (value slice:Expr) (oC:TC) (s:Shared) (σ:St) (H:Hp) (x y:V) (v u:Value) (Q:VK),Inv X oC σ H s->RelV x v->RelV y u->r x y H Q ->
  subscripted slice false v u=operate [v,u] (getItem v u)->wpAny #[or] X.A (subscriptTail value slice v u) #[Qp] X.xe s
noncomputable def MtR (X:Cx) (id:String) (r:V->List V->Hp->VK->Prop):Prop :=
 ∀ (oC:TC) (s:Shared) (σ:St) (H:Hp) (x:V) (xs:List V) (v:Value) (us:TH) (Q:VK),Inv X oC σ H s->RelV x v->zQ xs us->r x xs H Q ->
  wpAny #[or] X.A (call #[Sl] (v :: us)) #[Qp] X.xe s
section
variable {X:Cx} {a b:Expr} {ta tb:TE} {pos:Pos}
theorem zM {r:R2} (hr:IxR X r) (ha:PE X a ta) (hb:PE X b tb) (hs:zn6 b):PE X (.Subscript a b pos) #[Wt]:=by
 intro oC s σ H Q I h;exact lr (zpK ha hb I h fun v u s2 x y H2 I2 rx ry q=>hr a b oC s2 σ H2 x y v u Q I2 rx ry q (hs _ _))
noncomputable def zqT (K:aD):R2:=fun x y H Q=>∃ p xs i v,x = .ref p/\y = .int i/\oE K H p xs/\atI xs i=some v/\Q v H
noncomputable def zqU (K:aD):R2:=fun x y H Q=>∃ p xs i v,x = .ref p/\y = .int i/\oQ K H p xs/\atI xs i=some v/\Q v H
theorem zB:IxR X (zqT X.K):=by
 intro value slice oC s σ H x y v u Q I rx ry h hs;obtain⟨p,xs,i,z,rfl,rfl,hq,he,q⟩:=h;cases rx;obtain⟨t,rfl⟩:=ry;obtain⟨oF,r,pl,hz⟩:=I.list hq;obtain⟨j,h1,h2,h3,h4,h5⟩:=zjQ he;obtain⟨w,ew,wW⟩:=r.get h2;have hl:=r.length;have hn:=zfj;have fin:EP X oC σ Q w s:=⟨z,H,I,wW,q⟩;by_cases h0:0<=i
 ·have hj:i.toNat=j:=by
   rw [jz h0 h5] at h1;exact bI h1
  exact item_listR pl.isList h0 #[O] (by rw [hj]; simpa using ew) fin hs
 ·have hj:(i+(oF.toArray.size:Int)).toNat=j:=by
   rw [ml #[O] h4] at h1;rw [aP,<- hl];exact bI h1
  exact iO (x:=w) pl.isList.typeIs slot_list_getitem.lookup
   (wpAny_getItem_list_neg (Q:=fun r s'=>r=w/\EP X oC σ Q r s') pl.isList #[O] (by rw [aP] <;> lia) #[O] (by rw [hj]; simpa using ew) ⟨rfl,fin⟩) hs
theorem zdu:IxR X (zqU X.K):=by
 intro value slice oC s σ H x y v u Q I rx ry h hs;obtain⟨p,xs,i,z,rfl,rfl,hq,he,q⟩:=h;cases rx;obtain⟨t,rfl⟩:=ry;obtain⟨oF,r,pl,hz⟩:=I.tuple hq;obtain⟨j,h1,h2,h3,h4,h5⟩:=zjQ he;obtain⟨w,ew,wW⟩:=r.get h2;have hl:=r.length;have hn:=zfj;have fin:EP X oC σ Q w s:=⟨z,H,I,wW,q⟩;exact iO (x:=w) pl.typeIs slot_tuple_getitem.lookup
  (lL (j:=j) (Q:=fun r s'=>r=w/\EP X oC σ Q r s') pl #[O] #[O] (by rw [aP,<- hl]; exact h1) #[U,ew] ⟨rfl,fin⟩) hs
theorem ziV (oF:TH) (n j:Nat) (u:Value):fE (·.setIfInBounds j u) { cls:=.type "list",data:=.seq oF.toArray n } = { cls:=.type "list",data:=.seq (oF.set j u).toArray n }:=by
 simp [fE]
theorem Inv.lst {oC:TC} {σ:St} {H:Hp} {s:Shared} {p:Addr} {xs:List V} (I:Inv X oC σ H s) (h:H p=some #[Ry]) :
  ∃ (oF:TH) (n:Nat),zQ xs oF/\s.heap.get? p=some { cls:=.type "list",data:=.seq oF.toArray n }/\xs.length<=sizeLine:=by
 obtain⟨z,oF,n,r,e⟩:=I.hok p _ h;exact⟨oF,n,r,e,z⟩
theorem Inv.PD {σ:St} {p:Addr} {xs:List V} {its':TH} {n n':Nat} {f:Obj->Obj} (I:Inv X oC σ H s) (h:H p=some #[Ry])
  (ho:s.heap.get? p=some { cls:=.type "list",data:=.seq oF.toArray n }) (hf:f { cls:=.type "list",data:=.seq oF.toArray n } = { cls:=.type "list",data:=.seq its'.toArray n' }) (r:zQ ys its') (hz:ys.length<=sizeLine) (t:Nat) :
  Inv X oC σ (oG H p #[Uq]) { s with heap:=s.heap.update p f,toks:=t }:=by
 have e:(s.heap.update p f).get? p=some { cls:=.type "list",data:=.seq its'.toArray n' }:=by
  rw [gd f ho (by rw [hf] <;> rfl),hf]
 refine I.write (x:=p) (e:=p) (by rw [h]; trivial) #[Q3] (fun b u hb q=>(iP _ _ (dY hb)).trans q) ⟨_,e⟩ ?_;exact⟨hz,its',n',r,e⟩
noncomputable def zqV:V->V->V->Hp->(Hp->Prop)->Prop:=fun o i v H Q=>∃ p xs k j,o = .ref p/\i = .int k/\H p=some #[Ry]/\ixN xs.length k=some j/\Q (oG H p (.lst (xs.set j v)))
theorem set_list:zqM X zqV:=by
 intro oC s σ H o i v ov iv u Q I ro ri rv h;obtain⟨p,xs,k,j,rfl,rfl,hp,hj,q⟩:=h;cases ro;obtain⟨t,rfl⟩:=ri;obtain⟨oF,n,r,ho,hz⟩:=I.lst hp;obtain⟨h1,h2,h3,h4⟩:=zjP hj;have hl:=r.length;have hn:=zfj;have I':Inv X oC σ (oG H p (.lst (xs.set j v))) { s with heap:=s.heap.update p (fE (·.setIfInBounds j u)) } :=
  I.PD hp ho (ziV oF n j u) (r.set rv j) (by rw [eE]; exact hz) s.toks
 by_cases h0:0<=k
 ·have hk:k.toNat=j:=by
   rw [jz h0 h4] at h1;exact bI h1
  exact PySem.W.ki_setAt ho h0 #[O] (by rw [aP,<- hl]; exact h4) (by rw [hk]; exact⟨_,I',q⟩)
 ·have hk:(k+(oF.toArray.size:Int)).toNat=j:=by
   rw [ml #[O] h3] at h1;rw [aP,<- hl];exact bI h1
  exact PySem.W.ki_setBack ho #[O] (by rw [aP,<- hl]; exact h3) #[O] (by rw [hk]; exact⟨_,I',q⟩)
theorem zgP (lo hi:Option Int) (n:Nat):#[To].1=((HT.sIx n 0 lo:Nat):Int)/\#[To].2.1=((HT.sIx n n hi:Nat):Int)/\#[To].2.2=1:=by
 refine⟨?_,?_,rfl⟩
 ·cases lo with
  | none=>simp [sliceBounds,HT.sIx]
  | some i =>
   simp only [sliceBounds,HT.sIx,nj,show (1:Int) > 0 by decide,if_true];by_cases h:i < 0
   ·simp only [h,if_true] <;> lia
   ·simp only [h,if_false] <;> lia
 ·cases hi with
  | none=>simp [sliceBounds,HT.sIx]
  | some i =>
   simp only [sliceBounds,HT.sIx,nj,show (1:Int) > 0 by decide,if_true];by_cases h:i < 0
   ·simp only [h,if_true] <;> lia
   ·simp only [h,if_false] <;> lia
theorem zfW (oF:TH) (lo hi:Option Int):slicePick oF.toArray lo hi none=((oF.drop (HT.sIx oF.length 0 lo)).take (HT.sIx oF.length oF.length hi - HT.sIx oF.length 0 lo)).toArray:=by
 obtain⟨h1,h2,h3⟩:=zgP lo hi oF.toArray.size;unfold slicePick;rw [h1,h2,h3];simp only [sliceRange_one,pick_run,aP] <;> rfl
noncomputable def zqW (K:aD):V->Option Int->Option Int->Hp->VK->Prop:=fun x lo hi H Q=>∃ a xs,x = .ref a/\oE K H a xs/\∀ p,H p=none->Q (.ref p) (oG H p (.lst (zb6 xs lo hi)))
theorem zbX:SlR X (zqW X.K):=by
 intro oC s σ H x v vl vu lo hi sl Q I rx hs pl pu h;obtain⟨a,xs,rfl,hx,q⟩:=h;cases rx;obtain⟨oF,r,ht,hz⟩:=I.list hx;have oO:=r.length;refine⟨"list",_,slot_list_getitem.lookup,ht.isList.typeIs,?_⟩;refine wpAny_getItem_list_slice ht.isList hs pl pu .none #[M] ?_ (by rw [aP] <;> lia);rw [zfW,<- oO];refine⟨.ref s.heap.objs.size,_,I.laid (t':=s.toks) (o:=.lst (zb6 xs lo hi)) (fun b ob q=>aI _ q) (aG _) ?_,rfl,q _ #[Tl]⟩;exact⟨cC (zhJ xs lo hi) hz,_,0,(r.drop (HT.sIx xs.length 0 lo)).take #[Sm],aZ _ rfl⟩
noncomputable def zcV:V->Bool
 | .non=>true
 | .bl _=>true
 | .int _=>true
 | .str _=>true
 | _=>false
noncomputable def eqV:V->V->Bool
 | .non,.non=>true
 | .bl a,.bl b=>a == b
 | .bl a,.int b=>(if a then 1 else 0) == b
 | .int a,.bl b=>a == (if b then 1 else 0)
 | .int a,.int b=>a == b
 | .str a,.str b=>a == b
 | _,_=>false
theorem zl7 {x:V} {u v:Value} (ry:RelV y u) (rx:RelV x v) (fy:zcV y=true) (fx:zcV x=true):lu A s u v (eqV y x):=by
 cases y with
 | non =>
  cases ry;cases x with
  | non=>cases rx; exact nI _
  | bl b=>cases rx; exact SeqAt.EqAt.none_bool b
  | int b=>obtain⟨t,rfl⟩:=rx; exact SeqAt.EqAt.none_int b t
  | str b=>obtain⟨t,rfl⟩:=rx; exact SeqAt.EqAt.none_str b t
  | _=>exact absurd (show false=true from fx) bH
 | bl a =>
  cases ry;cases x with
  | non=>cases rx; exact SeqAt.EqAt.bool_none a
  | bl b=>cases rx; exact SeqAt.EqAt.bool_bool a b
  | int b=>obtain⟨t,rfl⟩:=rx; exact SeqAt.EqAt.bool_int a b t
  | str b=>obtain⟨t,rfl⟩:=rx; exact SeqAt.EqAt.bool_str a b t
  | _=>exact absurd (show false=true from fx) bH
 | int a =>
  obtain⟨t',rfl⟩:=ry;cases x with
  | non=>cases rx; exact SeqAt.EqAt.int_none a t'
  | bl b=>cases rx; exact SeqAt.EqAt.int_bool a t' b
  | int b=>obtain⟨t,rfl⟩:=rx; exact SeqAt.EqAt.int_int a t' b t
  | str b=>obtain⟨t,rfl⟩:=rx; exact me a t' b t
  | _=>exact absurd (show false=true from fx) bH
 | str a =>
  obtain⟨t',rfl⟩:=ry;cases x with
  | non=>cases rx; exact SeqAt.EqAt.str_none a t'
  | bl b=>cases rx; exact SeqAt.EqAt.str_bool a t' b
  | int b=>obtain⟨t,rfl⟩:=rx; exact mf a t' b t
  | str b=>obtain⟨t,rfl⟩:=rx; exact SeqAt.EqAt.str_str a t' b t
  | _=>exact absurd (show false=true from fx) bH
 | _=>exact absurd (show false=true from fy) bH
noncomputable def eqU (x:V) (u:Value):Bool:=match u with
 | .none=>eqV .non x
 | .bool b=>eqV (.bl b) x
 | .int i _=>eqV (.int i) x
 | .str z _=>eqV (.str z) x
 | _=>false
theorem zl8 {x:V} {u:Value} (r:RelV y u) (f:zcV y=true):eqU x u=eqV y x:=by
 cases y with
 | non=>cases r; rfl
 | bl b=>cases r; rfl
 | int i=>obtain⟨t,rfl⟩:=r; rfl
 | str z=>obtain⟨t,rfl⟩:=r; rfl
 | _=>exact absurd (show false=true from f) bH
theorem zgQ {x:V}:∀ {xs:List V} {us:TH},zQ xs us->xs.all zcV=true->us.any (eqU x)=xs.any fun y=>eqV y x
 | _,_,.nil,_=>rfl
 | y :: xs,u :: us,.cons r t,f=>by
  rw [lM,gv] at f;rw [iS,iS,zl8 r f.1,zgQ t f.2]
theorem zfk {A:Around} {s:Shared} {x:V} {v:Value} (rx:RelV x v) (fx:zcV x=true):∀ {xs:List V} {us:TH},zQ xs us->xs.all zcV=true->∀ u∈us,lu A s u v (eqU x u)
 | _,_,.nil,_=>fun u hu=>by cases hu
 | y :: xs,u :: us,.cons r t,f=>fun u' hu=>by
  rw [lM,gv] at f;rcases bD.mp hu with rfl | hu
  ·rw [zl8 r f.1]; exact zl7 r rx f.1 fx
  ·exact zfk rx fx t f.2 u' hu
noncomputable def inV (x:V) (xs:List V):Bool:=xs.any fun y=>eqV y x
noncomputable def rIn (K:aD) (neg:Bool):R2:=fun x y H Q=>∃ p xs,y = .ref p/\(oE K H p xs\/oQ K H p xs)/\zcV x=true/\xs.all zcV=true/\Q (.bl (if neg then !inV x xs else inV x xs)) H
theorem zkL:OpR X (compareOp .In) (rIn X.K false):=by
 intro oC s σ H x y v u Q I rx ry h;obtain⟨p,xs,rfl,hq,fx,fs,q⟩:=h;cases ry;rcases hq with hq | hq
 ·obtain⟨oF,r,pl,hz⟩:=I.list hq;refine SeqAt.in_listAt (eqU x) pl.isList #[VO] #[Qq];rw [show oF.toArray.any (eqU x)=oF.any (eqU x) by simp,zgQ r fs];exact q
 ·obtain⟨oF,r,pl,hz⟩:=I.tuple hq;refine SeqAt.in_tupleAt (eqU x) pl #[VO] #[Qq];rw [show oF.toArray.any (eqU x)=oF.any (eqU x) by simp,zgQ r fs];exact q
theorem zt:zbx X (.builtin "len") (fun xs H Q=>∃ p ys,xs = [.ref p]/\(oE X.K H p ys\/oQ X.K H p ys)/\Q (.int ys.length) H):=by
 intro oC s σ H xs us Q I r h;obtain⟨p,ys,rfl,hq,q⟩:=h;obtain⟨u,rfl,rx⟩:=vals1 r;cases rx;have hn:=zfj;rcases hq with hq | hq
 ·obtain⟨oF,r',pl,hz⟩:=I.list hq;have oO:=r'.length;exact Calls.call_len_list pl.isList (by simp only [aP] <;> lia) ⟨.int ys.length,H,I.tok _,⟨s.toks+1,by rw [aP,oO]⟩,q⟩
 ·obtain⟨oF,r',pl,hz⟩:=I.tuple hq;have oO:=r'.length;exact len_tuple pl (by simp only [aP] <;> lia) ⟨.int ys.length,H,I.tok _,⟨s.toks+1,by rw [aP,oO]⟩,q⟩
theorem zcD:zbx X (.type "list") (fun xs H Q=>∃ p ys,xs = [.ref p]/\(oE X.K H p ys\/oQ X.K H p ys)/\∀ l,H l=none->Q #[RB] (oG H l #[Uq])):=by
 intro oC s σ H xs us Q I r h;obtain⟨p,ys,rfl,hq,q⟩:=h;obtain⟨u,rfl,rx⟩:=vals1 r;cases rx;have fin:∀ (oF:TH),zQ ys oF->ys.length<=sizeLine->∀ (h':Heap) (c':Nat),(∀ b o',s.heap.get? b=some o'->h'.get? b=some o') ->
   h'.get? s.heap.objs.size=some { cls:=.type "list",dict:=none,data:=.seq oF.toArray c',slots:=#[] }->EP X oC σ Q #[At] { s with heap:=h' }:=fun oF r' hz h' c' kp e =>
  ⟨.ref s.heap.objs.size,_,I.laid (t':=s.toks) kp (aG _) (show zak X.prog X.w _ h' _ #[Uq] from ⟨hz,oF,c',r',e⟩),rfl,q _ #[Tl]⟩
 rcases hq with hq | hq
 ·obtain⟨oF,r',pl,hz⟩:=I.list hq;have oO:=r'.length;obtain⟨o,ho,hc,n,hd⟩:=pl.isList;exact call_list_seq p #[Q3] ho hc hd #[T6] (by simp only [aP] <;> lia)
 ·obtain⟨oF,r',pl,hz⟩:=I.tuple hq;have oO:=r'.length;obtain⟨o,ho,hc,n,hd⟩:=pl;exact call_list_seq p (.inr rfl) ho hc hd #[T6] (by simp only [aP] <;> lia)
theorem zbd:zbx X (.type "tuple") (fun xs H Q=>∃ p ys,xs = [.ref p]/\((oE X.K H p ys/\∀ l,H l=none->Q #[RB] (oG H l (.tup ys)))\/(oQ X.K H p ys/\Q (.ref p) H))):=by
 intro oC s σ H xs us Q I r h;obtain⟨p,ys,rfl,h⟩:=h;obtain⟨u,rfl,rx⟩:=vals1 r;cases rx;rcases h with ⟨hq,q⟩ | ⟨hq,q⟩
 ·obtain⟨oF,r',pl,hz⟩:=I.list hq;have oO:=r'.length;refine call_tuple_list pl.isList (fun h' kp=>?_) (by simp only [aP] <;> lia);have I1:Inv X oC σ H { s with heap:=h' }:=I.kept (t':=s.toks) kp;have I2:Inv X oC σ (oG H h'.objs.size (.tup ys)) { s with heap:=h'.push { cls:=.type "tuple",data:=.seq oF.toArray } } :=
   I1.laid (t':=s.toks) (fun b o e=>aI _ e) (aG _) (show zak X.prog X.w _ _ _ (.tup ys) from ⟨hz,oF,r',IsTup.new _ _⟩)
  exact⟨.ref h'.objs.size,_,I2,rfl,q _ #[Qs]⟩
 ·obtain⟨oF,r',pl,hz⟩:=I.tuple hq;exact call_tuple_same pl ⟨.ref p,H,I,rfl,q⟩
noncomputable def tyV (K:aD) (T:String) (x:V) (H:Hp):Prop:=match x with
 | .str _=>T = "str"
 | .int _=>T = "int"
 | .ref p=>(T = "list"/\∃ xs,oE K H p xs)\/(T = "tuple"/\∃ o,K.lookup p=some o/\o.cls = .type "tuple"/\o.dict=none) \/
   (T = "dict"/\((∃ kvs,H p=some #[Tq])\/∃ kvs,H p=some #[QZ]))\/(T = "set"/\∃ S n,H p=some (.set S n))
 | _=>False
theorem zpS {σ:St} {T:String} {x:V} {v:Value} (I:Inv X oC σ H s) (r:RelV x v) (ty:tyV X.K T x H) :
  s.TypeIs v T/\∀ a,v = .ref a->∃ ob,s.heap.get? a=some ob/\ob.dict=none:=by
 cases x with
 | str z =>
  obtain⟨t,rfl⟩:=r;cases (show T = "str" from ty);exact⟨typeIs_str s z t,fun _ e=>nomatch e⟩
 | int i =>
  obtain⟨t,rfl⟩:=r;cases (show T = "int" from ty);exact⟨nJ s i t,fun _ e=>nomatch e⟩
 | ref p =>
  cases r;rcases ty with ⟨rfl,xs,hq⟩ | ⟨rfl,o,hk,hc,hd⟩ | ⟨rfl,hk⟩ | ⟨rfl,S,n,hk⟩
  ·obtain⟨oF,_,pl,_⟩:=I.list hq;refine⟨pl.isList.typeIs,fun a e=>?_⟩;cases e;obtain⟨o,n,e,c,hd,_⟩:=pl;exact⟨o,e,hd⟩
  ·refine⟨⟨o,I.kIn p o hk,hc⟩,fun a e=>?_⟩;cases e;exact⟨o,I.kIn _ o hk,hd⟩
  ·have z:∃ o,s.heap.get? p=some o/\o.ExactDict:=by
    rcases hk with ⟨kvs,hk⟩ | ⟨kvs,hk⟩
    ·obtain⟨_,_,_,_,o,_,_,e,ex,_⟩:=I.hok p _ hk;exact⟨o,e,ex⟩
    ·obtain⟨_,_,_,_,o,_,_,e,ex,_⟩:=I.hok p _ hk;exact⟨o,e,ex⟩
   obtain⟨o,e,ex⟩:=z;refine⟨⟨o,e,ex.1⟩,fun a e2=>?_⟩;cases e2;exact⟨o,e,ex.2.1⟩
  ·obtain⟨o,_,_,_,e,ex,_⟩:=I.hok p _ hk;refine⟨⟨o,e,ex.1⟩,fun a e2=>?_⟩;cases e2;exact⟨o,e,ex.2.1⟩
 | _=>exact dU ty
noncomputable def tBM (K:aD) (T:String) (r:V->List V->Hp->VK->Prop) (to:TE) (t:TA):TE:=fun σ H Q=>to σ H fun x H1=>tyV K T x H1/\t σ H1 fun xs H2=>r x xs H2 Q
variable {o e:Expr} {es:List Expr} {to:TE} {t:TA} {name:Str} {apos pd:Pos} {T id:String} {r:V->List V->Hp->VK->Prop}
theorem zcR (pa:PlainAttrs T) (slot:Slot T name id) (Ih:typeOf #[Sl]=pure (.type "method_descriptor")) (hm:MtR X id r) (ho:PE X o to) (ha:PA X (e :: es) t)
  (uE:attributeBase o name X.env #[Ub]=eval o X.env:=by rfl)
  (yp:(#[UV].all (fun x=>!x.1) && (backToKw pd (keywordEach [] X.env)).all (fun x=>x.1.isSome)
   && decide ((e :: es).length+([]:List Keyword).length+(if ([]:List Keyword).isEmpty then 0 else 1) < 30))=true:=by rfl)
  (uF:(apos.endLine == pd.line)=true:=by rfl) (hs:starEach (e :: es) X.env=#[Go] :: starEach es X.env:=by rfl) (vE:#[Sv].any (·.1)=false:=by rfl) :
  PE X (.Call (.Attribute o name apos) (e :: es) [] pd) (tBM X.K T r to t):=by
 intro oC s σ H Q I h;refine wpAny_Call_method_late uE yp uF rfl (thn #[RT] fun v s1 ⟨x,H1,I1,r1,ty,q1⟩=>?_);obtain⟨h1,h2⟩:=zpS I1 r1 ty;refine⟨T,id,pa,slot,Ih,h1,h2,?_⟩;have hA:=ha pd oC s1 σ H1 _ I1 q1;rw [hs] at hA |-;refine iQ (by show (false || #[Sv].any (·.1))=false; rw [vE] <;> rfl) (je ?_);exact thn hA fun us s2 ⟨vs,H2,I2,r2,q2⟩=>hm oC s2 σ H2 x vs v us Q I2 r1 r2 q2
end
noncomputable def MtM (X:Cx) (id:String) (r:V->List V->Hp->VK->Prop):Prop :=
 ∀ (oC:TC) (s:Shared) (σ:St) (H:Hp) (x:V) (xs:List V) (v:Value) (us:TH) (Q:VK),Inv X oC σ H s->RelV x v->zQ xs us->r x xs H Q ->
  wpAny #[or] X.A (call #[Sl] (v :: us)) #[Qp] X.xe s
theorem zQ.one:∀ {x:V} {us:TH},zQ [x] us->∃ u,us = [u]/\RelV x u
 | _,_,.cons r .nil=>⟨_,rfl,r⟩
theorem zQ.eraseIdx:∀ {xs:List V} {us:TH} (i:Nat),zQ xs us->zQ (xs.eraseIdx i) (us.eraseIdx i)
 | _,_,_,.nil=>.nil
 | _,_,0,.cons _ t=>t
 | _,_,i+1,.cons r t=>.cons r (zQ.eraseIdx i t)
theorem zQ.rep {xs:List V} {us:TH} (h:zQ xs us):∀ k:Nat,zQ (aV k xs).flatten (aV k us).flatten
 | 0=>.nil
 | k+1=>by
  rw [eC,eC,gm,gm];exact zQ.append h (zQ.rep h k)
theorem zgm {α:Type}:∀ (l:List α) (i:Nat),(l.eraseIdx i).length<=l.length
 | [],_=>aG _
 | _ :: _,0=>kM _
 | _ :: r,i+1=>fS (zgm r i)
theorem foldl_rep (oF:TH):∀ (k:Nat) (acc:TH),
  nK #[V8] acc.toArray (aV k oF.toArray)=(acc++(aV k oF).flatten).toArray
 | 0,acc=>by simp
 | k+1,acc=>by
  have e:acc.toArray++oF.toArray=(acc++oF).toArray:=by simp
  have e2:(acc++oF)++(aV k oF).flatten=acc++(aV (k+1) oF).flatten:=by
   rw [eC,gm,cE]
  rw [<- e2,<- foldl_rep oF k (acc++oF),<- e,eC,List.foldl_cons]
section
variable {X:Cx} {oC:TC} {σ:St} {H:Hp} {s:Shared} {l b:Addr} {xs ys zs:List V}
theorem Inv.PN {its':TH} {n:Nat} {f:Array Value->Array Value} (I:Inv X oC σ H s) (hH:H l=some #[Ry])
  (e:s.heap.get? l=some { cls:=.type "list",data:=.seq oF.toArray n }) (hf:f oF.toArray=its'.toArray) (hv:zQ ys its') (hz:ys.length<=sizeLine) :
  Inv X oC σ (oG H l #[Uq]) { s with heap:=s.heap.update l (fE f),toks:=t' }:=by
 have q:=nk e f;rw [hf] at q;refine I.write (x:=l) (e:=l) (by rw [hH]; exact trivial) #[Q3] (fun b' u hb hu=>(iP s.heap (fE f) (dY hb)).trans hu) ⟨_,q⟩ ?_;exact⟨hz,its',_,hv,q⟩
theorem Inv.P7 (I:Inv X oC σ H s) (hv:zQ ys oF) (hz:ys.length<=sizeLine) :
  Inv X oC σ (oG H s.heap.objs.size #[Uq]) { s with heap:=s.heap.push { cls:=.type "list",data:=.seq oF.toArray },toks:=t' } :=
 I.laid #[VL] (aG _) ⟨hz,oF,0,hv,aZ _ rfl⟩
theorem Inv.fresh (I:Inv X oC σ H s):H s.heap.objs.size=none:=I.hok.fresh (aG _)
theorem Inv.OX (I:Inv X oC σ H s) (hH:H l=some #[Ry]):xs.length<=sizeLine/\∃ (oF:TH) (n:Nat),zQ xs oF/\xs.length=oF.length/\s.heap.get? l=some { cls:=.type "list",data:=.seq oF.toArray n }:=by
 obtain⟨z,oF,n,r,e⟩:=I.hok l _ hH;exact⟨z,oF,n,r,r.length,e⟩
theorem zfl {n:Nat} (h:n<=sizeLine):fF n=false:=by
 unfold fF;exact decide_eq_false #[O]
end
section
variable {X:Cx}
noncomputable def zn7:V->List V->Hp->VK->Prop:=fun x vs H Q=>∃ l xs y,x = .ref l/\vs = [y]/\H l=some #[Ry]/\xs.length < sizeLine/\Q .non (oG H l (.lst (xs++[y])))
theorem zbz:MtM X "list.append" zn7:=by
 intro oC s σ H x vs v us Q I rx rv h;obtain⟨l,xs,y,rfl,rfl,hH,hz,q⟩:=h;cases rx;obtain⟨u,rfl,ru⟩:=rv.one;obtain⟨z,oF,n,r,hl,e⟩:=I.OX hH;refine gp mo ⟨_,e,rfl⟩ lU (lx _ _) (mP l oF.toArray n u (by rw [aP]; lia)) ⟨e,?_⟩;refine⟨.non,_,I.PN (its':=oF++[u]) hH e #[M] (r.append (.cons ru .nil)) ?_,rfl,q⟩;rw [aS,gR];lia
noncomputable def zn8:V->List V->Hp->VK->Prop:=fun x vs H Q=>∃ l b xs zs,x = .ref l/\vs = [.ref b]/\H l=some #[Ry]/\H b=some (.lst zs)/\xs.length+zs.length<=sizeLine/\Q .non (oG H l (.lst (xs++zs)))
theorem zgn:MtM X "list.extend" zn8:=by
 intro oC s σ H x vs v us Q I rx rv h;obtain⟨l,b,xs,zs,rfl,rfl,hH,hB,hz,q⟩:=h;cases rx;obtain⟨u,rfl,ru⟩:=rv.one;cases ru;obtain⟨z,oF,n,r,hl,e⟩:=I.OX hH;obtain⟨z2,pj,n2,r2,qc,e2⟩:=I.OX hB;have hsz:oF.toArray.size+pj.toArray.size<=sizeLine:=by rw [aP,aP]; lia
 have uG:¬ (!oF.toArray.isEmpty && fF #[Vq])=true:=by
  rw [zfl hsz,jr];exact bH
 refine gp F.slot_list_extend ⟨_,e,rfl⟩ F.entry_list_extend (F.args_list_extend_2 _ _)
  (AutoSeq1.list_extend_list_list_0 l oF.toArray n b pj.toArray n2 uG (by rw [aP]; lia) #[O]) ⟨e,e2,?_⟩
 refine⟨.non,_,I.PN (its':=oF++pj) hH e #[M] (r.append r2) ?_,rfl,q⟩;rw [aS];lia
noncomputable def zpT:V->List V->Hp->VK->Prop:=fun x vs H Q=>∃ l xs i k y,x = .ref l/\vs = [.int i]/\H l=some #[Ry]/\-(2 ^ 63)<=i/\i < 2 ^ 63/\seqIndex? i xs.length=some k/\xs[k]? = some y/\Q y (oG H l (.lst (xs.eraseIdx k)))
theorem zl9:MtM X "list.pop" zpT:=by
 intro oC s σ H x vs v us Q I rx rv h;obtain⟨l,xs,i,k,y,rfl,rfl,hH,h1,h2,hk,hy,q⟩:=h;cases rx;obtain⟨u,rfl,ru⟩:=rv.one;obtain⟨t,rfl⟩:=ru;obtain⟨z,oF,n,r,hl,e⟩:=I.OX hH;obtain⟨w,hw,wW⟩:=r.get hy;refine gp F.slot_list_pop ⟨_,e,rfl⟩ F.entry_list_pop (F.args_list_pop_2 _ _)
  (MeetsSeq.list_pop_at l oF.toArray n i t k w (fitsIndex_both h1 h2) (by rw [aP,<- hl]; exact hk) (by rw [<- cD]; exact hw) (by rw [aP]; lia)) ⟨e,?_⟩
 refine⟨y,_,I.PN (its':=oF.eraseIdx k) hH e ?_ (r.eraseIdx k) ?_,wW,q⟩
 ·show oF.toArray.eraseIdxIfInBounds k=(oF.eraseIdx k).toArray;rw [List.eraseIdxIfInBounds_toArray]
 ·have:=zgm xs k;lia
noncomputable def zrA:R2:=fun x y H Q=>∃ l b xs zs,x = .ref l/\y = .ref b/\H l=some #[Ry]/\H b=some (.lst zs)/\xs.length+zs.length<=sizeLine/\∀ p,H p=none->Q (.ref p) (oG H p (.lst (xs++zs)))
theorem zcW:OpR X (binaryOp .Add) zrA:=by
 intro oC s σ H x y v u Q I rx ry h;obtain⟨l,b,xs,zs,rfl,rfl,hH,hB,hz,q⟩:=h;cases rx;cases ry;obtain⟨z,oF,n,r,hl,e⟩:=I.OX hH;obtain⟨z2,pj,n2,r2,qc,e2⟩:=I.OX hB;refine PySem.P.add_list e e2 ?_ (by rw [aP,aP]; lia);have ea:oF.toArray++pj.toArray=(oF++pj).toArray:=by simp
 rw [ea];exact⟨.ref _,_,I.P7 (t':=s.toks) (r.append r2) (by rw [aS]; lia),rfl,q _ I.fresh⟩
noncomputable def zpU:R2:=fun x y H Q=>∃ l k xs,x = .ref l/\y = .int k/\H l=some #[Ry]/\-(2 ^ 63)<=k/\k < 2 ^ 63/\xs.length*k.toNat<=sizeLine /\
 ∀ p,H p=none->Q (.ref p) (oG H p (.lst (aV k.toNat xs).flatten))
theorem len_rep {α:Type} (xs:List α) (k:Nat):(aV k xs).flatten.length=k*xs.length:=by
 induction k with
 | zero=>simp
 | succ k ih=>rw [eC,gm,aS,ih,mv,Nat.add_comm]
theorem zfm:OpR X (binaryOp .Mult) zpU:=by
 intro oC s σ H x y v u Q I rx ry h;obtain⟨l,k,xs,rfl,rfl,hH,h1,h2,hz,q⟩:=h;cases rx;obtain⟨t,rfl⟩:=ry;obtain⟨z,oF,n,r,hl,e⟩:=I.OX hH;have oO:oF.toArray.size*k.toNat<=sizeLine:=by rw [aP,<- hl]; exact hz
 have Ii:¬ oF.toArray.size*k.toNat > (2 ^ 63 - 1) / 8:=by
  have:(sizeLine:Nat)<=(2 ^ 63 - 1) / 8:=by decide
  lia
 have Ij:¬ (!Builtin.List.listFitsIndex k)=true:=by
  rw [fitsIndex_both h1 h2];exact bH
 have uG:¬ fF (oF.toArray.size*k.toNat)=true:=by
  rw [zfl oO];exact bH
 have Ik:nK #[V8] #[] (aV (if oF.toArray.isEmpty=true then 0 else k.toNat) oF.toArray)=(aV k.toNat oF).flatten.toArray:=by
  have f0:∀ m:Nat,nK #[V8] #[] (aV m oF.toArray)=(aV m oF).flatten.toArray:=fun m=>by
   have:=foldl_rep oF m [];rw [nL] at this;exact this
  rw [f0];cases oF with
  | nil=>simp
  | cons a r'=>rw [if_neg #[M]]
 refine wpAny_binaryOp_repeat_ref (T:="list") (U:="int") #[D] ⟨_,e,rfl⟩ (fun s'=>nJ s' k t) noFill_list_mul F.fills_int_mul F.slot_int_rmul repeat_list F.slot_int_index.lookup
  (gp F.slot_int_rmul (nJ s k t) F.entry_int_rmul (F.args_int_rmul_2 _ _) (int___rmul___int_list k t l oF.toArray n)
   ⟨e,rfl,⟨_,e,rfl⟩,gp F.slot_list_mul ⟨_,e,rfl⟩ F.entry_list_mul (F.args_list_mul_2 _ _) (AutoListH.list___mul___list_int_3 l oF.toArray n k t Ij Ii uG) ⟨e,?_⟩⟩)
 rw [Ik];exact⟨.ref _,_,I.P7 (t':=s.toks) (r.rep k.toNat) (by rw [len_rep,eh]; exact hz),rfl,q _ I.fresh⟩
end
end L2
namespace Att
open PySem PySem.W PySem.Calls PyProof.Rows
theorem zeK {P:Params} {h:Heap}:∀ (ns:TD) (vs:TH),WellAll P h vs (ns.map WData.int)->IntsAre vs ns:=by
 intro ns;induction ns with
 | nil =>
  intro vs w;rw [f8] at w;cases w;exact .nil
 | cons n ns ih =>
  intro vs w;rw [bT] at w;cases w with
  | cons a b =>
   cases a;exact .cons _ _ (ih _ b)
theorem zkM {l:OpenLaw} {n:Nat} (hn:l.most=some n) {P:Params} {h:Heap} {args:List WData} {vals:TH}
  (sQ:l.row.toRowW.claim.pre args=true) (wX:WellAll P h vals args) :
  ∃ a vs ns,vals = [bL a]/\args = [WData.list (ns.map WData.int)]/\h.get? a=some { cls:=.type "list",data:=.seq vs.toArray }/\IntsAre vs ns/\ns.length<=n:=by
 have hsh:WShape.hasAll [] args [.list .int]=true:=(pre_splitW sQ).1;have hc:l.pre.holds [] { args:=args }=true:=(pre_splitW sQ).2;obtain⟨d,r,rfl,h1,h2⟩:=hasAllW_cons hsh;obtain rfl:=hasAllW_nil h2;obtain⟨xs,rfl,h3⟩:=hasW_list h1;obtain⟨ns,rfl⟩:=items_int h3;have oO:ns.length<=n:=by
  unfold OpenLaw.pre at hc;have h4:(WTm.not (.lt (.lit (.int (n:Int))) (.len (.arg 0)))).holds [] { args:=[.list (ns.map .int)] }=true:=by
   have h4:=(holds_andW hc).1;rw [hn] at h4;exact h4
  have h5:=condW_of h4 (w_not (w_lt w_lit (w_len_list (w_arg rfl))));rw [aA] at h5;refine nr fun q=>?_
  have q':(n:Int) < ((ns.length:Nat):Int):=by lia
  first
   | (rw [decide_eq_true q'] at h5; exact absurd h5 #[D])
   | (simp at h5; lia)
 cases wX with
 | cons w1 w2 =>
  cases w2;cases w1 with
  | list ho sR=>exact⟨_,_,ns,rfl,rfl,ho,zeK ns _ sR,oO⟩
theorem zkN (l:OpenLaw) (args:List WData):l.row.toRowW.claim.post args #[RY] args=true :=
 postW_of (r:=l.row.toRowW) (X:=(true == true))
  (show WShape.has [] #[RY] .bool=true by first | rfl | decide | simp [WShape.has,WShape.arms,WShape.armsAll])
  (show (WTm.eq .res (.lit #[RY])).value [] { args:=args,res:=some #[RY],after:=args }=some (.bool (true == true)) from w_eq_bool (w_res rfl) w_lit) rfl
theorem Ow {l:OpenLaw} {n:Nat} {q:Program} {loose:List Str} {XP:#[VM]->Heap->Prop} {YP:World->Heap->Prop} {d:DefRec}
  (hn:l.most=some n) (EV:d.params.defaults = [])
  (call:∀ (w:World) (s₀ s₁:Shared) (mg mb:TJ) (fa:Addr) (o:Obj) (pm cd doc:Value) (a:Addr) (vs:TH) (ns:TD),
   Ground q loose [] XP w s₀ mg mb s₁.heap->YP w s₁.heap ->
   s₁.heap.get? fa=some o->o.data = .func (docDef d.name d.params d.body d.scope pm cd doc)->s₁.heap.CodeRec cd d.name->mg d.name=some #[Up] ->
   s₁.heap.get? a=some { cls:=.type "list",data:=.seq vs.toArray }->IntsAre vs ns->ns.length<=n->s₁.gens = #[] ->
   codeAny (model l.prog w) callerA (.call #[Up] ⟨[.ref a],[]⟩) (fun r s'=>r = .ok (.ret #[RY])/\OldK s₁.heap s'.heap/\s'.os=s₁.os/\AllBare s'.gens) s₁) :
  WalkO q loose XP YP l.row.toRowW d [] #[VJ]:=by
 intro w s₀ s₁ mg mb G Y fa o pm cd doc dV kV ho hd sL hD wY hg args vals as sQ hlay hrd wX sM;obtain rfl:dV = .none:=Dflts.none hD EV;obtain rfl:kV = .none:=Dflts.noKw hD;obtain⟨a,vs,ns,rfl,rfl,Cm,hints,oO⟩:=zkM hn sQ wX;refine enter_call (jd (call w s₀ s₁ mg mb fa o pm cd doc a vs ns G Y ho (fd_plain hd) sL wY Cm hints oO hg) fun r s' hq=>?_);obtain⟨rfl,h2,h3,h4⟩:=hq;exact⟨.inl ⟨.bool true,.bool true,[],rfl,fun _=>rfl,.bool true,zkN l _,fun _=>⟨jT,fun _ hm=>(nomatch hm)⟩⟩,h2,h3,h4⟩
section
variable {prog:Program} {w:World} {A:Around} {E:TB} {s:Shared} {K:Frag}
noncomputable def Np (h:Heap):Heap:={ h with objs:=#[] }
theorem zdv (h:Heap) (b:Addr):(Np h).get? b=none:=by
 cases e:(Np h).get? b with
 | none=>rfl
 | some o=>exact absurd (aX e) (Nat.not_lt_zero _)
noncomputable def ledger (h:Heap) (L d:Addr):List (Addr×Obj):=(aU h.objs.size).filterMap fun a=>if a=L\/a=d then none else (h.get? a).map fun o=>(a,o)
theorem MG {h:Heap} {L d a:Addr} {o:Obj}:(a,o)∈ledger h L d↔a≠L/\a≠d/\h.get? a=some o:=by
 unfold ledger;rw [jD];constructor
 ·rintro⟨b,_,e⟩;split at e
  ·cases e
  ·rename_i hb
   obtain⟨o',ho,e'⟩:=et.mp e;cases e';exact⟨fun q=>hb (.inl q),fun q=>hb (.inr q),ho⟩
 ·rintro⟨n1,n2,ho⟩;refine⟨a,bP.mpr (aX ho),?_⟩;rw [if_neg (show ¬ (a=L\/a=d) from fun q=>q.elim n1 n2),ho] <;> rfl
theorem Oo {h:Heap} {L d:Addr} {od:Obj} (oZ:d≠L) (ho:h.get? d=some od):News (Np h) L h ([]++(d,od) :: ledger h L d):=by
 rintro⟨a,o⟩ hp;rcases bD.mp hp with e | hp
 ·cases e;exact⟨ho,oZ,zdv _ _⟩
 ·obtain⟨n1,n2,e⟩:=MG.mp hp;exact⟨e,n1,zdv _ _⟩
theorem PF {h:Heap} {L:Addr} {m:TJ} (n:h.Ns L m):Fr (Np h) L h m :=
 ⟨n,fun b o e=>(by rw [zdv] at e; cases e),bX _⟩
end
end Att
namespace L2
open PySem PySem.Spec PyProof.Rows
variable {H H' H1 H2:Hp} {N:List Str} {an od:Option Addr} {ct doc oU oc pm:Value} {fd:FuncData} {k:Nat} {qual:Str} {sp:Sp} {wV:Array #[Sr]}
theorem zgo:∀ {vs:TH} {ns:TD},IntsAre vs ns->zQ #[Db] vs
 | _,_,.nil=>.nil
 | _,_,.cons n t h=>.cons ⟨t,rfl⟩ (zgo h)
noncomputable def zb9 (s:Stmt):Arguments:=match s with
 | .FunctionDef _ a _ _ _ _ _ _ _ _=>a
 | _=>{ posonlyargs:=[],args:=[],vararg:=none,kwonlyargs:=[],kw_defaults:=[],kwarg:=none,defaults:=[] }
noncomputable def zbi (s:Stmt):List Stmt:=match s with
 | .FunctionDef _ _ b _ _ _ _ _ _ _=>b
 | _=>[]
noncomputable def zh (s:Stmt):Scope:=match s with
 | .FunctionDef _ _ _ _ _ _ sc _ _ _=>sc
 | _=>{ kind:=.function,names:=[],isGenerator:=false,isCoroutine:=false }
abbrev CX0:CXT:=fun _ _ _ _ _ _=>False
abbrev E0:XK:=fun _ _ _=>False
theorem zZ {X:Cx}:zgO CX0 X E0:=fun _ _ _ _ _ _ _ h=>h.elim
structure Fun (K:aD) (x qual:Str) (st:Stmt) (f:Addr) (fd:FuncData):Prop where
 ex:∃ (oc:Value) (od:Option Addr) (kV doc pm:Value) (an:Option Addr) (oU ct:Value) (wV:Array #[Sr]),
  fd=eL x qual (zb9 st) (zbi st) (zh st) .none kV doc pm an oU ct/\K.lookup f=some ⟨oc,od,.func fd,wV⟩/\gQ K oU qual=true
 kp:gr K #[Ts]=true
section
variable {P:Program} {w:World} {K:aD} {mg:TJ} {base:Heap}
theorem Fun.ok {x:Str} {st:Stmt} {f:Addr} {ps:List Str} (F:Fun K x qual st f fd) (S:KE N ps (zh st)) (len:∀ vs H Q E,sp vs H Q E->vs.length=ps.length)
  (qb:∀ (oU:Value) (A:Around) (outer:List Env) (s:Shared) (H:Hp) (vs:List V) (Q:VK) (E:XK),Nf k #[QE]->sp vs H Q E ->
   ∃ t,PSs (zb1 CX0 P w K mg base N qual (zh st) f oU A outer s H E).nox (zbi st) t/\t { nx:=fun _ H'=>Q .non H',rt:=Q } #[Rr] H):LG P w K mg base CX0 (k+1) f fd ps sp:=by
 obtain⟨oc,od,kV,doc,pm,an,oU,ct,wV,rfl,lk,sL⟩:=F.ex;refine zl6 lk sL S len fun A outer s H vs Q E hr uD=>?_
 obtain⟨t,h,q⟩:=qb oU A outer s H vs Q E hr uD;exact⟨t,h.nox,q⟩
theorem Fun.binds {x:Str} {st:Stmt} {f:Addr} {ps:List Str} (F:Fun K x qual st f fd)
  (h:∀ (kV doc pm:Value) (an:Option Addr) (oU ct:Value) (us:TH),us.length=ps.length->bindArgs #[Qo] ⟨us,[]⟩=pure #[Vl]):Binds K fd ps []:=by
 obtain⟨oc,od,kV,doc,pm,an,oU,ct,wV,rfl,lk,sL⟩:=F.ex;exact .all (h kV doc pm an oU ct)
theorem zma {x:Str} {st:Stmt} {f:Addr} {kV:Value} (l:K.lookup f=some ⟨oc,od,.func #[Qo],wV⟩)
  (c:gQ K oU qual=true) (k:gr K #[Ts]=true):Fun K x qual st f #[Qo]:=⟨⟨oc,od,kV,doc,pm,an,oU,ct,wV,rfl,l,c⟩,k⟩
end
theorem zgR {A B:Prop} (h:B):if false=true then A else B:=by
 rw [if_neg bH];exact h
theorem zrB {A B:Prop} (h:A):if true=true then A else B:=by
 rw [if_pos rfl];exact h
theorem zaD {c A B:Prop} [Decidable c] (h1:c->A) (h2:¬ c->B):if c then A else B:=by
 by_cases h:c
 ·rw [if_pos h];exact h1 h
 ·rw [if_neg h];exact h2 h
noncomputable def zr (H H':Hp):Prop:=∀ b o,H b=some o->H' b=some o
theorem zr.trans (a:zr H H1) (b:zr H1 H2):zr H H2:=fun c o h=>b c o (a c o h)
theorem zr.free (e:zr H H') {l:Addr} (h:H' l=ow):H l=ow:=by
 cases q:H l with
 | none=>rfl
 | some o =>
  rw [e l o q] at h;cases h
theorem zr.seq {K:aD} {a:Addr} {xs:List V} (e:zr H H') (h:oE K H a xs):oE K H' a xs:=by
 rcases h with (h | ⟨o,h⟩) | h
 ·exact .inl (.inl (e _ _ h))
 ·exact .inl (.inr ⟨o,e _ _ h⟩)
 ·exact .inr h
end L2
section
namespace L2
open PySem
abbrev Ends.n (D:Ends) (N:St->Hp->Prop):Ends:={ D with nx:=N }
section
variable {r1 r2 r3 r4 r5 r6 r7 r8 r9 r10 r11 r12 r13 r14 r15:TS} {D:Ends} {σ:St} {H:Hp}
theorem zqX (h:let N2:=r2 D; r1 (D.n N2) σ H):(zaV r1 r2) D σ H:=h
theorem zei (h:let N3:=r3 D; let N2:=r2 (D.n N3); r1 (D.n N2) σ H):(zaV r1 (zaV r2 r3)) D σ H:=h
theorem zhK (h:let N4:=r4 D; let N3:=r3 (D.n N4); let N2:=r2 (D.n N3); r1 (D.n N2) σ H):(zaV r1 (zaV r2 (zaV r3 r4))) D σ H:=h
theorem zmb (h:let N5:=r5 D; let N4:=r4 (D.n N5); let N3:=r3 (D.n N4); let N2:=r2 (D.n N3); r1 (D.n N2) σ H):(zaV r1 (zaV r2 (zaV r3 (zaV r4 r5)))) D σ H:=h
theorem zqY (h:let N6:=r6 D; let N5:=r5 (D.n N6); let N4:=r4 (D.n N5); let N3:=r3 (D.n N4); let N2:=r2 (D.n N3); r1 (D.n N2) σ H):(zaV r1 (zaV r2 (zaV r3 (zaV r4 (zaV r5 r6))))) D σ H:=h
theorem zn9 (h:let N7:=r7 D; let N6:=r6 (D.n N7); let N5:=r5 (D.n N6); let N4:=r4 (D.n N5); let N3:=r3 (D.n N4); let N2:=r2 (D.n N3); r1 (D.n N2) σ H):(zaV r1 (zaV r2 (zaV r3 (zaV r4 (zaV r5 (zaV r6 r7)))))) D σ H:=h
theorem zqZ (h:let N14:=r14 D; let N13:=r13 (D.n N14); let N12:=r12 (D.n N13); let N11:=r11 (D.n N12); let N10:=r10 (D.n N11); let N9:=r9 (D.n N10); let N8:=r8 (D.n N9); let N7:=r7 (D.n N8); let N6:=r6 (D.n N7); let N5:=r5 (D.n N6); let N4:=r4 (D.n N5); let N3:=r3 (D.n N4); let N2:=r2 (D.n N3); r1 (D.n N2) σ H):(zaV r1 (zaV r2 (zaV r3 (zaV r4 (zaV r5 (zaV r6 (zaV r7 (zaV r8 (zaV r9 (zaV r10 (zaV r11 (zaV r12 (zaV r13 r14))))))))))))) D σ H:=h
theorem zaJ {X0:Cx} {B:List PySem.Stmt} (h:let X:=X0; ∃ t,PSs X B t/\t D σ H):∃ t,PSs X0 B t/\t D σ H:=h
end
end L2
end
section
namespace L2
open PySem PySem.Spec PyProof.Rows
variable {A:Around} {H:Hp} {J:It} {M:Model} {X:Cx} {env:Env} {oC:TC} {qual:Str} {s:Shared} {scope:Scope} {te:TE}
noncomputable def zau (cs:List (Str×Addr)):List (Str×NameKind)->List (Str×Addr)->List (Str×Addr)
 | [],acc=>acc
 | (n,k) :: r,acc=>if k == .free then zau cs r ((n,(cs.lookup n).getD 0) :: acc) else zau cs r acc
theorem zdq (h:∀ y∈scope.names,y.2 = .free->∃ c,env.cells.lookup y.1=some c) :
  closureFor scope env=pure (zau env.cells scope.names []):=by
 have go:∀ (names:List (Str×NameKind)) (acc:List (Str×Addr)),(∀ y∈names,y.2 = .free->∃ c,env.cells.lookup y.1=some c) ->
   (forIn names acc (fun (x:Str×NameKind) (cs:List (Str×Addr))=>(if (x.2 == dR)=true then do
    let a <- cellOf env x.1
    pure (eG ((x.1,a) :: cs)) else pure (eG cs):Sem (ForInStep (List (Str×Addr))))))=(pure (zau env.cells names acc):Sem _):=by
  intro names;induction names with
  | nil=>intro acc _; rfl
  | cons y r ih =>
   intro acc hy;obtain⟨n,k⟩:=y;rw [ge];cases hk:(k == dR) with
   | true =>
    obtain⟨c,hc⟩:=hy (n,k) bF #[U,hk];have rC:cellOf env n=pure c:=by
     unfold cellOf;have oT:env.cells.lookup n=some c:=hc;rw [oT]
    simp only [hk,if_true,rC];have e:=ih ((n,c) :: acc) fun y Cn=>hy y (aY _ Cn)
    have oT:env.cells.lookup n=some c:=hc;simp only [zau,hk,if_true,oT,j7];exact e
   | false =>
    simp only [hk,cF,if_false];have e:=ih acc fun y Cn=>hy y (aY _ Cn)
    simp only [zau,hk,cF,if_false];exact e
 have e:=go scope.names [] h;unfold closureFor;show (forIn scope.names [] _ >>= fun cs=>pure cs)=_
 first
  | (rw [e]; rfl)
  | (simp only []; rw [e]; rfl)
  | (have e':=e; simp at e' |-; exact e')
theorem zci {cs:List (Str×Addr)}:∀ (names:List (Str×NameKind)) (acc:List (Str×Addr)),
  (∀ y∈names,y.2 = .free->∃ c,cs.lookup y.1=some c)->(∀ x c,acc.lookup x=some c->cs.lookup x=some c) ->
  ∀ x c,(zau cs names acc).lookup x=some c->cs.lookup x=some c
 | [],acc,_,h,x,c,e=>h x c e
 | (n,k) :: r,acc,hy,h,x,c,e=>by
  have hr:∀ y∈r,y.2 = .free->∃ c,cs.lookup y.1=some c:=fun y Cn=>hy y (aY _ Cn)
  unfold zau at e;cases hk:(k == dR) with
  | false =>
   rw [hk] at e;exact zci r acc hr h x c e
  | true =>
   rw [hk] at e;obtain⟨d,hd⟩:=hy (n,k) bF #[U,hk];have AG:cs.lookup n=some d:=hd;refine zci r _ hr (fun x c e'=>?_) x c e;rw [AG,j7,bY] at e';cases hx:(x == n) with
   | true =>
    rw [hx] at e';have:x=n:=by simpa using hx
    subst this;rw [AG];exact e'
   | false =>
    rw [hx] at e';exact h x c e'
theorem zcE {cs:List (Str×Addr)}:∀ (names:List (Str×NameKind)) (acc:List (Str×Addr)) (x:Str),
  ((∃ c,acc.lookup x=some c)\/(x,dR)∈names)->∃ c,(zau cs names acc).lookup x=some c
 | [],acc,x,h=>by
  rcases h with h | h
  ·exact h
  ·cases h
 | (n,k) :: r,acc,x,h=>by
  unfold zau;cases hk:(k == dR) with
  | false =>
   refine zcE r acc x ?_;rcases h with h | h
   ·exact .inl h
   ·rcases bD.mp h with h | h
    ·cases h;exact absurd hk #[D]
    ·exact .inr h
  | true =>
   refine zcE r _ x ?_;cases hx:(x == n) with
   | true=>exact .inl ⟨_,by rw [bY,hx]⟩
   | false =>
    rcases h with ⟨c,h⟩ | h
    ·exact .inl ⟨c,by rw [bY,hx]; exact h⟩
    ·rcases bD.mp h with h | h
     ·cases h;simp at hx
     ·exact .inr h
theorem lookup_mem {α:Type}:∀ {l:List (Str×α)} {x:Str} {k:α},l.lookup x=some k->(x,k)∈l
 | [],x,k,h=>by simp at h
 | (n,j) :: r,x,k,h=>by
  rw [bY] at h;cases hx:(x == n) with
  | true =>
   rw [hx] at h;have:x=n:=by simpa using hx
   subst this;cases h;exact bF
  | false =>
   rw [hx] at h;exact aY _ (lookup_mem h)
theorem zbV {env:Env}:∀ {names:List (Str×NameKind)} {x:Str},names.lookup x=some .free ->
  (names.map fun (n,k)=>if (k == dR && env.scope.kind == .function && env.kindOf n == some .cell) then (n,fm) else (n,k)).lookup x=some .cell \/
  (names.map fun (n,k)=>if (k == dR && env.scope.kind == .function && env.kindOf n == some .cell) then (n,fm) else (n,k)).lookup x=some .free
 | [],_,h=>by simp at h
 | (n,k) :: r,x,h=>by
  have ih:=@zbV env r x;simp only [bT];cases hx:x == n with
  | true =>
   simp only [bY,hx] at h; cases h;by_cases hc:(dR == dR && env.scope.kind == .function && env.kindOf n == some .cell)=true
   ·rw [if_pos hc]; left; simp only [bY,hx]
   ·rw [if_neg hc]; right; simp only [bY,hx]
  | false =>
   simp only [bY,hx] at h; rcases mw ((k == dR && env.scope.kind == .function && env.kindOf n == some .cell)=true) with hc | hc
   ·exact (by rw [if_pos hc]; simp only [bY,hx]; exact ih h)
   ·exact (by rw [if_neg hc]; simp only [bY,hx]; exact ih h)
theorem zdI {env:Env}:∀ {names:List (Str×NameKind)} {x:Str},
  ((names.map fun (n,k)=>if (k == dR && env.scope.kind == .function && env.kindOf n == some .cell) then (n,fm) else (n,k)).lookup x=some .cell \/
  (names.map fun (n,k)=>if (k == dR && env.scope.kind == .function && env.kindOf n == some .cell) then (n,fm) else (n,k)).lookup x=some .free) ->
  names.lookup x=some .free\/names.lookup x=some .cell
 | [],_,h=>by simp at h
 | (n,k) :: r,x,h=>by
  have ih:=@zdI env r x;simp only [bT] at h;cases hx:x == n with
  | true =>
   rcases mw ((k == dR && env.scope.kind == .function && env.kindOf n == some .cell)=true) with hc | hc
   ·have hk:k = .free:=by
     simp only [gv] at hc; simpa using hc.1.1
    subst hk;exact .inl (by simp only [bY,hx])
   ·rw [if_neg hc] at h;simp only [bY,hx] at h |-;rcases h with h | h
    ·exact .inr h
    ·exact .inl h
  | false =>
   rcases mw ((k == dR && env.scope.kind == .function && env.kindOf n == some .cell)=true) with hc | hc
   ·rw [if_pos hc] at h;simp only [bY,hx] at h |-;exact ih h
   ·rw [if_neg hc] at h;simp only [bY,hx] at h |-;exact ih h
theorem zgS:∀ (names:List (Str×NameKind)) (n:Nat) (acc:List (Str×Addr)) (x:Str),(x,fm)∉names->(cellsFrom n names acc).lookup x=acc.lookup x
 | [],_,_,_,_=>rfl
 | (y,k) :: r,n,acc,x,h=>by
  have hr:(x,fm)∉r:=fun z=>h (aY _ z)
  unfold cellsFrom;split
  ·rename_i hk
   have AI:k = .cell:=by simpa using hk
   rw [zgS r _ _ x hr,bY];cases hx:(x == y) with
   | true =>
    have:x=y:=by simpa using hx
    subst this;subst AI;exact absurd bF h
   | false=>rfl
  ·exact zgS r _ _ x hr
theorem zgT:∀ (names:List (Str×NameKind)) (n:Nat) (acc:List (Str×Addr)) (x:Str),(x,fm)∈names->∃ c,(cellsFrom n names acc).lookup x=some c/\n<=c
 | (y,k) :: r,n,acc,x,h=>by
  by_cases hr:(x,fm)∈r
  ·unfold cellsFrom;split
   ·obtain⟨c,e,l⟩:=zgT r (n+1) ((y,n) :: acc) x hr;exact⟨c,e,#[O]⟩
   ·exact zgT r n acc x hr
  ·rcases bD.mp h with e | e
   ·cases e;unfold cellsFrom;rw [if_pos #[D],zgS r _ _ _ hr,bY,beq_self_eq_true];exact⟨n,rfl,aG _⟩
   ·exact absurd e hr
structure CO (h:Heap) (lo:Nat) (old cs:List (Str×Addr)):Prop where
 each:∀ x c,cs.lookup x=some c->(h.IsCell c none/\lo<=c)\/(old.lookup x=some c/\c < lo)
 inj:∀ x y c,cs.lookup x=some c->cs.lookup y=some c->x=y
theorem zmc {lo:Nat} {old:List (Str×Addr)}:∀ (names:List (Str×NameKind)) (h:Heap) (acc:List (Str×Addr)),CO h lo old acc->lo<=h.objs.size->CO (pushCells h names) lo old (cellsFrom h.objs.size names acc)
 | [],_,_,a,_=>a
 | (y,k) :: r,h,acc,a,hl=>by
  unfold pushCells cellsFrom;split
  ·have lt:∀ x c,acc.lookup x=some c->c < h.objs.size:=fun x c e=>(a.each x c e).elim (fun z=>z.1.lt) fun z=>bQ z.2 hl
   have key:∀ x c,jA x ((y,h.objs.size) :: acc)=some c->(x=y/\c=h.objs.size)\/acc.lookup x=some c:=fun x c e=>by
    rw [bY] at e;cases hx:(x == y) with
    | true =>
     rw [hx] at e;exact .inl ⟨by simpa using hx,(bI e).symm⟩
    | false =>
     rw [hx] at e;exact .inr e
   have:=zmc (lo:=lo) (old:=old) r (h.push { cls:=.type "cell",data:=.cell none }) ((y,h.objs.size) :: acc) ⟨fun x c e=>?_,fun x z c e1 e2=>?_⟩ (by rw [cZ]; lia)
   ·rw [cZ] at this;exact this
   ·rcases key x c e with ⟨_,rfl⟩ | e
    ·exact .inl ⟨⟨_,aZ _ rfl,rfl⟩,hl⟩
    ·rcases a.each x c e with z | z
     ·exact .inl ⟨z.1.keeps fun b o e=>aI _ e,z.2⟩
     ·exact .inr z
   ·rcases key x c e1 with ⟨p1,q1⟩ | f1 <;> rcases key z c e2 with ⟨p2,q2⟩ | f2
    ·exact p1.trans p2.symm
    ·exact absurd (lt _ _ f2) (by rw [q1]; exact dF _)
    ·exact absurd (lt _ _ f1) (by rw [q2]; exact dF _)
    ·exact a.inj x z c f1 f2
  ·exact zmc r h acc a hl
theorem zkO {E:TB} {globals:Addr} {closure:List (Str×Addr)} {Q:Env->Shared->Prop}
  (h:Q (newEnv scope s.heap.objs.size globals (cellsFrom #[Rn] scope.names closure) qual none .none (some env) builtinsNs) { s with heap:=pushCells (s.heap.push { cls:=.type "dict",data:=.dict #[] }) scope.names }) :
  wpAny M A (newFunctionEnv scope globals closure [] qual none .none (some env)) Q E s:=by
 (simp only [newFunctionEnv,mB,if_true])
 (refine aB (wpAny_alloc ?_))
 (refine aB (wpAny_layCells _ (fun name kind cells=>by cases Il:kind == fm <;> simp [Il]) _ _ _ _ ?_))
 rw [show ({ s with heap:=s.heap.push { cls:=.type "dict",data:=.dict #[] } }:Shared).heap.objs.size=s.heap.objs.size+1 from cZ ..]
 (exact aB (aL (aL h)))
abbrev zV (X:Cx) (N':List Str) (scope:Scope) (s₃:Shared) (H₃:Hp) (ex:TF) (oC:TC):Cx :=
 { X with N:=N',s₀:=s₃,H₀:=H₃,env:=compEnvC scope (cellsFrom (s₃.heap.objs.size+1) scope.names (zau X.env.cells scope.names [])) s₃.heap.objs.size X.env,outer:=X.stack,stack:=X.stack,ex:=ex,fn:=fun x=>scope.names.lookup x == some .cell,pn:=X.pn++oC,xe:=fun _ _=>False }
noncomputable def ziW (ifs:List Expr) (env:Env):Sem Bool :=
 forIn ifs true fun c r=>if r=true then do let ok <- isTrue c env (eval c env); pure (eG ok) else pure (eG r)
noncomputable def zdJ (X:Cx) (ifs:List Expr) (t:TT):Prop :=
 ∀ (oC:TC) (s:Shared) (σ:St) (H:Hp) (Q:Bool->Hp->Prop),Inv X oC σ H s->t σ H Q->wpAny #[or] X.A (ziW ifs X.env) #[VG] X.xe s
noncomputable def zoa:TT:=fun _ H Q=>Q true H
theorem zy {X:Cx}:zdJ X [] zoa:=fun _ _ _ H _ I h=>aL ⟨H,I,h⟩
theorem zb2 {X:Cx} {c:Expr} {t:TT} (h:PT X c t):zdJ X [c] t:=by
 intro oC s σ H Q I hw;unfold ziW;rw [ge];simp only [if_true];exact aB (aB (thn #[UN] fun b s1 q=>aL (aL q)))
structure Lu (X:Cx) (N':List Str) (ix:List #[P3]) (scope:Scope):Prop where
 kind:scope.kind = .function
 cells:∀ y∈scope.names,y.2 = .cell->scope.names.lookup y.1=some .cell
 names:∀ y∈scope.names,y.2 = .local->scope.names.lookup y.1=some .local
 free:∀ y∈scope.names,y.2 = .free->X.env.kindOf y.1=some .cell\/X.env.kindOf y.1=some .free
 len:N'.length=ix.length
 cap:∀ j i:Nat,ix[j]? = some (some i)->∃ x,N'[j]? = some x/\X.N[i]? = some x/\scope.names.lookup x=some .free
noncomputable def zjR (DT:Scope) (oN N':List Str) (ix:List #[P3]) (scope:Scope):Bool :=
 (scope.kind == .function) && (scope.names.all fun y=>y.2 != .cell || scope.names.lookup y.1 == some .cell) && (scope.names.all fun y=>y.2 != .local || scope.names.lookup y.1 == some .local) &&
 (scope.names.all fun y=>y.2 != .free || (DT.names.lookup y.1 == some .cell || DT.names.lookup y.1 == some .free)) && (N'.length == ix.length) &&
 ((aU ix.length).all fun j=>match ix[j]? with
  | some (some i)=>(match N'[j]? with
   | some x=>oN[i]? == some x && scope.names.lookup x == some .free
   | none=>false)
  | _=>true)
theorem Lu.of {N':List Str} {ix:List #[P3]} (DT:Scope) (oN:List Str) (h1:X.env.scope=DT) (h2:X.N=oN) (hb:zjR DT oN N' ix scope=true):Lu X N' ix scope:=by
 unfold zjR at hb;simp only [gv,gW] at hb;obtain⟨⟨⟨⟨⟨a,b⟩,c⟩,d⟩,e⟩,f⟩:=hb;refine⟨?_,fun y hy hl=>?_,fun y hy hl=>?_,fun y hy hf=>?_,by simpa using e,fun j i hj=>?_⟩
 ·revert a
  cases scope.kind <;> first | (intro _; rfl) | (intro h; exact absurd h #[D])
 ·have:=b y hy;rw [hl] at this;simpa using this
 ·have:=c y hy;rw [hl] at this;simpa using this
 ·have:=d y hy;rw [hf] at this;have e1:X.env.kindOf y.1=DT.names.lookup y.1:=by rw [<- h1]; rfl
  rw [e1];simpa using this
 ·have oY:j < ix.length:=(aK.mp hj).1;have:=f j (bP.mpr oY);rw [hj] at this;cases hN:N'[j]? with
  | none =>
   rw [hN] at this;simp at this
  | some x =>
   rw [hN] at this;refine⟨x,rfl,?_⟩;rw [h2];simpa using this
noncomputable def zdK (ix:List #[P3]) (σ:St):St:=ix.map fun o=>match o with
 | none=>none
 | some i=>(σ[i]?).join
theorem Inv.O8 {σ:St} {D:Addr} {o:HO} (I:Inv X oC σ H s) (hn:H D=none) (hs:X.s₀.heap.objs.size<=D) (hL:X.env.locals≠D)
  (hC:∀ x c,X.env.cells.lookup x=some c->c≠D) (hp:∀ p∈X.pn++oC,p.1≠D) (ok:zak X.prog X.w (oG H D o) s.heap D o):Inv X oC σ (oG H D o) s:=by
 have ne:∀ b u,H b=some u->b≠D:=fun b u e=>zu e hn
 refine⟨I.ok,I.os,I.bare,#[QU],I.loc,I.cell,?_,fun x c e=>?_,fun p ux=>?_,fun b u e=>?_,I.len⟩
 ·have:b≠D:=bU (bQ (aX e) hs);rw [zn this];exact I.base.free b u e n hx
 ·have:=I.base.Nd b xs e;rw [zn (ne b _ this)];exact this
 ·have:=I.base.Nj b u xs e;rw [zn (ne b _ this)];exact this
 ·obtain⟨more,q⟩:=I.base.Ng b ps e;exact⟨more,by rw [zn (ne b _ q)]; exact q⟩
 ·rw [zn hL];exact I.free
 ·rw [zn (hC x c e)];exact I.L3 x c e
 ·obtain⟨a1,a2,a3⟩:=I.pin p ux;exact⟨a1,by rw [zn (hp p ux)]; exact a2,a3⟩
 ·by_cases hb:b=D
  ·subst hb;rw [zb] at e;cases e;exact ok
  ·rw [zn hb] at e;exact #[TQ].Ny (fun c v _ q=>q) (fun c q=>by rw [zn (ne c _ q)]; exact q) fun c xs q=>by rw [zn (ne c _ q)]; exact q
noncomputable def cGo (g:TG) (ts:TT) (te:TE) (σ0:St) (J:It) (Q:VK) (H1:Hp):Prop :=
 ∃ W:Nat->Nat->List V->Hp->Prop,(∃ m,W 0 m [] H1)/\∀ i m ys H,W i m ys H ->
  (J.stop i H/\∀ D,H D=none->Q #[QB] (oG H D #[Uq])) \/
  (J.go i H/\∃ N:List V->Hp->Prop,(∀ uH H',N uH H'->∃ m',m' < m/\W (i+1) m' uH H')/\∀ x H',J.yld i H x H'->g x σ0 H' fun σ2 H2=>ts σ2 H2 fun b H3 =>
   if b=true then te σ2 H3 fun y H4=>ys.length < sizeLine/\N (ys++[y]) H4 else N ys H3)
noncomputable def zpf (ix:List #[P3]) (wi:TI) (g:TG) (ts:TT) (te:TE):TE:=fun σ H Q=>wi σ H fun J H1=>cGo g ts te #[WK] J Q H1
theorem zeX {n:Nat} {g:TG} {ts:TT} {σ0:St} {Q:VK} (Pv:Nat->List V->Hp->Prop) (h0:Pv 0 [] H) (AJ:∀ i ys H,i < n->Pv i ys H->J.go i H) (tF:∀ ys H,Pv n ys H->J.stop n H)
  (hs:∀ i x ys H H',i < n->Pv i ys H->J.yld i H x H'->g x σ0 H' fun σ2 H2=>ts σ2 H2 fun b H3=>if b=true then te σ2 H3 fun y H4=>ys.length < sizeLine/\Pv (i+1) (ys++[y]) H4 else Pv (i+1) ys H3)
  (hd:∀ ys H D,Pv n ys H->H D=none->Q #[QB] (oG H D #[Uq])):cGo g ts te σ0 J Q H:=by
 refine⟨fun i m ys H=>m=n - i/\i<=n/\Pv i ys H,#[TY],?_⟩;rintro i m ys H ⟨rfl,hi,p⟩;by_cases oY:i < n
 ·exact .inr #[Ri]
 ·have e:i=n:=by lia
  subst e;exact .inl ⟨tF ys H p,fun D hD=>hd ys H D p hD⟩
theorem zpV {n:Nat} {g:TG} {tb:TS} {D:Ends} {σ:St} (Pv:Nat->St->Hp->Prop) (h0:Pv 0 σ H) (AJ:∀ i σ H,i < n->Pv i σ H->J.go i H) (tF:∀ σ H,Pv n σ H->J.stop n H)
  (hs:∀ i x σ H H',i < n->Pv i σ H->J.yld i H x H'->g x σ H' fun σ2 H2=>tb { D with nx:=Pv (i+1),ct:=Pv (i+1),bk:=D.nx } σ2 H2) (hd:∀ σ H,Pv n σ H->D.nx σ H) :
  ∃ W:Nat->Nat->St->Hp->Prop,(∃ m,W 0 m σ H)/\∀ i m σ H,W i m σ H ->
   (J.stop i H/\D.nx σ H)\/(J.go i H/\∃ N:St->Hp->Prop,(∀ σ' H',N σ' H'->∃ m',m' < m/\W (i+1) m' σ' H')/\∀ x H',J.yld i H x H'->g x σ H' fun σ2 H2=>tb { D with nx:=N,ct:=N,bk:=D.nx } σ2 H2):=by
 refine⟨fun i m σ H=>m=n - i/\i<=n/\Pv i σ H,#[TY],?_⟩;rintro i m σ H ⟨rfl,hi,p⟩;by_cases oY:i < n
 ·exact .inr ⟨AJ i σ H oY p,Pv (i+1),fun σ' H' p'=>⟨n - (i+1),#[O],rfl,oY,p'⟩,fun x H' y=>hs i x σ H H' oY p y⟩
 ·have e:i=n:=by lia
  subst e;exact .inl ⟨tF σ H p,hd σ H p⟩
end L2
end
section
namespace L2
open PySem
variable {H:Hp} {J:It} {te:TE}
abbrev Lp (J:It) (g:TG) (tb:TS) (D:Ends) (σ:St) (H:Hp):Prop:=∃ W:Nat->Nat->St->Hp->Prop,(∃ m,W 0 m σ H)/\∀ i m σ H,W i m σ H->(J.stop i H/\D.nx σ H)\/(J.go i H/\∃ N:St->Hp->Prop,(∀ σ' H',N σ' H'->∃ m',m' < m/\W (i+1) m' σ' H')/\∀ x H',J.yld i H x H'->g x σ H' fun σ2 H2=>tb { D with nx:=N,ct:=N,bk:=D.nx } σ2 H2)
abbrev Ends.l (D:Ends) (Pv:Nat->St->Hp->Prop) (i:Nat):Ends:={ D with nx:=Pv (i+1),ct:=Pv (i+1),bk:=D.nx }
section
variable {g:TG} {tb:TS} {D:Ends} {σ:St} {H:Hp} (Pv:Nat->St->Hp->Prop) {n:Nat} {K:aD} {a:Addr} {xs:List V}
theorem zdL (h0:Pv 0 σ H) (AJ:∀ i σ H,i < n->Pv i σ H->J.go i H) (tF:∀ σ H,Pv n σ H->J.stop n H) (hs:let N:=D.l Pv; let T:=tb; ∀ i x σ H H',i < n->Pv i σ H->J.yld i H x H'->g x σ H' (T (N i))) (hd:∀ σ H,Pv n σ H->D.nx σ H):Lp J g tb D σ H:=zpV Pv h0 AJ tF hs hd
theorem zbA (h0:Pv 0 σ H) (hl:∀ i σ H,i<=xs.length->Pv i σ H->oE K H a xs) (hs:let N:=D.l Pv; let T:=tb; ∀ i x σ H,xs[i]? = some x->Pv i σ H->g x σ H (T (N i))) (hd:∀ σ H,Pv xs.length σ H->D.nx σ H):Lp #[Wo] g tb D σ H:=zlZ Pv h0 hl hs hd
theorem zhL (h0:Pv 0 σ H) (hl:∀ i σ H,i<=xs.length->Pv i σ H->oQ K H a xs) (hs:let N:=D.l Pv; let T:=tb; ∀ i x σ H,xs[i]? = some x->Pv i σ H->g x σ H (T (N i))) (hd:∀ σ H,Pv xs.length σ H->D.nx σ H):Lp #[Wn] g tb D σ H:=zn1 Pv h0 hl hs hd
theorem zah {lo:Int} (h0:Pv 0 σ H) (hs:let N:=D.l Pv; let T:=tb; ∀ i σ H,i < n->Pv i σ H->g (.int (lo+i)) σ H (T (N i))) (hd:∀ σ H,Pv n σ H->D.nx σ H):Lp (Itr lo n) g tb D σ H:=zkI Pv h0 hs hd
end
theorem zW {n:Nat} {g:TG} {ts:TT} {σ0:St} {Q:VK} (Pv:Nat->List V->Hp->Prop) (h0:Pv 0 [] H) (AJ:∀ i ys H,i < n->Pv i ys H->J.go i H) (tF:∀ ys H,Pv n ys H->J.stop n H)
  (hs:let S:=σ0; let T:=ts; let E:=te; ∀ i x ys H H',i < n->Pv i ys H->J.yld i H x H'->g x S H' fun σ2 H2=>T σ2 H2 fun b H3=>if b=true then E σ2 H3 fun y H4=>ys.length < sizeLine/\Pv (i+1) (ys++[y]) H4 else Pv (i+1) ys H3)
  (hd:∀ ys H D,Pv n ys H->H D=none->Q #[QB] (oG H D #[Uq])):cGo g ts te σ0 J Q H:=zeX Pv h0 AJ tF hs hd
end L2
end
section
namespace L2
theorem oD {α β:Type} {a:β} {f:α->β} {B:α->Prop} {v:α} (h:a=f v) (hb:B v):∃ v,a=f v/\B v:=⟨v,h,hb⟩
theorem oH {α β γ δ:Type} {a:γ} {b:δ} {f:α->γ} {g:β->δ} {B:α->β->Prop} {v:α} {w:β} (h:a=f v) (h':b=g w) (hb:B v w):∃ v w,a=f v/\b=g w/\B v w:=⟨v,w,h,h',hb⟩
theorem ex3 {A0 A1 A2:Type} {P:A0->A1->A2->Prop} (x0:A0) (x1:A1) (x2:A2) (h:P x0 x1 x2):∃ x0 x1 x2,P x0 x1 x2:=⟨x0,x1,x2,h⟩
theorem ex4 {A0 A1 A2 A3:Type} {P:A0->A1->A2->A3->Prop} (x0:A0) (x1:A1) (x2:A2) (x3:A3) (h:P x0 x1 x2 x3):∃ x0 x1 x2 x3,P x0 x1 x2 x3:=⟨x0,x1,x2,x3,h⟩
theorem ex5 {A0 A1 A2 A3 A4:Type} {P:A0->A1->A2->A3->A4->Prop} (x0:A0) (x1:A1) (x2:A2) (x3:A3) (x4:A4) (h:P x0 x1 x2 x3 x4):∃ x0 x1 x2 x3 x4,P x0 x1 x2 x3 x4:=⟨x0,x1,x2,x3,x4,h⟩
theorem ex6 {A0 A1 A2 A3 A4 A5:Type} {P:A0->A1->A2->A3->A4->A5->Prop} (x0:A0) (x1:A1) (x2:A2) (x3:A3) (x4:A4) (x5:A5) (h:P x0 x1 x2 x3 x4 x5):∃ x0 x1 x2 x3 x4 x5,P x0 x1 x2 x3 x4 x5:=⟨x0,x1,x2,x3,x4,x5,h⟩
theorem ex7 {A0 A1 A2 A3 A4 A5 A6:Type} {P:A0->A1->A2->A3->A4->A5->A6->Prop} (x0:A0) (x1:A1) (x2:A2) (x3:A3) (x4:A4) (x5:A5) (x6:A6) (h:P x0 x1 x2 x3 x4 x5 x6):∃ x0 x1 x2 x3 x4 x5 x6,P x0 x1 x2 x3 x4 x5 x6:=⟨x0,x1,x2,x3,x4,x5,x6,h⟩
theorem ex8 {A0 A1 A2 A3 A4 A5 A6 A7:Type} {P:A0->A1->A2->A3->A4->A5->A6->A7->Prop} (x0:A0) (x1:A1) (x2:A2) (x3:A3) (x4:A4) (x5:A5) (x6:A6) (x7:A7) (h:P x0 x1 x2 x3 x4 x5 x6 x7):∃ x0 x1 x2 x3 x4 x5 x6 x7,P x0 x1 x2 x3 x4 x5 x6 x7:=⟨x0,x1,x2,x3,x4,x5,x6,x7,h⟩
theorem ex9 {A0 A1 A2 A3 A4 A5 A6 A7 A8:Type} {P:A0->A1->A2->A3->A4->A5->A6->A7->A8->Prop} (x0:A0) (x1:A1) (x2:A2) (x3:A3) (x4:A4) (x5:A5) (x6:A6) (x7:A7) (x8:A8) (h:P x0 x1 x2 x3 x4 x5 x6 x7 x8):∃ x0 x1 x2 x3 x4 x5 x6 x7 x8,P x0 x1 x2 x3 x4 x5 x6 x7 x8:=⟨x0,x1,x2,x3,x4,x5,x6,x7,x8,h⟩
theorem zrC {A0 A1 A2 A3 A4 A5 A6 A7 A8 A9:Type} {P:A0->A1->A2->A3->A4->A5->A6->A7->A8->A9->Prop} (x0:A0) (x1:A1) (x2:A2) (x3:A3) (x4:A4) (x5:A5) (x6:A6) (x7:A7) (x8:A8) (x9:A9) (h:P x0 x1 x2 x3 x4 x5 x6 x7 x8 x9):∃ x0 x1 x2 x3 x4 x5 x6 x7 x8 x9,P x0 x1 x2 x3 x4 x5 x6 x7 x8 x9:=⟨x0,x1,x2,x3,x4,x5,x6,x7,x8,x9,h⟩
theorem zrD {A0 A1 A2 A3 A4 A5 A6 A7 A8 A9 BG:Type} {P:A0->A1->A2->A3->A4->A5->A6->A7->A8->A9->BG->Prop} (x0:A0) (x1:A1) (x2:A2) (x3:A3) (x4:A4) (x5:A5) (x6:A6) (x7:A7) (x8:A8) (x9:A9) (wx:BG) (h:P x0 x1 x2 x3 x4 x5 x6 x7 x8 x9 wx):∃ x0 x1 x2 x3 x4 x5 x6 x7 x8 x9 wx,P x0 x1 x2 x3 x4 x5 x6 x7 x8 x9 wx:=⟨x0,x1,x2,x3,x4,x5,x6,x7,x8,x9,wx,h⟩
theorem zq0 {A0 A1 A2 A3 A4 A5 A6 A7 A8 A9 BG EW:Type} {P:A0->A1->A2->A3->A4->A5->A6->A7->A8->A9->BG->EW->Prop} (x0:A0) (x1:A1) (x2:A2) (x3:A3) (x4:A4) (x5:A5) (x6:A6) (x7:A7) (x8:A8) (x9:A9) (wx:BG) (AK:EW) (h:P x0 x1 x2 x3 x4 x5 x6 x7 x8 x9 wx AK):∃ x0 x1 x2 x3 x4 x5 x6 x7 x8 x9 wx AK,P x0 x1 x2 x3 x4 x5 x6 x7 x8 x9 wx AK:=⟨x0,x1,x2,x3,x4,x5,x6,x7,x8,x9,wx,AK,h⟩
theorem zrE {A0 A1 A2 A3 A4 A5 A6 A7 A8 A9 BG EW A12 A13:Type} {P:A0->A1->A2->A3->A4->A5->A6->A7->A8->A9->BG->EW->A12->A13->Prop} (x0:A0) (x1:A1) (x2:A2) (x3:A3) (x4:A4) (x5:A5) (x6:A6) (x7:A7) (x8:A8) (x9:A9) (wx:BG) (AK:EW) (GQ:A12) (GR:A13) (h:P x0 x1 x2 x3 x4 x5 x6 x7 x8 x9 wx AK GQ GR):∃ x0 x1 x2 x3 x4 x5 x6 x7 x8 x9 wx AK GQ GR,P x0 x1 x2 x3 x4 x5 x6 x7 x8 x9 wx AK GQ GR:=⟨x0,x1,x2,x3,x4,x5,x6,x7,x8,x9,wx,AK,GQ,GR,h⟩
end L2
end
section
namespace L2
open PySem PySem.Spec PyProof.Rows
variable {A:Around} {H H' H2:Hp} {J:It} {P:Program} {X:Cx} {elt i1 t1 tg:Expr} {env:Env} {f1:List Expr} {fp:TF} {h:Heap} {it:Addr} {js:List Nat} {k t':Nat} {oC rB:TC} {oF:TH} {pos:Pos} {s s':Shared} {scope:Scope} {te:TE} {w:World} {wi:TI} {ys:List V}
abbrev TM:=List V->St->Hp->(List V->Hp->Prop)->Prop
abbrev zeL (oF:TH) (nn:Nat):Obj:={ cls:=.type "list",data:=.seq oF.toArray nn }
structure AccAt (Y:Cx) (oC:TC) (H:Hp) (s:Shared) (D:Addr) (ys:List V) (oF:TH) (nn:Nat):Prop where
 fp:zcg Y oC H D
 here:s.heap.get? D=some (zeL oF nn)
 vals:zQ ys oF
 len:ys.length<=sizeLine
noncomputable def zgU (js:List Nat) (σ:St):Prop:=∀ j∈js,∀ v,σ[j]?≠some #[UF]
noncomputable def Kp (js:List Nat) (σ σ2:St):Prop:=σ2.length=σ.length/\∀ j,j∉js->σ2[j]? = σ[j]?
theorem Kp.refl {σ:St}:Kp js σ σ:=#[UJ]
theorem Kp.set {σ σ2:St} {i:Nat} {v:Option V} (hi:i∈js) (h:Kp js σ σ2):Kp js σ (σ2.set i v):=by
 refine⟨by rw [eE]; exact h.1,fun j hj=>?_⟩;rw [dI (fun z=>hj (by rw [<- z]; exact hi))];exact h.2 j hj
noncomputable def GS (js:List Nat) (g:TG):Prop:=∀ (σ σ1:St) (x:V) (H:Hp) (Q:St->Hp->Prop),Kp js σ σ1->g x σ1 H Q->g x σ1 H fun σ2 H2=>Kp js σ σ2/\Q σ2 H2
noncomputable def GSs (js:List Nat) (g:TGs):Prop:=∀ (σ σ1:St) (xs:List V) (H:Hp) (Q:St->Hp->Prop),Kp js σ σ1->g xs σ1 H Q->g xs σ1 H fun σ2 H2=>Kp js σ σ2/\Q σ2 H2
theorem zdM {i:Nat} (hi:i∈js):GS js (zbc i):=fun σ σ1 x H Q hw h=>⟨hw.set hi,h⟩
theorem zob:GSs js zlX:=fun σ σ1 xs H Q hw h=>⟨h.1,hw,h.2⟩
theorem zmd {i:Nat} {u:TGs} (hi:i∈js) (h2:GSs js u):GSs js (zet (zbc i) u):=fun σ σ1 xs H Q hw h=>by
 obtain⟨v,r,e,h⟩:=h;exact⟨v,r,e,h2 σ _ r H Q (hw.set hi) h⟩
theorem zpW {K:aD} {n:Nat} {t:TGs} (h:GSs js t):GS js (zkH K n t):=fun σ σ1 x H Q hw hg=>by
 obtain⟨a,xs,e,hq,hl,hg⟩:=hg;exact⟨a,xs,e,hq,hl,h σ σ1 xs H Q hw hg⟩
theorem Inv.O0 {σ:St} (I:Inv X oC σ H s) (h:∀ p∈rB,p∈oC):Inv X rB σ H s :=
 I.Nz fun p hp=>I.pin p (bG _ (h p hp))
section
variable {Y:Cx} {oC:TC} {σ:St} {H:Hp} {s:Shared} {D:Addr} {ys:List V} {oF:TH} {nn:Nat}
theorem AccAt.pin (a:AccAt Y oC H s D ys oF nn) (I:Inv Y oC σ H s):Inv Y (oC++[#[RZ]]) σ H s :=
 I.Nz fun p hp=>by
  rcases (bZ.mp hp) with hp | hp
  ·exact I.pin p (bG _ hp)
  ·obtain rfl:p=(D,zeL oF nn):=by simpa using hp
   obtain⟨a0,a1,a2,_⟩:=a.fp;exact⟨a.here,a0,a1,a2,fun v z=>by cases z⟩
theorem AccAt.back {σ':St} (a:AccAt Y oC H s D ys oF nn) (I:Inv Y rB σ' H' s') (hm:#[RZ]∈rB):AccAt Y oC H' s' D ys oF nn:=by
 have p:=I.pin #[RZ] (bG _ hm);exact⟨⟨p.2.1,a.fp.2⟩,p.1,a.vals,a.len⟩
end
noncomputable def PM (Y:Cx) (D:Addr) (js:List Nat) (mk:Sem Fin->Sem Fin) (tm:TM):Prop :=
 ∀ (last:Sem Fin) (oC:TC) (s:Shared) (σ:St) (H:Hp) (ys:List V) (oF:TH) (nn:Nat) (Q:List V->Hp->Prop) (Φ:Fin->Shared->Prop),Inv Y oC σ H s->AccAt Y oC H s D ys oF nn->zgU js σ->tm ys σ H Q ->
  (∀ (s':Shared) (uH:List V) (its':TH) (Cp:Nat) (H':Hp),Inv Y oC σ H' s'->AccAt Y oC H' s' D uH its' Cp->Q uH H'->wpAny #[RH] Y.A last Φ #[RM] s') ->
  wpAny #[RH] Y.A (mk last) Φ #[RM] s
noncomputable def zgp (elt:Expr) (acc:Value) (env:Env) (last:Sem Fin):Sem Fin:=(eval elt env >>= fun x=>call (.builtin "list.append") [acc,x] >>= fun _=>pure ()) >>= fun _=>last
noncomputable def zjS (e iter:Expr) (d:Nat) (acc:Value) (env:Env) (last:Sem Fin):Sem Fin :=
 eval iter env >>= fun x=>standAt iter.pos >>= fun _=>foldedSetIterable iter env x >>= fun x=>holding [x] (pyIter x) >>= fun Cj=>runOwn (.compStart e d Cj acc env) env >>= fun _=>last
noncomputable def zjT (te:TE):TM:=fun ys σ H Q=>te σ H fun y H4=>ys.length < sizeLine/\Q (ys++[y]) H4
noncomputable def cIn (g:TG) (ts:TT) (tm:TM) (σ:St) (J:It) (Q:List V->Hp->Prop) (ys:List V) (H1:Hp):Prop :=
 ∃ W:Nat->Nat->List V->Hp->Prop,(∃ m,W 0 m ys H1)/\∀ i m ys H,W i m ys H ->
  (J.stop i H/\Q ys H) \/
  (J.go i H/\∃ N:List V->Hp->Prop,(∀ uH H',N uH H'->∃ m',m' < m/\W (i+1) m' uH H')/\∀ x H',J.yld i H x H'->g x σ H' fun σ2 H2=>ts σ2 H2 fun b H3 =>
   if b=true then tm ys σ2 H3 N else N ys H3)
noncomputable def zjU (wi:TI) (g:TG) (ts:TT) (tm:TM):TM:=fun ys σ H Q=>wi σ H fun J H1=>cIn g ts tm σ J Q ys H1
noncomputable def zgV (ix:List #[P3]) (wi:TI) (g:TG) (ts:TT) (tm:TM):TE:=fun σ H Q=>wi σ H fun J H1=>cIn g ts tm #[WK] J (fun ys H'=>∀ D,H' D=none->Q #[QB] #[Sh]) [] H1
theorem thx {α:Type} {m:Sem α} {P Q:α->Shared->Prop} {E:TB} (hx:X.xe=fun _ _=>False) (h:wpAny #[or] X.A m P X.xe s) (k:∀ a s',P a s'->Q a s'):wpAny #[or] X.A m Q E s :=
 dA h k fun _ _ z=>by rw [hx] at z; exact z.elim
theorem ziX {Y:Cx} {D:Addr} (hx:Y.xe=fun _ _=>False) (he:PE Y elt te):PM Y D [] (zgp elt #[QB] Y.env) (zjT te):=by
 intro last oC s σ H ys oF nn Q Φ I a no h k;unfold zgp;refine aB (aB (thx hx (he (oC++[#[RZ]]) s σ H _ (a.pin I) h) fun yv s1 ⟨y,H1,I1,r1,hz,q1⟩=>aB ?_));have a1:=a.back I1 (bG _ bF);have J1:Inv Y oC σ H1 s1:=I1.O0 fun p hp=>bM _ hp
 have wy:=a1.vals.length;refine gp mo ⟨_,a1.here,rfl⟩ lU (lx _ _) (mP D oF.toArray nn yv (by rw [aP]; lia)) ⟨a1.here,?_⟩;refine aL ?_;have q:=nk a1.here (·.push yv);have k10:∀ b o,b≠D->s1.heap.get? b=some o->(s1.heap.update D (fE (·.push yv))).get? b=some o:=fun b o hb e=>(iP s1.heap (fE (·.push yv)) (dY hb)).trans e
 obtain⟨b0,b1,b2,b3,b4,b5⟩:=a1.fp;have I11:Inv Y oC σ H1 { s1 with heap:=s1.heap.update D (fE (·.push yv)) }:=J1.turned (t':=s1.toks) k10 b0 b1 b3 b4 b5;have e1:oF.toArray.push yv=(oF++[yv]).toArray:=by simp
 rw [e1] at q;refine k _ (ys++[y]) (oF++[yv]) _ H1 I11 ⟨a1.fp,q,a1.vals.append (.cons r1 .nil),?_⟩ q1;rw [aS,gR];lia
section
variable {Y:Cx} {D:Addr} {js js':List Nat} {elt:Expr} {gens:List Comprehension} {scope:Scope} {pos:Pos} {d:Nat} {tg:Expr} {ifs:List Expr} {p:Pos} {mk:Sem Fin->Sem Fin} {g:TG} {ts:TT} {tm:TM}
noncomputable def zcF (tg:Expr) (ifs:List Expr) (p:Pos) (mk:Sem Fin->Sem Fin) (c:Code) (it:Value) (env:Env):Sem Fin :=
 standAt p >>= fun _=>pyNext it >>= fun r=>match r with
  | none=>pure (.done .next)
  | some v=>letOwnedTupleGo tg it v >>= fun _=>assign tg env v >>= fun _=>ziW ifs env >>= fun ok=>if ok=true then mk (again c) else again c
theorem zjV (hc:Y.calm=true) (hx:Y.xe=fun _ _=>False) (AM:GS js g) (qW:∀ j∈js,j∉js') (hg:PG Y tg g) (ht:zdJ Y ifs ts) (hm:PM Y D js' mk tm)
  (qG:∀ it,compTurn #[ww] d it #[QB] Y.env=zcF tg ifs p mk #[VR] it Y.env)
  {σ:St} {s2:Shared} {tn:Nat->Heap->Prop} {Q:List V->Hp->Prop} {R:Result->Shared->Prop} {nn:Nat}
  (I2:Inv Y oC σ H2 s2) (a2:AccAt Y oC H2 s2 D ys oF nn) (no:zgU (js++js') σ) (T:Turn Y.prog Y.w Y.K tg J fp it tn) (pD:tn 0 s2.heap) (f2:∀ b∈fp,zcg Y oC H2 b) (fD:∀ b∈fp,b≠D) (q:cIn g ts tm σ J Q ys H2)
  (hR:∀ (s':Shared) (uH:List V) (its':TH) (Cp:Nat) (H':Hp),Inv Y oC σ H' s'->AccAt Y oC H' s' D uH its' Cp->Q uH H'->R (.ok .next) s') :
  codeAny #[RH] Y.A #[Vt] R s2:=by
 obtain⟨W,⟨m0,w0⟩,turn⟩:=q;have DU:∀ {H':Hp} {oF:TH} {nn:Nat},(∀ b∈fp,H' b=none)->∀ b∈fp,zcg Y (oC++[#[RZ]]) H' b:=fun {H' oF nn} hn b hb=>by
  obtain⟨_,a1,a2,a3,a4,a5⟩:=f2 b hb;refine⟨hn b hb,a1,a2,a3,a4,fun p hp=>?_⟩;rcases (bZ.mp hp) with hp | hp
  ·exact a5 p (bM _ hp)
  ·rcases (bZ.mp hp) with hp | hp
   ·exact a5 p (bG _ hp)
   ·obtain rfl:p=(D,zeL oF nn):=by simpa using hp
    exact (fD b hb).symm
 refine codeAny_loop rfl (fun n s'=>∃ i ys H' oF nn,Inv Y oC σ H' s'/\tn i s'.heap/\(∀ b∈fp,H' b=none)/\AccAt Y oC H' s' D ys oF nn/\W i n ys H') ?_ m0
  ⟨0,ys,H2,oF,nn,I2,pD,fun b hb=>(f2 b hb).1,a2,w0⟩
 rintro n s5 ⟨i,ys,H5,oF,nn,I5,DS,fr5,a5,w5⟩;show wpAny _ Y.A ((compTurn #[ww] d #[Q8] #[QB] Y.env).onRaise (fun x=>do noteFrame x Y.env; theTreesLotGoes x)) _ _ s5;refine wpAny_noted ?_;rw [qG];unfold zcF;have I5p:=a5.pin I5
 (refine aB (hU (aB ?_)))
 rcases turn i n ys H5 w5 with ⟨stop,qn⟩ | ⟨go,N,hN,step⟩
 ·refine dA (T.done Y rfl rfl rfl hc i _ s5 _ H5 #[RM] I5p (DU fr5) DS stop) (fun r s6 ⟨hr,I6⟩=>?_) fun _ _ z=>z.elim
  subst hr;exact aL (hR s6 ys oF nn H5 (I6.O0 fun p hp=>bM _ hp) (a5.back I6 (bG _ bF)) qn)
 ·refine dA (T.item Y rfl rfl rfl hc i _ s5 _ H5 #[RM] I5p (DU fr5) DS go) (fun r s6 ⟨u,hr,h6⟩=>?_) fun _ _ z=>z.elim
  subst hr;refine aB (dA h6 (fun _ s7 ⟨x,H7,I7,r7,y7,Im,fr7⟩=>?_) fun _ _ z=>z.elim);have I7':=I7.pinned (DU fr7) (T.obj _ _ Im);refine aB (thx hx (hg _ s7 _ H7 x u _ I7' r7 (AM σ σ x H7 _ Kp.refl (step x H7 y7))) fun _ s8 ⟨σ8,H8,I8,kp,q8⟩=>?_);refine aB (thx hx (ht _ s8 σ8 H8 _ I8 q8) fun ok s9 ⟨H9,I9,q9⟩=>?_);have mD:#[RZ]∈(oC++[#[RZ]])++zcU fp s7.heap:=bM _ (bG _ bF);have a9:=a5.back I9 mD;have K9:Inv Y #[Va] σ8 H9 s9:=I9.O0 fun p hp=>(bZ.mp hp).elim (fun z=>bM _ (bM _ z)) fun z=>bG _ z
  have wk:∀ (j:Nat) v,σ[j]? = some #[UF]->σ8[j]? = some #[UF]:=fun j v e=>by
   have hj:j∉js:=fun z=>no j (bM _ z) v e
   rw [kp.2 j hj];exact e
  have back:∀ {H':Hp} {s':Shared},Inv Y #[Va] σ8 H' s'->Inv Y oC σ H' s'/\tn (i+1) s'.heap/\∀ b∈fp,H' b=none:=fun {H' s'} I'=>by
   refine⟨(I'.O0 fun p hp=>bM _ hp).weak kp.1.symm wk,T.keep _ _ _ Im fun b hb o e=>(I'.pin (b,o) #[Si]).1,fun b hb=>?_⟩;obtain⟨o,e,d⟩:=T.obj _ _ Im b hb;exact (I'.pin (b,o) #[Si]).2.1
  cases ok with
  | false =>
   rw [if_neg bH] at q9 |-;obtain⟨m',DV,w9⟩:=hN _ _ q9;obtain⟨b1,b2,b3⟩:=back K9;exact aL ⟨rfl,m',DV,i+1,ys,H9,oF,nn,b1,b2,b3,a9,w9⟩
  | true =>
   rw [if_pos rfl] at q9 |-;have a9':AccAt Y #[Va] H9 s9 D ys oF nn:=by
    obtain⟨b0,b1,b2,b3,b4,b5⟩:=a9.fp;refine⟨⟨b0,b1,b2,b3,b4,fun p hp=>?_⟩,a9.here,a9.vals,a9.len⟩;rcases (bZ.mp hp) with hp | hp
    ·exact b5 p (bM _ hp)
    ·rcases (bZ.mp hp) with hp | hp
     ·exact b5 p (bG _ hp)
     ·exact fD _ (zgd hp).1
   have no':zgU js' σ8:=fun j hj v e=>by
    have qH:j∉js:=fun z=>qW j z hj
    rw [kp.2 j qH] at e;exact no j (bG _ hj) v e
   refine dA (hm (again _) _ s9 σ8 H9 ys oF nn N (fun fin s'=>match fin with | .done f=>R (.ok f) s' | .again c'=>c'=_/\∃ m,m < n/\_) K9 a9' no' q9 fun s' uH its' Cp H' I' a' n'=>?_) (fun _ _ z=>z) fun _ _ z=>z.elim
   obtain⟨m',DV,w'⟩:=hN _ _ n';obtain⟨b1,b2,b3⟩:=back I';obtain⟨c0,c1,c2,c3,c4,c5⟩:=a'.fp;refine aL ⟨rfl,m',DV,i+1,uH,H',its',Cp,b1,b2,b3,⟨⟨c0,c1,c2,c3,c4,fun p hp=>?_⟩,a'.here,a'.vals,a'.len⟩,w'⟩;rcases (bZ.mp hp) with hp | hp
   ·exact c5 p (bM _ hp)
   ·exact c5 p (bG _ (bM _ hp))
theorem zhM {prog:Program} {R:Result->Shared->Prop} {iter:Expr} {it acc:Value} (hd:gens[d]? = some ⟨tg,iter,ifs,0⟩)
  (h0:codeAny #[ul] A (.compLoop #[ww] d it acc env) R s)
  (h:wpAny #[ul] A (pyIter it) (fun Io s'=>codeAny #[ul] A (.compLoop #[ww] d Io acc env) R s') #[RM] s) :
  codeAny #[ul] A (.compStart #[ww] d it acc env) R s:=by
 refine codeAny_of_tree ?_;show wpAny _ _ ((compStart #[ww] d it acc env).onRaise (fun x=>do noteFrame x env; standAt theWindowsPlace)) _ _ s;refine wpAny_notedAt ?_;unfold compStart;have e1:(clausesOf #[ww])[d]? = some ⟨tg,iter,ifs,0⟩:=hd;rw [e1]
 (show wpAny _ _ (ask >>= _) _ _ s)
 (refine aB (wpAny_askSetting (wpAny_ite ?_)))
 split
 ·first
   | (exact aB (aL (aL ⟨rfl,h0⟩)))
   | (exact aL ⟨rfl,h0⟩)
 ·first
   | exact aB (ee (aB (hU (aB (dA h #[U1] fun _ _ x=>x.elim)))))
   | (refine aB (ee ?_); show wpAny _ _ (standAt iter.pos >>= _) _ _ s; exact aB (hU (aB (dA h #[U1] fun _ _ x=>x.elim))))
theorem zpX {iter:Expr} (hc:Y.calm=true) (hx:Y.xe=fun _ _=>False) (AM:GS js g) (qW:∀ j∈js,j∉js') (hi:PI Y tg iter wi) (hg:PG Y tg g) (ht:zdJ Y ifs ts) (hm:PM Y D js' mk tm) (hd:gens[d]? = some ⟨tg,iter,ifs,0⟩)
  (qG:∀ it,compTurn #[ww] d it #[QB] Y.env=zcF tg ifs p mk #[VR] it Y.env)
  (hs:∀ x,foldedSetIterable iter Y.env x=pure x:=by intro _; rfl) :
  PM Y D (js++js') (zjS #[ww] iter d #[QB] Y.env) (zjU wi g ts tm):=by
 intro last oC s σ H ys oF nn Q Φ I a no h k;unfold zjS;refine aB (thx hx (hi (oC++[#[RZ]]) s σ H _ (a.pin I) h) fun v s1 h1=>aB (hU (aB ?_)));rw [hs v];refine aL (aB (dj (thx hx h1 fun Cj s2 h2=>?_)));obtain⟨it,fp,tn,J,H2,e,I2,T,pD,f2,q⟩:=h2;subst e;have a2:=a.back I2 (bG _ bF);have J2:Inv Y oC σ H2 s2:=I2.O0 fun p hp=>bM _ hp
 have Ip:∀ b∈fp,zcg Y oC H2 b:=fun b hb=>by
  obtain⟨c0,c1,c2,c3,c4,c5⟩:=f2 b hb;refine⟨c0,c1,c2,c3,c4,fun p hp=>?_⟩;rcases (bZ.mp hp) with hp | hp
  ·exact c5 p (bM _ hp)
  ·exact c5 p (bG _ (bM _ hp))
 have fD:∀ b∈fp,b≠D:=fun b hb=>((f2 b hb).2.2.2.2.2 #[RZ] (bG _ (bG _ bF))).symm
 have loop:codeAny #[RH] Y.A #[Vt] (fun r s'=>match r with | .ok f=>wpAny #[RH] Y.A last Φ #[RM] s' | .error e=>cameBackBy #[RH] Y.A Y.env #[RM] e s') s2 :=
  zjV hc hx AM qW hg ht hm qG J2 a2 no T pD Ip fD q fun s' uH its' Cp H' I' a' q'=>k s' uH its' Cp H' I' a' q'
 exact aB (wpAny_runOwn (zhM hd loop (T.self _ 0 _ _ _ pD loop)))
end
section
variable {X:Cx} {elt tg iter:Expr} {ifs:List Expr} {gs:List Comprehension} {scope:Scope} {pos:Pos} {N':List Str} {ix:List #[P3]} {js js':List Nat} {g:TG} {ts:TT} {tm:TM} {mk:Addr->Env->Sem Fin->Sem Fin}
theorem zeu {σ:St} {s2:Shared} {tn:Nat->Heap->Prop} {Q:VK} {E:TB} {RR:Value->Addr->Result->Shared->Prop}
  (SC:Lu X N' ix scope) (hc:X.calm=true) (AM:GS js g) (qW:∀ j∈js,j∉js') (tG:∀ j∈js++js',ix[j]? = some none)
  (hg:∀ s₃ H₃ ex oC,PG #[mt] tg g) (ht:∀ s₃ H₃ ex oC,zdJ #[mt] ifs ts) (hm:∀ s₃ H₃ ex oC D,PM #[mt] D js' (mk D #[mt].env) tm)
  (qG:∀ it D env,compTurn #[ss] 0 it #[QB] env=zcF tg ifs iter.pos (mk D env) #[Sw] it env)
  (I2:Inv X oC σ H2 s2) (T:Turn X.prog X.w X.K tg J fp it tn) (pD:tn 0 s2.heap) (f2:∀ b∈fp,zcg X oC H2 b) (q:cIn g ts tm #[WK] J (fun ys H'=>∀ D,H' D=none->Q #[QB] #[Sh]) [] H2)
  (hRR:∀ (D C:Addr) (s':Shared) (ys:List V) (H':Hp) (m:TJ),Inv X oC σ #[Sh] s'->zcg X oC #[Sh] C->s'.heap.Ns C m->Q #[QB] #[Sh]->RR #[QB] C (.ok .next) s') :
  wpAny #[or] X.A (newList []) (fun acc s₃=>wpAny #[or] X.A (newFunctionEnv scope X.env.globals (zau X.env.cells scope.names []) [] X.env.qual none .none (some X.env)) (fun EX s₄ =>
   codeAny #[or] X.A (.compStart #[ss] 0 #[Q8] acc { EX with scope:=relabel scope X.env }) (RR acc EX.locals) s₄) E s₃) E s2:=by
 have uI:∀ y∈scope.names,y.2 = .free->∃ c,X.env.cells.lookup y.1=some c:=fun y hy hf=>I2.ok.has y.1 #[V9]
 have rP:∀ x c,(zau X.env.cells scope.names []).lookup x=some c->X.env.cells.lookup x=some c:=zci scope.names [] uI (fun x c e=>by simp at e);refine eB (zkO ?_);have I3:Inv X oC σ H2 { s2 with heap:=s2.heap.push { cls:=.type "list",dict:=none,data:=.seq ([]:TH).toArray } }:=I2.kept (t':=s2.toks) fun b o e=>aI _ e
 have Aq:(s2.heap.push { cls:=.type "list",dict:=none,data:=.seq ([]:TH).toArray }).get? s2.heap.objs.size=some { cls:=.type "list",dict:=none,data:=.seq ([]:TH).toArray }:=aZ _ rfl;have EY:tn 0 (s2.heap.push { cls:=.type "list",dict:=none,data:=.seq ([]:TH).toArray }):=T.keep _ _ _ pD fun b hb o e=>aI _ e
 have EZ:(s2.heap.push { cls:=.type "list",dict:=none,data:=.seq ([]:TH).toArray }).objs.size=s2.heap.objs.size+1:=cZ _ _;generalize hh3:s2.heap.push { cls:=.type "list",dict:=none,data:=.seq ([]:TH).toArray }=h3 at *;have Iq:=T.obj _ _ pD;have BH:∀ b∈fp,b < s2.heap.objs.size:=fun b hb=>by obtain⟨o,e,_⟩:=Iq b hb; exact aX e
 have stk:∀ b∈frs X.stack,b=X.env.locals\/b∈X.fs:=fun b hb=>bD.mp (I2.OP b hb)
 have E1:zcg X oC H2 s2.heap.objs.size:=I2.Oi (aG _) I2.fresh;have wZ:∀ b∈s2.heap.objs.size :: fp,zcg X oC H2 b:=fun b hb=>by
  rcases (bD.mp hb) with e | hb
  ·rw [e]; exact E1
  ·exact f2 b hb
 have Cq:∀ b∈s2.heap.objs.size :: fp,b < h3.objs.size:=fun b hb=>by
  rw [EZ];rcases (bD.mp hb) with e | hb; · rw [e]; exact Nat.lt_succ_self _
  ·exact gP (BH b hb)
 have BI:∀ b∈s2.heap.objs.size :: fp,b∉frs X.stack:=fun b hb z=>by
  obtain⟨_,a1,a2,_⟩:=wZ b hb;rcases stk b z with e | e
  ·exact a1 e
  ·exact a2 e
 have hns₁:(pushCells (h3.push { cls:=.type "dict",data:=.dict #[] }) scope.names).Ns h3.objs.size (fun _=>none):=(Heap.Ns.new h3 (.type "dict")).keeps (pushCells_keeps _ _);have old:∀ b o,h3.get? b=some o->(pushCells (h3.push { cls:=.type "dict",data:=.dict #[] }) scope.names).get? b=some o:=fun b o e=>pushCells_keeps _ _ b o (aI _ e)
 have Ir:∀ x c,X.env.cells.lookup x=some c->c < h3.objs.size:=fun x c e=>by
  obtain⟨v,q⟩:=I3.cell x c e;exact q.lt
 have co:CO (pushCells (h3.push { cls:=.type "dict",data:=.dict #[] }) scope.names) #[Rm] (zau X.env.cells scope.names []) (cellsFrom #[Rm] scope.names (zau X.env.cells scope.names [])):=by
  have:=zmc (lo:=h3.objs.size+1) (old:=zau X.env.cells scope.names []) scope.names (h3.push { cls:=.type "dict",data:=.dict #[] }) (zau X.env.cells scope.names [])
   ⟨fun x c e=>.inr ⟨e,gP (Ir x c (rP x c e))⟩,fun x y c e1 e2=>I2.ok.inj x y c (rP x c e1) (rP y c e2)⟩ (by rw [cZ]; exact aG _)
  rw [cZ] at this;exact this
 generalize pushCells (h3.push { cls:=.type "dict",data:=.dict #[] }) scope.names=h₁ at hns₁ old co |-;have Iu:∀ {x c},(cellsFrom #[Rm] scope.names (zau X.env.cells scope.names [])).lookup x=some c->(h₁.IsCell c none/\h3.objs.size+1<=c)\/X.env.cells.lookup x=some c:=fun {x c} e=>(co.each x c e).elim .inl fun z=>.inr (rP x c z.1)
 have cfr:∀ x,scope.names.lookup x=some .free->(cellsFrom #[Rm] scope.names (zau X.env.cells scope.names [])).lookup x=(zau X.env.cells scope.names []).lookup x:=fun x hx=>zgS _ _ _ _ fun z=>by
  have:=SC.cells _ z rfl;rw [hx] at this;cases this
 let s3:Shared:={ s2 with heap:=h3 }
 let Y:Cx:=zV X N' scope s3 H2 (s2.heap.objs.size :: fp) oC
 have xW:Inv X oC σ H2 s3:=I3;have okY:Y.Ok:=by
  refine⟨I2.ok.mod,SC.kind,I2.ok.glob,I2.ok.blt,aG _,co.inj,fun x hx=>?_,fun x c z e=>?_,I2.ok.hd,I2.ok.frames,.inl rfl,fun b hb=>?_,fun b o e=>xW.bs b o e,?_,fun b o e hb=>?_,BI,xW.stack,xW.MY⟩
  ·have uJ:=zdI (env:=X.env) (names:=scope.names) (x:=x) hx;rcases uJ with uJ | uJ
   ·obtain⟨c,e⟩:=zcE (cs:=X.env.cells) scope.names [] x (.inr (lookup_mem uJ));exact⟨c,(cfr x uJ).trans e⟩
   ·obtain⟨c,e,_⟩:=zgT scope.names #[Rm] (zau X.env.cells scope.names []) x (lookup_mem uJ);exact⟨c,e⟩
  ·obtain⟨c',e',l'⟩:=zgT scope.names #[Rm] (zau X.env.cells scope.names []) x (lookup_mem (by have z':(scope.names.lookup x == some fm)=true:=z; simpa using z'));have e2:(cellsFrom #[Rm] scope.names (zau X.env.cells scope.names [])).lookup x=some c:=e;rw [e'] at e2;cases e2;exact jU l'
  ·refine⟨bU (Cq b hb),fun x c e=>(Iu e).elim (fun z y=>?_) fun z=>(wZ b hb).2.2.2.2.1 x c z⟩;subst y;exact dF _ (bQ (Cq _ hb) (jU z.2))
  ·exact cC I2.ok.bsz xW.sz
  ·obtain⟨_,_,_,a3,_⟩:=wZ b hb;rcases a3 with z | z
   ·exact I2.ok.Po b o e z
   ·have:=(I2.ok.bs b o e).1;exact absurd (bQ (aX this) z) (dF _)
 have Iv:Inv Y [] #[WK] H2 { s3 with heap:=h₁ }:=by
  refine⟨okY,rfl,I2.bare,Un.kept old,⟨_,hns₁,fun j x v e1 e2 e3=>?_⟩,fun x c e=>?_,xW.fresh,fun x c e=>(Iu e).elim (fun z=>xW.hok.fresh (jU z.2)) fun z=>I2.L3 x c z,fun p hp=>?_,xW.hok.kept old,?_⟩
  ·unfold zdK at e2;rw [aF] at e2;cases hj:ix[j]? with
   | none=>rw [hj] at e2; simp at e2
   | some oi =>
    rw [hj] at e2;cases oi with
    | none=>simp at e2
    | some i =>
     obtain⟨y,h1,h2,GU⟩:=SC.cap j i hj;have hxy:y=x:=by
      have e1':N'[j]? = some x:=e1;rw [h1] at e1';exact bI e1'
     subst hxy;have E2:(σ[i]?).join=some v:=by simpa using e2
     have Iw:σ[i]? = some #[UF]:=by
      cases hs:σ[i]? with
      | none=>rw [hs] at E2; simp at E2
      | some w=>rw [hs] at E2; simp at E2; rw [E2]
     obtain⟨m,hn,hl⟩:=xW.loc;have hk:=SC.free (y,.free) (lookup_mem GU) rfl;have Iy:Vis X.env.scope y:=hk.elim (fun z=>.inr (.inl z)) fun z=>.inr (.inr z)
     obtain⟨u,r,l⟩:=hl i y v h2 Iw Iy;refine⟨u,r,.inr ⟨zbV GU,?_⟩⟩;obtain⟨c,pT⟩:=zcE (cs:=X.env.cells) scope.names [] y (.inr (lookup_mem GU));refine⟨c,(cfr y GU).trans pT,?_⟩;rcases l with ⟨AI,_⟩ | ⟨_,c',oT,rC⟩
     ·rcases hk with hk | hk
      ·have sN:X.env.kindOf y=some .cell:=hk;rw [sN] at AI; cases AI
      ·have sN:X.env.kindOf y=some .free:=hk;rw [sN] at AI; cases AI
     ·have:=rP y c pT;rw [oT] at this;cases this;obtain⟨o,ho,hd⟩:=rC;exact⟨o,old _ _ ho,hd⟩
  ·rcases Iu e with z | z
   ·exact⟨_,z.1⟩
   ·obtain⟨v,o,ho,hd⟩:=xW.cell x c z;exact⟨v,o,old _ _ ho,hd⟩
  ·have ux:p∈X.pn++oC:=by
    have:p∈(X.pn++oC)++([]:TC):=hp;simpa using this
   obtain⟨a1,a2,a3,a4,a5⟩:=xW.pin p ux;exact⟨old _ _ a1,a2,bU (aX a1),fun z=>(stk _ z).elim a3 a4,a5⟩
  ·unfold zdK;rw [aA];exact SC.len.symm
 have DU:∀ {H':Hp},(∀ b∈s2.heap.objs.size :: fp,H' b=none)->∀ b∈s2.heap.objs.size :: fp,zcg Y [] H' b:=fun {H'} hn b hb=>by
  obtain⟨_,a1,a2,a3,a4,a5⟩:=wZ b hb;refine⟨hn b hb,bU (Cq b hb),BI b hb,.inl hb,(okY.exf b hb).2,fun p hp=>?_⟩;have:p∈(X.pn++oC)++([]:TC):=hp;exact a5 p #[U,this]
 have nn2:∀ b∈s2.heap.objs.size :: fp,H2 b=none:=fun b hb=>(wZ b hb).1
 have BF:zgU (js++js') #[WK]:=fun j hj v e=>by
  unfold zdK at e;rw [aF,tG j hj] at e;simp at e
 have loop:∀ s₅:Shared,s₅ = { s2 with heap:=h₁ } ->
   codeAny #[or] X.A (.compLoop #[ss] 0 #[Q8] (.ref s2.heap.objs.size) (compEnvC scope (cellsFrom #[Rm] scope.names (zau X.env.cells scope.names [])) h3.objs.size X.env)) (RR (.ref s2.heap.objs.size) h3.objs.size) s₅:=by
  rintro s₅ rfl;refine zjV (Y:=Y) (oC:=[]) (σ:=zdK ix σ) (oF:=[]) (nn:=0) hc rfl AM qW (hg s3 H2 _ oC) (ht s3 H2 _ oC) (hm s3 H2 _ oC s2.heap.objs.size) (fun it=>qG it _ _) Iv ⟨DU nn2 _ bF,old _ _ Aq,.nil,bX _⟩ BF T (T.keep _ _ _ EY fun b hb o e=>old b o e)
   (fun b hb=>DU nn2 b (aY _ hb)) (fun b hb=>bU (BH b hb)) q fun s6 ys oF nn H5 I6 a6 qn=>?_
  have dn5:H5 s2.heap.objs.size=none:=a6.fp.1;have I7:Inv X oC σ H5 s6:=by
   refine xW.Pq (s':=s6) (ch:=s2.heap.objs.size :: fp) I6.os I6.base I6.hok I6.bare fun b hb=>?_
   obtain⟨_,a1,a2,a3,a4,a5⟩:=wZ b hb;exact⟨a3,a1,a4,a5⟩
  have I8:Inv X oC σ (oG H5 s2.heap.objs.size #[Uq]) s6:=by
   obtain⟨_,a1,a2,a3,a4,a5⟩:=E1;exact I7.O8 dn5 I2.sz (dY a1) a4 a5 ⟨a6.len,oF,nn,a6.vals,a6.here⟩
  obtain⟨mm,E3,_⟩:=I6.loc;have dne:h3.objs.size≠s2.heap.objs.size:=by rw [EZ]; exact j8 _
  refine hRR _ _ s6 ys H5 mm I8 (xW.Oi (H':=oG H5 s2.heap.objs.size #[Uq]) (aG _) ?_) E3 (qn _ dn5);show oG H5 s2.heap.objs.size #[Uq] h3.objs.size=none;rw [zn dne];exact I6.free
 exact zhM rfl (loop _ rfl) (T.self _ 0 _ _ _ (T.keep _ _ _ EY fun b hb o e=>old b o e) (loop _ rfl))
theorem zhN (SC:Lu X N' ix scope) (hc:X.calm=true) (AM:GS js g) (qW:∀ j∈js,j∉js') (tG:∀ j∈js++js',ix[j]? = some none) (hi:PI X tg iter wi)
  (hg:∀ s₃ H₃ ex oC,PG #[mt] tg g) (ht:∀ s₃ H₃ ex oC,zdJ #[mt] ifs ts) (hm:∀ s₃ H₃ ex oC D,PM #[mt] D js' (mk D #[mt].env) tm)
  (qG:∀ it D env,compTurn #[ss] 0 it #[QB] env=zcF tg ifs iter.pos (mk D env) #[Sw] it env)
  (hs:∀ x,foldedSetIterable iter X.env x=pure x:=by intro _; rfl):PE X #[ss] (zgV ix wi g ts tm):=by
 intro oC s σ H Q I h;rw [eval_ListComp];have uI:∀ y∈scope.names,y.2 = .free->∃ c,X.env.cells.lookup y.1=some c:=fun y hy hf=>I.ok.has y.1 #[V9]
 refine j9 (use:=none) rfl hs (zdq uI) SC.kind SC.names (thn #[UM] fun v s1 h1=>thn h1 fun Cj s2 h2=>?_);obtain⟨it,fp,tn,J,H2,e,I2,T,pD,f2,q⟩:=h2;subst e;refine zeu (RR:=fun acc C=>compPost #[or] X.A X.xe none #[Qp] acc C) SC hc AM qW tG hg ht hm qG I2 T pD f2 q ?_;intro D C s' ys H' m I' Iz hm q';refine⟨m,hm,fun AN qt=>⟨.ref D,_,?_,rfl,q'⟩⟩;obtain⟨f0,f1,Ip,f3,f4,f5⟩:=Iz;exact I'.turned (t':=s'.toks) (fun b o hb e=>qt.extBut b o hb e) f0 f1 f3 f4 f5
theorem zew {i:Nat} {x:Str} {pos' qI:Pos} (hN:X.N.Nodup) (AO:X.N[i]? = some x) (hx:Loc X.env.scope x) (SC:Lu X N' ix scope) (hc:X.calm=true) (AM:GS js g) (qW:∀ j∈js,j∉js') (tG:∀ j∈js++js',ix[j]? = some none) (hi:PI X tg iter wi)
  (hg:∀ s₃ H₃ ex oC,PG #[mt] tg g) (ht:∀ s₃ H₃ ex oC,zdJ #[mt] ifs ts) (hm:∀ s₃ H₃ ex oC D,PM #[mt] D js' (mk D #[mt].env) tm)
  (qG:∀ it D env,compTurn #[ss] 0 it #[QB] env=zcF tg ifs iter.pos (mk D env) #[Sw] it env)
  (E4:swapsWith #[ss] #[V1] qI.line X.env=pure true:=by rfl)
  (hs:∀ x,foldedSetIterable iter X.env x=pure x:=by intro _; rfl) (hf:X.fn x=true\/X.env.scope.names.lookup x=some .local:=by first | exact .inl rfl | exact .inr rfl | assumption) :
  PS X (.Assign [.Name x pos'] #[ss] qI) (zfV (zgV ix wi g ts tm) (zbc i)):=by
 intro oC s σ H D I h;have uI:∀ y∈scope.names,y.2 = .free->∃ c,X.env.cells.lookup y.1=some c:=fun y hy hf=>I.ok.has y.1 #[V9]
 rw [exec_Assign_Name_used _ _ _ _ E4]; refine aB (hU (aB ?_));show wpAny _ X.A (do let _ <- comprehension #[ss] scope X.env _ (newList []) false (eval iter X.env) (some #[Vc])) _ _ s;refine aB (dA (j9 (use:=some #[Vc]) (Q:=fun _ s'=>SP X oC D .next s') rfl hs (zdq uI) SC.kind SC.names
  (thn #[UM] fun v s1 h1=>thn h1 fun Cj s2 h2=>?_)) (fun _ s' hq=>aL (aL hq)) fun _ _ e=>e)
 obtain⟨it,fp,tn,J,H2,e,I2,T,pD,f2,q⟩:=h2;subst e;refine zeu (Q:=fun x H1=>zbc i x σ H1 D.nx) (RR:=fun acc C=>compPost #[or] X.A X.xe (some #[Vc]) (fun _ s'=>SP X oC D .next s') acc C) SC hc AM qW tG hg ht hm qG I2 T pD f2 q ?_;intro Da C s' ys H' m I' Iz hm q';show wpAny _ X.A (assign #[Rg] X.env (.ref Da)) _ _ _;refine wpAny_assign_Name (zga I' hN AO hx (show RelV (.ref Da) (.ref Da) from rfl) (fun EU I'' ⟨a,pZ,ha⟩=>?_) hf);obtain⟨f0,f1,Ip,f3,f4,f5⟩:=Iz;have hCa:C≠a:=by
  rcases ha with e | e
  ·rw [e]; exact f1
  ·exact dY (f4 x a e)
 refine⟨m,hm.sameBut pZ hCa,fun h₃ hs₃=>⟨_,_,?_,q'⟩⟩;exact I''.turned (t':=EU.toks) (fun b o hb e=>hs₃.extBut b o hb e) f0 f1 f3 f4 f5
end
theorem zme {t2 i2:Expr} {f2:List Expr} (it:Value) (D:Addr) (env:Env):compTurn (.ListComp elt [⟨t1,i1,f1,0⟩,⟨t2,i2,f2,0⟩] scope pos) 0 it #[QB] env =
  zcF t1 f1 i1.pos (zjS (.ListComp elt [⟨t1,i1,f1,0⟩,⟨t2,i2,f2,0⟩] scope pos) i2 1 #[QB] env) (.compLoop (.ListComp elt [⟨t1,i1,f1,0⟩,⟨t2,i2,f2,0⟩] scope pos) 0 it #[QB] env) it env:=by rfl
theorem zpY {t2 i2:Expr} {f2:List Expr} (it:Value) (D:Addr) (env:Env):compTurn (.ListComp elt [⟨t1,i1,f1,0⟩,⟨t2,i2,f2,0⟩] scope pos) 1 it #[QB] env =
  zcF t2 f2 i2.pos (zgp elt #[QB] env) (.compLoop (.ListComp elt [⟨t1,i1,f1,0⟩,⟨t2,i2,f2,0⟩] scope pos) 1 it #[QB] env) it env:=by rfl
noncomputable def zej (ix:List #[P3]):List Nat:=(aU ix.length).filter fun j=>ix[j]? == some none
theorem zcG {ix:List #[P3]} {i:Nat}:i∈zej ix↔ix[i]? = some none:=by
 unfold zej;rw [cK,bP,beq_iff_eq];exact⟨fun h=>h.2,fun h=>⟨(aK.mp h).1,h⟩⟩
noncomputable def GK (ix:List #[P3]) (g:TG):Prop:=GS (zej ix) g
noncomputable def GKs (ix:List #[P3]) (g:TGs):Prop:=GSs (zej ix) g
theorem zar {ix:List #[P3]} {i:Nat} (hi:ix[i]? = some none):GK ix (zbc i):=zdM (zcG.2 hi)
theorem zav {ix:List #[P3]}:GKs ix zlX:=zob
theorem zp {ix:List #[P3]} {i:Nat} {u:TGs} (hi:ix[i]? = some none) (h2:GKs ix u):GKs ix (zet (zbc i) u):=zmd (zcG.2 hi) h2
theorem zaK {ix:List #[P3]} {K:aD} {n:Nat} {t:TGs} (h:GKs ix t):GK ix (zkH K n t):=zpW h
theorem zpg (it:Value) (D:Addr) (env:Env):compTurn (.ListComp elt [⟨t1,i1,f1,0⟩] scope pos) 0 it #[QB] env =
  zcF t1 f1 i1.pos (zgp elt #[QB] env) (.compLoop (.ListComp elt [⟨t1,i1,f1,0⟩] scope pos) 0 it #[QB] env) it env:=by rfl
section
variable {X:Cx} {elt tg iter:Expr} {ifs:List Expr} {scope:Scope} {pos:Pos} {N':List Str} {ix:List #[P3]} {g:TG} {ts:TT} {te:TE}
theorem zU {wi:TI} (SC:Lu X N' ix scope) (hc:X.calm=true) (hk:GK ix g) (hi:PI X tg iter wi)
  (hg:∀ s₃ H₃ ex oC,PG #[mt] tg g) (ht:∀ s₃ H₃ ex oC,zdJ #[mt] ifs ts) (he:∀ s₃ H₃ ex oC,PE #[mt] elt te)
  (hs:∀ x,foldedSetIterable iter X.env x=pure x:=by intro _; rfl):PE X (.ListComp elt [⟨tg,iter,ifs,0⟩] scope pos) (zpf ix wi g ts te) :=
 zhN (mk:=fun D env=>zgp elt #[QB] env) (js:=zej ix) (js':=[]) SC hc hk (fun _ _ h=>nomatch h) (fun j h=>zcG.1 #[U,h]) hi hg ht #[S3] (fun _ _ _=>zpg _ _ _) hs
theorem zbm {wi:TI} {i:Nat} {x:Str} {pos' qI:Pos} (hN:X.N.Nodup) (AO:X.N[i]? = some x) (hx:Loc X.env.scope x) (SC:Lu X N' ix scope) (hc:X.calm=true) (hk:GK ix g) (hi:PI X tg iter wi)
  (hg:∀ s₃ H₃ ex oC,PG #[mt] tg g) (ht:∀ s₃ H₃ ex oC,zdJ #[mt] ifs ts) (he:∀ s₃ H₃ ex oC,PE #[mt] elt te)
  (E4:swapsWith (.ListComp elt [⟨tg,iter,ifs,0⟩] scope pos) #[V1] qI.line X.env=pure true:=by rfl)
  (hs:∀ x,foldedSetIterable iter X.env x=pure x:=by intro _; rfl) (hf:X.fn x=true\/X.env.scope.names.lookup x=some .local:=by first | exact .inl rfl | exact .inr rfl | assumption) :
  PS X (.Assign [.Name x pos'] (.ListComp elt [⟨tg,iter,ifs,0⟩] scope pos) qI) (zfV (zpf ix wi g ts te) (zbc i)) :=
 zew (mk:=fun D env=>zgp elt #[QB] env) (js:=zej ix) (js':=[]) hN AO hx SC hc hk (fun _ _ h=>nomatch h) (fun j h=>zcG.1 #[U,h]) hi hg ht #[S3] (fun _ _ _=>zpg _ _ _) E4 hs hf
end
section
variable {X:Cx} {oC:TC} {σ:St} {H:Hp} {s:Shared} {h':Heap}
theorem Inv.MW {ch:TF} (I:Inv X oC σ H s) (k:∀ b o,b∉ch->s.heap.get? b=some o->h'.get? b=some o) (hf:∀ b∈ch,zcg X oC H b)
  (th:∀ b∈ch,∃ o,h'.get? b=some o):Inv X oC σ H { s with heap:=h',toks:=t' }:=by
 have wu:∀ b u,H b=some u->b∉ch:=fun b u e z=>by rw [(hf b z).1] at e; cases e
 refine I.step (g':=s.gens) (d':=s.drawn) (ch:=ch) (fun b hb=>?_) (fun b o _ _ hc e _=>k b o hc e) (fun b o _ _ hc e _=>⟨o.slots,k b o hc e⟩) #[RO]
  (fun b o hc e=>⟨o,k b o hc e⟩) #[SH] #[RN] (fun b ps e=>⟨#[],by rw [e]; simp⟩) #[SG] #[Vo] I.bare
 ·obtain⟨_,a1,_,a3,a4,a5⟩:=hf b hb;exact⟨a3,a1,a4,a5⟩
 ·obtain⟨o,es,ep,ho,r⟩:=hm;exact⟨o,es,ep,k _ o (fun z=>(hf _ z).2.1 rfl) ho,r⟩
 ·refine #[TQ].Ny (fun c v hc q=>k c v ?_ q) #[Te] fun _ _ q=>q
  rcases hc with z | z
  ·rw [z]; exact wu b u e
  ·exact wu c _ z
theorem Inv.Mu {ch:TF} {T:Addr} {o:HO} (I:Inv X oC σ H s) (k:∀ b o,b∉ch->s.heap.get? b=some o->h'.get? b=some o) (hf:∀ b∈ch,zcg X oC H b)
  (th:∀ b∈ch,∃ o,h'.get? b=some o) (hT:s.heap.objs.size<=T) (ok:zak X.prog X.w (oG H T o) h' T o):Inv X oC σ (oG H T o) { s with heap:=h',toks:=t' }:=by
 have I1:Inv X oC σ H { s with heap:=h',toks:=t' }:=I.MW k hf th;have hn:H T=none:=I.hok.fresh hT;obtain⟨_,a1,a2,a3,a4,a5⟩:=I.Oi (H':=H) hT hn;exact I1.O8 hn (cC I.sz hT) (dY a1) a4 a5 ok
end
noncomputable def zmf (Sq:Hp->Addr->List V->Prop) (a:Addr):It :=
 ⟨fun i H=>∃ xs x,Sq H a xs/\xs[i]? = some x,fun i H x H'=>∃ T v,H T=none/\x = .ref T/\H'=oG H T (.tup [.int i,v])/\∀ xs,Sq H a xs->xs[i]? = some v,fun i H=>∃ xs,Sq H a xs/\xs.length<=i⟩
theorem zcH {T:Addr} {a b:Value} (e:h.get? T=some { cls:=.type "tuple",data:=.seq #[a,b] }):IsTup h T ([a,b]:TH).toArray:=⟨_,e,rfl,_,rfl⟩
theorem zbM:2<=sizeLine:=by rw [bN]; decide
theorem ziY {K:aD} {es:List Expr} (a it e:Addr) (DW:e≠it):Turn P w K #[RX] (zmf (oE K) a) [e,it] e (fun i h=>(∃ old,IsEnum h e it i old)/\h.IsListIter it a i) where
 mem:=by simp
 obj:=fun i h st b hb=>by
  obtain⟨⟨old,he⟩,o,ho,hc,hd⟩:=st;rcases bD.mp hb with z | z
  ·subst z;exact⟨_,he,fun v z=>by cases z⟩
  ·have z:b=it:=by simpa using z
   subst z;exact⟨o,ho,fun v z=>by rw [hd] at z; cases z⟩
 keep:=fun i h h' st kk=>⟨st.1.imp fun old he=>kk e #[M] _ he,st.2.at fun o eo=>kk it #[M] o eo⟩
 item:=by
  intro X hP hw hK hc i oC s σ H E I hf st hg;subst hP hw hK;obtain⟨xs,x,hq,hx⟩:=hg;obtain⟨⟨old,he⟩,hit⟩:=st;obtain⟨oF,rv,p,hz⟩:=I.list hq;obtain⟨u,hu,ru⟩:=rv.get hx;have vm:e < s.heap.objs.size:=aX he;have hits:it < s.heap.objs.size:=by obtain⟨o,ho,_⟩:=hit; exact aX ho
  refine wpAny_pyNext_enum_item he hit p.isList (x:=u) #[U,hu] DW fun h' sJ sS hT hsz kk=>?_
  have k1:∀ b o,b∉[e,it]->s.heap.get? b=some o->h'.get? b=some o:=fun b o hb eo=>kk b o (fun z=>hb (by simp [z])) (fun z=>hb (by simp [z])) eo
  have Cr:∀ b∈[e,it],∃ o,h'.get? b=some o:=fun b hb=>by
   rcases bD.mp hb with z | z
   ·subst z; exact⟨_,sJ⟩
   ·have z:b=it:=by simpa using z
    subst z;obtain⟨o,eo,_⟩:=sS;exact⟨o,eo⟩
  have I1:Inv X oC σ (oG H s.heap.objs.size (.tup [.int i,x])) { s with heap:=h',toks:=s.toks+1 } :=
   I.Mu k1 hf Cr (aG _) ⟨zbM,_,.cons ⟨s.toks,rfl⟩ (.cons ru .nil),zcH hT⟩
  refine⟨_,rfl,jN sJ fun AN tU qt=>?_⟩;have fr:∀ b∈[e,it],oG H s.heap.objs.size (.tup [.int i,x]) b=none:=fun b hb=>by
   have oY:b < s.heap.objs.size:=by
    rcases bD.mp hb with z | z
    ·subst z; exact vm
    ·have z:b=it:=by simpa using z
     subst z; exact hits
   rw [zn (bU oY)];exact #[Vw].1
  have I2:Inv X oC σ (oG H s.heap.objs.size (.tup [.int i,x])) { s with heap:=AN,toks:=s.toks+1 } :=
   Inv.MW (s:={ s with heap:=h',toks:=s.toks+1 }) (ch:=[e]) (t':=s.toks+1) I1 #[UB] (fun b hb=>by
    have z:b=e:=by simpa using hb
    subst z;exact⟨fr b #[M],(hf b #[M]).2⟩) (fun b hb=>by
    have z:b=e:=by simpa using hb
    subst z;exact⟨_,tU⟩)
  refine⟨.ref s.heap.objs.size,_,I2,rfl,⟨_,x,I.fresh,rfl,rfl,fun ys hy=>by rw [I.Mh hy hq]; exact hx⟩,⟨⟨_,by simpa using tU⟩,sS.extBut qt.extBut (dY DW)⟩,fr⟩
 done:=by
  intro X hP hw hK hc i oC s σ H E I hf st hg;subst hP hw hK;obtain⟨xs,hq,hx⟩:=hg;obtain⟨⟨old,he⟩,hit⟩:=st;obtain⟨oF,rv,p,hz⟩:=I.list hq;have hl:=rv.length;obtain⟨f0,f1,f2,f3,f4,f5⟩:=hf it #[M];exact wpAny_pyNext_enum_end #[QO] he hit p.isList (by simp; lia) fun h' eb=>#[wn]
 self:=fun _ _ _ _ _ st h=>by
  obtain⟨⟨old,he⟩,_⟩:=st;exact iJ he h
noncomputable def iEn (Sq:Hp->Addr->List V->Prop) (ta:TA):TI:=fun σ H R=>ta σ H fun vs H1=>∃ a xs,vs = [.ref a]/\Sq H1 a xs/\R (zmf Sq a) H1
theorem zhO {X:Cx} {es:List Expr} {k:Nat} {rK p pos:Pos} {a:Expr} {ta:TA} (hg:Gl X "enumerate") (hm:X.mg "enumerate" = none) (ha:PA X [a] ta) (hs:starEach [a] X.env = [#[Os]]:=by rfl) :
  PI X #[Sg] (.Call (.Name "enumerate" p) [a] [] pos) (iEn (oE X.K) ta):=by
 intro oC s σ H R I h;refine Call_ (zbr I hg hm boot_enumerate (cR (thn #[Ch] fun us s1 ⟨vs,H1,I1,r1,q1⟩=>?_) hs rfl));obtain⟨l,xs,e,hq,q⟩:=q1;subst e;cases r1 with
 | cons r rr =>
  cases rr;cases r;obtain⟨oF,rv,pl,hz⟩:=I1.list hq;refine call_enumerate_list pl.isList fun h' he hi hsz kk=>?_
  have I2:Inv X oC σ H1 { s1 with heap:=h' }:=I1.kept (t':=s1.toks) kk;refine iJ he ?_; refine⟨_,[s1.heap.objs.size+1,s1.heap.objs.size],_,zmf (oE X.K) l,H1,rfl,I2,ziY l s1.heap.objs.size (s1.heap.objs.size+1) (j8 _),⟨⟨_,he⟩,hi⟩,fun b hb=>?_,q⟩;have hle:s1.heap.objs.size<=b:=by
   rcases bD.mp hb with z | z
   ·rw [z]; exact kM _
   ·have z:b=s1.heap.objs.size:=by simpa using z
    rw [z]; exact aG _
  exact I1.Oi hle #[RI]
noncomputable def zkP (xa xb:Hp->Addr->List V->Prop) (a b:Addr):It :=
 ⟨fun i H=>∃ xs ys x y,xa H a xs/\xb H b ys/\xs[i]? = some x/\ys[i]? = some y,
  fun i H x H'=>∃ T u v,H T=none/\x = .ref T/\H'=oG H T (.tup [u,v])/\(∀ xs,xa H a xs->xs[i]? = some u)/\∀ ys,xb H b ys->ys[i]? = some v,
  fun i H=>∃ xs ys,xa H a xs/\xb H b ys/\(xs.length<=i\/ys.length<=i)⟩
theorem zkQ {K:aD} {es:List Expr} (a b:Addr) (n:Nat) (ha:a < n) (hb:b < n):Turn P w K #[RX] (zkP (oE K) (oE K) a b) [n+4,n+2,n+3,n,n+1] (n+4)
  (fun i h=>IsZip h (n+4) (n+2) (n+3) .none/\IsPair h (n+2) (.ref n) (.ref (n+1))/\(∃ u v,IsPair h (n+3) u v)/\h.IsListIter n a i/\h.IsListIter (n+1) b i) where
 mem:=by simp
 obj:=fun i h st c hc=>by
  obtain⟨h1,h2,⟨u,v,h3⟩,⟨o4,e4,_,d4⟩,⟨o5,e5,_,d5⟩⟩:=st;simp only [bD,cG,or_false] at hc;rcases hc with z | z | z | z | z <;> subst z
  ·exact⟨_,h1,fun v z=>by cases z⟩
  ·exact⟨_,h2,fun v z=>by cases z⟩
  ·exact⟨_,h3,fun v z=>by cases z⟩
  ·exact⟨_,e4,fun v z=>by rw [d4] at z; cases z⟩
  ·exact⟨_,e5,fun v z=>by rw [d5] at z; cases z⟩
 keep:=fun i h h' st kk=>by
  obtain⟨h1,h2,⟨u,v,h3⟩,h4,h5⟩:=st;exact⟨kk _ #[M] _ h1,kk _ #[M] _ h2,⟨u,v,kk _ #[M] _ h3⟩,h4.at fun o eo=>kk _ #[M] o eo,h5.at fun o eo=>kk _ #[M] o eo⟩
 item:=by
  intro X hP hw hK hc i oC s σ H E I hf st hg;subst hP hw hK;obtain⟨xs,ys,x,y,tH,qJ,hx,hy⟩:=hg;obtain⟨h1,h2,⟨u0,v0,h3⟩,h4,h5⟩:=st;obtain⟨p8,vF,p1,vn⟩:=I.list tH;obtain⟨pj,vG,p2,wA⟩:=I.list qJ;obtain⟨u,hu,ru⟩:=vF.get hx;obtain⟨v,hv,rv⟩:=vG.get hy;have hzs:n+4 < s.heap.objs.size:=aX h1;refine wpAny_pyNext_zip_item #[Tw] h1 h2 h3 h4 h5 p1.isList p2.isList (x:=u) (y:=v) #[U,hu] #[U,hv] fun h' a1 a2 a3 a4 a5 a6 kk=>?_
  have k1:∀ c o,c∉[n+4,n+3,n,n+1]->s.heap.get? c=some o->h'.get? c=some o:=fun c o oT eo =>
   kk c o (fun z=>oT (by simp [z])) (fun z=>oT (by simp [z])) (fun z=>oT (by simp [z])) (fun z=>oT (by simp [z])) eo
  have sub:∀ c∈[n+4,n+3,n,n+1],c∈[n+4,n+2,n+3,n,n+1]:=fun c oT=>by
   simp only [bD,cG,or_false] at oT |-;rcases oT with z | z | z | z <;> subst z <;> simp
  have Cr:∀ c∈[n+4,n+3,n,n+1],∃ o,h'.get? c=some o:=fun c oT=>by
   simp only [bD,cG,or_false] at oT;rcases oT with z | z | z | z <;> subst z
   ·exact⟨_,a1⟩
   ·exact⟨_,a2⟩
   ·obtain⟨o,e,_⟩:=a3; exact⟨o,e⟩
   ·obtain⟨o,e,_⟩:=a4; exact⟨o,e⟩
  have I1:Inv X oC σ (oG H s.heap.objs.size (.tup [x,y])) { s with heap:=h' } :=
   I.Mu (t':=s.toks) k1 (fun c oT=>hf c (sub c oT)) Cr (aG _) ⟨zbM,_,.cons ru (.cons rv .nil),zcH a5⟩
  refine⟨_,rfl,wpAny_letOwnedTupleGo_zip a1 fun AN yq qt=>?_⟩;have fr:∀ c∈[n+4,n+2,n+3,n,n+1],oG H s.heap.objs.size (.tup [x,y]) c=none:=fun c oT=>by
   have oY:c < s.heap.objs.size:=by
    simp only [bD,cG,or_false] at oT;rcases oT with z | z | z | z | z <;> subst z <;> lia
   rw [zn (bU oY)];exact (hf c oT).1
  have I2:Inv X oC σ (oG H s.heap.objs.size (.tup [x,y])) { s with heap:=AN } :=
   Inv.MW (s:={ s with heap:=h' }) (ch:=[n+4]) (t':=s.toks) I1 #[UA] (fun c oT=>by
    have z:c=n+4:=by simpa using oT
    subst z;exact⟨fr _ #[M],(hf _ #[M]).2⟩) (fun c oT=>by
    have z:c=n+4:=by simpa using oT
    subst z;exact⟨_,yq⟩)
  refine⟨.ref s.heap.objs.size,_,I2,rfl,⟨_,x,y,I.fresh,rfl,rfl,fun zs hz=>by rw [I.Mh hz tH]; exact hx,fun zs hz=>by rw [I.Mh hz qJ]; exact hy⟩,
   ⟨yq,qt.extBut _ _ #[Tw].TIz (kk _ _ #[Tw].TIz #[Tw].TITO #[Tw].TIi1 #[Tw].TIi2 h2),⟨_,_,qt.extBut _ _ #[Tw].TOz a2⟩,a3.extBut qt.extBut #[Tw].i1z,a4.extBut qt.extBut #[Tw].i2z⟩,fr⟩
 done:=by
  intro X hP hw hK hc i oC s σ H E I hf st hg;subst hP hw hK;obtain⟨xs,ys,tH,qJ,hx⟩:=hg;obtain⟨h1,h2,⟨u0,v0,h3⟩,h4,h5⟩:=st;obtain⟨p8,vF,p1,vn⟩:=I.list tH;obtain⟨pj,vG,p2,wA⟩:=I.list qJ;have vo:=vF.length;have qc:=vG.length;refine wpAny_pyNext_zip_end #[QO] #[Tw] h1 h2 h3 h4 h5 p1.isList p2.isList ?_ fun h' kk=>#[QH]
  ·rcases hx with z | z
   ·exact .inl (by simp; lia)
   ·exact .inr (by simp; lia)
  ·have hth:∀ c∈[n+4,n+3,n,n+1],c∈[n+4,n+2,n+3,n,n+1]:=fun c oT=>by
    simp only [bD,cG,or_false] at oT |-;rcases oT with z | z | z | z <;> subst z <;> simp
   refine I.step (g':=s.gens) (d':=s.drawn) (t':=s.toks) (ch:=[n+4,n+3,n,n+1]) (fun c oT=>?_) (fun c o _ _ pT e _=>kk c o (fun z=>pT (by simp [z])) (fun z=>pT (by simp [z])) (fun z=>pT (by simp [z])) (fun z=>pT (by simp [z])) e)
    (fun c o _ _ pT e _=>⟨o.slots,kk c o (fun z=>pT (by simp [z])) (fun z=>pT (by simp [z])) (fun z=>pT (by simp [z])) (fun z=>pT (by simp [z])) e⟩) #[RO]
    (fun c o pT e=>⟨o,kk c o (fun z=>pT (by simp [z])) (fun z=>pT (by simp [z])) (fun z=>pT (by simp [z])) (fun z=>pT (by simp [z])) e⟩) #[SH] #[RN] (fun c ps e=>⟨#[],by rw [e]; simp⟩) #[SG] (fun c u e=>?_) I.bare
   ·obtain⟨_,a1,_,a3,a4,a5⟩:=hf c (hth c oT);exact⟨a3,a1,a4,a5⟩
   ·obtain⟨o,An,ep,ho,r⟩:=hm;have ne:∀ c∈[n+4,n+2,n+3,n,n+1],X.env.locals≠c:=fun c oT=>dY (hf c oT).2.1
    exact⟨o,An,ep,kk _ o (ne _ #[M]) (ne _ #[M]) (ne _ #[M]) (ne _ #[M]) ho,r⟩
   ·have wu:∀ d u',H d=some u'->∀ c∈[n+4,n+2,n+3,n,n+1],d≠c:=fun d u' e' c oT z=>by rw [z,(hf c oT).1] at e'; cases e'
    refine (I.hok c u e).Ny (fun d v' hd q=>kk d v' ?_ ?_ ?_ ?_ q) #[Te] fun _ _ q=>q
    all_goals
     rcases hd with z | z
     ·rw [z]; exact wu c u e _ #[M]
     ·exact wu d _ z _ #[M]
 self:=fun _ _ _ _ _ st h=>wpAny_pyIter_zip st.1 h
noncomputable def iZp (xa xb:Hp->Addr->List V->Prop) (ta:TA):TI:=fun σ H R=>ta σ H fun vs H1=>∃ a b xs ys,vs = [.ref a,.ref b]/\xa H1 a xs/\xb H1 b ys/\R (zkP xa xb a b) H1
theorem zdN {X:Cx} {es:List Expr} {k:Nat} {rK p pos:Pos} {a b:Expr} {ta:TA} (hg:Gl X "zip") (hm:X.mg "zip" = none) (ha:PA X [a,b] ta) (hs:starEach [a,b] X.env = [#[Os],#[GM]]:=by rfl) (qU:starEach [b] X.env = [#[GM]]:=by rfl) :
  PI X #[Sg] (.Call (.Name "zip" p) [a,b] [] pos) (iZp (oE X.K) (oE X.K) ta):=by
 intro oC s σ H R I h;refine Call_ (zbr I hg hm boot_zip (cR (thn #[Ch] fun us s1 ⟨vs,H1,I1,r1,q1⟩=>?_) (by rw [hs,qU]) (by rw [qU]; rfl)));obtain⟨l1,l2,xs,ys,e,tH,qJ,q⟩:=q1;subst e;cases r1 with
 | cons r rr =>
  cases rr with
  | cons r' rr =>
   cases rr;cases r;cases r';obtain⟨p8,vF,BJ,vn⟩:=I1.list tH;obtain⟨pj,vG,Cs,wA⟩:=I1.list qJ;have uK:l1 < s1.heap.objs.size:=by obtain⟨_,_,e,_⟩:=BJ; exact aX e
   have uL:l2 < s1.heap.objs.size:=by obtain⟨_,_,e,_⟩:=Cs; exact aX e
   refine call_zip_2 BJ.isList Cs.isList fun h' b1 b2 b3 b4 b5 b6 kk=>?_
   have I2:Inv X oC σ H1 { s1 with heap:=h' }:=I1.kept (t':=s1.toks) kk;refine wpAny_pyIter_zip b1 ?_;refine⟨_,_,_,zkP (oE X.K) (oE X.K) l1 l2,H1,rfl,I2,zkQ l1 l2 s1.heap.objs.size uK uL,⟨b1,b2,⟨_,_,b3⟩,b4,b5⟩,fun c hc=>?_,q⟩;have hle:s1.heap.objs.size<=c:=by
    simp only [bD,cG,or_false] at hc;rcases hc with z | z | z | z | z <;> subst z <;> lia
   exact I1.Oi hle #[RI]
noncomputable def zhP (Sq:Hp->Addr->List V->Prop) (a:Addr) (n:Nat):It :=
 ⟨fun i H=>i < n/\∃ xs,Sq H a xs/\xs.length=n,fun i H x H'=>H'=H/\∀ xs,Sq H a xs->xs[n - 1 - i]? = some x,fun i H=>n<=i⟩
theorem zkR {K:aD} (a it:Addr) (n:Nat):Turn P w K tg (zhP (oE K) a n) [it] it (fun i h=>i<=n/\h.IsRevIter it a ((n:Int) - 1 - (i:Int))) where
 mem:=by simp
 obj:=fun i h st b hb=>by
  have z:b=it:=by simpa using hb
  subst z;obtain⟨_,o,e,c,d⟩:=st;exact⟨o,e,fun v z=>by rw [d] at z; cases z⟩
 keep:=fun i h h' st k=>⟨st.1,st.2.at fun o e=>k it #[M] o e⟩
 item:=by
  intro X hP hw hK hc i oC s σ H E I hf st hg;subst hP hw hK;obtain⟨rW,xs,hq,hl⟩:=hg;obtain⟨oF,rv,p,hz⟩:=I.list hq;have oO:=rv.length;obtain⟨x,hx⟩:∃ x,xs[n - 1 - i]? = some x:=⟨xs[n - 1 - i]'#[O],#[M]⟩;obtain⟨u,hu,ru⟩:=rv.get hx;obtain⟨f0,f1,f2,f3,f4,f5⟩:=hf it #[M];have e:(n:Int) - 1 - (i:Int)=((n - 1 - i:Nat):Int):=by lia
  have hit:=st.2;rw [e] at hit;refine wpAny_pyNext_rev_item hit p.isList (x:=u) #[U,hu] fun h' oI sb=>?_
  have I1:Inv X oC σ H { s with heap:=h' }:=I.turned (t':=s.toks) (fun b o hb e=>(sb.2 b hb).trans e) f0 f1 f3 f4 f5;have e2:((n - 1 - i:Nat):Int) - 1=(n:Int) - 1 - ((i+1:Nat):Int):=by lia
  rw [e2] at oI;obtain⟨o,eo,c,d⟩:=id oI;exact⟨u,rfl,zgb (s:={ s with heap:=h' }) eo c d #[D] ⟨x,H,I1,ru,⟨rfl,fun ys hy=>by rw [I.Mh hy hq]; exact hx⟩,⟨rW,oI⟩,fun b hb=>#[Vw].1⟩⟩
 done:=by
  intro X hP hw hK hc i oC s σ H E I hf st hg;subst hP hw hK;obtain⟨f0,f1,f2,f3,f4,f5⟩:=hf it #[M];have rW:n<=i:=hg;have e:(n:Int) - 1 - (i:Int) = -1:=by have:=st.1; lia
  have hit:=st.2;rw [e] at hit;exact wpAny_pyNext_rev_end #[QO] hit fun h' eb=>#[wn]
 self:=fun _ _ _ _ _ st h=>ly st.2 h
end L2
end
section
namespace PySem
namespace F
theorem zgq:Manifest.owners.lookup (String.ofList ['d','e','s','r','e','v','e','r'].reverse)=some Manifest.sig_reversed:=by kernel_rfl
theorem LA:Slot "reversed" "__next__" "reversed.__next__" :=
 .of (owner:="reversed") (n:="__next__") (by rw [gf,eJ]; kernel_rfl) #[N] #[N] #[N] (by first | exact .inl #[N] | exact .inr #[N]) (by rw [jt]; kernel_rfl)
theorem Mn:entryFor table "reversed.__next__" = some Builtin.«reversed.__next__»:=entryFor_of_tree (by kernel_rfl)
theorem L9 (a:Value):argsOk "reversed.__next__" ⟨[a],[]⟩:=by
 unfold argsOk; rw [signature?_of (id:="reversed.__next__") (n:=['_','_','t','x','e','n','_','_']) (o:=['d','e','s','r','e','v','e','r']) (by kernel_rfl) zgq]; kernel_rfl
theorem Mw:Slot "reversed" "__iter__" "reversed.__iter__" :=
 .of (owner:="reversed") (n:="__iter__") (by rw [gf,eJ]; kernel_rfl) #[N] #[N] #[N] (by first | exact .inl #[N] | exact .inr #[N]) (by rw [jt]; kernel_rfl)
theorem Na (a:Value):argsOk "reversed.__iter__" ⟨[a],[]⟩:=by
 unfold argsOk; rw [signature?_of (id:="reversed.__iter__") (n:=['_','_','r','e','t','i','_','_']) (o:=['d','e','s','r','e','v','e','r']) (by kernel_rfl) zgq]; kernel_rfl
theorem Nk:entryFor table "reversed.__iter__" = some Builtin.«dict_keyiterator.__iter__»:=entryFor_alias (id':="dict_keyiterator.__iter__") (by kernel_rfl) (by first | rfl | decide +kernel | (unfold String.splitOn; simp +decide [String.splitOnAux])) #[N] (by kernel_rfl)
theorem zfX:Slot "reversed" "__init__" "object.__init__":=.of (owner:="object") (n:="__init__") (by rw [gf,eJ]; kernel_rfl) #[N] #[N] #[N] (by first | exact .inl #[N] | exact .inr #[N]) (by rw [jt]; kernel_rfl)
theorem OL:TypeCalled "reversed" "reversed.__new__" "object.__init__" :=
 ⟨#[N],#[N],⟨_,_,mro_reversed⟩,made_reversed,#[N],by rw [jt]; kernel_rfl,zfX⟩
theorem Om:typeLookup (.type "tuple") "__reversed__" = pure none:=by rw [gf,eJ]; kernel_rfl
end F
noncomputable def zgW (l:Addr) (i:Int):Obj:={ cls:=.type "reversed",data:=.fields #[.ref l,rawInt i] }
noncomputable def Heap.Nc (h:Heap) (a l:Addr) (i:Int):Prop:=∃ o,h.get? a=some o/\o.cls = .type "reversed"/\o.data = .fields #[.ref l,rawInt i]
theorem Heap.Nc.typeIs {s:Shared} {a l:Addr} {i:Int} (x:s.heap.Nc a l i):s.TypeIs #[QD] "reversed":=let ⟨o,ho,hc,_⟩:=x; ⟨o,ho,hc⟩
theorem Heap.Nc.at {h h':Heap} {a l:Addr} {i:Int} (x:h.Nc a l i) (e:∀ o,h.get? a=some o->h'.get? a=some o):h'.Nc a l i:=let ⟨o,ho,r⟩:=x; ⟨o,e _ ho,r⟩
open PyProof.Rows in
theorem zfY (l:Addr) (items:Array Value) :
  Meets (Builtin.«reversed.__new__» ⟨[.type "reversed",.ref l],[]⟩) (fun _ R s=>IsTup s.heap l items/\(items.size:Int) < 2 ^ 63 /\
   R (.ok (.ret #[At])) { s with heap:=s.heap.push (zgW l ((items.size:Int) - 1)),toks:=s.toks+1+1 }) :=
 .of_wp fun prog w A R s h=>by
  obtain⟨hl,hsz,h⟩:=h;unfold Builtin.«reversed.__new__»; refine aB (fW (newClass_reversed _) ?_)
  try dsimp only
  iterate 2 refine aB (fW (a:=()) (by first | rfl | kernel_rfl) ?_)
  try dsimp only
  refine aB (jf hl.typeIs F.Om ?_)
  try dsimp only
  refine aB (aB (m:=isInstance #[RB] (.type "dict")) (gX hl.typeIs F.sub_tuple_dict ?_));simp only [cF,if_false]; refine aB (m:=specialOf #[RB] "__getitem__") #[Tu];refine aL ?_
  try dsimp only
  try simp only [Bool.not_true,cF,if_false]
  refine aB (len_tuple hl hsz ?_);refine aB (m:=asInt? _) (fW (a:=some (items.size:Int)) rfl ?_)
  try dsimp only
  refine aB (m:=nU _ _) ?_;show wpAny _ _ (newObj (.type "reversed") (.fields #[.ref l,rawInt ((items.size:Int) - 1)]) none) _ _ _;refine eB ?_;exact aL ⟨_,rfl,h⟩
section
variable {prog:Program} {w:World} {A:Around} {E:TB} {s:Shared}
open PyProof.Rows
theorem zfn {l:Addr} {items:Array Value} {Q:TB} (hl:IsTup s.heap l items) (hsz:(items.size:Int) < 2 ^ 63)
  (h:Q #[At] { s with heap:=s.heap.push (zgW l ((items.size:Int) - 1)),toks:=s.toks+1+1 }):wpAny #[ul] A (call (.type "reversed") [.ref l]) Q E s:=by
 refine mC F.OL #[D] (F.typeCall_reversed_1 _) (F.newCall_reversed_1 _) (fun obj=>lA obj _) F.entry_reversed_new (zfY l items) ⟨hl,hsz,?_⟩; exact⟨⟨_,aZ _ rfl,rfl⟩,h⟩
theorem zcS {it l:Addr} {i:Nat} {items:Array Value} {x:Value} {Q:Option Value->Shared->Prop} (hit:s.heap.Nc it l (i:Int)) (hl:IsTup s.heap l items) (hx:items[i]? = some x) (hi:(i:Int) < 2 ^ 62)
  (hQ:∀ h',h'.Nc it l ((i:Int) - 1)->cT it s.heap h'->Q (some x) { s with heap:=h',toks:=s.toks+1 }):wpAny #[ul] A #[Tt] Q E s:=by
 obtain⟨o,ho,hc,hd⟩:=id hit; unfold pyNext;refine aB (eY (dH (name:=cN "__next__") hit.typeIs F.LA
  (dG F.LA hit.typeIs F.Mn ?_ (F.L9 _))))
 unfold Builtin.«reversed.__next__»;refine aB (fW (a:=(bL it,[])) rfl ?_); try dsimp only
 refine aB #[Xo]; refine aB (dD ho hd (x:=rawInt (i:Int)) rfl ?_);show wpAny _ _ (if (i:Int) < 0 then _ else _) _ _ s; rw [if_neg #[O]];refine aB #[Tu]
 try simp only [Option.isNone_some,cF,if_false]
 refine aB (wpAny_mkInt ?_); have oY:i < items.size:=by
  obtain⟨h1,_⟩:=fo.mp hx;exact h1
 refine aB (eY (lL (j:=i) hl #[O] #[O] (by rw [jz #[O] #[O]]; simp) hx ?_))
 try dsimp only
 refine aB (dD (s:={ s with toks:=s.toks+1 }) ho hd (x:=rawInt (i:Int)) rfl ?_);show wpAny _ _ (setField #[Q8] 1 (rawInt ((i:Int) - 1)) >>= _) _ _ _;refine aB (gt (s:={ s with toks:=s.toks+1 }) ho hd #[M] (aL ⟨x,rfl,aL (hQ _ ?_ (fh ..))⟩));exact⟨_,gd _ ho (gS (fu hd _)),(jV ..).trans hc,by rw [fu hd]; simp⟩
theorem zcX {it l:Addr} {Q:Option Value->Shared->Prop} (hh:A.handled=none) (hit:s.heap.Nc it l (-1)) (hQ:∀ h',mZ it s.heap h'->Q none { s with heap:=h' }):wpAny #[ul] A #[Tt] Q E s:=by
 obtain⟨o,ho,hc,hd⟩:=id hit; unfold pyNext;refine aB (eY (dH (name:=cN "__next__") hit.typeIs F.LA
  (dG F.LA hit.typeIs F.Mn ?_ (F.L9 _))))
 unfold Builtin.«reversed.__next__»;refine aB (fW (a:=(bL it,[])) rfl ?_); try dsimp only
 refine aB #[Xo]; refine aB (dD ho hd (x:=rawInt (-1)) rfl ?_);show wpAny _ _ (if (-1:Int) < 0 then _ else _) _ _ s; rw [if_pos #[D]];refine aB (ee ?_);refine aB (aB (m:=setField #[Q8] 1 (rawInt (-1))) #[T4]);have hd2:=fu hd (·.setIfInBounds 1 (rawInt (-1)));have DX:=gd (jO (·.setIfInBounds 1 (rawInt (-1)))) ho (gS hd2);refine gt DX hd2 #[M] ?_
 try dsimp only
 refine aB ?_; show wpAny _ _ (newExc (.type "StopIteration") [] >>= _) _ _ _;refine aB ?_;simp only [newExc,newTuple];refine aB (eB ?_ (by size_fits)); refine aB (m:=firstArgMember _ _) (fW (a:=eZ) (by first | rfl | (simp only [firstArgMember]; rfl)) ?_);refine eB ?_ (by size_fits); simp only [raiseNew];refine aB (lN ?_); first | rw [show A.in1.handled=none from hh] | rw [hh]
 refine aB (aL (m5 ?_)); refine aB (gX (T:="StopIteration") (b:=true) ⟨_,aZ _ rfl,rfl⟩ ju ?_);exact aL (hQ _ ((((fh ..).extBut.trans (fh ..).extBut).push _).push _))
theorem zcp {it l:Addr} {i:Int} {Q:TB} (hit:s.heap.Nc it l i) (h:Q #[Q8] s):wpAny #[ul] A (pyIter #[Q8]) Q E s:=by
 refine jW hit.typeIs F.Mw (dG F.Mw hit.typeIs F.Nk ?_ (F.Na _));show wpAny _ _ (ret #[Q8]) _ _ s; exact aL ⟨_,rfl,"reversed",_,hit.typeIs,F.LA.lookup,h⟩
end
section
variable {prog:Program} {w:World} {A:Around} {E:TB} {s:Shared}
theorem zhQ {it t:Addr} {i:Nat} {items:Array Value} {x:Value} {Q:TB} (hit:s.heap.IsTupleIter it t i) (ht:s.heap.IsTuple t items) (hx:items[i]? = some x)
  (hQ:∀ h',h'.IsTupleIter it t (i+1)->cT it s.heap h'->Q x { s with heap:=h' }):wpAny #[ul] A (cH #[Q8]) Q E s:=by
 obtain⟨o,ho,hc,hd⟩:=id hit; obtain⟨ot,IA,_,nt,IB⟩:=ht;unfold cH; refine aB (dH (name:=cN "__next__") hit.typeIs gj #[VW]);show wpAny _ _ (field #[Q8] 0 >>= _) _ _ s; refine aB #[Xn]; show wpAny _ _ (if (bL t == eZ)=true then _ else _) _ _ _; rw [if_neg (by exact bH)];refine aB #[WE]; refine aB (m:=seqItems? _) (fw IA IB ?_); simp only [cB,hx];have hn:=gd (jO (·.setIfInBounds 1 (rawInt ((i+1:Nat):Int)))) ho (gS (fu hd _));refine aB (gt ho hd #[M] (aL ⟨x,rfl,aL (hQ _ ⟨_,hn,(jV ..).trans hc,?_⟩ (fh ..))⟩)); rw [fu hd]; simp [rawInt]
theorem zex {it t:Addr} {i:Nat} {items:Array Value} {Q:TB} (hh:A.handled=none) (hit:s.heap.IsTupleIter it t i) (ht:s.heap.IsTuple t items) (hx:items[i]? = none)
  (hE:∀ h' e,mZ it s.heap h'->(∃ o,h'.get? e=some o/\o.cls = .type "StopIteration")->E (.ref e) { s with heap:=h' }):wpAny #[ul] A (cH #[Q8]) Q E s:=by
 obtain⟨o,ho,hc,hd⟩:=id hit; obtain⟨ot,IA,_,nt,IB⟩:=ht;unfold cH; refine aB (dH (name:=cN "__next__") hit.typeIs gj #[VW]);show wpAny _ _ (field #[Q8] 0 >>= _) _ _ s; refine aB #[Xn]; show wpAny _ _ (if (bL t == eZ)=true then _ else _) _ _ _; rw [if_neg (by exact bH)];refine aB #[WE]; refine aB (m:=seqItems? _) (fw IA IB ?_); simp only [cB,hx];refine aB (ee (aB #[T4])); show wpAny _ _ (newExc (.type "StopIteration") [] >>= _) _ _ _; refine aB ?_;simp only [newExc,newTuple]; refine aB (eB ?_ (by size_fits)); refine aB (m:=firstArgMember _ _) (fW (a:=eZ) (by first | rfl | (simp only [firstArgMember]; rfl)) ?_);refine eB ?_ (by size_fits); simp only [raiseNew]; refine aB (lN ?_); first | rw [show A.in1.handled=none from hh] | rw [hh]
 refine aB (aL (m5 ?_)); exact hE _ _ (((fh ..).extBut.push _).push _) ⟨_,aZ _ rfl,rfl⟩
end
theorem Draws.tuple {prog:Program} {w:World} {A:Around} (hh:A.handled=none) (it t:Addr) (oZ:t≠it) (items:Array Value):Draws prog w A it [it,t] items.size (fun i v=>items[i]? = some v) (fun i h=>h.IsTupleIter it t i/\h.IsTuple t items) where
 live:=fun i h st=>st.1.imp fun o r=>r.1
 frame:=fun i h h' st kk=>⟨st.1.at fun o=>kk it #[M] o,st.2.at fun o=>kk t #[M] o⟩
 item:=fun i s Q E hi st hQ=>zhQ st.1 st.2 (x:=items[i]) (by simp [hi]) fun h' a b=>hQ _ h' s.toks (by simp [hi]) ⟨a,st.2.extBut b.extBut oZ⟩ b
 done:=fun s Q E st hE=>zex hh st.1 st.2 #[M] hE
noncomputable def zbW (t:Addr):Obj:={ cls:=.type "tuple_iterator",data:=.fields #[.ref t,.int 0 0] }
noncomputable def zmg (it:Addr):Obj:={ cls:=.type "enumerate",data:=.fields #[.none,.bool false,.ref it,rawInt 0,.none,.none] }
open AutoSeq1 (wpAny_loadPart') in
theorem zhR (l:Addr) (items:Array Value) (n:Nat) (IC:Option Addr) (sl:Array #[Sr]) :
  Meets (Builtin.«enumerate.__new__» ⟨[.type "enumerate",.ref l],[]⟩) (fun _ R s=>s.heap.get? l=some { cls:=.type "tuple",dict:=IC,data:=.seq items n,slots:=sl } /\
   R (.ok (.ret (.ref #[SX].objs.size))) { s with heap:=#[SX].push (zmg s.heap.objs.size) }) :=
 .of_wp fun prog w A R s h=>by
  obtain⟨hp,g,d,tk,os⟩:=s; obtain⟨hl,h⟩:=h; have hT:Heap.IsTuple (m7 ⟨hp,g,d,tk,os⟩) l items:=⟨_,hl,rfl,n,rfl⟩;have ID:=sub_enumerate; wp_walk using kC hl;refine wpAny_stack_any fun st=>aL ?_; split
  ·rename_i c _ _ _ _ _; cases (c == Value.type "enumerate") <;> (wp_walk using kC hl,gG hT; exact⟨_,rfl,h⟩)
  ·wp_walk using kC hl,gG hT; exact⟨_,rfl,h⟩
theorem zcY {prog:Program} {w:World} {A:Around} {E:TB} {s:Shared} {l:Addr} {items:Array Value} {Q:TB} (hL:s.heap.IsTuple l items)
  (h:∀ h',IsEnum h' #[Rn] s.heap.objs.size 0 .none->h'.IsTupleIter s.heap.objs.size l 0->h'.objs.size=s.heap.objs.size+2 ->
   (∀ b o,s.heap.get? b=some o->h'.get? b=some o)->Q (.ref #[Rn]) { s with heap:=h' }):wpAny #[ul] A (call (.type "enumerate") [.ref l]) Q E s:=by
 obtain⟨⟨c,IC,dt,sl⟩,hl,hc,n,hd⟩:=hL; replace hc:c = .type "tuple":=hc; replace hd:dt = .seq items n:=hd; subst hc hd;refine mC F.called_enumerate #[D] (F.typeCall_enumerate_1 _) (F.newCall_enumerate_1 _) (fun obj=>lA obj _) F.entry_enumerate_new (zhR l items n IC sl) ⟨hl,?_⟩;have hz:#[SX].objs.size=s.heap.objs.size+1:=cZ ..;have he:=aZ #[SX] (o:=zmg s.heap.objs.size) rfl;show _/\_;rw [hz] at he |-;exact⟨⟨_,he,rfl⟩,h _ he ⟨_,aI _ (aZ _ rfl),rfl,rfl⟩ (by rw [cZ,hz]) fun b o x=>aI _ (aI _ x)⟩
end PySem
namespace L2
open PySem PySem.Spec PyProof.Rows
variable {H1:Hp} {P:Program} {X:Cx} {j k:Nat} {oC:TC} {pos:Pos} {s1:Shared} {tg:Expr} {us:TH} {w:World}
theorem zkS {K:aD} (a it:Addr) (n:Nat):Turn P w K tg (zhP (oQ K) a n) [it] it (fun i h=>i<=n/\h.Nc it a ((n:Int) - 1 - (i:Int))) where
 mem:=by simp
 obj:=fun i h st b hb=>by
  have z:b=it:=by simpa using hb
  subst z;obtain⟨_,o,e,c,d⟩:=st;exact⟨o,e,fun v z=>by rw [d] at z; cases z⟩
 keep:=fun i h h' st k=>⟨st.1,st.2.at fun o e=>k it #[M] o e⟩
 item:=by
  intro X hP hw hK hc i oC s σ H E I hf st hg;subst hP hw hK;obtain⟨rW,xs,hq,hl⟩:=hg;obtain⟨oF,rv,p,hz⟩:=I.tuple hq;have oO:=rv.length;have qu:=bN;obtain⟨x,hx⟩:∃ x,xs[n - 1 - i]? = some x:=⟨xs[n - 1 - i]'#[O],#[M]⟩;obtain⟨u,hu,ru⟩:=rv.get hx;obtain⟨f0,f1,f2,f3,f4,f5⟩:=hf it #[M];have e:(n:Int) - 1 - (i:Int)=((n - 1 - i:Nat):Int):=by lia
  have hit:=st.2;rw [e] at hit;refine zcS hit p (x:=u) #[U,hu] #[O] fun h' oI sb=>?_
  have I1:Inv X oC σ H { s with heap:=h',toks:=s.toks+1 }:=I.turned (t':=s.toks+1) (fun b o hb e=>(sb.2 b hb).trans e) f0 f1 f3 f4 f5;have e2:((n - 1 - i:Nat):Int) - 1=(n:Int) - 1 - ((i+1:Nat):Int):=by lia
  rw [e2] at oI;obtain⟨o,eo,c,d⟩:=id oI;exact⟨u,rfl,zgb (s:={ s with heap:=h',toks:=s.toks+1 }) eo c d #[D] ⟨x,H,I1,ru,⟨rfl,fun ys hy=>by rw [I.Mv hy hq]; exact hx⟩,⟨rW,oI⟩,fun b hb=>#[Vw].1⟩⟩
 done:=by
  intro X hP hw hK hc i oC s σ H E I hf st hg;subst hP hw hK;obtain⟨f0,f1,f2,f3,f4,f5⟩:=hf it #[M];have rW:n<=i:=hg;have e:(n:Int) - 1 - (i:Int) = -1:=by have:=st.1; lia
  have hit:=st.2;rw [e] at hit;exact zcX #[QO] hit fun h' eb=>#[wn]
 self:=fun _ _ _ _ _ st h=>zcp st.2 h
theorem zgX {σ:St} {R:It->Hp->Prop} {l:Addr} {xs:List V} (I1:Inv X oC σ H1 s1) (hq:oQ X.K H1 l xs) (q:R (zhP (oQ X.K) l xs.length) H1) :
  wpAny #[or] X.A (call (.type "reversed") [.ref l]) #[Sa] X.xe s1:=by
 obtain⟨oF,rv,pl,hz⟩:=I1.tuple hq;have oO:=rv.length;have qu:=bN;refine zfn pl (by rw [aP]; lia) ?_;have I2:Inv X oC σ H1 { s1 with heap:=s1.heap.push (zgW l ((oF.toArray.size:Int) - 1)),toks:=s1.toks+1+1 }:=I1.kept fun b o e=>aI _ e
 have hr:(s1.heap.push (zgW l ((oF.toArray.size:Int) - 1))).Nc s1.heap.objs.size l ((xs.length:Int) - 1 - ((0:Nat):Int)):=by
  refine⟨_,aZ _ rfl,rfl,?_⟩;have e1:(oF.toArray.size:Int) - 1=(xs.length:Int) - 1 - ((0:Nat):Int):=by rw [aP,oO]; lia
  show mX #[.ref l,rawInt ((oF.toArray.size:Int) - 1)]=_;rw [e1]
 refine zcp hr ?_;refine⟨_,[s1.heap.objs.size],_,zhP (oQ X.K) l xs.length,H1,rfl,I2,zkS l s1.heap.objs.size xs.length,⟨bX _,hr⟩,fun b hb=>?_,q⟩;have z:b=s1.heap.objs.size:=by simpa using hb
 subst z;exact I1.Oi (aG _) #[Qs]
theorem zhS {σ:St} {R:It->Hp->Prop} {l:Addr} {xs:List V} (I1:Inv X oC σ H1 s1) (hq:oE X.K H1 l xs) (q:R (zhP (oE X.K) l xs.length) H1) :
  wpAny #[or] X.A (call (.type "reversed") [.ref l]) #[Sa] X.xe s1:=by
 obtain⟨oF,rv,pl,hz⟩:=I1.list hq;have oO:=rv.length;refine call_reversed_list pl.isList ?_;have I2:Inv X oC σ H1 { s1 with heap:=s1.heap.push (revObj l ((oF.toArray.size:Int) - 1)) }:=I1.kept (t':=s1.toks) fun b o e=>aI _ e
 have hr:(s1.heap.push (revObj l ((oF.toArray.size:Int) - 1))).IsRevIter s1.heap.objs.size l ((xs.length:Int) - 1 - ((0:Nat):Int)):=by
  refine⟨_,aZ _ rfl,rfl,?_⟩;have e1:(oF.toArray.size:Int) - 1=(xs.length:Int) - 1 - ((0:Nat):Int):=by rw [aP,oO]; lia
  show mX #[.ref l,rawInt ((oF.toArray.size:Int) - 1)]=_;rw [e1]
 refine ly hr ?_;refine⟨_,[s1.heap.objs.size],_,zhP (oE X.K) l xs.length,H1,rfl,I2,zkR l s1.heap.objs.size xs.length,⟨bX _,hr⟩,fun b hb=>?_,q⟩;have z:b=s1.heap.objs.size:=by simpa using hb
 subst z;exact I1.Oi (aG _) #[Qs]
noncomputable def zrF (K:aD) (ta:TA):TI:=fun σ H R=>ta σ H fun vs H1=>∃ a xs,vs = [.ref a]/\((oE K H1 a xs/\R (zhP (oE K) a xs.length) H1)\/(oQ K H1 a xs/\R (zhP (oQ K) a xs.length) H1))
theorem zpZ {X:Cx} {tg:Expr} {p pos:Pos} {a:Expr} {ta:TA} (hg:Gl X "reversed") (hm:X.mg "reversed" = none) (ha:PA X [a] ta) (hs:starEach [a] X.env = [#[Os]]:=by rfl) :
  PI X tg (.Call (.Name "reversed" p) [a] [] pos) (zrF X.K ta):=by
 intro oC s σ H R I h;refine Call_ (zbr I hg hm boot_reversed (cR (thn #[Ch] fun us s1 ⟨vs,H1,I1,r1,q1⟩=>?_) hs rfl));obtain⟨l,xs,e,hq⟩:=q1;subst e;cases r1 with
 | cons r rr =>
  cases rr;cases r;rcases hq with ⟨hq,q⟩ | ⟨hq,q⟩
  ·exact zhS I1 hq q
  ·exact zgX I1 hq q
theorem ziZ {K:aD} {es:List Expr} (a it e:Addr) (DW:e≠it) (hai:a≠it) (hae:a≠e):Turn P w K #[RX] (zmf (oQ K) a) [e,it] e (fun i h=>(∃ old,IsEnum h e it i old)/\h.IsTupleIter it a i) where
 mem:=by simp
 obj:=fun i h st b hb=>by
  obtain⟨⟨old,he⟩,o,ho,hc,hd⟩:=st;rcases bD.mp hb with z | z
  ·subst z;exact⟨_,he,fun v z=>by cases z⟩
  ·have z:b=it:=by simpa using z
   subst z;exact⟨o,ho,fun v z=>by rw [hd] at z; cases z⟩
 keep:=fun i h h' st kk=>⟨st.1.imp fun old he=>kk e #[M] _ he,st.2.at fun o eo=>kk it #[M] o eo⟩
 item:=by
  intro X hP hw hK hc i oC s σ H E I hf st hg;subst hP hw hK;obtain⟨xs,x,hq,hx⟩:=hg;obtain⟨⟨old,he⟩,hit⟩:=st;obtain⟨oF,rv,p,hz⟩:=I.tuple hq;obtain⟨u,hu,ru⟩:=rv.get hx;have vm:e < s.heap.objs.size:=aX he;have hits:it < s.heap.objs.size:=by obtain⟨o,ho,_⟩:=hit; exact aX ho
  have oY:i < oF.toArray.size:=by
   have:=(aK.mp hu).1;simpa using this
  have hh:X.A.in1.handled=none:=by simp [I.ok.hd hc]
  refine wpAny_pyNext_enum_itemD (Draws.tuple hh it a hai oF.toArray) he ⟨hit,(show s.heap.IsTuple a oF.toArray from p)⟩ oY DW (by simp [DW,dY hae]) fun u' h' tk hPu sJ IE hT hsz kk=>?_
  obtain⟨sS,htup'⟩:=IE;have eu:u'=u:=by
   have e1:oF[i]? = some u':=by simpa using hPu
   rw [hu] at e1;exact (bI e1).symm
  subst eu;have k1:∀ b o,b∉[e,it]->s.heap.get? b=some o->h'.get? b=some o:=fun b o hb eo=>kk b o (fun z=>hb (by simp [z])) (fun z=>hb (by simp [z])) eo
  have Cr:∀ b∈[e,it],∃ o,h'.get? b=some o:=fun b hb=>by
   rcases bD.mp hb with z | z
   ·subst z; exact⟨_,sJ⟩
   ·have z:b=it:=by simpa using z
    subst z;obtain⟨o,eo,_⟩:=sS;exact⟨o,eo⟩
  have I1:Inv X oC σ (oG H s.heap.objs.size (.tup [.int i,x])) { s with heap:=h',toks:=tk+1 } :=
   I.Mu k1 hf Cr (aG _) ⟨zbM,_,.cons ⟨tk,rfl⟩ (.cons ru .nil),zcH hT⟩
  refine⟨_,rfl,jN sJ fun AN tU qt=>?_⟩;have fr:∀ b∈[e,it],oG H s.heap.objs.size (.tup [.int i,x]) b=none:=fun b hb=>by
   have oY:b < s.heap.objs.size:=by
    rcases bD.mp hb with z | z
    ·subst z; exact vm
    ·have z:b=it:=by simpa using z
     subst z; exact hits
   rw [zn (bU oY)];exact #[Vw].1
  have I2:Inv X oC σ (oG H s.heap.objs.size (.tup [.int i,x])) { s with heap:=AN,toks:=tk+1 } :=
   Inv.MW (s:={ s with heap:=h',toks:=tk+1 }) (ch:=[e]) (t':=tk+1) I1 #[UB] (fun b hb=>by
    have z:b=e:=by simpa using hb
    subst z;exact⟨fr b #[M],(hf b #[M]).2⟩) (fun b hb=>by
    have z:b=e:=by simpa using hb
    subst z;exact⟨_,tU⟩)
  refine⟨.ref s.heap.objs.size,_,I2,rfl,⟨_,x,I.fresh,rfl,rfl,fun ys hy=>by rw [I.Mv hy hq]; exact hx⟩,⟨⟨_,by simpa using tU⟩,sS.extBut qt.extBut (dY DW)⟩,fr⟩
 done:=by
  intro X hP hw hK hc i oC s σ H E I hf st hg;subst hP hw hK;obtain⟨xs,hq,hx⟩:=hg;obtain⟨⟨old,he⟩,hit⟩:=st;obtain⟨oF,rv,p,hz⟩:=I.tuple hq;have hl:=rv.length;obtain⟨f0,f1,f2,f3,f4,f5⟩:=hf it #[M];have hT:s.TypeIs (.ref e) "enumerate":=⟨_,he,rfl⟩; have hh:X.A.in1.handled=none:=by simp [I.ok.hd hc]
  unfold pyNext; refine aB (eY (dH (name:=cN "__next__") hT kW (dG kW hT F.entry_enumerate_next ?_ (F.args_enumerate_next_1 _))));show wpAny _ _ (field (.ref e) 2 >>= _) _ _ _; refine aB (dD he rfl (x:=.ref it) rfl ?_);refine aB (zex hh hit (show s.heap.IsTuple a oF.toArray from p) (by simp; lia) fun h' x AQ uJ=>?_);obtain⟨o,ho,hc⟩:=uJ;refine aB (gX (T:="StopIteration") (b:=true) ⟨o,ho,hc⟩ ju ?_); exact aL ⟨rfl,I.turned (t':=s.toks) (fun b o hb e=>AQ b o hb e) f0 f1 f3 f4 f5⟩
 self:=fun _ _ _ _ _ st h=>by
  obtain⟨⟨old,he⟩,_⟩:=st;exact iJ he h
theorem zhT {X:Cx} {es:List Expr} {k:Nat} {rK p pos:Pos} {a:Expr} {ta:TA} (hg:Gl X "enumerate") (hm:X.mg "enumerate" = none) (ha:PA X [a] ta) (hs:starEach [a] X.env = [#[Os]]:=by rfl) :
  PI X #[Sg] (.Call (.Name "enumerate" p) [a] [] pos) (iEn (oQ X.K) ta):=by
 intro oC s σ H R I h;refine Call_ (zbr I hg hm boot_enumerate (cR (thn #[Ch] fun us s1 ⟨vs,H1,I1,r1,q1⟩=>?_) hs rfl));obtain⟨l,xs,e,hq,q⟩:=q1;subst e;cases r1 with
 | cons r rr =>
  cases rr;cases r;obtain⟨oF,rv,pl,hz⟩:=I1.tuple hq;have oY:l < s1.heap.objs.size:=by obtain⟨_,e,_⟩:=pl; exact aX e
  refine zcY (show s1.heap.IsTuple l oF.toArray from pl) fun h' he hi hsz kk=>?_
  have I2:Inv X oC σ H1 { s1 with heap:=h' }:=I1.kept (t':=s1.toks) kk;refine iJ he ?_; refine⟨_,[s1.heap.objs.size+1,s1.heap.objs.size],_,zmf (oQ X.K) l,H1,rfl,I2,ziZ l s1.heap.objs.size (s1.heap.objs.size+1) (j8 _) (bU oY) (bU (gP oY)),⟨⟨_,he⟩,hi⟩,fun b hb=>?_,q⟩;have hle:s1.heap.objs.size<=b:=by
   rcases bD.mp hb with z | z
   ·rw [z]; exact kM _
   ·have z:b=s1.heap.objs.size:=by simpa using z
    rw [z]; exact aG _
  exact I1.Oi hle #[RI]
inductive EqD (K:aD) (H:Hp):Nat->V->V->Bool->Prop where
 | flat {d:Nat} {x y:V} (hx:zcV x=true) (hy:zcV y=true):EqD K H d x y (eqV x y)
 | same {d:Nat} {a:Addr}:EqD K H d #[QD] #[QD] true
 | lists {d:Nat} {a b:Addr} {xs ys:List V} {e:Nat->Bool} (oZ:a≠b) (ha:oE K H a xs) (hb:oE K H b ys) (hl:xs.length=ys.length)
   (he:∀ (j:Nat) x y,xs[j]? = some x->ys[j]? = some y->EqD K H d x y (e j)):EqD K H (d+1) #[QD] #[T7] (#[VF].all e)
 | lens {d:Nat} {a b:Addr} {xs ys:List V} (oZ:a≠b) (ha:oE K H a xs) (hb:oE K H b ys) (hl:xs.length≠ys.length):EqD K H (d+1) #[QD] #[T7] false
 | Nd {d:Nat} {a b:Addr} {xs ys:List V} {e:Nat->Bool} (oZ:a≠b) (ha:oQ K H a xs) (hb:oQ K H b ys)
   (he:∀ (j:Nat) x y,xs[j]? = some x->ys[j]? = some y->EqD K H d x y (e j)):EqD K H (d+1) #[QD] #[T7] ((aU #[Xj]).all e && xs.length == ys.length)
theorem zQ.Og {xs:List V} (r:zQ xs us) (h:j < us.toArray.size):∃ x,xs[j]? = some x/\RelV x us.toArray[j]:=by
 have hl:=r.length;have hj:j < xs.length:=by rw [hl]; simpa using h
 obtain⟨u,hu,ru⟩:=r.get (i:=j) (x:=xs[j]) #[M];refine⟨xs[j],#[M],?_⟩;have:us.toArray[j]=u:=by
  have h2:j < us.length:=by simpa using h
  rw [aJ h2] at hu;simpa using bI hu
 rw [this];exact ru
theorem EqD.at {X:Cx} {oC:TC} {σ:St} {H:Hp} {s:Shared} (I:Inv X oC σ H s) {d:Nat} {x y:V} {b:Bool} (h:EqD X.K H d x y b) :
  ∀ (A:Around) (u v:Value),RelV x u->RelV y v->A.units+d < cLine->lu A s u v b:=by
 induction h with
 | flat hx hy=>exact fun A u v rx ry _=>zl7 rx ry hx hy
 | same=>intro A u v rx ry _; cases rx; cases ry; exact nI _
 | lists oZ ha hb hl he ih =>
  intro A u v rx ry hu;cases rx; cases ry;obtain⟨xX,r1,p1,_⟩:=I.list ha;obtain⟨xY,r2,p2,_⟩:=I.list hb;have l1:=r1.length;have l2:=r2.length;refine jG oZ ?_;have q:=nu (A:=A) p1.isList p2.isList (by simp only [aP]; lia) #[O] fun j h1 h2=>by
   obtain⟨x,hx,rx⟩:=r1.Og h1;obtain⟨y,hy,ry⟩:=r2.Og h2;exact ih j x y hx hy A.in1 _ _ rx ry (by simp only [eO]; lia)
  rw [aP,<- l1] at q;exact q
 | lens oZ ha hb hl =>
  intro A u v rx ry hu;cases rx; cases ry;obtain⟨xX,r1,p1,_⟩:=I.list ha;obtain⟨xY,r2,p2,_⟩:=I.list hb;have l1:=r1.length;have l2:=r2.length;exact jG oZ (ka p1.isList p2.isList (by simp only [aP,bne_iff_ne]; lia) #[O])
 | Nd oZ ha hb he ih =>
  intro A u v rx ry hu;cases rx; cases ry;obtain⟨xX,r1,p1,_⟩:=I.tuple ha;obtain⟨xY,r2,p2,_⟩:=I.tuple hb;have l1:=r1.length;have l2:=r2.length;refine jG oZ ?_;have q:=jX (A:=A) (s:=s) p1 p2 #[O] fun j h1 h2=>by
   obtain⟨x,hx,rx⟩:=r1.Og h1;obtain⟨y,hy,ry⟩:=r2.Og h2;exact ih j x y hx hy A.in1 _ _ rx ry (by simp only [eO]; lia)
  rw [aP,aP,<- l1,<- l2] at q;exact q
noncomputable def zp0 (K:aD) (neg:Bool):R2:=fun x y H Q=>∃ a b xs ys,x = .ref a/\y = .ref b/\((oE K H a xs/\oE K H b ys)\/(oQ K H a xs/\oQ K H b ys)) /\
 ((xs.length≠ys.length/\(∀ (j:Nat) x y,xs[j]? = some x->ys[j]? = some y->∃ c,EqD K H 8 x y c)/\Q (.bl neg) H) \/
  (xs.length=ys.length/\∃ e:Nat->Bool,(∀ (j:Nat) x y,xs[j]? = some x->ys[j]? = some y->EqD K H 8 x y (e j))/\Q (.bl (if neg then !#[VF].all e else #[VF].all e)) H))
theorem zp1 {X:Cx} (hu:X.A.units+20 < cLine):OpR X (compareOp .Eq) (zp0 X.K false):=by
 intro oC s σ H x y v u Q I rx ry h;obtain⟨a,b,xs,ys,rfl,rfl,hk,h⟩:=h;cases rx; cases ry;rcases hk with ⟨ha,hb⟩ | ⟨ha,hb⟩
 ·obtain⟨xX,r1,p1,_⟩:=I.list ha;obtain⟨xY,r2,p2,_⟩:=I.list hb;have l1:=r1.length;have l2:=r2.length;rcases h with ⟨hl,_,q⟩ | ⟨hl,e,he,q⟩
  ·exact ka p1.isList p2.isList (by simp only [aP,bne_iff_ne]; lia) #[O] _ _ _ _ ⟨.bl false,H,I,rfl,q⟩
  ·refine nu p1.isList p2.isList (e:=e) (by simp only [aP]; lia) #[O] #[R4] _ _ _ _ #[Qq]
   ·obtain⟨x,hx,rx⟩:=r1.Og h1;obtain⟨y,hy,ry⟩:=r2.Og h2;exact #[Uv].at I _ _ _ rx ry (by simp only [eO]; lia)
   ·rw [aP,<- l1];exact q
 ·obtain⟨xX,r1,p1,_⟩:=I.tuple ha;obtain⟨xY,r2,p2,_⟩:=I.tuple hb;have l1:=r1.length;have l2:=r2.length;rcases h with ⟨hl,he,q⟩ | ⟨hl,e,he,q⟩
  ·have AQ:∀ j:Nat,∃ c:Bool,∀ x y,xs[j]? = some x->ys[j]? = some y->EqD X.K H 8 x y c:=fun j=>by
    cases hx:xs[j]? with
    | none=>exact⟨true,fun x y z=>by cases z⟩
    | some x =>
     cases hy:ys[j]? with
     | none=>exact⟨true,fun x y _ z=>by cases z⟩
     | some y =>
      obtain⟨c,hc⟩:=he j x y hx hy;exact⟨c,fun x' y' z1 z2=>by cases z1; cases z2; exact hc⟩
   obtain⟨e,tU⟩:=km AQ;refine jX (s:=s) p1 p2 (e:=e) #[O] #[R4] _ _ _ _ #[Qq]
   ·obtain⟨x,hx,rx⟩:=r1.Og h1;obtain⟨y,hy,ry⟩:=r2.Og h2;exact (tU j x y hx hy).at I _ _ _ rx ry (by simp only [eO]; lia)
   ·have vq:(xX.toArray.size == xY.toArray.size)=false:=by
     rw [aP,aP]; exact beq_eq_false_iff_ne.mpr #[O]
    rw [vq,jr];exact q
  ·refine jX (s:=s) p1 p2 (e:=e) #[O] #[R4] _ _ _ _ #[Qq]
   ·obtain⟨x,hx,rx⟩:=r1.Og h1;obtain⟨y,hy,ry⟩:=r2.Og h2;exact #[Uv].at I _ _ _ rx ry (by simp only [eO]; lia)
   ·have vq:(xX.toArray.size == xY.toArray.size)=true:=by
     rw [aP,aP]; exact beq_iff_eq.mpr #[O]
    have Ct:min xX.toArray.size xY.toArray.size=xs.length:=by rw [aP,aP]; lia
    rw [vq,n6,Ct];exact q
theorem zi0 {X:Cx} (hu:X.A.units+20 < cLine):OpR X (compareOp .NotEq) (zp0 X.K true):=by
 intro oC s σ H x y v u Q I rx ry h;obtain⟨a,b,xs,ys,rfl,rfl,hk,h⟩:=h;cases rx; cases ry;rcases hk with ⟨ha,hb⟩ | ⟨ha,hb⟩
 ·obtain⟨xX,r1,p1,_⟩:=I.list ha;obtain⟨xY,r2,p2,_⟩:=I.list hb;have l1:=r1.length;have l2:=r2.length;rcases h with ⟨hl,_,q⟩ | ⟨hl,e,he,q⟩
  ·exact SeqAt.RcNeAt.lists_lengths p1.isList p2.isList (by simp only [aP,bne_iff_ne]; lia) #[O] _ _ _ _ ⟨.bl true,H,I,rfl,q⟩
  ·refine SeqAt.RcNeAt.lists p1.isList p2.isList (e:=e) (by simp only [aP]; lia) #[O] #[R4] _ _ _ _ #[Qq]
   ·obtain⟨x,hx,rx⟩:=r1.Og h1;obtain⟨y,hy,ry⟩:=r2.Og h2;exact #[Uv].at I _ _ _ rx ry (by simp only [eO]; lia)
   ·rw [aP,<- l1];exact q
 ·obtain⟨xX,r1,p1,_⟩:=I.tuple ha;obtain⟨xY,r2,p2,_⟩:=I.tuple hb;have l1:=r1.length;have l2:=r2.length;rcases h with ⟨hl,he,q⟩ | ⟨hl,e,he,q⟩
  ·have AQ:∀ j:Nat,∃ c:Bool,∀ x y,xs[j]? = some x->ys[j]? = some y->EqD X.K H 8 x y c:=fun j=>by
    cases hx:xs[j]? with
    | none=>exact⟨true,fun x y z=>by cases z⟩
    | some x =>
     cases hy:ys[j]? with
     | none=>exact⟨true,fun x y _ z=>by cases z⟩
     | some y =>
      obtain⟨c,hc⟩:=he j x y hx hy;exact⟨c,fun x' y' z1 z2=>by cases z1; cases z2; exact hc⟩
   obtain⟨e,tU⟩:=km AQ;refine lV (s:=s) p1 p2 (e:=e) #[O] #[R4] _ _ _ _ #[Qq]
   ·obtain⟨x,hx,rx⟩:=r1.Og h1;obtain⟨y,hy,ry⟩:=r2.Og h2;exact (tU j x y hx hy).at I _ _ _ rx ry (by simp only [eO]; lia)
   ·have vq:(xX.toArray.size == xY.toArray.size)=false:=by
     rw [aP,aP]; exact beq_eq_false_iff_ne.mpr #[O]
    rw [vq,jr];exact q
  ·refine lV (s:=s) p1 p2 (e:=e) #[O] #[R4] _ _ _ _ #[Qq]
   ·obtain⟨x,hx,rx⟩:=r1.Og h1;obtain⟨y,hy,ry⟩:=r2.Og h2;exact #[Uv].at I _ _ _ rx ry (by simp only [eO]; lia)
   ·have vq:(xX.toArray.size == xY.toArray.size)=true:=by
     rw [aP,aP]; exact beq_iff_eq.mpr #[O]
    have Ct:min xX.toArray.size xY.toArray.size=xs.length:=by rw [aP,aP]; lia
    rw [vq,n6,Ct];exact q
theorem zcZ {X:Cx}:zbx X (.builtin "isinstance") (fun xs H Q=>∃ x t n b,xs = [x,.ty n]/\OM X.K H x t/\bK X.K t (.type n)=some b/\Q (.bl b) H):=by
 intro oC s σ H xs us Q I r h;obtain⟨x,t,n,b,rfl,ty,hk,q⟩:=h;obtain⟨u,u',rfl,rx,r2⟩:=vals2 r;cases r2;exact zkK I rx ty hk fun tk=>⟨.bl b,H,I.tok tk,rfl,q⟩
theorem zhU {X:Cx}:zbx X (.type "range") (fun xs H Q=>∃ j:Int,xs = [.int j]/\∀ l,H l=none->Q #[RB] (oG H l (.rng 0 j))):=by
 intro oC s σ H xs us Q I r h;obtain⟨j,rfl,q⟩:=h;obtain⟨u,rfl,t,rfl⟩:=vals1 r;refine call_range_1 ?_;exact⟨.ref s.heap.objs.size,_,I.laid (o:=.rng 0 j) (fun b o e=>aI _ e) (aG _) ⟨_,_,_,aZ _ rfl⟩,rfl,q _ I.fresh⟩
noncomputable def zcj (lo:Int) (n:Nat):List Int:=(aU n).map fun (i:Nat)=>lo+(i:Int)
theorem zdr (lo:Int) (n:Nat):(zcj lo n).length=n:=by simp [zcj]
theorem zfZ {acc:Array Value} {lo:Int} {n:Nat} (h:ItemsOf (fun i v=>∃ t,v = .int (lo+(i:Nat)*1) t) acc n):zQ ((zcj lo n).map V.int) acc.toList:=by
 obtain⟨hsz,hv⟩:=h;have go:∀ (us:TH) (k:Nat),(∀ (j:Nat) v,us[j]? = some v->∃ t,v = .int (lo+((k+j:Nat):Int)) t)->zQ (((aU us.length).map fun (i:Nat)=>V.int (lo+((k+i:Nat):Int)))) us:=by
  intro us;induction us with
  | nil=>intro k _; exact .nil
  | cons u us ih =>
   intro k hu;rw [dN,List.range_succ_eq_map,bT,cV];refine .cons ?_ ?_
   ·obtain⟨t,e⟩:=hu 0 u rfl;exact⟨t,e⟩
   ·have:=ih (k+1) fun j v e=>by
     obtain⟨t,z⟩:=hu (j+1) v #[U,e];exact⟨t,by rw [z]; congr 1; lia⟩
    have e2:(fun (i:Nat)=>V.int (lo+((k+1+i:Nat):Int)))=((fun (i:Nat)=>V.int (lo+((k+i:Nat):Int))) ∘ Nat.succ):=by
     funext i;show V.int _=V.int _;congr 2;show ((k+1+i:Nat):Int)=((k+(i+1):Nat):Int);lia
    rw [<- e2];exact this
 have h1:=go acc.toList 0 fun j v e=>by
  obtain⟨t,z⟩:=hv j v #[U,e];exact⟨t,by rw [z]; simp⟩
 have e1:acc.toList.length=n:=by simpa using hsz
 rw [e1] at h1;unfold zcj;rw [cV];have e2:(V.int ∘ fun (i:Nat)=>lo+(i:Int))=fun (i:Nat)=>V.int (lo+((0+i:Nat):Int)):=by
  funext i;show V.int (lo+(i:Int))=V.int (lo+((0+i:Nat):Int));rw [fH]
 rw [e2];exact h1
theorem zf0 {X:Cx} (hc:X.calm=true):zbx X (.type "list") (fun xs H Q=>∃ p hi,xs = [.ref p]/\H p=some (.rng 0 hi)/\0<=hi/\hi<=1000/\∀ l,H l=none->Q #[RB] (oG H l (.lst ((zcj 0 hi.toNat).map V.int)))):=by
 intro oC s σ H xs us Q I r h;obtain⟨p,hi,rfl,hp,h0,h1,q⟩:=h;obtain⟨u,rfl,rx⟩:=vals1 r;cases rx;obtain⟨t,u',v,e⟩:=(show zak X.prog X.w H s.heap p (.rng 0 hi) from I.hok p _ hp);have qu:=bN;refine call_list_range (n:=hi.toNat) #[QO] (show IsRange s.heap p 0 hi 1 t u' v from e) (small_one #[O] #[O] #[O] #[O]) (by rw [rangeSize_one]; split <;> lia) #[O] fun h' tk IF c' kk ho uM=>?_
 have hv:=zfZ (lo:=0) (n:=hi.toNat) uM;refine⟨.ref s.heap.objs.size,_,I.laid kk (aG _) ?_,rfl,q _ I.fresh⟩;exact⟨by rw [aA,zdr]; lia,IF.toList,c',hv,by simpa using ho⟩
noncomputable def zrG (K:aD) (tl:TE):TI:=fun σ H R=>tl σ H fun x H1=>∃ a,x = .ref a/\(((∃ xs,oE K H1 a xs)/\R #[Wo] H1)\/((∃ xs,oQ K H1 a xs)/\R #[Wn] H1))
theorem zp2 {X:Cx} {tg l:Expr} {tl:TE} (hl:PE X l tl):PI X tg l (zrG X.K tl):=by
 intro oC s σ H R I h;refine thn #[S7] fun v s1 ⟨x,H1,I1,r1,q1⟩=>?_
 obtain⟨a,e,q⟩:=q1;subst e;cases r1;rcases q with ⟨⟨xs,hq⟩,q⟩ | ⟨⟨xs,hq⟩,q⟩
 ·obtain⟨oF,rv,p,hz⟩:=I1.list hq;refine jS p.isList ?_;refine⟨s1.heap.objs.size,[s1.heap.objs.size],_,_,H1,rfl,I1.kept (t':=s1.toks) fun b o e=>aI _ e,zgc a _,⟨_,aZ _ rfl,rfl,rfl⟩,fun b hb=>?_,q⟩;have e:b=s1.heap.objs.size:=by simpa using hb
  subst e;exact I1.Oi (aG _) #[Qs]
 ·obtain⟨oF,rv,p,hz⟩:=I1.tuple hq;refine gG (show s1.heap.IsTuple a oF.toArray from p) ?_;refine⟨s1.heap.objs.size,[s1.heap.objs.size],_,_,H1,rfl,I1.kept (t':=s1.toks) fun b o e=>aI _ e,zfh a _,⟨_,aZ _ rfl,rfl,rfl⟩,fun b hb=>?_,q⟩;have e:b=s1.heap.objs.size:=by simpa using hb
  subst e;exact I1.Oi (aG _) #[Qs]
noncomputable def intsOf:List Expr->Option #[wE]
 | []=>some []
 | .Constant (.int i) _ _ :: r=>(intsOf r).map (i :: ·)
 | _=>none
noncomputable def zgr (ns:TD):TA:=fun _ H Q=>Q #[Db] H
theorem zmh:∀ (es:List Expr) (ns:TD),intsOf es=some ns->PA X es (zgr ns):=by
 intro es;induction es with
 | nil =>
  intro ns h;have e:ns = []:=(bI h).symm;subst e;exact ze
 | cons e r ih =>
  intro ns h;unfold intsOf at h;split at h
  ·rename_i heq
   cases heq
  ·rename_i i j p r' heq
   injection heq with e1 e2
   subst e1 e2;cases hr:intsOf r with
   | none=>rw [hr] at h; cases h
   | some ms =>
    rw [hr] at h;have e:i :: ms=ns:=bI h;subst e;exact za zg (ih ms hr)
  ·cases h
theorem zoc {X:Cx} {es:List Expr} {ns:TD} (h:intsOf es=some ns):PA X es (zgr ns):=zmh es ns h
theorem zfo {X:Cx} {i:Int} {j:Nat} {p:Pos} {es:List Expr} {t:TA} (hr:PA X es t):PA X (.Constant (.int i) j p :: es) (zjO (tC (.int i)) t):=za zg hr
theorem zmi {X:Cx} {i:Nat} {x:Str} {pos' qB qI:Pos} {rest:List Stmt} {u:TS} {es:List Expr} {ns:TD} (h:intsOf es=some ns) (hN:X.N.Nodup) (hi:X.N[i]? = some x) (hx:Loc X.env.scope x)
  (hf:X.fn x=true\/X.env.scope.names.lookup x=some .local) (hr:PSs X rest u):PSs X (.Assign [.Name x pos'] #[TR] qI :: rest) (zaV (zfV (ziU (zgr ns)) (zbc i)) u):=by
 have h1:PE X #[TR] (ziU (zgr ns)):=@zab X es (zgr ns) qB (@zoc X es ns h);have h2:PS X (.Assign [.Name x pos'] #[TR] qI) (zfV (ziU (zgr ns)) (zbc i)):=zl hN hi hx h1 (by rfl) hf;exact zd h2 hr
section
variable {X:Cx} {K:aD}
theorem zaN (hK:X.K=K):IxR X (zqT K):=by subst hK; exact zB
theorem zjW (hK:X.K=K):IxR X (zqU K):=by subst hK; exact zdu
theorem zmj (hK:X.K=K):SlR X (zqW K):=by subst hK; exact zbX
theorem zi1 (hK:X.K=K):OpR X (compareOp .In) (rIn K false):=by subst hK; exact zkL
noncomputable def zq1 (K:aD):List V->Hp->VK->Prop:=fun xs H Q=>∃ p ys,xs = [.ref p]/\(oE K H p ys\/oQ K H p ys)/\Q (.int ys.length) H
theorem zbe (hK:X.K=K):zbx X (.builtin "len") (zq1 K):=by subst hK; exact zt
theorem zaw {es:List Expr} {k:Nat} {t:TGs} {n:Nat} {pos:Pos} (hK:X.K=K) (hc:X.calm=true) (h:PGs X es t)
  (hn:#[RJ].length=n:=by rfl) (tF:#[RJ].findIdx? (·.1)=none:=by rfl):PG X #[RX] (zkH K n t):=by subst hK; exact zaI hc h hn tF
theorem zp3 {o e:Expr} {es:List Expr} {to:TE} {t:TA} {name:Str} {apos pd:Pos} {T id:String} {r:V->List V->Hp->VK->Prop} (hK:X.K=K) (pa:PlainAttrs T) (slot:Slot T name id) (Ih:typeOf #[Sl]=pure (.type "method_descriptor")) (hm:MtR X id r) (ho:PE X o to) (ha:PA X (e :: es) t)
  (uE:attributeBase o name X.env #[Ub]=eval o X.env:=by rfl)
  (yp:(#[UV].all (fun x=>!x.1) && (backToKw pd (keywordEach [] X.env)).all (fun x=>x.1.isSome)
   && decide ((e :: es).length+([]:List Keyword).length+(if ([]:List Keyword).isEmpty then 0 else 1) < 30))=true:=by rfl)
  (uF:(apos.endLine == pd.line)=true:=by rfl) (hs:starEach (e :: es) X.env=#[Go] :: starEach es X.env:=by rfl) (vE:#[Sv].any (·.1)=false:=by rfl) :
  PE X (.Call (.Attribute o name apos) (e :: es) [] pd) (tBM K T r to t):=by subst hK; exact zcR pa slot Ih hm ho ha uE yp uF hs vE
end
end L2
end
section
namespace My
variable {done:List (Int×Int)} {q:Int×Int}
noncomputable def Cg (p a b:Int):Prop:=∃ k,a=b+p*k
theorem Cg.refl (p a:Int):Cg p a a:=⟨0,by grind⟩
theorem Cg.symm {p a b:Int} (h:Cg p a b):Cg p b a:=by obtain⟨k,e⟩:=h; exact⟨-k,by grind⟩
theorem Cg.trans {p a b c:Int} (h:Cg p a b) (h':Cg p b c):Cg p a c:=by
 obtain⟨k,e⟩:=h; obtain⟨l,e'⟩:=h'; exact⟨k+l,by grind⟩
theorem Cg.add {p a b c d:Int} (h:Cg p a b) (h':Cg p c d):Cg p (a+c) (b+d):=by
 obtain⟨k,e⟩:=h; obtain⟨l,e'⟩:=h'; exact⟨k+l,by grind⟩
theorem Cg.sub {p a b c d:Int} (h:Cg p a b) (h':Cg p c d):Cg p (a - c) (b - d):=by
 obtain⟨k,e⟩:=h; obtain⟨l,e'⟩:=h'; exact⟨k - l,by grind⟩
theorem Cg.mul {p a b c d:Int} (h:Cg p a b) (h':Cg p c d):Cg p (a*c) (b*d):=by
 obtain⟨k,e⟩:=h; obtain⟨l,e'⟩:=h';exact⟨k*d+b*l+p*k*l,by subst e e'; grind⟩
theorem Cg.of_eq {p a b:Int} (h:a=b):Cg p a b:=h ▸ Cg.refl p a
theorem Cg.emod (p a:Int):Cg p (a % p) a:=⟨-(a / p),by have:=Int.emod_add_mul_ediv a p; grind⟩
theorem Cg.mod_eq {p a b:Int} (h:Cg p a b):a % p=b % p:=by
 obtain⟨k,e⟩:=h; rw [e,Int.add_mul_emod_self_left]
theorem Cg.Pj {p a b:Int} (h:a % p=b % p):Cg p a b:=(Cg.emod p a).symm.trans (h ▸ Cg.emod p b)
theorem Cg.eq {p a b:Int} (h:Cg p a b) (ha:0<=a) (BK:a < p) (hb:0<=b) (vq:b < p):a=b:=by
 have:=h.mod_eq
 rwa [dP ha BK,dP hb vq] at this
noncomputable def zR (p x:Int):List Int->Int
 | []=>0
 | c :: r=>(c+x*zR p x r) % p
theorem zbJ {p x:Int} (hp:0 < p):∀ l,0<=zR p x l
 | []=>dv 0
 | _ :: _=>bA _ #[O]
theorem zbK {p x:Int} (hp:0 < p):∀ l,zR p x l < p
 | []=>hp
 | _ :: _=>aW _ hp
theorem zcq (p x c:Int) (r:TD):Cg p (zR p x (c :: r)) (c+x*zR p x r):=Cg.emod _ _
noncomputable def lv (p x:Int):Int->Int->List Int->Int
 | oR,_,[]=>oR
 | oR,power,c :: r=>lv p x ((oR+c*power) % p) (power*x % p) r
theorem zph {p x:Int}:∀ (l:TD) (oR power:Int),Cg p (lv p x oR power l) (oR+power*zR p x l)
 | [],oR,power=>Cg.of_eq (by show oR=oR+power*0; grind)
 | c :: r,oR,power=>by
  have h1:=zph (p:=p) (x:=x) r ((oR+c*power) % p) (power*x % p);refine h1.trans ?_;have h2:Cg p ((oR+c*power) % p+power*x % p*zR p x r) (oR+c*power+power*x*zR p x r):=#[No].add ((Cg.emod p (power*x)).mul #[Fa]);refine h2.trans ?_;have h3:Cg p (oR+power*(c+x*zR p x r)) (oR+power*zR p x (c :: r)):=#[Fa].add (#[Fa].mul (zcq p x c r).symm);refine #[Wz].trans h3;grind
theorem zmk {p x:Int} (hp:0 < p):∀ (l:TD) (oR power:Int),0<=oR->oR < p->0<=lv p x oR power l/\lv p x oR power l < p
 | [],oR,power,h1,h2=>⟨h1,h2⟩
 | c :: r,oR,power,h1,h2=>zmk hp r _ _ (bA _ #[O]) (aW _ hp)
theorem zjX {p x:Int} (hp:0 < p) (l:TD):lv p x 0 1 l=zR p x l:=by
 obtain⟨a,b⟩:=zmk (x:=x) hp l 0 1 (dv _) hp;exact ((zph l 0 1).trans (Cg.of_eq (by grind))).eq a b (zbJ hp l) (zbK hp l)
noncomputable def zw:List Int:=[5,7,11,13,17,19,23,29,31,37,41,43,47,53,59,61,67,71,73,79,83,89,97]
noncomputable def zdb (p:Int):Nat->Int->Int->Int->Int
 | 0,prod,_,_=>prod
 | n+1,prod,sq,left=>if 0 < left then zdb p n (if left % 2=1 then prod*sq % p else prod) (sq*sq % p) (left / 2) else prod
noncomputable def inv (p h:Int):Int:=zdb p 7 1 (h % p) (p - 2)
noncomputable def zrH:Bool:=zw.all fun p=>(aU p.toNat).all fun h=>h == 0 || (inv p h*h) % p == 1
theorem zkT:zrH=true:=by decide +kernel
theorem zC {p:Int} (hp:p∈zw):5<=p/\p<=97:=by
 have:zw.all (fun p=>decide (5<=p/\p<=97))=true:=by decide +kernel
 have:=gW.mp this p hp;simpa using this
theorem zdw {p h:Int} (hp:p∈zw) (h0:0 < h) (h1:h < p):Cg p (inv p h*h) 1:=by
 have e:=gW.mp (gW.mp zkT p hp) h.toNat (bP.mpr #[O]);have hh:((h.toNat:Nat):Int)=h:=by lia
 have:h.toNat≠0:=by lia
 simp only [Bool.or_eq_true,beq_iff_eq,hh,this,false_or] at e;have hr:=zC hp;exact Cg.Pj (by rw [e,dP #[O] #[O]])
theorem zhV {p a b:Int} (hp:p∈zw) (h:Cg p (a*b) 0):Cg p a 0\/Cg p b 0:=by
 have hr:=zC hp;by_cases ha:a % p=0
 ·exact .inl (Cg.Pj (by rw [ha]; simp))
 ·right;have h0:0 < a % p:=by have:=bA a (show p≠0 by lia); lia
  have hi:=zdw hp h0 (aW a #[O]);have h1:Cg p (inv p (a % p)*(a*b)) 0:=(#[Fa].mul h).trans (Cg.of_eq (by grind));have h2:Cg p (inv p (a % p)*(a % p)*b) (1*b):=hi.mul (Cg.refl p b);have h3:Cg p (inv p (a % p)*(a*b)) (inv p (a % p)*(a % p)*b):=by
   have:=((Cg.refl p (inv p (a % p))).mul (Cg.emod p a).symm).mul (Cg.refl p b);exact (Cg.of_eq (by grind)).trans this
  exact ((Cg.of_eq (by grind)).trans (h2.symm.trans (h3.symm.trans h1)))
noncomputable def trF (p r:Int) (high low:Int):Int:=(high - r*low) % p
noncomputable def zcr (p r:Int) (v:TD):List Int:=bV (trF p r) (0 :: v) (v++[0])
theorem zpi {p r z:Int}:∀ (v:TD) (h:Int),Cg p (zR p z (bV (trF p r) (h :: v) (v++[0]))) (h+(z - r)*zR p z v)
 | [],h=>by
  show Cg p ((trF p r h 0+z*0) % p) (h+(z - r)*0);refine #[No].trans ?_;have:Cg p (trF p r h 0) (h - r*0):=Cg.emod p _;exact (this.add (Cg.refl p (z*0))).trans (Cg.of_eq (by grind))
 | c :: w,h=>by
  show Cg p ((trF p r h c+z*zR p z (bV (trF p r) (c :: w) (w++[0]))) % p) (h+(z - r)*zR p z (c :: w));have ih:=zpi (p:=p) (r:=r) (z:=z) w c;have h1:Cg p (trF p r h c) (h - r*c):=Cg.emod p _;refine #[No].trans ((h1.add ((Cg.refl p z).mul ih)).trans ?_);have h2:Cg p (h+(z - r)*(c+z*zR p z w)) (h+(z - r)*zR p z (c :: w)):=(Cg.refl p h).add (#[Fa].mul (zcq p z c w).symm);exact (Cg.of_eq (by grind)).trans h2
theorem zod {p r z:Int} (v:TD):Cg p (zR p z (zcr p r v)) ((z - r)*zR p z v):=(zpi v 0).trans (Cg.of_eq (by grind))
theorem zcs (p r:Int) (v:TD):(zcr p r v).length=v.length+1:=by simp [zcr]
theorem zdO {α β γ:Type} {f:α->β->γ}:∀ {as:List α} {bs:List β} {c:γ},c∈bV f as bs->∃ a b,c=f a b
 | [],_,c,h=>by simp at h
 | _ :: _,[],c,h=>by simp at h
 | a :: as,b :: bs,c,h=>by
  rcases bD.mp h with e | e
  ·exact⟨a,b,e⟩
  ·exact zdO e
theorem zp4 {p r:Int} (hp:0 < p) (v:TD):∀ c∈zcr p r v,0<=c/\c < p:=by
 intro c hc;obtain⟨a,b,e⟩:=zdO hc;rw [e]; exact⟨bA _ #[O],aW _ hp⟩
noncomputable def ad (p f:Int):List Int->List Int->List Int
 | c :: cs,v :: vs=>(c+f*v) % p :: ad p f cs vs
 | cs,[]=>cs
 | [],_ :: _=>[]
theorem zgs (p f:Int):∀ (cs vs:TD),#[VE].length=cs.length
 | _ :: cs,_ :: vs=>by show #[VE].length+1=_; rw [zgs p f cs vs]; rfl
 | [],[]=>rfl
 | _ :: _,[]=>rfl
 | [],_ :: _=>rfl
theorem zml {p f:Int} (hp:0 < p):∀ (cs vs:TD),(∀ c∈cs,0<=c/\c < p)->∀ c∈ad p f cs vs,0<=c/\c < p
 | c :: cs,v :: vs,h,d,hd=>by
  rcases bD.mp hd with e | e
  ·rw [e]; exact⟨bA _ #[O],aW _ hp⟩
  ·exact zml hp cs vs (fun c hc=>h c (aY _ hc)) d e
 | [],[],h,d,hd=>h d hd
 | _ :: _,[],h,d,hd=>h d hd
 | [],_ :: _,h,d,hd=>by cases hd
theorem zjY {p f z:Int}:∀ (cs vs:TD),vs.length<=cs.length->Cg p (zR p z #[VE]) (zR p z cs+f*zR p z vs)
 | c :: cs,v :: vs,h=>by
  have ih:=zjY (p:=p) (f:=f) (z:=z) cs vs #[U,h];show Cg p (((c+f*v) % p+z*zR p z #[VE]) % p) (zR p z (c :: cs)+f*zR p z (v :: vs));refine #[No].trans (((Cg.emod p (c+f*v)).add ((Cg.refl p z).mul ih)).trans ?_);have h2:Cg p ((c+z*zR p z cs)+f*(v+z*zR p z vs)) (zR p z (c :: cs)+f*zR p z (v :: vs)):=(zcq p z c cs).symm.add ((Cg.refl p f).mul (zcq p z v vs).symm);exact (Cg.of_eq (by grind)).trans h2
 | [],[],_=>Cg.of_eq (by show (0:Int)=0+f*0; grind)
 | c :: cs,[],_=>Cg.of_eq (by show zR p z (c :: cs)=zR p z (c :: cs)+f*0; grind)
 | [],_ :: _,h=>by simp at h
noncomputable def zmm (p:Int) (s:List Int×List Int) (q:Int×Int):List Int×List Int :=
 (ad p ((q.2 - zR p q.1 s.1)*inv p (zR p q.1 s.2) % p) s.1 s.2,zcr p q.1 s.2)
noncomputable def zkU (p:Int) (n:Nat) (oJ:List (Int×Int)):List Int×List Int:=oJ.foldl (zmm p) (aV n 0,[1])
noncomputable def zc0 (z:Int):List (Int×Int)->Int
 | []=>1
 | q :: r=>(z - q.1)*zc0 z r
theorem zfp (z:Int) (q:Int×Int):∀ l,zc0 z (l++[q])=zc0 z l*(z - q.1)
 | []=>by show (z - q.1)*1=1*(z - q.1); grind
 | a :: l=>by show (z - a.1)*zc0 z (l++[q])=(z - a.1)*zc0 z l*(z - q.1); rw [zfp z q l]; grind
theorem zdx {z:Int}:∀ {l:List (Int×Int)},(∃ q∈l,q.1=z)->zc0 z l=0
 | [],h=>by obtain⟨q,hq,_⟩:=h; cases hq
 | a :: l,h=>by
  show (z - a.1)*zc0 z l=0;obtain⟨q,hq,e⟩:=h;rcases bD.mp hq with hq | hq
  ·subst hq; rw [e]; simp
  ·rw [zdx ⟨q,hq,e⟩]; simp
theorem zhW {p z:Int} (hp:p∈zw) (hz:0<=z) (wC:z < p):∀ {l:List (Int×Int)},(∀ q∈l,0<=q.1/\q.1 < p/\q.1≠z)->¬ Cg p (zc0 z l) 0
 | [],_,h=>by
  have hr:=zC hp;have:=h.mod_eq;have e1:(zc0 z []:Int)=1:=rfl;rw [e1,dP #[O] #[O]] at this;simp at this
 | a :: l,hl,h=>by
  rcases zhV hp (show Cg p ((z - a.1)*zc0 z l) 0 from h) with h | h
  ·obtain⟨h1,h2,h3⟩:=hl a bF;have:Cg p z a.1:=by
    have:=h.add (Cg.refl p a.1);exact (Cg.of_eq (by grind)).trans (this.trans (Cg.of_eq (by grind)))
   exact h3 (this.eq hz wC h1 h2).symm
  ·exact zhW hp hz wC (fun q hq=>hl q (aY _ hq)) h
structure Nw (p:Int) (n:Nat) (done:List (Int×Int)) (s:List Int×List Int):Prop where
 lc:s.1.length=n
 lv:s.2.length=done.length+1
 rc:∀ c∈s.1,0<=c/\c < p
 rv:∀ c∈s.2,0<=c/\c < p
 van:∀ z,Cg p (zR p z s.2) (zc0 z done)
 hit:∀ q∈done,zR p q.1 s.1=q.2
theorem zmn {p:Int} (hp:p∈zw) (n:Nat):Nw p n [] (aV n 0,[1]):=by
 have hr:=zC hp;refine⟨#[M],rfl,fun c hc=>?_,fun c hc=>?_,fun z=>?_,fun q hq=>by cases hq⟩
 ·obtain⟨_,e⟩:=mE.mp hc;lia
 ·have:c=1:=by simpa using hc
  lia
 ·show Cg p ((1+z*0) % p) 1;exact #[No].trans (Cg.of_eq (by grind))
theorem zjZ {p:Int} {n:Nat} {s:List Int×List Int} (hp:p∈zw) (h:Nw p n done s) (q0:0<=q.1) (q1:q.1 < p) (hd:∀ a∈done,0<=a.1/\a.1 < p/\a.1≠q.1) :
  0 < zR p q.1 s.2/\zR p q.1 s.2 < p:=by
 have hr:=zC hp;refine⟨?_,zbK #[O] _⟩;have h0:=zbJ (x:=q.1) (show 0 < p by lia) s.2;by_cases e:zR p q.1 s.2=0
 ·exact absurd ((h.van q.1).symm.trans (Cg.of_eq e)) (zhW hp q0 q1 hd)
 ·lia
theorem zkV {p:Int} {n:Nat} {s:List Int×List Int} (hp:p∈zw) (h:Nw p n done s) (q0:0<=q.1) (q1:q.1 < p) (hd:∀ a∈done,0<=a.1/\a.1 < p/\a.1≠q.1) :
  Cg p ((q.2 - zR p q.1 s.1)*inv p (zR p q.1 s.2) % p*zR p q.1 s.2) (q.2 - zR p q.1 s.1):=by
 obtain⟨h0,h1⟩:=zjZ hp h q0 q1 hd;have hi:=zdw hp h0 h1;refine (#[No].mul #[Fa]).trans ?_;have:=(Cg.refl p (q.2 - zR p q.1 s.1)).mul hi;exact (Cg.of_eq (by grind)).trans (this.trans (Cg.of_eq (by grind)))
theorem zoe {p:Int} {n:Nat} {s:List Int×List Int} (hp:p∈zw) (h:Nw p n done s) (hn:done.length < n) (q0:0<=q.1) (q1:q.1 < p) (q2:0<=q.2) (q3:q.2 < p)
  (hd:∀ a∈done,0<=a.1/\a.1 < p/\a.1≠q.1/\0<=a.2/\a.2 < p):Nw p n (done++[q]) (zmm p s q):=by
 have hr:=zC hp;have AG:∀ a∈done,0<=a.1/\a.1 < p/\a.1≠q.1:=fun a ha=>⟨(hd a ha).1,(hd a ha).2.1,(hd a ha).2.2.1⟩
 have hlv:=h.lv;have hlc:=h.lc;have hle:s.2.length<=s.1.length:=by lia
 refine⟨by show (ad _ _ _ _).length=n; rw [zgs,h.lc],by show (zcr _ _ _).length=_; rw [zcs,h.lv,aS,gR],zml #[O] _ _ h.rc,zp4 #[O] _,fun z=>?_,fun a ha=>?_⟩
 ·rw [zfp];exact (zod s.2).trans ((#[Fa].mul (h.van z)).trans (Cg.of_eq (by grind)))
 ·have hv:=zjY (p:=p) (f:=(q.2 - zR p q.1 s.1)*inv p (zR p q.1 s.2) % p) (z:=a.1) s.1 s.2 hle; rcases bZ.mp ha with ha | ha
  ·obtain⟨b0,b1,b2,b3,b4⟩:=hd a ha;have hz:Cg p (zR p a.1 s.2) 0:=(h.van a.1).trans (Cg.of_eq (zdx ⟨a,ha,rfl⟩));have h2:Cg p (zR p a.1 (ad p ((q.2 - zR p q.1 s.1)*inv p (zR p q.1 s.2) % p) s.1 s.2)) (zR p a.1 s.1):=hv.trans (((Cg.refl p (zR p a.1 s.1)).add (#[Fa].mul hz)).trans (Cg.of_eq (by rw [eP,eQ])));rw [h.hit a ha] at h2;exact h2.eq (zbJ #[O] _) (zbK #[O] _) b3 b4
  ·have e:a=q:=by simpa using ha
   subst e;have h2:Cg p (zR p a.1 (ad p ((a.2 - zR p a.1 s.1)*inv p (zR p a.1 s.2) % p) s.1 s.2)) a.2:=hv.trans (((Cg.refl p (zR p a.1 s.1)).add (zkV hp h q0 q1 AG)).trans #[QI]);exact h2.eq (zbJ #[O] _) (zbK #[O] _) q2 q3
structure Pts (p:Int) (oJ:List (Int×Int)):Prop where
 nd:(oJ.map (·.1)).Nodup
 rg:∀ q∈oJ,0<=q.1/\q.1 < p/\0<=q.2/\q.2 < p
theorem Pts.apart {p:Int} {rest:List (Int×Int)} (h:Pts p (done++q :: rest)):∀ a∈done,0<=a.1/\a.1 < p/\a.1≠q.1/\0<=a.2/\a.2 < p:=fun a ha=>by
 obtain⟨r1,r2,r3,r4⟩:=h.rg a (bM _ ha);refine⟨r1,r2,fun e=>?_,r3,r4⟩;have nd:=h.nd;rw [aN,ff] at nd;exact nd.2.2 a.1 (aQ.mpr ⟨a,ha,rfl⟩) q.1 #[M] e
end My
end
section
namespace My
open PySem L2 PyProof.Rows
variable {H H':Hp} {as cs ns:TD} {j k:Nat} {te:TE} {y:V} {σ0:L2.St}
section
variable {K:aD}
theorem zmo {k:Int} (h0:0<=k) (h1:k < ns.length):∃ c:Int,ns[k.toNat]? = some c/\atI #[Db] k=some (.int c):=by
 have oY:k.toNat < ns.length:=by lia
 have e:atI #[Db] ((k.toNat:Nat):Int)=some (.int ns[k.toNat]):=z9 (by simp [aF,aJ oY]);have hk:((k.toNat:Nat):Int)=k:=by lia
 rw [hk] at e;exact⟨ns[k.toNat],#[M],e⟩
theorem zgY {k:Int} (h0:0<=k) (h1:k < ns.length):∃ c:Int,atI #[Db] k=some (.int c):=let ⟨c,_,e⟩:=zmo h0 h1; ⟨c,e⟩
theorem zc {a:Addr} {o:HO} (h:H a=none):zr H #[ST]:=fun b u e=>by rw [zn (zu e h)]; exact e
theorem z7 {a:Addr} {o:HO} (s:zr H H') (h:H a=none):zr H (oG H' a o):=fun b u e=>by rw [zn (zu e h)]; exact s b u e
theorem za0 {n:Nat} (h:n<=10000):n < sizeLine:=by rw [bN]; lia
noncomputable def zkW (K:aD):Sp:=fun vs H Q _=>∃ (a:Addr) (ns:TD) (k:Int),vs = [.ref a,.int k]/\oE K H a #[Db]/\ns.length<=63/\0<=k/\k<=1000/\∀ c:Int,Q (.int c) H
noncomputable def zj0 (many:Nat) (base:Int) (ds:TD):Prop:=ds.length=many/\∀ d∈ds,0<=d/\d < base
noncomputable def zi2 (K:aD):Sp:=fun vs H Q _=>∃ (a:Addr) (ns:TD) (k many base:Int),vs = [.ref a,.int k,.int many,.int base]/\oE K H a #[Db]/\ns.length<=63/\0<=k/\k<=1000/\0<=many/\many<=1000/\0 < base/\base < 1073741824 /\
 ∀ (l:Addr) (ds:TD) (H':Hp),H l=none->zr H H'->zj0 many.toNat base ds->H' l=some #[V5]->Q #[RB] H'
abbrev zof:List V:=[.int 2147483647,.int 2147483629,.int 2147483587,.int 2147483579,.int 2147483563,.int 2147483549,.int 2147483543,.int 2147483497]
theorem zog {m:Int} (h0:0<=m) (h1:m < 8):∃ q:Int,atI zof m=some (.int q)/\0 < q/\q < 2147483648:=by
 have:m=0\/m=1\/m=2\/m=3\/m=4\/m=5\/m=6\/m=7:=by lia
 rcases this with e | e | e | e | e | e | e | e <;> subst e <;> exact⟨_,rfl,#[D],#[D]⟩
theorem zfq (j:Int):∃ q:Int,atI zof (j % 8)=some (.int q)/\0 < q/\q < 2147483648:=zog (bA _ #[D]) (aW _ #[D])
theorem gY {i:Nat} {x:V} {σ:L2.St} {A B:L2.St->Hp->Prop} (h:A #[Qt] H):zbc i x σ H (fun σ2 H2=>zoa σ2 H2 fun b H3=>if b=true then A σ2 H3 else B σ2 H3):=by
 show (if true=true then A #[Qt] H else B #[Qt] H);rw [if_pos rfl];exact h
structure PK (mk mn p k:Int) (pl:TD):Prop where
 pr:p∈zw
 k1:1<=k
 kk:k<=mk
 kl:k<=pl.length
 ln:(pl.length:Int)<=mn
 nd:pl.Nodup
 rg:∀ x∈pl,0<=x/\x < p
noncomputable def zkX (K:aD):Sp:=fun vs H Q _=>∃ (a:Addr) (ns:TD) (at' mk mn:Int),vs = [.ref a,.int at',.int mk,.int mn]/\oE K H a #[Db]/\ns.length<=63/\0<=at'/\at'<=1000/\1<=mk/\mk<=5/\mk<=mn/\mn<=16 /\
 ∀ (c tt:Addr) (p k:Int) (pl:TD) (H':Hp),H c=none->zr H H'->PK mk mn p k pl->H' c=some (.tup [.int p,.int k,.ref tt])->H' tt=some (.tup #[So])->Q #[WF] H'
theorem zp5 {x y m:Int} (h0:0<=m) (h1:m < 2):∃ z:Int,atI [V.int x,V.int y] m=some (.int z)/\(z=x\/z=y):=by
 have:m=0\/m=1:=by lia
 rcases this with e | e <;> subst e
 ·exact⟨x,rfl,.inl rfl⟩
 ·exact⟨y,rfl,.inr rfl⟩
theorem zek {k:Int} (h0:0<=k) (h1:k < ns.length):∃ c:Int,c∈ns/\atI #[Db] k=some (.int c):=by
 obtain⟨c,e,h⟩:=zmo h0 h1;exact⟨c,aO e,h⟩
theorem zgt {α β:Type} (f:α->β):∀ (l:List α) (k:Nat),(l.map f).eraseIdx k=(l.eraseIdx k).map f
 | [],_=>rfl
 | _ :: _,0=>rfl
 | a :: l,k+1=>by show f a :: (l.map f).eraseIdx k=f a :: (l.eraseIdx k).map f; rw [zgt f l k]
theorem zfr {α:Type}:∀ {l:List α} {k:Nat} {x:α},l[k]? = some x->(x :: l.eraseIdx k).Perm l
 | [],_,_,h=>by simp at h
 | a :: l,0,x,h=>by
  have e:a=x:=by simpa using h
  subst e;exact List.Perm.refl _
 | a :: l,k+1,x,h=>by
  have ih:=zfr (l:=l) (k:=k) (x:=x) #[U,h];exact (List.Perm.swap a x _).trans (ih.cons a)
theorem zoh {p:Int} {xs ls:TD} {x:Int} (h:ls[k]? = some x) (nd:(xs++ls).Nodup) (rg:∀ y∈xs++ls,0<=y/\y < p):((xs++[x])++ls.eraseIdx k).Nodup/\∀ y∈(xs++[x])++ls.eraseIdx k,0<=y/\y < p:=by
 have hp:((xs++[x])++ls.eraseIdx k).Perm (xs++ls):=by
  rw [cE];exact (zfr h).append_left xs
 exact⟨hp.nodup_iff.mpr nd,fun y hy=>rg y (hp.mem_iff.mp hy)⟩
theorem zkY (p:Int):(zcj 0 p.toNat).Nodup/\∀ y∈zcj 0 p.toNat,0<=y/\y < p:=by
 unfold zcj;constructor
 ·rw [cJ,di];exact (cJ.mp (gw (n:=p.toNat))).imp fun {a b} hab=>by lia
 ·intro y hy;obtain⟨i,hi,e⟩:=aQ.mp hy;have:=bP.mp hi;lia
noncomputable def zey (K:aD):Sp:=fun vs H Q _=>∃ (p x:Int) (a:Addr) (cs:TD),vs = [.int p,.ref a,.int x]/\(oE K H a #[Rw]\/oQ K H a #[Rw])/\0 < p/\p<=97/\0<=x/\x < p/\Q (.int (zR p x cs)) H
noncomputable def zi3 (K:aD):Sp:=zey K
theorem zgu {i:Nat} {c:Int} (hi:i < cs.length) (h:cs[cs.length - 1 - i]? = some c):cs.drop (cs.length - (i+1))=c :: cs.drop (cs.length - i):=by
 have e:cs.length - (i+1)=cs.length - 1 - i:=by lia
 have oY:cs.length - 1 - i < cs.length:=by lia
 rw [e,fB oY];have:cs[cs.length - 1 - i]=c:=by
  rw [aJ oY] at h;exact bI h
 rw [this];congr 2;lia
theorem zaE {x:V} (h:#[Rw][j]? = some x):∃ c,x = .int c/\cs[j]? = some c:=by
 rw [aF] at h;cases e:cs[j]? with
 | none=>rw [e] at h; cases h
 | some c=>rw [e] at h; exact⟨c,(bI h).symm,rfl⟩
noncomputable def zi4 (K:aD):Sp:=fun vs H Q _=>∃ i:Int,vs = [.int i]/\Q (.bl true) H
theorem zj1 {p x oR power c:Int} {i:Nat} (h:cs[i]? = some c):lv p x oR power (cs.drop i)=lv p x ((oR+c*power) % p) (power*x % p) (cs.drop (i+1)):=by
 obtain⟨oY,e⟩:=aK.mp h;rw [fB oY,e];rfl
noncomputable def zi5 (K:aD):Sp:=fun vs H Q _=>∃ (p h:Int),vs = [.int p,.int h]/\p∈zw/\0<=h/\h < p/\Q (.int (inv p h)) H
noncomputable def zp6 (σ:L2.St):Nat:=match (σ[4]?:Option (Option V)) with
 | some (some (V.int l))=>l.toNat
 | _=>0
theorem zgZ {p prod sq left:Int} {n:Nat} (h0:0 < left) (h1:left < 2 ^ (n+1)):zdb p (n+1) prod sq left=zdb p n (if left % 2=1 then prod*sq % p else prod) (sq*sq % p) (left / 2):=by
 show (if 0 < left then _ else _)=_;rw [if_pos h0]
theorem zhX {p prod sq:Int}:∀ n,zdb p n prod sq 0=prod
 | 0=>rfl
 | n+1=>by show (if (0:Int) < 0 then _ else prod)=prod; rw [if_neg #[D]]
theorem gY2 {K:aD} {i:Nat} {T:Addr} {x:V} {σ:L2.St} {A B:L2.St->Hp->Prop} (hT:oQ K H T [x,y]) (h:A (#[Qt].set j (some y)) H) :
  zkH K 2 (zet (zbc i) (zet (zbc j) zlX)) (.ref T) σ H (fun σ2 H2=>zoa σ2 H2 fun b H3=>if b=true then A σ2 H3 else B σ2 H3):=by
 refine⟨T,_,rfl,hT,rfl,x,_,rfl,y,_,rfl,rfl,?_⟩;show (if true=true then A (#[Qt].set j (some y)) H else B (#[Qt].set j (some y)) H);rw [if_pos rfl];exact h
theorem zhY {f:Int->Int->Int} {bs:TD} {i:Nat} {x y:Int} (hx:as[i]? = some x) (hy:bs[i]? = some y):#[Ut].take (i+1)=#[Ut].take i++[f x y]:=by
 have e:#[Ut][i]? = some (f x y):=by rw [kX,hx,hy]
 rw [jY,e,lO]
theorem zhZ (n:Nat):(aV n [V.int 0]).flatten=(aV n (0:Int)).map V.int:=by
 induction n with
 | zero=>rfl
 | succ n ih=>rw [eC,gm,ih,eC]; rfl
theorem zdc {n:Nat} (h:j < n):ixN n (j:Int)=some j:=by
 unfold ixN;rw [if_pos #[O],if_pos #[O]];rfl
theorem z6 {bs:TF} {i:Nat} {x:V} (h:#[QX][i]? = some x):∃ b,x = .ref b/\bs[i]? = some b:=by
 rw [aF] at h;cases e:bs[i]? with
 | none=>rw [e] at h; cases h
 | some b=>rw [e] at h; exact⟨b,(bI h).symm,rfl⟩
theorem take_snoc {α:Type} {l:List α} {i:Nat} {x:α} (h:l[i]? = some x):l.take (i+1)=l.take i++[x]:=by
 rw [jY,h,lO]
theorem zmp {f:Int->Int->Int} {bs:TD} {n:Nat} (h1:n<=as.length) (h2:n<=bs.length) (h3:as.length<=n\/bs.length<=n):#[Ut].length=n:=by
 rw [ig];lia
theorem zel {a b:Addr} {bs:TD} {n:Nat} {f:Int->Int->Int} {g:TG} {ts:TT} {Q:VK} (ha:H a=some (.lst #[Th])) (hb:H b=some (.lst #[Uc])) (h1:n<=as.length) (h2:n<=bs.length) (h3:as.length<=n\/bs.length<=n) (hn:n<=10000)
  (hs:∀ (i:Nat) (x y:Int) (H1:Hp) (T:Addr) (R:VK) (B:L2.St->Hp->Prop),as[i]? = some x->bs[i]? = some y->zr H H1->H1 T=none->R (.int (f x y)) (oG H1 T (.tup [.int x,.int y]))->g (.ref T) σ0 (oG H1 T (.tup [.int x,.int y])) fun σ2 H2=>ts σ2 H2 fun b H3=>if b=true then te σ2 H3 R else B σ2 H3)
  (hd:∀ D H1,zr H H1->H1 D=none->Q #[QB] (oG H1 D (.lst (#[Ut].map V.int)))):cGo g ts te σ0 (zkP (oE K) (oE K) a b) Q H:=by
 have hl:=zmp (f:=f) h1 h2 h3;refine zeX (n:=n) (fun i ys H'=>ys=(#[Ut].take i).map V.int/\zr H H') ⟨#[M],fun _ _ e=>e⟩ ?_ ?_ ?_ ?_
 ·rintro i ys H3 hi ⟨_,s3⟩;obtain⟨x,hx⟩:∃ x,as[i]? = some x:=⟨as[i]'#[O],#[M]⟩;obtain⟨y,hy⟩:∃ y,bs[i]? = some y:=⟨bs[i]'#[O],#[M]⟩;exact⟨_,_,.int x,.int y,oE.of #[TN],oE.of (s3 _ _ hb),by rw [aF,hx]; rfl,by rw [aF,hy]; rfl⟩
 ·rintro ys H3 ⟨_,s3⟩;exact⟨_,_,oE.of #[TN],oE.of (s3 _ _ hb),by rw [aA,aA]; exact h3⟩
 ·rintro i x ys H3 H4 hi ⟨rfl,s3⟩ ⟨T,u,v,hT,rfl,rfl,hu,hv⟩;obtain⟨x,rfl,hx⟩:=zaE (hu _ (oE.of #[TN]));obtain⟨y,rfl,hy⟩:=zaE (hv _ (oE.of (s3 _ _ hb)));refine hs i x y H3 T _ _ hx hy s3 hT ⟨za0 ?_,?_,s3.trans (zc hT)⟩
  ·rw [aA];exact cC (ij _ _) #[O]
  ·rw [zhY hx hy,aN];rfl
 ·rintro ys H3 D ⟨rfl,s3⟩ hD;rw [bO #[O]];exact hd D H3 s3 hD
theorem zbB {a:Addr} {xs fs:List V} {g:TG} {ts:TT} {Q:VK} (ha:oE K H a xs) (hl:fs.length=xs.length) (hn:xs.length<=10000)
  (hs:∀ (i:Nat) (x y:V) (R:VK) (B:L2.St->Hp->Prop),xs[i]? = some x->fs[i]? = some y->R y H->g x σ0 H fun σ2 H2=>ts σ2 H2 fun b H3=>if b=true then te σ2 H3 R else B σ2 H3)
  (hd:∀ D,H D=none->Q #[QB] (oG H D (.lst fs))):cGo g ts te σ0 #[Wo] Q H:=by
 refine zeX (n:=xs.length) (fun i ys H'=>ys=fs.take i/\H'=H) ⟨#[M],rfl⟩ ?_ ?_ ?_ ?_
 ·rintro i ys H3 hi ⟨_,rfl⟩;exact⟨_,xs[i],ha,#[M]⟩
 ·rintro ys H3 ⟨_,rfl⟩;exact⟨_,ha,aG _⟩
 ·rintro i x ys H3 H4 hi ⟨rfl,rfl⟩ ⟨rfl,hx⟩;have hy:fs[i]? = some fs[i]:=by simp
  refine hs i x fs[i] _ _ (hx _ ha) hy #[Xf];rw [take_snoc hy]
 ·rintro ys H3 D ⟨rfl,rfl⟩ hD;rw [bO #[O]];exact hd D hD
theorem zgv {a:Addr} {xs fs:List V} {g:TG} {ts:TT} {Q:VK} (ha:oQ K H a xs) (hl:fs.length=xs.length) (hn:xs.length<=10000)
  (hs:∀ (i:Nat) (x y:V) (R:VK) (B:L2.St->Hp->Prop),xs[i]? = some x->fs[i]? = some y->R y H->g x σ0 H fun σ2 H2=>ts σ2 H2 fun b H3=>if b=true then te σ2 H3 R else B σ2 H3)
  (hd:∀ D,H D=none->Q #[QB] (oG H D (.lst fs))):cGo g ts te σ0 #[Wn] Q H:=by
 refine zeX (n:=xs.length) (fun i ys H'=>ys=fs.take i/\H'=H) ⟨#[M],rfl⟩ ?_ ?_ ?_ ?_
 ·rintro i ys H3 hi ⟨_,rfl⟩;exact⟨_,xs[i],ha,#[M]⟩
 ·rintro ys H3 ⟨_,rfl⟩;exact⟨_,ha,aG _⟩
 ·rintro i x ys H3 H4 hi ⟨rfl,rfl⟩ ⟨rfl,hx⟩;have hy:fs[i]? = some fs[i]:=by simp
  refine hs i x fs[i] _ _ (hx _ ha) hy #[Xf];rw [take_snoc hy]
 ·rintro ys H3 D ⟨rfl,rfl⟩ hD;rw [bO #[O]];exact hd D hD
theorem zmq (ds:TD) (lo hi:Option Int):∃ ms:List Int,zb6 #[Qz] lo hi=ms.map V.int/\ms.length<=ds.length:=by
 refine⟨(ds.drop (HT.sIx #[Qz].length 0 lo)).take (HT.sIx #[Qz].length #[Qz].length hi - HT.sIx #[Qz].length 0 lo),?_,?_⟩
 ·unfold zb6; rw [gE,jP]
 ·rw [bC,fq];lia
theorem zh0 {ms:TD} {f:Int->V} {i:Nat} {x:V} (hx:(ms.map V.int)[i]? = some x) (hy:(ms.map f)[i]? = some y):∃ c,ms[i]? = some c/\x = .int c/\y=f c:=by
 obtain⟨c,rfl,hc⟩:=zaE hx;rw [aF,hc] at hy;exact⟨c,hc,rfl,(bI hy).symm⟩
end
end My
end
section
namespace PySem
abbrev IsZ (h:Heap) (z TI TO:Addr) (f0 f1:Value):Prop:=h.get? z=some { cls:=.type "zip",dict:=none,data:=.fields #[f0,f1,.bool false,.ref TI,.ref TO],slots:=#[] }
noncomputable def ZF (f0 f1:Value):Prop:=(f0 = .none\/∃ a t,f0 = .int a t)/\∃ b,f1 = .bool b
structure Zap (z TI TO i1 i2:Addr) (vH vI:TF):Prop where
 zTI:TI≠z
 zTO:TO≠z
 z1:i1≠z
 z2:i2≠z
 TT:TI≠TO
 T1:TI≠i1
 T2:TI≠i2
 O1:TO≠i1
 O2:TO≠i2
 ii:i1≠i2
 a1:z∉vH
 a2:TO∉vH
 a3:i2∉vH
 b1:z∉vI
 b2:TO∉vI
 b3:i1∉vI
section
variable {prog:Program} {w:World} {A:Around} {E:TB} {s:Shared}
theorem zkZ {a:Addr} {Q:Option Obj->Shared->Prop} (h:Q (s.heap.get? a) s):wpAny #[ul] A (loadIfAlive a) Q E s:=fun _ _ _=>h
theorem zmr {z TI TO:Addr} {f0 f1:Value} {Q:Bool->Shared->Prop} (hz:IsZ s.heap z TI TO f0 f1) (hf:ZF f0 f1) (h1:Q true s)
  (h2:∀ h',IsZ h' z TI TO f0 #[RY]->cT z s.heap h'->Q false { s with heap:=h' }):wpAny #[ul] A (fb #[SE]) Q E s:=by
 obtain⟨hf,b,rfl⟩:=hf;unfold fb; rcases hf with rfl | ⟨a,t,rfl⟩
 ·exact aB (dD hz rfl (x:=.none) rfl (aL h1))
 ·refine aB (dD hz rfl (x:=.int a t) rfl ?_);refine aB (zkZ ?_);cases s.heap.get? a.toNat with
  | none=>exact aL h1
  | some o =>
   refine aB (dD hz rfl (x:=.bool b) rfl ?_);cases b with
   | true=>exact aL (h2 s.heap hz #[UJ])
   | false=>exact aB (eR hz #[M] fun h' a' b'=>aL (h2 h' a' b'))
theorem zoi {z TI TO i1 i2:Addr} {vH vI:TF} {n1 n2 k1 k2:Nat} {P1 P2:Nat->Value->Prop} {S1 S2:Nat->Heap->Prop} {f0 f1 a b:Value} {Q:TB} (D1:Draws prog w A i1 vH n1 P1 S1) (D2:Draws prog w A i2 vI n2 P2 S2) (Z:Zap z TI TO i1 i2 vH vI)
  (hz:IsZ s.heap z TI TO f0 f1) (hf:ZF f0 f1) (AR:IsPair s.heap TI #[UX] #[UW]) (BM:IsPair s.heap TO a b) (qT:S1 k1 s.heap) (pD:S2 k2 s.heap) (l1:k1 < n1) (l2:k2 < n2)
  (hQ:∀ x y h' tk g0 g1 a' b',P1 k1 x->P2 k2 y->IsZ h' z TI TO g0 g1->ZF g0 g1->IsPair h' TI #[UX] #[UW]->IsPair h' TO a' b'->S1 (k1+1) h'->S2 (k2+1) h'->IsPair h' s.heap.objs.size x y->h'.objs.size=s.heap.objs.size+1 ->
   (∀ c o,c≠z->c≠TO->c≠i1->c≠i2->s.heap.get? c=some o->h'.get? c=some o)->Q #[At] { s with heap:=h',toks:=tk }):wpAny #[ul] A (Builtin.«zip.__next__» ⟨[.ref z],[]⟩) (fun fin s'=>∃ v,fin = .done (.ret v)/\Q v s') E s:=by
 obtain⟨hp,g,d,IG,os⟩:=s;show wpAny _ _ (field #[SE] 2 >>= _) _ _ _; refine aB #[Vs]; show wpAny _ _ (field #[SE] 3 >>= _) _ _ _;refine aB #[WD]; refine aB (fw AR rfl ?_);show wpAny _ _ (fb #[SE] >>= _) _ _ _; refine aB (zmr hz hf ?_ fun h0 Ar vt=>?_)
 ·simp only [if_true];refine aB #[U2];refine aB (eR hz #[M] fun ha BN vJ=>?_);replace BN:IsZ ha z TI TO .ellipsis f1:=BN;replace vJ:cT z hp ha:=vJ;refine aB ?_;simp only [nv,nN,ge,iG]; refine aB (aB (iT ?_)); show wpAny _ _ (cH #[UX] >>= _) _ _ _;refine aB (D1.item k1 _ _ _ l1 (D1.frame _ _ _ qT fun c hc o e=>vJ.extBut c o (fun q=>Z.a1 (q ▸ hc)) e) fun x hb E5 px E6 pZ=>aL ?_);replace pZ:cT i1 ha hb:=pZ;have yr:IsPair hb TO a b:=pZ.extBut _ _ Z.O1 (vJ.extBut _ _ Z.zTO BM);refine aB (fw yr rfl (aB (jg yr fun hc AS xf=>?_)));replace AS:IsPair hc TO x b:=AS;replace xf:cT TO hb hc:=xf;refine aB (m8 (aL (aB (aB (iT ?_))))); show wpAny _ _ (cH #[UW] >>= _) _ _ _;refine aB (D2.item k2 _ _ _ l2 (D2.frame _ _ _ pD fun c rL o e=>xf.extBut c o (fun q=>Z.b2 (q ▸ rL)) (pZ.extBut c o (fun q=>Z.b3 (q ▸ rL)) (vJ.extBut c o (fun q=>Z.b1 (q ▸ rL)) e))) fun y hd IH py II tJ=>aL ?_);replace tJ:cT i2 hc hd:=tJ;have AU:IsPair hd TO x b:=tJ.extBut _ _ Z.O2 AS;refine aB (fw AU rfl (aB (jg AU fun he AV Cu=>?_)));replace AV:IsPair he TO x y:=AV;replace Cu:cT TO hd he:=Cu;refine aB (m8 #[V4]); refine aB (fw AV rfl (aB (kY ?_)));have hsz:he.objs.size=hp.objs.size:=by rw [Cu.1,tJ.1,xf.1,pZ.1,vJ.1]
  have hze:IsZ he z TI TO .ellipsis f1:=Cu.extBut _ _ Z.zTO.symm (tJ.extBut _ _ Z.z2.symm #[SD]);have kk:∀ c o,c≠z->c≠TO->c≠i1->c≠i2->hp.get? c=some o->he.get? c=some o:=fun c o c1 c2 c3 c4 e=>Cu.extBut _ _ c2 (tJ.extBut _ _ c4 (xf.extBut _ _ c2 (pZ.extBut _ _ c3 (vJ.extBut _ _ c1 e))))
  have IJ:S1 (k1+1) he:=D1.frame _ _ _ E6 fun c rL o e=>Cu.extBut c o (fun q=>Z.a2 (q ▸ rL)) (tJ.extBut c o (fun q=>Z.a3 (q ▸ rL)) (xf.extBut c o (fun q=>Z.a2 (q ▸ rL)) e))
  have IK:S2 (k2+1) he:=D2.frame _ _ _ II fun c rL o e=>Cu.extBut c o (fun q=>Z.b2 (q ▸ rL)) e
  have zlt:z < he.objs.size:=aX hze;show wpAny _ _ (iq #[SE] (.ref he.objs.size) >>= _) _ _ _;refine aB ?_;unfold iq; have AW:IsZ (he.push { cls:=.type "tuple",data:=.seq #[x,y] }) z TI TO .ellipsis f1:=aI _ hze;refine aB (eR AW #[M] fun h7 IL IM=>?_);replace IL:IsZ h7 z TI TO (rawInt he.objs.size) f1:=IL;refine eR IL #[M] fun h8 GV IP=>aL #[WW]
  replace GV:IsZ h8 z TI TO (rawInt he.objs.size) (.bool false):=GV;have up:∀ c o,c≠z->he.get? c=some o->h8.get? c=some o:=fun c o c1 e=>IP.extBut _ _ c1 (IM.extBut _ _ c1 (aI _ e))
  have E7:IsPair h8 he.objs.size x y:=IP.extBut _ _ (ip zlt) (IM.extBut _ _ (ip zlt) (aZ _ rfl));have yt:h8.objs.size=he.objs.size+1:=by rw [IP.1,IM.1,cZ]
  show Q (.ref he.objs.size) _;rw [hsz] at GV E7 yt |-;exact hQ x y h8 IH _ _ _ _ px py GV ⟨.inr ⟨_,_,rfl⟩,_,rfl⟩ (up _ _ Z.zTI #[Vg]) (up _ _ Z.zTO AV) (D1.frame _ _ _ IJ fun c rL o e=>up c o (fun q=>Z.a1 (q ▸ rL)) e) (D2.frame _ _ _ IK fun c rL o e=>up c o (fun q=>Z.b1 (q ▸ rL)) e) E7 yt fun c o c1 c2 c3 c4 e=>up c o c1 (kk c o c1 c2 c3 c4 e)
 ·simp only [cF,if_false]; replace vt:cT z hp h0:=vt;rw [show (#[bL i1,bL i2]:Array Value) = [bL i1,bL i2].toArray from rfl];simp only [mF,ge,iG];refine aB (aB (aB (dj ?_))); show wpAny _ _ (cH #[UX] >>= _) _ _ _;refine aB (D1.item k1 _ _ _ l1 (D1.frame _ _ _ qT fun c hc o e=>vt.extBut c o (fun q=>Z.a1 (q ▸ hc)) e) fun x hb E5 px E6 pZ=>aL (aL ?_));replace pZ:cT i1 h0 hb:=pZ;refine aB (aB (dj ?_)); show wpAny _ _ (cH #[UW] >>= _) _ _ _;refine aB (D2.item k2 _ _ _ l2 (D2.frame _ _ _ pD fun c rL o e=>pZ.extBut c o (fun q=>Z.b3 (q ▸ rL)) (vt.extBut c o (fun q=>Z.b1 (q ▸ rL)) e)) fun y hd IH py II tJ=>aL #[V4]);replace tJ:cT i2 hb hd:=tJ;show wpAny _ _ (newTuple [x,y] >>= _) _ _ _;refine aB (kY (aL #[WW]));have hsz:hd.objs.size=hp.objs.size:=by rw [tJ.1,pZ.1,vt.1]
  have kk:∀ c o,c≠z->c≠TO->c≠i1->c≠i2->hp.get? c=some o->hd.get? c=some o:=fun c o c1 c2 c3 c4 e=>tJ.extBut _ _ c4 (pZ.extBut _ _ c3 (vt.extBut _ _ c1 e))
  have GW:IsZ hd z TI TO f0 #[RY]:=tJ.extBut _ _ Z.z2.symm (pZ.extBut _ _ Z.z1.symm Ar);have AU:IsPair hd TO a b:=tJ.extBut _ _ Z.O2 (pZ.extBut _ _ Z.O1 (vt.extBut _ _ Z.zTO BM));have IQ:S1 (k1+1) hd:=D1.frame _ _ _ E6 fun c rL o e=>tJ.extBut c o (fun q=>Z.a3 (q ▸ rL)) e
  have up:∀ c o,hd.get? c=some o->(hd.push { cls:=.type "tuple",data:=.seq #[x,y] }).get? c=some o:=fun c o e=>aI _ e
  have E7:IsPair (hd.push { cls:=.type "tuple",data:=.seq #[x,y] }) hd.objs.size x y:=aZ _ rfl;have yt:(hd.push { cls:=.type "tuple",data:=.seq #[x,y] }).objs.size=hd.objs.size+1:=cZ ..;show Q (.ref hd.objs.size) _;rw [hsz] at E7 yt |-;exact hQ x y _ IH _ _ _ _ px py (up _ _ GW) ⟨hf.1,_,rfl⟩ (up _ _ #[Vg]) (up _ _ AU) (D1.frame _ _ _ IQ fun c _ o e=>up c o e) (D2.frame _ _ _ II fun c _ o e=>up c o e) E7 yt fun c o c1 c2 c3 c4 e=>up c o (kk c o c1 c2 c3 c4 e)
theorem zp7 {z TI TO i1 i2:Addr} {vH vI:TF} {n1 n2 k1 k2:Nat} {P1 P2:Nat->Value->Prop} {S1 S2:Nat->Heap->Prop} {f0 f1 a b:Value} {Q:Fin->Shared->Prop} (D1:Draws prog w A i1 vH n1 P1 S1) (D2:Draws prog w A i2 vI n2 P2 S2) (Z:Zap z TI TO i1 i2 vH vI)
  (hz:IsZ s.heap z TI TO f0 f1) (hf:ZF f0 f1) (AR:IsPair s.heap TI #[UX] #[UW]) (BM:IsPair s.heap TO a b) (qT:S1 k1 s.heap) (pD:S2 k2 s.heap) (l1:k1=n1\/(k1 < n1/\k2=n2))
  (hE:∀ h' tk e,(∀ c o,c≠z->c≠TO->c≠i1->c≠i2->s.heap.get? c=some o->h'.get? c=some o)->(∃ o,h'.get? e=some o/\o.cls = .type "StopIteration")->E (.ref e) { s with heap:=h',toks:=tk }):wpAny #[ul] A (Builtin.«zip.__next__» ⟨[.ref z],[]⟩) Q E s:=by
 obtain⟨hp,g,d,IG,os⟩:=s;have nz:∀ {h:Heap} {e:Addr} {o:Obj} {x y:Value},IsZ h z TI TO x y->h.get? e=some o->o.cls = .type "StopIteration"->e≠z:=fun h1 h2 h3 q=>by subst q; rw [h1] at h2; cases h2; simp at h3
 show wpAny _ _ (field #[SE] 2 >>= _) _ _ _; refine aB #[Vs]; show wpAny _ _ (field #[SE] 3 >>= _) _ _ _;refine aB #[WD]; refine aB (fw AR rfl ?_);show wpAny _ _ (fb #[SE] >>= _) _ _ _; refine aB (zmr hz hf ?_ fun h0 Ar vt=>?_)
 ·simp only [if_true];refine aB #[U2];refine aB (eR hz #[M] fun ha BN vJ=>?_);replace BN:IsZ ha z TI TO .ellipsis f1:=BN;replace vJ:cT z hp ha:=vJ;refine aB ?_;simp only [nv,nN,ge,iG]; refine aB (aB (iT ?_)); show wpAny _ _ (cH #[UX] >>= _) _ _ _;have yu:S1 k1 ha:=D1.frame _ _ _ qT fun c hc o e=>vJ.extBut c o (fun q=>Z.a1 (q ▸ hc)) e
  rcases l1 with rfl | ⟨l1,rfl⟩
  ·refine aB (D1.done _ _ _ yu fun hb e pZ ⟨oe,E8,E9⟩=>?_);have GX:IsZ hb z TI TO .ellipsis f1:=pZ _ _ Z.z1.symm BN;exact eR GX #[M] fun h3 _ BO=>hE h3 IG e (fun c o c1 _ c3 _ x=>BO.extBut _ _ c1 (pZ _ _ c3 (vJ.extBut _ _ c1 x))) ⟨oe,BO.extBut _ _ (nz GX E8 E9) E8,E9⟩
  ·refine aB (D1.item k1 _ _ _ l1 yu fun x hb E5 px E6 pZ=>aL ?_);replace pZ:cT i1 ha hb:=pZ;have yr:IsPair hb TO a b:=pZ.extBut _ _ Z.O1 (vJ.extBut _ _ Z.zTO BM);refine aB (fw yr rfl (aB (jg yr fun hc AS xf=>?_)));replace xf:cT TO hb hc:=xf;refine aB (m8 (aL (aB (aB (iT ?_))))); show wpAny _ _ (cH #[UW] >>= _) _ _ _;refine aB (D2.done _ _ _ (D2.frame _ _ _ pD fun c rL o e=>xf.extBut c o (fun q=>Z.b2 (q ▸ rL)) (pZ.extBut c o (fun q=>Z.b3 (q ▸ rL)) (vJ.extBut c o (fun q=>Z.b1 (q ▸ rL)) e))) fun hd e tJ ⟨oe,E8,E9⟩=>?_);have GW:IsZ hd z TI TO .ellipsis f1:=tJ _ _ Z.z2.symm #[SD];exact eR GW #[M] fun h3 _ BO=>hE h3 E5 e (fun c o c1 c2 c3 c4 x=>BO.extBut _ _ c1 (tJ _ _ c4 (xf.extBut _ _ c2 (pZ.extBut _ _ c3 (vJ.extBut _ _ c1 x))))) ⟨oe,BO.extBut _ _ (nz GW E8 E9) E8,E9⟩
 ·simp only [cF,if_false]; replace vt:cT z hp h0:=vt;rw [show (#[bL i1,bL i2]:Array Value) = [bL i1,bL i2].toArray from rfl];simp only [mF,ge,iG];refine aB (aB (aB (dj ?_))); show wpAny _ _ (cH #[UX] >>= _) _ _ _;have yu:S1 k1 h0:=D1.frame _ _ _ qT fun c hc o e=>vt.extBut c o (fun q=>Z.a1 (q ▸ hc)) e
  rcases l1 with rfl | ⟨l1,rfl⟩
  ·exact aB (D1.done _ _ _ yu fun hb e pZ he=>hE hb IG e (fun c o c1 _ c3 _ x=>pZ _ _ c3 (vt.extBut _ _ c1 x)) he)
  ·refine aB (D1.item k1 _ _ _ l1 yu fun x hb E5 px E6 pZ=>aL (aL ?_));replace pZ:cT i1 h0 hb:=pZ;refine aB (aB (dj ?_)); show wpAny _ _ (cH #[UW] >>= _) _ _ _;exact aB (D2.done _ _ _ (D2.frame _ _ _ pD fun c rL o e=>pZ.extBut c o (fun q=>Z.b3 (q ▸ rL)) (vt.extBut c o (fun q=>Z.b1 (q ▸ rL)) e)) fun hd e tJ he=>hE hd E5 e (fun c o c1 _ c3 c4 x=>tJ _ _ c4 (pZ.extBut _ _ c3 (vt.extBut _ _ c1 x))) he)
end
noncomputable def zg0 (x y:Value):Obj:={ cls:=.type "tuple",data:=.seq #[x,y] }
noncomputable def zq2 (a b:Addr):Obj:={ cls:=.type "zip",data:=.fields #[.none,.bool false,.bool false,.ref a,.ref b] }
noncomputable def itO (C:String) (l:Addr):Obj:={ cls:=.type C,data:=.fields #[.ref l,.int 0 0] }
abbrev zt2 (C:String) (h:Heap) (l1 l2:Addr):Heap:=#[WY].push (itO C l2)
abbrev zt4 (C:String) (h:Heap) (l1 l2:Addr):Heap:=((zt2 C h l1 l2).push (zg0 (.ref h.objs.size) (.ref #[WY].objs.size))).push (zg0 .none .none)
abbrev zt5 (C:String) (h:Heap) (l1 l2:Addr):Heap:=(zt4 C h l1 l2).push (zq2 (zt2 C h l1 l2).objs.size ((zt2 C h l1 l2).push (zg0 (.ref h.objs.size) (.ref #[WY].objs.size))).objs.size)
noncomputable def ItC (C:String) (h:Heap) (a l:Addr) (i:Nat):Prop:=∃ o,h.get? a=some o/\o.cls = .type C/\o.data = .fields #[.ref l,.int i 0]
structure SkH (C:String) (Is:Heap->Addr->Array Value->Prop):Prop where
 it:∀ {prog:Program} {w:World} {A:Around} {E:TB} {s:Shared} {l:Addr} {items:Array Value} {Q:TB},Is s.heap l items->Q #[At] { s with heap:=s.heap.push (itO C l) }->wpAny #[ul] A (pyIter #[RB]) Q E s
 pu:∀ {h:Heap} {l:Addr} {items:Array Value} (o:Obj),Is h l items->Is (h.push o) l items
 dr:∀ {prog:Program} {w:World} {A:Around},A.handled=none->∀ (it l:Addr),l≠it->∀ (items:Array Value),Draws prog w A it [it,l] items.size (fun i v=>items[i]? = some v) fun i h=>ItC C h it l i/\Is h l items
theorem skL:SkH "list_iterator" Heap.IsList:=⟨fun h q=>jS h q,fun o h=>Heap.IsList.push h o,fun hh it l ne items=>j1 hh it l ne items⟩
theorem zh1 {C:String} {Is:Heap->Addr->Array Value->Prop} (S:SkH C Is) (l1 l2:Addr) (xs ys:Array Value):Meets (Builtin.«zip.__new__» ⟨[.type "zip",.ref l1,.ref l2],[]⟩) (fun _ R s=>s.heap.IsTuple l1 xs/\Is s.heap l2 ys/\R (.ok (.ret (.ref #[UL].objs.size))) { s with heap:=zt5 C s.heap l1 l2 }) :=
 .of_wp fun prog w A R s h=>by
  obtain⟨hp,g,d,tk,os⟩:=s; obtain⟨vo,qc,h⟩:=h; have ID:=sub_zip;have GY:Heap.IsTuple (m7 ⟨hp,g,d,tk,os⟩) l1 xs:=vo;have hL2:Is (m7 ⟨hp.push { cls:=.type "tuple_iterator",data:=.fields #[.ref l1,.int 0 0] },g,d,tk,os⟩) l2 ys:=S.pu _ qc
  wp_walk using gG GY,S.it hL2
  exact⟨_,rfl,h⟩
section
variable {prog:Program} {w:World} {A:Around} {E:TB} {s:Shared}
theorem zi6 {C:String} {Is:Heap->Addr->Array Value->Prop} (S:SkH C Is) {l1 l2:Addr} {xs ys:Array Value} {Q:TB} (vo:s.heap.IsTuple l1 xs) (qc:Is s.heap l2 ys)
  (h:∀ h' n,n=s.heap.objs.size->IsZ h' (n+4) (n+2) (n+3) .none (.bool false)->IsPair h' (n+2) (.ref n) (.ref (n+1))->IsPair h' (n+3) .none .none->h'.IsTupleIter n l1 0->ItC C h' (n+1) l2 0->h'.objs.size=n+5 ->
   (∀ c o,s.heap.get? c=some o->h'.get? c=some o)->Q #[WT] { s with heap:=h' }):wpAny #[ul] A (call (.type "zip") [.ref l1,.ref l2]) Q E s:=by
 refine mC F.called_zip #[D] (F.typeCall_zip_2 _ _) (F.newCall_zip_2 _ _) (fun obj=>F.args_object_init_3 obj _ _) F.entry_zip_new (zh1 S l1 l2 xs ys) ⟨vo,qc,?_⟩;have z1:#[Ql].objs.size=s.heap.objs.size+1:=cZ ..;have z2:#[Qx].objs.size=s.heap.objs.size+2:=by rw [cZ,z1]
 have z3:(#[Qx].push (zg0 #[At] (.ref #[Ql].objs.size))).objs.size=s.heap.objs.size+3:=by rw [cZ,z2]
 have z4:#[UL].objs.size=s.heap.objs.size+4:=by rw [cZ,z3]
 have g5:=aZ #[UL] (o:=zq2 #[Qx].objs.size (#[Qx].push (zg0 #[At] (.ref #[Ql].objs.size))).objs.size) rfl;have g4:#[Qw].get? _=some _:=aI _ (aZ (#[Qx].push (zg0 #[At] (.ref #[Ql].objs.size))) (o:=zg0 .none .none) rfl);have g3:#[Qw].get? _=some _:=aI _ (aI _ (aZ #[Qx] (o:=zg0 #[At] (.ref #[Ql].objs.size)) rfl));have g2:#[Qw].get? _=some _:=aI _ (aI _ (aI _ (aZ #[Ql] (o:=itO C l2) rfl)));have g1:#[Qw].get? s.heap.objs.size=some (zbW l1):=aI _ (aI _ (aI _ (aI _ (aZ _ rfl))));have z5:#[Qw].objs.size=s.heap.objs.size+5:=by rw [cZ,z4]
 have k5:∀ c o,s.heap.get? c=some o->#[Qw].get? c=some o:=fun c o x=>aI _ (aI _ (aI _ (aI _ (aI _ x))))
 show _/\_;rw [z4] at g5 |-;rw [z3] at g4;rw [z2] at g3;rw [z1] at g2;refine⟨⟨_,g5,rfl⟩,h _ _ rfl ?_ ?_ g4 ⟨_,g1,rfl,rfl⟩ ⟨_,g2,rfl,rfl⟩ z5 k5⟩
 ·have:IsZ #[Qw] (s.heap.objs.size+4) #[Qx].objs.size (#[Qx].push (zg0 #[At] (.ref #[Ql].objs.size))).objs.size .none (.bool false):=g5;rw [z2,z3] at this;exact this
 ·have:IsPair #[Qw] (s.heap.objs.size+2) #[At] (.ref #[Ql].objs.size):=g3;rw [z1] at this;exact this
end
end PySem
end
section
namespace L2
open PySem PySem.Spec PyProof.Rows
theorem nq {x y:Nat} (h:x≠y):@Ne Addr x y:=h
theorem nl {x y:Nat} (h:x < y):@LT.lt Nat _ x y:=h
theorem nm2 {c x y:Nat} (h1:c≠x) (h2:c≠y):¬ @Membership.mem Addr (List Addr) _ [x,y] c:=fun h=>by
 rcases bD.mp h with e | e
 ·exact h1 e
 ·exact h2 (cW.mp e)
theorem zeY {n a b:Nat} (ha:a < n) (hb:b < n):Zap (n+4) (n+2) (n+3) n (n+1) [n,a] [n+1,b] :=
 ⟨nq #[O],nq #[O],nq #[O],nq #[O],nq #[O],nq #[O],nq #[O],nq #[O],nq #[O],nq #[O],nm2 #[O] #[O],nm2 #[O] #[O],nm2 #[O] #[O],nm2 #[O] #[O],nm2 #[O] #[O],nm2 #[O] #[O]⟩
end L2
end
section
namespace My
open PySem L2 PyProof.Rows
variable {H H':Hp} {pl:TD}
section
variable {K:aD}
noncomputable def zck (H:Hp) (c tt:Addr) (p k:Int) (pl:TD):Prop:=H c=some (.tup [.int p,.int k,.ref tt])/\H tt=some (.tup #[So])
theorem zck.same {c tt:Addr} {p k:Int} (s:zr H H') (h:zck H c tt p k pl):zck H' c tt p k pl:=⟨s _ _ h.1,s _ _ h.2⟩
noncomputable def hide (H:Hp) (a:Addr):Hp:=fun b=>if b=a then none else H b
theorem zc1 (H:Hp) (a:Addr):zr (hide H a) H:=fun b o e=>by
 unfold hide at e;split at e
 ·cases e
 ·exact e
theorem zms {a:Addr} {o:HO}:hide #[ST] a=hide H a:=by
 funext b;unfold hide;by_cases h:b=a
 ·rw [if_pos h,if_pos h]
 ·rw [if_neg h,if_neg h,zn h]
theorem zk0 {a:Addr} (s:zr H H'):zr (hide H a) (hide H' a):=fun b o e=>by
 unfold hide at e |-;by_cases h:b=a
 ·rw [if_pos h] at e; cases e
 ·rw [if_neg h] at e |-; exact s _ _ e
theorem zbj {a b:Addr} {o:HO} (h:H b=some o) (oZ:b≠a):hide H a b=some o:=by unfold hide; rw [if_neg oZ]; exact h
end
end My
end
section
namespace PySem
section
variable {prog:Program} {w:World} {A:Around} {E:TB} {s:Shared}
theorem zj2 {z TI TO i1 i2:Addr} {vH vI:TF} {n1 n2 k1 k2:Nat} {P1 P2:Nat->Value->Prop} {S1 S2:Nat->Heap->Prop} {f0 f1 a b:Value} {Q:Option Value->Shared->Prop} (D1:Draws prog w A.in1 i1 vH n1 P1 S1) (D2:Draws prog w A.in1 i2 vI n2 P2 S2) (Z:Zap z TI TO i1 i2 vH vI)
  (hz:IsZ s.heap z TI TO f0 f1) (hf:ZF f0 f1) (AR:IsPair s.heap TI #[UX] #[UW]) (BM:IsPair s.heap TO a b) (qT:S1 k1 s.heap) (pD:S2 k2 s.heap) (l1:k1 < n1) (l2:k2 < n2)
  (hQ:∀ x y h' tk g0 g1 a' b',P1 k1 x->P2 k2 y->IsZ h' z TI TO g0 g1->ZF g0 g1->IsPair h' TI #[UX] #[UW]->IsPair h' TO a' b'->S1 (k1+1) h'->S2 (k2+1) h'->IsPair h' s.heap.objs.size x y->h'.objs.size=s.heap.objs.size+1 ->
   (∀ c o,c≠z->c≠TO->c≠i1->c≠i2->s.heap.get? c=some o->h'.get? c=some o)->Q (some #[At]) { s with heap:=h',toks:=tk }):wpAny #[ul] A (pyNext #[SE]) Q E s:=by
 have Cv:s.TypeIs #[SE] "zip":=⟨_,hz,rfl⟩;unfold pyNext;refine aB (eY (dH (name:=cN "__next__") Cv jh (dG jh Cv nA ?_ (mQ _))));exact zoi D1 D2 Z hz hf AR BM qT pD l1 l2 fun x y h1 tk g0 g1 a' b' px py vn hf1 IS IT IU IV xg IW kk=>aL (hQ x y h1 tk g0 g1 a' b' px py vn hf1 IS IT IU IV xg IW kk)
theorem zmt {z TI TO i1 i2:Addr} {vH vI:TF} {n1 n2 k1 k2:Nat} {P1 P2:Nat->Value->Prop} {S1 S2:Nat->Heap->Prop} {f0 f1 a b:Value} {Q:Option Value->Shared->Prop} (D1:Draws prog w A.in1 i1 vH n1 P1 S1) (D2:Draws prog w A.in1 i2 vI n2 P2 S2) (Z:Zap z TI TO i1 i2 vH vI)
  (hz:IsZ s.heap z TI TO f0 f1) (hf:ZF f0 f1) (AR:IsPair s.heap TI #[UX] #[UW]) (BM:IsPair s.heap TO a b) (qT:S1 k1 s.heap) (pD:S2 k2 s.heap) (l1:k1=n1\/(k1 < n1/\k2=n2))
  (hQ:∀ h' tk,(∀ c o,c≠z->c≠TO->c≠i1->c≠i2->s.heap.get? c=some o->h'.get? c=some o)->Q none { s with heap:=h',toks:=tk }):wpAny #[ul] A (pyNext #[SE]) Q E s:=by
 have Cv:s.TypeIs #[SE] "zip":=⟨_,hz,rfl⟩;unfold pyNext;refine aB (eY (dH (name:=cN "__next__") Cv jh (dG jh Cv nA ?_ (mQ _))));refine zp7 D1 D2 Z hz hf AR BM qT pD l1 fun h' tk x kk ⟨o,ho,hc⟩=>?_
 exact aB (gX (T:="StopIteration") (b:=true) ⟨o,ho,hc⟩ ju (aL (hQ h' tk kk)))
theorem zg1 {z TI TO:Addr} {f0 f1:Value} {Q:TB} (hz:IsZ s.heap z TI TO f0 f1) (h:Q #[SE] s):wpAny #[ul] A (pyIter #[SE]) Q E s:=by
 have hT:s.TypeIs #[SE] "zip":=⟨_,hz,rfl⟩; refine jW hT F.slot_zip_iter (dG F.slot_zip_iter hT F.entry_zip_iter ?_ (F.args_zip_iter_1 _));show wpAny _ _ (ret #[SE]) _ _ s; exact aL ⟨_,rfl,"zip",_,hT,F.slot_zip_next.lookup,h⟩
theorem zq3 {elts:List Expr} {x1} {pos:Pos} {z TI TO T:Addr} {f0 f1:Value} {Q:Unit->Shared->Prop} (hz:IsZ s.heap z TI TO f0 f1) (hf:ZF f0 f1)
  (hQ:∀ h' g0,IsZ h' z TI TO g0 f1->ZF g0 f1->cT z s.heap h'->Q () { s with heap:=h' }):wpAny #[ul] A (letOwnedTupleGo (.Tuple elts x1 pos) #[SE] (.ref T)) Q E s:=by
 unfold letOwnedTupleGo; refine aB (wpAny_load hz ?_);show wpAny _ _ (if _ then _ else _) Q E s;split
 ·refine aB (ee ?_); show wpAny _ _ (setField #[SE] 0 .none) Q E s;exact eR hz #[M] fun h' wC pU=>hQ h' .none wC ⟨.inl rfl,hf.2⟩ pU
 ·exact aL (hQ s.heap f0 hz hf #[UJ])
end
end PySem
namespace L2
open PySem PySem.Spec PyProof.Rows
variable {A:Around} {C:Addr} {H H':Hp} {M:Model} {N:List Str} {P:Program} {X:Cx} {an od:Option Addr} {ct doc oU oc pm:Value} {env:Env} {fd:FuncData} {h h':Heap} {k t' tk:Nat} {kvs:List (List Key×V)} {name qual:Str} {oC:TC} {params:Arguments} {pos rK:Pos} {s:Shared} {scope:Scope} {sp:Sp} {us:TH} {v y:V} {w:World} {wV:Array #[Sr]}
noncomputable def zp8 (xa xb:Hp->Addr->List V->Prop) (a b:Addr):It :=
 ⟨(zkP xa xb a b).go,(zkP xa xb a b).yld,fun i H=>∃ xs ys,xa H a xs/\xb H b ys/\(xs.length=i\/(i < xs.length/\ys.length=i))⟩
abbrev zcl (n:Nat):List Addr:=[n+4,n+2,n+3,n,n+1]
abbrev zq4 (C:String) (n a b:Nat) (i:Nat) (h:Heap):Prop:=(∃ f0 f1,IsZ h (n+4) (n+2) (n+3) f0 f1/\ZF f0 f1)/\IsPair h (n+2) (.ref n) (.ref (n+1))/\(∃ u v,IsPair h (n+3) u v)/\h.IsTupleIter n a i/\ItC C h (n+1) b i
structure Sk (C:String) (Is:Heap->Addr->Array Value->Prop) (Sq:aD->Hp->Addr->List V->Prop):Prop where
 h:SkH C Is
 inv:∀ {X:Cx} {oC:TC} {σ:St} {H:Hp} {s:Shared} {a:Addr} {xs:List V},Inv X oC σ H s->Sq X.K H a xs->∃ oF:List Value,zQ xs oF/\Is s.heap a oF.toArray/\a < s.heap.objs.size
 inj:∀ {X:Cx} {oC:TC} {σ:St} {H:Hp} {s:Shared} {a:Addr} {xs ys:List V},Inv X oC σ H s->Sq X.K H a xs->Sq X.K H a ys->xs=ys
theorem sqL:Sk "list_iterator" Heap.IsList oE:=⟨skL,fun I h=>let ⟨oF,r,p,_⟩:=I.list h; ⟨oF,r,p.isList,by obtain⟨_,_,e,_⟩:=p; exact aX e⟩,fun I h h'=>I.Mh h h'⟩
theorem zmu {C:String} {Is:Heap->Addr->Array Value->Prop} {Sq:aD->Hp->Addr->List V->Prop} (S:Sk C Is Sq) {K:aD} {es:List Expr} (a b n:Nat) (ha:a < n) (hb:b < n):Turn P w K #[RX] (zp8 (oQ K) (Sq K) a b) (zcl n) (n+4) (zq4 C n a b) where
 mem:=by simp
 obj:=fun i h st c hc=>by
  obtain⟨⟨f0,f1,h1,_⟩,h2,⟨u,v,h3⟩,⟨o4,e4,_,d4⟩,⟨o5,e5,_,d5⟩⟩:=st;simp only [zcl,bD,cG,or_false] at hc;rcases hc with z | z | z | z | z <;> subst z
  ·exact⟨_,h1,fun v z=>by cases z⟩
  ·exact⟨_,h2,fun v z=>by cases z⟩
  ·exact⟨_,h3,fun v z=>by cases z⟩
  ·exact⟨_,e4,fun v z=>by rw [d4] at z; cases z⟩
  ·exact⟨_,e5,fun v z=>by rw [d5] at z; cases z⟩
 keep:=fun i h h' st kk=>by
  obtain⟨⟨f0,f1,h1,hf⟩,h2,⟨u,v,h3⟩,h4,h5⟩:=st;obtain⟨o5,e5,r5⟩:=h5;exact⟨⟨f0,f1,kk _ #[M] _ h1,hf⟩,kk _ #[M] _ h2,⟨u,v,kk _ #[M] _ h3⟩,h4.at fun o eo=>kk _ #[M] o eo,o5,kk _ #[M] _ e5,r5⟩
 item:=by
  intro X hP hw hK hc i oC s σ H E I hf st hg;subst hP hw hK;obtain⟨xs,ys,x,y,tH,qJ,hx,hy⟩:=hg;obtain⟨⟨f0,f1,h1,AW⟩,h2,⟨u0,v0,h3⟩,h4,h5⟩:=st;obtain⟨p8,vF,p1,vn⟩:=I.tuple tH;obtain⟨pj,vG,p2,_⟩:=S.inv I qJ;obtain⟨u,hu,ru⟩:=vF.get hx;obtain⟨v,hv,rv⟩:=vG.get hy;have vm:n+4 < s.heap.objs.size:=aX h1;have hh:X.A.in1.handled=none:=by simp [I.ok.hd hc]
  have uK:i < p8.toArray.size:=by have:=(aK.mp hu).1; simpa using this
  have uL:i < pj.toArray.size:=by have:=(aK.mp hv).1; simpa using this
  refine zj2 #[UD] #[VQ] (zeY ha hb) h1 AW h2 h3 ⟨h4,(show s.heap.IsTuple a p8.toArray from p1)⟩ ⟨h5,p2⟩ uK uL
   fun x' y' h' tk g0 g1 a' b' px py ez IX e2 e3 t4 t5 pp hsz kk=>?_
  have eu:x'=u:=by
   have e1:p8[i]? = some x':=by simpa using px
   rw [hu] at e1; exact (bI e1).symm
  have ev:y'=v:=by
   have e1:pj[i]? = some y':=by simpa using py
   rw [hv] at e1; exact (bI e1).symm
  subst eu ev;have ch:∀ c∈[n+4,n+3,n,n+1],c∈zcl n:=fun c oT=>by
   simp only [zcl,bD,cG,or_false] at oT |-;rcases oT with z | z | z | z <;> subst z <;> simp
  have k1:∀ c o,c∉[n+4,n+3,n,n+1]->s.heap.get? c=some o->h'.get? c=some o:=fun c o oT eo=>by
   simp only [bD,cG,or_false,not_or] at oT;exact kk c o oT.1 oT.2.1 oT.2.2.1 oT.2.2.2 eo
  have Cr:∀ c∈[n+4,n+3,n,n+1],∃ o,h'.get? c=some o:=fun c oT=>by
   simp only [bD,cG,or_false] at oT;rcases oT with z | z | z | z <;> subst z
   ·exact⟨_,ez⟩
   ·exact⟨_,e3⟩
   ·obtain⟨o,e,_⟩:=t4.1; exact⟨o,e⟩
   ·obtain⟨o,e,_⟩:=t5.1; exact⟨o,e⟩
  have I1:Inv X oC σ (oG H s.heap.objs.size (.tup [x,y])) { s with heap:=h',toks:=tk } :=
   I.Mu k1 (fun c oT=>hf c (ch c oT)) Cr (aG _) ⟨zbM,_,.cons ru (.cons rv .nil),zcH pp⟩
  refine⟨_,rfl,zq3 (s:={ s with heap:=h',toks:=tk }) ez IX fun AN g2 yq Fb qt=>?_⟩;have fr:∀ c∈zcl n,oG H s.heap.objs.size (.tup [x,y]) c=none:=fun c oT=>by
   have oY:c < s.heap.objs.size:=by
    simp only [zcl,bD,cG,or_false] at oT;rcases oT with z | z | z | z | z <;> subst z <;> exact nl #[O]
   rw [zn (bU oY)];exact (hf c oT).1
  have I2:Inv X oC σ (oG H s.heap.objs.size (.tup [x,y])) { s with heap:=AN,toks:=tk } :=
   Inv.MW (s:={ s with heap:=h',toks:=tk }) (ch:=[n+4]) (t':=tk) I1 #[UA] (fun c oT=>by
    have z:c=n+4:=by simpa using oT
    subst z;exact⟨fr _ #[M],(hf _ #[M]).2⟩) (fun c oT=>by
    have z:c=n+4:=by simpa using oT
    subst z;exact⟨_,yq⟩)
  have up:∀ c o,c≠n+4->h'.get? c=some o->AN.get? c=some o:=fun c o oT e=>qt.extBut c o oT e
  exact⟨.ref s.heap.objs.size,_,I2,rfl,⟨_,x,y,I.fresh,rfl,rfl,fun zs hz=>by rw [I.Mv hz tH]; exact hx,fun zs hz=>by rw [S.inj I hz qJ]; exact hy⟩,
   ⟨⟨g2,g1,yq,Fb⟩,up _ _ #[Ui] e2,⟨_,_,up _ _ #[Ui] e3⟩,t4.1.at fun o e=>up _ o #[Ui] e,⟨t5.1.choose,up _ _ #[Ui] t5.1.choose_spec.1,t5.1.choose_spec.2⟩⟩,fr⟩
 done:=by
  intro X hP hw hK hc i oC s σ H E I hf st hg;subst hP hw hK;obtain⟨xs,ys,tH,qJ,hx⟩:=hg;obtain⟨⟨f0,f1,h1,AW⟩,h2,⟨u0,v0,h3⟩,h4,h5⟩:=st;obtain⟨p8,vF,p1,vn⟩:=I.tuple tH;obtain⟨pj,vG,p2,_⟩:=S.inv I qJ;have hh:X.A.in1.handled=none:=by simp [I.ok.hd hc]
  have vo:=vF.length;have qc:=vG.length;refine zmt #[UD] #[VQ] (zeY ha hb) h1 AW h2 h3 ⟨h4,(show s.heap.IsTuple a p8.toArray from p1)⟩ ⟨h5,p2⟩ (by rw [aP,aP]; lia) fun h' tk kk=>#[QH]
  have sub:∀ c∈[n+4,n+3,n,n+1],c∈zcl n:=fun c oT=>by
   simp only [zcl,bD,cG,or_false] at oT |-;rcases oT with z | z | z | z <;> subst z <;> simp
  have k1:∀ c o,c∉[n+4,n+3,n,n+1]->s.heap.get? c=some o->h'.get? c=some o:=fun c o oT e=>by
   simp only [bD,cG,or_false,not_or] at oT;exact kk c o oT.1 oT.2.1 oT.2.2.1 oT.2.2.2 e
  have wu:∀ d u',H d=some u'->d∉[n+4,n+3,n,n+1]:=fun d u' e' hd=>by rw [(hf d (sub d hd)).1] at e'; cases e'
  refine I.step (g':=s.gens) (d':=s.drawn) (t':=tk) (ch:=[n+4,n+3,n,n+1]) (fun c oT=>?_) #[Vr] #[TV] #[RO]
   (fun c o pT e=>⟨o,k1 c o pT e⟩) #[SH] #[RN] (fun c ps e=>⟨#[],by rw [e]; simp⟩) #[SG] (fun c u e=>?_) I.bare
  ·obtain⟨_,a1,_,a3,a4,a5⟩:=hf c (sub c oT);exact⟨a3,a1,a4,a5⟩
  ·obtain⟨o,An,ep,ho,r⟩:=hm;exact⟨o,An,ep,k1 _ o (fun z=>(hf _ (sub _ z)).2.1 rfl) ho,r⟩
  ·refine (I.hok c u e).Ny #[WC] #[Te] fun _ _ q=>q
   rcases hd with z | z
   ·rw [z]; exact wu c u e
   ·exact wu d _ z
 self:=fun _ _ _ _ _ st h=>by
  obtain⟨⟨f0,f1,hz,_⟩,_⟩:=st;exact zg1 hz h
noncomputable def iZq (xa xb:Hp->Addr->List V->Prop) (ta:TA):TI:=fun σ H R=>ta σ H fun vs H1=>∃ a b xs ys,vs = [.ref a,.ref b]/\xa H1 a xs/\xb H1 b ys/\R (zp8 xa xb a b) H1
theorem zmv {C:String} {Is:Heap->Addr->Array Value->Prop} {Sq:aD->Hp->Addr->List V->Prop} (S:Sk C Is Sq) {es:List Expr} {p:Pos} {a b:Expr} {ta:TA} (hg:Gl X "zip") (hm:X.mg "zip" = none) (ha:PA X [a,b] ta) (hs:starEach [a,b] X.env = [#[Os],#[GM]]:=by rfl) (qU:starEach [b] X.env = [#[GM]]:=by rfl) :
  PI X #[Sg] (.Call (.Name "zip" p) [a,b] [] pos) (iZq (oQ X.K) (Sq X.K) ta):=by
 intro oC s σ H R I h;refine Call_ (zbr I hg hm boot_zip (cR (thn #[Ch] fun us s1 ⟨vs,H1,I1,r1,q1⟩=>?_) (by rw [hs,qU]) (by rw [qU]; rfl)));obtain⟨l1,l2,xs,ys,e,tH,qJ,q⟩:=q1;subst e;cases r1 with
 | cons r rr =>
  cases rr with
  | cons r' rr =>
   cases rr;cases r;cases r';obtain⟨p8,vF,BJ,vn⟩:=I1.tuple tH;obtain⟨pj,vG,Cs,uL⟩:=S.inv I1 qJ;have uK:l1 < s1.heap.objs.size:=by obtain⟨_,e,_⟩:=BJ; exact aX e
   refine zi6 S.h (show s1.heap.IsTuple l1 p8.toArray from BJ) Cs fun h' n hn b1 b2 b3 b4 b5 b6 kk=>?_
   have I2:Inv X oC σ H1 { s1 with heap:=h' }:=I1.kept (t':=s1.toks) kk;refine zg1 b1 ?_;refine⟨_,zcl n,zq4 C n l1 l2,zp8 (oQ X.K) (Sq X.K) l1 l2,H1,rfl,I2,zmu S l1 l2 n (by rw [hn]; exact uK) (by rw [hn]; exact uL),⟨⟨_,_,b1,.inl rfl,_,rfl⟩,b2,⟨_,_,b3⟩,b4,b5⟩,fun c hc=>?_,q⟩;have hle:s1.heap.objs.size<=c:=by
    simp only [zcl,bD,cG,or_false] at hc;rw [<- hn];rcases hc with z | z | z | z | z <;> subst z
    all_goals first | exact kb _ _ | exact aG _
   exact I1.Oi hle #[RI]
theorem zmw {es:List Expr} {p:Pos} {a b:Expr} {ta:TA} (hg:Gl X "zip") (hm:X.mg "zip" = none) (ha:PA X [a,b] ta) (hs:starEach [a,b] X.env = [#[Os],#[GM]]:=by rfl) (qU:starEach [b] X.env = [#[GM]]:=by rfl) :
  PI X #[Sg] (.Call (.Name "zip" p) [a,b] [] pos) (iZq (oQ X.K) (oE X.K) ta):=zmv sqL hg hm ha hs qU
section
variable {prog:Program} {w:World} {A:Around} {h:Heap} {g:Array GenState} {d:Drawn} {tk:Nat} {os:OsState} {K:aD} {x C:Addr} {E:TB}
theorem zi7 {R:Result->Shared->Prop} {tp:Value} (J:∀ M,iU M h #[Um] #[QC]) (X:K.In h)
  (hm:dk K C (.type "object")=some true) (q:R (.ok (.ret #[QC])) ⟨h,g,d,tk,os⟩) :
  codeAny #[ul] A (Code.call (.builtin "getset_descriptor.__get__") { pos:=[.builtin "object.__class__",.ref x,tp] }) R ⟨h,g,d,tk,os⟩:=by
 refine lB PySem.W.KF.slot_gs.plain PySem.W.KF.entry_gs (PySem.W.KF.slot_gs.check _ _ _ _ _ _ _ _ ?_ (PySem.W.KF.args_gs _ _ _) ?_)
 ·exact iY
 ·unfold Builtin.«getset_descriptor.__get__» mR;rw [PySem.W.dga_obj];refine aB (aL ?_)
  try dsimp only
  unfold l9
  try dsimp only
  refine aB ?_;unfold kN kS
  try dsimp only
  rw [PySem.W.KF.owner_class];refine aB (aL ?_)
  try dsimp only
  unfold isInstance;refine aB (aB ((J _).at ((jo X hm).at ?_)));refine fg rfl (aL ?_);unfold again;refine aL ⟨Code.quiet_builtin _ #[N],?_⟩;refine kD PySem.W.KF.entry_class ?_;unfold Builtin.«object.__class__»
  try dsimp only
  unfold shownTypeOf;refine aB (aB ((J _).at ?_));refine fg rfl (aL ?_);unfold ret;exact aL q
theorem zk1 {BP:Value} {Q:Unit->Shared->Prop} (J:∀ M,iU M h #[Um] #[QC]) (X:K.In h) (hm:dk K C (.type "BaseException")=some true) (q:Q () ⟨h,g,d,tk,os⟩) :
  wpAny M A (checkBuiltinCall "BaseException.__getattribute__" { pos:=[.ref x,BP] }) Q E ⟨h,g,d,tk,os⟩:=by
 have hk:builtinKind "BaseException.__getattribute__" = some oz:=#[N];have hs:splitId "BaseException.__getattribute__" = some ("BaseException","__getattribute__"):=by decide +kernel
 unfold checkBuiltinCall;rw [hk,hs]
 try dsimp only
 unfold isInstance;refine aB (aB ((J _).at ((jo X hm).at ?_)));refine fg rfl ?_;have ok:=F.args_bexc_ga (.ref x) BP;unfold argsOk at ok;generalize Manifest.signature? "BaseException.__getattribute__" = sg at ok |-;cases sg with
 | none=>exact aL q
 | some sig =>
  dsimp only at ok |-;rw [ok];exact aL q
theorem zk2 {Q:Option Value->Shared->Prop} (J:∀ M,iU M h #[Um] #[QC]) (X:K.In h)
  (F1:dL K #[QC] "__getattribute__" = some (some (.builtin "BaseException.__getattribute__"))) (F2:dL K #[QC] "__getattr__" = some none)
  (F3:dL K #[QC] "__class__" = some (some (.builtin "object.__class__"))) (hm:dk K C (.type "object")=some true) (hb:dk K C (.type "BaseException")=some true)
  (q:Q (some #[QC]) ⟨h,g,d,tk+1,os⟩):wpAny #[ul] A (getAttr? (.ref x) "__class__") Q E ⟨h,g,d,tk,os⟩:=by
 unfold getAttr?
 (refine aB (wpAny_mkText ?_))
 unfold getAttrBy?
 (refine aB (eY ?_))
 unfold getAttrBy;refine dj (aB ((J _).at (aB ((lC X F1).at ?_))))
 try dsimp only
 refine fg rfl ?_;unfold getAttrByItsOwn;refine aB ((PySem.W.looks_hook (mc:=.ref C) X (r:=none) (by rw [show onTheHeap (bL C)=true from rfl,if_pos rfl]; exact F2)).at ?_)
 (refine aB (eY (dj ?_)))
 unfold callGetattribute;refine fg rfl ?_;unfold boundAndCalled;rw [F.attrBase_ValueError.ga.bind];refine aB (aL ?_)
 try dsimp only
 refine jc ?_;refine lB F.attrBase_ValueError.ga.plain F.entry_bexc_ga (zk1 J X hb ?_)
 (unfold Builtin.«object.__getattribute__»)
 refine aB ?_;unfold slotArgs
 try dsimp only
 refine fg rfl (fg rfl (aL ?_))
 try dsimp only
 unfold nZ
 try dsimp only
 refine aB (aL (aB ((J _).at (aB ?_))));unfold ou;refine aB ((lC X F3).at ?_);unfold om
 try dsimp only
 refine aB (lW iY F.slot_gs_get.lookup ?_);unfold mS
 try dsimp only
 refine aB ?_;unfold nO;refine aB (aB (lW iY F.slot_gs_set.lookup ?_));refine jw rfl (aL ?_);refine jw rfl (aL ?_)
 try dsimp only
 (refine aB (ee (aL ?_)))
 try dsimp only
 unfold og
 try dsimp only
 refine aB (dj (jc (zi7 J X hm ?_)))
 try dsimp only
 unfold ret;refine aL ?_
 try dsimp only
 unfold handedOut
 try dsimp only
 refine aL ?_
 try dsimp only
 exact aL q
end
structure Xc (K:aD) (C:Addr):Prop where
 f1:dL K #[QC] "__getattribute__" = some (some (.builtin "BaseException.__getattribute__"))
 f2:dL K #[QC] "__getattr__" = some none
 f3:dL K #[QC] "__class__" = some (some (.builtin "object.__class__"))
 ob:dk K C (.type "object")=some true
 bb:dk K C (.type "BaseException")=some true
 kc:fz K #[QC] #[QC]=some true
theorem zfs {x:Addr} (e:∃ o,h.get? x=some o/\o.cls = .ref C) (M:Model):iU M h #[Um] #[QC]:=by
 obtain⟨o,e,c⟩:=e;intro A Q E s k q;obtain⟨h',g,d,t,os⟩:=s;unfold typeOf;refine aB (wpAny_loadPart_at (k _ _ e) (aL ?_));rw [c];exact q
theorem zp9 {K:aD} {b:Value} {r:Bool} (m:dk K C b=some r):∃ oc dd cd sl,K.lookup C=some ⟨oc,dd,.cls cd,sl⟩:=by
 unfold dk PySem.W.clsIn at m;cases e:jA C K with
 | none=>rw [e] at m; cases m
 | some o =>
  obtain⟨oc,dd,da,sl⟩:=o;cases da with
  | cls cd=>exact⟨oc,dd,cd,sl,rfl⟩
  | _=>rw [e] at m; cases m
theorem zh2 {K:aD} {x:Addr} (c:Xc K C):PySem.W.KitX K (.ref x) #[QC] (fun h=>∃ o,h.get? x=some o/\o.cls = .ref C):=by
 refine⟨fun M h _ e=>zfs e M,fun M h X e=>(nP X c.kc).2.1,fun h tp dd oF n sl X e=>?_,fun {prog w A E Q s} X e q=>?_⟩
 ·obtain⟨oc,Cw,cd,GL,l⟩:=zp9 c.ob;have e2:=X _ _ l;have ne:C≠tp:=fun z=>by
   rw [z,e] at e2;cases e2
  exact decide_eq_false fun z=>ne (by injection z)
 ·obtain⟨h,g,d,tk,os⟩:=s;exact zk2 (fun M=>zfs e M) X c.f1 c.f2 c.f3 c.ob c.bb q
noncomputable def zmx (a C:Addr):HO:=.ext fun h=>∃ o,h.get? a=some o/\o.cls = .ref C
theorem zam {X:Cx}:zbx X (.builtin "isinstance") (fun xs H Q=>∃ a C y b,xs = [.ref a,y]/\H a=some (zmx a C)/\Xc X.K C/\((∃ D,y = .ref D/\bK X.K #[QC] #[QB]=some b)\/∃ n,y = .ty n/\bK X.K #[QC] (.type n)=some b)/\Q (.bl b) H):=by
 intro oC s σ H xs us Q I r h;obtain⟨a,C,y,b,rfl,ha,c,hy,q⟩:=h;obtain⟨u,u',rfl,rx,r2⟩:=vals2 r;cases rx;obtain⟨he,_,_⟩:=(show zak X.prog X.w H s.heap a (zmx a C) from I.hok a _ ha);rcases hy with ⟨D,rfl,hk⟩ | ⟨n,rfl,hk⟩
 ·cases r2;exact dM (zh2 c) I.kIn he hk (fun z=>nomatch z) fun tk=>⟨.bl b,H,I.tok tk,rfl,q⟩
 ·cases r2;exact dM (zh2 c) I.kIn he hk (fun z=>nomatch z) fun tk=>⟨.bl b,H,I.tok tk,rfl,q⟩
abbrev zi8:List Value:=[.type "ValueError",.type "Exception",.type "BaseException",.type "object"]
structure Qi (C:Addr) (h:Heap) (bmB:TH) (newId:String):Prop where
 ex:∃ nm q N bs bm hdct sn sub ab col dd k0 k1 k2 k3 k5,∃ mN:Str->Option Value,h.get? C=some (excClassObj nm q C N bs bm hdct sn sub ab col dd k0 k1 k2 k3 k5 newId)/\h.Ns N mN/\mN "__init__" = none/\OwnTail h bmB bm
theorem zk3 {K:aD} {bmB:TH} {newId:String} (X:K.In h) (e:gF K C bmB newId=true):Qi C h bmB newId:=by
 unfold gF at e;split at e
 ·rename_i dict cd sl hl
  split at e
  ·rename_i C' bm a0 a1 a2 a3 n a5 hm hs
   simp only [gv,beq_iff_eq] at e;obtain⟨⟨⟨⟨⟨rfl,rfl⟩,Cy⟩,ht⟩,hn⟩,hi⟩:=e;obtain⟨sll⟩:=sl;have hs:sll = [a0,a1,a2,a3,some (n8 n),a5]:=hs;subst hs;have ho:=X _ _ hl;cases cd;dsimp only at hm hn hi Cy;subst hm;simp only [mT] at Cy;subst Cy;exact⟨_,_,_,_,_,_,_,_,_,_,_,_,_,_,_,_,_,ho,Heap.Ns.of_isNs (PySem.W.isNs_of_in X hn),PySem.W.nsMap_none_of_in X hn hi,PySem.W.tail_of_in X ht⟩
  ·cases e
 ·cases e
theorem zez {h h' base B:Heap} (k:∀ b o,h.get? b=some o->h'.get? b=some o):∀ {l:List Env},h.FunFrames base l->(∀ b∈frs l,B.get? b=none)->h'.FunFrames B l
 | [],_,_=>trivial
 | env :: r,hl,hb=>by
  obtain⟨hk,⟨L,o,hf,hn,ho,hd⟩,hr⟩:=hl;have e:frs (env :: r)=L :: frs r:=by unfold frs; rw [fR,hf]
  rw [e] at hb;exact⟨hk,⟨L,o,hf,hb L #[M],k _ _ ho,hd⟩,zez k hr fun b z=>hb b (aY _ z)⟩
structure Xl (P:Program) (w:World) (outer:List Env) (H:Hp) (h:Heap) (H':Hp) (h' B:Heap) (e C:Addr):Prop where
 new:h.get? e=none
 hok:HOk P w H' B
 fly:∃ t,B.FlyingW outer e #[QC] t h'
 keep:∀ b o,h.get? b=some o->H b=none->b∉frs outer->B.get? b=some o
 slot:∀ b o,h.get? b=some o->H b=none->b∈frs outer->∃ sl,h'.get? b=some { o with slots:=sl }
 free:∀ b o,h.get? b=some o->H b=none->H' b=none
 there:∀ b o,h.get? b=some o->b∉frs outer->∃ o',B.get? b=some o'
 Nd:∀ b xs,H b=some #[SO]->H' b=some #[SO]
 Nj:∀ b o u,H b=some #[Vz]->H' b=some #[Vz]
 Ng:∀ b ps,H b=some (.tbl ps)->∃ more,H' b=some (.tbl (ps++more))
noncomputable def CX1 (P:Program) (w:World):CXT:=fun outer H s E ev s'=>∃ (e C:Addr) (H':Hp) (B:Heap),ev = .ref e/\s'.os=s.os/\AllBare s'.gens/\Xl P w outer H s.heap H' s'.heap B e C/\E #[QC] none H'
section
variable {P:Program} {w:World} {outer:List Env} {H H':Hp} {h h' B:Heap} {e C:Addr}
theorem zi9 {o:HO} {a:Addr} (x:zak P w H h a o):∃ ob,h.get? a=some ob:=by
 cases o with
 | lst xs=>obtain⟨_,_,_,_,e⟩:=x; exact⟨_,e⟩
 | tup xs=>obtain⟨_,_,_,o,e,_⟩:=x; exact⟨_,e⟩
 | dK kvs=>obtain⟨_,_,_,_,o,_,_,e,_⟩:=x; exact⟨_,e⟩
 | dT kvs=>obtain⟨_,_,_,_,o,_,_,e,_⟩:=x; exact⟨_,e⟩
 | set S n=>obtain⟨o,_,_,_,e,_⟩:=x; exact⟨_,e⟩
 | ins C dx fs=>obtain⟨_,_,_,e,_⟩:=x; exact⟨_,e⟩
 | own y=>obtain⟨_,e⟩:=x; exact⟨_,e⟩
 | xd fs=>obtain⟨_,⟨_,_,_,e,_⟩,_⟩:=x; exact⟨_,e⟩
 | rng lo hi=>obtain⟨_,_,_,e⟩:=x; exact⟨_,e⟩
 | frz ob u=>obtain⟨e,_⟩:=x; exact⟨_,e⟩
 | tbl ps=>exact⟨_,(show h.get? a=some _ from x)⟩
 | met f y=>exact⟨_,(show h.get? a=some _ from x)⟩
 | ext φ=>obtain⟨_,⟨_,e⟩,_⟩:=x; exact⟨_,e⟩
theorem Xl.fresh (x:Xl P w outer H h H' h' B e C):H' e=none:=by
 obtain⟨t,_,hb,_⟩:=x.fly;cases q:H' e with
 | none=>rfl
 | some u =>
  obtain⟨ob,z⟩:=zi9 (x.hok e u q);rw [hb] at z;cases z
theorem Xl.un (x:Xl P w outer H h H' h' B e C) (hf:∀ b∈frs outer,H b=none):Un (frs outer) [] H H' h h' where
 keep:=fun b o q n hb _=>by
  obtain⟨t,st,_⟩:=x.fly;exact st _ _ (x.keep b o q n hb)
 slot:=fun b o q n hb _=>x.slot b o q n hb
 free:=fun b o q n _=>x.free b o q n
 there:=fun b o q _=>by
  by_cases hb:b∈frs outer
  ·obtain⟨sl,z⟩:=x.slot b o q #[Vw] hb;exact⟨_,z⟩
  ·obtain⟨o',z⟩:=x.there b o q hb;obtain⟨t,st,_⟩:=x.fly;exact⟨o',st _ _ z⟩
 Nd:=x.Nd
 Nj:=x.Nj
 Ng:=x.Ng
end
section
variable {X:Cx} {σ:St} {H:Hp} {s:Shared} {oC:TC}
theorem Inv.hid (I:Inv X oC σ H s):HOk X.prog X.w H (f' s.heap (frs X.stack)):=fun a o q =>
 (I.hok a o q).Ny (fun b u hb z=>ie _ z fun m=>by
  have n:=I.MY b m;rcases hb with rfl | hb
  ·rw [q] at n; cases n
  ·rw [hb] at n; cases n) (fun _ z=>z) fun _ _ z=>z
theorem zh3 {outer:List Env} {L:Addr} (hf:env.frame=some L):frs (env :: outer)=L :: frs outer:=by unfold frs; rw [fR,hf]
theorem Inv.NA (I:Inv X oC σ H s) {b:Addr} {o:Obj} (q:X.s₀.heap.get? b=some o):b≠X.env.locals:=bU (bQ (aX q) I.ok.above)
end
section
variable {P:Program} {w:World} {K:aD} {mg:TJ} {base:Heap} {N:List Str} {qual:Str} {scope:Scope} {f:Addr} {cd:Value} {A:Around} {outer:List Env} {s₀:Shared} {H₀:Hp} {E:XK}
abbrev cxX (P:Program) (w:World) (K:aD) (mg:TJ) (base:Heap) (N:List Str) (qual:Str) (scope:Scope) (f:Addr) (cd:Value) (A:Around) (outer:List Env) (s:Shared) (H:Hp) (E:XK):Cx:=zb1 (CX1 P w) P w K mg base N qual scope f cd A outer s H E
theorem zft {σ:St} {h1:Heap} {e:Addr} {vs:TH} (I:Inv #[wf] oC σ H s) (m:s.heap.MadeExcOf h1 e #[QC] vs) (q:E #[QC] none H) :
  (cxX P w K mg base N qual scope f cd A outer s₀ H₀ E).xe (.ref e) { s with heap:=h1 }:=by
 have DY:frs #[wf].stack=s₀.heap.objs.size :: frs outer:=zh3 rfl;obtain⟨t,he,_,_⟩:=m.there;have stays:(f' s.heap (frs #[wf].stack)).StaysIn h1:=fun b o z=>m.keeps _ _ (jC _ z)
 have tV:(f' s.heap (frs #[wf].stack)).get? e=none:=by
  cases z:(f' s.heap (frs #[wf].stack)).get? e with
  | none=>rfl
  | some o=>have:=jC _ z; rw [m.new] at this; cases this
 refine wpAny_leaving_firstW (base:=f' s.heap (frs #[wf].stack)) (outer:=outer) I.ok.frames (zez m.keeps I.stack fun b z=>lj _ z) rfl he stays tV rfl rfl rfl fun h2 left=>?_
 obtain⟨pD,ff2,tr2,BQ⟩:=left;refine⟨e,C,H,f' s.heap (frs #[wf].stack),rfl,I.os,I.bare,⟨?_,I.hid,⟨_,pD,tV,ff2.2.2,tr2⟩,fun b o z n hb=>?_,fun b o z n hb=>?_,fun b o z n=>I.base.free b o z n (by simp [cxX,zb1]),fun b o z hb=>?_,I.base.Nd,I.base.Nj,I.base.Ng⟩,q⟩
 ·cases z:s₀.heap.get? e with
  | none=>rfl
  | some o =>
   obtain⟨o',z'⟩:=I.base.there e o z (by simp [cxX,zb1]);rw [m.new] at z'; cases z'
 ·refine ie _ (I.base.keep b o z n hb (by simp [cxX,zb1])) fun hm=>?_
  rw [DY] at hm;rcases bD.mp hm with z' | z'
  ·exact I.NA z z'
  ·exact hb z'
 ·obtain⟨sl,z1⟩:=I.base.slot b o z n hb (by simp [cxX,zb1]);obtain⟨_,ob,zo,nd⟩:=I.ok.Oh.mem hb;have eo:ob=o:=by
   have z3:s₀.heap.get? b=some ob:=zo;rw [z] at z3; exact (bI z3).symm
  subst eo;obtain⟨GL,z2⟩:=BQ b _ (m.keeps _ _ z1) nd;exact⟨GL,z2⟩
 ·obtain⟨o',z1⟩:=I.base.there b o z (by simp [cxX,zb1]);refine⟨o',ie _ z1 fun hm=>?_⟩;rw [DY] at hm;rcases bD.mp hm with z' | z'
  ·exact I.NA z z'
  ·exact hb z'
theorem zja:zgO (CX1 P w) #[wf] E:=by
 intro oC σ H s ev s' I hq;obtain⟨e,C,H',B,rfl,os,bare,L,q⟩:=hq;have DY:frs #[wf].stack=s₀.heap.objs.size :: frs outer:=zh3 rfl;obtain⟨t,fl⟩:=L.fly;show wpAny _ _ (leaving _ _) _ _ _;unfold leaving;refine aB (kE (base:=B) (outer:=outer) I.ok.frames rfl fl fun h2 held u2=>?_);refine mG held fun h3 AX u3=>?_
 obtain⟨xV,tV,ff3,tr3⟩:=AX;refine⟨e,C,H',B,rfl,os.trans I.os,bare,⟨?_,L.hok,⟨_,xV,tV,ff3.2.2,tr3⟩,fun b o z n hb=>?_,fun b o z n hb=>?_,fun b o z n=>?_,fun b o z hb=>?_,fun b xs z=>L.Nd b xs (I.base.Nd b xs z),fun b o u z=>L.Nj b o u (I.base.Nj b o u z),fun b ps z=>?_⟩,q⟩
 ·cases z:s₀.heap.get? e with
  | none=>rfl
  | some o =>
   obtain⟨o',z'⟩:=I.base.there e o z (by simp [cxX,zb1]);rw [L.new] at z'; cases z'
 ·refine L.keep b o (I.base.keep b o z n hb (by simp [cxX,zb1])) (I.base.free b o z n (by simp [cxX,zb1])) fun hm=>?_
  rw [DY] at hm;rcases bD.mp hm with z' | z'
  ·exact I.NA z z'
  ·exact hb z'
 ·obtain⟨sl,z1⟩:=I.base.slot b o z n hb (by simp [cxX,zb1]);obtain⟨_,ob,zo,nd⟩:=I.ok.Oh.mem hb;have eo:ob=o:=by
   have z3:s₀.heap.get? b=some ob:=zo;rw [z] at z3; exact (bI z3).symm
  subst eo;obtain⟨BQ,z2⟩:=L.slot b _ z1 (I.base.free b _ z n (by simp [cxX,zb1])) (by rw [DY]; exact aY _ hb);obtain⟨sl3,z3⟩:=u2 b _ z2 nd;obtain⟨sl4,z4⟩:=u3 b _ z3 nd;exact⟨sl4,z4⟩
 ·obtain⟨o',z'⟩:=I.base.there b o z (by simp [cxX,zb1]);exact L.free b o' z' (I.base.free b o z n (by simp [cxX,zb1]))
 ·obtain⟨o',z'⟩:=I.base.there b o z (by simp [cxX,zb1]);refine L.there b o' z' fun hm=>?_
  rw [DY] at hm;rcases bD.mp hm with z' | z'
  ·exact I.NA z z'
  ·exact hb z'
 ·obtain⟨m1,e1⟩:=I.base.Ng b ps z;obtain⟨m2,e2⟩:=L.Ng b _ e1;exact⟨m1++m2,by rw [e2,mh]⟩
theorem Fun.okX {x:Str} {st:Stmt} {ps:List Str} (F:Fun K x qual st f fd) (S:KE N ps (zh st)) (len:∀ vs H Q E,sp vs H Q E->vs.length=ps.length)
  (qb:∀ (oU:Value) (A:Around) (outer:List Env) (s:Shared) (H:Hp) (vs:List V) (Q:VK) (E:XK),Nf k #[QE]->sp vs H Q E ->
   ∃ t,PSs (cxX P w K mg base N qual (zh st) f oU A outer s H E) (zbi st) t/\t { nx:=fun _ H'=>Q .non H',rt:=Q } #[Rr] H):LG P w K mg base (CX1 P w) (k+1) f fd ps sp:=by
 obtain⟨oc,od,kV,doc,pm,an,oU,ct,wV,rfl,lk,sL⟩:=F.ex;exact zl6 lk sL S len fun A outer s H vs Q E hr uD=>qb oU A outer s H vs Q E hr uD
end
section
variable {X:Cx} {x:Str} {C:Addr} {e:Expr} {te:TE} {np pd pos:Pos} {E:XK}
noncomputable def zmy (X:Cx) (E:XK):Prop:=∀ (oC:TC) (σ:St) (H:Hp) (s:Shared) (h1:Heap) (e C:Addr) (vs:TH),Inv X oC σ H s->s.heap.MadeExcOf h1 e #[QC] vs->E #[QC] none H->X.xe (.ref e) { s with heap:=h1 }
noncomputable def zqa (C:Addr) (E:XK) (te:TE):TS:=fun _ σ H=>zjO te zpQ σ H fun vs H1=>vs.length=1/\E #[QC] none H1
theorem zh4 (hx:zmy X E) (hc:X.calm=true) (hg:Gl X x) (hm:X.mg x=some #[QC]) (xc:gF X.K C zi8 "ValueError.__new__" = true) (he:PE X e te) (hd:(x == ("__debug__" : Str))=false:=by decide)
  (pN:((backTo pd (starEach [e] X.env)).any fun x=>x.fst)=false:=by rfl) (tF:starEach [e] X.env=#[Go] :: starEach [] X.env:=by rfl) :
  PS X (.Raise (some (.Call (.Name x np) [e] [] pd)) none pos) (zqa C E te):=by
 intro oC s σ H D I h;obtain⟨nm,q,N,bs,bm,hdct,sn,sub,ab,col,dd,k0,k1,k2,k3,k5,mN,hob,xh,rW,qK⟩:=(zk3 I.mod.kin xc).ex;refine wpAny_Raise_call_subU (nm:=nm) (q:=q) (N:=N) (bs:=bs) (hdct:=hdct) (sn:=sn) (sub:=sub) (ab:=ab) (col:=col) (dd:=dd) (k0:=k0) (k1:=k1) (k2:=k2) (k3:=k3) (k5:=k5) (bm:=bm) (bmB:=zi8) (bmN:=zi8) lD rfl lD (OwnTail.hasType qK rfl) #[QO] pN rW (zcB I hg hm #[QH] hd);have pa:PA X [e] (zjO te zpQ):=za he ze tF;have go:=pa pd oC s σ H (fun vs H1=>vs.length=1/\E #[QC] none H1) I h;rw [tF] at go |-;refine je (thn go fun us s2 ⟨vs,H2,I2,r2,ql,q2⟩=>⟨rfl,?_,I2.bk _ _ hob,xh.keeps I2.bk,qK.keeps I2.bk,fun h1 ea m=>hx oC σ H2 s2 h1 ea C _ I2 m q2⟩);have:=r2.length;have qu:1<=sizeLine:=by decide
 show us.length<=sizeLine;lia
end
noncomputable def zq5 (X:Cx) (oC:TC) (σ:St) (e:Expr) (t:TE):Prop:=∀ (s:Shared) (H:Hp) (Q:VK),Inv X oC σ H s->t σ H Q->wpAny #[or] X.A #[VD] #[Qp] X.xe s
noncomputable def zq6 (X:Cx) (oC:TC) (σ:St) (st:Stmt) (t:TS):Prop:=∀ (s:Shared) (H:Hp) (D:Ends),Inv X oC σ H s->t D σ H->wpAny #[or] X.A (exec st X.env) #[Vm] X.xe s
noncomputable def zmz (X:Cx) (oC:TC) (σ:St) (st:List Stmt) (t:TS):Prop:=∀ (s:Shared) (H:Hp) (D:Ends),Inv X oC σ H s->t D σ H->wpAny #[or] X.A (execs st X.env) #[Vm] X.xe s
noncomputable def zdP (CX:CXT) (X:Cx) (oC:TC) (σ:St) (E:XK):Prop:=∀ (H:Hp) (s:Shared) (e:Value) (s':Shared),Inv X oC σ H s->CX X.stack H s E e s'->X.xe e s'
section
variable {X:Cx} {oC:TC} {σ:St} {CX:CXT} {k:Nat} {f C:Addr} {fd:FuncData} {ps:List Str} {sp:Sp} {vD:List V} {ds:TH} {E:XK} {x m:Str} {p pos apos:Pos} {e o:Expr} {es:List Expr} {ta te:TE} {t:TA}
theorem zk4 {Q:VK} {vs:List V} (F:LG X.prog X.w X.K X.mg X.base CX k f fd ps sp) (hr:Nf k X.A) (hb:Binds X.K fd ps ds) (hd:zQ vD ds) (hx:zdP CX X oC σ E)
  (I:Inv X oC σ H s) (r:zQ vs us) (h:sp (vs++vD) H Q E):wpAny #[or] X.A (call #[Ts] us) #[Qp] X.xe s:=by
 have r2:zQ (vs++vD) (us++ds):=r.append hd;have hl:(us++ds).length=ps.length:=by rw [<- r2.length]; exact F.len _ _ _ _ h
 refine jc (jd (F.run X.A X.stack s H ⟨us,[]⟩ (us++ds) (vs++vD) Q E hr I.PZ (hb s us I.kIn hl) r2 h) fun r s' hq=>?_);cases r with
 | error e=>exact hx H s e s' I hq
 | ok fl =>
  cases fl with
  | ret u=>exact I.after hq
  | next=>exact dU hq
  | brk=>exact dU hq
  | cont=>exact dU hq
theorem zfu (F:LG X.prog X.w X.K X.mg X.base CX k f fd ps sp) (hr:Nf k X.A) (hg:Gl X x) (hm:X.mg x=some #[Ts]) (hk:gr X.K #[Ts]=true) (hb:Binds X.K fd ps ds) (hd:zQ vD ds) (hx:zdP CX X oC σ E)
  (ha:PA X (e :: es) t) (AH:(x == ("__debug__" : Str))=false:=by decide) (he:starEach (e :: es) X.env=#[Go] :: starEach es X.env:=by rfl) (pN:#[LE].any (·.1)=false:=by rfl) :
  zq5 X oC σ (.Call #[WU] (e :: es) [] pos) (zl5 sp vD E t):=by
 intro s H Q I h;refine ft #[U8];refine jE (h₀:=X.base) I.ok.mod.kin hk (thn #[Ch] fun us s1 ⟨vs,H1,I1,r,q⟩=>⟨I1.kIn,?_⟩) he pN;exact zk4 F hr hb hd hx I1 r q
theorem zgw {i:Nat} {pos':Pos} (hN:X.N.Nodup) (hi:X.N[i]? = some x) (hx:Loc X.env.scope x) (he:zq5 X oC σ e te) (hs:swapsWith e #[V1] pos.line X.env=pure false:=by rfl) (hf:X.fn x=true\/X.env.scope.names.lookup x=some .local:=by first | exact .inl rfl | exact .inr rfl | assumption) :
  zq6 X oC σ (.Assign [.Name x pos'] e pos) (zfV te (zbc i)):=by
 intro s H D I h;refine wpAny_Assign_Name (thn (he s H _ I h) fun v s1 ⟨y,H1,I1,r1,q1⟩=>?_) hs;exact zco I1 hN hi hx r1 (fun s2 I2=>⟨_,H1,I2,q1⟩) hf
theorem zfv {st:Stmt} {ts:TS} (h:zq6 X oC σ st ts):zmz X oC σ [st] ts:=by
 intro s H D I h1;refine j5 (thn (h s H D I h1) fun f s1 q=>?_);cases f with
 | next=>exact gb q
 | ret v=>exact q
 | brk=>exact q
 | cont=>exact q
end
section
variable {X:Cx} {σ:St} {H:Hp} {s:Shared} {oC:TC}
theorem zk5 {E:TB} {i:Nat} {x:Str} {Q:Unit->Shared->Prop} (I:Inv X oC σ H s) (hN:X.N.Nodup) (hi:X.N[i]? = some x) (hk:X.env.scope.names.lookup x=some .local) (hv:σ[i]? = some #[UF])
  (h:∀ s',Inv X oC #[UY] H s'->Q () s'):wpAny M A (unbindName X.env x) Q E s:=by
 obtain⟨m,hn,hl⟩:=id I.loc;have yo:(X.env.scope.kind == .class || (X.env.scope.kind == .module && X.env.locals != X.env.globals))=false:=by rw [I.ok.kind]; rfl
 have hiσ:i < σ.length:=by rw [I.len]; exact (aK.mp hi).1
 have cne:=I.cne;obtain⟨u,r,lk⟩:=hl i x v hi hv (.inl hk);have hm:m x=some u:=by
  rcases lk with ⟨_,z⟩ | ⟨z,_⟩
  ·exact z
  ·have z:X.env.scope.names.lookup x=some .cell\/X.env.scope.names.lookup x=some .free:=z;rw [hk] at z;rcases z with z | z <;> cases z
 refine wpAny_unbindName_local hk hn hm yo fun h' u' uw hs=>?_
 obtain⟨oL,_,_,Ao,_⟩:=id hn;refine h _ ⟨I.ok,I.os,I.bare,#[Do],#[Wg],fun y c e=>?_,I.free,I.L3,fun p hp=>?_,fun b ob e=>?_,by simpa using I.len⟩
 ·exact (hs.2 b #[Qu]).trans #[RA]
 ·obtain⟨sl,e1⟩:=I.base.slot b o e n hb hx;exact⟨sl,(hs.2 b #[Qu]).trans e1⟩
 ·obtain⟨o',e1⟩:=I.base.there b o e hx;exact⟨o',(hs.2 b #[Qu]).trans e1⟩
 ·by_cases hj:j=i
  ·subst hj;rw [dJ hiσ] at e2;cases e2
  ·rw [dI (dY hj)] at e2;obtain⟨u',r',q⟩:=hl j y v' e1 e2 e3;refine⟨u',r',?_⟩;rcases q with ⟨k,e⟩ | ⟨k,c,e,z⟩
   ·refine .inl ⟨k,?_⟩;have:y≠x:=fun e=>hj (zff hN e1 (e ▸ hi))
    simp [this,e]
   ·exact .inr #[Wf]
 ·obtain⟨w',z⟩:=I.cell y c e;exact#[VT]
 ·obtain⟨e,n,ne,nf,d⟩:=I.pin p hp;exact⟨(hs.2 p.1 ne).trans e,n,ne,nf,d⟩
 ·refine (I.hok b ob e).Ny (fun c w' hc q=>(hs.2 c ?_).trans q) #[Te] fun _ _ q=>q
  rintro rfl;rcases hc with rfl | hc
  ·rw [I.free] at e; cases e
  ·rw [I.free] at hc; cases hc
theorem Inv.Px {a:Addr} {o:HO} (I:Inv X oC σ H s) (hn:H a=none) (h0:X.s₀.heap.get? a=none) (hL:a≠X.env.locals) (hc:∀ x c,X.env.cells.lookup x=some c->c≠a) (hp:∀ p∈X.pn++oC,p.1≠a) (new:zak X.prog X.w #[ST] s.heap a o) :
  Inv X oC σ #[ST] s:=by
 have hok:HOk X.prog X.w #[ST] s.heap:=fun b u e=>by
  by_cases hb:b=a
  ·subst hb;rw [zb] at e;cases e;exact new
  ·rw [zn hb] at e;exact #[TQ].Ny (fun c v _ q=>q) (fun c q=>by rw [zn (zu q hn)]; exact q) fun c xs q=>by rw [zn (zu q hn)]; exact q
 refine⟨I.ok,I.os,I.bare,#[QU],I.loc,I.cell,?_,fun x c e=>?_,fun p GZ=>?_,hok,I.len⟩
 ·rw [zn (fun z=>by rw [z,h0] at e; cases e)];exact I.base.free b u e n hx
 ·have:=I.base.Nd b xs e;rw [zn (zu this hn)]; exact this
 ·have:=I.base.Nj b u xs e;rw [zn (zu this hn)]; exact this
 ·obtain⟨m1,this⟩:=I.base.Ng b ps e;exact⟨m1,by rw [zn (zu this hn)]; exact this⟩
 ·rw [zn (dY hL)]; exact I.free
 ·rw [zn (hc x c e)]; exact I.L3 x c e
 ·obtain⟨e,n,ne,nf,d⟩:=I.pin p GZ;exact⟨e,by rw [zn (hp p GZ)]; exact n,ne,nf,d⟩
end
abbrev Cx.Ml (X:Cx) (e:Addr):Cx:={ X with A:=X.A.mark (some (.ref e)),calm:=false,xe:=fun _ _=>False }
section
variable {X:Cx} {oC:TC} {σ:St} {H:Hp} {s:Shared} {e:Addr}
theorem Cx.Ok.Ml (ok:X.Ok) (e:Addr):(X.Ml e).Ok :=
 ⟨ok.mod,ok.kind,ok.glob,ok.blt,ok.above,ok.inj,ok.has,ok.cab,fun z=>(by cases z),ok.frames,ok.stk,ok.exf,ok.bs,ok.bsz,ok.Po,ok.Pu,ok.Oh,ok.frf⟩
theorem Inv.Ml (I:Inv X oC σ H s) (e:Addr):Inv (X.Ml e) oC σ H s:=⟨I.ok.Ml e,I.os,I.bare,I.base,I.loc,I.cell,I.free,I.L3,I.pin,I.hok,I.len⟩
theorem Inv.NX (I:Inv (X.Ml e) oC σ H s) (ok:X.Ok):Inv X oC σ H s:=⟨ok,I.os,I.bare,I.base,I.loc,I.cell,I.free,I.L3,I.pin,I.hok,I.len⟩
theorem zeA {E:TB} {g:Array GenState} {d:Drawn} {os:OsState} {K:aD} {S:Addr} {Q:Bool->Shared->Prop} (X:K.In h) (he:∃ o,h.get? e=some o/\o.cls = .ref C) (hk:fz K #[QC] (.ref S)=some true)
  (hs:dk K S (.type "BaseException")=some true) (q:Q true ⟨h,g,d,tk,os⟩):wpAny M A (excMatches (.ref e) (.ref S)) Q E ⟨h,g,d,tk,os⟩:=by
 obtain⟨l1,l2,l3⟩:=nP (M:=M) X hk;unfold excMatches isInstance;refine aB (aB (l1.at ?_));rw [tc_notTuple];refine aL (fg rfl (aB (aL ?_)));dsimp only
 (simp only [ge,iG])
 refine aB (aB (aB ?_));unfold isExcClass;refine aB (l2.at (jw rfl ((jo X hs).at ?_)));refine fg rfl #[V4];refine aB ((zfs he M).at ?_);refine aB (aB (aB (l3.at (jw rfl #[V4]))));exact aL q
end
noncomputable def Ends.but (D:Ends) (i:Nat):Ends:={ nx:=fun σ H=>D.nx #[UY] H,rt:=D.rt,bk:=fun σ H=>D.bk #[UY] H,ct:=fun σ H=>D.ct #[UY] H }
noncomputable def zrI (K:aD) (S:Addr) (i:Nat) (tb:XK->TS) (th:TS):TS:=fun D σ H =>
 tb (fun cls _ H'=>∃ C,cls = .ref C/\fz K #[QC] (.ref S)=some true/\∀ e,H' e=none->th (D.but i) (σ.set i (some (.ref e))) (oG H' e (zmx e C))) D σ H
section
variable {X:Cx} {x n:Str} {S:Addr} {i:Nat} {body rX:List Stmt} {b₀:Stmt} {tb:XK->TS} {th:TS} {np sU pos:Pos}
theorem zqb (hex:X.ex = []) (yw:X.stack=X.env :: X.outer) (uI:X.env.frame=some X.env.locals) (hg:Gl X x) (hm:X.mg x=some (.ref S)) (hS:dk X.K S (.type "BaseException")=some true)
  (hN:X.N.Nodup) (hi:X.N[i]? = some n) (hk:X.env.scope.names.lookup n=some .local)
  (hb:∀ (xe:TB) (oC:TC) (σ:St) (E:XK),zdP (CX1 X.prog X.w) (X.Of xe) oC σ E->zmz (X.Of xe) oC σ body (tb E))
  (hh:∀ e:Addr,PSs (X.Ml e) (b₀ :: rX) th) (hd:(x == ("__debug__" : Str))=false:=by decide) :
  PS X (.Try body [.ExceptHandler (some (.Name x np)) (some n) (b₀ :: rX) sU] [] [] pos) (zrI X.K S i tb th):=by
 intro oC s σ H D I h;refine wpAny_Try_except ?_;refine dA (hb (fun ev s1=>wpAny #[or] X.A (noteFrame ev X.env) (fun _ s₂=>wpAny #[or] X.A (setFlight ev none) (fun _ s₃=>wpAny #[or] X.A (handleBy ev X.env [jH (some (Expr.Name x np)) (some n) (b₀ :: rX) sU]) #[Vm] X.xe s₃) X.xe s₂) X.xe s1) oC σ _ ?_ s H D (I.Of _) h) (fun f s1 q=>?_) fun ev s1 z=>z
 ·
  intro H1 s1 ev s2 I1 hq;have I1:=I1.LB;obtain⟨e,C,H',B,rfl,os,bare,L,C',hC,rP,q⟩:=hq;cases hC;obtain⟨t,fl⟩:=L.fly;have qd:∀ b∈frs X.stack,H1 b=none:=I1.MY;show wpAny _ _ (noteFrame _ _) _ _ _;have IY:B.FlyingW #[Ty] e #[QC] t s2.heap:=by rw [<- yw]; exact fl
  refine kE (base:=B) (outer:=X.outer) (by rw [<- yw]; exact I1.ok.frames) uI IY fun h2 held u2=>?_
  refine mG held fun h3 AX u3=>?_
  have xV:∀ (h4:Heap),B.FlyingW #[Ty] e #[QC] t h4->s2.heap.UpToSlots h4->∀ (tk:Nat),Inv X oC σ H' ⟨h4,s2.gens,s2.drawn,tk,s2.os⟩:=by
   intro h4 xZ u4 tk;refine I1.Pq (s':=⟨h4,s2.gens,s2.drawn,tk,s2.os⟩) (ch:=[]) os ?_ (L.hok.kept xZ.1) bare #[Ug];have U:=L.un qd;refine⟨fun b o z nn hb _=>xZ.1 _ _ (L.keep b o z nn hb),fun b o z nn hb _=>?_,U.free,fun b o z _=>?_,L.Nd,L.Nj,L.Ng⟩
   ·obtain⟨sl,z1⟩:=L.slot b o z nn hb;obtain⟨_,ob,zo,nd⟩:=I1.stack.mem hb;rw [z] at zo;cases zo;obtain⟨BQ,z2⟩:=u4 b _ z1 nd;exact⟨BQ,z2⟩
   ·by_cases hb:b∈frs X.stack
    ·obtain⟨sl,z1⟩:=L.slot b o z (qd b hb) hb;obtain⟨_,ob,zo,nd⟩:=I1.stack.mem hb;rw [z] at zo;cases zo;obtain⟨BQ,z2⟩:=u4 b _ z1 nd;exact⟨_,z2⟩
    ·obtain⟨o',z1⟩:=L.there b o z hb;exact⟨o',xZ.1 _ _ z1⟩
  have I3:=xV h3 AX #[Ws] s2.toks;refine lX (kZ ?_) (by intro z; cases z);refine zcB (X:=X.Ml e) (I3.Ml e) hg hm ?_ hd;refine zeA I3.kIn AX.there rP hS ?_;rw [if_pos rfl]
  (refine codeAny_handlers_suite_as ?_)
  refine j2 AX fun h4 xZ u4=>?_
  have I4:=xV h4 xZ (#[Ws].trans u4) s2.toks;have ne:H' e=none:=L.fresh;have e0:X.s₀.heap.get? e=none:=by
   cases z:X.s₀.heap.get? e with
   | none=>rfl
   | some o =>
    obtain⟨o',z'⟩:=I1.base.there e o z (by rw [hex]; simp);rw [L.new] at z'; cases z'
  have I5:Inv X oC σ (oG H' e (zmx e C)) ⟨h4,s2.gens,s2.drawn,s2.toks,s2.os⟩:=by
   refine I4.Px ne e0 (fun z=>?_) (fun y c hc z=>?_) (fun p hp z=>?_) ?_
   ·obtain⟨m,⟨o,_,_,ho,_⟩,_⟩:=I1.loc;rw [<- z,L.new] at ho;cases ho
   ·obtain⟨v,o,ho,_⟩:=I1.cell y c hc;rw [z,L.new] at ho;cases ho
   ·have:=(I1.pin p hp).1;rw [z,L.new] at this;cases this
   ·obtain⟨ob,ho,yo⟩:=xZ.there;exact⟨⟨ob,ho,yo⟩,⟨ob,ho⟩,fun h1 h2 ⟨o,z,c⟩ k=>⟨o,k o z,c⟩⟩
  refine zco (X:=X.Ml e) (v:=.ref e) (I5.Ml e) hN hi (.inl hk) rfl (fun s6 I6=>?_) (.inr hk);refine dA (hh e oC s6 _ _ (D.but i) I6 (q e ne)) (fun f s7 q7=>?_) fun _ _ z=>z.elim
  have fin:∀ {σ':St} {H7:Hp} {R:Shared->Prop},Inv (X.Ml e) oC σ' H7 s7->(∀ s8,Inv X oC (σ'.set i none) H7 s8->R s8)->wpAny #[or] X.A (do bindName X.env n eZ; unbindBehindTheSuite X.env n sU) (fun _ s8=>R s8) X.xe s7:=by
   intro σ' H7 R I7 hR;have I7:=I7.NX I.ok;refine aB (wpAny_bindName (zco (v:=.non) I7 hN hi (.inl hk) rfl (fun s8 I8=>?_) (.inr hk)));unfold unbindBehindTheSuite;refine iT ?_;have As:i < σ'.length:=by rw [I7.len]; exact (aK.mp hi).1
   refine zk5 (v:=.non) I8 hN hi hk (by rw [dJ As]) fun s9 I9=>hR s9 ?_
   rw [List.set_set] at I9;exact I9
  cases f with
  | next =>
   obtain⟨σ',H7,I7,q8⟩:=q7;exact fin I7 fun s8 I8=>⟨_,_,I8,q8⟩
  | brk =>
   obtain⟨σ',H7,I7,q8⟩:=q7;exact fin I7 fun s8 I8=>⟨_,_,I8,q8⟩
  | cont =>
   obtain⟨σ',H7,I7,q8⟩:=q7;exact fin I7 fun s8 I8=>⟨_,_,I8,q8⟩
  | ret v =>
   obtain⟨u,σ',H7,I7,r,q8⟩:=q7;exact fin I7 fun s8 I8=>⟨u,_,_,I8,r,q8⟩
 ·cases f with
  | next=>exact gb (SP.LB q)
  | ret v=>exact SP.LB q
  | brk=>exact SP.LB q
  | cont=>exact SP.LB q
end
structure Nl (k:Nat) (A:Around):Prop where
 dp:A.depth+3*k+5 < recursionLimit
 un:A.units+16*k+200 < cLine
theorem Nl.of {e:Addr} (r:Nf k A):Nl k (A.mark (some (.ref e))):=⟨r.dp,r.un⟩
theorem Nl.deeper (r:Nl (k+1) A) (env:Env):Nl k (A.deeper env) :=
 ⟨by have:=r.dp; show A.depth+1+3*k+5 < _; lia,by have:=r.un; show A.units+3+16*k+200 < _; lia⟩
structure Pg (P:Program) (w:World) (K:aD) (mg:TJ) (base:Heap) (k:Nat) (f:Addr) (fd:FuncData) (ps:List Str) (sp:Sp):Prop where
 len:∀ vs H Q E,sp vs H Q E->vs.length=ps.length
 run:∀ (A:Around) (outer:List Env) (s:Shared) (H:Hp) (args:Args) (us:TH) (vs:List V) (Q:VK) (E:XK),Nl k A->Pw P w K mg base A outer s H->BindsTo s fd args #[Vl]->zQ vs us->sp vs H Q E ->
  codeAny #[SR] A (.call #[Ts] args) (CR CX0 outer P w H s Q E) s
abbrev cxH (P:Program) (w:World) (K:aD) (mg:TJ) (base:Heap) (N:List Str) (qual:Str) (scope:Scope) (f:Addr) (cd:Value) (A:Around) (outer:List Env) (s:Shared) (H:Hp) (E:XK):Cx :=
 { zb1 CX0 P w K mg base N qual scope f cd A outer s H E with calm:=false,xe:=fun _ _=>False }
section
variable {P:Program} {w:World} {K:aD} {mg:TJ} {base:Heap}
theorem zqc {f:Addr} {body:List Stmt} {dV kV:Value} 
  {ps:List Str} (lk:K.lookup f=some ⟨oc,od,.func #[IN],wV⟩) (sL:gQ K oU qual=true) (S:KE N ps scope)
  (len:∀ vs H Q E,sp vs H Q E->vs.length=ps.length)
  (qb:∀ (A:Around) (outer:List Env) (s:Shared) (H:Hp) (vs:List V) (Q:VK) (E:XK),Nl k #[SV]->sp vs H Q E ->
   ∃ t,PSs #[QG] body t/\t { nx:=fun _ H'=>Q .non H',rt:=Q } #[Rr] H) :
  Pg P w K mg base (k+1) f #[IN] ps sp:=by
 refine#[Sy];have hl:=len _ _ _ _ uD;have KX:K.In s.heap:=e0.mod.kin.keeps fun b o e=>#[Ww].1
 have lim:s.heap.NoLimit:=e0.mod.nolimit.keeps fun b o e=>#[Ww].1
 have rV:∀ y∈ps.zip us,scope.names.lookup y.1=some .local\/(scope.names.lookup y.1=some .cell/\((cellsFrom #[Rn] scope.names []).lookup y.1).isSome=true):=fun ⟨n,v⟩ hy=>by
  rcases S.par n (il hy).1 with q | q
  ·exact .inl q
  ·exact .inr ⟨q,iN _ _ _ (.inl q)⟩
 refine kU (by have:=hr.dp; lia) (KX _ _ lk) rfl S.co S.gen rfl (mj KX sL) (hb _ _ _ _ ?_);refine jM S.kind rV fun env he s1 x=>?_
 subst he;refine#[Tr];obtain⟨t,ht,hq⟩:=qb A outer s H vs Q E (hr.deeper _) uD;have e1:Pw P w K mg base { A with handled:=none } outer s H:=⟨e0.frames,e0.mod,e0.bs,e0.bsz,e0.Oh,e0.frf,e0.hok,e0.bare⟩;have I0:Inv (zb1 CX0 P w K mg base N qual scope f oU { A with handled:=none } outer s H E) [] #[Rr] H s1:=zgl S rfl e1 hl r x;have I:Inv #[QG] [] #[Rr] H s1 :=
  ⟨⟨I0.ok.mod,I0.ok.kind,I0.ok.glob,I0.ok.blt,I0.ok.above,I0.ok.inj,I0.ok.has,I0.ok.cab,fun z=>(by cases z),I0.ok.frames,I0.ok.stk,I0.ok.exf,I0.ok.bs,I0.ok.bsz,I0.ok.Po,I0.ok.Pu,I0.ok.Oh,I0.ok.frf⟩,I0.os,I0.bare,I0.base,I0.loc,I0.cell,I0.free,I0.L3,I0.pin,I0.hok,I0.len⟩
 refine dA (ht [] s1 #[Rr] H _ I hq) (fun fl s' hs=>?_) fun e s' hs=>hs.elim
 have fin:∀ {σ':St} {H':Hp} {v:V} {u:Value},Inv #[QG] [] σ' H' s'->RelV v u->Q v H'->CE outer P w H s Q u s' :=
  fun {σ' H' v u} J rv q=>⟨v,H',J.os,J.bare,J.base,J.hok,rv,q⟩
 cases fl with
 | ret u =>
  obtain⟨v,σ',H',J,rv,q⟩:=hs;exact fin J rv q
 | next =>
  obtain⟨σ',H',J,q⟩:=hs;exact fin (v:=V.non) (u:=eZ) J rfl q
 | brk =>
  obtain⟨_,_,_,q⟩:=hs;exact dU q
 | cont =>
  obtain⟨_,_,_,q⟩:=hs;exact dU q
theorem Fun.okH {x:Str} {st:Stmt} {f:Addr} {ps:List Str} (F:Fun K x qual st f fd) (S:KE N ps (zh st)) (len:∀ vs H Q E,sp vs H Q E->vs.length=ps.length)
  (qb:∀ (oU:Value) (A:Around) (outer:List Env) (s:Shared) (H:Hp) (vs:List V) (Q:VK) (E:XK),Nl k #[QE]->sp vs H Q E ->
   ∃ t,PSs (cxH P w K mg base N qual (zh st) f oU A outer s H E) (zbi st) t/\t { nx:=fun _ H'=>Q .non H',rt:=Q } #[Rr] H):Pg P w K mg base (k+1) f fd ps sp:=by
 obtain⟨oc,od,kV,doc,pm,an,oU,ct,wV,rfl,lk,sL⟩:=F.ex;exact zqc lk sL S len fun A outer s H vs Q E hr uD=>qb oU A outer s H vs Q E hr uD
end
section
variable {X:Cx} {k:Nat} {f:Addr} {fd:FuncData} {ps:List Str} {sp:Sp} {x:Str} {p pos:Pos} {e:Expr} {es:List Expr} {t:TA}
theorem zmA (F:Pg X.prog X.w X.K X.mg X.base k f fd ps sp) (hr:Nl k X.A) (hg:Gl X x) (hm:X.mg x=some #[Ts]) (hk:gr X.K #[Ts]=true) (hb:Binds X.K fd ps [])
  (ha:PA X (e :: es) t) (AH:(x == ("__debug__" : Str))=false:=by decide) (he:starEach (e :: es) X.env=#[Go] :: starEach es X.env:=by rfl) (pN:#[LE].any (·.1)=false:=by rfl) :
  PE X (.Call #[WU] (e :: es) [] pos) (zl5 sp [] E0 t):=by
 intro oC s σ H Q I h;refine ft #[U8];refine jE (h₀:=X.base) I.ok.mod.kin hk (thn #[Ch] fun us s1 ⟨vs,H1,I1,r,q⟩=>⟨I1.kIn,?_⟩) he pN;have r2:zQ (vs++[]) (us++[]):=r.append .nil;have hl:(us++[]).length=ps.length:=by rw [<- r2.length]; exact F.len _ _ _ _ q
 refine jc (jd (F.run X.A X.stack s1 H1 ⟨us,[]⟩ (us++[]) (vs++[]) Q E0 hr I1.PZ (hb s1 us I1.kIn hl) r2 q) fun r s' hq=>?_);cases r with
 | error e=>exact hq.elim
 | ok fl =>
  cases fl with
  | ret u=>exact I1.after hq
  | next=>exact dU hq
  | brk=>exact dU hq
  | cont=>exact dU hq
end
theorem zdy:∀ {bs:List Bool} {us:TH},zQ (bs.map V.bl) us->us=bs.map iF
 | [],_,r=>by cases r; rfl
 | b :: bs,_,r=>by
  cases r with
  | cons r1 r2 =>
   rw [zdy r2];cases r1;rfl
theorem zeB {h:Heap}:∀ (bs:List Bool),∃ as,ReadsAll h (bs.map iF) (bs.map oA) as
 | []=>⟨_,.nil⟩
 | b :: bs=>by
  obtain⟨as,r⟩:=zeB (h:=h) bs;exact⟨_,.cons (by constructor) r⟩
theorem zeC:∀ (bs:List Bool),(bs.map oA).all Spec.Shape.bool.has=true
 | []=>rfl
 | _ :: bs=>by
  rw [bT,lM,zeC bs];rfl
theorem zh5 {bs:List Bool} (k:Bool) (y:Value) (hy:y∈bs.map iF) (A:Around) (s:Shared):lu A s y (.bool k) (isBoolOf k y):=by
 obtain⟨as,r⟩:=zeB (h:=s.heap) bs;exact eq_isBoolOf k r (zeC bs) y hy A s
theorem zdQ (k:Bool):∀ bs:List Bool,List.countP (isBoolOf k) (bs.map iF)=bs.count k
 | []=>rfl
 | b :: bs=>by
  rw [bT,List.countP_cons,List.count_cons,zdQ k bs];rfl
section
variable {X:Cx}
noncomputable def zoj:V->List V->Hp->VK->Prop:=fun x vs H Q=>∃ (l:Addr) (bs:List Bool) (k:Bool),x = .ref l/\vs = [.bl k]/\H l=some (.lst (bs.map V.bl))/\Q (.int ((bs.count k:Nat):Int)) H
theorem zk6:MtM X "list.count" zoj:=by
 intro oC s σ H x vs v us Q I rx rv h;obtain⟨l,bs,k,rfl,rfl,hH,q⟩:=h;cases rx;obtain⟨u,rfl,ru⟩:=rv.one;cases ru;obtain⟨z,oF,n,r,hl,e⟩:=I.OX hH;have hi:=zdy r;subst hi;refine gp F.slot_list_count ⟨_,e,rfl⟩ F.entry_list_count (F.args_list_count_2 _ _) (SeqAt.list_countAt l _ n _ _ (.bool k) (isBoolOf k)) #[Uz];rw [List.toList_toArray,zdQ];exact⟨.int ((bs.count k:Nat):Int),H,I.tok _,⟨_,rfl⟩,q⟩
noncomputable def zok:V->List V->Hp->VK->Prop:=fun x vs H Q=>∃ (l:Addr) (bs:List Bool) (k:Bool) (j:Nat),x = .ref l/\vs = [.bl k]/\H l=some (.lst (bs.map V.bl))/\bs[j]? = some k/\(∀ m,m < j->bs[m]? = some (!k))/\j < 1000/\Q (.int (j:Int)) H
theorem zk7:MtM X "list.index" zok:=by
 intro oC s σ H x vs v us Q I rx rv h;obtain⟨l,bs,k,j,rfl,rfl,hH,hj,hm,h1000,q⟩:=h;cases rx;obtain⟨u,rfl,ru⟩:=rv.one;cases ru;obtain⟨z,oF,n,r,hl,e⟩:=I.OX hH;have hi:=zdy r;subst hi;obtain⟨hjl,hje⟩:=aK.mp hj;refine gp F.slot_list_index ⟨_,e,rfl⟩ F.entry_list_index (F.args_list_index_2 _ _) (SeqAt.list_indexAt l _ n _ _ (.bool k) (isBoolOf k) j #[U,hjl] #[O] ?_ ?_) #[Uz]
 ·simp [isBoolOf,hje]
 ·intro m h1 h2;have:=hm m h2;obtain⟨_,Fc⟩:=aK.mp this;simp [isBoolOf,Fc]
 ·exact⟨.int (j:Int),H,I.tok _,⟨_,rfl⟩,q⟩
end
noncomputable def strsOf:List Expr->Option (List Str)
 | []=>some []
 | .Constant (.str i) _ _ :: r=>(strsOf r).map (i :: ·)
 | _=>none
noncomputable def zh6 (ns:List Str):TA:=fun _ H Q=>Q (ns.map V.str) H
theorem zol {X:Cx}:∀ (es:List Expr) (ns:List Str),strsOf es=some ns->PA X es (zh6 ns):=by
 intro es;induction es with
 | nil =>
  intro ns h;have e:ns = []:=(bI h).symm;subst e;exact ze
 | cons e r ih =>
  intro ns h;unfold strsOf at h;split at h
  ·rename_i heq
   cases heq
  ·rename_i i j p r' heq
   injection heq with e1 e2
   subst e1 e2;cases hr:strsOf r with
   | none=>rw [hr] at h; cases h
   | some ms =>
    rw [hr] at h;have e:i :: ms=ns:=bI h;subst e;exact za zfg (ih ms hr)
  ·cases h
theorem zmB {X:Cx} {i:Nat} {x:Str} {pos' qB qI:Pos} {rest:List Stmt} {u:TS} {es:List Expr} {ns:List Str} (h:strsOf es=some ns) (hN:X.N.Nodup) (hi:X.N[i]? = some x) (hx:Loc X.env.scope x)
  (hf:X.fn x=true\/X.env.scope.names.lookup x=some .local) (hr:PSs X rest u):PSs X (.Assign [.Name x pos'] #[TR] qI :: rest) (zaV (zfV (ziU (zh6 ns)) (zbc i)) u):=by
 have h1:PE X #[TR] (ziU (zh6 ns)):=@zab X es (zh6 ns) qB (@zol X es ns h);have h2:PS X (.Assign [.Name x pos'] #[TR] qI) (zfV (ziU (zh6 ns)) (zbc i)):=zl hN hi hx h1 (by rfl) hf;exact zd h2 hr
section
variable {κ:Type} [DecidableEq κ]
noncomputable def zaO (kvs:List (κ×V)) (k:κ):Option V:=(kvs.find? fun kv=>decide (kv.1=k)).map (·.2)
noncomputable def putK (kvs:List (κ×V)) (k:κ) (v:V):List (κ×V) :=
 if (kvs.any fun kv=>decide (kv.1=k))=true then kvs.map (fun kv=>if kv.1=k then (kv.1,v) else kv) else kvs++[(k,v)]
theorem zaP {p:κ×V} {r:List (κ×V)} {k:κ} (e:p.1=k):zaO (p :: r) k=some p.2:=by simp [zaO,gI,e]
theorem zaQ {p:κ×V} {r:List (κ×V)} {k:κ} (e:¬ p.1=k):zaO (p :: r) k=zaO r k:=by simp [zaO,gI,e]
theorem zc2 (k:κ):∀ kvs:List (κ×V),(kvs.any fun kv=>decide (kv.1=k))=#[WM].isSome
 | []=>rfl
 | p :: r=>by
  rw [iS];by_cases e:p.1=k
  ·simp only [zaP e,decide_eq_true e,Bool.true_or,mB]
  ·rw [zaQ e,decide_eq_false e,Bool.false_or]; exact zc2 k r
theorem zh7 (k j:κ) (y:V):∀ kvs:List (κ×V),zaO (kvs.map fun kv=>if kv.1=k then (kv.1,y) else kv) j=(zaO kvs j).map fun x=>if j=k then y else x
 | []=>rfl
 | p :: r=>by
  have ih:=zh7 k j y r;rw [bT];by_cases h:p.1=k
  ·rw [if_pos h];by_cases e:p.1=j
   ·rw [zaP (p:=(p.1,y)) e,zaP e,ji,if_pos (e.symm.trans h)]
   ·rw [zaQ (p:=(p.1,y)) e,zaQ e,ih]
  ·rw [if_neg h];by_cases e:p.1=j
   ·rw [zaP (p:=p) e,zaP e,ji,if_neg (fun z=>h (e.trans z))]
   ·rw [zaQ (p:=p) e,zaQ e,ih]
theorem zgx (k j:κ) (y:V):∀ kvs:List (κ×V),zaO kvs k=none->zaO (kvs++[(k,y)]) j=if j=k then some y else zaO kvs j
 | [],_=>by
  by_cases e:k=j
  ·rw [if_pos e.symm]; exact zaP (p:=(k,y)) e
  ·rw [if_neg (fun z=>e z.symm)]; exact zaQ (p:=(k,y)) e
 | p :: r,hn=>by
  rw [List.cons_append];have hk:¬ p.1=k:=fun z=>by rw [zaP z] at hn; cases hn
  rw [zaQ hk] at hn;have ih:=zgx k j y r hn;by_cases e:p.1=j
  ·rw [zaP e,zaP e,if_neg (fun z=>hk (e.trans z))]
  ·rw [zaQ e,zaQ e,ih]
theorem zh8 (kvs:List (κ×V)) (k j:κ) (y:V):zaO (putK kvs k y) j=if j=k then some y else zaO kvs j:=by
 unfold putK;by_cases a:(kvs.any fun kv=>decide (kv.1=k))=true
 ·rw [if_pos a,zh7];rw [zc2] at a;by_cases e:j=k
  ·obtain⟨x,hx⟩:=j6.mp a;rw [if_pos e,e,hx,ji,if_pos rfl]
  ·rw [if_neg e];cases zaO kvs j with
   | none=>rfl
   | some x=>rw [ji,if_neg e]
 ·rw [if_neg a];refine zgx k j y kvs ?_;rw [zc2] at a;cases q:zaO kvs k with
  | none=>rfl
  | some x=>rw [q] at a; exact (a rfl).elim
theorem zca (kvs:List (κ×V)) (k:κ) (v:V):#[QW].length<=kvs.length+1:=by
 unfold putK;split
 ·rw [aA]; lia
 ·rw [aS,dN,kF]; lia
theorem zmC {kvs:List (κ×V)} {k:κ} (v:V) (h:zaO kvs k=none):putK kvs k v=kvs++[(k,v)]:=by
 unfold putK;rw [zc2,h];exact if_neg #[D]
theorem zef.OY {o:Option V} {u:Option Value} (r:zef o u):o.isSome=u.isSome:=by
 cases o with
 | none=>cases u with
  | none=>rfl
  | some _=>exact (show False from r).elim
 | some _=>cases u with
  | none=>exact (show False from r).elim
  | some _=>rfl
theorem zef.getD {o:Option V} {u:Option Value} {d:V} {d':Value} (r:zef o u) (rd:RelV d d'):RelV (o.getD d) (u.getD d'):=by
 cases o with
 | none=>cases u with
  | none=>exact rd
  | some _=>exact (show False from r).elim
 | some _=>cases u with
  | none=>exact (show False from r).elim
  | some _=>exact r
theorem KV.val {kvs:List (κ×V)} {vs:List (κ×Value)} (r:KV kvs vs) (k:κ):zef #[WM] (valueAt vs k):=by
 unfold KV at r;induction r with
 | nil=>exact gn
 | @cons p q ps qs h t ih =>
  obtain⟨h1,h2⟩:=h;by_cases e:p.1=k
  ·have e':q.1=k:=h1.symm.trans e;have b:valueAt (q :: qs) k=some q.2:=by simp [valueAt,gI,e']
   rw [zaP e,b]; exact h2
  ·have e':¬ q.1=k:=fun z=>e (h1.trans z)
   have b:valueAt (q :: qs) k=valueAt qs k:=by simp [valueAt,gI,e']
   rw [zaQ e,b]; exact ih
theorem KV.any {kvs:List (κ×V)} {vs:List (κ×Value)} (r:KV kvs vs) (k:κ):(kvs.any fun kv=>decide (kv.1=k))=vs.any fun kv=>decide (kv.1=k):=by
 unfold KV at r;induction r with
 | nil=>rfl
 | cons h t ih=>rw [iS,iS,ih,h.1]
theorem KV.PX {kvs:List (κ×V)} {vs:List (κ×Value)} (r:KV kvs vs) (k:κ) {u:Value} (ry:RelV y u) :
  KV (kvs.map fun kv=>if kv.1=k then (kv.1,y) else kv) (vs.map fun kv=>if kv.1=k then (kv.1,u) else kv):=by
 unfold KV at r |-;induction r with
 | nil=>exact .nil
 | @cons p q ps qs h t ih =>
  rw [bT,bT];refine .cons ?_ ih;obtain⟨h1,h2⟩:=h;by_cases e:p.1=k
  ·rw [if_pos e,if_pos (h1.symm.trans e)]; exact⟨h1,ry⟩
  ·rw [if_neg e,if_neg (fun z=>e (h1.trans z))]; exact⟨h1,h2⟩
theorem KV.put {kvs:List (κ×V)} {vs:List (κ×Value)} (r:KV kvs vs) (k:κ) {u:Value} (ry:RelV y u):KV (putK kvs k y) (stored vs k u):=by
 unfold putK stored;rw [r.any k];by_cases e:(vs.any fun kv=>decide (kv.1=k))=true
 ·rw [if_pos e,if_pos e]; exact r.PX k ry
 ·rw [if_neg e,if_neg e]; exact dE r ⟨rfl,ry⟩
theorem KV.length {kvs:List (κ×V)} {vs:List (κ×Value)} (r:KV kvs vs):kvs.length=vs.length:=bS r
end
theorem zj3 {k:Key} {u:Value} (r:RelV (kV k) u):(zat P w).is k u=true:=by
 cases k with
 | inl i=>obtain⟨t,e⟩:=(show ∃ t,u=jB i t from r); subst e; exact zhC P w i t
 | inr x=>obtain⟨t,e⟩:=(show ∃ t,u=md x t from r); subst e; exact zhD P w x t
theorem zgy {P:Program} {w:World}:∀ {ks:List Key} {us:TH},zQ (ks.map kV) us->ItemsAre (zat P w) ks us
 | [],_,r=>by rw [f8] at r; cases r; exact .nil
 | k :: ks,_,r=>by
  rw [bT] at r;cases r with
  | cons h t=>exact .cons (zj3 h) (zgy t)
abbrev KT (H:Hp):List (List Key×V)->List (List Key×Addr×Value)->Prop:=Paired fun p q=>p.1=q.1/\H q.2.1=some (.tup (p.1.map kV))/\RelV p.2 q.2.2
theorem KT.val {xs:List (List Key×Addr×Value)} (r:KT H kvs xs) (k:List Key):zef #[WM] ((atKey xs k).map (·.2)):=by
 induction r with
 | nil=>exact gn
 | @cons p q ps qs h t ih =>
  obtain⟨h1,_,h2⟩:=h;by_cases e:p.1=k
  ·have e':q.1=k:=h1.symm.trans e;have b:atKey (q :: qs) k=some q.2:=by simp [atKey,gI,e']
   rw [zaP e,b]; exact h2
  ·have e':¬ q.1=k:=fun z=>e (h1.trans z)
   have b:atKey (q :: qs) k=atKey qs k:=by simp [atKey,gI,e']
   rw [zaQ e,b]; exact ih
theorem KT.PX {xs:List (List Key×Addr×Value)} (r:KT H kvs xs) (k:List Key) {u:Value} (ry:RelV y u) :
  KT H (kvs.map fun kv=>if kv.1=k then (kv.1,y) else kv) (xs.map (putAt k u)):=by
 induction r with
 | nil=>exact .nil
 | @cons p q ps qs h t ih =>
  rw [bT,bT];refine .cons ?_ ih;obtain⟨h1,h2,h3⟩:=h;unfold putAt;by_cases e:p.1=k
  ·rw [if_pos e,if_pos (h1.symm.trans e)]; exact⟨h1,h2,ry⟩
  ·rw [if_neg e,if_neg (fun z=>e (h1.trans z))]; exact⟨h1,h2,h3⟩
theorem KT.put {xs:List (List Key×Addr×Value)} (r:KT H kvs xs) (k:List Key) {b:Addr} {u:Value} (hb:H b=some #[QM]) (ry:RelV y u) :
  KT H (putK kvs k y) (storedH xs k b u):=by
 have e:(kvs.any fun kv=>decide (kv.1=k))=(atKey xs k).isSome:=by
  rw [zc2,(r.val k).OY,Option.isSome_map]
 unfold putK storedH;rw [e];by_cases q:(atKey xs k).isSome=true
 ·rw [if_pos q,if_pos q]; exact r.PX k ry
 ·rw [if_neg q,if_neg q]; exact dE r ⟨rfl,hb,ry⟩
theorem KT.keeps {xs:List (List Key×Addr×Value)} (r:KT H kvs xs) (ht:∀ b ys,H b=some (.tup ys)->H' b=some (.tup ys)):KT H' kvs xs :=
 Paired.PY r fun _ _ z=>⟨z.1,ht _ _ z.2.1,z.2.2⟩
section
variable {P:Program} {w:World} {H:Hp} {h:Heap} {a:Addr}
theorem zpj {u:HO} (ok:HOk P w H h) (e:Rd H a u):zak P w H h a u:=e.ok ok
theorem zh9 {kvs:List (Key×V)} (ok:HOk P w H h) (e:Rd H a #[Tq]):kvs.length<=sizeLine/\(a == sysModules)=false/\∃ vs,KV kvs vs/\h.DictOf (zat P w) a vs :=
 show zak P w H h a #[Tq] from zpj ok e
theorem zpk {kvs:List (Key×V)} (ok:HOk P w H h) (e:H a=some #[Tq]):kvs.length<=sizeLine/\(a == sysModules)=false/\∃ vs,KV kvs vs/\h.DictOf (zat P w) a vs:=zh9 ok (.inl e)
theorem zfw {ks:List Key} (ok:HOk P w H h) (e:H a=some (.tup (ks.map kV))):#[Rc].is h ks a:=by
 obtain⟨_,oF,r,o,h1,h2,n,h3⟩:=(show zak P w H h a (.tup (ks.map kV)) from ok a _ e);exact⟨o,oF.toArray,n,h1,h2,h3,by simpa using zgy r⟩
theorem zia (ok:HOk P w H h) (e:Rd H a #[QZ]):kvs.length<=sizeLine/\(a == sysModules)=false /\
  ∃ xs,KT H kvs xs/\h.DictOfH #[Rc] a xs:=by
 obtain⟨z,y,xs,r,o,es,ep,h1,h2,h3,h4,h5⟩:=(show zak P w H h a #[QZ] from zpj ok e);refine⟨z,y,xs,r,o,es,ep,h1,h2,h3,h4,fun x hx=>?_,h5⟩;have all:∀ {l:List (List Key×V)} {m:List (List Key×Addr×Value)},KT H l m->∀ x∈m,#[Rc].is h x.1 x.2.1:=by
  intro l m q;induction q with
  | nil=>intro x hx; exact nomatch hx
  | @cons p q ps qs hq t ih =>
   intro x hx;rcases bD.mp hx with e | hx
   ·subst e;exact zfw ok (by rw [<- hq.1]; exact hq.2.1)
   ·exact ih x hx
 exact all r x hx
theorem zpl (ok:HOk P w H h) (e:H a=some #[QZ]):kvs.length<=sizeLine/\(a == sysModules)=false /\
  ∃ xs,KT H kvs xs/\h.DictOfH #[Rc] a xs:=zia ok (.inl e)
end
noncomputable def zeM (H:Hp) (a:Addr) (y:V) (r:Option V):Prop :=
 (∃ kvs k,Rd H a #[Tq]/\y=kV k/\r=zaO kvs k)\/∃ kvs k b,Rd H a #[QZ]/\y = .ref b/\H b=some #[QM]/\r=zaO kvs k
noncomputable def zk8 (H:Hp) (a:Addr) (y v:V) (H':Hp):Prop :=
 (∃ kvs k,H a=some #[Tq]/\y=kV k/\kvs.length < sizeLine/\H'=oG H a (.dK #[QW])) \/
 ∃ kvs k b,H a=some #[QZ]/\y = .ref b/\H b=some #[QM]/\kvs.length < sizeLine/\H'=oG H a (.dT #[QW])
theorem zeM.t {a b:Addr} {k:List Key} (e:H a=some #[QZ]) (eb:H b=some #[QM]):zeM H a #[T7] #[WM]:=.inr ⟨kvs,k,b,.inl e,rfl,eb,rfl⟩
theorem zk8.t {a b:Addr} {k:List Key} (e:H a=some #[QZ]) (eb:H b=some #[QM]) (hl:kvs.length < sizeLine) :
  zk8 H a #[T7] v (oG H a (.dT #[QW])):=.inr ⟨kvs,k,b,e,rfl,eb,hl,rfl⟩
section
variable {X:Cx} {oC:TC} {σ:St} {H:Hp} {s:Shared} {a:Addr} {y v:V} {u r:Value} {o:Option V} {A:Around} {E:TB}
theorem Inv.big (I:Inv X oC σ H s):sysModules < s.heap.objs.size:=by
 have h:mainGlobals < s.heap.objs.size:=(I.mod.glob.keeps I.bk).lt;exact Nat.lt_trans #[D] h
theorem zk9 {Q:TB} (hu:A.units+1 < cLine) (I:Inv X oC σ H s) (g:zeM H a y #[UF]) (ry:RelV y u) (h:∀ w' s',Inv X oC σ H s'->RelV v w'->Q w' s') :
  wpAny #[or] A (getItem #[QD] u) Q E s:=by
 rcases g with ⟨kvs,k,e,ey,l⟩ | ⟨kvs,k,b,e,ey,eb,l⟩
 ·subst ey;obtain⟨z,hd,vs,rel,dd⟩:=zh9 I.hok e;obtain⟨w',hw,wW⟩:=zef.some_of (v:=v) (o:=valueAt vs k) (by rw [l]; exact rel.val k);exact wpAny_getItem_of (zj3 ry) dd.mapOf hw (h w' _ (I.tok _) wW)
 ·subst ey;cases (show u=bL b from ry);obtain⟨z,hd,xs,rel,dd⟩:=zia I.hok e;obtain⟨w',hw,wW⟩:=zef.some_of (v:=v) (o:=(atKey xs k).map (·.2)) (by rw [l]; exact rel.val k);obtain⟨p,hp,rY⟩:=et.mp hw;refine wpAny_getItem_heap (ir hu) (zfw I.hok eb) dd hp ?_;rw [rY];exact h w' _ (I.tok _) wW
theorem zg2 {ob:HO} (I:Inv X oC σ H s) (mu:Mut (H a)) (hs:cT a s.heap h') (he:∃ q,h'.get? a=some q) (new:zak X.prog X.w (oG H a ob) h' a ob) :
  Inv X oC σ (oG H a ob) { s with heap:=h',toks:=t' } :=
 I.write (x:=a) (e:=a) mu #[Q3] (fun b q hb z=>(hs.2 b hb).trans z) he new
theorem zqd {kvs:List (Key×V)} {vs:List (Key×Value)} (z:kvs.length<=sizeLine) (hd:(a == sysModules)=false) (rel:KV kvs vs) (dd:h'.DictOf (zat P w) a vs) :
  zak P w H' h' a #[Tq]:=⟨z,hd,vs,rel,dd⟩
theorem zla {Q:Unit->Shared->Prop} (hu:A.units+1 < cLine) (I:Inv X oC σ H s) (g:zk8 H a y v H') (ry:RelV y u) (rv:RelV v r) (h:∀ s',Inv X oC σ H' s'->Q () s') :
  wpAny #[or] A (setItem #[QD] u r) Q E s:=by
 rcases g with ⟨kvs,k,e,ey,l,eH⟩ | ⟨kvs,k,b,e,ey,eb,l,eH⟩
 ·subst ey eH;obtain⟨z,hd,vs,rel,dd⟩:=zpk I.hok e;have hz:vs.length<=sizeLine:=by rw [<- rel.length]; exact z
  have hl:#[QW].length<=sizeLine:=by have:=zca kvs k v; lia
  refine wpAny_setItem_pairs (hsz:=hz) (zj3 ry) dd fun h' Cw hs=>h _ ?_
  have he:∃ q,h'.get? a=some q:=let ⟨q,_,_,hq,_⟩:=Cw; ⟨q,hq⟩
  exact zg2 I (by rw [e]; exact gn) hs he (zqd hl hd (rel.put k rv) Cw)
 ·subst ey eH;cases (show u=bL b from ry);obtain⟨z,hd,xs,rel,dd⟩:=zpl I.hok e;have hz:xs.length<=sizeLine:=by rw [<- bS rel]; exact z
  have hl:#[QW].length<=sizeLine:=by have:=zca kvs k v; lia
  refine wpAny_setItem_heap (hsz:=hz) (ir hu) (zfw I.hok eb) dd fun h' Cw hs=>h _ ?_
  obtain⟨q,es,ep,hq,h2,h3,h4,_,h5⟩:=Cw;refine zg2 I (by rw [e]; exact gn) hs ⟨q,hq⟩ ⟨hl,hd,_,(rel.put k eb rv).keeps fun c ys ec=>?_,q,es,ep,hq,h2,h3,h4,h5⟩;rw [zn (zpb ec e (fun z=>nomatch z))];exact ec
end
noncomputable def zq7 (i:Expr):Prop:=∀ ov iv,subscripted i false ov iv=operate [ov,iv] (getItem ov iv)
theorem zom {prog:Program} {E:TB} {value slice:Expr} {T id:String} {Q:TB}
  (hl:typeLookup (.type T) "__getitem__" = pure (some #[Sl])) (hs:zq7 slice)
  (h:wpAny #[ul] A (eval value env) (fun o s₁=>wpAny #[ul] A (eval slice env) (fun i s₂=>s₂.TypeIs o T/\wpAny #[ul] A (getItem o i) Q E s₂) E s₁) E s) :
  wpAny #[ul] A (eval (.Subscript value slice pos) env) Q E s:=by
 refine lr (dA h (fun o s₁ h₁=>dA h₁ (fun i s₂ h₂=>?_) fun _ _ x=>x) fun _ _ x=>x);obtain⟨hT,h₂⟩:=h₂;unfold subscriptTail;refine aB ?_;rw [getitemInPython_of_ne hT.not_modules];refine aB (jf hT hl ?_);have fin:wpAny #[ul] A (subscripted slice false o i) (fun r s₃=>wpAny #[ul] A (letTemporaryGo value o r >>= fun _=>pure r) Q E s₃) E s₂:=by
  rw [hs o i];exact wpAny_operating (dA h₂ (fun r s₃ h₃=>aB (wpAny_letTemporaryGo (aL h₃))) fun _ _ x=>x)
 first
  | exact aL (aB fin)
  | exact aB (aL (aB fin))
  | exact aB fin
theorem zib {σ:St} {a:Addr} {o:Option V} (I:Inv X oC σ H s) (g:zeM H a y o):s.TypeIs #[QD] "dict":=by
 rcases g with ⟨kvs,k,e,_,_⟩ | ⟨kvs,k,b,e,_,_,_⟩
 ·obtain⟨_,_,vs,_,dd⟩:=zh9 I.hok e;exact dd.typeIs
 ·obtain⟨_,_,xs,_,dd⟩:=zia I.hok e;exact dd.typeIs
noncomputable def zq8 (td ty:TE):TE:=fun σ H Q=>td σ H fun x H1=>ty σ H1 fun y H2=>∃ a v,x = .ref a/\zeM H2 a y #[UF]/\Q v H2
noncomputable def zq9 (td ty tv:TE):TS:=fun D σ H=>tv σ H fun v H1=>td σ H1 fun x H2=>ty σ H2 fun y H3=>∃ a H4,x = .ref a/\zk8 H3 a y v H4/\D.nx σ H4
section
variable {X:Cx} {o i e value:Expr} {pos pos' rK:Pos} {td ty tv:TE}
theorem zj4 (hu:X.A.units+1 < cLine) (ho:PE X o td) (hi:PE X i ty) (hs:zq7 i):PE X #[US] (zq8 td ty):=by
 intro oC s σ H Q I h;refine zom PySem.F.slot_dict_getitem.lookup hs (thn #[RT] fun u s1 ⟨x,H1,I1,rx,q1⟩=>thn (hi oC s1 σ H1 _ I1 q1) fun iv s2 ⟨y,H2,I2,ry,a,v,ex,g,q2⟩=>?_);subst ex;obtain rfl:u=bL a:=rx;exact⟨zib I2 g,zk9 hu I2 g ry fun w' s3 I3 wW=>⟨v,H2,I3,wW,q2⟩⟩
theorem zg3 (hu:X.A.units+1 < cLine) (ho:PE X o td) (hi:PE X i ty) (hv:PE X value tv) (hs:swapsWith value (some (.Subscript o i pos')) pos.line X.env=pure false) :
  PS X (.Assign [.Subscript o i pos'] value pos) (zq9 td ty tv):=by
 intro oC s σ H D I h;refine wpAny_Assign_Subscript (thn (hv oC s σ H _ I h) fun r s1 ⟨v,H1,I1,rv,q1⟩=>thn (ho oC s1 σ H1 _ I1 q1) fun u s2 ⟨x,H2,I2,rx,q2⟩=>thn (hi oC s2 σ H2 _ I2 q2) fun iv s3 ⟨y,H3,I3,ry,a,H4,ex,g,q3⟩=>?_) hs;subst ex;obtain rfl:u=bL a:=rx;exact zla hu I3 g ry rv fun s4 I4=>⟨σ,H4,I4,q3⟩
end
theorem zmD (h:Heap) (hb:sysModules < h.objs.size):zak P w H (h.push { cls:=.type "dict",data:=.dict #[] }) h.objs.size (.dK []) :=
 ⟨bX _,beq_eq_false_iff_ne.mpr (dY (bU hb)),[],.nil,Heap.DictOf.new h⟩
theorem zic (h:Heap) (hb:sysModules < h.objs.size):zak P w H (h.push { cls:=.type "dict",data:=.dict #[] }) h.objs.size (.dT []) :=
 ⟨bX _,beq_eq_false_iff_ne.mpr (dY (bU hb)),[],.nil,_,#[],0,aZ _ rfl,⟨rfl,rfl,rfl⟩,rfl,rfl,nV⟩
noncomputable def zqe:TE:=fun _ H Q=>∀ p,H p=none->Q (.ref p) (oG H p (.dK []))
noncomputable def zqf:TE:=fun _ H Q=>∀ p,H p=none->Q (.ref p) (oG H p (.dT []))
section
variable {X:Cx} {pos:Pos}
theorem zmE:PE X (.Dict [] [] pos) zqe:=fun oC s σ H Q I h =>
 wpAny_Dict_empty ⟨.ref s.heap.objs.size,_,I.laid (a:=s.heap.objs.size) (o:=.dK []) (t':=s.toks) #[VL] (aG _) (zmD s.heap I.big),rfl,h _ #[Tl]⟩
theorem zid:PE X (.Dict [] [] pos) zqf:=fun oC s σ H Q I h =>
 wpAny_Dict_empty ⟨.ref s.heap.objs.size,_,I.laid (a:=s.heap.objs.size) (o:=.dT []) (t':=s.toks) #[VL] (aG _) (zic s.heap I.big),rfl,h _ #[Tl]⟩
end
structure M2 (X:Cx) (o:Expr) (m:Str) (apos:Pos) (e f:Expr) (pd:Pos):Prop where
 base:attributeBase o m X.env #[Ub]=eval o X.env
 few:((backTo pd (starEach [e,f] X.env)).all (fun x=>!x.1) && (backToKw pd (keywordEach [] X.env)).all (fun x=>x.1.isSome)
  && decide (([e,f]:List Expr).length+([]:List Keyword).length+(if ([]:List Keyword).isEmpty then 0 else 1) < 30))=true
 line:(apos.endLine == pd.line)=true
 trees:backTo pd (starEach [e,f] X.env) = [#[Go],(false,eval f X.env)]
noncomputable def IsD (H:Hp) (a:Addr):Prop:=(∃ kvs,Rd H a #[Tq])\/∃ kvs,Rd H a #[QZ]
theorem zmF {σ:St} {a:Addr} (I:Inv X oC σ H s) (d:IsD H a) :
  s.TypeIs #[QD] "dict"/\(∀ b,bL a = .ref b->∃ ob,s.heap.get? b=some ob/\ob.dict=none)/\(a == sysModules)=false:=by
 rcases d with ⟨kvs,e⟩ | ⟨kvs,e⟩
 ·obtain⟨_,hd,vs,_,dd⟩:=zh9 I.hok e;refine⟨dd.typeIs,fun b q=>?_,hd⟩;cases q;obtain⟨ob,_,_,h1,h2,_⟩:=dd;exact⟨ob,h1,h2.2.1⟩
 ·obtain⟨_,hd,xs,_,dd⟩:=zia I.hok e;refine⟨dd.typeIs,fun b q=>?_,hd⟩;cases q;obtain⟨ob,_,_,h1,h2,_⟩:=dd;exact⟨ob,h1,h2.2.1⟩
section
variable {X:Cx} {oC:TC} {σ:St} {H:Hp} {s:Shared} {a:Addr} {y d:V} {u r:Value} {o:Option V} {A:Around} {E:TB}
theorem zqg {Q:TB} (hu:A.units+1 < cLine) (I:Inv X oC σ H s) (g:zeM H a y o) (ry:RelV y u) (rd:RelV d r) (h:∀ w' s',Inv X oC σ H s'->RelV (o.getD d) w'->Q w' s') :
  wpAny #[or] A (call (.builtin "dict.get") [.ref a,u,r]) Q E s:=by
 rcases g with ⟨kvs,k,e,ey,l⟩ | ⟨kvs,k,b,e,ey,eb,l⟩
 ·subst ey;obtain⟨z,hd,vs,rel,dd⟩:=zh9 I.hok e;refine mH iZ dd.typeIs kO (kq _ _ _) (meets_dict_get_default #[Uu] a (zj3 ry) hd r) ⟨_,dd.mapOf,h _ _ (I.tok _) ?_⟩;rw [l];exact (rel.val k).getD rd
 ·subst ey;cases (show u=bL b from ry);obtain⟨z,hd,xs,rel,dd⟩:=zia I.hok e;refine mH iZ dd.typeIs kO (kq _ _ _) (meetsH_dict_get_default (tupleKind #[Uu]) a b hd r) ⟨ir hu,k,xs,zfw I.hok eb,dd,h _ _ (I.tok _) ?_⟩;rw [l];exact (rel.val k).getD rd
end
noncomputable def zqh (td ty tx:TE):TE:=fun σ H Q=>td σ H fun x H1=>∃ a,x = .ref a/\IsD H1 a/\ty σ H1 fun y H2=>tx σ H2 fun z H3=>∃ o,zeM H3 a y o/\Q (o.getD z) H3
section
variable {X:Cx} {o e f:Expr} {apos pd:Pos} {td ty tx:TE}
theorem zfx (hu:X.A.units+1 < cLine) (ho:PE X o td) (he:PE X e ty) (hf:PE X f tx) (m:M2 X o "get" apos e f pd):PE X (.Call (.Attribute o "get" apos) [e,f] [] pd) (zqh td ty tx):=by
 intro oC s σ H Q I h;refine wpAny_Call_method m.base m.few m.line kr iZ PySem.F.type_dict_get (thn #[RT] fun u s1 ⟨x,H1,I1,rx,a,ex,d,q1⟩=>?_);subst ex;obtain rfl:u=bL a:=rx;obtain⟨t1,t2,_⟩:=zmF I1 d;refine⟨t1,t2,?_⟩;rw [m.trees];refine iQ rfl (je (fZ (thn (he oC s1 σ H1 _ I1 q1) fun iv s2 ⟨y,H2,I2,ry,q2⟩ =>
  fZ (thn (hf oC s2 σ H2 _ I2 q2) fun fv s3 ⟨z,H3,I3,rz,ov,g,q3⟩=>gO ?_))))
 exact zqg hu I3 g ry rz fun w' s4 I4 wW=>⟨_,H3,I4,wW,q3⟩
end
theorem zie:∀ {ns:TD} {us:TH},zQ #[Db] us->∃ ps:List (Int×Tok),us=ps.map (fun p=>jB p.1 p.2)/\ps.map (·.1)=ns
 | [],_,r=>by cases r; exact⟨[],rfl,rfl⟩
 | n :: ns,_,r=>by
  cases r with
  | cons r1 r2 =>
   obtain⟨ps,e1,e2⟩:=zie r2;obtain⟨t,rfl⟩:=r1;exact⟨(n,t) :: ps,by rw [e1]; rfl,by rw [<- e2]; rfl⟩
theorem zbp {X:Cx} (hc:X.calm=true):zbx X (.builtin "sum") (fun xs H Q=>∃ (p:Addr) (ns:TD),xs = [.ref p]/\oE X.K H p #[Db]/\Q (.int ns.sum) H):=by
 intro oC s σ H xs us Q I r h;obtain⟨p,ns,rfl,hq,q⟩:=h;obtain⟨u,rfl,rx⟩:=vals1 r;cases rx;obtain⟨oF,rv,pl,hz⟩:=I.list hq;obtain⟨ps,e1,e2⟩:=zie rv;subst e1 e2;have hl:s.heap.IsList p (intItems ps.toArray):=by
  have:=pl.isList;simpa [intItems] using this
 refine sum_intListG (xs:=ps.toArray) (by simp [I.ok.hd hc]) hl fun h' tk t' kk=>⟨.int (ps.map (·.1)).sum,H,I.kept kk,⟨t',?_⟩,q⟩
 rw [preSum_eq,bO #[M]]
end L2
namespace PySem
open PyProof.Rows
end PySem
namespace L2
open PySem PySem.Spec PyProof.Rows
variable {ns:TD} {us:TH}
theorem zon:∀ {kvs:List (Key×V)} {vs:List (Key×Value)} {ns:TD},KV kvs vs->kvs.map (·.2)=ns.map V.int->IntsAre (vs.map (·.2)) ns:=by
 intro kvs vs ns r e;refine intsAre_of ?_;rw [<- e];clear e;induction r with
 | nil=>exact .nil
 | cons h1 h2 ih=>exact .cons h1.2 ih
theorem zg4 (h:IntsAre us ns):zQ #[Db] us:=by
 induction h with
 | nil=>exact .nil
 | cons ih=>exact .cons ⟨_,rfl⟩ (by assumption)
end L2
namespace My
open PySem L2 PyProof.Rows
end My
end
section
namespace Srt
open PySem PyProof.Rows
variable {arr:Array Keyed} {j oS:Nat} {st₀:SortSt}
noncomputable def Vk (val:Keyed->Int) (xs:Array Keyed) (i:Nat):Int:=match xs[i]? with
 | some p=>val p
 | none=>0
theorem zas {val:Keyed->Int} {xs ys:Array Keyed} {i:Nat} (h:xs[i]? = ys[j]?):Vk val xs i=Vk val ys j:=by unfold Vk; rw [h]
theorem zag {val:Keyed->Int} {xs:Array Keyed} {i:Nat} {p:Keyed} (h:xs[i]? = some p):Vk val xs i=val p:=by unfold Vk; rw [h]
noncomputable def SIn (val:Keyed->Int) (xs:Array Keyed) (lo hi:Nat):Prop:=∀ i j,lo<=i->i<=j->j < hi->Vk val xs i<=Vk val xs j
noncomputable def DIn (val:Keyed->Int) (xs:Array Keyed) (lo hi:Nat):Prop:=∀ i j,lo<=i->i<=j->j < hi->Vk val xs j<=Vk val xs i
structure SB (κ:SortKind) (a₀:Array Keyed) (st:SortSt):Prop where
 perm:#[wp].Perm a₀
 kind:kindOf st=κ
 failed:failedOf st=none
theorem SB.size {κ:SortKind} {a₀:Array Keyed} {st:SortSt} (h:SB κ a₀ st):#[wp].size=a₀.size:=h.perm.size_eq
theorem SB.mem {κ:SortKind} {a₀:Array Keyed} {st:SortSt} (h:SB κ a₀ st) {i:Nat} (hi:i < a₀.size):∃ p,#[wp][i]? = some p/\p∈a₀.toList:=by
 (have qj:i < #[wp].size:=by rw [h.size]; exact hi)
 exact⟨#[wp][i],getElem?_pos _ i qj,(h9.mp h.perm).mem_iff.mp #[M]⟩
structure SF (κ:SortKind) (a₀:Array Keyed) (lo:Nat) (st₀ st:SortSt):Prop where
 b:SB κ a₀ st
 low:∀ k,k < lo->#[wp][k]? = (arrOf st₀)[k]?
 pend:pendingOf st=pendingOf st₀
theorem SF.refl {κ:SortKind} {a₀:Array Keyed} {lo:Nat} {st:SortSt} (h:SB κ a₀ st):SF κ a₀ lo st st:=⟨h,fun _ _=>rfl,rfl⟩
theorem SF.setArr {κ:SortKind} {a₀:Array Keyed} {lo:Nat} {st₀ st:SortSt} (h:SF κ a₀ lo st₀ st) {xs:Array Keyed} (hp:xs.Perm #[wp]) (hl:∀ k,k < lo->xs[k]? = #[wp][k]?):SF κ a₀ lo st₀ (setArr st xs) :=
 ⟨⟨hp.trans h.b.perm,h.b.kind,h.b.failed⟩,fun k hk=>(hl k hk).trans (h.low k hk),h.pend⟩
section
variable {prog:Program} {w:World} {A:Around} {E:TB} {s:Shared} {a₀:Array Keyed} {κ:SortKind} {val:Keyed->Int}
noncomputable def Cmp (prog:Program) (w:World) (A:Around) (s:Shared) (κ:SortKind) (val:Keyed->Int) (a₀:Array Keyed):Prop :=
 ∀ x y,x∈a₀.toList->y∈a₀.toList->∀ (Q:Bool->Shared->Prop) (E:TB),Q (decide (val x < val y)) s->wpAny #[ul] A (keyLt' κ x.1 y.1) Q E s
theorem zmG {st:SortSt} {x y:Keyed} {Q:Option Bool->SortSt->Prop} (hC:Cmp prog w A s κ val a₀) (hk:kindOf st=κ) (hx:x∈a₀.toList) (hy:y∈a₀.toList) (h:Q (some (decide (val x < val y))) st) :
  wpS #[ul] A E s (lt' x y) Q st:=by
 rw [lt'_eq];refine aR (iH ?_);rw [hk];refine aR (jx (eY (hC x y hx hy _ _ #[QH])));exact aT h
theorem zac {st:SortSt} {i:Nat} {p:Keyed} {Q:Keyed->SortSt->Prop} (hi:arr[i]? = some p) (h:Q p st):wpS #[ul] A E s (elem' arr i) Q st:=by
 rw [elem'_eq,hi];exact aT h
theorem zfy {st:SortSt} {i:Nat} {Q:Option Bool->SortSt->Prop} (hC:Cmp prog w A s κ val a₀) (hB:SB κ a₀ st) (hi:i < a₀.size) (hj:j < a₀.size) (h:Q (some (decide (Vk val #[wp] i < Vk val #[wp] j))) st) :
  (wpS #[ul] A E s (ltAt' i j) Q st):=by
 obtain⟨x,ex,mx⟩:=hB.mem hi;obtain⟨y,ey,my⟩:=hB.mem hj;rw [ltAt'_eq];refine aR (iH ?_)
 (show wpS _ _ _ _ (do let x <- elem' #[wp] i; let y <- elem' #[wp] j; lt' x y) Q st)
 refine aR (zac ex (aR (zac ey (zmG hC hB.kind mx my ?_))));rw [zag ex,zag ey] at h;exact h
theorem zj5 {st:SortSt} {i:Nat} {Q:Unit->SortSt->Prop} (h:Q () (setArr st (mirror #[wp] i j ((j - i) / 2)))) :
  (wpS #[ul] A E s (reverseSlice' i j) Q st):=by
 ((rw [reverseSlice'_eq]; exact gZ h))
theorem zfz {xs:Array Keyed} {i:Nat} (hj:j<=xs.size) (k:Nat):Vk val (mirror xs i j ((j - i) / 2)) k=if i<=k/\k < j then Vk val xs (i+j - 1 - k) else Vk val xs k:=by
 (have e:=lY (i:=i) hj k)
 by_cases h1:i<=k/\k < j
 ·rw [if_pos h1] at e |-; exact zas e
 ·rw [if_neg h1] at e |-; exact zas e
theorem zbN {xs:Array Keyed} {i:Nat} (hj:j<=xs.size) (heq:∀ k,i<=k->k < j->Vk val xs k=Vk val xs (j - 1)) (k:Nat):Vk val (mirror xs i j ((j - i) / 2)) k=Vk val xs k:=by
 rw [zfz hj];split
 ·(rw [heq _ #[O] #[O],heq k #[O] #[O]])
 ·rfl
theorem zcI {xs:Array Keyed} {lo i:Nat} (hj:j<=xs.size) (hi:lo<=i):∀ k,k < lo->(mirror xs i j ((j - i) / 2))[k]? = xs[k]?:=fun k hk=>by
 rw [lY hj,if_neg #[O]]
theorem zjb {xs:Array Keyed} {lo src d:Nat} (hs:src < xs.size) (hd:d<=src) (hl:lo<=src - d):∀ k,k < lo->(bubble xs src d)[k]? = xs[k]?:=fun k hk=>by
 rw [getElem?_bubble hs d hd,if_neg #[O],if_neg #[O]]
noncomputable def zmH (lo a oS:Nat):StateT SortSt Sem AscSt :=
 forIn [a:oS] ((none,a):AscSt) fun _ st=>do
  let x <- ltAt' (lo+st.snd) (lo+st.snd - 1)
  match x with
  | some tW=>if tW=true then pure (iI (none,st.snd)) else pure (eG (none,st.snd+1))
  | _=>pure (iI (some none,st.snd))
noncomputable def zif (lo n oS:Nat):StateT SortSt Sem #[P3]:=do
 reverseSlice' lo (lo+n)
 let st <- zmH lo n oS
 match st.fst with
 | some r=>pure r
 | none=>pure (some st.snd)
noncomputable def zj6 (lo n oS:Nat):StateT SortSt Sem DescSt :=
 forIn [n:oS] ((none,n,0):DescSt) fun _ st=>do
  let x <- ltAt' #[Vn] (lo+st.snd.fst - 1)
  match x with
  | some tW =>
   if tW=true then
    if st.snd.snd > 0 then do
     reverseSlice' (lo+st.snd.fst - (st.snd.snd+1)) #[Vn]
     pure (eG (none,st.snd.fst+1,0))
    else pure (eG (none,st.snd.fst+1,0))
   else do
    let x <- ltAt' (lo+st.snd.fst - 1) #[Vn]
    match x with
    | some Cz =>
     if Cz=true then pure (iI (none,st.snd.fst,st.snd.snd))
     else pure (eG (none,st.snd.fst+1,st.snd.snd+1))
    | _=>pure #[Vh]
  | _=>pure #[Vh]
noncomputable def zig (lo n oS:Nat):StateT SortSt Sem #[P3]:=do
 liftM (rule "list.sort.descending-run"); let st <- zj6 lo (n+1) oS
 match st.fst with
 | some r=>pure r
 | none =>
  if st.snd.snd > 0 then do
   reverseSlice' (lo+st.snd.fst - (st.snd.snd+1)) #[Vn]
   zif lo st.snd.fst oS
  else zif lo st.snd.fst oS
theorem zg5 (lo oS:Nat):countRun' lo oS=(do
  let st <- zmH lo 1 oS
  match st.fst with
  | some r=>pure r
  | none =>
   if (st.snd == oS)=true then pure (some st.snd)
   else if st.snd > 1 then do
    let x <- ltAt' lo (lo+st.snd - 1)
    match x with
    | some Fe=>if Fe=true then pure (some st.snd) else do
      reverseSlice' lo (lo+st.snd)
      zig lo st.snd oS
    | _=>pure none
   else zig lo st.snd oS):=by
 rw [countRun'_eq];unfold zig zif zj6 zmH;dsimp only;refine congrArg (bind _) ?_;funext c;obtain⟨r,n⟩:=c;cases r with
 | some r=>rfl
 | none =>
  dsimp only;split
  ·rfl
  ·split
   ·congr 1;funext x;cases x with
    | none=>rfl
    | some Fe =>
     dsimp only;split
     ·rfl
     ·congr 1;funext _r;congr 1; funext _u; congr 1; congr 1; funext s2; obtain⟨r2,n2,q2⟩:=s2;cases r2 with
      | some r2=>rfl
      | none =>
       dsimp only;split
       ·congr 1; funext _v; congr 1; funext _w; congr 1; funext s3; obtain⟨r3,n3⟩:=s3; cases r3 <;> rfl
       ·congr 1; funext _w; congr 1; funext s3; obtain⟨r3,n3⟩:=s3; cases r3 <;> rfl
   ·congr 1; funext _u; congr 1; congr 1; funext s2; obtain⟨r2,n2,q2⟩:=s2;cases r2 with
    | some r2=>rfl
    | none =>
     dsimp only;split
     ·congr 1; funext _v; congr 1; funext _w; congr 1; funext s3; obtain⟨r3,n3⟩:=s3; cases r3 <;> rfl
     ·congr 1; funext _w; congr 1; funext s3; obtain⟨r3,n3⟩:=s3; cases r3 <;> rfl
theorem zpm {st:SortSt} {lo a:Nat} {Q:AscSt->SortSt->Prop} (hC:Cmp prog w A s κ val a₀) (hn:lo+oS<=a₀.size) (ha:1<=a) (han:a<=oS) (hB:SF κ a₀ lo st₀ st)
  (hs:SIn val #[wp] lo (lo+a))
  (h:∀ n,a<=n->n<=oS->SIn val #[wp] lo (lo+n)->(n=oS\/Vk val #[wp] (lo+n) < Vk val #[wp] (lo+n - 1))->Q (none,n) st) :
  wpS #[ul] A E s (zmH lo a oS) Q st:=by
 unfold zmH;refine eS (I:=fun x c oI=>oI=st/\c=(none,x)/\SIn val #[wp] lo (lo+x)) ?step ?fin ⟨rfl,rfl,hs⟩
 case fin =>
  rintro c oI ⟨rfl,rfl,pU⟩
  (rw [show max a oS=oS by lia] at pU |-)
  (exact h oS han (aG _) pU #[Q3])
 case step =>
  (rintro x c oI Ff G1 ⟨rfl,rfl,pU⟩)
  dsimp only;refine aR (zfy hC hB.b #[O] #[O] ?_);by_cases pO:Vk val #[BT] (lo+x) < Vk val #[BT] (lo+x - 1)
  ·(simp only [pO,decide_true,if_true])
   (exact aT (h x Ff #[O] pU (.inr pO)))
  ·(simp only [pO,decide_false,cF,if_false])
   refine aT ⟨rfl,rfl,fun i j uN rZ hj=>?_⟩;by_cases Fg:j < lo+x
   ·exact pU i j uN rZ Fg
   ·have qH:j=lo+x:=by lia
    subst qH;by_cases qj:i=lo+x
    ·(subst qj; exact dv _)
    ·exact cX (pU i (lo+x - 1) uN #[O] #[O]) (Int.not_lt.mp pO)
theorem zmI {st:SortSt} {lo n:Nat} {Q:Option Nat->SortSt->Prop} (hC:Cmp prog w A s κ val a₀) (hn:lo+oS<=a₀.size) (h1:1<=n) (AY:n<=oS) (hB:SF κ a₀ lo st₀ st)
  (hs:DIn val #[wp] lo (lo+n)) (h:∀ m oI,SF κ a₀ lo st₀ oI->1<=m->m<=oS->SIn val #[BT] lo (lo+m)->Q (some m) oI) :
  wpS #[ul] A E s (zif lo n oS) Q st:=by
 unfold zif;have hsz:lo+n<=#[wp].size:=by rw [hB.b.size]; lia
 refine aR (zj5 ?_);have qC:=hB.setArr (kP #[wp] lo (lo+n) ((lo+n - lo) / 2)) (zcI hsz (aG _));refine aR (zpm hC hn h1 AY qC ?_ fun m vK uy IZ _=>aT (h m _ qC #[O] uy IZ));intro i j uN rZ hj;show Vk val (mirror #[wp] lo (lo+n) ((lo+n - lo) / 2)) i<=Vk val (mirror #[wp] lo (lo+n) ((lo+n - lo) / 2)) j;rw [zfz hsz,zfz hsz,if_pos #[O],if_pos #[O]];exact hs _ _ #[O] #[O] #[O]
theorem zqi {st:SortSt} {lo n:Nat} {Q:DescSt->SortSt->Prop} (hC:Cmp prog w A s κ val a₀) (hn:lo+oS<=a₀.size) (h1:1<=n) (AY:n<=oS) (hB:SF κ a₀ lo st₀ st)
  (hs:DIn val #[wp] lo (lo+n))
  (h:∀ m vL oI,SF κ a₀ lo st₀ oI->n<=m->m<=oS->DIn val #[BT] lo (lo+m)->vL+1<=m->(∀ i,lo+m - (vL+1)<=i->i < lo+m->Vk val #[BT] i=Vk val #[BT] (lo+m - 1))->Q (none,m,vL) oI) :
  wpS #[ul] A E s (zj6 lo n oS) Q st:=by
 unfold zj6;refine eS (I:=fun x c oI=>∃ vL,c=(none,x,vL)/\SF κ a₀ lo st₀ oI/\DIn val #[BT] lo (lo+x)/\vL+1<=x /\
   (∀ i,lo+x - (vL+1)<=i->i < lo+x->Vk val #[BT] i=Vk val #[BT] (lo+x - 1))) ?step ?fin ⟨0,rfl,hB,hs,#[O],fun i h1 h2=>by congr 1; lia⟩
 case fin =>
  (rintro c oI ⟨vL,rfl,qC,pU,hq,he⟩)
  (rw [show max n oS=oS by lia] at pU hq he |-)
  (exact h oS vL oI qC AY (aG _) pU hq he)
 case step =>
  (rintro x c oI Ff G1 ⟨vL,rfl,qC,pU,hq,he⟩)
  dsimp only;have hsz:lo+x<=#[BT].size:=by rw [qC.b.size]; lia
  refine aR (zfy hC qC.b #[O] #[O] ?_);by_cases pO:Vk val #[BT] (lo+x) < Vk val #[BT] (lo+x - 1)
  ·(simp only [pO,decide_true,if_true])
   have step1:∀ xs:Array Keyed,(∀ k,Vk val xs k=Vk val #[BT] k)->DIn val xs lo (lo+(x+1)):=by
    intro xs hk i j uN rZ hj;rw [hk,hk];by_cases Fg:j < lo+x
    ·exact pU i j uN rZ Fg
    ·have qH:j=lo+x:=by lia
     subst qH;by_cases qj:i=lo+x
     ·(subst qj; exact dv _)
     ·exact cX (gT pO) (pU i (lo+x - 1) uN #[O] #[O])
   by_cases yx:vL > 0
   ·rw [if_pos yx];refine aR (zj5 (aT ⟨0,rfl,qC.setArr (kP _ _ _ _) (zcI hsz #[O]),step1 _ (zbN hsz he),#[O],fun i h1 h2=>by congr 1; lia⟩))
   ·rw [if_neg yx]
    (exact aT ⟨0,rfl,qC,step1 _ (fun _=>rfl),#[O],fun i h1 h2=>by congr 1; lia⟩)
  ·(simp only [pO,decide_false,cF,if_false])
   refine aR (zfy hC qC.b #[O] #[O] ?_);by_cases wD:Vk val #[BT] (lo+x - 1) < Vk val #[BT] (lo+x)
   ·(simp only [wD,decide_true,if_true])
    (exact aT (h x vL oI qC Ff #[O] pU hq he))
   ·(simp only [wD,decide_false,cF,if_false])
    have Fh:Vk val #[BT] (lo+x)=Vk val #[BT] (lo+x - 1):=by lia
    refine aT ⟨vL+1,rfl,qC,fun i j uN rZ hj=>?_,#[O],fun i h1 h2=>?_⟩
    ·by_cases Fg:j < lo+x
     ·exact pU i j uN rZ Fg
     ·have qH:j=lo+x:=by lia
      subst qH;by_cases qj:i=lo+x
      ·(subst qj; exact dv _)
      ·rw [Fh]; exact pU i (lo+x - 1) uN #[O] #[O]
    ·rw [show lo+(x+1) - 1=lo+x by lia];by_cases DZ:i=lo+x
     ·subst DZ; rfl
     ·(rw [Fh]; exact he i #[O] #[O])
theorem zj7 {st:SortSt} {lo n:Nat} {Q:Option Nat->SortSt->Prop} (hC:Cmp prog w A s κ val a₀) (hn:lo+oS<=a₀.size) (AY:n+1<=oS) (hB:SF κ a₀ lo st₀ st)
  (hs:DIn val #[wp] lo (lo+(n+1))) (h:∀ m oI,SF κ a₀ lo st₀ oI->1<=m->m<=oS->SIn val #[BT] lo (lo+m)->Q (some m) oI) :
  wpS #[ul] A E s (zig lo n oS) Q st:=by
 unfold zig
 (refine aR #[Tb])
 refine aR (zqi hC hn #[O] AY hB hs fun m vL oI qC vK uy pU hq he=>?_);dsimp only;have hsz:lo+m<=#[BT].size:=by rw [qC.b.size]; lia
 by_cases yx:vL > 0
 ·rw [if_pos yx];refine aR (zj5 (zmI hC hn #[O] uy (qC.setArr (kP _ _ _ _) (zcI hsz #[O])) ?_ h));intro i j uN rZ hj;show Vk val (mirror #[BT] _ _ _) j<=Vk val (mirror #[BT] _ _ _) i;rw [zbN hsz he,zbN hsz he];exact pU i j uN rZ hj
 ·rw [if_neg yx];exact zmI hC hn #[O] uy qC pU h
theorem zoo {st:SortSt} {lo:Nat} {Q:Option Nat->SortSt->Prop} (hC:Cmp prog w A s κ val a₀) (hn:lo+oS<=a₀.size) (h1:1<=oS) (hB:SF κ a₀ lo st₀ st)
  (h:∀ m oI,SF κ a₀ lo st₀ oI->1<=m->m<=oS->SIn val #[BT] lo (lo+m)->Q (some m) oI) :
  wpS #[ul] A E s (countRun' lo oS) Q st:=by
 rw [zg5];refine aR (zpm hC hn (aG 1) h1 hB (fun i j uN rZ hj=>(by
   have e:i=j:=by lia
   rw [e];exact dv _)) fun n vw yb CA hor=>?_)
 dsimp only;by_cases AY:n=oS
 ·(rw [if_pos #[U,AY]])
  (exact aT (h n st hB vw yb CA))
 ·(rw [if_neg #[U,AY]])
  have oY:Vk val #[wp] (lo+n) < Vk val #[wp] (lo+n - 1):=hor.resolve_left AY;by_cases BR:n > 1
  ·rw [if_pos BR];refine aR (zfy hC hB.b #[O] #[O] ?_);by_cases BS:Vk val #[wp] lo < Vk val #[wp] (lo+n - 1)
   ·(simp only [BS,decide_true,if_true])
    (exact aT (h n st hB vw yb CA))
   ·(simp only [BS,decide_false,cF,if_false])
    have hsz:lo+n<=#[wp].size:=by rw [hB.b.size]; lia
    have sR:∀ k,lo<=k->k < lo+n->Vk val #[wp] k=Vk val #[wp] (lo+n - 1):=by
     intro k uO hk;have a1:=CA lo k (aG _) uO hk;have a2:=CA k (lo+n - 1) uO #[O] #[O];lia
    refine aR (zj5 (zj7 hC hn #[O] (hB.setArr (kP _ _ _ _) (zcI hsz (aG _))) ?_ h));intro i j uN rZ hj;show Vk val (mirror #[wp] _ _ _) j<=Vk val (mirror #[wp] _ _ _) i;rw [zbN hsz sR,zbN hsz sR];by_cases hjn:j < lo+n
    ·(rw [sR i #[O] #[O],sR j #[O] hjn]; exact dv _)
    ·have qH:j=lo+n:=by lia
     subst qH;by_cases qj:i=lo+n
     ·(subst qj; exact dv _)
     ·(rw [sR i #[O] #[O]]; exact gT oY)
  ·rw [if_neg BR];have Ja:n=1:=by lia
   subst Ja;refine zj7 hC hn #[O] hB ?_ h;intro i j uN rZ hj;by_cases qj:i=j
   ·(subst qj; exact dv _)
   ·have CB:i=lo:=by lia
    have CC:j=lo+1:=by lia
    subst CB; subst CC;exact gT oY
theorem zih {xs:Array Keyed} {src d:Nat} (hs:src < xs.size) (hd:d<=src) (k:Nat) :
  Vk val (bubble xs src d) k=if k=src - d then Vk val xs src else if src - d < k/\k<=src then Vk val xs (k - 1) else Vk val xs k:=by
 (have e:=getElem?_bubble hs d hd k)
 by_cases h1:k=src - d
 ·rw [if_pos h1] at e |-; exact zas e
 ·rw [if_neg h1] at e |-
  (by_cases h2:src - d < k/\k<=src)
  ·rw [if_pos h2] at e |-; exact zas e
  ·rw [if_neg h2] at e |-; exact zas e
theorem zra {st:SortSt} {lo n ok:Nat} {Q:Bool->SortSt->Prop} (hC:Cmp prog w A s κ val a₀) (hn:lo+n<=a₀.size) (hok:ok<=n) (hB:SF κ a₀ lo st₀ st) (hs:SIn val #[wp] lo (lo+ok))
  (h:∀ oI,SF κ a₀ lo st₀ oI->SIn val #[BT] lo (lo+n)->Q true oI):wpS #[ul] A E s (binarySort' lo n ok) Q st:=by
 rw [binarySort'_eq];refine aR (fT (eS (I:=fun k c oI=>c=(none,())/\SF κ a₀ lo st₀ oI/\SIn val #[BT] lo (lo+min k n))
  (Q:=fun c oI=>c=(none,())/\SF κ a₀ lo st₀ oI/\SIn val #[BT] lo (lo+n)) ?step ?fin ?init) ?post)
 case post =>
  rintro c oI ⟨rfl,qC,pU⟩
  (exact aT (h oI qC pU))
 case init =>
  refine⟨rfl,hB,fun i j uN rZ hj=>?_⟩;by_cases h1:ok=0
  ·have e:i=j:=by lia
   rw [e]; exact dv _
  ·exact hs i j uN rZ #[O]
 case fin =>
  rintro c oI ⟨hc,qC,pU⟩;refine⟨hc,qC,?_⟩
  (rwa [show min (max (max ok 1) n) n=n by lia] at pU)
 case step =>
  (rintro k c oI hak G2 ⟨rfl,qC,pU⟩)
  (rw [show min k n=k by lia] at pU)
  have hk:lo+k < a₀.size:=#[O]; refine aR (fT (eS (I:=fun x c qe=>qe=oI/\∃ l r,c=(none,l,r)/\l<=r/\r<=k/\r - l<=k - x /\
    (∀ i,i < l->Vk val #[BT] (lo+i)<=Vk val #[BT] (lo+k))/\(∀ i,r<=i->i < k->Vk val #[BT] (lo+k) < Vk val #[BT] (lo+i)))
   (Q:=fun c qe=>qe=oI/\∃ l r,c=(none,l,r)/\l<=k/\(∀ i,i < l->Vk val #[BT] (lo+i)<=Vk val #[BT] (lo+k))/\(∀ i,l<=i->i < k->Vk val #[BT] (lo+k) < Vk val #[BT] (lo+i))) ?istep ?ifin ?iinit) ?ipost)
  case iinit=>(exact⟨rfl,0,k,rfl,#[O],#[O],#[O],fun i hi=>by lia,fun i h1 h2=>by lia⟩)
  case ifin =>
   (rintro c qe ⟨rfl,l,r,rfl,D4,Jb,hm,sM,AZ⟩)
   have:l=r:=by lia
   subst this
   (exact⟨rfl,l,l,rfl,Jb,sM,AZ⟩)
  case istep =>
   (rintro x c qe _ hxk ⟨rfl,l,r,rfl,D4,Jb,hm,sM,AZ⟩)
   dsimp only;by_cases p9:l>=r
   ·rw [if_pos p9];have:l=r:=by lia
    subst this
    (exact aT ⟨rfl,l,l,rfl,Jb,sM,AZ⟩)
   ·rw [if_neg p9];refine aR (zfy hC qC.b hk #[O] ?_);by_cases pO:Vk val #[T8] (lo+k) < Vk val #[T8] (lo+(l+r) / 2)
    ·(simp only [pO,decide_true,if_true])
     (refine aT ⟨rfl,l,(l+r) / 2,rfl,#[O],#[O],#[O],sM,fun i h1 h2=>?_⟩)
     exact Int.lt_of_lt_of_le pO (pU _ _ #[O] #[O] #[O])
    ·(simp only [pO,decide_false,cF,if_false])
     (refine aT ⟨rfl,(l+r) / 2+1,r,rfl,#[O],#[O],#[O],fun i h1=>?_,AZ⟩)
     exact cX (pU (lo+i) (lo+(l+r) / 2) #[O] #[O] #[O]) (Int.not_lt.mp pO)
  case ipost =>
   (rintro c qe ⟨rfl,l,r,rfl,hlk,sM,AZ⟩)
   show wpS _ _ _ _ (do moveDown' (lo+k) (lo+l); pure (eG (none,()))) _ _;rw [moveDown'_eq];have Jc:lo+k < #[T8].size:=by rw [qC.b.size]; exact hk
   refine aR (gZ (aT ⟨rfl,qC.setArr (bubble_perm _ _ _) (zjb Jc #[O] #[O]),?_⟩))
   (rw [show min (k+1) n=k+1 by lia])
   intro i j uN rZ hj;show Vk val (bubble #[T8] (lo+k) (lo+k - (lo+l))) i<=Vk val (bubble #[T8] (lo+k) (lo+k - (lo+l))) j;rw [zih Jc #[O],zih Jc #[O],show lo+k - (lo+k - (lo+l))=lo+l by lia];have Jd:∀ i,lo<=i->i < lo+l->Vk val #[T8] i<=Vk val #[T8] (lo+k):=fun i h1 h2=>by
    have:=sM (i - lo) #[O]
    rwa [show lo+(i - lo)=i by lia] at this
   have Je:∀ i,lo+l<=i->i < lo+k->Vk val #[T8] (lo+k) < Vk val #[T8] i:=fun i h1 h2=>by
    have:=AZ (i - lo) #[O] #[O]
    rwa [show lo+(i - lo)=i by lia] at this
   repeat' split
   all_goals first
    | (exfalso; lia)
    | exact dv _
    | exact Jd _ #[O] #[O]
    | exact gT (Je _ #[O] #[O])
    | exact pU _ _ #[O] #[O] #[O]
end
end Srt
end
section
namespace Srt
open PySem PyProof.Rows
variable {A:Around} {M:Model} {arr:Array Keyed} {j:Nat} {key:Keyed} {s:Shared}
noncomputable def zop:Bool->Keyed->Array Keyed->Nat->Nat->Nat->StateT SortSt Sem #[P3]:=sortPriv% PySem.Builtin.gallop
noncomputable def zmJ:Array Keyed->Array Keyed->StateT SortSt Sem (Array Keyed):=sortPriv% PySem.Builtin.mergeLo
noncomputable def zmK:Array Keyed->Array Keyed->StateT SortSt Sem (Array Keyed):=sortPriv% PySem.Builtin.mergeHi
noncomputable def zds:Nat->StateT SortSt Sem Unit:=sortPriv% PySem.Builtin.setMinGallop
theorem zg6 {E:TB} {α:Type} {m:StateT SortSt Sem α} {Q:α->SortSt->Prop} {st:SortSt} (h:wpAny M A (m st) (fun r s'=>s'=s/\Q r.1 r.2) E s):wpS M A E s m Q st:=h
theorem zg7 {E:TB} {α:Type} {m:StateT SortSt Sem α} {Q:α->SortSt->Prop} {st:SortSt} (h:wpS M A E s m Q st):wpAny M A (m st) (fun r s'=>s'=s/\Q r.1 r.2) E s:=h
section
variable {prog:Program} {w:World} {A:Around} {E:TB} {s:Shared} {a₀:Array Keyed} {κ:SortKind} {val:Keyed->Int}
noncomputable def bB (val:Keyed->Int) (left:Bool) (key:Keyed) (arr:Array Keyed) (base i:Nat):Bool:=if left then decide (Vk val arr (base+i) < val key) else !decide (val key < Vk val arr (base+i))
theorem zdR {left:Bool} {base n i:Nat} (hs:SIn val arr base (base+n)) (rZ:i<=j) (hj:j < n) (h:bB val left key arr base j=true):bB val left key arr base i=true:=by
 have:=hs (base+i) (base+j) #[O] #[O] #[O];unfold bB at h |-;cases left <;> simp at h |- <;> lia
theorem zc3 {st:SortSt} {left:Bool} {base i:Nat} {Q:Option Bool->SortSt->Prop} {p:Keyed} (hC:Cmp prog w A s κ val a₀) (hk:kindOf st=κ) (qV:key∈a₀.toList) (he:arr[base+i]? = some p) (hp:p∈a₀.toList)
  (h:Q (some (bB val left key arr base i)) st):wpS #[ul] A E s (do
   let x <- elem' arr (base+i)
   if left then lt' x key else do
    let r <- lt' key x
    return r.map (!·)) Q st:=by
 refine aR (zac he ?_);unfold bB at h;rw [zag he] at h;cases left with
 | true=>exact zmG hC hk hp qV h
 | false=>exact aR (zmG hC hk qV hp (aT h))
abbrev zoq:=Option #[P3]×Nat×Nat
theorem zmL {st:SortSt} {left:Bool} {base n lo hi:Nat} {f:Nat->zoq->StateT SortSt Sem (ForInStep zoq)} (hs:SIn val arr base (base+n)) (hlh:lo<=hi) (Jf:hi<=n)
  (h1:∀ i,i < lo->bB val left key arr base i=true) (h2:∀ i,hi<=i->i < n->bB val left key arr base i=false)
  (hf:∀ (x l r:Nat) (R:ForInStep zoq->SortSt->Prop),r<=n->(l>=r->R (.done (none,l,r)) st)->(l < r->R (if bB val left key arr base (l+(r - l) / 2)=true then .yield (none,l+(r - l) / 2+1,r) else .yield (none,l,l+(r - l) / 2)) st)->wpS #[ul] A E s (f x (none,l,r)) R st) :
  wpS #[ul] A E s (forIn [0:n] ((none,lo,hi):zoq) f) (fun c oI=>oI=st/\∃ l,c=(none,l,l)/\l<=n/\(∀ i,i < l->bB val left key arr base i=true)/\(∀ i,l<=i->i < n->bB val left key arr base i=false)) st:=by
 refine eS (I:=fun x c oI=>oI=st/\∃ l r,c=(none,l,r)/\l<=r/\r<=n/\r - l<=n - x/\(∀ i,i < l->bB val left key arr base i=true)/\(∀ i,r<=i->i < n->bB val left key arr base i=false)) ?step ?fin ⟨rfl,lo,hi,rfl,hlh,Jf,#[O],h1,h2⟩
 case fin =>
  rintro c oI ⟨rfl,l,r,rfl,D4,BU,hm,a1,a2⟩;have:l=r:=by lia
  subst this;exact⟨rfl,l,rfl,BU,a1,a2⟩
 case step =>
  rintro x c oI _ G1 ⟨rfl,l,r,rfl,D4,BU,hm,a1,a2⟩;refine hf x l r _ BU #[V2] #[V3]
  ·have:l=r:=by lia
   subst this;exact⟨rfl,l,rfl,BU,a1,a2⟩
  ·cases hb:bB val left key arr base (l+(r - l) / 2) with
   | true =>
    rw [if_pos rfl];exact⟨rfl,l+(r - l) / 2+1,r,rfl,#[O],BU,#[O],fun i hi=>zdR hs #[O] #[O] hb,a2⟩
   | false =>
    rw [if_neg #[D]];refine⟨rfl,l,l+(r - l) / 2,rfl,#[O],#[O],#[O],a1,fun i hi rW=>?_⟩;cases e:bB val left key arr base i with
    | false=>rfl
    | true=>rw [zdR hs hi rW e] at hb; cases hb
theorem zbO {st:SortSt} {left:Bool} {base n hint:Nat} {Q:Option Nat->SortSt->Prop} (hC:Cmp prog w A s κ val a₀) (hk:kindOf st=κ) (qV:key∈a₀.toList)
  (ha:∀ i,i < n->∃ p,arr[base+i]? = some p/\p∈a₀.toList) (hs:SIn val arr base (base+n)) (hh:hint < n)
  (h:∀ k,k<=n->(∀ i,i < k->bB val left key arr base i=true)->(∀ i,k<=i->i < n->bB val left key arr base i=false)->Q (some k) st) :
  wpS #[ul] A E s (zop left key arr base n hint) Q st:=by
 refine zg6 ?_
 wp_delta
 wp_delta
 refine zg7 ?_;dsimp only;obtain⟨p,ep,mp⟩:=ha hint hh;refine aR #[Ro];dsimp only;have up:∀ {i j:Nat},i<=j->j < n->bB val left key arr base i=false->bB val left key arr base j=false:=fun {i j} rZ hj h=>by
  cases e:bB val left key arr base j with
  | false=>rfl
  | true=>rw [zdR hs rZ hj e] at h; cases h
 cases hr:bB val left key arr base hint with
 | true =>
  simp only [if_true];refine aR (fT (eS (I:=fun x c oI=>oI=st/\∃ l o,c=(none,l,o)/\l < o/\x+1<=o/\hint+l < n/\bB val left key arr base (hint+l)=true)
   (Q:=fun c oI=>oI=st/\∃ l o,c=(none,l,o)/\l < o/\hint+l < n/\bB val left key arr base (hint+l)=true/\(hint+o < n->bB val left key arr base (hint+o)=false)) ?step ?fin ⟨rfl,0,1,rfl,#[O],#[O],hh,hr⟩) ?post)
  case fin =>
   rintro c oI ⟨rfl,l,o,rfl,sM,hx,hl,hb⟩;exact⟨rfl,l,o,rfl,sM,hl,hb,fun z=>by lia⟩
  case step =>
   rintro x c oI _ G1 ⟨rfl,l,o,rfl,sM,hx,hl,hb⟩;dsimp only;by_cases p9:o>=n - hint
   ·rw [if_pos p9];exact aT ⟨rfl,l,o,rfl,sM,hl,hb,fun z=>by lia⟩
   ·rw [if_neg p9];obtain⟨p,ep,mp⟩:=ha (hint+o) #[O];refine aR #[Ro];dsimp only;cases tX:bB val left key arr base (hint+o) with
    | true =>
     rw [if_neg #[D]];exact aT ⟨rfl,o,2*o+1,rfl,#[O],#[O],#[O],tX⟩
    | false =>
     rw [if_pos #[D]];exact aT ⟨rfl,l,o,rfl,sM,hl,hb,fun _=>tX⟩
  case post =>
   rintro c oI ⟨rfl,l,o,rfl,sM,hl,hb,tX⟩;dsimp only;refine aR (fT (zmL (val:=val) (left:=left) (key:=key) (arr:=arr) (base:=base) hs #[O] #[O] (fun i hi=>zdR hs #[O] hl hb) (fun i hi rW=>(by
    by_cases ho:hint+o < n
    ·exact up #[O] rW (tX ho)
    ·lia)) #[Xb]) ?_)
   ·dsimp only;by_cases p9:l'>=r'
    ·rw [if_pos p9];exact aT (k1 p9)
    ·rw [if_neg p9];obtain⟨p,ep,mp⟩:=ha (l'+(r' - l') / 2) #[O];refine aR #[Ro];have k3:=k2 #[O];dsimp only;cases Au:bB val left key arr base (l'+(r' - l') / 2) with
     | true=>rw [Au] at k3; rw [if_pos rfl] at k3 |-; exact aT k3
     | false=>rw [Au] at k3; rw [if_neg #[D]] at k3 |-; exact aT k3
   ·rintro c qe ⟨rfl,l,rfl,hl,b1,b2⟩;exact aT (h l hl b1 b2)
 | false =>
  (simp only [cF,if_false])
  refine aR (fT (eS (I:=fun x c oI=>oI=st/\∃ l o,c=(none,l,o)/\l < o/\x+1<=o/\l<=hint/\bB val left key arr base (hint - l)=false)
   (Q:=fun c oI=>oI=st/\∃ l o,c=(none,l,o)/\l < o/\l<=hint/\bB val left key arr base (hint - l)=false/\(o<=hint->bB val left key arr base (hint - o)=true)) ?step ?fin ⟨rfl,0,1,rfl,#[O],#[O],#[O],hr⟩) ?post)
  case fin =>
   rintro c oI ⟨rfl,l,o,rfl,sM,hx,hl,hb⟩;exact⟨rfl,l,o,rfl,sM,hl,hb,fun z=>by lia⟩
  case step =>
   rintro x c oI _ G1 ⟨rfl,l,o,rfl,sM,hx,hl,hb⟩;dsimp only;by_cases p9:o>=hint+1
   ·rw [if_pos p9];exact aT ⟨rfl,l,o,rfl,sM,hl,hb,fun z=>by lia⟩
   ·rw [if_neg p9];obtain⟨p,ep,mp⟩:=ha (hint - o) #[O];refine aR #[Ro];dsimp only;cases tX:bB val left key arr base (hint - o) with
    | false =>
     rw [if_neg #[D]];exact aT ⟨rfl,o,2*o+1,rfl,#[O],#[O],#[O],tX⟩
    | true =>
     rw [if_pos rfl];exact aT ⟨rfl,l,o,rfl,sM,hl,hb,fun _=>tX⟩
  case post =>
   rintro c oI ⟨rfl,l,o,rfl,sM,hl,hb,tX⟩;dsimp only;refine aR (fT (zmL (val:=val) (left:=left) (key:=key) (arr:=arr) (base:=base) hs #[O] #[O] (fun i hi=>(by
    by_cases ho:o<=hint
    ·exact zdR hs #[O] #[O] (tX ho)
    ·lia)) (fun i hi rW=>up hi rW hb) #[Xb]) ?_)
   ·dsimp only;by_cases p9:l'>=r'
    ·rw [if_pos p9];exact aT (k1 p9)
    ·rw [if_neg p9];obtain⟨p,ep,mp⟩:=ha (l'+(r' - l') / 2) #[O];refine aR #[Ro];have k3:=k2 #[O];dsimp only;cases Au:bB val left key arr base (l'+(r' - l') / 2) with
     | true=>rw [Au] at k3; rw [if_pos rfl] at k3 |-; exact aT k3
     | false=>rw [Au] at k3; rw [if_neg #[D]] at k3 |-; exact aT k3
   ·rintro c qe ⟨rfl,l,rfl,hl,b1,b2⟩;exact aT (h l hl b1 b2)
end
end Srt
end
section
namespace Srt
open PySem PyProof.Rows
variable {k:Nat}
abbrev zaA (st:SortSt) (g:Nat):SortSt:=nQ (kindOf st) #[wp] #[Tg] g (failedOf st)
theorem zem (g:Nat):zds g=modify fun s=>zaA s g:=rfl
noncomputable def Le (val:Keyed->Int) (xs ys:List Keyed):Prop:=∀ x∈xs,∀ y∈ys,val x<=val y
noncomputable def Ris (val:Keyed->Int) (xs:List Keyed):Prop:=xs.Pairwise fun x y=>val x<=val y
theorem zaH {val:Keyed->Int} {xs ys:List Keyed}:Ris val (xs++ys)↔Ris val xs/\Ris val ys/\Le val xs ys:=lE
structure MI (val:Keyed->Int) (T o l r:List Keyed):Prop where
 perm:(o++l++r).Perm T
 so:Ris val o
 sl:Ris val l
 sr:Ris val r
 ol:Le val o l
 or':Le val o r
noncomputable def Good (val:Keyed->Int) (T res:List Keyed):Prop:=res.Perm T/\Ris val res
section
variable {val:Keyed->Int} {T o l l1 l2 r r1 r2:List Keyed}
theorem Le.left {xs ys zs:List Keyed} (h:Le val (xs++ys) zs):Le val xs zs:=fun x hx y hy=>h x (bM _ hx) y hy
theorem Le.right {xs ys zs:List Keyed} (h:Le val (xs++ys) zs):Le val ys zs:=fun x hx y hy=>h x (bG _ hx) y hy
theorem Le.app {xs ys zs:List Keyed} (h1:Le val xs zs) (h2:Le val ys zs):Le val (xs++ys) zs:=fun x hx y hy=>by
 rcases bZ.mp hx with h | h
 ·exact h1 x h y hy
 ·exact h2 x h y hy
theorem Le.PR {xs ys zs:List Keyed} (h1:Le val xs ys) (h2:Le val xs zs):Le val xs (ys++zs):=fun x hx y hy=>by
 rcases bZ.mp hy with h | h
 ·exact h1 x hx y h
 ·exact h2 x hx y h
theorem Le.sub {xs ys zs:List Keyed} (h1:Le val xs (ys++zs)):Le val xs ys/\Le val xs zs:=⟨fun x hx y hy=>h1 x hx y (bM _ hy),fun x hx y hy=>h1 x hx y (bG _ hy)⟩
theorem MI.Nx (h:MI val T o (l1++l2) r) (hle:Le val l1 r):MI val T (o++l1) l2 r:=by
 obtain⟨a1,a2,a3⟩:=zaH.mp h.sl;obtain⟨b1,b2⟩:=h.ol.sub;exact⟨by have:=h.perm; simpa [cE] using this,zaH.mpr ⟨h.so,a1,b1⟩,a2,h.sr,b2.app a3,h.or'.app hle⟩
theorem MI.MX (h:MI val T o l (r1++r2)) (hle:Le val r1 l):MI val T (o++r1) l r2:=by
 obtain⟨a1,a2,a3⟩:=zaH.mp h.sr;obtain⟨b1,b2⟩:=h.or'.sub;refine⟨?_,zaH.mpr ⟨h.so,a1,b1⟩,h.sl,a2,h.ol.app hle,b2.app a3⟩;refine im ?_ h.perm;have:(r1++l++r2).Perm (l++r1++r2):=List.perm_append_comm.append_right _;simpa [cE] using this.append_left o
theorem MI.MM (h:MI val T o l []):Good val T (o++l):=⟨by have:=h.perm; simpa using this,zaH.mpr ⟨h.so,h.sl,h.ol⟩⟩
theorem MI.ML (h:MI val T o [] r):Good val T (o++r):=⟨by have:=h.perm; simpa using this,zaH.mpr ⟨h.so,h.sr,h.or'⟩⟩
theorem MI.last (h:MI val T o l r) (hle:Le val r l):Good val T (o++r++l):=by
 refine⟨im ?_ h.perm,?_⟩
 ·rw [cE,cE];exact List.perm_append_comm.append_left o
 ·exact zaH.mpr ⟨zaH.mpr ⟨h.so,h.sr,h.or'⟩,h.sl,h.ol.app hle⟩
end
section
variable {val:Keyed->Int} {T:List Keyed} {a b out:Array Keyed} {ia ib:Nat}
abbrev MA (val:Keyed->Int) (T:List Keyed) (a b out:Array Keyed) (ia ib:Nat):Prop:=MI val T out.toList (a.toList.drop ia) (b.toList.drop ib)
theorem zeZ {xs:Array Keyed} {i:Nat} {p:Keyed} (h:xs[i]? = some p):xs.toList.drop i=p :: xs.toList.drop (i+1):=by
 have hi:i < xs.toList.length:=by
  have:=(fo.mp h).1;simpa using this
 rw [fB hi];congr 1;have:=(fo.mp h).2;simpa using this
theorem zdS {xs:Array Keyed} (h:SIn val xs 0 xs.size):∀ i,Ris val #[Ss]:=by
 have all:Ris val xs.toList:=by
  unfold Ris
  (rw [eI])
  intro i j hi hj rZ
  (have qj:i < xs.size:=by simpa using hi)
  (have qH:j < xs.size:=by simpa using hj)
  have:=h i j (bX _) #[O] qH;rw [zag (getElem?_pos xs i qj),zag (getElem?_pos xs j qH)] at this;simpa using this
 exact fun i=>gU (List.drop_sublist _ _) all
theorem ze0 {xs:Array Keyed} {i:Nat} {p q:Keyed} (h:SIn val xs 0 xs.size) (hp:xs[i]? = some p) (hq:q∈xs.toList.drop i):val p<=val q:=by
 have:=zdS h i;rw [zeZ hp] at this hq;rcases (bD.mp hq) with rfl | hq
 ·exact dv _
 ·exact List.rel_of_pairwise_cons this hq
theorem MA.NW {y x:Keyed} (h:MA val T a b out ia ib) (sa:SIn val a 0 a.size) (hy:b[ib]? = some y) (hx:a[ia]? = some x) (hle:val y<=val x):MA val T a b (out.push y) ia (ib+1):=by
 unfold MA at h |-;rw [zeZ hy] at h;have:=MI.MX (r1:=[y]) h fun p hp q hq=>by
  rw [cW.mp hp];exact cX hle (ze0 sa hx hq)
 simpa using this
theorem MA.MO {y x:Keyed} (h:MA val T a b out ia ib) (sb:SIn val b 0 b.size) (hy:b[ib]? = some y) (hx:a[ia]? = some x) (hle:val x<=val y):MA val T a b (out.push x) (ia+1) ib:=by
 unfold MA at h |-;rw [zeZ hx] at h;have:=MI.Nx (l1:=[x]) h fun p hp q hq=>by
  rw [cW.mp hp];exact cX hle (ze0 sb hy hq)
 simpa using this
theorem zmM (xs:Array Keyed) (i k:Nat):xs.toList.drop i=#[VI].toList++xs.toList.drop (i+k):=by
 rw [fI];have:(xs.toList.extract i (i+k))=#[Ss].take k:=by
  simp [fC] <;> lia
 rw [this,<- k6,eK]
theorem ze1 {xs:Array Keyed} {i:Nat} {p:Keyed} (h:p∈#[VI].toList):∃ j,j < k/\xs[i+j]? = some p:=by
 have e0:#[VI].toList=#[Ss].take k:=by
  rw [fI];simp [fC] <;> lia
 rw [e0] at h
 (obtain⟨j,hj,e⟩:=fj h)
 have vy:j < k/\j < #[Ss].length:=by
  rw [bC] at hj;lia
 refine⟨j,vy.1,?_⟩;rw [<- cD,<- iu,aJ vy.2,<- e,mU]
theorem MA.Nx {y:Keyed} (h:MA val T a b out ia ib) (sb:SIn val b 0 b.size) (hy:b[ib]? = some y) (hle:∀ i,i < k->Vk val a (ia+i)<=val y):MA val T a b (out++a.extract ia (ia+k)) (ia+k) ib:=by
 unfold MA at h |-;rw [zmM a ia k] at h;have:=MI.Nx h fun p hp q hq=>by
  obtain⟨j,hj,e⟩:=ze1 hp;have:=hle j hj;rw [zag e] at this;exact cX this (ze0 sb hy hq)
 simpa using this
theorem MA.MX {x:Keyed} (h:MA val T a b out ia ib) (sa:SIn val a 0 a.size) (hx:a[ia]? = some x) (hle:∀ i,i < k->Vk val b (ib+i)<=val x):MA val T a b (out++b.extract ib (ib+k)) ia (ib+k):=by
 unfold MA at h |-;rw [zmM b ib k] at h;have:=MI.MX h fun p hp q hq=>by
  obtain⟨j,hj,e⟩:=ze1 hp;have:=hle j hj;rw [zag e] at this;exact cX this (ze0 sa hx hq)
 simpa using this
theorem zdd (xs:Array Keyed) (i:Nat):(xs.extract i xs.size).toList=xs.toList.drop i:=by
 rw [fI];simp only [fC]
 (exact bO #[M])
theorem MA.ML (h:MA val T a b out ia ib) (e:ib=b.size):Good val T (out++a.extract ia a.size++b.extract ib b.size).toList:=by
 unfold MA at h;rw [show b.toList.drop ib = [] from fX (by simp [e])] at h;have:=h.MM;rw [cS,cS,zdd,zdd,show b.toList.drop ib = [] from fX (by simp [e]),du];exact this
theorem MA.MM (h:MA val T a b out ia ib) (e:ia=a.size):Good val T (out++a.extract ia a.size++b.extract ib b.size).toList:=by
 unfold MA at h;rw [show a.toList.drop ia = [] from fX (by simp [e])] at h;have:=h.ML;rw [cS,cS,zdd,zdd,show a.toList.drop ia = [] from fX (by simp [e]),du];exact this
theorem MA.last (h:MA val T a b out ia ib) (e:ia+1=a.size) (hl:∀ i,i < b.size->Vk val b i<=Vk val a (a.size - 1)):Good val T (out++b.extract ib b.size++a.extract ia a.size).toList:=by
 unfold MA at h;have hx:a[ia]? = some (a[ia]'#[O]):=getElem?_pos a ia #[O];have:=h.last fun p hp q hq=>by
  rw [zeZ hx,show a.toList.drop (ia+1) = [] from fX (by simp [e])] at hq;rw [cW.mp hq];obtain⟨j,hj,ej⟩:=fj (lF hp);have qH:j < b.size:=by simpa using hj
  have:=hl j qH;rw [zag (getElem?_pos b j qH),show a.size - 1=ia by lia,zag hx] at this;rw [<- ej];simpa using this
 rw [cS,cS,zdd,zdd];exact this
end
end Srt
end
section
namespace Srt
open PySem PyProof.Rows
variable {M:Model} {arr:Array Keyed} {key:Keyed}
section
variable {prog:Program} {w:World} {A:Around} {E:TB} {s:Shared} {a₀:Array Keyed} {κ:SortKind} {val:Keyed->Int}
theorem zdT {st:SortSt} {g:Nat} {Q:Unit->SortSt->Prop} (h:Q () (zaA st g)):wpS #[ul] A E s (zds g) Q st:=by
 rw [zem];exact gZ h
theorem zaG {g:Prop} {xs:Array Keyed} {i:Nat} (h:i < xs.size) (k:∀ p,xs[i]? = some p->p∈xs.toList->g):g:=k _ (getElem?_pos xs i h) #[M]
theorem zcJ {base i:Nat} (h:bB val true key arr base i=true):Vk val arr (base+i) < val key:=by
 unfold bB at h;simpa using h
theorem zdU {base i:Nat} (h:bB val false key arr base i=true):Vk val arr (base+i)<=val key:=by
 unfold bB at h;simp at h;lia
theorem zdz {base i:Nat} (h:bB val true key arr base i=false):val key<=Vk val arr (base+i):=by
 unfold bB at h;simp at h;lia
theorem ze2 {base i:Nat} (h:bB val false key arr base i=false):val key < Vk val arr (base+i):=by
 unfold bB at h;simp at h;exact h
theorem SIn.sub {xs:Array Keyed} {lo hi lo' qj:Nat} (h:SIn val xs lo hi) (h1:lo<=lo') (h2:qj<=hi):SIn val xs lo' qj:=fun i j a b c=>h i j #[O] b #[O]
theorem zF {σ α:Type} {c:Prop} {inst:Decidable c} {x y:StateT σ Sem α} {Q:α->σ->Prop} {st:σ} (h:c) (k:wpS M A E s x Q st):wpS M A E s #[Vd] Q st:=by rw [if_pos h]; exact k
theorem zG {σ α:Type} {c:Prop} {inst:Decidable c} {x y:StateT σ Sem α} {Q:α->σ->Prop} {st:σ} (h:¬ c) (k:wpS M A E s y Q st):wpS M A E s #[Vd] Q st:=by rw [if_neg h]; exact k
theorem dup {P X:Prop} (h:P->P->X) (k:P):X:=h k k
theorem zrJ {P X:Prop} (h:(Unit->P)->(Unit->P)->X) (k:P):X:=h (fun _=>k) (fun _=>k)
theorem fr5 {σ β A1 A2 A3 A4 A5:Type} {lo hi:Nat} {f:Nat->β->StateT σ Sem (ForInStep β)} {Q:β->σ->Prop} {c:β} {st:σ} (wF:A1->A2->A3->A4->A5->β) (yz:A1->A2->A3->A4->A5->σ) (J:Nat->A1->A2->A3->A4->A5->Prop) (start:∃ a1 a2 a3 a4 a5,st=yz a1 a2 a3 a4 a5/\c=wF a1 a2 a3 a4 a5/\J lo a1 a2 a3 a4 a5) (fin:∀ a1 a2 a3 a4 a5,J (max lo hi) a1 a2 a3 a4 a5->Q #[U9] (yz a1 a2 a3 a4 a5))
  (step:∀ x a1 a2 a3 a4 a5,lo<=x->x < hi->J x a1 a2 a3 a4 a5->wpS M A E s (f x #[U9]) (fun r oI=>match r with | .done c'=>Q c' oI | .yield c'=>∃ a1 a2 a3 a4 a5,oI=yz a1 a2 a3 a4 a5/\c'=wF a1 a2 a3 a4 a5/\J (x+1) a1 a2 a3 a4 a5) (yz a1 a2 a3 a4 a5)):wpS M A E s (forIn [lo:hi] c f) Q st:=by
 refine eS (I:=fun x c oI=>∃ a1 a2 a3 a4 a5,oI=yz a1 a2 a3 a4 a5/\c=wF a1 a2 a3 a4 a5/\J x a1 a2 a3 a4 a5) ?_ ?_ start
 ·rintro x c oI h1 h2 ⟨a1,a2,a3,a4,a5,rfl,rfl,j⟩;exact step x _ _ _ _ _ h1 h2 j
 ·rintro c oI ⟨a1,a2,a3,a4,a5,rfl,rfl,j⟩;exact fin _ _ _ _ _ j
theorem fr7 {σ β A1 A2 A3 A4 A5 A6 A7:Type} {lo hi:Nat} {f:Nat->β->StateT σ Sem (ForInStep β)} {Q:β->σ->Prop} {c:β} {st:σ} (wF:A1->A2->A3->A4->A5->A6->A7->β) (yz:A1->A2->A3->A4->A5->A6->A7->σ) (J:Nat->A1->A2->A3->A4->A5->A6->A7->Prop) (start:∃ a1 a2 a3 a4 a5 a6 a7,st=yz a1 a2 a3 a4 a5 a6 a7/\c=wF a1 a2 a3 a4 a5 a6 a7/\J lo a1 a2 a3 a4 a5 a6 a7) (fin:∀ a1 a2 a3 a4 a5 a6 a7,J (max lo hi) a1 a2 a3 a4 a5 a6 a7->Q #[Xi] #[Xh])
  (step:∀ x a1 a2 a3 a4 a5 a6 a7,lo<=x->x < hi->J x a1 a2 a3 a4 a5 a6 a7->wpS M A E s (f x #[Xi]) (fun r oI=>match r with | .done c'=>Q c' oI | .yield c'=>∃ a1 a2 a3 a4 a5 a6 a7,oI=yz a1 a2 a3 a4 a5 a6 a7/\c'=wF a1 a2 a3 a4 a5 a6 a7/\J (x+1) a1 a2 a3 a4 a5 a6 a7) #[Xh]):wpS M A E s (forIn [lo:hi] c f) Q st:=by
 refine eS (I:=fun x c oI=>∃ a1 a2 a3 a4 a5 a6 a7,oI=yz a1 a2 a3 a4 a5 a6 a7/\c=wF a1 a2 a3 a4 a5 a6 a7/\J x a1 a2 a3 a4 a5 a6 a7) ?_ ?_ start
 ·rintro x c oI h1 h2 ⟨a1,a2,a3,a4,a5,a6,a7,rfl,rfl,j⟩;exact step x _ _ _ _ _ _ _ h1 h2 j
 ·rintro c oI ⟨a1,a2,a3,a4,a5,a6,a7,rfl,rfl,j⟩;exact fin _ _ _ _ _ _ _ j
theorem zpn {σ α γ δ A1 A2 A3 A4 A5:Type} {x:StateT σ Sem (Option γ×δ)} {k:Option γ×δ->StateT σ Sem α} {R:α->σ->Prop} {st:σ} (wF:A1->A2->A3->A4->A5->Option γ×δ) (G:γ->Prop) (J:A1->A2->A3->A4->A5->Prop) (Jg:σ) (hx:wpS M A E s x (fun c oI=>oI=Jg/\((∃ r o,c=(some r,o)/\G r)\/∃ a1 a2 a3 a4 a5,c=wF a1 a2 a3 a4 a5/\J a1 a2 a3 a4 a5)) st) (h1:∀ r o,G r->wpS M A E s (k (some r,o)) R Jg) (h:∀ a1 a2 a3 a4 a5,J a1 a2 a3 a4 a5->wpS M A E s (k #[U9]) R Jg):wpS M A E s (x >>= k) R st:=by
 refine aR (fT hx ?_);rintro c oI ⟨rfl,⟨r,o,rfl,g⟩ | ⟨a1,a2,a3,a4,a5,rfl,j⟩⟩
 ·exact h1 _ _ g
 ·exact h _ _ _ _ _ j
theorem zbk {σ α:Type} {c:Prop} {inst:Decidable c} {x y:StateT σ Sem α} {Q:α->σ->Prop} {st:σ} (h:c->wpS M A E s x Q st) (k:¬ c->wpS M A E s y Q st):wpS M A E s #[Vd] Q st:=by
 by_cases hc:c
 ·rw [if_pos hc]; exact h hc
 ·rw [if_neg hc]; exact k hc
theorem zlb {st:SortSt} {a b:Array Keyed} {Q:Array Keyed->SortSt->Prop} (hC:Cmp prog w A s κ val a₀) (hk:kindOf st=κ) (ma:∀ p∈a.toList,p∈a₀.toList) (mb:∀ p∈b.toList,p∈a₀.toList)
  (sa:SIn val a 0 a.size) (sb:SIn val b 0 b.size) (h1:1<=a.size) (h2:1<=b.size) (hf:Vk val b 0<=Vk val a 0) (hl:∀ i,i < b.size->Vk val b i<=Vk val a (a.size - 1))
  (h:∀ out g,Good val #[wv] out.toList->Q out (zaA st g)):wpS #[ul] A E s (zmJ a b) Q st:=by
 refine zg6 ?_
 wp_delta
 wp_delta
 refine zg7 ?_
 (refine aR #[Tb])
 refine zaG (xs:=b) (i:=0) #[O] fun y0 yc Jh=>?_
 refine zaG (xs:=a) (i:=0) #[O] fun x0 wG Ji=>?_
 refine aR (zac yc ?_);have I0:MA val #[wv] a b #[] 0 0:=⟨#[M],jT,zdS sa 0,zdS sb 0,fun x hx=>by simp at hx,fun x hx=>by simp at hx⟩;have I1:MA val #[wv] a b #[y0] 0 1:=I0.NW sa yc wG (by rw [zag yc,zag wG] at hf; exact hf);dsimp only;by_cases vz:1=b.size
 ·refine zF #[U,vz] ?_;exact aT (h _ #[UH] (I1.ML vz))
 refine zG #[U,vz] ?_;by_cases yd:0+1=a.size
 ·refine zF #[U,yd] ?_;exact aT (h _ #[UH] (I1.last #[O] hl))
 refine zG #[U,yd] ?_;refine aR (iH ?_);refine aR (fT (fr5 (fun g out ia ib mg=>(none,out,ia,ib,mg)) (fun g out ia ib mg=>zaA st g) (fun x g out ia ib mg=>MA val #[wv] a b out ia ib/\ia+1 < a.size/\ib < b.size/\x+1<=ia+ib)
  (Q:=fun c oI=>∃ g r o,oI=zaA st g/\c=(some r,o)/\Good val #[wv] r.toList) ⟨gallopOf st,#[y0],0,1,gallopOf st,rfl,rfl,I1,#[O],#[O],#[O]⟩ ?fin ?step) ?post)
 case post =>
  rintro c oI ⟨g,r,o,rfl,rfl,hG⟩;exact aT (h _ g hG)
 case fin =>
  rintro g out ia ib mg ⟨hI,b1,b2,b3⟩;lia
 case step =>
  intro x g out ia ib mg Fi hx J;have hI:=J.1;have b1:=J.2.1;have b2:=J.2.2.1;have b3:=J.2.2.2;dsimp only;refine zpn #[VU] #[Wj] (fun oV pP pK ac bc=>MA val #[wv] a b oV pP pK/\pP+1 < a.size/\pK < b.size/\ia+ib+1<=pP+pK) (zaA st g) (fr5 #[VU] (fun oV pP pK ac bc=>zaA st g) (fun x oV pP pK ac bc=>MA val #[wv] a b oV pP pK/\pP+1 < a.size/\pK < b.size/\ia+ib+x<=pP+pK) ⟨out,ia,ib,0,0,rfl,rfl,hI,b1,b2,#[O]⟩ ?fin1 ?step1) #[Xk] ?post1
  case fin1 =>
   rintro oV pP pK ac bc ⟨hI,b1,b2,b3⟩;exact⟨rfl,.inr ⟨oV,pP,pK,ac,bc,rfl,hI,b1,b2,#[O]⟩⟩
  case step1 =>
   intro x1 oV pP pK ac bc Jj BV J;have hI:=J.1;have b1:=J.2.1;have b2:=J.2.2.1;have b3:=J.2.2.2;dsimp only;refine zaG (xs:=b) (i:=pK) #[O] fun y ey my=>?_
   refine zaG (xs:=a) (i:=pP) #[O] fun z ez mz=>?_
   refine aR #[SU];dsimp only;by_cases Fj:val y < val z
   ·refine zF #[U,Fj] ?_;refine aR #[Vi];have rD:=hI.NW sa ey ez #[O];by_cases e1:pK+1=b.size
    ·refine zF #[U,e1] ?_;exact aT ⟨rfl,.inl ⟨_,_,rfl,rD.ML e1⟩⟩
    refine zG #[U,e1] ?_;refine zbk #[AC] #[AC]
    ·exact aT ⟨rfl,.inr ⟨_,_,_,_,_,rfl,rD,b1,#[O],#[O]⟩⟩
    ·exact aT ⟨_,_,_,_,_,rfl,rfl,rD,b1,#[O],#[O]⟩
   ·refine zG #[U,Fj] ?_;refine aR #[SQ];have rD:=hI.MO sb ey ez #[O];by_cases e1:pP+1+1=a.size
    ·refine zF #[U,e1] ?_;exact aT ⟨rfl,.inl ⟨_,_,rfl,rD.last e1 hl⟩⟩
    refine zG #[U,e1] ?_;refine zbk #[AC] #[AC]
    ·exact aT ⟨rfl,.inr ⟨_,_,_,_,_,rfl,rD,#[O],b2,#[O]⟩⟩
    ·exact aT ⟨_,_,_,_,_,rfl,rfl,rD,#[O],b2,#[O]⟩
  case post1 =>
   intro CD Jk Jl Jm Jn J;have Jo:=J.1;have c1:=J.2.1;have c2:=J.2.2.1;have c3:=J.2.2.2;dsimp only
   (refine aR #[Tb])
   refine aR (fT (fr7 (fun g oV pP pK mg ac bc=>(none,oV,pP,pK,mg,ac,bc)) (fun g oV pP pK mg ac bc=>zaA st g) (fun x g oV pP pK mg ac bc=>MA val #[wv] a b oV pP pK/\pP+1 < a.size/\pK < b.size/\Jk+Jl<=pP+pK)
    (Q:=fun c oI=>∃ g,oI=zaA st g/\((∃ r o,c=(some r,o)/\Good val #[wv] r.toList)\/∃ oV pP pK mg ac bc,c=(none,oV,pP,pK,mg,ac,bc)/\MA val #[wv] a b oV pP pK/\pP+1 < a.size/\pK < b.size/\Jk+Jl<=pP+pK)) ⟨g,CD,Jk,Jl,_,Jm,Jn,rfl,rfl,Jo,c1,c2,aG _⟩ ?fin2 ?step2) ?post2)
   case fin2 =>
    rintro g oV pP pK mg ac bc ⟨hI,b1,b2,b3⟩;exact⟨g,rfl,.inr ⟨oV,pP,pK,mg,ac,bc,rfl,hI,b1,b2,b3⟩⟩
   case post2 =>
    rintro c oI ⟨g,rfl,hc⟩;rcases hc with ⟨r,o,rfl,hG⟩ | ⟨CF,ia2,ib2,mg2,ac2,bc2,rfl,rD,d1,d2,d3⟩
    ·exact aT ⟨g,r,_,rfl,rfl,hG⟩
    dsimp only;refine aR (zdT (aT ⟨_,CF,ia2,ib2,_,rfl,rfl,rD,d1,d2,#[O]⟩))
   case step2 =>
    intro x2 g oV pP pK CG ac bc CH yA J;have hI:=J.1;have b1:=J.2.1;have b2:=J.2.2.1;have b3:=J.2.2.2;dsimp only;refine zaG (xs:=b) (i:=pK) #[O] fun y ey my=>?_
    apply dup
    ·intro k1 k2;by_cases wY:CG > 1
     ·refine zF wY ?_;clear wY;generalize CG - 1=m0
      revert m0
      exact k1
     ·refine zG wY ?_;clear wY;generalize CG=m0
      revert m0
      exact k2
    intro mg0;refine aR (zdT (aR (zac ey (aR (zbO hC hk (mb y my) (fun i hi=>(by
     refine zaG (xs:=a) (i:=pP+i) #[O] fun p ep mp=>?_
     exact⟨p,ep,ma p mp⟩)) (sa.sub #[O] #[O]) #[O] fun k BW sN BX=>?_)))))
    dsimp only;have rD:=hI.Nx (k:=k) sb ey fun i hi=>zdU (sN i hi)
    by_cases uO:k > 0
    ·refine zF uO ?_;by_cases e1:pP+k+1=a.size
     ·refine zF #[U,e1] ?_;exact aT ⟨_,rfl,.inl ⟨_,_,rfl,rD.last e1 hl⟩⟩
     refine zG #[U,e1] ?_;by_cases e2:pP+k=a.size
     ·refine zF #[U,e2] ?_;exact aT ⟨_,rfl,.inl ⟨_,_,rfl,rD.MM e2⟩⟩
     refine zG #[U,e2] ?_;refine aR #[Vi];refine zaG (xs:=a) (i:=pP+k) #[O] fun z ez mz=>?_
     have vM:=rD.NW sa ey ez (by have:=ze2 (BX k (aG _) #[O]); rw [zag ez] at this; lia);by_cases e3:pK+1=b.size
     ·refine zF #[U,e3] ?_;exact aT ⟨_,rfl,.inl ⟨_,_,rfl,vM.ML e3⟩⟩
     refine zG #[U,e3] ?_;refine aR (zac ez (aR (zbO hC hk (ma z mz) (fun i hi=>(by
      refine zaG (xs:=b) (i:=pK+1+i) #[O] fun p ep mp=>?_
      exact⟨p,ep,mb p mp⟩)) #[Ud] #[O] fun j CC vy Ba=>?_)))
     dsimp only;have xi:=vM.MX (k:=j) sa ez fun i hi=>gT (zcJ (vy i hi))
     by_cases vN:j > 0
     ·refine zF vN ?_;by_cases e4:pK+1+j=b.size
      ·refine zF #[U,e4] ?_;exact aT ⟨_,rfl,.inl ⟨_,_,rfl,xi.ML e4⟩⟩
      refine zG #[U,e4] ?_;refine zaG (xs:=b) (i:=pK+1+j) #[O] fun y2 sd Bb=>?_
      refine aR #[SQ];have qD:=xi.MO sb sd ez (by have:=zdz (Ba j (aG _) #[O]); rw [zag sd] at this; exact this);by_cases e9:pP+k+1+1=a.size
      ·refine zF #[U,e9] ?_;exact aT ⟨_,rfl,.inl ⟨_,_,rfl,qD.last e9 hl⟩⟩
      refine zG #[U,e9] ?_;refine zbk #[AC] #[AC]
      ·exact aT #[Qj]
      ·exact aT #[QL]
     ·refine zG vN ?_;have CI:j=0:=by lia
      subst CI;refine zaG (xs:=b) (i:=pK+1) #[O] fun y2 sd Bb=>?_
      refine aR #[SQ];have qD:=vM.MO sb sd ez (by have:=zdz (Ba 0 (aG _) #[O]); rw [gz,zag sd] at this; exact this);by_cases e9:pP+k+1+1=a.size
      ·refine zF #[U,e9] ?_;exact aT ⟨_,rfl,.inl ⟨_,_,rfl,qD.last e9 hl⟩⟩
      refine zG #[U,e9] ?_;refine zbk #[AC] #[AC]
      ·exact aT #[Qj]
      ·exact aT #[QL]
    ·refine zG uO ?_;have Jp:k=0:=by lia
     subst Jp;refine aR #[Vi];refine zaG (xs:=a) (i:=pP) #[O] fun z ez mz=>?_
     have vM:=hI.NW sa ey ez (by have:=ze2 (BX 0 (aG _) #[O]); rw [gz,zag ez] at this; lia);by_cases e3:pK+1=b.size
     ·refine zF #[U,e3] ?_;exact aT ⟨_,rfl,.inl ⟨_,_,rfl,vM.ML e3⟩⟩
     refine zG #[U,e3] ?_;refine aR (zac ez (aR (zbO hC hk (ma z mz) (fun i hi=>(by
      refine zaG (xs:=b) (i:=pK+1+i) #[O] fun p ep mp=>?_
      exact⟨p,ep,mb p mp⟩)) #[Ud] #[O] fun j CC vy Ba=>?_)))
     dsimp only;have xi:=vM.MX (k:=j) sa ez fun i hi=>gT (zcJ (vy i hi))
     by_cases vN:j > 0
     ·refine zF vN ?_;by_cases e4:pK+1+j=b.size
      ·refine zF #[U,e4] ?_;exact aT ⟨_,rfl,.inl ⟨_,_,rfl,xi.ML e4⟩⟩
      refine zG #[U,e4] ?_;refine zaG (xs:=b) (i:=pK+1+j) #[O] fun y2 sd Bb=>?_
      refine aR #[SQ];have qD:=xi.MO sb sd ez (by have:=zdz (Ba j (aG _) #[O]); rw [zag sd] at this; exact this);by_cases e9:pP+1+1=a.size
      ·refine zF #[U,e9] ?_;exact aT ⟨_,rfl,.inl ⟨_,_,rfl,qD.last e9 hl⟩⟩
      refine zG #[U,e9] ?_;refine zbk #[AC] #[AC]
      ·exact aT #[Qj]
      ·exact aT #[QL]
     ·refine zG vN ?_;have CI:j=0:=by lia
      subst CI;refine zaG (xs:=b) (i:=pK+1) #[O] fun y2 sd Bb=>?_
      refine aR #[SQ];have qD:=vM.MO sb sd ez (by have:=zdz (Ba 0 (aG _) #[O]); rw [gz,zag sd] at this; exact this);by_cases e9:pP+1+1=a.size
      ·refine zF #[U,e9] ?_;exact aT ⟨_,rfl,.inl ⟨_,_,rfl,qD.last e9 hl⟩⟩
      refine zG #[U,e9] ?_;refine zbk #[AC] #[AC]
      ·exact aT #[Qj]
      ·exact aT #[QL]
end
end Srt
end
section
namespace Srt
open PySem PyProof.Rows
structure MH (val:Keyed->Int) (T l r o:List Keyed):Prop where
 perm:(l++r++o).Perm T
 so:Ris val o
 sl:Ris val l
 sr:Ris val r
 lo:Le val l o
 ro:Le val r o
section
variable {val:Keyed->Int} {T o l l1 l2 r r1 r2:List Keyed}
theorem MH.Nx (h:MH val T (l1++l2) r o) (hle:Le val r l2):MH val T l1 r (l2++o):=by
 obtain⟨a1,a2,a3⟩:=zaH.mp h.sl;refine⟨?_,zaH.mpr ⟨a2,h.so,h.lo.right⟩,a1,h.sr,a3.PR h.lo.left,hle.PR h.ro⟩;refine im ?_ h.perm;have:(r++l2).Perm (l2++r):=List.perm_append_comm;have:=(this.append_left l1).append_right o;simpa [cE] using this
theorem MH.MX (h:MH val T l (r1++r2) o) (hle:Le val l r2):MH val T l r1 (r2++o):=by
 obtain⟨a1,a2,a3⟩:=zaH.mp h.sr;exact⟨by have:=h.perm; simpa [cE] using this,zaH.mpr ⟨a2,h.so,h.ro.right⟩,h.sl,a1,hle.PR h.lo,a3.PR h.ro.left⟩
theorem MH.MM (h:MH val T [] r o):Good val T (r++o):=⟨by have:=h.perm; simpa using this,zaH.mpr ⟨h.sr,h.so,h.ro⟩⟩
theorem MH.ML (h:MH val T l [] o):Good val T (l++o):=⟨by have:=h.perm; simpa using this,zaH.mpr ⟨h.sl,h.so,h.lo⟩⟩
theorem MH.first (h:MH val T l r o) (hle:Le val r l):Good val T (r++l++o):=by
 refine⟨im (List.perm_append_comm.append_right _) h.perm,?_⟩;exact zaH.mpr ⟨zaH.mpr ⟨h.sr,h.sl,hle⟩,h.so,h.ro.app h.lo⟩
end
section
variable {val:Keyed->Int} {T:List Keyed} {a b out:Array Keyed} {na nb:Nat}
abbrev MB (val:Keyed->Int) (T:List Keyed) (a b out:Array Keyed) (na nb:Nat):Prop:=MH val T (a.toList.take na) (b.toList.take nb) out.toList.reverse
theorem zj8 {xs:Array Keyed} {n:Nat} {p:Keyed} (h:xs[n]? = some p):xs.toList.take (n+1)=xs.toList.take n++[p]:=by
 rw [List.take_succ,cD,h];rfl
theorem zii {xs:Array Keyed} (h:SIn val xs 0 xs.size) (i:Nat):Ris val (xs.toList.take i):=by
 have:=zdS h 0;rw [fU] at this;exact gU (gk _ _) this
theorem zfA {xs:Array Keyed} {n:Nat} {p:Keyed} (h:p∈xs.toList.take n):∃ j,j < n/\j < xs.size/\xs[j]? = some p:=by
 (obtain⟨j,hj,e⟩:=fj h)
 have vy:j < n/\j < xs.toList.length:=by
  rw [bC] at hj;lia
 refine⟨j,vy.1,by simpa using vy.2,?_⟩;rw [<- cD,aJ vy.2,<- e,mU]
theorem ze3 {xs:Array Keyed} {n:Nat} {p q:Keyed} (h:SIn val xs 0 xs.size) (hp:xs[n]? = some p) (hq:q∈xs.toList.take (n+1)):val q<=val p:=by
 obtain⟨j,hj,tG,e⟩:=zfA hq;have hn:=(fo.mp hp).1;have:=h j n (bX _) #[O] hn;rw [zag e,zag hp] at this;exact this
theorem MB.MO {y x:Keyed} (h:MB val T a b out (na+1) nb) (sb:SIn val b 0 b.size) (hn:1<=nb) (hy:b[nb - 1]? = some y) (hx:a[na]? = some x) (hle:val y<=val x):MB val T a b (out.push x) na nb:=by
 unfold MB at h |-;rw [zj8 hx] at h;have:=MH.Nx h fun p hp q hq=>by
  rw [cW.mp hq];exact cX (ze3 sb hy (by rw [show nb - 1+1=nb by lia]; exact hp)) hle
 simpa using this
theorem MB.NW {y x:Keyed} (h:MB val T a b out na (nb+1)) (sa:SIn val a 0 a.size) (hn:1<=na) (hy:b[nb]? = some y) (hx:a[na - 1]? = some x) (hle:val x<=val y):MB val T a b (out.push y) na nb:=by
 unfold MB at h |-;rw [zj8 hy] at h;have:=MH.MX h fun p hp q hq=>by
  rw [cW.mp hq];exact cX (ze3 sa hx (by rw [show na - 1+1=na by lia]; exact hp)) hle
 simpa using this
theorem zj9 (xs:Array Keyed) {i n:Nat} (h:i<=n):xs.toList.take n=xs.toList.take i++(xs.extract i n).toList:=by
 rw [fI];simp only [fC];rw [<- eK i (xs.toList.take n),List.take_take,fJ h,List.drop_take]
theorem MB.Nx {y:Keyed} {at':Nat} (h:MB val T a b out na nb) (sb:SIn val b 0 b.size) (pJ:at'<=na) (hn:1<=nb) (hy:b[nb - 1]? = some y) (hle:∀ i,at'<=i->i < na->val y<=Vk val a i):MB val T a b (out++(a.extract at' na).reverse) at' nb:=by
 unfold MB at h |-;rw [zj9 a pJ] at h;have:=MH.Nx h fun p hp q hq=>by
  have qJ:q∈(a.extract at' (at'+(na - at'))).toList:=by rw [show at'+(na - at')=na by lia]; exact hq
  obtain⟨j,hj,e⟩:=ze1 qJ;have:=hle (at'+j) #[O] #[O];rw [zag e] at this;exact cX (ze3 sb hy (by rw [show nb - 1+1=nb by lia]; exact hp)) this
 simpa using this
theorem MB.MX {x:Keyed} {at':Nat} (h:MB val T a b out na nb) (sa:SIn val a 0 a.size) (pJ:at'<=nb) (hn:1<=na) (hx:a[na - 1]? = some x) (hle:∀ i,at'<=i->i < nb->val x<=Vk val b i):MB val T a b (out++(b.extract at' nb).reverse) na at':=by
 unfold MB at h |-;rw [zj9 b pJ] at h;have:=MH.MX h fun p hp q hq=>by
  have qJ:q∈(b.extract at' (at'+(nb - at'))).toList:=by rw [show at'+(nb - at')=nb by lia]; exact hq
  obtain⟨j,hj,e⟩:=ze1 qJ;have:=hle (at'+j) #[O] #[O];rw [zag e] at this;exact cX (ze3 sa hx (by rw [show na - 1+1=na by lia]; exact hp)) this
 simpa using this
theorem zct (xs:Array Keyed) (n:Nat):(xs.extract 0 n).toList=xs.toList.take n:=by
 rw [fI];simp [fC]
theorem MB.MM (h:MB val T a b out na nb) (e:na=0):Good val T (a.extract 0 na++b.extract 0 nb++out.reverse).toList:=by
 unfold MB at h;subst e;have:=MH.MM h;rw [cS,cS,zct,zct,gV,nL,jj];exact this
theorem MB.ML (h:MB val T a b out na nb) (e:nb=0):Good val T (a.extract 0 na++b.extract 0 nb++out.reverse).toList:=by
 unfold MB at h;subst e;have:=MH.ML h;rw [cS,cS,zct,zct,gV,du,jj];exact this
theorem MB.first (h:MB val T a b out na nb) (e:nb=1) (sa:SIn val a 0 a.size) (h2:1<=b.size) (hf:Vk val b 0<=Vk val a 0):Good val T (b.extract 0 nb++a.extract 0 na++out.reverse).toList:=by
 unfold MB at h;subst e;have:=MH.first h fun p hp q hq=>by
  obtain⟨j,hj,tG,ej⟩:=zfA hp;have vN:j=0:=by lia
  subst vN;obtain⟨i,hi,his,ei⟩:=zfA hq;have:=sa 0 i (bX _) (bX _) his;rw [zag ei] at this;rw [zag ej] at hf;lia
 rw [cS,cS,zct,zct,jj];exact this
end
section
variable {prog:Program} {w:World} {A:Around} {E:TB} {s:Shared} {a₀:Array Keyed} {κ:SortKind} {val:Keyed->Int}
theorem zlc {st:SortSt} {a b:Array Keyed} {Q:Array Keyed->SortSt->Prop} (hC:Cmp prog w A s κ val a₀) (hk:kindOf st=κ) (ma:∀ p∈a.toList,p∈a₀.toList) (mb:∀ p∈b.toList,p∈a₀.toList)
  (sa:SIn val a 0 a.size) (sb:SIn val b 0 b.size) (h1:1<=a.size) (h2:1<=b.size) (hf:Vk val b 0<=Vk val a 0) (hl:∀ i,i < b.size->Vk val b i<=Vk val a (a.size - 1))
  (h:∀ out g,Good val #[wv] out.toList->Q out (zaA st g)):wpS #[ul] A E s (zmK a b) Q st:=by
 refine zg6 ?_
 wp_delta
 wp_delta
 refine zg7 ?_
 (refine aR #[Tb])
 refine zaG (xs:=a) (i:=a.size - 1) #[O] fun x0 wG Ji=>?_
 refine zaG (xs:=b) (i:=b.size - 1) #[O] fun y0 yc Jh=>?_
 refine aR (zac wG ?_);have I0:MB val #[wv] a b #[] (a.size - 1+1) b.size:=by
  refine⟨?_,jT,zii sa _,zii sb _,fun x _ y hy=>by simp at hy,fun x _ y hy=>by simp at hy⟩;rw [show a.size - 1+1=a.size by lia,bO #[M],bO #[M]];simp
 have I1:MB val #[wv] a b #[x0] (a.size - 1) b.size:=I0.MO sb h2 yc wG (by have:=hl (b.size - 1) #[O]; rw [zag yc,zag wG] at this; exact this);dsimp only;by_cases yd:a.size - 1=0
 ·refine zF #[U,yd] ?_;exact aT (h _ #[UH] (I1.MM yd))
 refine zG #[U,yd] ?_;by_cases vz:b.size=1
 ·refine zF #[U,vz] ?_;exact aT (h _ #[UH] (I1.first vz sa h2 hf))
 refine zG #[U,vz] ?_;refine aR (iH ?_);refine aR (fT (fr5 (fun g out na nb mg=>(none,na,nb,out,mg)) (fun g out na nb mg=>zaA st g) (fun x g out na nb mg=>MB val #[wv] a b out na nb/\1<=na/\2<=nb/\na<=a.size/\nb<=b.size/\x+na+nb+1<=a.size+b.size)
  (Q:=fun c oI=>∃ g r o,oI=zaA st g/\c=(some r,o)/\Good val #[wv] r.toList) ⟨gallopOf st,#[x0],a.size - 1,b.size,gallopOf st,rfl,rfl,I1,#[O],#[O],#[O],#[O],#[O]⟩ ?fin ?step) ?post)
 case post =>
  rintro c oI ⟨g,r,o,rfl,rfl,hG⟩;exact aT (h _ g hG)
 case fin =>
  rintro g out na nb mg ⟨hI,b1,b2,b3⟩;lia
 case step =>
  intro x g out na nb mg Fi hx J;have hI:=J.1;have b1:=J.2.1;have b2:=J.2.2.1;have b4:=J.2.2.2.1;have b5:=J.2.2.2.2.1;have b3:=J.2.2.2.2.2;dsimp only;refine zpn #[VV] #[Wj] (fun oV p6 p7 ac bc=>MB val #[wv] a b oV p6 p7/\1<=p6/\2<=p7/\p6<=a.size/\p7<=b.size/\1+p6+p7<=na+nb) (zaA st g) (fr5 #[VV] (fun oV p6 p7 ac bc=>zaA st g) (fun x oV p6 p7 ac bc=>MB val #[wv] a b oV p6 p7/\1<=p6/\2<=p7/\p6<=a.size/\p7<=b.size/\x+p6+p7<=na+nb) ⟨out,na,nb,0,0,rfl,rfl,hI,b1,b2,b4,b5,#[O]⟩ ?fin1 ?step1) #[Xk] ?post1
  case fin1 =>
   rintro oV p6 p7 ac bc ⟨hI,b1,b2,b4,b5,b3⟩;exact⟨rfl,.inr ⟨oV,p6,p7,ac,bc,rfl,hI,b1,b2,b4,b5,#[O]⟩⟩
  case step1 =>
   intro x1 oV p6 p7 ac bc Jj BV J;have hI:=J.1;have b1:=J.2.1;have b2:=J.2.2.1;have b4:=J.2.2.2.1;have b5:=J.2.2.2.2.1;have b3:=J.2.2.2.2.2;dsimp only;obtain⟨n1,rfl⟩:∃ n1,p6=n1+1:=⟨p6 - 1,#[O]⟩;obtain⟨m1,rfl⟩:∃ m1,p7=m1+1:=⟨p7 - 1,#[O]⟩;simp only [dz];refine zaG (xs:=b) (i:=m1) #[O] fun y ey my=>?_
   refine zaG (xs:=a) (i:=n1) #[O] fun z ez mz=>?_
   refine aR #[SU];dsimp only;by_cases Fj:val y < val z
   ·refine zF #[U,Fj] ?_;refine aR #[SQ];have rD:=hI.MO sb #[O] ey ez #[O];by_cases e1:n1=0
    ·refine zF #[U,e1] ?_;exact aT ⟨rfl,.inl ⟨_,_,rfl,rD.MM e1⟩⟩
    refine zG #[U,e1] ?_;refine zbk #[AC] #[AC]
    ·exact aT #[W1]
    ·exact aT ⟨_,_,_,_,_,rfl,rfl,rD,#[O],#[O],#[O],#[O],#[O]⟩
   ·refine zG #[U,Fj] ?_;refine aR #[Vi];have rD:=hI.NW sa #[O] ey ez #[O];by_cases e1:m1=1
    ·refine zF #[U,e1] ?_;exact aT ⟨rfl,.inl ⟨_,_,rfl,rD.first e1 sa h2 hf⟩⟩
    refine zG #[U,e1] ?_;refine zbk #[AC] #[AC]
    ·exact aT #[W1]
    ·exact aT ⟨_,_,_,_,_,rfl,rfl,rD,#[O],#[O],#[O],#[O],#[O]⟩
  case post1 =>
   intro CD Jq Jr Jm Jn J;have Jo:=J.1;have c1:=J.2.1;have c2:=J.2.2.1;have c4:=J.2.2.2.1;have c5:=J.2.2.2.2.1;have c3:=J.2.2.2.2.2;dsimp only
   (refine aR #[Tb])
   refine aR (fT (fr7 (fun g oV p6 p7 mg ac bc=>(none,p6,p7,oV,mg,ac,bc)) (fun g oV p6 p7 mg ac bc=>zaA st g) (fun x g oV p6 p7 mg ac bc=>MB val #[wv] a b oV p6 p7/\1<=p6/\2<=p7/\p6<=a.size/\p7<=b.size/\p6+p7<=Jq+Jr)
    (Q:=fun c oI=>∃ g,oI=zaA st g/\((∃ r o,c=(some r,o)/\Good val #[wv] r.toList)\/∃ oV p6 p7 mg ac bc,c=(none,p6,p7,oV,mg,ac,bc)/\MB val #[wv] a b oV p6 p7/\1<=p6/\2<=p7/\p6<=a.size/\p7<=b.size/\p6+p7<=Jq+Jr)) ⟨g,CD,Jq,Jr,_,Jm,Jn,rfl,rfl,Jo,c1,c2,c4,c5,aG _⟩ ?fin2 ?step2) ?post2)
   case fin2 =>
    rintro g oV p6 p7 mg ac bc ⟨hI,b1,b2,b4,b5,b3⟩;exact⟨g,rfl,.inr ⟨oV,p6,p7,mg,ac,bc,rfl,hI,b1,b2,b4,b5,b3⟩⟩
   case post2 =>
    rintro c oI ⟨g,rfl,hc⟩;rcases hc with ⟨r,o,rfl,hG⟩ | ⟨CF,na2,nb2,mg2,ac2,bc2,rfl,rD,d1,d2,d4,d5,d3⟩
    ·exact aT ⟨g,r,_,rfl,rfl,hG⟩
    dsimp only;refine aR (zdT (aT ⟨_,CF,na2,nb2,_,rfl,rfl,rD,d1,d2,d4,d5,#[O]⟩))
   case step2 =>
    intro x2 g oV p6 p7 CG ac bc CH yA J;have hI:=J.1;have b1:=J.2.1;have b2:=J.2.2.1;have b4:=J.2.2.2.1;have b5:=J.2.2.2.2.1;have b3:=J.2.2.2.2.2;dsimp only;obtain⟨m1,rfl⟩:∃ m1,p7=m1+1:=⟨p7 - 1,#[O]⟩;simp only [dz];refine zaG (xs:=b) (i:=m1) #[O] fun y ey my=>?_
    apply dup
    ·intro k1 k2;by_cases wY:CG > 1
     ·refine zF wY ?_;clear wY;generalize CG - 1=m0
      revert m0
      exact k1
     ·refine zG wY ?_;clear wY;generalize CG=m0
      revert m0
      exact k2
    intro mg0;refine aR (zdT (aR (zac ey (aR (zbO hC hk (mb y my) (fun i hi=>(by
     refine zaG (xs:=a) (i:=0+i) #[O] fun p ep mp=>?_
     exact⟨p,ep,ma p mp⟩)) (sa.sub #[O] #[O]) #[O] fun k BW sN BX=>?_)))))
    dsimp only;have rD:=hI.Nx (at':=k) sb BW #[O] ey fun i h1 h2=>gT (by have:=ze2 (BX i h1 h2); rwa [fH] at this)
    by_cases uO:p6 - k > 0
    ·refine zF uO ?_;by_cases e1:k=0
     ·refine zF #[U,e1] ?_;exact aT ⟨_,rfl,.inl ⟨_,_,rfl,rD.MM e1⟩⟩
     refine zG #[U,e1] ?_;obtain⟨n1,rfl⟩:∃ n1,k=n1+1:=#[U5];simp only [dz];refine aR #[Vi];refine zaG (xs:=a) (i:=n1) #[O] fun z ez mz=>?_
     have vM:=rD.NW sa #[O] ey (show a[n1+1 - 1]? = some z by rw [dz]; exact ez) (by have:=zdU (sN n1 #[O]); rw [fH,zag ez] at this; exact this);by_cases e3:m1=1
     ·refine zF #[U,e3] ?_;exact aT ⟨_,rfl,.inl ⟨_,_,rfl,vM.first e3 sa h2 hf⟩⟩
     refine zG #[U,e3] ?_;refine aR (zac ez (aR (zbO hC hk (ma z mz) (fun i hi=>(by
      refine zaG (xs:=b) (i:=0+i) #[O] fun p ep mp=>?_
      exact⟨p,ep,mb p mp⟩)) #[Ud] #[O] fun j CC vy Ba=>?_)))
     dsimp only;have xi:=vM.MX (at':=j) sa CC #[O] (show a[n1+1 - 1]? = some z by rw [dz]; exact ez) fun i h1 h2=>(by have:=zdz (Ba i h1 h2); rwa [fH] at this)
     by_cases vN:m1 - j > 0
     ·refine zF vN ?_;by_cases e4:j=1
      ·refine zF #[U,e4] ?_;exact aT ⟨_,rfl,.inl ⟨_,_,rfl,xi.first e4 sa h2 hf⟩⟩
      refine zG #[U,e4] ?_;by_cases e5:j=0
      ·refine zF #[U,e5] ?_;exact aT ⟨_,rfl,.inl ⟨_,_,rfl,xi.ML e5⟩⟩
      refine zG #[U,e5] ?_;refine zaG (xs:=b) (i:=j - 1) #[O] fun y2 sd Bb=>?_
      refine aR #[SQ];have qD:=xi.MO sb #[O] sd ez (by have:=zcJ #[Uy]; rw [fH,zag sd] at this; lia);by_cases e9:n1=0
      ·refine zF #[U,e9] ?_;exact aT ⟨_,rfl,.inl ⟨_,_,rfl,qD.MM e9⟩⟩
      refine zG #[U,e9] ?_;refine zbk #[AC] #[AC]
      ·exact aT #[IR]
      ·exact aT #[Qm]
     ·refine zG vN ?_;have Js:j=m1:=by lia
      subst Js;refine zaG (xs:=b) (i:=j - 1) #[O] fun y2 sd Bb=>?_
      refine aR #[SQ];have qD:=vM.MO sb #[O] sd ez (by have:=zcJ #[Uy]; rw [fH,zag sd] at this; lia);by_cases e9:n1=0
      ·refine zF #[U,e9] ?_;exact aT ⟨_,rfl,.inl ⟨_,_,rfl,qD.MM e9⟩⟩
      refine zG #[U,e9] ?_;refine zbk #[AC] #[AC]
      ·exact aT #[IR]
      ·exact aT #[Qm]
    ·refine zG uO ?_;have G2:k=p6:=by lia
     subst G2;obtain⟨n1,rfl⟩:∃ n1,k=n1+1:=#[U5];simp only [dz];refine aR #[Vi];refine zaG (xs:=a) (i:=n1) #[O] fun z ez mz=>?_
     have vM:=hI.NW sa #[O] ey (show a[n1+1 - 1]? = some z by rw [dz]; exact ez) (by have:=zdU (sN n1 #[O]); rw [fH,zag ez] at this; exact this);by_cases e3:m1=1
     ·refine zF #[U,e3] ?_;exact aT ⟨_,rfl,.inl ⟨_,_,rfl,vM.first e3 sa h2 hf⟩⟩
     refine zG #[U,e3] ?_;refine aR (zac ez (aR (zbO hC hk (ma z mz) (fun i hi=>(by
      refine zaG (xs:=b) (i:=0+i) #[O] fun p ep mp=>?_
      exact⟨p,ep,mb p mp⟩)) #[Ud] #[O] fun j CC vy Ba=>?_)))
     dsimp only;have xi:=vM.MX (at':=j) sa CC #[O] (show a[n1+1 - 1]? = some z by rw [dz]; exact ez) fun i h1 h2=>(by have:=zdz (Ba i h1 h2); rwa [fH] at this)
     by_cases vN:m1 - j > 0
     ·refine zF vN ?_;by_cases e4:j=1
      ·refine zF #[U,e4] ?_;exact aT ⟨_,rfl,.inl ⟨_,_,rfl,xi.first e4 sa h2 hf⟩⟩
      refine zG #[U,e4] ?_;by_cases e5:j=0
      ·refine zF #[U,e5] ?_;exact aT ⟨_,rfl,.inl ⟨_,_,rfl,xi.ML e5⟩⟩
      refine zG #[U,e5] ?_;refine zaG (xs:=b) (i:=j - 1) #[O] fun y2 sd Bb=>?_
      refine aR #[SQ];have qD:=xi.MO sb #[O] sd ez (by have:=zcJ #[Uy]; rw [fH,zag sd] at this; lia);by_cases e9:n1=0
      ·refine zF #[U,e9] ?_;exact aT ⟨_,rfl,.inl ⟨_,_,rfl,qD.MM e9⟩⟩
      refine zG #[U,e9] ?_;refine zbk #[AC] #[AC]
      ·exact aT #[IR]
      ·exact aT #[Qm]
     ·refine zG vN ?_;have Js:j=m1:=by lia
      subst Js;refine zaG (xs:=b) (i:=j - 1) #[O] fun y2 sd Bb=>?_
      refine aR #[SQ];have qD:=vM.MO sb #[O] sd ez (by have:=zcJ #[Uy]; rw [fH,zag sd] at this; lia);by_cases e9:n1=0
      ·refine zF #[U,e9] ?_;exact aT ⟨_,rfl,.inl ⟨_,_,rfl,qD.MM e9⟩⟩
      refine zG #[U,e9] ?_;refine zbk #[AC] #[AC]
      ·exact aT #[IR]
      ·exact aT #[Qm]
end
end Srt
end
section
namespace Srt
open PySem PyProof.Rows
variable {j k sa:Nat}
noncomputable def wb (sa:Nat) (l:List (Keyed×Nat)) (xs:Array Keyed):Array Keyed:=l.foldl (fun a (p,j)=>a.setIfInBounds (sa+j) p) xs
theorem zmN (sa:Nat):∀ (l:List Keyed) (n:Nat) (xs:Array Keyed) (k:Nat),sa+n+l.length<=xs.size->(wb sa (l.zipIdx n) xs)[k]? = if sa+n<=k/\k < sa+n+l.length then l[k - (sa+n)]? else xs[k]?
 | [],n,xs,k,h=>by
  rw [if_neg (by simp only [kF]; lia)];rfl
 | p :: l,n,xs,k,h=>by
  have hl:(p :: l).length=l.length+1:=rfl;rw [hl] at h |-;show (wb sa (l.zipIdx (n+1)) (xs.setIfInBounds (sa+n) p))[k]? = _;rw [zmN sa l (n+1) _ k (by rw [Array.size_setIfInBounds]; lia)];by_cases h1:sa+(n+1)<=k/\k < sa+(n+1)+l.length
  ·rw [if_pos h1,if_pos #[O],show k - (sa+n)=k - (sa+(n+1))+1 by lia,fc]
  ·rw [if_neg h1,Array.getElem?_setIfInBounds];by_cases h2:sa+n=k
   ·rw [if_pos h2,if_pos #[O],if_pos #[O],show k - (sa+n)=0 by lia];rfl
   ·rw [if_neg h2,if_neg #[O]]
theorem zor {m xs:Array Keyed} (h:sa+m.size<=xs.size):#[W5].toList=xs.toList.take sa++m.toList++xs.toList.drop (sa+m.size):=by
 have hm:m.toList.length=m.size:=by simp
 have hx:xs.toList.length=xs.size:=by simp
 refine jZ fun k=>?_
 rw [cD,zmN sa m.toList 0 xs k (by rw [hm]; lia),hm,gz];by_cases h1:k < sa
 ·rw [if_neg #[O],cE,cQ (by rw [bC]; lia),dw h1,cD]
 ·by_cases h2:k < sa+m.size
  ·rw [if_pos #[O],cE,dQ (by rw [bC]; lia),bC,hx,show min sa xs.size=sa by lia,cQ #[O]]
  ·rw [if_neg #[O],dQ (by rw [aS,bC]; lia),aS,bC,hx,show min sa xs.size=sa by lia,hm,iu,show sa+m.size+(k - (sa+m.size))=k by lia,cD]
theorem zld (xs:List Keyed) {i:Nat} (h1:i<=j) (h2:j<=k):xs=xs.take i++((xs.drop i).take (j - i)++(xs.drop j).take (k - j))++xs.drop k:=by
 have e1:xs.drop i=(xs.drop i).take (j - i)++xs.drop j:=by
  have:=(eK (j - i) (xs.drop i)).symm
  rwa [k6,show i+(j - i)=j by lia] at this
 have e2:xs.drop j=(xs.drop j).take (k - j)++xs.drop k:=by
  have:=(eK (k - j) (xs.drop j)).symm
  rwa [k6,show j+(k - j)=k by lia] at this
 have e0:=(eK i xs).symm;rw [e1,e2] at e0;rw [cE,cE];exact e0
theorem zdV (xs:Array Keyed) (i j:Nat):#[Sf].toList=#[Ss].take (j - i):=by
 rw [fI]
theorem zos {sb e:Nat} {m xs:Array Keyed} (h1:sa<=sb) (h2:sb<=e) (h3:e<=xs.size) (hp:m.toList.Perm ((xs.extract sa sb).toList++(xs.extract sb e).toList)):#[W5].Perm xs:=by
 have hms:m.size=e - sa:=by
  have:=hp.length_eq;rw [aS,zdV,zdV,bC,bC,fq,fq] at this;have hx:xs.toList.length=xs.size:=by simp
  have hm:m.toList.length=m.size:=by simp
  lia
 rw [h9,zor #[O],show sa+m.size=e by lia];refine im ((hp.append_left _).append_right _) ?_;rw [zdV,zdV,<- zld xs.toList h1 h2]
section
variable {prog:Program} {w:World} {A:Around} {E:TB} {s:Shared} {a₀:Array Keyed} {κ:SortKind} {val:Keyed->Int}
theorem zdA {xs:Array Keyed} {i:Nat} (h:k < j - i) (hj:j<=xs.size):#[Sf][k]? = xs[i+k]?:=by
 rw [<- cD,zdV,dw h,iu,cD]
theorem zdW {xs:Array Keyed} {i:Nat} (hj:j<=xs.size):#[Sf].size=j - i:=by rw [Array.size_extract,fJ hj]
theorem zka {xs:Array Keyed} {i:Nat} (hj:j<=xs.size) (h:SIn val xs i j):SIn val #[Sf] 0 #[Sf].size:=by
 rw [zdW hj];intro p q _ hpq hq;rw [zas (zdA #[O] hj),zas (zdA hq hj)];exact h _ _ #[O] #[O] #[O]
theorem ze4 {xs:Array Keyed} {i:Nat} (hj:j<=xs.size) {p:Keyed} (h:p∈#[Sf].toList):∃ k,i<=k/\k < j/\xs[k]? = some p:=by
 obtain⟨k,hk,e⟩:=fj h;have AI:k < j - i:=by
  rwa [cL,zdW hj] at hk
 refine⟨i+k,#[O],#[O],?_⟩;rw [<- zdA AI hj,<- cD,aJ hk,e]
theorem zle {st:SortSt} {i na pw sb nb pw2:Nat} {Q:Bool->SortSt->Prop} (hC:Cmp prog w A s κ val a₀) (hB:SB κ a₀ st) (e1:#[Tg][i]? = some (sa,na,pw)) (e2:#[Tg][i+1]? = some (sb,nb,pw2))
  (pZ:sb=sa+na) (hna:1<=na) (hnb:1<=nb) (hsz:sb+nb<=a₀.size) (sA:SIn val #[wp] sa (sa+na)) (sB:SIn val #[wp] sb (sb+nb))
  (h:∀ oI,SB κ a₀ oI->pendingOf oI=(#[Tg].setIfInBounds i (sa,na+nb,pw)).eraseIdxIfInBounds (i+1)->(∀ k,(k < sa\/sb+nb<=k)->#[BT][k]? = #[wp][k]?)->SIn val #[BT] sa (sb+nb)->Q true oI) :
  wpS #[ul] A E s (mergeAt' i) Q st:=by
 refine zg6 ?_
 wp_delta
 wp_delta
 refine zg7 ?_;refine aR (iH ?_);rw [e1,e2];dsimp only;have Fk:=hB.size;obtain⟨y0,yc,Jh⟩:=hB.mem (i:=sb) #[O];generalize CJ:(sortPriv% PySem.Builtin.SortState.mk) (kindOf st) #[wp] ((#[Tg].setIfInBounds i (sa,na+nb,pw)).eraseIdxIfInBounds (i+1)) #[UH] (failedOf st)=qT;have yB:SB κ a₀ qT:=by subst CJ; exact⟨hB.perm,hB.kind,hB.failed⟩
 have xg:pendingOf qT=(#[Tg].setIfInBounds i (sa,na+nb,pw)).eraseIdxIfInBounds (i+1):=by subst CJ; rfl
 have yd:arrOf qT=arrOf st:=by subst CJ; rfl
 have Bc:∀ n,n < a₀.size->∃ p,#[wp][n]? = some p/\p∈a₀.toList:=fun n hn=>hB.mem hn
 refine aR (show wpS _ _ _ _ (set qT) _ st from gZ (f:=fun _=>qT) ?_);refine aR (zac yc (aR (zbO (arr:=arrOf st) hC yB.kind Jh (fun j hj=>Bc (sa+j) #[O]) sA #[O] fun k BW sN BX=>?_)));dsimp only;have Fl:∀ j,sa<=j->j < sa+k->Vk val #[wp] j<=Vk val #[wp] sb:=fun j h1 h2=>by
  have:=zdU (sN (j - sa) #[O])
  rwa [show sa+(j - sa)=j by lia,<- zag (val:=val) yc] at this
 by_cases uO:na - k=0
 ·rw [if_pos #[U,uO]];refine aT (h qT yB xg (fun _ _=>by rw [yd]) ?_);rw [yd];intro p q h1 h2 h3;by_cases hq:q < sa+na
  ·exact sA p q h1 h2 hq
  ·by_cases hp:p < sa+na
   ·exact cX (Fl p h1 #[O]) (sB sb q #[O] #[O] h3)
   ·exact sB p q #[O] h2 h3
 rw [if_neg #[U,uO]];have Fm:sa+k+(na - k) - 1=sa+na - 1:=by lia
 rw [Fm];obtain⟨x0,wG,Ji⟩:=hB.mem (i:=sa+na - 1) #[O];refine aR (zac wG (aR (zbO (arr:=arrOf st) hC yB.kind Ji (fun j hj=>Bc (sb+j) #[O]) sB #[O] fun m vK uy Jt=>?_)));dsimp only;have BY:∀ j,sb+m<=j->j < sb+nb->Vk val #[wp] (sa+na - 1)<=Vk val #[wp] j:=fun j h1 h2=>by
  have:=zdz (Jt (j - sb) #[O] #[O])
  rwa [show sb+(j - sb)=j by lia,<- zag (val:=val) wG] at this
 have Ju:∀ j,sb<=j->j < sb+m->Vk val #[wp] j < Vk val #[wp] (sa+na - 1):=fun j h1 h2=>by
  have:=zcJ (uy (j - sb) #[O])
  rwa [show sb+(j - sb)=j by lia,<- zag (val:=val) wG] at this
 by_cases G3:m=0
 ·rw [if_pos #[U,G3]];refine aT (h qT yB xg (fun _ _=>by rw [yd]) ?_);rw [yd];intro p q h1 h2 h3;by_cases hq:q < sa+na
  ·exact sA p q h1 h2 hq
  ·by_cases hp:p < sa+na
   ·exact cX (sA p (sa+na - 1) h1 #[O] #[O]) (BY q #[O] h3)
   ·exact sB p q #[O] h2 h3
 rw [if_neg #[U,G3]];have zx:#[wp].size=a₀.size:=Fk;have z1:=zdW (xs:=arrOf st) (i:=sa+k) (j:=sb) #[O];have z2:=zdW (xs:=arrOf st) (i:=sb) (j:=sb+m) #[O];have hf:Vk val (#[wp].extract sb (sb+m)) 0<=Vk val (#[wp].extract (sa+k) sb) 0:=by
  rw [zas (zdA #[O] #[O]),zas (zdA (xs:=arrOf st) (i:=sa+k) (j:=sb) (k:=0) #[O] #[O])];have:=ze2 (BX k (aG _) #[O]);rw [<- zag (val:=val) yc] at this;simp only [gz] at this |-;lia
 have hl:∀ j,j < (#[wp].extract sb (sb+m)).size->Vk val (#[wp].extract sb (sb+m)) j<=Vk val (#[wp].extract (sa+k) sb) ((#[wp].extract (sa+k) sb).size - 1):=by
  intro j hj;rw [z2] at hj;rw [z1,zas (zdA #[O] #[O]),zas (zdA (xs:=arrOf st) (i:=sa+k) (j:=sb) #[O] #[O])];have:=Ju (sb+j) #[O] #[O];rw [show sa+k+(sb - (sa+k) - 1)=sa+na - 1 by lia];lia
 have fin:∀ (out:Array Keyed) (g:Nat),Good val ((#[wp].extract (sa+k) sb).toList++(#[wp].extract sb (sb+m)).toList) out.toList ->
   wpS #[ul] A E s (do
    modify fun s=>setArr s (out.toList.zipIdx.foldl (fun a (p,j)=>a.setIfInBounds (sa+k+j) p) (arrOf s))
    let s' <- get
    pure (failedOf s').isNone) Q (zaA qT g):=by
  intro out g hG;refine aR (gZ (aR (iH ?_)));have hms:out.size=sb+m - (sa+k):=by
   have:=hG.1.length_eq;rw [aS] at this;have e1:out.toList.length=out.size:=by simp
   have e2:(#[wp].extract (sa+k) sb).toList.length=sb - (sa+k):=by rw [cL,z1]
   have e3:(#[wp].extract sb (sb+m)).toList.length=sb+m - sb:=by rw [cL,z2]
   lia
  have se:=zos (xs:=arrOf st) (sa:=sa+k) (sb:=sb) (e:=sb+m) #[O] #[O] #[O] hG.1;have pJ:∀ n,#[FM][n]? = if sa+k<=n/\n < sb+m then out[n - (sa+k)]? else #[wp][n]?:=fun n=>by
   have:=zmN (sa+k) out.toList 0 #[wp] n (by rw [cL]; lia);rw [cL,gz,hms,show sa+k+(sb+m - (sa+k))=sb+m by lia,cD] at this;exact this
  have DR:(failedOf (setArr (zaA qT g) #[FM])).isNone=true:=by
   show (failedOf qT).isNone=true;rw [yB.failed];rfl
  have Jv:arrOf (zaA qT g)=arrOf st:=yd;show wpS _ _ _ _ (pure (failedOf #[Sj]).isNone) Q #[Sj];rw [Jv,DR];refine aT (h _ ⟨se.trans hB.perm,yB.kind,yB.failed⟩ xg (fun n hn=>?_) ?_)
  ·show #[FM][n]? = _;rw [pJ,if_neg #[O]]
  ·show SIn val #[FM] sa (sb+nb);have rW:∀ n,sa+k<=n->n < sb+m->∃ q,sa+k<=q/\q < sb+m/\Vk val #[FM] n=Vk val #[wp] q:=fun n h1 h2=>by
    have ho:n - (sa+k) < out.size:=by lia
    have DX:out[n - (sa+k)]? = some out[n - (sa+k)]:=getElem?_pos out _ ho;have si:out[n - (sa+k)]∈(#[wp].extract (sa+k) sb).toList++(#[wp].extract sb (sb+m)).toList:=hG.1.mem_iff.mp #[M];have hv:Vk val #[FM] n=val out[n - (sa+k)]:=zag (by rw [pJ,if_pos ⟨h1,h2⟩,DX]);rcases bZ.mp si with si | si
    ·obtain⟨q,q1,q2,q3⟩:=ze4 #[O] si;exact⟨q,q1,#[O],by rw [hv,zag q3]⟩
    ·obtain⟨q,q1,q2,q3⟩:=ze4 #[O] si;exact⟨q,#[O],q2,by rw [hv,zag q3]⟩
   have uP:∀ n,¬ (sa+k<=n/\n < sb+m)->Vk val #[FM] n=Vk val #[wp] n:=fun n hn=>zas (by rw [pJ,if_neg hn])
   intro p q h1 h2 h3;by_cases hp:p < sa+k
   ·rw [uP p #[O]];by_cases hq:q < sa+k
    ·rw [uP q #[O]];exact sA p q h1 h2 #[O]
    ·have key:∀ q',sa+k<=q'->q' < sb+nb->Vk val #[wp] p<=Vk val #[wp] q':=fun q' a1 a2=>by
      by_cases qL:q' < sb
      ·exact sA p q' h1 #[O] #[O]
      ·exact cX (Fl p h1 hp) (sB sb q' #[O] #[O] a2)
     by_cases qJ:q < sb+m
     ·obtain⟨q',q1,q2,q3⟩:=rW q #[O] qJ;rw [q3];exact key q' q1 #[O]
     ·rw [uP q #[O]];exact key q #[O] h3
   ·by_cases rY:p < sb+m
    ·by_cases qJ:q < sb+m
     ·have CK:p - (sa+k) < out.size:=by lia
      have DX:q - (sa+k) < out.size:=by lia
      rw [zag (p:=out[p - (sa+k)]) (by rw [pJ,if_pos #[O]]; exact getElem?_pos out _ CK),zag (p:=out[q - (sa+k)]) (by rw [pJ,if_pos #[O]]; exact getElem?_pos out _ DX)];by_cases hpq:p=q
      ·subst hpq;exact dv _
      ·have:=eI.mp hG.2 (p - (sa+k)) (q - (sa+k)) #[U,CK] #[U,DX] #[O];simpa using this
     ·obtain⟨p',p1,p2,p3⟩:=rW p #[O] rY;rw [p3,uP q #[O]];by_cases ux:p' < sb
      ·exact cX (sA p' (sa+na - 1) #[O] #[O] #[O]) (BY q #[O] h3)
      ·exact sB p' q #[O] #[O] h3
    ·rw [uP p #[O],uP q #[O]];exact sB p q #[O] h2 h3
 have ma:∀ p∈(#[wp].extract (sa+k) sb).toList,p∈a₀.toList:=fun p hp=>by
  obtain⟨q,q1,q2,q3⟩:=ze4 #[O] hp;obtain⟨p',e,m'⟩:=Bc q #[O];rw [q3] at e;cases e;exact m'
 have mb:∀ p∈(#[wp].extract sb (sb+m)).toList,p∈a₀.toList:=fun p hp=>by
  obtain⟨q,q1,q2,q3⟩:=ze4 #[O] hp;obtain⟨p',e,m'⟩:=Bc q #[O];rw [q3] at e;cases e;exact m'
 have ss1:=zka (val:=val) (xs:=arrOf st) (i:=sa+k) (j:=sb) #[O] (sA.sub #[O] #[O]);have ss2:=zka (val:=val) (xs:=arrOf st) (i:=sb) (j:=sb+m) #[O] (sB.sub #[O] #[O]);by_cases hle:na - k<=m
 ·rw [if_pos hle];exact aR (zlb (a:=#[wp].extract (sa+k) sb) (b:=#[wp].extract sb (sb+m)) hC yB.kind ma mb ss1 ss2 #[O] #[O] hf hl fin)
 ·rw [if_neg hle];exact aR (zlc (a:=#[wp].extract (sa+k) sb) (b:=#[wp].extract sb (sb+m)) hC yB.kind ma mb ss1 ss2 #[O] #[O] hf hl fin)
end
end Srt
end
section
namespace Srt
open PySem PyProof.Rows
variable {j:Nat}
noncomputable def Runs (val:Keyed->Int) (xs:Array Keyed):List (Nat×Nat×Nat)->Nat->Nat->Prop
 | [],lo,hi=>lo=hi
 | (s,n,_) :: r,lo,hi=>s=lo/\1<=n/\SIn val xs lo (lo+n)/\Runs val xs r (lo+n) hi
section
variable {val:Keyed->Int}
theorem Runs.le {xs:Array Keyed}:∀ {p:List (Nat×Nat×Nat)} {lo hi:Nat},Runs val xs p lo hi->lo+p.length<=hi
 | [],lo,hi,h=>by
  have h:lo=hi:=h;simp only [kF];lia
 | (s,n,w) :: r,lo,hi,h=>by
  obtain⟨_,h1,_,h2⟩:=h;have:=h2.le;simp only [dN];lia
theorem Runs.append {xs:Array Keyed}:∀ {p q:List (Nat×Nat×Nat)} {lo hi:Nat},Runs val xs (p++q) lo hi↔∃ mid,Runs val xs p lo mid/\Runs val xs q mid hi
 | [],q,lo,hi=>⟨fun h=>⟨lo,rfl,h⟩,fun ⟨mid,h1,h2⟩=>by
   have h1:lo=mid:=h1;subst h1;exact h2⟩
 | (s,n,w) :: p,q,lo,hi=>by
  constructor
  ·rintro⟨h1,h2,h3,h4⟩;obtain⟨mid,h5,h6⟩:=Runs.append.mp h4;exact⟨mid,⟨h1,h2,h3,h5⟩,h6⟩
  ·rintro⟨mid,⟨h1,h2,h3,h5⟩,h6⟩;exact⟨h1,h2,h3,Runs.append.mpr ⟨mid,h5,h6⟩⟩
theorem Runs.keep {xs ys:Array Keyed}:∀ {p:List (Nat×Nat×Nat)} {lo hi:Nat},Runs val xs p lo hi->(∀ k,lo<=k->k < hi->ys[k]? = xs[k]?)->Runs val ys p lo hi
 | [],lo,hi,h,_=>h
 | (s,n,w) :: p,lo,hi,h,e=>by
  obtain⟨h1,h2,h3,h4⟩:=h;have:=h4.le;refine⟨h1,h2,fun i j a b c=>?_,h4.keep fun k a b=>e k #[O] b⟩;rw [zas (e i #[O] #[O]),zas (e j #[O] #[O])];exact h3 i j a b c
theorem zmO {α:Type} (p q:List α) (x y v:α):((p++x :: y :: q).toArray.setIfInBounds p.length v).eraseIdxIfInBounds (p.length+1)=(p++v :: q).toArray:=by
 simp [Array.eraseIdxIfInBounds];rw [List.eraseIdx_append_of_length_le #[O],show p.length+1 - p.length=1 by lia];rfl
theorem zmP {α:Type} (q:List α) (z:α) (f:α->α):(q++[z]).toArray.modify ((q++[z]).toArray.size - 1) f=(q++[f z]).toArray:=by
 apply Array.ext';simp;induction q with
 | nil=>rfl
 | cons a q ih =>
  show (a :: (q++[z])).modify (q.length+1) f=a :: (q++[f z]);rw [List.modify_succ_cons,ih]
theorem zkb {xs:Array Keyed} {p:List (Nat×Nat×Nat)} {n:Nat} (hl:p.length<=1) (hn:1<=n) (h:Runs val xs p 0 n):SIn val xs 0 n:=by
 match p,hl,h with
 | [],_,h =>
  have h:0=n:=h;lia
 | [(a,b,c)],_,h =>
  obtain⟨_,_,h3,h4⟩:=h;have h4:0+b=n:=h4;rw [<- h4];exact h3
 | _ :: _ :: _,hl,_=>simp at hl
theorem zlf {α:Type} {p:List α} (h:j+2<=p.length):∃ pre x y post,p=pre++x :: y :: post/\pre.length=j:=by
 refine⟨p.take j,p[j],p[j+1],p.drop (j+2),?_,by rw [bC]; lia⟩;have e1:=(eK j p).symm;rw [fB (show j < p.length by lia),fB (show j+1 < p.length by lia)] at e1;exact e1
end
section
variable {prog:Program} {w:World} {A:Around} {E:TB} {s:Shared} {a₀:Array Keyed} {κ:SortKind} {val:Keyed->Int}
theorem zij {st:SortSt} {pre post:List (Nat×Nat×Nat)} {x y:Nat×Nat×Nat} {hi:Nat} {Q:Bool->SortSt->Prop} (hC:Cmp prog w A s κ val a₀) (hB:SB κ a₀ st) (hp:pendingOf st=(pre++x :: y :: post).toArray) (hR:Runs val #[wp] (pre++x :: y :: post) 0 hi) (AZ:hi<=a₀.size)
  (h:∀ oI v,SB κ a₀ oI->pendingOf oI=(pre++v :: post).toArray->(∀ k,hi<=k->#[BT][k]? = #[wp][k]?)->Runs val #[BT] (pre++v :: post) 0 hi->Q true oI) :
  wpS #[ul] A E s (mergeAt' pre.length) Q st:=by
 obtain⟨sa,na,pw⟩:=x;obtain⟨sb,nb,pw2⟩:=y;obtain⟨mid,r1,r2⟩:=Runs.append.mp hR;obtain⟨rfl,q1,q2,rfl,q4,q5,r3⟩:=r2;have hle:=r3.le;refine zle (i:=pre.length) (sa:=sa) (na:=na) (pw:=pw) (sb:=sa+na) (nb:=nb) (pw2:=pw2) hC hB (by rw [hp]; simp) (by rw [hp]; simp) rfl q1 q4 #[O] q2 q5 fun oI qC ux hk hs=>?_
 refine h oI (sa,na+nb,pw) qC (by rw [ux,hp,zmO]) (fun k AI=>hk k #[O]) ?_;refine Runs.append.mpr ⟨sa,r1.keep fun k _ b=>hk k #[O],rfl,#[O],?_,?_⟩
 ·rw [<- jQ];exact hs
 ·rw [<- jQ];exact r3.keep fun k a b=>hk k #[O]
theorem zot {n:Nat} {c:Prop} [Decidable c] (h:¬ n<=1):(if c then n - 2 - 1 else n - 2)+2<=n:=by
 by_cases hc:c
 ·rw [if_pos hc];lia
 ·rw [if_neg hc];lia
theorem zmQ {st:SortSt} {p:List (Nat×Nat×Nat)} {hi:Nat} {Q:Bool->SortSt->Prop} (hj:j+2<=p.length) (hC:Cmp prog w A s κ val a₀) (hB:SB κ a₀ st) (hp:pendingOf st=p.toArray) (hR:Runs val #[wp] p 0 hi) (AZ:hi<=a₀.size)
  (h:∀ oI p',SB κ a₀ oI->pendingOf oI=p'.toArray->Runs val #[BT] p' 0 hi->p'.length+1=p.length->Q true oI):wpS #[ul] A E s (mergeAt' j) Q st:=by
 obtain⟨pre,x,y,post,rfl,rfl⟩:=zlf hj;exact zij hC hB hp hR AZ fun oI v a b _ d=>h oI _ a b d (by simp only [aS,dN]; lia)
theorem zqj {st:SortSt} {Q:Unit->SortSt->Prop} (hC:Cmp prog w A s κ val a₀) (hB:SB κ a₀ st) (hp:pendingOf st = #[]) (h2:1<=a₀.size)
  (h:∀ oI,SB κ a₀ oI->SIn val #[BT] 0 a₀.size->Q () oI):wpS #[ul] A E s sortRuns' Q st:=by
 rw [sortRuns'_eq];refine aR (iH ?_);dsimp only;rw [hB.size];generalize minRun' a₀.size a₀.size 0=mr;refine aR (fT (eS (I:=fun x c oI=>∃ lo p,c=(none,lo)/\SB κ a₀ oI/\pendingOf oI=p.toArray/\Runs val #[BT] p 0 lo/\lo<=a₀.size/\min x a₀.size<=lo)
  (Q:=fun c oI=>∃ p,c=(none,a₀.size)/\SB κ a₀ oI/\pendingOf oI=p.toArray/\Runs val #[BT] p 0 a₀.size) ?step ?fin ⟨0,[],rfl,hB,hp,rfl,#[O],#[O]⟩) ?post)
 case fin =>
  rintro c oI ⟨lo,p,rfl,qC,ux,hR,sM,hx⟩;have:lo=a₀.size:=by lia
  subst this;exact⟨p,rfl,qC,ux,hR⟩
 case step =>
  rintro x c oI _ hx ⟨lo,p,rfl,qC,ux,hR,sM,Jw⟩;dsimp only;by_cases p9:lo>=a₀.size
  ·rw [if_pos p9];have:lo=a₀.size:=by lia
   subst this;exact aT ⟨p,rfl,qC,ux,hR⟩
  rw [if_neg p9];refine aR (zoo hC #[O] #[O] (SF.refl qC) fun m qT hF1 vK uy hs1=>?_);dsimp only;apply zrJ
  ·intro k1 k2;by_cases Jx:m < mr
   ·rw [if_pos Jx]
    (refine aR #[Tb])
    refine aR (zra hC #[O] #[O] hF1 hs1 fun pD BZ qU=>?_);rw [if_neg #[D]];have vw:1<=min #[WZ] mr:=by lia
    have yb:lo+min #[WZ] mr<=a₀.size:=by lia
    generalize min #[WZ] mr=n at qU vw yb |-
    revert yb; revert vw; revert qU; revert BZ; revert pD; revert n
    exact k1 ()
   ·rw [if_neg Jx];have yb:lo+m<=a₀.size:=by lia
    clear uy Jx
    revert yb; revert vK; revert hs1; revert hF1; revert qT; revert m
    exact k2 ()
  intro n pD BZ qU vw yb;refine aR (iH ?_);have xg:pendingOf pD=p.toArray:=BZ.pend.trans ux;have D6:Runs val (arrOf pD) p 0 lo:=hR.keep fun k _ b=>BZ.low k b
  rcases k7 p with rfl | ⟨q,z,rfl⟩
  ·rw [xg];show wpS _ _ _ _ (do
    modify fun s=>setPending s ((pendingOf s).push (lo,n,0)); pure (eG (none,lo+n))) _ _
   refine aR (gZ (aT ⟨lo+n,[(lo,n,0)],rfl,⟨BZ.b.perm,BZ.b.kind,BZ.b.failed⟩,?_,?_,#[O],#[O]⟩))
   ·show #[RS].push _=_;rw [xg];rfl
   ·have h0:0=lo:=D6;subst h0;exact⟨rfl,vw,qU,rfl⟩
  obtain⟨s1,n1,w1⟩:=z;rw [xg,ja,show ((q++[(s1,n1,w1)]).toArray).back? = some (s1,n1,w1) by simp];rw [ja] at xg D6;dsimp only;generalize power' a₀.size (2*s1+n1) (2*s1+n1+n1+n) a₀.size=pw;refine aR (fT (eS (I:=fun _ c oI=>c=(none,())/\∃ q' z,SB κ a₀ oI/\pendingOf oI=(q'++[z]).toArray/\Runs val #[BT] (q'++[z]) 0 lo/\(∀ k,lo<=k->#[BT][k]? = (arrOf pD)[k]?))
   (Q:=fun c oI=>c=(none,())/\∃ q' z,SB κ a₀ oI/\pendingOf oI=(q'++[z]).toArray/\Runs val #[BT] (q'++[z]) 0 lo/\(∀ k,lo<=k->#[BT][k]? = (arrOf pD)[k]?)) ?_ (fun _ _ hh=>hh) ⟨rfl,q,(s1,n1,w1),BZ.b,xg,D6,fun _ _=>rfl⟩) ?_)
  ·rintro x2 c pD _ yA ⟨rfl,q',z,uQ,rY,yC,sN⟩;refine aR (iH ?_);rcases k7 q' with rfl | ⟨q2,y,rfl⟩
   ·rw [rY,if_neg #[M]];exact aT ⟨rfl,[],z,uQ,rY,yC,sN⟩
   rw [ja,cE] at rY yC;have G4:#[RS].size - 2=q2.length:=by rw [rY]; simp
   have eel:(if #[RS].size > 1 then #[RS][#[RS].size - 2]? else none)=some y:=by
    rw [if_pos (by rw [rY]; simp),G4,rY];simp
   rw [eel];obtain⟨y1,y2,y3⟩:=y;dsimp only;by_cases ho:y3<=pw
   ·rw [if_pos ho];exact aT ⟨rfl,q2++[(y1,y2,y3)],z,uQ,by rw [rY,cE],by rw [cE]; exact yC,sN⟩
   ·rw [if_neg ho,G4];refine aR (zij hC uQ rY yC #[O] fun xV v B0 Av BX Fn=>?_);rw [if_neg #[D]];exact aT ⟨rfl,q2,v,B0,Av,Fn,fun k hk=>(BX k hk).trans (sN k hk)⟩
  ·rintro c pD ⟨rfl,q',z,uQ,rY,yC,sN⟩;obtain⟨z1,z2,z3⟩:=z;dsimp only;refine aR (gZ (aR (gZ (aT ⟨lo+n,q'++[(z1,z2,pw),(lo,n,0)],rfl,⟨uQ.perm,uQ.kind,uQ.failed⟩,?_,?_,#[O],#[O]⟩))))
   ·show (#[RS].modify (#[RS].size - 1) fun x=>(x.fst,x.2.fst,pw)).push (lo,n,0)=_;rw [rY,zmP];simp
   ·show Runs val (arrOf pD) _ _ _;obtain⟨mid,r1,r2⟩:=Runs.append.mp yC;obtain⟨e1,e2,e3,e4⟩:=r2;have e4:mid+z2=lo:=e4;refine Runs.append.mpr ⟨mid,r1,e1,e2,e3,e4.symm,vw,?_,?_⟩
    ·intro i j a1 a2 a3;rw [zas (sN i #[O]),zas (sN j #[O])];exact qU i j #[O] a2 #[O]
    ·show mid+z2+n=lo+n;lia
 case post =>
  rintro c qT ⟨p,rfl,yB,xg,D6⟩;dsimp only;have pN:=D6.le;refine aR (fT (eS (I:=fun x c oI=>c=(none,())/\∃ p,SB κ a₀ oI/\pendingOf oI=p.toArray/\Runs val #[BT] p 0 a₀.size/\p.length<=max 1 (a₀.size - x))
   (Q:=fun c oI=>c=(none,())/\SB κ a₀ oI/\SIn val #[BT] 0 a₀.size) ?_ ?_ ⟨rfl,p,yB,xg,D6,#[O]⟩) ?_)
  ·rintro x c pD _ hx ⟨rfl,p2,uQ,rY,yC,qc⟩;refine aR (iH ?_);have hsz:#[RS].size=p2.length:=by rw [rY]; simp
   rw [hsz];by_cases hle:p2.length<=1
   ·rw [if_pos hle];exact aT ⟨rfl,uQ,zkb hle h2 yC⟩
   rw [if_neg hle];refine aR (zmQ (p:=p2) (zot hle) hC uQ rY yC (aG _) fun xV p3 B0 Av Fn G5=>?_);rw [if_neg #[D]];exact aT ⟨rfl,p3,B0,Av,Fn,#[O]⟩
  ·rintro c pD ⟨rfl,p2,uQ,rY,yC,qc⟩;exact⟨rfl,uQ,zkb #[O] h2 yC⟩
  ·rintro c pD ⟨rfl,uQ,hS⟩;exact aT (h pD uQ hS)
end
end Srt
end
section
namespace Srt
open PySem PyProof.Rows
noncomputable def num (B:Int):List Int->Int
 | []=>0
 | n :: r=>n*B ^ r.length+num B r
theorem zg8 {B:Int} (hB:1<=B):∀ {ns:TD},(∀ n∈ns,0<=n/\n < B)->0<=num B ns/\num B ns < B ^ ns.length
 | [],_=>by simp [num]
 | n :: r,h=>by
  obtain⟨h1,h2⟩:=zg8 hB (ns:=r) fun m hm=>h m (aY _ hm)
  obtain⟨a,b⟩:=h n #[M];have hp:0 < B ^ r.length:=Int.pow_pos #[O];have e:B ^ (n :: r).length=B ^ r.length*B:=by rw [dN,eU]
  show 0<=n*B ^ r.length+num B r/\n*B ^ r.length+num B r < _;rw [e];have h3:0<=n*B ^ r.length:=Int.mul_nonneg a #[O];have h4:n*B ^ r.length<=(B - 1)*B ^ r.length:=fK #[O] #[O];have h5:(B - 1)*B ^ r.length=B ^ r.length*B - B ^ r.length:=by rw [Int.sub_mul,m9,iw]
  lia
noncomputable def zik:List Int->List Int->Bool
 | [],[]=>false
 | [],_ :: _=>true
 | _ :: _,[]=>false
 | x :: xs,y :: ys=>if x=y then zik xs ys else decide (x < y)
theorem zde (x y:Int) (xs ys:TD):zik (x :: xs) (y :: ys)=if x=y then zik xs ys else decide (x < y):=rfl
theorem zkc {B:Int} (hB:1<=B):∀ {ms ns:TD},ms.length=ns.length->(∀ n∈ms,0<=n/\n < B)->(∀ n∈ns,0<=n/\n < B)->zik ms ns=decide (num B ms < num B ns)
 | [],[],_,_,_=>by simp [zik,num]
 | [],_ :: _,h,_,_=>by simp at h
 | _ :: _,[],h,_,_=>by simp at h
 | m :: ms,n :: ns,hl,h1,h2=>by
  have GO:ms.length=ns.length:=by simpa using hl
  have ih:=zkc hB GO (fun x hx=>h1 x #[Wm]) (fun x hx=>h2 x #[Wm]);obtain⟨a1,a2⟩:=zg8 hB fun x hx=>h1 x (aY m hx)
  obtain⟨b1,b2⟩:=zg8 hB fun x hx=>h2 x (aY n hx)
  rw [zde];show _=decide (m*B ^ ms.length+num B ms < n*B ^ ns.length+num B ns);rw [GO] at a2 |-;have hp:0 < B ^ ns.length:=Int.pow_pos #[O];by_cases e:m=n
  ·rw [if_pos e,ih,e];rw [gH];simp only [decide_eq_true_eq];lia
  ·rw [if_neg e,gH];simp only [decide_eq_true_eq];have key:∀ x y:Int,x < y->x*B ^ ns.length+B ^ ns.length<=y*B ^ ns.length:=fun x y hxy=>by
    have:=fK (show x+1<=y by lia) (show 0<=B ^ ns.length by lia);rw [Int.add_mul,m9] at this;exact this
   constructor
   ·intro h;have:=key m n h;lia
   ·intro h;rcases Int.lt_trichotomy m n with h3 | h3 | h3
    ·exact h3
    ·exact absurd h3 e
    ·have:=key n m h3;lia
section
variable {prog:Program} {w:World} {A:Around} {E:TB} {s:Shared}
theorem zkd {Q:Bool->Shared->Prop} {fin:Bool}:∀ {xs ys:TH} {ms ns:TD} (i:Nat),IntsAre xs ms->IntsAre ys ns->ms.length=ns.length->Q (if ms=ns then fin else zik ms ns) s->PySem.W.KatLex prog w A true fin Q (xs.zip ys) i s
 | [],[],[],[],i,_,_,_,h=>PySem.W.kat_nil #[U,h]
 | _ :: _,_,[],_,_,hx,_,_,_=>by cases hx
 | [],_,_ :: _,_,_,hx,_,_,_=>by cases hx
 | _,[],_,_ :: _,_,_,hy,_,_=>by cases hy
 | _,_ :: _,_,[],_,_,hy,_,_=>by cases hy
 | x :: xs,y :: ys,m :: ms,n :: ns,i,hx,hy,hl,h=>by
  cases hx with
  | cons _ t hx =>
   cases hy with
   | cons _ u hy =>
    refine PySem.W.kat_cons (wpAny_eqBool_int ?_);by_cases e:m=n
    ·rw [show (m == n)=true by simpa using e];refine PySem.W.kat_yes (zkd (i+1) hx hy #[U,hl] ?_);subst e;rw [zde,if_pos rfl] at h;simpa using h
    ·rw [show (m == n)=false by simpa using e];have oZ:¬ (m :: ms=n :: ns):=fun z=>e (iV z).1
     rw [if_neg oZ,zde,if_neg e] at h;refine PySem.W.kat_no ?_;by_cases hi:i=0
     ·subst hi;exact oneLt_int h
     ·have hb:(true && i == 0)=false:=by simp [hi]
      rw [hb];exact PySem.W.kat_one _ _ (wpAny_lt_int h)
end
end Srt
end
section
namespace PySem
open PyProof.Rows
noncomputable def zeN (h:Heap) (d:Addr) (es:Array DictEntry) (ep:Nat):Prop:=∃ o,h.get? d=some o/\o.ExactDict/\o.data = .dict es ep
theorem zeN.at' {h h':Heap} {d:Addr} {es:Array DictEntry} {ep:Nat} (x:zeN h d es ep) (e:∀ o,h.get? d=some o->h'.get? d=some o):zeN h' d es ep:=let ⟨o,ho,r⟩:=x; ⟨o,e _ ho,r⟩
theorem zeN.typeIs {s:Shared} {d:Addr} {es:Array DictEntry} {ep:Nat} (x:zeN s.heap d es ep):s.TypeIs (.ref d) "dict":=let ⟨o,ho,hc,_⟩:=x; ⟨o,ho,hc.1⟩
section
variable {prog:Program} {w:World} {A:Around} {E:TB} {s:Shared} {it d:Addr} {i ep:Nat} {es:Array DictEntry}
theorem zil {Q:TB} (hd:(d == sysModules)=false) (hm:zeN s.heap d es ep) (hQ:Q #[At] { s with heap:=s.heap.push { cls:=.type "dict_keyiterator",data:=.fields #[.ref d,.int 0 0,.int es.size 0,.int ep 0] } }):wpAny #[ul] A (pyIter (.ref d)) Q E s:=by
 have hT:=hm.typeIs;obtain⟨o,ho,hc,Fo⟩:=id hm;refine jW hT nB (dG nB hT F.entry_dict_iter ?_ (F.args_dict_iter_1 _)); unfold Builtin.«dict.__iter__» Builtin.Dict.dictSlotNone;refine aB (aB (k8 hT ?_)); show wpAny _ _ (pure (bL d)) _ _ s;refine aL ?_; show wpAny _ _ (k9 d >>= _) _ _ s; unfold k9;rw [if_neg (show ¬ ((d == sysModules)=true) by rw [hd]; decide)];refine aB (aL (aB (j0 ho Fo (aB (kG ho Fo (aB (eB (aL ⟨_,rfl,"dict_keyiterator",_,⟨_,aZ _ rfl,rfl⟩,F.slot_dict_keyiterator_next.lookup,?_⟩))))))));simpa [rawInt] using hQ
theorem zim {e:DictEntry} {Q:Option Value->Shared->Prop} (hit:s.heap.IsKeyIter it d i es.size ep) (hm:zeN s.heap d es ep) (he:es[i]? = some e)
  (hQ:∀ h',h'.IsKeyIter it d (i+1) es.size ep->cT it s.heap h'->Q (some e.key) { s with heap:=h' }):wpAny #[ul] A #[Tt] Q E s:=by
 (obtain⟨o,ho,hc,hd⟩:=id hit)
 obtain⟨od,Fp,sL,Fq⟩:=id hm;have oY:i < es.size:=(fo.mp he).1;have CL:jy "dict_keyiterator" = false:=by decide +kernel
 unfold pyNext; refine aB (eY (dH (name:=cN "__next__") hit.typeIs fV #[VX]));refine aB #[Sb];simp only [CL,cF,if_false]; show wpAny _ _ (if (bL d == eZ)=true then _ else _) _ _ s;rw [if_neg (show ¬ ((bL d == eZ)=true) from fun z=>bH z)];refine aB (aL (aB (j0 Fp Fq ?_)));rw [if_neg (show ¬ ((((es.size:Nat):Int) != ((es.size:Nat):Int))=true) by simp)];refine aB (aL (aB (kG Fp Fq ?_)));rw [if_neg #[M]]; refine aL ?_;simp only [show ¬ ((i:Int) < 0) by lia,if_false,cB,he];refine aB (aB (fN hit.typeIs (aL (aB (lg hit.typeIs ?_)))));show wpAny _ _ (setField #[Q8] 1 (rawInt ((i:Int)+1)) >>= _) _ _ s; refine aB #[T4];have sS:(s.heap.update it (jO (·.setIfInBounds 1 (rawInt ((i:Int)+1))))).IsKeyIter it d (i+1) es.size ep:=⟨_,gd _ ho (gS (fu hd _)),(jV ..).trans hc,by rw [fu hd]; simp [rawInt]⟩;refine aB (dj (aB (lg (s:={ s with heap:=s.heap.update it (jO (·.setIfInBounds 1 (rawInt ((i:Int)+1)))) }) sS.typeIs ?_)));show wpAny _ _ (pure e.key) _ _ _; exact aL (aL ⟨_,rfl,aL (hQ _ sS (fh ..))⟩)
theorem zke {Q:Option Value->Shared->Prop} (hh:A.handled=none) (hit:s.heap.IsKeyIter it d i es.size ep) (hm:zeN s.heap d es ep) (he:es.size<=i) (hQ:∀ h',mZ it s.heap h'->Q none { s with heap:=h' }):wpAny #[ul] A #[Tt] Q E s:=by
 (obtain⟨o,ho,hc,hd⟩:=id hit)
 obtain⟨od,Fp,sL,Fq⟩:=id hm;have CL:jy "dict_keyiterator" = false:=by decide +kernel
 unfold pyNext; refine aB (eY (dH (name:=cN "__next__") hit.typeIs fV #[VX]));refine aB #[Sb];simp only [CL,cF,if_false]; show wpAny _ _ (if (bL d == eZ)=true then _ else _) _ _ s;rw [if_neg (show ¬ ((bL d == eZ)=true) from fun z=>bH z)];refine aB (aL (aB (j0 Fp Fq ?_)));rw [if_neg (show ¬ ((((es.size:Nat):Int) != ((es.size:Nat):Int))=true) by simp)];refine aB (aL (aB (kG Fp Fq ?_)));rw [if_neg #[M]]; refine aL ?_;simp only [show ¬ ((i:Int) < 0) by lia,if_false,cB,Array.getElem?_eq_none he];refine aB (aB (fN hit.typeIs (aL ?_)));show wpAny _ _ (setField #[Q8] 0 .none >>= _) _ _ s; refine aB #[T4];show wpAny _ _ (newExc (.type "StopIteration") [] >>= _) _ _ _; simp only [newExc,newTuple];refine aB (aB (eB (aB (m:=firstArgMember _ _) (fW (a:=eZ) (by first | rfl | (simp only [firstArgMember]; rfl)) (eB ?_ (by size_fits)))) (by size_fits)));simp only [raiseNew]; refine aB (lN ?_); rw [show A.in1.handled=none from hh];refine aB (aL (m5 ?_)); refine aB (gX (T:="StopIteration") (b:=true) ⟨_,aZ _ rfl,rfl⟩ ju ?_)
 (exact aL (hQ _ (((fh ..).extBut.push _).push _)))
theorem zlg (hh:A.handled=none) (I d:Addr) (oZ:d≠I) (es:Array DictEntry) (ep:Nat) :
  Walks prog w A I [I,d] [I] es.size (fun i v=>∃ e,es[i]? = some e/\v=e.key) (fun i h=>h.IsKeyIter I d i es.size ep/\zeN h d es ep) where
 sub:=(fun b hb=>by simp at hb; simp [hb])
 frame:=(fun _ _ _ st hk=>⟨st.1.at fun o e=>hk I #[M] o e,st.2.at' fun o e=>hk d #[M] o e⟩)
 item:=fun i s Q E hi st hQ=>zim st.1 st.2 (getElem?_pos es i hi) fun h' sS pU=>hQ _ h' s.toks ⟨es[i],getElem?_pos es i hi,rfl⟩ ⟨sS,st.2.at' fun o e=>pU.extBut d o oZ e⟩ fun b o hb e=>pU.extBut b o (fun h=>hb (by simp [h])) e
 done:=fun s Q E st hQ=>zke hh st.1 st.2 (aG _) fun h' AQ=>hQ h' s.toks fun b o hb e=>AQ b o (fun h=>hb (by simp [h])) e
 self:=(fun _ _ _ _ st hQ=>lG st.1 hQ)
theorem zou (lo:(d == sysModules)=false):nW prog w "dict" d d es.size (fun i v=>∃ e,es[i]? = some e/\v=e.key) (fun h=>zeN h d es ep) where
 type:=fun _ hm=>hm.typeIs
 there:=fun _ hm=>let ⟨_,ho,_⟩:=hm; ⟨aX ho,aX ho⟩
 keep:=(fun _ _ hm hk=>hm.at' fun o e=>hk d #[Q3] o e)
 notList:=by decide
 notTuple:=by decide
 hint:=fun _ _ _ _ hm hq=>PySem.W.kdl_hint_dict hm.typeIs hq
 iter:=fun _ _ hh hm=>⟨_,_,(fun _ _ hq=>zil lo hm hq),zlg hh _ d (by obtain⟨_,ho,_⟩:=id hm; exact bU (aX ho)) es ep,⟨⟨_,aZ _ rfl,rfl,rfl⟩,hm.at' fun o e=>aI _ e⟩⟩
end
end PySem
end
section
namespace Srt
open PySem PyProof.Rows
section
variable {prog:Program} {w:World} {A:Around} {E:TB} {s:Shared} {κ:SortKind} {val:Keyed->Int}
theorem zen {vs:TH} {p:Keyed} (h:p∈#[RG].toList):p.1∈vs/\p.2=p.1:=by
 rw [lh] at h;obtain⟨i,hi,e⟩:=fj h;rw [List.getElem_zip] at e;rw [<- e];exact⟨ef _,rfl⟩
theorem zqk {vs:TH} {xs:Array Keyed} (hp:xs.Perm #[RG]) (hs:SIn val xs 0 #[RG].size):(xs.map (·.2)).toList.Perm vs/\(xs.map (·.2)).toList.Pairwise fun x y=>val (x,x)<=val (y,y):=by
 (have hl:xs.toList.Perm (vs.zip vs):=by rw [<- lh]; exact h9.mp hp)
 have hm:∀ p∈xs.toList,p=(p.2,p.2):=fun p ux=>by
  have:=zen (by rw [lh]; exact hl.mem_iff.mp ux);exact oo this.2.symm rfl
 constructor
 ·rw [nC];refine (hl.map (·.2)).trans ?_;rw [show (vs.zip vs).map (·.2)=vs from nE (aG _)]
 ·rw [nC,di,eI];intro i j hi hj rZ
  (have qj:i < xs.size:=by simpa using hi)
  (have qH:j < xs.size:=by simpa using hj)
  have h1:=hs i j (bX _) #[O] (by rw [<- hp.size_eq]; exact qH);rw [zag (getElem?_pos xs i qj),zag (getElem?_pos xs j qH)] at h1;have e1:=hm xs.toList[i] (ef _);have e2:=hm xs.toList[j] (ef _);rw [<- e1,<- e2];simpa using h1
theorem zlh {a:Addr} {vs:TH} {n:Nat} {P:PySem.Fin->Shared->Prop} (ho:s.heap.get? a=some (seqObj "list" vs.toArray n)) (oO:vs.length<=sizeLine)
  (rV:∀ h',(∀ b o,b≠a->s.heap.get? b=some o->h'.get? b=some o)->2<=vs.length->∀ (Q:SortKind->Shared->Prop) (E:TB),Q κ { s with heap:=h' }->wpAny #[ul] A (keyKind' vs.toArray) Q E { s with heap:=h' })
  (CM:∀ h',(∀ b o,b≠a->s.heap.get? b=some o->h'.get? b=some o)->Cmp prog w A { s with heap:=h' } κ val #[RG])
  (h:∀ out:Array Value,out.toList.Perm vs->(out.toList.Pairwise fun x y=>val (x,x)<=val (y,y))->P (.done (.ret .none)) { s with heap:=sortedHeap s.heap a vs out }):wpAny #[ul] A (Builtin.«list.sort» ⟨[.ref a],[]⟩) P E s:=by
 rw [list_sort_plain]
 (have ha:a < s.heap.objs.size:=aX ho)
 have hz:vs.toArray.size=vs.length:=aP;refine aB (listItems_at ho rfl (aB (lP ho rfl ?_ (hsz:=by rw [hz]; exact oO))))
 (obtain⟨e1,CK⟩:∃ e1,(s.heap.update a (fE fun _=>#[])).get? a=some (seqObj "list" #[] e1):=⟨_,get?_update_seq ho (fun _=>#[])⟩)
 refine aB (nc CK rfl (aB (kY (aB (lQ (dj ?_))) (hsz:=oO))));have G6:(((s.heap.update a (fE fun _=>#[])).push (seqObj "tuple" vs.toArray 0)).push (seqObj "list" #[] 0)).get? a=some (seqObj "list" #[] e1):=aI _ (aI _ CK);have hk6:∀ b o,b≠a->s.heap.get? b=some o->(((s.heap.update a (fE fun _=>#[])).push (seqObj "tuple" vs.toArray 0)).push (seqObj "list" #[] 0)).get? b=some o:=fun b o hb e=>aI _ (aI _ ((Heap.get?_update_ne _ _ _ _ hb).trans e))
 (show wpAny #[ul] A _ P E { s with heap:=((s.heap.update a (fE fun _=>#[])).push (seqObj "tuple" vs.toArray 0)).push (seqObj "list" #[] 0) })
 dsimp only;have hcm:=CM _ hk6;have fin:∀ oI:SortSt,SB κ #[RG] oI\/(arrOf oI=pairsOf vs/\failedOf oI=none)->SIn val #[BT] 0 #[RG].size ->
   P (.done (.ret .none)) { s with heap:=sortedHeap s.heap a vs (#[BT].map (·.2)) }:=fun oI hB hs=>by
  have hp:#[BT].Perm #[RG]:=by
   rcases hB with hB | hB
   ·exact hB.perm
   ·rw [hB.1]
  obtain⟨b1,b2⟩:=zqk hp hs;exact h _ b1 b2
 (by_cases h2:vs.toArray.size < 2)
 ·rw [if_pos h2,if_pos h2];refine aB (aL ?_); rw [StateT.run_pure]; refine aB (aL ?_);dsimp only;refine aB (nc G6 rfl (aB (lP G6 rfl ?_ (hsz2:=by rw [nX]; show #[RG].size<=_; rw [kd]; lia))))
  (simp only [bne_self_eq_false,cF,if_false])
  refine aL (fin (nQ general' #[WB] #[] 7 none) (.inr ⟨rfl,rfl⟩) fun i j _ rZ hj=>?_);have e:i=j:=by rw [kd] at hj; lia
  rw [e];exact dv _
 ·rw [if_neg h2,if_neg h2];refine aB (rV _ hk6 #[O] _ _ ?_);refine aB (dA (zqj (a₀:=pairsOf vs) (κ:=κ) (val:=val) (st:=nQ κ #[WB] #[] 7 none) (Q:=fun _ oI=>SB κ #[RG] oI/\SIn val #[BT] 0 #[RG].size)
   hcm ⟨Array.Perm.refl _,rfl,rfl⟩ rfl (by rw [kd]; lia) fun oI a1 a2=>⟨a1,a2⟩) ?_ fun _ _ e=>e)
  rintro⟨⟨⟩,oI⟩ s' ⟨rfl,hB,hs⟩;dsimp only;refine aB (nc G6 rfl (aB (lP G6 rfl ?_ (hsz2:=cC (Nat.le_of_eq ((nX ..).trans (hB.perm.size_eq.trans (kd _)))) #[O]))));rw [hB.failed]
  (simp only [bne_self_eq_false,cF,if_false])
  exact aL (fin oI (.inl hB) hs)
theorem zli {v:Value} {vs:TH} {Q:TB} (oO:vs.length<=sizeLine)
  (Jy:∀ R:List Value->Shared->Prop,(∀ (h':Heap) (tk:Nat),(∀ b o,s.heap.get? b=some o->h'.get? b=some o)->R vs { s with heap:=h',toks:=tk })->wpAny #[ul] A.in1 (collect v) R E s)
  (rV:∀ s',(∀ b o,s.heap.get? b=some o->s'.heap.get? b=some o)->2<=vs.length->∀ (A':Around) (Q:SortKind->Shared->Prop) (E:TB),Q κ s'->wpAny #[ul] A' (keyKind' vs.toArray) Q E s')
  (CM:∀ s' A',(∀ b o,s.heap.get? b=some o->s'.heap.get? b=some o)->Cmp prog w A' s' κ val #[RG])
  (h:∀ (h':Heap) (tk:Nat) (out:Array Value) (e:Nat) (D:Addr),(∀ b o,s.heap.get? b=some o->h'.get? b=some o)->(∀ b o,s.heap.get? b=some o->b < D)->h'.get? D=some (seqObj "list" out e)->out.toList.Perm vs->(out.toList.Pairwise fun x y=>val (x,x)<=val (y,y))->Q #[QB] { s with heap:=h',toks:=tk }) :
  wpAny #[ul] A (call (.builtin "sorted") [v]) Q E s:=by
 refine Calls.call_function_entry kind_sorted plain_sorted entry_sorted (args_sorted1 _) ?_; unfold Builtin.«sorted»;refine aB (m:=checkCount "sorted" 1 1 _) (aL (aB (dA (Jy (fun us s'=>us=vs/\∃ (h':Heap) (tk:Nat),s' = { s with heap:=h',toks:=tk }/\∀ b o,s.heap.get? b=some o->h'.get? b=some o) fun h' tk k=>⟨rfl,h',tk,rfl,k⟩) ?_ fun _ _ e=>e)));rintro us s' ⟨rfl,h1,tk,rfl,kk⟩;refine aB (lQ ?_ (hsz:=oO));have Ao:(h1.push (seqObj "list" us.toArray 0)).get? h1.objs.size=some (seqObj "list" us.toArray 0):=aZ _ rfl;have kn:∀ b o,s.heap.get? b=some o->b≠h1.objs.size:=fun b o e=>bU (aX (kk b o e))
 refine aB (dj (dG slot_list_sort ⟨_,Ao,rfl⟩ entry_list_sort (zlh (κ:=κ) (val:=val) Ao oO (fun h' hk h2 Q E hq=>rV _ (fun b o e=>hk b o (kn b o e) (aI _ (kk b o e))) h2 _ Q E hq) (fun h' hk=>CM _ _ fun b o e=>hk b o (kn b o e) (aI _ (kk b o e))) fun out a1 a2=>#[WW]) (args_list_sort _)));obtain⟨e,he⟩:=sortedHeap_at (out:=out) Ao;refine aL ⟨_,rfl,h _ tk out e h1.objs.size (fun b o x=>?_) (fun b o x=>aX #[WJ]) he a1 a2⟩;rw [sortedHeap_old (kn b o x) (by rw [cZ]; exact gP (aX #[WJ]))];exact aI _ #[WJ]
end
end Srt
end
section
namespace L2
open PySem PySem.Spec PyProof.Rows PySem.Builtin.Str
variable {H:Hp} {X:Cx} {h':Heap} {oC:TC} {s:Shared} {tk:Nat}
theorem Inv.above {σ:St} {D:Addr} {o:HO} (I:Inv X oC σ H s) (k:∀ b o,s.heap.get? b=some o->h'.get? b=some o) (hD:∀ b o,s.heap.get? b=some o->b < D)
  (new:zak X.prog X.w (oG H D o) h' D o):H D=none/\Inv X oC σ (oG H D o) { s with heap:=h',toks:=tk }:=by
 have hn:H D=none:=by
  cases e:H D with
  | none=>rfl
  | some u =>
   obtain⟨ob,z⟩:=zi9 (I.hok D u e);exact absurd (hD D ob z) (dF _)
 have hL:X.env.locals < D:=by
  obtain⟨m,⟨o,es,ep,ho,_⟩,_⟩:=I.loc;exact hD _ _ ho
 have I1:Inv X oC σ H { s with heap:=h',toks:=tk }:=I.kept k;refine⟨hn,I1.O8 hn (fY (jI I.ok.above hL)) (bU hL) (fun x c e z=>?_) (fun p hp z=>?_) new⟩
 ·obtain⟨v,oc,q,_⟩:=I.cell x c e;exact absurd (hD c oc q) (by rw [z]; exact dF _)
 ·exact absurd (hD p.1 _ (I.pin p hp).1) (by rw [z]; exact dF _)
end L2
end
section
namespace L2
open PySem PySem.Spec PyProof.Rows Srt
variable {H:Hp} {M:Model} {X:Cx} {h:Heap} {kvs:List (List Key×V)} {ns:TD} {oC:TC} {s s':Shared}
noncomputable def zmR (xs:List V):List Int:=xs.filterMap fun x=>match x with
 | .int n=>some n
 | _=>none
theorem zlj (ns:TD):zmR #[Db]=ns:=by
 unfold zmR;rw [List.filterMap_map];induction ns with
 | nil=>rfl
 | cons n ns ih =>
  rw [fR];simp only [Function.comp];rw [ih]
noncomputable def zdX (H:Hp) (v:Value):List Int:=match v with
 | .ref a=>(match H a with
  | some #[SO]=>zmR xs
  | _=>[])
 | _=>[]
theorem zfB {a:Addr} (h:H a=some (.tup #[Db])):zdX H #[QD]=ns:=by
 unfold zdX;simp only [h];exact zlj ns
noncomputable def zov (H:Hp) (k:Nat) (B:Int) (ps:List (Addr×List Int)):Prop:=∀ q∈ps,H q.1=some (.tup (q.2.map V.int))/\q.2.length=k/\∀ n∈q.2,0<=n/\n < B
theorem zdY:∀ (ps:List (Addr×List Int)),zQ (ps.map fun q=>V.ref q.1) (ps.map fun q=>bL q.1)
 | []=>.nil
 | q :: ps=>.cons rfl (zdY ps)
section
variable {X:Cx} {oC:TC} {σ:St} {H:Hp} {s:Shared} {k:Nat} {B:Int} {ps:List (Addr×List Int)}
theorem zg9 (I:Inv X oC σ H s) {q:Addr×List Int} (h:H q.1=some (.tup (q.2.map V.int))):∃ o oF n,s.heap.get? q.1=some o/\o.cls = .type "tuple"/\o.data = .seq oF n/\IntsAre oF.toList q.2:=by
 obtain⟨oF,r,⟨o,ho,hc,n,hd⟩,hz⟩:=I.tuple (oQ.of h);exact⟨o,oF.toArray,n,ho,hc,hd,by simpa using intsAre_of r⟩
theorem zql (I:Inv X oC σ H s) (hT:zov H k B ps) (hk:1<=k) (kk:∀ b o,s.heap.get? b=some o->s'.heap.get? b=some o):∃ fs:List Value,PySem.W.KatTups s'.heap (ps.map fun q=>bL q.1) fs/\fs.length=ps.length/\∀ v∈fs,∃ n t,v=jB n t:=by
 induction ps with
 | nil=>exact⟨[],trivial,rfl,fun v hv=>by cases hv⟩
 | cons q ps ih =>
  obtain⟨fs,h1,h2,h3⟩:=ih fun q' qL=>hT q' (aY _ qL)
  obtain⟨hq,hl,_⟩:=hT q #[M];obtain⟨o,oF,n,ho,hc,hd,hi⟩:=zg9 I hq;have oO:=hi.length;obtain⟨m,ms,e⟩:∃ m ms,q.2=m :: ms:=by
   cases e:q.2 with
   | nil=>rw [e] at hl; simp at hl; lia
   | cons m ms=>exact⟨m,ms,rfl⟩
  rw [e] at hi;cases e2:oF.toList with
  | nil=>rw [e2] at hi; cases hi
  | cons f fr =>
   rw [e2] at hi;cases hi with
   | cons _ t hi =>
    refine⟨.int m t :: fs,oB (kk _ _ ho) hc hd ?_ h1,by simp [h2],fun v hv=>?_⟩
    ·rw [<- cD,e2];rfl
    ·rcases (bD.mp hv) with rfl | hv
     ·exact⟨m,t,rfl⟩
     ·exact h3 v hv
theorem zgz:∀ ms:List Int,zik ms ms=false
 | []=>rfl
 | m :: ms=>by rw [zde,if_pos rfl,zgz ms]
theorem zqm (I:Inv X oC σ H s) (hT:zov H k B ps) (hB:1<=B) {A':Around} (kk:∀ b o,s.heap.get? b=some o->s'.heap.get? b=some o) :
  Cmp X.prog X.w A' s' (tuples' true) (fun p=>num B (zdX H p.1)) (pairsOf (ps.map fun q=>bL q.1)):=by
 intro x y hx hy Q E hQ;obtain⟨qx,mx,ex⟩:=aQ.mp (zen hx).1;obtain⟨qy,my,ey⟩:=aQ.mp (zen hy).1;obtain⟨BV,yA,hx3⟩:=hT qx mx;obtain⟨G7,G8,hy3⟩:=hT qy my;obtain⟨ox,ix,nx,gx,cx,dx,ax⟩:=zg9 I BV;obtain⟨oy,iy,ny,gy,cy,dy,ay⟩:=zg9 I G7;have ev:decide ((fun p:Keyed=>num B (zdX H p.1)) x < (fun p:Keyed=>num B (zdX H p.1)) y)=zik qx.2 qy.2:=by
  rw [zkc hB (yA.trans G8.symm) hx3 hy3,<- zfB BV,<- zfB G7];simp only [ex,ey]
 rw [ev] at hQ;rw [<- ex,<- ey];refine PySem.W.kat_lt (kk _ _ gx) dx (kk _ _ gy) dy (zkd 0 ax ay (yA.trans G8.symm) ?_);have hsz:decide (ix.size < iy.size)=false:=by
  have e1:=ax.length;have e2:=ay.length;rw [cL] at e1 e2;exact decide_eq_false #[O]
 rw [hsz];by_cases e:qx.2=qy.2
 ·rw [if_pos e];rw [e,zgz] at hQ;exact hQ
 ·rw [if_neg e];exact hQ
theorem zmS (hT:zov H k B ps) {out:Array Value} (hp:out.toList.Perm (ps.map fun q=>bL q.1)) (hs:out.toList.Pairwise fun x y=>num B (zdX H x)<=num B (zdX H y)) :
  ∃ rQ:List (Addr×List Int),rQ.Perm ps/\(rQ.Pairwise fun a b=>num B a.2<=num B b.2)/\out.toList=rQ.map fun q=>bL q.1:=by
 let g:Value->Addr×List Int:=fun v=>match v with
  | .ref a=>(a,zdX H #[QD])
  | _=>(0,[])
 have hg:∀ q∈ps,g (.ref q.1)=q:=fun q hq=>oo rfl (zfB (hT q hq).1)
 have hv:∀ v∈out.toList,∃ q∈ps,v = .ref q.1:=fun v hv=>by
  obtain⟨q,hq,e⟩:=aQ.mp (hp.mem_iff.mp hv);exact⟨q,hq,e.symm⟩
 refine⟨out.toList.map g,?_,?_,?_⟩
 ·refine (hp.map g).trans ?_;rw [cV];have:ps.map (g ∘ fun q=>bL q.1)=ps:=by
   conv=>rhs; rw [<- kQ ps]
   exact fk fun q hq=>hg q hq
  rw [this]
 ·rw [di];refine iz (fun {x y} hx hy h=>?_) hs;obtain⟨q,hq,rfl⟩:=hv x hx;obtain⟨q',qL,rfl⟩:=hv y hy;exact h
 ·rw [cV]
  conv=>lhs; rw [<- kQ out.toList]
  refine fk fun v Jz=>?_
  obtain⟨q,hq,rfl⟩:=hv v Jz;rfl
end
theorem zlk {n:Int} {t:Tok}:iU M h (typeOf (.int n t)) (.type "int"):=PySem.W.Looks.of_pure rfl
theorem zow {σ:St} {d:Addr} {o9:List #[wE]} (I:Inv X oC σ H s) (hd:H d=some #[QZ]) (hk:kvs.map (·.1)=o9.map (·.map cM)) :
  (d == sysModules)=false/\kvs.length<=sizeLine/\∃ (ps:List (Addr×List Int)) (es:Array DictEntry) (ep:Nat),zeN s.heap d es ep/\es.toList.map (·.key)=(ps.map fun q=>bL q.1)/\ps.map (·.2)=o9/\∀ q∈ps,H q.1=some (.tup (q.2.map V.int)):=by
 obtain⟨hz,hs,xs,hp,o,es,ep,ho,hx,he,vm,qF⟩:=I.hok d _ hd;refine⟨hs,hz,?_⟩;have key:∀ {kvs:List (List Key×V)} {xs:List (List Key×Addr×Value)} {o9:List #[wE]},Paired (fun (p:List Key×V) (q:List Key×Addr×Value)=>p.1=q.1/\H q.2.1=some (.tup (p.1.map kV))/\RelV p.2 q.2.2) kvs xs->kvs.map (·.1)=o9.map (·.map cM) ->
   ∃ ps:List (Addr×List Int),xs.map (fun x=>bL x.2.1)=(ps.map fun q=>bL q.1)/\ps.map (·.2)=o9/\∀ q∈ps,H q.1=some (.tup (q.2.map V.int)):=by
  intro kvs xs o9 hp;induction hp generalizing o9 with
  | nil =>
   intro e;cases o9 with
   | nil=>exact⟨[],rfl,rfl,fun q hq=>by cases hq⟩
   | cons m o9=>simp at e
  | @cons x y l1 l2 h1 h2 ih =>
   intro e;cases o9 with
   | nil=>simp at e
   | cons m o9 =>
    rw [bT,bT] at e;obtain⟨e1,e2⟩:=iV e;obtain⟨ps,a1,a2,a3⟩:=ih e2;obtain⟨_,JA,_⟩:=h1;refine⟨(y.2.1,m) :: ps,by rw [bT,bT,a1],by rw [bT,a2],fun q hq=>?_⟩;rcases (bD.mp hq) with rfl | hq
    ·rw [JA,e1,cV];rfl
    ·exact a3 q hq
 obtain⟨ps,a1,a2,a3⟩:=key hp hk;refine⟨ps,es,ep,⟨o,ho,hx,he⟩,?_,a2,a3⟩;rw [vm,cV,<- a1];rfl
theorem zha {X:Cx} (hc:X.calm=true):zbx X (.builtin "sorted") (fun xs H Q=>∃ (d:Addr) (k:Nat) (B:Int) (kvs:List (List Key×V)) (o9:List #[wE]),xs = [.ref d]/\H d=some #[QZ]/\kvs.map (·.1)=o9.map (·.map cM)/\(∀ ms∈o9,ms.length=k/\∀ n∈ms,0<=n/\n < B)/\1<=k/\1<=B /\
  ∀ (l:Addr) (rQ:List (Addr×List Int)),H l=none->(rQ.map (·.2)).Perm o9->(rQ.Pairwise fun a b=>num B a.2<=num B b.2)->(∀ q∈rQ,H q.1=some (.tup (q.2.map V.int)))->Q #[RB] (oG H l (.lst (rQ.map fun q=>V.ref q.1)))):=by
 intro oC s σ H xs us Q I r h;obtain⟨d,k,B,kvs,o9,rfl,hd,vA,tY,hk,hB,q⟩:=h;obtain⟨u,rfl,rx⟩:=vals1 r;cases rx;obtain⟨hs,hz,ps,es,ep,yD,hek,CN,hH⟩:=zow I hd vA;have hT:zov H k B ps:=fun q' qL=>⟨hH q' qL,tY q'.2 (by rw [<- CN]; exact gD qL)⟩
 have hlp:ps.length=kvs.length:=by
  have e1:=congrArg eX CN;have e2:=congrArg eX vA;rw [aA] at e1;rw [aA,aA] at e2;lia
 have vm:es.size=ps.length:=by
  have:=congrArg eX hek;rw [aA,aA,cL] at this;exact this
 refine zli (vs:=ps.map fun q=>bL q.1) (κ:=tuples' true) (val:=fun p=>num B (zdX H p.1)) (by rw [aA]; lia) (fun R hR=>?_) (fun s' kk h2 A' Q' E' qL=>?_) (fun s' A' kk=>zqm I hT hB kk) fun h' tk out e D kk hD CP hp hs=>?_
 ·refine lZ (zou (es:=es) (ep:=ep) hs) (by simp [I.ok.hd hc]) yD #[O] fun h' tk acc kk uM=>?_
  have:acc.toList=ps.map fun q=>bL q.1:=by
   rw [<- hek];refine jZ fun j=>?_
   by_cases hj:j < es.size
   ·have hja:j < acc.size:=by rw [uM.1]; exact hj
    obtain⟨e',h1,h2⟩:=uM.2 j acc[j] (getElem?_pos acc j hja);rw [cD,getElem?_pos acc j hja,aF,cD,h1,h2];rfl
   ·rw [fA (by rw [cL,uM.1]; lia),fA (by rw [aA,cL]; lia)]
  rw [this];exact hR h' tk kk
 ·obtain⟨fs,k1,k2,k3⟩:=zql I hT hk kk;exact PySem.W.kat_kind (T:=.type "int") k1 (by rw [aA] at h2; lia) (fun v hv=>by obtain⟨n,t,rfl⟩:=k3 v hv; exact zlk) rfl qL
 ·obtain⟨rQ,p1,p2,p3⟩:=zmS hT hp hs;have hl:=p1.length_eq;obtain⟨hn,I2⟩:=I.above (tk:=tk) (D:=D) (o:=.lst (rQ.map fun q=>V.ref q.1)) kk hD ⟨by rw [aA]; lia,rQ.map fun q=>bL q.1,e,zdY rQ,by rw [<- p3]; exact CP⟩;exact⟨.ref D,_,I2,rfl,q D rQ hn (by rw [<- CN]; exact p1.map _) p2 fun q' qL=>(hT q' (p1.mem_iff.mp qL)).1⟩
end L2
end
section
namespace L2
open PySem PySem.Spec PyProof.Rows
variable {H:Hp} {J:It} {sc:Scope} {ys:List V}
section
variable {X:Cx} {elt t1 i1 t2 i2:Expr} {f1 f2:List Expr} {scope:Scope} {pos:Pos} {N':List Str} {ix:List #[P3]} {D7 Bd:List Nat} {g1 g2:TG} {G9 Ea:TT} {te:TE} {G' Eb:TI}
theorem zmT (hc:X.calm=true) (Fs:GS Bd g2) (Ft:∀ s₃ H₃ ex oC,PI #[mt] t2 i2 Eb)
  (CQ:∀ s₃ H₃ ex oC,PG #[mt] t2 g2) (Fu:∀ s₃ H₃ ex oC,zdJ #[mt] f2 Ea) (he:∀ s₃ H₃ ex oC,PE #[mt] elt te)
  (qU:∀ s₃ H₃ ex oC x,foldedSetIterable i2 #[mt].env x=pure x) :
  ∀ s₃ H₃ ex oC D,PM #[mt] D Bd ((fun D env=>zjS (.ListComp elt [⟨t1,i1,f1,0⟩,⟨t2,i2,f2,0⟩] scope pos) i2 1 #[QB] env) D #[mt].env) #[Ue]:=by
 intro s₃ H₃ ex oC D;have h:=zpX (Y:=zV X N' scope s₃ H₃ ex oC) (D:=D) (js:=Bd) (js':=[]) (elt:=elt) (gens:=[⟨t1,i1,f1,0⟩,⟨t2,i2,f2,0⟩]) (scope:=scope) (pos:=pos) (d:=1) (p:=i2.pos) hc rfl Fs (fun _ _ z=>by cases z) (Ft s₃ H₃ ex oC) (CQ s₃ H₃ ex oC) (Fu s₃ H₃ ex oC) (ziX rfl (he s₃ H₃ ex oC)) rfl (fun it=>zpY it D _) (qU s₃ H₃ ex oC);rw [du] at h;exact h
theorem zox (SC:Lu X N' ix scope) (hc:X.calm=true) (JB:GS D7 g1) (Fs:GS Bd g2) (qW:∀ j∈D7,j∉Bd) (tG:∀ j∈D7++Bd,ix[j]? = some none) (Fv:PI X t1 i1 G')
  (JC:∀ s₃ H₃ ex oC,PG #[mt] t1 g1) (Ec:∀ s₃ H₃ ex oC,zdJ #[mt] f1 G9) (Ft:∀ s₃ H₃ ex oC,PI #[mt] t2 i2 Eb)
  (CQ:∀ s₃ H₃ ex oC,PG #[mt] t2 g2) (Fu:∀ s₃ H₃ ex oC,zdJ #[mt] f2 Ea) (he:∀ s₃ H₃ ex oC,PE #[mt] elt te)
  (hs:∀ x,foldedSetIterable i1 X.env x=pure x:=by intro _; rfl) (qU:∀ s₃ H₃ ex oC x,foldedSetIterable i2 #[mt].env x=pure x:=by intros; rfl) :
  PE X (.ListComp elt [⟨t1,i1,f1,0⟩,⟨t2,i2,f2,0⟩] scope pos) (zgV ix G' g1 G9 #[Ue]) :=
 zhN SC hc JB qW tG Fv JC Ec #[W4] #[Xd] hs
theorem zjc {i:Nat} {x:Str} {pos' qI:Pos} (hN:X.N.Nodup) (AO:X.N[i]? = some x) (hx:Loc X.env.scope x) (SC:Lu X N' ix scope) (hc:X.calm=true) (JB:GS D7 g1) (Fs:GS Bd g2) (qW:∀ j∈D7,j∉Bd) (tG:∀ j∈D7++Bd,ix[j]? = some none) (Fv:PI X t1 i1 G')
  (JC:∀ s₃ H₃ ex oC,PG #[mt] t1 g1) (Ec:∀ s₃ H₃ ex oC,zdJ #[mt] f1 G9) (Ft:∀ s₃ H₃ ex oC,PI #[mt] t2 i2 Eb)
  (CQ:∀ s₃ H₃ ex oC,PG #[mt] t2 g2) (Fu:∀ s₃ H₃ ex oC,zdJ #[mt] f2 Ea) (he:∀ s₃ H₃ ex oC,PE #[mt] elt te)
  (E4:swapsWith (.ListComp elt [⟨t1,i1,f1,0⟩,⟨t2,i2,f2,0⟩] scope pos) #[V1] qI.line X.env=pure true:=by rfl)
  (hs:∀ x,foldedSetIterable i1 X.env x=pure x:=by intro _; rfl) (qU:∀ s₃ H₃ ex oC x,foldedSetIterable i2 #[mt].env x=pure x:=by intros; rfl) (hf:X.fn x=true\/X.env.scope.names.lookup x=some .local:=by first | exact .inl rfl | exact .inr rfl | assumption) :
  PS X (.Assign [.Name x pos'] (.ListComp elt [⟨t1,i1,f1,0⟩,⟨t2,i2,f2,0⟩] scope pos) qI) (zfV (zgV ix G' g1 G9 #[Ue]) (zbc i)) :=
 zew hN AO hx SC hc JB qW tG Fv JC Ec #[W4] #[Xd] E4 hs hf
end
theorem zkf {n:Nat} {g:TG} {ts:TT} {tm:TM} {σ0:St} {Q:List V->Hp->Prop} (Pv:Nat->List V->Hp->Prop) (h0:Pv 0 ys H) (AJ:∀ i ys H,i < n->Pv i ys H->J.go i H) (tF:∀ ys H,Pv n ys H->J.stop n H)
  (hs:∀ i x ys H H',i < n->Pv i ys H->J.yld i H x H'->g x σ0 H' fun σ2 H2=>ts σ2 H2 fun b H3=>if b=true then tm ys σ2 H3 (Pv (i+1)) else Pv (i+1) ys H3)
  (hd:∀ ys H,Pv n ys H->Q ys H):cIn g ts tm σ0 J Q ys H:=by
 refine⟨fun i m ys H=>m=n - i/\i<=n/\Pv i ys H,#[TY],?_⟩;rintro i m ys H ⟨rfl,hi,p⟩;by_cases oY:i < n
 ·exact .inr #[Ri]
 ·have e:i=n:=by lia
  subst e;exact .inl ⟨tF ys H p,hd ys H p⟩
noncomputable def zrb (K:aD) (S:Addr) (tb:XK->TS) (th:TS):TS:=fun D σ H=>tb (fun cls _ H'=>∃ C,cls = .ref C/\fz K #[QC] (.ref S)=some true/\th D σ H') D σ H
section
variable {X:Cx} {x:Str} {S:Addr} {body rX:List Stmt} {b₀:Stmt} {tb:XK->TS} {th:TS} {np sU pos:Pos}
theorem zoy (hex:X.ex = []) (yw:X.stack=X.env :: X.outer) (uI:X.env.frame=some X.env.locals) (hg:Gl X x) (hm:X.mg x=some (.ref S)) (hS:dk X.K S (.type "BaseException")=some true)
  (hb:∀ (xe:TB) (oC:TC) (σ:St) (E:XK),zdP (CX1 X.prog X.w) (X.Of xe) oC σ E->zmz (X.Of xe) oC σ body (tb E))
  (hh:∀ e:Addr,PSs (X.Ml e) (b₀ :: rX) th) (hd:(x == ("__debug__" : Str))=false:=by decide) :
  PS X (.Try body [.ExceptHandler (some (.Name x np)) none (b₀ :: rX) sU] [] [] pos) (zrb X.K S tb th):=by
 intro oC s σ H D I h;refine wpAny_Try_except ?_;refine dA (hb (fun ev s1=>wpAny #[or] X.A (noteFrame ev X.env) (fun _ s₂=>wpAny #[or] X.A (setFlight ev none) (fun _ s₃=>wpAny #[or] X.A (handleBy ev X.env [jH (some (Expr.Name x np)) none (b₀ :: rX) sU]) #[Vm] X.xe s₃) X.xe s₂) X.xe s1) oC σ _ ?_ s H D (I.Of _) h) (fun f s1 q=>?_) fun ev s1 z=>z
 ·
  intro H1 s1 ev s2 I1 hq;have I1:=I1.LB;obtain⟨e,C,H',B,rfl,os,bare,L,C',hC,rP,q⟩:=hq;cases hC;obtain⟨t,fl⟩:=L.fly;have qd:∀ b∈frs X.stack,H1 b=none:=I1.MY;show wpAny _ _ (noteFrame _ _) _ _ _;have IY:B.FlyingW #[Ty] e #[QC] t s2.heap:=by rw [<- yw]; exact fl
  refine kE (base:=B) (outer:=X.outer) (by rw [<- yw]; exact I1.ok.frames) uI IY fun h2 held u2=>?_
  refine mG held fun h3 AX u3=>?_
  have xV:∀ (h4:Heap),B.FlyingW #[Ty] e #[QC] t h4->s2.heap.UpToSlots h4->∀ (tk:Nat),Inv X oC σ H' ⟨h4,s2.gens,s2.drawn,tk,s2.os⟩:=by
   intro h4 xZ u4 tk;refine I1.Pq (s':=⟨h4,s2.gens,s2.drawn,tk,s2.os⟩) (ch:=[]) os ?_ (L.hok.kept xZ.1) bare #[Ug];have U:=L.un qd;refine⟨fun b o z nn hb _=>xZ.1 _ _ (L.keep b o z nn hb),fun b o z nn hb _=>?_,U.free,fun b o z _=>?_,L.Nd,L.Nj,L.Ng⟩
   ·obtain⟨sl,z1⟩:=L.slot b o z nn hb;obtain⟨_,ob,zo,nd⟩:=I1.stack.mem hb;rw [z] at zo;cases zo;obtain⟨BQ,z2⟩:=u4 b _ z1 nd;exact⟨BQ,z2⟩
   ·by_cases hb:b∈frs X.stack
    ·obtain⟨sl,z1⟩:=L.slot b o z (qd b hb) hb;obtain⟨_,ob,zo,nd⟩:=I1.stack.mem hb;rw [z] at zo;cases zo;obtain⟨BQ,z2⟩:=u4 b _ z1 nd;exact⟨_,z2⟩
    ·obtain⟨o',z1⟩:=L.there b o z hb;exact⟨o',xZ.1 _ _ z1⟩
  have I3:=xV h3 AX #[Ws] s2.toks;refine lX (kZ ?_) (by intro z; cases z);refine zcB (X:=X.Ml e) (I3.Ml e) hg hm ?_ hd;refine zeA I3.kIn AX.there rP hS ?_;rw [if_pos rfl]
  (refine codeAny_handlers_suite ?_)
  refine j2 AX fun h4 xZ u4=>?_
  have I4:=xV h4 xZ (#[Ws].trans u4) s2.toks;refine dA (hh e oC _ _ _ D (I4.Ml e) q) (fun f s7 q7=>?_) fun _ _ z=>z.elim
  cases f with
  | next =>
   obtain⟨σ',H7,I7,q8⟩:=q7;exact⟨_,_,I7.NX I.ok,q8⟩
  | brk =>
   obtain⟨σ',H7,I7,q8⟩:=q7;exact⟨_,_,I7.NX I.ok,q8⟩
  | cont =>
   obtain⟨σ',H7,I7,q8⟩:=q7;exact⟨_,_,I7.NX I.ok,q8⟩
  | ret v =>
   obtain⟨u,σ',H7,I7,r,q8⟩:=q7;exact⟨u,_,_,I7.NX I.ok,r,q8⟩
 ·cases f with
  | next=>exact gb (SP.LB q)
  | ret v=>exact SP.LB q
  | brk=>exact SP.LB q
  | cont=>exact SP.LB q
end
noncomputable def zqn (sc:Scope) (x:Str):Bool:=match sc.names.lookup x with
 | some .local=>true
 | some .cell=>true
 | some .free=>true
 | _=>false
theorem zoz {x:Str} (h:zqn sc x=true):Vis sc x:=by
 unfold zqn at h;unfold Vis;cases e:sc.names.lookup x with
 | none=>rw [e] at h; cases h
 | some k=>cases k <;> simp_all
noncomputable def pvB (N:List Str) (sc:Scope) (i:Nat) (x:Str):Bool:=decide (N[i]? = some x) && zqn sc x && !(x == ("__debug__" : Str)) && !(x == ("__classdict__" : Str))
theorem pvx {X:Cx} (i:Nat) {x:Str} {pos:Pos} (h:pvB X.N X.env.scope i x=true):PE X #[S4] (zqH i):=by
 unfold pvB at h;simp only [gv,mT,decide_eq_true_eq] at h;exact zpE h.1.1.1 (zoz h.1.1.2) h.1.2 h.2
end L2
end
section
namespace My
open PySem L2 PyProof.Rows
variable {H H':Hp} {L:Nat} {cl:List (Nat×List Int)} {kvs:List (List Key×V)} {vs:List #[wE]}
theorem Paired.get {α β:Type} {F:α->β->Prop}:∀ {l₁:List α} {l₂:List β},Paired F l₁ l₂->∀ {i:Nat} {a:α},l₁[i]? = some a->∃ b,l₂[i]? = some b/\F a b
 | _,_,.nil,i,a,h=>by simp at h
 | _,_,.cons r t,0,a,h=>by
  (simp only [ku,mV] at h)
  subst h;exact⟨_,rfl,r⟩
 | _,_,.cons r t,i+1,a,h=>by
  rw [fc] at h;obtain⟨b,hb,f⟩:=Paired.get t h;exact⟨b,by rw [fc]; exact hb,f⟩
theorem zeo {p a y:Int} (hp:p∈zw) (ha0:a % p≠0) (h:Cg p (a*y) 0):Cg p y 0:=by
 have rp:=zC hp;have g0:=bA a (show p≠0 by lia);have g1:=aW a (show 0 < p by lia);have hi:=zdw hp (h:=a % p) #[O] g1;have h1:Cg p (inv p (a % p)*(a % p)*y) (1*y):=hi.mul (Cg.refl p y);have h2:Cg p (inv p (a % p)*(a % p)*y) (inv p (a % p)*(a*y)):=by
  have:=((Cg.refl p (inv p (a % p))).mul (Cg.emod p a)).mul (Cg.refl p y);exact this.trans (Cg.of_eq (by grind))
 have h3:=(Cg.refl p (inv p (a % p))).mul h;exact #[QI].trans (h1.symm.trans (h2.trans (h3.trans #[QI])))
noncomputable def IsP (p:Int) (k:Nat) (q:TD):Prop:=q.length=k/\∀ c∈q,0<=c/\c < p
noncomputable def sm:Nat->(Nat->Int)->Int
 | 0,_=>0
 | n+1,f=>sm n f+f n
theorem zan {f g:Nat->Int}:∀ {n:Nat},(∀ i,i < n->f i=g i)->sm n f=sm n g
 | 0,_=>rfl
 | n+1,h=>by
  show sm n f+f n=sm n g+g n;rw [zan (n:=n) fun i hi=>h i #[O],h n #[O]]
theorem zeD {p:Int} {f g:Nat->Int}:∀ {n:Nat},(∀ i,i < n->Cg p (f i) (g i))->Cg p (sm n f) (sm n g)
 | 0,_=>Cg.refl _ _
 | n+1,h=>(zeD (n:=n) fun i hi=>h i #[O]).add (h n #[O])
theorem zhb {f g:Nat->Int}:∀ n:Nat,sm n (fun i=>f i+g i)=sm n f+sm n g
 | 0=>rfl
 | n+1=>by
  show sm n (fun i=>f i+g i)+(f n+g n)=sm n f+f n+(sm n g+g n);rw [zhb n];lia
theorem zcm {c:Int} {f:Nat->Int}:∀ n:Nat,sm n (fun i=>c*f i)=c*sm n f
 | 0=>by show (0:Int)=c*0; lia
 | n+1=>by
  show sm n (fun i=>c*f i)+c*f n=c*(sm n f+f n);rw [zcm n,Int.mul_add]
theorem zaW {f:Nat->Int}:∀ {n:Nat},(∀ i,i < n->f i=0)->sm n f=0
 | 0,_=>rfl
 | n+1,h=>by
  show sm n f+f n=0;rw [zaW (n:=n) fun i hi=>h i #[O],h n #[O]];rfl
theorem zmU {f:Nat->Int} {j:Nat}:∀ {n:Nat},j < n->(∀ i,i < n->i≠j->f i=0)->sm n f=f j
 | 0,hj,_=>by lia
 | n+1,hj,h=>by
  show sm n f+f n=f j;by_cases e:j=n
  ·subst e;rw [zaW fun i hi=>h i #[O] #[O]];lia
  ·rw [zmU (n:=n) #[O] fun i hi oZ=>h i #[O] oZ,h n #[O] #[O]];lia
theorem zbl {f:Nat->Int}:∀ n:Nat,sm (n+1) f=f 0+sm n (fun i=>f (i+1))
 | 0=>by show (0:Int)+f 0=f 0+0; lia
 | n+1=>by
  show sm (n+1) f+f (n+1)=f 0+(sm n (fun i=>f (i+1))+f (n+1));rw [zbl n];lia
theorem ze5 {f:Nat->Int} {m:Nat}:∀ {n:Nat},m<=n->(∀ i,m<=i->i < n->f i=0)->sm n f=sm m f
 | 0,h,_=>by rw [show m=0 by lia]
 | n+1,h,hz=>by
  by_cases e:m=n+1
  ·rw [e]
  ·show sm n f+f n=_;rw [ze5 (n:=n) #[O] fun i h1 h2=>hz i h1 #[O],hz n #[O] #[O]];lia
noncomputable def gl (w:TD) (y:Nat):Int:=w.getD y 0
theorem zby {w:TD} {y:Nat} {c:Int} (h:w[y]? = some c):gl w y=c:=by
 unfold gl;rw [bE,h];rfl
theorem zb3 {w:TD} {y:Nat} (h:w.length<=y):gl w y=0:=by
 unfold gl;rw [bE,fA h];rfl
theorem za1 {w:TD} {y:Nat} (h:y < w.length):w[y]? = some (gl w y):=by
 rw [aJ h,zby (aJ h)]
theorem zdB {w:TD} {p:Int} (hp:0 < p) (h:∀ c∈w,0<=c/\c < p) (y:Nat):0<=gl w y/\gl w y < p:=by
 by_cases hy:y < w.length
 ·exact h _ (aO (za1 hy))
 ·rw [zb3 #[O]];lia
theorem zmV {f:Int->Int} {w:TD} {y:Nat} (h:y < w.length):gl (w.map f) y=f (gl w y):=zby (by rw [aF,za1 h]; rfl)
theorem zjd {f:Int->Int->Int} {v w:TD} {y:Nat} (h:y < v.length) (h':y < w.length):gl (bV f v w) y=f (gl v y) (gl w y):=zby (by rw [kX,za1 h,za1 h'])
theorem zmW {v w:TD} (hl:v.length=w.length) (h:∀ y,y < v.length->gl v y=gl w y):v=w:=by
 refine jZ fun y=>?_
 by_cases hy:y < v.length
 ·rw [za1 hy,za1 #[O],h y hy]
 ·rw [fA #[O],fA #[O]]
theorem zkg {p x:Int}:∀ q:List Int,Cg p (zR p x q) (sm q.length fun i=>gl q i*x ^ i)
 | []=>Cg.refl _ _
 | c :: q=>by
  refine (zcq p x c q).trans ?_;rw [dN,zbl];have e:sm q.length (fun i=>gl (c :: q) (i+1)*x ^ (i+1))=x*sm q.length (fun i=>gl q i*x ^ i):=by
   rw [<- zcm];refine zan fun i _=>?_
   show gl q i*x ^ (i+1)=_;rw [eU];grind
  rw [e];refine Cg.add #[Wz] ((Cg.refl p x).mul (zkg q));show c=c*x ^ 0;rw [mI,mY]
theorem zmX {p x:Int} {q:TD} {n:Nat} (h:q.length<=n):Cg p (zR p x q) (sm n fun i=>gl q i*x ^ i):=by
 rw [ze5 h fun i h1 _=>by rw [zb3 h1,dq]];exact zkg q
noncomputable def vx (vs:List #[wE]) (i x:Nat):Int:=gl (vs.getD i []) x
noncomputable def Rel (p:Int) (L N:Nat) (vs:List #[wE]) (u:Nat->Int):Prop:=∀ x,x < L->Cg p (u x) (sm N fun i=>u (L+i)*vx vs i x)
theorem Rel.sub {p:Int} {N:Nat} {u w r:Nat->Int} (hu:Rel p L N vs u) (hw:Rel p L N vs w) (t:Int) (hr:∀ y,y < L+N->Cg p (r y) (u y - t*w y)):Rel p L N vs r:=fun x hx=>by
 refine (hr x #[O]).trans (((hu x hx).sub ((Cg.refl p t).mul (hw x hx))).trans ?_);have e:sm N (fun i=>u (L+i)*vx vs i x) - t*sm N (fun i=>w (L+i)*vx vs i x)=sm N (fun i=>(u (L+i) - t*w (L+i))*vx vs i x):=by
  rw [show ∀ a b:Int,a - t*b=a+(-t)*b by intros; grind,<- zcm,<- zhb];exact zan fun i _=>by grind
 rw [e];exact zeD fun i hi=>(hr (L+i) #[O]).symm.mul #[UI]
structure Ech (p:Int) (L N m:Nat) (vs:List #[wE]) (cl:List (Nat×List Int)):Prop where
 ln:cl.length=m
 one:∀ (j:Nat) (a:Nat×List Int),cl[j]? = some a->a.1 < L/\a.2.length=L+N/\(∀ c∈a.2,0<=c/\c < p)/\Rel p L N vs (gl a.2)/\gl a.2 a.1=1/\∀ i,j < i->i < N->gl a.2 (L+i)=0
 up:∀ (j j':Nat) (a a':Nat×List Int),cl[j]? = some a->cl[j']? = some a'->j < j'->gl a'.2 a.1=0
 ii:∀ u:Nat->Int,Rel p L N vs u->(∀ i,m<=i->i < N->Cg p (u (L+i)) 0)->(∀ a∈cl,Cg p (u a.1) 0)->∀ i,i < N->Cg p (u (L+i)) 0
theorem Ech.start (p:Int) (L N:Nat) (vs:List #[wE]):Ech p L N 0 vs [] where
 ln:=rfl
 one:=fun _ _ h=>by simp at h
 up:=fun _ _ _ _ h=>by simp at h
 ii:=fun u _ h _ i hi=>h i (bX _) hi
structure Wh (p:Int) (L N m:Nat) (vs:List #[wE]) (cl:List (Nat×List Int)) (w:TD):Prop where
 ln:w.length=L+N
 rg:∀ c∈w,0<=c/\c < p
 rel:Rel p L N vs (gl w)
 top:gl w (L+m)=1
 up:∀ j,m < j->j < N->gl w (L+j)=0
 z:∀ a∈cl,gl w a.1=0
theorem zin {p:Int} (hp:p∈zw) {N m:Nat} {v:TD} (hm:m < N) (hv:vs[m]? = some v) (hl:v.length=L) (hr:∀ c∈v,0<=c/\c < p):Wh p L N m vs [] ((v++aV N 0).set (L+m) 1):=by
 have rp:=zC hp;have JD:∀ y,y < L->gl ((v++aV N 0).set (L+m) 1) y=gl v y:=fun y hy=>zby (by
  rw [dI #[O],cQ #[O],za1 #[O]])
 have qM:gl ((v++aV N 0).set (L+m) 1) (L+m)=1:=zby (by
  rw [dJ (by rw [aS,cU]; lia)])
 have hz:∀ j,j < N->j≠m->gl ((v++aV N 0).set (L+m) 1) (L+j)=0:=fun j hj oZ=>zby (by
  rw [dI #[O],dQ #[O],fO];rw [if_pos #[O]])
 refine⟨by rw [eE,aS,cU,hl],fun c hc=>?_,fun x hx=>?_,qM,fun j h1 h2=>hz j h2 #[O],fun a ha=>by cases ha⟩
 ·rcases gq hc with h | rfl
  ·rcases (bZ.mp h) with h | h
   ·exact hr c h
   ·rw [iA h]; lia
  ·lia
 ·rw [JD x hx,zmU (j:=m) hm fun i hi oZ=>by rw [hz i hi oZ,dq],qM,m9];unfold vx;rw [bE,hv];exact Cg.refl _ _
theorem zkh {p:Int} (hp:p∈zw) {N m i:Nat} {w:TD} {a:Nat×List Int} (E:Ech p L N m vs cl) (hm:m < N) (ha:cl[i]? = some a) (W:Wh p L N m vs (cl.take i) w) :
  Wh p L N m vs (cl.take (i+1)) (bV (fun x y=>(x - gl w a.1*y) % p) w a.2):=by
 have rp:=zC hp;obtain⟨a1,a2,a3,a4,a5,a6⟩:=E.one i a ha;have Fw:i < m:=by rw [<- E.ln]; exact (aK.mp ha).1
 have hg:∀ y,y < L+N->gl (bV (fun x y=>(x - gl w a.1*y) % p) w a.2) y=(gl w y - gl w a.1*gl a.2 y) % p:=fun y hy=>zjd (by rw [W.ln]; exact hy) #[O]
 refine⟨by rw [ig,W.ln,a2,Nat.min_self],fun c hc=>?_,W.rel.sub a4 (gl w a.1) fun y hy=>by rw [hg y hy]; exact Cg.emod _ _,?_,fun j h1 h2=>?_,fun b hb=>?_⟩
 ·obtain⟨x,y,rfl⟩:=zdO hc;exact#[Rk]
 ·rw [hg _ #[O],W.top,a6 m Fw hm,eP,mJ];exact dP #[O] #[O]
 ·rw [hg _ #[O],W.up j h1 h2,a6 j #[O] h2,eP];rfl
 ·rw [take_snoc ha] at hb;rcases (bZ.mp hb) with hb | hb
  ·obtain⟨j,hj⟩:=eg hb;have Be:j < i:=by
    have:=(aK.mp hj).1;rw [bC] at this;lia
   have qH:cl[j]? = some b:=by rw [dw Be] at hj; exact hj
   have vz:=(E.one j b qH).1;rw [hg _ #[O],W.z b hb,E.up j i b a qH ha Be,eP];rfl
  ·obtain rfl:b=a:=by simpa using hb
   rw [hg _ #[O],a5,mY,Int.sub_self];rfl
theorem zio {p:Int} (hp:p∈zw) {N m:Nat} {w:TD} {ld:Nat} (E:Ech p L N m vs cl) (hm:m < N) (W:Wh p L N m vs cl w) (Ha:ld < L) (h0:gl w ld≠0) :
  Ech p L N (m+1) vs (cl++[(ld,w.map fun x=>x*inv p #[Tp] % p)]):=by
 have rp:=zC hp;obtain⟨g0,g1⟩:=zdB (show 0 < p by lia) W.rg ld;have hi:=zdw hp (h:=gl w ld) #[O] g1;have hg:∀ y,y < L+N->gl (w.map fun x=>x*inv p #[Tp] % p) y=gl w y*inv p #[Tp] % p:=fun y hy=>zmV (f:=fun x=>x*inv p #[Tp] % p) (by rw [W.ln]; exact hy)
 have pJ:∀ j a,(cl++[(ld,w.map fun x=>x*inv p #[Tp] % p)])[j]? = some a->(j < m/\cl[j]? = some a)\/(j=m/\a=(ld,w.map fun x=>x*inv p #[Tp] % p)):=fun j a h=>by
  by_cases hj:j < m
  ·rw [cQ (by rw [E.ln]; exact hj)] at h;exact .inl ⟨hj,h⟩
  ·rw [dQ (by rw [E.ln]; lia),E.ln] at h;have vN:j - m=0:=by
    have:=(aK.mp h).1;simp at this;lia
   rw [vN] at h;exact .inr ⟨#[O],#[U,h.symm]⟩
 refine⟨by rw [aS,E.ln]; rfl,fun j a h=>?_,fun j j' a a' h h' oY=>?_,fun u hu hup hz i qj=>?_⟩
 ·rcases pJ j a h with ⟨_,h⟩ | ⟨rfl,rfl⟩
  ·exact E.one j a h
  ·refine⟨Ha,by rw [aA,W.ln],fun c hc=>?_,?_,?_,fun i h1 h2=>?_⟩
   ·obtain⟨x,_,rfl⟩:=aQ.mp hc;exact#[Rk]
   ·refine Rel.sub (u:=fun _=>0) (fun x _=>Cg.of_eq (zaW fun i _=>dq _).symm) W.rel (-inv p #[Tp]) fun y hy=>?_
    rw [hg y hy];exact (Cg.emod _ _).trans (Cg.of_eq (by grind))
   ·rw [hg ld #[O]];have h2:Cg p (gl w ld*inv p #[Tp]) 1:=(Cg.of_eq (iw _ _)).trans hi;rw [h2.mod_eq];exact dP #[O] #[O]
   ·rw [hg _ #[O],W.up i h1 h2,dq];rfl
 ·rcases pJ j' a' h' with ⟨qH,h'⟩ | ⟨rfl,rfl⟩
  ·rcases pJ j a h with ⟨_,h⟩ | ⟨rfl,_⟩
   ·exact E.up j j' a a' h h' oY
   ·lia
  ·rcases pJ j a h with ⟨_,h⟩ | ⟨rfl,_⟩
   ·have:=(E.one j a h).1;rw [hg _ #[O],W.z a (aO h),dq];rfl
   ·lia
 ·have hru:Rel p L N vs (fun y=>u y - u (L+m)*gl w y):=hu.sub W.rel (u (L+m)) fun y _=>Cg.refl _ _
  have sR:=E.ii (fun y=>u y - u (L+m)*gl w y) hru (fun i h1 h2=>by
   by_cases e:i=m
   ·subst e;show Cg p (u (L+i) - u (L+i)*gl w (L+i)) 0;rw [W.top];exact Cg.of_eq #[O]
   ·show Cg p (u (L+i) - u (L+m)*gl w (L+i)) 0;rw [W.up i #[O] h2,eP,mJ];exact hup i #[O] h2) (fun a ha=>by
   show Cg p (u a.1 - u (L+m)*gl w a.1) 0;rw [W.z a ha,eP,mJ];exact hz a (bM _ ha))
  have Fx:Cg p (u ld - u (L+m)*gl w ld) 0:=(hru ld Ha).trans ((zeD (g:=fun _=>0) fun i hi=>((sR i hi).mul #[UI]).trans (Cg.of_eq (dq _))).trans (Cg.of_eq (zaW fun _ _=>rfl)));have tL:=hz (ld,_) (bG _ (cW.mpr rfl));have hc:Cg p (gl w ld*u (L+m)) 0:=by
   have:=tL.sub Fx;exact (Cg.of_eq (by show gl w ld*u (L+m)=u ld - (u ld - u (L+m)*gl w ld); grind)).trans (this.trans #[QI])
  have Hb:Cg p (u (L+m)) 0:=zeo hp (by rw [dP g0 g1]; exact h0) hc;have:=sR i qj;have h3:=this.add (Hb.mul (Cg.refl p (gl w (L+i))));exact (Cg.of_eq (by show u (L+i)=u (L+i) - u (L+m)*gl w (L+i)+u (L+m)*gl w (L+i); lia)).trans (h3.trans #[QI])
noncomputable def Indep (p:Int) (L:Nat) (vs:List #[wE]):Prop:=∀ u:Nat->Int,(∀ x,x < L->Cg p (sm vs.length fun i=>u i*vx vs i x) 0)->∀ i,i < vs.length->Cg p (u i) 0
noncomputable def Dep (p:Int) (L:Nat) (vs:List #[wE]) (c:TD):Prop:=∀ x,x < L->Cg p (sm vs.length fun i=>gl c i*vx vs i x) 0
theorem zmY {p:Int} (E:Ech p L vs.length vs.length vs cl):Indep p L vs:=fun u hu i hi=>by
 have h:=E.ii (fun y=>if y < L then sm vs.length (fun i=>u i*vx vs i y) else u (y - L)) (fun x hx=>?_) (fun i h1 h2=>by lia) #[V6] i hi
 ·rw [if_neg #[O],fe] at h;exact h
 ·dsimp only;rw [if_pos hx];refine Cg.of_eq (zan fun i _=>?_);rw [if_neg #[O],fe]
 ·obtain⟨j,hj⟩:=eg ha;have:=(E.one j a hj).1;rw [if_pos this];exact hu _ this
theorem zmZ {p:Int} {m:Nat} {w:TD} (W:Wh p L vs.length m vs cl w) (hm:m < vs.length) (hz:∀ x,x < L->gl w x=0) :
  IsP p (m+1) (#[WG].take (m+1))/\gl (#[WG].take (m+1)) m=1/\Dep p L vs (#[WG].take (m+1)):=by
 have hg:∀ i,i<=m->gl (#[WG].take (m+1)) i=gl w (L+i):=fun i hi=>zby (by
  rw [dw #[O],iu];exact za1 (by rw [W.ln]; lia))
 have hl:(#[WG].take (m+1)).length=m+1:=by
  rw [bC,fq,W.ln];lia
 refine⟨⟨hl,fun c hc=>W.rg c (lF (g7 hc))⟩,by rw [hg m (aG _)]; exact W.top,fun x hx=>?_⟩;have h:=W.rel x hx;rw [hz x hx] at h;refine Cg.trans (Cg.of_eq (zan fun i hi=>?_)) h.symm;by_cases e:i<=m
 ·rw [hg i e]
 ·rw [W.up i #[O] hi,zb3 #[O]]
noncomputable def PtB (H:Hp):List Addr->List (Int×Int)->Prop:=Paired fun b q=>H b=some (.tup [.int q.1,.int q.2])
theorem PtB.same (s:zr H H') {bs:TF} {oJ:List (Int×Int)} (h:PtB H bs oJ):PtB H' bs oJ:=eA #[R3] h
noncomputable def zb7 (H:Hp):List Addr->List #[wE]->Prop:=Paired fun r q=>H r=some (.tup (q.map V.int))
theorem zb7.same (s:zr H H') {rs:TF} {qs:List #[wE]} (h:zb7 H rs qs):zb7 H' rs qs:=eA #[R3] h
theorem zb7.of {H:Hp}:∀ {ps:List (Addr×List Int)},(∀ q∈ps,H q.1=some (.tup (q.2.map V.int)))->zb7 H (ps.map (·.1)) (ps.map (·.2))
 | [],_=>.nil
 | a :: ps,h=>.cons (h a bF) (zb7.of fun q hq=>h q (aY _ hq))
theorem zm0 {κ:Type} [DecidableEq κ] (kvs:List (κ×V)) (k:κ) (v:V):#[QW].map (·.1)=if k∈kvs.map (·.1) then kvs.map (·.1) else kvs.map (·.1)++[k]:=by
 unfold putK;by_cases h:(kvs.any fun kv=>decide (kv.1=k))=true
 ·rw [if_pos h];obtain⟨kv,h1,h2⟩:=nF.mp h;have h2:kv.1=k:=by simpa using h2
  rw [if_pos (by rw [<- h2]; exact gD h1),cV];refine fk fun a _=>?_
  show (if a.1=k then (a.1,v) else a).1=a.1;split <;> rfl
 ·rw [if_neg h];rw [if_neg (fun hm=>h ?_),aN]
  ·rfl
  ·obtain⟨kv,h1,h2⟩:=aQ.mp hm;exact nF.mpr ⟨kv,h1,by simpa using h2⟩
theorem ze6 {a b:TD} (h:(a.map cM:List Key)=b.map cM):a=b:=by
 induction a generalizing b with
 | nil=>cases b with
  | nil=>rfl
  | cons _ _=>simp at h
 | cons x a ih=>cases b with
  | nil=>simp at h
  | cons y b =>
   rw [bT,bT] at h;obtain⟨h1,h2⟩:=iV h;rw [kK h1,ih h2]
noncomputable def KeysAre (kvs:List (List Key×V)) (o9:List #[wE]):Prop:=kvs.map (·.1)=o9.map (·.map cM)
theorem ziq {o9:List #[wE]} (h:KeysAre kvs o9) (hn:o9.Nodup) (q:TD) (v:V):∃ uR,KeysAre (putK kvs (q.map cM) v) uR/\uR.Nodup/\uR.length<=o9.length+1/\∀ x,x∈uR↔x∈o9\/x=q:=by
 unfold KeysAre at h |-;rw [zm0,h];have hm:(q.map cM:List Key)∈o9.map (·.map cM)↔q∈o9:=by
  constructor
  ·intro hm;obtain⟨x,hx,e⟩:=aQ.mp hm;rw [<- ze6 e];exact hx
  ·intro hm;exact gD hm
 by_cases hq:q∈o9
 ·refine⟨o9,by rw [if_pos (hm.mpr hq)],hn,#[O],fun x=>⟨.inl,fun z=>z.elim id fun e=>e ▸ hq⟩⟩
 ·refine⟨o9++[q],by rw [if_neg fun z=>hq (hm.mp z),aN]; rfl,?_,by rw [aS]; exact aG _,fun x=>by rw [bZ,cW]⟩;rw [ff];exact⟨hn,#[M],fun a ha b hb e=>hq (by rw [<- cW.mp hb,<- e]; exact ha)⟩
end My
end
section
namespace L2
open PySem PySem.Spec PyProof.Rows
variable {H:Hp} {P:Program} {X:Cx} {h:Heap} {kvs:List (List Key×V)} {oC:TC} {s:Shared} {tg:Expr} {w:World}
noncomputable def Itd (d:Addr) (o:Obj) (kvs:List (List Key×V)):It :=
 ⟨fun i H=>H d=some #[SI]/\i < kvs.length,fun i H x H'=>H'=H/\∃ a k,x = .ref a/\(kvs.map (·.1))[i]? = some k/\H a=some #[QM],fun i H=>H d=some #[SI]/\kvs.length<=i⟩
theorem zm1 {d:Addr} {o:Obj} {es:Array DictEntry} {ep:Nat} (hd:o.data = .dict es ep) (x:zak P w H h d #[SI]) :
  zeN h d es ep/\es.size=kvs.length/\∀ (i:Nat) (e:DictEntry),es[i]? = some e->∃ a k,e.key = .ref a/\(kvs.map (·.1))[i]? = some k/\H a=some #[QM]:=by
 obtain⟨ho,_,_,xs,hp,o',An,GN,sJ,hx,he,vm,qF⟩:=x;have e1:o'=o:=by rw [ho] at sJ; exact (bI sJ).symm
 subst e1;rw [he] at hd;cases hd;have hl:es.toList.length=kvs.length:=by rw [vm,aA]; exact (bS hp).symm
 refine⟨⟨o',ho,hx,he⟩,by simpa using hl,fun i e h=>?_⟩;have h':es.toList[i]? = some e:=by rw [cD]; exact h
 rw [vm,aF] at h';cases AO:xs[i]? with
 | none=>rw [AO] at h'; cases h'
 | some x =>
  rw [AO] at h';have AQ:e=entryOfKey #[Rc] x:=(bI h').symm;have key:∀ {kvs:List (List Key×V)} {xs:List (List Key×Addr×Value)},Paired (fun (p:List Key×V) (q:List Key×Addr×Value)=>p.1=q.1/\H q.2.1=some (.tup (p.1.map kV))/\RelV p.2 q.2.2) kvs xs->∀ (i:Nat) x,xs[i]? = some x->∃ p,kvs[i]? = some p/\H x.2.1=some (.tup (p.1.map kV)):=by
   intro kvs xs hp;induction hp with
   | nil=>intro i x h; simp at h
   | cons h1 _ ih =>
    intro i x h;cases i with
    | zero =>
     (simp only [ku,mV] at h)
     subst h;exact⟨_,rfl,h1.2.1⟩
    | succ i =>
     rw [fc] at h;obtain⟨p,hp,hh⟩:=ih i x h;exact⟨p,by rw [fc]; exact hp,hh⟩
  obtain⟨p,ux,hh⟩:=key hp i x AO;exact⟨x.2.1,p.1,by rw [AQ]; rfl,by rw [aF,ux]; rfl,hh⟩
theorem zoA {K:aD} (d it:Addr) (o:Obj) (kvs:List (List Key×V)) (es:Array DictEntry) (ep:Nat) (hd:o.data = .dict es ep):Turn P w K tg (Itd d o kvs) [it] it (fun i h=>h.IsKeyIter it d i es.size ep) where
 mem:=by simp
 obj:=fun i h st b hb=>by
  have e:b=it:=by simpa using hb
  subst e;obtain⟨o,e,c,d⟩:=st;exact⟨o,e,fun v z=>by rw [d] at z; cases z⟩
 keep:=fun i h h' st k=>st.at fun o e=>k it #[M] o e
 item:=by
  intro X hP hw hK hc i oC s σ H E I hf st hg;subst hP hw hK;obtain⟨hq,hi⟩:=hg;obtain⟨yD,hsz,qV⟩:=zm1 hd (I.hok d _ hq);have qj:i < es.size:=by lia
  obtain⟨a,k,he,hk,ha⟩:=qV i es[i] (getElem?_pos es i qj);obtain⟨f0,f1,f2,f3,f4,f5⟩:=hf it #[M];refine zim st yD (getElem?_pos es i qj) fun h' oI sb=>?_
  have I1:Inv X oC σ H { s with heap:=h' }:=I.turned (t':=s.toks) (fun b o hb e=>(sb.2 b hb).trans e) f0 f1 f3 f4 f5;obtain⟨o,e,c,d⟩:=id oI;exact⟨_,rfl,zgb (s:={ s with heap:=h' }) e c d #[D] ⟨.ref a,H,I1,by rw [he]; rfl,⟨rfl,a,k,rfl,hk,ha⟩,oI,fun b hb=>#[Vw].1⟩⟩
 done:=by
  intro X hP hw hK hc i oC s σ H E I hf st hg;subst hP hw hK;obtain⟨hq,hi⟩:=hg;obtain⟨yD,hsz,qV⟩:=zm1 hd (I.hok d _ hq);obtain⟨f0,f1,f2,f3,f4,f5⟩:=hf it #[M];exact zke #[QO] st yD #[O] fun h' eb=>#[wn]
 self:=fun _ _ _ _ _ st h=>lG st h
theorem Inv.Qh {σ:St} {d:Addr} {o:Obj} (I:Inv X oC σ H s) (hd:H d=some #[QZ]) (ho:s.heap.get? d=some o):Inv X oC σ (oG H d #[SI]) s:=by
 have ne:∀ b u,H b=some u->(∀ k,u≠.dT k)->b≠d:=fun b u e n z=>by subst z; rw [hd] at e; exact n kvs (bI e).symm
 have nn:∀ b,H b=none->b≠d:=fun b e z=>by subst z; rw [hd] at e; cases e
 have up:∀ b,H b=none->oG H d #[SI] b=none:=fun b e=>by rw [zn (nn b e)]; exact e
 refine⟨I.ok,I.os,I.bare,⟨I.base.keep,I.base.slot,fun b u e n hx=>up b (I.base.free b u e n hx),I.base.there,fun b xs e=>?_,fun b u xs e=>?_,fun b ps e=>?_⟩,I.loc,I.cell,up _ I.free,fun x c e=>up _ (I.L3 x c e),fun p ux=>?_,fun b u e=>?_,I.len⟩
 ·have:=I.base.Nd b xs e;rw [zn (ne b _ this fun k z=>by cases z)];exact this
 ·have:=I.base.Nj b u xs e;rw [zn (ne b _ this fun k z=>by cases z)];exact this
 ·obtain⟨more,q⟩:=I.base.Ng b ps e;exact⟨more,by rw [zn (ne b _ q fun k z=>by cases z)]; exact q⟩
 ·obtain⟨a1,a2,a3⟩:=I.pin p ux;exact⟨a1,up _ a2,a3⟩
 ·have Ny:∀ {u:HO} {b:Addr},zak X.prog X.w H s.heap b u->zak X.prog X.w (oG H d #[SI]) s.heap b u:=fun {u b} x=>x.Ny (fun c v _ q=>q) (fun c q=>by rw [zn (ne c _ q fun k z=>by cases z)]; exact q) fun c xs q=>by rw [zn (ne c _ q fun k z=>by cases z)]; exact q
  by_cases hb:b=d
  ·subst hb;rw [zb] at e;cases e;exact⟨ho,Ny (I.hok b _ hd)⟩
  ·rw [zn hb] at e;exact Ny #[TQ]
noncomputable def iDT (tl:TE):TI:=fun σ H R=>tl σ H fun x H1=>∃ d kvs,x = .ref d/\H1 d=some #[QZ]/\∀ o,R (Itd d o kvs) (oG H1 d #[SI])
theorem zpo {X:Cx} {tg l:Expr} {tl:TE} (hl:PE X l tl):PI X tg l (iDT tl):=by
 intro oC s σ H R I h;refine thn #[S7] fun v s1 ⟨x,H1,I1,r1,q1⟩=>?_
 obtain⟨d,kvs,e,hd,q⟩:=q1;subst e;cases r1;obtain⟨hz,hs,xs,hp,o,es,ep,ho,hx,he,vm,qF⟩:=I1.hok d _ hd;have I2:=I1.Qh hd ho;refine zil (es:=es) (ep:=ep) hs ⟨o,ho,hx,he⟩ ?_;refine⟨s1.heap.objs.size,[s1.heap.objs.size],_,_,_,rfl,I2.kept (t':=s1.toks) fun b o e=>aI _ e,zoA d _ o kvs es ep he,⟨_,aZ _ rfl,rfl,rfl⟩,fun b hb=>?_,q o⟩;have e:b=s1.heap.objs.size:=by simpa using hb
 subst e;exact I2.Oi (aG _) (I2.hok.fresh (aG _))
end L2
end
section
namespace My
open PySem L2 PyProof.Rows
variable {H:Hp} {X:Cx}
theorem zje {st:Stmt} {ts:TS} (h:PS X st ts):PS X st (fun D σ H=>∃ Pv:L2.St->Hp->Prop,ts { D with nx:=Pv } σ H/\∀ σ' H',Pv σ' H'->D.nx σ' H'):=by
 intro oC s σ H D I hq;obtain⟨Pv,h1,h2⟩:=hq;refine thn (h oC s σ H _ I h1) fun f s1 q=>?_
 cases f with
 | next =>
  obtain⟨σ',H',I',p⟩:=q;exact⟨σ',H',I',h2 _ _ p⟩
 | ret v=>exact q
 | brk=>exact q
 | cont=>exact q
theorem zm2 {a:Addr} {o:HO}:zr (hide H a) #[ST]:=fun b u e=>by
 unfold hide at e;by_cases hb:b=a
 ·rw [if_pos hb] at e; cases e
 ·rw [if_neg hb] at e;rw [zn hb];exact e
end My
end
section
namespace L2
open PySem PySem.Spec PyProof.Rows
end L2
end
section
namespace HT
open PySem PySem.Spec PyProof.Rows
end HT
namespace L2
open PySem PySem.Spec PyProof.Rows
theorem zir {X:Cx} {K:aD} {tg l:Expr} {tl:TE} (hK:X.K=K) (hl:PE X l tl):PI X tg l (zpc K tl):=by subst hK; exact zai hl
end L2
end
section
namespace My
open PySem L2 PyProof.Rows
variable {H H':Hp} {cl:List (Nat×List Int)} {vv:List #[wE]}
noncomputable def zjf (K:aD):Sp:=fun vs H Q _=>∃ (p tm:Int) (a b:Addr) (as bs:TD),vs = [.int p,.ref a,.int tm,.ref b]/\H a=some (.lst #[Th])/\H b=some (.lst #[Uc])/\as.length=bs.length/\as.length<=1000/\0 < p/\0<=tm/\tm < 1000 /\
 ∀ (l:Addr) (H':Hp),H l=none->zr H H'->H' l=some (.lst ((bV (fun x y=>(x - tm*y) % p) as bs).map V.int))->Q #[RB] H'
noncomputable def LsA (H:Hp):List Addr->List #[wE]->Prop:=Paired fun b v=>H b=some #[Ve]
theorem LsA.same (s:zr H H') {bs:TF} (h:LsA H bs vv):LsA H' bs vv:=eA #[R3] h
noncomputable def ClA (ca:Addr) (H:Hp):List Addr->List (Nat×List Int)->Prop:=Paired fun b a=>∃ wa,H b=some (.tup [.int (a.1:Int),.ref wa])/\H wa=some (.lst (a.2.map V.int))/\wa≠ca
theorem ClA.same {ca:Addr} (s:zr H H') {bs:TF} (h:ClA ca H bs cl):ClA ca H' bs cl:=eA (fun _ _ ⟨wa,z1,z2,z3⟩=>⟨wa,s _ _ z1,s _ _ z2,z3⟩) h
theorem ClA.put {ca:Addr} {bs:TF} {xs:List V} {o:HO} (h:ClA ca H bs cl) (hf:H ca=some #[Ry]):ClA ca (oG H ca o) bs cl:=eA (fun b _ ⟨wa,z1,z2,z3⟩=>⟨wa,by
 rw [zn (fun e=>by rw [e,hf] at z1; cases z1)]; exact z1,by rw [zn z3]; exact z2,z3⟩) h
theorem zoB {xs:List V} {a b:Nat} (h:b<=xs.length):zb6 xs (some (a:Int)) (some (b:Int))=(xs.drop a).take (b - a):=by
 unfold zb6;rw [HT.MF,HT.MF];by_cases ha:a<=xs.length
 ·rw [fJ ha,fJ h]
 ·rw [show min a xs.length=xs.length by lia,fJ h,kR (aG _),kR (show xs.length<=a by lia),lR,lR]
end My
end
section
namespace L2
open PySem PySem.Spec PyProof.Rows
theorem zbC {X:Cx} (hc:X.calm=true):zbx X (.builtin "max") (fun xs H Q=>∃ (p:Addr) (ns:TD),xs = [.ref p]/\oE X.K H p #[Db]/\ns≠[]/\∀ M:Int,M∈ns->(∀ a∈ns,a<=M)->Q (.int M) H):=by
 intro oC s σ H xs us Q I r h;obtain⟨p,ns,rfl,hq,hn,q⟩:=h;obtain⟨u,rfl,rx⟩:=vals1 r;cases rx;obtain⟨oF,rv,pl,hz⟩:=I.list hq;have hi:IntsAre oF ns:=by simpa using intsAre_of rv
 (obtain⟨xs,e⟩:=hi.allInts.items)
 have xh:ns=xs.toList.map (·.1):=by rw [<- hi.numsOf,<- nums_intItems,<- e]
 have hsz:0 < xs.size:=by
  have h3:=jp.mpr hn;rw [xh,aA,cL] at h3;exact h3
 have hl:=pl.isList;rw [e] at hl;refine max_intList #[QO] hl hsz fun v h' tk hv hk=>?_
 (obtain⟨t,rfl⟩:=intItems_at hv)
 (obtain⟨h1,h2⟩:=argBest_gt (numAt xs) (xs.size - 1))
 refine⟨.int _,H,I.kept hk,⟨_,rfl⟩,q _ ?_ fun a ha=>?_⟩
 ·(rw [xh,numAt_eq]; exact getD_mem (by rw [aA,cL]; lia))
 ·rw [xh] at ha
  (obtain⟨j,hj,rfl⟩:=mem_getD ha)
  (rw [aA,cL] at hj)
  (rw [<- numAt_eq]; exact h2 j #[O])
end L2
end
section
namespace My
open PySem L2 PyProof.Rows
theorem zjg {S:List Nat}:∀ {l:List Nat},l.Nodup->l.length<=(l.filter fun i=>decide (i∉S)).length+S.length:=by
 induction S with
 | nil =>
  intro l _;rw [l6.mpr #[M]];exact aG _
 | cons a S ih =>
  intro l hl;have h1:=ih hl;have h2:l.filter (fun i=>decide (i∉a :: S))=(l.filter fun i=>decide (i∉S)).filter (fun i=>i != a):=by
   rw [List.filter_filter];refine List.filter_congr fun i _=>?_
   by_cases e:i=a <;> by_cases e2:i∈S <;> simp [e,e2]
  have h3:=List.Nodup.erase_eq_filter (hl.filter fun i=>decide (i∉S)) a;have h4:(l.filter fun i=>decide (i∉S)).length<=((l.filter fun i=>decide (i∉S)).erase a).length+1:=by
   rw [List.length_erase];split <;> lia
  rw [h2,<- h3,dN];lia
theorem zis {f:Nat->Int} (m:Nat):∀ n,sm (m+n) f=sm m f+sm n fun j=>f (m+j)
 | 0=>by show sm m f=sm m f+0; lia
 | n+1=>by
  show sm (m+n) f+f (m+n)=sm m f+(sm n (fun j=>f (m+j))+f (m+n));rw [zis m n];lia
end My
end
section
namespace PySem
open PyProof.Rows
end PySem
namespace L2
open PySem PySem.Spec PyProof.Rows
variable {X:Cx}
theorem zfC {K:aD} (hK:X.K=K):zbx X (.type "tuple") (fun xs H Q=>∃ p ys,xs = [.ref p]/\((oE K H p ys/\∀ l,H l=none->Q #[RB] (oG H l (.tup ys)))\/(oQ K H p ys/\Q (.ref p) H))):=by subst hK; exact zbd
theorem zjh {K:aD} (hK:X.K=K) (hc:X.calm=true):zbx X (.builtin "max") (fun xs H Q=>∃ (p:Addr) (ns:TD),xs = [.ref p]/\oE K H p #[Db]/\ns≠[]/\∀ M:Int,M∈ns->(∀ a∈ns,a<=M)->Q (.int M) H):=by subst hK; exact zbC hc
end L2
end
section
namespace PySem
theorem zeO:typeLookup (.type "zip") "__getattr__" = pure none:=by rw [gf,eJ]; kernel_rfl
theorem zhc:typeLookup (.type "zip") "keys" = pure none:=by rw [gf,eJ]; kernel_rfl
theorem zm3:entryFor table "zip.__getattribute__" = some Builtin.«object.__getattribute__»:=entryFor_alias (id':="object.__getattribute__") (by kernel_rfl) #[N] #[N] (by kernel_rfl)
theorem zm4 (a:Addr) (xs:Array Value) (u:Tok) :
  Meets (Builtin.«object.__getattribute__» ⟨[.ref a,.str "keys" u],[]⟩) (fun A R s=>s.heap.get? a=some { cls:=.type "zip",dict:=none,data:=.fields xs,slots:=#[] }/\raisesAttr #[QD] "keys" A R s) :=
 Meets.of_wp fun prog w A R s vt=>by
  (obtain⟨hp,g,d,tk,os⟩:=s)
  obtain⟨hx,hs⟩:=vt;have hT:(⟨hp,g,d,tk,os⟩:Shared).TypeIs #[QD] "zip":=⟨_,hx,rfl⟩;have hmiss:=zhc
  (unfold Builtin.«object.__getattribute__»); repeat (any_goals (first | assumption | wp_step))
  exact wpAny_raiseAttrError hs.1 hs.2 (attrMsg_fits #[N] (by rw [bN]; decide))
theorem zoC {prog:Program} {w:World} {A:Around} {E:TB} {s:Shared} {a:Addr} {xs:Array Value} {Q:Option Value->Shared->Prop}
  (hx:s.heap.get? a=some { cls:=.type "zip",dict:=none,data:=.fields xs,slots:=#[] }) (hA:A.handled=none)
  (h:∀ h' tk,(∀ b o,s.heap.get? b=some o->h'.get? b=some o)->Q none { s with heap:=h',toks:=tk }) :
  wpAny #[ul] A (getAttr? #[QD] "keys") Q E s:=by
 (obtain⟨hp,g,d,tk,os⟩:=s)
 have hT:∀ tk',(⟨hp,g,d,tk',os⟩:Shared).TypeIs #[QD] "zip":=fun _=>⟨_,hx,rfl⟩
 have f1:=sub_AttributeError;have f3:=F.slot_zip_getattribute.lookup;have f4:=F.slot_zip_getattribute.bind #[QD];have f5:=zeO
 (unfold getAttr? getAttrBy? getAttrBy)
 repeat (any_goals (first | assumption | exact hT _ | ((with_reducible show wpAny _ _ (call (n8 "zip.__getattribute__") _ _) _ _ _); refine gp F.slot_zip_getattribute (hT _) zm3 (F.args_zip_getattribute_2 _ _) (zm4 a xs _) ⟨hx,hA,fun h' tk' e uJ=>?_⟩) | wp_step))
 (obtain⟨t',u',he⟩:=uJ.there)
 (show wpAny _ _ (getattributeRaised _ _ _ _ _ _ _) _ _ _)
 unfold getattributeRaised; repeat (any_goals (first | assumption | wp_step))
 exact h _ _ uJ.keeps
end PySem
end
section
namespace PySem
theorem zit:entryFor table "dict.update.loop" = some Builtin.«dict.update.loop»:=entryFor_of_tree (by kernel_rfl)
theorem zdZ:plainId "dict.update.loop" = true:=by decide +kernel
end PySem
namespace L2
open PySem PySem.Spec PyProof.Rows
variable {A:Around} {H:Hp} {X:Cx} {h':Heap} {kvs:List (List Key×V)} {oC:TC} {pos:Pos} {s:Shared} {tk:Nat} {v y:V} {ys:List V}
abbrev zrK (n a b:Nat) (i:Nat) (h:Heap):Prop:=(∃ f0 f1,IsZ h (n+4) (n+2) (n+3) f0 f1/\ZF f0 f1)/\IsPair h (n+2) (.ref n) (.ref (n+1))/\(∃ u v,IsPair h (n+3) u v)/\h.IsListIter n a i/\h.IsListIter (n+1) b i
theorem zll {κ:Type} [DecidableEq κ] {kvs:List (κ×V)} {k:κ} (h:k∉kvs.map (·.1)):zaO kvs k=none:=by
 unfold zaO;rw [Option.map_eq_none_iff,List.find?_eq_none];intro kv hkv e;have e:kv.1=k:=of_decide_eq_true e;exact h (aQ.mpr ⟨kv,hkv,e⟩)
theorem zm5 {κ:Type} {ks:List κ} {i:Nat} {k:κ} (hk:ks[i]? = some k) (hy:ys[i]? = some y):#[Td].take (i+1)=#[Td].take i++[(k,y)]:=by
 have:#[Td][i]? = some (k,y):=by rw [io]; exact⟨hk,hy⟩
 rw [jY,this,lO]
theorem zoD {κ:Type} {ks:List κ} {i:Nat} {k:κ} (qF:ks.Nodup) (hk:ks[i]? = some k):k∉(#[Td].take i).map (·.1):=by
 intro h;obtain⟨q,hq,e⟩:=aQ.mp h;obtain⟨j,hj⟩:=d7.mp hq;have Be:j < i:=by
  have:=(aK.mp hj).1;rw [bC] at this;lia
 rw [dw Be] at hj;have hkj:ks[j]? = some k:=by
  have qH:#[Td][j]? = some (q.1,q.2):=hj;rw [io] at qH;rw [qH.1,e]
 have h1:=(aK.mp hkj).1;have h2:=(aK.mp hk).1;exact eI.mp qF j i h1 h2 Be (by rw [(aK.mp hkj).2,(aK.mp hk).2])
theorem zoE {α β:Type} {R:α->β->Prop} {as:List α} {bs:List β} (h:Paired R as bs):∀ {i:Nat} {x:α},as[i]? = some x->∃ y,bs[i]? = some y/\R x y:=by
 induction h with
 | nil=>intro i x e; simp at e
 | cons h1 _ ih =>
  intro i x e;cases i with
  | zero=>cases e; exact⟨_,rfl,h1⟩
  | succ i=>exact ih #[U,e]
theorem zch {n c:Nat} (h:c∈[n+4,n+3,n,n+1]):c∈zcl n:=by
 simp only [zcl,bD,cG,or_false] at h |-;rcases h with z | z | z | z <;> subst z <;> simp
theorem zrc {σ:St} {n:Nat} (I:Inv X oC σ H s) (hf:∀ c∈zcl n,zcg X oC H c) (k1:∀ c o,c∉[n+4,n+3,n,n+1]->s.heap.get? c=some o->h'.get? c=some o):Inv X oC σ H { s with heap:=h',toks:=tk }:=by
 have wu:∀ d u',H d=some u'->d∉[n+4,n+3,n,n+1]:=fun d u' e' hd=>by rw [(hf d (zch hd)).1] at e'; cases e'
 refine I.step (g':=s.gens) (d':=s.drawn) (t':=tk) (ch:=[n+4,n+3,n,n+1]) (fun c oT=>?_) #[Vr] #[TV] #[RO]
  (fun c o pT e=>⟨o,k1 c o pT e⟩) #[SH] #[RN] (fun c ps e=>⟨#[],by rw [e]; simp⟩) #[SG] (fun c u e=>?_) I.bare
 ·obtain⟨_,a1,_,a3,a4,a5⟩:=hf c (zch oT);exact⟨a3,a1,a4,a5⟩
 ·obtain⟨o,An,ep,ho,r⟩:=hm;exact⟨o,An,ep,k1 _ o (fun z=>(hf _ (zch z)).2.1 rfl) ho,r⟩
 ·refine (I.hok c u e).Ny #[WC] #[Te] fun _ _ q=>q
  rcases hd with z | z
  ·rw [z]; exact wu c u e
  ·exact wu d _ z
theorem zlm {σ:St} {a b:Addr} {k:List Key} {r:Value} {E:TB} {Q:Unit->Shared->Prop} (hu:A.units+1 < cLine) (I:Inv X oC σ H s) (e:H a=some #[QZ]) (eb:H b=some #[QM]) (l:kvs.length < sizeLine) (rv:RelV v r)
  (h:∀ s',(∀ c o,c≠a->s.heap.get? c=some o->s'.heap.get? c=some o)->Inv X oC σ (oG H a (.dT #[QW])) s'->Q () s'):wpAny #[or] A.in1 (dictSet a #[T7] r) Q E s:=by
 obtain⟨z,hd,xs,rel,dd⟩:=zpl I.hok e;have hz:xs.length<=sizeLine:=by rw [<- bS rel]; exact z
 have hl:#[QW].length<=sizeLine:=by have:=zca kvs k v; lia
 refine wpAny_dictSet_heap (hsz:=hz) (ir hu) (zfw I.hok eb) dd fun h' Cw hs=>h _ (fun c o hc eo=>hs.extBut c o hc eo) ?_
 obtain⟨q,es,ep,hq,h2,h3,h4,_,h5⟩:=Cw;refine zg2 I (by rw [e]; exact gn) hs ⟨q,hq⟩ ⟨hl,hd,_,(rel.put k eb rv).keeps fun c ys ec=>?_,q,es,ep,hq,h2,h3,h4,h5⟩;rw [zn (zpb ec e (fun z=>nomatch z))];exact ec
noncomputable def KyA (H:Hp):List V->List (List Key)->Prop:=Paired fun x k=>∃ c,x = .ref c/\H c=some #[QM]
theorem zoF {σ:St} {R:Result->Shared->Prop} {H0:Hp} {a b n D:Nat} {xs:List V} {ks:List (List Key)} (hh:A.handled=none) (hu:A.units+1 < cLine) (ha:a < n) (hb:b < n)
  (hD:H0 D=none) (hfD:D∉zcl n) (tH:oE X.K H0 a xs) (qJ:oE X.K H0 b ys) (hk:KyA H0 xs ks) (qF:ks.Nodup) (hf:∀ c∈zcl n,zcg X oC H0 c)
  (hR:∀ s' H',Inv X oC σ H' s'->zr H0 H'->H' D=some (.dT #[Td])->R (.ok (.ret .none)) s') :
  ∀ (m i:Nat) (t:Tok) (s:Shared) (H:Hp),i+m=min xs.length ys.length->Inv X oC σ H s->zr H0 H->(∀ c∈zcl n,H c=none)->zrK n a b i s.heap->H D=some (.dT (#[Td].take i)) ->
   codeAny #[or] A (.builtin "dict.update.loop" ⟨[.ref D,.ref (n+4),.int i t,.none],[]⟩) R s:=by
 intro m;induction m with
 | zero =>
  intro i t s H hi I hs hn st JE;obtain⟨⟨f0,f1,h1,AW⟩,h2,⟨u0,v0,h3⟩,h4,h5⟩:=st;obtain⟨p8,vF,p1,vn⟩:=I.list (hs.seq tH);obtain⟨pj,vG,p2,wA⟩:=I.list (hs.seq qJ);have vo:=vF.length;have qc:=vG.length;refine kD zit ?_;rw [lH zdZ _];show wpAny _ A.in1 (pyNext #[WT] >>= _) _ _ s;have Fy:A.in1.in1.handled=none:=by simp [hh]
  refine aB (zmt #[W9] #[Xa] (zeY ha hb) h1 AW h2 h3 ⟨h4,p1.isList⟩ ⟨h5,p2.isList⟩ (by rw [aP,aP]; lia) fun h' tk kk=>?_);show wpAny _ A.in1 (Builtin.Dict.addKeywords D [] >>= _) _ _ _
  (refine aB #[V4])
  have I1:Inv X oC σ H { s with heap:=h',toks:=tk }:=zrc I (fun c hc=>⟨hn c hc,(hf c hc).2⟩) fun c o oT e=>by
   simp only [bD,cG,or_false,not_or] at oT;exact kk c o oT.1 oT.2.1 oT.2.2.1 oT.2.2.2 e
  refine hR _ _ I1 hs ?_;rw [JE,bO];rw [nR,<- bS hk];lia
 | succ m ih =>
  intro i t s H hi I hs hn st JE;obtain⟨⟨f0,f1,h1,AW⟩,h2,⟨u0,v0,h3⟩,h4,h5⟩:=st;obtain⟨p8,vF,p1,vn⟩:=I.list (hs.seq tH);obtain⟨pj,vG,p2,wA⟩:=I.list (hs.seq qJ);have vo:=vF.length;have qc:=vG.length;have hx:xs[i]? = some (xs[i]'#[O]):=aJ _;have hy:ys[i]? = some (ys[i]'#[O]):=aJ _;generalize xs[i]'#[O]=x at hx;generalize ys[i]'#[O]=y at hy;obtain⟨u,huu,ru⟩:=vF.get hx;obtain⟨v,hv,rv⟩:=vG.get hy;refine kD zit ?_;rw [lH zdZ _];show wpAny _ A.in1 (pyNext #[WT] >>= _) _ _ s;have Fy:A.in1.in1.handled=none:=by simp [hh]
  refine aB (zj2 #[W9] #[Xa] (zeY ha hb) h1 AW h2 h3 ⟨h4,p1.isList⟩ ⟨h5,p2.isList⟩ (by rw [aP]; lia) (by rw [aP]; lia)
   fun x' y' h' tk g0 g1 a' b' px py ez IX e2 e3 t4 t5 pp hsz kk=>?_)
  have eu:x'=u:=by
   have e1:p8[i]? = some x':=by simpa using px
   rw [huu] at e1; exact (bI e1).symm
  have ev:y'=v:=by
   have e1:pj[i]? = some y':=by simpa using py
   rw [hv] at e1; exact (bI e1).symm
  subst eu ev;obtain⟨k,hki,kc,rfl,Il⟩:=zoE hk hx;cases ru;have hff:∀ c∈zcl n,zcg X oC H c:=fun c hc=>⟨hn c hc,(hf c hc).2⟩
  have vm:n+4 < s.heap.objs.size:=aX h1;have k1:∀ c o,c∉[n+4,n+3,n,n+1]->s.heap.get? c=some o->h'.get? c=some o:=fun c o oT eo=>by
   simp only [bD,cG,or_false,not_or] at oT;exact kk c o oT.1 oT.2.1 oT.2.2.1 oT.2.2.2 eo
  have I1:Inv X oC σ H { s with heap:=h',toks:=tk }:=zrc I hff k1;show wpAny _ A.in1 (holding [.ref s.heap.objs.size] _ >>= _) _ _ _
  (refine aB (dj ?_))
  (refine aB (wpAny_tryCatch ?_))
  unfold Builtin.Dict.pairItems;have hT:({ s with heap:=h',toks:=tk }:Shared).TypeIs #[At] "tuple":=⟨_,pp,rfl⟩
  (refine aB (mK hT ?_))
  rw [if_pos #[D]];refine aB (fw pp rfl (aL ?_));show wpAny _ A.in1 (holding [.ref kc,y'] (dictSet D (.ref kc) y')) _ _ _;have oY:(#[Td].take i).length < sizeLine:=by
   rw [bC];lia
  refine dj (zlm (A:=A) hu I1 JE (hs _ _ Il) oY rv fun s2 k2 I2=>?_);rw [zmC _ (zll (zoD qF hki)),<- zm5 hki hy] at I2;have nD:∀ c,c∈zcl n->c≠D:=fun c hc z=>hfD (by rw [<- z]; exact hc)
  refine aL #[W2];show codeAny _ A (.builtin "dict.update.loop" ⟨[.ref D,.ref (n+4),.int ((i+1:Nat):Int) _,.none],[]⟩) R s2;refine ih (i+1) _ s2 _ #[O] I2 (fun c o e=>?_) (fun c hc=>?_) ?_ zb
  ·rw [zn (zu e hD)];exact hs c o e
  ·rw [zn (nD c hc)];exact hn c hc
  ·exact⟨⟨g0,g1,k2 _ _ (nD _ #[M]) ez,IX⟩,k2 _ _ (nD _ #[M]) e2,⟨_,_,k2 _ _ (nD _ #[M]) e3⟩,t4.1.at fun o e=>k2 _ o (nD _ #[M]) e,t5.1.at fun o e=>k2 _ o (nD _ #[M]) e⟩
noncomputable def tDZ (K:aD) (ta:TA):TE:=fun σ H Q=>ta σ H fun vs H1=>∃ a b xs ys ks,vs = [.ref a,.ref b]/\oE K H1 a xs/\oE K H1 b ys/\KyA H1 xs ks/\ks.Nodup/\∀ D H',H1 D=none->zr H1 H'->H' D=some (.dT #[Td])->Q #[QB] H'
theorem zji {p p2 qB:Pos} {a b:Expr} {ta:TA} (hu:X.A.units+2 < cLine) (hc:X.calm=true) (hg:Gl X "dict") (hm:X.mg "dict" = none) (CQ:Gl X "zip") (uy:X.mg "zip" = none) (ha:PA X [a,b] ta) (hs:starEach [a,b] X.env = [#[Os],#[GM]]:=by rfl) (qU:starEach [b] X.env = [#[GM]]:=by rfl)
  (BO:starEach [.Call (.Name "zip" p2) [a,b] [] qB] X.env = [(false,eval (.Call (.Name "zip" p2) [a,b] [] qB) X.env)]:=by rfl) :
  PE X (.Call (.Name "dict" p) [.Call (.Name "zip" p2) [a,b] [] qB] [] pos) (tDZ X.K ta):=by
 intro oC s σ H Q I h;refine Call_ (zbr I hg hm boot_dict (cR ?_ BO rfl));rw [BO];show wpAny _ _ (spliced ((false,eval (.Call (.Name "zip" p2) [a,b] [] qB) X.env) :: [])) _ _ s;refine fZ ?_;refine Call_ (zbr I CQ uy boot_zip (cR (thn (ha qB oC s σ H _ I h) fun us s1 ⟨vs,H1,I1,r1,q1⟩=>?_) (by rw [hs,qU]) (by rw [qU]; rfl)));obtain⟨l1,l2,xs,ys,ks,e,tH,qJ,Hc,qF,q⟩:=q1;subst e;cases r1 with
 | cons r rr =>
  cases rr with
  | cons r' rr =>
   cases rr;cases r;cases r';obtain⟨p8,vF,BJ,vn⟩:=I1.list tH;obtain⟨pj,vG,Cs,wA⟩:=I1.list qJ;have uK:l1 < s1.heap.objs.size:=by obtain⟨_,_,e,_⟩:=BJ; exact aX e
   have uL:l2 < s1.heap.objs.size:=by obtain⟨_,_,e,_⟩:=Cs; exact aX e
   refine call_zip_2 BJ.isList Cs.isList fun h' b1 b2 b3 b4 b5 b6 kk=>?_
   refine gO ?_;have I2:Inv X oC σ H1 { s1 with heap:=h' }:=I1.kept (t':=s1.toks) kk;have JF:∀ c∈zcl s1.heap.objs.size,zcg X oC H1 c:=fun c hc=>by
    have hle:s1.heap.objs.size<=c:=by
     simp only [zcl,bD,cG,or_false] at hc;rcases hc with z | z | z | z | z <;> subst z
     all_goals first | exact kb _ _ | exact aG _
    exact I1.Oi hle #[RI]
   generalize hn:s1.heap.objs.size=n at b1 b2 b3 b4 b5 b6 uK uL JF |-;refine callType_codes (Q₁:=fun obj s₁=>obj = .ref h'.objs.size/\s₁ = { s1 with heap:=h'.push { cls:=.type "dict",data:=.dict #[] } }) F.kt_called_dict (F.kt_typeCall_dict_1 _) F.entry_dict_init (kt_code_dict_new _ ⟨rfl,rfl⟩) ?_;rintro obj s₁ ⟨rfl,rfl⟩;have JG:∀ c o,h'.get? c=some o->(h'.push { cls:=.type "dict",data:=.dict #[] }).get? c=some o:=fun c o e=>aI _ e
   have I3:Inv X oC σ (oG H1 h'.objs.size (.dT [])) { s1 with heap:=h'.push { cls:=.type "dict",data:=.dict #[] } } :=
    I2.laid (a:=h'.objs.size) (o:=.dT []) (t':=s1.toks) JG (aG _) (zic h' I2.big)
   have hT:({ s1 with heap:=h'.push { cls:=.type "dict",data:=.dict #[] } }:Shared).TypeIs (.ref h'.objs.size) "dict":=⟨_,aZ _ rfl,rfl⟩;refine⟨hT,F.args_dict_init_2 _ _,?_⟩
   (unfold Builtin.«dict.__init__»; refine aB ?_; unfold Builtin.Dict.selfAndRest)
   (refine aB (k8 hT ?_))
   show wpAny _ _ (pure (h'.objs.size,[bL (n+4)])) _ _ _;refine (aL ?_);show wpAny _ _ (kx "dict.__init__" h'.objs.size #[WT] [] .none) _ _ _
   (unfold kx)
   have Ed:=JG _ _ b1;have Cv:({ s1 with heap:=h'.push { cls:=.type "dict",data:=.dict #[] } }:Shared).TypeIs #[WT] "zip":=⟨_,Ed,rfl⟩;refine aB (mK Cv ?_);rw [if_pos #[D]];have hh:X.A.handled=none:=I.ok.hd hc;refine aB (zoC Ed (by simp [hh]) fun h2 tk JH=>?_);rw [if_pos (by rfl)];refine aB (ee ?_);have I4:Inv X oC σ (oG H1 h'.objs.size (.dT [])) { s1 with heap:=h2,toks:=tk }:=Inv.kept (s:={ s1 with heap:=h'.push { cls:=.type "dict",data:=.dict #[] } }) (t':=tk) I3 JH;refine aB (zg1 (JH _ _ Ed) (aL #[W2]));have D0:H1 h'.objs.size=none:=I2.hok.fresh (aG _);have up:∀ c o,h'.get? c=some o->h2.get? c=some o:=fun c o e=>JH c o (JG c o e)
   refine zoF (X:=X) (oC:=oC) (σ:=σ) (A:=X.A.in1) (H0:=H1) (a:=l1) (b:=l2) (n:=n) (D:=h'.objs.size) (xs:=xs) (ys:=ys) (ks:=ks) (by simp [hh]) (by simp only [eO]; lia) uK uL D0 ?_ tH qJ Hc qF JF (fun s' H' I' e1 e2=>?_) #[Xj] 0 _ _ _ #[O] I4 (fun c o e=>?_) (fun c hc=>?_) ?_ ?_
   ·rw [b6];simp
   ·exact⟨rfl,.ref h'.objs.size,_,I',rfl,q _ _ D0 e1 e2⟩
   ·rw [zn (zu e D0)];exact e
   ·rw [zn]
    ·exact (JF c hc).1
    ·rw [b6];simp only [zcl,bD,cG,or_false] at hc;rcases hc with z | z | z | z | z <;> subst z <;> exact nq #[O]
   ·exact⟨⟨_,_,up _ _ b1,.inl rfl,_,rfl⟩,up _ _ b2,⟨_,_,up _ _ b3⟩,b4.at fun o e=>up _ o e,b5.at fun o e=>up _ o e⟩
   ·rw [gV];exact zb
end L2
end
section
namespace PySem
theorem zd0:typeLookup (.type "list") (dunderI "add")=pure (some (.builtin "list.__iadd__")):=by rw [gf,eJ]; kernel_rfl
theorem zf1:seqSlot? (.type "list") (dunderI "add")=pure (some (.builtin "list.__iadd__")):=by
 unfold seqSlot?;rw [zd0]
 kernel_rfl
theorem zhd:fillsInplaceSlot (.type "list") "add" (Operator.Add == .Add)=pure false:=by
 unfold fillsInplaceSlot;show (typeLookup (.type "list") (dunderI "add") >>= fun fi=>pure (fi.isSome && !isSeqSlot fi))=pure false;rw [zd0]
 kernel_rfl
theorem zln {M:Model} {A:Around} {E:TB} {s:Shared} {a b:Value} {Q:TB} (ha:s.TypeIs a "list") (hb:s.TypeIs b "list")
  (hc:wpAny M A (call (.builtin "list.__iadd__") [a,b]) Q E s):wpAny M A (inplaceOp .Add a b) Q E s:=by
 (unfold inplaceOp; refine dj ?_)
 refine aB (mK ha (aB (fW zhd ?_)))
 (show wpAny M A (if false=true then _ else _) Q E s)
 rw [if_neg bH];refine aB (wpAny_binaryOp1_none (nm:="add") ha hb noFill_list_add ?_);refine aB (fW zf1 ?_);exact (aB (ee hc))
end PySem
namespace L2
open PySem PySem.Spec PyProof.Rows
variable {X:Cx} {k:Nat} {pos rK:Pos}
noncomputable def zqo:R2:=fun x y H Q=>∃ l b xs zs,x = .ref l/\y = .ref b/\H l=some #[Ry]/\H b=some (.lst zs)/\xs.length+zs.length<=sizeLine/\Q #[RB] (oG H l (.lst (xs++zs)))
theorem zm6:OpR X (inplaceOp .Add) zqo:=by
 intro oC s σ H x y v u Q I rx ry h;obtain⟨l,b,xs,zs,rfl,rfl,hH,hB,hz,q⟩:=h;cases rx;cases ry;obtain⟨z,oF,n,r,hl,e⟩:=I.OX hH;obtain⟨z2,pj,n2,r2,qc,e2⟩:=I.OX hB;have hsz:oF.toArray.size+pj.toArray.size<=sizeLine:=by rw [aP,aP]; lia
 have uG:¬ (!oF.toArray.isEmpty && fF #[Vq])=true:=by
  rw [zfl hsz,jr];exact bH
 refine zln ⟨_,e,rfl⟩ ⟨_,e2,rfl⟩ (gp F.slot_list_iadd ⟨_,e,rfl⟩ F.entry_list_iadd (F.args_list_iadd_2 _ _)
  (AutoSeq1.list___iadd___list_list_0 l oF.toArray n b pj.toArray n2 uG (by rw [aP]; lia) #[O]) ⟨e,e2,?_⟩)
 refine⟨.ref l,_,I.PN (its':=oF++pj) hH e #[M] (r.append r2) ?_,rfl,q⟩;rw [aS];lia
theorem zlo {K:aD} {es:List Expr} {p:Pos} {a b:Expr} {ta:TA} (hK:X.K=K) (hg:Gl X "zip") (hm:X.mg "zip" = none) (ha:PA X [a,b] ta) (hs:starEach [a,b] X.env = [#[Os],#[GM]]:=by rfl) (qU:starEach [b] X.env = [#[GM]]:=by rfl) :
  PI X #[Sg] (.Call (.Name "zip" p) [a,b] [] pos) (iZq (oQ K) (oE K) ta):=by subst hK; exact zmw hg hm ha hs qU
theorem zjj {K:aD} (hK:X.K=K) (hc:X.calm=true):zbx X (.builtin "sum") (fun xs H Q=>∃ (p:Addr) (ns:TD),xs = [.ref p]/\oE K H p #[Db]/\Q (.int ns.sum) H):=by subst hK; exact zbp hc
end L2
end
section
namespace My
open PySem L2 PyProof.Rows
variable {H H':Hp} {L j k:Nat} {R rows vs vv:List #[wE]} {cl:List (Nat×List Int)} {ls:TF} {oJ:List (Int×Int×Nat)} {pv:List Nat} {row:TD} {v:V}
noncomputable def sh (b:Int):Nat->(Nat->Int)->Nat->Int
 | 0,_,_=>0
 | n+1,l,0=>l 0+b*sh b n #[R1] 0
 | n+1,l,j+1=>sh b n #[R1] j+b*sh b n #[R1] (j+1)
theorem zhe {b:Int}:∀ {n:Nat} {u v:Nat->Int} {j:Nat},sh b n (fun t=>u t+v t) j=sh b n u j+sh b n v j
 | 0,_,_,_=>by simp [sh]
 | n+1,u,v,0=>by
  have h:=zhe (b:=b) (n:=n) (u:=fun t=>u (t+1)) (v:=fun t=>v (t+1)) (j:=0);simp only [sh,h]; grind
 | n+1,u,v,j+1=>by
  have h:=zhe (b:=b) (n:=n) (u:=fun t=>u (t+1)) (v:=fun t=>v (t+1)) (j:=j);have h':=zhe (b:=b) (n:=n) (u:=fun t=>u (t+1)) (v:=fun t=>v (t+1)) (j:=j+1);simp only [sh,h,h']; grind
theorem zhf {b c:Int}:∀ {n:Nat} {u:Nat->Int} {j:Nat},sh b n (fun t=>c*u t) j=c*sh b n u j
 | 0,_,_=>by simp [sh]
 | n+1,u,0=>by
  have h:=zhf (b:=b) (c:=c) (n:=n) (u:=fun t=>u (t+1)) (j:=0);simp only [sh,h]; grind
 | n+1,u,j+1=>by
  have h:=zhf (b:=b) (c:=c) (n:=n) (u:=fun t=>u (t+1)) (j:=j);have h':=zhf (b:=b) (c:=c) (n:=n) (u:=fun t=>u (t+1)) (j:=j+1);simp only [sh,h,h']; grind
theorem zm7 {b:Int}:∀ {n:Nat} {u v:Nat->Int} {j:Nat},(∀ t,t < n->u t=v t)->sh b n u j=sh b n v j
 | 0,_,_,_,_=>by simp [sh]
 | n+1,u,v,0,h=>by
  rw [sh,sh,h 0 #[O],zm7 (n:=n) (v:=fun t=>v (t+1)) fun t ht=>h (t+1) #[O]]
 | n+1,u,v,j+1,h=>by
  have e:=fun i=>zm7 (b:=b) (n:=n) (u:=fun t=>u (t+1)) (v:=fun t=>v (t+1)) (j:=i) fun t ht=>h (t+1) #[O]
  rw [sh,sh,e j,e (j+1)]
theorem ziu {p b b':Int} (hb:Cg p b b'):∀ {n:Nat} {u v:Nat->Int} {j:Nat},(∀ t,t < n->Cg p (u t) (v t))->Cg p (sh b n u j) (sh b' n v j)
 | 0,_,_,_,_=>by simp only [sh]; exact Cg.refl _ _
 | n+1,u,v,0,h=>by
  simp only [sh];exact (h 0 #[O]).add (hb.mul (ziu hb fun t ht=>h (t+1) #[O]))
 | n+1,u,v,j+1,h=>by
  simp only [sh];exact (ziu hb fun t ht=>h (t+1) #[O]).add (hb.mul (ziu hb fun t ht=>h (t+1) #[O]))
theorem zjk {b:Int}:∀ {n:Nat} {f:Nat->Int} {j:Nat},f n=0->sh b (n+1) f j=sh b n f j
 | 0,f,0,h=>by simp [sh,h]
 | 0,f,j+1,h=>by simp [sh]
 | n+1,f,0,h=>by
  rw [sh,zjk (n:=n) (f:=fun t=>f (t+1)) h]; simp only [sh]
 | n+1,f,j+1,h=>by
  have e:=fun i=>zjk (b:=b) (n:=n) (f:=fun t=>f (t+1)) (j:=i) h
  rw [sh,e j,e (j+1)]; simp only [sh]
theorem zoG {b:Int} {n:Nat} {f:Nat->Int} :∀ {m:Nat},n<=m->(∀ t,n<=t->t < m->f t=0)->sh b m f j=sh b n f j
 | m,h,z=>by
  induction m with
  | zero =>
   obtain rfl:n=0:=by lia
   rfl
  | succ m ih =>
   by_cases e:n=m+1
   ·rw [e]
   ·rw [zjk (z m #[O] #[O])];exact ih #[O] fun t h1 h2=>z t h1 #[O]
noncomputable def vl:Nat->(Nat->Int)->Int->Int
 | 0,_,_=>0
 | n+1,l,y=>l 0+y*vl n #[R1] y
noncomputable def ch:Nat->Nat->Int
 | _,0=>1
 | 0,_+1=>0
 | t+1,j+1=>ch t j+ch t (j+1)
theorem zbY:∀ {t j:Nat},t < j->ch t j=0
 | _,0,h=>by lia
 | 0,j+1,_=>rfl
 | t+1,j+1,h=>by rw [ch,zbY #[O],zbY #[O]]; rfl
theorem zfD {b:Int}:∀ {n:Nat} {l:Nat->Int} {j:Nat},sh b n l j=sm n fun t=>ch t j*b ^ (t - j)*l t
 | 0,_,_=>rfl
 | n+1,l,0=>by
  rw [sh,zfD,zbl,<- zcm];congr 1
  ·simp [ch]
  ·exact zan fun i _=>by simp only [ch,gA]; grind
 | n+1,l,j+1=>by
  rw [sh,zfD,zfD,zbl,<- zcm,<- zhb];have e0:ch 0 (j+1)*b ^ (0 - (j+1))*l 0=0:=by simp [ch]
  rw [e0,cI];refine zan fun i _=>?_
  have e1:i+1 - (j+1)=i - j:=by lia
  rw [ch,e1];by_cases h:j+1<=i
  ·have e2:i - j=(i - (j+1))+1:=by lia
   rw [e2,eU]; grind
  ·rw [zbY (t:=i) (j:=j+1) #[O]]; simp
theorem ze7:∀ {t j:Nat},((j:Int)+1)*ch t (j+1)=((t:Int) - j)*ch t j
 | 0,0=>by simp [ch]
 | 0,j+1=>by simp [ch]
 | t+1,0=>by
  have h:=ze7 (t:=t) (j:=0);simp only [ch] at h |-;push_cast at h |-; grind
 | t+1,j+1=>by
  have h:=ze7 (t:=t) (j:=j);have h':=ze7 (t:=t) (j:=j+1);simp only [ch] at h h' |-;push_cast at h h' |-; grind
theorem zqp {t:Nat}:ch t j*((t:Int) - j) / ((j:Int)+1)=ch t (j+1):=by
 rw [iw,<- ze7];exact Int.mul_ediv_cancel_left _ #[O]
noncomputable def hs (b:Int):Nat->(Nat->Int)->Nat->Int
 | 0,_,_=>0
 | n+1,l,0=>l 0+b*hs b n #[R1] 0
 | n+1,l,j+1=>hs b n #[R1] j
theorem zd1 {b:Int}:∀ {n:Nat} {l:Nat->Int} {j:Nat},n<=j->hs b n l j=0
 | 0,_,_,_=>by simp [hs]
 | n+1,l,0,h=>by lia
 | n+1,l,j+1,h=>by rw [hs,zd1 #[O]]
theorem zki {b:Int}:∀ {n:Nat} {l:Nat->Int} {j:Nat},j < n->hs b n l j=l j+b*hs b n l (j+1)
 | 0,_,_,h=>by lia
 | n+1,l,0,h=>by simp only [hs]
 | n+1,l,j+1,h=>by
  rw [hs,zki (n:=n) (l:=fun t=>l (t+1)) #[O]]; rfl
theorem zpp {b:Int}:∀ {n:Nat} {l:Nat->Int},sh b (n+1) l 0=hs b (n+1) l 0/\∀ j,sh b (n+1) l (j+1)=sh b n (fun t=>hs b (n+1) l (t+1)) j
 | 0,l=>by simp [sh,hs]
 | n+1,l=>by
  obtain⟨h0,h1⟩:=zpp (b:=b) (n:=n) (l:=fun t=>l (t+1));refine⟨?_,fun j=>?_⟩
  ·rw [sh,h0]; simp only [hs]
  ·rw [sh];have e:sh b (n+1) (fun t=>hs b (n+2) l (t+1)) j=sh b (n+1) (fun t=>hs b (n+1) #[R1] t) j:=zm7 fun t _=>by rw [hs]
   rw [e];cases j with
   | zero=>rw [h0,h1 0]; simp only [sh]
   | succ j=>rw [h1 j,h1 (j+1)]; simp only [sh]
theorem zpq {y:Int}:∀ {n:Nat} {l:Nat->Int},vl n l y=sm n fun t=>l t*y ^ t
 | 0,_=>rfl
 | n+1,l=>by
  rw [vl,zpq,zbl,<- zcm];congr 1
  ·simp
  ·exact zan fun t _=>by rw [eU]; grind
theorem zm8 {l:List Nat} {d:Nat} (h:l.Nodup) (hl:∀ x∈l,x < d):l.length<=d:=by
 have h1:=zjg (S:=aU d) h;rw [iR.mpr (fun x hx=>by have:=hl x hx; simpa using this),bJ] at h1;simpa using h1
theorem zkj {p:Int} (hp:p∈zw) {L N m:Nat} {vs:List #[wE]} {cl:List (Nat×List Int)} (E:Ech p L N m vs cl) (hm:m < N) {w0:TD} (W0:Wh p L N m vs [] w0):∀ i,i<=cl.length->∃ w,Wh p L N m vs (cl.take i) w
 | 0,_=>⟨w0,by rw [gV]; exact W0⟩
 | i+1,hi=>by
  obtain⟨w,W⟩:=zkj hp E hm W0 i #[O];exact⟨_,zkh hp E hm (aJ #[O]) W⟩
theorem zm9 {p:Int} (hp:p∈zw) {L:Nat} {vs:List #[wE]} (hv:∀ v∈vs,v.length=L/\∀ c∈v,0<=c/\c < p) (hI:Indep p L vs):∀ m,m<=vs.length->∃ cl,Ech p L vs.length m vs cl
 | 0,_=>⟨[],Ech.start p L vs.length vs⟩
 | m+1,hm=>by
  have rp:=zC hp;obtain⟨cl,E⟩:=zm9 hp hv hI m #[O];have hvm:vs[m]? = some (vs[m]'#[O]):=aJ #[O];obtain⟨h1,h2⟩:=hv _ (aO hvm);obtain⟨w,W⟩:=zkj hp E #[O] (zin hp (N:=vs.length) #[O] hvm h1 h2) cl.length (aG _);rw [dW] at W;by_cases hz:∀ x,x < L->gl w x=0
  ·exfalso;obtain⟨_,d2,d3⟩:=zmZ W #[O] hz;have:=hI _ d3 m #[O];rw [d2] at this;have:=this.eq #[O] #[O] (dv _) #[O];lia
  ·obtain⟨x,hx⟩:=Classical.not_forall.mp hz;obtain⟨BV,yA⟩:=Classical.not_imp.mp hx;exact⟨_,zio hp E #[O] W BV yA⟩
theorem zna {p:Int} (hp:p∈zw) (hv:∀ v∈vs,v.length=L/\∀ c∈v,0<=c/\c < p) (hI:Indep p L vs):vs.length<=L:=by
 obtain⟨cl,E⟩:=zm9 hp hv hI vs.length (aG _);have hn:(cl.map (·.1)).Nodup:=by
  rw [cJ,di,eI];intro i j hi hj rZ e;have h1:=E.up i j _ _ (aJ hi) (aJ hj) rZ;have h2:=(E.one j _ (aJ hj)).2.2.2.2.1;rw [e,h2] at h1;cases h1
 have:=zm8 hn fun x hx=>by
  obtain⟨a,ha,rfl⟩:=aQ.mp hx;obtain⟨j,hj⟩:=eg ha;exact (E.one j a hj).1
 rw [aA,E.ln] at this;exact this
noncomputable def dot (n:Nat) (row:TD) (v:Nat->Int):Int:=sm n fun j=>gl row j*v j
noncomputable def Sol (p:Int) (n:Nat) (M:List #[wE]) (v:Nat->Int):Prop:=∀ (i:Nat) (row:TD),M[i]? = some row->Cg p (dot n row v) 0
structure RK (p:Int) (n:Nat) (M:List #[wE]) (pv:List Nat):Prop where
 nd:pv.Nodup
 lt:∀ c∈pv,c < n
 U:∀ v,Sol p n M v->(∀ j,j < n->j∉pv->Cg p (v j) 0)->∀ j,j < n->Cg p (v j) 0
 E:∀ w:Nat->Int,∃ v,Sol p n M v/\∀ j,j < n->j∉pv->v j=w j
structure Gs (p:Int) (n:Nat) (M:List #[wE]) (at':Nat) (pv:List Nat) (R:List #[wE]):Prop where
 ln:R.length=M.length
 rw:∀ row∈R,row.length=n/\∀ c∈row,0<=c/\c < p
 sol:∀ v,Sol p n R v↔Sol p n M v
 pvl:pv.length<=R.length
 piv:∀ (i c:Nat) (row:TD),pv[i]? = some c->R[i]? = some row->c < at'/\gl row c≠0/\∀ j,j < c->gl row j=0
 low:∀ (i:Nat) (row:TD),pv.length<=i->R[i]? = some row->∀ j,j < at'->gl row j=0
 nd:pv.Nodup
 plt:∀ c∈pv,c < at'
theorem zoH {p:Int} {n:Nat} {M:List #[wE]} {at':Nat} (G:Gs p n M at' pv R) (h:∀ (i:Nat) (row:TD),pv.length<=i->R[i]? = some row->gl row at'=0):Gs p n M (at'+1) pv R:=by
 refine⟨G.ln,G.rw,G.sol,G.pvl,fun i c row h1 h2=>?_,fun i row h1 h2 j hj=>?_,G.nd,fun c hc=>by have:=G.plt c hc; lia⟩
 ·obtain⟨a,b⟩:=G.piv i c row h1 h2;exact⟨#[O],b⟩
 ·by_cases e:j=at'
  ·rw [e]; exact h i row h1 h2
  ·exact G.low i row h1 h2 j #[O]
structure El (p:Int) (n:Nat) (M:List #[wE]) (at':Nat) (pv:List Nat) (first:TD) (k:Nat) (R:List #[wE]):Prop where
 ln:R.length=M.length
 rw:∀ row∈R,row.length=n/\∀ c∈row,0<=c/\c < p
 sol:∀ v,Sol p n R v↔Sol p n M v
 fs:R[pv.length]? = some first
 f0:gl first at'≠0
 piv:∀ (i c:Nat) (row:TD),pv[i]? = some c->R[i]? = some row->c < at'/\gl row c≠0/\∀ j,j < c->gl row j=0
 low:∀ (i:Nat) (row:TD),pv.length<=i->R[i]? = some row->∀ j,j < at'->gl row j=0
 cl:∀ (i:Nat) (row:TD),pv.length < i->i < k->R[i]? = some row->gl row at'=0
 nd:pv.Nodup
 plt:∀ c∈pv,c < at'
theorem znb {p:Int} {n:Nat} {M:List #[wE]} {at':Nat} (G:Gs p n M at' pv R) {k0:Nat} {first other:TD} (hk:pv.length<=k0) (h1:R[k0]? = some first) (h2:R[pv.length]? = some other) (h0:gl first at'≠0) :
  El p n M at' pv first (pv.length+1) (#[Tk].set pv.length first):=by
 have uO:=(aK.mp h1).1;have hp0:=(aK.mp h2).1;have hg:∀ i,(#[Tk].set pv.length first)[i]? = if i=pv.length then some first else if i=k0 then some other else R[i]?:=fun i=>by
  by_cases e:i=pv.length
  ·subst e;rw [if_pos rfl,dJ (by rw [eE]; exact hp0)]
  ·rw [if_neg e,dI (dY e)];by_cases e2:i=k0
   ·subst e2;rw [if_pos rfl,dJ uO]
   ·rw [if_neg e2,dI (dY e2)]
 have tZ:∀ (i:Nat) (row:TD),(#[Tk].set pv.length first)[i]? = some row->∃ j:Nat,R[j]? = some row/\(pv.length<=i->pv.length<=j):=fun i row h=>by
  rw [hg] at h;by_cases e:i=pv.length
  ·rw [if_pos e] at h;exact⟨k0,by rw [h1]; exact h,fun _=>hk⟩
  ·rw [if_neg e] at h;by_cases e2:i=k0
   ·rw [if_pos e2] at h;exact⟨pv.length,by rw [h2]; exact h,fun _=>aG _⟩
   ·rw [if_neg e2] at h;exact⟨i,h,id⟩
 refine⟨by rw [eE,eE]; exact G.ln,fun row hr=>?_,fun v=>?_,by rw [hg,if_pos rfl],h0,fun i c row hc hr=>?_,fun i row hi hr=>?_,fun i row hi hk hr=>by lia,G.nd,G.plt⟩
 ·obtain⟨i,hi⟩:=eg hr;obtain⟨j,hj,_⟩:=tZ i row hi;exact G.rw row (aO hj)
 ·rw [<- G.sol v];constructor
  ·intro h j row hj;by_cases e:j=k0
   ·refine h pv.length row ?_;rw [hg,if_pos rfl,<- h1,<- e]; exact hj
   ·by_cases e2:j=pv.length
    ·refine h k0 row ?_;rw [hg,if_neg (fun e3=>e (by rw [e2,e3])),if_pos rfl,<- h2,<- e2]; exact hj
    ·refine h j row ?_;rw [hg,if_neg e2,if_neg e]; exact hj
  ·intro h i row hi;obtain⟨j,hj,_⟩:=tZ i row hi;exact h j row hj
 ·have As:i < pv.length:=(aK.mp hc).1;rw [hg,if_neg #[O],if_neg #[O]] at hr;exact G.piv i c row hc hr
 ·obtain⟨j,hj,hle⟩:=tZ i row hr;exact G.low j row (hle hi) hj
theorem zoI {p:Int} {n:Nat} {M:List #[wE]} {at':Nat} {first:TD} (L:El p n M at' pv first k R) (hr:R[k]? = some row) (h0:gl row at'=0):El p n M at' pv first (k+1) R:=by
 refine⟨L.ln,L.rw,L.sol,L.fs,L.f0,L.piv,L.low,fun i qX h1 h2 h3=>?_,L.nd,L.plt⟩;by_cases e:i=k
 ·subst e;rw [hr] at h3;cases h3;exact h0
 ·exact L.cl i qX h1 #[O] h3
theorem zoJ {p:Int} (hp:p∈zw) {n:Nat} {M:List #[wE]} {at':Nat} {first:TD} (L:El p n M at' pv first k R) (pJ:at' < n) (hk:pv.length < k) (hr:R[k]? = some row) :
  El p n M at' pv first (k+1) (R.set k (bV (fun one other=>(one*gl first at' - gl row at'*other) % p) row first)):=by
 have rp:=zC hp;obtain⟨r1,r2⟩:=L.rw row (aO hr);obtain⟨f1,f2⟩:=L.rw first (aO L.fs)
 have Fz:=(aK.mp hr).1;obtain⟨nw,CS⟩:∃ nw,nw=bV (fun one other=>(one*gl first at' - gl row at'*other) % p) row first:=⟨_,rfl⟩
 rw [<- CS];have hg:∀ y,y < n->gl nw y=(gl row y*gl first at' - gl row at'*gl first y) % p:=fun y hy=>by rw [CS]; exact zjd #[O] #[O]
 have B1:∀ i,(R.set k nw)[i]? = if i=k then some nw else R[i]?:=fun i=>by
  by_cases e:i=k
  ·subst e; rw [if_pos rfl,dJ Fz]
  ·rw [if_neg e,dI (dY e)]
 have FA:∀ v,Cg p (dot n nw v) (gl first at'*dot n row v - gl row at'*dot n first v):=fun v=>by
  unfold dot;have e:gl first at'*sm n (fun j=>gl row j*v j) - gl row at'*sm n (fun j=>gl first j*v j)=sm n (fun j=>(gl row j*gl first at' - gl row at'*gl first j)*v j):=by
   rw [show ∀ a b c:Int,a - b*c=a+(-b)*c by intros; grind,<- zcm,<- zcm,<- zhb];exact zan fun j _=>by grind
  rw [e];exact zeD fun j hj=>by
   rw [hg j hj];exact (Cg.emod _ _).mul #[Fa]
 refine⟨by rw [eE]; exact L.ln,fun qX h=>?_,fun v=>?_,by rw [B1,if_neg #[O]]; exact L.fs,L.f0,fun i c qX hc h=>?_,fun i qX hi h j hj=>?_,fun i qX hi hik h=>?_,L.nd,L.plt⟩
 ·rcases gq h with h | rfl
  ·exact L.rw qX h
  ·rw [CS];refine⟨by rw [ig]; lia,fun c hc=>?_⟩;obtain⟨x,y,rfl⟩:=zdO hc;exact#[Rk]
 ·rw [<- L.sol v];constructor
  ·intro h i qX hi;by_cases e:i=k
   ·subst e;rw [hr] at hi;cases hi;have h1:=h i nw (by rw [B1,if_pos rfl]);have h2:=h pv.length first (by rw [B1,if_neg #[O]]; exact L.fs)
    have h3:=((FA v).symm.trans h1).add ((Cg.refl p (gl row at')).mul h2);obtain⟨g0,g1⟩:=zdB (show 0 < p by lia) f2 at';refine zeo hp (a:=gl first at') (by rw [dP g0 g1]; exact L.f0) ?_;exact #[QI].trans (h3.trans #[QI])
   ·exact h i qX (by rw [B1,if_neg e]; exact hi)
  ·intro h i qX hi;rw [B1] at hi;by_cases e:i=k
   ·rw [if_pos e] at hi;cases hi;have h1:=h k row hr;have h2:=h pv.length first L.fs
    exact (FA v).trans (((#[Fa].mul h1).sub (#[Fa].mul h2)).trans #[QI])
   ·rw [if_neg e] at hi;exact h i qX hi
 ·have As:i < pv.length:=(aK.mp hc).1;rw [B1,if_neg #[O]] at h;exact L.piv i c qX hc h
 ·rw [B1] at h;by_cases e:i=k
  ·rw [if_pos e] at h;cases h;rw [hg j #[O],L.low k row #[O] hr j hj,L.low pv.length first (aG _) L.fs j hj,dq,eP];rfl
  ·rw [if_neg e] at h;exact L.low i qX hi h j hj
 ·rw [B1] at h;by_cases e:i=k
  ·rw [if_pos e] at h;cases h;rw [hg at' pJ,show gl row at'*gl first at' - gl row at'*gl first at'=0 by lia];rfl
  ·rw [if_neg e] at h;exact L.cl i qX hi #[O] h
theorem zqq {p:Int} {n:Nat} {M:List #[wE]} {at':Nat} {first:TD} (L:El p n M at' pv first k R) (hk:R.length<=k):Gs p n M (at'+1) (pv++[at']) R:=by
 have hf:=(aK.mp L.fs).1;refine⟨L.ln,L.rw,L.sol,by rw [aS]; show pv.length+1<=_; lia,fun i c row hc hr=>?_,fun i row hi hr j hj=>?_,?_,fun c hc=>?_⟩
 ·by_cases hi:i < pv.length
  ·rw [cQ hi] at hc;obtain⟨a,b⟩:=L.piv i c row hc hr;exact⟨#[O],b⟩
  ·have As:=(aK.mp hc).1;rw [aS] at As;have Hd:i=pv.length:=by have:i < pv.length+1:=As; lia
   subst Hd;rw [dQ (aG _),iB] at hc;cases hc;rw [L.fs] at hr;cases hr;exact⟨#[O],L.f0,L.low pv.length first (aG _) L.fs⟩
 ·rw [aS] at hi;have hi:pv.length+1<=i:=hi;by_cases e:j=at'
  ·rw [e];exact L.cl i row #[O] (by have:=(aK.mp hr).1; lia) hr
  ·exact L.low i row #[O] hr j #[O]
 ·rw [ff];exact⟨L.nd,#[M],fun a ha b hb e=>by
   have:=L.plt a ha;have hb:b=at':=by simpa using hb
   lia⟩
 ·rcases bZ.mp hc with h | h
  ·have:=L.plt c h;lia
  ·have:c=at':=by simpa using h
   lia
theorem ziv {n c:Nat} {v:Nat->Int} (hc:c<=n) (h:∀ j,j < c->gl row j=0):dot n row v=sm (n - c) fun j=>gl row (c+j)*v (c+j):=by
 unfold dot;induction n with
 | zero=>rw [show 0 - c=0 by lia]; rfl
 | succ n ih =>
  by_cases e:c=n+1
  ·subst e;rw [iB];exact zaW fun j hj=>by rw [h j hj,dq]
  ·rw [show n+1 - c=(n - c)+1 by lia];show sm n _+_=sm (n - c) _+_;rw [ih #[O]];dsimp only;rw [show c+(n - c)=n by lia]
theorem zrd {p:Int} (hp:p∈zw) {n:Nat} {M:List #[wE]} (G:Gs p n M n pv R):RK p n M pv:=by
 have rp:=zC hp;have qY:∀ i,i < pv.length->∃ row,R[i]? = some row:=fun i hi=>⟨R[i]'(by have:=G.pvl; lia),#[M]⟩
 have tY:∀ (i:Nat) (row:TD),R[i]? = some row->∀ y,0<=gl row y/\gl row y < p:=fun i row h y=>zdB (show 0 < p by lia) (G.rw row (aO h)).2 y
 refine⟨G.nd,G.plt,fun v hv h0=>?_,fun w=>?_⟩
 ·have hv:=(G.sol v).mpr hv;have key:∀ t,t<=n->∀ j,n - t<=j->j < n->Cg p (v j) 0:=by
   intro t;induction t with
   | zero=>intro _ j h1 h2; lia
   | succ t ih =>
    intro ht j h1 h2;have ih:=ih #[O];by_cases e:n - t<=j
    ·exact ih j e h2
    ·have hj:j=n - (t+1):=by lia
     by_cases Ee:j∈pv
     ·obtain⟨i,hi⟩:=eg Ee;obtain⟨row,hr⟩:=qY i (aK.mp hi).1;obtain⟨_,g1,g2⟩:=G.piv i j row hi hr;have hd:=hv i row hr;rw [ziv #[O] g2,show n - j=(n - j - 1)+1 by lia,zbl] at hd;have hz:Cg p (sm (n - j - 1) fun i=>gl row (j+(i+1))*v (j+(i+1))) 0:=(zeD (g:=fun _=>0) fun m hm=>(#[Fa].mul (ih (j+(m+1)) #[O] #[O])).trans (Cg.of_eq (eP _))).trans (Cg.of_eq (zaW fun _ _=>rfl));obtain⟨q0,q1⟩:=tY i row hr j;refine zeo hp (a:=gl row j) (by rw [dP q0 q1]; exact g1) ?_;have:=hd.sub hz;exact (Cg.of_eq (by rw [gz]; lia)).trans (this.trans #[QI])
     ·exact h0 j h2 Ee
  exact fun j hj=>key n (aG _) j #[O] hj
 ·have key:∀ t,t<=n->∃ v:Nat->Int,(∀ j,n - t<=j->j < n->j∉pv->v j=w j)/\∀ (i c:Nat) (row:TD),pv[i]? = some c->R[i]? = some row->n - t<=c->Cg p (dot n row v) 0:=by
   intro t;induction t with
   | zero=>exact fun _=>⟨fun _=>0,fun j h1 h2=>by lia,fun i c row h1 _ h3=>by have:=G.plt c (aO h1); lia⟩
   | succ t ih =>
    intro ht;obtain⟨v,He,Hf⟩:=ih #[O];have B2:∀ (z:Int) (i c:Nat) (row:TD),pv[i]? = some c->R[i]? = some row->n - t<=c->dot n row (fun j=>if j=n - (t+1) then z else v j)=dot n row v:=fun z i c row h1 h2 h3=>by
     unfold dot;refine zan fun j _=>?_
     dsimp only;by_cases e:j=n - (t+1)
     ·rw [(G.piv i c row h1 h2).2.2 j #[O],dq,dq]
     ·rw [if_neg e]
    by_cases Ee:n - (t+1)∈pv
    ·obtain⟨i0,CB⟩:=eg Ee;obtain⟨ua,Fi⟩:=qY i0 (aK.mp CB).1;obtain⟨_,g1,g2⟩:=G.piv i0 _ ua CB Fi;obtain⟨q0,q1⟩:=tY i0 ua Fi #[S9];obtain⟨rest,FC⟩:∃ rest,rest=sm (n - (n - (t+1)) - 1) (fun i=>gl ua (n - (t+1)+(i+1))*v (n - (t+1)+(i+1))):=⟨_,rfl⟩;refine⟨fun j=>if j=n - (t+1) then -(inv p (gl ua #[S9])*rest) else v j,fun j h1 h2 h3=>?_,fun i c row h1 h2 h3=>?_⟩
     ·dsimp only;by_cases e:j=n - (t+1)
      ·exact absurd Ee (e ▸ h3)
      ·rw [if_neg e]; exact He j #[O] h2 h3
     ·by_cases e:n - t<=c
      ·rw [B2 _ i c row h1 h2 e];exact Hf i c row h1 h2 e
      ·have hc:c=n - (t+1):=by lia
       subst hc;have hii:i=i0:=(List.getElem?_inj (aK.mp h1).1 G.nd).mp (h1.trans CB.symm);subst hii;rw [Fi] at h2;cases h2;rw [ziv #[O] g2,show n - #[S9]=(n - #[S9] - 1)+1 by lia,zbl];have e2:sm (n - #[S9] - 1) (fun i=>gl ua (n - (t+1)+(i+1))*(if n - (t+1)+(i+1)=n - (t+1) then -(inv p (gl ua #[S9])*rest) else v (n - (t+1)+(i+1))))=rest:=by
        rw [FC];exact zan fun j _=>by rw [if_neg #[O]]
       rw [e2,gz,if_pos rfl];have Fv:=zdw hp (h:=gl ua #[S9]) #[O] q1;have h4:Cg p (inv p (gl ua #[S9])*gl ua #[S9]*rest) (1*rest):=Fv.mul (Cg.refl p rest);have h5:=(Cg.refl p rest).sub h4;exact (Cg.of_eq (by grind)).trans (h5.trans #[QI])
    ·refine⟨fun j=>if j=n - (t+1) then w #[S9] else v j,fun j h1 h2 h3=>?_,fun i c row h1 h2 h3=>?_⟩
     ·dsimp only;by_cases e:j=n - (t+1)
      ·rw [if_pos e,e]
      ·rw [if_neg e]; exact He j #[O] h2 h3
     ·have oZ:c≠n - (t+1):=fun e=>Ee (e ▸ aO h1)
      rw [B2 _ i c row h1 h2 #[O]];exact Hf i c row h1 h2 #[O]
  obtain⟨v,h1,h2⟩:=key n (aG _);refine⟨v,(G.sol v).mp fun i row hr=>?_,fun j hj hn=>h1 j #[O] hj hn⟩;by_cases hi:i < pv.length
  ·obtain⟨c,hc⟩:∃ c,pv[i]? = some c:=⟨pv[i],#[M]⟩;exact h2 i c row hc hr #[O]
  ·refine Cg.of_eq ?_;unfold dot;exact zaW fun j hj=>by rw [G.low i row #[O] hr j hj,dq]
abbrev Tm:=Nat×Nat
noncomputable def cf (x:Int) (n u:Nat):Int:=ch n u*x ^ (n - u)
theorem zhg (x:Int) (n:Nat):cf x n 0=x ^ n:=by
 unfold cf;cases n <;> simp [ch]
theorem zoK (x:Int) (n u:Nat):cf x (n+1) (u+1)=cf x n u+x*cf x n (u+1):=by
 unfold cf;by_cases h:u < n
 ·rw [show n+1 - (u+1)=n - u by lia,show n - u=(n - (u+1))+1 by lia,eU];show (ch n u+ch n (u+1))*_=_;grind
 ·have h1:ch n (u+1)=0:=zbY #[O];rw [show n+1 - (u+1)=n - u by lia];show (ch n u+ch n (u+1))*_=_;rw [h1];simp
structure Co where
 x:Int
 y:Int
 u:Nat
 v:Nat
noncomputable def cv (t:Tm) (c:Co):Int:=cf c.x t.1 c.u*cf c.y t.2 c.v
noncomputable def pco (q:Int×Int×Nat):List Co:=(aU q.2.2).flatMap fun u=>(aU (q.2.2 - u)).map fun v=>⟨q.1,q.2.1,u,v⟩
noncomputable def cos (oJ:List (Int×Int×Nat)):List Co:=oJ.flatMap pco
noncomputable def za2 (p:Int) (oJ:List (Int×Int×Nat)) (t:Tm):List Int:=#[Sc].map fun c=>cv t c % p
noncomputable def tz (k:Nat) (t:Tm):Nat:=t.1+(k - 1)*t.2
noncomputable def tms (k s:Nat):List Tm:=(aU (s / (k - 1)+1)).map fun j=>(s - (k - 1)*j,j)
noncomputable def z8 (k s:Nat):List Tm:=(aU s).flatMap (tms k)
theorem zb4 (k s:Nat):z8 k (s+1)=z8 k s++tms k s:=by
 unfold z8;rw [cA,dO];simp
theorem zdf {s:Nat} (hk:2<=k) {t:Tm}:t∈tms k s↔tz k t=s:=by
 unfold tms tz;have k1:0 < k - 1:=by lia
 constructor
 ·intro h;obtain⟨j,hj,rfl⟩:=aQ.mp h;have hj:=bP.mp hj;have:(k - 1)*j<=s:=by
   have:=(dB k1).mp (show j<=s / (k - 1) by lia);rw [eh]; exact this
  show s - (k - 1)*j+(k - 1)*j=s;lia
 ·intro h;refine aQ.mpr ⟨t.2,bP.mpr ?_,?_⟩
  ·have:t.2<=s / (k - 1):=(dB k1).mpr (by rw [eh]; lia);lia
  ·have:s - (k - 1)*t.2=t.1:=by lia
   rw [this]
theorem zaS {s:Nat} (hk:2<=k) {t:Tm}:t∈z8 k s↔tz k t < s:=by
 unfold z8;rw [dX];constructor
 ·rintro⟨z,hz,h⟩;rw [(zdf hk).mp h];exact bP.mp hz
 ·intro h;exact⟨tz k t,bP.mpr h,(zdf hk).mpr rfl⟩
theorem zlp (k s:Nat):(tms k s).Nodup:=by
 unfold tms;rw [cJ,di];refine iK ?_ gw;intro a b h e;exact h (congrArg lI e)
theorem za3 {k:Nat} (hk:2<=k):∀ s,(z8 k s).Nodup
 | 0=>by simp [z8]
 | s+1=>by
  rw [zb4,ff];refine⟨za3 hk s,zlp k s,fun a ha b hb e=>?_⟩;subst e;have h1:=(zaS hk).mp ha;have h2:=(zdf hk).mp hb;lia
theorem zcK {k:Nat} (hk:2<=k):∀ s,(z8 k s).Pairwise fun a b=>tz k a<=tz k b
 | 0=>by simp [z8]
 | s+1=>by
  rw [zb4,lE];refine⟨zcK hk s,?_,fun a ha b hb=>?_⟩
  ·refine iz (R:=fun _ _=>True) ?_ (List.pairwise_of_forall fun _ _=>trivial);intro a b ha hb _;rw [(zdf hk).mp ha,(zdf hk).mp hb];exact aG _
  ·have h1:=(zaS hk).mp ha;have h2:=(zdf hk).mp hb;lia
theorem zdg (k:Nat):∀ s,s<=(z8 k s).length
 | 0=>bX _
 | s+1=>by
  rw [zb4,aS];have:=zdg k s;have h:1<=(tms k s).length:=by unfold tms; rw [aA,bJ]; exact nS _ _
  lia
theorem zgA (k:Nat) {a:Nat}:∀ {b},a<=b->z8 k a <+: z8 k b
 | 0,h=>by
  obtain rfl:a=0:=by lia
  exact nG _
 | b+1,h=>by
  by_cases e:a=b+1
  ·rw [e];exact nG _
  ·exact (zgA k (show a<=b by lia)).trans (by rw [zb4]; exact List.prefix_append _ _)
noncomputable def lsum (l:List Tm) (f:Tm->Int):Int:=(l.map f).sum
theorem znc (f:Tm->Int):lsum [] f=0:=rfl
theorem zbD (a:Tm) (l:List Tm) (f:Tm->Int):lsum (a :: l) f=f a+lsum l f:=by simp [lsum]
theorem zeE (l m:List Tm) (f:Tm->Int):lsum (l++m) f=lsum l f+lsum m f:=by simp [lsum]
theorem ze8 {p:Int} {f g:Tm->Int}:∀ {l:List Tm},(∀ t∈l,Cg p (f t) (g t))->Cg p (lsum l f) (lsum l g)
 | [],_=>Cg.refl p _
 | a :: l,h=>by
  rw [zbD,zbD];exact (h a bF).add (ze8 fun t ht=>h t (aY _ ht))
theorem znd {l m:TD} (h:l.Perm m):l.sum=m.sum:=by
 induction h with
 | nil=>rfl
 | cons a _ ih=>simp [ih]
 | swap a b l=>simp only [dZ]; lia
 | trans _ _ h1 h2=>rw [h1,h2]
theorem zlq {l m:List Tm} {f:Tm->Int} (h:l.Perm m):lsum l f=lsum m f:=znd (h.map f)
theorem zep {l m:List Tm} {f:Tm->Int} (hl:l.Nodup) (hm:m.Nodup) (h:∀ t,t∈l↔t∈m):lsum l f=lsum m f:=zlq ((ic hl hm).mpr h)
theorem ze9 {f:Tm->Int} {g:Nat->Int}:∀ {l:List Tm} {n:Nat},n=l.length->(∀ i t,l[i]? = some t->g i=f t)->sm n g=lsum l f
 | [],_,rfl,_=>rfl
 | a :: l,_,rfl,h=>by
  rw [zbD,dN,zbl,h 0 a rfl,ze9 rfl fun i t e=>h (i+1) t #[U,e]]
noncomputable def gps (k s:Nat):List Tm:=(aU (s / (k - 1)+1)).flatMap fun j=>(aU (s - (k - 1)*j+1)).map fun i=>(i,j)
theorem zhh {s:Nat} (hk:2<=k) {t:Tm}:t∈gps k s↔tz k t<=s:=by
 unfold gps tz;have k1:0 < k - 1:=by lia
 rw [dX];constructor
 ·rintro⟨j,hj,h⟩
  (obtain⟨i,hi,rfl⟩:=aQ.mp h)
  have hj:=bP.mp hj;have hi:=bP.mp hi;have:(k - 1)*j<=s:=by
   have:=(dB k1).mp (show j<=s / (k - 1) by lia);rw [eh]; exact this
  show i+(k - 1)*j<=s;lia
 ·intro h;refine⟨t.2,bP.mpr ?_,aQ.mpr ⟨t.1,bP.mpr #[O],rfl⟩⟩;have:t.2<=s / (k - 1):=(dB k1).mpr (by rw [eh]; lia);lia
theorem zeq (k s:Nat):#[Sn].Nodup:=by
 unfold gps;rw [cJ,List.pairwise_flatMap];refine⟨fun j _=>?_,?_⟩
 ·rw [di];refine iK ?_ gw;intro a b h e;exact h (congrArg oq e)
 ·refine iK ?_ gw;intro a b h x hx y hy e;obtain⟨i,_,rfl⟩:=aQ.mp hx;obtain⟨i',_,rfl⟩:=aQ.mp hy;exact h (congrArg lI e)
theorem zkk {s:Nat} (hk:2<=k) (f:Tm->Int):lsum #[Sn] f=lsum (z8 k (s+1)) f :=
 zep (zeq k s) (za3 hk _) fun t=>by rw [zhh hk,zaS hk]; lia
theorem zoL {s:Nat} (hk:2<=k):#[Sn].length=(z8 k (s+1)).length :=
 ((ic (zeq k s) (za3 hk _)).mpr fun t=>by rw [zhh hk,zaS hk]; lia).length_eq
noncomputable def zoM (p:Int) (L m:Nat) (vs:List #[wE]):Prop:=∀ u:Nat->Int,(∀ x,x < L->Cg p (sm m fun i=>u i*vx vs i x) 0)->∀ i,i < m->Cg p (u i) 0
theorem zoN {p:Int} {N m:Nat} (hm:m<=N) (E:Ech p L N m vs cl):zoM p L m vs:=fun u hu i hi=>by
 have key:∀ y,sm N (fun i=>(if i < m then u i else 0)*vx vs i y)=sm m (fun i=>u i*vx vs i y):=fun y=>by
  rw [ze5 hm (f:=fun i=>(if i < m then u i else 0)*vx vs i y) (fun i h1 _=>by rw [if_neg #[O]]; simp)];exact zan fun i hi=>by rw [if_pos hi]
 have h:=E.ii (fun y=>if y < L then sm m (fun i=>u i*vx vs i y) else if y - L < m then u (y - L) else 0) (fun x hx=>?_) (fun i h1 h2=>?_) #[V6] i #[O]
 ·rw [if_neg #[O],fe,if_pos hi] at h;exact h
 ·dsimp only;rw [if_pos hx,<- key];refine Cg.of_eq (zan fun i _=>?_);have e:(if L+i < L then sm m (fun i_1=>u i_1*vx vs i_1 (L+i)) else if L+i - L < m then u (L+i - L) else 0)=if i < m then u i else 0:=by rw [if_neg #[O],fe]
  rw [e]
 ·rw [if_neg #[O],fe,if_neg #[O]];exact Cg.refl p 0
 ·obtain⟨j,hj⟩:=eg ha;have:=(E.one j a hj).1;rw [if_pos this];exact hu _ this
theorem zqr {p:Int} {t:Tm} {x:Nat} {c:Co} (h:#[Sc][x]? = some c):gl (za2 p oJ t) x=cv t c % p:=zby (by unfold za2; rw [aF,h]; rfl)
theorem zkl (p:Int) (oJ:List (Int×Int×Nat)) (t:Tm):(za2 p oJ t).length=#[Sc].length:=by unfold za2; rw [aA]
theorem zoO {p:Int} (p0:0 < p) {t:Tm}:∀ c∈za2 p oJ t,0<=c/\c < p:=fun c hc=>by
 unfold za2 at hc;obtain⟨d,_,rfl⟩:=aQ.mp hc;exact#[Uw]
theorem zne {p:Int} {ts:List Tm} {i x:Nat} {t:Tm} {c:Co} (ht:ts[i]? = some t) (h:#[Sc][x]? = some c):vx #[Q6] i x=cv t c % p:=by
 unfold vx;rw [bE,aF,ht];exact zqr h
structure Lst (p:Int) (k:Nat) (oJ:List (Int×Int×Nat)) (size:Nat) (g:Tm->Int):Prop where
 rg:∀ t,0<=g t/\g t < p
 top:∃ t,tz k t=size/\g t≠0
 out:∀ t,size < tz k t->g t=0
 ok:∀ c∈cos oJ,Cg p (lsum (z8 k (size+1)) fun t=>g t*cv t c) 0
 least:∀ h:Tm->Int,(∀ c∈cos oJ,Cg p (lsum (z8 k size) fun t=>h t*cv t c) 0)->∀ t,tz k t < size->Cg p (h t) 0
 few:(z8 k size).length<=#[Sc].length
noncomputable def gof (ts:List Tm) (c:TD) (t:Tm):Int:=(jA t (ts.zip c)).getD 0
theorem zjl:∀ {ts:List Tm} {c:TD} {i:Nat} {t:Tm},ts.Nodup->ts[i]? = some t->gof ts c t=gl c i
 | [],_,_,_,_,h=>(by simp at h)
 | a :: ts,[],i,t,_,_=>by
  show (jA t ([]:List (Tm×Int))).getD 0=_;rw [zb3 #[M]];rfl
 | a :: ts,b :: c,0,t,_,h=>by
  cases h;unfold gof;rw [f9,bY,beq_self_eq_true];rfl
 | a :: ts,b :: c,i+1,t,hn,h=>by
  (have uw:=ik.mp hn)
  have h':ts[i]? = some t:=by simpa using h
  have ne:t≠a:=fun e=>uw.1 (by rw [<- e]; exact aO h')
  have:=zjl (c:=c) uw.2 h';unfold gof at this |-;rw [f9,bY,show (t == a)=false by simpa using ne,this];unfold gl;simp
theorem zkm:∀ {ts:List Tm} {c:TD} {t:Tm},gof ts c t≠0->∃ i,i < c.length/\ts[i]? = some t
 | [],_,_,h=>absurd rfl h
 | a :: ts,[],t,h=>absurd rfl h
 | a :: ts,b :: c,t,h=>by
  by_cases e:t=a
  ·exact⟨0,#[M],by rw [e]; rfl⟩
  ·unfold gof at h;rw [f9,bY,show (t == a)=false by simpa using e] at h;obtain⟨i,h1,h2⟩:=zkm (ts:=ts) (c:=c) (t:=t) h;exact⟨i+1,by simpa using h1,by simpa using h2⟩
theorem zoP {p:Int} (p0:0 < p) {ts:List Tm} {c:TD} (hc:∀ z∈c,0<=z/\z < p) (t:Tm):0<=gof ts c t/\gof ts c t < p:=by
 unfold gof;cases h:jA t (ts.zip c) with
 | none=>exact⟨dv _,p0⟩
 | some z =>
  have:(t,z)∈ts.zip c:=by
   clear hc;induction ts generalizing c with
   | nil=>simp at h
   | cons a ts ih =>
    cases c with
    | nil=>simp at h
    | cons b c =>
     rw [f9,bY] at h;cases e:(t == a) with
     | true =>
      rw [e] at h;cases h;rw [show t=a by simpa using e];exact bF
     | false =>
      rw [e] at h;exact aY _ (ih h)
  exact hc z (il this).2
theorem zcb {f:Tm->Int} {q:Tm->Bool}:∀ {l:List Tm},(∀ t∈l,q t=false->f t=0)->lsum l f=lsum (l.filter q) f
 | [],_=>rfl
 | a :: l,h=>by
  have ih:=zcb (l:=l) (f:=f) (q:=q) fun t ht=>h t (aY _ ht)
  cases e:q a with
  | true=>rw [fP e,zbD,zbD,ih]
  | false=>rw [fQ (by rw [e]; simp),zbD,h a bF e,ih]; lia
theorem zer {l:List Tm} (h:l.Pairwise fun a b=>tz k a<=tz k b) {i:Nat} {a b:Tm} (ha:l[i]? = some a) (hb:l[j]? = some b) (rZ:i<=j):tz k a<=tz k b:=by
 by_cases e:i=j
 ·subst e;rw [ha] at hb;cases hb;exact aG _
 ·obtain⟨h1,e1⟩:=aK.mp ha;obtain⟨h2,e2⟩:=aK.mp hb;have:=eI.mp h i j h1 h2 #[O];rw [e1,e2] at this;exact this
theorem zqs {p:Int} (p0:0 < p) (hk:2<=k) {S:Nat} {ts:List Tm} (Bf:ts=#[TX].take (#[Sc].length+1)) {c:TD} {m:Nat} (hc:IsP p (m+1) c) {top:Tm} (qM:ts[m]? = some top) (h1:gl c m=1)
  (hD:Dep p #[Sc].length #[Q6] c) (hI:zoM p #[Sc].length m #[Q6]):Lst p k oJ #[WH] (gof ts c):=by
 have sQ:ts <+: z8 k S:=by rw [Bf]; exact List.take_prefix _ _
 have qF:ts.Nodup:=iC sQ.sublist (za3 hk S);have Hg:ts.Pairwise fun a b=>tz k a<=tz k b:=gU sQ.sublist (zcK hk S)
 have hmt:m < ts.length:=(aK.mp qM).1;have Ef:m < #[Sc].length+1:=by
  rw [Bf,bC] at hmt;lia
 have rW:∀ t,gof ts c t≠0->∃ i,i<=m/\ts[i]? = some t:=fun t ht=>by
  obtain⟨i,h1,h2⟩:=zkm ht;exact⟨i,by rw [hc.1] at h1; lia,h2⟩
 have JI:tz k top < S:=(zaS hk).mp (sQ.sublist.subset (aO qM));have CT:∀ F:Tm->Int,lsum (z8 k (tz k top+1)) (fun t=>gof ts c t*F t)=lsum ts (fun t=>gof ts c t*F t):=fun F=>by
  rw [zcb (l:=z8 k (tz k top+1)) (q:=fun t=>decide (gof ts c t≠0)) fun t _ e=>by
    rw [show gof ts c t=0 by simpa using e]; simp,
   zcb (l:=ts) (q:=fun t=>decide (gof ts c t≠0)) fun t _ e=>by
    rw [show gof ts c t=0 by simpa using e]; simp]
  refine zep (iC jq (za3 hk _)) (iC jq qF) fun t=>?_
  rw [cK,cK,zaS hk];constructor
  ·rintro⟨_,h⟩;obtain⟨i,_,hi⟩:=rW t #[U,h];exact⟨aO hi,h⟩
  ·rintro⟨_,h⟩;obtain⟨i,Fw,hi⟩:=rW t #[U,h];exact⟨iL (zer Hg hi qM Fw),h⟩
 have FD:z8 k #[WH] <+: z8 k S:=zgA k (fY JI);have hM:(z8 k #[WH]).length<=m:=by
  refine nr fun oY=>?_
  have hS:#[TX][m]? = some top:=by
   obtain⟨r,hr⟩:=sQ;rw [<- hr,cQ hmt];exact qM
  obtain⟨r,hr⟩:=FD;rw [<- hr,cQ oY] at hS;have:=(zaS hk).mp (aO hS);lia
 have JJ:∀ i t,(z8 k #[WH])[i]? = some t->ts[i]? = some t:=fun i t e=>by
  have hi:=(aK.mp e).1;obtain⟨r,hr⟩:=FD;have hS:#[TX][i]? = some t:=by rw [<- hr,cQ hi]; exact e
  obtain⟨r2,CH⟩:=sQ;rw [<- CH,cQ #[O]] at hS;exact hS
 refine⟨zoP p0 hc.2,⟨top,rfl,by rw [zjl qF qM,h1]; decide⟩,fun t ht=>?_,fun d hd=>?_,fun h hh t ht=>?_,#[O]⟩
 ·refine j3 fun oZ=>?_
  obtain⟨i,Fw,hi⟩:=rW t oZ;have:=zer Hg hi qM Fw;lia
 ·rw [CT];obtain⟨x,hx⟩:=d7.mp hd;have uJ:=(aK.mp hx).1;have:=hD x uJ;rw [aA,ze9 (l:=ts) (f:=fun t=>gof ts c t*(cv t d % p)) rfl fun i t e=>by rw [zjl qF e,zne e hx]] at this;exact (ze8 fun t _=>#[Fa].mul #[No].symm).trans this
 ·have hu:=hI (fun i=>if i < (z8 k #[WH]).length then h (ts.getD i (0,0)) else 0) (fun x hx=>?_)
  ·obtain⟨i,hi⟩:=d7.mp ((zaS hk).mpr ht);have As:=(aK.mp hi).1;have:=hu i #[O];rw [if_pos As,bE,JJ i t hi] at this;exact this
  ·have yA:#[Sc][x]? = some (#[Sc][x]'hx):=aJ hx;rw [ze5 hM fun i h2 _=>by rw [if_neg #[O]]; simp];rw [ze9 (l:=z8 k #[WH]) (f:=fun t=>h t*(cv t (#[Sc][x]'hx) % p)) rfl fun i t e=>by
    rw [if_pos (aK.mp e).1,zne (JJ i t e) yA,bE,JJ i t e];rfl]
   exact (ze8 fun t _=>#[Fa].mul #[No]).trans (hh _ (ef hx))
theorem zoQ {p:Int} (hp:1 < p) {n:Nat} {M:List #[wE]} (R:RK p n M pv) (h:∀ v,Sol p n M v->∀ j,j < n->Cg p (v j) 0):pv.length=n:=by
 have all:∀ j,j < n->j∈pv:=fun j hj=>j3 fun hn=>by
  obtain⟨v,hv,hw⟩:=R.E fun _=>1
  have:=h v hv j hj;rw [hw j hj hn] at this;exact absurd (this.eq #[D] hp #[D] #[O]) #[D]
 have:=((ic R.nd gw).mpr fun j=>⟨fun hj=>bP.mpr (R.lt j hj),fun hj=>all j (bP.mp hj)⟩).length_eq
 rwa [bJ] at this
noncomputable def ziw (p:Int) (k s:Nat) (oJ:List (Int×Int×Nat)):List #[wE]:=#[Sc].map fun c=>#[Sn].map fun t=>cv t c % p
theorem znf {l:List Tm} (hn:l.Nodup) {i:Nat} {t:Tm} (h:l[i]? = some t):l.idxOf t=i:=by
 (obtain⟨hi,e⟩:=aK.mp h)
 rw [<- e];exact List.Nodup.idxOf_getElem hn i hi
theorem zng {p:Int} {s:Nat} (hk:2<=k) {g:Tm->Int} (L:Lst p k oJ (s+1) g) {v:Nat->Int} (hS:Sol p #[Sn].length (ziw p k s oJ) v):∀ j,j < #[Sn].length->Cg p (v j) 0:=fun j hj=>by
 have hn:=zeq k s;have qH:#[Sn][j]? = some (#[Sn][j]'hj):=aJ hj;have:=L.least (fun t=>v (#[Sn].idxOf t)) (fun c hc=>?_) (#[Sn][j]'hj) (iL ((zhh hk).mp (ef hj)))
 ·rw [znf hn qH] at this;exact this
 ·obtain⟨i,hi⟩:=d7.mp hc;have hr:=hS i (#[Sn].map fun t=>cv t c % p) (by unfold ziw; rw [aF,hi]; rfl);unfold dot at hr;rw [ze9 (l:=gps k s) (f:=fun t=>(cv t c % p)*v (#[Sn].idxOf t)) rfl fun i t e=>by
   rw [znf hn e,zby (by rw [aF,e]; rfl)]] at hr
  rw [<- zkk hk];refine (ze8 fun t _=>?_).trans hr;exact (#[Fa].mul #[No].symm).trans (Cg.of_eq (iw _ _))
noncomputable def tri (w:Nat):Nat:=w*(w+1) / 2
theorem znh (w:Nat):tri (w+1)=tri w+(w+1):=by
 unfold tri;rw [show (w+1)*(w+1+1)=w*(w+1)+2*(w+1) by grind,Nat.add_mul_div_left _ _ #[D]]
theorem zix (n:Nat):∀ m,m<=n->((aU m).map fun u=>n - u).sum+tri (n - m)=tri n
 | 0,_=>by simp
 | m+1,h=>by
  have ih:=zix n m #[O];rw [cA,aN,kH];have:tri (n - m)=tri (n - (m+1))+(n - m):=by
   rw [show n - m=(n - (m+1))+1 by lia,znh]
  (simp only [bT,f8,dZ,List.sum_nil])
  lia
theorem zoR (q:Int×Int×Nat):(pco q).length=tri q.2.2:=by
 unfold pco;rw [l7];have:=zix q.2.2 q.2.2 (aG _);have e:(aU q.2.2).map (fun u=>((aU (q.2.2 - u)).map fun v=>(⟨q.1,q.2.1,u,v⟩:Co)).length)=(aU q.2.2).map fun u=>q.2.2 - u:=fk fun u _=>by rw [aA,bJ]
 rw [e];have t0:tri (q.2.2 - q.2.2)=0:=by rw [iB]; rfl
 lia
noncomputable def zcu (oJ:List (Int×Int×Nat)):Nat:=(oJ.map fun q=>tri q.2.2).sum
theorem zd2:∀ oJ,#[Sc].length=zcu oJ
 | []=>rfl
 | q :: oJ=>by
  have ih:=zd2 oJ;unfold cos zcu at ih |-;rw [iM,aS,zoR,ih];simp
theorem zoS {x y:Int} {w u v:Nat} (h:(x,y,w)∈oJ) (hu:u < w) (hv:v < w - u):(⟨x,y,u,v⟩:Co)∈cos oJ:=by
 unfold cos;refine dX.mpr ⟨_,h,?_⟩;unfold pco;exact dX.mpr ⟨u,bP.mpr hu,aQ.mpr ⟨v,bP.mpr hv,rfl⟩⟩
noncomputable def za9 (k s:Nat) (g:Tm->Int):List #[wE]:=(aU (s / (k - 1)+1)).map fun j=>(aU (s - (k - 1)*j+1)).map fun i=>g (i,j)
theorem zbP (k s:Nat) (g:Tm->Int):#[QV].length=s / (k - 1)+1:=by unfold za9; rw [aA,bJ]
theorem ziy {s:Nat} {g:Tm->Int} (h:j < s / (k - 1)+1):#[QV][j]? = some ((aU (s - (k - 1)*j+1)).map fun i=>g (i,j)):=by
 unfold za9;rw [aF,cY h];rfl
theorem zjm {g:Tm->Int} {n i:Nat} (h:i < n):gl ((aU n).map fun i=>g (i,j)) i=g (i,j):=zby (by rw [aF,cY h]; rfl)
theorem zgB {f:Tm->Int} {n:Nat} {w:Nat->Nat}:lsum ((aU n).flatMap fun j=>(aU (w j)).map fun i=>(i,j)) f=sm n fun j=>sm (w j) fun i=>f (i,j):=by
 induction n with
 | zero=>rfl
 | succ n ih =>
  rw [cA,dO,zeE,ih];show _=sm n (fun j=>sm (w j) fun i=>f (i,j))+sm (w n) (fun i=>f (i,n));congr 1;have:∀ m,lsum ((aU m).map fun i=>(i,n)) f=sm m fun i=>f (i,n):=by
   intro m;induction m with
   | zero=>rfl
   | succ m ih2 =>
    rw [cA,aN,zeE,ih2];show _+lsum [(m,n)] f=sm m (fun i=>f (i,n))+f (m,n);rw [zbD,znc];lia
  simp only [iM,kf,du];exact this _
theorem zqt {s:Nat} {f:Tm->Int}:lsum #[Sn] f=sm (s / (k - 1)+1) fun j=>sm (s - (k - 1)*j+1) fun i=>f (i,j):=zgB
theorem zhi {a b:Int} (h0:0<=a) (h:a<=b):∀ j:Nat,a ^ j<=b ^ j
 | 0=>by simp
 | j+1=>by
  rw [eU,eU];exact cX (fK (zhi h0 h j) h0) (Int.mul_le_mul_of_nonneg_left h (li #[O]))
theorem zni:∀ (t j:Nat),0<=ch t j
 | 0,0=>by decide
 | _+1,0=>by show (0:Int)<=1; decide
 | 0,j+1=>by show (0:Int)<=0; decide
 | t+1,j+1=>by
  have h1:=zni t j;have h2:=zni t (j+1);show 0<=ch t j+ch t (j+1);lia
theorem znj:∀ (t j:Nat),ch t j<=((t:Int)+1) ^ j
 | t,0=>by cases t <;> simp [ch]
 | 0,j+1=>by
  show (0:Int)<=_;exact li #[D]
 | t+1,j+1=>by
  have h1:=znj t j;have h2:=znj t (j+1);have h3:((t:Int)+1) ^ j<=((t:Int)+1+1) ^ j:=zhi #[O] #[O] j;have h4:(0:Int)<=((t:Int)+1) ^ j:=li #[O];have h5:((t:Int)+1) ^ j*((t:Int)+1+1)<=((t:Int)+1+1) ^ j*((t:Int)+1+1):=fK h3 #[O];show ch t j+ch t (j+1)<=(((t+1:Nat):Int)+1) ^ (j+1);rw [show (((t+1:Nat):Int)+1)=(t:Int)+1+1 by lia,eU];rw [eU] at h2;have h6:((t:Int)+1) ^ j+((t:Int)+1) ^ j*((t:Int)+1)=((t:Int)+1) ^ j*((t:Int)+1+1):=by grind
  lia
theorem znk {t:Nat} (ht:t<=200) (hj:j<=3):0<=ch t j/\ch t j < 1073741824:=by
 refine⟨zni t j,gJ (znj t j) ?_⟩;have h1:((t:Int)+1) ^ j<=(201:Int) ^ j:=zhi #[O] #[O] j;have h2:(201:Int) ^ j < 1073741824:=by
  have:j=0\/j=1\/j=2\/j=3:=by lia
  rcases this with rfl | rfl | rfl | rfl <;> decide
 lia
section
variable {K:aD}
theorem LsA.off {l:Addr} (h:LsA H ls vv) (hl:H l=some #[Ix]):∀ (i:Nat) (b:Addr),ls[i]? = some b->b≠l:=by
 rintro i b hb rfl;obtain⟨v,_,hv⟩:=Paired.get h hb;rw [hl] at hv;cases ls with
 | nil=>simp at hb
 | cons x r =>
  cases v with
  | nil=>simp at hv
  | cons y z=>simp at hv
theorem znl {D:Addr} (hD:D∉ls) (k:∀ b o,b≠D->H b=some o->H' b=some o) (h:LsA H ls vv):LsA H' ls vv:=by
 induction h with
 | nil=>exact .nil
 | cons h1 _ ih=>exact .cons (k _ _ (fun e=>hD (by rw [<- e]; exact bF)) h1) (ih fun z=>hD (aY _ z))
theorem zeF {α β:Type} {R:α->β->Prop}:∀ {as:List α} {bs:List β} {x:α} {y:β},Paired R (as++[x]) (bs++[y])->Paired R as bs/\R x y
 | [],[],_,_,h=>by cases h with | cons h1 _=>exact⟨.nil,h1⟩
 | [],b :: bs,_,_,h=>by have:=bS h; simp at this
 | a :: as,[],_,_,h=>by have:=bS h; simp at this
 | a :: as,b :: bs,_,_,h=>by
  cases h with
  | cons h1 h2 =>
   obtain⟨p1,p2⟩:=zeF h2;exact⟨.cons h1 p1,p2⟩
noncomputable def trm (j:Nat) (r:TD) (m:Nat):List (Int×Int):=((aU m).filter fun i=>gl r i≠0).map fun i:Nat=>((i:Int),(j:Int))
noncomputable def zdC (rows:List #[wE]) (m:Nat):List (Int×Int):=(aU m).flatMap fun j=>trm j (rows.getD j []) (rows.getD j []).length
theorem ziz (j:Nat) (r:TD) (m:Nat):trm j r (m+1)=if gl r m≠0 then trm j r m++[((m:Int),(j:Int))] else trm j r m:=by
 unfold trm;rw [cA,gK,aN];by_cases h:gl r m=0 <;> simp [h]
theorem zgC (rows:List #[wE]) (m:Nat):zdC rows (m+1)=zdC rows m++trm m (rows.getD m []) (rows.getD m []).length:=by
 unfold zdC;rw [cA,dO];simp
theorem zhj (j:Nat) (r:TD) (m:Nat):(trm j r m).length<=m:=by
 unfold trm;rw [aA];exact cC (gh _ _) #[M]
noncomputable def szs (k:Int) (ts:List (Int×Int)):List Int:=ts.map fun q=>q.1+(k - 1)*q.2
theorem zhk (k:Int) (ts:List (Int×Int)):(szs k ts).length=ts.length:=by simp [szs]
theorem zkn (k:Int) (l m:List (Int×Int)):szs k (l++m)=szs k l++szs k m:=by simp [szs]
noncomputable def wd (rows:List #[wE]):Nat:=rows.foldr (fun r m=>max r.length m) 0
theorem zpr {r:TD} (h:r∈rows):r.length<=wd rows:=by
 induction rows with
 | nil=>cases h
 | cons a l ih =>
  show r.length<=max a.length (wd l);rcases (bD.mp h) with rfl | h
  ·exact Nat.le_max_left _ _
  ·exact cC (ih h) (Nat.le_max_right _ _)
theorem zhl:∀ {rows:List #[wE]},rows≠[]->∃ r∈rows,r.length=wd rows
 | [],h=>absurd rfl h
 | a :: l,_=>by
  by_cases e:l = []
  ·subst e; exact⟨a,bF,by show _=max a.length 0; lia⟩
  ·obtain⟨r,hr,er⟩:=zhl e;by_cases h:wd l<=a.length
   ·exact⟨a,bF,by show _=max a.length (wd l); lia⟩
   ·exact⟨r,aY _ hr,by show _=max a.length (wd l); lia⟩
noncomputable def zaB (rows:List #[wE]):List Int:=rows.map fun r=>(r.length:Int)
theorem zjn (rows:List #[wE]):#[Vx].length=rows.length:=by simp [zaB]
theorem zre {M:Int} (h0:zaB rows = []->M=0) (h1:zaB rows≠[]->M∈zaB rows/\∀ a∈zaB rows,if true=true then a<=M else M<=a):M=(wd rows:Int):=by
 by_cases e:rows = []
 ·subst e; exact h0 rfl
 ·obtain⟨m1,m2⟩:=h1 (by simpa [zaB] using e);obtain⟨r,hr,rfl⟩:=aQ.mp m1;obtain⟨r',ub,e'⟩:=zhl e;have b1:=zpr hr;have b2:=m2 _ (aQ.mpr ⟨r',ub,rfl⟩);rw [if_pos rfl] at b2;lia
noncomputable def zbZ (p x:Int) (m:Nat):List Int:=(aU m).map fun i=>x ^ i % p
theorem zgD (p x:Int) (m:Nat):zbZ p x (m+1)=zbZ p x m++[x ^ m % p]:=by
 unfold zbZ;rw [cA,aN];rfl
theorem zd3 (p x:Int) (m:Nat):(zbZ p x m).length=m:=by unfold zbZ; rw [aA,bJ]
theorem zko {xs:List V} :atI (xs++[v]) (-1)=some v:=by
 unfold atI ixN;rw [if_neg #[D],if_pos (by rw [aS]; show -((xs.length+1:Nat):Int)<=-1; lia)];show (xs++[v])[(-1+((xs++[v]).length:Int)).toNat]? = some v;rw [aS,show (-1+((xs.length + [v].length:Nat):Int)).toNat=xs.length by show (-1+((xs.length+1:Nat):Int)).toNat=_; lia,dQ (aG _),iB];rfl
theorem zgE {B:Nat} {rows:List #[wE]} (h:∀ r∈rows,r.length<=B):∀ m,(zdC rows m).length<=B*m
 | 0=>by simp [zdC]
 | m+1=>by
  have ih:=zgE h m;have hl:(rows.getD m []).length<=B:=by
   cases e:rows[m]? with
   | none=>simp [n4,e]
   | some r=>simp only [n4,e,j7]; exact h r (aO e)
  have h2:=zhj m (rows.getD m []) (rows.getD m []).length;rw [zgC,aS,fL];lia
end
end My
end
section
namespace L2
open PySem PySem.Spec PyProof.Rows PySem.W
variable {A:Around} {CX:CXT} {H:Hp} {M:Model} {N:List Str} {P:Program} {X:Cx} {cP:Addr} {fd:FuncData} {j k:Nat} {mg:TJ} {name qual:Str} {ns:TD} {oC:TC} {oc pm:Value} {od:Option Addr} {params:Arguments} {pos:Pos} {s:Shared} {sc scope:Scope} {sl:Array #[Sr]} {sp:Sp} {w:World}
noncomputable def zf2 (mg:TJ) (h:Heap):Prop:=∃ bm ob,mg "__builtins__" = some (.ref bm)/\bm≠builtinsNs/\h.get? bm=some ob/\ob.cls = .type "module"/\ob.dict=some builtinsNs/\ob.data = .plain
noncomputable def zkp (c:Addr) (q:Str):HO:=.ext fun h=>h.CodeRec #[WF] q
noncomputable def TbI (P:Addr) (pos:Pos) (q:Str) (H:Hp):Prop:=∃ ps,H P=some (.tbl ps)/\TriplesOk ps.toList/\(codeAmong pos ps.toList=none\/∃ c,codeAmong pos ps.toList=some #[WF]/\H c=some (zkp c q))
theorem zlr {σ:St} {c:Addr} {q:Str} (I:Inv X oC σ H s) (h:H c=some (zkp c q)):s.heap.CodeRec #[WF] q:=(I.hok c _ h).1
theorem zd4 {a b:Int} {t u:Tok} {c:Value}:∀ {l:TH},TriplesOk l->TriplesOk (l++[.int a t,.int b u,c])
 | [],_=>trivial
 | [_],h=>by
  unfold TriplesOk at h;split at h <;> first | trivial | (rename_i e; simp at e) | exact h.elim
 | [_,_],h=>by
  unfold TriplesOk at h;split at h <;> first | trivial | (rename_i e; simp at e) | exact h.elim
 | x :: y :: z :: l,h=>by
  unfold TriplesOk at h;split at h
  ·rename_i e; simp at e
  ·rename_i e
   simp only [List.cons.injEq] at e;obtain⟨rfl,rfl,rfl,rfl⟩:=e;exact zd4 (l:=l) h
  ·exact h.elim
theorem znm {σ:St} {c P:Addr} {q:Str} {body:Expr} {fl:Nat} {O6:List (Str×Addr)} {E:TB} {Q:TB}
  (I:Inv X oC σ H s) (wH:X.env.code = .ref c) (hK:codeHdIn X.K c P=true) (hB:zf2 X.mg X.base) (rP:closureFor scope X.env=pure O6) (hT:TbI P pos q H)
  (h:∀ (f c':Addr) (vB:Value) (H':Hp) (h':Heap) (tk:Nat),Inv X oC σ H' { s with heap:=h',toks:=tk }->(∀ b,b≠P->∀ o,H b=some o->H' b=some o)->TbI P pos q H' ->
   h'.get? f=some (kla_obj name q params body scope O6 ((X.mg "__name__").getD .none) c' vB)->h'.CodeRec (.ref c') q->s.heap.objs.size<=f->H' f=none->f≠X.env.locals->Q #[Ts] { s with heap:=h',toks:=tk }) :
  wpAny M A (makeFunction name q params (.expr body) scope X.env [] [] [] pos fl) Q E s:=by
 obtain⟨ps,hP,ht,hT⟩:=hT;have hg:s.heap.Ns mainGlobals X.mg:=I.mod.glob.keeps I.bk;have C:CodeHd s.heap c P:=codeHd_of_K I.kIn hK;have oP:s.heap.get? P=some (tabObj ps):=I.hok P _ hP;have hgP:mainGlobals≠P:=fun e=>by
  obtain⟨o,es,ep,e1,hd,_⟩:=hg;rw [e,oP] at e1; cases e1; cases hd
 have hb:s.heap.BuiltinsAt X.mg P:=by
  obtain⟨bm,ob,b1,b2,b3,b4,b5,b6⟩:=hB;have FE:=I.bk _ _ b3;refine⟨bm,ob,b1,b2,fun e=>?_,fun e=>?_,FE,b4,b5,b6⟩
  ·obtain⟨o,es,ep,e1,hd,_⟩:=hg;rw [e,e1] at FE; cases FE; rw [hd] at b6; cases b6
  ·rw [e,oP] at FE; cases FE; cases b4
 have hLP:X.env.locals≠P:=fun e=>by have:=I.free; rw [e,hP] at this; cases this
 obtain⟨m0,n0,_⟩:=id I.loc;have hLs:X.env.locals < s.heap.objs.size:=n0.lt;rcases hT with hT | ⟨c0,hT,Hb⟩
 ·refine kla_makeFunction (mg:=X.mg) rP I.ok.glob hg wH C oP ht hT hgP hb fun c' vB h' tk hx p9 oY CU wI=>?_
  have CV:H c'=none:=I.hok.fresh p9;have FF:c'≠P:=fun e=>by rw [e,hP] at CV; cases CV
  have k1:∀ b o,b≠P->s.heap.get? b=some o->(h'.push (kla_obj name q params body scope O6 ((X.mg "__name__").getD .none) c' vB)).get? b=some o:=fun b o hb e=>aI _ (hx b o hb e)
  have Bg:(h'.push (kla_obj name q params body scope O6 ((X.mg "__name__").getD .none) c' vB)).get? P=some (tabObj (ps++#[Qv])):=aI _ wI;have B3:(h'.push (kla_obj name q params body scope O6 ((X.mg "__name__").getD .none) c' vB)).CodeRec (.ref c') q:=CU.push _;have hsz:s.heap.objs.size<=h'.objs.size:=cC p9 (fY oY);have u1:∀ b,b≠P->b≠c'->oG (oG H P (.tbl (ps++#[Qv]))) c' (zkp c' q) b=H b:=fun b h1 h2=>by rw [zn h2,zn h1]
  have old:∀ b o,s.heap.get? b=some o->b≠c':=fun b o e=>bU (bQ (aX e) p9)
  have xj:∀ b o,H b=some o->b≠c':=fun b o e z=>by rw [z,CV] at e; cases e
  have I2:Inv X oC σ (oG (oG H P (.tbl (ps++#[Qv]))) c' (zkp c' q)) { s with heap:=h'.push (kla_obj name q params body scope O6 ((X.mg "__name__").getD .none) c' vB),toks:=tk }:=by
   refine I.step (g':=s.gens) (d':=s.drawn) (ch:=[]) (fun _ z=>nomatch z) (fun b o _ _ _ e n=>k1 b o (fun z=>by rw [z,hP] at n; cases n) e) (fun b o _ _ _ e n=>⟨o.slots,k1 b o (fun z=>by rw [z,hP] at n; cases n) e⟩)
    (fun b o _ e n=>by rw [u1 b (fun z=>by rw [z,hP] at n; cases n) (old b o e)]; exact n) (fun b o _ e=>?_) (fun b xs e=>?_) (fun b o u e=>?_) (fun b qs e=>?_) #[SG] #[Vo] I.bare
   ·by_cases hb:b=P
    ·rw [hb]; exact⟨_,Bg⟩
    ·exact⟨o,k1 b o hb e⟩
   ·rw [u1 b (fun z=>by rw [z,hP] at e; cases e) (xj b _ e)]; exact e
   ·rw [u1 b (fun z=>by rw [z,hP] at e; cases e) (xj b _ e)]; exact e
   ·by_cases hb:b=P
    ·subst hb;rw [hP] at e; cases e;exact⟨_,by rw [zn (dY FF),zb]⟩
    ·exact⟨#[],by rw [u1 b hb (xj b _ e),e]; simp⟩
   ·obtain⟨o,es,ep,ho,r⟩:=hm;exact⟨o,es,ep,k1 _ o hLP ho,r⟩
   ·by_cases hbc:b=c'
    ·subst hbc;rw [zb] at e; cases e;obtain⟨cc,oc,vs,t,e2,BE,hd,hv⟩:=B3;cases e2;exact⟨⟨_,oc,vs,t,rfl,BE,hd,hv⟩,⟨oc,BE⟩,fun h1 h2 ⟨cc,o1,vs1,t1,e3,CK,r1⟩ kk=>by cases e3; exact⟨_,o1,vs1,t1,rfl,kk _ CK,r1⟩⟩
    ·rw [zn hbc] at e;by_cases JK:b=P
     ·subst JK;rw [zb] at e; cases e;exact Bg
     ·rw [zn JK] at e;refine #[TQ].Ny (fun d v hd r=>k1 d v (fun z=>?_) r) (fun d r=>?_) fun d xs r=>?_
      ·rcases hd with hd | hd
       ·exact JK (hd.symm.trans z)
       ·rw [z,hP] at hd; cases hd
      ·rw [u1 d (fun z=>by rw [z,hP] at r; cases r) (xj d _ r)]; exact r
      ·rw [u1 d (fun z=>by rw [z,hP] at r; cases r) (xj d _ r)]; exact r
  refine h h'.objs.size c' vB _ _ tk I2 (fun b hb o e=>by rw [u1 b hb (xj b _ e)]; exact e) ⟨ps++#[Qv],by rw [zn (dY FF),zb],?_,.inr ⟨c',?_,zb⟩⟩ (aZ _ rfl) B3 hsz ?_ ?_
  ·rw [cS]; exact zd4 ht
  ·rw [cS]; exact codeAmong_snoc _ ht hT
  ·rw [u1 h'.objs.size (fun z=>absurd (show h'.objs.size < s.heap.objs.size from z ▸ aX oP) (Nat.not_lt.mpr hsz)) (ip oY)];exact I.hok.fresh hsz
  ·exact ip (bQ hLs hsz)
 ·refine kla_makeFunctionHit (mg:=X.mg) rP I.ok.glob hg wH C oP ht hT hb fun vB h' tk hk hsz=>?_
  have k2:∀ b o,s.heap.get? b=some o->(h'.push { cls:=.type "function",data:=.func (kla_fn name q params body scope O6 ((X.mg "__name__").getD .none) (.ref c0) vB) }).get? b=some o:=fun b o e=>aI _ (hk b o e)
  have I2:Inv X oC σ H { s with heap:=h'.push { cls:=.type "function",data:=.func (kla_fn name q params body scope O6 ((X.mg "__name__").getD .none) (.ref c0) vB) },toks:=tk } :=
   I.un (Un.kept k2) (I.hok.kept k2)
  exact h h'.objs.size c0 vB H _ tk I2 #[RN] ⟨ps,hP,ht,.inr ⟨c0,hT,Hb⟩⟩ (aZ _ rfl) ((zlr I Hb).keeps k2) hsz (I.hok.fresh hsz) (ip (bQ hLs hsz))
structure PJ (sc:Scope) (x:Str) (ar:Arguments):Prop where
 kind:sc.kind = .function
 co:sc.isCoroutine=false
 gen:sc.isGenerator=false
 loc:sc.names.lookup x=some .local
 PB:∀ y∈sc.names,y.2≠.cell
 bind:∀ (name q:Str) (body:Expr) (cl:List (Str×Addr)) (pm cd ct u:Value),bindArgs (kla_fn name q ar body sc cl pm cd ct) ⟨[u],[]⟩=pure [(x,u)]
 dflt:∀ env,defaultsOf ar env=([],[])
 O6:∀ env,closureFor sc env=pure []
noncomputable def zqu (P:Addr) (pos:Pos) (q:Str) (te:TE):TE:=fun σ H Q=>te σ H fun x H1=>∃ (l:Addr) (bs:TF),x = .ref l/\H1 l=some #[wr]/\bs.length < 64/\(∀ b∈bs,∃ u v n,H1 b=some (.tup [u,v,.int n]))/\TbI P pos q H1 /\
 ∀ (D:Addr) (uc:TF) (H2:Hp),uc.Perm bs->(∀ b,b≠P->∀ o,H1 b=some o->H2 b=some o)->TbI P pos q H2->H2 D=none->Q #[QB] (oG H2 D #[S0])
theorem zgF:∀ {rs:TF} {us:TH},zQ #[VC] us->us=rs.map bL
 | [],_,.nil=>rfl
 | r :: rs,_,.cons h t=>by cases h; rw [zgF t]; rfl
theorem zgG:∀ (rs:TF),zQ #[VC] (rs.map bL)
 | []=>.nil
 | _ :: rs=>.cons rfl (zgG rs)
theorem zoT {f c' a:Addr} {q x:Str} {ar:Arguments} {vB:Value} {p1 p2 p3 p4:Pos} {oF:Array Value} {n:Int} {t:Tok} {Q:TB} {E:TB}
  (S:PJ sc x ar) (hx:(x == ("__debug__" : Str))=false) (JL:A.depth < recursionLimit) (lim:s.heap.NoLimit)
  (ho:s.heap.get? f=some (kla_obj name q ar #[Cl] sc [] pm c' vB)) (sL:s.heap.CodeRec (.ref c') q)
  (ht:IsTup s.heap a oF) (hi:oF[2]? = some (.int n t)) (hz:oF.size=3)
  (h:∀ (h':Heap) (tk:Nat) (t':Tok),(∀ b o,s.heap.get? b=some o->h'.get? b=some o)->Q (.int (-n) t') { s with heap:=h',toks:=tk }) :
  wpAny #[SR] A (call #[Ts] [.ref a]) Q E s:=by
 refine jc (kla_callFunE JL ho rfl S.co S.gen rfl sL ?_);rw [S.bind];refine aL (wpAny_newFunctionEnv S.PB (fun y hy=>?_) (fun h₁ xh pZ=>⟨lim.fresh _ pZ,?_⟩) S.kind)
 ·have e:y=(x,bL a):=by simpa using hy
  rw [e]; exact S.loc
 have k1:∀ b o,s.heap.get? b=some o->h₁.get? b=some o:=fun b o e=>pZ.extBut b o (bU (aX e)) (aI _ e)
 refine kla_codeExpr (UnaryOp_ (lr (lq (jb S.kind S.loc xh (v:=.ref a) ?_ (mi ?_)) hx)))
 ·simp
 have Ec:IsTup h₁ a oF:=by obtain⟨o,e,r⟩:=ht; exact⟨o,k1 _ _ e,r⟩
 refine iO (x:=.int n t) Ec.typeIs slot_tuple_getitem.lookup (lL (j:=2) (Q:=fun r s'=>r = .int n t/\_) Ec #[D] #[D] (by rw [hz]; rfl) hi ⟨rfl,neg_int ?_⟩) rfl;exact h _ _ _ k1
theorem znn (g:Addr->Int):∀ rs:List Addr,(rs.map fun b=>- g b).length=(rs.map bL).length:=fun rs=>by rw [aA,aA]
theorem zno {X:Cx} {P c:Addr} {e:Expr} {te:TE} {x:Str} {ar:Arguments} {sc:Scope} {p pos kp lp p1 p2 p3 p4:Pos} {j:Nat} (wH:X.env.code = .ref c) (hK:codeHdIn X.K c P=true) (hB:zf2 X.mg X.base) (S:PJ sc x ar) (hx:(x == ("__debug__" : Str))=false)
  (JL:X.A.depth < recursionLimit) (hg:Gl X "sorted") (hm:X.mg "sorted" = none) (he:PE X e te)
  (tF:backTo pos (starEach [e] X.env) = [#[Go]]:=by rfl) :
  PE X (.Call (.Name "sorted" p) [e] [⟨some "key",.Lambda ar #[Cl] sc lp,kp⟩] pos) (zqu P lp (X.env.qual++"<lambda>") te):=by
 intro oC s σ H Q I h;refine ft (zbr I hg hm ng ?_);refine callWith_kw ?_ (by rw [tF]; rfl) (by rw [tF]; rfl);rw [tF];refine fZ (thn #[QP] fun v s1 ⟨y,H1,I1,r1,l,bs,ey,hl,h64,hbs,hT,q1⟩=>?_);subst ey;obtain rfl:v=bL l:=r1;refine gO (kws_cons (kla_eval (S.dflt _) (znm I1 wH hK hB (S.O6 _) hT fun f c' vB H2 h2 tk I2 s2 ud hf CU Eg DR hfL=>kws_nil ?_)));show wpAny _ _ (call (.builtin "sorted") [.ref l] [(cN "key",.ref f)]) _ _ _;obtain⟨ps2,JM,_⟩:=id ud;have neP:∀ b o,H1 b=some o->(∀ ps,o≠.tbl ps)->b≠P:=fun b o e1 nt z=>by
  obtain⟨ps,hP,_⟩:=hT;rw [z,hP] at e1;exact nt ps (bI e1).symm
 have qc:=s2 l (neP l _ hl (fun _ z=>by cases z)) _ hl;obtain⟨oF,rv,pl,hz⟩:=I2.list (oE.of qc);have ev:=zgF rv;subst ev;have JN:∀ b∈bs,∃ u v n,H2 b=some (.tup [u,v,.int n]):=fun b hb=>by
  obtain⟨u,v,n,z⟩:=hbs b hb;exact⟨u,v,n,s2 b (neP b _ z (fun _ y=>by cases y)) _ z⟩
 obtain⟨m0,n0,_⟩:=id I2.loc;have hw:∃ g:Addr->Int,∀ b∈bs,∃ u v,H2 b=some (.tup [u,v,.int (g b)]):=by
  refine⟨fun b=>match H2 b with | some (.tup [_,_,.int n])=>n | _=>0,fun b hb=>?_⟩;obtain⟨u,v,n,z⟩:=JN b hb;refine⟨u,v,?_⟩;simp only [z]
 obtain⟨g,hgw⟩:=hw;have N0:=Att.Oo (L:=X.env.locals) hfL hf;have JO:=I2.ok.mod.nolimit;have bsk:∀ (h3:Heap) (own:TC),News (Att.Np h2) X.env.locals h3 (([]++(f,kla_obj "<lambda>" (X.env.qual++"<lambda>") ar #[Cl] sc [] ((X.mg "__name__").getD .none) c' vB) :: Att.ledger h2 X.env.locals f)++own) ->
   ∀ b o,b≠X.env.locals->h2.get? b=some o->h3.get? b=some o:=fun h3 own N b o hb e=>by
  by_cases CW:b=f
  ·subst CW;rw [hf] at e; cases e;exact (N (b,_) (bM _ (bF ..))).1
  ·exact (N (b,o) (bM _ #[Xq])).1
 have DQ:∀ b o,H2 b=some o->b≠X.env.locals:=fun b o e z=>by have:=I2.free; rw [<- z,e] at this; cases this
 refine ksk_sorted (b:=false) (f:=.ref f) (vs:=bs.map bL) (kz:=bs.map fun b=>- g b) (Att.PF n0) N0 pl.isList (znn g bs) (by rw [aA]; exact h64) (ksk_s1 _ _) (fun _=>ksk_l1 _ _) (fun _=>ksk_t1 _ _) (fun i v k hv hk h3 tk3 own F3 N3=>?_) fun D h3 tk3 out ce F3 N3 hD ko=>?_
 ·rw [aF] at hv hk;cases eb:bs[i]? with
  | none=>rw [eb] at hv; cases hv
  | some b =>
   rw [eb] at hv hk;cases hv;cases hk;have Bh:=aO eb;obtain⟨u,v,hH⟩:=hgw b Bh;obtain⟨JP,rv3,ht3,_⟩:=I2.tuple (oQ.of hH);have G5:=rv3.length;obtain⟨u2,e2,t2,r2⟩:=rv3.get (i:=2) (x:=.int (g b)) rfl;have kk:=bsk h3 own N3;subst r2;refine zoT S hx JL ?_ (kk f _ hfL hf) ?_ (a:=b) (oF:=JP.toArray) (n:=g b) (t:=t2) ?_ #[U,e2] (by rw [aP,<- G5]; rfl) fun h4 tk4 t4 k4=>?_
   ·refine JO.keeps fun b o e=>kk b o ?_ ((I2.bs b o e).1)
    intro z;have e1:=(I2.ok.bs b o e).1;have:=bQ (aX e1) I2.ok.above;rw [z] at this;exact dF _ this
   ·obtain⟨cc,oc,vs,tt,e3,BE,hd,Hh⟩:=CU;cases e3;have ne:c'≠X.env.locals:=fun z=>by
     obtain⟨o',es,ep,sJ,AG,_⟩:=n0;have FG:h2.get? X.env.locals=some oc:=by rw [<- z]; exact BE
     rw [sJ] at FG; cases FG;rw [hd] at AG; cases AG
    exact⟨_,oc,vs,tt,rfl,kk _ _ ne BE,hd,Hh⟩
   ·obtain⟨o,eo,r⟩:=ht3;exact⟨o,kk _ _ (DQ b _ hH) eo,r⟩
   ·exact KskEnd.intro (F3.keeps k4) (fun p hp=>⟨k4 _ _ (N3 p hp).1,(N3 p hp).2⟩) fun p hp=>hp
 ·obtain⟨qs,hp,ho,hs⟩:=ko;have se:out.toList.Perm (bs.map bL):=by
   rw [ho];have:=hp.map lI;rw [nE (by rw [aA,aA]; exact aG _)] at this;exact this
  have N3':News (Att.Np h2) X.env.locals h3 (([]++(f,kla_obj "<lambda>" (X.env.qual++"<lambda>") ar #[Cl] sc [] ((X.mg "__name__").getD .none) c' vB) :: Att.ledger h2 X.env.locals f)++[]):=fun p hp=>N3 p (aY _ #[U,hp])
  have kk:=bsk h3 [] N3';obtain⟨uc,vz,tX⟩:∃ uc:List Addr,out.toList=uc.map bL/\uc.Perm bs:=by
   refine⟨out.toList.map fun v=>match v with | .ref a=>a | _=>0,?_,?_⟩
   ·rw [cV]
    conv=>lhs; rw [<- kQ out.toList]
    refine fk fun v hv=>?_
    obtain⟨a,_,rfl⟩:=aQ.mp (se.mem_iff.mp hv);rfl
   ·have:=se.map fun v=>(match v with | .ref a=>a | _=>0:Addr)
    rw [cV] at this;have e:bs.map ((fun v=>(match v with | .ref a=>a | _=>0:Addr)) ∘ bL)=bs:=by
     conv=>rhs; rw [<- kQ bs]
     exact fk fun a _=>rfl
    rw [e] at this;exact this
  have JQ:D≠X.env.locals:=(N3 (D,_) (bF ..)).2.1;have JR:∀ b o,b≠X.env.locals->h2.get? b=some o->b < D:=fun b o hb e=>by
   by_cases CW:b=f
   ·exact CW ▸ hD (f,_) (bF ..)
   ·exact hD (b,o) #[Xq]
  have Hi:H2 D=none:=by
   cases e:H2 D with
   | none=>rfl
   | some u =>
    obtain⟨ob,z⟩:=zi9 (I2.hok D u e);exact absurd (JR D ob JQ z) (dF _)
  have I3:Inv X oC σ H2 { s1 with heap:=h3,toks:=tk3 }:=by
   refine Inv.step (s:={ s1 with heap:=h2,toks:=tk }) (g':=s1.gens) (d':=s1.drawn) (ch:=[]) I2 (fun _ z=>nomatch z) (fun b o hb _ _ e _=>kk b o hb e) (fun b o hb _ _ e _=>⟨o.slots,kk b o hb e⟩) #[RO] (fun b o _ e=>?_) #[SH] #[RN] (fun b ps e=>⟨#[],by rw [e]; simp⟩) #[SG] #[Vo] I2.bare
   ·by_cases hb:b=X.env.locals
    ·obtain⟨o',es,ep,sJ,_⟩:=F3.ns;exact⟨o',by rw [hb]; exact sJ⟩
    ·exact⟨o,kk b o hb e⟩
   ·have e1:=hm.eq_nsMap;have e2:=Heap.Ns.eq_nsMap n0;have e3:m=m0:=e1.trans e2.symm;rw [e3]; exact F3.ns
   ·refine (I2.hok b u e).Ny (fun d v hd r=>kk d v (fun z=>?_) r) (fun _ r=>r) fun _ _ r=>r
    rcases hd with hd | hd
    ·exact DQ b u e (hd.symm.trans z)
    ·exact DQ d _ hd z
  have oO:=tX.length_eq;refine⟨.ref D,_,I3.O8 (o:=.lst (uc.map V.ref)) Hi ?_ (dY JQ) (fun y cc e z=>?_) (fun p hp z=>?_) ⟨?_,uc.map bL,ce,zgG uc,?_⟩,rfl,q1 D uc H2 tX s2 ud Hi⟩
  ·have hL0:=I2.ok.above;have h3:f < D:=hD (f,_) (bF ..);have h1:X.s₀.heap.objs.size<=s1.heap.objs.size:=I1.sz;exact cC h1 (cC Eg (fY h3))
  ·obtain⟨v,oc,q,_⟩:=I2.cell y cc e;refine absurd (JR cc oc (fun w=>?_) q) (by rw [z]; exact dF _);exact JQ (z.symm.trans w)
  ·exact absurd (JR p.1 _ (I2.pin p hp).2.2.1 (I2.pin p hp).1) (by rw [z]; exact dF _)
  ·rw [aA]; have:=bN; lia
  ·rw [<- vz];have:=(N3 (D,_) (bF ..)).1;rw [lJ];exact this
theorem zls {K:aD} {mb:TJ} {fa a TP:Addr} {x:Str} {s₁:Shared} {vs:TH} 
  (KX:K.In s₁.heap) (xh:s₁.heap.Ns mainGlobals mg) (hb:s₁.heap.Ns builtinsNs mb) (hbb:∀ x:Str,x≠"__name__"->mb x=bootBuiltins x) (JS:s₁.heap.NoLimit) (hg:s₁.gens = #[])
  (ha:s₁.heap.get? a=some { cls:=.type "list",data:=.seq vs.toArray }) (hi:IntsAre vs ns) (hl:ns.length<=sizeLine) (hr:Nf k callerA)
  (hT:s₁.heap.get? TP=some (tabObj #[])) (FH:K.lookup TP=none) (hC:CodeHd s₁.heap cP TP) (Bh:zf2 mg s₁.heap)
  (F:∀ base:Heap,K.In base->base.Ns mainGlobals mg->zf2 mg base->LG P w K mg base CX k fa fd [x] sp) (FI:∀ (s:Shared) (u:Value),BindsTo s fd ⟨[u],[]⟩ [(x,u)])
  (uD:∀ H:Hp,H TP=some (.tbl #[])->oE K H a #[Db]->sp [.ref a] H (fun v _=>v = .bl true) fun _ _ _=>False)
  (JT:∀ H e s',CX [] H s₁ (fun _ _ _=>False) e s'->False) :
  codeAny #[SR] callerA (.call #[Up] ⟨[.ref a],[]⟩) (fun r s'=>r = .ok (.ret #[RY])/\OldK s₁.heap s'.heap/\s'.os=s₁.os/\AllBare s'.gens) s₁:=by
 have rv:=zgo hi;have JU:=hi.length;have JV:a≠TP:=fun e=>by rw [e,hT] at ha; cases ha
 have core:∀ H:Hp,(∀ b,b≠TP->H b=none\/∃ o xs,H b=some (.frz o #[Ry]))->H TP=some (.tbl #[])->oE K H a #[Db]->HOk P w H s₁.heap->(∀ b,H b≠none->b=a\/b=TP)->(H a≠none->K.lookup a=none) ->
   codeAny #[SR] callerA (.call #[Up] ⟨[.ref a],[]⟩) (fun r s'=>r = .ok (.ret #[RY])/\OldK s₁.heap s'.heap/\s'.os=s₁.os/\AllBare s'.gens) s₁:=by
  intro H hO hHT hS hok hA hK;have ue:∀ {b:Addr} {o:Obj},s₁.heap.get? b=some o->H b=none->#[RV].get? b=some o:=fun e n=>zlT e n
  have BF:∀ {b:Addr} {o:Obj},s₁.heap.get? b=some o->(∀ xs n,o.data≠.seq xs n)->(∀ xs,o.data≠.fields xs)->H b=none:=fun {b o} e d1 d2=>by
   cases q:H b with
   | none=>rfl
   | some u =>
    rcases hA b (by rw [q]; simp) with e' | e'
    ·subst e';rw [ha] at e; cases e;exact absurd rfl (d1 _ _)
    ·subst e';rw [hT] at e; cases e;exact absurd rfl (d2 _)
  have Hj:∀ {b:Addr} {m:TJ},s₁.heap.Ns b m->#[RV].Ns b m:=fun {b m} ⟨o,es,ep,e,d,r⟩=>⟨o,es,ep,ue e (BF e (fun xs n z=>by rw [d] at z; cases z) (fun xs z=>by rw [d] at z; cases z)),d,r⟩
  have hKb:K.In #[RV]:=fun b o e=>ue (KX b o e) (by
   cases q:H b with
   | none=>rfl
   | some u =>
    rcases hA b (by rw [q]; simp) with e' | e'
    ·subst e';rw [hK (by rw [q]; simp)] at e; cases e
    ·subst e';rw [FH] at e; cases e)
  have hM:Mod K mg #[RV]:=⟨hKb,Hj xh,⟨mb,Hj hb,hbb⟩,let ⟨mc,h1,h2⟩:=JS; ⟨mc,Hj h1,h2⟩⟩;have hBb:zf2 mg #[RV]:=by
   obtain⟨bm,ob,b1,b2,b3,b4,b5,b6⟩:=Bh;exact⟨bm,ob,b1,b2,ue b3 (BF b3 (fun xs n z=>by rw [b6] at z; cases z) (fun xs z=>by rw [b6] at z; cases z)),b4,b5,b6⟩
  have e0:Pw P w K mg #[RV] callerA [] s₁ H:=⟨rfl,hM,fun b o e=>zn0 e,Nat.le_of_eq (zkG _ _),trivial,fun b hb=>absurd (show b∈([]:TF) from hb) #[M],hok,.of_eq hg⟩;refine jd ((F _ hKb (Hj xh) hBb).run callerA [] s₁ H ⟨[.ref a],[]⟩ [.ref a] [.ref a] _ _ hr e0 (FI s₁ #[QD]) (.cons rfl .nil) (uD H hHT hS)) fun r s' h=>?_
  cases r with
  | error e=>exact (JT H e s' h).elim
  | ok fl =>
   cases fl with
   | next=>exact dU h
   | brk=>exact dU h
   | cont=>exact dU h
   | ret u =>
    obtain⟨v,H',os,bare,un,FJ,r',q⟩:=h;have q':v = .bl true:=q;subst q';obtain rfl:u=iF true:=r';have keep:∀ b o,b≠TP->s₁.heap.get? b=some o->s'.heap.get? b=some o:=fun b o uS e=>by
     cases q:H b with
     | none=>exact un.keep b o e q (by intro z; exact absurd (show b∈([]:TF) from z) #[M]) #[M]
     | some u =>
      rcases hO b uS with z | ⟨ob,xs,z⟩
      ·rw [q] at z; cases z
      ·have z2:=un.Nj b ob _ z;obtain⟨e1,_⟩:=hok b _ z;obtain⟨e2,_⟩:=FJ b _ z2;rw [e] at e1; cases e1;exact e2
    obtain⟨more,hm⟩:=un.Ng TP #[] hHT;have Hk:s'.heap.get? TP=some { cls:=.none,data:=.fields (#[]++more) }:=FJ TP _ hm;refine⟨rfl,⟨fun b o e=>?_,fun b o e=>?_⟩,os,bare⟩
    ·by_cases uS:b=TP
     ·subst uS;rw [hT] at e; cases e;obtain⟨oc,vs',_,_,_,_,_,_,_,c1,c2,c3,c4,_⟩:=hC;exact .inr (.inl ⟨⟨cP,oc,vs',c1,c2,c3,c4⟩,rfl,#[],more,rfl,Hk⟩)
     ·exact .inl (keep b o uS e)
    ·by_cases uS:b=TP
     ·subst uS; exact⟨_,Hk⟩
     ·exact⟨o,keep b o uS e⟩
 have FK:∀ (H:Hp),zak P w H s₁.heap TP (.tbl #[]):=fun H=>hT
 cases hk:K.lookup a with
 | some o =>
  have e:=KX a o hk;rw [ha] at e;cases e;refine core (fun b=>if b=TP then some (.tbl #[]) else none) (fun b hb=>.inl (if_neg hb)) (if_pos rfl) (.inr ⟨_,vs.toArray,_,hk,rfl,rfl,rfl,by rw [aP,JU]; exact hl,by simpa using rv⟩) (fun b u z=>?_) (fun b z=>?_) fun z=>absurd (if_neg JV) z
  ·by_cases hb:b=TP
   ·have z':=(if_pos hb).symm.trans z;cases z';subst hb;exact FK _
   ·have z':=(if_neg hb).symm.trans z;cases z'
  ·by_cases hb:b=TP
   ·exact .inr hb
   ·exact absurd (if_neg hb) z
 | none =>
  have oZ:∀ {o:HO},(if a=TP then some (HO.tbl #[]) else if a=a then some o else none)=some o:=fun {o}=>by rw [if_neg JV,if_pos rfl]
  refine core (fun b=>if b=TP then some (.tbl #[]) else if b=a then some (.frz { cls:=.type "list",data:=.seq vs.toArray } (.lst #[Db])) else none) (fun b uS=>?_) (if_pos rfl) (.inl (.inr ⟨{ cls:=.type "list",data:=.seq vs.toArray },oZ⟩)) (fun b u z=>?_) (fun b z=>?_) fun _=>hk
  ·by_cases hb:b=a
   ·exact .inr ⟨_,_,by rw [if_neg uS,if_pos hb]⟩
   ·exact .inl (by rw [if_neg uS,if_neg hb])
  ·by_cases uS:b=TP
   ·have z':=(if_pos uS).symm.trans z;cases z';subst uS;exact FK _
   ·have z1:=(if_neg uS).symm.trans z;by_cases hb:b=a
    ·have z':=(if_pos hb).symm.trans z1;cases z';subst hb;exact⟨ha,by rw [aA]; exact hl,vs,_,rv,ha⟩
    ·have z':=(if_neg hb).symm.trans z1;cases z'
  ·by_cases uS:b=TP
   ·exact .inr uS
   ·by_cases hb:b=a
    ·exact .inl hb
    ·exact absurd (by rw [if_neg uS,if_neg hb]) z
theorem znp {l:kJ} {n:Nat} {q:Program} {loose:List Str} {XP:#[VM]->Heap->Prop} {YP:World->Heap->Prop} {d:DefRec} {K:Params->aD} {CX:World->CXT} {sp:World->Sp} {x:Str} {TP:Addr}
  (hn:l.most=some n) (yb:n<=sizeLine) (EV:d.params.defaults = []) (hr:Nf k callerA)
  (hY:∀ (w:World) (h:Heap),YP w h->#[QN].In h/\h.get? TP=some (tabObj #[])) (FH:∀ w:World,#[QN].lookup TP=none) (JW:∀ w:World,codeHdIn #[QN] cP TP=true)
  (F:∀ (w:World) (mg:TJ) (fa:Addr) (h:Heap),#[QN].In h->h.Ns mainGlobals mg->mg d.name=some #[Up] ->
   ∃ fd:FuncData,(∀ (s:Shared) (u:Value),BindsTo s fd ⟨[u],[]⟩ [(x,u)]) /\
    ∀ base:Heap,#[QN].In base->base.Ns mainGlobals mg->zf2 mg base->LG l.prog w #[QN] mg base (CX w) k fa fd [x] (sp w))
  (uD:∀ (w:World) (H:Hp) (a:Addr) (ns:TD),ns.length<=n->H TP=some (.tbl #[])->oE #[QN] H a #[Db]->sp w [.ref a] H (fun v _=>v = .bl true) fun _ _ _=>False)
  (JT:∀ (w:World) (H:Hp) (s:Shared) (e:Value) (s':Shared),CX w [] H s (fun _ _ _=>False) e s'->False) :
  n9 q loose XP YP l.row.toRowW d [] #[VJ]:=by
 refine Att.Ow hn EV fun w s₀ s₁ mg mb fa o pm cd doc a vs ns G Y ho hd sL wY Cm hints oO hg=>?_
 obtain⟨KX,hT⟩:=hY w _ Y;obtain⟨fd,hb,hF⟩:=F w mg fa _ KX G.T.g wY;exact zls KX G.T.g G.T.b G.T.builtins G.T.nolimit hg Cm hints (cC oO yb) hr hT (FH w) (codeHd_of_K KX (JW w)) G.T.bmain hF hb (fun H hO hS=>uD w H a ns oO hO hS) fun H e s'=>JT w H s₁ e s'
noncomputable def TabOf (K:aD) (f TP:Addr):Prop:=∀ o fd,K.lookup f=some o->o.data = .func fd->∃ c,fd.code = .ref c/\codeHdIn K c TP=true
theorem zqv {K:aD} {f c TP:Addr} (l:K.lookup f=some ⟨oc,od,.func fd,sl⟩) (e:fd.code = .ref c) (h:codeHdIn K c TP=true):TabOf K f TP:=fun o fd' l' d=>by
 rw [l] at l';cases l';cases d;exact⟨c,e,h⟩
theorem Fun.okT {K:aD} {base:Heap} {x:Str} {st:Stmt} {f:Addr} {ps:List Str} {TP:Addr} (F:Fun K x qual st f fd) (hT:TabOf K f TP) (S:KE N ps (zh st)) (len:∀ vs H Q E,sp vs H Q E->vs.length=ps.length)
  (qb:∀ (cP:Addr) (hK:codeHdIn K cP TP=true) (A:Around) (outer:List Env) (s:Shared) (H:Hp) (vs:List V) (Q:VK) (E:XK),Nf k (A.deeper (envOfC qual (zh st) s.heap.objs.size f (.ref cP)))->sp vs H Q E ->
   ∃ t,PSs (zb1 CX0 P w K mg base N qual (zh st) f (.ref cP) A outer s H E).nox (zbi st) t/\t { nx:=fun _ H'=>Q .non H',rt:=Q } #[Rr] H):LG P w K mg base CX0 (k+1) f fd ps sp:=by
 obtain⟨oc,od,kV,doc,pm,an,oU,ct,wV,rfl,lk,sL⟩:=F.ex;obtain⟨cP,hc,hK⟩:=hT _ _ lk rfl;have oT:oU = .ref cP:=hc;subst oT;refine zl6 lk sL S len fun A outer s H vs Q E hr uD=>?_
 obtain⟨t,h,q⟩:=qb cP hK A outer s H vs Q E hr uD;exact⟨t,h.nox,q⟩
end L2
end
section
namespace My
open PySem L2 PyProof.Rows
variable {j k:Nat} {ns:TD}
abbrev Wt3:=Int×Int×Int
noncomputable def pt (q:Wt3):Int×Int:=(q.1,q.2.1)
noncomputable def zdD (p:Int) (f:TD) (q:Wt3):Bool:=decide (zR p q.1 f=q.2.1)
noncomputable def wts (ts:List Wt3):Int:=(ts.map (·.2.2)).sum
noncomputable def wsum (p:Int) (f:TD) (ts:List Wt3):Int:=wts (ts.filter (zdD p f))
structure Wp (p:Int) (ts:List Wt3):Prop where
 nd:(ts.map pt).Nodup
 rg:∀ q∈ts,0<=q.1/\q.1 < p/\0<=q.2.1/\q.2.1 < p/\0<=q.2.2
theorem Wp.perm {p:Int} {ts us:List Wt3} (h:Wp p ts) (e:us.Perm ts):Wp p us:=⟨(e.map pt).nodup_iff.mpr h.nd,fun q hq=>h.rg q (e.mem_iff.mp hq)⟩
theorem Wp.sub {p:Int} {ts us:List Wt3} (h:Wp p ts) (e:us.Sublist ts):Wp p us:=⟨(e.map pt).nodup h.nd,fun q hq=>h.rg q (e.subset hq)⟩
theorem zkq (a b:List Wt3):wts (a++b)=wts a+wts b:=by unfold wts; rw [aN,kH]
theorem zqw {ts:List Wt3} (h:∀ q∈ts,0<=q.2.2):0<=wts ts:=by
 induction ts with
 | nil=>exact dv _
 | cons q r ih =>
  have h1:=ih fun x hx=>h x #[Wm]
  have h2:=h q bF;show 0<=((q :: r).map (·.2.2)).sum
  (rw [bT,dZ])
  unfold wts at h1;lia
theorem zoU {ts us:List Wt3} (e:us.Sublist ts) (h:∀ q∈ts,0<=q.2.2):wts us<=wts ts:=by
 induction e with
 | slnil=>exact dv _
 | cons a e ih =>
  have:=ih fun x hx=>h x #[Wm]
  have h2:=h a bF;unfold wts at *
  (rw [bT,dZ])
  lia
 | cons_cons a e ih =>
  have:=ih fun x hx=>h x #[Wm]
  unfold wts at *;rw [bT,dZ,bT,dZ];lia
theorem znq {a b:TD} (h:a.Perm b):a.sum=b.sum:=by
 induction h with
 | nil=>rfl
 | cons x _ ih=>rw [dZ,dZ,ih]
 | swap x y l=>simp only [dZ]; lia
 | trans _ _ i1 i2=>exact i1.trans i2
theorem zlu {p:Int} {f:TD} {ts us:List Wt3} (e:us.Perm ts):wsum p f us=wsum p f ts:=znq ((e.filter _).map _)
abbrev Pk:=Nat×List Wt3
noncomputable def pkP (p:Int) (k:Nat) (S:List Wt3):List Int×List Int:=zkU p k (S.map pt)
structure PH (p:Int) (ts:List Wt3) (j:Nat) (c:Pk):Prop where
 len:c.2.length=j
 sub:c.2.Sublist (ts.take c.1)
 Py:Pts p (c.2.map pt)
 le:c.1<=ts.length
theorem znr {p:Int} (hp:p∈zw) :∀ {S:List (Int×Int)},Pts p S->S.length<=k->Nw p k S (zkU p k S):=by
 intro S;generalize hr:S.reverse=R;induction R generalizing S with
 | nil =>
  intro _ _;have:S = []:=by simpa using hr
  subst this;exact zmn hp k
 | cons q R ih =>
  intro hP hl;have e:S=R.reverse++[q]:=by rw [<- List.reverse_reverse S,hr,List.reverse_cons]
  subst e;have h1:=ih (S:=R.reverse) #[M] ⟨by have:=hP.nd; rw [aN,ff] at this; exact this.1,fun x hx=>hP.rg x (bM _ hx)⟩ (by rw [aS] at hl; lia);obtain⟨a,b,c,d⟩:=hP.rg q #[M];have h2:=zoe hp h1 (q:=q) (by rw [aS,gR] at hl; lia) a b c d (by have:=hP.apart (done:=R.reverse) (q:=q) (rest:=[]); exact this);unfold zkU at *;rw [mW];exact h2
theorem ziA (p:Int) (k:Nat) (S:List Wt3) (q:Wt3):pkP p k (S++[q])=zmm p (pkP p k S) (pt q):=by
 unfold pkP zkU;rw [aN,mW];rfl
theorem zoV {p:Int} (hp:p∈zw) {S:List Wt3} (hP:Pts p (S.map pt)) (hl:S.length<=k) {x:Int} (x0:0<=x) (x1:x < p):zR p x (pkP p k S).2=0↔x∈S.map (·.1):=by
 have hw:=znr hp (k:=k) hP (by rw [aA]; exact hl);constructor
 ·intro h;by_cases hx:x∈S.map (·.1)
  ·exact hx
  ·have:=(zjZ hp hw (q:=(x,0)) x0 x1 fun a ha=>by
    obtain⟨b,hb,rfl⟩:=aQ.mp ha;obtain⟨r1,r2,_⟩:=hP.rg _ ha;exact⟨r1,r2,fun e=>hx (aQ.mpr ⟨b,hb,e⟩)⟩).1
   have h':zR p x (zkU p k (S.map pt)).2=0:=h;have this':0 < zR p x (zkU p k (S.map pt)).2:=this;lia
 ·intro h;obtain⟨b,hb,e⟩:=aQ.mp h;have rp:=zC hp;have h1:=(hw.van x).trans (Cg.of_eq (zdx ⟨pt b,aQ.mpr ⟨b,hb,rfl⟩,e⟩));exact h1.eq (zbJ #[O] _) (zbK #[O] _) (dv _) #[O]
theorem zlv {p:Int} {ts:List Wt3} (h:Wp p ts) {c:Pk} (hc:PH p ts j c) {a:Nat} {q:Wt3} (ha:c.1<=a) (hq:ts[a]? = some q) (hx:q.1∉c.2.map (·.1)):PH p ts (j+1) (a+1,c.2++[q]):=by
 have oY:=(aK.mp hq).1;refine⟨by show (c.2++[q]).length=_; rw [aS,hc.len]; rfl,?_,?_,oY⟩
 ·show (c.2++[q]).Sublist (ts.take (a+1));rw [take_snoc hq];exact (hc.sub.trans (List.take_sublist_take_left ha)).append (.refl _)
 ·show Pts p ((c.2++[q]).map pt);refine⟨?_,fun x uJ=>?_⟩
  ·rw [cV,aN,ff];refine⟨by have:=hc.Py.nd; rw [cV] at this; exact this,#[M],fun x uJ y hy e=>?_⟩;have:y=q.1:=(by simpa using hy:y=(pt q).1);exact hx (by rw [<- this,<- e]; exact uJ)
  ·obtain⟨z,hz,rfl⟩:=aQ.mp uJ;rcases (bZ.mp hz) with hz | hz
   ·exact hc.Py.rg _ (aQ.mpr ⟨z,hz,rfl⟩)
   ·have e:z=q:=by simpa using hz
    subst e;obtain⟨b1,b2,b3,b4,_⟩:=h.rg z (aO hq);exact⟨b1,b2,b3,b4⟩
theorem zns {p:Int} (hp:p∈zw) {ts:List Wt3} (hW:Wp p ts) {c:Pk} (h:PH p ts k c):IsP p k (pkP p k c.2).1/\wts c.2<=wsum p (pkP p k c.2).1 ts:=by
 have hw:=znr hp (k:=k) h.Py (by rw [aA,h.len]; exact aG _);refine⟨⟨hw.lc,hw.rc⟩,?_⟩;have hs:c.2.Sublist (ts.filter (zdD p (pkP p k c.2).1)):=by
  have h1:=(h.sub.trans (gk _ _)).filter (zdD p (pkP p k c.2).1);rw [(l6 (p:=zdD p (pkP p k c.2).1)).mpr (fun q hq=>decide_eq_true (hw.hit (pt q) (aQ.mpr ⟨q,hq,rfl⟩)))] at h1;exact h1
 exact zoU hs fun q hq=>(hW.rg q (cK.mp hq).1).2.2.2.2
structure PV (ts:List Wt3) (c:Pk) (res:List Pk):Prop where
 src:∀ d∈res,∃ a q,c.1<=a/\ts[a]? = some q/\q.1∉c.2.map (·.1)/\d=(a+1,c.2++[q])
 ln:res.length<=ts.length
structure PU (p:Int) (ts:List Wt3) (j:Nat) (vO:List Pk):Prop where
 ok:∀ c∈vO,PH p ts j c
 ln:vO.length<=ts.length ^ j
theorem zgH {ts:List Wt3} {cs:List Pk} {rs:List (List Pk)} (hp:Paired (PV ts) cs rs):rs.flatten.length<=cs.length*ts.length:=by
 induction hp with
 | nil=>simp
 | cons h1 _ ih =>
  rw [gm,aS,dN,Nat.add_mul,Nat.one_mul];have:=h1.ln;lia
theorem zjo {p:Int} {ts:List Wt3}:PU p ts 0 [(0,[])]:=by
 refine⟨fun c hc=>?_,#[M]⟩;have e:c=(0,[]):=by simpa using hc
 subst e;exact⟨rfl,List.nil_sublist _,⟨.nil,fun q hq=>by cases hq⟩,bX _⟩
theorem zlw {p:Int} {ts:List Wt3} (hW:Wp p ts) {vO:List Pk} (h:PU p ts j vO) {rM:List (List Pk)} (hr:Paired (PV ts) vO rM):PU p ts (j+1) rM.flatten:=by
 refine⟨fun d hd=>?_,?_⟩
 ·obtain⟨res,h1,h2⟩:=List.mem_flatten.mp hd;obtain⟨i,hi,e⟩:=fj h1;have qj:i < vO.length:=by rw [hr.length]; exact hi
  obtain⟨r',e1,hn⟩:=Paired.get hr (aJ qj);rw [aJ hi,e] at e1;cases e1;obtain⟨a,q,g1,g2,g3,rfl⟩:=hn.src d h2;exact zlv hW (h.ok _ (ef qj)) g1 g2 g3
 ·have:=zgH hr;have h2:=g8 ts.length h.ln;rw [Nat.pow_succ];lia
noncomputable def DIs (kvs:List (Key×V)) (ns:TD):Prop:=kvs.map (·.2)=ns.map V.int
theorem zkr:∀ {kvs:List (Key×V)} {ns:TD} (k:Key),DIs kvs ns->∃ g,#[WM].getD (.int 0) = .int g
 | [],_,k,_=>⟨0,rfl⟩
 | e :: kvs,[],k,h=>by cases h
 | e :: kvs,n :: ns,k,h=>by
  obtain⟨h1,h2⟩:=iV h;by_cases hk:e.1=k
  ·rw [zaP hk]; exact⟨n,h1⟩
  ·rw [zaQ hk]; exact zkr k h2
theorem zoW {kvs:List (Key×V)} (k:Key) (v:Int) (h:DIs kvs ns):∃ rR,DIs (putK kvs k (.int v)) rR:=by
 unfold putK;split
 ·have:∀ {kvs:List (Key×V)} {ns:TD},DIs kvs ns->∃ rR,DIs (kvs.map fun kv=>if kv.1=k then (kv.1,V.int v) else kv) rR:=by
   intro kvs;induction kvs with
   | nil=>intro ns _; exact⟨[],rfl⟩
   | cons e kvs ih =>
    intro ns h;cases ns with
    | nil=>cases h
    | cons n ns =>
     obtain⟨h1,h2⟩:=iV h;obtain⟨rR,h3⟩:=ih h2;by_cases hk:e.1=k
     ·exact⟨v :: rR,by show (if e.1=k then (e.1,V.int v) else e).2 :: _=_; rw [if_pos hk]; exact congrArg _ h3⟩
     ·exact⟨n :: rR,by show (if e.1=k then (e.1,V.int v) else e).2 :: _=V.int n :: _; rw [if_neg hk,<- h1]; exact congrArg _ h3⟩
  exact this h
 ·exact⟨ns++[v],by unfold DIs; rw [aN,aN,h]; rfl⟩
end My
end
section
namespace PySem
open PyProof.Rows
section
variable {prog:Program} {w:World} {A:Around} {E:TB} {s:Shared}
theorem zhm {T:String} {r d:Addr} {n:Nat} {P:Nat->Value->Prop} {OK:Heap->Prop} {ns:TD} {Q:TB} (K:nW prog w T r d n P OK) (hh:A.handled=none) (hok:OK s.heap) (hn:n < 64)
  (hP:∀ vs:List Value,vs.length=n->(∀ (j:Nat) v,vs[j]? = some v->P j v)->IntsAre vs ns)
  (h:∀ (h':Heap) (tk:Nat) (out:Array Value) (rR:TD) (e:Nat) (D:Addr),(∀ c o,s.heap.get? c=some o->h'.get? c=some o)->(∀ c o,s.heap.get? c=some o->c < D)->h'.get? D=some (seqObj "list" out e)->IntsAre out.toList rR->rR.Perm ns->(rR.Pairwise fun x y=>y<=x)->Q #[QB] { s with heap:=h',toks:=tk }) :
  wpAny #[ul] A (call (.builtin "sorted") [.ref r] [(cN "reverse",.bool true)]) Q E s:=by
 (refine call_function_entry_kw kind_sorted plain_sorted entry_sorted (args_sorted_rev _ _) ?_)
 unfold Builtin.«sorted»; refine aB (m:=checkCount "sorted" 1 1 _) (aL ?_);refine aB (lZ K (by simp [hh]) hok (by rw [bN]; lia) fun h1 tk acc kk uM=>?_);have hl:acc.toList.length=n:=(cL ..).trans uM.1;have hI:IntsAre acc.toList ns:=hP acc.toList hl fun j v e=>uM.2 j v (by rw [<- cD]; exact e)
 refine aB (lQ ?_ (hsz:=by rw [hl,bN]; lia));have Ao:(h1.push (seqObj "list" acc.toList.toArray 0)).get? h1.objs.size=some (seqObj "list" acc.toList.toArray 0):=aZ _ rfl;refine aB (dj (wpAny_call_entry_kw slot_list_sort ⟨_,Ao,rfl⟩ entry_list_sort (list_sort_tree_rev Ao hI #[O] fun out rR a1 a2 a3=>#[WW]) (args_list_sort_rev _ _)));obtain⟨e,he⟩:=sortedHeap_at (out:=out) Ao;refine aL ⟨_,rfl,h _ tk out rR e h1.objs.size (fun c o x=>?_) (fun c o x=>aX #[WJ]) he a1 a2 a3⟩;have oY:c < h1.objs.size:=aX #[WJ];rw [sortedHeap_old (bU oY) (by rw [cZ]; exact gP oY)];exact aI _ #[WJ]
end
end PySem
namespace L2
open PySem PySem.Spec PyProof.Rows
variable {X:Cx} {pos:Pos}
noncomputable def zoX (td:TE):TE:=fun σ H Q=>td σ H fun x H1=>∃ (a:Addr) (kvs:List (Key×V)) (ns:TD),x = .ref a/\H1 a=some #[Tq]/\kvs.map (·.2)=ns.map V.int/\ns.length < 64 /\
 ∀ (l:Addr) (rR:TD),H1 l=none->rR.Perm ns->(rR.Pairwise fun x y=>y<=x)->Q #[RB] (oG H1 l (.lst (rR.map V.int)))
theorem zlx {o:Expr} {td:TE} {p apos pd kp vp:Pos} (hc:X.calm=true) (hg:Gl X "sorted") (hm:X.mg "sorted" = none) (ho:PE X o td)
  (uE:attributeBase o "values" X.env #[Ub]=eval o X.env:=by rfl) (uF:(apos.endLine == pd.line)=true:=by rfl) :
  PE X (.Call (.Name "sorted" p) [.Call (.Attribute o "values" apos) [] [] pd] [⟨some "reverse",.Constant #[RY] 0 vp,kp⟩] pos) (zoX td):=by
 intro oC s σ H Q I h;refine ft (zbr I hg hm ng ?_);refine callWith_kw ?_;show wpAny _ _ (spliced ((false,eval (.Call (.Attribute o "values" apos) [] [] pd) X.env) :: [])) _ _ s;refine fZ ?_;refine wpAny_Call_method0_late uE uF (thn #[RT] fun v s1 ⟨x,H1,I1,r1,a,kvs,ns,ex,hH,xh,h64,q1⟩=>?_);subst ex;obtain rfl:v=bL a:=r1;obtain⟨t1,t2,_⟩:=zmF I1 (.inl ⟨kvs,.inl hH⟩);obtain⟨z,hd,vs,rel,dd⟩:=zpk I1.hok hH;refine⟨"dict","dict.values",kr,kg,PySem.F.type_dict_values,t1,t2,iQ rfl (PySem.evalArgs_none ?_)⟩;refine mH kg dd.typeIs PySem.F.entry_dict_values (PySem.F.args_dict_values_1 _) (meets_dict_values #[Uu] a hd) ⟨⟨vs,dd⟩,?_⟩;refine gO (kws_cons (Constant_bool (kws_nil ?_)));obtain⟨ep,pJ⟩:=dd.dictAt;have oO:vs.length=ns.length:=by
  have e1:=rel.length;have e2:=congrArg eX xh;rw [aA,aA] at e2;lia
 obtain⟨s2,e2⟩:∃ s2,s2=({ s1 with heap:=s1.heap.push { cls:=.type "dict_values",data:=.fields #[.ref a] } }:Shared):=⟨_,rfl⟩;have hv:s2.heap.get? s1.heap.objs.size=some { cls:=.type "dict_values",data:=.fields #[.ref a] }:=by rw [e2]; exact aZ _ rfl
 have k2:∀ c o,s1.heap.get? c=some o->s2.heap.get? c=some o:=fun c o x=>by rw [e2]; exact aI _ x
 have hu:s2 = { s1 with heap:=s2.heap }:=by rw [e2]
 show wpAny _ _ (call (.builtin "sorted") [.ref s1.heap.objs.size] [(cN "reverse",.bool true)]) _ _ _;rw [<- e2];refine zhm (ns:=ns) (PySem.W.kdl_values (knd:=zat X.prog X.w) (d:=a) (r:=s1.heap.objs.size) (kvs:=vs) (ep:=ep)) (I1.ok.hd hc) ⟨⟨_,hv,rfl,rfl⟩,pJ.keep k2⟩ #[O] (fun us hl hj=>?_) fun h' tk out rR e D kk hD CP hI hp hpw=>?_
 ·rw [PySem.W.kdl_vals_eq us hl hj];exact zon rel xh
 ·have hle:s1.heap.objs.size<=D:=fY (hD _ _ hv);have hr:=zg4 hI;have hlen':rR.length=ns.length:=hp.length_eq;have I2:Inv X oC σ (oG H1 D (.lst (rR.map V.int))) { s1 with heap:=h',toks:=tk } :=
   I1.laid (fun c o x=>kk c o (k2 c o x)) hle ⟨by rw [aA,bN]; lia,out.toList,e,hr,by rw [lJ]; exact CP⟩
  have e3:({ s2 with heap:=h',toks:=tk }:Shared) = { s1 with heap:=h',toks:=tk }:=by rw [e2]
  rw [e3];exact⟨.ref D,_,I2,rfl,q1 D rR #[RI] hp hpw⟩
end L2
end
section
namespace My
open PySem L2 PyProof.Rows
variable {F:Nat->Ps} {H H':Hp} {W j k:Nat} {fd:FuncData} {ls:TF} {oJ:List (Int×Int×Nat)} {pl:TD} {te:TE} {x0:Int} {y:V} {σ0:L2.St}
noncomputable def top (i:Nat):Stmt:=PySem.Challenge.pw_slipcurve_k22_whole_curves_by_guesses.main.body.getD i (.Pass ⟨0,0,0,0⟩)
abbrev zcL:Stmt:=top 1
abbrev zdh:Stmt:=top 2
abbrev zbt:Stmt:=top 3
abbrev zfE:Stmt:=top 4
abbrev zbu:Stmt:=top 18
abbrev zaL:Stmt:=top 19
abbrev zba:Stmt:=top 20
abbrev zcv:Stmt:=top 21
abbrev zaz:Stmt:=top 22
abbrev zbQ:Stmt:=top 23
abbrev zbf:Stmt:=top 25
abbrev zax:Stmt:=top 26
abbrev zbv:Stmt:=top 27
abbrev zaF:Stmt:=top 29
abbrev zbR:Stmt:=top 30
abbrev zbg:Stmt:=top 31
abbrev zb0:Stmt:=top 32
abbrev zap:Stmt:=top 33
abbrev zdi:Stmt:=top 34
abbrev zcM:Stmt:=top 35
abbrev zd5:Stmt:=top 37
abbrev zdj:Stmt:=top 38
abbrev zdk:Stmt:=top 39
abbrev zc4:Stmt:=top 40
abbrev zdl:Stmt:=top 41
abbrev zbq:Stmt:=top 42
abbrev zbS:Stmt:=top 43
abbrev zcN:Stmt:=top 44
abbrev zcO:Stmt:=top 45
abbrev za4:Stmt:=top 46
abbrev zcw:Stmt:=top 47
abbrev zaT:Stmt:=top 48
abbrev zdm:Stmt:=top 49
abbrev zcx:Stmt:=top 50
abbrev zd6:Stmt:=top 51
abbrev za5:Stmt:=top 52
abbrev zd7:Stmt:=top 53
abbrev zdn:Stmt:=top 54
abbrev zc5:Stmt:=top 55
abbrev zcc:Stmt:=top 56
structure Adr where
 tab:Addr
 Nb:Addr
 Nr:Addr
 Ms:Addr
 Oz:Addr
 Oy:Addr
 NT:Addr
 Pt:Addr
 NS:Addr
 Mr:Addr
 O4:Addr
 Pr:Addr
 MR:Addr
 inverse:Addr
 Mb:Addr
 PQ:Addr
 LK:Addr
 Mc:Addr
 Ma:Addr
 without:Addr
 LC:Addr
 L5:Addr
 LW:Addr
 LJ:Addr
 LN:Addr
 Lz:Addr
 Mt:Addr
 LI:Addr
 Md:Addr
 Lx:Addr
 OZ:Addr
 MV:Addr
 OE:Addr
 NJ:Addr
 NF:Addr
 OD:Addr
 NG:Addr
 L4:Addr
 Oc:Addr
 MS:Addr
 MU:Addr
 MT:Addr
 NK:Addr
 LV:Addr
 NH:Addr
 NL:Addr
 OA:Addr
 LL:Addr
 OB:Addr
 NI:Addr
 OC:Addr
 law:Addr
structure KW (K:aD) (t:Adr) (C:Addr) (b0 b1 b2 b3 b4 b5 b6 b7 b8 b9:Bool):Prop where
 i0:bK K #[QC] (.ref t.Nr)=some b0
 i1:bK K #[QC] #[WS]=some b1
 i2:bK K #[QC] (.ref t.Oz)=some b2
 i3:bK K #[QC] (.ref t.Oy)=some b3
 i4:bK K #[QC] (.ref t.NT)=some b4
 i5:bK K #[QC] (.ref t.Pt)=some b5
 i6:bK K #[QC] (.ref t.NS)=some b6
 i7:bK K #[QC] (.ref t.Mr)=some b7
 i8:bK K #[QC] (.ref t.O4)=some b8
 i9:bK K #[QC] (.ref t.Pr)=some b9
 iv:bK K #[QC] (.type "ValueError")=some true
 xc:Xc K C
 sl:fz K #[QC] (.ref t.Nb)=some true
abbrev FbQ (K:aD) (x:Str) (s:Stmt) (a:Addr) (p:List Str):Prop:=∃ fd,Fun K x x s a fd/\Binds K fd p []
structure Txt (K:aD) (mg:TJ) (base:Heap) (t:Adr):Prop where
 bm:zf2 mg base
 tb:TabOf K t.Lx t.tab
 MC:mg "len" = none
 Lw:mg "range" = none
 Pf:mg "list" = none
 Nn:mg "tuple" = none
 P6:mg "min" = none
 O5:mg "max" = none
 Lv:mg "isinstance" = none
 Qg:mg "int" = none
 P4:mg "bool" = none
 Pl:mg "zip" = none
 Mk:mg "enumerate" = none
 OQ:mg "reversed" = none
 Ol:mg "sorted" = none
 Ph:mg "sum" = none
 P0:mg "dict" = none
 Ox:mg "ValueError" = none
 Oj:mg "SlipError" = some (.ref t.Nb)
 Nt:mg "TooFew" = some (.ref t.Nr)
 NV:mg "NoCurve" = some #[WS]
 OO:mg "NoPaper" = some (.ref t.Oz)
 ON:mg "NoPlace" = some (.ref t.Oy)
 OG:mg "NoNumber" = some (.ref t.NT)
 Pn:mg "Heard" = some (.ref t.Pt)
 OF:mg "NotHeard" = some (.ref t.NS)
 Nu:mg "NothingLeft" = some (.ref t.Mr)
 O7:mg "NoText" = some (.ref t.O4)
 Pm:mg "NoRow" = some (.ref t.Pr)
 NU:gF K t.Nr zi8 "ValueError.__new__" = true
 Nm:gF K t.Ms zi8 "ValueError.__new__" = true
 Oe:KW K t t.Nr true false false false false false false false false false
 Nq:KW K t t.Ms false true false false false false false false false false
 sb:dk K t.Nb (.type "BaseException")=some true
 Me:mg "value_at" = some (.ref t.MR)
 Ob:mg "inverse" = some (.ref t.inverse)
 MN:mg "times_root" = some (.ref t.Mb)
 PC:mg "bent" = some (.ref t.PQ)
 Mm:mg "moved_powers" = some (.ref t.LK)
 NZ:mg "numbers_at" = some (.ref t.Mc)
 NY:mg "vectors_of" = some (.ref t.Ma)
 OR:mg "without" = some (.ref t.without)
 MQ:mg "first_relation" = some (.ref t.LC)
 Ou:mg "first_sum" = some (.ref t.L5)
 ND:mg "first_terms" = some (.ref t.LW)
 NB:mg "least_curve" = some (.ref t.LJ)
 Ni:mg "check_curves" = some (.ref t.LN)
 LR:mg "weighted_points" = some (.ref t.Lz)
 Oq:mg "weight_in" = some (.ref t.Mt)
 Mz:mg "most_weight" = some (.ref t.LI)
 N1:mg "next_picks" = some (.ref t.Md)
 MP:mg "picked_weights" = some (.ref t.Lx)
 Pp:mg "heavy" = some (.ref t.OZ)
 OJ:mg "curve_by" = some (.ref t.MV)
 Pe:mg "_law_cell" = some (.ref t.OE)
 MZ:mg "_law_draws" = some (.ref t.NJ)
 OS:mg "_law_whole" = some (.ref t.NF)
 Pd:mg "_law_code" = some (.ref t.OD)
 OT:mg "_law_value" = some (.ref t.NG)
 Ot:mg "_law_guesses" = some (.ref t.L4)
 Pc:mg "_law_rank" = some (.ref t.Oc)
 Mf:mg "_law_powers" = some (.ref t.MS)
 Mg:mg "_law_choose" = some (.ref t.MU)
 OI:mg "_law_passes" = some (.ref t.MT)
 OV:mg "_law_asked" = some (.ref t.NK)
 NC:mg "_law_has_curve" = some (.ref t.LV)
 Oa:mg "_law_times" = some (.ref t.NH)
 OW:mg "_law_along" = some (.ref t.NL)
 O9:mg "_law_word" = some (.ref t.OA)
 Nh:mg "_law_polynomial" = some (.ref t.LL)
 Pa:mg "_law_told" = some (.ref t.OB)
 OU:mg "_law_heavy" = some (.ref t.NI)
 Pb:mg "_law_size" = some (.ref t.OC)
 LU:FbQ K "value_at" zcL t.MR ["p","polynomial","x"]
 ME:FbQ K "inverse" zdh t.inverse ["p","number"]
 LM:FbQ K "times_root" zbt t.Mb ["p","polynomial","root"]
 O3:FbQ K "bent" zfE t.PQ ["p","polynomial","vanishing","point"]
 LO:FbQ K "moved_powers" zbu t.LK ["p","by","most","kept"]
 L7:FbQ K "numbers_at" zaL t.Mc ["p","terms","point"]
 L6:FbQ K "vectors_of" zba t.Ma ["p","terms","points"]
 M3:FbQ K "without" zcv t.without ["p","vector","times","other"]
 LF:FbQ K "first_relation" zaz t.LC ["p","vectors"]
 Mq:FbQ K "first_sum" zbQ t.L5 ["p","terms","points"]
 LZ:FbQ K "first_terms" zbf t.LW ["k","many"]
 LX:FbQ K "least_curve" zax t.LJ ["p","k","points"]
 LQ:FbQ K "check_curves" zbv t.LN ["k"]
 Ly:FbQ K "weighted_points" zaF t.Lz ["code","guesses"]
 Mo:FbQ K "weight_in" zbR t.Mt ["p","points","polynomial"]
 LH:FbQ K "most_weight" zbg t.LI ["points","many"]
 L8:FbQ K "next_picks" zb0 t.Md ["p","points","rests","least","pick"]
 LD:FbQ K "picked_weights" zap t.Lx ["p","k","points","least"]
 Ov:FbQ K "heavy" zdi t.OZ ["code","guesses","least"]
 MK:FbQ K "curve_by" zcM t.MV ["code","guesses"]
 NR:FbQ K "_law_cell" zd5 t.OE ["script","k"]
 MD:FbQ K "_law_draws" zdj t.NJ ["script","k","many","base"]
 M4:FbQ K "_law_whole" zdk t.NF ["found"]
 NQ:FbQ K "_law_code" zc4 t.OD ["script","at","most_k","most_n"]
 M5:FbQ K "_law_value" zdl t.NG ["p","polynomial","x"]
 Mp:FbQ K "_law_guesses" zbq t.L4 ["script","at","code","most","top"]
 NP:FbQ K "_law_rank" zbS t.Oc ["p","rows"]
 Mi:FbQ K "_law_powers" zcN t.MS ["p","x","many"]
 Mj:FbQ K "_law_choose" zcO t.MU ["many","few"]
 MJ:FbQ K "_law_passes" za4 t.MT ["p","curve","point","m"]
 M8:FbQ K "_law_asked" zcw t.NK ["p","k","weighed","size"]
 LY:FbQ K "_law_has_curve" zaT t.LV ["p","k","weighed","size"]
 M6:FbQ K "_law_times" zdm t.NH ["p","one","other"]
 M9:FbQ K "_law_along" zcx t.NL ["p","curve","polynomial"]
 NM:FbQ K "_law_word" zd6 t.OA ["e"]
 LP:FbQ K "_law_polynomial" za5 t.LL ["draws","p","k"]
 NN:FbQ K "_law_told" zd7 t.OB ["code","guesses"]
 M7:FbQ K "_law_heavy" zdn t.NI ["code","guesses","least"]
 NO:FbQ K "_law_size" zc5 t.OC ["k","curve"]
section
variable {P:Program} {w:World} {K:aD} {mg:TJ} {base:Heap} {t:Adr}
theorem zly:KE ["script","k"] ["script","k"] (zh zd5):=#[S]
theorem zlz (T:Txt K mg base t) (F:Fun K "_law_cell" "_law_cell" zd5 t.OE fd):LG P w K mg base CX0 1 t.OE fd ["script","k"] (zkW K):=by
 refine F.ok zly #[pc] #[dl]
 ·obtain⟨a,ns,k,rfl,_⟩:=h; rfl
 ·obtain⟨a,ns,k,rfl,hS,oO,k0,k1,q⟩:=h;refine zaJ ?_; intro zX;refine⟨_,#[zd,#[zaX,#[zK,#[zdH],#[wP],#[Vf],(zY _)],#[zk,#[zA,#[zM,#[zB],#[xL],#[wP]]]],#[zal]],#[zd,#[zaX,#[zK,#[zhH],#[Vf],#[zg],(zY _)],#[zk,#[zA,#[zi,#[zz],#[Wc],#[zg]]]],#[zal]],#[zk,#[zA,#[zi,#[zz],#[zi,#[zL],#[zM,#[zB],#[xL],#[zi,#[zL],#[wP],#[Vf]]],#[zg]],#[Wc]]]]]],?_⟩;refine zei ?_; intro qv qk;refine #[QKK,⟨a,#[QK,⟨.inl hS,#[QRK,?_]⟩]⟩]; rw [aA];refine zaD (fun h=>?_) (fun h=>?_)
  ·have h:k < (ns.length:Int):=by simpa using h
   obtain⟨c,hc⟩:=zgY k0 h;exact #[QKK,(ex4 a _ k _ ⟨rfl,rfl,hS,hc,q c⟩)]
  ·have h:¬ k < (ns.length:Int):=by simpa using h
   refine #[QK,⟨a,#[QK,⟨.inl hS,rfl,#[Vu]⟩]⟩];rw [aA];refine zaD (fun h2=>?_) (fun h2=>?_)
   ·exact #[QKR,⟨.inl #[KK],#[QR,(q _)]⟩]
   ·have h2:¬ V.int (ns.length:Int)=V.int 0:=by simpa using h2
    have sU:0 < (ns.length:Int):=by
     have:(ns.length:Int)≠0:=fun z=>h2 (by rw [z])
     lia
    have m0:=bA k (show (ns.length:Int)≠0 by lia);have m1:=aW k sU;obtain⟨c,hc⟩:=zgY m0 m1;refine #[QKKK,⟨a,#[QK,⟨.inl hS,#[QR,⟨by rw [aA]; exact sU,a,_,_,_,rfl,rfl,hS,by rw [aA]; exact hc,#[QR,⟨(by show (0:Int) < 1000003; decide),?_⟩]⟩]⟩]⟩];exact #[QKR,⟨.inl #[KK],#[QR,(q _)]⟩]
theorem zaq:KE ["script","k","many","base","primes","cell","rest","row","j","mash"] ["script","k","many","base"] (zh zdj):=#[S]
theorem zfF (T:Txt K mg base t) (F:Fun K "_law_draws" "_law_draws" zdj t.NJ fd):LG P w K mg base CX0 2 t.NJ fd ["script","k","many","base"] (zi2 K):=by
 obtain⟨Eh,uU,yE⟩:=T.NR;have yF:=zlz (P:=P) (w:=w) (base:=base) T uU;refine F.ok zaq #[pc] #[dl]
 ·obtain⟨a,ns,k,many,base,rfl,_⟩:=h;rfl
 ·obtain⟨a,ns,k,many,bs,rfl,hS,oO,k0,k1,m0,m1,b0,b1,q⟩:=h;refine zaJ ?_; intro zX;refine⟨_,#[zd,#[zl,4,zaq.nd,#[A],#[zaZ,#[zfo,#[zfo,#[zfo,#[zfo,#[zfo,#[za,#[zg],#[Rf]]]]]]]]],#[zd,#[zl,5,zaq.nd,#[A],#[zq,yF,#[ut],T.Pe,uU.kp,yE,#[zZ],#[Pi]]],#[zd,#[zl,6,zaq.nd,#[A],#[zg]],#[zd,#[zaX,#[zK,#[zgf],#[Rj],#[zi,(@zpN _),#[zg],#[zg]],(zY _)],#[zk,#[zl,6,zaq.nd,#[A],#[Rj]]],#[zal]],#[zd,#[zl,7,zaq.nd,#[A],#[Q9]],#[zd,#[zao,bR,#[VH],#[zf,8,zaq.nd,#[A]],#[zd,#[zl,9,zaq.nd,#[A],#[zi,#[zH],#[zi,#[zL],#[Rj],#[zM,#[zdu],#[QQ],#[zi,#[zL],#[Tv],#[zg]]]],#[zi,#[zz],#[zg],#[zi,#[zH],#[zi,#[zH],#[zg],#[Tv]],#[Tv]]]]],#[zd,#[zl,9,zaq.nd,#[A],#[zi,#[zz],#[zi,#[zz],#[UE],#[zi,#[zH],#[zi,#[zH],#[zg],#[SJ]],#[SJ]]],#[Wc]]],#[zd,#[zl,9,zaq.nd,#[A],#[zi,#[zL],#[UE],#[zM,#[zdu],#[QQ],#[zi,#[zL],#[zi,#[zz],#[zi,#[zH],#[zg],#[Tv]],#[wP]],#[zg]]]]],#[zd,#[zl,9,zaq.nd,#[A],#[zi,#[zL],#[zi,#[zH],#[zi,#[zH],#[UE],#[UE]],#[UE]],#[zM,#[zdu],#[QQ],#[zi,#[zL],#[SJ],#[zg]]]]],#[zd,#[zaX,#[zK,#[zge],#[Rt],#[zg],(zY _)],#[zk,#[zl,9,zaq.nd,#[A],#[Rt]]],#[zal]],#[zd,#[zbH,#[zcR,cO,d8,d9,#[zbz],#[TW],#[ya,#[zi,#[zL],#[UE],#[KB]]]]],#[zk,#[zl,6,zaq.nd,#[A],#[zi,#[zbh],#[Rt],#[KB]]]]]]]]]]],#[zk,#[zA,#[TW]]]]]]]]],?_⟩;refine zn9 ?_; intro Hl Ei yG uf qv qk;refine⟨by show 8<=sizeLine; rw [bN]; decide,fun tp ht=>?_⟩;have s1:zr H (oG H tp (.tup zof)):=zc ht;refine #[QKK,(ex3 a ns k ⟨rfl,s1.seq hS,oO,k0,k1,fun c=>?_⟩)];refine #[QKR,⟨⟨#[D],#[D],#[D]⟩,#[QRK,?_]⟩];refine zaD (fun _=>#[Vu]) #[AC]
  all_goals
   refine⟨bX _,fun l hl=>?_⟩;have Ej:H l=none:=zr.free s1 hl;have qK:tp≠l:=zu zb hl;refine⟨_,rfl,many,rfl,#[O],#[O],zah (lo:=0) (n:=many.toNat) (fun i σ H'=>∃ (r:Int) (v8 v9:Option V) (ds:TD),σ = [some #[QD],some (.int k),some (.int many),some (.int bs),some (.ref tp),some (.int c),some (.int r),some #[RB],v8,v9]/\zj0 i bs ds/\zr H H'/\H' tp=some (.tup zof)/\H' l=some #[V5])
    ⟨_,none,none,[],rfl,⟨rfl,#[M]⟩,z7 s1 Ej,by rw [zn qK]; exact zb,zb⟩ ?_ ?_⟩
   ·rintro zD zT i σ H2 hi ⟨r,v8,v9,ds,rfl,hd,s2,FN,qY⟩;obtain⟨q1,e1,q1p,q1l⟩:=zfq (0+(i:Int));obtain⟨q2,e2,q2p,q2l⟩:=zfq (3*(0+(i:Int))+k);obtain⟨q3,e3,q3p,q3l⟩:=zfq (0+(i:Int)+5);have c1:=bA c (show q1≠0 by lia);have c2:=aW c q1p;have qj:(i:Int) < 1000:=by lia
    refine #[QKKKR,⟨(by show (0:Int) < 8; decide),tp,_,_,_,rfl,rfl,oQ.of FN,e1,#[QR,⟨q1p,#[QKR,⟨.inl #[KK],#[QKR,⟨.inl #[u8],#[QRR,⟨.inl #[u8],?_⟩]⟩]⟩]⟩]⟩];refine #[QKKRR,⟨.inl #[KK],#[QKRR,⟨.inl #[u8],#[QRKR,⟨.inl #[KK],#[QR,?_]⟩]⟩]⟩];refine #[QKKKR,⟨.inl #[KK],#[QKRR,⟨(by show (0:Int) < 8; decide),tp,_,_,_,rfl,rfl,oQ.of FN,e2,#[QR,⟨q2p,?_⟩]⟩]⟩];generalize c % q1*(48271+2*(0+(i:Int))*(0+(i:Int)))+7919*(0+(i:Int)+1)*(0+(i:Int)+1)+104729*k=ms;have d1:=bA ms (show q2≠0 by lia);have d2:=aW ms q2p;refine #[QKKR,⟨.inl #[u8],#[QKR,⟨.inr #[u8],#[QKKRR,⟨(by show (0:Int) < 8; decide),tp,_,_,_,rfl,rfl,oQ.of FN,e3,#[QR,⟨q3p,?_⟩]⟩]⟩]⟩];refine #[Ur];have wJ:=hd.1;refine zaD (fun _=>#[Vu]) #[AC]
    all_goals
     refine⟨_,rfl,.inl ⟨rfl,_,oE.of qY⟩,_,rfl,_,rfl,_,_,rfl,rfl,b0,l,_,_,rfl,rfl,qY,za0 (by rw [aA]; lia),?_⟩;refine #[QKKR,⟨⟨b0,b1⟩,?_⟩];refine (ex4 _ _ _ (ds++[_]) ⟨rfl,⟨by rw [aS,wJ]; rfl,fun d hm=>?_⟩,z7 s2 Ej,by rw [zn qK]; exact FN,by rw [zb,aN]; rfl⟩); rcases bZ.mp hm with hm | hm
     ·exact hd.2 d hm
     ·have e:=cW.mp hm;rw [e];exact⟨bA _ #[O],aW _ b0⟩
   ·rintro σ H2 ⟨r,v8,v9,ds,rfl,hd,s2,FN,qY⟩;exact #[QK,(q l ds H2 Ej s2 hd qY)]
theorem zbE:KE ["script","at","most_k","most_n","plan","primes","p","k","many","left"] ["script","at","most_k","most_n"] (zh zc4):=#[S]
theorem zlA (T:Txt K mg base t) (F:Fun K "_law_code" "_law_code" zc4 t.OD fd):LG P w K mg base CX0 3 t.OD fd ["script","at","most_k","most_n"] (zkX K):=by
 obtain⟨vP,pC,qm⟩:=T.MD;have qo:=zfF (P:=P) (w:=w) (base:=base) T pC;refine F.ok zbE #[pc] #[dl]
 ·obtain⟨a,ns,at',mk,mn,rfl,_⟩:=h;rfl
 ·obtain⟨a,ns,at',mk,mn,rfl,hS,oO,a0,a1,k1,k5,kn,n16,q⟩:=h;refine zaJ ?_; intro zX;refine⟨_,#[zd,#[zl,4,zbE.nd,#[Q0],#[zq,qo,#[ut],T.MZ,pC.kp,qm,#[zZ],#[za,#[xL],by exact #[za,#[wP],#[Rf]]]]],(by exact (@zmi _ 5 _ _ _ _ _ _ _ [5,7,11,13,17,19,23,29,31,37,41,43,47,53,59,61,67,71,73,79,83,89,97] #[N] zbE.nd rfl #[A] (by first | exact .inl rfl | exact .inr rfl) (by exact #[zd,#[zl,6,zbE.nd,#[A],#[zM,#[zB],#[zab,#[za,#[zM,#[zB],#[Rj],#[Wb]],#[ya,#[zM,#[zB],#[Rj],#[Wb]]]]],#[Wb]]],#[zd,#[zl,7,zbE.nd,#[A],#[zi,#[zz],#[zg],#[zi,#[zL],#[Qn],#[zm,#[zgg],T.P6,boot_min,#[za,#[FB],#[Uj]]]]]],#[zd,#[zl,8,zbE.nd,#[A],#[zi,#[zz],#[TW],#[zi,#[zL],#[Qn],#[zi,#[zz],#[zi,#[zaa],#[zm,#[zgg],T.P6,boot_min,#[za,#[KB],#[Uj]]],#[TW]],#[zg]]]]],#[zd,#[zl,9,zbE.nd,#[Q0],#[zaR,(@zf0 _ rfl),T.Pf,mL,#[ya,#[zaR,(@zhU _),T.Lw,nH,#[Uj]]]]],#[zk,#[zA,#[zaZ,#[za,#[Rt],#[za,#[TW],#[ya,#[zaR,#[zbd],T.Nn,jl,#[ya,#[zU,(Lu.of (N':=["j","left","plan"]) (ix:=[none,some 9,some 4]) (zh zc4) _ rfl rfl rfl),#[zar],#[zO,T.Lw,#[ya,#[Tv]]],#[pi],#[sK],(fun _ _ _ _=>(@zp3 _ (K) _ _ _ _ _ _ _ _ _ _ _ rfl cO PySem.F.slot_list_pop PySem.F.type_list_pop (@zl9 _) #[wP] #[ya,#[zi,#[zL],#[zM,#[Tc],#[FB],#[zi,#[zz],#[zg],#[xL]]],#[zm,#[zbe,(K)],T.MC,dn,#[U4]]]] (by rfl) (by rfl) (by rfl) (by rfl) (by rfl)))]]]]]]]]]]]]])))],?_⟩;refine zn9 ?_; intro Hl Ei yG uf qv qk;refine #[QKK,(ex5 a ns at' 20 27720 ⟨rfl,hS,oO,a0,a1,#[D],#[D],#[D],#[D],fun l ds H1 hl s1 hd pN=>?_⟩)];have wJ:ds.length=20:=hd.1;have dat:∀ m:Int,0<=m->m < 20->∃ c:Int,atI #[Qz] m=some (.int c):=fun m h0 h1=>zgY h0 #[O]
  refine⟨by show 23<=sizeLine; rw [bN]; decide,fun pr FO=>?_⟩;have JX:l≠pr:=zu pN FO;obtain⟨d0,ed0⟩:=dat 0 #[D] #[D];obtain⟨d1,ed1⟩:=dat 1 #[D] #[D];obtain⟨d2,ed2⟩:=dat 2 #[D] #[D];obtain⟨d3,ed3⟩:=dat 3 #[D] #[D];have rY:#[Ra] l=some #[V5]:=by rw [zn JX]; exact pN
  obtain⟨p1,mp1,ep1⟩:=zek (ns:=zw) (k:=d0 % 23) (bA _ #[D]) (aW _ #[D]);obtain⟨p2,mp2,ep2⟩:=zek (ns:=zw) (k:=d0 % 3) (bA _ #[D]) (by have:=aW d0 (show (0:Int) < 3 by decide); have e:(zw.length:Int)=23:=rfl; lia);obtain⟨p,ep,GZ⟩:=zp5 (x:=p1) (y:=p2) (m:=d1 % 2) (bA _ #[D]) (aW _ #[D]);have mp:p∈zw:=by rcases GZ with e | e <;> rw [e] <;> assumption
  have rp:=zC mp;refine⟨_,rfl,_,rfl,l,_,_,_,rfl,rfl,oE.of rY,ed0,_,_,rfl,rfl,(by show (0:Int) < 23; decide),pr,_,_,_,rfl,rfl,oE.of zb,ep1,
   _,rfl,_,rfl,l,_,_,_,rfl,rfl,oE.of rY,ed0,_,_,rfl,rfl,(by show (0:Int) < 3; decide),pr,_,_,_,rfl,rfl,oE.of zb,ep2,zbM,fun l2 qc=>?_⟩
  have JY:l≠l2:=zu rY qc;have Av:(oG #[Ra] l2 (.lst [.int p1,.int p2])) l=some #[V5]:=by rw [zn JY]; exact rY
  refine #[QK,(ex4 l _ _ _ ⟨rfl,rfl,oE.of Av,ed1,#[QR,⟨(by show (0:Int) < 2; decide),l2,_,_,_,rfl,rfl,oE.of zb,ep,?_⟩]⟩)];have vK:(0:Int) < (if p < mk then p else mk):=by split <;> lia
  have uy:(if p < mk then p else mk)<=mk:=by split <;> lia
  have Jt:(if p < mk then p else mk)<=p:=by split <;> lia
  refine⟨_,rfl,l,_,_,_,rfl,rfl,oE.of Av,ed2,_,rfl,_,rfl,_,_,rfl,_,_,rfl,rfl,vK,_,_,rfl,rfl,?_⟩;generalize (if p < mk then p else mk)=mm at vK uy Jt |-;have uO:=bA d2 (show mm≠0 by lia);have BW:=aW d2 vK;have vw:(if p < mn then p else mn)<=mn:=by split <;> lia
  have yb:(if p < mn then p else mn)<=p:=by split <;> lia
  have hn3:mm<=(if p < mn then p else mn):=by split <;> lia
  refine #[QKK,(ex4 l _ _ _ ⟨rfl,rfl,oE.of Av,ed3,#[QKK,⟨_,_,rfl,#[QKRRR,⟨#[O],#[QR,?_]⟩]⟩]⟩)];generalize (if p < mn then p else mn)=nn at vw yb hn3 |-;have hq0:=bA d3 (show nn - (1+d2 % mm)+1≠0 by lia);have tH:=aW d3 (show 0 < nn - (1+d2 % mm)+1 by lia);refine #[QK,⟨p,rfl,fun r CH=>⟨r,p,rfl,zb,#[O],#[O],fun lf JZ=>?_⟩⟩];have D4:l≠r:=zu Av CH;have FP:l≠lf:=by
   refine zu (H:=oG (oG #[Ra] l2 (.lst [.int p1,.int p2])) r (.rng 0 p)) (o:=.lst #[Qz]) ?_ JZ;rw [zn D4]; exact Av
  have sA:zr H (oG #[Ra] l2 (.lst [.int p1,.int p2])):=(s1.trans (zc FO)).trans (zc qc);have sB:=#[W7].trans (zc (o:=.lst ((zcj 0 p.toNat).map V.int)) JZ);have J0:H lf=none:=#[W7].free JZ;obtain⟨nd0,rg0⟩:=zkY p;refine⟨_,rfl,_,rfl,_,rfl,_,rfl,#[O],#[O],zW (n:=(1+d2 % mm+d3 % (nn - (1+d2 % mm)+1)).toNat) (fun i ys H'=>∃ xs ls:List Int,ys=xs.map V.int/\xs.length=i/\zr H H'/\H' l=some #[V5]/\H' lf=some (.lst (ls.map V.int))/\ls.length+i=p.toNat/\(xs++ls).Nodup/\∀ y∈xs++ls,0<=y/\y < p)
   ⟨[],zcj 0 p.toNat,rfl,rfl,sB,by rw [zn FP,zn D4]; exact Av,zb,by rw [zdr]; rfl,by simpa using nd0,by simpa using rg0⟩ #[On] #[GE] ?_ ?_⟩
  ·rintro zS zT zE i x ys H4 H5 hi ⟨xs,ls,rfl,Jw,s4,CY,Bi,B4,nd,rg⟩ ⟨rfl,rfl⟩;refine gY ?_;obtain⟨c,ec⟩:=dat (4+(0+(i:Int))) #[O] #[O];have lpos:0 < ls.length:=by lia
   have lm:((ls.map V.int).length:Int)=(ls.length:Int):=by rw [aA]
   have c0:=bA c (show (ls.length:Int)≠0 by lia);have c1:=aW c (show (0:Int) < ls.length by lia);have qu:=bN;obtain⟨y,ey⟩:∃ y,ls[(c % (ls.length:Int)).toNat]? = some y:=⟨ls[(c % (ls.length:Int)).toNat]'#[O],#[M]⟩;refine #[QK,⟨.inl ⟨rfl,_,oE.of Bi⟩,#[QKKR,(ex4 l _ _ _ ⟨rfl,rfl,oE.of CY,ec,#[QK,⟨lf,#[QK,⟨.inl (oE.of Bi),#[QR,⟨(by rw [lm]; lia),lf,_,_,(c % (ls.length:Int)).toNat,.int y,rfl,rfl,Bi,?_⟩]⟩]⟩]⟩)]⟩];rw [lm];refine⟨#[O],#[O],by rw [aA]; exact jz c0 c1,by rw [aF,ey]; rfl,za0 (by rw [aA]; lia),xs++[y],ls.eraseIdx (c % (ls.length:Int)).toNat,by rw [aN]; rfl,by rw [aS,Jw]; rfl,z7 s4 J0,by rw [zn FP]; exact CY,by rw [zb,zgt],?_,zoh ey nd rg⟩;rw [List.length_eraseIdx];split <;> lia
  ·rintro ys H4 D ⟨xs,ls,rfl,Jw,s4,CY,Bi,B4,nd,rg⟩ hD;refine⟨D,#[QK,(.inl ⟨oE.of zb,fun tt Ek=>⟨by show 3<=sizeLine; rw [bN]; decide,fun c hc=>?_⟩⟩)]⟩;have s5:=(s4.trans (zc (o:=.lst (xs.map V.int)) hD)).trans (zc (o:=.tup (xs.map V.int)) Ek);refine q c tt p _ xs _ (s5.free hc) (s5.trans (zc hc)) ⟨mp,#[O],#[O],#[O],#[O],(ff.mp nd).1,fun y hy=>rg y (bM _ hy)⟩ zb ?_;rw [zn (zu zb hc)];exact zb
theorem zbF:KE ["p","polynomial","x","total","power","number"] ["p","polynomial","x"] (zh zdl):=#[S]
theorem zjp (T:Txt K mg base t) (F:Fun K "_law_value" "_law_value" zdl t.NG fd):LG P w K mg base CX0 1 t.NG fd ["p","polynomial","x"] (zi3 K):=by
 refine F.ok zbF #[pc] #[dl]
 ·obtain⟨p,x,a,cs,rfl,_⟩:=h;rfl
 ·obtain⟨p,x,a,cs,rfl,hS,p0,p1,x0,x1,q⟩:=h;refine zaJ ?_; intro zX;refine⟨_,#[zd,#[zl,3,zbF.nd,#[A],#[zg]],#[zd,#[zl,4,zbF.nd,#[A],#[zg]],#[zd,#[zao,bR,(@zp2 _ _ _ _ #[wP]),#[zf,5,zbF.nd,#[A]],#[zd,#[zl,3,zbF.nd,#[A],#[zi,#[zL],#[zi,#[zz],#[KB],#[zi,#[zH],#[Rj],#[QQ]]],#[xL]]],#[zk,#[zl,4,zbF.nd,#[A],#[zi,#[zL],#[zi,#[zH],#[QQ],#[FB]],#[xL]]]]]],#[SA]]]],?_⟩;refine zhK ?_; intro uf qv qk;refine #[QK,⟨a,rfl,?_⟩];rcases hS with hS | hS
  ·refine .inl ⟨⟨_,hS⟩,zbA (K:=K) (a:=a) (xs:=cs.map V.int) (fun i σ H'=>H'=H/\∃ (oR power:Int) (nb:Option V),σ = [some #[Ru],some #[QD],some #[Vv],some (.int oR),some (.int power),nb]/\0<=power/\power<=97/\lv p x oR power (cs.drop i)=lv p x 0 1 cs)
    ⟨rfl,0,1,none,rfl,#[D],#[D],rfl⟩ (fun i σ H' _ ⟨e,_⟩=>by rw [e]; exact hS) ?_ ?_⟩
   ·rintro zD zT i y σ H1 hy ⟨rfl,oR,power,nb,rfl,w0,w1,hl⟩;obtain⟨c,rfl,hc⟩:=zaE hy;have m0:=bA (power*x) (show p≠0 by lia);have m1:=aW (power*x) p0;refine #[VZ];refine #[QKKR,#[SK]];exact⟨rfl,_,_,_,rfl,m0,#[O],(zj1 hc).symm.trans hl⟩
   ·rintro σ H1 ⟨rfl,oR,power,nb,rfl,w0,w1,hl⟩;rw [aA,iW] at hl;have hl:oR=lv p x 0 1 cs:=hl;rw [zjX p0] at hl;rw [<- hl] at q;exact #[QK,q]
  ·refine .inr ⟨⟨_,hS⟩,zhL (K:=K) (a:=a) (xs:=cs.map V.int) (fun i σ H'=>H'=H/\∃ (oR power:Int) (nb:Option V),σ = [some #[Ru],some #[QD],some #[Vv],some (.int oR),some (.int power),nb]/\0<=power/\power<=97/\lv p x oR power (cs.drop i)=lv p x 0 1 cs)
    ⟨rfl,0,1,none,rfl,#[D],#[D],rfl⟩ (fun i σ H' _ ⟨e,_⟩=>by rw [e]; exact hS) ?_ ?_⟩
   ·rintro zD zT i y σ H1 hy ⟨rfl,oR,power,nb,rfl,w0,w1,hl⟩;obtain⟨c,rfl,hc⟩:=zaE hy;have m0:=bA (power*x) (show p≠0 by lia);have m1:=aW (power*x) p0;refine #[VZ];refine #[QKKR,#[SK]];exact⟨rfl,_,_,_,rfl,m0,#[O],(zj1 hc).symm.trans hl⟩
   ·rintro σ H1 ⟨rfl,oR,power,nb,rfl,w0,w1,hl⟩;rw [aA,iW] at hl;have hl:oR=lv p x 0 1 cs:=hl;rw [zjX p0] at hl;rw [<- hl] at q;exact #[QK,q]
theorem znt (xs:List V) (j:Nat):zb6 xs none (some (j:Int))=xs.take j:=by
 unfold zb6;rw [HT.MF,HT.Mx,gA,fU];by_cases h:j<=xs.length
 ·rw [fJ h]
 ·rw [show min j xs.length=xs.length by lia,bO (aG _),bO (show xs.length<=j by lia)]
noncomputable def zlB (K:aD):Sp:=fun vs H Q _=>∃ (a:Addr) (ds:TD) (p k:Int),vs = [.ref a,.int p,.int k]/\oE K H a #[Qz]/\ds.length<=1000/\0 < p /\
 ∀ (l:Addr) (vQ:TD) (H':Hp),H l=none->zr H H'->(vQ.length<=ds.length/\∀ x∈vQ,0<=x/\x < p)->H' l=some (.tup (vQ.map V.int))->(∀ n:Nat,k=(n:Int)->n<=ds.length->vQ.length=n)->Q #[RB] H'
theorem zeP:KE ["draws","p","k"] ["draws","p","k"] (zh za5):=#[S]
theorem zeQ (T:Txt K mg base t) (F:Fun K "_law_polynomial" "_law_polynomial" za5 t.LL fd):LG P w K mg base CX0 1 t.LL fd ["draws","p","k"] (zlB K):=by
 refine F.ok zeP #[pc] #[dl]
 ·obtain⟨a,ds,p,k,rfl,_⟩:=h;rfl
 ·obtain⟨a,ds,p,k,rfl,ha,hn,p0,q⟩:=h;refine zaJ ?_; intro zX;refine⟨_,#[zk,#[zA,#[zaR,#[zbd],T.Nn,jl,#[ya,#[zU,(Lu.of (N':=["draw","p"]) (ix:=[none,some 1]) (zh za5) _ rfl rfl rfl),#[zar],#[zai,#[zbs,zbX,#[xL],#[zb8],#[zbI,#[FB]]]],#[pi],#[sK],(fun _ _ _ _=>#[zi,#[zL],#[xL],#[wP]])]]]]],?_⟩;obtain⟨ms,ems,lms⟩:=zmq ds none (some k);refine #[QKKK,⟨a,#[QK,⟨ha,fun z hz=>?_⟩]⟩];rw [ems];have s4:=zc (o:=.lst (ms.map V.int)) hz;refine⟨z,rfl,⟨_,oE.of zb⟩,zbB (K:=K) (xs:=ms.map V.int) (fs:=ms.map fun d=>V.int (d % p)) (oE.of zb) (by rw [aA,aA]) (by rw [aA]; lia) ?_ ?_⟩
  ·intro j x y R B hx hy hR;obtain⟨c,_,rfl,rfl⟩:=zh0 hx hy;refine gY ?_;exact #[QKKR,⟨p0,hR⟩]
  intro D hD;have J3:(ms.map fun d=>V.int (d % p))=(ms.map (· % p)).map V.int:=by rw [cV]; rfl
  rw [J3];refine⟨D,#[QK,(.inl ⟨oE.of zb,fun po J4=>?_⟩)]⟩;have s5:=s4.trans (zc (o:=.lst ((ms.map (· % p)).map V.int)) hD);refine q po _ _ (s5.free J4) (s5.trans (zc J4)) ⟨by rw [aA]; exact lms,fun x hx=>?_⟩ zb (fun n G2 hle=>?_)
  ·obtain⟨d,_,rfl⟩:=aQ.mp hx;exact#[Uw]
  ·have h1:=congrArg eX ems;rw [G2,znt,bC,aA,aA] at h1;rw [aA];lia
theorem zjq:KE ["found"] ["found"] (zh zdk):=#[S]
theorem zjr (T:Txt K mg base t) (F:Fun K "_law_whole" "_law_whole" zdk t.NF fd):LG P w K mg base CX0 1 t.NF fd ["found"] (zi4 K):=by
 refine F.ok zjq #[pc] #[dl]
 ·obtain⟨i,rfl,_⟩:=h;rfl
 ·obtain⟨i,rfl,q⟩:=h;refine zaJ ?_; intro zX;refine⟨_,#[zk,#[zA,(@zpG _ _ _ _ _ _ _ #[zm,#[zcZ],T.Lv,dC,#[za,#[xL],#[ya,#[zeW,(.ty "int"),T.Qg,boot_int]]]] (@zpF _ _ _ _ _ (@zpH _ _ _ _ #[zm,#[zcZ],T.Lv,dC,#[za,#[xL],#[ya,#[zeW,(.ty "bool"),T.P4,boot_bool]]]])))]],?_⟩;refine #[QK,(ex4 _ _ _ _ ⟨rfl,.int i,rfl,#[QK,(zrB ?_)]⟩)];exact #[QK,(ex4 _ _ _ _ ⟨rfl,.int i,rfl,#[QK,q]⟩)]
theorem zcd:KE ["p","polynomial","x","value","number"] ["p","polynomial","x"] (zh zcL):=#[S]
theorem zc6 (T:Txt K mg base t) (F:Fun K "value_at" "value_at" zcL t.MR fd):LG P w K mg base CX0 1 t.MR fd ["p","polynomial","x"] (zey K):=by
 refine F.ok zcd #[pc] #[dl]
 ·obtain⟨p,x,a,cs,rfl,_⟩:=h;rfl
 ·obtain⟨p,x,a,cs,rfl,hS,p0,p1,x0,x1,q⟩:=h;refine zaJ ?_; intro zX;refine⟨_,#[zd,#[zl,3,zcd.nd,#[A],#[zg]],#[zd,#[zao,bR,(@zpZ _ _ _ _ _ _ rfl T.OQ #[U4] (by rfl)),#[zf,4,zcd.nd,#[A]],#[zk,#[zl,3,zcd.nd,#[A],#[zi,#[zL],#[zi,#[zz],#[zi,#[zH],#[KB],#[FB]],#[QQ]],#[xL]]]]],#[SA]]],?_⟩;refine zei ?_; intro qv qk;refine #[QK,⟨a,cs.map V.int,rfl,?_⟩];rcases hS with hS | hS
  ·refine .inl ⟨hS,?_⟩;rw [aA];refine zdL (n:=cs.length) (fun i σ H'=>H'=H/\∃ nb,σ = [some #[Ru],some #[QD],some #[Vv],some (.int (zR p x #[KM])),nb]) ⟨rfl,none,by rw [gA,iW]; rfl⟩
    (fun i σ H' hi ⟨e,_⟩=>⟨hi,cs.map V.int,by rw [e]; exact hS,by rw [aA]⟩) (fun σ H' _=>aG _) ?_ ?_
   ·rintro zD zT i y σ H1 H2 hi ⟨rfl,nb,rfl⟩ ⟨rfl,hy⟩;obtain⟨c,rfl,hc⟩:=zaE (hy _ hS);have v0:=zbJ (x:=x) p0 #[KM];have v1:=zbK (x:=x) p0 #[KM];refine #[VY];refine⟨rfl,some (.int c),?_⟩;rw [zgu hi hc];show _ = [some (V.int p),_,_,some (V.int ((c+x*zR p x #[KM]) % p)),_];rw [Int.add_comm c,iw x];rfl
   ·rintro σ H1 ⟨rfl,nb,rfl⟩;rw [iB,fU];exact #[QK,q]
  ·refine .inr ⟨hS,?_⟩;rw [aA];refine zdL (n:=cs.length) (fun i σ H'=>H'=H/\∃ nb,σ = [some #[Ru],some #[QD],some #[Vv],some (.int (zR p x #[KM])),nb]) ⟨rfl,none,by rw [gA,iW]; rfl⟩
    (fun i σ H' hi ⟨e,_⟩=>⟨hi,cs.map V.int,by rw [e]; exact hS,by rw [aA]⟩) (fun σ H' _=>aG _) ?_ ?_
   ·rintro zD zT i y σ H1 H2 hi ⟨rfl,nb,rfl⟩ ⟨rfl,hy⟩;obtain⟨c,rfl,hc⟩:=zaE (hy _ hS);have v0:=zbJ (x:=x) p0 #[KM];have v1:=zbK (x:=x) p0 #[KM];refine #[VY];refine⟨rfl,some (.int c),?_⟩;rw [zgu hi hc];show _ = [some (V.int p),_,_,some (V.int ((c+x*zR p x #[KM]) % p)),_];rw [Int.add_comm c,iw x];rfl
   ·rintro σ H1 ⟨rfl,nb,rfl⟩;rw [iB,fU];exact #[QK,q]
theorem zbn:KE ["p","number","product","square","left"] ["p","number"] (zh zdh):=#[S]
theorem zfG (T:Txt K mg base t) (F:Fun K "inverse" "inverse" zdh t.inverse fd):LG P w K mg base CX0 1 t.inverse fd ["p","number"] (zi5 K):=by
 refine F.ok zbn #[pc] #[dl]
 ·obtain⟨p,h,rfl,_⟩:=h;rfl
 ·obtain⟨p,hh,rfl,mp,h0,h1,q⟩:=h;refine zaJ ?_; intro zX;refine⟨_,#[zd,#[zl,2,zbn.nd,#[A],#[zg]],#[zd,#[zl,3,zbn.nd,#[A],#[zi,#[zL],#[wP],#[xL]]],#[zd,#[zl,4,zbn.nd,#[A],#[zi,#[zaa],#[xL],#[zg]]],#[zd,#[zdF,bR,#[zK,#[zge],#[QQ],#[zg],(zY _)],#[zd,#[zaX,#[zK,#[zhH],#[zi,#[zL],#[QQ],#[zg]],#[zg],(zY _)],#[zk,#[zl,2,zbn.nd,#[A],#[zi,#[zL],#[zi,#[zH],#[FB],#[KB]],#[xL]]]],#[zal]],#[zd,#[zl,3,zbn.nd,#[A],#[zi,#[zL],#[zi,#[zH],#[KB],#[KB]],#[xL]]],#[zk,#[ziR,4,zbn.nd,#[A],#[zg],zl1]]]]],#[Vp]]]]],?_⟩;refine zmb ?_; intro yG uf qv qk;have rp:=zC mp;have e0:=bA hh (show p≠0 by lia);have e1:=aW hh (show 0 < p by lia);refine #[QKKR,⟨(by show 0 < p; lia),#[QKR,?_]⟩];refine zl0 (fun σ H'=>H'=H/\∃ (prod sq left:Int) (n:Nat),σ = [some #[Ru],some (.int hh),some (.int prod),some (.int sq),some (.int left)]/\0<=prod/\prod < p/\0<=sq/\sq < p/\0<=left/\left < 2 ^ n/\zdb p n prod sq left=inv p hh) (fun σ _=>zp6 σ)
   ⟨rfl,1,hh % p,p - 2,7,rfl,#[O],#[O],e0,e1,#[O],#[O],rfl⟩ ?_ ?_
  ·rintro σ H1 ⟨rfl,prod,sq,left,n,rfl,b0,b1,s0,s1,l0,l1,hi⟩;refine #[Ur];refine zaD (fun hl=>?_) (fun hl=>?_)
   ·have hl:0 < left:=by simpa using hl
    obtain⟨m,rfl⟩:∃ m,n=m+1:=by
     cases n with
     | zero=>lia
     | succ m=>exact⟨m,rfl⟩
    rw [zgZ hl l1] at hi;have l2:left / 2 < 2 ^ m:=by
     have:(2:Int) ^ (m+1)=2 ^ m*2:=eU ..;lia
    have m0:=bA (prod*sq) (show p≠0 by lia);have m1:=aW (prod*sq) (show 0 < p by lia);have n0:=bA (sq*sq) (show p≠0 by lia);have n1:=aW (sq*sq) (show 0 < p by lia);refine #[QKR,⟨(by show (0:Int) < 2; decide),rfl,#[Vu]⟩]; refine zaD (fun ho=>?_) (fun ho=>?_)
    ·have ho:left % 2=1:=by simpa using ho
     rw [if_pos ho] at hi;refine #[QKKR,⟨.inl #[u8],#[QKR,⟨(by show 0 < p; lia),?_⟩]⟩];refine #[QKKR,⟨.inl #[u8],#[QKR,⟨(by show 0 < p; lia),?_⟩]⟩];refine #[QKR,⟨#[KK],⟨rfl,_,_,_,m,rfl,m0,m1,n0,n1,#[O],l2,hi⟩,?_⟩];show (left / 2).toNat < left.toNat;lia
    ·have ho:¬ left % 2=1:=by simpa using ho
     rw [if_neg ho] at hi;refine #[QKKR,⟨.inl #[u8],#[QKR,⟨(by show 0 < p; lia),?_⟩]⟩];refine #[QKR,⟨#[KK],⟨rfl,_,_,_,m,rfl,b0,b1,n0,n1,#[O],l2,hi⟩,?_⟩];show (left / 2).toNat < left.toNat;lia
   ·have hl:¬ 0 < left:=by simpa using hl
    have el:left=0:=by lia
    subst el;rw [zhX] at hi;rw [<- hi] at q;exact #[QK,q]
  ·rintro σ H1 Q1 Q2 hq ⟨v,e,i,j,e1,e2,k,e3,q⟩;exact⟨v,e,i,j,e1,e2,k,e3,hq _ _ q⟩
noncomputable def zfH (K:aD):Sp:=fun vs H Q _=>∃ (p r:Int) (a:Addr) (cs:TD),vs = [.int p,.ref a,.int r]/\H a=some (.lst #[Rw])/\cs.length<=1000/\0 < p/\-97<=r/\r<=97 /\
 ∀ (l:Addr) (H':Hp),H l=none->zr H H'->H' l=some (.lst ((zcr p r cs).map V.int))->Q #[RB] H'
theorem zcn:KE ["p","polynomial","root","raised","kept"] ["p","polynomial","root"] (zh zbt):=#[S]
theorem zdt (T:Txt K mg base t) (F:Fun K "times_root" "times_root" zbt t.Mb fd):LG P w K mg base CX0 1 t.Mb fd ["p","polynomial","root"] (zfH K):=by
 refine F.ok zcn #[pc] #[dl]
 ·obtain⟨p,r,a,cs,rfl,_⟩:=h;rfl
 ·obtain⟨p,r,a,cs,rfl,ha,oO,p0,r0,r1,q⟩:=h;refine zaJ ?_; intro zX;refine⟨_,#[zd,#[zl,3,zcn.nd,#[A],#[zi,#[zcW],#[Qk],#[wP]]],#[zd,#[zl,4,zcn.nd,#[A],#[zi,#[zcW],#[wP],#[Qk]]],#[zk,#[zA,#[zU,(Lu.of (N':=["high","low","root","p"]) (ix:=[none,none,some 2,some 0]) (zh zbt) _ rfl rfl rfl),#[RC],#[zdN,T.Pl,#[za,#[KB],#[Uk]]],#[o0],#[sK],#[UC]]]]]],?_⟩;refine zei ?_; intro qv qk;have qu:=bN;refine⟨by show 1<=sizeLine; lia,fun z hz=>#[QK,(ex4 z a ([.int 0]) #[Rw] ⟨rfl,rfl,zb,by rw [zn (zu ha hz)]; exact ha,by rw [aA]; show 1+cs.length<=sizeLine; lia,fun ra CZ=>?_⟩)]⟩;have s1:zr H (oG (oG H z (.lst [.int 0])) ra (.lst ([.int 0]++cs.map V.int))):=(zc hz).trans (zc CZ);refine #[QK,⟨by show 1<=sizeLine; lia,fun z2 wA=>(ex4 a z2 #[Rw] ([.int 0]) ⟨rfl,rfl,by rw [zn (zu #[Se] wA)]; exact s1 _ _ ha,zb,by rw [aA]; show cs.length+1<=sizeLine; lia,fun ke hke=>?_⟩)⟩];have s2:=s1.trans ((zc (o:=.lst [.int 0]) wA).trans (zc (o:=.lst (cs.map V.int++[.int 0])) hke));have yH:oG (oG (oG (oG H z (.lst [.int 0])) ra (.lst ([.int 0]++cs.map V.int))) z2 (.lst [.int 0])) ke (.lst (cs.map V.int++[.int 0])) ra=some (.lst ((0 :: cs).map V.int)) :=
   ((zc (o:=.lst [.int 0]) wA).trans (zc (o:=.lst (cs.map V.int++[.int 0])) hke)) _ _ zb
  have yI:oG (oG (oG (oG H z (.lst [.int 0])) ra (.lst ([.int 0]++cs.map V.int))) z2 (.lst [.int 0])) ke (.lst (cs.map V.int++[.int 0])) ke=some (.lst ((cs++[0]).map V.int)):=by rw [zb,aN]; rfl
  generalize oG (oG (oG (oG H z (.lst [.int 0])) ra (.lst ([.int 0]++cs.map V.int))) z2 (.lst [.int 0])) ke (.lst (cs.map V.int++[.int 0]))=H2 at s2 yH yI |-;refine #[QKK,(ex4 ra ke _ _ ⟨rfl,oE.of yH,oE.of yI,zW (n:=cs.length+1) (fun i ys H'=>ys=((zcr p r cs).take i).map V.int/\zr H2 H') ⟨#[M],fun _ _ e=>e⟩ ?_ ?_ ?_ ?_⟩)]
  ·rintro i ys H3 hi ⟨_,s3⟩;obtain⟨x,hx⟩:∃ x,(0 :: cs)[i]? = some x:=⟨(0 :: cs)[i]'#[U,hi],#[M]⟩;obtain⟨y,hy⟩:∃ y,(cs++[0])[i]? = some y:=⟨(cs++[0])[i]'#[U,hi],#[M]⟩;exact⟨_,_,.int x,.int y,oE.of (s3 _ _ yH),oE.of (s3 _ _ yI),by rw [aF,hx]; rfl,by rw [aF,hy]; rfl⟩
  ·rintro ys H3 ⟨_,s3⟩;exact⟨_,_,oE.of (s3 _ _ yH),oE.of (s3 _ _ yI),.inl #[M]⟩
  ·rintro zS zT zE i x ys H3 H4 hi ⟨rfl,s3⟩ ⟨T,u,v,hT,rfl,rfl,hu,hv⟩;obtain⟨x,rfl,hx⟩:=zaE (hu _ (oE.of (s3 _ _ yH)));obtain⟨y,rfl,hy⟩:=zaE (hv _ (oE.of (s3 _ _ yI)));refine gY2 #[WI] ?_;refine #[QKKKR,⟨.inl #[u8],#[QRKR,⟨p0,za0 ?_,?_,s3.trans (zc hT)⟩]⟩]
   ·rw [aA];exact cC (ij _ _) #[O]
   ·show _=(List.take (i+1) (bV (trF p r) (0 :: cs) (cs++[0]))).map V.int;rw [zhY hx hy,aN];rfl
  ·rintro ys H3 D ⟨rfl,s3⟩ hD;refine q D _ (#[UG].free hD) (#[UG].trans (zc hD)) ?_;rw [zb,bO (by rw [zcs]; exact aG _)]
theorem znu {p f:Int}:∀ (cs vs:TD),vs.length<=cs.length->ad p f cs vs=bV (fun number other=>(number+f*other) % p) cs vs++cs.drop vs.length
 | [],[],_=>rfl
 | _ :: _,[],_=>rfl
 | [],_ :: _,h=>by simp at h
 | c :: cs,v :: vs,h=>by
  show (c+f*v) % p :: ad p f cs vs=(c+f*v) % p :: (bV _ cs vs++cs.drop vs.length);rw [znu cs vs #[U,h]]
theorem ziB {xs:List V} (h:k<=xs.length):zb6 xs (some (k:Int)) none=xs.drop k:=by
 have e1:HT.sIx xs.length 0 (some (k:Int))=k:=by
  unfold HT.sIx;simp;split <;> lia
 have e2:HT.sIx xs.length xs.length none=xs.length:=rfl;unfold zb6;rw [e1,e2];exact bO (by rw [fq]; exact aG _)
noncomputable def zoY (K:aD):Sp:=fun vs H Q _=>∃ (p x y:Int) (c v b:Addr) (cs ws:TD),vs = [.int p,.ref c,.ref v,.ref b]/\H c=some (.lst #[Rw])/\H v=some (.lst (ws.map V.int))/\H b=some (.tup [.int x,.int y])/\p∈zw/\0<=x/\x < p/\0<=y/\y < 10000/\0 < zR p x ws/\zR p x ws < p/\ws.length<=cs.length/\cs.length<=1000 /\
 ∀ (l:Addr) (H':Hp),H l=none->zr H H'->H' l=some (.lst ((ad p (#[UZ]*inv p (zR p x ws) % p) cs ws).map V.int))->Q #[RB] H'
theorem zdo:KE ["p","polynomial","vanishing","point","x","y","missing","factor","added"] ["p","polynomial","vanishing","point"] (zh zfE):=#[S]
theorem zoZ (T:Txt K mg base t) (F:Fun K "bent" "bent" zfE t.PQ fd):LG P w K mg base CX0 2 t.PQ fd ["p","polynomial","vanishing","point"] (zoY K):=by
 obtain⟨rE,oX,pq⟩:=T.LU;have pz:=zc6 (P:=P) (w:=w) (base:=base) T oX;obtain⟨vR,pQ,qZ⟩:=T.ME;have rf:=zfG (P:=P) (w:=w) (base:=base) T pQ;refine F.ok zdo #[pc] #[dl]
 ·obtain⟨p,x,y,c,v,b,cs,ws,rfl,_⟩:=h;rfl
 ·obtain⟨p,x,y,c,v,b,cs,ws,rfl,hc,hv,hb,mp,x0,x1,y0,y1,g0,g1,hle,oO,q⟩:=h;refine zaJ ?_; intro zX;refine⟨_,#[zd,#[zaY,#[KB],#[zaI,#[zj,#[zf,4,zdo.nd,#[A]],#[zj,#[zf,5,zdo.nd,#[A]],#[zI]]]]],#[zd,#[zl,6,zdo.nd,#[A],#[zi,#[zaa],#[Rj],#[zq,pz,#[ut],T.Me,oX.kp,pq,#[zZ],#[za,#[xL],#[za,#[wP],#[Uk]]]]]],#[zd,#[zl,7,zdo.nd,#[Q0],#[zi,#[zL],#[zi,#[zH],#[Rt],#[zq,rf,#[ut],T.Ob,pQ.kp,qZ,#[zZ],#[za,#[xL],#[ya,#[zq,pz,#[ut],T.Me,oX.kp,pq,#[zZ],#[za,#[xL],#[za,#[FB],#[Uk]]]]]]]],#[xL]]],#[zd,#[zbm,8,zdo.nd,#[A],(Lu.of (N':=["number","other","factor","p"]) (ix:=[none,none,some 7,some 0]) (zh zfE) _ rfl rfl rfl),#[RC],#[zdN,T.Pl,#[Tx]],#[o0],#[sK],(fun _ _ _ _=>#[zi,#[zL],#[zi,#[zz],#[xL],#[zi,#[zH],#[FB],#[wP]]],#[KB]])],#[zk,#[zA,#[zi,#[zcW],#[Tv],#[zbs,zbX,#[wP],#[zbI,#[zm,#[zt],T.MC,dn,#[ya,#[Tv]]]],#[zb8]]]]]]]]],?_⟩;refine zmb ?_; intro yG uf qv qk;have qu:=bN;have rp:=zC mp;have p0:0 < p:=by lia
  have v0:=zbJ (x:=x) p0 cs;have v1:=zbK (x:=x) p0 cs;refine⟨_,rfl,b,_,rfl,oQ.of hb,rfl,_,_,rfl,_,_,rfl,rfl,?_⟩;refine #[QKKKK,(ex4 p x c cs ⟨rfl,.inl (oE.of hc),p0,#[O],x0,x1,#[QR,?_]⟩)];refine #[QKKKKK,(ex4 p x v ws ⟨rfl,.inl (oE.of hv),p0,#[O],x0,x1,p,#[QK,⟨mp,#[O],#[O],#[QR,#[SK]]⟩]⟩)];have f0:=bA (#[UZ]*inv p (zR p x ws)) (show p≠0 by lia);have f1:=aW (#[UZ]*inv p (zR p x ws)) p0;refine #[QKK,(ex4 c v _ _ ⟨rfl,oE.of hc,oE.of hv,zel (n:=ws.length) (f:=fun number other=>(number+(#[UZ]*inv p (zR p x ws) % p)*other) % p) hc hv hle (aG _) (.inr (aG _)) #[O] ?_ ?_⟩)]
  ·intro j u w H6 T R B hu hv s6 hT hR;refine gY2 #[WI] ?_;exact #[QKKKR,#[Su]]
  ·intro D H6 s6 hD;obtain⟨f,hf⟩:∃ f,(y - zR p x cs)*inv p (zR p x ws) % p=f:=⟨_,rfl⟩;rw [hf] at q |-;have lz:(bV (fun number other=>(number+f*other) % p) cs ws).length=ws.length:=by rw [ig]; lia
   have s7:=s6.trans (zc (o:=.lst ((bV (fun number other=>(number+f*other) % p) cs ws).map V.int)) hD);have Bj:oG H6 D (.lst ((bV (fun number other=>(number+f*other) % p) cs ws).map V.int)) D=some (.lst ((bV (fun number other=>(number+f*other) % p) cs ws).map V.int)):=zb;generalize oG H6 D (.lst ((bV (fun number other=>(number+f*other) % p) cs ws).map V.int))=H7 at s7 Bj |-;have vS:=s7 _ _ hc;refine #[QKKK,⟨D,#[QK,⟨.inl (oE.of Bj),?_⟩]⟩];refine #[QK,⟨c,#[QK,⟨oE.of vS,fun z hz=>?_⟩]⟩];have ec:zb6 #[Rw] (some ((((bV (fun number other=>(number+f*other) % p) cs ws).map V.int).length:Nat):Int)) none=(cs.drop ws.length).map V.int:=by
    rw [aA,lz,ziB (by rw [aA]; exact hle),jP]
   rw [ec];have s8:=zc (o:=.lst ((cs.drop ws.length).map V.int)) hz;refine (ex4 D z _ _ ⟨rfl,rfl,s8 _ _ Bj,zb,by rw [aA,aA,lz,fq]; lia,fun l hl=>q l _ (((s7.trans s8).free hl)) ((s7.trans s8).trans (zc hl)) ?_⟩);rw [zb,znu cs ws hle,aN]
noncomputable def T3 (H:Hp):List Addr->List Wt3->Prop:=Paired fun b q=>H b=some (.tup [.int q.1,.int q.2.1,.int q.2.2])
theorem T3.same (s:zr H H') {bs:TF} {ts:List Wt3} (h:T3 H bs ts):T3 H' bs ts:=eA #[R3] h
noncomputable def wpp (pl:TD) (q:Wt3):Wt3:=(pl.getD q.1.toNat 0,q.2.1,q.2.2)
theorem znv {x:Int} (x0:0<=x) (x1:x < pl.length):atI #[So] x=some (.int (pl.getD x.toNat 0)):=by
 obtain⟨n,rfl⟩:∃ n:Nat,x=n:=⟨x.toNat,#[O]⟩;have hn:n < pl.length:=by lia
 refine z9 ?_;rw [aF,aJ hn,cB,bE,aJ hn];rfl
noncomputable def zo0 (K:aD):Sp:=fun vs H Q _=>∃ (c tt g:Addr) (p k:Int) (pl:TD) (bs:TF) (ts:List Wt3),vs = [.ref c,.ref g]/\zck H c tt p k pl/\H g=some #[wr]/\T3 H bs ts/\ts.length<=60/\(∀ q∈ts,0<=q.1/\q.1 < pl.length) /\
 ∀ (l:Addr) (ds:TF) (H':Hp),H l=none->zr H H'->H' l=some #[QJ]->T3 H' ds #[xz]->Q #[RB] H'
theorem zaM:KE ["code","guesses","p","k","places"] ["code","guesses"] (zh zaF):=#[S]
theorem zb5 (T:Txt K mg base t) (F:Fun K "weighted_points" "weighted_points" zaF t.Lz fd):LG P w K mg base CX0 1 t.Lz fd ["code","guesses"] (zo0 K):=by
 refine F.ok zaM #[pc] #[dl]
 ·obtain⟨c,tt,g,p,k,pl,bs,ts,rfl,_⟩:=h;rfl
 ·obtain⟨c,tt,g,p,k,pl,bs,ts,rfl,hc,hg,hT,hn,hq,q⟩:=h;refine zaJ ?_; intro zX;refine⟨_,#[zd,#[zaY,#[xL],#[zaI,#[zj,#[zf,2,zaM.nd,#[A]],#[zj,#[zf,3,zaM.nd,#[A]],#[zj,#[zf,4,zaM.nd,#[Q0]],#[zI]]]]]],#[zk,#[zA,#[zU,(Lu.of (N':=["number","entry","weight","places"]) (ix:=[none,none,none,some 4]) (zh zaF) _ rfl rfl rfl),#[Rx],#[T9],#[re],(fun _ _ _ _=>#[zb2,(@zl3 _ _ _ _ _ _ _ _ _ _ _ _ #[zpd] #[zdH] #[zg] #[xL] #[zm,#[zbe,(K)],T.MC,dn,#[Ul]] (by with_unfolding_all rfl))]),#[VP]]]]],?_⟩;refine zqX ?_; intro qk;have qu:=bN;have uz:=hT.length;refine⟨_,rfl,c,_,rfl,oQ.of hc.1,rfl,_,_,rfl,_,_,rfl,_,_,rfl,rfl,?_⟩;refine #[QK,⟨g,rfl,⟨_,oE.of hg⟩,zW (n:=bs.length) (fun i ys H'=>(∃ ds:List Addr,ys=ds.map V.ref/\T3 H' ds (#[Vj].map (wpp pl)))/\zr H H') ⟨⟨[],rfl,.nil⟩,fun _ _ e=>e⟩ ?_ ?_ ?_ ?_⟩]
  ·rintro i ys H3 hi ⟨_,s3⟩;exact⟨_,.ref bs[i],oE.of (s3 _ _ hg),by rw [aF,aJ hi]; rfl⟩
  ·rintro ys H3 ⟨_,s3⟩;exact⟨_,oE.of (s3 _ _ hg),by rw [aA]; exact aG _⟩
  ·rintro zS zT zE i xx ys H3 H4 hi ⟨⟨ds,rfl,sj⟩,s3⟩ ⟨rfl,yJ⟩;obtain⟨b,rfl,xk⟩:=z6 (yJ _ (oE.of (s3 _ _ hg)));obtain⟨z,hz,hb⟩:=Paired.get hT xk;obtain⟨z0,z1⟩:=hq z (aO hz);have wJ:=sj.length;rw [aA,bC] at wJ;refine#[UU];refine #[Ur];refine zaD #[AC] (fun h1=>absurd (decide_eq_true z0) h1);refine #[QK,⟨tt,#[QK,⟨.inr (oQ.of (s3 _ _ hc.2)),#[QRK,?_]⟩]⟩];refine zaD #[AC] (fun h2=>absurd (decide_eq_true (by rw [aA]; exact z1)) h2);refine #[QKK,(ex4 tt _ _ _ ⟨rfl,rfl,oQ.of (s3 _ _ hc.2),znv z0 z1,#[QKK,⟨by show 3<=sizeLine; lia,fun T2 ud=>⟨by rw [aA]; lia,⟨ds++[T2],by rw [aN]; rfl,?_⟩,s3.trans (zc ud)⟩⟩]⟩)];rw [take_snoc hz,aN];exact dE (sj.same (zc ud)) zb
  ·rintro ys H3 D ⟨⟨ds,rfl,sj⟩,s3⟩ hD;rw [uz,dW] at sj;exact q D ds _ (s3.free hD) (s3.trans (zc hD)) zb (sj.same (zc hD))
noncomputable def zqx (K:aD):Sp:=fun vs H Q _=>∃ (a f:Addr) (p:Int) (cs:TD) (bs:TF) (ts:List Wt3),vs = [.int p,.ref a,.ref f]/\H a=some #[wr]/\T3 H bs ts/\H f=some (.tup #[Rw])/\ts.length<=60/\0 < p/\p<=97/\(∀ q∈ts,0<=q.1/\q.1 < p) /\
 ∀ H',zr H H'->Q (.int (wsum p cs ts)) H'
theorem zhn:KE ["p","points","polynomial"] ["p","points","polynomial"] (zh zbR):=#[S]
theorem zho (T:Txt K mg base t) (F:Fun K "weight_in" "weight_in" zbR t.Mt fd):LG P w K mg base CX0 2 t.Mt fd ["p","points","polynomial"] (zqx K):=by
 obtain⟨rE,oX,pq⟩:=T.LU;have pz:=zc6 (P:=P) (w:=w) (base:=base) T oX;refine F.ok zhn #[pc] #[dl]
 ·obtain⟨a,f,p,cs,bs,ts,rfl,_⟩:=h;rfl
 ·obtain⟨a,f,p,cs,bs,ts,rfl,ha,hT,hf,hn,p0,p1,hq,q⟩:=h;refine zaJ ?_; intro zX;refine⟨_,#[zk,#[zA,#[zm,#[zbp],T.Ph,iX,#[ya,#[zU,(Lu.of (N':=["x","y","weight","p","polynomial"]) (ix:=[none,none,none,some 0,some 2]) (zh zbR) _ rfl rfl rfl),#[Rx],#[T9],#[re],(fun _ _ _ _=>#[zb2,#[zK,#[zhH],#[zq,pz,#[ut],T.Me,oX.kp,pq,#[zZ],#[za,#[KB],#[za,#[QQ],#[Ta]]]],#[wP],(zY _)]]),(fun _ _ _ _=>#[FB])]]]]],?_⟩;have qu:=bN;have uz:=hT.length;refine #[QK,⟨a,rfl,⟨_,oE.of ha⟩,zW (n:=bs.length) (fun i ys H'=>ys=((#[Vj].filter (zdD p cs)).map (·.2.2)).map V.int/\zr H H') #[Q7] ?_ ?_ ?_ ?_⟩]
  ·rintro i ys H3 hi ⟨_,s3⟩;exact⟨_,.ref bs[i],oE.of #[TN],by rw [aF,aJ hi]; rfl⟩
  ·rintro ys H3 ⟨_,s3⟩;exact⟨_,oE.of #[TN],by rw [aA]; exact aG _⟩
  ·rintro zS zT zE i xx ys H3 H4 hi ⟨rfl,s3⟩ ⟨rfl,yJ⟩;obtain⟨b,rfl,xk⟩:=z6 (yJ _ (oE.of #[TN]));obtain⟨z,hz,hb⟩:=Paired.get hT xk;obtain⟨z0,z1⟩:=hq z (aO hz);have e1:(ts.take (i+1)).filter (zdD p cs)=#[Vj].filter (zdD p cs)++[z].filter (zdD p cs):=by rw [take_snoc hz,gK]
   have ye:=gh (zdD p cs) #[Vj];rw [bC] at ye;refine#[UU];refine #[QKKK,(ex4 p z.1 f cs ⟨rfl,.inr (oQ.of (s3 _ _ hf)),p0,p1,z0,z1,#[QK,#[S5]]⟩)];have eD:decide (V.int (zR p z.1 cs)=V.int z.2.1)=zdD p cs z:=by
    unfold zdD;by_cases h:zR p z.1 cs=z.2.1
    ·rw [h]; simp
    ·rw [decide_eq_false h,decide_eq_false fun e=>h (by injection e)]
   rw [eD,e1];refine zaD (fun h=>#[QK,⟨?_,?_,s3⟩]) (fun h=>⟨?_,s3⟩)
   ·rw [aA,aA]; lia
   ·rw [fP h,aN,aN]; rfl
   ·rw [fQ h,gL,du]
  ·rintro ys H3 D ⟨rfl,s3⟩ hD;rw [uz,dW];exact⟨D,#[QK,⟨oE.of zb,q _ (s3.trans (zc hD))⟩]⟩
theorem zjs {p:Int} {ts:List Wt3} (h:∀ q∈ts,0<=q.1/\q.1 < pl.length) (hp:∀ x∈pl,0<=x/\x < p):∀ q∈ts.map (wpp pl),0<=q.1/\q.1 < p:=fun q hq=>by
 obtain⟨z,hz,rfl⟩:=aQ.mp hq;obtain⟨z0,z1⟩:=h z hz;have hn:z.1.toNat < pl.length:=by lia
 show 0<=pl.getD z.1.toNat 0/\pl.getD z.1.toNat 0 < p;rw [bE,aJ hn];exact hp _ (ef hn)
noncomputable def zrf (K:aD):Sp:=fun vs H Q _=>∃ (a:Addr) (m:Nat) (bs:TF) (ts:List Wt3),vs = [.ref a,.int (m:Int)]/\H a=some #[wr]/\T3 H bs ts/\ts.length<=60/\∀ v H',zr H H'->Q (.int v) H'
theorem za6:KE ["points","many","greatest","x","y","weight"] ["points","many"] (zh zbg):=#[S]
theorem zc7 (T:Txt K mg base t) (F:Fun K "most_weight" "most_weight" zbg t.LI fd):LG P w K mg base CX0 1 t.LI fd ["points","many"] (zrf K):=by
 refine F.ok za6 #[pc] #[dl]
 ·obtain⟨a,m,bs,ts,rfl,_⟩:=h;rfl
 ·obtain⟨a,m,bs,ts,rfl,ha,hT,hn,q⟩:=h;have hu:(A.deeper (envOfC (cN "most_weight") (zh zbg) s.heap.objs.size t.LI oU)).units+1 < cLine:=by have:=hr.units; lia
  refine zaJ ?_; intro zX;refine⟨_,#[zd,#[zl,2,za6.nd,#[A],(@zmE _ _)],#[zd,#[zao,bR,#[zai,#[xL]],#[zaI,#[zj,#[zf,3,za6.nd,#[A]],#[zj,#[zf,4,za6.nd,#[A]],#[zj,#[zf,5,za6.nd,#[A]],#[zI]]]]],#[zk,#[zg3,hu,#[FB],#[KB],#[zm,#[zeh],T.O5,g9,#[za,#[Rj],#[ya,#[zfx,hu,#[FB],#[KB],#[zg],⟨rfl,rfl,rfl,rfl⟩]]]]]]],#[zk,#[zA,#[zm,#[zbp],T.Ph,iX,#[ya,#[zbs,zbX,(zlx rfl rfl T.Ol #[FB]),#[zb8],#[zbI,#[wP]]]]]]]]],?_⟩;refine zei ?_; intro qv qk;have qu:=bN;have uz:=hT.length;intro D hD;have s0:=zc (o:=.dK []) hD;refine⟨_,rfl,a,rfl,⟨_,oE.of (s0 _ _ ha)⟩,zbA (K:=K) (a:=a) (xs:=bs.map V.ref) (fun i σ H'=>∃ (kvs:List (Key×V)) (ns:TD) (e3 e4 e5:Option V),σ = [some #[QD],some (.int (m:Int)),some #[QB],e3,e4,e5]/\zr H H'/\H' D=some #[Tq]/\DIs kvs ns/\kvs.length<=i)
   ⟨[],[],none,none,none,rfl,s0,zb,rfl,aG _⟩ (fun i σ H' _ hq=>by obtain⟨_,_,_,_,_,_,s3,_⟩:=hq; exact oE.of #[TN]) ?_ ?_⟩
  ·rintro zD zT i xx σ H1 yJ ⟨kvs,ns,e3,e4,e5,rfl,s1,xl,hI,Fz⟩;obtain⟨b,rfl,xk⟩:=z6 yJ;obtain⟨z,hz,hb⟩:=Paired.get hT xk;have As:=(aK.mp hz).1;obtain⟨g,hg⟩:=zkr (cM z.1) hI;refine⟨b,_,rfl,oQ.of (s1 _ _ hb),rfl,_,_,rfl,_,_,rfl,_,_,rfl,rfl,?_⟩;refine #[QKK,⟨D,rfl,.inl ⟨_,.inl xl⟩,#[QK,⟨_,.inl ⟨_,cM z.1,.inl xl,rfl,rfl⟩,?_⟩]⟩];rw [hg];refine⟨_,_,rfl,_,rfl,_,rfl,D,_,rfl,.inl ⟨_,cM z.1,xl,rfl,#[O],rfl⟩,?_⟩;obtain⟨rR,hI'⟩:=zoW (cM z.1) (if g > z.2.2 then g else z.2.2) hI;exact (ex5 _ rR _ _ _ ⟨rfl,z7 s1 hD,zb,hI',cC (zca _ _ _) #[O]⟩)
  ·rintro σ H1 ⟨kvs,ns,e3,e4,e5,rfl,s1,xl,hI,Fz⟩;rw [aA] at Fz;have hnl:kvs.length=ns.length:=by have:=congrArg eX hI; rw [aA,aA] at this; exact this
   refine #[QK,(ex3 D _ ns ⟨rfl,xl,hI,#[O],fun l rR hl hp hpw=>?_⟩)];have s2:=s1.trans (zc (o:=.lst (rR.map V.int)) hl);refine #[QKK,⟨l,#[QK,⟨oE.of zb,fun l2 qc=>?_⟩]⟩];rw [znt,<- gE];exact⟨l2,#[QK,⟨oE.of zb,q _ _ (s2.trans (zc qc))⟩]⟩
noncomputable def PkA (H:Hp) (p:Int) (k:Nat) (b:Addr) (c:Pk):Prop:=∃ la lv,H b=some (.tup [.int (c.1:Int),.int (wts c.2),.ref la,.ref lv])/\H la=some (.lst ((pkP p k c.2).1.map V.int))/\H lv=some (.lst ((pkP p k c.2).2.map V.int))
theorem PkA.same (s:zr H H') {p:Int} {b:Addr} {c:Pk} (h:PkA H p k b c):PkA H' p k b c:=by
 obtain⟨la,lv,h1,h2,h3⟩:=h;exact⟨la,lv,s _ _ h1,s _ _ h2,s _ _ h3⟩
noncomputable def PkB (H:Hp) (p:Int) (k:Nat):List Addr->List Pk->Prop:=Paired (PkA H p k)
theorem PkB.same (s:zr H H') {p:Int} {bs:TF} {cs:List Pk} (h:PkB H p k bs cs):PkB H' p k bs cs:=eA (fun _ _ z=>PkA.same s z) h
theorem znw (S:List Wt3) (q:Wt3):wts (S++[q])=wts S+q.2.2:=by rw [zkq]; unfold wts; simp
noncomputable def zrg (K:aD):Sp:=fun vs H Q _=>∃ (a r b:Addr) (p T:Int) (k j:Nat) (c:Pk) (bs:TF) (ts:List Wt3) (R:TD),vs = [.int p,.ref a,.ref r,.int T,.ref b]/\H a=some #[wr]/\T3 H bs ts/\H r=some #[Tn]/\R.length=ts.length/\PkA H p k b c/\PH p ts j c/\j < k/\k<=5/\Wp p ts/\p∈zw/\ts.length<=60 /\
 ∀ (l:Addr) (ds:TF) (res:List Pk) (H':Hp),H l=none->zr H H'->H' l=some #[QJ]->PkB H' p k ds res->PV ts c res->Q #[RB] H'
theorem zae:KE ["p","points","rests","least","pick","start","weight","polynomial","vanishing","found","at","x","y","more","longer"] ["p","points","rests","least","pick"] (zh zb0):=#[S]
theorem zf3 (T:Txt K mg base t) (F:Fun K "next_picks" "next_picks" zb0 t.Md fd):LG P w K mg base CX0 3 t.Md fd ["p","points","rests","least","pick"] (zrg K):=by
 obtain⟨rE,oX,pq⟩:=T.LU;have pz:=zc6 (P:=P) (w:=w) (base:=base) T oX;obtain⟨Hm,yK,C0⟩:=T.O3;have C1:=zoZ (P:=P) (w:=w) (base:=base) T yK;obtain⟨sW,pe,pV⟩:=T.LM;have pW:=zdt (P:=P) (w:=w) (base:=base) T pe;refine F.ok zae #[pc] #[dl]
 ·obtain⟨a,r,b,p,T',k,j,c,bs,ts,R,rfl,_⟩:=h;rfl
 ·obtain⟨a,r,b,p,T',k,j,c,bs,ts,R,rfl,ha,hT,ub,Hn,hb,hok,hjk,hk5,hW,hp,hn,q⟩:=h;refine zaJ ?_; intro zX;refine⟨_,#[zd,#[zaY,#[QQ],#[zaI,#[zj,#[zf,5,zae.nd,#[A]],#[zj,#[zf,6,zae.nd,#[A]],#[zj,#[zf,7,zae.nd,#[A]],#[zj,#[zf,8,zae.nd,#[A]],#[zI]]]]]]],#[zd,#[zl,9,zae.nd,#[A],#[Q9]],#[zd,#[zao,bR,#[zda,T.Lw,#[za,#[Rj],#[Wr]]],#[zf,10,zae.nd,#[A]],#[zd,#[zaX,#[zK,#[zdH],#[zi,#[zz],#[Rt],#[zM,#[zB],#[FB],#[Xe]]],#[KB],(zY _)],#[zk,(@zlW _ _)],#[zal]],#[zd,#[zaY,#[zM,#[zB],#[wP],#[Xe]],#[zaI,#[zj,#[zf,11,zae.nd,#[A]],#[zj,#[zf,12,zae.nd,#[A]],#[zj,#[zf,13,zae.nd,#[A]],#[zI]]]]]],#[zk,#[zaX,#[zK,#[zdG],#[zq,pz,#[ut],T.Me,oX.kp,pq,#[zZ],#[za,#[xL],#[za,#[Tv],#[ya,#[pvx,11]]]]],#[zg],(zY _)],#[zd,#[zl,14,zae.nd,#[A],#[zq,C1,#[ut],T.PC,yK.kp,C0,#[zZ],#[za,#[xL],by exact #[za,#[TW],#[za,#[Tv],#[ya,#[zaZ,#[za,#[pvx,11],#[ya,#[pvx,12]]]]]]]]]],#[zk,#[zbH,#[zcR,cO,d8,d9,#[zbz],#[UE],#[ya,#[zaZ,#[za,#[zi,#[zz],#[Xe],#[zg]],by exact #[za,#[zi,#[zz],#[Rt],#[pvx,13]],#[za,#[pvx,14],#[ya,#[zq,pW,#[ut],T.MN,pe.kp,pV,#[zZ],#[za,#[xL],#[za,#[Tv],#[ya,#[pvx,11]]]]]]]]]]]]]]],#[zal]]]]]],#[zk,#[zA,#[UE]]]]]],?_⟩;refine zhK ?_; intro uf qv qk;have qu:=bN;have rp:=zC hp;have uz:=hT.length;obtain⟨la,lv,vz,tX,Au⟩:=id hb;have hcle:=hok.le;have rP:=hok.len;have CS:=znr hp (k:=k) hok.Py (by rw [aA,hok.len]; lia);have vo:(pkP p k c.2).1.length=k:=CS.lc;have qc:(pkP p k c.2).2.length=j+1:=by have:=CS.lv; rw [aA,hok.len] at this; exact this
  refine⟨_,rfl,b,_,rfl,oQ.of vz,rfl,_,_,rfl,_,_,rfl,_,_,rfl,_,_,rfl,rfl,?_⟩;refine⟨bX _,fun D hD=>?_⟩;have u0:=zc (o:=.lst []) hD;have h0D:oG H D (.lst []) D=some (.lst ([].map V.ref)):=zb;generalize oG H D (.lst [])=H0 at u0 h0D |-;have Em:H D=none:=hD;refine #[QKK,⟨a,#[QK,⟨.inl (oE.of (u0 _ _ ha)),_,_,rfl,⟨#[O],#[O],by rw [aA]; lia,by rw [aA]; lia⟩,?_⟩]⟩];have en:((#[QX].length:Int) - (c.1:Int)).toNat=ts.length - c.1:=by rw [aA]; lia
  rw [en];refine zah (lo:=(c.1:Int)) (n:=ts.length - c.1) (fun i σ H'=>∃ (ds:TF) (res:List Pk) (sO vT qN rN rF:Option V),σ = [some #[Ru],some #[QD],some (.ref r),some (.int T'),some #[T7],some (.int (c.1:Int)),some (.int (wts c.2)),some (.ref la),some (.ref lv),some #[QB],sO,vT,qN,rN,rF]/\zr H H'/\H' D=some #[QJ]/\PkB (hide H' D) p k ds res/\(∀ d∈res,∃ a q,c.1<=a/\ts[a]? = some q/\q.1∉c.2.map (·.1)/\d=(a+1,c.2++[q]))/\res.length<=i)
   ⟨[],[],none,none,none,none,none,rfl,u0,h0D,.nil,(fun d hd=>by cases hd),aG _⟩ ?_ ?_
  ·rintro zD zT i σ H1 hi ⟨ds,res,sO,vT,qN,rN,rF,rfl,s1,xl,sj,tZ,ug⟩;obtain⟨z,hz⟩:∃ z,ts[c.1+i]? = some z:=⟨ts[c.1+i]'#[O],#[M]⟩;obtain⟨bz,hbz⟩:∃ bz,bs[c.1+i]? = some bz:=⟨bs[c.1+i]'#[O],#[M]⟩;obtain⟨z',wC,hbt⟩:=Paired.get hT hbz;rw [hz] at wC;cases wC;obtain⟨w0,w1,w2,w3,w4⟩:=hW.rg z (aO hz);have ei:(c.1:Int)+(i:Int)=((c.1+i:Nat):Int):=by lia
   have yL:atI (R.map V.int) ((c.1:Int)+(i:Int))=some (.int (R.getD (c.1+i) 0)):=by
    rw [ei];refine z9 ?_;rw [aF,aJ #[O],bE,aJ #[O]];rfl
   have J5:atI #[QX] ((c.1:Int)+(i:Int))=some (.ref bz):=by
    rw [ei];exact z9 (by rw [aF,hbz]; rfl)
   have B5:=CS.rv;have Ar:zR p z.1 (pkP p k c.2).2=0↔z.1∈c.2.map (·.1):=zoV hp hok.Py #[O] w0 w1;have hpv0:=zbJ (x:=z.1) (show 0 < p by lia) (pkP p k c.2).2;have J6:=zbK (x:=z.1) (show 0 < p by lia) (pkP p k c.2).2;refine #[QKKK,(ex4 r _ _ _ ⟨rfl,rfl,oE.of (s1 _ _ ub),yL,#[QRKRK,?_]⟩)];refine zaD #[V3] #[V2]
   ·exact #[SW]
   refine⟨_,rfl,_,rfl,a,_,_,_,rfl,rfl,oE.of #[Se],J5,bz,_,rfl,oQ.of (s1 _ _ hbt),rfl,_,_,rfl,_,_,rfl,_,_,rfl,rfl,?_⟩;refine #[QKKK,(ex4 p z.1 lv ((pkP p k c.2).2) ⟨rfl,.inl (oE.of (s1 _ _ Au)),#[O],#[O],w0,w1,rfl,#[Vu]⟩)];refine zaD (fun oZ=>?_) (fun heq=>?_)
   ·have hnz:zR p z.1 (pkP p k c.2).2≠0:=fun e=>by rw [e] at oZ; simp at oZ
    have J7:z.1∉c.2.map (·.1):=fun e=>hnz (Ar.mpr e)
    refine #[QKKKKK,⟨by show 2<=sizeLine; lia,fun T2 ud=>?_⟩];have v1:=zc (o:=.tup [.int z.1,.int z.2.1]) ud;refine (ex8 p z.1 z.2.1 la lv T2 _ _ ⟨rfl,(s1.trans v1) _ _ tX,(s1.trans v1) _ _ Au,zb,hp,w0,w1,w2,#[O],#[O],J6,#[O],#[O],fun l1 H2 vo s2 h2=>?_⟩);have uV:=v1.trans s2;have FQ:=uV _ _ xl;refine #[QK,⟨.inl ⟨rfl,_,oE.of FQ⟩,#[QKRKKRKKKK,(ex4 p z.1 lv _ ⟨rfl,(s1.trans uV) _ _ Au,#[O],#[O],#[O],#[O],fun l2 H3 qc s3 h3=>?_⟩)]⟩];have v2:=uV.trans s3;have B6:=v2 _ _ xl;have C2:=s3 _ _ h2;refine⟨by show 4<=sizeLine; lia,fun T3 xm=>?_⟩;have v3:=zc (o:=.tup [.int ((c.1:Int)+(i:Int)+1),.int (wts c.2+z.2.2),.ref l1,.ref l2]) xm;have h4T:oG H3 T3 (.tup [.int ((c.1:Int)+(i:Int)+1),.int (wts c.2+z.2.2),.ref l1,.ref l2]) T3=some (.tup [.int ((c.1:Int)+(i:Int)+1),.int (wts c.2+z.2.2),.ref l1,.ref l2]):=zb;have nT:T3≠D:=fun e=>by rw [e,B6] at xm; cases xm
    have n1:l1≠D:=fun e=>by rw [e,v1 _ _ xl] at vo; cases vo
    have n2:l2≠D:=fun e=>by rw [e,FQ] at qc; cases qc
    have h4D:=v3 _ _ B6;have FR:=v3 _ _ C2;have FT:=v3 _ _ h3;have v4:=v2.trans v3;generalize oG H3 T3 (.tup [.int ((c.1:Int)+(i:Int)+1),.int (wts c.2+z.2.2),.ref l1,.ref l2])=H4 at h4T h4D FR FT v4 |-;have wJ:=sj.length;refine (ex3 D _ _ ⟨rfl,rfl,h4D,by rw [aA]; lia,?_⟩);refine (ex7 (ds++[T3]) (res++[(c.1+i+1,c.2++[z])]) _ _ _ _ _ ⟨rfl,z7 (s1.trans v4) hD,by rw [zb,aN]; rfl,?_,fun d hd=>?_,by rw [aS]; exact fS ug⟩)
    ·rw [zms];refine dE (sj.same (zk0 v4)) ⟨l1,l2,?_,?_,?_⟩
     ·rw [znw];show hide H4 D T3=some (.tup [.int ((c.1+i+1:Nat):Int),.int (wts c.2+z.2.2),.ref l1,.ref l2]);rw [show ((c.1+i+1:Nat):Int)=(c.1:Int)+(i:Int)+1 by lia];exact zbj h4T nT
     ·rw [ziA]; exact zbj FR n1
     ·rw [ziA]; exact zbj FT n2
    ·rcases bZ.mp hd with hd | hd
     ·exact tZ d hd
     ·exact⟨c.1+i,z,#[O],hz,J7,by simpa using hd⟩
   ·exact (ex7 ds res _ _ _ _ _ ⟨rfl,s1,xl,sj,tZ,#[O]⟩)
  ·rintro σ H1 ⟨ds,res,sO,vT,qN,rN,rF,rfl,s1,xl,sj,tZ,ug⟩;exact #[SW]
abbrev zrh:Pos:=⟨125,33,125,56⟩
abbrev zri:Str:=(cN "picked_weights"++cN ".<locals>.")++cN "<lambda>"
noncomputable def TbA (t:Adr) (H:Hp):Prop:=TbI t.tab zrh zri H
theorem TbA.same {t:Adr} (s:zr H H') (h:TbA t H):TbA t H':=by
 obtain⟨ps,h1,h2,h3⟩:=h;exact⟨ps,s _ _ h1,h2,h3.imp id fun ⟨c,z1,z2⟩=>⟨c,z1,s _ _ z2⟩⟩
theorem TbA.at_ {t:Adr} (h:TbA t H):∃ ps,H t.tab=some (.tbl ps):=by
 obtain⟨ps,h1,_⟩:=h;exact⟨ps,h1⟩
theorem ziC {α β:Type} {F:α->β->Prop} {as bs:List α} (h:as.Perm bs):∀ {ys:List β},Paired F bs ys->∃ xs:List β,xs.Perm ys/\Paired F as xs:=by
 induction h with
 | nil=>intro ys r; cases r; exact⟨[],.refl _,.nil⟩
 | cons x _ ih =>
  intro ys r;cases r with
  | cons r1 r2 =>
   obtain⟨xs,h1,h2⟩:=ih r2;exact⟨_ :: xs,h1.cons _,.cons r1 h2⟩
 | swap x y l =>
  intro ys r;cases r with
  | cons r1 r2 =>
   cases r2 with
   | cons r3 r4=>exact⟨_ :: _ :: _,.swap _ _ _,.cons r3 (.cons r1 r4)⟩
 | trans _ _ i1 i2 =>
  intro ys r;obtain⟨xs,h1,h2⟩:=i2 r;obtain⟨zs,h3,h4⟩:=i1 h2;exact⟨zs,h3.trans h1,h4⟩
theorem zeG {α β:Type} {F:α->β->Prop}:∀ {as:List α} {bs:List β} (n:Nat),Paired F as bs->Paired F (as.drop n) (bs.drop n)
 | _,_,0,h=>h
 | _,_,_+1,.nil=>.nil
 | _,_,n+1,.cons _ t=>zeG n t
theorem T3.hid {a:Addr} {ps:Array Value} (ha:H a=some (.tbl ps)) {bs:TF} {ts:List Wt3} (h:T3 H bs ts):T3 (hide H a) bs ts:=eA (fun _ _ z=>zbj z fun e=>by rw [e,ha] at z; cases z) h
theorem zd8 {κ:Type} [DecidableEq κ] (kvs:List (κ×V)) (k:κ) (v:V):zaO #[QW] k=some v:=by
 rw [zh8]; simp
theorem zfI {κ:Type} [DecidableEq κ] {kvs:List (κ×V)} {k k':κ} {v:V} (h:k'≠k):zaO #[QW] k'=zaO kvs k':=by
 rw [zh8]; simp [h]
noncomputable def zrj (t:Adr) (K:aD):Sp:=fun vs H Q _=>∃ (a:Addr) (p T:Int) (k:Nat) (bs:TF) (ts:List Wt3),vs = [.int p,.int (k:Int),.ref a,.int T]/\H a=some #[wr]/\T3 H bs ts/\Wp p ts/\p∈zw/\1<=k/\k<=5/\ts.length<=30/\ts.length ^ k<=1000000/\TbA t H /\
 ∀ (d:Addr) (kvs:List (List Key×V)) (o9:List #[wE]) (H':Hp),H d=none->zr #[Ua] H'->TbA t H'->H' d=some #[QZ]->KeysAre kvs o9->o9.length<=1000000->(∀ f∈o9,IsP p k f) ->
  (∀ f∈o9,∃ v,zaO kvs (f.map cM)=some (.int v)/\v<=wsum p f ts)->Q (.ref d) H'
theorem zJ:KE ["p","k","points","least","ordered","rests","picks","step","found","at","weight","polynomial","vanishing","known"] ["p","k","points","least"] (zh zap):=#[S]
theorem zd9 (T:Txt K mg base t) (F:Fun K "picked_weights" "picked_weights" zap t.Lx fd):LG P w K mg base CX0 4 t.Lx fd ["p","k","points","least"] (zrj t K):=by
 obtain⟨sk,o6,pL⟩:=T.LH;have pM:=zc7 (P:=P) (w:=w) (base:=base) T o6;obtain⟨Aw,qO,uh⟩:=T.L8;have ui:=zf3 (P:=P) (w:=w) (base:=base) T qO;refine F.okT T.tb zJ #[pc] (fun cP hKc A outer s H vs Q E hr h=>?_)
 ·obtain⟨a,p,T',k,bs,ts,rfl,_⟩:=h;rfl
 ·obtain⟨a,p,T',k,bs,ts,rfl,ha,hT,hW,hp,k1,k5,hn,B7,wI,q⟩:=h;have hu:(A.deeper (envOfC (cN "picked_weights") (zh zap) s.heap.objs.size t.Lx (.ref cP))).units+1 < cLine:=by have:=hr.units; lia
  refine zaJ ?_; intro zX;refine⟨_,#[zd,#[zl,4,zJ.nd,#[Q0],(@zno _ t.tab cP _ _ _ _ _ _ _ _ _ _ _ _ _ _ rfl hKc T.bm (by exact⟨rfl,rfl,rfl,rfl,#[D],(fun _ _ _ _ _ _ _ _=>rfl),(fun _=>rfl),(fun _=>rfl)⟩) rfl hr.depth rfl T.Ol #[FB] rfl)],#[zd,#[zl,5,zJ.nd,#[Q0],#[zU,(Lu.of (N':=["at","ordered"]) (ix:=[none,some 4]) (zh zap) _ rfl rfl rfl),#[zar],#[zO,T.Lw,#[ya,#[zm,#[zt],T.MC,dn,#[Uk]]]],#[pi],#[sK],(fun _ _ _ _=>#[zq,pM,#[ut],T.Mz,o6.kp,pL,#[zZ],#[za,#[zbs,(zmj (K:=K) rfl),#[wP],#[zbI,#[xL]],#[zb8]],#[ya,#[zm,#[zbe,(K)],T.MC,dn,#[U4]]]]])]],#[zd,#[zl,6,zJ.nd,#[A],#[zab,#[ya,#[zaZ,#[zfo,#[za,#[zg],#[za,#[zi,#[zfm],#[Qk],#[wP]],#[ya,#[Qk]]]]]]]]],#[zd,#[zao,bR,#[zO,T.Lw,#[U4]],#[zf,7,zJ.nd,#[A]],#[zk,(@zjc _ _ _ _ _ _ _ _ _ _ _ _ _ _ _ _ _ _ _ _ _ (6) _ _ _ zJ.nd rfl #[A] (Lu.of (N':=["pick","longer","p","ordered","rests","least"]) (ix:=[none,none,some 0,some 4,some 5,some 3]) (zh zap) _ rfl rfl rfl) rfl (zdM (js:=[0]) (i:=0) #[D]) (zdM (js:=[1]) (i:=1) #[D]) #[D] #[D] #[zai,#[Rt]] #[pi] #[sK] (fun _ _ _ _=>#[zir,(K),#[zq,ui,#[ut],T.N1,qO.kp,uh,#[zZ],#[za,#[FB],by exact #[za,#[KB],by exact #[za,#[QQ],#[za,#[Rj],#[Ta]]]]]]]) (fun _ _ _ _=>#[zf,1,#[Y],#[A]]) #[sK] (fun _ _ _ _=>#[wP]) (by rfl) (by intro _; rfl) (by intros; rfl) (by trivial))]],#[zd,#[zl,8,zJ.nd,#[A],#[zid]],#[zd,#[zao,bR,#[zai,#[Rt]],#[zaI,#[zj,#[zf,9,zJ.nd,#[A]],#[zj,#[zf,10,zJ.nd,#[A]],#[zj,#[zf,11,zJ.nd,#[A]],#[zj,#[zf,12,zJ.nd,#[A]],#[zI]]]]]],#[zd,#[zl,13,zJ.nd,#[A],#[zaR,#[zbd],T.Nn,jl,#[ya,#[pvx,11]]]],#[zk,#[zg3,hu,#[Tv],#[pvx,13],#[zm,#[zeh],T.O5,g9,#[za,#[Xe],#[ya,#[zfx,hu,#[Tv],#[pvx,13],#[zg],⟨rfl,rfl,rfl,rfl⟩]]]]]]]],#[zk,#[zA,#[Tv]]]]]]]]],?_⟩;refine zn9 ?_; intro Hl Ei yG uf qv qk;have qu:=bN;have rp:=zC hp;have uz:=hT.length;obtain⟨ps0,J8⟩:=wI.at_;have JV:a≠t.tab:=fun e=>by rw [e,J8] at ha; cases ha
  refine #[QK,⟨a,bs,rfl,ha,#[O],(fun b hb=>?_),wI,fun D uc H2 hpm s2' ud hD=>?_⟩]
  ·obtain⟨i,hi,e⟩:=fj hb;obtain⟨z,_,h2⟩:=Paired.get hT (aJ hi);rw [e] at h2;exact⟨_,_,_,h2⟩
  have s2:zr #[Ua] H2:=fun b o e=>by
   by_cases hb:b=t.tab
   ·rw [hb] at e; unfold hide at e; rw [if_pos rfl] at e; cases e
   ·unfold hide at e; rw [if_neg hb] at e; exact s2' b hb o e
  obtain⟨us,pk,hTu⟩:=ziC hpm (hT.hid J8);have FU:=hW.perm pk;have tL:=pk.length_eq;have J9:=hTu.length;have J':TbA t H2:=ud;have u3:=zc (o:=.lst (uc.map V.ref)) hD;have B6:oG H2 D #[S0] D=some #[S0]:=zb;have xm:=(T3.same s2 hTu).same u3;have B0:=J'.same u3;have s3:=s2.trans u3;generalize oG H2 D #[S0]=H3 at u3 B6 xm B0 s3 |-;refine #[QK,⟨D,#[QK,⟨.inl (oE.of B6),#[QK,⟨by rw [aA]; lia,by rw [aA]; lia,?_⟩]⟩]⟩];rw [aA,cB];refine zW (n:=uc.length) (fun i ys H'=>∃ R:List Int,ys=R.map V.int/\R.length=i/\zr H3 H') ⟨[],rfl,rfl,fun _ _ e=>e⟩ #[On] #[GE] ?_ ?_
  ·rintro zS zT zE i xx ys H4 H5 hi ⟨R,rfl,Hn,s4⟩ ⟨rfl,rfl⟩;refine gY #[QKKK,⟨D,#[QK,⟨oE.of (s4 _ _ B6),fun z hz=>?_⟩]⟩];rw [show (0:Int)+(i:Int)=(i:Int) by lia,ziB (by rw [aA]; lia),<- jP];have v5:=zc (o:=.lst ((uc.drop i).map V.ref)) hz;refine #[QK,⟨D,#[QK,⟨.inl (oE.of ((s4.trans v5) _ _ B6)),z,us.length,uc.drop i,us.drop i,?_,zb,zeG i (xm.same (s4.trans v5)),by rw [fq]; lia,fun v H6 s6=>?_⟩]⟩]
   ·rw [aA,J9]; rfl
   exact⟨by rw [aA]; lia,R++[v],by rw [aN]; rfl,by rw [aS,Hn]; rfl,s4.trans (v5.trans s6)⟩
  rintro ys H4 rl ⟨R,rfl,Hn,s4⟩ ug;have u5:=zc (o:=.lst (R.map V.int)) ug;have B8:oG H4 rl #[Tn] rl=some #[Tn]:=zb;have FV:=s4.trans u5;generalize oG H4 rl #[Tn]=H5 at u5 B8 FV |-;refine⟨by show 1<=sizeLine; lia,fun z0 Ar=>#[QK,(ex3 z0 _ ([.int 0]) ⟨rfl,rfl,zb,#[O],#[O],by show 1*_<=sizeLine; lia,fun z1 vn=>⟨by show 1<=sizeLine; lia,fun z2 wA=>⟨by show 4<=sizeLine; lia,fun z3 Ed=>⟨by show 1<=sizeLine; lia,fun z4 hz4=>?_⟩⟩⟩⟩)]⟩;rw [zhZ,cB] at wA Ed hz4 |-;have w0:=zc (o:=.lst [.int 0]) Ar;have w1:=zc (o:=.lst ((aV k 0).map V.int)) vn;have w2:=zc (o:=.lst [.int 1]) wA;have w3:=zc (o:=.tup [.int 0,.int 0,.ref z1,.ref z2]) Ed;have w4:=zc (o:=.lst [.ref z3]) hz4;have Ho:=(w2.trans (w3.trans w4)) _ _ zb;have FW:=(w3.trans w4) _ _ zb;have Hq:=w4 _ _ zb;have Hr:oG (oG (oG (oG (oG H5 z0 (.lst [.int 0])) z1 (.lst ((aV k 0).map V.int))) z2 (.lst [.int 1])) z3 (.tup [.int 0,.int 0,.ref z1,.ref z2])) z4 (.lst [.ref z3]) z4=some (.lst ([z3].map V.ref)):=zb;have En:=w0.trans (w1.trans (w2.trans (w3.trans w4)));generalize oG (oG (oG (oG (oG H5 z0 (.lst [.int 0])) z1 (.lst ((aV k 0).map V.int))) z2 (.lst [.int 1])) z3 (.tup [.int 0,.int 0,.ref z1,.ref z2])) z4 (.lst [.ref z3])=H6 at Ho FW Hq Hr En |-;have h6D:=#[Wy] _ _ B6;have Bk:=En _ _ B8;have Ka:=xm.same #[Wy];have hB6:=B0.same #[Wy];have sA6:=s3.trans #[Wy];refine #[WV];rw [cB];refine zah (lo:=0) (n:=k) (fun i σ H'=>∃ (c:Addr) (ds:TF) (vO:List Pk) (e7:Option V),σ = [some #[Ru],some (.int (k:Int)),some #[QD],some (.int T'),some #[QB],some (.ref rl),some #[WF],e7,none,none,none,none,none,none]/\zr H6 H'/\H' c=some #[QJ]/\PkB H' p k ds vO/\PU p us i vO)
   ⟨z4,[z3],[(0,[])],none,rfl,fun _ _ e=>e,Hr,.cons ⟨z1,z2,Hq,Ho,FW⟩ .nil,zjo⟩ ?_ ?_
  ·rintro zD zT i σ H7 hi ⟨c,ds,vO,e7,rfl,s7,vS,Eo,hP⟩;have wJ:=Eo.length;refine #[QK,⟨c,rfl,⟨_,oE.of vS⟩,zkf (n:=ds.length) (fun i' ys H'=>∃ (es:TF) (rM:List (List Pk)),ys=es.map V.ref/\zr H7 H'/\Paired (PV us) (vO.take i') rM/\PkB H' p k es rM.flatten) ⟨[],[],rfl,fun _ _ e=>e,.nil,.nil⟩ ?_ ?_ ?_ ?_⟩]
   ·rintro i' ys H8 qj ⟨es,rM,_,s8,_⟩;exact⟨_,.ref ds[i'],oE.of (s8 _ _ vS),by rw [aF,aJ qj]; rfl⟩
   ·rintro ys H8 ⟨es,rM,_,s8,_⟩;exact⟨_,oE.of (s8 _ _ vS),by rw [aA]; exact aG _⟩
   ·rintro i' y ys H8 H9 qj ⟨es,rM,rfl,s8,C3,vm⟩ ⟨rfl,hy⟩;obtain⟨pb,rfl,FX⟩:=z6 (hy _ (oE.of (s8 _ _ vS)));obtain⟨cc,pT,pJ⟩:=Paired.get Eo FX;have s79:=s7.trans s8;have Kb:=s7.trans s8;refine gY #[QKKKKK,(zrD D rl pb p T' k i cc uc us R ⟨rfl,Kb _ _ h6D,Ka.same Kb,Kb _ _ Bk,#[O],pJ.same s8,hP.ok cc (aO pT),hi,k5,FU,hp,#[O],fun l ds' res C4 hl Ep Hs FY B5=>?_⟩)];have Kc:=FY.length;have ye:=zgH C3;have Ej:=hP.ln;have hnl:=B5.ln;have h1i:(vO.take i').length=i':=by rw [bC]; lia
    rw [h1i] at ye;have hbnd:i'*us.length+us.length<=1000000\/us.length=0:=by
     by_cases h0:us.length=0
     ·exact .inr h0
     ·left;have g1:(i'+1)*us.length<=us.length ^ i*us.length:=g8 _ #[O];have g2:us.length ^ i*us.length<=us.length ^ k:=by rw [<- Nat.pow_succ]; exact lK #[O] hi
      have g3:us.length ^ k<=1000000:=by rw [tL]; exact B7
      rw [Nat.add_mul,Nat.one_mul] at g1;lia
    refine⟨l,rfl,⟨_,oE.of Hs⟩,zkf (n:=ds'.length) (fun j ys H'=>∃ B9:List Addr,ys=B9.map V.ref/\zr C4 H'/\PkB H' p k B9 (rM.flatten++res.take j)) ⟨es,rfl,fun _ _ e=>e,by rw [gV,du]; exact vm.same Ep⟩ ?_ ?_ ?_ ?_⟩
    ·rintro j ys FZ hj ⟨B9,_,yf,_⟩;exact⟨_,.ref ds'[j],oE.of (yf _ _ Hs),by rw [aF,aJ hj]; rfl⟩
    ·rintro ys FZ ⟨B9,_,yf,_⟩;exact⟨_,oE.of (yf _ _ Hs),by rw [aA]; exact aG _⟩
    ·rintro j y ys FZ H12 hj ⟨B9,rfl,yf,yM⟩ ⟨rfl,hy⟩;obtain⟨eb,rfl,heb⟩:=z6 (hy _ (oE.of (yf _ _ Hs)));obtain⟨cj,hcj,Kd⟩:=Paired.get FY heb;have Ke:=yM.length;rw [aS,bC] at Ke;refine gY #[QK,⟨by rw [aA]; lia,B9++[eb],by rw [aN]; rfl,yf,?_⟩];rw [take_snoc hcj,<- cE];exact dE yM (Kd.same yf)
    ·rintro ys FZ ⟨B9,rfl,yf,yM⟩;rw [Kc,dW] at yM;refine⟨B9,rM++[res],rfl,s8.trans (Ep.trans yf),?_,?_⟩
     ·rw [take_snoc pT];exact dE C3 B5
     ·rw [List.flatten_append];simpa using yM
   ·rintro ys H8 ⟨es,rM,rfl,s8,C3,vm⟩ D2 Bl;rw [wJ,dW] at C3;have v9:=zc (o:=.lst (es.map V.ref)) Bl;exact (ex4 D2 es rM.flatten _ ⟨rfl,s7.trans (s8.trans v9),zb,vm.same v9,zlw FU hP C3⟩)
  ·rintro σ H7 ⟨c,ds,vO,e7,rfl,s7,vS,Eo,hP⟩;have wJ:=Eo.length;have pN:=hP.ln;rw [tL] at pN;intro d hd;have w8:=zc (o:=.dT []) hd;have h8d:oG H7 d (.dT []) d=some (.dT []):=zb;have h8c:=w8 _ _ vS;have Kf:=Eo.same w8;generalize oG H7 d (.dT [])=H8 at w8 h8d h8c Kf |-;have sL:c≠d:=fun e=>by rw [e,hd] at vS; cases vS
   refine⟨_,rfl,c,rfl,⟨_,oE.of h8c⟩,zbA (K:=K) (a:=c) (xs:=ds.map V.ref) (fun i σ H'=>∃ (kvs:List (List Key×V)) (o9:List #[wE]) (e9 sO vT qN rN:Option V),σ = [some #[Ru],some (.int (k:Int)),some #[QD],some (.int T'),some #[QB],some (.ref rl),some #[WF],e7,some (.ref d),e9,sO,vT,qN,rN]/\zr H7 H'/\H' d=some #[QZ]/\KeysAre kvs o9/\o9.Nodup/\o9.length<=i/\(∀ x,x∈o9↔∃ cc∈vO.take i,x=(pkP p k cc.2).1)/\∀ f∈o9,∃ v,zaO kvs (f.map cM)=some (.int v)/\v<=wsum p f us)
    ⟨[],[],none,none,none,none,none,rfl,w8,h8d,rfl,#[M],aG _,fun x=>by simp,fun f hf=>by cases hf⟩ (fun i σ H' _ hq=>by obtain⟨_,_,_,_,_,_,_,_,s3,_⟩:=hq; exact oE.of (s3 _ _ vS)) ?_ ?_⟩
   ·rintro zD zT i y σ H9 hy ⟨kvs,o9,e9,sO,vT,qN,rN,rfl,s9,Kg,vA,qF,Ef,si,xn⟩;obtain⟨pb,rfl,FX⟩:=z6 hy;obtain⟨cc,pT,pJ⟩:=Paired.get Eo FX;obtain⟨la,lv,g1,g2,g3⟩:=pJ.same s9;have hok:=hP.ok cc (aO pT);obtain⟨hiP,hwle⟩:=zns hp FU hok;have Kh:kvs.length=o9.length:=by
     have:=congrArg eX vA;rw [aA,aA] at this;exact this
    have As:i < vO.length:=(aK.mp pT).1;refine⟨pb,_,rfl,oQ.of g1,rfl,_,_,rfl,_,_,rfl,_,_,rfl,_,_,rfl,rfl,?_⟩;refine #[QK,⟨la,#[QK,(.inl ⟨oE.of g2,fun kt F0=>?_⟩)]⟩];have v10:=zc (o:=.tup ((pkP p k cc.2).1.map V.int)) F0;have F4:oG H9 kt (.tup ((pkP p k cc.2).1.map V.int)) kt=some (.tup ((pkP p k cc.2).1.map V.int)):=zb;have Bm:=v10 _ _ Kg;generalize oG H9 kt (.tup ((pkP p k cc.2).1.map V.int))=C4 at v10 F4 Bm |-;have F5:C4 kt=some (.tup (((pkP p k cc.2).1.map cM).map kV)):=by rw [F4,cV]; rfl
    refine #[QKK,⟨d,rfl,.inr ⟨kvs,.inl Bm⟩,#[QK,⟨_,zeM.t Bm F5,?_⟩]⟩];obtain⟨g,hg,hgle⟩:∃ g:Int,(zaO kvs ((pkP p k cc.2).1.map cM)).getD (.int 0) = .int g/\g<=wsum p (pkP p k cc.2).1 us:=by
     by_cases rW:(pkP p k cc.2).1∈o9
     ·obtain⟨v,h1,h2⟩:=xn _ rW;exact⟨v,by rw [h1]; rfl,h2⟩
     ·have F6:zaO kvs ((pkP p k cc.2).1.map cM)=none:=by
       cases e:zaO kvs ((pkP p k cc.2).1.map cM) with
       | none=>rfl
       | some v =>
        exfalso;unfold zaO at e;rw [et] at e;obtain⟨x,hx,_⟩:=e;have h1:=List.mem_of_find?_eq_some hx;have Ki:=List.find?_some hx;have h2:x.1=(pkP p k cc.2).1.map cM:=of_decide_eq_true Ki;have h3:x.1∈kvs.map (·.1):=gD h1;rw [vA,h2] at h3;obtain⟨y,G7,G8⟩:=aQ.mp h3;exact rW (ze6 G8 ▸ G7)
      refine⟨0,by rw [F6]; rfl,?_⟩;exact zqw fun x hx=>(FU.rg x (cK.mp hx).1).2.2.2.2
    rw [hg];refine⟨_,_,rfl,#[QKK,⟨d,#[QK,⟨zk8.t Bm F5 #[O],?_⟩]⟩]⟩;obtain⟨uR,m1,m2,m3,m4⟩:=ziq vA qF (pkP p k cc.2).1 (.int (if g > wts cc.2 then g else wts cc.2));refine (ex7 _ uR _ _ _ _ _ ⟨rfl,z7 (s9.trans v10) hd,zb,m1,m2,#[O],fun x=>?_,fun f hf=>?_⟩)
    ·rw [m4 x,si x,take_snoc pT];constructor
     ·rintro (⟨c',h1,h2⟩ | e)
      ·exact⟨c',bM _ h1,h2⟩
      ·exact⟨cc,bG _ (cW.mpr rfl),e⟩
     ·rintro⟨c',h1,h2⟩;rcases bZ.mp h1 with h1 | h1
      ·exact .inl ⟨c',h1,h2⟩
      ·rw [cW.mp h1] at h2;exact .inr h2
    ·by_cases Kj:f=(pkP p k cc.2).1
     ·subst Kj;refine⟨_,zd8 ..,?_⟩;split <;> assumption
     ·rcases (m4 f).mp hf with h1 | h1
      ·obtain⟨v,h2,h3⟩:=xn f h1;exact⟨v,by rw [zfI (fun e=>Kj (ze6 e))]; exact h2,h3⟩
      ·exact absurd h1 Kj
   ·rintro σ H9 ⟨kvs,o9,e9,sO,vT,qN,rN,rfl,s9,Kg,vA,qF,Ef,si,xn⟩;rw [aA,wJ] at Ef si;rw [dW] at si;refine #[QK,(q d kvs o9 H9 ?_ (sA6.trans (s7.trans s9)) (hB6.same (s7.trans s9)) Kg vA #[O] (fun f hf=>?_) fun f hf=>?_)]
    ·by_cases e:d=t.tab
     ·rw [e] at hd;obtain⟨ps,CN⟩:=hB6.at_;rw [s7 _ _ CN] at hd;cases hd
     ·have:=(sA6.trans s7).free hd;unfold hide at this;rw [if_neg e] at this;exact this
    ·obtain⟨cc,h1,rfl⟩:=(si f).mp hf;exact (zns hp FU (hP.ok cc h1)).1
    ·obtain⟨v,h1,h2⟩:=xn f hf;exact⟨v,h1,by rw [<- zlu pk]; exact h2⟩
theorem znx {p:Int} {ts:List Wt3} (qF:pl.Nodup) (pN:∀ x∈pl,0<=x/\x < p) (h1:(ts.map pt).Nodup) (h2:∀ q∈ts,0<=q.1/\q.1 < pl.length/\0<=q.2.1/\q.2.1 < p/\0<=q.2.2):Wp p #[xz]:=by
 have hg:∀ q∈ts,∃ hn:q.1.toNat < pl.length,pl.getD q.1.toNat 0=pl[q.1.toNat]:=fun q hq=>by
  obtain⟨z0,z1,_⟩:=h2 q hq;have hn:q.1.toNat < pl.length:=by lia
  exact⟨hn,by rw [bE,aJ hn]; rfl⟩
 refine⟨?_,fun q hq=>?_⟩
 ·rw [cV,cJ,di];rw [cJ,di] at h1;refine iz (fun {a b} ha hb n e=>n ?_) h1;obtain⟨na,ea⟩:=hg a ha;obtain⟨nb,eb⟩:=hg b hb;have e1:pl.getD a.1.toNat 0=pl.getD b.1.toNat 0:=congrArg oq e;have e2:a.2.1=b.2.1:=congrArg lI e;rw [ea,eb] at e1;have e3:=(nh qF).mp e1;have:=(h2 a ha).1;have:=(h2 b hb).1;have e4:a.1=b.1:=by lia
  unfold pt;rw [e4,e2]
 ·obtain⟨z,hz,rfl⟩:=aQ.mp hq;obtain⟨nz,ez⟩:=hg z hz;obtain⟨_,_,a,b,c⟩:=h2 z hz;have:=pN _ (ef nz);rw [<- ez] at this;exact⟨this.1,this.2,a,b,c⟩
structure Gss (p:Int) (pl:TD) (ts:List Wt3):Prop where
 nd:(ts.map pt).Nodup
 rg:∀ q∈ts,0<=q.1/\q.1 < pl.length/\0<=q.2.1/\q.2.1 < p/\0<=q.2.2
noncomputable def zlC (t:Adr) (K:aD):Sp:=fun vs H Q E=>∃ (c tt g:Addr) (p T:Int) (k:Nat) (pl:TD) (bs:TF) (ts:List Wt3),vs = [.ref c,.ref g,.int T]/\zck H c tt p k pl/\H g=some #[wr]/\T3 H bs ts/\Gss p pl ts/\p∈zw/\pl.Nodup/\(∀ x∈pl,0<=x/\x < p)/\1<=k/\k<=5/\ts.length<=30/\ts.length ^ k<=1000000/\TbA t H /\
 (∀ H',zr H H'->E (.ref t.Nr) none H')/\∀ (l:Addr) (rs:TF) (qs:List #[wE]) (H':Hp),H l=none->zr #[Ua] H'->TbA t H'->H' l=some (.lst #[VC])->zb7 H' rs qs->qs.length<=1000000->(∀ q∈qs,IsP p k q/\T<=wsum p q #[xz])->Q #[RB] H'
theorem zcy:KE ["code","guesses","least","p","k","places","points","found"] ["code","guesses","least"] (zh zdi):=#[S]
theorem zny (T:Txt K mg base t) (F:Fun K "heavy" "heavy" zdi t.OZ fd):LG P w K mg base (CX1 P w) 5 t.OZ fd ["code","guesses","least"] (zlC t K):=by
 obtain⟨qE,oW,pf⟩:=T.Ly;have ph:=zb5 (P:=P) (w:=w) (base:=base) T oW;obtain⟨sk,o6,pL⟩:=T.LH;have pM:=zc7 (P:=P) (w:=w) (base:=base) T o6;obtain⟨wK,pR,rh⟩:=T.LD;have rj:=zd9 (P:=P) (w:=w) (base:=base) T pR;obtain⟨Bn,rG,uW⟩:=T.Mo;have uX:=zho (P:=P) (w:=w) (base:=base) T rG;refine F.okX zcy #[pc] #[dl]
 ·obtain⟨c,tt,g,p,T',k,pl,bs,ts,rfl,_⟩:=h;rfl
 ·obtain⟨c,tt,g,p,T',k,pl,bs,ts,rfl,hc,hg,hT,hG,hp,qF,pN,k1,k5,hn,B7,wI,qx,q⟩:=h;have hu:(A.deeper (envOfC (cN "heavy") (zh zdi) s.heap.objs.size t.OZ oU)).units+1 < cLine:=by have:=hr.units; lia
  refine zaJ ?_; intro zX;refine⟨_,#[zd,#[zaY,#[xL],#[zaI,#[zj,#[zf,3,zcy.nd,#[Q0]],#[zj,#[zf,4,zcy.nd,#[A]],#[zj,#[zf,5,zcy.nd,#[A]],#[zI]]]]]],#[zd,#[zl,6,zcy.nd,#[Q0],#[zq,ph,#[ut],T.LR,oW.kp,pf,#[zZ],#[Pi]]],#[zd,#[zaX,#[zK,#[zpd],#[FB],#[zq,pM,#[ut],T.Mz,o6.kp,pL,#[zZ],#[za,#[Rt],#[ya,#[zm,#[zeh],T.O5,g9,#[za,#[zi,#[zaa],#[QQ],#[zg]],#[ya,#[zg]]]]]]],(zY _)],#[zk,#[zh4,#[Ux],T.Nt,T.NU,#[zfg]]],#[zal]],#[zd,#[zl,7,zcy.nd,#[Q0],#[zq,rj,#[ut],T.MP,pR.kp,rh,#[zZ],#[za,#[KB],by exact #[za,#[QQ],#[za,#[Rt],#[QF]]]]]],#[zk,#[zA,#[zU,(Lu.of (N':=["polynomial","found","least","p","points"]) (ix:=[none,some 7,some 2,some 3,some 6]) (zh zdi) _ rfl rfl rfl),#[zar],#[zai,#[zm,(@zha _ rfl),T.Ol,ng,#[ya,#[TW]]]],#[pi],(fun _ _ _ _=>#[zb2,(@PW.pt _ _ _ #[zhE,#[zK,#[zgf],#[zj4,hu,#[wP],#[xL]],#[FB],(zY _)],#[ziQ,#[zK,#[zgf],#[zq,uX,#[ut],T.Oq,rG.kp,uW,#[zZ],#[za,#[KB],#[za,#[QQ],#[Ta]]]],#[FB],(zY _)]]])]),#[R7]]]]]]]],?_⟩;refine zmb ?_; intro yG uf qv qk;have qu:=bN;have rp:=zC hp;have hW:=znx qF pN hG.nd hG.rg;refine⟨_,rfl,c,_,rfl,oQ.of hc.1,rfl,_,_,rfl,_,_,rfl,_,_,rfl,rfl,?_⟩;refine #[QKK,(ex8 c tt g p k pl bs ts ⟨rfl,hc,hg,hT,#[O],(fun z hz=>⟨#[VB].1,#[VB].2.1⟩),fun l ds H1 hl s1 h1 Ht=>?_⟩)];refine #[QKKKR,⟨_,_,rfl,l,k - 1,ds,_,?_,h1,Ht,by rw [aA]; lia,fun v H2 s2=>?_⟩]
  ·have e:(if (0:Int) > (k:Int) - 1 then (0:Int) else (k:Int) - 1)=((k - 1:Nat):Int):=by split <;> lia
   rw [e]; rfl
  refine #[QRK,?_];refine zaD (fun _=>⟨rfl,qx H2 (s1.trans s2)⟩) #[AC];have uV:=s1.trans s2;have uQ:=wI.same uV;obtain⟨ps2,JM⟩:=uQ.at_;have Hu:=s2 _ _ h1;have ud:=Ht.same s2;refine #[QKKKK,(ex6 l p T' k ds _ ⟨rfl,Hu,ud,hW,hp,k1,k5,by rw [aA]; lia,by rw [aA]; exact B7,uQ,fun d kvs o9 H3 hd s3 B0 h3d vA Ef hP xn=>?_⟩)];have hlT:l≠t.tab:=fun e=>by rw [e,JM] at Hu; cases Hu
  have h3l:=s3 _ _ (zbj Hu hlT);have xm:=(ud.hid JM).same s3;refine #[QK,(ex5 d k p kvs o9 ⟨rfl,h3d,vA,hP,k1,#[O],fun l2 rQ qc se hpair Kk=>?_⟩)];have v4:=zc (o:=.lst (rQ.map fun q=>V.ref q.1)) qc;have Er:oG H3 l2 (.lst (rQ.map fun q=>V.ref q.1)) l2=some (.lst ((rQ.map (·.1)).map V.ref)):=by rw [zb,cV]; rfl
  have oO:=se.length_eq;rw [aA] at oO;have F7:zb7 (oG H3 l2 (.lst (rQ.map fun q=>V.ref q.1))) (rQ.map (·.1)) (rQ.map (·.2)):=zb7.of fun z hz=>v4 _ _ (Kk z hz)
  have h4d:=v4 _ _ h3d;have Bo:=v4 _ _ h3l;have F8:=xm.same v4;have Kl:=B0.same v4;have s4:=s3.trans v4;generalize oG H3 l2 (.lst (rQ.map fun q=>V.ref q.1))=H4 at v4 Er F7 h4d Bo F8 Kl s4 |-;have yN:∀ z,z∈rQ.map (·.2)↔z∈o9:=fun z=>se.mem_iff
  obtain⟨rs,C3⟩:∃ rs,rQ.map (·.1)=rs:=⟨_,rfl⟩;obtain⟨qs,Bp⟩:∃ qs,rQ.map (·.2)=qs:=⟨_,rfl⟩;rw [C3] at Er F7;rw [Bp] at F7 yN;have ug:=F7.length;have hql:qs.length=o9.length:=by rw [<- Bp,aA]; exact oO
  refine⟨l2,rfl,⟨_,oE.of Er⟩,zW (n:=rs.length) (fun i ys H'=>zr H4 H'/\∃ us:List Addr,ys=us.map V.ref/\us.length<=i/\zb7 H' us ((qs.take i).filter fun x=>decide #[QY])) ⟨fun _ _ e=>e,[],rfl,aG _,.nil⟩ ?_ ?_ ?_ ?_⟩
  ·rintro i ys H5 hi ⟨s5,_⟩;exact⟨_,.ref rs[i],oE.of (s5 _ _ Er),by rw [aF,aJ hi]; rfl⟩
  ·rintro ys H5 ⟨s5,_⟩;exact⟨_,oE.of (s5 _ _ Er),by rw [aA]; exact aG _⟩
  ·rintro zS zT zE i y ys H5 H6 hi ⟨s5,us,rfl,tL,pk⟩ ⟨rfl,hy⟩;obtain⟨rb,rfl,Bq⟩:=z6 (hy _ (oE.of (s5 _ _ Er)));obtain⟨qq,C5,pJ⟩:=Paired.get F7 Bq;obtain⟨v',He,Hf⟩:=xn qq ((yN qq).mp (aO C5));have Km:zeM H6 d (.ref rb) (some (.int v')):=by
    have:=zeM.t (k:=qq.map cM) (b:=rb) (s5 _ _ h4d) (by rw [s5 _ _ pJ,cV]; rfl);rw [He] at this;exact this
   have CA:(qs.take (i+1)).filter #[Vb]=(qs.take i).filter #[Vb]++[qq].filter #[Vb]:=by rw [take_snoc C5,gK]
   have yes:∀ H',zr H6 H'->T'<=wsum p qq #[xz]->#[EQ].length < sizeLine/\zr H4 H'/\∃ C6:List Addr,us.map V.ref++[V.ref rb]=C6.map V.ref/\C6.length<=i+1/\zb7 H' C6 ((qs.take (i+1)).filter fun x=>decide #[QY]):=fun H' s' h=>by
    refine⟨by rw [aA]; lia,s5.trans s',us++[rb],by rw [aN]; rfl,by rw [aS]; exact fS tL,?_⟩;rw [CA,fP (p:=fun x=>decide #[QY]) #[Rh]];exact dE (pk.same s') ((s5.trans s') _ _ pJ)
   refine #[QKK,⟨d,#[QK,⟨Km,#[Ur]⟩]⟩];refine zaD (fun h=>?_) (fun h=>?_)
   ·exact #[QK,(yes H6 #[SH] (cX (of_decide_eq_true h) Hf))]
   refine #[QKKK,(ex6 l rb p qq ds _ ⟨rfl,s5 _ _ Bo,F8.same s5,s5 _ _ pJ,by rw [aA]; lia,#[O],#[O],(fun z hz=>⟨#[VA].1,#[VA].2.1⟩),fun H7 s7=>?_⟩)];refine #[Ur];refine zaD (fun h=>#[QK,(yes H7 s7 (of_decide_eq_true h))]) (fun h=>⟨s5.trans s7,us,rfl,#[O],?_⟩);rw [CA,fQ (p:=fun x=>decide #[QY]) (fun z=>h (decide_eq_true (of_decide_eq_true z))),gL,du];exact pk.same s7
  ·rintro ys H5 D ⟨s5,us,rfl,tL,pk⟩ hD;rw [ug,dW] at pk;have v6:=zc (o:=.lst #[EQ]) hD;have sA:=s4.trans (s5.trans v6);refine q D us _ _ ?_ (fun b o e=>?_) (Kl.same (s5.trans v6)) zb (pk.same v6) (cC (gh _ _) #[O]) fun x hx=>?_
   ·by_cases e:D=t.tab
    ·obtain⟨ps,CN⟩:=Kl.at_;rw [e,s5 _ _ CN] at hD;cases hD
    ·have:=(s4.trans s5).free hD;unfold hide at this;rw [if_neg e] at this;exact uV.free this
   ·refine sA b o ?_;unfold hide at e |-;by_cases hb:b=t.tab
    ·rw [if_pos hb] at e; cases e
    ·rw [if_neg hb] at e |-; exact uV _ _ e
   ·obtain⟨h1,h2⟩:=cK.mp hx;exact⟨hP x ((yN x).mp h1),of_decide_eq_true h2⟩
theorem zjt:KE ["p","vector","times","other"] ["p","vector","times","other"] (zh zcv):=#[S]
theorem zju (T:Txt K mg base t) (F:Fun K "without" "without" zcv t.without fd):LG P w K mg base CX0 1 t.without fd ["p","vector","times","other"] (zjf K):=by
 refine F.ok zjt #[pc] #[dl]
 ·obtain⟨p,tm,a,b,as,bs,rfl,_⟩:=h;rfl
 ·obtain⟨p,tm,a,b,as,bs,rfl,ha,hb,hl,hn,p0,t0,t1,q⟩:=h;refine zaJ ?_; intro zX;refine⟨_,#[zk,#[zA,#[zU,(Lu.of (N':=["number","less","times","p"]) (ix:=[none,none,some 2,some 0]) (zh zcv) _ rfl rfl rfl),#[RC],#[zdN,T.Pl,#[za,#[wP],#[Ul]]],#[o0],#[sK],#[UC]]]],?_⟩;have qu:=bN;refine #[QKK,(ex4 a b _ _ ⟨rfl,oE.of ha,oE.of hb,zel (n:=as.length) (f:=fun x y=>(x - tm*y) % p) ha hb (aG _) #[O] (.inl (aG _)) #[O] ?_ ?_⟩)]
  ·intro j u w H6 T R B hu hv s6 hT hR;refine gY2 #[WI] ?_;exact #[QKKKR,#[Su]]
  ·intro D H6 s6 hD;exact q D _ (s6.free hD) (s6.trans (zc hD)) zb
noncomputable def zdE (K:aD):Sp:=fun vs H Q _=>∃ (p:Int) (a:Addr) (ls:TF) (vv:List #[wE]) (L:Nat),vs = [.int p,.ref a]/\H a=some #[Ix]/\LsA H ls vv/\vv≠[]/\vv.length<=200/\L<=800/\(∀ v∈vv,v.length=L/\∀ c∈v,0<=c/\c < p)/\p∈zw /\
 (∀ H',zr H H'->Indep p L vv->Q .non H')/\(∀ (l:Addr) (c:TD) (m:Nat) (H':Hp),H l=none->zr H H'->H' l=some (.lst #[Rz])->IsP p (m+1) c->m < vv.length->gl c m=1->Dep p L vv c->zoM p L m vv->Q #[RB] H')
theorem zN:KE ["p","vectors","length","cleared","count","vector","whole","lead","other","leads","factor"] ["p","vectors"] (zh zaz):=#[S]
theorem zea (T:Txt K mg base t) (F:Fun K "first_relation" "first_relation" zaz t.LC fd):LG P w K mg base CX0 2 t.LC fd ["p","vectors"] (zdE K):=by
 obtain⟨C7,tM,xo⟩:=T.M3;have xp:=zju (P:=P) (w:=w) (base:=base) T tM;obtain⟨vR,pQ,qZ⟩:=T.ME;have rf:=zfG (P:=P) (w:=w) (base:=base) T pQ;refine F.ok zN #[pc] #[dl]
 ·obtain⟨p,a,ls,vv,L,rfl,_⟩:=h;rfl
 ·obtain⟨p,a,ls,vv,L,rfl,ha,rO,oZ,hN,hL,Hh,hp,qn,qs⟩:=h;refine zaJ ?_; intro zX;refine⟨_,#[zd,#[zl,2,zN.nd,#[A],#[zm,#[zt],T.MC,dn,#[ya,#[zM,#[zB],#[wP],#[zg]]]]],#[zd,#[zl,3,zN.nd,#[A],#[Q9]],#[zd,#[zao,bR,#[zhO,T.Mk,#[U4]],#[zaI,#[zj,#[zf,4,zN.nd,#[A]],#[zj,#[zf,5,zN.nd,#[A]],#[zI]]]],#[zd,#[zl,6,zN.nd,#[Q0],#[zi,#[zcW],#[Rj],#[zi,#[zfm],#[Qk],#[GT]]]],#[zd,#[zaY,#[zg],#[zeg,#[Rt],#[zi,#[zz],#[FB],#[QQ]],set_list]],#[zd,#[zao,bR,#[zai,#[KB]],#[zaI,#[zj,#[zf,7,zN.nd,#[A]],#[zj,#[zf,8,zN.nd,#[A]],#[zI]]]],#[zk,#[zl,6,zN.nd,#[Q0],#[zq,xp,#[ut],T.OR,tM.kp,xo,#[zZ],#[za,#[xL],by exact #[za,#[Rt],#[za,#[zM,#[zB],#[Rt],#[TW]],#[ya,#[Tv]]]]]]]]],#[zd,#[zbm,9,zN.nd,#[A],(Lu.of (N':=["at","whole"]) (ix:=[none,some 6]) (zh zaz) _ rfl rfl rfl),#[zar],#[VH],#[pi],(fun _ _ _ _=>#[zb2,#[zK,#[zdG],#[Wd],#[zg],(zY _)]]),#[R7]],#[zd,#[zaX,#[zgK,(@zl4 _ _ _ #[UE] (fun _=>rfl))],#[zk,#[zA,#[zbs,zbX,#[Rt],#[zbI,#[FB]],#[zbI,#[zi,#[zz],#[zi,#[zz],#[FB],#[QQ]],#[zg]]]]]],#[zal]],#[zd,#[zl,10,zN.nd,#[Q0],#[zq,rf,#[ut],T.Ob,pQ.kp,qZ,#[zZ],#[za,#[xL],#[ya,#[zM,#[zB],#[Rt],#[zM,#[zB],#[UE],#[zg]]]]]]],#[zk,#[zbH,#[zcR,cO,d8,d9,#[zbz],#[KB],#[ya,#[zaZ,#[za,#[zM,#[zB],#[UE],#[zg]],#[ya,#[zU,(Lu.of (N':=["number","factor","p"]) (ix:=[none,some 10,some 0]) (zh zaz) _ rfl rfl rfl),#[zar],#[zai,#[Rt]],#[pi],#[sK],(fun _ _ _ _=>#[zi,#[zL],#[zi,#[zH],#[xL],#[wP]],#[FB]])]]]]]]]]]]]]]]],#[zk,#[zA,#[zlU]]]]]],?_⟩;refine zhK ?_; intro uf qv qk;have qu:=bN;have rp:=zC hp;have p0:0 < p:=by lia
  have B4:=rO.length;have hN0:0 < vv.length:=jp.mpr oZ;obtain⟨l0,F9⟩:∃ l0,ls[0]? = some l0:=⟨ls[0]'#[O],#[M]⟩;obtain⟨v0,Kn,C8⟩:=Paired.get rO F9;have Ko:=(Hh v0 (aO Kn)).1;refine #[QK,(ex4 a _ _ (.ref l0) ⟨rfl,rfl,oE.of ha,z9 (j:=0) (by rw [aF,F9]; rfl),l0,#[QK,⟨.inl (oE.of C8),?_⟩]⟩)];rw [aA,Ko];refine⟨by show 0<=sizeLine; lia,fun ca C9=>?_⟩;have u1:=zc (o:=.lst []) C9;refine⟨_,rfl,a,_,rfl,oE.of (u1 _ _ ha),zdL (n:=vv.length) (fun i σ H'=>∃ (cs:TF) (cl:List (Nat×List Int)) (e4 e5 e6 e7 e8 e9 sO:Option V),σ = [some #[Ru],some #[QD],some (.int (L:Int)),some (.ref ca),e4,e5,e6,e7,e8,e9,sO]/\zr H H'/\H' ca=some #[Re]/\ClA ca H' cs cl/\Ech p L vv.length i vv cl)
   ⟨[],[],none,none,none,none,none,none,none,rfl,u1,zb,.nil,Ech.start p L vv.length vv⟩ ?_ ?_ ?_ ?_⟩
  ·rintro i σ H1 hi ⟨cs,cl,e4,e5,e6,e7,e8,e9,sO,rfl,s1,_⟩;exact⟨_,.ref (ls[i]'#[O]),oE.of #[Se],by rw [aF,aJ #[O]]; rfl⟩
  ·rintro σ H1 ⟨cs,cl,e4,e5,e6,e7,e8,e9,sO,rfl,s1,_⟩;exact⟨_,oE.of #[Se],by rw [aA]; lia⟩
  ·rintro zD zT i x σ H1 H2 hi ⟨cs,cl,e4,e5,e6,e7,e8,e9,sO,rfl,s1,F',rP,E⟩ ⟨T,v,hT,rfl,rfl,hv⟩;obtain⟨lv,rfl,hlv⟩:=z6 (hv _ (oE.of #[Se]));obtain⟨vec,Ga,hva⟩:=Paired.get rO hlv;obtain⟨wy,hvr⟩:=Hh vec (aO Ga);have t2:=zc (o:=.tup [.int (i:Int),.ref lv]) hT;refine#[RE];have s2:=s1.trans t2;have Kq:=t2 _ _ F';have Dc:=rP.same t2;generalize oG H1 T (.tup [.int (i:Int),.ref lv])=H2 at t2 s2 Kq Dc |-;refine #[QK,⟨by show 1<=sizeLine; lia,fun z hz=>#[QK,⟨a,#[QK,⟨.inl (oE.of ((s2.trans (zc hz)) _ _ ha)),z,_,[.int 0],rfl,rfl,zb,by rw [aA]; lia,by rw [aA]; lia,by rw [aA]; show 1*_<=sizeLine; lia,fun y hy=>?_⟩]⟩]⟩];rw [aA,zhZ,B4,cB];have t3:=(zc (o:=.lst [.int 0]) hz).trans (zc (o:=.lst ((aV vv.length (0:Int)).map V.int)) hy);have h3y:oG (oG H2 z (.lst [.int 0])) y (.lst ((aV vv.length (0:Int)).map V.int)) y=some (.lst ((aV vv.length (0:Int)).map V.int)):=zb;generalize oG (oG H2 z (.lst [.int 0])) y (.lst ((aV vv.length (0:Int)).map V.int))=H3 at t3 h3y |-;refine (ex4 lv y _ _ ⟨rfl,rfl,(s2.trans t3) _ _ hva,h3y,by rw [aA,aA,cU]; lia,fun wl wX=>?_⟩);rw [<- aN];have t4:=zc (o:=.lst ((vec++aV vv.length (0:Int)).map V.int)) wX;refine #[QKKKR,(ex4 wl _ _ (L+i) ⟨rfl,rfl,zb,?_,?_⟩)]
   ·rw [<- gi];exact zdc (by rw [aA,aS,cU]; lia)
   have ew:((vec++aV vv.length (0:Int)).map V.int).set (L+i) (.int 1)=((vec++aV vv.length (0:Int)).set (L+i) 1).map V.int:=by rw [iD]
   rw [ew,zjI];have t4:=t3.trans (zc (o:=.lst (((vec++aV vv.length (0:Int)).set (L+i) 1).map V.int)) wX);have Kr:oG H3 wl (.lst (((vec++aV vv.length (0:Int)).set (L+i) 1).map V.int)) wl=some (.lst (((vec++aV vv.length (0:Int)).set (L+i) 1).map V.int)):=zb;have W0:=zin hp (N:=vv.length) hi Ga wy hvr;have hwc:wl≠ca:=fun e=>by
    have:=t3 _ _ Kq;rw [<- e,wX] at this;cases this
   generalize oG H3 wl (.lst (((vec++aV vv.length (0:Int)).set (L+i) 1).map V.int))=H4 at t4 Kr |-;generalize (vec++aV vv.length (0:Int)).set (L+i) 1=w0 at W0 Kr |-;have s4:=s2.trans t4;have Hv:=t4 _ _ Kq;have Dd:=Dc.same t4;have Gb:=Dd.length;refine⟨_,rfl,ca,rfl,⟨_,oE.of Hv⟩,zbA (K:=K) (a:=ca) (xs:=cs.map V.ref) (fun j σ H'=>∃ (wa:Addr) (w:TD) (e7 e8:Option V),σ = [some #[Ru],some #[QD],some (.int (L:Int)),some (.ref ca),some (.int (i:Int)),some (.ref lv),some (.ref wa),e7,e8,e9,sO]/\zr H4 H'/\H' wa=some (.lst (w.map V.int))/\wa≠ca/\Wh p L vv.length i vv (cl.take j) w)
    ⟨wl,w0,_,_,rfl,fun _ _ e=>e,Kr,hwc,W0⟩ (fun j σ H' _ ⟨_,_,_,_,_,s5,_⟩=>oE.of (s5 _ _ Hv)) ?_ ?_⟩
   ·rintro zD zT j y σ H5 hy ⟨wa,w,e7,e8,rfl,s5,Gc,hwa,W⟩;obtain⟨b,rfl,hb⟩:=z6 hy;obtain⟨aa,haa,oa,vz,tX,Au⟩:=Paired.get Dd hb;obtain⟨o1,o2,o3,_⟩:=E.one j aa haa;refine⟨b,_,rfl,oQ.of (s5 _ _ vz),rfl,_,_,rfl,_,_,rfl,rfl,?_⟩;have hg:=zdB p0 W.rg aa.1;refine #[QKKKK,(ex4 wa _ _ (.int (gl w aa.1)) ⟨rfl,rfl,oE.of Gc,z9 (by rw [aF,za1 (by rw [W.ln]; lia)]; rfl),#[QK,(ex6 p (gl w aa.1) wa oa w aa.2 ⟨rfl,Gc,s5 _ _ tX,by rw [W.ln,o2],by rw [W.ln]; lia,p0,hg.1,#[O],fun l H6 hl s6 h6l=>?_⟩)]⟩)];refine (ex4 l _ _ _ ⟨rfl,s5.trans s6,h6l,fun e=>?_,zkh hp E hi haa W⟩);have:=s5 _ _ Hv;rw [<- e,hl] at this;cases this
   ·rintro σ H5 ⟨wa,w,e7,e8,rfl,s5,Gc,hwa,W⟩;rw [aA,Gb,dW] at W;have h5c:=s5 _ _ Hv;have Ks:=Dd.same s5;have s15:=s4.trans s5;refine #[WV];rw [cB];refine zW (n:=L) (fun j ys H'=>H'=H5/\ys=(((aU j).filter fun m=>decide (gl w m≠0)).map fun m:Nat=>(m:Int)).map V.int) ⟨rfl,rfl⟩ (fun j ys H' hj _=>hj) #[GE] ?_ ?_
    ·rintro zS zT zE j xx ys H6 H7 hj ⟨rfl,rfl⟩ ⟨rfl,rfl⟩;have hgj:(w.map V.int)[j]? = some (.int (gl w j)):=by rw [aF,za1 (by rw [W.ln]; lia)]; rfl
     refine #[QKK,(ex4 wa _ _ (.int (gl w j)) ⟨rfl,rfl,oE.of Gc,by rw [cI]; exact z9 hgj,rfl,#[Vu]⟩)];have ye:=gh (fun m=>decide (gl w m≠0)) (aU j);rw [bJ] at ye;rw [cA,gK,aN,aN];by_cases h0:gl w j=0
     ·refine zaD (fun h=>absurd h (by rw [h0]; simp)) (fun _=>#[QH]);rw [fQ #[U,h0],gL,f8,f8,du]
     ·refine zaD (fun _=>#[QK,⟨za0 (by rw [aA,aA]; lia),rfl,?_⟩]) #[Uf];rw [fP #[U,h0],gL,cI];rfl
    ·rintro ys H6 D ⟨rfl,rfl⟩ hD;have t7:=zc (o:=.lst ((((aU L).filter fun m=>decide (gl w m≠0)).map fun m:Nat=>(m:Int)).map V.int)) hD;have Bj:oG H6 D (.lst ((((aU L).filter fun m=>decide (gl w m≠0)).map fun m:Nat=>(m:Int)).map V.int)) D=_:=zb;generalize oG H6 D (.lst ((((aU L).filter fun m=>decide (gl w m≠0)).map fun m:Nat=>(m:Int)).map V.int))=H7 at t7 Bj |-;have s7:=s15.trans t7;have Hw:=t7 _ _ Gc;have vS:=t7 _ _ h5c;have Kt:=Ks.same t7;refine #[QK,⟨_,.inl ⟨_,oE.of Bj,rfl⟩,?_⟩];cases De:(aU L).filter fun m=>decide (gl w m≠0) with
     | nil =>
      refine zaD #[AC] #[UP];have hz:∀ x,x < L->gl w x=0:=fun x hx=>by
       have:=iR.mp De x (bP.mpr hx);simpa using this
      refine #[QKKKKKRRK,⟨wa,#[QK,⟨oE.of Hw,fun l hl=>?_⟩]⟩];have ec:zb6 (w.map V.int) (some (L:Int)) (some ((L:Int)+(i:Int)+1))=(#[WG].take (i+1)).map V.int:=by
       rw [show (L:Int)+(i:Int)+1=((L+i+1:Nat):Int) by lia,zoB (by rw [aA,W.ln]; lia),<- jP,<- gE,show L+i+1 - L=i+1 by lia]
      rw [ec];obtain⟨d1,d2,d3⟩:=zmZ W hi hz;exact qs l _ i _ (s7.free hl) (s7.trans (zc hl)) zb d1 hi d2 d3 (zoN (fY hi) E)
     | cons ld lds =>
      refine zaD (fun h=>absurd h #[M]) #[AC];have hm:ld∈(aU L).filter fun m=>decide (gl w m≠0):=by rw [De]; exact bF
      (obtain⟨vK,uy⟩:=cK.mp hm)
      have Ha:ld < L:=bP.mp vK;have hg0:gl w ld≠0:=by simpa using uy
      obtain⟨g0,g1⟩:=zdB p0 W.rg ld;rw [De] at Bj;have yO:atI ((((ld :: lds).map fun m:Nat=>(m:Int))).map V.int) 0=some (.int (ld:Int)):=z9 (j:=0) rfl;refine #[QKKK,(ex4 D _ _ (.int (ld:Int)) ⟨rfl,rfl,oE.of Bj,yO,wa,_,_,.int #[Tp],rfl,rfl,oE.of Hw,z9 (by rw [aF,za1 (by rw [W.ln]; lia)]; rfl),p,gl w ld,rfl,hp,g0,g1,?_⟩)];refine #[QK,⟨.inl ⟨rfl,_,oE.of vS⟩,#[QK,(ex4 D _ _ (.int (ld:Int)) ⟨rfl,rfl,oE.of Bj,yO,#[QK,⟨wa,rfl,⟨_,oE.of Hw⟩,zbB (fs:=(w.map fun x=>x*inv p #[Tp] % p).map V.int) (oE.of Hw) (by rw [aA,aA,aA]) (by rw [aA,W.ln]; lia) ?_ ?_⟩]⟩)]⟩]
      ·intro j x y R B hx hy hR;obtain⟨n,rfl,hn⟩:=zaE hx;obtain⟨n',rfl,uw⟩:=zaE hy;rw [aF,hn] at uw;cases uw;have hnr:=W.rg n (aO hn);exact gY #[QKKR,⟨.inl #[u8],#[QKR,⟨p0,hR⟩]⟩]
      ·intro D2 Bl;have t8:=zc (o:=.lst ((w.map fun x=>x*inv p #[Tp] % p).map V.int)) Bl;have h8D:oG H7 D2 (.lst ((w.map fun x=>x*inv p #[Tp] % p).map V.int)) D2=some (.lst ((w.map fun x=>x*inv p #[Tp] % p).map V.int)):=zb;have hDc:D2≠ca:=fun e=>by rw [e,vS] at Bl; cases Bl
       generalize oG H7 D2 (.lst ((w.map fun x=>x*inv p #[Tp] % p).map V.int))=H8 at t8 h8D |-;refine⟨by show 2<=sizeLine; lia,fun tb wI=>?_⟩;have t9:=zc (o:=.tup [.int (ld:Int),.ref D2]) wI;have Hz:oG H8 tb (.tup [.int (ld:Int),.ref D2]) tb=some (.tup [.int (ld:Int),.ref D2]):=zb;have HB:=t9 _ _ (t8 _ _ vS);have s9:=(s7.trans t8).trans t9;have Gd:=(Kt.same t8).same t9;have h9D:=t9 _ _ h8D;generalize oG H8 tb (.tup [.int (ld:Int),.ref D2])=H9 at t9 Hz HB s9 Gd h9D |-;have Ej:=E.ln;refine (ex3 ca _ _ ⟨rfl,rfl,HB,by rw [aA,Gb,Ej]; lia,cs++[tb],_,_,_,_,_,_,_,_,rfl,z7 s9 C9,by rw [zb,aN]; rfl,dE (Gd.put HB) ⟨D2,?_,?_,hDc⟩,zio hp E hi W Ha hg0⟩)
       ·rw [zn (fun e=>by rw [e,HB] at Hz; cases Hz)];exact Hz
       ·rw [zn hDc];exact h9D
  ·rintro σ H1 ⟨cs,cl,e4,e5,e6,e7,e8,e9,sO,rfl,s1,F',rP,E⟩;exact qn H1 s1 (zmY E)
noncomputable def pwr (p x:Int) (kept n:Nat):List Int:=(aU kept).map fun u=>cf x n u % p
noncomputable def pws (p x:Int) (kept n:Nat):List #[wE]:=(aU n).map (pwr p x kept)
theorem zfJ (p x:Int) (kept n:Nat):pws p x kept (n+1)=pws p x kept n++[pwr p x kept n]:=by
 unfold pws;rw [cA,aN];rfl
theorem zbw (p x:Int) (kept n:Nat):#[Ti].length=kept:=by unfold pwr; rw [aA,bJ]
theorem zfK {p x:Int} {kept n u:Nat} (h:u < kept):gl #[Ti] u=cf x n u % p:=zby (by unfold pwr; rw [aF,cY h]; rfl)
theorem znz {p x:Int} {kept n:Nat}:(zcr p (-x) #[Ti]).take kept=pwr p x kept (n+1):=by
 refine zmW (by rw [bC,zcs,zbw,zbw]; lia) fun u hu=>?_
 have hu:u < kept:=by rw [bC,zcs,zbw] at hu; lia
 rw [zfK hu];have e1:gl ((zcr p (-x) #[Ti]).take kept) u=gl (zcr p (-x) #[Ti]) u:=by
  unfold gl;rw [bE,bE,dw hu]
 rw [e1];unfold zcr;rw [zjd (by rw [dN,zbw]; lia) (by rw [aS,zbw]; simp; lia)];have e2:gl (pwr p x kept n++[0]) u=cf x n u % p:=by
  rw [<- zfK hu];unfold gl;rw [bE,bE,cQ (by rw [zbw]; exact hu)]
 rw [e2];show (_ - (-x)*_) % p=_;cases u with
 | zero =>
  show (0 - (-x)*(cf x n 0 % p)) % p=cf x (n+1) 0 % p;rw [zhg,zhg,eU];refine Cg.mod_eq ?_;refine (((Cg.refl p 0).sub ((Cg.refl p (-x)).mul #[No]))).trans (Cg.of_eq (by grind))
 | succ u =>
  have e3:gl (0 :: pwr p x kept n) (u+1)=cf x n u % p:=by
   rw [<- zfK (show u < kept by lia)];unfold gl;simp
  rw [e3,zoK];refine Cg.mod_eq ?_;refine (#[No].sub ((Cg.refl p (-x)).mul #[No])).trans (Cg.of_eq (by grind))
theorem znA {p x:Int} (hp:1 < p) {kept:Nat} (hk:1<=kept):pwr p x kept 0=1 :: aV (kept - 1) 0:=by
 refine zmW (by rw [zbw,dN,cU]; lia) fun u hu=>?_
 rw [zbw] at hu;rw [zfK hu];cases u with
 | zero =>
  rw [zhg,mI];show (1:Int) % p=1;exact dP #[D] hp
 | succ u =>
  have e:cf x 0 (u+1)=0:=by show (0:Int)*_=0; simp
  rw [e,Int.zero_emod];unfold gl;rw [bE,fc,fO,if_pos #[O]];rfl
noncomputable def zeR (K:aD):Sp:=fun vs H Q _=>∃ (p x:Int) (most kept:Nat),vs = [.int p,.int x,.int (most:Int),.int (kept:Int)]/\5<=p/\p<=97/\0<=x/\x < p/\most<=500/\1<=kept/\kept<=100 /\
 ∀ (l:Addr) (ls:TF) (H':Hp),H l=none->zr H H'->H' l=some #[Ix]->LsA H' ls (pws p x kept (most+1))->Q #[RB] H'
theorem zbT:KE ["p","by","most","kept","powers","power"] ["p","by","most","kept"] (zh zbu):=#[S]
theorem zeS (T:Txt K mg base t) (F:Fun K "moved_powers" "moved_powers" zbu t.LK fd):LG P w K mg base CX0 2 t.LK fd ["p","by","most","kept"] (zeR K):=by
 obtain⟨sW,pe,pV⟩:=T.LM;have pW:=zdt (P:=P) (w:=w) (base:=base) T pe;refine F.ok zbT #[pc] #[dl]
 ·obtain⟨p,x,most,kept,rfl,_⟩:=h;rfl
 ·obtain⟨p,x,most,kept,rfl,p5,vC,x0,x1,hm,k1,k2,q⟩:=h;refine zaJ ?_; intro zX;refine⟨_,#[zd,#[zl,4,zbT.nd,#[A],#[zab,#[ya,#[zi,#[zcW],#[Qk],#[zi,#[zfm],#[Qk],#[zi,#[zaa],#[KB],#[zg]]]]]]],#[zd,#[zao,bR,#[VH],#[zf,5,zbT.nd,#[A]],#[zk,#[zbH,#[zcR,cO,d8,d9,#[zbz],#[QQ],#[ya,#[zbs,zbX,#[zq,pW,#[ut],T.MN,pe.kp,pV,#[zZ],#[za,#[xL],#[za,#[zM,#[zB],#[QQ],#[zjK,zgM,#[zg]]],#[ya,#[zjK,zgM,#[wP]]]]]],#[zb8],#[zbI,#[KB]]]]]]]],#[zk,#[zA,#[QQ]]]]],?_⟩;refine zei ?_; intro qv qk;have qu:=bN;refine⟨by show 1<=sizeLine; lia,fun A1 Ho=>?_⟩;have u1:=zc (o:=.lst [V.int 1]) Ho;have v1:oG H A1 (.lst [V.int 1]) A1=some (.lst [V.int 1]):=zb;generalize oG H A1 (.lst [V.int 1])=H1 at u1 v1 |-;refine⟨by show 1<=sizeLine; lia,fun A2 FW=>?_⟩;have u2:=u1.trans (zc (o:=.lst [V.int 0]) FW);have v12:=(zc (o:=.lst [V.int 0]) FW) _ _ v1;have v2:oG H1 A2 (.lst [V.int 0]) A2=some (.lst [V.int 0]):=zb;generalize oG H1 A2 (.lst [V.int 0])=H2 at u2 v12 v2 |-;have ek:((kept:Int) - 1).toNat=kept - 1:=by lia
  refine #[QKR,(ex3 A2 _ _ ⟨rfl,rfl,v2,#[O],#[O],by rw [ek]; show 1*(kept - 1)<=sizeLine; lia,fun A3 Hq=>?_⟩)];rw [ek,gB];have w3:=zc (o:=.lst #[R5]) Hq;have v13:=w3 _ _ v12;have v3:oG H2 A3 (.lst #[R5]) A3=some (.lst #[R5]):=zb;have u3:=u2.trans w3;generalize oG H2 A3 (.lst #[R5])=H3 at u3 v13 v3 |-;refine (ex4 A1 A3 _ _ ⟨rfl,rfl,v13,v3,by rw [cU]; show 1+(kept - 1)<=sizeLine; lia,fun A4 Hr=>?_⟩);have ez:[V.int 1]++aV (kept - 1) (V.int 0)=#[Tj].map V.int:=by rw [znA #[O] k1,bT,jJ]; rfl
  rw [ez];have u4:=u3.trans (zc (o:=.lst (#[Tj].map V.int)) Hr);have v4:oG H3 A4 (.lst (#[Tj].map V.int)) A4=some (.lst (#[Tj].map V.int)):=zb;generalize oG H3 A4 (.lst (#[Tj].map V.int))=H4 at u4 v4 |-;refine⟨by show 1<=sizeLine; lia,fun PW Ku=>?_⟩;have sw:=zc (o:=.lst [V.ref A4]) Ku;have emt:((most:Int)).toNat=most:=by lia
  refine #[QKK,⟨#[O],#[O],zah (lo:=0) (n:=((most:Int)).toNat) (fun i σ H'=>∃ (e5:Option V),σ = [some #[Ru],some #[Vv],some (.int (most:Int)),some (.int (kept:Int)),some (.ref PW),e5]/\zr H H'/\∃ ls:List Addr,H' PW=some #[Ix]/\LsA H' ls (pws p x kept (i+1))) ⟨none,rfl,u4.trans sw,[A4],zb,.cons (sw _ _ v4) .nil⟩ ?_ ?_⟩]
  ·rintro zD zT i σ H5 hi ⟨e5,rfl,s5,ls,h5,rO⟩;have B4:ls.length=i+1:=by rw [bS rO]; unfold pws; rw [aA,bJ]
   rw [zfJ] at rO;obtain⟨HC,b,rfl⟩:∃ HC b,ls=HC++[b]:=⟨_,_,(List.dropLast_concat_getLast (l:=ls) (fun e=>by rw [e] at B4; simp at B4)).symm⟩;obtain⟨hA,hB⟩:=zeF rO;have pJ:atI ((HC++[b]).map V.ref) (-1)=some #[T7]:=by rw [aN]; exact zko
   refine #[QK,⟨.inl ⟨rfl,_,oE.of h5⟩,#[QKKK,(ex4 PW _ _ _ ⟨rfl,rfl,oE.of h5,pJ,#[QKK,(ex4 p (-x) b _ ⟨rfl,hB,by rw [zbw]; lia,#[O],#[O],#[O],fun l H6 hl s6 h6=>?_⟩)]⟩)]⟩];refine #[QKK,⟨l,#[QK,⟨oE.of h6,fun z hz=>?_⟩]⟩];have ec:zb6 ((zcr p (-x) (pwr p x kept i)).map V.int) none (some (kept:Int))=(pwr p x kept (i+1)).map V.int:=by
    unfold zb6;rw [HT.MF,HT.Mx,fU,gA,aA,zcs,zbw,fJ #[O],<- gE,znz]
   rw [ec];have sz:=zc (o:=.lst ((pwr p x kept (i+1)).map V.int)) hz;have h6P:=s6 _ _ h5;have h7P:=sz _ _ h6P;have zP:z≠PW:=(zu h6P hz).symm;refine (ex3 PW _ _ ⟨rfl,rfl,h7P,by rw [aA,B4]; lia,?_⟩);refine #[QK,⟨z7 (#[Wu].trans sz) (u4.free Ku),(HC++[b])++[z],by rw [zb]; simp,?_⟩];rw [zfJ];refine dE (znl (D:=PW) (fun hm=>?_) (fun c o hc e=>by rw [zn hc]; exact e) (LsA.same (s6.trans sz) (by rw [zfJ]; exact rO))) (by rw [zn zP]; exact zb);obtain⟨j,hj⟩:=d7.mp hm;exact LsA.off rO h5 j PW hj rfl
  ·rintro σ H5 ⟨e5,rfl,s5,ls,h5,rO⟩;rw [emt] at rO;exact #[QK,(q PW ls _ (u4.free Ku) s5 h5 rO)]
noncomputable def tI (t:Tm):Int×Int:=((t.1:Int),(t.2:Int))
theorem zks {ns:List Nat} {M:Int} (hM:M∈ns.map fun n:Nat=>(n:Int)) (yP:∀ a∈ns.map (fun n:Nat=>(n:Int)),a<=M):∃ m:Nat,M=m/\m∈ns/\∀ n∈ns,n<=m:=by
 obtain⟨m,hm,rfl⟩:=aQ.mp hM;refine⟨m,rfl,hm,fun n hn=>?_⟩;have:=yP _ (aQ.mpr ⟨n,hn,rfl⟩);lia
theorem zkt {K:aD} {tl:Addr} {bs:TF} {ts:List Tm} (qK:H tl=some #[wr]) (uY:PtB H bs #[WO]) (oO:ts.length<=200) {g:TG} {tt:TT} {Q:VK} (f:Tm->Int)
  (hs:∀ (T:Addr) (t:Tm) (R:VK) (B:L2.St->Hp->Prop),t∈ts->oQ K H T [.int (t.1:Int),.int (t.2:Int)]->R (.int (f t)) H->g (.ref T) σ0 H fun σ2 H2=>tt σ2 H2 fun b H3=>if b=true then te σ2 H3 R else B σ2 H3)
  (hd:∀ D,H D=none->Q #[QB] (oG H D (.lst ((ts.map f).map V.int)))):cGo g tt te σ0 (Itl K tl) Q H:=by
 have uz:bs.length=ts.length:=by rw [bS uY,aA]
 refine zbB (fs:=(ts.map f).map V.int) (oE.of qK) (by rw [aA,aA,aA,uz]) (by rw [aA]; lia) #[S8] hd;obtain⟨b,rfl,xk⟩:=z6 hx;obtain⟨q,hq,hT⟩:=Paired.get uY xk;rw [aF] at hq;obtain⟨t,ht,rfl⟩:=et.mp hq;rw [aF,aF,ht] at hy;have hy:V.int (f t)=y:=by simpa using hy
 subst hy;exact hs b t R B (aO ht) (oQ.of hT) hR
noncomputable def nAt (t:Tm) (x y p:Int) (w m:Nat):List Int:=(aU m).flatMap fun u=>(aU (w - u)).map fun v=>cv t ⟨x,y,u,v⟩ % p
theorem ziD (t:Tm) (x y p:Int) (w m:Nat):nAt t x y p w (m+1)=nAt t x y p w m++(aU (w - m)).map fun v=>cv t ⟨x,y,m,v⟩ % p:=by
 unfold nAt;rw [cA,dO];simp
theorem zo1 (t:Tm) (x y p:Int) (w:Nat):nAt t x y p w w=(pco (x,y,w)).map fun c=>cv t c % p:=by
 unfold nAt pco;rw [List.map_flatMap];congr 1;funext u;rw [cV];rfl
theorem zku (t:Tm) (x y p:Int) (w:Nat):∀ m,(nAt t x y p w m).length<=w*m
 | 0=>by simp [nAt]
 | m+1=>by
  have ih:=zku t x y p w m;rw [ziD,aS,aA,bJ,fL];lia
theorem znB {l:Addr} {p x:Int} {w n i u:Nat} (h:LsA H ls (pws p x w n)) (hi:i < n) (hu:u < w):∃ b,atI (ls.map V.ref) (i:Int)=some #[T7]/\H b=some (.lst ((pwr p x w i).map V.int))/\atI ((pwr p x w i).map V.int) (u:Int)=some (.int (cf x i u % p)):=by
 have hl:ls.length=n:=by rw [bS h]; unfold pws; rw [aA,bJ]
 have hb:ls[i]? = some (ls[i]'#[O]):=aJ #[O];obtain⟨v,hv,hvb⟩:=Paired.get h hb;unfold pws at hv;rw [aF,cY hi] at hv;cases hv;refine⟨_,z9 (by rw [aF,hb]; rfl),hvb,z9 ?_⟩;rw [aF,za1 (by rw [zbw]; exact hu),zfK hu];rfl
noncomputable def zf4 (K:aD):Sp:=fun vs H Q _=>∃ (p:Int) (tl pt:Addr) (x y:Int) (w:Nat) (bs:TF) (ts:List Tm),vs = [.int p,.ref tl,.ref pt]/\5<=p/\p<=97/\0<=x/\x < p/\0<=y/\y < p/\1<=w/\w<=9/\H tl=some #[wr]/\PtB H bs #[WO]/\ts≠[]/\ts.length<=200/\(∀ t∈ts,t.1<=400/\t.2<=400)/\H pt=some (.tup [.int x,.int y,.int (w:Int)]) /\
 ∀ (l:Addr) (ls:TF) (H':Hp),H l=none->zr H H'->H' l=some #[Ix]->LsA H' ls (ts.map fun t=>(pco (x,y,w)).map fun c=>cv t c % p)->Q #[RB] H'
theorem zaU:KE ["p","terms","point","x","y","weight","by_x","by_y"] ["p","terms","point"] (zh zaL):=#[S]
theorem zf5 (T:Txt K mg base t) (F:Fun K "numbers_at" "numbers_at" zaL t.Mc fd):LG P w K mg base CX0 3 t.Mc fd ["p","terms","point"] (zf4 K):=by
 obtain⟨yg,pE,qf⟩:=T.LO;have qg:=zeS (P:=P) (w:=w) (base:=base) T pE;refine F.ok zaU #[pc] #[dl]
 ·obtain⟨p,tl,pt,x,y,wt,bs,ts,rfl,_⟩:=h;rfl
 ·obtain⟨p,tl,pt,x,y,wt,bs,ts,rfl,p5,vC,x0,x1,y0,y1,w1,w9,qK,uY,oZ,oO,Bf,hp,q⟩:=h;refine zaJ ?_; intro zX;refine⟨_,#[zd,#[zaY,#[FB],#[zaI,#[zj,#[zf,3,zaU.nd,#[A]],#[zj,#[zf,4,zaU.nd,#[A]],#[zj,#[zf,5,zaU.nd,#[Q0]],#[zI]]]]]],#[zd,#[zl,6,zaU.nd,#[Q0],#[zq,qg,#[ut],T.Mm,pE.kp,qf,#[zZ],#[za,#[xL],by exact #[za,#[KB],#[za,#[zm,#[zbC],T.O5,g9,#[ya,#[zU,(Lu.of (N':=["i","j"]) (ix:=[none,none]) (zh zaL) _ rfl rfl rfl),#[RC],#[T9],#[o0],#[sK],#[R7]]]],#[Wq]]]]]],#[zd,#[zl,7,zaU.nd,#[Q0],#[zq,qg,#[ut],T.Mm,pE.kp,qf,#[zZ],#[za,#[xL],by exact #[za,#[QQ],#[za,#[zm,#[zbC],T.O5,g9,#[ya,#[zU,(Lu.of (N':=["i","j"]) (ix:=[none,none]) (zh zaL) _ rfl rfl rfl),#[RC],#[T9],#[o0],#[sK],(fun _ _ _ _=>#[wP])]]],#[Wq]]]]]],#[zk,#[zA,#[zU,(Lu.of (N':=["i","j","weight","by_x","by_y","p"]) (ix:=[none,none,some 5,some 6,some 7,some 0]) (zh zaL) _ rfl rfl rfl),#[RC],#[T9],(fun _ _ _ _=>#[zaw,(K),2,#[zj,#[zf,0,#[Y],#[Q0]],#[zj,#[zf,1,#[Y],#[Q0]],#[zI]]]]),#[sK],(fun _ _ _ _=>(@zox _ _ _ _ _ _ _ _ _ _ _ _ _ _ _ _ _ _ _ _ _ (Lu.of (N':=["u","v","by_x","i","by_y","j","p","weight"]) (ix:=[none,none,some 3,some 0,some 4,some 1,some 5,some 2]) ({ kind:=.function,names:=[(".0",.local),("i",.cell),("j",.cell),("range",.globalImplicit),("by_x",.cell),("by_y",.cell),("p",.cell),("weight",.cell)],isGenerator:=false,isCoroutine:=false }) _ (by with_unfolding_all rfl) rfl rfl) rfl (zdM (js:=[0]) (i:=0) #[D]) (zdM (js:=[1]) (i:=1) #[D]) #[D] #[D] #[VH] #[pi] #[sK] (fun _ _ _ _=>#[zO,T.Lw,#[ya,#[zi,#[zaa],#[TW],#[xL]]]]) (fun _ _ _ _=>#[zf,1,#[Y],#[A]]) #[sK] (fun _ _ _ _=>#[zi,#[zL],#[zi,#[zH],#[zM,#[Tc],#[zM,#[Tc],#[FB],#[KB]],#[xL]],#[zM,#[Tc],#[zM,#[Tc],#[QQ],#[Rj]],#[wP]]],#[Rt]]) (by intro _; rfl) (by intros; rfl)))]]]]]],?_⟩;refine zhK ?_; intro uf qv qk;have qu:=bN;have uz:bs.length=ts.length:=by rw [bS uY,aA]
  refine⟨_,rfl,pt,_,rfl,oQ.of hp,rfl,_,_,rfl,_,_,rfl,_,_,rfl,rfl,?_⟩;refine⟨_,rfl,_,rfl,_,rfl,tl,rfl,⟨_,oE.of qK⟩,zkt qK uY oO (fun t=>(t.1:Int)) #[Uo] fun D hD=>?_⟩;refine⟨D,ts.map fun t=>(t.1:Int),rfl,oE.of zb,by simpa using oZ,fun M hM yP=>?_⟩;obtain⟨mx,rfl,mx1,mx2⟩:=zks (ns:=ts.map (·.1)) (by rw [cV]; exact hM) (by rw [cV]; exact yP);have mx4:mx<=400:=by obtain⟨t,ht,rfl⟩:=aQ.mp mx1; exact (Bf t ht).1
  have s0:=zc (o:=.lst ((ts.map fun t:Tm=>(t.1:Int)).map V.int)) hD;generalize oG H D (.lst ((ts.map fun t:Tm=>(t.1:Int)).map V.int))=H0 at s0 |-;refine #[QK,(ex4 p x mx wt ⟨rfl,p5,vC,x0,x1,#[O],w1,#[O],fun l1 ls1 H1 vo s1 h1 g1=>?_⟩)];have vU:=s0.trans s1;refine⟨_,rfl,_,rfl,_,rfl,tl,rfl,⟨_,oE.of (vU _ _ qK)⟩,zkt (vU _ _ qK) (uY.same vU) oO (fun t=>(t.2:Int)) #[Uo] fun D2 Bl=>?_⟩;refine⟨D2,ts.map fun t=>(t.2:Int),rfl,oE.of zb,by simpa using oZ,fun M hM yP=>?_⟩;obtain⟨my,rfl,my1,Bb⟩:=zks (ns:=ts.map (·.2)) (by rw [cV]; exact hM) (by rw [cV]; exact yP);have my4:my<=400:=by obtain⟨t,ht,rfl⟩:=aQ.mp my1; exact (Bf t ht).2
  have s2:=zc (o:=.lst ((ts.map fun t:Tm=>(t.2:Int)).map V.int)) Bl;generalize oG H1 D2 (.lst ((ts.map fun t:Tm=>(t.2:Int)).map V.int))=H2 at s2 |-;refine #[QK,(ex4 p y my wt ⟨rfl,p5,vC,y0,y1,#[O],w1,#[O],fun l2 ls2 H3 qc s3 h3 g3=>?_⟩)];have Ge:=s2.trans s3;have sA:=vU.trans Ge;have h1:=Ge _ _ h1;have g1:=g1.same Ge;refine #[QK,⟨tl,rfl,⟨_,oE.of (sA _ _ qK)⟩,zW (n:=ts.length) (fun m ys H'=>zr H3 H'/\∃ us:List Addr,ys=us.map V.ref/\LsA H' us ((ts.take m).map fun t=>(pco (x,y,wt)).map fun c=>cv t c % p)) ⟨fun _ _ e=>e,[],rfl,.nil⟩ ?_ ?_ ?_ ?_⟩]
  ·rintro m ys H4 hm ⟨s4,_⟩;exact⟨_,.ref (bs[m]'#[O]),oE.of ((sA.trans s4) _ _ qK),by rw [aF,aJ #[O]]; rfl⟩
  ·rintro ys H4 ⟨s4,_⟩;exact⟨_,oE.of ((sA.trans s4) _ _ qK),by rw [aA]; lia⟩
  ·rintro zS zT zE m z ys H4 H5 hm ⟨s4,us,rfl,pk⟩ ⟨rfl,hx⟩;have sA4:=sA.trans s4;obtain⟨b,rfl,Bh⟩:=z6 (hx _ (oE.of (sA4 _ _ qK)));obtain⟨q',qL,hT⟩:=Paired.get (uY.same sA4) Bh;rw [aF] at qL;obtain⟨t,ht,rfl⟩:=et.mp qL;have HD:=aO ht;have hz:us.length=m:=by rw [bS pk,aA,bC]; lia
   have t1:t.1 < mx+1:=iL (mx2 _ (aQ.mpr ⟨t,HD,rfl⟩));have t2:t.2 < my+1:=iL (Bb _ (aQ.mpr ⟨t,HD,rfl⟩));have h4x:=s4 _ _ h1;have h4y:=s4 _ _ h3;have g4x:=g1.same s4;have g4y:=g3.same s4;refine gY2 (oQ.of hT) ?_;have ew:((wt:Int)).toNat=wt:=by lia
   refine #[WV];rw [ew];refine zkf (n:=wt) (fun u ys H'=>H'=H5/\ys=(nAt t x y p wt u).map V.int) ⟨rfl,rfl⟩ #[On] #[GE] ?_ ?_
   ·rintro u xx ys H6 H7 hu ⟨rfl,rfl⟩ ⟨rfl,rfl⟩;rw [show ((0:Int)+(u:Int))=(u:Int) from cI _];refine gY ?_;have ewu:((wt:Int) - (u:Int)).toNat=wt - u:=by lia
    refine #[QKKRK,#[Q4]];rw [ewu];refine zkf (n:=wt - u) (fun v ys H'=>H'=H7/\ys=(nAt t x y p wt u++(aU v).map fun v=>cv t ⟨x,y,u,v⟩ % p).map V.int) ⟨rfl,#[M]⟩ #[On] #[GE] ?_ ?_
    ·rintro v yy ys H8 H9 hv ⟨rfl,rfl⟩ ⟨rfl,rfl⟩;rw [show ((0:Int)+(v:Int))=(v:Int) from cI _];obtain⟨bx,ax1,ax2,ax3⟩:=znB (l:=l1) g4x t1 hu;obtain⟨b2,ay1,ay2,ay3⟩:=znB (l:=l2) g4y t2 (show v < wt by lia);have r0:=bA (cf x t.1 u) (show p≠0 by lia);have r1:=aW (cf x t.1 u) (show 0 < p by lia);have nl:=zku t x y p wt u;have nm:wt*u<=9*9:=gu #[O] #[O];refine gY ?_;refine #[QKK,(ex4 l1 _ _ _ ⟨rfl,rfl,oE.of h4x,ax1,#[QK,(ex4 bx _ _ _ ⟨rfl,rfl,oE.of ax2,ax3,#[QKK,(ex4 l2 _ _ _ ⟨rfl,rfl,oE.of h4y,ay1,#[QK,(ex4 b2 _ _ _ ⟨rfl,rfl,oE.of ay2,ay3,#[QR,⟨.inl #[u8],#[QKR,⟨#[O],?_⟩]⟩]⟩)]⟩)]⟩)]⟩)];refine⟨by rw [aA,aS,aA,bJ]; lia,rfl,?_⟩;rw [cA,aN,aN,aN,aN,cE];have:cf x t.1 u % p*(cf y t.2 v % p) % p=cv t ⟨x,y,u,v⟩ % p:=by unfold cv; rw [<- Int.mul_emod]
     show _++(_++[V.int (cf x t.1 u % p*(cf y t.2 v % p) % p)])=_;rw [this];rfl
    ·rintro ys H8 ⟨rfl,rfl⟩;refine#[QH];rw [ziD]
   ·rintro ys H6 ⟨rfl,rfl⟩ D3 Aq;refine⟨by rw [aA]; lia,s4.trans (zc Aq),us++[D3],#[M],?_⟩;rw [take_snoc ht,aN];refine dE (pk.same (zc Aq)) ?_;rw [zb,zo1]
  ·rintro ys H4 D3 ⟨s4,us,rfl,pk⟩ Aq;rw [bO (aG _)] at pk;have sf:=sA.trans s4;exact q D3 us _ (sf.free Aq) (sf.trans (zc Aq)) zb (pk.same (zc Aq))
noncomputable def W3 (H:Hp):List Addr->List (Int×Int×Nat)->Prop:=Paired fun b q=>H b=some (.tup [.int q.1,.int q.2.1,.int (q.2.2:Int)])
theorem W3.same (s:zr H H') {bs:TF} (h:W3 H bs oJ):W3 H' bs oJ:=eA #[R3] h
noncomputable def ziE (p:Int) (oJ:List (Int×Int×Nat)):Prop:=∀ q∈oJ,0<=q.1/\q.1 < p/\0<=q.2.1/\q.2.1 < p/\1<=q.2.2/\q.2.2<=9
theorem znC {p:Int} {q:Int×Int×Nat} {t:Tm}:za2 p (oJ++[q]) t=za2 p oJ t++(pco q).map fun c=>cv t c % p:=by
 unfold za2 cos;rw [dO,aN];simp
theorem znD (i:Nat):(cos (oJ.take i)).length<=#[Sc].length:=by
 conv=>rhs; rw [<- eK i oJ]
 unfold cos;rw [dO,aS];lia
noncomputable def zf6 (K:aD):Sp:=fun vs H Q _=>∃ (p:Int) (tl pl:Addr) (bs cs:TF) (ts:List Tm) (oJ:List (Int×Int×Nat)),vs = [.int p,.ref tl,.ref pl]/\5<=p/\p<=97/\H tl=some #[wr]/\PtB H bs #[WO]/\ts≠[]/\ts.length<=200/\(∀ t∈ts,t.1<=400/\t.2<=400)/\H pl=some #[Re]/\W3 H cs oJ/\ziE p oJ/\#[Sc].length<=800/\oJ.length<=1000 /\
 ∀ (l:Addr) (ls:TF) (H':Hp),H l=none->zr H H'->H' l=some #[Ix]->LsA H' ls #[Q6]->Q #[RB] H'
theorem zbL:KE ["p","terms","points","vectors","point"] ["p","terms","points"] (zh zba):=#[S]
theorem zf7 (T:Txt K mg base t) (F:Fun K "vectors_of" "vectors_of" zba t.Ma fd):LG P w K mg base CX0 4 t.Ma fd ["p","terms","points"] (zf6 K):=by
 obtain⟨Ax,qP,uj⟩:=T.L7;have uk:=zf5 (P:=P) (w:=w) (base:=base) T qP;refine F.ok zbL #[pc] #[dl]
 ·obtain⟨p,tl,pl,bs,cs,ts,oJ,rfl,_⟩:=h;rfl
 ·obtain⟨p,tl,pl,bs,cs,ts,oJ,rfl,p5,vC,qK,uY,oZ,oO,Bf,pN,vV,hg,hL,hn,q⟩:=h;refine zaJ ?_; intro zX;refine⟨_,#[zd,#[zbm,3,zbL.nd,#[A],(Lu.of (N':=["term"]) (ix:=[none]) (zh zba) _ rfl rfl rfl),#[zar],#[T9],#[pi],#[sK],(fun _ _ _ _=>#[Q9])],#[zd,#[zao,bR,#[zai,#[FB]],#[zf,4,zbL.nd,#[A]],#[zk,#[zbm,3,zbL.nd,#[A],(Lu.of (N':=["vector","numbers"]) (ix:=[none,none]) (zh zba) _ rfl rfl rfl),#[RC],#[zdN,T.Pl,#[za,#[KB],#[ya,#[zq,uk,#[ut],T.NZ,qP.kp,uj,#[zZ],#[za,#[xL],#[za,#[wP],#[Uk]]]]]]],#[o0],#[sK],(fun _ _ _ _=>#[zi,#[zcW],#[xL],#[wP]])]]],#[SA]]],?_⟩;refine zei ?_; intro qv qk;have qu:=bN;have uz:bs.length=ts.length:=by rw [bS uY,aA]
  have rP:=bS vV;refine #[QK,⟨tl,rfl,⟨_,oE.of qK⟩,zW (n:=ts.length) (fun m ys H'=>zr H H'/\∃ us:List Addr,ys=us.map V.ref/\LsA H' us ((ts.take m).map (za2 p []))) ⟨fun _ _ e=>e,[],rfl,.nil⟩ ?_ ?_ ?_ ?_⟩]
  ·rintro m ys H4 hm ⟨s4,_⟩;exact⟨_,.ref (bs[m]'#[O]),oE.of (s4 _ _ qK),by rw [aF,aJ #[O]]; rfl⟩
  ·rintro ys H4 ⟨s4,_⟩;exact⟨_,oE.of (s4 _ _ qK),by rw [aA]; lia⟩
  ·rintro zS zT zE m z ys H4 H5 hm ⟨s4,us,rfl,pk⟩ ⟨rfl,hx⟩;have hz:us.length=m:=by rw [bS pk,aA,bC]; lia
   refine gY ?_;refine⟨bX _,fun D hD=>⟨by rw [aA]; lia,s4.trans (zc hD),us++[D],#[M],?_⟩⟩;have ht:ts[m]? = some (ts[m]'hm):=aJ hm;rw [take_snoc ht,aN];exact dE (pk.same (zc hD)) zb
  ·rintro ys H4 V0 ⟨s4,us,rfl,pk⟩ hV;rw [bO (aG _)] at pk;have sV:=s4.trans (zc (o:=.lst #[EQ]) hV);refine #[QK,⟨pl,rfl,⟨_,oE.of (sV _ _ pN)⟩,zbA (K:=K) (a:=pl) (xs:=cs.map V.ref) (fun i σ H'=>∃ (vl:Addr) (ls:TF) (e4:Option V),σ = [some #[Ru],some (.ref tl),some (.ref pl),some (.ref vl),e4]/\zr H H'/\H vl=none/\H' vl=some #[Ix]/\LsA H' ls (ts.map (za2 p (oJ.take i)))) (ex3 V0 us none ⟨rfl,sV,s4.free hV,zb,pk.same (zc hV)⟩) ?_ ?_ ?_⟩]
   ·rintro i σ H' _ ⟨vl,ls,e4,rfl,s,_⟩;exact oE.of (s _ _ pN)
   ·rintro zD zT i x σ H5 hx ⟨vl,ls,e4,rfl,s5,wy,h5,rO⟩;obtain⟨b,rfl,hb⟩:=z6 hx;obtain⟨⟨px,py,pw⟩,hq,Df⟩:=Paired.get vV hb;obtain⟨g1,g2,g3,g4,g5,g6⟩:=hg _ (aO hq);refine #[QKKKK,(ex8 p tl b px py pw bs ts ⟨rfl,p5,vC,g1,g2,g3,g4,g5,g6,s5 _ _ qK,uY.same s5,oZ,oO,Bf,s5 _ _ Df,fun nl nls H6 hnl s6 h6 g6'=>?_⟩)];have HE:=s6 _ _ h5;have Kv:=rO.same s6;have l1:ls.length=ts.length:=by rw [bS rO,aA]
    have l2:nls.length=ts.length:=by rw [bS g6',aA]
    refine (ex4 vl nl _ _ ⟨rfl,oE.of HE,oE.of h6,zW (n:=ts.length) (fun m ys H'=>zr H6 H'/\∃ us:List Addr,ys=us.map V.ref/\LsA H' us ((ts.take m).map (za2 p (oJ.take (i+1))))) ⟨fun _ _ e=>e,[],rfl,.nil⟩ ?_ ?_ ?_ ?_⟩)
    ·rintro m ys H7 hm ⟨s7,_⟩;exact⟨_,_,.ref (ls[m]'#[O]),.ref (nls[m]'#[O]),oE.of (s7 _ _ HE),oE.of (s7 _ _ h6),by rw [aF,aJ #[O]]; rfl,by rw [aF,aJ #[O]]; rfl⟩
    ·rintro ys H7 ⟨s7,_⟩;exact⟨_,_,oE.of (s7 _ _ HE),oE.of (s7 _ _ h6),by rw [aA,aA]; lia⟩
    ·rintro zS zT zE m z ys H7 H8 hm ⟨s7,us,rfl,pk⟩ ⟨T,u,v,hT,rfl,rfl,hu,hv⟩;obtain⟨b1,rfl,vz⟩:=z6 (hu _ (oE.of (s7 _ _ HE)));obtain⟨b2,rfl,tX⟩:=z6 (hv _ (oE.of (s7 _ _ h6)));obtain⟨w1,hw1,Kw⟩:=Paired.get Kv vz;obtain⟨w2,hw2,Kx⟩:=Paired.get g6' tX;have ht:ts[m]? = some (ts[m]'hm):=aJ hm;rw [aF,ht] at hw1 hw2;cases hw1;cases hw2;have hz:us.length=m:=by rw [bS pk,aA,bC]; lia
     refine gY2 #[WI] ?_;have sT:=s7.trans (zc (o:=.tup [.ref b1,.ref b2]) hT);have Gf:=pk.same (zc (o:=.tup [.ref b1,.ref b2]) hT);generalize oG H7 T (.tup [.ref b1,.ref b2])=H8 at sT Gf |-;have lv:=znD (oJ:=oJ) (i+1);have ev:za2 p (oJ.take (i+1)) (ts[m]'hm)=za2 p (oJ.take i) (ts[m]'hm)++(pco (px,py,pw)).map fun c=>cv (ts[m]'hm) c % p:=by rw [take_snoc hq,znC]
     have lz:(za2 p (oJ.take i) (ts[m]'hm)).length+((pco (px,py,pw)).map fun c=>cv (ts[m]'hm) c % p).length=(cos (oJ.take (i+1))).length:=by rw [<- aS,<- ev,zkl]
     refine #[QKK,(ex4 b1 b2 _ _ ⟨rfl,rfl,sT _ _ Kw,sT _ _ Kx,(by simp only [aA] at lz |-; lia),fun D hD=>⟨by rw [aA]; lia,sT.trans (zc hD),us++[D],#[M],?_⟩⟩)];rw [take_snoc ht,aN];refine dE (Gf.same (zc hD)) ?_;rw [zb,ev,aN]
    ·rintro ys H7 D ⟨s7,us,rfl,pk⟩ hD;rw [bO (aG _)] at pk;have s57:=s6.trans s7;exact (ex3 D us _ ⟨rfl,(s5.trans s57).trans (zc hD),(s5.trans s57).free hD,zb,pk.same (zc hD)⟩)
   ·rintro σ H5 ⟨vl,ls,e4,rfl,s5,wy,h5,rO⟩;rw [aA,rP,bO (aG _)] at rO;exact #[QK,(q vl ls _ wy s5 h5 rO)]
noncomputable def tK (t:Tm):List Key:=[cM (t.1:Int),cM (t.2:Int)]
theorem znE {t u:Tm} (h:tK t=tK u):t=u:=by
 unfold tK at h;injection h with h1 h2
 injection h2 with h2 _
 have e1:(t.1:Int)=u.1:=kK h1;have e2:(t.2:Int)=u.2:=kK h2;exact oo #[O] #[O]
theorem znF {ts:List Tm} (h:ts.Nodup):#[Sd].Nodup:=by
 rw [cJ,di];exact iK (fun oZ e=>oZ (znE e)) h
theorem zqy {bs:TF} {ts:List Tm} (h:PtB H bs #[WO]):KyA H #[QX] #[Sd]:=by
 induction ts generalizing bs with
 | nil=>cases h; exact .nil
 | cons t ts ih =>
  cases h with
  | cons h1 h2=>exact .cons ⟨_,rfl,h1⟩ (ih h2)
noncomputable def zhp (K:aD):Sp:=fun vs H Q _=>∃ (p:Int) (tl pl:Addr) (bs cs:TF) (ts:List Tm) (oJ:List (Int×Int×Nat)),vs = [.int p,.ref tl,.ref pl]/\p∈zw/\H tl=some #[wr]/\PtB H bs #[WO]/\ts.Nodup/\ts.length=#[Sc].length+1/\ts.length<=200/\(∀ t∈ts,t.1<=400/\t.2<=400)/\H pl=some #[Re]/\W3 H cs oJ/\ziE p oJ/\oJ.length<=1000 /\
 ∀ (D:Addr) (c:TD) (m:Nat) (H':Hp),H D=none->zr H H'->H' D=some (.dT (#[Sd].zip #[Rz]))->IsP p (m+1) c->m < ts.length->gl c m=1->Dep p #[Sc].length #[Q6] c->zoM p #[Sc].length m #[Q6]->Q #[QB] H'
theorem zeb:KE ["p","terms","points","relation"] ["p","terms","points"] (zh zbQ):=#[S]
theorem zhq (T:Txt K mg base t) (F:Fun K "first_sum" "first_sum" zbQ t.L5 fd):LG P w K mg base CX0 5 t.L5 fd ["p","terms","points"] (zhp K):=by
 obtain⟨wL,pS,rk⟩:=T.LF;have rm:=zea (P:=P) (w:=w) (base:=base) T pS;obtain⟨Ay,qQ,um⟩:=T.L6;have uo:=zf7 (P:=P) (w:=w) (base:=base) T qQ;refine F.ok zeb #[pc] #[dl]
 ·obtain⟨p,tl,pl,bs,cs,ts,oJ,rfl,_⟩:=h;rfl
 ·obtain⟨p,tl,pl,bs,cs,ts,oJ,rfl,hp,qK,uY,qF,oO,qc,Bf,pN,vV,hg,hn,q⟩:=h;have hu:(A.deeper (envOfC (cN "first_sum") (zh zbQ) s.heap.objs.size t.L5 oU)).units+20 < cLine:=by have:=hr.units; lia
  refine zaJ ?_; intro zX;refine⟨_,#[zd,#[zl,3,zeb.nd,#[A],#[zq,rm,#[ut],T.MQ,pS.kp,rk,#[zZ],#[za,#[xL],#[ya,#[zq,uo,#[ut],T.NY,qQ.kp,um,#[zZ],#[za,#[xL],#[Tx]]]]]]],#[zk,#[zA,(zji (jI (l8 (show 2<=20 by decide) _) hu) rfl rfl T.P0 rfl T.Pl #[za,#[wP],#[Ul]])]]],?_⟩;refine zqX ?_; intro qk;have qu:=bN;have rp:=zC hp;have oZ:ts≠[]:=fun e=>by rw [e] at oO; simp at oO
  have hv:∀ v∈ts.map (za2 p oJ),v.length=#[Sc].length/\∀ c∈v,0<=c/\c < p:=fun v hv=>by
   obtain⟨t,_,rfl⟩:=aQ.mp hv;exact⟨zkl p oJ t,zoO #[O]⟩
  refine #[QKKKK,(ex7 p tl pl bs cs ts oJ ⟨rfl,#[O],#[O],qK,uY,oZ,qc,Bf,pN,vV,hg,#[O],hn,fun vl vls H1 wy s1 h1 g1=>?_⟩)];refine (ex5 p vl vls #[Q6] (#[Sc].length) ⟨rfl,h1,g1,by simpa using oZ,by rw [aA]; exact qc,#[O],hv,hp,fun H2 s2 hI=>?_,fun l c m H2 hl s2 h2 hc hm Dh hD hI=>?_⟩)
  ·have:=zna hp hv hI;rw [aA] at this;lia
  ·rw [aA] at hm;have uV:=s1.trans s2;exact #[QKK,(ex5 tl l _ _ _ ⟨rfl,oE.of (uV _ _ qK),oE.of h2,zqy (uY.same uV),znF qF,fun D H3 Aq s3 h3=>q D c m H3 (uV.free Aq) (uV.trans s3) h3 hc hm Dh hD hI⟩)]
noncomputable def zfL (K:aD):Sp:=fun vs H Q _=>∃ (k many:Nat),vs = [.int (k:Int),.int (many:Int)]/\2<=k/\k<=100/\many<=300 /\
 ∀ (l:Addr) (us:TF) (S:Nat) (H':Hp),H l=none->zr H H'->H' l=some #[R6]->PtB H' us ((#[TX].take many).map tI)->S<=many->many<=#[TX].length->Q #[RB] H'
theorem zhr (k s:Nat):(tms k s).length=s / (k - 1)+1:=by unfold tms; rw [aA,bJ]
theorem zo2 {us:TF} {q:List (Int×Int)} (h:PtB H us q) (m:Nat):PtB H (us.take m) (q.take m):=by
 induction h generalizing m with
 | nil=>simp; exact .nil
 | cons h1 _ ih =>
  cases m with
  | zero=>exact .nil
  | succ m=>exact .cons h1 (ih m)
theorem zhs {F:Addr} {xs:List V} {o:HO} {us:TF} {q:List (Int×Int)} (h:PtB H us q) (hF:H F=some #[Ry]):PtB (oG H F o) us q:=eA (fun b v z=>by rw [zn (fun e=>by rw [e,hF] at z; cases z)]; exact z) h
theorem znG {us vs:TF} {q r:List (Int×Int)} (h1:PtB H us q) (h2:PtB H vs r):PtB H (us++vs) (q++r):=by
 induction h1 with
 | nil=>exact h2
 | cons a _ ih=>exact .cons a ih
theorem za7:KE ["k","many","terms","size"] ["k","many"] (zh zbf):=#[S]
theorem zfM (T:Txt K mg base t) (F:Fun K "first_terms" "first_terms" zbf t.LW fd):LG P w K mg base CX0 1 t.LW fd ["k","many"] (zfL K):=by
 refine F.ok za7 #[pc] #[dl]
 ·obtain⟨k,many,rfl,_⟩:=h;rfl
 ·obtain⟨k,many,rfl,k2,yQ,hm,q⟩:=h;refine zaJ ?_; intro zX;refine⟨_,#[zd,#[zl,2,za7.nd,#[A],#[Q9]],#[zd,#[zl,3,za7.nd,#[Q0],#[zg]],#[zd,#[zdF,bR,#[zK,#[zdH],#[SS],#[wP],(zY _)],#[zd,#[ziR,2,za7.nd,#[A],#[zU,(Lu.of (N':=["j","size","k"]) (ix:=[none,some 3,some 0]) (zh zbf) _ rfl rfl rfl),#[zar],#[zO,T.Lw,#[ya,#[zi,#[zz],#[zi,#[zbh],#[KB],#[zi,#[zaa],#[xL],#[zg]]],#[zg]]]],#[pi],#[sK],(fun _ _ _ _=>#[zaZ,#[za,#[Rb],#[Ta]]])],zm6],#[zk,#[ziR,3,za7.nd,#[Q0],#[zg],zn3]]]],#[zk,#[zA,#[zbs,zbX,#[FB],#[zb8],#[zbI,#[wP]]]]]]]],?_⟩;refine zhK ?_; intro uf qv qk;have qu:=bN;refine⟨bX _,fun TL HF=>?_⟩;refine⟨fun μ σ H'=>∃ (S:Nat) (us:TF),μ=many+1 - S/\S<=many/\σ = [some (.int (k:Int)),some (.int (many:Int)),some (.ref TL),some (.int (S:Int))]/\zr H H'/\H' TL=some #[R6]/\PtB H' us (#[TX].map tI),(ex3 (many+1) 0 ([]) ⟨rfl,bX _,rfl,zc HF,zb,.nil⟩),?_⟩;rintro μ σ H1 ⟨S,us,rfl,hS,rfl,s1,h1,pk⟩;have tL:us.length=#[TX].length:=by rw [bS pk,aA]
  have hSl:=zdg k S;refine #[QK,⟨TL,#[QK,⟨.inl (oE.of h1),#[Ur]⟩]⟩];rw [aA,tL];refine zaD #[V3] #[V2]
  ·have oY:=of_decide_eq_true oY;have oY:#[TX].length < many:=by lia
   refine⟨fun σ' H'=>∃ m',m' < many+1 - S/\∃ (S:Nat) (us:TF),m'=many+1 - S/\S<=many/\σ' = [some (.int (k:Int)),some (.int (many:Int)),some (.ref TL),some (.int (S:Int))]/\zr H H'/\H' TL=some #[R6]/\PtB H' us (#[TX].map tI),fun _ _ z=>z,?_⟩;have k1:0 < k - 1:=by lia
   have ek:((k:Int) - 1)=((k - 1:Nat):Int):=by lia
   have eN:((S:Int) / ((k:Int) - 1)+1)=((S / (k - 1)+1:Nat):Int):=by
    rw [ek];exact congrArg (· + 1) (hJ S (k - 1)).symm
   have hq:S / (k - 1)<=S:=gM _ _;refine #[QKKKRR,#[TZ]];refine⟨(S:Int) / ((k:Int) - 1)+1,rfl,by rw [eN]; exact cX #[D] (iE _),by rw [eN]; exact gJ (kh.mpr (show S / (k - 1)+1<=301 from fS (cC hq #[O]))) #[D],?_⟩;rw [eN,cB];refine zW (n:=S / (k - 1)+1) (fun m ys H'=>zr H1 H'/\∃ vs:List Addr,ys=vs.map V.ref/\PtB H' vs (((tms k S).take m).map tI)) ⟨fun _ _ e=>e,[],rfl,.nil⟩ #[On] #[GE] ?_ ?_
   ·rintro zS zT zE j x ys H2 H3 hj ⟨s2,vs,rfl,yh⟩ ⟨rfl,rfl⟩;rw [show ((0:Int)+(j:Int))=(j:Int) from cI _];have tG:(k - 1)*j<=S:=by
     have:=(dB k1).mp (show j<=S / (k - 1) by lia);rw [eh]; exact this
    have wy:vs.length=j:=by rw [bS yh,aA,bC,zhr]; lia
    have eV:(S:Int) - ((k:Int) - 1)*(j:Int)=((S - (k - 1)*j:Nat):Int):=by
     rw [ek,jm tG,gN]
    refine gY ?_;refine #[QKKRKR,⟨.inl #[u8],#[QRK,⟨by show 2<=sizeLine; lia,fun T hT=>?_⟩]⟩];have HD:(tms k S)[j]? = some (S - (k - 1)*j,j):=by unfold tms; rw [aF,cY hj]; rfl
    refine⟨by rw [aA]; lia,s2.trans (zc hT),vs++[T],#[M],?_⟩;rw [take_snoc HD,aN];refine dE (yh.same (zc hT)) ?_;rw [zb];show some (HO.tup [V.int ((S:Int) - ((k:Int) - 1)*(j:Int)),V.int (j:Int)])=_;rw [eV];rfl
   ·rintro ys H2 D ⟨s2,vs,rfl,yh⟩ hD;rw [bO (by rw [zhr]; exact aG _)] at yh;have sD:=s2.trans #[SM];have wy:vs.length=S / (k - 1)+1:=by rw [bS yh,aA,zhr]
    refine (ex4 TL D _ _ ⟨rfl,rfl,sD _ _ h1,zb,by rw [aA,aA]; lia,?_⟩);refine #[QKR,?_];refine⟨many+1 - (S+1),#[O],S+1,us++vs,rfl,#[O],rfl,z7 (s1.trans sD) HF,by rw [zb,aN],?_⟩;rw [zb4,aN];have a1:=zhs (o:=.lst #[W6]) (pk.same sD) (sD _ _ h1);have a2:=zhs (o:=.lst #[W6]) (yh.same #[SM]) (sD _ _ h1);exact znG a1 a2
  ·have p9:¬ ((#[TX].length:Int) < (many:Int)):=fun h=>p9 #[Rh]
   refine #[QKKK,⟨TL,#[Xr]⟩];have ec:zb6 #[EQ] none (some (many:Int))=(us.take many).map V.ref:=by
    unfold zb6;rw [HT.MF,HT.Mx,fU,gA,aA,fJ #[O],gE]
   rw [ec];refine q z (us.take many) S _ (s1.free hz) (s1.trans (zc hz)) zb ?_ hS #[O];have:=(zo2 pk many).same (zc (o:=.lst ((us.take many).map V.ref)) hz);rw [<- gE] at this;exact this
theorem gY3 {K:aD} {i l:Nat} {T:Addr} {x z:V} {σ:L2.St} {A B:L2.St->Hp->Prop} (hT:oQ K H T [x,y,z]) (h:A ((#[Qt].set j (some y)).set l (some z)) H) :
  zkH K 3 (zet (zbc i) (zet (zbc j) (zet (zbc l) zlX))) (.ref T) σ H (fun σ2 H2=>zoa σ2 H2 fun b H3=>if b=true then A σ2 H3 else B σ2 H3):=by
 refine⟨T,_,rfl,hT,rfl,x,_,rfl,y,_,rfl,z,_,rfl,rfl,?_⟩;show (if true=true then A ((#[Qt].set j (some y)).set l (some z)) H else B ((#[Qt].set j (some y)).set l (some z)) H);rw [if_pos rfl];exact h
theorem zfN (w:Nat):(w:Int)*((w:Int)+1) / 2=(tri w:Int):=by
 unfold tri;rw [show ((w:Int)*((w:Int)+1))=((w*(w+1):Nat):Int) by rw [gN]; rfl];exact (hJ _ 2).symm
theorem zec {α:Type} (f:α->Nat):∀ l:List α,(l.map fun q=>(f q:Int)).sum=((l.map f).sum:Int)
 | []=>rfl
 | a :: l=>by
  rw [bT,dZ,bT,dZ,zec f l];lia
theorem zkv:∀ {ts:List Tm} {c:TD} {t:Tm},(zaO (#[Sd].zip #[Rz]) (tK t)).getD (.int 0) = .int (gof ts c t)
 | [],_,_=>rfl
 | _ :: _,[],_=>rfl
 | a :: ts,b :: c,t=>by
  have ih:=zkv (ts:=ts) (c:=c) (t:=t);unfold zaO gof at ih |-;rw [bT,bT,f9,f9,bY];by_cases e:t=a
  ·subst e;rw [List.find?_cons_of_pos #[M],beq_self_eq_true];rfl
  ·rw [List.find?_cons_of_neg (by simp; exact fun h=>e (znE h).symm),show (t == a)=false by simpa using e];exact ih
theorem zht (hk:2<=k) (t:Tm):(t.1:Int)+((k:Int) - 1)*(t.2:Int)=(tz k t:Int):=by
 unfold tz;rw [show ((k:Int) - 1)=((k - 1:Nat):Int) by lia,gi,gN]
theorem zlD {s:Nat} {g:Tm->Int} (h:j < s / (k - 1)+1):#[QV].take (j+1)=#[QV].take j++[(aU (s - (k - 1)*j+1)).map fun i=>g (i,j)]:=take_snoc (ziy h)
noncomputable def zfO (K:aD):Sp:=fun vs H Q _=>∃ (p:Int) (k:Nat) (pl:Addr) (cs:TF) (oJ:List (Int×Int×Nat)),vs = [.int p,.int (k:Int),.ref pl]/\p∈zw/\2<=k/\k<=100/\H pl=some #[Re]/\W3 H cs oJ/\ziE p oJ/\#[Sc].length<=199/\oJ.length<=1000 /\
 ∀ (z r:Addr) (ls:TF) (size:Nat) (g:Tm->Int) (H':Hp),H z=none->zr H H'->H' z=some (.tup [.int (size:Int),.ref r])->H' r=some #[SZ]->zb7 H' ls (za9 k size g)->Lst p k oJ size g->size<=200->Q #[SE] H'
theorem za8:KE ["p","k","points","asked","found","size","lines"] ["p","k","points"] (zh zax):=#[S]
theorem zfP (T:Txt K mg base t) (F:Fun K "least_curve" "least_curve" zax t.LJ fd):LG P w K mg base CX0 6 t.LJ fd ["p","k","points"] (zfO K):=by
 obtain⟨Br,rH,uZ⟩:=T.Mq;have u6:=zhq (P:=P) (w:=w) (base:=base) T rH;obtain⟨yR,qw,sX⟩:=T.LZ;have sY:=zfM (P:=P) (w:=w) (base:=base) T qw;refine F.ok za8 #[pc] #[dl]
 ·obtain⟨p,k,pl,cs,oJ,rfl,_⟩:=h;rfl
 ·obtain⟨p,k,pl,cs,oJ,rfl,hp,k2,yQ,pN,vV,hg,hL,hn,q⟩:=h;have hu:(A.deeper (envOfC (cN "least_curve") (zh zax) s.heap.objs.size t.LJ oU)).units+20 < cLine:=by have:=hr.units; lia
  refine zaJ ?_; intro zX;refine⟨_,#[zd,#[zl,3,za8.nd,#[A],#[zm,#[zbp],T.Ph,iX,#[ya,#[zU,(Lu.of (N':=["x","y","weight"]) (ix:=[none,none,none]) (zh zax) _ rfl rfl rfl),#[Rx],#[zai,#[FB]],#[re],#[sK],#[Qy]]]]],#[zd,#[zl,4,za8.nd,#[Q0],#[zq,u6,#[ut],T.Ou,rH.kp,uZ,#[zZ],#[za,#[xL],#[za,#[zq,sY,#[ut],T.ND,qw.kp,sX,#[zZ],#[za,#[wP],#[ya,#[Wa]]]],#[QF]]]]],#[zd,#[zl,5,za8.nd,#[Q0],#[zm,#[zbC],T.O5,g9,#[ya,#[zU,(Lu.of (N':=["i","j","k"]) (ix:=[none,none,some 1]) (zh zax) _ rfl rfl rfl),#[RC],#[zpo,#[QQ]],#[o0],#[sK],(fun _ _ _ _=>#[zi,#[zz],#[xL],#[zi,#[zH],#[zi,#[zaa],#[FB],#[zg]],#[wP]]])]]]],#[zd,#[zbm,6,za8.nd,#[A],(Lu.of (N':=["j","size","k","found"]) (ix:=[none,some 5,some 1,some 4]) (zh zax) _ rfl rfl rfl),#[zar],#[zO,T.Lw,#[ya,#[zi,#[zz],#[zi,#[zbh],#[Rj],#[zi,#[zaa],#[wP],#[zg]]],#[zg]]]],(fun _ _ _ _=>#[zf,0,#[Y],#[Q0]]),#[sK],(fun _ _ _ _=>#[zaR,(zfC (K:=K) rfl),T.Nn,jl,#[ya,#[zU,(Lu.of (N':=["i","found","j"]) (ix:=[none,some 3,some 0]) ({ kind:=.function,names:=[(".0",.local),("j",.cell),("tuple",.globalImplicit),("range",.globalImplicit),("found",.cell),("k",.cell),("size",.cell)],isGenerator:=false,isCoroutine:=false }) _ (by with_unfolding_all rfl) rfl rfl),#[zar],#[zO,T.Lw,#[ya,#[zi,#[zz],#[Rb],#[zg]]]],#[pi],#[sK],(fun _ _ _ _=>#[zfx,(jI (l8 (show 1<=20 by decide) _) hu),#[wP],#[zaZ,#[za,#[xL],#[QF]]],#[zg],⟨rfl,rfl,rfl,rfl⟩])]]])],#[zk,#[zA,#[zaZ,#[za,#[Rj],#[ya,#[zaR,#[zbd],T.Nn,jl,#[Uj]]]]]]]]]]],?_⟩;refine zmb ?_; intro yG uf qv qk;have qu:=bN;have rp:=zC hp;have rP:=bS vV;refine #[QK,⟨pl,rfl,⟨_,oE.of pN⟩,zbB (fs:=(oJ.map fun q=>(tri q.2.2:Int)).map V.int) (oE.of pN) (by rw [aA,aA,aA,rP]) (by rw [aA]; lia) #[S8] (fun D0 Em=>?_)⟩]
  ·obtain⟨b,rfl,hb⟩:=z6 hx;obtain⟨⟨px,py,pw⟩,hq,Df⟩:=Paired.get vV hb;have Ky:=(hg _ (aO hq)).2.2.2.2.2;rw [aF,aF,hq] at hy;have hy:V.int (tri pw:Int)=y:=by simpa using hy
   subst hy;refine gY3 (oQ.of Df) ?_;have Ky:pw<=9:=Ky;refine #[Wl];show R (.int ((pw:Int)*((pw:Int)+1) / 2)) _;rw [zfN];exact hR
  refine⟨D0,oJ.map fun q=>(tri q.2.2:Int),rfl,oE.of zb,?_⟩;rw [zec,show (oJ.map fun q=>tri q.2.2).sum=zcu oJ from rfl];have s0:=zc (o:=.lst ((oJ.map fun q=>(tri q.2.2:Int)).map V.int)) Em;generalize oG H D0 (.lst ((oJ.map fun q=>(tri q.2.2:Int)).map V.int))=H0 at s0 |-;have hcn:=zd2 oJ;refine #[QKKKR,⟨k,zcu oJ+1,rfl,k2,yQ,#[O],fun tl us S H1 qK s1 h1 uY hS1 hS2=>?_⟩];have vU:=s0.trans s1;have Kz:∀ t∈#[TX].take #[U3],tz k t < S:=fun t ht=>(zaS k2).mp (g7 ht)
  have tle:∀ t:Tm,t.1<=tz k t/\t.2<=tz k t:=fun t=>⟨by unfold tz; lia,by
   unfold tz;have:1*t.2<=(k - 1)*t.2:=g8 _ #[O];lia⟩
  have qF:(#[TX].take #[U3]).Nodup:=iC (gk _ _) (za3 k2 S);have oO:(#[TX].take #[U3]).length=zcu oJ+1:=by rw [bC]; lia
  refine #[QK,(ex7 p tl pl us cs (#[TX].take #[U3]) oJ ⟨rfl,hp,h1,uY,qF,by rw [oO,hcn],#[O],fun t ht=>?_,vU _ _ pN,vV.same vU,hg,hn,fun D c m H2 hD s2 h2 hc hm Dh hDp hI=>?_⟩)]
  ·have:=Kz t ht;have:=tle t;lia
  rw [oO] at hm;have Az:=vU.trans s2;have Hi:H D=none:=vU.free hD;obtain⟨top,qM⟩:∃ top,((z8 k S).take (zcu oJ+1))[m]? = some top:=⟨(#[TX].take #[U3])[m]'#[O],aJ _⟩;have LS:=zqs (p:=p) #[O] k2 (oJ:=oJ) (S:=S) (ts:=#[TX].take #[U3]) (by rw [hcn]) hc qM Dh hDp hI;have Hg:(#[TX].take #[U3]).Pairwise fun a b=>tz k a<=tz k b:=gU (gk _ _) (zcK k2 S)
  have Gg:=Kz top (aO qM);generalize #[TX].take #[U3]=ts at *;have Dc:c.length=m+1:=hc.1;have hzl:(#[Sd].zip #[Rz]).length=m+1:=by rw [nR,aA,aA]; lia
  refine #[QK,⟨D,#[QK,⟨h2,fun o=>?_⟩]⟩];have s3:zr H (oG H2 D (.frz o (.dT (#[Sd].zip #[Rz])))):=z7 Az Hi;have h3:oG H2 D (.frz o (.dT (#[Sd].zip #[Rz]))) D=some (.frz o (.dT (#[Sd].zip #[Rz]))):=zb;generalize oG H2 D (.frz o (.dT (#[Sd].zip #[Rz])))=H3 at s3 h3 |-;refine zW (n:=m+1) (fun i ys H'=>H'=H3/\ys=(#[Vj].map fun t=>(tz k t:Int)).map V.int) ⟨rfl,rfl⟩ ?_ ?_ ?_ ?_
  ·rintro i ys H' hi ⟨rfl,_⟩;exact⟨h3,#[O]⟩
  ·rintro ys H' ⟨rfl,_⟩;exact⟨h3,#[O]⟩
  ·rintro zS zT zE i x ys H' H4 hi ⟨rfl,rfl⟩ ⟨rfl,a,ky,rfl,Hc,ha⟩;have HG:ts[i]? = some (ts[i]'#[O]):=aJ #[O];have ek:ky=tK (ts[i]'#[O]):=by
    rw [aF] at Hc;obtain⟨q',qL,rfl⟩:=et.mp Hc;have qJ:(#[Sd].zip #[Rz])[i]? = some (q'.1,q'.2):=qL;rw [io,aF,HG] at qJ;exact (bI qJ.1).symm
   subst ek;generalize ts[i]'#[O]=tt at HG ha;have Ek:tz k tt < S:=Kz tt (aO HG);have:=tle tt;refine gY2 (oQ.of (xs:=[.int (tt.1:Int),.int (tt.2:Int)]) ha) ?_;refine #[QKKRKR,⟨.inl #[u8],#[QR,?_]⟩];refine⟨by rw [aA,aA,bC]; lia,rfl,?_⟩;show _++[V.int ((tt.1:Int)+((k:Int) - 1)*(tt.2:Int))]=_;rw [zht k2,take_snoc HG,aN,aN];rfl
  rintro ys H' D2 ⟨rfl,rfl⟩ Bl;refine⟨D2,#[VS].map fun t=>(tz k t:Int),rfl,oE.of zb,fun e=>?_,fun M hM yP=>?_⟩
  ·have:#[VS].length=0:=by rw [<- aA (f:=fun t=>(tz k t:Int)),e]; rfl
   rw [bC] at this;lia
  have eM:M=(tz k top:Int):=by
   obtain⟨t',HH,rfl⟩:=aQ.mp hM;obtain⟨i',qj⟩:=d7.mp HH;have Gh:i' < m+1:=by have:=(aK.mp qj).1; rw [bC] at this; lia
   rw [dw Gh] at qj;have b1:=zer Hg qj qM #[O];have b2:=yP (tz k top:Int) (aQ.mpr ⟨top,d7.mpr ⟨m,by rw [dw #[O]]; exact qM⟩,rfl⟩);lia
  subst eM;have w4:=zc (o:=.lst ((#[VS].map fun t=>(tz k t:Int)).map V.int)) Bl;have s4:=s3.trans w4;have h4:=w4 _ _ h3;generalize oG H' D2 (.lst ((#[VS].map fun t=>(tz k t:Int)).map V.int))=H4 at s4 h4 |-;have k1:0 < k - 1:=by lia
  have Ca:((k:Int) - 1)=((k - 1:Nat):Int):=by lia
  obtain⟨sz,G4⟩:∃ sz,tz k top=sz:=⟨_,rfl⟩;rw [G4] at LS Gg |-;have eN:((sz:Int) / ((k:Int) - 1)+1)=((sz / (k - 1)+1:Nat):Int):=by
   rw [Ca];exact congrArg (· + 1) (hJ sz (k - 1)).symm
  have Bp:sz / (k - 1)<=sz:=gM _ _;have KA:=fun t=>zkv (ts:=ts) (c:=c) (t:=t)
  generalize #[Sd].zip #[Rz]=kvs at *;generalize gof ts c=g at *;refine #[QKKRR,#[TZ]];refine⟨(sz:Int) / ((k:Int) - 1)+1,rfl,by rw [eN]; exact cX #[D] (iE _),by rw [eN]; exact gJ (kh.mpr (show sz / (k - 1)+1<=301 from fS (cC Bp #[O]))) #[D],?_⟩;rw [eN,cB];refine zW (n:=sz / (k - 1)+1) (fun j ys H'=>zr H4 H'/\∃ us:List Addr,ys=us.map V.ref/\zb7 H' us ((za9 k sz g).take j)) ⟨fun _ _ e=>e,[],rfl,.nil⟩ #[On] #[GE] ?_ ?_
  ·rintro zS zT zE j x ys H5 H6 hj ⟨s5,us,rfl,pk⟩ ⟨rfl,rfl⟩;rw [show ((0:Int)+(j:Int))=(j:Int) from cI _];have tG:(k - 1)*j<=sz:=by
    have:=(dB k1).mp (show j<=sz / (k - 1) by lia);rw [eh]; exact this
   have tL:us.length=j:=by rw [bS pk,bC,zbP]; lia
   have eV:(sz:Int) - ((k:Int) - 1)*(j:Int)+1=((sz - (k - 1)*j+1:Nat):Int):=by
    rw [Ca,gi,jm tG,gN];rfl
   refine gY ?_;refine #[Sx];refine⟨(sz:Int) - ((k:Int) - 1)*(j:Int)+1,rfl,by rw [eV]; lia,by rw [eV]; lia,?_⟩;rw [eV,cB];refine zW (n:=sz - (k - 1)*j+1) (fun i ys H'=>zr H6 H'/\ys=((aU i).map fun i=>g (i,j)).map V.int) #[UK] #[On] #[GE] ?_ ?_
   ·rintro zS zT zE i x ys H7 H8 hi ⟨s7,rfl⟩ ⟨rfl,rfl⟩;rw [show ((0:Int)+(i:Int))=(i:Int) from cI _];have h7:=(s5.trans s7) _ _ h4;refine gY ?_;refine #[QK,⟨D,rfl,.inr ⟨kvs,.inr ⟨o,h7⟩⟩,#[QKK,⟨by show 2<=sizeLine; lia,fun T hT=>?_⟩]⟩];have wT:=zc (o:=.tup [.int (i:Int),.int (j:Int)]) hT;refine⟨_,.inr ⟨kvs,tK (i,j),T,.inr ⟨o,wT _ _ h7⟩,rfl,zb,rfl⟩,?_⟩;rw [KA];refine⟨by rw [aA,aA,bJ]; lia,s7.trans wT,?_⟩;rw [cA,aN,aN];rfl
   ·rintro ys H7 D5 ⟨s7,rfl⟩ hD5;refine⟨D5,#[QK,(.inl ⟨oE.of zb,fun l hl=>?_⟩)]⟩;have w7:=(s7.trans (zc (o:=.lst (((aU (sz - (k - 1)*j+1)).map fun i=>g (i,j)).map V.int)) hD5)).trans (zc (o:=.tup (((aU (sz - (k - 1)*j+1)).map fun i=>g (i,j)).map V.int)) hl);refine⟨by rw [aA]; lia,s5.trans w7,us++[l],#[M],?_⟩;rw [zlD hj];exact dE (pk.same w7) zb
  ·rintro ys H5 L1 ⟨s5,us,rfl,pk⟩ GY;rw [bO (by rw [zbP]; exact aG _)] at pk;have w5:=s5.trans (zc (o:=.lst #[EQ]) GY);have KD:=pk.same (zc (o:=.lst #[EQ]) GY);refine #[QKK,⟨L1,#[QK,(.inl ⟨oE.of zb,fun r hr=>?_⟩)]⟩];have w6:=w5.trans (zc (o:=.tup #[EQ]) hr);have Bs:=KD.same (zc (o:=.tup #[EQ]) hr);refine⟨by show 2<=sizeLine; lia,fun z hz=>?_⟩;have sf:=s4.trans w6;have wz:=zc (o:=.tup [.int (sz:Int),.ref r]) hz;exact q z r us sz g _ (sf.free hz) (sf.trans wz) zb (wz _ _ zb) (Bs.same wz) LS #[O]
noncomputable def zeT (t:Adr) (K:aD):Sp:=fun vs H Q E=>∃ (k:Nat),vs = [.int (k:Int)]/\((k < 2/\E #[WS] none H)\/(2<=k/\Q .non H))
theorem zeU:KE ["k"] ["k"] (zh zbv):=#[S]
theorem zeV (T:Txt K mg base t) (F:Fun K "check_curves" "check_curves" zbv t.LN fd):LG P w K mg base (CX1 P w) 1 t.LN fd ["k"] (zeT t K):=by
 refine F.okX zeU #[pc] #[dl]
 ·obtain⟨k,rfl,_⟩:=h;rfl
 ·obtain⟨k,rfl,q⟩:=h;refine zaJ ?_; intro zX;refine⟨_,#[zk,#[zaX,#[zK,#[zdH],#[xL],#[zg],(zY _)],#[zk,#[zh4,#[Ux],T.NV,T.Nm,#[zfg]]],#[zal]]],?_⟩;refine #[Ur];rcases q with ⟨h1,q⟩ | ⟨h1,q⟩
  ·refine zaD (fun _=>?_) (fun h=>absurd (decide_eq_true #[O]) h);exact⟨rfl,q⟩
  ·exact zaD #[Rs] (fun _=>q)
end
theorem zgI (w:Nat):∀ n,((aU n).flatMap fun j=>(aU w).map fun i=>((i,j):Tm)).Nodup
 | 0=>by simp
 | n+1=>by
  rw [cA,dO,ff];refine⟨zgI w n,?_,fun a ha b hb e=>?_⟩
  ·simp only [iM,kf,du];exact List.Pairwise.map _ (fun a b hab e=>hab (congrArg oq e)) gw
  ·simp only [iM,kf,du] at hb;obtain⟨j,hj,ha⟩:=dX.mp ha;obtain⟨i,_,rfl⟩:=aQ.mp ha;obtain⟨i',_,rfl⟩:=aQ.mp hb;have:=bP.mp hj;have:=congrArg lI e;simp only at this;lia
theorem znH {s:Nat} (hk:2<=k) {f:Tm->Int} (hf:∀ t,s < tz k t->f t=0):lsum (z8 k (s+1)) f=sm (s+1) fun j=>sm (s+1) fun i=>f (i,j):=by
 rw [<- zgB (n:=s+1) (w:=fun _=>s+1)];have nb:=zgI (s+1) (s+1);rw [zcb (q:=fun t=>decide (tz k t<=s)) (l:=(aU (s+1)).flatMap fun j=>(aU (s+1)).map fun i=>((i,j):Tm)) fun t _ ht=>hf t #[U,ht]];refine zep (za3 hk _) (nb.filter _) fun t=>?_
 rw [zaS hk,cK,decide_eq_true_iff];constructor
 ·intro h;have h1:t.1<=tz k t:=kb _ _;have h2:t.2<=tz k t:=by
   have:1*t.2<=(k - 1)*t.2:=g8 _ #[O];unfold tz;lia
  refine⟨dX.mpr ⟨t.2,bP.mpr #[O],aQ.mpr ⟨t.1,bP.mpr #[O],rfl⟩⟩,#[O]⟩
 ·rintro⟨_,h⟩;lia
abbrev Ps:=Nat->Int
structure Add (B:Ps->Ps):Prop where
 a:∀ u v,B #[U7]=fun i=>B u i+B v i
noncomputable def shO (B:Ps->Ps):Nat->(Nat->Ps)->Nat->Ps
 | 0,_,_=>fun _=>0
 | n+1,F,0=>fun i=>F 0 i+B (shO B n #[Op] 0) i
 | n+1,F,j+1=>fun i=>shO B n #[Op] j i+B (shO B n #[Op] (j+1)) i
theorem Add.z {B:Ps->Ps} (h:Add B):B (fun _=>0)=fun _=>0:=by
 have:=h.a (fun _=>0) (fun _=>0);funext i;have e:=congrFun this i;have e2:(fun _:Nat=>(0:Int)+0)=fun _=>0:=by funext i; rfl
 rw [e2] at e;lia
theorem zfQ {B:Ps->Ps} (h:Add B):∀ {n:Nat} {F:Nat->Ps} {j:Nat},n<=j->shO B n F j=fun _=>0
 | 0,_,_,_=>by simp [shO]
 | n+1,F,0,hj=>by lia
 | n+1,F,j+1,hj=>by
  rw [shO,zfQ h #[O],zfQ h #[O],h.z];funext i;simp
theorem zhu {B:Ps->Ps} (h:Add B):∀ {n:Nat} {F G:Nat->Ps} {j:Nat},shO B n (fun t i=>F t i+G t i) j=fun i=>shO B n F j i+shO B n G j i
 | 0,_,_,_=>by simp [shO]
 | n+1,F,G,0=>by
  have e:=zhu h (n:=n) (F:=fun t=>F (t+1)) (G:=fun t=>G (t+1)) (j:=0);simp only [shO];rw [e,h.a];funext i;dsimp only;lia
 | n+1,F,G,j+1=>by
  have e:=fun j=>zhu h (n:=n) (F:=fun t=>F (t+1)) (G:=fun t=>G (t+1)) (j:=j)
  simp only [shO];rw [e,e,h.a];funext i;dsimp only;lia
theorem zhv {B C:Ps->Ps} (hC:Add C) (hc:∀ l,C (B l)=B (C l)):∀ {n:Nat} {F:Nat->Ps} {j:Nat},shO B n (fun t=>C (F t)) j=C (shO B n F j)
 | 0,_,_=>by simp [shO,hC.z]
 | n+1,F,0=>by
  have e:=zhv hC hc (n:=n) (F:=fun t=>F (t+1)) (j:=0);simp only [shO];rw [e,<- hc,<- hC.a]
 | n+1,F,j+1=>by
  have e:=fun j=>zhv hC hc (n:=n) (F:=fun t=>F (t+1)) (j:=j)
  simp only [shO];rw [e,e,<- hc,<- hC.a]
theorem zfa {B:Ps->Ps} (h:Add B):∀ {n:Nat} {F:Nat->Ps} {j:Nat},F n=(fun _=>0)->shO B (n+1) F j=shO B n F j
 | 0,F,0,e=>by simp [shO,e,h.z]
 | 0,F,j+1,e=>by simp [shO,h.z]
 | n+1,F,0,e=>by
  rw [shO,zfa h (n:=n) (F:=fun t=>F (t+1)) e]; simp only [shO]
 | n+1,F,j+1,e=>by
  have g:=fun i=>zfa h (n:=n) (F:=fun t=>F (t+1)) (j:=i) e
  rw [shO,g j,g (j+1)]; simp only [shO]
theorem znI {B:Ps->Ps} {n:Nat} {G:Nat->Ps} (h:∀ t,F t=G t):shO B n F j=shO B n G j:=by
 rw [funext h]
theorem zkw {B B':Ps->Ps} (h:Add B) (h':Add B') (hc:∀ l,B (B' l)=B' (B l)):∀ {n:Nat} {F:Nat->Ps} {j:Nat},shO B' n (shO B n F) j=shO (fun l i=>B l i+B' l i) n F j
 | 0,_,_=>by simp [shO]
 | n+1,F,j=>by
  have hz:shO B n #[Op] n=fun _=>0:=zfQ h (aG _)
  have ih:=fun i=>zkw h h' hc (n:=n) (F:=fun t=>F (t+1)) (j:=i)
  have e:shO B' (n+1) (shO B (n+1) F) j=shO B' (n+1) (fun t i=>(if t=0 then F 0 else shO B n #[Op] (t - 1)) i+B (shO B n #[Op] t) i) j:=by
   refine znI fun t=>?_
   cases t <;> simp [shO]
  rw [e,zhu h',zhv h hc (F:=shO B n #[Op]),zfa h' hz,ih];have e2:∀ i,shO B' n (fun t=>if t+1=0 then F 0 else shO B n #[Op] (t+1 - 1)) i=shO (fun l i=>B l i+B' l i) n #[Op] i:=fun i=>by
   rw [<- ih]; exact znI fun t=>by simp
  cases j with
  | zero =>
   simp only [shO,if_true];rw [e2];funext i;lia
  | succ j =>
   simp only [shO];rw [e2,e2];funext i;lia
noncomputable def Xl (l:Ps):Ps:=fun i=>if i=0 then 0 else l (i - 1)
noncomputable def mq (a:Int):Nat->Ps->Ps->Ps
 | 0,_,_=>fun _=>0
 | n+1,b,l=>fun i=>b 0*l i+(Xl (mq a n #[Ev] l) i+a*mq a n #[Ev] l i)
theorem znJ (u v:Ps):Xl #[U7]=fun i=>Xl u i+Xl v i:=by
 funext i;unfold Xl;split
 ·rfl
 ·rfl
theorem znK (c:Int) (u:Ps):Xl (fun i=>c*u i)=fun i=>c*Xl u i:=by
 funext i;unfold Xl;split
 ·lia
 ·rfl
theorem zc8 (a:Int):∀ (n:Nat) (b:Ps),Add (mq a n b)
 | 0,_=>⟨fun _ _=>by funext i; simp [mq]⟩
 | n+1,b=>⟨fun u v=>by
  have ih:=(zc8 a n #[Ev]).a u v;funext i;simp only [mq];rw [ih,znJ];grind⟩
theorem zjv (a c:Int):∀ (n:Nat) (b l:Ps),mq a n b (fun i=>c*l i)=fun i=>c*mq a n b l i
 | 0,_,_=>by funext i; simp [mq]
 | n+1,b,l=>by
  have ih:=zjv a c n #[Ev] l;funext i;simp only [mq];rw [ih,znK];grind
noncomputable def Dg (l:Ps) (w:Nat):Prop:=∀ i,w<=i->l i=0
theorem Dg.le {l:Ps} {w w':Nat} (h:Dg l w) (hw:w<=w'):Dg l w':=fun i hi=>h i #[O]
theorem zjw:∀ {n:Nat} {b l:Ps} {w:Nat},Dg l w->Dg #[Us] (w+(n - 1))
 | 0,_,_,_,_=>fun i _=>by simp [mq]
 | n+1,b,l,w,h=>fun i hi=>by
  have ih:=zjw (n:=n) (b:=fun t=>b (t+1)) h;simp only [mq,dq,eQ];rw [h i #[O],eP,cI];unfold Xl;split
  ·rfl
  ·cases n with
   | zero=>simp [mq]
   | succ n=>exact ih _ #[O]
theorem zps {a:Int}:∀ {w:Nat} {l:Ps},sh a (w+1) (Xl l)=fun i=>Xl (sh a w l) i+a*sh a w l i
 | w,l=>by
  funext i;have e:(fun t=>Xl l (t+1))=l:=by funext t; simp [Xl]
  cases i with
  | zero=>simp only [sh,e]; simp [Xl]
  | succ i=>simp only [sh,e]; simp [Xl]
theorem zkx {a c:Int} {w:Nat} {l:Ps}:sh a w (fun i=>c*l i)=fun i=>c*sh a w l i:=funext fun _=>zhf
theorem zfb {a:Int} {w:Nat} {u v:Ps}:sh a w #[U7]=fun i=>sh a w u i+sh a w v i:=funext fun _=>zhe
theorem zfc {a:Int} {w w':Nat} {l:Ps} (h:Dg l w) (hw:w<=w'):sh a w' l=sh a w l:=funext fun _=>zoG hw fun t h1 _=>h t h1
theorem zpt {a:Int}:∀ {n:Nat} {b l:Ps} {w W:Nat},Dg l w->w+n<=W->sh a W #[Us]=mq a n b (sh a W l)
 | 0,_,_,_,_,_,_=>by
  funext i;simp only [mq];rw [zfD];exact zaW fun t _=>by simp
 | n+1,b,l,w,W,h,hW=>by
  have ih:=zpt (a:=a) (n:=n) (b:=fun t=>b (t+1)) (w:=w) (W:=W) h #[O];have hd:Dg #[Rl] (W - 1):=(zjw h).le #[O];have e1:sh a W (Xl #[Rl])=fun i=>Xl (sh a W #[Rl]) i+a*sh a W #[Rl] i:=by
   have:=zps (a:=a) (w:=W - 1) (l:=mq 0 n #[Ev] l);rw [show W - 1+1=W by lia] at this;rw [this,zfc hd (show W - 1<=W by lia)]
  have e2:mq 0 (n+1) b l=fun i=>b 0*l i+Xl #[Rl] i:=by
   funext i;simp only [mq,dq,eQ]
  rw [e2,zfb,zkx,e1,ih];rfl
noncomputable def Od (p:Int) (l:Ps) (r:Nat):Prop:=∀ i,i < r->Cg p (l i) 0
theorem Od.le {p:Int} {l:Ps} {r r':Nat} (h:Od p l r) (hr:r'<=r):Od p l r':=fun i hi=>h i #[O]
theorem Od.add {p:Int} {u v:Ps} {r:Nat} (h:Od p u r) (h':Od p v r):Od p #[U7] r:=fun i hi=>((h i hi).add (h' i hi)).trans #[RF]
theorem Od.mul {p:Int} {u:Ps} {r:Nat} (c:Int) (h:Od p u r):Od p (fun i=>c*u i) r:=fun i hi=>((Cg.refl p c).mul (h i hi)).trans #[RF]
theorem Od.Xl {p:Int} {u:Ps} {r:Nat} (h:Od p u r):Od p (Xl u) (r+1):=fun i hi=>by
 unfold My.Xl;split
 ·exact Cg.refl _ _
 ·exact h _ #[O]
theorem Od.mq {p a:Int}:∀ {n:Nat} {b l:Ps} {r:Nat},Od p l r->Od p (mq a n b l) r
 | 0,_,_,_,_=>fun i _=>by simp only [My.mq]; exact Cg.refl _ _
 | n+1,b,l,r,h=>by
  have ih:=Od.mq (a:=a) (n:=n) (b:=fun t=>b (t+1)) h;exact (h.mul (b 0)).add ((ih.Xl.le (kM _)).add (ih.mul a))
theorem Od.less {p a:Int}:∀ {n:Nat} {b l:Ps} {r:Nat},Od p l r->Od p (fun i=>My.mq a n b l i + -(vl n b a)*l i) (r+1)
 | 0,b,l,r,_=>fun i _=>by simp only [My.mq,vl]; exact Cg.of_eq #[M]
 | n+1,b,l,r,h=>by
  have ih:=Od.less (a:=a) (n:=n) (b:=fun t=>b (t+1)) h;have e:(fun i=>My.mq a (n+1) b l i + -(vl (n+1) b a)*l i)=fun i=>My.Xl (My.mq a n #[Ev] l) i+a*(My.mq a n #[Ev] l i + -(vl n #[Ev] a)*l i):=by
   funext i;simp only [My.mq,vl];grind
  rw [e];exact (Od.mq (a:=a) h).Xl.add (ih.mul a)
theorem zjx {p:Int} {B:Ps->Ps} (hB:∀ l r,Od p l r->Od p (B l) (r+1)):∀ {n:Nat} {F:Nat->Ps} {m v:Nat},(∀ t,Od p (F t) (m - t))->Od p (shO B n F v) (m - v)
 | 0,_,_,_,_=>fun i _=>by simp only [shO]; exact Cg.refl _ _
 | n+1,F,m,0,h=>by
  have ih:=zjx hB (n:=n) (F:=fun t=>F (t+1)) (m:=m - 1) (v:=0) fun t=>(h (t+1)).le #[O]
  exact (h 0).add ((hB _ _ ih).le #[O])
 | n+1,F,m,v+1,h=>by
  have ih:=fun v=>zjx hB (n:=n) (F:=fun t=>F (t+1)) (m:=m - 1) (v:=v) fun t=>(h (t+1)).le #[O]
  exact ((ih v).le #[O]).add ((hB _ _ (ih (v+1))).le #[O])
theorem zed {k1:Nat} {b:Ps}:∀ {n:Nat} {F:Nat->Ps} {S v:Nat},(∀ t,Dg (F t) (S - k1*t))->Dg (shO (mq 0 (k1+1) b) n F v) (S - k1*v)
 | 0,_,_,_,_=>fun i _=>by simp [shO]
 | n+1,F,S,v,h=>by
  have h':∀ t,Dg (F (t+1)) (S - k1 - k1*t):=fun t=>(h (t+1)).le (by rw [fL]; lia)
  have ih:=fun v=>zed (k1:=k1) (b:=b) (n:=n) (F:=fun t=>F (t+1)) (S:=S - k1) (v:=v) h'
  have hz:∀ v,S<=k1*(v+1)->#[Rq]=fun _=>0:=fun v hv=>by
   funext i;exact ih v i (by rw [fL] at hv; lia)
  have hb:∀ v,Dg (mq 0 (k1+1) b #[Rq]) (S - k1*v):=fun v=>by
   by_cases hv:S<=k1*(v+1)
   ·rw [hz v hv,(zc8 0 (k1+1) b).z];exact fun i _=>rfl
   ·exact (zjw (ih v)).le (by rw [fL] at hv; lia)
  cases v with
  | zero =>
   intro i hi;simp only [shO];rw [h 0 i hi,hb 0 i hi];rfl
  | succ v =>
   intro i hi;simp only [shO];rw [ih v i (by rw [fL] at hi; lia),hb (v+1) i hi];rfl
theorem znL {a:Int} {k1 W:Nat} {b:Ps}:∀ {n:Nat} {F:Nat->Ps} {S v:Nat},(∀ t,Dg (F t) (S - k1*t))->S+(k1+1)<=W->sh a W (shO (mq 0 (k1+1) b) n F v)=shO (mq a (k1+1) b) n (fun t=>sh a W (F t)) v
 | 0,F,_,_,_,_=>by
  funext i;simp only [shO];rw [zfD];exact zaW fun t _=>by simp
 | n+1,F,S,v,h,hW=>by
  have h':∀ t,Dg (F (t+1)) (S - k1 - k1*t):=fun t=>(h (t+1)).le (by rw [fL]; lia)
  have ih:=fun v=>znL (a:=a) (k1:=k1) (W:=W) (b:=b) (n:=n) (F:=fun t=>F (t+1)) (S:=S - k1) (v:=v) h' #[O]
  have hm:∀ v,sh a W (mq 0 (k1+1) b #[Rq])=mq a (k1+1) b (sh a W #[Rq]):=fun v =>
   zpt (w:=S) ((zed (k1:=k1) (b:=b) (n:=n) (F:=fun t=>F (t+1)) (S:=S - k1) (v:=v) h').le #[O]) hW
  cases v with
  | zero =>
   simp only [shO];rw [zfb,hm,ih]
  | succ v =>
   simp only [shO];rw [zfb,hm,ih,ih]
theorem zky {c:Int}:∀ {n:Nat} {F:Nat->Ps} {v i:Nat},shO (fun l i=>c*l i) n F v i=sh c n (fun t=>F t i) v
 | 0,_,_,_=>by simp [shO,sh]
 | n+1,F,0,i=>by simp only [shO,sh]; rw [zky]
 | n+1,F,v+1,i=>by simp only [shO,sh]; rw [zky,zky]
theorem zqz {s:Nat} {G:Tm->Int} {X y:Int} {u v:Nat}:(sm (s+1) fun j=>sm (s+1) fun i=>G (i,j)*cv (i,j) ⟨X,y,u,v⟩)=sh y (s+1) (fun j=>sh X (s+1) (fun i=>G (i,j)) u) v:=by
 rw [zfD];refine zan fun j _=>?_
 rw [zfD,<- zcm];refine zan fun i _=>?_
 unfold cv cf;grind
noncomputable def qx (x0:Int) (n:Nat) (A:Ps):Ps:=fun j=>hs x0 n A (j+1)
theorem zpu {n:Nat} {A:Ps}:Dg #[Id] n:=fun i hi=>zd1 #[O]
theorem zpv {n:Nat} {A:Ps} (hA:Dg A n) (i:Nat):A i=Xl (qx x0 n A) i + -x0*qx x0 n A i+(if i=0 then hs x0 n A 0 else 0):=by
 by_cases h:i < n
 ·have e:=zki (b:=x0) (l:=A) h;unfold qx Xl;cases i with
  | zero=>simp only [if_true]; grind
  | succ i=>simp only [dz]; rw [if_neg #[O],if_neg #[O]]; grind
 ·rw [hA i #[O]];unfold qx Xl;rw [zd1 (j:=i+1) #[O]];cases i with
  | zero=>simp only [if_true]; rw [zd1 #[O]]; simp
  | succ i=>simp only [dz]; rw [if_neg #[O],if_neg #[O],zd1 #[O]]; simp
theorem zlE {a:Int} {n:Nat} {A:Ps}:sh a (n+1) A 0=hs a (n+1) A 0:=(zpp).1
theorem znM {p x1:Int} {n:Nat} {A:Ps} (hA:Dg A (n+1)) (hW:n+1<=W) (h0:Cg p (hs x0 (n+1) A 0) 0) (i:Nat):Cg p (sh x1 W A i) (Xl (sh x1 W #[Id]) i+(x1 - x0)*sh x1 W #[Id] i):=by
 have hd:Dg #[Id] (W - 1):=(zpu (x0:=x0) (n:=n) (A:=A)).le #[O];have e1:sh x1 W (Xl #[Id])=fun i=>Xl (sh x1 W #[Id]) i+x1*sh x1 W #[Id] i:=by
  have:=zps (a:=x1) (w:=W - 1) (l:=qx x0 (n+1) A);rw [show W - 1+1=W by lia] at this;rw [this,zfc hd (show W - 1<=W by lia)]
 have e2:Cg p (sh x1 W A i) (sh x1 W (fun i=>Xl #[Id] i + -x0*qx x0 (n+1) A i) i):=by
  refine ziu #[UI] fun t _=>?_
  rw [zpv (x0:=x0) hA t];by_cases ht:t=0
  ·rw [if_pos ht];exact (#[Fa].add h0).trans #[QI]
  ·rw [if_neg ht];exact Cg.of_eq #[O]
 refine e2.trans #[Wz];rw [zfb,zkx,e1];grind
theorem zo3 {p:Int} {n m:Nat} {A:Ps} (hA:Dg A (n+1)) (hW:n+1<=W) (h0:Cg p (hs x0 (n+1) A 0) 0) (h:Od p (sh x0 W A) (m+1)):Od p (sh x0 W #[Id]) m:=fun i hi=>by
 have e:=(znM (x1:=x0) hA hW h0 (i+1)).symm.trans (h (i+1) #[O]);unfold Xl at e;rw [if_neg #[O],dz] at e;exact (Cg.of_eq (by grind)).trans e
theorem znN {p x1 c:Int} {n m:Nat} {A:Ps} (hA:Dg A (n+1)) (hW:n+1<=W) (h0:Cg p (hs x0 (n+1) A 0) 0) (hc:Cg p (c*(x1 - x0)) 1) (h:Od p (sh x1 W A) m):Od p (sh x1 W #[Id]) m:=by
 have key:∀ i,i < m->Cg p (sh x1 W #[Id] i) 0:=by
  intro i;induction i with
  | zero =>
   intro hi;have e:=(znM (x1:=x1) hA hW h0 0).symm.trans (h 0 hi);unfold Xl at e;rw [if_pos rfl,cI] at e;have e1:Cg p (c*((x1 - x0)*sh x1 W #[Id] 0)) (c*0):=(Cg.refl p c).mul e;have e2:Cg p (c*(x1 - x0)*sh x1 W #[Id] 0) (1*sh x1 W #[Id] 0):=hc.mul #[UI];exact #[RF].trans (e2.symm.trans ((Cg.of_eq (by grind)).trans (e1.trans #[RF])))
  | succ i ih =>
   intro hi;have CB:=ih #[O];have e:=(znM (x1:=x1) hA hW h0 (i+1)).symm.trans (h (i+1) hi);unfold Xl at e;rw [if_neg #[O],dz] at e;have e0:Cg p ((x1 - x0)*sh x1 W #[Id] (i+1)) 0:=by
    have:=e.sub CB;exact (Cg.of_eq (by grind)).trans (this.trans #[RF])
   have e1:Cg p (c*((x1 - x0)*sh x1 W #[Id] (i+1))) (c*0):=(Cg.refl p c).mul e0;have e2:Cg p (c*(x1 - x0)*sh x1 W #[Id] (i+1)) (1*sh x1 W #[Id] (i+1)):=hc.mul #[UI];exact #[RF].trans (e2.symm.trans ((Cg.of_eq (by grind)).trans (e1.trans #[RF])))
 exact key
theorem zlF {p:Int} (hp:p∈zw) {x y:Int} (hx:0<=x/\x < p) (hy:0<=y/\y < p) (oZ:x≠y):∃ c,Cg p (c*(x - y)) 1:=by
 have rp:=zC hp;by_cases h:y < x
 ·exact⟨inv p (x - y),zdw hp #[O] #[O]⟩
 ·refine⟨inv p (x - y+p),?_⟩;have:=zdw hp (h:=x - y+p) #[O] #[O];refine Cg.trans ?_ this;exact #[Fa].mul (show Cg p (x - y) (x - y+p) from ⟨-1,#[O]⟩)
noncomputable def wsN:List (Int×Nat)->Nat
 | []=>0
 | q :: r=>q.2+wsN r
theorem zfR {p:Int} (hp:p∈zw) {W:Nat}:∀ (L:List (Int×Nat)) (n:Nat) (A:Ps),Dg A n->n<=W->L.Pairwise (fun a b=>a.1≠b.1)->(∀ q∈L,0<=q.1/\q.1 < p)->n<=wsN L->(∀ q∈L,Od p (sh q.1 W A) q.2)->∀ i,Cg p (A i) 0
 | [],n,A,hA,hW,hn,hr,pU,ho=>fun i=>by
  rw [hA i (by simp only [wsN] at pU; lia)]; exact Cg.refl _ _
 | (x,m) :: r,n,A,hA,hW,hn,hr,pU,ho=>by
  have hx:=hr (x,m) (.head _);simp only at hx;cases hn with
  | cons hd hn =>
  have ub:∀ q∈r,0<=q.1/\q.1 < p:=fun q hq=>hr q (.tail _ hq)
  induction m generalizing n A with
  | zero=>exact zfR hp r n A hA hW hn ub (by simp only [wsN] at pU; lia) fun q hq=>ho q (.tail _ hq)
  | succ m ih =>
   cases n with
   | zero=>intro i; rw [hA i #[O]]; exact Cg.refl _ _
   | succ n =>
    have h0:Cg p (hs x (n+1) A 0) 0:=by
     have:=ho (x,m+1) (.head _) 0 #[M];simp only at this;rw [zfc hA hW,zlE] at this;exact this
    have hq:=ih (n:=n) (A:=qx x (n+1) A) zpu #[O] (hr:=fun q hq=>by
      cases hq with
      | head=>exact hx
      | tail _ hq=>exact ub q hq) (by simp only [wsN] at pU |-; lia) (fun q hq=>by
      cases hq with
      | head=>exact zo3 hA hW h0 (ho (x,m+1) (.head _))
      | tail _ hq =>
       obtain⟨c,hc⟩:=zlF hp (ub q hq) hx (dY (hd q hq));exact znN hA hW h0 hc (ho q (.tail _ hq))) hd
    intro i;rw [zpv (x0:=x) hA i];have e1:Cg p (Xl (qx x (n+1) A) i) 0:=by
     unfold Xl;split
     ·exact Cg.refl _ _
     ·exact hq _
    have e2:Cg p (-x*qx x (n+1) A i) (-x*0):=(Cg.refl p (-x)).mul (hq i);have e3:Cg p (if i=0 then hs x (n+1) A 0 else 0) 0:=by
     split
     ·exact h0
     ·exact Cg.refl _ _
    exact ((e1.add e2).add e3).trans #[RF]
noncomputable def AL (k:Nat) (f:Ps) (n:Nat) (F:Nat->Ps):Ps:=shO (mq 0 k f) n F 0
noncomputable def Zr (p:Int) (l:Ps):Prop:=∀ i,Cg p (l i) 0
theorem zpw:∀ (n:Nat) (b l:Ps),Xl #[Us]=mq 0 n b (Xl l)
 | 0,b,l=>by
  funext i;unfold Xl mq;split <;> rfl
 | n+1,b,l=>by
  have ih:=zpw n #[Ev] l;have e:mq 0 (n+1) b l=fun i=>b 0*l i+Xl #[Rl] i:=by
   funext i;simp only [mq,dq,eQ]
  have e2:mq 0 (n+1) b (Xl l)=fun i=>b 0*Xl l i+Xl (mq 0 n #[Ev] (Xl l)) i:=by
   funext i;simp only [mq,dq,eQ]
  rw [e,e2,znJ,znK,ih]
theorem zhw {B:Ps->Ps}:∀ {n:Nat} {F G:Nat->Ps} {j:Nat},(∀ t,t < n->F t=G t)->shO B n F j=shO B n G j
 | 0,_,_,_,_=>rfl
 | n+1,F,G,0,h=>by
  simp only [shO];rw [h 0 #[O],zhw (n:=n) (F:=fun t=>F (t+1)) (G:=fun t=>G (t+1)) fun t ht=>h (t+1) #[O]]
 | n+1,F,G,j+1,h=>by
  simp only [shO];rw [zhw (n:=n) (F:=fun t=>F (t+1)) (G:=fun t=>G (t+1)) (j:=j) fun t ht=>h (t+1) #[O],zhw (n:=n) (F:=fun t=>F (t+1)) (G:=fun t=>G (t+1)) (j:=j+1) fun t ht=>h (t+1) #[O]]
noncomputable def Xp:Nat->Ps->Ps
 | 0,l=>l
 | s+1,l=>Xl (Xp s l)
theorem ziF:∀ (s:Nat) (l:Ps) (i:Nat),Xp s l i=if i < s then 0 else l (i - s)
 | 0,l,i=>by rw [if_neg #[O]]; rfl
 | s+1,l,i=>by
  show Xl (Xp s l) i=_;unfold Xl;split
  ·next h=>rw [h,if_pos #[O]]
  ·next h =>
   rw [ziF s l (i - 1)];by_cases h1:i - 1 < s
   ·rw [if_pos h1,if_pos #[O]]
   ·rw [if_neg h1,if_neg #[O],show i - 1 - s=i - (s+1) by lia]
theorem zpx {p:Int} {n:Nat} {b l l':Ps} (h:∀ i,Cg p (l i) (l' i)) (i:Nat):Cg p (mq 0 n b l i) (mq 0 n b l' i):=by
 induction n generalizing b i with
 | zero=>exact Cg.refl _ _
 | succ n ih =>
  simp only [mq,dq,eQ];refine (#[Fa].mul (h i)).add ?_;unfold Xl;split
  ·exact Cg.refl _ _
  ·exact ih _
end My
end
section
namespace My
end My
end
section
namespace My
open PySem L2 PyProof.Rows
variable {F:Nat->Ps} {H H':Hp} {W j k:Nat} {as:TD} {fd:FuncData} {oJ:List (Int×Int×Nat)} {q:Int×Int} {ra:Addr} {rows vv:List #[wE]}
theorem zfd (n:Nat) (b l:Ps):mq 0 (n+1) b l=fun i=>b 0*l i+Xl #[Rl] i:=by
 funext i;simp only [mq,dq,eQ]
theorem zhx:∀ (n:Nat) (b:Ps) (m:Nat) (c l:Ps),mq 0 n b (mq 0 m c l)=mq 0 m c #[Us]
 | 0,b,m,c,l=>by
  have:mq 0 0 b l=fun _=>0:=rfl
  rw [this,(zc8 0 m c).z];rfl
 | n+1,b,m,c,l=>by
  rw [zfd,zfd,(zc8 0 m c).a,zjv,<- zpw,zhx n _ m c l]
noncomputable def zee:Ps:=fun i=>if i=0 then 1 else 0
theorem zkz:∀ (n:Nat) (b:Ps) (i:Nat),mq 0 n b zee i=if i < n then b i else 0
 | 0,b,i=>by rw [if_neg #[O]]; rfl
 | n+1,b,i=>by
  rw [zfd];show b 0*zee i+Xl (mq 0 n #[Ev] zee) i=_;unfold Xl zee;by_cases h:i=0
  ·subst h;rw [if_pos rfl,if_pos rfl,if_pos #[O]];lia
  ·rw [if_neg h,if_neg h];have:=zkz n #[Ev] (i - 1);unfold zee at this;rw [this];by_cases h2:i < n+1
   ·rw [if_pos #[O],if_pos h2,show i - 1+1=i by lia];lia
   ·rw [if_neg #[O],if_neg h2];lia
theorem zfe {n:Nat} {b:Ps} (h:Dg b n):mq 0 n b zee=b:=by
 funext i;rw [zkz];split
 ·rfl
 ·rw [h i #[O]]
theorem zo4 {n m:Nat} {b c:Ps} (hb:Dg b n) (hc:Dg c m):mq 0 n b c=mq 0 m c b:=by
 rw [<- zfe hc,zhx,zfe hb,zfe hc]
theorem zpy:∀ (n:Nat) (b l:Ps) (x:Nat),mq 0 n b l x=sm n fun t=>b t*Xp t l x
 | 0,b,l,x=>rfl
 | n+1,b,l,x=>by
  rw [zfd,zbl];show b 0*l x+Xl #[Rl] x=b 0*l x+_;congr 1;unfold Xl;by_cases h:x=0
  ·rw [if_pos h];refine (zaW fun i _=>?_).symm;rw [ziF,if_pos #[O],eP]
  ·rw [if_neg h,zpy n _ l (x - 1)];refine zan fun i _=>?_
   rw [ziF,ziF];by_cases h2:x - 1 < i
   ·rw [if_pos h2,if_pos #[O]]
   ·rw [if_neg h2,if_neg #[O],show x - 1 - i=x - (i+1) by lia]
noncomputable def itq (k:Nat) (f:Ps):Nat->Ps->Ps
 | 0,l=>l
 | t+1,l=>mq 0 k f (itq k f t l)
theorem ziG (k:Nat) (f:Ps) (n:Nat) (b:Ps):∀ (t:Nat) (l:Ps),mq 0 n b (itq k f t l)=itq k f t #[Us]
 | 0,_=>rfl
 | t+1,l=>by
  show mq 0 n b (mq 0 k f (itq k f t l))=mq 0 k f (itq k f t #[Us]);rw [zhx,ziG k f n b t l]
theorem znO (k:Nat) (f:Ps):∀ (n:Nat) (G:Nat->Ps) (x:Nat),mq 0 k f (fun y=>sm n fun t=>G t y) x=sm n fun t=>mq 0 k f (G t) x
 | 0,G,x=>by
  have:(fun y=>sm 0 fun t=>G t y)=fun _=>(0:Int):=rfl
  rw [this,(zc8 0 k f).z];rfl
 | n+1,G,x=>by
  have e:(fun y=>sm (n+1) fun t=>G t y)=fun y=>(fun y=>G 0 y) y+(fun y=>sm n fun t=>G (t+1) y) y:=by
   funext y;rw [zbl]
  rw [e,(zc8 0 k f).a,zbl];show mq 0 k f (fun y=>G 0 y) x+mq 0 k f (fun y=>sm n fun t=>G (t+1) y) x=_;rw [znO k f n]
theorem znP {k:Nat} {f:Ps}:∀ (n:Nat) (F:Nat->Ps) (x:Nat),AL k f n F x=sm n fun t=>itq k f t (F t) x
 | 0,F,x=>rfl
 | n+1,F,x=>by
  have ih:AL k f n #[Op]=fun y=>sm n fun t=>itq k f t (F (t+1)) y:=funext fun y=>znP n _ y
  show F 0 x+mq 0 k f (AL k f n fun t=>F (t+1)) x=_;rw [ih,znO,zbl];rfl
theorem zqA {n:Nat} {f:Ps} :∀ {m:Nat},n<=m->(∀ t,n<=t->F t=fun _=>0)->AL k f m F=AL k f n F:=fun {m} hm h=>by
 obtain⟨d,rfl⟩:∃ d,m=n+d:=⟨m - n,#[O]⟩;induction d with
 | zero=>rfl
 | succ d ih =>
  have e:AL k f (n+d+1) F=AL k f (n+d) F:=zfa (zc8 0 k f) (h (n+d) #[O]);rw [show n+(d+1)=n+d+1 by lia,e];exact ih #[O]
theorem zlG {s:Nat} {g:Tm->Int} (h:j < s / (k - 1)+1):#[QV].getD j []=(aU (s - (k - 1)*j+1)).map fun i=>g (i,j):=by
 (rw [bE])
 unfold za9;rw [aF,cY h];rfl
theorem zo5 {p:Int} {s:Nat} {g:Tm->Int} (L:Lst p k oJ s g) (h:j < s / (k - 1)+1) (i:Nat):gl (#[QV].getD j []) i=g (i,j):=by
 rw [zlG h];by_cases hi:i < s - (k - 1)*j+1
 ·exact zby (by rw [aF,cY hi]; rfl)
 ·rw [zb3 (by rw [aA,bJ]; lia)];refine (L.out (i,j) ?_).symm;show s < i+(k - 1)*j;lia
theorem zf8 {p:Int} (hp:p∈zw) {k1 s:Nat} {g:Tm->Int} {f:Ps} (uP:∀ t,s < tz (k1+1) t->g t=0) (hx:oJ.Pairwise fun a b=>a.1≠b.1) (hr:∀ q∈oJ,0<=q.1/\q.1 < p) (hf:∀ q∈oJ,Cg p (vl (k1+1) f q.1) q.2.1) (hw:∀ q∈oJ,∀ u v,u+v < q.2.2->Cg p (sh q.2.1 (s+1) (fun j=>sh q.1 (s+1) (fun i=>g (i,j)) u) v) 0) (hs:s < wsN (oJ.map fun q=>(q.1,q.2.2))) (i:Nat):Cg p (shO (mq 0 (k1+1) f) (s+1) #[S6] 0 i) 0:=by
 obtain⟨F,eF⟩:∃ F:Nat->Ps,F=fun t i=>g (i,t):=⟨_,rfl⟩
 rw [<- eF];have etz:∀ i j,tz (k1+1) (i,j)=i+k1*j:=fun i j=>rfl
 have hF:∀ t,Dg (F t) (s+1 - k1*t):=fun t i hi=>by
  rw [eF];exact uP (i,t) (by rw [etz]; lia)
 obtain⟨W,eW⟩:∃ W,W=s+1+(k1+1):=⟨_,rfl⟩;refine zfR hp (W:=W) (oJ.map fun q=>(q.1,q.2.2)) (s+1) _ (zed (v:=0) hF |>.le #[O]) #[O] (di.mpr hx) (fun q hq=>?_) #[O] (fun q hq=>?_) i
 ·obtain⟨q',qL,rfl⟩:=aQ.mp hq;exact hr q' qL
 ·obtain⟨⟨x0,y0,m⟩,qL,rfl⟩:=aQ.mp hq;have hf:=hf _ qL;have hw:=hw _ qL;dsimp only at hf hw |-;rw [znL (S:=s+1) hF #[O]];have aC:∀ d:Int,Add (fun (l:Ps) i=>d*l i):=fun d=>⟨fun u v=>by funext i; exact Int.mul_add _ _ _⟩
  have aM:=zc8 x0 (k1+1) f;have aE:Add (fun (l:Ps) i=>mq x0 (k1+1) f l i + -#[U6]*l i):=⟨fun u v=>by
   rw [aM.a];funext i;grind⟩
  obtain⟨z,ez⟩:∃ z,z=vl (k1+1) f x0:=⟨_,rfl⟩;have e6:mq x0 (k1+1) f=fun (l:Ps) i=>(fun (l:Ps) i=>z*l i) l i+(fun (l:Ps) i=>mq x0 (k1+1) f l i + -#[U6]*l i) l i:=by
   funext l i;rw [ez];grind
  have e7:shO (mq x0 (k1+1) f) (s+1) #[UO] 0=shO (fun (l:Ps) i=>mq x0 (k1+1) f l i + -#[U6]*l i) (s+1) (shO (fun (l:Ps) i=>z*l i) (s+1) #[UO]) 0:=by
   rw [zkw (aC z) aE fun l=>by
    funext i;have:=congrFun (zjv x0 z (k1+1) f l) i;dsimp only at this |-;rw [this];grind]
   rw [<- e6]
  rw [e7];have:=zjx (p:=p) (m:=m) (v:=0) (n:=s+1) (B:=fun (l:Ps) i=>mq x0 (k1+1) f l i + -#[U6]*l i) (F:=shO (fun (l:Ps) i=>z*l i) (s+1) #[UO]) (fun l r hl=>Od.less hl) (fun t i hi=>?_)
  ·exact this
  rw [zky];have e8:(fun j=>sh x0 W (F j) i)=fun j=>sh x0 (s+1) (fun i=>g (i,j)) i:=by
   funext j;rw [zfc (w:=s+1) ((hF j).le #[O]) #[O],eF]
  rw [e8];exact (ziu (by rw [ez]; exact hf) fun _ _=>Cg.refl _ _).trans (hw i t #[O])
noncomputable def wpN (q:Wt3):Int×Int×Nat:=(q.1,q.2.1,q.2.2.toNat)
theorem zkA:∀ {l:List Wt3},(∀ q∈l,0<=q.2.2)->(wsN ((l.map wpN).map fun q=>(q.1,q.2.2)):Int)=wts l
 | [],_=>by simp [wsN,wts]
 | q :: l,h=>by
  have ih:=zkA (l:=l) fun x hx=>h x #[Wm]
  have h0:=h q bF;show ((q.2.2.toNat+wsN ((l.map wpN).map fun q=>(q.1,q.2.2)):Nat):Int)=wts ([q]++l);rw [zkq,<- ih];have:wts [q]=q.2.2:=by simp [wts]
  rw [this];lia
theorem zjy {p:Int} (hp:p∈zw) {d s:Nat} (hd:1<=d) {l:List Wt3} (hW:Wp p l) (hr:∀ q∈l,0<=q.1/\q.1 < p) (h0:∀ q∈l,0<=q.2.2) {g:Tm->Int} (L:Lst p (d+1) (l.map wpN) s g) {q:TD} (hq:IsP p (d+1) q) (hs:(s:Int) < wsum p q l):Zr p (AL (d+1) (gl q) (s / d+1) fun j i=>gl ((za9 (d+1) s g).getD j []) i):=by
 have rp:=zC hp;have pU:s < wsN (((l.filter (zdD p q)).map wpN).map fun q=>(q.1,q.2.2)):=by
  have:=zkA (l:=l.filter (zdD p q)) fun x hx=>h0 x (cK.mp hx).1
  unfold wsum at hs;lia
 have h1:=zf8 hp (k1:=d) (s:=s) (g:=g) (f:=gl q) L.out (oJ:=(l.filter (zdD p q)).map wpN) ?_ #[V6] #[V6] (fun a ha u v huv=>?_) pU
 ·have e:AL (d+1) (gl q) (s+1) #[S6]=AL (d+1) (gl q) (s / d+1) #[S6]:=zqA (by have:=gM s d; lia) fun t ht=>by
   funext i;refine L.out (i,t) ?_;show s < i+d*t;have:s < t*d:=(Nat.div_lt_iff_lt_mul #[O]).mp #[O];rw [eh] at this;lia
  intro i;have h2:=h1 i;have h3:Cg p (AL (d+1) (gl q) (s+1) #[S6] i) 0:=h2;rw [e] at h3;have e2:AL (d+1) (gl q) (s / d+1) (fun j i=>gl ((za9 (d+1) s g).getD j []) i)=AL (d+1) (gl q) (s / d+1) #[S6]:=zhw fun t ht=>funext fun i=>zo5 L ht i
  rw [e2];exact h3
 ·refine di.mpr ?_;have hn:=(hW.sub (jq (p:=zdD p q) (l:=l))).nd;rw [cJ,di] at hn;refine (List.Pairwise.and_mem.mp hn).imp fun {a b} ⟨ha,hb,oZ⟩ e=>oZ ?_
  have e:a.1=b.1:=e;have a2:zR p a.1 q=a.2.1:=of_decide_eq_true (cK.mp ha).2;have b2:zR p b.1 q=b.2.1:=of_decide_eq_true (cK.mp hb).2;unfold pt;rw [<- a2,<- b2,e]
 ·obtain⟨b,hb,rfl⟩:=aQ.mp ha;exact hr b (cK.mp hb).1
 ·obtain⟨b,hb,rfl⟩:=aQ.mp ha;have a2:=(cK.mp hb).2;have a2:zR p b.1 q=b.2.1:=of_decide_eq_true a2;show Cg p (vl (d+1) (gl q) b.1) b.2.1;rw [<- a2,zpq];exact (zmX (by rw [hq.1]; exact aG _)).symm
 ·obtain⟨b,hb,rfl⟩:=aQ.mp ha;have a1:=(cK.mp hb).1;have hco:(⟨b.1,b.2.1,u,v⟩:Co)∈cos (l.map wpN):=dX.mpr ⟨wpN b,aQ.mpr ⟨b,a1,rfl⟩,dX.mpr ⟨u,bP.mpr #[O],aQ.mpr ⟨v,bP.mpr #[O],rfl⟩⟩⟩;have h2:=L.ok _ hco;rw [znH #[O] fun t ht=>by rw [L.out t ht,dq],zqz] at h2;exact h2
section
variable {P:Program} {w:World} {K:aD} {mg:TJ} {base:Heap} {t:Adr}
theorem znQ {H:Hp} {pl:TD}:∀ {bs:TF} {ts:List Wt3},T3 H bs #[xz]->(∀ q∈ts,0<=q.2.2)->W3 H bs (#[xz].map wpN)
 | [],[],_,_=>.nil
 | [],_ :: _,h,_=>(by cases h)
 | _ :: _,[],h,_=>(by cases h)
 | b :: bs,q :: ts,h,hm=>by
  cases h with
  | cons h1 h2 =>
   refine .cons ?_ (znQ h2 fun x hx=>hm x #[Wm]);have e:=hm q bF;have h1:H b=some (.tup [.int (wpp pl q).1,.int q.2.1,.int q.2.2]):=h1;have e2:q.2.2=((q.2.2.toNat:Nat):Int):=by lia
   rw [e2] at h1;exact h1
noncomputable def ziH (t:Adr) (K:aD):Sp:=fun vs H Q E=>∃ (c tt g:Addr) (p:Int) (k:Nat) (pl:TD) (bs:TF) (ts:List Wt3),vs = [.ref c,.ref g]/\zck H c tt p k pl/\H g=some #[wr]/\T3 H bs ts/\Gss p pl ts/\(∀ q∈ts,1<=q.2.2/\q.2.2<=9)/\p∈zw/\(∀ x∈pl,0<=x/\x < p)/\1<=k/\k<=100/\(cos (#[xz].map wpN)).length<=199/\ts.length<=60 /\
 ((k < 2/\∀ H',zr H H'->E #[WS] none H')\/(2<=k/\∀ (z r:Addr) (ls:TF) (size:Nat) (g':Tm->Int) (H':Hp),H z=none->zr H H'->H' z=some (.tup [.int (size:Int),.ref r])->H' r=some #[SZ]->zb7 H' ls (za9 k size g')->Lst p k (#[xz].map wpN) size g'->size<=200->Q #[SE] H'))
theorem zce:KE ["code","guesses","p","k","places"] ["code","guesses"] (zh zcM):=#[S]
theorem ziI (T:Txt K mg base t) (F:Fun K "curve_by" "curve_by" zcM t.MV fd):LG P w K mg base (CX1 P w) 7 t.MV fd ["code","guesses"] (ziH t K):=by
 obtain⟨yi,qh,su⟩:=T.LQ;have sv:=zeV (P:=P) (w:=w) (base:=base) T qh;obtain⟨yS,qz,sZ⟩:=T.LX;have tf:=zfP (P:=P) (w:=w) (base:=base) T qz;obtain⟨qE,oW,pf⟩:=T.Ly;have ph:=zb5 (P:=P) (w:=w) (base:=base) T oW;refine F.okX zce #[pc] #[dl]
 ·obtain⟨c,tt,g,p,k,pl,bs,ts,rfl,_⟩:=h;rfl
 ·obtain⟨c,tt,g,p,k,pl,bs,ts,rfl,hc,hg,hT,hG,hw,hp,pN,k0,k1,hA,hn,q⟩:=h;refine zaJ ?_; intro zX;refine⟨_,#[zd,#[zaY,#[xL],#[zaI,#[zj,#[zf,2,zce.nd,#[A]],#[zj,#[zf,3,zce.nd,#[A]],#[zj,#[zf,4,zce.nd,#[A]],#[zI]]]]]],#[zd,#[zbH,#[zq,sv,#[ut],T.Ni,qh.kp,su,(@zja _ _ _ _ _ _ _ _ _ _ _ _ _ _ _),#[Ul]]],#[zk,#[zA,#[zq,tf,#[ut],T.NB,qz.kp,sZ,#[zZ],#[za,#[FB],#[za,#[KB],#[ya,#[zq,ph,#[ut],T.LR,oW.kp,pf,#[zZ],#[Pi]]]]]]]]]],?_⟩;refine zei ?_; intro qv qk;have tY:∀ q∈ts,0<=q.1/\q.1 < pl.length:=fun z hz=>⟨#[VB].1,#[VB].2.1⟩
  refine⟨_,rfl,c,_,rfl,oQ.of hc.1,rfl,_,_,rfl,_,_,rfl,_,_,rfl,rfl,?_⟩;rcases q with ⟨h1,q⟩ | ⟨h1,q⟩
  ·exact #[QK,⟨k,rfl,.inl ⟨h1,q H fun _ _ e=>e⟩⟩]
  refine #[QK,⟨k,rfl,.inr ⟨h1,?_⟩⟩];refine #[QKKKK,(ex8 c tt g p k pl bs ts ⟨rfl,hc,hg,hT,hn,tY,fun l ds H1 hl s1 h1l Ht=>?_⟩)];refine (ex5 p k l ds (#[xz].map wpN) ⟨rfl,hp,h1,k1,h1l,znQ Ht (fun z hz=>#[VB].2.2.2.2),fun q' qL=>?_,hA,by rw [aA,aA]; lia,fun z r' ls size g' H5 hz s5 h5 h6 h7 hL hs=>?_⟩)
  ·obtain⟨a,ha,rfl⟩:=aQ.mp qL;obtain⟨b,hb,rfl⟩:=aQ.mp ha;obtain⟨w0,w1⟩:=zjs tY pN (wpp pl b) (gD hb);obtain⟨_,_,y0,y1,_⟩:=hG.rg b hb;obtain⟨v1,v9⟩:=hw b hb;exact⟨w0,w1,y0,y1,by show 1<=b.2.2.toNat; lia,by show b.2.2.toNat<=9; lia⟩
  ·exact q z r' ls size g' H5 (s1.free hz) (s1.trans s5) h5 h6 h7 hL hs
noncomputable def zjz:List Str:=["few","curve","paper","place","number","heard","not heard","nothing","text","row"]
noncomputable def zlH (t:Adr) (K:aD):Sp:=fun vs H Q _=>∃ (e C:Addr) (b0 b1 b2 b3 b4 b5 b6 b7 b8 b9:Bool) (j:Nat) (x:Str),vs = [.ref e]/\H e=some (zmx e C)/\KW K t C b0 b1 b2 b3 b4 b5 b6 b7 b8 b9/\[b0,b1,b2,b3,b4,b5,b6,b7,b8,b9].count true=1/\[b0,b1,b2,b3,b4,b5,b6,b7,b8,b9][j]? = some true/\(∀ m,m < j->[b0,b1,b2,b3,b4,b5,b6,b7,b8,b9][m]? = some false)/\j < 10/\zjz[j]? = some x/\∀ H',zr H H'->Q (.str x) H'
theorem zcz:KE ["e","kinds","words"] ["e"] (zh zd6):=#[S]
theorem zlI (T:Txt K mg base t) (F:Fun K "_law_word" "_law_word" zd6 t.OA fd):Pg P w K mg base 1 t.OA fd ["e"] (zlH t K):=by
 refine F.okH zcz #[pc] #[dl]
 ·obtain⟨e,C,b0,b1,b2,b3,b4,b5,b6,b7,b8,b9,j,x,rfl,_⟩:=h;rfl
 ·obtain⟨e,C,b0,b1,b2,b3,b4,b5,b6,b7,b8,b9,j,x,rfl,he,kw,hc,hj,hm,hj10,hx,q⟩:=h;refine zaJ ?_; intro zX;refine⟨_,#[zd,#[zl,1,zcz.nd,#[A],#[zab,#[za,#[zm,#[zam],T.Lv,dC,#[za,#[xL],#[ya,#[zbG,(.ref t.Nr),T.Nt]]]],by exact #[za,#[zm,#[zam],T.Lv,dC,#[za,#[xL],#[ya,#[zbG,#[WS],T.NV]]]],#[za,#[zm,#[zam],T.Lv,dC,#[za,#[xL],#[ya,#[zbG,(.ref t.Oz),T.OO]]]],#[ya,#[zm,#[zam],T.Lv,dC,#[za,#[xL],#[ya,#[zbG,(.ref t.Oy),T.ON]]]]]]]]]],#[zd,#[zl,1,zcz.nd,#[A],#[zi,#[zcW],#[wP],#[zab,#[za,#[zm,#[zam],T.Lv,dC,#[za,#[xL],#[ya,#[zbG,(.ref t.NT),T.OG]]]],#[za,#[zm,#[zam],T.Lv,dC,#[za,#[xL],#[ya,#[zbG,(.ref t.Pt),T.Pn]]]],#[ya,#[zm,#[zam],T.Lv,dC,#[za,#[xL],#[ya,#[zbG,(.ref t.NS),T.OF]]]]]]]]]],#[zd,#[zl,1,zcz.nd,#[A],#[zi,#[zcW],#[wP],#[zab,#[za,#[zm,#[zam],T.Lv,dC,#[za,#[xL],#[ya,#[zbG,(.ref t.Mr),T.Nu]]]],#[za,#[zm,#[zam],T.Lv,dC,#[za,#[xL],#[ya,#[zbG,(.ref t.O4),T.O7]]]],#[ya,#[zm,#[zam],T.Lv,dC,#[za,#[xL],#[ya,#[zbG,(.ref t.Pr),T.Pm]]]]]]]]]],#[zd,#[zaX,(@PW.pt _ _ _ #[zhE,#[zK,#[zdG],#[zcR,cO,PySem.F.slot_list_count,PySem.F.type_list_count,(@zk6 _),#[wP],#[ya,#[zcT]]],#[zg],(zY _)],#[ziQ,#[zgK,#[zgJ,#[zm,#[zam],T.Lv,dC,#[za,#[xL],#[ya,#[zeW,(.ty "ValueError"),T.Ox,nY]]]]]]]]),#[zk,#[zA,#[zfg]]],#[zal]],(by exact (@zmB _ 2 _ _ _ _ _ _ _ ["few","curve","paper","place","number","heard","not heard","nothing","text","row"] #[N] zcz.nd rfl #[A] (by first | exact .inl rfl | exact .inr rfl) (by exact #[zk,#[zA,#[zM,#[zB],#[FB],#[zcR,cO,PySem.F.slot_list_index,PySem.F.type_list_index,(@zk7 _),#[wP],#[ya,#[zcT]]]]]])))]]]],?_⟩;refine zqY ?_; intro Ei yG uf qv qk;have qu:=bN;have xc:=kw.xc;refine #[QK,(ex4 e C _ _ ⟨rfl,he,xc,.inl #[QK,kw.i0],#[QK,(ex4 e C _ _ ⟨rfl,he,xc,.inl #[QK,kw.i1],#[QK,(ex4 e C _ _ ⟨rfl,he,xc,.inl #[QK,kw.i2],#[QK,(ex4 e C _ _ ⟨rfl,he,xc,.inl #[QK,kw.i3],by show 4<=sizeLine; lia,fun l1 vo=>?_⟩)]⟩)]⟩)]⟩)];have s1:=zc (o:=.lst [.bl b0,.bl b1,.bl b2,.bl b3]) vo;have HI:=s1 _ _ he;refine #[QKK,(ex4 e C _ _ ⟨rfl,HI,xc,.inl #[QK,kw.i4],#[QK,(ex4 e C _ _ ⟨rfl,HI,xc,.inl #[QK,kw.i5],#[QK,(ex4 e C _ _ ⟨rfl,HI,xc,.inl #[QK,kw.i6],by show 3<=sizeLine; lia,fun l2 qc=>?_⟩)]⟩)]⟩)];have s2:=zc (o:=.lst [.bl b4,.bl b5,.bl b6]) qc;refine (ex4 l1 l2 _ _ ⟨rfl,rfl,s2 _ _ zb,zb,by show 7<=sizeLine; lia,fun l3 G5=>?_⟩);have s3:=zc (o:=.lst ([V.bl b0,.bl b1,.bl b2,.bl b3]++[.bl b4,.bl b5,.bl b6])) G5;have HJ:=s3 _ _ (s2 _ _ HI);refine #[QKK,(ex4 e C _ _ ⟨rfl,HJ,xc,.inl #[QK,kw.i7],#[QK,(ex4 e C _ _ ⟨rfl,HJ,xc,.inl #[QK,kw.i8],#[QK,(ex4 e C _ _ ⟨rfl,HJ,xc,.inl #[QK,kw.i9],by show 3<=sizeLine; lia,fun l4 hl4=>?_⟩)]⟩)]⟩)];have s4:=zc (o:=.lst [.bl b7,.bl b8,.bl b9]) hl4;refine (ex4 l3 l4 _ _ ⟨rfl,rfl,s4 _ _ zb,zb,by show 10<=sizeLine; lia,fun l5 hl5=>?_⟩);have s5:=zc (o:=.lst ([V.bl b0,.bl b1,.bl b2,.bl b3]++[.bl b4,.bl b5,.bl b6]++[.bl b7,.bl b8,.bl b9])) hl5;have he5:=s5 _ _ (s4 _ _ HJ);have sA:=s1.trans (s2.trans (s3.trans (s4.trans s5)));have h5:oG (oG (oG (oG (oG H l1 (.lst [.bl b0,.bl b1,.bl b2,.bl b3])) l2 (.lst [.bl b4,.bl b5,.bl b6])) l3 (.lst ([V.bl b0,.bl b1,.bl b2,.bl b3]++[.bl b4,.bl b5,.bl b6]))) l4 (.lst [.bl b7,.bl b8,.bl b9])) l5 (.lst ([V.bl b0,.bl b1,.bl b2,.bl b3]++[.bl b4,.bl b5,.bl b6]++[.bl b7,.bl b8,.bl b9])) l5=some (.lst ([b0,b1,b2,b3,b4,b5,b6,b7,b8,b9].map V.bl)):=zb;generalize oG (oG (oG (oG (oG H l1 (.lst [.bl b0,.bl b1,.bl b2,.bl b3])) l2 (.lst [.bl b4,.bl b5,.bl b6])) l3 (.lst ([V.bl b0,.bl b1,.bl b2,.bl b3]++[.bl b4,.bl b5,.bl b6]))) l4 (.lst [.bl b7,.bl b8,.bl b9])) l5 (.lst ([V.bl b0,.bl b1,.bl b2,.bl b3]++[.bl b4,.bl b5,.bl b6]++[.bl b7,.bl b8,.bl b9]))=H5 at he5 sA h5 |-;refine #[QK,⟨.inl ⟨rfl,_,oE.of h5⟩,l5,_,true,rfl,rfl,h5,?_⟩];rw [hc];refine#[S5];refine zgR ?_;refine #[QK,(ex4 e C _ _ ⟨rfl,he5,xc,.inr #[QK,kw.iv],#[Vu]⟩)];refine zgR ?_;refine⟨by show 10<=sizeLine; lia,fun lw hlw=>?_⟩;have s6:=zc (o:=.lst (zjz.map V.str)) hlw;refine #[QKK,⟨.inl ⟨rfl,_,oE.of (s6 _ _ h5)⟩,l5,_,true,j,rfl,rfl,s6 _ _ h5,hj,hm,#[O],?_⟩];refine (ex4 lw _ _ (.str x) ⟨rfl,rfl,oE.of zb,?_,q _ (sA.trans s6)⟩);exact z9 (xs:=zjz.map V.str) (by rw [aF,hx]; rfl)
noncomputable def zrk (p:Int) (k:Nat) (oJ:List (Int×Int×Nat)) (H H':Hp) (v:V):Prop:=(k < 2/\v = .str "curve")\/(2<=k/\∃ (z r:Addr) (ls:TF) (size:Nat) (g:Tm->Int),v = .ref z/\H z=none/\H' z=some (.tup [.int (size:Int),.ref r])/\H' r=some #[SZ]/\zb7 H' ls (za9 k size g)/\Lst p k oJ size g/\size<=200)
noncomputable def zlJ (t:Adr) (K:aD):Sp:=fun vs H Q _=>∃ (c tt g:Addr) (p:Int) (k:Nat) (pl:TD) (bs:TF) (ts:List Wt3),vs = [.ref c,.ref g]/\zck H c tt p k pl/\H g=some #[wr]/\T3 H bs ts/\Gss p pl ts/\(∀ q∈ts,1<=q.2.2/\q.2.2<=9)/\p∈zw/\(∀ x∈pl,0<=x/\x < p)/\1<=k/\k<=100/\(cos (#[xz].map wpN)).length<=199/\ts.length<=60 /\
 ∀ v H',zr H H'->zrk p k (#[xz].map wpN) H H' v->Q v H'
theorem zcA:KE ["code","guesses","found","e"] ["code","guesses"] (zh zd7):=#[S]
theorem zlK (T:Txt K mg base t) (F:Fun K "_law_told" "_law_told" zd7 t.OB fd):LG P w K mg base CX0 8 t.OB fd ["code","guesses"] (zlJ t K):=by
 obtain⟨Cb,sy,vW⟩:=T.MK;have vX:=ziI (P:=P) (w:=w) (base:=base) T sy;obtain⟨Es,u7,yT⟩:=T.NM;have yU:=zlI (P:=P) (w:=w) (base:=base) T u7;refine F.ok zcA #[pc] #[dl]
 ·obtain⟨c,tt,g,p,k,pl,bs,ts,rfl,_⟩:=h;rfl
 ·obtain⟨c,tt,g,p,k,pl,bs,ts,rfl,hc,hg,hT,hG,hw,hp,pN,k0,k1,hA,hn,q⟩:=h;refine zaJ ?_; intro zX;refine⟨_,#[zd,#[zl,2,zcA.nd,#[A],#[zlU]],#[zd,(@zqb _ _ _ _ (3) _ _ _ _ _ _ _ _ rfl rfl rfl rfl T.Oj T.sb zcA.nd rfl rfl (fun xe oC σ E hp=>#[zfv,#[zgw,2,zcA.nd,#[A],#[zfu,vX,#[ut],T.OJ,sy.kp,vW,hp,#[Pi]]]]) (fun e=>zk #[zl,2,zcA.nd,#[A],(@zmA _ _ _ _ _ _ _ _ _ _ _ _ yU (Nl.of #[ut]) rfl T.O9 u7.kp yT #[Ul] #[D] (by rfl) (by rfl))]) #[D]),#[Vp]]],?_⟩;refine zei ?_; intro qv qk;refine #[QKK,(ex8 c tt g p k pl bs ts ⟨rfl,hc,hg,hT,hG,hw,hp,pN,k0,k1,hA,hn,?_⟩)];by_cases h1:k < 2
  ·refine .inl ⟨h1,fun H1 s1=>#[QK,⟨T.Nq.sl,fun e he=>?_⟩]⟩;refine #[QK,(zrE e _ _ _ _ _ _ _ _ _ _ _ 1 ("curve") ⟨rfl,zb,T.Nq,rfl,rfl,#[D],#[D],rfl,fun H' s'=>?_⟩)];exact #[QK,(q _ H' (s1.trans ((zc he).trans s')) (.inl ⟨h1,rfl⟩))]
  ·refine .inr ⟨#[O],fun z r' ls size g' H' hz s' Dh Ki ht hL hs=>?_⟩;exact #[QK,(q _ H' s' (.inr ⟨#[O],z,r',ls,size,g',rfl,hz,Dh,Ki,ht,hL,hs⟩))]
noncomputable def zqB (K:aD):Sp:=fun vs H Q _=>∃ (a c tt:Addr) (ns:TD) (at' p M top:Int) (k:Nat) (pl:TD),vs = [.ref a,.int at',.ref c,.int M,.int top]/\oE K H a #[Db]/\ns.length<=63/\0<=at'/\at'<=900/\zck H c tt p k pl/\1<=k/\k<=20/\5<=p/\p<=97/\(∀ x∈pl,0<=x/\x < p)/\1<=pl.length/\pl.length<=16/\1<=M/\M<=30/\1<=top/\top<=9 /\
 ∀ (l:Addr) (bs:TF) (ts:List Wt3) (H':Hp),H l=none->zr H H'->H' l=some #[wr]->T3 H' bs ts->Gss p pl ts->(∀ q∈ts,1<=q.2.2/\q.2.2<=top)->(ts.length:Int)<=M->1<=ts.length->Q #[RB] H'
theorem zaf:KE ["script","at","code","most","top","p","k","places","plan","draws","one","found","j","number","entry"] ["script","at","code","most","top"] (zh zbq):=#[S]
theorem zhy (T:Txt K mg base t) (F:Fun K "_law_guesses" "_law_guesses" zbq t.L4 fd):LG P w K mg base CX0 3 t.L4 fd ["script","at","code","most","top"] (zqB K):=by
 obtain⟨vP,pC,qm⟩:=T.MD;have qo:=zfF (P:=P) (w:=w) (base:=base) T pC;obtain⟨yj,qi,sC⟩:=T.LP;have sE:=zeQ (P:=P) (w:=w) (base:=base) T qi;obtain⟨Di,tN,xq⟩:=T.M5;have xr:=zjp (P:=P) (w:=w) (base:=base) T tN;refine F.ok zaf #[pc] #[dl]
 ·obtain⟨a,c,tt,ns,at',p,M,top,k,pl,rfl,_⟩:=h;rfl
 ·obtain⟨a,c,tt,ns,at',p,M,top,k,pl,rfl,hS,oO,a0,a1,hc,k1,k2,p0,p1,pN,vo,qc,M0,M1,t0,t1,q⟩:=h;have hu:(A.deeper (envOfC (cN "_law_guesses") (zh zbq) s.heap.objs.size t.L4 oU)).units+1 < cLine:=by have:=hr.units; lia
  refine zaJ ?_; intro zX;refine⟨_,#[zd,#[zaY,#[FB],#[zaI,#[zj,#[zf,5,zaf.nd,#[A]],#[zj,#[zf,6,zaf.nd,#[A]],#[zj,#[zf,7,zaf.nd,#[A]],#[zI]]]]]],#[zd,#[zl,8,zaf.nd,#[A],#[zq,qo,#[ut],T.MZ,pC.kp,qm,#[zZ],#[za,#[xL],by exact #[za,#[wP],#[Rf]]]]],#[zd,#[zl,9,zaf.nd,#[A],#[zq,qo,#[ut],T.MZ,pC.kp,qm,#[zZ],#[za,#[xL],by exact #[za,#[zi,#[zz],#[wP],#[zg]],#[Rf]]]]],#[zd,#[zl,10,zaf.nd,#[A],#[zq,sE,#[ut],T.Nh,qi.kp,sC,#[zZ],#[za,#[Tv],#[za,#[Rj],#[Uj]]]]],#[zd,#[zl,11,zaf.nd,#[Q0],#[zid]],#[zd,#[zao,bR,#[zO,T.Lw,#[ya,#[zi,#[zz],#[zg],#[zi,#[zL],#[zM,#[zB],#[Tv],#[zg]],#[KB]]]]],#[zf,12,zaf.nd,#[A]],#[zd,#[zl,13,zaf.nd,#[A],#[zi,#[zL],#[zM,#[zB],#[UE],#[zi,#[zL],#[zi,#[zH],#[zg],#[pvx,12]],#[zg]]],#[zm,#[zt],T.MC,dn,#[ya,#[TW]]]]],#[zd,#[zl,14,zaf.nd,#[A],#[zi,#[zL],#[zi,#[zbh],#[Qr],#[zg]],#[Rj]]],#[zd,(zje #[zaX,#[zK,#[zdH],#[zi,#[zL],#[Qr],#[zg]],#[zg],(zY _)],#[zk,#[zl,14,zaf.nd,#[A],#[zq,xr,#[ut],T.OT,tN.kp,xq,#[zZ],#[za,#[Rj],#[za,#[Xe],#[ya,#[zM,#[zdu],#[TW],#[pvx,13]]]]]]]],#[zal]]),#[zk,#[zg3,hu,#[pvx,11],#[zaZ,#[za,#[pvx,13],#[ya,#[pvx,14]]]],#[zi,#[zz],#[zg],#[zi,#[zL],#[zi,#[zbh],#[Qr],#[zg]],#[QQ]]]]]]]]],#[zk,#[zA,#[zU,(Lu.of (N':=["number","entry","found"]) (ix:=[none,none,some 11]) (zh zbq) _ rfl rfl rfl),#[RC],#[zpo,#[pvx,11]],#[o0],#[sK],(fun _ _ _ _=>#[zaZ,#[za,#[xL],#[za,#[wP],#[ya,#[zj4,hu,#[FB],#[zaZ,#[Pi]]]]]]])]]]]]]]]],?_⟩;refine zn9 ?_; intro Hl Ei yG uf qv qk;have qu:=bN;refine⟨_,rfl,c,_,rfl,oQ.of hc.1,rfl,_,_,rfl,_,_,rfl,_,_,rfl,rfl,?_⟩;refine #[QKK,(ex5 a ns at' 20 27720 ⟨rfl,hS,oO,#[O],#[O],#[D],#[D],#[D],#[D],fun pa ds H1 HK s1 hd h1p=>?_⟩)];refine #[QKKR,(ex5 a ns (at'+1) 60 27720 ⟨rfl,s1.seq hS,oO,#[O],#[O],#[D],#[D],#[D],#[D],fun da es H2 hda s2 he h2d=>?_⟩)];have wJ:ds.length=20:=hd.1;have hel:es.length=60:=he.1;have h2p:=s2 _ _ h1p;refine #[QKKK,(ex4 pa ds p k ⟨rfl,oE.of h2p,#[O],#[O],fun on vQ H3 hon s3 J4 h3o _=>?_⟩)];intro Fd KG;have v4:=zc (o:=.dT []) KG;have h4F:oG H3 Fd (.dT []) Fd=some (.dT []):=zb;have KH:=(s1.trans s2).trans s3;obtain⟨d6,m6,g6⟩:=zek (ns:=ds) (k:=6) #[D] #[O];have b6:=bA d6 (show M≠0 by lia);have b6':=aW d6 (show 0 < M by lia);have Bo:=v4 _ _ (s3 _ _ h2p);generalize oG H3 Fd (.dT [])=H4 at v4 h4F Bo |-;refine #[QK,(ex4 pa _ _ _ ⟨rfl,rfl,oE.of Bo,g6,#[QKR,⟨(by show (0:Int) < M; lia),#[QRK,#[Q4]]⟩]⟩)];obtain⟨n,hn⟩:∃ n:Nat,(1+d6 % M).toNat=n:=⟨_,rfl⟩;rw [hn];refine zah (lo:=0) (n:=n) (fun i σ H'=>∃ (kvs:List (List Key×V)) (o9:List #[wE]) (qN rN rF:Option V),σ = [some #[QD],some (.int at'),some #[WF],some (.int M),some (.int top),some #[Ru],some (.int (k:Int)),some (.ref tt),some (.ref pa),some (.ref da),some (.ref on),some (.ref Fd),qN,rN,rF]/\zr H3 H'/\H' Fd=some #[QZ]/\KeysAre kvs o9/\o9.Nodup/\o9.length<=i/\(0 < i->o9≠[])/\∀ m∈o9,∃ x y w,m = [x,y]/\0<=x/\x < pl.length/\0<=y/\y < p/\zaO kvs (m.map cM)=some (.int w)/\1<=w/\w<=top)
   ⟨[],[],none,none,none,rfl,v4,h4F,rfl,#[M],aG _,(fun h=>by lia),fun m hm=>by cases hm⟩ ?_ ?_
  ·rintro zD zT i σ H5 hi ⟨kvs,o9,qN,rN,rF,rfl,s5,KI,vA,qF,Ef,oZ,E3⟩;have HL:=(s3.trans s5) _ _ h2d;have Gi:=hc.same (KH.trans s5);have a1':=bA (2*(0+(i:Int))) (show (60:Int)≠0 by decide);have a2':=aW (2*(0+(i:Int))) (show (0:Int) < 60 by decide);obtain⟨x1,mx1,gx1⟩:=zek (ns:=es) (k:=2*(0+(i:Int)) % 60) a1' #[O];refine #[QKKR,⟨.inl #[KK],#[QR,⟨(by show (0:Int) < 60; decide),da,_,_,_,rfl,rfl,oE.of HL,gx1,#[QK,⟨tt,#[QK,⟨.inr (oQ.of Gi.2),#[QR,⟨(by show (0:Int) < _; rw [aA]; lia),?_⟩]⟩]⟩]⟩]⟩];have wG:=bA x1 (show (#[So].length:Int)≠0 by rw [aA]; lia);have HM:=aW x1 (show (0:Int) < (#[So].length:Int) by rw [aA]; lia);obtain⟨nx,B5⟩:∃ nx,x1 % ((pl.map V.int).length:Int)=nx:=⟨_,rfl⟩;rw [B5] at wG HM;rw [aA] at HM;have a3:=bA (2*(0+(i:Int))+1) (show (60:Int)≠0 by decide);have a4:=aW (2*(0+(i:Int))+1) (show (0:Int) < 60 by decide);obtain⟨x2,mx2,gx2⟩:=zek (ns:=es) (k:=(2*(0+(i:Int))+1) % 60) a3 #[O];have a5:=bA (3*(0+(i:Int))+1) (show (60:Int)≠0 by decide);have a6:=aW (3*(0+(i:Int))+1) (show (0:Int) < 60 by decide);obtain⟨x3,mx3,gx3⟩:=zek (ns:=es) (k:=(3*(0+(i:Int))+1) % 60) a5 #[O];have yc:=bA (x2 / 7) (show p≠0 by lia);have ey1:=aW (x2 / 7) (show 0 < p by lia);have ew0:=bA (x3 / 5) (show top≠0 by lia);have ew1:=aW (x3 / 5) (show 0 < top by lia);have hpx:0<=pl.getD nx.toNat 0/\pl.getD nx.toNat 0 < p:=by
    have uw:nx.toNat < pl.length:=by lia
    rw [bE,aJ uw];exact pN _ (ef uw)
   have h5o:=s5 _ _ h3o;have Kh:kvs.length=o9.length:=by
    have:=congrArg eX vA;rw [aA,aA] at this;exact this
   refine #[QKKR,⟨.inl #[KK],#[QRR,⟨(by show (0:Int) < 60; decide),da,_,_,_,rfl,rfl,oE.of HL,gx2,#[QR,⟨#[KK],#[QKR,⟨(by show (0:Int) < p; lia),?_⟩]⟩]⟩]⟩];refine⟨fun σ H'=>∃ y:Int,σ = [some #[QD],some (.int at'),some #[WF],some (.int M),some (.int top),some #[Ru],some (.int (k:Int)),some (.ref tt),some (.ref pa),some (.ref da),some (.ref on),some (.ref Fd),some (.int (0+(i:Int))),some (.int nx),some (.int y)]/\H'=H5/\0<=y/\y < p,?_,?_⟩
   ·refine #[QKKR,⟨.inl #[KK],#[QRR,⟨(by show (0:Int) < 60; decide),da,_,_,_,rfl,rfl,oE.of HL,gx2,#[QR,⟨(by show (0:Int) < 7; decide),#[QRK,(zaD #[AC] #[AC])]⟩]⟩]⟩]
    ·refine #[QKKKK,(ex4 tt _ _ _ ⟨rfl,rfl,oQ.of Gi.2,(by show atI #[So] (x1 % (#[So].length:Int))=_; rw [B5]; exact znv wG HM),p,_,on,vQ,rfl,.inr (oQ.of h5o),#[O],#[O],hpx.1,hpx.2,zR p (pl.getD nx.toNat 0) vQ,?_,rfl,zbJ #[O] _,zbK #[O] _⟩)];rw [<- B5]; rfl
    ·refine⟨_,?_,rfl,yc,ey1⟩;rw [<- B5]; rfl
   ·rintro σ' H' ⟨y,rfl,rfl,y0,y1⟩;refine #[QKKR,⟨.inl #[KK],#[QRR,⟨(by show (0:Int) < 60; decide),da,_,_,_,rfl,rfl,oE.of HL,gx3,#[QR,⟨#[KK],#[QKR,⟨(by show (0:Int) < top; lia),#[QRKKK,⟨by show 2<=sizeLine; lia,fun kt F0=>?_⟩]⟩]⟩]⟩]⟩];have v6:=zc (o:=.tup [.int nx,.int y]) F0;have h6F:=v6 _ _ KI;refine⟨Fd,#[QK,⟨zk8.t (k:=[cM nx,cM y]) h6F zb #[O],?_⟩]⟩;obtain⟨uR,m1,m2,m3,m4⟩:=ziq vA qF [nx,y] (.int (1+x3 / 5 % top));refine (ex5 _ uR _ _ _ ⟨rfl,z7 (s5.trans v6) KG,zb,m1,m2,#[O],(fun _ e=>?_),fun m hm=>?_⟩)
    ·have:=(m4 [nx,y]).mpr (.inr rfl);rw [e] at this;cases this
    ·by_cases Fc:m = [nx,y]
     ·subst Fc;exact (ex3 nx y (1+x3 / 5 % top) ⟨rfl,wG,HM,y0,y1,zd8 ..,#[O],#[O]⟩)
     ·rcases (m4 m).mp hm with h1 | h1
      ·obtain⟨x,y',w',b1,b2,b3,b4,b5,b6,b7,b8⟩:=E3 m h1;exact⟨x,y',w',b1,b2,b3,b4,b5,by rw [zfI (k:=[cM nx,cM y]) (fun e=>Fc (ze6 (b:=[nx,y]) e))]; exact b6,b7,b8⟩
      ·exact absurd h1 Fc
  ·rintro σ H5 ⟨kvs,o9,qN,rN,rF,rfl,s5,KI,vA,qF,Ef,oZ,E3⟩;have Kh:kvs.length=o9.length:=by
    have:=congrArg eX vA;rw [aA,aA] at this;exact this
   refine #[QK,⟨Fd,kvs,rfl,KI,fun ob=>?_⟩];refine zW (n:=kvs.length) (fun i ys H'=>zr (hide H5 Fd) H'/\H' Fd=some (.frz ob #[QZ])/\∃ (us:TF) (ts:List Wt3),ys=us.map V.ref/\T3 H' us ts/\ts.map (fun q=>[q.1,q.2.1])=o9.take i/\∀ q∈ts,0<=q.1/\q.1 < pl.length/\0<=q.2.1/\q.2.1 < p/\1<=q.2.2/\q.2.2<=top) ⟨zm2,zb,[],[],rfl,.nil,rfl,fun q hq=>by cases hq⟩ (fun i ys H' hi hq=>by obtain⟨_,hK,_⟩:=hq; exact⟨hK,hi⟩) (fun ys H' hq=>by obtain⟨_,hK,_⟩:=hq; exact⟨hK,aG _⟩) ?_ ?_
   ·rintro zS zT zE i y ys H8 H9 hi ⟨s8,h8K,us,ts,rfl,pk,Ap,tY⟩ ⟨rfl,a',kk,rfl,hk,ha⟩;obtain⟨qq,C5,rfl⟩:∃ qq,o9[i]? = some qq/\kk=qq.map cM:=by
     rw [vA,aF] at hk;cases e:o9[i]? with
     | none=>rw [e] at hk; cases hk
     | some qq=>rw [e] at hk; exact⟨qq,rfl,(bI hk).symm⟩
    obtain⟨x,y,w',rfl,b2,b3,b4,b5,b6,b7,b8⟩:=E3 qq (aO C5);have tL:=pk.length;have qK:=congrArg eX Ap;rw [aA,bC] at qK;have BK:H9 a'=some (.tup [.int x,.int y]):=ha;refine gY2 (oQ.of BK) ⟨_,rfl,_,rfl,_,rfl,_,rfl,_,rfl,by show 2<=sizeLine; lia,fun kt F0=>?_⟩;have v10:=zc (o:=.tup [.int x,.int y]) F0;have Km:zeM (oG H9 kt (.tup [.int x,.int y])) Fd (.ref kt) (some (.int w')):=by
     have:=(show zeM (oG H9 kt (.tup [.int x,.int y])) Fd (.ref kt) (zaO kvs [cM x,cM y]) from .inr ⟨kvs,_,kt,.inr ⟨ob,v10 _ _ h8K⟩,rfl,zb,rfl⟩);rw [show zaO kvs [cM x,cM y]=some (.int w') from b6] at this;exact this
    refine⟨Fd,#[QK,⟨Km,by show 3<=sizeLine; lia,fun T2 ud=>?_⟩]⟩;have v11:=zc (o:=.tup [.int x,.int y,.int w']) ud;refine⟨by rw [aA]; lia,s8.trans (v10.trans v11),(v10.trans v11) _ _ h8K,us++[T2],ts++[(x,y,w')],by rw [aN]; rfl,dE (pk.same (v10.trans v11)) zb,?_,fun z hz=>?_⟩
    ·rw [aN,Ap,take_snoc C5]; rfl
    ·rcases bZ.mp hz with hz | hz
     ·exact tY z hz
     ·(rw [cW.mp hz])
      exact⟨b2,b3,b4,b5,b7,b8⟩
   ·rintro ys H6 D ⟨s6,h6K,us,ts,rfl,pk,Ap,tY⟩ hD;rw [Kh,dW] at Ap;have tL:=pk.length;have qK:=congrArg eX Ap;rw [aA] at qK;have v7:=zc (o:=.lst #[EQ]) hD;have s37:zr H3 (hide H5 Fd):=fun b u e=>zbj (s5 _ _ e) (zu e KG)
    have vw:1<=n:=by lia
    have vK:=oZ vw;have uy:o9.length≠0:=fun e=>vK (kA.mp e)
    refine q D us ts _ ((KH.trans (s37.trans s6)).free hD) (KH.trans (s37.trans (s6.trans v7))) zb (pk.same v7) ⟨?_,fun z hz=>?_⟩ (fun z hz=>⟨(tY z hz).2.2.2.2.1,(tY z hz).2.2.2.2.2⟩) #[O] #[O]
    ·rw [<- Ap,cJ,di] at qF;rw [cJ,di];refine qF.imp fun {a b} n e=>n ?_
     unfold pt at e;injection e with e1 e2
     rw [e1,e2]
    ·obtain⟨c1,c2,c3,c4,c5,_⟩:=tY z hz;exact⟨c1,c2,c3,c4,#[O]⟩
noncomputable def zjA (t:Adr) (K:aD):Sp:=fun vs H Q _=>∃ (c tt g:Addr) (p T:Int) (k:Nat) (pl:TD) (bs:TF) (ts:List Wt3),vs = [.ref c,.ref g,.int T]/\zck H c tt p k pl/\H g=some #[wr]/\T3 H bs ts/\Gss p pl ts/\p∈zw/\pl.Nodup/\(∀ x∈pl,0<=x/\x < p)/\1<=k/\k<=5/\ts.length<=30/\ts.length ^ k<=1000000/\TbA t H /\
 ∀ (l:Addr) (rs:TF) (qs:List #[wE]) (H':Hp),zr #[Ua] H'->TbA t H'->H' l=some (.lst #[VC])->zb7 H' rs qs->qs.length<=1000000->(∀ q∈qs,IsP p k q/\T<=wsum p q #[xz])->Q #[RB] H'
theorem zcP:KE ["code","guesses","least","found"] ["code","guesses","least"] (zh zdn):=#[S]
theorem zjB (T:Txt K mg base t) (F:Fun K "_law_heavy" "_law_heavy" zdn t.NI fd):LG P w K mg base CX0 7 t.NI fd ["code","guesses","least"] (zjA t K):=by
 obtain⟨Gj,wM,Bt⟩:=T.Ov;have Bu:=zny (P:=P) (w:=w) (base:=base) T wM;refine F.ok zcP #[pc] #[dl]
 ·obtain⟨c,tt,g,p,T',k,pl,bs,ts,rfl,_⟩:=h;rfl
 ·obtain⟨c,tt,g,p,T',k,pl,bs,ts,rfl,hc,hg,hT,hG,hp,qF,pN,k1,k5,hn,B7,wI,q⟩:=h;refine zaJ ?_; intro zX;refine⟨_,#[zd,#[zl,3,zcP.nd,#[A],#[Q9]],#[zd,(@zoy _ _ _ _ _ _ _ _ _ _ _ rfl rfl rfl rfl T.Nt T.Oe.xc.bb (fun xe oC σ E hp=>#[zfv,#[zgw,3,zcP.nd,#[A],#[zfu,Bu,#[ut],T.Pp,wM.kp,Bt,hp,#[za,#[xL],#[Tx]]]]]) (fun e=>zk #[zl,3,zcP.nd,#[A],#[Q9]]) #[D]),#[SA]]],?_⟩;refine zei ?_; intro qv qk;have qu:=bN;refine⟨by show 0<=sizeLine; lia,fun l0 F9=>?_⟩;have u0:=zc (o:=.lst []) F9;generalize oG H l0 (.lst [])=H0 at u0 |-;have KJ:=wI.same u0;obtain⟨ps0,J8⟩:=wI.at_;have sh:∀ {H'},zr (hide H0 t.tab) H'->zr #[Ua] H':=fun {H'} s' b u e=>by
   have oZ:b≠t.tab:=fun z=>by unfold hide at e; rw [if_pos z] at e; cases e
   exact s' _ _ (zbj (u0 _ _ (zc1 _ _ _ _ e)) oZ)
  refine #[QKKK,(ex9 c tt g p T' k pl bs ts ⟨rfl,hc.same u0,u0 _ _ hg,hT.same u0,hG,hp,qF,pN,k1,k5,hn,B7,KJ,fun H1 s1=>#[QK,⟨T.Oe.xc.kc,by show 0<=sizeLine; lia,fun l hl=>#[Vu]⟩],fun l rs qs H' hl s' Bg Dh ht wC hm=>#[QK,(q l rs qs H' (sh s') Bg Dh ht wC hm)]⟩)];have s2:=u0.trans (s1.trans (zc (o:=.lst []) hl));exact q l [] [] _ ((zc1 _ _).trans s2) (wI.same s2) zb .nil #[D] fun x hx=>by cases hx
noncomputable def ziJ (K:aD):Sp:=fun vs H Q _=>∃ (p x:Int) (m:Nat),vs = [.int p,.int x,.int (m:Int)]/\5<=p/\p<=97/\0<=x/\x < p/\1<=m/\m<=1000 /\
 ∀ (l:Addr) (H':Hp),H l=none->zr H H'->H' l=some (.lst ((zbZ p x m).map V.int))->Q #[RB] H'
theorem zeH:KE ["p","x","many","found"] ["p","x","many"] (zh zcN):=#[S]
theorem zeI (T:Txt K mg base t) (F:Fun K "_law_powers" "_law_powers" zcN t.MS fd):LG P w K mg base CX0 1 t.MS fd ["p","x","many"] (ziJ K):=by
 refine F.ok zeH #[pc] #[dl]
 ·obtain⟨p,x,m,rfl,_⟩:=h;rfl
 ·obtain⟨p,x,m,rfl,p5,vC,x0,x1,m1,m2,q⟩:=h;refine zaJ ?_; intro zX;refine⟨_,#[zd,#[zl,3,zeH.nd,#[A],#[Qk]],#[zd,#[zdF,bR,#[zK,#[zdH],#[zm,#[zt],T.MC,dn,#[Ul]],#[FB],(zY _)],#[zk,#[zbH,#[zcR,cO,d8,d9,#[zbz],#[KB],#[ya,#[zi,#[zL],#[zi,#[zH],#[zM,#[zB],#[KB],#[zjK,zgM,#[zg]]],#[wP]],#[xL]]]]]]],#[zk,#[zA,#[zbs,zbX,#[KB],#[zb8],#[zbI,#[FB]]]]]]],?_⟩;refine zei ?_; intro qv qk;have qu:=bN;refine⟨by show 1<=sizeLine; lia,fun l hl=>?_⟩;have e1:(zbZ p x 1).map V.int = [V.int 1]:=by
   show [V.int (x ^ 0 % p)] = [V.int 1];rw [mI,dP #[O] #[O]]
  refine⟨fun μ σ H'=>∃ n:Nat,μ=m - n/\1<=n/\n<=m/\σ = [some #[Ru],some #[Vv],some (.int (m:Int)),some #[RB]]/\zr H H'/\H' l=some (.lst ((zbZ p x n).map V.int)),⟨m - 1,1,rfl,aG _,m1,rfl,zc hl,by rw [e1]; exact zb⟩,?_⟩;rintro μ σ H1 ⟨n,rfl,n1,nm,rfl,s1,h1⟩;refine #[QK,⟨l,#[QK,⟨.inl (oE.of h1),#[Ur]⟩]⟩];rw [aA,zd3];refine zaD #[V3] #[V2]
  ·have oY:=of_decide_eq_true oY;have oY:n < m:=by lia
   obtain⟨n',rfl⟩:∃ n',n=n'+1:=⟨n - 1,#[O]⟩;have g0:=bA (x ^ n') (show p≠0 by lia);have g1:=aW (x ^ n') (show 0 < p by lia);refine⟨fun σ' H'=>∃ m',m' < m - (n'+1)/\∃ n:Nat,m'=m - n/\1<=n/\n<=m/\σ' = [some #[Ru],some #[Vv],some (.int (m:Int)),some #[RB]]/\zr H H'/\H' l=some (.lst ((zbZ p x n).map V.int)),fun _ _ z=>z,?_⟩;have pJ:atI ((zbZ p x (n'+1)).map V.int) (-1)=some (.int (x ^ n' % p)):=by
    rw [zgD,aN];exact zko
   refine #[QK,⟨.inl ⟨rfl,_,oE.of h1⟩,#[QKK,(ex4 l _ _ (.int (x ^ n' % p)) ⟨rfl,rfl,oE.of h1,pJ,#[QKR,⟨.inl #[u8],#[QKR,⟨#[O],l,#[QR,⟨h1,by rw [aA,zd3]; lia,?_⟩]⟩]⟩]⟩)]⟩];refine⟨m - (n'+2),#[O],n'+2,rfl,#[O],#[O],rfl,z7 s1 hl,?_⟩;rw [zb,zgD p x (n'+1),aN];have:x ^ n' % p*x % p=x ^ (n'+1) % p:=by
    rw [eU];exact (#[No].mul (Cg.refl p x)).mod_eq
   show some (HO.lst (_++[V.int (x ^ n' % p*x % p)]))=_;rw [this];rfl
  ·have p9:¬ ((n:Int) < (m:Int)):=fun h=>p9 #[Rh]
   have J7:n=m:=by lia
   subst J7;refine #[QKKK,⟨l,#[Xr]⟩];have ec:zb6 ((zbZ p x n).map V.int) none (some (n:Int))=(zbZ p x n).map V.int:=by
    unfold zb6;rw [HT.MF,HT.Mx,fU,gA,aA,zd3,Nat.min_self,bO (by rw [aA,zd3]; exact aG _)]
   rw [ec];exact q z _ (s1.free hz) (s1.trans (zc hz)) zb
theorem ch0 (t:Nat):ch t 0=1:=by cases t <;> rfl
noncomputable def ziK (K:aD):Sp:=fun vs H Q _=>∃ (m f:Nat),vs = [.int (m:Int),.int (f:Int)]/\m<=1000/\f<=1000/\Q (.int (ch m f)) H
theorem zcf:KE ["many","few","found","k"] ["many","few"] (zh zcO):=#[S]
theorem zeJ (T:Txt K mg base t) (F:Fun K "_law_choose" "_law_choose" zcO t.MU fd):LG P w K mg base CX0 1 t.MU fd ["many","few"] (ziK K):=by
 refine F.ok zcf #[pc] #[dl]
 ·obtain⟨m,f,rfl,_⟩:=h;rfl
 ·obtain⟨m,f,rfl,hm,hf,q⟩:=h;refine zaJ ?_; intro zX;refine⟨_,#[zd,#[zl,2,zcf.nd,#[A],#[zg]],#[zd,#[zao,bR,#[zO,T.Lw,#[U4]],#[zf,3,zcf.nd,#[A]],#[zk,#[zl,2,zcf.nd,#[A],#[zi,#[zbh],#[zi,#[zH],#[FB],#[zi,#[zaa],#[xL],#[KB]]],#[Wa]]]]],#[Vp]]],?_⟩;refine zei ?_; intro qv qk;refine #[QK,⟨(f:Int),rfl,#[O],#[O],zah (lo:=0) (n:=(f:Int).toNat) (fun i σ H'=>H'=H/\∃ e:Option V,σ = [some (.int (m:Int)),some (.int (f:Int)),some (.int (ch m i)),e]) ⟨rfl,none,by rw [ch0]; rfl⟩ ?_ ?_⟩]
  ·rintro zD zT i σ H1 hi ⟨rfl,e,rfl⟩;refine #[QKKKRR,⟨.inr #[u8],#[QKRR,⟨#[u8],?_⟩]⟩];have e1:ch m i*((m:Int) - (0+(i:Int))) / ((0+(i:Int))+1)=ch m (i+1):=by rw [cI]; exact zqp
   refine⟨rfl,some (.int (0+(i:Int))),?_⟩;rw [<- e1];rfl
  ·rintro σ H1 ⟨rfl,e,rfl⟩;have e1:(f:Int).toNat=f:=by lia
   rw [e1];exact #[QK,q]
noncomputable def zlL (K:aD):Sp:=fun vs H Q _=>∃ (k:Int) (a:Addr) (bs:TF) (rows:List #[wE]),vs = [.int k,.ref a]/\0<=k/\k<=1000/\H a=some (.tup #[QX])/\zb7 H bs rows/\rows.length<=250/\(∀ r∈rows,r.length<=250)/\zdC rows rows.length≠[] /\
 ∀ (M:Int) (H':Hp),zr H H'->M∈szs k (zdC rows rows.length)->(∀ x∈szs k (zdC rows rows.length),x<=M)->Q (.int M) H'
theorem zdp:KE ["k","curve","sizes","j","line"] ["k","curve"] (zh zc5):=#[S]
theorem zlM (T:Txt K mg base t) (F:Fun K "_law_size" "_law_size" zc5 t.OC fd):LG P w K mg base CX0 1 t.OC fd ["k","curve"] (zlL K):=by
 refine F.ok zdp #[pc] #[dl]
 ·obtain⟨k,a,bs,rows,rfl,_⟩:=h;rfl
 ·obtain⟨k,a,bs,rows,rfl,k0,k1,ha,hb,hn,hw,oZ,q⟩:=h;refine zaJ ?_; intro zX;refine⟨_,#[zd,#[zl,2,zdp.nd,#[A],#[Q9]],#[zd,#[zao,bR,#[zhT,T.Mk,#[U4]],#[zaI,#[zj,#[zf,3,zdp.nd,#[Q0]],#[zj,#[zf,4,zdp.nd,#[A]],#[zI]]]],#[zk,#[zbH,#[zcR,cO,ki,kj,#[zgn],#[FB],#[ya,#[zU,(Lu.of (N':=["i","number","k","j"]) (ix:=[none,none,some 0,some 3]) (zh zc5) _ rfl rfl rfl),#[RC],#[zhT,T.Mk,#[Uk]],#[o0],(fun _ _ _ _=>#[zb2,#[zK,#[zdG],#[wP],#[zg],(zY _)]]),(fun _ _ _ _=>#[zi,#[zz],#[xL],#[zi,#[zH],#[zi,#[zaa],#[FB],#[zg]],#[KB]]])]]]]]],#[zk,#[zA,#[zm,#[zbC],T.O5,g9,#[QF]]]]]],?_⟩;refine zei ?_; intro qv qk;have qu:=bN;have oO:=bS hb;refine⟨bX _,fun S hS=>?_⟩;refine #[QK,⟨a,#[QK,⟨oQ.of ((zc hS) _ _ ha),zdL (n:=rows.length) (fun m σ H'=>∃ e3 e4:Option V,σ = [some (.int k),some #[QD],some (.ref S),e3,e4]/\zr H H'/\H' S=some (.lst ((szs k (zdC rows m)).map V.int))) ⟨none,none,rfl,zc hS,zb⟩ ?_ ?_ ?_ ?_⟩]⟩]
  ·rintro m σ H1 hm ⟨e3,e4,rfl,s1,h1⟩;exact⟨_,.ref (bs[m]'#[O]),oQ.of #[Se],by rw [aF,aJ #[O]]; rfl⟩
  ·rintro σ H1 ⟨e3,e4,rfl,s1,h1⟩;exact⟨_,oQ.of #[Se],by rw [aA]; lia⟩
  ·rintro zD zT m y σ H1 H2 hm ⟨e3,e4,rfl,s1,h1⟩ ⟨T,v,hT,rfl,rfl,hv⟩;obtain⟨b,rfl,Bh⟩:=z6 (hv _ (oQ.of #[Se]));obtain⟨r,hr,Bq⟩:=Paired.get hb Bh;have ug:=hw r (aO hr);have er:rows.getD m []=r:=by simp [n4,hr]
   refine#[RE];have sT:=s1.trans (zc (o:=.tup [.int m,.ref b]) hT);have h2:=(zc (o:=.tup [.int m,.ref b]) hT) _ _ h1;generalize oG H1 T (.tup [.int m,.ref b])=H2 at sT h2 |-;have HN:=sT _ _ Bq;refine #[QK,⟨.inl ⟨rfl,_,oE.of h2⟩,#[QK,⟨b,#[QK,⟨oQ.of HN,zW (n:=r.length) (fun j ys H'=>ys=(szs k (trm m r j)).map V.int/\zr H2 H') #[Q7] ?_ ?_ ?_ ?_⟩]⟩]⟩]
   ·rintro j ys H3 hj ⟨rfl,s3⟩;exact⟨_,.int (r[j]'hj),oQ.of (s3 _ _ HN),by rw [aF,aJ hj]; rfl⟩
   ·rintro ys H3 ⟨rfl,s3⟩;exact⟨_,oQ.of (s3 _ _ HN),by rw [aA]; lia⟩
   ·rintro zS zT zE j z ys H3 H4 hj ⟨rfl,s3⟩ ⟨T',v',Hk,rfl,rfl,Jz⟩;obtain⟨x,rfl,hx⟩:=zaE (Jz _ (oQ.of (s3 _ _ HN)));have hgx:gl r j=x:=zby hx;have KL:=s3.trans (zc (o:=.tup [.int j,.int x]) Hk);have l2:=zhj m r j;refine⟨T',_,rfl,oQ.of zb,rfl,_,_,rfl,_,_,rfl,rfl,?_⟩;generalize oG H3 T' (.tup [.int j,.int x])=H4 at KL |-;refine #[QK,#[S5]];refine zaD (fun Dj=>?_) (fun Dj=>?_)
    ·have Dj:x≠0:=by simpa using Dj
     refine #[QKKRKR,⟨.inl #[u8],#[QR,⟨by rw [aA,zhk]; lia,?_,KL⟩]⟩];rw [ziz,if_pos (by rw [hgx]; exact Dj),zkn,aN];rfl
    ·have Dj:x=0:=by simpa using Dj
     refine⟨?_,KL⟩;rw [ziz,if_neg (by rw [hgx,Dj]; simp)]
   ·rintro ys H3 D ⟨rfl,s3⟩ hD;have h3S:=s3 _ _ h2;have dS:D≠S:=(zu h3S hD).symm;have l1:=zgE hw m;have l2:=zhj m r r.length;refine (ex4 S D _ _ ⟨rfl,rfl,by rw [zn dS.symm]; exact h3S,zb,by rw [aA,aA,zhk,zhk]; lia,?_⟩);refine⟨_,_,rfl,z7 ((sT.trans s3).trans (zc hD)) hS,?_⟩;rw [zb,zgC,er,zkn,aN]
  ·rintro σ H1 ⟨e3,e4,rfl,s1,h1⟩;exact #[QK,⟨S,#[QK,⟨oE.of h1,by unfold szs; simpa using oZ,fun M hM yP=>q M _ s1 hM yP⟩]⟩]
theorem znR {p:Int} (p0:0 < p) {n:Nat} {M:List #[wE]} (hM:∀ row∈M,row.length=n):Gs p n M 0 [] (M.map fun row=>row.map fun c=>c % p):=by
 refine⟨by rw [aA],fun row hr=>?_,fun v=>?_,bX _,fun i c row h=>by simp at h,fun i row _ _ j hj=>by lia,nV,fun c hc=>by cases hc⟩
 ·obtain⟨r,ub,rfl⟩:=aQ.mp hr;refine⟨by rw [aA]; exact hM r ub,fun c hc=>?_⟩;obtain⟨d,_,rfl⟩:=aQ.mp hc;exact#[Uw]
 ·have hd:∀ row∈M,Cg p (dot n (row.map fun c=>c % p) v) (dot n row v):=fun row hr=>by
   unfold dot;exact zeD fun j hj=>by
    rw [zmV (f:=fun c=>c % p) (by rw [hM row hr]; exact hj)];exact (Cg.emod _ _).mul #[Fa]
  constructor
  ·intro h i row hi;exact (hd row (aO hi)).symm.trans (h i _ (by rw [aF,hi]; rfl))
  ·intro h i row hi;rw [aF] at hi;cases hA:M[i]? with
   | none=>rw [hA] at hi; cases hi
   | some r =>
    rw [hA] at hi;cases hi;exact (hd r (aO hA)).trans (h i r hA)
noncomputable def LsN (ra:Addr) (H:Hp):List Addr->List #[wE]->Prop:=Paired fun b v=>H b=some #[Ve]/\b≠ra
theorem LsN.same (s:zr H H') {bs:TF} (h:LsN ra H bs vv):LsN ra H' bs vv:=eA (fun _ _ ⟨z,z'⟩=>⟨s _ _ z,z'⟩) h
theorem LsN.put {bs:TF} {o:HO} (h:LsN ra H bs vv):LsN ra (oG H ra o) bs vv:=eA (fun _ _ ⟨z,z'⟩=>⟨by rw [zn z']; exact z,z'⟩) h
theorem LsN.set {bs:TF} (h:LsN ra H bs vv):∀ (i:Nat) {b:Addr} {v:TD},H b=some #[Ve]->b≠ra->LsN ra H (bs.set i b) (vv.set i v):=by
 induction h with
 | nil=>intro i b v _ _; exact .nil
 | cons r t ih =>
  intro i b v h1 h2;cases i with
  | zero=>exact .cons ⟨h1,h2⟩ t
  | succ i=>exact .cons r (ih i h1 h2)
noncomputable def zlN (K:aD):Sp:=fun vs H Q _=>∃ (p:Int) (a:Addr) (bs:TF) (M:List #[wE]) (n:Nat),vs = [.int p,.ref a]/\H a=some #[wr]/\LsA H bs M/\M≠[]/\M.length<=1000/\n<=1000/\(∀ row∈M,row.length=n)/\p∈zw /\
 ∀ (pv:List Nat) (H':Hp),zr H H'->RK p n M pv->Q (.int (pv.length:Int)) H'
theorem zbb:KE ["p","rows","rank","at","some","first","k","by"] ["p","rows"] (zh zbS):=#[S]
theorem zlO (T:Txt K mg base t) (F:Fun K "_law_rank" "_law_rank" zbS t.Oc fd):LG P w K mg base CX0 1 t.Oc fd ["p","rows"] (zlN K):=by
 refine F.ok zbb #[pc] #[dl]
 ·obtain⟨p,a,bs,M,n,rfl,_⟩:=h;rfl
 ·obtain⟨p,a,bs,M,n,rfl,ha,hB,oZ,hM,hn,qY,hp,q⟩:=h;have hu:(A.deeper (envOfC (cN "_law_rank") (zh zbS) s.heap.objs.size t.Oc oU)).units+20 < cLine:=by have:=hr.units; lia
  refine zaJ ?_; intro zX;refine⟨_,#[zd,#[zl,1,zbb.nd,#[Q0],#[zU,(Lu.of (N':=["row","p"]) (ix:=[none,some 0]) (zh zbS) _ rfl rfl rfl),#[zar],#[T9],#[pi],#[sK],(fun _ _ _ _=>#[zU,(Lu.of (N':=["number","p"]) (ix:=[none,some 1]) ({ kind:=.function,names:=[(".0",.local),("row",.local),("p",.cell)],isGenerator:=false,isCoroutine:=false }) _ (by with_unfolding_all rfl) rfl rfl),#[zar],#[zir,(K),#[xL]],#[pi],#[sK],(fun _ _ _ _=>#[zi,#[zL],#[xL],#[wP]])])]],#[zd,#[zl,2,zbb.nd,#[A],#[zg]],#[zd,#[zao,bR,#[zO,T.Lw,#[ya,#[zhF,#[zK,#[zi0,hu],#[wP],#[Q9],(zY _)],#[zm,#[zt],T.MC,dn,#[ya,#[zM,#[zB],#[wP],#[zg]]]],#[zg]]]],#[zf,3,zbb.nd,#[Q0]],#[zd,#[zbm,4,zbb.nd,#[A],(Lu.of (N':=["k","rows","at"]) (ix:=[none,some 1,some 3]) (zh zbS) _ rfl rfl rfl),#[zar],#[zda,T.Lw,#[za,#[FB],#[Wr]]],#[pi],(fun _ _ _ _=>#[zb2,#[zK,#[zdG],#[zM,#[Tc],#[Wd],#[FB]],#[zg],(zY _)]]),#[R7]],#[zk,#[zaX,#[zK,#[zi0,hu],#[QQ],#[Q9],(zY _)],#[zd,#[zl,5,zbb.nd,#[Q0],#[zM,#[zB],#[wP],#[Qn]]],#[zd,#[zaY,#[zM,#[zB],#[wP],#[FB]],#[zeg,#[wP],#[Qn],set_list]],#[zd,#[zaY,#[Rj],#[zeg,#[wP],#[FB],set_list]],#[zd,#[zao,bR,#[zda,T.Lw,#[za,#[zi,#[zz],#[FB],#[zg]],#[Wr]]],#[zf,6,zbb.nd,#[A]],#[zd,#[zl,7,zbb.nd,#[Q0],#[zM,#[zB],#[zM,#[zB],#[wP],#[Rt]],#[KB]]],#[zk,#[zaX,#[zK,#[zdG],#[TW],#[zg],(zY _)],#[zk,#[zaY,#[zU,(Lu.of (N':=["one","other","first","at","by","p"]) (ix:=[none,none,some 5,some 3,some 7,some 0]) (zh zbS) _ rfl rfl rfl),#[RC],#[zdN,T.Pl,#[za,#[zM,#[zB],#[wP],#[Rt]],#[Wq]]],#[o0],#[sK],(fun _ _ _ _=>#[zi,#[zL],#[zi,#[zaa],#[zi,#[zH],#[xL],#[zM,#[Tc],#[FB],#[KB]]],#[zi,#[zH],#[QQ],#[wP]]],#[Rj]])],#[zeg,#[wP],#[Rt],set_list]]],#[zal]]]]],#[zk,#[zl,2,zbb.nd,#[A],#[zi,#[zz],#[FB],#[zg]]]]]]]],#[zal]]]]],#[Vp]]]],?_⟩;refine zhK ?_; intro uf qv qk;have qu:=bN;have rp:=zC hp;have p0:0 < p:=by lia
  have uz:=hB.length;have hM0:=jp.mpr oZ;obtain⟨R0,KN⟩:∃ R0,R0=M.map fun row=>row.map fun c=>c % p:=⟨_,rfl⟩
  refine #[QK,⟨a,rfl,⟨_,oE.of ha⟩,zW (n:=bs.length) (fun i ys H'=>zr H H'/\∃ us:List Addr,ys=us.map V.ref/\LsA H' us (R0.take i)) ⟨fun _ _ e=>e,[],rfl,.nil⟩ ?_ ?_ ?_ ?_⟩]
  ·rintro i ys H1 hi ⟨s1,_⟩;exact⟨_,.ref bs[i],oE.of #[Se],by rw [aF,aJ hi]; rfl⟩
  ·rintro ys H1 ⟨s1,_⟩;exact⟨_,oE.of #[Se],by rw [aA]; exact aG _⟩
  ·rintro zS zT zE i y ys H1 H2 hi ⟨s1,us,rfl,pk⟩ ⟨rfl,hy⟩;obtain⟨b,rfl,hb⟩:=z6 (hy _ (oE.of #[Se]));obtain⟨row,hri,pJ⟩:=Paired.get hB hb;have BU:=qY row (aO hri);have tL:=pk.length;rw [bC] at tL;have h1b:=s1 _ _ pJ;refine gY #[QK,⟨b,rfl,⟨_,oE.of h1b⟩,zbB (fs:=(row.map fun c=>c % p).map V.int) (oE.of h1b) (by rw [aA,aA,aA]) (by rw [aA]; lia) ?_ ?_⟩]
   ·intro j x y R B hx hy hR;obtain⟨m,rfl,hm⟩:=zaE hx;obtain⟨m',rfl,DV⟩:=zaE hy;rw [aF,hm] at DV;cases DV;exact gY #[QKKR,⟨p0,hR⟩]
   ·intro D hD;have KO:R0[i]? = some (row.map fun c=>c % p):=by rw [KN,aF,hri]; rfl
    refine⟨by rw [aA]; lia,s1.trans (zc hD),us++[D],by rw [aN]; rfl,?_⟩;rw [take_snoc KO];exact dE (pk.same (zc hD)) zb
  rintro ys H1 ra ⟨s1,us,rfl,pk⟩ CZ;have KP:R0.length=M.length:=by rw [KN,aA]
  rw [uz,<- KP,dW] at pk;have G0:=znR p0 qY;rw [<- KN] at G0;have KQ:LsN ra H1 us R0:=eA (fun b v z=>⟨z,fun e=>by rw [e,CZ] at z; cases z⟩) pk;have h2r:oG H1 ra #[R6] ra=some #[R6]:=zb;have t2:=zc (o:=.lst #[EQ]) CZ;have Dk:LsN ra (oG H1 ra #[R6]) us R0:=KQ.put;have Gk:H ra=none:=s1.free CZ;have s2:=s1.trans t2;generalize oG H1 ra #[R6]=H2 at h2r t2 Dk s2 |-;have tL:=Dk.length;refine #[QK,⟨bX _,fun z hz=>?_⟩];have t3:=zc (o:=.lst []) hz;have Et:=t3 _ _ h2r;have Dl:=Dk.same t3;have s3:=s2.trans t3;refine (ex4 ra z _ _ ⟨rfl,rfl,.inl ⟨oE.of Et,oE.of zb⟩,.inl ⟨by rw [aA]; show us.length≠0; lia,fun j x y _ hy=>by simp at hy,?_⟩⟩);generalize oG H2 z (.lst [])=H3 at t3 Et Dl s3 |-;obtain⟨u0,hu0⟩:∃ u0,us[0]? = some u0:=⟨us[0]'#[O],#[M]⟩;obtain⟨v0,Kn,C8,_⟩:=Paired.get Dl hu0;have KR:v0.length=n:=(G0.rw v0 (aO Kn)).1;refine #[Vu];refine zaD #[AC] #[UP];refine #[QK,(ex4 ra _ _ (.ref u0) ⟨rfl,rfl,oE.of Et,z9 (j:=0) (by rw [aF,hu0]; rfl),u0,#[QK,⟨.inl (oE.of C8),#[QK,⟨by rw [aA]; lia,by rw [aA]; lia,?_⟩]⟩]⟩)];rw [aA,KR,cB];refine zah (lo:=0) (n:=n) (fun at' σ H'=>∃ (us:TF) (R:List #[wE]) (pv:List Nat) (e3 e4 e5 e6 e7:Option V),σ = [some #[Ru],some (.ref ra),some (.int (pv.length:Int)),e3,e4,e5,e6,e7]/\zr H H'/\H' ra=some #[R6]/\LsN ra H' us R/\Gs p n M at' pv R) (ex8 us R0 ([]) none none none none none ⟨rfl,s3,Et,Dl,G0⟩) ?_ ?_
  ·rintro zD zT at' σ H4 pJ ⟨us,R,pv,e3,e4,e5,e6,e7,rfl,s4,Cc,Bv,G⟩;have tL:=Bv.length;have Hn:=G.ln;have hpvl:=G.pvl;refine #[QKK,⟨ra,#[QK,⟨.inl (oE.of Cc),_,_,rfl,⟨#[O],#[O],by rw [aA]; lia,by rw [aA]; lia⟩,?_⟩]⟩];have en:((#[EQ].length:Int) - (pv.length:Int)).toNat=R.length - pv.length:=by rw [aA]; lia
   rw [en];have yL:∀ i,i < R.length->∃ b row,us[i]? = some b/\R[i]? = some row/\H4 b=some (.lst (row.map V.int))/\b≠ra/\row.length=n/\∀ c∈row,0<=c/\c < p:=fun i hi=>by
    obtain⟨b,hb⟩:∃ b,us[i]? = some b:=⟨us[i]'#[O],#[M]⟩;obtain⟨row,h1,h2,h3⟩:=Paired.get Bv hb;exact⟨b,row,hb,h1,h2,h3,G.rw row (aO h1)⟩
   have wy:∀ i row,R[i]? = some row->gl (R.getD i []) at'=gl row at':=fun i row h=>by rw [bE,h]; rfl
   refine zW (n:=R.length - pv.length) (fun j ys H'=>H'=H4/\ys=(((aU j).filter fun m=>decide (gl (R.getD #[Tf] []) at'≠0)).map fun m:Nat=>((pv.length+m:Nat):Int)).map V.int) ⟨rfl,rfl⟩ (fun j ys H' hj _=>hj) #[GE] ?_ ?_
   ·rintro zS zT zE j xx ys H5 H6 hj ⟨rfl,rfl⟩ ⟨rfl,rfl⟩;obtain⟨b,row,hb,Gm,Gn,_,ug,xt⟩:=yL (pv.length+j) #[O];have DZ:atI #[EQ] ((pv.length:Int)+(j:Int))=some #[T7]:=by
     rw [<- gi];exact z9 (by rw [aF,hb]; rfl)
    refine #[QKK,(ex4 ra _ _ #[T7] ⟨rfl,rfl,oE.of Cc,DZ,#[QK,(ex4 b _ _ #[VN] ⟨rfl,rfl,oE.of Gn,by rw [cI]; exact z9 (by rw [aF,za1 #[O]]; rfl),rfl,#[Vu]⟩)]⟩)];have ye:=gh (fun m=>decide (gl (R.getD #[Tf] []) at'≠0)) (aU j);rw [bJ] at ye;rw [cA,gK,aN,aN];have hv:=wy _ _ Gm;by_cases h0:gl row at'=0
    ·refine zaD (fun h=>absurd h (by rw [h0]; simp)) (fun _=>#[QH]);rw [fQ (by rw [hv]; simpa using h0),gL,f8,f8,du]
    ·refine zaD (fun _=>#[QK,⟨za0 (by rw [aA,aA]; lia),rfl,?_⟩]) #[Uf];rw [fP (by rw [hv]; simpa using h0),gL,<- gi];rfl
   ·rintro ys H5 AA ⟨rfl,rfl⟩ IZ;have t6:=zc (o:=.lst (((#[QS].filter fun m=>decide (gl (R.getD #[Tf] []) at'≠0)).map fun m:Nat=>((pv.length+m:Nat):Int)).map V.int)) IZ;have Eu:oG H5 AA (.lst (((#[QS].filter fun m=>decide (gl (R.getD #[Tf] []) at'≠0)).map fun m:Nat=>((pv.length+m:Nat):Int)).map V.int)) AA=_:=zb;generalize oG H5 AA (.lst (((#[QS].filter fun m=>decide (gl (R.getD #[Tf] []) at'≠0)).map fun m:Nat=>((pv.length+m:Nat):Int)).map V.int))=H6 at t6 Eu |-;have Bk:=t6 _ _ Cc;have Bs:=Bv.same t6;have s6:=s4.trans t6;refine #[QK,⟨bX _,fun z2 wA=>?_⟩];have t7:=zc (o:=.lst []) wA;cases Eg:#[QS].filter fun m=>decide (gl (R.getD #[Tf] []) at'≠0) with
    | nil =>
     rw [Eg] at Eu;refine (ex4 AA z2 _ _ ⟨rfl,rfl,.inl #[We],.inr ⟨rfl,fun _=>true,fun j x y hx _=>by simp at hx,?_⟩⟩);refine #[Vu];refine zaD (fun h=>absurd h #[M]) #[AC];refine (ex8 us R pv _ _ _ _ _ ⟨rfl,s6.trans t7,t7 _ _ Bk,Bs.same t7,zoH G fun i row h1 h2=>?_⟩);have hi:=(aK.mp h2).1;have:=iR.mp Eg (i - pv.length) (bP.mpr #[O]);rw [show pv.length+(i - pv.length)=i by lia,wy i row h2] at this;simpa using this
    | cons m0 ms =>
     rw [Eg] at Eu;have G3:m0∈#[QS].filter fun m=>decide (gl (R.getD #[Tf] []) at'≠0):=by rw [Eg]; exact bF
     obtain⟨vK,uy⟩:=cK.mp G3;have vK:=bP.mp vK;refine (ex4 AA z2 _ _ ⟨rfl,rfl,.inl #[We],.inl ⟨#[M],fun j x y _ hy=>by simp at hy,?_⟩⟩);refine #[Vu];refine zaD #[AC] #[UP];generalize oG H6 z2 (.lst [])=H7 at t7 |-;have h7s:=t7 _ _ Eu;have yV:=t7 _ _ Bk;have KS:=Bs.same t7;have s7:=s6.trans t7;obtain⟨k0,uO⟩:∃ k0,k0=pv.length+m0:=⟨_,rfl⟩;have yO:atI ((((m0 :: ms).map fun m:Nat=>((pv.length+m:Nat):Int))).map V.int) 0=some (.int (k0:Int)):=by rw [uO]; exact z9 (j:=0) rfl
     obtain⟨bf,first,CW,hRf,Gp,Bw,ye,uI⟩:=yL k0 #[O];obtain⟨bo,other,hbo,hRo,KU,Gq,hol,hor⟩:=yL pv.length #[O];have hf0:gl first at'≠0:=by
      rw [<- uO,wy k0 first hRf] at uy;simpa using uy
     refine #[QKK,(ex4 AA _ _ (.int (k0:Int)) ⟨rfl,rfl,oE.of h7s,yO,ra,_,_,.ref bf,rfl,rfl,oE.of yV,z9 (by rw [aF,CW]; rfl),?_⟩)];refine #[QKK,(ex4 ra _ _ (.ref bo) ⟨rfl,rfl,oE.of yV,z9 (by rw [aF,hbo]; rfl),#[QKK,(ex4 AA _ _ (.int (k0:Int)) ⟨rfl,rfl,oE.of h7s,yO,ra,_,_,k0,rfl,rfl,yV,zdc (by rw [aA]; lia),?_⟩)]⟩)];refine #[QKKK,(ex4 ra _ _ pv.length ⟨rfl,rfl,zb,zdc (by rw [eE,aA]; lia),?_⟩)];rw [zjI];have esw:(#[EQ].set k0 (.ref bo)).set pv.length (.ref bf)=(#[Rv].set pv.length bf).map V.ref:=by rw [iD,iD]
     rw [esw];have L0:=znb G (k0:=k0) #[O] hRf hRo hf0;have Ew:oG H7 ra (.lst ((#[Rv].set pv.length bf).map V.ref)) ra=some (.lst ((#[Rv].set pv.length bf).map V.ref)):=zb;have yW:LsN ra (oG H7 ra (.lst ((#[Rv].set pv.length bf).map V.ref))) (#[Rv].set pv.length bf) (#[Tk].set pv.length first):=LsN.set (LsN.set KS.put k0 (by rw [zn Gq]; exact (t6.trans t7) _ _ KU) Gq) pv.length (by rw [zn Bw]; exact (t6.trans t7) _ _ Gp) Bw;have h8f:oG H7 ra (.lst ((#[Rv].set pv.length bf).map V.ref)) bf=some (.lst (first.map V.int)):=by rw [zn Bw]; exact (t6.trans t7) _ _ Gp
     have s8:zr H (oG H7 ra (.lst ((#[Rv].set pv.length bf).map V.ref))):=z7 s7 Gk;generalize oG H7 ra (.lst ((#[Rv].set pv.length bf).map V.ref))=H8 at Ew yW h8f s8 |-;generalize #[Rv].set pv.length bf=us8 at Ew yW |-;generalize #[Tk].set pv.length first=R8 at L0 yW
     have hR8:=L0.ln;have hu8:=yW.length;refine #[QKRK,⟨ra,#[QK,⟨.inl (oE.of Ew),_,_,rfl,⟨#[O],#[O],by rw [aA]; lia,by rw [aA]; lia⟩,?_⟩]⟩];have en2:(((us8.map V.ref).length:Int) - ((pv.length:Int)+1)).toNat=R8.length - (pv.length+1):=by rw [aA]; lia
     rw [en2];have sM:(pv.length:Int)+1=((pv.length+1:Nat):Int):=by lia
     refine zah (lo:=(pv.length:Int)+1) (n:=R8.length - (pv.length+1)) (fun m σ H'=>∃ (us:TF) (R:List #[wE]) (e6 e7:Option V),σ = [some #[Ru],some (.ref ra),some (.int (pv.length:Int)),some (.int (0+(at':Int))),some (.ref AA),some (.ref bf),e6,e7]/\zr H H'/\H' ra=some #[R6]/\LsN ra H' us R/\H' bf=some (.lst (first.map V.int))/\El p n M at' pv first (pv.length+1+m) R) (ex4 us8 R8 _ _ ⟨rfl,s8,Ew,yW,h8f,L0⟩) ?_ ?_
     ·rintro zD zT m σ H9 hm ⟨Dm,R9,f6,f7,rfl,s9,Dp,xu,Ex,L⟩;have hR9:=L.ln;have hu9:=xu.length;have Fz:pv.length+1+m < R9.length:=by lia
      obtain⟨b,hb⟩:∃ b,Dm[pv.length+1+m]? = some b:=⟨Dm[pv.length+1+m]'#[O],#[M]⟩;obtain⟨row,Dq,Gn,hbn⟩:=Paired.get xu hb;obtain⟨ug,xt⟩:=L.rw row (aO Dq);have hkx:(pv.length:Int)+1+(m:Int)=((pv.length+1+m:Nat):Int):=by lia
      have DZ:atI (Dm.map V.ref) ((pv.length:Int)+1+(m:Int))=some #[T7]:=by
       rw [hkx];exact z9 (by rw [aF,hb]; rfl)
      have Ff:atI (row.map V.int) (0+(at':Int))=some #[VN]:=by
       rw [cI];exact z9 (by rw [aF,za1 #[O]]; rfl)
      have hfx:atI (first.map V.int) (0+(at':Int))=some (.int (gl first at')):=by
       rw [cI];exact z9 (by rw [aF,za1 #[O]]; rfl)
      refine #[QKK,(ex4 ra _ _ #[T7] ⟨rfl,rfl,oE.of Dp,DZ,#[QK,(ex4 b _ _ #[VN] ⟨rfl,rfl,oE.of Gn,Ff,?_⟩)]⟩)];refine #[QK,#[S5]];obtain⟨q0,q1⟩:=zdB p0 xt at';obtain⟨w0,w1⟩:=zdB p0 uI at';by_cases h0:gl row at'=0
      ·refine zaD (fun h=>absurd h (by rw [h0]; simp)) #[AC];exact (ex4 Dm R9 _ _ ⟨rfl,s9,Dp,xu,Ex,by rw [<- jQ]; exact zoI L Dq h0⟩)
      ·refine zaD #[AC] #[Uf];refine #[QKK,(ex4 ra _ _ #[T7] ⟨rfl,rfl,oE.of Dp,DZ,#[QK,(ex4 b bf _ _ ⟨rfl,oE.of Gn,oE.of Ex,zel (n:=n) (f:=fun one other=>(one*gl first at' - gl row at'*other) % p) Gn Ex #[O] #[O] (.inl #[O]) #[O] ?_ ?_⟩)]⟩)]
       ·intro j u w Hx T R' B hu hv sx hT hR;have hu2:=xt u (aO hu);have hfT:=sx.trans (zc (o:=.tup [.int u,.int w]) hT);refine gY2 #[WI] ?_;exact #[QKKK,(ex4 bf _ _ (.int (gl first at')) ⟨rfl,rfl,oE.of (hfT _ _ Ex),hfx,#[QR,⟨.inl #[u8],#[QKKR,#[Su]]⟩]⟩)]
       ·intro D Hx sx hD;have tx:=sx.trans (zc (o:=.lst ((bV (fun one other=>(one*gl first at' - gl row at'*other) % p) row first).map V.int)) hD);have KY:oG Hx D (.lst ((bV (fun one other=>(one*gl first at' - gl row at'*other) % p) row first).map V.int)) D=some (.lst ((bV (fun one other=>(one*gl first at' - gl row at'*other) % p) row first).map V.int)):=zb;have hDr:D≠ra:=fun e=>by
         have:=sx _ _ Dp;rw [<- e,hD] at this;cases this
        have L2:=zoJ hp L pJ #[O] Dq;generalize oG Hx D (.lst ((bV (fun one other=>(one*gl first at' - gl row at'*other) % p) row first).map V.int))=Hy at tx KY |-;generalize bV (fun one other=>(one*gl first at' - gl row at'*other) % p) row first=nw at L2 KY
        have hyr:=tx _ _ Dp;refine #[QKK,(ex4 ra _ _ (pv.length+1+m) ⟨rfl,rfl,hyr,by rw [hkx]; exact zdc (by rw [aA]; lia),?_⟩)];refine (ex4 (Dm.set (pv.length+1+m) D) (R9.set (pv.length+1+m) nw) _ _ ⟨rfl,z7 (s9.trans tx) Gk,by rw [zb,iD],LsN.set (xu.same tx).put _ (by rw [zn hDr]; exact KY) hDr,by rw [zn Bw]; exact tx _ _ Ex,by rw [<- jQ]; exact L2⟩)
     ·rintro σ H9 ⟨Dm,R9,f6,f7,rfl,s9,Dp,xu,Ex,L⟩;have hR9:=L.ln;have hfl':=(aK.mp L.fs).1;refine #[QKR,?_];have epv:(pv.length:Int)+1=((pv++[at']).length:Int):=by
       rw [aS];show _=((pv.length+1:Nat):Int);lia
      exact⟨Dm,R9,pv++[at'],some (.int (0+(at':Int))),some (.ref AA),some (.ref bf),f6,f7,congrArg (fun v:Int=>[some (V.int p),some (.ref ra),some (.int v),some (.int (0+(at':Int))),some (.ref AA),some (.ref bf),f6,f7]) epv,s9,Dp,xu,zqq L #[O]⟩
  ·rintro σ H4 ⟨us,R,pv,e3,e4,e5,e6,e7,rfl,s4,Cc,Bv,G⟩;exact #[QK,(q pv H4 s4 (zrd hp G))]
noncomputable def zlP (rows:List #[wE]) (x y:Int) (u v:Nat):Int:=sm rows.length fun t=>sm (rows.getD t []).length fun s=>gl (rows.getD t []) s*cv (s,t) ⟨x,y,u,v⟩
noncomputable def byv (p x:Int) (u s:Nat):Int:=if u<=s then ch s u*(x ^ (s - u) % p) else 0
noncomputable def byL (p x:Int) (u n:Nat):List Int:=(aU n).map (byv p x u)
theorem zqC (p x:Int) (u s:Nat):Cg p (byv p x u s) (cf x s u):=by
 unfold byv cf;by_cases h:u<=s
 ·rw [if_pos h];exact #[Fa].mul #[No]
 ·rw [if_neg h,zbY #[O],dq];exact Cg.refl p 0
noncomputable def sms (p x:Int) (u:Nat) (r:TD):Int:=sm r.length fun s=>gl r s*byv p x u s
theorem zes {f:Nat->Int}:∀ n,((aU n).map f).sum=sm n f
 | 0=>rfl
 | n+1=>by
  rw [cA,aN,kH,zes n];show _+(f n+0)=_+f n;lia
noncomputable def tot (p x y:Int) (rows:List #[wE]) (u v m:Nat):Int:=sm m fun k=>sms p x u (rows.getD (v+k) [])*ch (v+k) v*(y ^ (v+k - v) % p)
theorem zqD {p x y:Int} {u v:Nat}:Cg p (tot p x y rows u v #[V7]) (zlP rows x y u v):=by
 unfold tot zlP;by_cases h:v<=rows.length
 ·have e1:rows.length=v+#[V7]:=by lia
  have:sm rows.length (fun t=>sm (rows.getD t []).length fun s=>gl (rows.getD t []) s*cv (s,t) ⟨x,y,u,v⟩)=sm #[V7] fun k=>sm (rows.getD (v+k) []).length fun s=>gl (rows.getD (v+k) []) s*cv (s,v+k) ⟨x,y,u,v⟩:=by
   conv=>lhs; rw [e1]
   rw [zis,zaW (n:=v),cI];intro t ht;refine zaW fun s _=>?_
   unfold cv cf;rw [zbY ht];simp
  rw [this];refine zeD fun k _=>?_
  unfold sms;have e2:sm (rows.getD (v+k) []).length (fun s=>gl (rows.getD (v+k) []) s*cv (s,v+k) ⟨x,y,u,v⟩)=sm (rows.getD (v+k) []).length (fun s=>gl (rows.getD (v+k) []) s*cf x s u)*ch (v+k) v*y ^ (v+k - v):=by
   rw [show sm (rows.getD (v+k) []).length (fun s=>gl (rows.getD (v+k) []) s*cv (s,v+k) ⟨x,y,u,v⟩)=sm (rows.getD (v+k) []).length (fun s=>(ch (v+k) v*y ^ (v+k - v))*(gl (rows.getD (v+k) []) s*cf x s u)) from zan fun s _=>by unfold cv cf; grind,zcm];grind
  rw [e2];exact ((zeD fun s _=>#[Fa].mul (zqC p x u s)).mul #[Fa]).mul #[No]
 ·rw [show rows.length - v=0 by lia];refine Cg.of_eq (Eq.symm (zaW fun t ht=>zaW fun s _=>?_));unfold cv cf;have HH:t < v:=by lia
  rw [zbY HH];simp
noncomputable def ziL (K:aD):Sp:=fun vs H Q _=>∃ (p:Int) (a pt:Addr) (x y:Int) (m:Nat) (bs:TF) (rows:List #[wE]),vs = [.int p,.ref a,.ref pt,.int (m:Int)]/\5<=p/\p<=97/\0<=x/\x < p/\0<=y/\y < p/\m<=4/\H a=some (.tup #[QX])/\zb7 H bs rows/\H pt=some (.tup [.int x,.int y])/\1<=rows.length/\rows.length<=201/\(∀ r∈rows,1<=r.length/\r.length<=201/\∀ v∈r,0<=v/\v < p) /\
 (∀ u v,u+v < m->Cg p (zlP rows x y u v) 0)/\∀ H',zr H H'->Q (.bl true) H'
theorem zay:KE ["p","curve","point","m","a","b","wide","right","up","i","by","sums","j"] ["p","curve","point","m"] (zh za4):=#[S]
theorem ziM (T:Txt K mg base t) (F:Fun K "_law_passes" "_law_passes" za4 t.MT fd):LG P w K mg base CX0 2 t.MT fd ["p","curve","point","m"] (ziL K):=by
 obtain⟨u9,o7,pF⟩:=T.Mi;have pG:=zeI (P:=P) (w:=w) (base:=base) T o7;obtain⟨va,o8,pH⟩:=T.Mj;have pI:=zeJ (P:=P) (w:=w) (base:=base) T o8;refine F.ok zay #[pc] #[dl]
 ·obtain⟨p,a,pt,x,y,m,bs,rows,rfl,_⟩:=h;rfl
 ·obtain⟨p,a,pt,x,y,m,bs,rows,rfl,p5,vC,x0,x1,y0,y1,m4,ha,hb,uY,vw,hn,hw,hz,q⟩:=h;refine zaJ ?_; intro zX;refine⟨_,#[zd,#[zaY,#[FB],#[zaI,#[zj,#[zf,4,zay.nd,#[A]],#[zj,#[zf,5,zay.nd,#[A]],#[zI]]]]],#[zd,#[zl,6,zay.nd,#[A],#[zm,#[zbC],T.O5,g9,#[ya,#[zU,(Lu.of (N':=["line"]) (ix:=[none]) (zh za4) _ rfl rfl rfl),#[zar],#[zgL,#[wP]],#[pi],#[sK],#[Xm]]]]],#[zd,#[zl,7,zay.nd,#[Q0],#[zq,pG,#[ut],T.Mf,o7.kp,pF,#[zZ],#[za,#[xL],#[za,#[QQ],#[Uj]]]]],#[zd,#[zl,8,zay.nd,#[Q0],#[zq,pG,#[ut],T.Mf,o7.kp,pF,#[zZ],#[za,#[xL],#[za,#[Rj],#[Wr]]]]],#[zd,#[zao,bR,#[zO,T.Lw,#[Ul]],#[zf,9,zay.nd,#[Q0]],#[zd,#[zl,10,zay.nd,#[Q0],#[zU,(Lu.of (N':=["s","i","right"]) (ix:=[none,some 9,some 7]) (zh za4) _ rfl rfl rfl),#[zar],#[zO,T.Lw,#[Uj]],#[pi],#[sK],(fun _ _ _ _=>#[zhF,#[zK,#[zgf],#[xL],#[wP],(zY _)],#[zi,#[zH],#[zq,pI,#[ut],T.Mg,o8.kp,pH,#[zZ],#[Pi]],#[zM,#[Tc],#[FB],#[zi,#[zaa],#[xL],#[wP]]]],#[zg]])]],#[zd,#[zl,11,zay.nd,#[Q0],#[zU,(Lu.of (N':=["line","by"]) (ix:=[none,some 10]) (zh za4) _ rfl rfl rfl),#[zar],#[zgL,#[wP]],#[pi],#[sK],(fun _ _ _ _=>#[zm,(zjj (K:=K) rfl rfl),T.Ph,iX,#[ya,#[zU,(Lu.of (N':=["number","one"]) (ix:=[none,none]) ({ kind:=.function,names:=[(".0",.local),("line",.local),("sum",.globalImplicit),("zip",.globalImplicit),("by",.cell)],isGenerator:=false,isCoroutine:=false }) _ (by with_unfolding_all rfl) rfl rfl),#[RC],(zlo (K:=K) rfl rfl T.Pl #[Pi]),#[o0],#[sK],(fun _ _ _ _=>#[zi,#[zH],#[xL],#[wP]])]]])]],#[zk,#[zao,bR,#[zO,T.Lw,#[ya,#[zi,#[zaa],#[KB],#[UE]]]],#[zf,12,zay.nd,#[Q0]],#[zk,#[zaX,#[zK,#[zdG],#[zi,#[zL],#[zm,#[zbp],T.Ph,iX,#[ya,#[zU,(Lu.of (N':=["t","sums","j","up"]) (ix:=[none,some 11,some 12,some 8]) (zh za4) _ rfl rfl rfl),#[zar],#[zda,T.Lw,#[za,#[pvx,12],#[Wr]]],#[pi],#[sK],(fun _ _ _ _=>#[zi,#[zH],#[zi,#[zH],#[Wd],#[zq,pI,#[ut],T.Mg,o8.kp,pH,#[zZ],#[za,#[xL],#[QF]]]],#[zM,#[Tc],#[KB],#[zi,#[zaa],#[xL],#[FB]]]])]]],#[xL]],#[zg],(zY _)],#[Q5],#[zal]]]]]]]],#[Q5]]]]]],?_⟩;refine zqY ?_; intro Ei yG uf qv qk;have qu:=bN;have oO:=bS hb;have ne:rows≠[]:=fun e=>by rw [e] at vw; simp at vw
  have wdl:wd rows<=201:=by
   obtain⟨r,hr,er⟩:=zhl ne;rw [<- er]; exact (hw r hr).2.1
  have wd1:1<=wd rows:=by
   obtain⟨r,hr,er⟩:=zhl ne;rw [<- er]; exact (hw r hr).1
  have Gr:(#[QX].length:Int)=(rows.length:Int):=by rw [aA,oO]
  refine⟨_,rfl,pt,_,rfl,oQ.of uY,rfl,_,_,rfl,_,_,rfl,rfl,?_⟩;refine #[QK,⟨a,rfl,⟨_,oQ.of ha⟩,zgv (fs:=#[Vx].map V.int) (oQ.of ha) (by simp [oO,zjn]) (by rw [aA]; lia) (fun i u v R B hu hv hR=>?_) (fun D hD=>?_)⟩]
  ·obtain⟨b,rfl,xk⟩:=z6 hu;obtain⟨r,hr,Bq⟩:=Paired.get hb xk;unfold zaB at hv;rw [aF,aF,hr] at hv;have hv:V.int (r.length:Int)=v:=by simpa using hv
   subst hv;refine gY ?_;refine #[QK,⟨b,#[QK,⟨.inr (oQ.of Bq),?_⟩]⟩];rw [aA];exact hR
  refine⟨D,zaB rows,rfl,oE.of zb,by unfold zaB; simpa using ne,fun M hM yP=>?_⟩;have eM:M=(wd rows:Int):=zre (fun e=>absurd e (by unfold zaB; simpa using ne)) fun _=>⟨hM,fun a ha=>by rw [if_pos rfl]; exact yP a ha⟩
  subst eM;have s0:=zc (o:=.lst (#[Vx].map V.int)) hD;generalize oG H D (.lst (#[Vx].map V.int))=H0 at s0 |-;refine #[QKKK,(ex3 p x (wd rows) ⟨rfl,p5,vC,x0,x1,wd1,#[O],fun l1 H1 vo s1 h1=>?_⟩)];refine #[QKKK,⟨a,#[QK,⟨.inr (oQ.of ((s0.trans s1) _ _ ha)),?_⟩]⟩];rw [Gr];refine (ex3 p y rows.length ⟨rfl,p5,vC,y0,y1,vw,#[O],fun l2 H2 qc s2 h2=>?_⟩);have h1:=s2 _ _ h1;have Az:=(s0.trans s1).trans s2;have emt:((m:Int)).toNat=m:=by lia
  refine #[QKK,⟨#[O],#[O],zah (lo:=0) (n:=((m:Int)).toNat) (fun i σ H'=>∃ (e9 sO vT qN:Option V),σ = [some #[Ru],some #[QD],some (.ref pt),some (.int (m:Int)),some #[Vv],some (.int y),some (.int (wd rows:Int)),some (.ref l1),some (.ref l2),e9,sO,vT,qN]/\zr H2 H') (ex4 none none none none #[Q7]) ?_ ?_⟩]
  ·rintro zD zT i σ H3 hi ⟨e9,sO,vT,qN,rfl,s3⟩;have hi:i < m:=by lia
   rw [show ((0:Int)+(i:Int))=(i:Int) from cI _];have s03:=Az.trans s3;have C2:=s3 _ _ h1;have h3l2:=s3 _ _ h2;have ewd:((wd rows:Int)).toNat=wd rows:=by lia
   refine #[WV];rw [ewd];refine zW (n:=wd rows) (fun n ys H'=>H'=H3/\ys=(byL p x i n).map V.int) ⟨rfl,rfl⟩ (fun n ys H' hn _=>hn) #[GE] ?_ ?_
   ·rintro zS zT zE s' xx ys H4 H5 hs ⟨rfl,rfl⟩ ⟨rfl,rfl⟩;rw [show ((0:Int)+(s':Int))=(s':Int) from cI _];have fin:∀ v:Int,v=byv p x i s'->((byL p x i s').map V.int).length < sizeLine/\H5=H5/\(byL p x i s').map V.int++[V.int v]=(byL p x i (s'+1)).map V.int:=fun v e=>by
     refine⟨by unfold byL; rw [aA,aA,bJ]; lia,rfl,?_⟩;unfold byL;rw [cA,aN,aN,e];rfl
    refine gY ?_;refine #[QKKRK,?_];refine zaD #[V2] #[V3]
    ·have p9:=of_decide_eq_true p9;have p9:i<=s':=by lia
     have pJ:atI ((zbZ p x (wd rows)).map V.int) ((s':Int) - (i:Int))=some (.int (x ^ (s' - i) % p)):=by
      rw [show ((s':Int) - (i:Int))=((s' - i:Nat):Int) by lia];refine z9 ?_;unfold zbZ;rw [aF,aF,cY #[O]];rfl
     have g0:=bA (x ^ (s' - i)) (show p≠0 by lia);have g1:=aW (x ^ (s' - i)) (show 0 < p by lia);refine #[QKK,⟨s',i,rfl,#[O],#[O],#[QKKKR,(ex4 l1 _ _ _ ⟨rfl,rfl,oE.of C2,pJ,#[Rp]⟩)]⟩];exact fin _ (by unfold byv; rw [if_pos p9])
    ·have oY:¬ ((i:Int)<=(s':Int)):=fun h=>oY #[Rh]
     exact fin _ (by unfold byv; rw [if_neg #[O]])
   rintro ys H4 BL ⟨rfl,rfl⟩ hBL;have wB:=zc (o:=.lst (#[SY].map V.int)) hBL;have hB:oG H4 BL (.lst (#[SY].map V.int)) BL=some (.lst (#[SY].map V.int)):=zb;have s4:=s3.trans wB;generalize oG H4 BL (.lst (#[SY].map V.int))=H5 at wB hB s4 |-;have s05:=Az.trans s4;have HP:=s05 _ _ ha;refine #[QK,⟨a,rfl,⟨_,oQ.of HP⟩,zW (n:=rows.length) (fun t' ys H'=>zr H5 H'/\ys=((rows.take t').map (sms p x i)).map V.int) #[UK] ?_ ?_ ?_ ?_⟩]
   ·rintro t' ys H6 ht ⟨s6,_⟩;exact⟨_,.ref (bs[t']'#[O]),oQ.of (s6 _ _ HP),by rw [aF,aJ #[O]]; rfl⟩
   ·rintro ys H6 ⟨s6,_⟩;exact⟨_,oQ.of (s6 _ _ HP),by rw [aA]; lia⟩
   ·rintro zS zT zE t' xx ys H6 H7 ht ⟨s6,rfl⟩ ⟨rfl,hx⟩;obtain⟨b,rfl,Bh⟩:=z6 (hx _ (oQ.of (s6 _ _ HP)));obtain⟨r,hr,Bq⟩:=Paired.get hb Bh;have KZ:=zpr (aO hr);have tY:=hw r (aO hr);have yV:=(s05.trans s6) _ _ Bq;have HQ:=s6 _ _ hB;refine gY ?_;refine #[QKK,(ex4 b BL _ _ ⟨rfl,oQ.of yV,oE.of HQ,zW (n:=r.length) (fun s' ys H'=>zr H7 H'/\ys=((aU s').map fun s'=>gl r s'*byv p x i s').map V.int) #[UK] ?_ ?_ ?_ ?_⟩)]
    ·rintro s' ys H8 hs ⟨s8,_⟩;refine⟨_,_,.int (r[s']'hs),.int (byv p x i s'),oQ.of (s8 _ _ yV),oE.of (s8 _ _ HQ),by rw [aF,aJ hs]; rfl,?_⟩;unfold byL;rw [aF,aF,cY #[O]];rfl
    ·rintro ys H8 ⟨s8,_⟩;exact⟨_,_,oQ.of (s8 _ _ yV),oE.of (s8 _ _ HQ),by unfold byL; rw [aA,aA,aA,bJ]; lia⟩
    ·rintro zS zT zE s' xx ys H8 H9 hs ⟨s8,rfl⟩ ⟨T,u,v,hT,rfl,rfl,hu,hv⟩;obtain⟨c,rfl,hc⟩:=zaE (hu _ (oQ.of (s8 _ _ yV)));obtain⟨d,rfl,hd⟩:=zaE (hv _ (oE.of (s8 _ _ HQ)));have ed:d=byv p x i s':=by
      unfold byL at hd;rw [aF,cY #[O]] at hd;exact (bI hd).symm
     subst ed;have ec:gl r s'=c:=zby hc;have cr:=tY.2.2 c (aO hc);refine gY2 #[WI] ?_;refine #[QKKR,⟨.inl #[u8],by rw [aA,aA,bJ]; lia,s8.trans (zc hT),?_⟩];rw [cA,aN,aN];show _++[V.int (c*byv p x i s')]=_++[V.int (gl r s'*byv p x i s')];rw [ec]
    ·rintro ys H8 D8 ⟨s8,rfl⟩ hD8;refine⟨D8,#[UT]⟩;rw [zes];refine⟨by rw [aA,aA,bC]; lia,s6.trans (s8.trans (zc hD8)),?_⟩;rw [take_snoc hr,aN,aN];rfl
   rintro ys H6 SL ⟨s6,rfl⟩ hSL;rw [bO (aG _)];have wS:=s6.trans (zc (o:=.lst (#[RD].map V.int)) hSL);have hSs:oG H6 SL (.lst (#[RD].map V.int)) SL=some (.lst (#[RD].map V.int)):=zb;have s7:=s4.trans wS;generalize oG H6 SL (.lst (#[RD].map V.int))=H7 at wS hSs s7 |-;have s07:=Az.trans s7;have K0:=s7 _ _ h2;have emi:((m:Int) - (i:Int)).toNat=m - i:=by lia
   refine #[QKKRK,⟨#[O],#[O],zah (lo:=0) (n:=((m:Int) - (i:Int)).toNat) (fun j σ H'=>∃ (qN:Option V),σ = [some #[Ru],some #[QD],some (.ref pt),some (.int (m:Int)),some #[Vv],some (.int y),some (.int (wd rows:Int)),some (.ref l1),some (.ref l2),some (.int (i:Int)),some (.ref BL),some (.ref SL),qN]/\zr H7 H') ⟨qN,rfl,fun _ _ e=>e⟩ ?_ ?_⟩]
   ·rintro zD zT j σ H8 hj ⟨qN,rfl,s8⟩;have hj:j < m - i:=by lia
    rw [show ((0:Int)+(j:Int))=(j:Int) from cI _];have s08:=s07.trans s8;have h8S:=s8 _ _ hSs;have K1:=s8 _ _ K0;refine #[QKK,⟨a,#[QK,⟨.inr (oQ.of (s08 _ _ ha)),?_⟩]⟩];rw [Gr];have enj:((rows.length:Int) - (j:Int)).toNat=rows.length - j:=by lia
    refine⟨(j:Int),(rows.length:Int),rfl,⟨#[O],#[O],#[O],#[O]⟩,?_⟩;rw [enj];refine zW (n:=rows.length - j) (fun k ys H'=>H'=H8/\ys=((aU k).map fun k=>sms p x i (rows.getD (j+k) [])*ch (j+k) j*(y ^ (j+k - j) % p)).map V.int) ⟨rfl,rfl⟩ (fun n ys H' hn _=>hn) #[GE] ?_ ?_
    ·rintro zS zT zE k xx ys H9 C4 hk ⟨rfl,rfl⟩ ⟨rfl,rfl⟩;rw [show ((j:Int)+(k:Int))=((j+k:Nat):Int) by lia];have hjk:j+k < rows.length:=by lia
     have pJ:atI (#[RD].map V.int) ((j+k:Nat):Int)=some (.int (sms p x i (rows.getD (j+k) []))):=by
      refine z9 ?_;rw [aF,aF,bE,aJ hjk];rfl
     have Dr:atI ((zbZ p y rows.length).map V.int) (((j+k:Nat):Int) - (j:Int))=some (.int (y ^ (j+k - j) % p)):=by
      rw [show (((j+k:Nat):Int) - (j:Int))=((j+k - j:Nat):Int) by lia];refine z9 ?_;unfold zbZ;rw [aF,aF,cY #[O]];rfl
     have g0:=bA (y ^ (j+k - j)) (show p≠0 by lia);have g1:=aW (y ^ (j+k - j)) (show 0 < p by lia);have cs:=znk (t:=j+k) (j:=j) #[O] #[O];refine gY ?_;refine #[QKK,(ex4 SL _ _ _ ⟨rfl,rfl,oE.of h8S,pJ,#[QKK,⟨j+k,j,rfl,#[O],#[O],#[QR,⟨.inr #[u8],#[QKKKR,(ex4 l2 _ _ _ ⟨rfl,rfl,oE.of K1,Dr,#[Rp]⟩)]⟩]⟩]⟩)];refine⟨by rw [aA,aA,bJ]; lia,rfl,?_⟩;rw [cA,aN,aN];rfl
    ·rintro ys H9 D9 ⟨rfl,rfl⟩ hD9;refine⟨D9,#[UT]⟩;rw [zes];have vn:tot p x y rows i j (rows.length - j) % p=0:=by
      rw [(zqD.trans (hz i j #[O])).mod_eq,Int.zero_emod]
     unfold tot at vn;generalize (sm (rows.length - j) fun k=>sms p x i (rows.getD (j+k) [])*ch (j+k) j*(y ^ (j+k - j) % p))=T0 at vn |-;refine #[QKR,⟨#[O],?_⟩];refine#[S5];refine zaD (fun hc=>absurd hc (by simp [vn])) #[AC];exact #[QK,(s8.trans (zc hD9))]
   ·rintro σ H8 ⟨qN,rfl,s8⟩;exact (ex4 _ _ _ _ ⟨rfl,s7.trans s8⟩)
  ·rintro σ H3 ⟨e9,sO,vT,qN,rfl,s3⟩;exact q _ (Az.trans s3)
noncomputable def gpT (k s m:Nat):List Tm:=(aU m).flatMap fun j=>(aU (s - (k - 1)*j+1)).map fun i=>(i,j)
theorem ziN (k s m:Nat):gpT k s (m+1)=gpT k s m++(aU (s - (k - 1)*m+1)).map fun i=>(i,m):=by
 unfold gpT;rw [cA,dO];simp
theorem zhz (k s:Nat):∀ m,(gpT k s m).length<=(s+1)*m
 | 0=>by simp [gpT]
 | m+1=>by
  have ih:=zhz k s m;rw [ziN,aS,aA,bJ,fL];lia
noncomputable def OH (p:Int) (k s:Nat) (c:Co):List Int:=#[Sn].map fun t=>cv t c % p
noncomputable def pcI (q:Int×Int×Nat) (m:Nat):List Co:=(aU m).flatMap fun u=>(aU (q.2.2 - u)).map fun v=>⟨q.1,q.2.1,u,v⟩
theorem ziO (q:Int×Int×Nat) (m:Nat):pcI q (m+1)=pcI q m++(aU (q.2.2 - m)).map fun v=>⟨q.1,q.2.1,m,v⟩:=by
 unfold pcI;rw [cA,dO];simp
theorem znS {q:Int×Int×Nat}:cos (oJ++[q])=cos oJ++pco q:=by
 unfold cos;rw [dO];simp
noncomputable def nmb (p:Int) (x y:Int) (u v:Nat) (t:Tm):Int:=if u<=t.1/\v<=t.2 then ch t.1 u*ch t.2 v*(x ^ (t.1 - u) % p)*(y ^ (t.2 - v) % p) else 0
theorem zo6 (p x y:Int) (u v:Nat) (t:Tm):nmb p x y u v t % p=cv t ⟨x,y,u,v⟩ % p:=by
 unfold nmb cv cf;by_cases h:u<=t.1/\v<=t.2
 ·rw [if_pos h];refine Cg.mod_eq ?_;exact (((#[Fa].mul #[No]).mul #[No])).trans (Cg.of_eq (by grind))
 ·rw [if_neg h];by_cases h1:u<=t.1
  ·have h2:t.2 < v:=by lia
   rw [zbY h2];simp
  ·have h2:t.1 < u:=by lia
   rw [zbY h2];simp
noncomputable def zjC (K:aD):Sp:=fun vs H Q _=>∃ (p:Int) (k s:Nat) (wl:Addr) (cs:TF) (oJ:List (Int×Int×Nat)),vs = [.int p,.int (k:Int),.ref wl,.int (s:Int)]/\5<=p/\p<=97/\2<=k/\k<=100/\s<=200/\H wl=some #[Re]/\W3 H cs oJ/\ziE p oJ/\(∀ q∈oJ,q.2.2<=4)/\oJ.length<=1000 /\
 ∀ (z rl:Addr) (ls:TF) (H':Hp),H z=none->zr H H'->H' z=some (.tup [.ref rl,.int (#[Sn].length:Int)])->H' rl=some #[Ix]->LsA H' ls (ziw p k s oJ)->Q #[SE] H'
theorem zad:KE ["p","k","weighed","size","pairs","j","rows","a","b","weight","right","up","i","row","s","t","number"] ["p","k","weighed","size"] (zh zcw):=#[S]
theorem zjD (T:Txt K mg base t) (F:Fun K "_law_asked" "_law_asked" zcw t.NK fd):LG P w K mg base CX0 2 t.NK fd ["p","k","weighed","size"] (zjC K):=by
 obtain⟨u9,o7,pF⟩:=T.Mi;have pG:=zeI (P:=P) (w:=w) (base:=base) T o7;obtain⟨va,o8,pH⟩:=T.Mj;have pI:=zeJ (P:=P) (w:=w) (base:=base) T o8;refine F.ok zad #[pc] #[dl]
 ·obtain⟨p,k,sz,wl,cs,oJ,rfl,_⟩:=h;rfl
 ·obtain⟨p,k,sz,wl,cs,oJ,rfl,p5,vC,k2,yQ,hs,wX,vV,hg,Gu,hn,q⟩:=h;refine zaJ ?_; intro zX;refine⟨_,#[zd,#[zl,4,zad.nd,#[A],#[Q9]],#[zd,#[zao,bR,#[zO,T.Lw,#[QT]],#[zf,5,zad.nd,#[Q0]],#[zk,#[zbH,#[zcR,cO,ki,kj,#[zgn],#[QQ],#[ya,#[zU,(Lu.of (N':=["i","j"]) (ix:=[none,some 5]) (zh zcw) _ rfl rfl rfl),#[zar],#[zO,T.Lw,#[ya,#[zi,#[zz],#[zi,#[zaa],#[KB],#[zi,#[zH],#[zi,#[zaa],#[wP],#[zg]],#[Rj]]],#[zg]]]],#[pi],#[sK],(fun _ _ _ _=>#[zaZ,#[Pi]])]]]]]],#[zd,#[zl,6,zad.nd,#[A],#[Q9]],#[zd,#[zao,bR,#[zai,#[FB]],#[zaI,#[zj,#[zf,7,zad.nd,#[A]],#[zj,#[zf,8,zad.nd,#[A]],#[zj,#[zf,9,zad.nd,#[A]],#[zI]]]]],#[zd,#[zl,10,zad.nd,#[A],#[zq,pG,#[ut],T.Mf,o7.kp,pF,#[zZ],#[za,#[xL],#[za,#[TW],#[ya,#[Wa]]]]]],#[zd,#[zl,11,zad.nd,#[A],#[zq,pG,#[ut],T.Mf,o7.kp,pF,#[zZ],#[za,#[xL],#[za,#[Tv],#[QT]]]]],#[zk,#[zao,bR,#[zO,T.Lw,#[ya,#[UE]]],#[zf,12,zad.nd,#[A]],#[zk,#[zao,bR,#[zO,T.Lw,#[ya,#[zi,#[zaa],#[UE],#[pvx,12]]]],#[zf,5,zad.nd,#[Q0]],#[zd,#[zl,13,zad.nd,#[A],#[Q9]],#[zd,#[zao,bR,#[zai,#[QQ]],#[zaI,#[zj,#[zf,14,zad.nd,#[A]],#[zj,#[zf,15,zad.nd,#[A]],#[zI]]]],#[zd,#[zl,16,zad.nd,#[A],#[zg]],#[zd,(zje #[zaX,(@PW.pt _ _ _ #[zlV,#[zK,#[zgf],#[pvx,14],#[pvx,12],(zY _)],#[zjJ,#[zK,#[zgf],#[pvx,15],#[Rj],(zY _)]]]),#[zk,#[zl,16,zad.nd,#[A],#[zi,#[zH],#[zi,#[zH],#[zi,#[zH],#[zq,pI,#[ut],T.Mg,o8.kp,pH,#[zZ],#[za,#[pvx,14],#[ya,#[pvx,12]]]],#[zq,pI,#[ut],T.Mg,o8.kp,pH,#[zZ],#[za,#[pvx,15],#[Wq]]]],#[zM,#[zB],#[Xe],#[zi,#[zaa],#[pvx,14],#[pvx,12]]]],#[zM,#[zB],#[pvx,11],#[zi,#[zaa],#[pvx,15],#[Rj]]]]]],#[zal]]),#[zk,#[zbH,#[zcR,cO,d8,d9,#[zbz],#[pvx,13],#[ya,#[zi,#[zL],#[pvx,16],#[xL]]]]]]]]],#[zk,#[zbH,#[zcR,cO,d8,d9,#[zbz],#[Rt],#[ya,#[pvx,13]]]]]]]]]]]]]],#[zk,#[zA,#[zaZ,#[za,#[Rt],#[ya,#[zm,#[zt],T.MC,dn,#[Uk]]]]]]]]]]],?_⟩;refine zmb ?_; intro yG uf qv qk;have qu:=bN;have rP:=bS vV;have k1:0 < k - 1:=by lia
  have Ca:((k:Int) - 1)=((k - 1:Nat):Int):=by lia
  have eN:((sz:Int) / ((k:Int) - 1)+1)=((sz / (k - 1)+1:Nat):Int):=by
   rw [Ca];exact congrArg (· + 1) (hJ sz (k - 1)).symm
  have Bp:sz / (k - 1)<=sz:=gM _ _;obtain⟨AB,K2⟩:∃ n,sz / (k - 1)=n:=⟨_,rfl⟩;have hgl:∀ t∈gps k sz,t.1<=sz/\t.2<=AB:=fun t ht=>by
   unfold gps at ht;obtain⟨j,hj,ht⟩:=dX.mp ht;obtain⟨i,hi,rfl⟩:=aQ.mp ht;have:=bP.mp hj;have:=bP.mp hi;exact⟨by show i<=sz; lia,by show j<=AB; lia⟩
  have egp:gps k sz=gpT k sz (AB+1):=by unfold gps gpT; rw [K2]
  have gln:=zhz k sz (AB+1);have glm:(sz+1)*(AB+1)<=201*201:=gu #[O] #[O];refine⟨bX _,fun PL hPL=>?_⟩;refine #[QKKRR,#[TZ]];refine⟨(sz:Int) / ((k:Int) - 1)+1,rfl,by rw [eN]; exact cX #[D] (iE _),by rw [eN]; exact gJ (kh.mpr (show sz / (k - 1)+1<=301 from fS (cC Bp #[O]))) #[D],?_⟩;rw [eN,cB,K2];refine zah (lo:=0) (n:=AB+1) (fun j σ H'=>∃ (e5:Option V) (us:TF),σ = [some #[Ru],some (.int (k:Int)),some (.ref wl),some (.int (sz:Int)),some (.ref PL),e5,none,none,none,none,none,none,none,none,none,none,none]/\zr H H'/\H' PL=some #[R6]/\PtB H' us ((gpT k sz j).map tI)) ⟨none,[],rfl,zc hPL,zb,.nil⟩ ?_ ?_
  ·rintro zD zT j σ H1 hj ⟨e5,us,rfl,s1,h1,pk⟩;rw [show ((0:Int)+(j:Int))=(j:Int) from cI _];have tG:(k - 1)*j<=sz:=by
    have:=(dB k1).mp (show j<=sz / (k - 1) by lia);rw [eh]; exact this
   have eV:(sz:Int) - ((k:Int) - 1)*(j:Int)+1=((sz - (k - 1)*j+1:Nat):Int):=by
    rw [Ca,gi,jm tG,gN];rfl
   refine #[QK,⟨.inl ⟨rfl,_,oE.of h1⟩,#[Sx]⟩];refine⟨(sz:Int) - ((k:Int) - 1)*(j:Int)+1,rfl,by rw [eV]; lia,by rw [eV]; lia,?_⟩;rw [eV,cB];refine zW (n:=sz - (k - 1)*j+1) (fun i ys H'=>zr H1 H'/\∃ vs:List Addr,ys=vs.map V.ref/\PtB H' vs (((aU i).map fun i=>(i,j)).map tI)) ⟨fun _ _ e=>e,[],rfl,.nil⟩ #[On] #[GE] ?_ ?_
   ·rintro zS zT zE i x ys H2 H3 hi ⟨s2,vs,rfl,yh⟩ ⟨rfl,rfl⟩;rw [show ((0:Int)+(i:Int))=(i:Int) from cI _];have wy:vs.length=i:=by rw [bS yh,aA,aA,bJ]
    refine gY ?_;refine #[QKK,⟨by show 2<=sizeLine; lia,fun T hT=>⟨by rw [aA]; lia,s2.trans (zc hT),vs++[T],#[M],?_⟩⟩];rw [cA,aN,aN];exact dE (yh.same (zc hT)) zb
   ·rintro ys H2 D ⟨s2,vs,rfl,yh⟩ hD;have sD:=s2.trans #[SM];have wy:vs.length=sz - (k - 1)*j+1:=by rw [bS yh,aA,aA,bJ]
    have tL:us.length=(gpT k sz j).length:=by rw [bS pk,aA]
    have gl1:=zhz k sz j;have gl2:(sz+1)*j<=201*201:=gu #[O] #[O];have DP:D≠PL:=(zu (s2 _ _ h1) hD).symm;refine (ex4 PL D _ _ ⟨rfl,rfl,sD _ _ h1,zb,by rw [aA,aA]; lia,?_⟩);refine⟨_,us++vs,rfl,z7 (s1.trans sD) hPL,by rw [zb,aN],?_⟩;rw [ziN,aN];exact znG (zhs (pk.same sD) (sD _ _ h1)) (zhs (yh.same (zc hD)) (sD _ _ h1))
  rintro σ HA ⟨e5,us,rfl,sA,Gv,pk⟩;rw [<- egp] at pk;have tL:us.length=#[Vy].length:=by rw [bS pk,aA]
  rw [<- egp] at gln;refine⟨bX _,fun RL K3=>?_⟩;have Gw:=sA _ _ wX;refine #[QK,⟨wl,rfl,⟨_,oE.of ((zc K3) _ _ Gw)⟩,zbA (K:=K) (a:=wl) (xs:=cs.map V.ref) (fun n σ H'=>∃ (e5 e7 e8 e9 sO vT qN rN rF uA uB:Option V) (ls:TF),σ = [some #[Ru],some (.int (k:Int)),some (.ref wl),some (.int (sz:Int)),some (.ref PL),e5,some (.ref RL),e7,e8,e9,sO,vT,qN,rN,rF,uA,uB]/\zr HA H'/\H' RL=some #[Ix]/\LsA H' ls ((cos #[WP]).map #[WR])) (zq0 e5 none none none none none none none none none none ([]) ⟨rfl,zc K3,zb,.nil⟩) ?_ ?_ ?_⟩]
  ·rintro n σ H' _ ⟨_,_,_,_,_,_,_,_,_,_,_,_,_,s',_⟩;exact oE.of (s' _ _ Gw)
  ·rintro zD zT n xv σ H1 hx ⟨e5,e7,e8,e9,sO,vT,qN,rN,rF,uA,uB,ls,rfl,s1,hR,rO⟩;obtain⟨b,rfl,hb⟩:=z6 hx;obtain⟨⟨x,y,wt⟩,hq,Df⟩:=Paired.get vV hb;obtain⟨x0,x1,y0,y1,w1,_⟩:=hg _ (aO hq);have w4:wt<=4:=Gu _ (aO hq);refine⟨b,_,rfl,oQ.of ((sA.trans s1) _ _ Df),rfl,_,_,rfl,_,_,rfl,_,_,rfl,rfl,?_⟩;refine #[QKKKR,(ex3 p x (sz+1) ⟨rfl,p5,vC,x0,x1,#[O],#[O],fun r1 H2 Jj s2 h2=>?_⟩)];refine #[QKKKKRR,⟨#[u8],#[QR,⟨p,y,AB+1,?_,p5,vC,y0,y1,#[O],#[O],fun u1 H3 hu1 s3 h3=>?_⟩]⟩]
   ·show [V.int p,V.int y,V.int ((sz:Int) / ((k:Int) - 1)+1)]=_;rw [eN,K2]
   have Ge:=s1.trans #[UG];have Et:=s3 _ _ h2;have Fn:=#[UG] _ _ hR;have r1R:r1≠RL:=(zu hR Jj).symm;have u1R:u1≠RL:=(zu (s2 _ _ hR) hu1).symm;have ewt:((wt:Int)).toNat=wt:=by lia
   refine #[WV];rw [ewt];refine zah (lo:=0) (n:=wt) (fun i σ H'=>∃ (e5 qN rN rF uA uB:Option V) (ls:TF),σ = [some #[Ru],some (.int (k:Int)),some (.ref wl),some (.int (sz:Int)),some (.ref PL),e5,some (.ref RL),some #[Vv],some (.int y),some (.int (wt:Int)),some (.ref r1),some (.ref u1),qN,rN,rF,uA,uB]/\zr HA H'/\(H' r1=some (.lst ((zbZ p x (sz+1)).map V.int))/\H' u1=some (.lst ((zbZ p y (AB+1)).map V.int)))/\H' RL=some #[Ix]/\LsA H' ls ((cos #[WP]++pcI (x,y,wt) i).map #[WR])) (ex7 e5 qN rN rF uA uB ls ⟨rfl,Ge,⟨Et,h3⟩,Fn,?_⟩) ?_ ?_
   ·rw [show pcI (x,y,wt) 0 = [] from rfl,du];exact rO.same #[UG]
   ·rintro zD zT i σ H4 hi ⟨e5,qN,rN,rF,uA,uB,ls,rfl,s4,⟨Cc,h4u⟩,K4,Ds⟩;rw [show ((0:Int)+(i:Int))=(i:Int) from cI _];have ewi:((wt:Int) - (i:Int)).toNat=wt - i:=by lia
    refine #[QKKRK,#[Q4]];rw [ewi];refine zah (lo:=0) (n:=wt - i) (fun j σ H'=>∃ (e5 rN rF uA uB:Option V) (ls:TF),σ = [some #[Ru],some (.int (k:Int)),some (.ref wl),some (.int (sz:Int)),some (.ref PL),e5,some (.ref RL),some #[Vv],some (.int y),some (.int (wt:Int)),some (.ref r1),some (.ref u1),some (.int (i:Int)),rN,rF,uA,uB]/\zr HA H'/\(H' r1=some (.lst ((zbZ p x (sz+1)).map V.int))/\H' u1=some (.lst ((zbZ p y (AB+1)).map V.int)))/\H' RL=some #[Ix]/\LsA H' ls ((cos #[WP]++pcI (x,y,wt) i++(aU j).map fun v=>(⟨x,y,i,v⟩:Co)).map #[WR])) (ex6 e5 rN rF uA uB ls ⟨rfl,s4,⟨Cc,h4u⟩,K4,?_⟩) ?_ ?_
    ·rw [List.range_zero,f8,du];exact Ds
    ·rintro zD zT j σ H5 hj ⟨e5,rN,rF,uA,uB,ls,rfl,s5,⟨B8,h5u⟩,Gx,yX⟩;rw [show ((0:Int)+(j:Int))=(j:Int) from cI _];refine⟨bX _,fun RW HR=>?_⟩;have hP5:=s5 _ _ Gv;refine #[QK,⟨PL,rfl,⟨_,oE.of ((zc HR) _ _ hP5)⟩,zbA (K:=K) (a:=PL) (xs:=us.map V.ref) (fun a' σ H'=>∃ (rF uA uB:Option V),σ = [some #[Ru],some (.int (k:Int)),some (.ref wl),some (.int (sz:Int)),some (.ref PL),some (.int (j:Int)),some (.ref RL),some #[Vv],some (.int y),some (.int (wt:Int)),some (.ref r1),some (.ref u1),some (.int (i:Int)),some (.ref RW),rF,uA,uB]/\zr H5 H'/\H' RW=some (.lst (((#[Vy].take a').map fun t=>cv t ⟨x,y,i,j⟩ % p).map V.int))) (ex3 rF uA uB ⟨rfl,zc HR,zb⟩) ?_ ?_ ?_⟩]
     ·rintro a' σ H' _ ⟨_,_,_,_,s',_⟩;exact oE.of (s' _ _ hP5)
     ·rintro zD zT a' xv' σ H6 hxv ⟨rF,uA,uB,rfl,s6,Gy⟩;obtain⟨b',rfl,vq⟩:=z6 hxv;obtain⟨q',qL,hT⟩:=Paired.get pk vq;rw [aF] at qL;obtain⟨tt,Ek,rfl⟩:=et.mp qL;have tX:=hgl tt (aO Ek);have Ka:=#[Wu] _ _ hT;have Bk:=s6 _ _ B8;have h6u:=s6 _ _ h5u;refine⟨b',_,rfl,oQ.of Ka,rfl,_,_,rfl,_,_,rfl,rfl,?_⟩;refine⟨fun σ' H'=>H'=H6/\σ' = [some #[Ru],some (.int (k:Int)),some (.ref wl),some (.int (sz:Int)),some (.ref PL),some (.int (j:Int)),some (.ref RL),some #[Vv],some (.int y),some (.int (wt:Int)),some (.ref r1),some (.ref u1),some (.int (i:Int)),some (.ref RW),some (.int (tt.1:Int)),some (.int (tt.2:Int)),some (.int (nmb p x y i j tt))],?_,?_⟩
      ·refine #[QKKRK,?_];have hch1:=znk (t:=tt.1) (j:=i) #[O] #[O];have hch2:=znk (t:=tt.2) (j:=j) #[O] #[O];refine zaD (fun h1=>?_) (fun h1=>?_)
       ·have h1:(i:Int)<=(tt.1:Int):=of_decide_eq_true h1;refine #[QKKRK,?_];refine zaD (fun h2=>?_) (fun h2=>?_)
        ·have h2:(j:Int)<=(tt.2:Int):=of_decide_eq_true h2;have pJ:atI ((zbZ p x (sz+1)).map V.int) ((tt.1:Int) - (i:Int))=some (.int (x ^ (tt.1 - i) % p)):=by
          rw [show ((tt.1:Int) - (i:Int))=((tt.1 - i:Nat):Int) by lia];refine z9 ?_;unfold zbZ;rw [aF,aF,cY #[O]];rfl
         have Dr:atI ((zbZ p y (AB+1)).map V.int) ((tt.2:Int) - (j:Int))=some (.int (y ^ (tt.2 - j) % p)):=by
          rw [show ((tt.2:Int) - (j:Int))=((tt.2 - j:Nat):Int) by lia];refine z9 ?_;unfold zbZ;rw [aF,aF,cY #[O]];rfl
         have g10:=bA (x ^ (tt.1 - i)) (show p≠0 by lia);have g11:=aW (x ^ (tt.1 - i)) (show 0 < p by lia);have g20:=bA (y ^ (tt.2 - j)) (show p≠0 by lia);have g21:=aW (y ^ (tt.2 - j)) (show 0 < p by lia);refine #[QKK,⟨tt.1,i,rfl,#[O],#[O],#[QKK,⟨tt.2,j,rfl,#[O],#[O],#[Rp]⟩]⟩];refine #[QKKKR,(ex4 r1 _ _ _ ⟨rfl,rfl,oE.of Bk,pJ,#[Rp]⟩)];refine #[QKKKR,(ex4 u1 _ _ _ ⟨rfl,rfl,oE.of h6u,Dr,#[Rp]⟩)];refine#[QH];have en:nmb p x y i j tt=ch tt.1 i*ch tt.2 j*(x ^ (tt.1 - i) % p)*(y ^ (tt.2 - j) % p):=by unfold nmb; rw [if_pos #[u8]]
         rw [en];rfl
        ·have h2:¬ ((j:Int)<=(tt.2:Int)):=fun h=>h2 #[Rh]
         refine#[QH];have en:nmb p x y i j tt=0:=by unfold nmb; rw [if_neg #[O]]
         rw [en];rfl
       ·have h1:¬ ((i:Int)<=(tt.1:Int)):=fun h=>h1 #[Rh]
        refine zgR #[QH];have en:nmb p x y i j tt=0:=by unfold nmb; rw [if_neg #[O]]
        rw [en];rfl
      ·rintro σ' H' ⟨rfl,rfl⟩;have Gh:a' < #[Vy].length:=(aK.mp Ek).1;refine #[QK,⟨.inl ⟨rfl,_,oE.of Gy⟩,#[QKKR,⟨#[O],RW,#[QR,⟨Gy,by rw [aA,aA,bC]; lia,?_⟩]⟩]⟩];refine (ex3 _ _ _ ⟨rfl,z7 s6 HR,?_⟩);rw [zb];show some (HO.lst (_++[V.int (nmb p x y i j tt % p)]))=_;rw [zo6,take_snoc Ek,aN,aN];rfl
     ·rintro σ H6 ⟨rF,uA,uB,rfl,s6,Gy⟩;rw [aA,tL,bO (aG _)] at Gy;have h6R:=s6 _ _ Gx;have RWR:RW≠RL:=(zu Gx HR).symm;have B4:ls.length<=#[Sc].length+100:=by
       have e1:=bS yX;have e2:=znD (oJ:=oJ) n;rw [aA,aS,aS,aA,bJ] at e1;have e3:(pcI (x,y,wt) i).length<=wt*i:=by
        clear e1;have:∀ m,(pcI (x,y,wt) m).length<=wt*m:=by
         intro m;induction m with
         | zero=>simp [pcI]
         | succ m ih =>
          rw [ziO,aS,aA,bJ,fL];show _+(wt - m)<=_;lia
        exact this i
       have e4:wt*i<=4*4:=gu w4 #[O];lia
      have hcb:#[Sc].length<=10*1000:=by
       rw [zd2];have:∀ l:List (Int×Int×Nat),(∀ q∈l,q.2.2<=4)->zcu l<=10*l.length:=by
        intro l;induction l with
        | nil=>intro _; exact aG _
        | cons a l ih =>
         intro hl;have h1:=ih fun q hq=>hl q (aY _ hq)
         have h2:=hl a bF;have h3:tri a.2.2<=10:=by
          have:a.2.2=0\/a.2.2=1\/a.2.2=2\/a.2.2=3\/a.2.2=4:=by lia
          rcases this with e | e | e | e | e <;> rw [e] <;> decide
         unfold zcu at h1 |-;rw [bT,dZ,dN];lia
       have:=this oJ Gu;lia
      refine #[QK,⟨.inl ⟨rfl,_,oE.of h6R⟩,#[QK,(ex3 RL _ _ ⟨rfl,rfl,h6R,by rw [aA]; lia,?_⟩)]⟩];refine (ex6 _ _ _ _ _ (ls++[RW]) ⟨rfl,z7 #[Wu] K3,⟨by rw [zn r1R]; exact s6 _ _ B8,by rw [zn u1R]; exact s6 _ _ h5u⟩,by rw [zb,aN]; rfl,?_⟩);have el:(cos #[WP]++pcI (x,y,wt) i++(aU (j+1)).map fun v=>(⟨x,y,i,v⟩:Co)).map #[WR]=(cos #[WP]++pcI (x,y,wt) i++(aU j).map fun v=>(⟨x,y,i,v⟩:Co)).map #[WR]++[OH p k sz ⟨x,y,i,j⟩]:=by
       rw [cA,aN (f:=fun v=>(⟨x,y,i,v⟩:Co)),<- cE,aN];rfl
      rw [el];refine dE (znl (D:=RL) (fun hm=>?_) (fun c o hc e=>by rw [zn hc]; exact e) (yX.same s6)) (by rw [zn RWR]; exact Gy);obtain⟨j',qH⟩:=d7.mp hm;exact LsA.off yX Gx j' RL qH rfl
    ·rintro σ H5 ⟨e5,rN,rF,uA,uB,ls,rfl,s5,h5,Gx,yX⟩;refine (ex7 _ _ _ _ _ _ ls ⟨rfl,s5,h5,Gx,?_⟩);rw [ziO,<- cE];exact yX
   ·rintro σ H4 ⟨e5,qN,rN,rF,uA,uB,ls,rfl,s4,h4,K4,Ds⟩;refine (zq0 _ _ _ _ _ _ _ _ _ _ _ ls ⟨rfl,s4,K4,?_⟩);rw [take_snoc hq,znS];exact Ds
  ·rintro σ H' ⟨e5,e7,e8,e9,sO,vT,qN,rN,rF,uA,uB,ls,rfl,s',hR,rO⟩;rw [aA,rP,bO (aG _)] at rO;refine #[QKK,⟨PL,#[QK,⟨.inl (oE.of (s' _ _ Gv)),by show 2<=sizeLine; lia,fun z hz=>?_⟩]⟩];rw [aA,tL];have sf:=sA.trans s';have wz:=zc (o:=.tup [.ref RL,.int (#[Vy].length:Int)]) hz;exact q z RL ls _ (sf.free hz) (sf.trans wz) zb (wz _ _ hR) (rO.same wz)
theorem zo7 (k s:Nat):#[Sn].length=((aU (s / (k - 1)+1)).map fun j=>s - (k - 1)*j+1).sum:=by
 unfold gps;rw [l7];congr 1;exact fk fun j _=>by rw [aA,bJ]
noncomputable def zfS (K:aD):Sp:=fun vs H Q _=>∃ (p:Int) (k size:Nat) (wl:Addr) (cs:TF) (oJ:List (Int×Int×Nat)) (g:Tm->Int),vs = [.int p,.int (k:Int),.ref wl,.int ((size:Int) - 1)]/\p∈zw/\2<=k/\k<=100/\size<=200/\H wl=some #[Re]/\W3 H cs oJ/\ziE p oJ/\(∀ q∈oJ,q.2.2<=4)/\oJ.length<=1000/\#[Sc].length<=199/\Lst p k oJ size g/\∀ H',zr H H'->Q (.bl false) H'
theorem zc9:KE ["p","k","weighed","size","many"] ["p","k","weighed","size"] (zh zaT):=#[S]
theorem zfT (T:Txt K mg base t) (F:Fun K "_law_has_curve" "_law_has_curve" zaT t.LV fd):LG P w K mg base CX0 3 t.LV fd ["p","k","weighed","size"] (zfS K):=by
 obtain⟨Ey,vb,yY⟩:=T.NP;have yZ:=zlO (P:=P) (w:=w) (base:=base) T vb;obtain⟨Dt,tO,xw⟩:=T.M8;have xy:=zjD (P:=P) (w:=w) (base:=base) T tO;refine F.ok zc9 #[pc] #[dl]
 ·obtain⟨p,k,size,wl,cs,oJ,g,rfl,_⟩:=h;rfl
 ·obtain⟨p,k,size,wl,cs,oJ,g,rfl,hp,k2,yQ,hs,wX,vV,hg,Gu,hn,hL,LS,q⟩:=h;refine zaJ ?_; intro zX;refine⟨_,#[zd,#[zaX,#[zK,#[zdH],#[KB],#[zg],(zY _)],#[Q5],#[zal]],#[zd,#[zl,4,zc9.nd,#[A],#[zm,#[zbp],T.Ph,iX,#[ya,#[zU,(Lu.of (N':=["j","size","k"]) (ix:=[none,some 3,some 1]) (zh zaT) _ rfl rfl rfl),#[zar],#[zO,T.Lw,#[QT]],#[pi],#[sK],(fun _ _ _ _=>#[zi,#[zz],#[Rb],#[zg]])]]]],#[zd,#[zaX,#[zK,#[zge],#[QQ],#[zm,#[zbp],T.Ph,iX,#[ya,#[zU,(Lu.of (N':=["a","b","weight"]) (ix:=[none,none,none]) (zh zaT) _ rfl rfl rfl),#[Rx],#[zai,#[FB]],#[re],#[sK],#[Qy]]]],(zY _)],#[Q5],#[zal]],#[zk,#[zA,#[zgN,#[zdH],#[zq,yZ,#[ut],T.Pc,vb.kp,yY,#[zZ],#[za,#[xL],#[ya,#[zM,#[zdu],#[zq,xy,#[ut],T.OV,tO.kp,xw,#[zZ],#[za,#[xL],by exact #[za,#[wP],#[za,#[FB],#[Ul]]]]],#[zg]]]]],#[QQ],(zY _)]]]]]],?_⟩;refine zhK ?_; intro uf qv qk;have qu:=bN;have rp:=zC hp;have rP:=bS vV;refine #[Ur];cases size with
  | zero =>
   refine zaD (fun _=>q H fun _ _ e=>e) (fun h=>absurd (decide_eq_true #[O]) h)
  | succ sz =>
  refine zaD #[Rs] #[AC];have es:(((sz+1:Nat):Int) - 1)=(sz:Int):=by lia
  rw [es];have k1:0 < k - 1:=by lia
  have Ca:((k:Int) - 1)=((k - 1:Nat):Int):=by lia
  have eN:((sz:Int) / ((k:Int) - 1)+1)=((sz / (k - 1)+1:Nat):Int):=by
   rw [Ca];exact congrArg (· + 1) (hJ sz (k - 1)).symm
  have Bp:sz / (k - 1)<=sz:=gM _ _;refine #[QKKRR,#[TZ]];refine⟨(sz:Int) / ((k:Int) - 1)+1,rfl,by rw [eN]; exact cX #[D] (iE _),by rw [eN]; exact gJ (kh.mpr (show sz / (k - 1)+1<=301 from fS (cC Bp #[O]))) #[D],?_⟩;rw [eN,cB];refine zW (n:=sz / (k - 1)+1) (fun j ys H'=>H'=H/\ys=((aU j).map fun j=>((sz - (k - 1)*j+1:Nat):Int)).map V.int) ⟨rfl,rfl⟩ #[On] #[GE] ?_ ?_
  ·rintro zS zT zE j x ys H1 H2 hj ⟨rfl,rfl⟩ ⟨rfl,rfl⟩;rw [show ((0:Int)+(j:Int))=(j:Int) from cI _];have tG:(k - 1)*j<=sz:=by
    have:=(dB k1).mp (show j<=sz / (k - 1) by lia);rw [eh]; exact this
   have eV:(sz:Int) - ((k:Int) - 1)*(j:Int)+1=((sz - (k - 1)*j+1:Nat):Int):=by
    rw [Ca,gi,jm tG,gN];rfl
   refine gY ?_;refine #[Sx];refine⟨by rw [aA,aA,bJ]; lia,rfl,?_⟩;show _++[V.int ((sz:Int) - ((k:Int) - 1)*(j:Int)+1)]=_;rw [eV,cA,aN,aN];rfl
  rintro ys H1 D1 ⟨rfl,rfl⟩ hD1;refine⟨D1,#[UT]⟩;rw [zec,<- zo7];have s1:=zc (o:=.lst (((aU (sz / (k - 1)+1)).map fun j=>((sz - (k - 1)*j+1:Nat):Int)).map V.int)) hD1;generalize oG H1 D1 (.lst (((aU (sz / (k - 1)+1)).map fun j=>((sz - (k - 1)*j+1:Nat):Int)).map V.int))=H2 at s1 |-;refine #[QKK,⟨wl,rfl,⟨_,oE.of (s1 _ _ wX)⟩,zbB (fs:=(oJ.map fun q=>(tri q.2.2:Int)).map V.int) (oE.of (s1 _ _ wX)) (by rw [aA,aA,aA,rP]) (by rw [aA]; lia) #[S8] (fun D0 Em=>?_)⟩]
  ·obtain⟨b,rfl,hb⟩:=z6 hx;obtain⟨⟨px,py,pw⟩,hq,Df⟩:=Paired.get vV hb;have hw8:=Gu _ (aO hq);have Ky:pw<=4:=hw8;rw [aF,aF,hq] at hy;have hy:V.int (tri pw:Int)=y:=by simpa using hy
   subst hy;refine gY3 (oQ.of (s1 _ _ Df)) ?_;refine #[Wl];show R (.int ((pw:Int)*((pw:Int)+1) / 2)) _;rw [zfN];exact hR
  refine⟨D0,oJ.map fun q=>(tri q.2.2:Int),rfl,oE.of zb,?_⟩;rw [zec,show (oJ.map fun q=>tri q.2.2).sum=zcu oJ from rfl,<- zd2];have s2:=s1.trans (zc (o:=.lst ((oJ.map fun q=>(tri q.2.2:Int)).map V.int)) Em);generalize oG H2 D0 (.lst ((oJ.map fun q=>(tri q.2.2:Int)).map V.int))=H3 at s2 |-;have yp:=LS.few;rw [<- zoL k2] at yp;have sU:1<=#[Sc].length:=by
   have:=zdg k (sz+1);have:=LS.few;lia
  refine #[QRK,?_];refine zaD #[Rs] #[AC];refine #[QKKKKK,(ex6 p k sz wl cs oJ ⟨rfl,#[O],#[O],k2,yQ,#[O],s2 _ _ wX,vV.same s2,hg,Gu,hn,fun z rl ls H4 hz s4 h4z Cc rO=>?_⟩)];refine (ex4 z _ _ _ ⟨rfl,rfl,oQ.of h4z,rfl,p,rl,ls,ziw p k sz oJ,#[Vy].length,rfl,Cc,rO,fun e=>?_,?_,#[O],fun row qY=>?_,hp,fun pv H5 s5 R=>?_⟩)
  ·have:(ziw p k sz oJ).length=0:=by rw [e]; rfl
   unfold ziw at this;rw [aA] at this;lia
  ·unfold ziw;rw [aA];lia
  ·unfold ziw at qY;obtain⟨c,_,rfl⟩:=aQ.mp qY;rw [aA]
  ·have:=zoQ #[O] R fun v hv=>zng k2 LS hv
   refine #[QKR,?_];have e:decide ((pv.length:Int) < (#[Vy].length:Int))=false:=by rw [this]; simp
   show Q (.bl (decide ((pv.length:Int) < (#[Vy].length:Int)))) H5;rw [e];exact q _ ((s2.trans s4).trans s5)
end
theorem zrl {n:Nat} {f:Ps} (hk:1<=k) (hF:∀ t,t < n->Dg (F t) W) (hz:∀ t,n<=t->F t=fun _=>0):Dg (AL k f n F) (W+n*k):=by
 obtain⟨k1,rfl⟩:∃ k1,k=k1+1:=#[U5];have h:Dg (AL (k1+1) f n F) (W+k1*n - k1*0):=zed fun t=>by
  by_cases ht:t < n
  ·refine (hF t ht).le ?_;have:k1*t<=k1*n:=Nat.mul_le_mul_left _ #[O];lia
  ·rw [hz t #[O]];exact fun _ _=>rfl
 refine h.le ?_;rw [Nat.mul_zero,fL,eh k1 n];lia
section
variable {P:Program} {w:World} {K:aD} {mg:TJ} {base:Heap} {t:Adr}
noncomputable def zjE (K:aD):Sp:=fun vs H Q _=>∃ (p:Int) (a b:Addr) (as bs:TD),vs = [.int p,.ref a,.ref b]/\H a=some (.lst #[Th])/\H b=some (.lst #[Uc])/\1<=as.length/\as.length<=1000/\1<=bs.length/\bs.length<=1000/\5<=p/\p<=97/\(∀ c∈as,0<=c/\c < p) /\
 ∀ (l:Addr) (rs:TD) (H':Hp),H l=none->zr H H'->H' l=some #[UQ]->rs.length=as.length+bs.length - 1->(∀ c∈rs,0<=c/\c < p)->(∀ x,Cg p (gl rs x) (mq 0 as.length (gl as) (gl bs) x))->Q #[RB] H'
noncomputable def psm (as bs:TD) (j i x:Nat):Int:=(sm j fun t=>gl as t*Xp t (gl bs) x)+if j<=x/\x < j+i then gl as j*gl bs (x - j) else 0
theorem zo8 (as bs:TD) (j x:Nat):psm as bs j bs.length x=psm as bs (j+1) 0 x:=by
 unfold psm;rw [if_neg (show ¬ (j+1<=x/\x < j+1+0) by lia),eQ];show _=(sm j fun t=>gl as t*Xp t (gl bs) x)+gl as j*Xp j (gl bs) x;congr 1;rw [ziF];by_cases h1:x < j
 ·rw [if_neg #[O],if_pos h1,eP]
 ·rw [if_neg h1];by_cases h2:x < j+bs.length
  ·rw [if_pos ⟨#[O],h2⟩]
  ·rw [if_neg #[O],zb3 (w:=bs) (y:=x - j) #[O],eP]
theorem znT {rs:TD} {i x:Nat} {v:Int} (hi:i < rs.length):gl (rs.set i v) x=if x=i then v else gl rs x:=by
 unfold gl;rw [bE,bE];by_cases h:x=i
 ·subst h;rw [if_pos rfl,dJ hi];rfl
 ·rw [if_neg h,dI (fun e=>h e.symm)]
theorem zkB (h:j < as.length):atI #[Th] (j:Int)=some (.int (gl as j)):=z9 (by rw [aF,za1 h]; rfl)
theorem zcQ:KE ["p","one","other","found","j","i"] ["p","one","other"] (zh zdm):=#[S]
theorem zjF (T:Txt K mg base t) (F:Fun K "_law_times" "_law_times" zdm t.NH fd):LG P w K mg base CX0 1 t.NH fd ["p","one","other"] (zjE K):=by
 refine F.ok zcQ #[pc] #[dl]
 ·obtain⟨p,a,b,as,bs,rfl,_⟩:=h;rfl
 ·obtain⟨p,a,b,as,bs,rfl,ha,hb,a1,a2,b1,b2,p5,vC,har,q⟩:=h;refine zaJ ?_; intro zX;refine⟨_,#[zd,#[zl,3,zcQ.nd,#[A],#[zi,#[zfm],#[Qk],#[zi,#[zaa],#[zi,#[zz],#[GT],#[SS]],#[zg]]]],#[zd,#[zao,bR,#[zO,T.Lw,#[Wr]],#[zf,4,zcQ.nd,#[A]],#[zk,#[zao,bR,#[zO,T.Lw,#[ya,#[SS]]],#[zf,5,zcQ.nd,#[A]],#[zk,#[zaY,#[zi,#[zL],#[zi,#[zz],#[zM,#[zB],#[KB],#[zi,#[zz],#[QQ],#[Rj]]],#[zi,#[zH],#[zM,#[zB],#[wP],#[QQ]],#[zM,#[zB],#[FB],#[Rj]]]],#[xL]],#[zeg,#[KB],#[zi,#[zz],#[QQ],#[Rj]],set_list]]]]]],#[SA]]],?_⟩;refine zei ?_; intro qv qk;have qu:=bN;refine⟨by show 1<=sizeLine; lia,fun z hz=>?_⟩;have u0:=zc (o:=.lst [.int 0]) hz;have eN:((#[Th].length:Nat):Int)+((#[Uc].length:Nat):Int) - 1=((as.length+bs.length - 1:Nat):Int):=by rw [aA,aA]; lia
  have eT:(((as.length+bs.length - 1:Nat):Int)).toNat=as.length+bs.length - 1:=by lia
  refine #[QK,⟨a,#[QK,⟨.inl (oE.of (u0 _ _ ha)),#[QK,⟨b,#[QK,⟨.inl (oE.of (u0 _ _ hb)),#[QRR,?_]⟩]⟩]⟩]⟩];show zpU #[SE] (.int (((#[Th].length:Nat):Int)+((#[Uc].length:Nat):Int) - 1)) _ _;rw [eN];refine (ex3 z _ ([.int 0]) ⟨rfl,rfl,zb,#[O],#[O],by rw [eT]; show 1*_<=sizeLine; lia,fun fa Du=>?_⟩);rw [eT,gB];have y4:=u0.free Du;have u1:=u0.trans (zc (o:=.lst (aV (as.length+bs.length - 1) (V.int 0))) Du);have f1:oG (oG H z (.lst [.int 0])) fa (.lst (aV (as.length+bs.length - 1) (V.int 0))) fa=some (.lst ((aV (as.length+bs.length - 1) (0:Int)).map V.int)):=by rw [zb,jJ]
  generalize oG (oG H z (.lst [.int 0])) fa (.lst (aV (as.length+bs.length - 1) (V.int 0)))=H1 at u1 f1 |-;have Ar:∀ x,gl (aV (as.length+bs.length - 1) (0:Int)) x=0:=fun x=>by
   by_cases h:x < as.length+bs.length - 1
   ·exact zby (by rw [fO,if_pos h])
   ·exact zb3 (by rw [cU]; lia)
  refine #[QK,⟨a,#[QK,⟨.inl (oE.of (u1 _ _ ha)),#[QK,⟨by rw [aA]; lia,by rw [aA]; lia,?_⟩]⟩]⟩];rw [aA,cB];refine zah (lo:=0) (n:=as.length) (fun j σ H'=>∃ (rs:TD) (e4 e5:Option V),σ = [some #[Ru],some #[QD],some #[T7],some #[Up],e4,e5]/\zr H H'/\H' fa=some #[UQ]/\rs.length=as.length+bs.length - 1/\(∀ c∈rs,0<=c/\c < p)/\∀ x,Cg p (gl rs x) (psm as bs j 0 x))
   ⟨_,none,none,rfl,u1,f1,cU,fun c hc=>by rw [iA hc]; lia,fun x=>by rw [Ar]; unfold psm; rw [if_neg #[O]]; exact Cg.refl _ _⟩ ?_ ?_
  ·rintro zD zT j σ H2 hj ⟨rs,e4,e5,rfl,s2,h2,ug,xt,AD⟩;rw [show ((0:Int)+(j:Int))=(j:Int) from cI _];refine #[QK,⟨b,#[QK,⟨.inl (oE.of (s2 _ _ hb)),#[QK,⟨by rw [aA]; lia,by rw [aA]; lia,?_⟩]⟩]⟩];rw [aA,cB];refine zah (lo:=0) (n:=bs.length) (fun i σ H'=>∃ (rs:TD) (e5:Option V),σ = [some #[Ru],some #[QD],some #[T7],some #[Up],some (.int (j:Int)),e5]/\zr H H'/\H' fa=some #[UQ]/\rs.length=as.length+bs.length - 1/\(∀ c∈rs,0<=c/\c < p)/\∀ x,Cg p (gl rs x) (psm as bs j i x))
    ⟨rs,e5,rfl,s2,h2,ug,xt,AD⟩ ?_ ?_
   ·rintro zD zT i σ H3 hi ⟨rs,e5,rfl,s3,h3,ug,xt,AD⟩;rw [show ((0:Int)+(i:Int))=(i:Int) from cI _];have eji:(j:Int)+(i:Int)=((j+i:Nat):Int):=by lia
    have Be:j+i < rs.length:=by lia
    obtain⟨g0,g1⟩:=har _ (aO (za1 hj));refine #[QKKKR,(ex4 fa _ _ _ ⟨rfl,rfl,oE.of h3,(by rw [eji]; exact zkB Be),#[QKK,(ex4 a _ _ _ ⟨rfl,rfl,oE.of #[TN],zkB hj,#[QKK,(ex4 b _ _ _ ⟨rfl,rfl,oE.of (s3 _ _ hb),zkB hi,#[QR,⟨.inl #[u8],#[QRKR,⟨#[O],?_⟩]⟩]⟩)]⟩)]⟩)];refine #[QKKKR,(ex4 fa _ _ (j+i) ⟨rfl,rfl,h3,by rw [eji]; exact zdc (by rw [aA]; exact Be),?_⟩)];refine⟨rs.set (j+i) ((gl rs (j+i)+gl as j*gl bs i) % p),#[QK,⟨z7 s3 y4,by rw [zb,iD],by rw [eE]; exact ug,fun c hc=>?_,fun x=>?_⟩]⟩
    ·rcases gq hc with h | h
     ·exact xt c h
     ·rw [h];exact#[Rk]
    ·rw [znT Be];by_cases h:x=j+i
     ·subst h;rw [if_pos rfl];refine #[No].trans ?_;have h1:=AD (j+i);unfold psm at h1 |-;rw [if_neg #[O],eQ] at h1;rw [if_pos #[O],fe];exact h1.add #[Fa]
     ·rw [if_neg h];have h1:=AD x;unfold psm at h1 |-;by_cases h2:j<=x/\x < j+i
      ·rw [if_pos h2] at h1;rw [if_pos #[O]];exact h1
      ·rw [if_neg h2] at h1;rw [if_neg #[O]];exact h1
   ·rintro σ H3 ⟨rs,e5,rfl,s3,h3,ug,xt,AD⟩;exact (ex3 rs _ _ ⟨rfl,s3,h3,ug,xt,fun x=>by rw [<- zo8]; exact AD x⟩)
  ·rintro σ H2 ⟨rs,e4,e5,rfl,s2,h2,ug,xt,AD⟩;refine #[QK,(q fa rs H2 y4 s2 h2 ug xt fun x=>?_)];have h1:=AD x;unfold psm at h1;rw [if_neg #[O],eQ,<- zpy] at h1;exact h1
noncomputable def zjG (K:aD):Sp:=fun vs H Q _=>∃ (p:Int) (k:Nat) (ca qa:Addr) (bs:TF) (rows:List #[wE]) (f:TD),vs = [.int p,.ref ca,.ref qa]/\H ca=some (.tup #[QX])/\zb7 H bs rows/\1<=rows.length/\rows.length<=100/\(∀ r∈rows,1<=r.length/\r.length<=100/\∀ c∈r,0<=c/\c < p)/\H qa=some (.tup #[Wv])/\IsP p k f/\1<=k/\k<=5/\5<=p/\p<=97 /\
 ∀ (l:Addr) (fs:TD) (H':Hp),H l=none->zr H H'->H' l=some #[UR]->fs≠[]->(∀ c∈fs,0<=c/\c < p)->(∀ x,Cg p (gl fs x) (AL k (gl f) rows.length (fun j i=>gl (rows.getD j []) i) x))->Q #[RB] H'
theorem zkC (r:TD):Dg (gl r) r.length:=fun i hi=>zb3 hi
theorem zbo:KE ["p","curve","polynomial","found","power","line","i","number"] ["p","curve","polynomial"] (zh zcx):=#[S]
theorem zjH (T:Txt K mg base t) (F:Fun K "_law_along" "_law_along" zcx t.NL fd):LG P w K mg base CX0 2 t.NL fd ["p","curve","polynomial"] (zjG K):=by
 obtain⟨Dv,rn,tP⟩:=T.M6;have tQ:=zjF (P:=P) (w:=w) (base:=base) T rn;refine F.ok zbo #[pc] #[dl]
 ·obtain⟨p,k,ca,qa,bs,rows,f,rfl,_⟩:=h;rfl
 ·obtain⟨p,k,ca,qa,bs,rows,f,rfl,C9,hb,n1,hn,KZ,hqa,hf,k1,k5,p5,vC,q⟩:=h;refine zaJ ?_; intro zX;refine⟨_,#[zd,#[zl,3,zbo.nd,#[A],#[zi,#[zfm],#[Qk],#[zi,#[zz],#[zm,#[zbC],T.O5,g9,#[ya,#[zU,(Lu.of (N':=["line"]) (ix:=[none]) (zh zcx) _ rfl rfl rfl),#[zar],#[zgL,#[wP]],#[pi],#[sK],#[Xm]]]],#[zi,#[zH],#[GT],#[SS]]]]],#[zd,#[zl,4,zbo.nd,#[A],#[Qk]],#[zd,#[zao,bR,#[zgL,#[wP]],#[zf,5,zbo.nd,#[A]],#[zd,#[zao,bR,#[zhO,T.Mk,#[ya,#[zq,tQ,#[ut],T.Oa,rn.kp,tP,#[zZ],#[za,#[xL],#[za,#[zaR,#[zcD],T.Pf,mL,#[Wq]],#[Uk]]]]]],#[zaI,#[zj,#[zf,6,zbo.nd,#[A]],#[zj,#[zf,7,zbo.nd,#[A]],#[zI]]]],#[zk,#[zaY,#[zi,#[zL],#[zi,#[zz],#[zM,#[zB],#[KB],#[Rt]],#[TW]],#[xL]],#[zeg,#[KB],#[Rt],set_list]]]],#[zk,#[zl,4,zbo.nd,#[A],#[zq,tQ,#[ut],T.Oa,rn.kp,tP,#[zZ],#[za,#[xL],#[za,#[QQ],#[ya,#[zaR,#[zcD],T.Pf,mL,#[QF]]]]]]]]]],#[SA]]]],?_⟩;refine zhK ?_; intro uf qv qk;have qu:=bN;have uz:=hb.length;have ye:f.length=k:=hf.1;refine⟨by show 1<=sizeLine; lia,fun z hz=>?_⟩;have u0:=zc (o:=.lst [.int 0]) hz;have f0:oG H z (.lst [.int 0]) z=some (.lst [.int 0]):=zb;generalize oG H z (.lst [.int 0])=H0 at u0 f0 |-;have Gz:=u0 _ _ C9;have hb0:=hb.same u0;refine #[QK,⟨ca,rfl,⟨_,oQ.of Gz⟩,zgv (K:=K) (xs:=bs.map V.ref) (fs:=#[Vx].map V.int) (oQ.of Gz) (by unfold zaB; rw [aA,aA,aA]; lia) (by rw [aA]; lia) ?_ ?_⟩]
  ·intro j x y R B hx hy hR;obtain⟨b,rfl,hbj⟩:=z6 hx;obtain⟨r,ub,pJ⟩:=Paired.get hb0 hbj;have Cn:y = .int (r.length:Int):=by
    unfold zaB at hy;rw [aF,aF,ub] at hy;exact (bI hy).symm
   subst Cn;refine gY #[QK,⟨b,#[QK,⟨.inr (oQ.of pJ),?_⟩]⟩];rw [aA];exact hR
  intro D hD;have u1:=zc (o:=.lst (#[Vx].map V.int)) hD;have oZ:zaB rows≠[]:=fun e=>by
   have:=congrArg eX e;unfold zaB at this;rw [aA] at this;have:rows.length=0:=this;lia
  refine⟨D,zaB rows,rfl,oE.of zb,oZ,fun M Dw HS=>?_⟩;obtain⟨W,rfl,hW⟩:∃ W:Nat,M=(W:Int)/\∀ r∈rows,r.length<=W:=by
   obtain⟨r,ub,e⟩:=aQ.mp Dw;refine⟨r.length,e.symm,fun r2 h2=>?_⟩;have:=HS _ (aQ.mpr ⟨r2,h2,rfl⟩);lia
  have hW1:1<=W/\W<=100:=by
   obtain⟨r,ub,e⟩:=aQ.mp Dw;have:=KZ r ub;lia
  have vU:=u0.trans u1;generalize oG H0 D (.lst (#[Vx].map V.int))=H1 at u1 vU |-;have B7:rows.length*k<=500:=cC (gu hn k5) #[D];have eN:(W:Int)+((#[QX].length:Nat):Int)*((#[Wv].length:Nat):Int)=((W+rows.length*k:Nat):Int):=by rw [aA,aA,ye,uz]; push_cast; rfl
  have eT:(((W+rows.length*k:Nat):Int)).toNat=W+rows.length*k:=by lia
  refine #[QK,⟨ca,#[QK,⟨.inr (oQ.of (vU _ _ C9)),#[QK,⟨qa,#[QK,⟨.inr (oQ.of (vU _ _ hqa)),#[QR,⟨.inl ⟨by rw [aA]; lia,by rw [aA]; lia⟩,#[QR,?_]⟩]⟩]⟩]⟩]⟩];show zpU #[SE] (.int ((W:Int)+((#[QX].length:Nat):Int)*((#[Wv].length:Nat):Int))) _ _;rw [eN];refine (ex3 z _ ([.int 0]) ⟨rfl,rfl,u1 _ _ f0,#[O],#[O],by rw [eT]; show 1*_<=sizeLine; lia,fun fa Du=>?_⟩);rw [eT,gB];obtain⟨N,hN⟩:∃ N,W+rows.length*k=N:=⟨_,rfl⟩;rw [hN];have y4:=vU.free Du;have Az:=vU.trans (zc (o:=.lst (aV N (V.int 0))) Du);have f2:oG H1 fa (.lst (aV N (V.int 0))) fa=some (.lst ((aV N (0:Int)).map V.int)):=by rw [zb,jJ]
  generalize oG H1 fa (.lst (aV N (V.int 0)))=H2 at Az f2 |-;have Ar:∀ x,gl (aV N (0:Int)) x=0:=fun x=>by
   by_cases h:x < N
   ·exact zby (by rw [fO,if_pos h])
   ·exact zb3 (by rw [cU]; lia)
  refine⟨by show 1<=sizeLine; lia,fun pa HK=>?_⟩;have u3:=zc (o:=.lst [.int 1]) HK;have HU:pa≠fa:=fun e=>by rw [e,f2] at HK; cases HK
  refine⟨_,rfl,ca,rfl,⟨_,oQ.of ((Az.trans u3) _ _ C9)⟩,zhL (K:=K) (a:=ca) (xs:=bs.map V.ref) (fun t σ H'=>∃ (pa:Addr) (fs pw:TD) (e5 e6 e7:Option V),σ = [some #[Ru],some (.ref ca),some (.ref qa),some #[Up],some (.ref pa),e5,e6,e7]/\zr H H'/\H' fa=some #[UR]/\H' pa=some (.lst (pw.map V.int))/\pa≠fa/\(fs.length=N/\∀ c∈fs,0<=c/\c < p)/\(pw.length=1+t*(k - 1)/\∀ c∈pw,0<=c/\c < p)/\(∀ x,x < N->Cg p (gl fs x) (sm t fun u=>itq k (gl f) u (gl (rows.getD u [])) x))/\∀ x,Cg p (gl pw x) (itq k (gl f) t zee x))
   ⟨pa,_,[1],none,none,none,rfl,Az.trans u3,u3 _ _ f2,zb,HU,⟨cU,fun c hc=>by rw [iA hc]; lia⟩,⟨by rw [Nat.zero_mul]; rfl,fun c hc=>by rw [cW.mp hc]; lia⟩,fun x _=>by rw [Ar]; exact Cg.refl _ _,fun x=>by
    show Cg p (gl [1] x) (zee x);unfold zee;cases x with
    | zero=>exact Cg.refl _ _
    | succ x=>exact Cg.refl _ _⟩ (fun t σ H' _ ⟨_,_,_,_,_,_,_,s',_⟩=>oQ.of (s' _ _ C9)) ?_ ?_⟩
  ·rintro zD zT t x σ H4 hx ⟨pa,fs,pw,e5,e6,e7,rfl,s4,HV,Bo,HU,⟨Bx,uI⟩,⟨pN,FO⟩,K5,K6⟩;obtain⟨lb,rfl,hlb⟩:=z6 hx;obtain⟨r,ub,pJ⟩:=Paired.get hb hlb;obtain⟨r1,r100,xt⟩:=KZ r (aO ub);have hrW:=hW r (aO ub);have htn:=(aK.mp ub).1;have er:rows.getD t []=r:=by rw [bE,ub]; rfl
   have Ap:t*(k - 1)<=100*4:=gu #[O] #[O];have K7:(t+1)*(k - 1)<=rows.length*k:=gu #[O] #[O];rw [mv] at K7;refine #[QKK,⟨lb,#[QK,⟨.inr (oQ.of (s4 _ _ pJ)),fun x1 BV=>?_⟩]⟩];have w1:=zc (o:=.lst (r.map V.int)) BV;refine #[QK,(ex5 p x1 pa r pw ⟨rfl,zb,w1 _ _ Bo,#[O],#[O],#[O],#[O],p5,vC,xt,fun ra rs H5 CZ w2 B8 ug hrsr AD=>?_⟩)];have K8:=w1.trans w2;have hrf:ra≠fa:=fun e=>by
    have:=w1 _ _ HV;rw [<- e,CZ] at this;cases this
   have h5f:=K8 _ _ HV;have GA:∀ x,Cg p (gl rs x) (itq k (gl f) t (gl r) x):=fun x=>by
    refine (AD x).trans ((zpx K6 x).trans #[Wz]);rw [ziG,zfe (zkC r)]
   have s5:zr H (hide H5 fa):=fun a o e=>zbj ((s4.trans K8) _ _ e) (fun z=>by rw [z,y4] at e; cases e)
   have Dx:=zbj B8 hrf;have K':=zbj (K8 _ _ Bo) HU;have hhf:hide H5 fa fa=none:=by unfold hide; rw [if_pos rfl]
   refine⟨ra,_,rfl,oE.of B8,zdL (n:=rs.length) (fun i σ H'=>∃ (fs:TD) (e6 e7:Option V),σ = [some #[Ru],some (.ref ca),some (.ref qa),some #[Up],some (.ref pa),some (.ref lb),e6,e7]/\zr (hide H5 fa) H'/\H' fa=some #[UR]/\(fs.length=N/\∀ c∈fs,0<=c/\c < p)/\∀ x,x < N->Cg p (gl fs x) ((sm t fun u=>itq k (gl f) u (gl (rows.getD u [])) x)+if x < i then gl rs x else 0))
    ⟨fs,_,_,rfl,zc1 _ _,h5f,⟨Bx,uI⟩,fun x hx=>by rw [if_neg #[O],eQ]; exact K5 x hx⟩ ?_ ?_ ?_ ?_⟩
   ·rintro i σ H6 hi ⟨fs,e6,e7,rfl,s6,_⟩;exact⟨_,.int rs[i],oE.of (s6 _ _ Dx),by rw [aF,aJ hi]; rfl⟩
   ·rintro σ H6 ⟨fs,e6,e7,rfl,s6,_⟩;exact⟨_,oE.of (s6 _ _ Dx),by rw [aA]; exact aG _⟩
   ·rintro zD zT i x σ H6 H7 hi ⟨fs,e6,e7,rfl,s6,HW,⟨Dy,Dz⟩,DA⟩ ⟨T,v,hT,rfl,rfl,hv⟩;obtain⟨y,rfl,hy⟩:=zaE (hv _ (oE.of (s6 _ _ Dx)));have hyg:gl rs i=y:=zby hy;have uT:=zc (o:=.tup [.int (i:Int),.int y]) hT;refine#[RE];have s7:=s6.trans uT;have La:=uT _ _ HW;generalize oG H6 T (.tup [.int (i:Int),.int y])=H7 at uT s7 La |-;have Lb:i < fs.length:=by lia
    refine #[QKK,(ex4 fa _ _ _ ⟨rfl,rfl,oE.of La,zkB Lb,#[QKRKR,⟨#[O],?_⟩]⟩)];refine #[QKK,(ex4 fa _ _ i ⟨rfl,rfl,La,zdc (by rw [aA]; exact Lb),?_⟩)];refine (ex3 (fs.set i ((gl fs i+y) % p)) _ _ ⟨rfl,z7 s7 hhf,by rw [zb,iD],⟨by rw [eE]; exact Dy,fun c hc=>?_⟩,fun x hx=>?_⟩)
    ·rcases gq hc with h | h
     ·exact Dz c h
     ·rw [h];exact#[Rk]
    ·rw [znT Lb];have h1:=DA x hx;by_cases h:x=i
     ·subst h;rw [if_neg #[O],eQ] at h1;rw [if_pos rfl,if_pos #[O],hyg];exact #[No].trans (h1.add #[Fa])
     ·rw [if_neg h];by_cases h2:x < i
      ·rw [if_pos h2] at h1;rw [if_pos #[O]];exact h1
      ·rw [if_neg h2] at h1;rw [if_neg #[O]];exact h1
   ·rintro σ H6 ⟨fs,e6,e7,rfl,s6,HW,⟨Dy,Dz⟩,DA⟩;have Lc:=#[Wu] _ _ hqa;refine #[QKKK,⟨qa,#[QK,⟨.inr (oQ.of Lc),fun x2 yA=>?_⟩]⟩];have w3:=zc (o:=.lst #[Wv]) yA;refine (ex5 p pa x2 pw f ⟨rfl,w3 _ _ (s6 _ _ K'),zb,#[O],#[O],#[O],#[O],p5,vC,FO,fun pb rs2 H8 FX w4 h8 hl8 hr8 hc8=>?_⟩);have w34:=w3.trans w4;have Ld:pb≠fa:=fun e=>by
     have:=w3 _ _ HW;rw [<- e,FX] at this;cases this
    refine (ex6 pb fs rs2 _ _ _ ⟨rfl,s5.trans (s6.trans w34),w34 _ _ HW,h8,Ld,⟨Dy,Dz⟩,⟨by rw [hl8,pN,ye,mv]; lia,hr8⟩,fun x hx=>?_,fun x=>?_⟩)
    ·refine (DA x hx).trans ?_;show Cg p _ ((sm t fun u=>itq k (gl f) u (gl (rows.getD u [])) x)+itq k (gl f) t (gl (rows.getD t [])) x);refine #[Fa].add ?_;rw [er];by_cases h:x < rs.length
     ·rw [if_pos h];exact GA x
     ·rw [if_neg h];have:=GA x;rw [zb3 (w:=rs) (y:=x) #[O]] at this;exact this
    ·refine (hc8 x).trans ?_;have e1:mq 0 pw.length (gl pw) (gl f)=mq 0 k (gl f) (gl pw):=by
      have:=zo4 (zkC pw) (zkC f);rw [ye] at this;exact this
     rw [e1];exact zpx K6 x
  ·rintro σ H4 ⟨pa,fs,pw,e5,e6,e7,rfl,s4,HV,Bo,HU,⟨Bx,uI⟩,⟨pN,FO⟩,K5,K6⟩;refine #[QK,(q fa fs H4 y4 s4 HV (fun e=>by rw [e] at Bx; simp at Bx; lia) uI fun x=>?_)];by_cases hx:x < N
   ·rw [znP];have:=K5 x hx;rw [aA,uz] at this;exact this
   ·rw [zb3 #[O],zrl k1 (W:=W) (fun t ht=>?_) (fun t ht=>?_) x #[O]]
    ·exact Cg.refl _ _
    ·have hm:rows.getD t []∈rows:=by rw [bE,aJ ht]; exact ef ht
     exact (zkC _).le (hW _ hm)
    ·funext i;show gl (rows.getD t []) i=0;rw [bE,fA ht];rfl
theorem znU {s:Nat} {g:Tm->Int} {r:TD} (h:r∈za9 k s g):∃ j,j < s / (k - 1)+1/\r=(aU (s - (k - 1)*j+1)).map fun i=>g (i,j):=by
 unfold za9 at h;obtain⟨j,hj,rfl⟩:=aQ.mp h;exact⟨j,bP.mp hj,rfl⟩
theorem zo9 {p:Int} {s:Nat} {g:Tm->Int} (hg:∀ t,0<=g t/\g t < p):∀ r∈za9 k s g,1<=r.length/\r.length<=s+1/\∀ v∈r,0<=v/\v < p:=fun r hr=>by
 obtain⟨j,_,rfl⟩:=znU hr;rw [aA,bJ];refine⟨#[O],#[O],fun v hv=>?_⟩;obtain⟨i,_,rfl⟩:=aQ.mp hv;exact hg _
theorem zhA {s:Nat} {g:Tm->Int} (h:j < s / (k - 1)+1):#[QV].getD j []=(aU (s - (k - 1)*j+1)).map fun i=>g (i,j):=by
 rw [bE,ziy h];rfl
theorem zrm {s:Nat} (hk:2<=k) {t:Tm} (h:tz k t<=s):t.2 < s / (k - 1)+1/\t.1 < s - (k - 1)*t.2+1:=by
 unfold tz at h;have k1:0 < k - 1:=by lia
 have:t.2<=s / (k - 1):=(dB k1).mpr (by rw [eh]; lia);exact#[u8]
theorem zqE {s:Nat} (hk:2<=k) {g:Tm->Int} (h:q∈zdC #[QV] #[QV].length):∃ t:Tm,q=tI t/\tz k t<=s/\g t≠0:=by
 unfold zdC at h;obtain⟨j,hj,h⟩:=dX.mp h;have hj:=bP.mp hj;rw [zbP] at hj;rw [zhA hj,aA,bJ] at h;unfold trm at h
 (obtain⟨i,hi,rfl⟩:=aQ.mp h)
 obtain⟨hi,oZ⟩:=cK.mp hi;have hi:=bP.mp hi;rw [zjm hi] at oZ;have k1:0 < k - 1:=by lia
 have tG:(k - 1)*j<=s:=by
  have:=(dB k1).mp (show j<=s / (k - 1) by lia);rw [eh]; exact this
 exact⟨(i,j),rfl,by show i+(k - 1)*j<=s; lia,by simpa using oZ⟩
theorem zkD {s:Nat} (hk:2<=k) {g:Tm->Int} {t:Tm} (h:tz k t<=s) (oZ:g t≠0):tI t∈zdC #[QV] #[QV].length:=by
 obtain⟨h1,h2⟩:=zrm hk h;unfold zdC;refine dX.mpr ⟨t.2,bP.mpr (by rw [zbP]; exact h1),?_⟩;rw [zhA h1,aA,bJ];unfold trm;refine aQ.mpr ⟨t.1,cK.mpr ⟨bP.mpr h2,?_⟩,rfl⟩;rw [zjm h2];simpa using oZ
theorem zlQ {p:Int} {s:Nat} (hk:2<=k) {g:Tm->Int} (L:Lst p k oJ s g) {M:Int} (h1:M∈szs (k:Int) (zdC #[QV] #[QV].length)) (h2:∀ x∈szs (k:Int) (zdC #[QV] #[QV].length),x<=M):M=(s:Int):=by
 obtain⟨t,ht,oZ⟩:=L.top;have a1:=h2 _ (aQ.mpr ⟨tI t,zkD hk (show tz k t<=s by lia) oZ,rfl⟩);obtain⟨q,hq,rfl⟩:=aQ.mp h1;obtain⟨u,rfl,hu,_⟩:=zqE hk hq;have e1:((tI t).1+((k:Int) - 1)*(tI t).2)=(tz k t:Int):=zht hk t;have e2:((tI u).1+((k:Int) - 1)*(tI u).2)=(tz k u:Int):=zht hk u;show (tI u).1+((k:Int) - 1)*(tI u).2=_;rw [e2] at a1 |-;rw [e1] at a1;lia
theorem zlR {s:Nat} {g:Tm->Int} {x y:Int} {u v:Nat}:zlP #[QV] x y u v=lsum #[Sn] fun t=>g t*cv t ⟨x,y,u,v⟩:=by
 rw [zqt];unfold zlP;rw [zbP];refine zan fun j hj=>?_
 rw [zhA hj,aA,bJ];exact zan fun i hi=>by rw [zjm hi]
theorem zpa {p:Int} {s m:Nat} (hk:2<=k) {g:Tm->Int} (L:Lst p k oJ s g) {x y:Int} (hq:(x,y,m)∈oJ):∀ u v,u+v < m->Cg p (zlP #[QV] x y u v) 0:=fun u v h=>by
 rw [zlR,zkk hk];exact L.ok _ (zoS (x:=x) (y:=y) (w:=m) hq #[O] #[O])
end
end My
end
section
namespace My
open PySem PySem.Spec L2 PyProof.Rows
noncomputable def isAt (H:Hp) (q:TD) (u:Value):Bool:=@decide (∃ b,u = .ref b/\H b=some (.tup (q.map V.int))) (Classical.propDecidable _)
end My
end
section
namespace My
open PySem L2 PyProof.Rows
variable {H:Hp} {an od:Option Addr} {cP:Addr} {cd ct oc pm:Value} {fd:FuncData} {h:Heap} {mg:TJ} {pl:TD} {sl:Array #[Sr]} {us:TH} {w:World} {ys:List V}
section
variable {P:Program} {w:World} {K:aD} {mg:TJ} {base:Heap} {t:Adr}
theorem zlS {Q:VK} {a b:Addr} {xs:List V} (ha:oE K H a xs) (hb:oE K H b ys) (hl:xs.length=ys.length) (he:∀ (j:Nat) x y,xs[j]? = some x->ys[j]? = some y->EqD K H 8 x y true) (q:Q (.bl false) H):zp0 K true #[QD] #[T7] H Q:=by
 refine⟨a,b,_,_,rfl,rfl,.inl ⟨ha,hb⟩,.inr ⟨hl,fun _=>true,he,?_⟩⟩;have:#[VF].all (fun _=>true)=true:=by simp
 rw [this];exact q
theorem zpz {α β:Type} {F:α->β->Prop}:∀ {as:List α} {bs:List β} (n:Nat),Paired F as bs->Paired F (as.take n) (bs.take n)
 | _,_,0,h=>by simp only [gV]; exact .nil
 | _,_,n+1,.nil=>by simp only [lR]; exact .nil
 | _,_,n+1,.cons a h=>by simp only [List.take_succ_cons]; exact .cons a (zpz n h)
theorem Gss.take {p:Int} {ts:List Wt3} (h:Gss p pl ts) (n:Nat):Gss p pl (ts.take n):=⟨((gk n ts).map pt).nodup h.nd,fun q hq=>h.rg q (g7 hq)⟩
theorem znV (xs:List V):zb6 xs none (some (-1))=xs.take (xs.length - 1):=by
 unfold zb6;rw [HT.Mx,gA,fU];congr 1;unfold HT.sIx;simp
 try lia
theorem ziP {pl:TD}:∀ {ts:List Wt3},(∀ q∈ts,0<=q.2.2)->((zcu (#[xz].map wpN):Nat):Int)=(ts.map fun z=>z.2.2*(z.2.2+1) / 2).sum
 | [],_=>by simp [zcu]
 | q :: ts,h=>by
  have ih:=ziP (pl:=pl) (ts:=ts) fun x hx=>h x #[Wm]
  have h0:=h q bF;unfold zcu at ih |-
  (simp only [bT,dZ])
  rw [<- ih];have e:tri (wpN (wpp pl q)).2.2=tri q.2.2.toNat:=rfl;have e2:=zfN q.2.2.toNat;rw [show ((q.2.2.toNat:Nat):Int)=q.2.2 by lia] at e2;rw [e,e2];lia
theorem znW (n:Nat):(aV n #[WQ]).all zcV=true:=by
 rw [gW];intro x hx;rw [(mE.mp hx).2];rfl
theorem znX:∀ n:Nat,inV (V.bl false) (aV n #[WQ])=false
 | 0=>rfl
 | n+1=>by
  have ih:=znX n;rw [eC];unfold inV at ih |-;simpa [eqV] using ih
theorem zb7.hid {a:Addr} {ps:Array Value} (ha:H a=some (.tbl ps)) {rs:TF} {qs:List #[wE]} (h:zb7 H rs qs):zb7 (hide H a) rs qs:=eA (fun _ _ z=>zbj z fun e=>by rw [e,ha] at z; cases z) h
noncomputable def znY (t:Adr) (K:aD):Sp:=fun vs H Q _=>∃ (a:Addr) (ns:TD),vs = [.ref a]/\oE K H a #[Db]/\ns.length<=63/\TbA t H/\∀ H',Q (.bl true) H'
theorem zbU:KE ["script","code","p","k","places","guesses","handed","found","size","curve","weighed"] ["script"] (zh zcc):=#[S]
theorem zqF (T:Txt K mg base t) (F:Fun K "law" "law" zcc t.law fd):LG P w K mg base CX0 9 t.law fd ["script"] (znY t K):=by
 obtain⟨Ez,vc,y6⟩:=T.NQ;have y8:=zlA (P:=P) (w:=w) (base:=base) T vc;obtain⟨By,rJ,vd⟩:=T.Mp;have ve:=zhy (P:=P) (w:=w) (base:=base) T rJ;obtain⟨EA,vf,y9⟩:=T.NN;have Aa:=zlK (P:=P) (w:=w) (base:=base) T vf;obtain⟨DB,tR,xA⟩:=T.M4;have xB:=zjr (P:=P) (w:=w) (base:=base) T tR;obtain⟨EB,vg,Ab⟩:=T.NO;have Ac:=zlM (P:=P) (w:=w) (base:=base) T vg;obtain⟨Cd,sF,vY⟩:=T.MJ;have vZ:=ziM (P:=P) (w:=w) (base:=base) T sF;obtain⟨Ad,qA,tj⟩:=T.LY;have tq:=zfT (P:=P) (w:=w) (base:=base) T qA;obtain⟨DC,tS,xC⟩:=T.M9;have xD:=zjH (P:=P) (w:=w) (base:=base) T tS;obtain⟨DD,tT,xE⟩:=T.M7;have xF:=zjB (P:=P) (w:=w) (base:=base) T tT;refine F.ok zbU #[pc] #[dl]
 ·obtain⟨a,ns,rfl,_⟩:=h;rfl
 ·obtain⟨a,ns,rfl,hS,oO,wI,q⟩:=h;have hu:(A.deeper (envOfC (cN "law") (zh zcc) s.heap.objs.size t.law oU)).units+20 < cLine:=by have:=hr.units; lia
  refine zaJ ?_; intro zX;refine⟨_,#[zd,#[zl,1,zbU.nd,#[A],#[zq,y8,#[ut],T.Pd,vc.kp,y6,#[zZ],#[za,#[xL],by exact #[za,#[zg],#[Rf]]]]],#[zd,#[zaY,#[wP],#[zaI,#[zj,#[zf,2,zbU.nd,#[Q0]],#[zj,#[zf,3,zbU.nd,#[A]],#[zj,#[zf,4,zbU.nd,#[Q0]],#[zI]]]]]],#[zd,#[zl,5,zbU.nd,#[A],#[zq,ve,#[ut],T.Ot,rJ.kp,vd,#[zZ],#[za,#[xL],by exact #[zfo,#[za,#[wP],#[Rf]]]]]],#[zd,#[zdF,bR,#[zK,#[zge],#[zm,#[zbp],T.Ph,iX,#[ya,#[zU,(Lu.of (N':=["number","entry","weight"]) (ix:=[none,none,none]) (zh zcc) _ rfl rfl rfl),#[Rx],#[zai,#[Rj]],#[re],#[sK],#[Qy]]]],#[zg],(zY _)],#[zk,#[zl,5,zbU.nd,#[A],#[zbs,zbX,#[Rj],#[zb8],#[zbI,#[zjK,zgM,#[zg]]]]]]],#[zd,#[zl,6,zbU.nd,#[A],#[zaR,#[zcD],T.Pf,mL,#[Wq]]],#[zd,#[zl,7,zbU.nd,#[A],#[zq,Aa,#[ut],T.Pa,vf.kp,y9,#[zZ],#[za,#[wP],#[Uj]]]],#[zd,#[zaX,#[zK,#[zhH],#[KB],#[zg],(zY _)],#[zk,#[zA,#[zgN,#[zhH],#[TW],#[zfg],(zY _)]]],#[zal]],#[zd,#[zaX,(@PW.pt _ _ _ #[zhE,#[zgK,#[zgJ,#[zm,#[zcZ],T.Lv,dC,#[za,#[TW],#[ya,#[zeW,(.ty "tuple"),T.Nn,jl]]]]]],#[zhE,#[zK,#[zdG],#[zm,#[zt],T.MC,dn,#[ya,#[TW]]],#[zg],(zY _)],#[zhE,#[zK,#[zi0,hu],#[Rt],#[Rj],(zY _)],#[ziQ,#[zgK,#[zgJ,#[zq,xB,#[ut],T.OS,tR.kp,xA,#[zZ],#[ya,#[zM,#[zdu],#[TW],#[zg]]]]]]]]]]),#[Q5],#[zal]],#[zd,#[zaY,#[TW],#[zaI,#[zj,#[zf,8,zbU.nd,#[A]],#[zj,#[zf,9,zbU.nd,#[Q0]],#[zI]]]]],#[zd,#[zaX,#[zK,#[zdG],#[Tv],#[zq,Ac,#[ut],T.Pb,vg.kp,Ab,#[zZ],#[za,#[KB],#[ya,#[UE]]]],(zY _)],#[Q5],#[zal]],#[zd,#[zbm,10,zbU.nd,#[A],(Lu.of (N':=["number","entry","weight","places"]) (ix:=[none,none,none,some 4]) (zh zcc) _ rfl rfl rfl),#[Rx],#[zai,#[Rj]],#[re],#[sK],#[VP]],#[zd,#[zaX,#[zK,(@zi1 _ (K) rfl),#[zcT],#[zU,(Lu.of (N':=["x","y","weight","p","curve"]) (ix:=[none,none,none,some 2,some 9]) (zh zcc) _ rfl rfl rfl),#[Rx],#[zai,#[Xe]],#[re],#[sK],(fun _ _ _ _=>#[zq,vZ,#[ut],T.OI,sF.kp,vY,#[zZ],#[za,#[KB],by exact #[za,#[QQ],#[za,#[zaZ,#[Pi]],#[QF]]]]])],(by with_unfolding_all rfl)],#[Q5],#[zal]],#[zd,(zje #[zaX,(@PW.pt _ _ _ #[zlV,#[zK,#[zge],#[Tv],#[zg],(zY _)],#[zjJ,#[zgJ,#[zq,tq,#[ut],T.NC,qA.kp,tj,#[zZ],#[za,#[FB],by exact #[za,#[KB],#[za,#[Xe],#[ya,#[zi,#[zaa],#[Tv],#[zg]]]]]]]]]]),#[Q5],#[zal]]),#[zk,#[zA,#[zgN,(@zp1 _ hu),#[zU,(Lu.of (N':=["one","p","curve"]) (ix:=[none,some 2,some 9]) (zh zcc) _ rfl rfl rfl),#[zar],#[zai,#[zq,xF,#[ut],T.OU,tT.kp,xE,#[zZ],#[za,#[wP],#[za,#[Rj],#[ya,#[SJ]]]]]],#[pi],(fun _ _ _ _=>#[zb2,#[zK,#[zge],#[zm,(zjh (K:=K) rfl rfl),T.O5,g9,#[ya,#[zq,xD,#[ut],T.OW,tS.kp,xC,#[zZ],#[za,#[wP],#[za,#[FB],#[Ta]]]]]],#[zg],(zY _)]]),#[R7]],#[Q9],(zY _)]]]]]]]]]]]]]]]],?_⟩;refine zqZ ?_; intro zN14 zN13 zN12 zN11 zN10 zN9 zN8 Hl Ei yG uf qv qk;have qu:=bN;refine #[QK,(ex5 a ns 0 5 16 ⟨rfl,hS,oO,#[D],#[D],#[D],#[D],#[D],#[D],fun c tt p kI pl H1 Lf s1 co F' h1t=>?_⟩)];have rp:=zC co.pr;have k1:=co.k1;have kk:=co.kk;have kn:=co.kl;have ln:=co.ln;obtain⟨k,rfl⟩:∃ k:Nat,kI=k:=⟨kI.toNat,#[O]⟩;have Lf:zck H1 c tt p k pl:=⟨F',h1t⟩;refine⟨_,rfl,c,_,rfl,oQ.of F',rfl,_,_,rfl,_,_,rfl,_,_,rfl,rfl,?_⟩;refine #[QKK,(zrC a c tt ns 1 p 12 3 k pl ⟨rfl,s1.seq hS,oO,#[D],#[D],Lf,#[O],#[O],#[O],#[O],co.rg,#[O],#[O],#[D],#[D],#[D],#[D],fun g0 bs0 ts0 H2 hg0 s2 h2g ud Lg hw0 F9 _=>?_⟩)];have uV:=s1.trans s2;refine⟨fun μ σ H'=>∃ (g:Addr) (bs:TF) (ts:List Wt3),μ=bs.length/\σ = [some #[QD],some #[WF],some #[Ru],some (.int (k:Int)),some (.ref tt),some (.ref g),none,none,none,none,none]/\zr H2 H'/\H' g=some #[wr]/\T3 H' bs ts/\Gss p pl ts/\(∀ q∈ts,1<=q.2.2/\q.2.2<=3)/\ts.length<=12,(ex4 _ g0 bs0 ts0 ⟨rfl,rfl,fun _ _ e=>e,h2g,ud,Lg,hw0,#[O]⟩),?_⟩;rintro μ σ H3 ⟨g,bs,ts,rfl,rfl,s3,Lh,xm,AE,hw,hn⟩;have uz:bs.length=ts.length:=xm.length;refine #[QK,⟨g,rfl,⟨_,oE.of Lh⟩,zbB (fs:=(ts.map fun z=>z.2.2*(z.2.2+1) / 2).map V.int) (oE.of Lh) (by rw [aA,aA,aA]; lia) (by rw [aA]; lia) (fun j x y R B hx hy hR=>?_) fun D hD=>?_⟩]
  ·obtain⟨b,rfl,hb⟩:=z6 hx;obtain⟨z,hz,GX⟩:=Paired.get xm hb;rw [aF,aF,hz] at hy;have hy:V.int (z.2.2*(z.2.2+1) / 2)=y:=bI hy;subst hy;have:=hw z (aO hz);exact gY3 (oQ.of GX) #[QKKRR,⟨.inl #[u8],#[QR,⟨#[KK],hR⟩]⟩]
  have v3:=zc (o:=.lst ((ts.map fun z=>z.2.2*(z.2.2+1) / 2).map V.int)) hD;refine⟨D,_,rfl,oE.of zb,_,_,rfl,rfl,_,rfl,?_⟩;generalize oG H3 D (.lst ((ts.map fun z=>z.2.2*(z.2.2+1) / 2).map V.int))=H4 at v3 |-;have Li:=v3 _ _ Lh;have F8:=xm.same v3;have s24:=s3.trans v3;refine zaD (fun BR=>?_) (fun hle=>?_)
  ·have BR:=of_decide_eq_true BR;have oZ:0 < bs.length:=by
    rcases Nat.eq_zero_or_pos bs.length with h | h
    ·rw [uz] at h;rw [kA.mp h] at BR;simp at BR
    ·exact h
   refine⟨fun σ' H'=>∃ m',m' < bs.length/\∃ (g:Addr) (bs:TF) (ts:List Wt3),m'=bs.length/\σ' = [some #[QD],some #[WF],some #[Ru],some (.int (k:Int)),some (.ref tt),some (.ref g),none,none,none,none,none]/\zr H2 H'/\H' g=some #[wr]/\T3 H' bs ts/\Gss p pl ts/\(∀ q∈ts,1<=q.2.2/\q.2.2<=3)/\ts.length<=12,fun _ _ z=>z,?_⟩;refine #[QKKK,⟨g,#[QK,⟨oE.of Li,fun l2 qc=>?_⟩]⟩];rw [znV,aA,<- gE];have v5:=zc (o:=.lst ((bs.take (bs.length - 1)).map V.ref)) qc;exact⟨_,by rw [bC]; lia,l2,bs.take (bs.length - 1),ts.take (bs.length - 1),rfl,rfl,s24.trans v5,zb,zpz _ (F8.same v5),AE.take _,fun q hq=>hw q (g7 hq),by rw [bC]; lia⟩
  have hle:(ts.map fun z=>z.2.2*(z.2.2+1) / 2).sum<=60:=by
   have:¬ (60:Int) < (ts.map fun z=>z.2.2*(z.2.2+1) / 2).sum:=fun h=>hle #[Rh]
   lia
  have hask:=ziP (pl:=pl) (ts:=ts) fun q hq=>by have:=hw q hq; lia
  have hco:(cos (#[xz].map wpN)).length<=60:=by rw [zd2]; lia
  refine #[QK,⟨g,#[QK,⟨.inl (oE.of Li),fun uw Jf=>?_⟩]⟩];have v5:=zc (o:=.lst #[QX]) Jf;have Lj:oG H4 uw #[wr] uw=some #[wr]:=zb;generalize oG H4 uw #[wr]=H5 at v5 Lj |-;have Lk:=s24.trans v5;have Gi:=Lf.same (s2.trans Lk);have hT5:=F8.same v5;have h5g:=v5 _ _ Li;have tb5:=wI.same (uV.trans Lk);refine #[QKK,(ex8 c tt uw p k pl bs ts ⟨rfl,Gi,Lj,hT5,AE,fun q hq=>by have:=hw q hq; lia,co.pr,co.rg,#[O],#[O],#[O],#[O],fun v H6 s6 hv=>?_⟩)];refine #[QK,⟨rfl,#[QK,(zaD (fun BW=>?_) (fun BW=>?_))]⟩]
  ·rcases hv with ⟨_,rfl⟩ | ⟨h2,_⟩
   ·exact #[QK,⟨rfl,q _⟩]
   ·have:=of_decide_eq_true BW;injection this with this
    lia
  rcases hv with ⟨h2,_⟩ | ⟨sN,z,r',ls,size,gg,rfl,hzn,HX,Bk,h6T,LS,hsz⟩
  ·exact absurd (decide_eq_true (by rw [show (k:Int)=1 by lia])) BW
  have s26:=Lk.trans s6;have hsz60:size<=60:=by
   have a1:=LS.few;have a2:=zdg k size;lia
  have h6n:=s6 _ _ Lj;have h6g:=s6 _ _ h5g;refine #[QK,(ex4 _ _ _ _ ⟨rfl,.tup HX,rfl,#[WX]⟩)];refine #[QK,⟨z,#[QK,⟨.inr (oQ.of HX),rfl,#[WX]⟩]⟩];refine #[QKK,(zlS (oE.of h6n) (oE.of h6g) rfl (fun j x y x1 x2=>?_) #[WX])]
  ·rw [x1] at x2;cases x2;obtain⟨b,rfl,_⟩:=z6 x1;exact .same
  refine #[QK,(ex4 z _ _ _ ⟨rfl,rfl,oQ.of HX,rfl,(size:Int),rfl,#[WX]⟩)];refine⟨_,rfl,z,_,rfl,oQ.of HX,rfl,_,_,rfl,_,_,rfl,rfl,?_⟩;have rg:=zo9 (k:=k) (s:=size) LS.rg;have Bp:size / (k - 1)<=size:=gM _ _;have cln:(za9 k size gg).length<=61:=by rw [zbP]; lia
  have cl1:1<=(za9 k size gg).length:=by rw [zbP]; exact nS _ _
  refine #[QKKK,(ex4 (k:Int) r' ls (za9 k size gg) ⟨rfl,#[O],#[O],Bk,h6T,#[O],fun r hr=>by have:=(rg r hr).2.1; lia,?_,fun M H7 s7 Dw HS=>?_⟩)]
  ·obtain⟨t',HH,Ll⟩:=LS.top;exact fun e=>by have:=zkD sN (show tz k t'<=size by lia) Ll; rw [e] at this; cases this
  have eM:=zlQ sN LS Dw HS;subst eM;refine⟨rfl,#[QK,(zaD (fun hc=>absurd hc #[M]) #[AC])]⟩;have GB:=s7 _ _ h6g;have hT7:=hT5.same (s6.trans s7);have hc7:=Gi.same (s6.trans s7);have yV:=s7 _ _ Bk;have h7T:=h6T.same s7;have tb7:=tb5.same (s6.trans s7);have tY:∀ q∈ts,0<=q.1/\q.1 < pl.length:=fun z hz=>⟨(AE.rg z hz).1,(AE.rg z hz).2.1⟩
  refine #[QK,⟨g,rfl,⟨_,oE.of GB⟩,zW (n:=bs.length) (fun i ys H'=>(∃ ds:List Addr,ys=ds.map V.ref/\T3 H' ds (#[Vj].map (wpp pl)))/\zr H7 H') ⟨⟨[],rfl,.nil⟩,fun _ _ e=>e⟩ ?_ ?_ ?_ ?_⟩]
  ·rintro i ys H' hi ⟨_,s'⟩;exact⟨_,.ref bs[i],oE.of (s' _ _ GB),by rw [aF,aJ hi]; rfl⟩
  ·rintro ys H' ⟨_,s'⟩;exact⟨_,oE.of (s' _ _ GB),by rw [aA]; exact aG _⟩
  ·rintro zS zT zE i xx ys H' H'' hi ⟨⟨ds,rfl,sj⟩,s'⟩ ⟨rfl,yJ⟩;obtain⟨b,rfl,xk⟩:=z6 (yJ _ (oE.of (s' _ _ GB)));obtain⟨z',wC,hb⟩:=Paired.get hT7 xk;obtain⟨z0,z1⟩:=tY z' (aO wC);have wJ:=sj.length;rw [aA,bC] at wJ;refine gY3 (oQ.of (s' _ _ hb)) #[QKK,(ex4 tt _ _ _ ⟨rfl,rfl,oQ.of (s' _ _ hc7.2),znv z0 z1,#[QKK,⟨by show 3<=sizeLine; lia,fun T2 ud=>⟨by rw [aA]; lia,⟨ds++[T2],by rw [aN]; rfl,?_⟩,s'.trans (zc ud)⟩⟩]⟩)];rw [take_snoc wC,aN];exact dE (sj.same (zc ud)) zb
  rintro ys H8 WL ⟨⟨ds,rfl,sj⟩,s8⟩ hWL;rw [uz,dW] at sj;have s8:=s8.trans #[WA];have EC:oG H8 WL #[QJ] WL=some #[QJ]:=zb;have sj:=sj.same #[WA];generalize oG H8 WL #[QJ]=H8 at s8 EC sj |-;have wJ:ds.length=#[xz].length:=sj.length;rw [aA] at wJ;have Ew:=s8 _ _ yV;have h8T:=h7T.same s8;refine #[QK,⟨WL,rfl,⟨_,oE.of EC⟩,zW (n:=ds.length) (fun i ys H'=>ys=aV i #[WQ]/\zr H8 H') #[Q7] ?_ ?_ ?_ ?_⟩]
  ·rintro i ys H' hi ⟨_,s'⟩;exact⟨_,.ref ds[i],oE.of (s' _ _ EC),by rw [aF,aJ hi]; rfl⟩
  ·rintro ys H' ⟨_,s'⟩;exact⟨_,oE.of (s' _ _ EC),by rw [aA]; exact aG _⟩
  ·rintro zS zT zE i xx ys H' H'' hi ⟨rfl,s'⟩ ⟨rfl,yJ⟩;obtain⟨b,rfl,xk⟩:=z6 (yJ _ (oE.of (s' _ _ EC)));obtain⟨z',wC,hb⟩:=Paired.get sj xk;have Lm:=aO wC;obtain⟨y0,hy0,rfl⟩:=aQ.mp Lm;obtain⟨w0,w1⟩:=zjs tY co.rg #[WN] Lm;obtain⟨_,_,v0,v1,_⟩:=AE.rg y0 hy0;obtain⟨m1,m3⟩:=hw y0 hy0;refine gY3 (oQ.of (s' _ _ hb)) #[QKKKK,⟨by show 2<=sizeLine; lia,fun PT hPT=>#[Vu]⟩];have sP:=s'.trans (zc (o:=.tup [.int #[WN].1,.int #[WN].2.1]) hPT);refine⟨p,r',PT,#[WN].1,#[WN].2.1,y0.2.2.toNat,ls,za9 k size gg,?_,#[O],#[O],w0,w1,v0,v1,#[O],sP _ _ Ew,h8T.same sP,zb,cl1,#[O],fun r hr=>by obtain⟨g1,g2,g3⟩:=rg r hr; exact⟨g1,#[O],g3⟩,zpa sN LS (aQ.mpr ⟨_,Lm,rfl⟩),fun H9 s9=>⟨by rw [cU]; lia,?_,sP.trans s9⟩⟩
   ·show [V.int p,.ref r',.ref PT,.int y0.2.2]=_;rw [show ((y0.2.2.toNat:Nat):Int)=y0.2.2 by lia]
   ·rw [List.replicate_succ']
  rintro ys H9 TL ⟨rfl,s9⟩ HF;have s9:=s9.trans (zc (o:=.lst (aV ds.length #[WQ])) HF);refine⟨TL,#[QK,⟨.inl (oE.of zb),rfl,?_,#[Vu]⟩]⟩
  ·exact znW _
  generalize oG H9 TL (.lst (aV ds.length #[WQ]))=H9 at s9 |-;refine zaD (fun h=>absurd h (by rw [if_neg #[D],znX]; decide)) #[AC];have s79:=s8.trans s9;have h0w:∀ z∈ts,0<=z.2.2:=fun z hz=>(AE.rg z hz).2.2.2.2
  refine⟨fun σ H'=>σ = [some #[QD],some #[WF],some #[Ru],some (.int (k:Int)),some (.ref tt),some (.ref g),some (.ref uw),some #[SE],some (.int (size:Int)),some (.ref r'),some (.ref WL)]/\zr H9 H',?_,?_⟩
  ·refine #[QKRK,(zaD #[AC] (fun _=>zaD (fun hh=>absurd hh #[M]) fun _=>#[Q7]))];refine #[QKKKKR,(ex7 p k size WL ds (#[xz].map wpN) gg ⟨rfl,co.pr,sN,#[O],hsz,s9 _ _ EC,znQ (sj.same s9) h0w,fun q' qL=>?_,fun q' qL=>?_,by rw [aA,aA]; lia,#[O],LS,fun C4 Ep=>#[QK,(zgR ⟨rfl,Ep⟩)]⟩)]
   ·obtain⟨a',BK,rfl⟩:=aQ.mp qL;obtain⟨b',vq,rfl⟩:=aQ.mp BK;obtain⟨w0,w1⟩:=zjs tY co.rg (wpp pl b') BK;obtain⟨_,_,y0,y1,_⟩:=AE.rg b' vq;obtain⟨v1,v3⟩:=hw b' vq;exact⟨w0,w1,y0,y1,by show 1<=b'.2.2.toNat; lia,by show b'.2.2.toNat<=9; lia⟩
   ·obtain⟨a',BK,rfl⟩:=aQ.mp qL;obtain⟨b',vq,rfl⟩:=aQ.mp BK;obtain⟨v1,v3⟩:=hw b' vq;show b'.2.2.toNat<=4;lia
  rintro σ' C4 ⟨rfl,Ep⟩;have ED:=s79.trans Ep;have tbX:=tb7.same ED;have hX:=ED _ _ yV;have hXT:=h7T.same ED;obtain⟨psX,hPX⟩:=tbX.at_;have hrY:hide C4 t.tab r'=some #[SZ]:=zbj hX (fun e=>by rw [e,hPX] at hX; cases hX);have hTY:=hXT.hid hPX;have B7:ts.length ^ k<=1000000:=cC (Nat.pow_le_pow_left (show ts.length<=12 by lia) k) (cC (lK #[D] (show k<=5 by lia)) #[D]);refine #[QKKKR,(ex9 c tt g p ((size:Int)+1) k pl bs ts ⟨rfl,hc7.same ED,ED _ _ GB,hT7.same ED,AE,co.pr,co.nd,co.rg,#[O],#[O],#[O],B7,tbX,fun l rs qs FZ yf tb11 Bz GC hqz hqm=>?_⟩)];have ug:rs.length=qs.length:=GC.length;have Ln:=yf _ _ hrY;have Lo:=hTY.same yf;refine⟨l,rfl,⟨_,oE.of Bz⟩,zW (n:=rs.length) (fun i ys H'=>ys = []/\zr FZ H') #[Q7] ?_ ?_ ?_ ?_⟩
  ·rintro i ys H' hi ⟨_,s'⟩;exact⟨_,.ref rs[i],oE.of (s' _ _ Bz),by rw [aF,aJ hi]; rfl⟩
  ·rintro ys H' ⟨_,s'⟩;exact⟨_,oE.of (s' _ _ Bz),by rw [aA]; exact aG _⟩
  ·rintro zS zT zE i xx ys H' H'' hi ⟨rfl,s'⟩ ⟨rfl,yJ⟩;obtain⟨rb,rfl,Bq⟩:=z6 (yJ _ (oE.of (s' _ _ Bz)));obtain⟨qq,C5,pJ⟩:=Paired.get GC Bq;obtain⟨Hd,BR⟩:=hqm qq (aO C5);obtain⟨d,rfl⟩:∃ d,k=d+1:=#[U5];have hW:=znx co.nd co.rg AE.nd AE.rg;have hZ:=zjy co.pr (d:=d) (s:=size) #[O] hW (fun z hz=>⟨#[VA].1,#[VA].2.1⟩) (fun z hz=>#[VA].2.2.2.2) LS Hd #[O];refine #[QKKK,(ex7 p (d+1) r' rb ls (za9 (d+1) size gg) qq ⟨rfl,s' _ _ Ln,Lo.same s',cl1,#[O],fun r hr=>by obtain⟨g1,g2,g3⟩:=rg r hr; exact⟨g1,#[O],g3⟩,s' _ _ pJ,Hd,#[O],#[O],#[O],#[O],fun fl fs H12 _ uV JA oZ uI hAL=>⟨fl,fs,rfl,oE.of JA,oZ,fun M Dw HS=>#[QRK,?_]⟩⟩)];have hM:M=0:=by
    obtain⟨j,hj⟩:=eg Dw;have h1:=hAL j;rw [zby hj,zbP] at h1;obtain⟨m0,m1⟩:=uI M Dw;exact Cg.eq (h1.trans (hZ j)) m0 m1 (dv 0) #[O]
   subst hM;exact zgR ⟨rfl,s'.trans uV⟩
  rintro ys H12 D' ⟨rfl,uV⟩ hD';refine⟨by show 0<=sizeLine; lia,fun EL hEL=>(ex4 D' EL ([]) ([]) ⟨rfl,rfl,.inl ⟨oE.of (zc hEL _ _ zb),oE.of zb⟩,.inr ⟨rfl,fun _=>true,fun j x y h=>by simp at h,q _⟩⟩)⟩
end
structure Dn (K:aD) (x:Str) (st:Stmt) (f:Addr) (fd:FuncData):Prop where
 a:bW K mainGlobals x=some (some #[Ts])
 f:Fun K x x st f fd
theorem znZ {K:aD} {x:Str} {st:Stmt} {f:Addr} {kV dc:Value} (a:bW K mainGlobals x=some (some #[Ts])) (l:K.lookup f=some ⟨oc,od,.func #[SN],sl⟩) (c:gQ K cd x=true) (k:gr K #[Ts]=true):Dn K x st f #[SN]:=⟨a,zma l c k⟩
theorem el0 {n:Nat} (e:us.length=n+1):∃ a v,us=a :: v/\v.length=n:=by
 cases us with
 | nil=>cases e
 | cons a v=>exact⟨a,v,rfl,Nat.succ.inj e⟩
theorem el1 (e:us.length=1):∃ a,us = [a]:=by
 obtain⟨a,v,rfl,h⟩:=el0 e;exact⟨a,by rw [List.eq_nil_of_length_eq_zero h]⟩
theorem el2 (e:us.length=2):∃ a b,us = [a,b]:=by
 obtain⟨a,v,rfl,h⟩:=el0 e;obtain⟨b,rfl⟩:=el1 h;exact⟨a,b,rfl⟩
theorem el3 (e:us.length=3):∃ a b c,us = [a,b,c]:=by
 obtain⟨a,v,rfl,h⟩:=el0 e;obtain⟨b,c,rfl⟩:=el2 h;exact⟨a,b,c,rfl⟩
theorem el4 (e:us.length=4):∃ a b c d,us = [a,b,c,d]:=by
 obtain⟨a,v,rfl,h⟩:=el0 e;obtain⟨b,c,d,rfl⟩:=el3 h;exact⟨a,b,c,d,rfl⟩
theorem el5 (e:us.length=5):∃ a b c d i,us = [a,b,c,d,i]:=by
 obtain⟨a,v,rfl,h⟩:=el0 e;obtain⟨b,c,d,i,rfl⟩:=el4 h;exact⟨a,b,c,d,i,rfl⟩
noncomputable def zhB (TP:Addr) (K:aD):Sp:=fun vs H Q _=>∃ (a:Addr) (ns:TD),vs = [.ref a]/\oE K H a #[Db]/\ns.length<=63/\TbI TP zrh zri H/\∀ H',Q (.bl true) H'
theorem zqG {TP:Addr} {l:kJ} {K:aD} {fa fl pB oM oK qp qr pX rS pY pA qR rT:Addr} (X:K.In h) (G:h.Ns mainGlobals mg) (Du:mg "law" = some #[Up])
  {kV dc:Value} (Ce:bW K mainGlobals "SlipError" = some (some (.ref pB))) (GD:bW K mainGlobals "TooFew" = some (some #[RP])) (EE:bW K mainGlobals "NoCurve" = some (some #[RQ])) (EF:bW K mainGlobals "NoPaper" = some (some (.ref qp))) (EG:bW K mainGlobals "NoPlace" = some (some (.ref qr))) (DE:bW K mainGlobals "NoNumber" = some (some (.ref pX))) (HY:bW K mainGlobals "Heard" = some (some (.ref rS))) (DF:bW K mainGlobals "NotHeard" = some (some (.ref pY))) (AF:bW K mainGlobals "NothingLeft" = some (some (.ref pA))) (GF:bW K mainGlobals "NoText" = some (some (.ref qR))) (HZ:bW K mainGlobals "NoRow" = some (some (.ref rT))) (wc:∃ f fd,Dn K "value_at" zcL f fd) (xG:∃ f fd,Dn K "inverse" zdh f fd) (uq:∃ f fd,Dn K "times_root" zbt f fd) (DG:∃ f fd,Dn K "bent" zfE f fd) (sG:∃ f fd,Dn K "moved_powers" zbu f fd) (ur:∃ f fd,Dn K "numbers_at" zaL f fd) (uu:∃ f fd,Dn K "vectors_of" zba f fd) (xH:∃ f fd,Dn K "without" zcv f fd) (rq:∃ f fd,Dn K "first_relation" zaz f fd) (vh:∃ f fd,Dn K "first_sum" zbQ f fd) (tu:∃ f fd,Dn K "first_terms" zbf f fd) (tw:∃ f fd,Dn K "least_curve" zax f fd) (sH:∃ f fd,Dn K "check_curves" zbv f fd) (qS:∃ f fd,Dn K "weighted_points" zaF f fd) (vi:∃ f fd,Dn K "weight_in" zbR f fd) (tD:∃ f fd,Dn K "most_weight" zbg f fd) (uv:∃ f fd,Dn K "next_picks" zb0 f fd) (rA:∃ f fd,Dn K "picked_weights" zap f fd/\TabOf K f TP) (BA:∃ f fd,Dn K "heavy" zdi f fd) (we:∃ f fd,Dn K "curve_by" zcM f fd) (Ae:∃ f fd,Dn K "_law_cell" zd5 f fd) (xI:∃ f fd,Dn K "_law_draws" zdj f fd) (xJ:∃ f fd,Dn K "_law_whole" zdk f fd) (Af:∃ f fd,Dn K "_law_code" zc4 f fd) (xK:∃ f fd,Dn K "_law_value" zdl f fd) (vj:∃ f fd,Dn K "_law_guesses" zbq f fd) (Ag:∃ f fd,Dn K "_law_rank" zbS f fd) (wg:∃ f fd,Dn K "_law_powers" zcN f fd) (wj:∃ f fd,Dn K "_law_choose" zcO f fd) (wm:∃ f fd,Dn K "_law_passes" za4 f fd) (xM:∃ f fd,Dn K "_law_asked" zcw f fd) (tE:∃ f fd,Dn K "_law_has_curve" zaT f fd) (xN:∃ f fd,Dn K "_law_times" zdm f fd) (xO:∃ f fd,Dn K "_law_along" zcx f fd) (Ah:∃ f fd,Dn K "_law_word" zd6 f fd) (sI:∃ f fd,Dn K "_law_polynomial" za5 f fd) (Ai:∃ f fd,Dn K "_law_told" zd7 f fd) (xP:∃ f fd,Dn K "_law_heavy" zdn f fd) (Aj:∃ f fd,Dn K "_law_size" zc5 f fd)  (NU:gF K oM zi8 "ValueError.__new__" = true) (Nm:gF K oK zi8 "ValueError.__new__" = true) (yk:bK K #[RP] #[RP]=some true) (xQ:bK K #[RP] #[RQ]=some false) (xR:bK K #[RP] (.ref qp)=some false) (xS:bK K #[RP] (.ref qr)=some false) (wN:bK K #[RP] (.ref pX)=some false) (Ak:bK K #[RP] (.ref rS)=some false) (wO:bK K #[RP] (.ref pY)=some false) (vk:bK K #[RP] (.ref pA)=some false) (yl:bK K #[RP] (.ref qR)=some false) (Al:bK K #[RP] (.ref rT)=some false) (GG:bK K #[RP] (.type "ValueError")=some true) (GH:fz K #[RP] (.ref pB)=some true) (EH:dL K #[RP] "__getattribute__" = some (some (.builtin "BaseException.__getattribute__"))) (EI:dL K #[RP] "__getattr__" = some none) (EJ:dL K #[RP] "__class__" = some (some (.builtin "object.__class__"))) (EK:dk K oM (.type "object")=some true) (EM:dk K oM (.type "BaseException")=some true) (EN:fz K #[RP] #[RP]=some true) (xT:bK K #[RQ] #[RP]=some false) (wQ:bK K #[RQ] #[RQ]=some true) (wR:bK K #[RQ] (.ref qp)=some false) (wU:bK K #[RQ] (.ref qr)=some false) (wo:bK K #[RQ] (.ref pX)=some false) (ym:bK K #[RQ] (.ref rS)=some false) (wq:bK K #[RQ] (.ref pY)=some false) (uC:bK K #[RQ] (.ref pA)=some false) (xU:bK K #[RQ] (.ref qR)=some false) (yn:bK K #[RQ] (.ref rT)=some false) (EO:bK K #[RQ] (.type "ValueError")=some true) (ER:fz K #[RQ] (.ref pB)=some true) (DH:dL K #[RQ] "__getattribute__" = some (some (.builtin "BaseException.__getattribute__"))) (DI:dL K #[RQ] "__getattr__" = some none) (DJ:dL K #[RQ] "__class__" = some (some (.builtin "object.__class__"))) (DK:dk K oK (.type "object")=some true) (DL:dk K oK (.type "BaseException")=some true) (DM:fz K #[RQ] #[RQ]=some true) (sb:dk K pB (.type "BaseException")=some true)
  (al:bW K mainGlobals "law" = some (some (.ref fl))) (ll:K.lookup fl=some ⟨oc,od,.func (eL "law" "law" (zb9 zcc) (zbi zcc) (zh zcc) .none kV dc pm an cd ct),sl⟩) (cl:gQ K cd "law" = true) (kl:gr K (.ref fl)=true) (Qc:bW K mainGlobals "len" = some none) (Ia:bW K mainGlobals "range" = some none) (Lq:bW K mainGlobals "list" = some none) (Ib:bW K mainGlobals "tuple" = some none) (Qa:bW K mainGlobals "min" = some none) (Qb:bW K mainGlobals "max" = some none) (BB:bW K mainGlobals "isinstance" = some none) (Qd:bW K mainGlobals "int" = some none) (Lr:bW K mainGlobals "bool" = some none) (P8:bW K mainGlobals "zip" = some none) (Cf:bW K mainGlobals "enumerate" = some none) (DN:bW K mainGlobals "reversed" = some none) (GI:bW K mainGlobals "sorted" = some none) (P9:bW K mainGlobals "sum" = some none) (Ls:bW K mainGlobals "dict" = some none) (BC:bW K mainGlobals "ValueError" = some none) :
  ∃ fd:FuncData,(∀ (s:Shared) (v:Value),BindsTo s fd ⟨[v],[]⟩ [("script",v)])/\∀ base:Heap,K.In base->base.Ns mainGlobals mg->zf2 mg base->LG l.prog w K mg base CX0 9 fa fd ["script"] (zhB TP K):=by
 cases Du.symm.trans (lS X G al);obtain⟨LU,_,_⟩:=wc;obtain⟨ME,_,_⟩:=xG;obtain⟨LM,_,_⟩:=uq;obtain⟨O3,_,_⟩:=DG;obtain⟨LO,_,_⟩:=sG;obtain⟨L7,_,_⟩:=ur;obtain⟨L6,_,_⟩:=uu;obtain⟨M3,_,_⟩:=xH;obtain⟨LF,_,_⟩:=rq;obtain⟨Mq,_,_⟩:=vh;obtain⟨LZ,_,_⟩:=tu;obtain⟨LX,_,_⟩:=tw;obtain⟨LQ,_,_⟩:=sH;obtain⟨Ly,_,_⟩:=qS;obtain⟨Mo,_,_⟩:=vi;obtain⟨LH,_,_⟩:=tD;obtain⟨L8,_,_⟩:=uv;obtain⟨LD,_,_,tb⟩:=rA;obtain⟨Ov,_,_⟩:=BA;obtain⟨MK,_,_⟩:=we;obtain⟨NR,_,_⟩:=Ae;obtain⟨MD,_,_⟩:=xI;obtain⟨M4,_,_⟩:=xJ;obtain⟨NQ,_,_⟩:=Af;obtain⟨M5,_,_⟩:=xK;obtain⟨Mp,_,_⟩:=vj;obtain⟨NP,_,_⟩:=Ag;obtain⟨Mi,_,_⟩:=wg;obtain⟨Mj,_,_⟩:=wj;obtain⟨MJ,_,_⟩:=wm;obtain⟨M8,_,_⟩:=xM;obtain⟨LY,_,_⟩:=tE;obtain⟨M6,_,_⟩:=xN;obtain⟨M9,_,_⟩:=xO;obtain⟨NM,_,_⟩:=Ah;obtain⟨LP,_,_⟩:=sI;obtain⟨NN,_,_⟩:=Ai;obtain⟨M7,_,_⟩:=xP;obtain⟨NO,_,_⟩:=Aj
 let t:Adr:=⟨TP,pB,oM,oK,qp,qr,pX,rS,pY,pA,qR,rT,LU,ME,LM,O3,LO,L7,L6,M3,LF,Mq,LZ,LX,LQ,Ly,Mo,LH,L8,LD,Ov,MK,NR,MD,M4,NQ,M5,Mp,NP,Mi,Mj,MJ,M8,LY,M6,M9,NM,LP,NN,M7,NO,fa⟩
 have T:∀ base:Heap,zf2 mg base->Txt K mg base t:=fun base hB=>by constructor <;> first | assumption | exact PySem.W.mg_none_of X G ‹_› | exact lS X G ‹_› | exact lS X G (Dn.a ‹_›) | exact⟨_,Dn.f ‹_›,(Dn.f ‹_›).binds fun _ _ _ _ _ _ _ h=>by first | (obtain⟨_,rfl⟩:=el1 h; exact rfl) | (obtain⟨_,_,rfl⟩:=el2 h; exact rfl) | (obtain⟨_,_,_,rfl⟩:=el3 h; exact rfl) | (obtain⟨_,_,_,_,rfl⟩:=el4 h; exact rfl) | (obtain⟨_,_,_,_,_,rfl⟩:=el5 h; exact rfl)⟩ | exact⟨‹_›,‹_›,‹_›,‹_›,‹_›,‹_›,‹_›,‹_›,‹_›,‹_›,‹_›,⟨‹_›,‹_›,‹_›,‹_›,‹_›,‹_›⟩,‹_›⟩
 have FL:=zma (st:=zcc) ll cl kl;exact⟨eL "law" "law" (zb9 zcc) (zbi zcc) (zh zcc) .none kV dc pm an cd ct,fun s v=>.of_eq rfl,fun base _ _ hB=>zqF (t:=t) (T base hB) FL⟩
theorem walk {TP:Addr} {l:kJ} {q:Program} {loose:List Str} {XP:#[VM]->Heap->Prop} {YP:World->Heap->Prop} {d:DefRec} {K:Params->aD} (hn:l.most=some 63) (EV:d.params.defaults = []) (hY:∀ (w:World) (h:Heap),YP w h->#[QN].In h/\h.get? TP=some (PySem.W.tabObj #[])) (FH:∀ w:World,#[QN].lookup TP=none) (JW:∀ w:World,PySem.W.codeHdIn #[QN] cP TP=true)
  (F:∀ (w:World) (mg:TJ) (fa:Addr) (h:Heap),#[QN].In h->h.Ns mainGlobals mg->mg d.name=some #[Up]->∃ fd:FuncData,(∀ (s:Shared) (u:Value),BindsTo s fd ⟨[u],[]⟩ [("script",u)])/\∀ base:Heap,#[QN].In base->base.Ns mainGlobals mg->zf2 mg base->LG l.prog w #[QN] mg base CX0 9 fa fd ["script"] (zhB TP #[QN])):n9 q loose XP YP l.row.toRowW d [] #[VJ] :=
 L2.znp (n:=63) (k:=9) (x:="script") (CX:=fun _=>CX0) (sp:=fun w=>zhB TP #[QN]) hn #[D] EV ⟨rfl,#[D],#[D]⟩ hY FH JW F (fun _ _ a ns hl hT hS=>⟨a,ns,rfl,hS,hl,⟨#[],hT,trivial,.inl rfl⟩,fun _=>rfl⟩) fun _ _ _ _ _ z=>z
end My
namespace PySem.W.Fast
def tw4790345456353628574:=0
def tw3422482092924130724:=0
def tw15830176671298383587:=0
def tw6633566909878280171:=0
def tw14773734924539767194:=0
def tw4262492074806809767:=0
def tw1187388794195960009:=0
def tw4705504477396127130:=0
def tw1861260106969913125:=0
def tw11903415450455676463:=0
def tw14370202154792222004:=0
def tw3083167374548694303:=0
def tw6577785332195121316:=0
def tw6170644463696102367:=0
def tw9006380902340438784:=0
def tw7175373335047436318:=0
def tw7579162809358594207:=0
def tw791658726991748318:=0
def tw6331286317554159066:=0
def tw2009343250294138852:=0
def tw6261399449465760391:=0
def tw17976195575198006718:=0
def tw12026969534991204962:=0
def tw14138687850537541026:=0
def tw87315504857115742:=0
def tw15558166748125863499:=0
def tw1772437698811351832:=0
def tw4193401737497004867:=0
def tw5764091785935942744:=0
def tw815324017867124523:=0
def tw18438703082951401220:=0
def tw1761591569815174194:=0
def tw13833254144811857727:=0
def tw65605422641679016:=0
def tw5481308930138097080:=0
def tw8354858391621012485:=0
def tw1115994398102158538:=0
def tw899527017944602292:=0
def tw14411003626907544686:=0
def tw3060455935543829634:=0
def tw2266225077629590483:=0
def tw4499386969565124850:=0
def tw7663254983605596909:=0
def tw14760545342321782111:=0
def tw1784825967509442532:=0
def tw1342370145602569861:=0
def tw7008613959793569712:=0
def tw7616616928843101324:=0
def tw13272008781008870981:=0
def tw2849658565663979211:=0
def tw3963841233461872117:=0
def tw14249296028634958053:=0
def tw4906833628056600491:=0
def tw13247004177563111121:=0
def tw16006202159136853857:=0
def tw560797182239967684:=0
def tw3581345105117611085:=0
def tw2341334267731168566:=0
def tw14600898950500054909:=0
def tw914203995468902184:=0
def tw2276752259645116483:=0
def tw11208398873124263325:=0
def tw17576873204652061094:=0
def tw6347014290687435917:=0
def tw3057985864164209186:=0
def tw13189138920429741481:=0
def tw10592262391718533308:=0
def tw686954504794481968:=0
def tw8835329544392780985:=0
def tw3367418624744637976:=0
def tw7131105415405555849:=0
def tw8237623473103931202:=0
def tw184639755483015768:=0
def tw1203466937222729520:=0
def tw14952070485444787361:=0
def tw16765477003868268074:=0
def tw15066682519616158152:=0
def tw234527706093928017:=0
def tw3975882643180794354:=0
def tw8324438721965960260:=0
def tw5571087803585031786:=0
def tw11788162607979754630:=0
def tw7076417626377524964:=0
def tw4302598218426508481:=0
def tw3562933999209811373:=0
def tw7664844328542957939:=0
def tw5170072321825176124:=0
def tw1416656695745202373:=0
def tw1920088561096928692:=0
def tw5365742779589042458:=0
def tw9543312309029905623:=0
def tw13659133202945783583:=0
def tw9339641441957428661:=0
def tw16080095715971697790:=0
def tw917110878974825279:=0
def tw14598947260007772166:=0
def tw16528065859498346439:=0
def tw3621502447697837500:=0
def tw8223831976360875672:=0
def tw11816212617476166828:=0
def tw8456940717886543618:=0
def tw18374864690931574769:=0
def tw9595331475815146475:=0
def tw12458126222719553502:=0
def tw11355252547244624230:=0
def tw13750695151694254409:=0
def tw7035012776324219333:=0
def tw5811315816098856243:=0
def tw10462321439851606259:=0
def tw1873439697907926392:=0
def tw9767427314983118470:=0
def tw11454534925988156597:=0
def tw14043614831176415953:=0
def tw17418229982945834291:=0
def tw12522224327803028401:=0
def tw18069370539296577872:=0
def tw4726675863628117928:=0
def tw16667584764436908962:=0
def tw5119818101111401104:=0
def tw12358174893838493514:=0
def tw3063481919387130797:=0
def tw7581926552606770516:=0
def tw17317658462198300560:=0
def tw9574437240257607055:=0
def tw660335265189853083:=0
def tw14334905352619963411:=0
def tw5449371721304911948:=0
def tw12744071106100496725:=0
def tw13372048293939910417:=0
def tw3468399283142314986:=0
def tw16588642179329260097:=0
def tw2789860398201499351:=0
def tw1483387713311891067:=0
def tw8945443957775519545:=0
def tw598553165020214924:=0
def tw1472046191298236196:=0
def tw9458110358771048403:=0
def tw7941735412757091150:=0
def tw3507565552827671656:=0
def tw7704226133154725041:=0
def tw17003802075199863802:=0
def tw11901653212036565785:=0
def tw9403717460525658165:=0
def tw985228445208963147:=0
def tw981389860709218453:=0
def tw14563260234695114401:=0
def tw3280336680118999776:=0
def tw16994279994033111182:=0
def tw2130130031508070066:=0
def tw4721648626989082560:=0
def tw17077204105852740997:=0
def tw17946923642225758066:=0
def tw2522927334192705545:=0
def tw6604046149155959590:=0
def tw2257651212500515278:=0
def tw8767554748250917326:=0
def tw1866883814061229907:=0
def tw9612186550880443398:=0
def tw15117136333014649409:=0
def tw5102741503667436031:=0
def tw2263812804543138425:=0
def tw17588426316892470309:=0
def tw9559460623321881119:=0
def tw12019649602324092141:=0
def tw13825333847043032268:=0
def tw16461238891709080683:=0
def tw4409208117503243569:=0
def tw1992533374233054654:=0
def tw11932319352862181331:=0
def tw4135347807015208486:=0
def tw584902498582575341:=0
def tw1773807133763968160:=0
def tw4513452302363909398:=0
def tw3656459968191677524:=0
def tw5187971411428116139:=0
def tw15572494746476156544:=0
def tw7631530471077587757:=0
def tw3219204550395906040:=0
def tw18229382792633835013:=0
def tw17108997934499331129:=0
def tw7050510266292605752:=0
def tw911417953267544480:=0
def tw11011970248818131767:=0
def tw1452402485394750506:=0
def tw6585678770809503279:=0
def tw1189771963715135803:=0
def tw6163742287392396941:=0
def tw6020555264935563489:=0
def tw8717998292845452078:=0
def tw9640772722258097311:=0
def tw11562263256339718547:=0
def tw11941011538438607722:=0
def tw8621658069526856836:=0
def tw17988943289863693536:=0
def tw10054093529922492979:=0
def tw1289381396451383994:=0
def tw16173611920408580339:=0
def tw16755941356614757960:=0
def tw5745035770155734005:=0
def tw7914126337977283883:=0
end PySem.W.Fast
open PySem PySem.W
open PyProof.Rows
set_option maxHeartbeats 0 in
theorem PySem.Challenge.cw_slipcurve_k22_whole_curves_by_guesses_holds : PySem.Challenge.rw_slipcurve_k22_whole_curves_by_guesses.Holds := by
 w_on; o_law; k_head; (case hw=>w_witness2)
 k_fill
 refine My.walk (TP:=248) (cP:=?cP) (l:=PySem.Challenge.rw_slipcurve_k22_whole_curves_by_guesses) rfl rfl (fun w h Y=>⟨PySem.W.km_in_of Y,PySem.W.km_tabs_of Y 248 #[D]⟩) (fun w=>?KT) (fun w=>?KC) ?F;rotate_left
 case KC=>first | (show PySem.W.codeHdIn _ 250 248=true; with_unfolding_all rfl)
 case KT=>with_unfolding_all rfl
 case F =>
  intro w mg fa h KX G hmg;refine' My.zqG KX G hmg ?aa ?ab ?ac ?ad ?ae ?af ?ag ?ah ?ai ?aj ?ak ?al ?am ?an ?ao ?ap ?aq ?ar ?as ?au ?av ?aw ?ax ?ay ?az ?a0 ?a1 ?a2 ⟨_,_,My.znZ ?a3 ?a4 ?a5 ?a6,L2.zqv ?a4 rfl ?a8⟩ ?a9 ?ba ?bb ?bc ?bd ?be ?bf ?bg ?bh ?bi ?bj ?bk ?bl ?bm ?bn ?bo ?bp ?bq ?br ?bs ?bt ?bu ?bv ?bw ?bx ?bz ?b0 ?b1 ?b2 ?b3 ?b4 ?b5 ?b6 ?b7 ?b8 ?b9 ?ca ?cb ?cc ?cd ?ce ?cf ?cg ?ch ?ci ?cj ?ck ?cl ?cm ?cn ?co ?cp ?cq ?cr ?cs ?ct ?cu ?cv ?cw ?cx ?cy ?cz ?c0 ?c1 ?c2 ?c3 ?c4 ?c5 ?c6 ?c7 ?c8 ?c9 ?da ?db ?dc ?dd ?de ?df ?dg ?dh
  (case aa|ab|ac|ad|ae|af|ag|ah|ai|aj|ak=>k_is)
  (case al|am|an|ao|ap|aq|ar|as|au|av|aw|ax|ay|az|a0|a1|a2=>(refine' ⟨_,_,My.znZ ?a ?b ?c ?d⟩; case a|b|c|d=>k_is))
  (case a3|a4|a5|a6=>k_is)
  (case a8=>with_unfolding_all rfl)
  (case a9|ba|bb|bc|bd|be|bf|bg|bh|bi|bj|bk|bl|bm|bn|bo|bp|bq|br|bs|bt=>(refine' ⟨_,_,My.znZ ?a ?b ?c ?d⟩; case a|b|c|d=>k_is))
  (case bu|bv=>with_unfolding_all rfl)
  (case bw|bx|bz|b0|b1|b2|b3|b4|b5|b6|b7|b8=>rfl)
  (case b9|ca|cb|cc|cd=>k_is)
  (case ce|cf|cg|ch|ci|cj|ck|cl|cm|cn|co|cp|cq=>rfl)
  (case cr|cs|ct|cu|cv=>k_is)
  (case cw=>rfl)
  (case cx|cy|cz|c0|c1|c2|c3|c4|c5|c6|c7|c8|c9|da|db|dc|dd|de|df|dg|dh=>k_is)
#print axioms PySem.Challenge.cw_slipcurve_k22_whole_curves_by_guesses_holds
end