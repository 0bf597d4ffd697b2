import PyProof.Rows.All
import Wide.All
import OpenK.AllK
import Wide.FinOn
import Lean
import PyProof.EqAt
import PyProof.EqKinds
import KE.KDictOf
import PyProof.AttrMissHeap
import PyProof.Rows.MinMaxN
import PyProof.CollectWalk
import PyProof.Rows.SetFrom
import PyProof.ListMulRoad
import KE.KUnpackStar
import KE.KIntText
import PyProof.CallStr
import KE.KDictSum
import KE.KSortTup
import PyProof.Walk
import PyProof.Rows.SortRuns
import PyProof.Rows.ChunkEnd
import PyProof.Rows.Range3
import PyProof.Rows.SeqGen
import PyProof.ConsumeWalk
import PyProof.ListRange
import PyProof.NeKinds
import PyProof.TupleCall
import PySem.Challenge.RW_slipcurve_k29_whole_two_listeners
set_option maxHeartbeats 3999000
open PySem renaming wpAny_bind->aa,wpAny_pure->ag,sizeLine_eq->aS,wpAny_call_entry->bi,wpAny_callSpecial?_slot->bp,wpAny_field->bw,wpAny_newObj_type->bE,wpAny_setField_rec->bF,wpAny_holding->bJ,wpAny_mono->bK,boot_len->bM,wpAny_attempt->bZ,wpAny_rule->cw,wpAny_setField->cG,wpAny_truthy_bool->cH,wpAny_ite_false->cM,wpAny_standAt->cS,builtinLookup_eq_fast->cU,wpAny_typeNameOfWhole_keyiter->dg,wpAny_isInstance->dh,wpAny_seqItems->di,wpAny_passesOwn->dt,wpAny_of_eq->dL,isSubtype_type->dN,mem_of_lookup->dS,wpAny_execs_nil->dX,wpAny_Call_Name_kw->dZ,call_meets->d7,typeLookup_type->d8,wpAny_pyIter_slot->ee,codeAny_mono->eV,wpAny_comprehension_free->eX,isSubtype_stop->fg,wpAny_pyIter_enum->ft,wpAny_setState_of->fH,wpAny_onRaise->fO,wpAny_askSetting->fR,wpAny_pyIter_zip->fS,wpAny_call->gc,pushCells_keeps->gg,wpAny_specialOf->gh,wpAny_updateSeq_pair->gi,wpAny_setEntries_of->gz,wpAny_newTuple->gF,wpAny_ite_true->gG,wpAny_fieldsOf->gI,seqIndex_of->gN,wpAny_newFunctionEnv_cells->gZ,wpAny_letOwnedTupleGo_enum->g8,wpAny_handled->hU,wpAny_pyIter_list->ib,wpAny_dictEntries->ie,wpAny_execs_cons->ip,noFill_tuple_add->iq,wpAny_loadPart'->iO,codeAny_builtin->iP,wpAny_dictEpoch->iQ,wpAny_throw->iV,wpAny_letGo->iW,codeAny_call_function->je,entryFor_alias->jf,wpAny_isOneOf_keyiter->jj,wpAny_loadName_local->jo,wpAny_pyIter_revIter->jv,codeAny_call_builtin->jx,wpAny_pyIter_keyiter->jA,seq_tuple_add->jD,wpAny_loadName_cell->jJ,wpAny_specialOf_val->jN,Within->jY,concat_meets->j6,seqIndex_neg->j8,callType_new->kf,wpAny_pyIter_tuple->kg,list_append->kC,numAt_eq->k7,wpAny_Name->k8,wpAny_load->k9,typeIs_int->lh,call->lj
open List renaming length_map->ae,getElem?_eq_some_iff->aj,replicate->ak,getElem?_map->ao,mem_append_right->aq,mem_cons_of_mem->ar,size_toArray->au,mem_cons->av,map_append->aw,mem_cons_self->aA,mem_append->aC,mem_append_left->aD,getElem?_eq_getElem->aF,length_append->aH,length_take->aI,mem_of_getElem?->aP,getElem?_append_left->aT,zipWith->aU,getElem?_append_right->aV,mem_singleton->aW,mem_map->aZ,not_mem_nil->ba,map_cons->bc,range->bd,length_cons->bh,take_of_length_le->bj,replicate_succ->bo,lookup_cons->br,take_length->bt,map_map->bx,mem_range->bN,filterMap_cons->cb,map_congr_left->cf,length_range->cg,getElem?_cons_succ->cn,length_eq_zero_iff->cp,append_assoc->cu,append_nil->cv,length_drop->cB,filter_append->cD,take_sublist->cI,mem_filter->cL,lookup->cP,all_eq_true->cT,length_filter_le->cW,getElem?_eq_none->cX,length->cZ,getElem?_take_of_lt->c7,getElem?_set_self->dm,nodup_cons->du,length_replicate->dw,forIn_cons->dz,flatten_cons->dB,pairwise_map->dE,getElem?_set_ne->dF,mem_of_mem_take->dI,any_eq_true->dQ,mem_map_of_mem->dU,getElem?_cons_zero->dW,eq_nil_or_concat->ej,concat_eq_append->et,getElem_mem->eG,mem_flatMap->eI,getLast?_append->eJ,mem_iff_getElem->eK,drop_eq_getElem_cons->eQ,range_succ->eR,length_nil->eU,pairwise_cons->fb,forIn_nil->fh,filter_cons_of_pos->fm,filter_cons_of_neg->fo,nodup_append->fu,flatMap_cons->fz,ext_getElem?->fB,range_succ_eq_map->fK,any_cons->fM,nil_sublist->fU,sublist_nil->fV,drop_length->fW,isEmpty_nil->fY,length_singleton->fZ,eraseIdxIfInBounds_toArray->f9,of_mem_zip->gd,foldl_cons->ge,nil_append->gf,find?_cons->gj,map_set->gm,length_zipWith->gu,length_take_le->gv,take_zero->gJ,dropLast_concat_getLast->gK,drop_zero->gL,mem_filterMap->gQ,filterMap_map->gT,nodup_iff_pairwise_ne->hV,getD_eq_getElem?_getD->hX,foldl_append->ig,pairwise_iff_getElem->ij,extract_eq_drop_take->ik,mem_or_eq_of_mem_set->il,eraseIdx_cons_succ->iH,length_set->iM,map_id->iY,pairwise_lt_range->jb,drop_eq_nil_of_le->jc,take_append_drop->jg,length_dropLast->ju,all_cons->jE,sum_cons->jG,map_take->jI,getElem?_range->jP,flatMap_append->jQ,length_reverse->jT,length_pos_iff->jU,map_nil->j7,forIn_toArray->kh,map_filterMap->kr,take_add_one->kE,zipIdx_cons->kU,map_flatMap->kY,flatMap_map->kZ,foldl->li,zipIdx_nil->lp,filter_map->lx,filter_nil->lF,take_nil->lU,map_drop->lV
open PySem.W renaming Frag->af,kitOne->am,findIn->aJ,mg_of->aM,nsIn->bf,mroIn->bu,mg_none_of->bB,kitCls->bS,kia_one->bT,excIn->ci,fnOf->cj,emptyDict->cr,keepIn->cF,instObj->c6,hideAll->dq,codeIn->dM,callWith_K->d6,methodCall_KW->eg,plainGet->eC,hideAll_get->eP,hasDictIn->fq,cellsFrom_some->fI,Looks->fP,isFn->f',looks_findIn->gb,plainGet_of->gt,looks_mroIn->gw,lookIn->gC,of_hideAll->gP,methodObj->ia,plainOver->ic,takerIn->iK,makesIn->iL,OpenLaw->iN,hideAll_none->jm,callWith_K0->jK,codeRec_of->j5,kitx_list->kz,kitx_dict->kA,handedIn->kQ,kat_kind->k6,kit_cls->lA,WalkO->lQ
open PySem.Heap renaming get?_push_of_some->ah,get?_push_size->az,lt_size->aB,SameBut->aX,size_push->bq,get?_update_self->bP,get?_update_other->dn,ExtBut->iU,get?_update_ne->jR
open Nat renaming le_refl->ai,ne_of_lt->aO,lt_of_lt_of_le->aR,zero_le->bg,le_trans->bn,lt_irrefl->bX,lt_succ_of_lt->cJ,le_of_succ_le->dC,pow_le_pow_right->dH,ne_of_gt->dO,lt_succ_self->eD,succ_ne_self->eE,le_succ->eN,zero_add->eY,sub_self->fc,lt_or_ge->fe,mod_lt->fj,le_of_lt_succ->fG,succ_le_succ->fQ,sub_zero->gl,succ_pos->gq,le_of_lt->io,le_of_not_lt->ir,le_add_right->iw,pow_succ->iC,le_of_eq->j1,lt_trans->ki,min_eq_left->lC,mul_le_mul->lM
open Or renaming inl->ap,inr->dR
open Array renaming length_toList->aE,getElem?_toList->bG,getElem?_eq_getElem->bI,getElem?_eq_none->ca,toList_push->fC,getD->gp,getElem?_eq_some_iff->hJ,perm_iff_toList_perm->hW,toList_map->iA,mem_toList_iff->jp,toList_extract->jB,toList_append->jS,append_assoc->jZ,size_map->lK,toList->l6
open Bool renaming false_ne_true->aG,false_eq_true->aY,or_eq_true->bA,and_eq_true->bV,eq_iff_iff->dY,not_true->fN,not_false->jl,eq_false_iff->kF,not_eq_true'->kI,false_and->lG,and_false->lH,true_and->lS
open Int renaming emod_lt_of_pos->aK,emod_nonneg->aQ,toNat_natCast->a8,le_refl->cQ,mul_le_mul_of_nonneg_right->db,emod_eq_of_lt->dD,zero_add->eA,fdiv_eq_ediv_of_nonneg->gW,le_of_lt->iz,le_trans->ko,mul_comm->kq,lt_trichotomy->kJ
open PySem.Value renaming ref->aL,none->bW,int->cK,bool->eB,type->ff,isInt->gM,str->iJ,isInt_shape->ky,float->kL,isStrOf->lP
open Option.some renaming inj->aN,injEq->fA
open PySem.Builtin.SmallTypes renaming nextOf->be,ownedTupleIsFree->bQ,ownedTupleHandOut->cC,newRecord->lI
open PySem.F renaming plainAttrs_list->bv,slot_zip_next->c9,slot_list_append->de,type_list_append->df,slot_dict_keyiterator_next->dk,slot_tuple_iterator_next->dA,slot_enumerate_next->ei,args_tuple_add_2->eW,entry_tuple_add->fk,args_zip_next_1->fw,slot_tuple_add->fJ,entry_zip_next->fT,slot_list_pop->f7,type_list_pop->f8,args_dict_keyiterator_next_1->gk,entry_dict_keyiterator_next->gr,args_tuple_iterator_next_1->gE,entry_tuple_iterator_next->gR,slot_list_extend->iF,type_list_extend->iG,args_enumerate_next_1->iI,entry_enumerate_next->iX,args_list_append_2->jt,args_object_init_2->jw,excBase_ValueError->jy,entry_list_append->jL,slot_list_append->j9,plain_list_iadd->kK,entry_list_pop->kT,slot_dict_iter->kX
open PyProof.Rows renaming wpS_bind->bz,callWith_type1->bC,boot_isinstance->bU,wpS_pure->ck,zipApart_new->c8,step_dedup->dJ,wpS_forRange->eZ,pairsOf_size->gn,subscriptTail_builtinR->iS,mirror_perm->ja,wpS_get->jh,pairsOf_toList->jk,wpS_modify->jz,listUpdate_at->jH,getElem?_mirror_all->jO,seqEpoch_at->kO,boot_sorted->kP,wpS_mono->kW,boot_range->lb,boot_tuple->lB
open PySem.PassesOwn renaming never->bD
open PySem.Heap.SameBut renaming update->bH
open PySem.Str renaming ofString->bL
open False renaming elim->bO
open PySem.Obj renaming data_mapFields->bR,mapSeq->cq,isFreed_of_fields->cV,cls_mapFields->d9,mapFields->eM,putSet->lD
open PySem.NameKind renaming free->bY,cell->cE
open ForInStep renaming yield->cm,done->fi
open Ne renaming symm->cA
open Sum renaming inl->cN,inr->im
open PySem.Paired renaming snoc->cR,length->fL,mono->gO
open Classical renaming byContradiction->cY,em->ka
open True renaming intro->dG
open PySem.Builtin.List renaming listTooLong->dP,listExtendWith->gU,listSameRef->iE
open PySem.Around renaming in1_units->eF,under_plainId->jC,under->j2
open PySem.W.KF renaming type_class->f6
open PySem.Builtin.Dict_items renaming ownsTuple->gH
open PySem.SeqAt.EqAt renaming of_refs->gS,int_str->jW,str_int->jX,same->lg
open PySem.Calls renaming Name_function_global->gV,callWith_builtin->iT,evalArgs_plain->jr,spliced_cons->j4,spliced_nil->kB
open Option renaming getD_some->iu,isSome_some->kb,getD_none->kR,toList->lR,none->mh
open List.Pairwise renaming imp_of_mem->iB,nil->kD
open PySem.Builtin.Frozenset renaming addrOf->iD,oneOther->lY,sizeOf->l8,slot0->me
open PyProof renaming noPylong_small->iR
open PySem.Builtin.Getset_descriptor renaming descrCheckInstance->iZ,descrNameAndClass->jd,descrGetter->jV,descrGet->kG
open PySem.Builtin.Dict renaming showsAll->ji
open PySem.SeqAt renaming EqAt->jq
open List.cons renaming inj->jF
open PySem.SeqAt.RcNeAt renaming tuples->jM
open PySem.Code renaming isFrame->j3
open And renaming intro->kd
open PySem.pickOrder renaming go->ku
open PySem.Builtin.ObjectAttr renaming dataDescriptor?->kH,takesStores->ly,attrName->lO,bindTo->lZ,getOf->l7,find->l9
open PySem.Data renaming fields->kM
open PySem.Shared renaming heap->kN
open PySem.IsL renaming update->kS
open PySem.Draws renaming list->lq
open List.Perm renaming trans->lE,swap->lJ
open PySem.SetTable renaming grown->lL,fits->lW,fill->lX
open PyProof.Rows.Boot renaming ValueError->lN
open Function renaming comp->lT
open Sum.inl renaming inj->mf
open PySem.Heap.Ns renaming new->mi
open PySem.Manifest.AttrKind renaming slot->mj
open PySem.PyData renaming bool->ml
open PySem.W.KatTups renaming cons->mo
local macro_rules | `(tactic| trivial)=>`(tactic| first | exact .inl rfl | exact .inr rfl | assumption)
local macro_rules|`(#[$xs,*])=>do
 let a:=xs.getElems
 if h:a.size=0 then Lean.Macro.throwUnsupported else
 let s:=a[0].raw.getId.eraseMacroScopes.toString
 if s=="Y" then `((of_decide_eq_true rfl)) else if s=="O" then `(by lia) else if s=="D" then `(by decide) else if s=="N" then `(by decide +kernel) else if s=="S" then `(⟨rfl,rfl,rfl,by decide +kernel,rfl,by decide +kernel,by decide +kernel⟩) else if s=="A" then `(Or.inl rfl) else if s=="M" then `(by simp) else
 match [("___e","zl zeh zaZ"),("____e","zJ zK zcn zao zc8 zch zk2"),("_______ee","zk3 zc7 znG"),("_________ereeeddrr","zt zaN"),("_","zdX zP ziN zcD zB zC zO zaX zae zai zL zlc zhZ zf zaj zlb zb7 zci zbf zb0 zak zb1 zbC zY zeg zeB zcj zdk zh1 zlo zfG zZ ziM zfz"),("_____eer","za zq"),("_e__f","pvx"),("___er","ya"),("__e__feefdd","zf8"),("_____e","zhV zaf za7"),("________________eefeeeneedrr","zI"),("____","zh zR zdS"),("_____eb","ze"),("________eee","zan zn zcC"),("________eeee","zA ziO"),("_______eeeu","zx"),("__e____efeert","zr"),("______b","zg4"),("________efeeei","za6"),("______feer","zap"),("__e_efet","zm"),("____er","za2"),("____________eeeeeerrrrr","zcZ"),("_f","zfy zfx"),("_____________efeeeeei","zaQ"),("__f","zay"),("_ef","zbg za0 zaI"),("___fe","zaa"),("_________feerr","zej"),("_e___e_fferr","zbu"),("______eerrr","za5"),("______ferr","zbe"),("_____________e___efeefeeeeerit","zaz"),("__________eeee","zdj"),("___","zaw"),("_____ef","zag"),("___ei","zhU"),("_________effeeedrr","zb9"),("________eef","zdL"),("_______eeei","zc9"),("____________________eeeeeeneerrr","zcN"),("_______________","zeO"),("___ee","zgT"),("_________eeeeerr","zln"),("__","zhn"),("_________eeeef","zja"),("_e_____fee","zmr"),("_________________eeeeeener","zdi"),("_e","zig"),("__e__fefd","zbr"),("______ee","zk8"),("__________eee","zeQ"),("_______e_efeert","zcP"),("______________________eeeeeeneerrr","zeP"),("___________________eeeeeener","zd0"),("____________eeeeee","zex"),("________feer","zgY")].find? fun q=>(q.2.splitOn " ").contains s with
 |none=>Lean.Macro.throwUnsupported
 |some (p,_)=>do
  let mut r:=#[]
  let mut i:=1
  for c in p.toList do
   if c=='e' then
    r:=r.push (a[i]!)
    i:=i+1
   else if c=='b' then
    r:=r.push (<-`((by exact $(a[i]!))))
    i:=i+1
   else r:=r.push (<-match c with|'_'=>`(_)|'r'=>`((by rfl))|'d'=>`((by decide))|'f'=>`(rfl)|'t'=>`((by trivial))|'i'=>`((by intro _; rfl))|'u'=>`((fun _ _=>rfl))|'n'=>`(.nil)|'l'=>`(Or.inl rfl)|'o'=>`(Or.inr rfl)|_=>`(nomark _))
  return Lean.Syntax.mkApp (<-`(@$(⟨a[0].raw⟩):ident)) r
def qO:=["::","+","-","++","=","<=","->","<"]
def XN:Nat->Nat->List String->Lean.MacroM (List (Lean.TSyntax `term)×List String)
|0,_,_=>Lean.Macro.throwUnsupported
|n+1,0,ts=>match ts with
 |"fun"::ts=>do
  let (bs,r):=ts.span (·≠"=>")
  let (b,r)<-XN n 0 (r.drop 1)
  let mut e:=b.head!
  for x in bs.reverse do
   e<-if x=="_" then `(fun _=>$e) else let i:=Lean.mkIdent x.toName; `(fun $i=>$e)
  return ([e],r)
 |_=>do
  let (a,r)<-XN n 1 ts
  let l:Lean.TSyntax `term:=if a.length=1 then a.head! else Lean.Syntax.mkApp a.head! a.tail.toArray
  match r with
  |o::q=>do
    if !qO.contains o then return ([l],r)
    let (e,q)<-XN n 0 q
    let e:=e.head!
    let x<-match o with|"::"=>`($l :: $e)|"+"=>`($l+$e)|"-"=>`($l-$e)|"++"=>`($l++$e)|"="=>`($l=$e)|"<="=>`($l<=$e)|"->"=>`($l->$e)|_=>`($l<$e)
    return ([x],q)
  |_=>return ([l],r)
|n+1,1,ts=>match ts with
 |[]=>return ([],[])
 |t::ts=>if t==")"||t=="⟩"||t==","||t=="]"||qO.contains t then return ([],t::ts) else do
  let (a,r)<-if t=="(" && ts[1]?==some ":=" then do
    let (e,r)<-XN n 0 (ts.drop 2)
    pure (⟨.node .none ``Lean.Parser.Term.namedArgument #[.atom .none "(",Lean.mkIdent ts.head!.toName,.atom .none ":=",e.head!,.atom .none ")"]⟩,r.drop 1)
   else if t=="(" then do
    let (e,r)<-XN n 2 ts
    let f:=e.head!
    let e:=e.tail.toArray
    pure (<-if e.size=0 then `(($f)) else `(($f,$e,*)),r.drop 1)
   else if t=="⟨" then do
    let (e,r)<-XN n 2 ts
    let e:=e.toArray
    pure (<-`(⟨$e,*⟩),r.drop 1)
   else if t=="#[" then do
    let (e,r)<-XN n 2 ts
    let e:=e.toArray
    pure (<-`(#[$e,*]),r.drop 1)
   else if t=="_" then pure (<-`(_),ts)
   else if t=="?_" then pure (<-`(?_),ts)
   else if t.front.isDigit then pure (Lean.Syntax.mkNumLit t,ts)
   else if t.front=='.' then let i:=Lean.mkIdent (t.drop 1).toString.toName; pure (<-`(.$i:ident),ts)
   else if t.front=='@' then let i:=Lean.mkIdent (t.drop 1).toString.toName; pure (<-`(@$i),ts)
   else pure (⟨Lean.mkIdent t.toName⟩,ts)
  let (l,r)<-XN n 1 r
  return (a::l,r)
|n+1,_,ts=>do
 let (e,r)<-XN n 0 ts
 if r.head?==some "," then
  let (l,r)<-XN n 2 (r.drop 1)
  return (e++l,r)
 return (e,r)
local macro_rules|`(#[$x:ident])=>do
 let s:=x.getId.eraseMacroScopes.toString++" "
 match ("ac ( fun mV A outer s H vs Q E hr h => ?_ )
ld ( zM X N' scope s₃ H₃ ex mq )
mt ( model X.prog X.w )
na ( model prog w )
ol ( fun vs H Q E h => ?_ )
on ( .ListComp elt ( ⟨ tg , iter , ifs , 0 ⟩ :: gs ) scope pos )
or ( fun _ _ _ _ => #[ zbu , ( K ) , 2 , #[ zq , #[ zm , 0 , #[ Y ] , #[ A ] ] , #[ zq , #[ zm , 1 , #[ Y ] , #[ A ] ] , #[ zY ] ] ] ] )
o0 ( .lst ( rs.map V.ref ) )
pc ( hr.mono #[ D ] )
pi ( cxX P w K mg base N qual scope f cd A outer s₀ H₀ E )
ss ⟨ rfl , I.turned ( t' := s.toks ) ( fun b o hb e => eb b o hb e ) f0 f1 f3 f4 f5 ⟩
sK ( mJ rfl rfl ( mr rfl ?_ ) )
t0 ( .ref s.heap.objs.size )
ul ( s.heap.objs.size + 1 )
ut ( fun _ _ _ _ => #[ zm , 0 , #[ Y ] , #[ A ] ] )
u8 ( mr rfl ⟨ rfl , ( mr rfl ?_ ) ⟩ )
wf ( .ListComp elt gens scope pos )
wn #[ pvx , 0 ]
wp ( mr rfl ( zmN e _ b0 b1 b2 b3 b4 b5 b6 b7 b8 b9 j _ ⟨ rfl , zb , kw , kc , kj , km , Ba , kx , fun H' s' => ?_ ⟩ ) )
wv #[ zx , #[ zaj ] , #[ pvx , 3 ] , #[ zh ] ]
ww #[ pvx , 1 ]
wE ( mr rfl ( mJ rfl rfl ⟨ p0 , ?_ ⟩ ) )
wP ( fun _ _ _ _ => #[ zak ] )
wS ( ns.map V.int )
wT ⟨ fun b o e n hb hx => ?_ , fun b o e n hb hx => ?_ , I.base.free , fun b o e hx => ?_ , I.base.MD , I.base.MS , I.base.MV ⟩
xz ( mr rfl ( mr rfl ( mr rfl ( mJ rfl rfl ⟨ .inl ⟨ #[ O ] , #[ O ] ⟩ , ( mJ rfl rfl ( mr rfl ( mJ rfl rfl ⟨ p0 , hR ⟩ ) ) ) ⟩ ) ) ) )
xL ( .SetComp elt gens scope pos )
At ( Option Nat )
AC ( ha pos mq s σ H _ I h )
AT ( backTo pos ( starEach es X.env ) )
BT ( u1.trans ( zd hl ) )
Ch ( Option Int )
Cl ⟨ ym i ys H mW p , Pv ( i + 1 ) , fun rh H' p' => ⟨ n - ( i + 1 ) , #[ O ] , rfl , mW , p' ⟩ , fun x H' y => hs i x ys H H' mW p y ⟩
Db ( mr rfl ?_ )
Do ( false , eval e X.env )
Ev ( fun _ _ _ _ _ _ _ _ I m q => zbo I m q )
EQ ( arrOf mP )
Fa ( zal rw rw.length )
Fr ( ha mq s σ H _ I h )
FB #[ zx , #[ zaI , ( K ) ] , #[ ww ] , #[ zh ] ]
FM ( mX pl rw )
FS ( leap mask p.i p.perturb )
Go ( h3.objs.size + 1 )
GE ( zU I q #[ M ] )
GM ( cj name qual params body scope dV kV doc pm an mV ct )
GT ( List Int )
Id ( he mq s σ H _ I h )
Ix ( envOfC qual scope s.heap.objs.size f cd )
IN ⟨ I2.ok.mod , SC.kind , I2.ok.glob , I2.ok.blt , ai _ , co.inj , fun x hx => ?_ , fun x c z e => ?_ , I2.ok.hd , I2.ok.frames , .inl rfl , fun b hb => ?_ , fun b o e => rl.bs b o e , ?_ , fun b o e hb => ?_ , uQ , rl.stack , rl.Mj ⟩
IO ⟨ #[ O ] , #[ O ] ⟩
IR ( arrOf st )
KB #[ zcn , #[ zaa , #[ zaa , #[ zbC ] ] ] ]
KK #[ zag , #[ wn ] ]
KM ( .inl rfl )
LE ( fl c sl ea da ua )
No ( cs.drop ( cs.length - i ) )
NE ( ltr F.p v2.rows v2.at' v2.es D )
On #[ zaf , #[ za , #[ ww ] , #[ za , #[ pvx , 2 ] , #[ ya , #[ zR ] ] ] ] ]
Op ( EP X mq σ Q )
Os ( .SetComp elt ( ⟨ tg , iter , ifs , 0 ⟩ :: gs ) scope pos )
Pi ⟨ t2 , ( mr rfl ⟨ .inr ( mK.of zb ) , rfl , rfl , #[ Db ] ⟩ ) ⟩
Ps ( false , eval b X.env )
PP #[ .int lo t , .int hi u , .int 1 v ]
P3 ⟨ #[ D ] , #[ D ] ⟩
QT #[ pvx , 2 ]
QU ( rs.take ( at' + 1 ) )
QV ( .ref D )
QW ( .ref C )
QX ( mr rfl ( ex4 d _ _ _ ⟨ rfl , rfl , mK.of uK , rfl , rfl , ( mr rfl ( zff ?_ ) ) ⟩ ) )
QY ( mr rfl ( ex4 d _ _ _ ⟨ rfl , rfl , mK.of hd , rfl , rfl , ( mr rfl ( zff ?_ ) ) ⟩ ) )
QZ ( s.heap.push ( zcy l1 ) )
Q0 #[ zt , #[ zB ] , T.LL , bM , #[ ya , #[ ww ] ] ]
Q3 ( fun _ _ => False )
Q4 #[ ya , #[ pvx , 4 ] ]
Q5 ( mr rfl ⟨ sa , ( mr rfl ⟨ .inl ( mB.of ( sB _ _ pI.at_ ) ) , #[ sK ] ⟩ ) ⟩ )
Q6 ( cj x qual ( zbs st ) ( zaO st ) ( zi st ) .none kV doc pm an mV ct )
Q7 ( .ref it )
Q8 ( .Attribute o m apos )
Q9 ( aO ( aR ( aB e ) I.ok.above ) )
Ra ( Draws.tuple hh n a ( nq #[ O ] ) nW.toArray )
Rb ( zt5 C s.heap l1 l2 )
Rc ( zt2 C s.heap l1 l2 )
Re ( qs.map ( zw p x ) )
Rf ( .ref a )
Rg ( model Y.prog Y.w )
Rh ( false , eval a X.env )
Ri ( pr w ( V.ref tY ) ( V.ref vo.sa ) )
Rj ( zbR CX P w K mg base N qual scope f mV A outer s H E )
Rk ( fun _ _ _ _ => #[ wn ] )
Rl ( .fresh 0 0 ( zau X.w ) )
Rm #[ .int i tk , .ref hp.objs.size ]
Rn #[ pvx , 3 ]
Ro ( A.deeper ( envOfC qual ( zi st ) s.heap.objs.size f mV ) )
Rp ( .tup xs )
Rq ( I.ok.hd hc )
Rr ( zbk w a ep es )
Rt ( intKind prog w )
Ru ( cxH P w K mg base N qual scope f mV A outer s H E )
Rv ( I'.pin ( b , o ) ( aq _ ( aq _ ( zbl hb e ) ) ) )
Rx ( Cg.of_eq #[ O ] )
Ry ( I1.hok.fresh ( ai _ ) )
Rz ( mz H' D ( SJ X.prog X.w D ( dds ys ) ) )
RA ⟨ fun x c e => .inr ⟨ e , cJ ( CJ x c ( tu x c e ) ) ⟩ , fun x y c e1 e2 => I2.ok.inj x y c ( tu x c e1 ) ( tu y c e2 ) ⟩
RB ( mr rfl ( ex4 d _ _ _ ⟨ rfl , rfl , mK.of uK , rfl , #[ sK ] ⟩ ) )
RC #[ rawInt 0 , rawInt 0 , .ref a , rawInt es.size , rawInt ep ]
RD ( u4.trans ( u5.trans ( u6.trans u7 ) ) )
RE ( mr rfl ( ex3 p dx _ ⟨ rfl , h4 , zbw #[ KM ] , ( mr rfl ( ex9 S p c pp sl n es ds us ⟨ rfl , L , uY , fun hb => ?_ , fun hb => ?_ ⟩ ) ) ⟩ ) )
RF ( sB.trans ( zd hl ) )
RG ⟨ I.base.keep , I.base.slot , fun b u e n hx => ?_ , I.base.there , fun b xs e => ?_ , fun b u xs e => ?_ , fun b ps e => ?_ ⟩
RH ( .lst xs )
RI #[ ya , #[ zh ] ]
RJ ( fun ys H' _ => ai _ )
RK ( rows , at' , some .place )
RL ( mr rfl ⟨ kw.sl , fun e he => ?_ ⟩ )
RM ( mz H1 pr ( .lst ( zG.map V.int ) ) )
RN ( tupleKind ( zav P w ) )
RO ( .lst ( us.map V.ref ) )
RP ( .ins C dx fs )
RQ ( .Name x pos' )
RS ( mr rfl ⟨ c , ( mr rfl ( .inl ⟨ mB.of tT , fun l hl => q l _ ( s1.free hl ) ( s1.trans ( zd hl ) ) ?_ ⟩ ) ) ⟩ )
RT #[ ya , #[ ww ] ]
RU ( SJ X.prog X.w s2.heap.objs.size ( dds ys ) )
RV ( mq ++ zbB fp s7.heap )
RW ( fun CG s' h' => ag ( kd rfl h' ) )
RX ( mr rfl ( mr rfl ( mJ rfl rfl ( mr rfl ⟨ sa , ( mr rfl ⟨ mB.of ( u3 _ _ DC ) , fun z hz => ?_ ⟩ ) ⟩ ) ) ) )
RY ( .ref mw )
RZ ( .ref mL )
R0 ( .ref mG )
R1 ( .ref mF )
R3 ( .ref mE )
R4 ( below t.place j )
R5 #[ zx , #[ zC ] , #[ pvx , 4 ] , #[ zh ] ]
R6 ( es.map mM )
R7 ( .ref f )
R8 ( ms.map V.int )
R9 ( .frz o ( .dT mI ) )
Sa #[ zt , #[ zB ] , T.LL , bM , #[ Q4 ] ]
Sb ( ho mq s2 σ H2 x y v u _ I2 r1 r2 q2 )
Sc ( Cg.refl p _ )
Sd ( σ.set i ( some x ) )
Se ( I.base.keep b o e n hb hx )
Sf ( mr rfl #[ sK ] )
Sg ( fun i ys H' hi _ => hi )
Sh #[ zA , #[ zaX ] , #[ zn , #[ zL ] , #[ pvx , 7 ] , #[ zh ] ] , #[ zh ] , ( zF _ ) ]
Si ( pI.same #[ BT ] )
Sj ( mr rfl ( q S' H' L' sS hS ) )
Sl ( start N vs )
Sm ( pairsOf vs )
Sn ( K w.params )
So ( assignEach es X.env )
Sr #[ zt , #[ zB ] , T.LL , bM , #[ ya , #[ wn ] ] ]
Ss #[ zA , #[ zaX ] , #[ wv ] , #[ zR ] , ( zF _ ) ]
Su ( .ref l )
Sv ( .lst ( ds.map V.int ) )
Sw ( starEach ( e :: es ) X.env )
Sx ( hg _ s7 _ H7 x u _ Hx r7 ( xg σ σ x H7 _ Kp.refl ( step x H7 y7 ) ) )
Sy #[ zK , #[ zf ] ]
Sz ( rs.map V.ref )
SA ( cs.map V.int )
SD ⟨ .bl _ , H , I , rfl , ?_ ⟩
SE ( aO ( aR ( aB e ) ( I.ok.cab x c Hi hc ) ) )
SG ( .Tuple es k pos )
SH ( D , zea mC nn )
SI ( pyNext #[ Q7 ] )
SK ( fun _ _ e => e )
SL ( mJ rfl rfl ?_ )
SM ( I.hok.fresh ( ai _ ) )
SN ( hb mq s1 σ H1 _ I1 q1 )
SO ( .ref s2.heap.objs.size )
SQ ( fun h => ?_ )
SR #[ za , #[ zh ] , #[ za , #[ zh ] , #[ RI ] ] ]
SS ( mr rfl ( mr rfl ( mr rfl ( mJ rfl rfl ⟨ .inr #[ IO ] , ( mJ rfl rfl #[ wE ] ) ⟩ ) ) ) )
ST ( mr rfl ( mr rfl ( mJ rfl rfl ⟨ .inl #[ IO ] , ( mr rfl ( mJ rfl rfl #[ wE ] ) ) ⟩ ) ) )
SU ( chs xs m )
SV ( T.done Y rfl rfl rfl hc i _ s5 _ H5 #[ Q3 ] EO ( xh Cz ) AS stop )
SW ( zad _ _ )
SX ( c6 C s.heap.objs.size )
SY ( fun v s2 => wpAny #[ mt ] X.A ( pyIter v ) ( PIE X mq σ tg R ) X.xe s2 )
SZ ( h.mv b hb )
S3 ( 0 , a₀.size , 0 )
S4 ( s.heap.push cr )
S5 ( hD m r D e1 e2 )
S6 ( ak mO.length 0 )
S7 ( .Tuple es k rk )
S8 ( mz H' D ( .lst ys ) )
S9 ( rows , at' , some .nothing )
Ta ( mJ rfl rfl ⟨ .inl #[ IO ] , #[ wE ] ⟩ )
Tc ( mr rfl ( ex4 d _ _ _ ⟨ rfl , rfl , mK.of uK , rfl , rfl , ( mr rfl ( zc5 t1 ?_ ) ) ⟩ ) )
Td ( T.item Y rfl rfl rfl hc i _ s5 _ H5 #[ Q3 ] EO ( xh Cz ) AS go )
Te ( nq #[ O ] )
Tf ( .builtin id )
Tg ( bi c9 yC fT ?_ ( fw _ ) )
Th ( HT.sIx xs.length xs.length hi - HT.sIx xs.length 0 lo )
Ti ( mz H a o )
Tj ( below xs j )
Tk ( .bool true )
Tl ( Option Value )
Tm ⟨ n , #[ M ] , bg _ , h0 ⟩
Tn ( .inr ( .inr #[ KM ] ) )
To ( ns.reverse.map V.int )
Tp ( backTo oz ( starEach es X.env ) )
Tq ( .compLoop #[ on ] 0 it #[ QV ] env )
Ts ⟨ len , fun A outer s H args us vs Q E hr e0 hb r tj => ?_ ⟩
Tt ( zbR CX P w K mg base N qual scope f cd A outer s H E )
Tu ( xl.extBut _ _ Z.zTO.symm ( oq.extBut _ _ Z.z1.symm B0 ) )
Tv ( fun _ _ _ _ n => n )
Tx ( fun s' kk h2 A' Q' E' ub => ?_ )
Ty #[ zn , #[ zL ] , #[ zx , #[ zC ] , #[ QT ] , #[ zh ] ] , #[ zh ] ]
Tz ( cj x x ( zbs st ) ( zaO st ) ( zi st ) .none kV dc pm an cd ct )
TC ( cj x q ( zbs st ) ( zaO st ) ( zi st ) .none kV dc pm an cd ct )
TF ( mO.length - i )
TH ( ltr pp rows at' r D )
TJ #[ pvx , 4 ]
TK ( zf7 s₁.heap H )
TL ( SC.free y hy hf )
TN ( zcY ( zaD i ) ( zcY ( zaD j ) zjK ) )
TQ ( A.deeper ( envOfC qual scope s.heap.objs.size f mV ) )
TU ( .tup ( encD D ) )
TV ⟨ .ref C :: us , kw ⟩
TY ( mr rfl ( ex4 d _ _ _ ⟨ rfl , rfl , mK.of hd2 , rfl , rfl , .inr #[ Db ] ⟩ ) )
TZ ( fun s₃ H₃ ex mq D => zie rfl ( he s₃ H₃ ex mq ) )
T4 ( u1.free hl )
T5 ( putK mI k v )
T6 ( .Name x pos )
T7 ( .tup ( k.map kV ) )
T8 ( hi mq s σ H _ I h )
Ua #[ zx , #[ zaj ] , #[ wn ] , #[ zh ] ]
Ub #[ zn , #[ zci ] , #[ wn ] , #[ zh ] ]
Uc #[ zn , #[ zai ] , #[ QT ] , #[ ww ] ]
Ud ⟨ c0 , c1 , c2 , c3 , c4 , fun p hp => ?_ ⟩
Ue ( mr rfl ⟨ ra , ( mr rfl ⟨ .inl ( mB.of se ) , fun la DE => ?_ ⟩ ) ⟩ )
Uf #[ pvx , 5 ]
Ug ( zbx ix σ )
Uh ( tp a xs e )
Ui ( model P w )
Uj ⟨ rfl , ?_ ⟩
Uk ( some #[ R7 ] )
Ul ( fun _ q => q )
Um ( pl.map V.int )
Uo ( bs.map V.ref )
Up ( fun _ _ z => s _ _ z )
Uq ( sliceBounds lo hi none n )
Ur ( zmw ( ex5 _ _ _ _ _ ⟨ rfl , pj.trans ( sG.trans Ke ) ⟩ ) )
Us ( getMethod ov m pl )
Ut ⟨ lim.keeps x.toInCall.keep , codeAny_func ?_ ⟩
Uu ( mr rfl ( mJ rfl rfl ⟨ .inl #[ P3 ] , ( mJ rfl rfl ( q _ ) ) ⟩ ) )
Uv ( ag ( aa ( aa ( aa ( dg hit.typeIs ( ag ( aa ( gI ho hd ?_ ) ) ) ) ) ) ) )
Uw ( .ref z )
Ux ( .ref e )
Uy ( fun _ _ _ e => e )
Uz ( gh hl.typeIs slot_tuple_getitem.lookup ?_ )
UA ( .ref i2 )
UB ( .ref i1 )
UC ( c8 ha hb )
UD ( mM ( sur #[ Re ] ) )
UE ( I1.hok.fresh hle )
UF ( I.base.free b o e n hx )
UG ( .Attribute o name apos )
UH ( ( T.g.trans #[ SW ] ) _ _ Hd )
UI ( Cg.emod p _ )
UJ ( .List es pL )
UK ( ( p , w ) :: P.zip vs )
UL ( fun c o _ _ oh e _ => ⟨ o.slots , k1 c o oh e ⟩ )
UM #[ ya , #[ pvx , 6 ] ]
UN ( mz H ua #[ o0 ] )
UO ( mz H da #[ o0 ] )
UP ( cG ho hd #[ M ] ?_ )
UQ ( .lst ( rw.map mM ) )
UR ( f ( .int i t ) ( .int j u ) )
US #[ zA , #[ zaX ] , #[ FB ] , #[ zR ] , ( zF _ ) ]
UT ( mr rfl ⟨ ra , ( mr rfl ⟨ .inl ( mB.of se ) , #[ sK ] ⟩ ) ⟩ )
UU ⟨ decide_eq_true #[ O ] , decide_eq_true #[ O ] ⟩
UV ( fun h' c' kp e => fin mC r' hz h' c' kp e )
UW ( some v )
UX ( .ref c )
UY ( arrOf pN )
UZ ( pendingOf nF )
U0 ( eval e X.env )
U1 ( fG ( fj _ ( gq _ ) ) )
U2 ( mz yi sts ( .lst #[ Ri ] ) )
U3 #[ zn , #[ zeB ] , #[ zK , #[ RI ] ] , #[ Q0 ] ]
U4 #[ zc9 , #[ KK ] , #[ ww ] , set_list ]
U5 #[ zan , #[ zc8 , #[ zgT , #[ KK ] , ( fun _ => rfl ) ] ] , #[ zl , #[ zb9 , #[ Ev ] , T.KE , T.Kk , #[ zR ] ] ] , #[ zO ] ]
U6 #[ ya , #[ Rn ] ]
U7 ( typeOf ( .ref x ) )
U8 ( fun _ _ _ _ => #[ zaZ , #[ zA , #[ zcj ] , #[ zx , #[ zbg , ( K ) ] , #[ ww ] , #[ wn ] ] , #[ zaw ] , ( zF _ ) ] ] )
U9 ( dR rfl )
Va ( trF p r )
Vb ( .lst ys )
Vc ( mO.take n )
Vd ( aU f as bs )
Ve ( fun m hm => ?_ )
Vf ( .tup ( zmb d ) )
Vg ( fH ho hd hf ?_ )
Vh ( .cons rfl .nil )
Vi ⟨ u , v , kk _ #[ M ] _ h3 ⟩
Vj ( rows , at' , some .number )
Vl ⟨ zbb , _ , .cons ru ( .cons rv .nil ) , zbK pp ⟩
Vm ( .inr ( .inr ( .inr ( .inr ( .inr ( .inr rfl ) ) ) ) ) )
Vn #[ pvx , 9 ]
Vo #[ pvx , 8 ]
Vp ( .dT mI )
Vq ( r.map mM )
Vr ( mX pl es )
Vs ( u1.trans u2 )
Vt ( I.hok b u e )
Vu ( aq _ ( aD _ hp ) )
Vv #[ zl , #[ zJ , #[ zdS ] ] ]
Vw ⟨ rfl , fun _ _ => rfl ⟩
Vx ( zt4 C s.heap l1 l2 )
Vy ( ho mq s σ H _ I h )
Vz ( hl mq s σ H _ I h )
VA ( hc mq s σ H _ I h )
VB ( h mq s σ H _ I hw )
VC ( .lst ( ls.map V.ref ) )
VD #[ zx , #[ zC ] , #[ TJ ] , #[ pvx , 14 ] ]
VE #[ zl , #[ za2 , #[ zcZ , bv , de , df , #[ zb7 ] , #[ KK ] , #[ ya , #[ zaf , #[ za , #[ ww ] , #[ za , #[ QT ] , #[ U6 ] ] ] ] ] ] ] ]
VF ( σ.set i none )
VG ( zbQ w a ep es )
VH ( y - zw p x cs )
VI ( lookup_mem vO )
VJ ( lookup_mem Bd )
VL ( leap mask i q )
VM ( binaryOp .Add )
VN ( I.ok.bs b o e )
VO ( hm s3 H2 _ mq s2.heap.objs.size )
VP ( cw ( aa ( bw hz rfl ( x := .ref TO ) rfl ?_ ) ) )
VQ #[ ya , #[ QT ] ]
VR ( zcM I hg hm ?_ AU )
VS ( assign #[ RQ ] X.env )
VT ( ak yg.length none )
VU ( .ref hp.objs.size )
VV ( kk _ _ Z.zTI Z.TT Z.T1 Z.T2 xk )
VW ( fun b o hb e => oK.extBut b o hb e )
VX ( fi ( some none , st.snd.fst , st.snd.snd ) )
VY ( bi zaS hit.typeIs zc3 ?_ ( zdG _ ) )
VZ ( zgv pl rw )
V0 ( s4 _ _ yN )
V1 ( ps.zip us )
V2 ( mO.take i )
V3 ( pI.same #[ RF ] )
V4 ( mO.map ( md p ) )
V5 ( lo + st.snd.fst )
V6 #[ zl , #[ zJ , #[ On ] ] ]
V7 #[ za , #[ wn ] , #[ RT ] ]
V8 #[ za , #[ Rn ] , #[ Q4 ] ]
V9 ⟨ _ , hns₁ , fun j x v e1 e2 e3 => ?_ ⟩
Wa ( t1.trans ( t2.trans ( t3.trans t4 ) ) )
Wb ( sB.trans ( u4.trans ( u5.trans u6 ) ) )
Wc ( fun c o _ _ oh e _ => k1 c o oh e )
We ( bw hz rfl ( x := .bool false ) rfl ?_ )
Wf ( .compLoop #[ wf ] d #[ Q7 ] #[ QV ] Y.env )
Wg ( .int p )
Wh ( CX1 P w )
Wi ( .frz o u )
Wj ( zaq f v fs )
Wk ( vx.es.map mM )
Wl ( us.map V.ref )
Wm ( slotAt w t i )
Wn ( eval o X.env )
Wo ( compareOp op )
Wp ( bd xs.length )
Wq ( ad p f cs vs )
Wr ( TP X mq σ Q )
Ws ( quo p r ( d :: cs ) )
Wt ( fun l => V.ref l.sa )
Wu ( fun f vs => lj f vs )
Wv ( compareOp .NotEq )
Ww ( Str -> Option Value )
Wx #[ zn , #[ zhZ ] , #[ zh ] , #[ zh ] ]
Wy #[ zn , #[ zai ] , #[ zh ] , #[ ww ] ]
Wz #[ zn , #[ zae ] , #[ Vo ] , #[ zh ] ]
WA #[ zn , #[ zae ] , #[ QT ] , #[ zh ] ]
WB ⟨ m , hm , fun yu oK => ⟨ .ref D , _ , ?_ , rfl , q' ⟩ ⟩
WC ( fun _ _ _ _ => #[ zaZ , #[ zA , #[ zcj ] , #[ ww ] , #[ zaw ] , ( zF _ ) ] ] )
WD ( S.h.dr hh ( n + 1 ) b #[ Te ] nA.toArray )
WE ( .compLoop #[ wf ] d it #[ QV ] Y.env )
WF ⟨ rfl , #[ Db ] ⟩
WG ⟨ w' , z.sameBut hs ( cne y c e ) ⟩
WH ( fun _ _ _ _ => #[ zn , #[ zL ] , #[ zn , #[ zbf ] , #[ wn ] , #[ Uc ] ] , #[ Rn ] ] )
WI ( fun _ _ _ _ => #[ zn , #[ zL ] , #[ zn , #[ zae ] , #[ wn ] , #[ Uc ] ] , #[ Rn ] ] )
WJ ( bw he rfl ( x := .ref z ) rfl ( aa ?_ ) )
WK ( bi dk hit.typeIs gr ?_ ( gk _ ) )
WL ( bi dA hit.typeIs gR ?_ ( gE _ ) )
WM ( I7.pin ( b , o ) ( aq _ ( aq _ ( zbl hb e ) ) ) )
WN ( mB X.K )
WO ( .int i )
WP ( some #[ RQ ] )
WQ ( cS ( aa ?_ ) )
WR ( fun b hb => ?_ )
WS ( zbQ X.w a ep es )
WT ( rows.take ( at' + 1 ) )
WU ( fun x1 x2 => x1 ++ x2 )
WV #[ zx , #[ zC ] , #[ KK ] , #[ ww ] ]
WW #[ zn , #[ zL ] , #[ R5 ] , #[ zh ] ]
WX ⟨ k , c , e , z.sameBut hs ( cne y c e ) ⟩
WY ⟨ _ , BX , fun j y v' e1 e2 e3 => ?_ ⟩
WZ ⟨ .int ( g i j ) , H , I.tok _ , ⟨ _ , rfl ⟩ , q ⟩
W0 ( fun s' A' kk => zl0 I hT hB kk )
W1 ( .BoolOp .And ( b :: rest ) pos )
W2 ( hit p q )
W3 ( hf b hb )
W4 ( aq _ aA )
W5 ( Itl K a )
W6 ( .ref mH )
W7 ( .int sl )
W8 ( v ++ ak ( m + 1 ) 0 )
W9 ( tOp r ta tb )
Xa ( s4.trans v6 )
Xb ( s1.trans s2 )
Xd ( e0.bs b o e )
Xe ( Ge b o e hx )
Xf ( .bool false )
Xg ( vs.toArray.zip vs.toArray )
Xh ( ha pos mq s1 σ H1 _ I1 q )
Xi ( fun d v' hd q => k1 d v' ?_ q )
Xj ( bw hz rfl ( x := .ref TI ) rfl ?_ )
Xk ( bw ho hd ( x := .int _ 0 ) rfl ?_ )
Xm ( .int x )
Xn #[ zbg , ( K ) ]
Xo ( xs.map f )
Xp ( .ref sts )
Xq ( qs.take i )
Xr ( SP X mq D )
Xs ( .ref ( n + 1 ) )
Xt ( .bl false )
Xu ( .Name x p )
Xv ( none , 0 + a₀.size )
Xw ( nh.same ( zd hD ) )
Xx ( h.push ( zcy l1 ) )
Xy ( fun j h1 h2 => ?_ )
Xz ⟨ hn b hb , a1 , a2 , a3 , a4 , fun p hp => ?_ ⟩
XA ( zdm p pl rw qq pl.length )
XB ( zc4 ( P := P ) ( w := w ) ( base := base ) ( m + 1 ) T F )
XC ( sA.trans ( zd ( o := .rng 0 p ) Ef ) )
XD ( lq hh ( n + 1 ) b #[ Te ] nA.toArray )
XE ( letOwnedTupleGo tg #[ Q7 ] u )
XF #[ za2 , #[ zcN , #[ wn ] , T.cl , T.Kv , nj , #[ pc ] , mU , #[ zeO ] , #[ RT ] ] ]
XG ( fun _ => none )
XH ⟨ b , _ , rfl , mK.of Ir , rfl , _ , _ , rfl , _ , _ , rfl , rfl , ?_ ⟩
XI ( zbG I hg hm hv ?_ hn AU )
XJ ( s2.heap.objs.size :: fp )
XL ( bw ho hd ( x := .ref t ) rfl ?_ )
XM ( bw ho hd ( x := .ref l ) rfl ?_ )".splitOn "\n").find? (·.startsWith s) with
 |some l=>return ((<-XN 400 0 ((l.splitOn " ").drop 1)).1.head!)
 |none=>Lean.Macro.throwUnsupported
noncomputable section
set_option Elab.async false
set_option linter.all false
set_option maxRecDepth 100000
namespace L2
open PySem PySem.Spec PyProof.Rows
variable {A:Around} {C it:Addr} {CX:CXT} {H H':Hp} {K:af} {M:Model} {N:List Str} {R:Result->Shared->Prop} {X:Cx} {an od:Option Addr} {base h:Heap} {cd ct doc mV oc pm:Value} {ch fp:List Addr} {env:Env} {fd:FuncData} {j k t' tk:Nat} {kw:List (Str×Value)} {m qual:Str} {mC us vs:List Value} {mg:Str->Option Value} {mq oS:List (Addr×Obj)} {outer:List Env} {pos:Pos} {prog:Program} {s s' s1:Shared} {scope:Scope} {sp:Sp} {tg:Expr} {w:World} {xs:List V} {y:V} {yb:Array #[Tl]}
abbrev Key:=Sum Int Str
noncomputable def zft:Key->Value->Bool
 | .inl k,v=>gM k v
 | .inr x,v=>lP x v
noncomputable def zpE (w:World):Key->Int
 | .inl k=>hashInt k
 | .inr x=>hashStr w x
theorem zam:∀ {k:Key} {v:Value},zft k v=true->(∃ i t,k=cN i/\v=cK i t)\/(∃ x t,k=im x/\v=iJ x t)
 | .inl i,v,h=>by
  obtain⟨t,e⟩:=ky (k:=i) (v:=v) h;exact .inl ⟨i,t,rfl,e⟩
 | .inr x,v,h=>by
  obtain⟨t,e⟩:=Value.isStrOf_shape (x:=x) (v:=v) h;exact .inr ⟨x,t,rfl,e⟩
theorem zjG (i:Int) (t:Tok):zft (.inl i) (.int i t)=true:=by simp [zft,gM]
theorem zjH (x:Str) (t:Tok):zft (.inr x) (.str x t)=true:=by simp [zft,lP]
theorem znV (a b:Int):decide ((cN a:Key)=cN b)=(a == b):=by
 by_cases e:a=b
 ·subst e; simp
 ·have h:¬ (cN a:Key)=cN b:=fun q=>e (mf q)
  rw [decide_eq_false h];exact (beq_eq_false_iff_ne.mpr e).symm
theorem znW (a b:Str):decide ((im a:Key)=im b)=decide (a=b):=by
 by_cases e:a=b
 ·subst e; simp
 ·have h:¬ (im a:Key)=im b:=fun q=>e (Sum.inr.inj q)
  rw [decide_eq_false h,decide_eq_false e]
theorem znX (a:Int) (b:Str):decide ((cN a:Key)=im b)=false:=decide_eq_false (fun q=>nomatch q)
theorem znY (a:Str) (b:Int):decide ((im a:Key)=cN b)=false:=decide_eq_false (fun q=>nomatch q)
noncomputable def zav (prog:Program) (w:World):PySem.KeyKind prog w Key where
 is:=zft
 hash:=zpE w
 inj:=fun v a b ha hb=>by
  rcases zam ha with ⟨i,t,rfl,rfl⟩ | ⟨x,t,rfl,rfl⟩
  ·rcases zam hb with ⟨j,u,rfl,e⟩ | ⟨y,u,rfl,e⟩
   ·injection e with e1 _; rw [e1]
   ·exact nomatch e
  ·rcases zam hb with ⟨j,u,rfl,e⟩ | ⟨y,u,rfl,e⟩
   ·exact nomatch e
   ·injection e with e1 _; rw [e1]
 byValue:=fun k v h=>by
  rcases zam h with ⟨i,t,rfl,rfl⟩ | ⟨x,t,rfl,rfl⟩ <;> rfl
 pyHash:=fun hv h=>by
  rcases zam hv with ⟨i,t,rfl,rfl⟩ | ⟨x,t,rfl,rfl⟩
  ·exact wpAny_pyHash_int h
  ·exact wpAny_pyHash_str h
 eqBool:=fun hu hv h=>by
  rcases zam hu with ⟨i,t,rfl,rfl⟩ | ⟨x,t,rfl,rfl⟩
  ·rcases zam hv with ⟨j,u,rfl,rfl⟩ | ⟨y,u,rfl,rfl⟩
   ·rw [znV] at h; exact wpAny_eqBool_int h
   ·rw [znX] at h; exact jW i t y u _ _ _ _ h
  ·rcases zam hv with ⟨j,u,rfl,rfl⟩ | ⟨y,u,rfl,rfl⟩
   ·rw [znY] at h; exact jX x t j u _ _ _ _ h
   ·rw [znW] at h; exact wpAny_eqBool_str h
 «strs»:=fun k x t v h=>by
  rcases zam h with ⟨i,u,rfl,e⟩ | ⟨y,u,rfl,e⟩
  ·exact nomatch e
  ·injection e with e1 _
   subst e1;cases v <;> rfl
theorem zgQ (prog:Program) (w:World) (i:Int) (t:Tok):(zav prog w).is (.inl i) (.int i t)=true:=zjG i t
theorem zgR (prog:Program) (w:World) (x:Str) (t:Tok):(zav prog w).is (.inr x) (.str x t)=true:=zjH x t
inductive V where
 | non | bl (b:Bool) | int (i:Int) | str (x:Str) | byt (b:Array UInt8) | flt (b:UInt64) | ref (a:Addr) | ty (n:String)
 deriving DecidableEq
noncomputable def RelV:V->Value->Prop
 | .non,u=>u=bW
 | .bl b,u=>u=eB b
 | .int i,u=>∃ t,u=cK i t
 | .str x,u=>∃ t,u=iJ x t
 | .byt b,u=>∃ t,u=Value.bytes b t
 | .flt b,u=>∃ t,u=kL b t
 | .ref a,u=>u=aL a
 | .ty n,u=>u=ff n
abbrev zH:List V->List Value->Prop:=Paired RelV
theorem zH.length (r:zH xs us):xs.length=us.length:=fL r
theorem zH.get:∀ {xs:List V} {us:List Value} {i:Nat} {x:V},zH xs us->xs[i]? = some x->∃ u,us[i]? = some u/\RelV x u
 | _,_,_,_,.nil,e=>by simp at e
 | _,_,0,_,.cons r _,e=>by simp at e; subst e; exact⟨_,rfl,r⟩
 | _,_,i+1,x,.cons _ t,e=>by
  obtain⟨u,h1,h2⟩:=zH.get (i:=i) (x:=x) t (by simpa using e);exact⟨u,by simpa using h1,h2⟩
theorem zH.set {x:V} {u:Value} (r:RelV x u):∀ {xs:List V} {us:List Value} (i:Nat),zH xs us->zH (xs.set i x) (us.set i u)
 | _,_,_,.nil=>.nil
 | _,_,0,.cons _ t=>.cons r t
 | _,_,i+1,.cons q t=>.cons q (zH.set r i t)
theorem zH.append:∀ {xs ys:List V} {us ws:List Value},zH xs us->zH ys ws->zH (xs++ys) (us++ws)
 | _,_,_,_,.nil,s=>s
 | _,_,_,_,.cons r t,s=>.cons r (zH.append t s)
theorem zH.take:∀ {xs:List V} {us:List Value} (n:Nat),zH xs us->zH (xs.take n) (us.take n)
 | _,_,0,_=>.nil
 | _,_,_+1,.nil=>.nil
 | _,_,n+1,.cons r t=>.cons r (zH.take n t)
theorem zH.drop:∀ {xs:List V} {us:List Value} (n:Nat),zH xs us->zH (xs.drop n) (us.drop n)
 | _,_,0,r=>r
 | _,_,_+1,.nil=>.nil
 | _,_,n+1,.cons _ t=>zH.drop n t
noncomputable def zdI:Option V->Option Value->Prop
 | some v,some u=>RelV v u
 | none,none=>True
 | _,_=>False
noncomputable def KV {κ:Type}:List (κ×V)->List (κ×Value)->Prop:=Paired fun (p:κ×V) (q:κ×Value)=>p.1=q.1/\RelV p.2 q.2
noncomputable def kV:Key->V
 | .inl i=>.int i
 | .inr x=>.str x
inductive HO where
 | lst (xs:List V)
 | tup (xs:List V)
 | dK (mI:List (Key×V)) | dT (mI:List (List Key×V))
 | set (S:Int->Bool) (n:Nat)
 | ins (C dx:Addr) (fs:List (Str×V))
 | own (x:Addr)
 | xd (fs:List (Str×V))
 | met (f x:Addr)
 | rng (lo hi:Int)
 | frz (o:Obj) (u:HO)
 | tbl (ps:Array Value)
 | ext (φ:Heap->Prop)
abbrev Hp:=Addr->Option HO
noncomputable def mz (H:Hp) (a:Addr) (o:HO):Hp:=fun b=>if b=a then some o else H b
theorem zb {a:Addr} {o:HO}:mz H a o a=some o:=by unfold mz; rw [if_pos rfl]
theorem zg {a b:Addr} {o:HO} (h:b≠a):mz H a o b=H b:=by unfold mz; rw [if_neg h]
theorem zf6 {a:Addr} {o u:HO}:mz #[Ti] a u=mz H a u:=by
 funext b; unfold mz; split <;> rfl
theorem zaV {a b:Addr} {o u:HO} (h:H a=some o) (h':H b=some u) (d:o≠u):a≠b:=by
 intro e; subst e; rw [h] at h'; exact d (aN h')
theorem zj {a b:Addr} {o:HO} (h:H a=some o) (h':H b=none):a≠b:=by
 intro e; subst e; rw [h] at h'; cases h'
section
variable (P:Program) (w:World)
noncomputable def zW (H:Hp) (h:Heap) (a:Addr):HO->Prop
 | .lst xs=>xs.length<=sizeLine/\∃ (mC:List Value) (n:Nat),zH xs mC/\h.get? a=some { cls:=.type "list",data:=.seq mC.toArray n }
 | .tup xs=>xs.length<=sizeLine/\∃ mC:List Value,zH xs mC/\IsTup h a mC.toArray
 | .dK mI=>mI.length<=sizeLine/\(a == sysModules)=false/\∃ vs,KV mI vs/\h.DictOf (zav P w) a vs
 | .dT mI=>mI.length<=sizeLine/\(a == sysModules)=false/\∃ xs:List (List Key×Addr×Value),
   Paired (fun (p:List Key×V) (q:List Key×Addr×Value)=>p.1=q.1/\H q.2.1=some (.tup (p.1.map kV))/\RelV p.2 q.2.2) mI xs /\
   ∃ o es ep,h.get? a=some o/\o.ExactDict/\o.data = .dict es ep/\es.toList=xs.map (entryOfKey #[RN])/\(xs.map (·.1)).Nodup
 | .set S n=>h.SetOf (intKind P w) a S n
 | .ins C dx fs=>H dx=some (.own a)/\fs.length<=1000/\dx≠a/\h.get? a=some (c6 C dx) /\
   ∃ mA,h.Ns1 dx mA/\(∀ f,zdI (fs.lookup f) (mA f))/\jY mA (fs.map (·.1))
 | .own _=>∃ o,h.get? a=some o
 | .xd fs=>∃ mA,h.Ns1 a mA/\∀ f,zdI (fs.lookup f) (mA f)
 | .rng lo hi=>∃ t u v,h.get? a=some { cls:=.type "range",data:=.fields #[PP] }
 | .frz o u=>h.get? a=some o/\zW H h a u
 | .tbl ps=>h.get? a=some { cls:=.none,data:=.fields ps }
 | .met f x=>h.get? a=some (ia #[R7] (.ref x))
 | .ext φ=>φ h/\(∃ o,h.get? a=some o)/\∀ h1 h2:Heap,φ h1->(∀ o,h1.get? a=some o->h2.get? a=some o)->φ h2
noncomputable def HOk (H:Hp) (h:Heap):Prop:=∀ a o,H a=some o->zW P w H h a o
end
section
variable {P:Program} {w:World} {H H':Hp} {h h':Heap} {a:Addr} {o:HO}
theorem zW.lt (x:zW P w H h a o):a < h.objs.size:=by
 cases o with
 | lst xs=>obtain⟨_,_,_,_,e⟩:=x; exact aB e
 | tup xs=>obtain⟨_,_,_,p⟩:=x; exact p.lt
 | dK mI=>obtain⟨_,_,_,_,o,_,_,e,_⟩:=x; exact aB e
 | dT mI=>obtain⟨_,_,_,_,o,_,_,e,_⟩:=x; exact aB e
 | set S n=>obtain⟨o,_,_,_,e,_⟩:=x; exact aB e
 | ins C dx fs=>obtain⟨_,_,_,e,_⟩:=x; exact aB e
 | own y=>obtain⟨_,e⟩:=x; exact aB e
 | xd fs=>obtain⟨_,⟨_,_,_,e,_⟩,_⟩:=x; exact aB e
 | rng lo hi=>obtain⟨_,_,_,e⟩:=x; exact aB e
 | frz ob u=>obtain⟨e,_⟩:=x; exact aB e
 | tbl ps=>exact aB (show h.get? a=some _ from x)
 | met f y=>exact aB (show h.get? a=some _ from x)
 | ext φ=>obtain⟨_,⟨_,e⟩,_⟩:=x; exact aB e
theorem Paired.QI {α β:Type} {F G:α->β->Prop}:∀ {l₁:List α} {l₂:List β},Paired F l₁ l₂->(∀ a b,F a b->G a b)->Paired G l₁ l₂
 | _,_,.nil,_=>.nil
 | _,_,.cons r t,f=>.cons (f _ _ r) (Paired.QI t f)
theorem zW.Nm (x:zW P w H h a o) (k:∀ b u,(b=a\/H b=some (.own a))->h.get? b=some u->h'.get? b=some u)
  (ho:∀ b,H b=some (.own a)->H' b=some (.own a)) (ht:∀ b xs,H b=some #[Rp]->H' b=some #[Rp]):zW P w H' h' a o:=by
 induction o with
 | lst xs=>obtain⟨z,mC,n,r,e⟩:=x; exact⟨z,mC,n,r,k _ _ #[KM] e⟩
 | tup xs=>obtain⟨z,mC,r,ob,e,c⟩:=x; exact⟨z,mC,r,ob,k _ _ #[KM] e,c⟩
 | dK mI=>obtain⟨z,y,vs,r,ob,es,ep,e,c⟩:=x; exact⟨z,y,vs,r,ob,es,ep,k _ _ #[KM] e,c⟩
 | dT mI =>
  obtain⟨z,y,xs,r,ob,es,ep,e,c⟩:=x;exact⟨z,y,xs,Paired.QI r fun p q z=>⟨z.1,ht _ _ z.2.1,z.2.2⟩,ob,es,ep,k _ _ #[KM] e,c⟩
 | set S n=>obtain⟨ob,es,ep,t,e,c⟩:=x; exact⟨ob,es,ep,t,k _ _ #[KM] e,c⟩
 | ins C dx fs =>
  obtain⟨d,z,ne,e,mA,⟨od,es,ep,e2,c⟩,r⟩:=x;exact⟨ho _ d,z,ne,k _ _ #[KM] e,mA,⟨od,es,ep,k _ _ (.inr d) e2,c⟩,r⟩
 | own y=>obtain⟨ob,e⟩:=x; exact⟨ob,k _ _ #[KM] e⟩
 | xd fs=>obtain⟨mA,⟨od,es,ep,e,c⟩,r⟩:=x; exact⟨mA,⟨od,es,ep,k _ _ #[KM] e,c⟩,r⟩
 | rng lo hi=>obtain⟨t,u,v,e⟩:=x; exact⟨t,u,v,k _ _ #[KM] e⟩
 | frz ob u ih=>obtain⟨e,q⟩:=x; exact⟨k _ _ #[KM] e,ih q⟩
 | tbl ps =>
  have e:h.get? a=some { cls:=.none,data:=.fields ps }:=x;show h'.get? a=some { cls:=.none,data:=.fields ps };exact k a _ #[KM] e
 | met f y =>
  have e:h.get? a=some (ia #[R7] (.ref y)):=x;show h'.get? a=some (ia #[R7] (.ref y));exact k a _ #[KM] e
 | ext φ=>obtain⟨p,⟨o,e⟩,st⟩:=x; exact⟨st _ _ p fun o q=>k _ _ #[KM] q,⟨o,k _ _ #[KM] e⟩,st⟩
theorem HOk.lt (x:HOk P w H h) (e:H a=some o):a < h.objs.size:=(x a o e).lt
theorem HOk.fresh (x:HOk P w H h) (e:h.objs.size<=a):H a=none:=by
 cases q:H a with
 | none=>rfl
 | some u=>exact absurd (aR (x.lt q) e) (bX _)
theorem HOk.kept (x:HOk P w H h) (k:∀ b u,h.get? b=some u->h'.get? b=some u):HOk P w H h':=fun a o e =>
 (x a o e).Nm (fun b u _ q=>k b u q) #[Ul] fun _ _ q=>q
theorem HOk.laid (x:HOk P w H h) (k:∀ b u,h.get? b=some u->h'.get? b=some u) (hp:h.objs.size<=a) (new:zW P w #[Ti] h' a o):HOk P w #[Ti] h':=fun b u e=>by
 have hn:=x.fresh hp;by_cases hb:b=a
 ·subst hb; rw [zb] at e; cases e; exact new
 ·rw [zg hb] at e;exact (x b u e).Nm (fun c v _ q=>k c v q) (fun c q=>by rw [zg (zj q hn)]; exact q) fun c xs q=>by rw [zg (zj q hn)]; exact q
end
noncomputable def Rd (H:Hp) (a:Addr) (u:HO):Prop:=H a=some u\/∃ o,H a=some #[Wi]
theorem Rd.ok {P:Program} {a:Addr} {u:HO} (r:Rd H a u) (x:HOk P w H h):zW P w H h a u:=by
 rcases r with r | ⟨o,r⟩
 ·exact x a u r
 ·obtain⟨_,q⟩:=x a _ r;exact q
noncomputable def Mut:Option HO->Prop
 | some (.lst _)=>True
 | some (.dK _)=>True
 | some (.dT _)=>True
 | some (.set _ _)=>True
 | some (.ins _ _ _)=>True
 | some (.ext _)=>True
 | _=>False
section
variable {P:Program} {w:World} {H:Hp} {h h':Heap} {x e:Addr} {o':HO}
theorem HOk.write (ok:HOk P w H h) (mu:Mut (H x)) (he:e=x\/H e=some (.own x)) (k:∀ b u,b≠e->h.get? b=some u->h'.get? b=some u) (DZ:∃ u,h'.get? e=some u)
  (new:zW P w (mz H x o') h' x o'):HOk P w (mz H x o') h':=fun b u q=>by
 have EC:∀ c y,H c=some (.own y)->c≠x:=fun c y r z=>by subst z; rw [r] at mu; exact mu
 have Hh:∀ c xs,H c=some #[Rp]->c≠x:=fun c xs r z=>by subst z; rw [r] at mu; exact mu
 by_cases hb:b=x
 ·subst hb; rw [zb] at q; cases q; exact new
 ·rw [zg hb] at q;by_cases Cu:b=e
  ·have q':H b=some (.own x):=by
    rcases he with z | z
    ·exact absurd (Cu.trans z) hb
    ·rw [Cu]; exact z
   rw [q] at q'; cases q';obtain⟨v,hv⟩:=DZ;exact⟨v,by rw [Cu]; exact hv⟩
  ·refine (ok b u q).Nm (fun c v hc r=>k c v ?_ r) (fun c r=>by rw [zg (EC c b r)]; exact r) fun c xs r=>by rw [zg (Hh c xs r)]; exact r
   rcases hc with rfl | hc
   ·exact Cu
   ·rintro rfl;rcases he with z | z
    ·exact EC c b hc z
    ·rw [hc] at z; cases z; exact hb rfl
end
structure Un (fs ex:List Addr) (H H':Hp) (h h':Heap):Prop where
 keep:∀ b o,h.get? b=some o->H b=none->b∉fs->b∉ex->h'.get? b=some o
 slot:∀ b o,h.get? b=some o->H b=none->b∈fs->b∉ex->∃ sl,h'.get? b=some { o with slots:=sl }
 free:∀ b o,h.get? b=some o->H b=none->b∉ex->H' b=none
 there:∀ b o,h.get? b=some o->b∉ex->∃ o',h'.get? b=some o'
 MD:∀ b xs,H b=some #[Rp]->H' b=some #[Rp]
 MS:∀ b o u,H b=some #[Wi]->H' b=some #[Wi]
 MV:∀ b ps,H b=some (.tbl ps)->∃ more,H' b=some (.tbl (ps++more))
section
variable {fs fs' ex ex':List Addr} {H H1 H2:Hp} {h h1 h2 h':Heap} {a x e:Addr} {o:HO}
theorem Un.any (u:Un fs ex H H1 h h1) {b:Addr} {ob:Obj} (q:h.get? b=some ob) (n:H b=none) (hx:b∉ex):∃ sl,h1.get? b=some { ob with slots:=sl }:=by
 by_cases hb:b∈fs
 ·exact u.slot b ob q n hb hx
 ·exact⟨ob.slots,u.keep b ob q n hb hx⟩
theorem Un.kept (k:∀ b u,h.get? b=some u->h'.get? b=some u):Un fs ex H H h h' :=
 ⟨fun b ob q _ _ _=>k b ob q,fun b ob q _ _ _=>⟨ob.slots,k b ob q⟩,fun _ _ _ n _=>n,fun b ob q _=>⟨ob,k b ob q⟩,fun _ _ q=>q,fun _ _ _ q=>q,fun _ ps q=>⟨#[],by rw [q]; simp⟩⟩
theorem Un.refl:Un fs ex H H h h:=Un.kept fun _ _ q=>q
theorem Un.laid (k:∀ b u,h.get? b=some u->h'.get? b=some u) (hp:h.objs.size<=a) (hn:H a=none):Un fs ex H #[Ti] h h' where
 keep:=fun b u q _ _ _=>k b u q
 slot:=fun b u q _ _ _=>⟨u.slots,k b u q⟩
 free:=fun b u q n _=>by rw [zg (aO (aR (aB q) hp))]; exact n
 there:=fun b u q _=>⟨u,k b u q⟩
 MD:=fun b xs q=>by rw [zg (zj q hn)]; exact q
 MS:=fun b u xs q=>by rw [zg (zj q hn)]; exact q
 MV:=fun b ps q=>⟨#[],by rw [zg (zj q hn),q]; simp⟩
theorem Un.write (mu:Mut (H x)) (he:e=x\/H e=some (.own x)) (k:∀ b u,b≠e->h.get? b=some u->h'.get? b=some u) (DZ:∃ u,h'.get? e=some u):Un fs ex H (mz H x o) h h':=by
 have hx:∀ b,H b=none->b≠x:=fun b n z=>by subst z; rw [n] at mu; exact mu
 have hb:∀ b,H b=none->b≠e:=fun b n z=>by
  subst z;rcases he with r | r
  ·exact hx b n r
  ·rw [n] at r; cases r
 have hm:∀ b u,H b=some u->¬ Mut (some u)->b≠x:=fun b u q nm z=>by subst z; rw [q] at mu; exact nm mu
 refine⟨fun b u q n _ _=>k b u (hb b n) q,fun b u q n _ _=>⟨u.slots,k b u (hb b n) q⟩,fun b u q n _=>by rw [zg (hx b n)]; exact n,fun b u q _=>?_,
  fun b xs q=>by rw [zg (hm b _ q fun z=>z)]; exact q,fun b u xs q=>by rw [zg (hm b _ q fun z=>z)]; exact q,fun b ps q=>⟨#[],by rw [zg (hm b _ q fun z=>z),q]; simp⟩⟩
 by_cases Cu:b=e
 ·subst Cu; exact DZ
 ·exact⟨u,k b u Cu q⟩
end
noncomputable def trk (h:Heap) (H:Hp):List Addr:=(bd h.objs.size).filter fun a=>(H a).isSome
noncomputable def zf7 (h:Heap) (H:Hp):Heap:=dq h (trk h H)
theorem zjI (h:Heap) (H:Hp):(zf7 h H).objs.size=h.objs.size:=PySem.W.hideAll_size _ _
theorem zk1 {b:Addr} {o:Obj} (e:h.get? b=some o) (n:H b=none):(zf7 h H).get? b=some o :=
 eP _ e fun hm=>by
  have q:(H b).isSome=true:=(cL.mp hm).2;rw [n] at q; simp at q
theorem zmz {b:Addr} {o:Obj} (e:(zf7 h H).get? b=some o):h.get? b=some o/\H b=none:=by
 have e':h.get? b=some o:=gP (trk h H) e;refine⟨e',?_⟩;cases q:H b with
 | none=>rfl
 | some x =>
  have hm:b∈trk h H:=cL.mpr ⟨bN.mpr (aB e'),by simp [q]⟩;have z:(zf7 h H).get? b=none:=jm (trk h H) hm;rw [z] at e; cases e
structure Mod (K:af) (mg:Str->Option Value) (base:Heap):Prop where
 kin:K.In base
 glob:base.Ns mainGlobals mg
 blt:∃ mb,base.Ns builtinsNs mb/\∀ x:Str,x≠"__name__"->mb x=bootBuiltins x
 nolimit:base.NoLimit
structure Cx where
 prog:Program
 w:World
 K:af
 mg:Str->Option Value
 base:Heap
 A:Around
 N:List Str
 s₀:Shared
 H₀:Hp
 env:Env
 outer:List Env
 stack:List Env
 ex:List Addr
 fn:Str->Bool
 calm:Bool
 pn:List (Addr×Obj)
 xe:Value->Shared->Prop
noncomputable def frs (l:List Env):List Addr:=l.filterMap (·.frame)
abbrev Cx.fs (X:Cx):List Addr:=frs X.outer
noncomputable def Vis (sc:Scope) (x:Str):Prop:=sc.names.lookup x=some .local\/sc.names.lookup x=some .cell\/sc.names.lookup x=some .free
noncomputable def Loc (sc:Scope) (x:Str):Prop:=sc.names.lookup x=some .local\/sc.names.lookup x=some .cell
noncomputable def Look (env:Env) (h:Heap) (m:Str->Option Value) (x:Str) (u:Value):Prop :=
 (env.kindOf x=some .local/\m x=some u)\/((env.kindOf x=some .cell\/env.kindOf x=some .free)/\∃ c,env.cells.lookup x=some c/\h.IsCell c (some u))
structure Cx.Ok (X:Cx):Prop where
 mod:Mod X.K X.mg X.base
 kind:X.env.scope.kind = .function
 glob:X.env.globals=mainGlobals
 blt:X.env.builtins=builtinsNs
 above:X.s₀.heap.objs.size<=X.env.locals
 inj:∀ x y c,X.env.cells.lookup x=some c->X.env.cells.lookup y=some c->x=y
 has:∀ x,(X.env.kindOf x=some .cell\/X.env.kindOf x=some .free)->∃ c,X.env.cells.lookup x=some c
 cab:∀ x c,X.fn x=true->X.env.cells.lookup x=some c->X.s₀.heap.objs.size<=c
 hd:X.calm=true->X.A.handled=none
 frames:X.A.frames=some X.stack
 stk:X.stack=X.outer\/(X.stack=X.env :: X.outer/\X.env.frame=some X.env.locals)
 exf:∀ b∈X.ex,b≠X.env.locals/\∀ x c,X.env.cells.lookup x=some c->c≠b
 bs:∀ b o,X.base.get? b=some o->X.s₀.heap.get? b=some o/\X.H₀ b=none
 bsz:X.base.objs.size<=X.s₀.heap.objs.size
 PX:∀ b o,X.base.get? b=some o->b∉X.ex
 Ql:∀ b∈X.ex,b∉X.fs
 Nu:X.s₀.heap.FunFrames X.base X.outer
 frf:∀ b∈X.fs,X.H₀ b=none
structure Inv (X:Cx) (mq:List (Addr×Obj)) (σ:List (Option V)) (H:Hp) (s:Shared):Prop where
 ok:X.Ok
 os:s.os=X.s₀.os
 bare:AllBare s.gens
 base:Un X.fs X.ex X.H₀ H X.s₀.heap s.heap
 loc:∃ m,s.heap.Ns X.env.locals m/\∀ (i:Nat) (x:Str) (v:V),X.N[i]? = some x->σ[i]? = some #[UW]->Vis X.env.scope x->∃ u,RelV v u/\Look X.env s.heap m x u
 cell:∀ x c,X.env.cells.lookup x=some c->∃ v,s.heap.IsCell c v
 free:H X.env.locals=none
 KH:∀ x c,X.env.cells.lookup x=some c->H c=none
 pin:∀ p∈X.pn++mq,s.heap.get? p.1=some p.2/\H p.1=none/\p.1≠X.env.locals/\p.1∉X.fs/\∀ v,p.2.data≠.cell v
 hok:HOk X.prog X.w H s.heap
 len:σ.length=X.N.length
section
variable {X:Cx} {mq:List (Addr×Obj)} {σ:List (Option V)} {H H':Hp} {s:Shared} {h':Heap}
theorem Cx.Ok.QP (ok:X.Ok) {b:Addr} {o:Obj} (e:X.base.get? b=some o):b∉X.fs:=fun hb=>by
 have:=(ok.Nu.mem hb).1;rw [e] at this; cases this
theorem Inv.bs (I:Inv X mq σ H s):∀ b o,X.base.get? b=some o->s.heap.get? b=some o/\H b=none:=fun b o e =>
 ⟨I.base.keep b o #[VN].1 #[VN].2 (I.ok.QP e) (I.ok.PX b o e),I.base.free b o #[VN].1 #[VN].2 (I.ok.PX b o e)⟩
theorem Inv.bk (I:Inv X mq σ H s):∀ b o,X.base.get? b=some o->s.heap.get? b=some o:=fun b o e=>(I.bs b o e).1
theorem Inv.mod (I:Inv X mq σ H s):Mod X.K X.mg X.base:=I.ok.mod
theorem Inv.kIn (I:Inv X mq σ H s):X.K.In s.heap:=I.ok.mod.kin.keeps I.bk
theorem Inv.lt (I:Inv X mq σ H s):X.env.locals < s.heap.objs.size:=let ⟨_,hn,_⟩:=I.loc; hn.lt
theorem Inv.sz (I:Inv X mq σ H s):X.s₀.heap.objs.size<=s.heap.objs.size:=bn I.ok.above (io I.lt)
theorem Inv.QO (I:Inv X mq σ H s) {a:Addr} (h:s.heap.objs.size<=a):a∉X.fs:=fun hb=>by
 obtain⟨_,o,ho,_⟩:=I.ok.Nu.mem hb;exact absurd (aR (aB ho) (bn I.sz h)) (bX _)
theorem Inv.cne (I:Inv X mq σ H s):∀ x c,X.env.cells.lookup x=some c->c≠X.env.locals:=fun x c e z=>by
 obtain⟨v,o,ho,hd⟩:=I.cell x c e;obtain⟨m,⟨o',es,ep,uL,AR,_⟩,_⟩:=I.loc;rw [z,uL] at ho; cases ho; rw [AR] at hd; cases hd
theorem Inv.Nu (I:Inv X mq σ H s):s.heap.FunFrames X.base X.outer:=by
 have all:∀ (l:List Env),(∀ b∈frs l,b∈X.fs)->X.s₀.heap.FunFrames X.base l->s.heap.FunFrames X.base l:=by
  intro l;induction l with
  | nil=>intro _ _; trivial
  | cons env r ih =>
   intro hs hl;obtain⟨hk,⟨L,o,hf,hn,ho,hd⟩,hr⟩:=hl;have hL:L∈X.fs:=hs L (by unfold frs; rw [cb,hf]; exact aA);obtain⟨sl,e⟩:=I.base.slot L o ho (I.ok.frf L hL) hL fun z=>I.ok.Ql L z hL
   exact⟨hk,⟨L,_,hf,hn,e,hd⟩,ih (fun b hb=>hs b (by unfold frs; rw [cb,hf]; exact ar _ hb)) hr⟩
 exact all X.outer (fun _ hb=>hb) I.ok.Nu
theorem Inv.stack (I:Inv X mq σ H s):s.heap.FunFrames X.base X.stack:=by
 rcases I.ok.stk with e | ⟨e,hf⟩
 ·rw [e]; exact I.Nu
 ·rw [e];obtain⟨m,hn,_⟩:=I.loc;refine .cons (by rw [I.ok.kind]; decide) hf hn ?_ I.Nu;exact Heap.get?_none_of_le (bn I.ok.bsz I.ok.above)
theorem Inv.NY (I:Inv X mq σ H s):∀ b∈frs X.stack,b∈X.env.locals :: X.fs:=fun b hb=>by
 rcases I.ok.stk with e | ⟨e,hf⟩
 ·rw [e] at hb; exact ar _ hb
 ·rw [e] at hb;unfold frs at hb;rw [cb,hf] at hb;exact hb
theorem Inv.Mj (I:Inv X mq σ H s):∀ b∈frs X.stack,H b=none:=fun b hb=>by
 rcases av.mp (I.NY b hb) with e | hb
 ·rw [e]; exact I.free
 ·obtain⟨_,o,ho,_⟩:=I.ok.Nu.mem hb;exact I.base.free b o ho (I.ok.frf b hb) fun z=>I.ok.Ql b z hb
theorem Inv.step {g':Array GenState} {d':Drawn} (I:Inv X mq σ H s)
  (qe:∀ b∈ch,(b∈X.ex\/X.s₀.heap.objs.size<=b)/\b≠X.env.locals/\(∀ x c,X.env.cells.lookup x=some c->c≠b)/\∀ p∈X.pn++mq,p.1≠b)
  (keep:∀ b o,b≠X.env.locals->b∉X.fs->b∉ch->s.heap.get? b=some o->H b=none->h'.get? b=some o)
  (slot:∀ b o,b≠X.env.locals->b∈X.fs->b∉ch->s.heap.get? b=some o->H b=none->∃ sl,h'.get? b=some { o with slots:=sl }) (free:∀ b o,b∉ch->s.heap.get? b=some o->H b=none->H' b=none)
  (there:∀ b o,b∉ch->s.heap.get? b=some o->∃ o',h'.get? b=some o')
  (MD:∀ b xs,H b=some #[Rp]->H' b=some #[Rp]) (MS:∀ b o u,H b=some #[Wi]->H' b=some #[Wi]) (MV:∀ b ps,H b=some (.tbl ps)->∃ more,H' b=some (.tbl (ps++more)))
  (ns:∀ m,s.heap.Ns X.env.locals m->h'.Ns X.env.locals m) (hok:HOk X.prog X.w H' h') (hg:AllBare g') :
  Inv X mq σ H' { s with heap:=h',gens:=g',drawn:=d',toks:=t' }:=by
 have neL:∀ b o,X.s₀.heap.get? b=some o->b≠X.env.locals:=fun b o e=>aO (aR (aB e) I.ok.above)
 have Ge:∀ b o,X.s₀.heap.get? b=some o->b∉X.ex->b∉ch:=fun b o e hx hb=>by
  rcases (qe b hb).1 with z | z
  ·exact hx z
  ·exact absurd (aR (aB e) z) (bX _)
 have cellK:∀ x c,X.env.cells.lookup x=some c->∀ v,s.heap.IsCell c v->h'.IsCell c v:=fun x c e v ⟨o,ho,hd⟩=>by
  have ED:c∉ch:=fun z=>(qe c z).2.2.1 x c e rfl
  by_cases hc:c∈X.fs
  ·obtain⟨sl,q⟩:=slot c o (I.cne x c e) hc ED ho (I.KH x c e);exact⟨_,q,hd⟩
  ·exact⟨o,keep c o (I.cne x c e) hc ED ho (I.KH x c e),hd⟩
 refine⟨I.ok,I.os,hg,⟨fun b o e n hb hx=>?_,fun b o e n hb hx=>?_,fun b o e n hx=>?_,fun b o e hx=>?_,fun b xs e=>MD b xs (I.base.MD b xs e),fun b o xs e=>MS b o xs (I.base.MS b o xs e),fun b ps e=>?_⟩,?_,fun x c e=>?_,?_,fun x c e=>?_,fun p hp=>?_,hok,I.len⟩
 ·exact keep b o (neL b o e) hb #[Xe] #[Se] #[UF]
 ·obtain⟨sl,e1⟩:=I.base.slot b o e n hb hx;obtain⟨Gf,e2⟩:=slot b _ (neL b o e) hb #[Xe] e1 #[UF];exact⟨Gf,e2⟩
 ·obtain⟨o',e1⟩:=I.base.there b o e hx;exact free b o' #[Xe] e1 #[UF]
 ·obtain⟨o',e1⟩:=I.base.there b o e hx;exact there b o' #[Xe] e1
 ·obtain⟨m1,e1⟩:=I.base.MV b ps e;obtain⟨m2,e2⟩:=MV b _ e1;exact⟨m1++m2,by rw [e2,jZ]⟩
 ·obtain⟨m,hn,hl⟩:=I.loc;refine⟨m,ns m hn,fun i x v e1 e2 e3=>?_⟩;obtain⟨u,r,l⟩:=hl i x v e1 e2 e3;refine⟨u,r,?_⟩;rcases l with l | ⟨k,c,e,z⟩
  ·exact .inl l
  ·exact .inr ⟨k,c,e,cellK x c e _ z⟩
 ·obtain⟨v,z⟩:=I.cell x c e;exact⟨v,cellK x c e v z⟩
 ·obtain⟨m,⟨o,_,_,ho,_⟩,_⟩:=I.loc;exact free _ o (fun z=>(qe _ z).2.1 rfl) ho I.free
 ·obtain⟨v,o,ho,hd⟩:=I.cell x c e;exact free c o (fun z=>(qe c z).2.2.1 x c e rfl) ho (I.KH x c e)
 ·obtain⟨e,n,ne,nf,d⟩:=I.pin p hp;have ED:p.1∉ch:=fun z=>(qe p.1 z).2.2.2 p hp rfl
  exact⟨keep p.1 p.2 ne nf ED e n,free p.1 p.2 ED e n,ne,nf,d⟩
theorem Inv.un (I:Inv X mq σ H s) (u:Un X.fs [] H H' s.heap h') (hok:HOk X.prog X.w H' h'):Inv X mq σ H' { s with heap:=h',toks:=t' }:=by
 obtain⟨m,⟨o,es,ep,ho,r⟩,_⟩:=id I.loc;obtain⟨sl,hL⟩:=u.any ho I.free #[M];exact I.step (g':=s.gens) (d':=s.drawn) (ch:=[]) (fun _ z=>nomatch z) (fun b o _ hb _ e n=>u.keep b o e n hb #[M]) (fun b o _ hb _ e n=>u.slot b o e n hb #[M]) (fun b o _ e n=>u.free b o e n #[M]) (fun b o _ e=>u.there b o e #[M]) u.MD u.MS u.MV (fun m' hm=>by
  obtain⟨o',es',Gg,uL,r'⟩:=hm;rw [ho] at uL; cases uL;exact⟨_,es',Gg,hL,r'⟩) hok I.bare
theorem Inv.call {g':Array GenState} {d':Drawn} (I:Inv X mq σ H s) (u:Un (frs X.stack) ch H H' s.heap h') (hok:HOk X.prog X.w H' h') (hg:AllBare g')
  (qe:∀ b∈ch,(b∈X.ex\/X.s₀.heap.objs.size<=b)/\b≠X.env.locals/\(∀ x c,X.env.cells.lookup x=some c->c≠b)/\∀ p∈X.pn++mq,p.1≠b) :
  Inv X mq σ H' { s with heap:=h',gens:=g',drawn:=d',toks:=t' }:=by
 obtain⟨m,⟨o,es,ep,ho,r⟩,_⟩:=id I.loc;obtain⟨sl,hL⟩:=u.any ho I.free fun z=>(qe _ z).2.1 rfl
 exact I.step (ch:=ch) qe (fun b o hL hb hc e n=>u.keep b o e n (fun z=>(av.mp (I.NY b z)).elim hL hb) hc) (fun b o _ _ hc e n=>u.any e n hc) (fun b o hc e n=>u.free b o e n hc) (fun b o hc e=>u.there b o e hc) u.MD u.MS u.MV (fun m' hm=>by
  obtain⟨o',es',Gg,uL,r'⟩:=hm;rw [ho] at uL; cases uL;exact⟨_,es',Gg,hL,r'⟩) hok hg
theorem Inv.turned (I:Inv X mq σ H s) (k:∀ b o,b≠it->s.heap.get? b=some o->h'.get? b=some o) (hn:H it=none) (hL:it≠X.env.locals)
  (h1:it∈X.ex\/X.s₀.heap.objs.size<=it) (h2:∀ x c,X.env.cells.lookup x=some c->c≠it) (h3:∀ p∈X.pn++mq,p.1≠it):Inv X mq σ H { s with heap:=h',toks:=t' }:=by
 have wW:∀ b u,H b=some u->b≠it:=fun b u e z=>by rw [z,hn] at e; cases e
 refine I.step (g':=s.gens) (d':=s.drawn) (ch:=[it]) #[WR] (fun b o _ _ hc e _=>k b o (fun z=>hc (by simp [z])) e) (fun b o _ _ hc e _=>⟨o.slots,k b o (fun z=>hc (by simp [z])) e⟩) #[Tv]
  (fun b o hc e=>⟨o,k b o (fun z=>hc (by simp [z])) e⟩) #[SK] #[Uy] (fun b ps e=>⟨#[],by rw [e]; simp⟩) #[Ve] (fun b u e=>?_) I.bare
 ·have e:b=it:=by simpa using hb
  subst e;exact⟨h1,hL,h2,h3⟩
 ·obtain⟨o,es,ep,ho,r⟩:=hm;exact⟨o,es,ep,k _ o (cA hL) ho,r⟩
 ·refine #[Vt].Nm (fun c v hc q=>k c v ?_ q) #[Ul] fun _ _ q=>q
  rcases hc with z | z
  ·rw [z]; exact wW b u e
  ·exact wW c _ z
theorem Inv.tok (I:Inv X mq σ H s) (t:Nat):Inv X mq σ H { s with toks:=t }:=I.un (h':=s.heap) (t':=t) Un.refl I.hok
theorem Inv.kept (I:Inv X mq σ H s) (k:∀ b u,s.heap.get? b=some u->h'.get? b=some u):Inv X mq σ H { s with heap:=h',toks:=t' }:=I.un (Un.kept k) (I.hok.kept k)
theorem Inv.laid {a:Addr} {o:HO} (I:Inv X mq σ H s) (k:∀ b u,s.heap.get? b=some u->h'.get? b=some u) (hp:s.heap.objs.size<=a) (new:zW X.prog X.w #[Ti] h' a o) :
  Inv X mq σ #[Ti] { s with heap:=h',toks:=t' }:=I.un (Un.laid k hp (I.hok.fresh hp)) (I.hok.laid k hp new)
theorem Inv.write {x e:Addr} {o:HO} (I:Inv X mq σ H s) (mu:Mut (H x)) (he:e=x\/H e=some (.own x)) (k:∀ b u,b≠e->s.heap.get? b=some u->h'.get? b=some u) (DZ:∃ u,h'.get? e=some u)
  (new:zW X.prog X.w (mz H x o) h' x o):Inv X mq σ (mz H x o) { s with heap:=h',toks:=t' }:=I.un (Un.write mu he k DZ) (I.hok.write mu he k DZ new)
theorem Inv.weak {σ':List (Option V)} (I:Inv X mq σ H s) (hl:σ'.length=σ.length) (w:∀ (i:Nat) v,σ'[i]? = some #[UW]->σ[i]? = some #[UW]):Inv X mq σ' H s :=
 ⟨I.ok,I.os,I.bare,I.base,let ⟨m,hn,Cv⟩:=I.loc; ⟨m,hn,fun i x v e1 e2 e3=>Cv i x v e1 (w i v e2) e3⟩,I.cell,I.free,I.KH,I.pin,I.hok,hl.trans I.len⟩
theorem Inv.Ml (I:Inv X mq σ H s) (h:∀ p∈oS,s.heap.get? p.1=some p.2/\H p.1=none/\p.1≠X.env.locals/\p.1∉X.fs/\∀ v,p.2.data≠.cell v):Inv X oS σ H s :=
 ⟨I.ok,I.os,I.bare,I.base,I.loc,I.cell,I.free,I.KH,fun p hp=>(aC.mp hp).elim (fun z=>I.pin p (aD _ z)) (h p),I.hok,I.len⟩
theorem zew (hN:N.Nodup) {i:Nat} {x:Str} (a:N[i]? = some x) (b:N[j]? = some x):i=j:=by
 obtain⟨h1,e1⟩:=aj.mp a;obtain⟨h2,e2⟩:=aj.mp b;exact (List.getElem_inj hN).mp (e1.trans e2.symm)
theorem zfu {E:Value->Shared->Prop} {i:Nat} {x:Str} {v:V} {u:Value} {Q:Unit->Shared->Prop} (I:Inv X mq σ H s) (hN:X.N.Nodup) (hi:X.N[i]? = some x) (hx:Loc X.env.scope x) (r:RelV v u)
  (h:∀ s',Inv X mq (σ.set i #[UW]) H s'->(∃ a,aX a s.heap s'.heap/\(a=X.env.locals\/X.env.cells.lookup x=some a))->Q () s') (hf:X.fn x=true\/X.env.scope.names.lookup x=some .local:=by first | exact .inl rfl | exact .inr rfl | assumption):wpAny M A (storeName X.env x u) Q E s:=by
 obtain⟨m,hn,hl⟩:=id I.loc;have yj:(X.env.scope.kind == .class || (X.env.scope.kind == .module && X.env.locals != X.env.globals))=false:=by rw [I.ok.kind]; rfl
 have hiσ:i < σ.length:=by rw [I.len]; exact (aj.mp hi).1
 have cne:=I.cne;have tracked:∀ {a:Addr} {h':Heap},(∃ o,s.heap.get? a=some o/\H a=none)->aX a s.heap h'->HOk X.prog X.w H h':=fun {a h'} ha hs b ob e=>by
  obtain⟨_,_,BW⟩:=ha;refine (I.hok b ob e).Nm (fun c w' hc q=>(hs.2 c ?_).trans q) #[Ul] fun _ _ q=>q
  rintro rfl;rcases hc with rfl | hc
  ·rw [BW] at e; cases e
  ·rw [BW] at hc; cases hc
 rcases hx with hk | hk
 ·refine wpAny_storeName_local hk hn (fun h' BX hs=>?_) yj;obtain⟨oL,_,_,D4,_⟩:=id hn;refine h _ ⟨I.ok,I.os,I.bare,#[wT],#[WY],fun y c e=>?_,I.free,I.KH,fun p hp=>?_,tracked ⟨oL,D4,I.free⟩ hs,by simpa using I.len⟩ ⟨_,hs,.inl rfl⟩
  ·exact (hs.2 b #[Q9]).trans #[Se]
  ·obtain⟨sl,e1⟩:=I.base.slot b o e n hb hx;exact⟨sl,(hs.2 b #[Q9]).trans e1⟩
  ·obtain⟨o',e1⟩:=I.base.there b o e hx;exact⟨o',(hs.2 b #[Q9]).trans e1⟩
  ·by_cases hj:j=i
   ·subst hj;rw [hi] at e1; cases e1;rw [dm hiσ] at e2;cases e2;exact⟨u,r,.inl ⟨hk,#[M]⟩⟩
   ·rw [dF (cA hj)] at e2;obtain⟨u',r',q⟩:=hl j y v' e1 e2 e3;refine⟨u',r',?_⟩;rcases q with ⟨k,e⟩ | ⟨k,c,e,z⟩
    ·refine .inl ⟨k,?_⟩;have:y≠x:=fun e=>hj (zew hN e1 (e ▸ hi))
     simp [this,e]
    ·exact .inr #[WX]
  ·obtain⟨w',z⟩:=I.cell y c e;exact#[WG]
  ·obtain⟨e,n,ne,nf,d⟩:=I.pin p hp;exact⟨(hs.2 p.1 ne).trans e,n,ne,nf,d⟩
 ·have Hi:X.fn x=true:=by
   rcases hf with z | z
   ·exact z
   ·rw [z] at hk; cases hk
  obtain⟨c,hc⟩:=I.ok.has x (.inl hk);obtain⟨w',z⟩:=I.cell x c hc;refine wpAny_storeName_cell I.ok.kind hk hc z (fun h' mQ hs=>?_);obtain⟨oc,hoc,Hj⟩:=id z;refine h { s with heap:=h' } ⟨I.ok,I.os,I.bare,#[wT],⟨m,hn.sameBut hs (cA (cne x c hc)),fun j y v' e1 e2 e3=>?_⟩,fun y c' e=>?_,I.free,I.KH,fun p hp=>?_,tracked ⟨oc,hoc,I.KH x c hc⟩ hs,by simpa using I.len⟩ ⟨c,hs,.inr hc⟩
  ·exact (hs.2 b #[SE]).trans #[Se]
  ·obtain⟨sl,e1⟩:=I.base.slot b o e n hb hx;exact⟨sl,(hs.2 b #[SE]).trans e1⟩
  ·obtain⟨o',e1⟩:=I.base.there b o e hx;exact⟨o',(hs.2 b #[SE]).trans e1⟩
  ·by_cases hj:j=i
   ·subst hj;rw [hi] at e1; cases e1;rw [dm hiσ] at e2;cases e2;exact⟨u,r,.inr ⟨.inl hk,c,hc,mQ⟩⟩
   ·rw [dF (cA hj)] at e2;obtain⟨u',r',q⟩:=hl j y v' e1 e2 e3;refine⟨u',r',?_⟩;rcases q with q | ⟨k,c',e,z'⟩
    ·exact .inl q
    ·refine .inr ⟨k,c',e,z'.sameBut hs ?_⟩;rintro rfl;exact hj (zew hN e1 (I.ok.inj _ _ _ e hc ▸ hi))
  ·by_cases oh:c'=c
   ·subst oh; exact⟨_,mQ⟩
   ·obtain⟨w2,z2⟩:=I.cell y c' e;exact⟨w2,z2.sameBut hs oh⟩
  ·obtain⟨e,n,ne,nf,d⟩:=I.pin p hp;refine⟨(hs.2 p.1 ?_).trans e,n,ne,nf,d⟩;intro q;rw [q,hoc] at e;have q':oc=p.2:=aN e;exact d w' (by rw [<- q']; exact Hj)
theorem zb6 {E:Value->Shared->Prop} {i:Nat} {x:Str} {v:V} {u:Value} {Q:Unit->Shared->Prop} (I:Inv X mq σ H s) (hN:X.N.Nodup) (hi:X.N[i]? = some x) (hx:Loc X.env.scope x) (r:RelV v u)
  (h:∀ s',Inv X mq (σ.set i #[UW]) H s'->Q () s') (hf:X.fn x=true\/X.env.scope.names.lookup x=some .local:=by first | exact .inl rfl | exact .inr rfl | assumption):wpAny M A (storeName X.env x u) Q E s :=
 zfu I hN hi hx r (fun s' I' _=>h s' I') hf
theorem Inv.Qf (I:Inv X mq σ H s) (ho:s'.os=s.os) (u:Un (frs X.stack) ch H H' s.heap s'.heap) (hok:HOk X.prog X.w H' s'.heap) (hg:AllBare s'.gens)
  (qe:∀ b∈ch,(b∈X.ex\/X.s₀.heap.objs.size<=b)/\b≠X.env.locals/\(∀ x c,X.env.cells.lookup x=some c->c≠b)/\∀ p∈X.pn++mq,p.1≠b):Inv X mq σ H' s':=by
 obtain⟨h',g',d',t',o'⟩:=s';have e:o'=s.os:=ho;subst e;exact I.call (g':=g') (t':=t') (d':=d') u hok hg qe
end
abbrev XK:=Value->Option Addr->Hp->Prop
abbrev St:=List (Option V)
abbrev VK:=V->Hp->Prop
abbrev TE:=St->Hp->VK->Prop
abbrev TT:=St->Hp->(Bool->Hp->Prop)->Prop
abbrev TA:=St->Hp->(List V->Hp->Prop)->Prop
structure Ends where
 nx:St->Hp->Prop
 rt:VK
 bk:St->Hp->Prop:=fun _ _=>False
 ct:St->Hp->Prop:=fun _ _=>False
abbrev TS:=Ends->St->Hp->Prop
noncomputable def EP (X:Cx) (mq:List (Addr×Obj)) (σ:St) (Q:VK) (u:Value) (s':Shared):Prop:=∃ v H',Inv X mq σ H' s'/\RelV v u/\Q v H'
noncomputable def TP (X:Cx) (mq:List (Addr×Obj)) (σ:St) (Q:Bool->Hp->Prop) (b:Bool) (s':Shared):Prop:=∃ H',Inv X mq σ H' s'/\Q b H'
noncomputable def AP (X:Cx) (mq:List (Addr×Obj)) (σ:St) (Q:List V->Hp->Prop) (us:List Value) (s':Shared):Prop:=∃ vs H',Inv X mq σ H' s'/\zH vs us/\Q vs H'
noncomputable def SP (X:Cx) (mq:List (Addr×Obj)) (D:Ends) (f:Flow) (s':Shared):Prop :=
 match f with
 | .next=>∃ σ' H',Inv X mq σ' H' s'/\D.nx σ' H'
 | .brk=>∃ σ' H',Inv X mq σ' H' s'/\D.bk σ' H'
 | .cont=>∃ σ' H',Inv X mq σ' H' s'/\D.ct σ' H'
 | .ret u=>∃ v σ' H',Inv X mq σ' H' s'/\RelV v u/\D.rt v H'
noncomputable def PE (X:Cx) (e:Expr) (t:TE):Prop :=
 ∀ (mq:List (Addr×Obj)) (s:Shared) (σ:St) (H:Hp) (Q:VK),Inv X mq σ H s->t σ H Q->wpAny #[mt] X.A #[U0] #[Op] X.xe s
noncomputable def PT (X:Cx) (e:Expr) (t:TT):Prop :=
 ∀ (mq:List (Addr×Obj)) (s:Shared) (σ:St) (H:Hp) (Q:Bool->Hp->Prop),Inv X mq σ H s->t σ H Q->wpAny #[mt] X.A (isTrue e X.env #[U0]) #[Wr] X.xe s
noncomputable def PW (X:Cx) (e:Expr) (t:TT):Prop :=
 ∀ (whole:Sem Value) (mq:List (Addr×Obj)) (s:Shared) (σ:St) (H:Hp) (Q:Bool->Hp->Prop),Inv X mq σ H s->t σ H Q->wpAny #[mt] X.A (isTrue e X.env whole) #[Wr] X.xe s
theorem PW.pt {X:Cx} {e:Expr} {t:TT} (h:PW X e t):PT X e t:=h _
noncomputable def PA (X:Cx) (es:List Expr) (t:TA):Prop :=
 ∀ (pos:Pos) (mq:List (Addr×Obj)) (s:Shared) (σ:St) (H:Hp) (Q:List V->Hp->Prop),Inv X mq σ H s->t σ H Q->wpAny #[mt] X.A (spliced #[AT]) (AP X mq σ Q) X.xe s
noncomputable def PS (X:Cx) (st:Stmt) (t:TS):Prop :=
 ∀ (mq:List (Addr×Obj)) (s:Shared) (σ:St) (H:Hp) (D:Ends),Inv X mq σ H s->t D σ H->wpAny #[mt] X.A (exec st X.env) #[Xr] X.xe s
noncomputable def PSs (X:Cx) (st:List Stmt) (t:TS):Prop :=
 ∀ (mq:List (Addr×Obj)) (s:Shared) (σ:St) (H:Hp) (D:Ends),Inv X mq σ H s->t D σ H->wpAny #[mt] X.A (execs st X.env) #[Xr] X.xe s
theorem thn {α:Type} {t:Sem α} {Q Q':α->Shared->Prop} {E:Value->Shared->Prop} (h:wpAny M A t Q E s) (hQ:∀ a s,Q a s->Q' a s):wpAny M A t Q' E s:=bK h hQ fun _ _ x=>x
section
variable {X:Cx}
noncomputable def zoZ (i:Nat):TE:=fun σ H Q=>∃ v,σ[i]? = some #[UW]/\Q v H
noncomputable def tC (v:V):TE:=fun _ H Q=>Q v H
theorem znZ {i:Nat} {x:Str} (hN:X.N[i]? = some x) (hv:Vis X.env.scope x) (hd:(x == ("__debug__" : Str))=false:=by decide) (t9:(x == ("__classdict__" : Str))=false:=by decide):PE X #[T6] (zoZ i):=by
 intro mq s σ H Q I h;obtain⟨v,e,h⟩:=h;obtain⟨m,hn,hl⟩:=I.loc;obtain⟨u,r,l⟩:=hl i x v hN e hv;have fin:EP X mq σ Q u s:=⟨v,H,I,r,h⟩;rcases l with ⟨hk,hm⟩ | ⟨hk,c,hc,pG⟩
 ·exact k8 (jo I.ok.kind hk hn hm fin) hd
 ·rcases hk with hk | hk
  ·exact k8 (jJ I.ok.kind hk hc pG fin) hd
  ·exact k8 (wpAny_loadName_free I.ok.kind hk hc pG fin t9) hd
theorem zh {i j pos}:PE X (.Constant #[WO] j pos) (tC #[WO]):=fun _ _ _ H _ I h=>wpAny_Constant_int ⟨.int i,H,I.tok _,⟨_,rfl⟩,h⟩
theorem zdS {b j pos}:PE X (.Constant (.bool b) j pos) (tC (.bl b)):=fun _ _ _ H _ I h=>Constant_bool ⟨.bl b,H,I,rfl,h⟩
theorem zaw {j pos}:PE X (.Constant .none j pos) (tC .non):=fun _ _ _ H _ I h=>Constant_none ⟨.non,H,I,rfl,h⟩
theorem zR {x j pos}:PE X (.Constant (.str x) j pos) (tC (.str x)):=fun _ _ _ H _ I h=>Calls.Constant_str ⟨.str x,H,I.tok _,⟨_,rfl⟩,h⟩
noncomputable def Gl (X:Cx) (x:Str):Prop:=X.env.kindOf x=some .globalImplicit
theorem zcM {E:Value->Shared->Prop} {σ:St} {x:Str} {u:Value} {Q:Value->Shared->Prop} (I:Inv X mq σ H s) (hg:Gl X x) (hm:X.mg x=some u) (h:Q u s)
  (hd:(x == ("__debug__" : Str))=false:=by decide):wpAny #[mt] X.A (eval #[T6] X.env) Q E s :=
 gV I.ok.kind hg (Calls.loadGlobal_global (by rw [I.ok.glob]; exact I.mod.glob.keeps I.bk) hm h) hd
theorem zbG {E:Value->Shared->Prop} {σ:St} {x:Str} {u:Value} {Q:Value->Shared->Prop} (I:Inv X mq σ H s) (hg:Gl X x) (hm:X.mg x=none) (hv:bootBuiltins x=some u) (h:Q u s)
  (hn:x≠"__name__":=by decide) (hd:(x == ("__debug__" : Str))=false:=by decide):wpAny #[mt] X.A (eval #[T6] X.env) Q E s:=by
 obtain⟨mb,h1,h2⟩:=I.mod.blt;exact gV I.ok.kind hg (Calls.loadGlobal_builtin (by rw [I.ok.glob]; exact I.mod.glob.keeps I.bk) hm (by rw [I.ok.blt]; exact h1.keeps I.bk) ((h2 x hn).trans hv) h) hd
theorem zbr {x:Str} {v:V} {u:Value} {pos:Pos} (hg:Gl X x) (hm:X.mg x=some u) (r:RelV v u) (hd:(x == ("__debug__" : Str))=false:=by decide):PE X #[T6] (tC v) :=
 fun _ _ _ H _ I h=>zcM I hg hm ⟨v,H,I,r,h⟩ hd
theorem zf8 {x:Str} {v:V} {u:Value} {pos:Pos} (hg:Gl X x) (hm:X.mg x=none) (hv:bootBuiltins x=some u) (r:RelV v u) (hn:x≠"__name__":=by decide) (hd:(x == ("__debug__" : Str))=false:=by decide):PE X #[T6] (tC v) :=
 fun _ _ _ H _ I h=>zbG I hg hm hv ⟨v,H,I,r,h⟩ hn hd
variable {a b:Expr} {ta tb:TE} {pos:Pos}
noncomputable def tB (t:TE):TT:=fun σ H Q=>t σ H fun x H1=>∃ c,x = .bl c/\Q c H1
theorem zhU {e:Expr} {t:TE} (h:PE X e t) (he:∀ whole,isTrue e X.env whole=(do let v <- whole; standAt e.pos; holding [v] (truthy v)):=by intro _; rfl):PT X e (tB t):=by
 intro mq s σ H Q I hw;refine isTrue_plain (thn #[VB] fun v s1 ⟨x,H1,I1,r1,q1⟩=>?_) (he _);obtain⟨d,rfl,q⟩:=q1;cases r1;exact cH ⟨H1,I1,q⟩
variable {tA Gh:TT} {rest:List Expr}
noncomputable def zpF (t u:TT):TT:=fun σ H Q=>t σ H fun c H1=>if c=true then u σ H1 Q else Q false H1
noncomputable def tOr (t u:TT):TT:=fun σ H Q=>t σ H fun c H1=>if c=true then Q true H1 else u σ H1 Q
noncomputable def zpG (t:TT):TT:=fun σ H Q=>t σ H fun c H1=>Q (!c) H1
theorem zch (ha:PT X a tA):PW X (.BoolOp .And [a] pos) tA:=by
 intro wh mq s σ H Q I h;refine isTrue_and (thn (ha mq s σ H Q I h) fun c s1 e=>?_);cases c with
 | true=>exact isTrue_and_nil e
 | false=>exact e
theorem zk2 (ha:PT X a tA):PW X (.BoolOp .Or [a] pos) tA:=by
 intro wh mq s σ H Q I h;refine isTrue_or (thn (ha mq s σ H Q I h) fun c s1 e=>?_);cases c with
 | false=>exact isTrue_or_nil e
 | true=>exact e
theorem zc7 (ha:PT X a tA) (hb:PW X #[W1] Gh):PW X (.BoolOp .And (a :: b :: rest) pos) (zpF tA Gh):=by
 intro wh mq s σ H Q I h;refine isTrue_and (thn #[Fr] fun c s1 ⟨H1,I1,q1⟩=>?_);cases c with
 | true=>exact hb wh mq s1 σ H1 Q I1 q1
 | false=>exact⟨H1,I1,q1⟩
theorem znG (ha:PT X a tA) (hb:PW X (.BoolOp .Or (b :: rest) pos) Gh):PW X (.BoolOp .Or (a :: b :: rest) pos) (tOr tA Gh):=by
 intro wh mq s σ H Q I h;refine isTrue_or (thn #[Fr] fun c s1 ⟨H1,I1,q1⟩=>?_);cases c with
 | true=>exact⟨H1,I1,q1⟩
 | false=>exact hb wh mq s1 σ H1 Q I1 q1
theorem zc8 (ha:PT X a tA):PT X (.UnaryOp .Not a pos) (zpG tA):=by
 intro mq s σ H Q I h;exact isTrue_not (ha mq s σ H (fun c H1=>Q (!c) H1) I h)
noncomputable def zo0 (ta tb:TE):TE:=fun σ H Q=>ta σ H fun x H1=>∃ c,x = .bl c/\if c=true then tb σ H1 Q else Q #[Xt] H1
noncomputable def zo1 (ta:TE):TE:=fun σ H Q=>ta σ H fun x H1=>∃ c,x = .bl c/\Q (.bl (!c)) H1
theorem zhV {op} {t:TE} (h:PE X a t):PE X (.BoolOp op [a] pos) t:=fun mq s σ H Q I hw=>BoolOp_one (h mq s σ H Q I hw)
theorem zk3 (ha:PE X a ta) (hb:PE X #[W1] tb):PE X (.BoolOp .And (a :: b :: rest) pos) (zo0 ta tb):=by
 intro mq s σ H Q I h;refine BoolOp_and (thn #[Fr] fun v s1 ⟨x,H1,I1,r1,q1⟩=>?_);obtain⟨c,rfl,q1⟩:=q1;cases r1;refine cH ?_;cases c with
 | true=>exact hb mq s1 σ H1 Q I1 q1
 | false=>exact⟨.bl false,H1,I1,rfl,q1⟩
theorem zn0 (ha:PE X a ta):PE X (.UnaryOp .Not a pos) (zo1 ta):=by
 intro mq s σ H Q I h;refine UnaryOp_ (thn #[Fr] fun v s1 ⟨x,H1,I1,r1,q1⟩=>?_);obtain⟨c,rfl,q1⟩:=q1;cases r1;exact not_of (cH ⟨.bl (!c),H1,I1,rfl,q1⟩)
noncomputable def tIf (t:TT) (ta tb:TE):TE:=fun σ H Q=>t σ H fun c H1=>if c=true then ta σ H1 Q else tb σ H1 Q
theorem zcC {c:Expr} (hc:PT X c tA) (ha:PE X a ta) (hb:PE X b tb):PE X (.IfExp c a b pos) (tIf tA ta tb):=by
 intro mq s σ H Q I h;refine wpAny_IfExp (thn #[VA] fun d s1 ⟨H1,I1,q1⟩=>?_);cases d with
 | true=>exact ha mq s1 σ H1 Q I1 q1
 | false=>exact hb mq s1 σ H1 Q I1 q1
end
noncomputable def mB (K:af) (H:Hp) (a:Addr) (xs:List V):Prop :=
 Rd H a #[RH] \/
  ∃ (o:Obj) (mC:Array Value) (n:Nat),K.lookup a=some o/\o.cls = .type "list"/\o.dict=none/\o.data = .seq mC n/\mC.size<=sizeLine/\zH xs mC.toList
noncomputable def mK (K:af) (H:Hp) (a:Addr) (xs:List V):Prop :=
 Rd H a #[Rp] \/
  ∃ (o:Obj) (mC:Array Value) (n:Nat),K.lookup a=some o/\o.cls = .type "tuple"/\o.data = .seq mC n/\mC.size<=sizeLine/\zH xs mC.toList
noncomputable def zpH:Value->Option V
 | .none=>some .non
 | .bool b=>some (.bl b)
 | .int i _=>some #[WO]
 | .str x _=>some (.str x)
 | .bytes b _=>some (.byt b)
 | .float b _=>some (.flt b)
 | .ref a=>some #[Rf]
 | .type n=>some (.ty n)
 | _=>none
theorem RelV.abs {x:V} {u:Value} (r:RelV x u):zpH u=some x:=by
 cases x with
 | non=>cases r; rfl
 | bl _=>cases r; rfl
 | int _=>obtain⟨t,rfl⟩:=r; rfl
 | str _=>obtain⟨t,rfl⟩:=r; rfl
 | byt _=>obtain⟨t,rfl⟩:=r; rfl
 | flt _=>obtain⟨t,rfl⟩:=r; rfl
 | ref _=>cases r; rfl
 | ty _=>cases r; rfl
theorem RelV.inj {x:V} {u:Value} (r:RelV x u) (q:RelV y u):x=y:=aN (r.abs.symm.trans q.abs)
theorem zH.inj:∀ {xs ys:List V} {us:List Value},zH xs us->zH ys us->xs=ys
 | _,_,_,.nil,.nil=>rfl
 | _,_,_,.cons r t,.cons r' t'=>by rw [r.inj r',zH.inj t t']
section
variable {X:Cx} {mq:List (Addr×Obj)} {σ:St} {H:Hp} {s:Shared} {a:Addr} {xs ys:List V}
theorem mB.of (h:H a=some #[RH]):mB K H a xs:=.inl (.inl h)
theorem mK.of (h:H a=some #[Rp]):mK K H a xs:=.inl (.inl h)
theorem Inv.list (I:Inv X mq σ H s) (h:mB X.K H a xs):∃ mC:List Value,zH xs mC/\PlainL s.heap a mC.toArray/\xs.length<=sizeLine:=by
 rcases h with h | ⟨o,mC,n,hk,hc,hd,hs,hz,r⟩
 ·obtain⟨z,mC,n,r,e⟩:=h.ok I.hok;exact⟨mC,r,⟨_,n,e,rfl,rfl,rfl⟩,z⟩
 ·refine⟨mC.toList,r,⟨o,n,I.kIn a o hk,hc,hd,by simpa using hs⟩,?_⟩;have e:=r.length;simp only [aE] at e;lia
theorem Inv.tuple (I:Inv X mq σ H s) (h:mK X.K H a xs):∃ mC:List Value,zH xs mC/\IsTup s.heap a mC.toArray/\xs.length<=sizeLine:=by
 rcases h with h | ⟨o,mC,n,hk,hc,hs,hz,r⟩
 ·obtain⟨z,mC,r,p⟩:=h.ok I.hok;exact⟨mC,r,p,z⟩
 ·refine⟨mC.toList,r,⟨o,I.kIn a o hk,hc,n,by simpa using hs⟩,?_⟩;have e:=r.length;simp only [aE] at e;lia
theorem Inv.KG (I:Inv X mq σ H s) (h:mB X.K H a xs) (h':mB X.K H a ys):xs=ys:=by
 obtain⟨mC,r,⟨o,n,e,_,_,d⟩,_⟩:=I.list h;obtain⟨its',r',⟨o',n',e',_,_,d'⟩,_⟩:=I.list h';rw [e] at e'; cases e';rw [d] at d';injection d' with d1 _
 have:mC=its':=by simpa using congrArg l6 d1
 subst this;exact r.inj r'
theorem Inv.Lq (I:Inv X mq σ H s) (h:mK X.K H a xs) (h':mK X.K H a ys):xs=ys:=by
 obtain⟨mC,r,⟨o,e,_,n,d⟩,_⟩:=I.tuple h;obtain⟨its',r',⟨o',e',_,n',d'⟩,_⟩:=I.tuple h';rw [e] at e'; cases e';rw [d] at d';injection d' with d1 _
 have:mC=its':=by simpa using congrArg l6 d1
 subst this;exact r.inj r'
end
abbrev Cx.Om (X:Cx) (E:Value->Shared->Prop):Cx:={ X with xe:=E }
abbrev Cx.nox (X:Cx):Cx:=X.Om fun _ _=>False
theorem Cx.Ok.Om (ok:X.Ok) (E:Value->Shared->Prop):(X.Om E).Ok :=
 ⟨ok.mod,ok.kind,ok.glob,ok.blt,ok.above,ok.inj,ok.has,ok.cab,ok.hd,ok.frames,ok.stk,ok.exf,ok.bs,ok.bsz,ok.PX,ok.Ql,ok.Nu,ok.frf⟩
theorem Cx.Ok.Ky {E:Value->Shared->Prop} (ok:(X.Om E).Ok):X.Ok :=
 ⟨ok.mod,ok.kind,ok.glob,ok.blt,ok.above,ok.inj,ok.has,ok.cab,ok.hd,ok.frames,ok.stk,ok.exf,ok.bs,ok.bsz,ok.PX,ok.Ql,ok.Nu,ok.frf⟩
section
variable {X:Cx} {mq:List (Addr×Obj)} {σ:St} {H:Hp} {s:Shared} {E:Value->Shared->Prop}
theorem Inv.Om (I:Inv X mq σ H s) (E:Value->Shared->Prop):Inv (X.Om E) mq σ H s:=⟨I.ok.Om E,I.os,I.bare,I.base,I.loc,I.cell,I.free,I.KH,I.pin,I.hok,I.len⟩
theorem Inv.Ky (I:Inv (X.Om E) mq σ H s):Inv X mq σ H s:=⟨I.ok.Ky,I.os,I.bare,I.base,I.loc,I.cell,I.free,I.KH,I.pin,I.hok,I.len⟩
theorem SP.Ky {D:Ends} {f:Flow} (h:SP (X.Om E) mq D f s'):SP X mq D f s':=by
 cases f with
 | next=>obtain⟨σ',H',I,q⟩:=h; exact⟨σ',H',I.Ky,q⟩
 | brk=>obtain⟨σ',H',I,q⟩:=h; exact⟨σ',H',I.Ky,q⟩
 | cont=>obtain⟨σ',H',I,q⟩:=h; exact⟨σ',H',I.Ky,q⟩
 | ret u=>obtain⟨v,σ',H',I,r,q⟩:=h; exact⟨v,σ',H',I.Ky,r,q⟩
theorem PSs.nox {st:List Stmt} {t:TS} (h:PSs X.nox st t):PSs X st t:=fun mq s σ H D I hw =>
 bK (h mq s σ H D (I.Om _) hw) (fun _ _ q=>q.Ky) fun _ _ z=>bO z
end
section
variable {X:Cx} {st:Stmt} {rest:List Stmt} {t u:TS} {e:Expr} {te:TE} {pos:Pos}
noncomputable def zo2:TS:=fun D σ H=>D.nx σ H
noncomputable def zax (t u:TS):TS:=fun D σ H=>t { D with nx:=u D } σ H
theorem zO:PSs X [] zo2:=fun _ _ σ H _ I h=>dX ⟨σ,H,I,h⟩
theorem ze (h1:PS X st t) (h2:PSs X rest u):PSs X (st :: rest) (zax t u):=by
 intro mq s σ H D I h;refine ip (thn (h1 mq s σ H { D with nx:=u D } I h) fun f s1 q=>?_);cases f with
 | next =>
  obtain⟨σ',H',I',q⟩:=q;exact h2 mq s1 σ' H' D I' q
 | ret v=>exact q
 | brk=>exact q
 | cont=>exact q
theorem zl (h1:PS X st t):PSs X [st] t:=by
 intro mq s σ H D I h;refine ip (thn (h1 mq s σ H D I h) fun f s1 q=>?_);cases f with
 | next=>exact dX q
 | ret v=>exact q
 | brk=>exact q
 | cont=>exact q
theorem Inv.quiet {σ:St} (I:Inv X mq σ H s):interactive X.env=false:=by simp [interactive,I.ok.kind]
noncomputable def zo3 (te:TE):TS:=fun D σ H=>te σ H fun _ H1=>D.nx σ H1
theorem za2 (he:PE X e te) (hs:swapsWith e none pos.line X.env=pure false:=by rfl):PS X (.Expr e pos) (zo3 te):=by
 intro mq s σ H D I h;exact wpAny_Expr_any (thn #[Id] fun v s1 ⟨x,H1,I1,r1,q1⟩=>⟨σ,H1,I1,q1⟩) I.quiet hs
noncomputable def zpI (te:TE):TS:=fun D σ H=>te σ H D.rt
theorem zJ (he:PE X e te):PS X (.Return (some e) pos) (zpI te):=by
 intro mq s σ H D I h;exact wpAny_Return_some (thn #[Id] fun v s1 ⟨x,H1,I1,r1,q1⟩=>⟨x,σ,H1,I1,r1,q1⟩)
noncomputable def zo4 (c:TT) (t u:TS):TS:=fun D σ H=>c σ H fun b H1=>if b=true then t D σ H1 else u D σ H1
theorem zan {c:Expr} {a b:List Stmt} {tc:TT} (hc:PT X c tc) (ha:PSs X a t) (hb:PSs X b u):PS X (.If c a b pos) (zo4 tc t u):=by
 intro mq s σ H D I h;refine wpAny_If (thn #[VA] fun d s1 ⟨H1,I1,q1⟩=>?_);cases d with
 | true=>exact ha mq s1 σ H1 D I1 q1
 | false=>exact hb mq s1 σ H1 D I1 q1
noncomputable def zn1:TS:=fun _ _ _=>False
theorem zjJ {sts:List Stmt}:PSs X sts zn1:=fun _ _ _ _ _ _ h=>h.elim
end
abbrev TG:=V->St->Hp->(St->Hp->Prop)->Prop
abbrev TGs:=List V->St->Hp->(St->Hp->Prop)->Prop
noncomputable def PG (X:Cx) (target:Expr) (t:TG):Prop :=
 ∀ (mq:List (Addr×Obj)) (s:Shared) (σ:St) (H:Hp) (v:V) (u:Value) (Q:St->Hp->Prop),Inv X mq σ H s->RelV v u->t v σ H Q ->
  wpAny #[mt] X.A (assign target X.env u) (fun _ s'=>∃ σ' H',Inv X mq σ' H' s'/\Q σ' H') X.xe s
noncomputable def PGs (X:Cx) (ts:List Expr) (t:TGs):Prop :=
 ∀ (mq:List (Addr×Obj)) (s:Shared) (σ:St) (H:Hp) (vs:List V) (us:List Value) (Q:St->Hp->Prop),Inv X mq σ H s->zH vs us->t vs σ H Q ->
  wpAny #[mt] X.A (assignInOrder ((assignEach ts X.env).map (·.2)) us) (fun _ s'=>∃ σ' H',Inv X mq σ' H' s'/\Q σ' H') X.xe s
abbrev zn2:=V->V->V->Hp->(Hp->Prop)->Prop
noncomputable def zo5 (X:Cx) (t:zn2):Prop :=
 ∀ (mq:List (Addr×Obj)) (s:Shared) (σ:St) (H:Hp) (o i v:V) (ov iv u:Value) (Q:Hp->Prop),Inv X mq σ H s->RelV o ov->RelV i iv->RelV v u->t o i v H Q ->
  wpAny #[mt] X.A (setItem ov iv u) (fun _ s'=>∃ H',Inv X mq σ H' s'/\Q H') X.xe s
abbrev TIp:=V->V->Hp->VK->Prop
noncomputable def PIp (X:Cx) (op:Operator) (t:TIp):Prop :=
 ∀ (mq:List (Addr×Obj)) (s:Shared) (σ:St) (H:Hp) (x y:V) (v u:Value) (Q:VK),Inv X mq σ H s->RelV x v->RelV y u->t x y H Q ->
  wpAny #[mt] X.A (inplaceOp op v u) #[Op] X.xe s
section
variable {X:Cx} {pos:Pos}
noncomputable def zaD (i:Nat):TG:=fun v σ H Q=>Q (σ.set i #[UW]) H
theorem zm {i:Nat} {x:Str} (hN:X.N.Nodup) (hi:X.N[i]? = some x) (hx:Loc X.env.scope x) (hf:X.fn x=true\/X.env.scope.names.lookup x=some .local:=by first | exact .inl rfl | exact .inr rfl | assumption):PG X #[T6] (zaD i):=by
 intro mq s σ H v u Q I r h;exact wpAny_assign_Name (zb6 I hN hi hx r (fun s' I'=>⟨_,H,I',h⟩) hf)
noncomputable def zjK:TGs:=fun vs σ H Q=>vs = []/\Q σ H
noncomputable def zcY (t:TG) (u:TGs):TGs:=fun vs σ H Q=>∃ v r,vs=v :: r/\t v σ H fun σ' H'=>u r σ' H' Q
theorem zY:PGs X [] zjK:=by
 intro mq s σ H vs us Q I r h;obtain⟨e,h⟩:=h;subst e;cases r;exact assignInOrder_nil ⟨σ,H,I,h⟩
theorem zq {e:Expr} {es:List Expr} {t:TG} {u:TGs} (h1:PG X e t) (h2:PGs X es u)
  (hs:(assignEach (e :: es) X.env).map (·.2)=assign e X.env :: #[So].map (·.2):=by rfl):PGs X (e :: es) (zcY t u):=by
 intro mq s σ H vs us Q I r h;obtain⟨v,vr,e1,h⟩:=h;subst e1;cases r with
 | cons r rr =>
  rw [hs];refine assignInOrder_cons (thn (h1 mq s σ H _ _ _ I r h) fun _ s1 ⟨σ1,H1,I1,q1⟩=>?_);exact h2 mq s1 σ1 H1 _ _ Q I1 rr q1
noncomputable def zhW (K:af) (n:Nat) (t:TGs):TG:=fun v σ H Q=>∃ a xs,v = .ref a/\mK K H a xs/\xs.length=n/\t xs σ H Q
theorem zbe {es:List Expr} {k:Nat} {t:TGs} {n:Nat} (hc:X.calm=true) (h:PGs X es t)
  (hn:#[So].length=n:=by rfl) (oj:#[So].findIdx? (·.1)=none:=by rfl):PG X #[SG] (zhW X.K n t):=by
 intro mq s σ H v u Q I r hw;obtain⟨a,xs,e1,hq,hl,hw⟩:=hw;subst e1;cases r;obtain⟨mC,rv,ht,hz⟩:=I.tuple hq;refine assign_Tuple_tuple #[Rq] ht (by simp [hn,<- hl,rv.length]) oj fun h' hx=>?_
 have I1:Inv X mq σ H { s with heap:=h' }:=I.kept (t':=s.toks) fun b o e=>hx b o (aO (aB e)) e
 exact h mq _ σ H xs _ Q I1 (by simpa using rv) hw
noncomputable def zpJ (to ti:TE) (t:zn2):TG:=fun v σ H Q=>to σ H fun o H1=>ti σ H1 fun i H2=>t o i v H2 fun H3=>Q σ H3
theorem zc9 {o i:Expr} {to ti:TE} {t:zn2} (ho:PE X o to) (hi:PE X i ti) (hs:zo5 X t)
  (ha:∀ v,assign (.Subscript o i pos) X.env v=(do
   let ov <- holding [v] #[Wn]
   let iv <- holding [v,ov] (eval i X.env)
   standAt pos
   holding [v,ov,iv] (setItem ov iv v)
   release [v,ov,iv] []):=by intro _; rfl):PG X (.Subscript o i pos) (zpJ to ti t):=by
 intro mq s σ H v u Q I r h;rw [ha];refine aa (bJ (thn #[Vy] fun ov s1 ⟨x,H1,I1,r1,q1⟩=>?_));refine aa (bJ (thn (hi mq s1 σ H1 _ I1 q1) fun iv s2 ⟨y,H2,I2,r2,q2⟩=>?_));refine aa (cS (aa (bJ (thn (hs mq s2 σ H2 x y v ov iv u _ I2 r1 r2 r q2) fun _ s3 ⟨H3,I3,q3⟩=>?_))));exact wpAny_release ⟨σ,H3,I3,q3⟩
noncomputable def zfg (te:TE) (g:TG):TS:=fun D σ H=>te σ H fun x H1=>g x σ H1 D.nx
theorem za5 {tg e:Expr} {te:TE} {g:TG} (he:PE X e te) (hg:PG X tg g) (hs:swapsWithSole [tg] e pos.line X.env=pure false:=by rfl) (hw:swappedStores [tg] e X.env=pure none:=by rfl)
  (h1:(assignEach [tg] X.env).map (·.2) = [assign tg X.env]:=by rfl):PS X (.Assign [tg] e pos) (zfg te g):=by
 intro mq s σ H D I h;refine wpAny_Assign_stores (thn #[Id] fun v s1 ⟨x,H1,I1,r1,q1⟩=>?_) hs hw;rw [h1];exact thn (hg mq s1 σ H1 x v _ I1 r1 q1) fun _ s2 q=>q
theorem zr {i:Nat} {x:Str} {e:Expr} {te:TE} {pos':Pos} (hN:X.N.Nodup) (hi:X.N[i]? = some x) (hx:Loc X.env.scope x) (he:PE X e te) (hs:swapsWith e #[WP] pos.line X.env=pure false:=by rfl) (hf:X.fn x=true\/X.env.scope.names.lookup x=some .local:=by first | exact .inl rfl | exact .inr rfl | assumption) :
  PS X (.Assign [.Name x pos'] e pos) (zfg te (zaD i)):=by
 intro mq s σ H D I h;refine wpAny_Assign_Name (thn #[Id] fun v s1 ⟨y,H1,I1,r1,q1⟩=>?_) hs;exact zb6 I1 hN hi hx r1 (fun s2 I2=>⟨_,H1,I2,q1⟩) hf
noncomputable def zpK (i:Nat) (te:TE) (ti:TIp):TS:=fun D σ H=>∃ x,σ[i]? = some (some x)/\te σ H fun y H1=>ti x y H1 fun z H2=>D.nx (σ.set i (some z)) H2
theorem zn3 {i:Nat} {x:Str} {e:Expr} {te:TE} {op:Operator} {ti:TIp} {pos':Pos} (hN:X.N.Nodup) (hi:X.N[i]? = some x) (hx:Loc X.env.scope x) (he:PE X e te) (ho:PIp X op ti) (hf:X.fn x=true\/X.env.scope.names.lookup x=some .local:=by first | exact .inl rfl | exact .inr rfl | assumption) :
  PS X (.AugAssign #[RQ] op e pos) (zpK i te ti):=by
 intro mq s σ H D I h;obtain⟨v,e1,h⟩:=h;obtain⟨m,hn,hl⟩:=I.loc;have Gi:Vis X.env.scope x:=by rcases hx with k | k; exact .inl k; exact .inr (.inl k)
 obtain⟨u,r,l⟩:=hl i x v hi e1 Gi;refine wpAny_AugAssign_Name ?_;have go:wpAny #[mt] X.A #[U0] (fun w s₂=>wpAny #[mt] X.A (inplaceOp op u w) (fun r s₃=>wpAny #[mt] X.A (storeName X.env x r) (fun _=>SP X mq D .next) X.xe s₃) X.xe s₂) X.xe s:=by
  refine thn #[Id] fun w s1 ⟨y,H1,I1,r1,q1⟩=>?_
  refine thn (ho mq s1 σ H1 v y u w _ I1 r r1 q1) fun z s2 ⟨zv,H2,I2,r2,q2⟩=>?_
  exact zb6 I2 hN hi hx r2 (fun s3 I3=>⟨_,H2,I3,q2⟩) hf
 rcases l with ⟨hk,hm⟩ | ⟨hk,c,hc,pG⟩
 ·exact jo I.ok.kind hk hn hm go
 ·rcases hk with hk | hk
  ·exact jJ I.ok.kind hk hc pG go
  ·rcases hx with k | k
   ·have:X.env.scope.names.lookup x=some .free:=hk;rw [k] at this; cases this
   ·have:X.env.scope.names.lookup x=some .free:=hk;rw [k] at this; cases this
noncomputable def zk4 (c:TT) (tb:TS):TS:=fun D σ H=>∃ W:Nat->St->Hp->Prop,(∃ m,W m σ H)/\∀ m σ H,W m σ H ->
 c σ H fun b H1=>if b=true then ∃ N:St->Hp->Prop,(∀ σ' H',N σ' H'->∃ m',m' < m/\W m' σ' H')/\tb { D with nx:=N,ct:=N,bk:=D.nx } σ H1 else D.nx σ H1
theorem zk5 {c:Expr} {body:List Stmt} {tc:TT} {tb:TS} (hp:PassesOwn #[mt] X.A X.env X.xe) (hc:PT X c tc) (hb:PSs X body tb):PS X (.While c body [] pos) (zk4 tc tb):=by
 intro mq s σ H D I h;obtain⟨W,⟨m0,w0⟩,turn⟩:=h;refine wpAny_While (codeAny_whileLoop (fun n s'=>∃ σ' H',Inv X mq σ' H' s'/\W n σ' H') ?_ m0 ⟨σ,H,I,w0⟩);rintro n s1 ⟨σ1,H1,I1,w1⟩;refine dt hp (thn (hc mq s1 σ1 H1 _ I1 (turn n σ1 H1 w1)) fun b s2 ⟨H2,I2,q2⟩=>?_);cases b with
 | true =>
  obtain⟨N,hN,q2⟩:=q2;rw [if_pos rfl];refine dt hp (thn (hb mq s2 σ1 H2 _ I2 q2) fun f s3 q3=>?_);cases f with
  | next =>
   obtain⟨σ3,H3,I3,n3⟩:=q3;obtain⟨m',hm,w3⟩:=hN σ3 H3 n3;exact⟨m',hm,σ3,H3,I3,w3⟩
  | cont =>
   obtain⟨σ3,H3,I3,n3⟩:=q3;obtain⟨m',hm,w3⟩:=hN σ3 H3 n3;exact⟨m',hm,σ3,H3,I3,w3⟩
  | brk=>exact q3
  | ret v=>exact q3
 | false =>
  rw [if_neg aG];exact dX ⟨σ1,H2,I2,q2⟩
end
structure It where
 go:Nat->Hp->Prop
 yld:Nat->Hp->V->Hp->Prop
 stop:Nat->Hp->Prop
noncomputable def zbA (X:Cx) (mq:List (Addr×Obj)) (H:Hp) (b:Addr):Prop :=
 H b=none/\b≠X.env.locals/\b∉X.fs/\(b∈X.ex\/X.s₀.heap.objs.size<=b)/\(∀ x c,X.env.cells.lookup x=some c->c≠b)/\∀ p∈X.pn++mq,p.1≠b
theorem Inv.Nv {σ:St} {b:Addr} (I:Inv X mq σ H s) (hb:s.heap.objs.size<=b) (hn:H' b=none):zbA X mq H' b:=by
 refine⟨hn,dO (aR I.lt hb),I.QO hb,.inr (bn I.sz hb),fun x c e z=>?_,fun p hp z=>?_⟩
 ·obtain⟨v,q⟩:=I.cell x c e;exact absurd (aR q.lt (by rw [z]; exact hb)) (bX _)
 ·exact absurd (aR (aB (I.pin p hp).1) (by rw [z]; exact hb)) (bX _)
structure Turn (P:Program) (w:World) (K:af) (tg:Expr) (J:It) (fp:List Addr) (it:Addr) (tn:Nat->Heap->Prop):Prop where
 mem:it∈fp
 obj:∀ i h,tn i h->∀ b∈fp,∃ o,h.get? b=some o/\∀ v,o.data≠.cell v
 keep:∀ i h h',tn i h->(∀ b∈fp,∀ o,h.get? b=some o->h'.get? b=some o)->tn i h'
 item:∀ (X:Cx),X.prog=P->X.w=w->X.K=K->X.calm=true->∀ (i:Nat) (mq:List (Addr×Obj)) (s:Shared) (σ:St) (H:Hp) (E:Value->Shared->Prop),Inv X mq σ H s->(∀ b∈fp,zbA X mq H b)->tn i s.heap->J.go i H ->
  wpAny #[Ui] X.A #[SI] (fun r s1=>∃ u,r=some u /\
   wpAny #[Ui] X.A #[XE] (fun _ s2=>∃ x H',Inv X mq σ H' s2/\RelV x u/\J.yld i H x H'/\tn (i+1) s2.heap/\∀ b∈fp,H' b=none) E s1) E s
 done:∀ (X:Cx),X.prog=P->X.w=w->X.K=K->X.calm=true->∀ (i:Nat) (mq:List (Addr×Obj)) (s:Shared) (σ:St) (H:Hp) (E:Value->Shared->Prop),Inv X mq σ H s->(∀ b∈fp,zbA X mq H b)->tn i s.heap->J.stop i H ->
  wpAny #[Ui] X.A #[SI] (fun r s1=>r=none/\Inv X mq σ H s1) E s
 self:∀ (A:Around) (i:Nat) (s:Shared) (Q:Value->Shared->Prop) (E:Value->Shared->Prop),tn i s.heap->Q #[Q7] s->wpAny #[Ui] A (pyIter #[Q7]) Q E s
abbrev TI:=St->Hp->(It->Hp->Prop)->Prop
noncomputable def PIE (X:Cx) (mq:List (Addr×Obj)) (σ:St) (tg:Expr) (R:It->Hp->Prop) (itv:Value) (s2:Shared):Prop :=
 ∃ (it:Addr) (fp:List Addr) (tn:Nat->Heap->Prop) (J:It) (H':Hp),itv = .ref it/\Inv X mq σ H' s2/\Turn X.prog X.w X.K tg J fp it tn/\tn 0 s2.heap/\(∀ b∈fp,zbA X mq H' b)/\R J H'
noncomputable def PI (X:Cx) (tg iter:Expr) (wi:TI):Prop :=
 ∀ (mq:List (Addr×Obj)) (s:Shared) (σ:St) (H:Hp) (R:It->Hp->Prop),Inv X mq σ H s->wi σ H R ->
  wpAny #[mt] X.A (eval iter X.env) (fun v s1=>wpAny #[mt] X.A (pyIter v) (PIE X mq σ tg R) X.xe s1) X.xe s
theorem zfv {E:Value->Shared->Prop} {u:Value} {o:Obj} {n:String} {vs:Array Value} {Q:Unit->Shared->Prop} (ho:s.heap.get? it=some o) (hc:o.cls = .type n) (hd:o.data = .fields vs)
  (hn:["enumerate","zip","dict_itemiterator","dict_reverseitemiterator","odict_iterator","itertools.zip_longest","itertools.pairwise"].contains n=false) (hQ:Q () s):wpAny M A #[XE] Q E s:=by
 unfold letOwnedTupleGo;cases tg <;> first
  | exact ag hQ
  | (cases u <;> first
    | exact ag hQ
    | (refine aa (k9 ho ?_)
       rw [hc,hd];show wpAny M A (if (["enumerate","zip","dict_itemiterator","dict_reverseitemiterator","odict_iterator","itertools.zip_longest","itertools.pairwise"].contains n && vs[0]? == some (rawInt _))=true then _ else _) Q E s;rw [if_neg (by intro h; rw [hn,lG] at h; cases h)];exact ag hQ))
noncomputable def Itl (K:af) (a:Addr):It :=
 ⟨fun i H=>∃ xs x,mB K H a xs/\xs[i]? = some x,fun i H x H'=>H'=H/\∀ xs,mB K H a xs->xs[i]? = some x,fun i H=>∃ xs,mB K H a xs/\xs.length<=i⟩
noncomputable def Itt (K:af) (a:Addr):It :=
 ⟨fun i H=>∃ xs x,mK K H a xs/\xs[i]? = some x,fun i H x H'=>H'=H/\∀ xs,mK K H a xs->xs[i]? = some x,fun i H=>∃ xs,mK K H a xs/\xs.length<=i⟩
noncomputable def Itr (lo:Int) (n:Nat):It:=⟨fun i _=>i < n,fun i H x H'=>H'=H/\x = .int (lo+i),fun i _=>n<=i⟩
theorem zfw {P:Program} (a it:Addr):Turn P w K tg #[W5] [it] it (fun i h=>h.IsListIter it a i) where
 mem:=by simp
 obj:=fun i h st b hb=>by
  have e:b=it:=by simpa using hb
  subst e;obtain⟨o,e,c,d⟩:=st;exact⟨o,e,fun v z=>by rw [d] at z; cases z⟩
 keep:=fun i h h' st k=>st.at fun o e=>k it #[M] o e
 item:=by
  intro X hP hw hK hc i mq s σ H E I hf st hg;subst hP hw hK;obtain⟨xs,x,hq,hx⟩:=hg;obtain⟨mC,rv,p,hz⟩:=I.list hq;obtain⟨u,hu,ru⟩:=rv.get hx;obtain⟨f0,f1,f2,f3,f4,f5⟩:=hf it #[M];refine wpAny_pyNext_list_item st p.isList (x:=u) (by simpa using hu) fun h' mP sb=>?_
  have I1:Inv X mq σ H { s with heap:=h' }:=I.turned (t':=s.toks) (fun b o hb e=>(sb.2 b hb).trans e) f0 f1 f3 f4 f5;obtain⟨o,e,c,d⟩:=id mP;exact⟨u,rfl,zfv (s:={ s with heap:=h' }) e c d #[D] ⟨x,H,I1,ru,⟨rfl,fun ys hy=>by rw [I.KG hy hq]; exact hx⟩,mP,fun b hb=>#[W3].1⟩⟩
 done:=by
  intro X hP hw hK hc i mq s σ H E I hf st hg;subst hP hw hK;obtain⟨xs,hq,hx⟩:=hg;obtain⟨mC,rv,p,hz⟩:=I.list hq;obtain⟨f0,f1,f2,f3,f4,f5⟩:=hf it #[M];have hl:=rv.length;exact wpAny_pyNext_list_end #[Rq] st p.isList (by simp; lia) fun h' eb=>#[ss]
 self:=fun _ _ _ _ _ st h=>wpAny_pyIter_listiter st h
theorem zhX {P:Program} (a it:Addr):Turn P w K tg (Itt K a) [it] it (fun i h=>h.IsTupleIter it a i) where
 mem:=by simp
 obj:=fun i h st b hb=>by
  have e:b=it:=by simpa using hb
  subst e;obtain⟨o,e,c,d⟩:=st;exact⟨o,e,fun v z=>by rw [d] at z; cases z⟩
 keep:=fun i h h' st k=>st.at fun o e=>k it #[M] o e
 item:=by
  intro X hP hw hK hc i mq s σ H E I hf st hg;subst hP hw hK;obtain⟨xs,x,hq,hx⟩:=hg;obtain⟨mC,rv,p,hz⟩:=I.tuple hq;obtain⟨u,hu,ru⟩:=rv.get hx;obtain⟨f0,f1,f2,f3,f4,f5⟩:=hf it #[M];refine wpAny_pyNext_tuple_item st (show s.heap.IsTuple a mC.toArray from p) (x:=u) (by simpa using hu) fun h' mP sb=>?_
  have I1:Inv X mq σ H { s with heap:=h' }:=I.turned (t':=s.toks) (fun b o hb e=>(sb.2 b hb).trans e) f0 f1 f3 f4 f5;obtain⟨o,e,c,d⟩:=id mP;exact⟨u,rfl,zfv (s:={ s with heap:=h' }) e c d #[D] ⟨x,H,I1,ru,⟨rfl,fun ys hy=>by rw [I.Lq hy hq]; exact hx⟩,mP,fun b hb=>#[W3].1⟩⟩
 done:=by
  intro X hP hw hK hc i mq s σ H E I hf st hg;subst hP hw hK;obtain⟨xs,hq,hx⟩:=hg;obtain⟨mC,rv,p,hz⟩:=I.tuple hq;obtain⟨f0,f1,f2,f3,f4,f5⟩:=hf it #[M];have hl:=rv.length;exact wpAny_pyNext_tuple_end #[Rq] st (show s.heap.IsTuple a mC.toArray from p) (by simp; lia) fun h' eb=>#[ss]
 self:=fun _ _ _ _ _ st h=>wpAny_pyIter_tupleiter st h
theorem zhY {P:Program} (it:Addr) (lo:Int) (n:Nat):Turn P w K tg (Itr lo n) [it] it (fun i h=>IsRangeIter h it (lo+(i:Nat)*1) ((n:Int) - (i:Nat)) 1) where
 mem:=by simp
 obj:=fun i h st b hb=>by
  have e:b=it:=by simpa using hb
  subst e;exact⟨_,st,fun v z=>by
   have z':kM _=Data.cell v:=z;cases z'⟩
 keep:=fun i h h' st k=>k it #[M] _ st
 item:=by
  intro X hP hw hK hc i mq s σ H E I hf st hg;subst hP hw hK;obtain⟨f0,f1,f2,f3,f4,f5⟩:=hf it #[M];have W:=Walks.range (prog:=X.prog) (w:=X.w) #[Rq] it lo 1 n;refine W.item i s _ _ hg st fun v h' tk hv mP kk=>?_
  obtain⟨t,rfl⟩:=hv;have I1:Inv X mq σ H { s with heap:=h',toks:=tk }:=I.turned (fun b o hb e=>kk b o (by simpa using hb) e) f0 f1 f3 f4 f5;refine⟨_,rfl,zfv (s:={ s with heap:=h',toks:=tk }) (n:="range_iterator") mP rfl rfl #[D] ⟨.int (lo+i),H,I1,⟨t,?_⟩,⟨rfl,rfl⟩,mP,fun b hb=>#[W3].1⟩⟩;rw [Int.mul_one]
 done:=by
  intro X hP hw hK hc i mq s σ H E I hf st hg;subst hP hw hK;obtain⟨f0,f1,f2,f3,f4,f5⟩:=hf it #[M];exact wpAny_pyNext_range_end #[Rq] st (by have:n<=i:=hg; lia) fun h' eb=>#[ss]
 self:=fun _ _ _ _ _ st h=>wpAny_pyIter_rangeiter st h
section
variable {X:Cx} {tg:Expr}
noncomputable def zo6 (K:af) (tl:TE):TI:=fun σ H R=>tl σ H fun x H1=>∃ a,x = .ref a/\(∃ xs,mB K H1 a xs)/\R #[W5] H1
theorem zao {l:Expr} {tl:TE} (hl:PE X l tl):PI X tg l (zo6 X.K tl):=by
 intro mq s σ H R I h;refine thn #[Vz] fun v s1 ⟨x,H1,I1,r1,q1⟩=>?_
 obtain⟨a,e,⟨xs,hq⟩,q⟩:=q1;subst e;cases r1;obtain⟨mC,rv,p,hz⟩:=I1.list hq;refine ib p.isList ?_;refine⟨s1.heap.objs.size,[s1.heap.objs.size],_,_,H1,rfl,I1.kept (t':=s1.toks) fun b o e=>ah _ e,zfw a _,⟨_,az _ rfl,rfl,rfl⟩,fun b hb=>?_,q⟩;have e:b=s1.heap.objs.size:=by simpa using hb
 subst e;exact I1.Nv (ai _) #[Ry]
theorem zgS {σ:St} {R:It->Hp->Prop} {E:Value->Shared->Prop} {lo hi:Int} {t u v:Tok} (I:Inv X mq σ H s) (h1:-(2 ^ 62)<=lo) (h2:lo < 2 ^ 62) (h3:-(2 ^ 62)<=hi) (h4:hi < 2 ^ 62)
  (q:R (Itr lo (hi - lo).toNat) H):wpAny #[mt] X.A (pyIter #[t0]) (PIE X mq σ tg R) E { s with heap:=s.heap.push { cls:=.type "range",data:=.fields #[PP] },toks:=tk }:=by
 refine wpAny_pyIter_range (IsRange.new ..) (small_one h1 h2 h3 h4) ?_;have I1:Inv X mq σ H { s with heap:=s.heap.push { cls:=.type "range",data:=.fields #[PP] },toks:=tk }:=I.kept fun b o e=>ah _ e
 refine⟨(s.heap.push { cls:=.type "range",data:=.fields #[PP] }).objs.size,[(s.heap.push { cls:=.type "range",data:=.fields #[PP] }).objs.size],_,_,H,rfl,
  I1.kept (t':=tk) fun b o e=>ah _ e,zhY _ lo (hi - lo).toNat,?_,fun b hb=>?_,q⟩
 ·have e1:lo+((0:Nat):Int)*1=lo:=by simp
  have e2:(((hi - lo).toNat:Nat):Int) - ((0:Nat):Int)=Builtin.Range.rangeSize lo hi 1:=by rw [rangeSize_one]; split <;> lia
  show IsRangeIter _ _ (lo+((0:Nat):Int)*1) ((((hi - lo).toNat:Nat):Int) - ((0:Nat):Int)) 1;rw [e1,e2];exact az _ rfl
 ·have e:b=(s.heap.push { cls:=.type "range",data:=.fields #[PP] }).objs.size:=by simpa using hb
  subst e;exact I1.Nv (ai _) #[Ry]
noncomputable def zo7 (ta:TA):TI:=fun σ H R=>ta σ H fun vs H1=>∃ j:Int,vs = [.int j]/\-(2 ^ 62)<=j/\j < 2 ^ 62/\R (Itr 0 j.toNat) H1
noncomputable def zo8 (ta:TA):TI:=fun σ H R=>ta σ H fun vs H1=>∃ i j:Int,vs = [.int i,.int j]/\(-(2 ^ 62)<=i/\i < 2 ^ 62/\-(2 ^ 62)<=j/\j < 2 ^ 62)/\R (Itr i (j - i).toNat) H1
theorem zap {a:Expr} {ta:TA} {p pos:Pos} (hg:Gl X "range") (hm:X.mg "range" = none) (ha:PA X [a] ta) (hs:starEach [a] X.env = [#[Rh]]:=by rfl):PI X tg (.Call (.Name "range" p) [a] [] pos) (zo7 ta):=by
 intro mq s σ H R I h;refine Call_ (zbG I hg hm lb (bC (thn #[AC] fun us s1 ⟨vs,H1,I1,r1,q1⟩=>?_) hs rfl));obtain⟨j,e,q1,q2,q⟩:=q1;subst e;cases r1 with
 | cons r rr =>
  cases rr;obtain⟨t,rfl⟩:=r;exact call_range_1 (zgS I1 #[O] #[O] q1 q2 (by simpa using q))
theorem zjL {a b:Expr} {ta:TA} {p pos:Pos} (hg:Gl X "range") (hm:X.mg "range" = none) (ha:PA X [a,b] ta) (hs:starEach [a,b] X.env = [#[Rh],#[Ps]]:=by rfl) (oJ:starEach [b] X.env = [#[Ps]]:=by rfl) :
  PI X tg (.Call (.Name "range" p) [a,b] [] pos) (zo8 ta):=by
 intro mq s σ H R I h;refine Call_ (zbG I hg hm lb (bC (thn #[AC] fun us s1 ⟨vs,H1,I1,r1,q1⟩=>?_) (by rw [hs,oJ]) (by rw [oJ]; rfl)));obtain⟨i,j,e,⟨q1,q2,q3,q4⟩,q⟩:=q1;subst e;cases r1 with
 | cons r rr =>
  cases rr with
  | cons r' rr =>
   cases rr;obtain⟨t,rfl⟩:=r;obtain⟨t',rfl⟩:=r';exact call_range_2 (zgS I1 q1 q2 q3 q4 q)
noncomputable def zpL (wi:TI) (g:TG) (tb:TS):TS:=fun D σ H=>wi σ H fun J H1=>∃ W:Nat->Nat->St->Hp->Prop,(∃ m,W 0 m σ H1)/\∀ i m σ H,W i m σ H ->
 (J.stop i H/\D.nx σ H)\/(J.go i H/\∃ N:St->Hp->Prop,(∀ σ' H',N σ' H'->∃ m',m' < m/\W (i+1) m' σ' H')/\∀ x H',J.yld i H x H'->g x σ H' fun σ2 H2=>tb { D with nx:=N,ct:=N,bk:=D.nx } σ2 H2)
noncomputable def zbB (fp:List Addr) (h:Heap):List (Addr×Obj):=fp.filterMap fun b=>(h.get? b).map fun o=>(b,o)
theorem zbl {b:Addr} {o:Obj} (hb:b∈fp) (e:h.get? b=some o):(b,o)∈zbB fp h:=gQ.mpr ⟨b,hb,by rw [e]; rfl⟩
theorem zdJ {p:Addr×Obj} (hp:p∈zbB fp h):p.1∈fp/\h.get? p.1=some p.2:=by
 obtain⟨b,hb,e⟩:=gQ.mp hp;cases q:h.get? b with
 | none=>rw [q] at e; cases e
 | some o =>
  rw [q] at e;have e':(b,o)=p:=aN e;subst e';exact⟨hb,q⟩
theorem Inv.pinned {σ:St} (I:Inv X mq σ H s) (hf:∀ b∈fp,zbA X mq H b) (ho:∀ b∈fp,∃ o,s.heap.get? b=some o/\∀ v,o.data≠.cell v):Inv X (mq++zbB fp s.heap) σ H s :=
 I.Ml fun p hp=>(aC.mp hp).elim (fun z=>I.pin p (aq _ z)) fun z=>by
  obtain⟨hb,e⟩:=zdJ z;obtain⟨f0,f1,f2,_⟩:=hf p.1 hb;obtain⟨o,e',d⟩:=ho p.1 hb;rw [e] at e'; cases e';exact⟨e,f0,f1,f2,d⟩
theorem Inv.MU {pl:List (Addr×Obj)} {σ:St} (I:Inv X (mq++pl) σ H s):Inv X mq σ H s:=I.Ml fun p hp=>I.pin p #[Vu]
theorem za6 {iter:Expr} {body:List Stmt} {wi:TI} {g:TG} {tb:TS} {pos:Pos} (hp:PassesOwn #[mt] X.A X.env X.xe) (hc:X.calm=true) (hi:PI X tg iter wi) (hg:PG X tg g) (hb:PSs X body tb)
  (hs:∀ x,foldedSetIterable iter X.env x=pure x:=by intro _; rfl):PS X (.For tg iter body [] pos) (zpL wi g tb):=by
 intro mq s σ H D I h;refine wpAny_For (thn #[T8] fun v s1 h1=>thn h1 fun itv s2 h2=>?_) hs;obtain⟨it,fp,tn,J,H2,e,I2,T,nF,f2,W,⟨m0,w0⟩,turn⟩:=h2;subst e;have Cw:∀ {H':Hp},(∀ b∈fp,H' b=none)->∀ b∈fp,zbA X mq H' b:=fun hn b hb=>⟨hn b hb,(f2 b hb).2⟩
 refine codeAny_forLoop_any (fun n s'=>∃ i σ' H',Inv X mq σ' H' s'/\tn i s'.heap/\(∀ b∈fp,H' b=none)/\W i n σ' H') ?_ m0 ⟨0,σ,H2,I2,nF,fun b hb=>(f2 b hb).1,w0⟩;rintro n s3 ⟨i,σ3,H3,I3,Cy,fr3,w3⟩;rcases turn i n σ3 H3 w3 with ⟨stop,qn⟩ | ⟨go,N,hN,step⟩
 ·refine dt hp (thn (T.done X rfl rfl rfl hc i mq s3 σ3 H3 X.xe I3 (Cw fr3) Cy stop) fun r s4 ⟨hr,I4⟩=>?_);subst hr;exact dX ⟨σ3,H3,I4,qn⟩
 ·refine dt hp (thn (T.item X rfl rfl rfl hc i mq s3 σ3 H3 X.xe I3 (Cw fr3) Cy go) fun r s4 ⟨u,hr,h4⟩=>?_);subst hr;refine dt hp (thn h4 fun _ s5 ⟨x,H5,I5,r5,y5,AS,Cz⟩=>?_);have I5':=I5.pinned (Cw Cz) (T.obj _ _ AS);refine dt hp (thn (hg _ s5 σ3 H5 x u _ I5' r5 (step x H5 y5)) fun _ s6 ⟨σ6,H6,I6,q6⟩=>?_);refine dt hp (thn (hb _ s6 σ6 H6 _ I6 q6) fun f s7 q7=>?_);have again:∀ {σ7:St} {H7:Hp},Inv X (mq++zbB fp s5.heap) σ7 H7 s7->N σ7 H7->∃ m,m < n/\∃ i σ' H',Inv X mq σ' H' s7/\tn i s7.heap/\(∀ b∈fp,H' b=none)/\W i m σ' H':=fun {σ7 H7} I7 n7=>by
   obtain⟨m',hm,w7⟩:=hN σ7 H7 n7;refine⟨m',hm,i+1,σ7,H7,I7.MU,T.keep _ _ _ AS fun b hb o e=>#[WM].1,fun b hb=>?_,w7⟩;obtain⟨o,e,d⟩:=T.obj _ _ AS b hb;exact #[WM].2.1
  cases f with
  | next=>obtain⟨σ7,H7,I7,n7⟩:=q7; exact again I7 n7
  | cont=>obtain⟨σ7,H7,I7,n7⟩:=q7; exact again I7 n7
  | brk=>obtain⟨σ7,H7,I7,q7⟩:=q7; exact⟨σ7,H7,I7.MU,q7⟩
  | ret v=>obtain⟨x7,σ7,H7,I7,r7,q7⟩:=q7; exact⟨x7,σ7,H7,I7.MU,r7,q7⟩
end
theorem zk6 {a:Addr} {g:TG} {tb:TS} {D:Ends} {σ:St} (Pv:Nat->St->Hp->Prop) (h0:Pv 0 σ H) (hl:∀ i σ H,i<=xs.length->Pv i σ H->mB K H a xs)
  (hs:∀ i x σ H,xs[i]? = some x->Pv i σ H->g x σ H fun σ2 H2=>tb { D with nx:=Pv (i+1),ct:=Pv (i+1),bk:=D.nx } σ2 H2) (hd:∀ σ H,Pv xs.length σ H->D.nx σ H) :
  ∃ W:Nat->Nat->St->Hp->Prop,(∃ m,W 0 m σ H)/\∀ i m σ H,W i m σ H ->
   (#[W5].stop i H/\D.nx σ H)\/(#[W5].go i H/\∃ N:St->Hp->Prop,(∀ σ' H',N σ' H'->∃ m',m' < m/\W (i+1) m' σ' H')/\∀ x H',#[W5].yld i H x H'->g x σ H' fun σ2 H2=>tb { D with nx:=N,ct:=N,bk:=D.nx } σ2 H2):=by
 refine⟨fun i m σ H=>m=xs.length - i/\i<=xs.length/\Pv i σ H,⟨xs.length,#[M],bg _,h0⟩,?_⟩;rintro i m σ H ⟨rfl,hi,p⟩;have q:=hl i σ H hi p;by_cases mW:i < xs.length
 ·refine .inr ⟨⟨xs,xs[i],q,by simp [mW]⟩,Pv (i+1),fun σ' H' p'=>⟨xs.length - (i+1),#[O],rfl,mW,p'⟩,fun x H' y=>?_⟩;obtain⟨e,y⟩:=y;subst e;exact hs i x σ _ (y xs q) p
 ·have e:i=xs.length:=by lia
  subst e;exact .inl ⟨⟨xs,q,ai _⟩,hd σ H p⟩
theorem zmA {a:Addr} {g:TG} {tb:TS} {D:Ends} {σ:St} (Pv:Nat->St->Hp->Prop) (h0:Pv 0 σ H) (hl:∀ i σ H,i<=xs.length->Pv i σ H->mK K H a xs)
  (hs:∀ i x σ H,xs[i]? = some x->Pv i σ H->g x σ H fun σ2 H2=>tb { D with nx:=Pv (i+1),ct:=Pv (i+1),bk:=D.nx } σ2 H2) (hd:∀ σ H,Pv xs.length σ H->D.nx σ H) :
  ∃ W:Nat->Nat->St->Hp->Prop,(∃ m,W 0 m σ H)/\∀ i m σ H,W i m σ H ->
   ((Itt K a).stop i H/\D.nx σ H)\/((Itt K a).go i H/\∃ N:St->Hp->Prop,(∀ σ' H',N σ' H'->∃ m',m' < m/\W (i+1) m' σ' H')/\∀ x H',(Itt K a).yld i H x H'->g x σ H' fun σ2 H2=>tb { D with nx:=N,ct:=N,bk:=D.nx } σ2 H2):=by
 refine⟨fun i m σ H=>m=xs.length - i/\i<=xs.length/\Pv i σ H,⟨xs.length,#[M],bg _,h0⟩,?_⟩;rintro i m σ H ⟨rfl,hi,p⟩;have q:=hl i σ H hi p;by_cases mW:i < xs.length
 ·refine .inr ⟨⟨xs,xs[i],q,by simp [mW]⟩,Pv (i+1),fun σ' H' p'=>⟨xs.length - (i+1),#[O],rfl,mW,p'⟩,fun x H' y=>?_⟩;obtain⟨e,y⟩:=y;subst e;exact hs i x σ _ (y xs q) p
 ·have e:i=xs.length:=by lia
  subst e;exact .inl ⟨⟨xs,q,ai _⟩,hd σ H p⟩
theorem zjM {lo:Int} {n:Nat} {g:TG} {tb:TS} {D:Ends} {σ:St} (Pv:Nat->St->Hp->Prop) (h0:Pv 0 σ H)
  (hs:∀ i σ H,i < n->Pv i σ H->g (.int (lo+i)) σ H fun σ2 H2=>tb { D with nx:=Pv (i+1),ct:=Pv (i+1),bk:=D.nx } σ2 H2) (hd:∀ σ H,Pv n σ H->D.nx σ H) :
  ∃ W:Nat->Nat->St->Hp->Prop,(∃ m,W 0 m σ H)/\∀ i m σ H,W i m σ H ->
   ((Itr lo n).stop i H/\D.nx σ H)\/((Itr lo n).go i H/\∃ N:St->Hp->Prop,(∀ σ' H',N σ' H'->∃ m',m' < m/\W (i+1) m' σ' H')/\∀ x H',(Itr lo n).yld i H x H'->g x σ H' fun σ2 H2=>tb { D with nx:=N,ct:=N,bk:=D.nx } σ2 H2):=by
 refine⟨fun i m σ H=>m=n - i/\i<=n/\Pv i σ H,#[Tm],?_⟩;rintro i m σ H ⟨rfl,hi,p⟩;by_cases mW:i < n
 ·refine .inr ⟨mW,Pv (i+1),fun σ' H' p'=>⟨n - (i+1),#[O],rfl,mW,p'⟩,fun x H' y=>?_⟩;obtain⟨e,y⟩:=y;subst e y;exact hs i σ _ mW p
 ·have e:i=n:=by lia
  subst e;exact .inl ⟨ai _,hd σ H p⟩
theorem zk7 {c:TT} {tb:TS} {D:Ends} {σ:St} (Pv:St->Hp->Prop) (μ:St->Hp->Nat) (h0:Pv σ H)
  (hs:∀ σ H,Pv σ H->c σ H fun b H1=>if b=true then tb { D with nx:=fun σ' H'=>Pv σ' H'/\μ σ' H' < μ σ H,ct:=fun σ' H'=>Pv σ' H'/\μ σ' H' < μ σ H,bk:=D.nx } σ H1 else D.nx σ H1)
  (mono:∀ σ H Q Q',(∀ b H1,Q b H1->Q' b H1)->c σ H Q->c σ H Q'):zk4 c tb D σ H:=by
 refine⟨fun m σ H=>m=μ σ H/\Pv σ H,⟨_,rfl,h0⟩,?_⟩;rintro m σ H ⟨rfl,p⟩;refine mono σ H _ _ (fun b H1 q=>?_) (hs σ H p);cases b with
 | true=>exact⟨_,fun σ' H' ⟨p',l⟩=>⟨_,l,rfl,p'⟩,q⟩
 | false=>exact q
abbrev R2:=V->V->Hp->VK->Prop
noncomputable def OpR (X:Cx) (f:Value->Value->Sem Value) (r:R2):Prop :=
 ∀ (mq:List (Addr×Obj)) (s:Shared) (σ:St) (H:Hp) (x y:V) (v u:Value) (Q:VK),Inv X mq σ H s->RelV x v->RelV y u->r x y H Q ->
  wpAny #[mt] X.A (f v u) #[Op] X.xe s
noncomputable def UnR (X:Cx) (f:Value->Sem Value) (r:V->Hp->VK->Prop):Prop :=
 ∀ (mq:List (Addr×Obj)) (s:Shared) (σ:St) (H:Hp) (x:V) (v:Value) (Q:VK),Inv X mq σ H s->RelV x v->r x H Q ->
  wpAny #[mt] X.A (f v) #[Op] X.xe s
noncomputable def zbj (X:Cx) (f:Value) (r:List V->Hp->VK->Prop):Prop :=
 ∀ (mq:List (Addr×Obj)) (s:Shared) (σ:St) (H:Hp) (xs:List V) (us:List Value) (Q:VK),Inv X mq σ H s->zH xs us->r xs H Q ->
  wpAny #[mt] X.A (call f us) #[Op] X.xe s
noncomputable def zpM (X:Cx) (r:V->Hp->(Bool->Hp->Prop)->Prop):Prop :=
 ∀ (mq:List (Addr×Obj)) (s:Shared) (σ:St) (H:Hp) (x:V) (v:Value) (Q:Bool->Hp->Prop),Inv X mq σ H s->RelV x v->r x H Q ->
  wpAny #[mt] X.A (truthy v) #[Wr] X.xe s
noncomputable def tOp (r:R2) (ta tb:TE):TE:=fun σ H Q=>ta σ H fun x H1=>tb σ H1 fun y H2=>r x y H2 Q
noncomputable def tUn (r:V->Hp->VK->Prop) (ta:TE):TE:=fun σ H Q=>ta σ H fun x H1=>r x H1 Q
noncomputable def rI (C:Int->Int->Prop) (g:Int->Int->V):R2:=fun x y H Q=>∃ i j,x = .int i/\y = .int j/\C i j/\Q (g i j) H
noncomputable def rI0 (g:Int->Int->V):R2:=fun x y H Q=>∃ i j,x = .int i/\y = .int j/\Q (g i j) H
noncomputable def rU (g:Int->V):V->Hp->VK->Prop:=fun x H Q=>∃ i,x = .int i/\Q (g i) H
section
variable {X:Cx} {a b c:Expr} {ta tb tc:TE} {pos:Pos}
theorem zn4 (ha:PE X a ta) (hb:PE X b tb) {σ:St} {R:V->V->Hp->Prop} (I:Inv X mq σ H s)
  (h:ta σ H fun x H1=>tb σ H1 fun y H2=>R x y H2) {Q:Value->Shared->Prop} {f:Value->Value->Sem Value}
  (hf:∀ v u s2 x y H2,Inv X mq σ H2 s2->RelV x v->RelV y u->R x y H2->wpAny #[mt] X.A (f v u) Q X.xe s2) :
  wpAny #[mt] X.A (eval a X.env) (fun v s₁=>wpAny #[mt] X.A (eval b X.env) (fun u s₂=>wpAny #[mt] X.A (f v u) Q X.xe s₂) X.xe s₁) X.xe s:=by
 refine thn #[Fr] fun v s1 ⟨x,H1,I1,r1,q1⟩=>?_
 refine thn #[SN] fun u s2 ⟨y,H2,I2,r2,q2⟩=>?_
 exact hf v u s2 x y H2 I2 r1 r2 q2
theorem zn {op:Operator} {r:R2} (ho:OpR X (binaryOp op) r) (ha:PE X a ta) (hb:PE X b tb):PE X (.BinOp a op b pos) #[W9]:=by
 intro mq s σ H Q I h;exact wpAny_BinOp (zn4 ha hb I h fun v u s2 x y H2 I2 rx ry q=>ho mq s2 σ H2 x y v u Q I2 rx ry q)
theorem zk8 {op:UnaryOp} {r:V->Hp->VK->Prop} (ho:UnR X (unaryOp op) r) (ha:PE X a ta):PE X (.UnaryOp op a pos) (tUn r ta):=by
 intro mq s σ H Q I h;exact UnaryOp_ (thn #[Fr] fun v s1 ⟨x,H1,I1,r1,q1⟩=>ho mq s1 σ H1 x v Q I1 r1 q1)
theorem opI {f:Value->Value->Sem Value} {C:Int->Int->Prop} {g:Int->Int->Int}
  (rule:∀ (i j:Int) (t u:Tok) (s:Shared) (Q:Value->Shared->Prop) (E:Value->Shared->Prop),C i j->Q (.int (g i j) s.toks) { s with toks:=s.toks+1 }->wpAny #[mt] X.A #[UR] Q E s) :
  OpR X f (rI C fun i j=>.int (g i j)):=by
 intro mq s σ H x y v u Q I rx ry h;obtain⟨i,j,rfl,rfl,hc,q⟩:=h;obtain⟨t,rfl⟩:=rx;obtain⟨t',rfl⟩:=ry;exact rule i j t t' s _ _ hc #[WZ]
theorem zo9 {f:Value->Value->Sem Value} {g:Int->Int->Int}
  (rule:∀ (i j:Int) (t u:Tok) (s:Shared) (Q:Value->Shared->Prop) (E:Value->Shared->Prop),Q (.int (g i j) s.toks) { s with toks:=s.toks+1 }->wpAny #[mt] X.A #[UR] Q E s) :
  OpR X f (rI0 fun i j=>.int (g i j)):=by
 intro mq s σ H x y v u Q I rx ry h;obtain⟨i,j,rfl,rfl,q⟩:=h;obtain⟨t,rfl⟩:=rx;obtain⟨t',rfl⟩:=ry;exact rule i j t t' s _ _ #[WZ]
theorem zmB {f:Value->Value->Sem Value} {g:Int->Int->Bool}
  (rule:∀ (i j:Int) (t u:Tok) (s:Shared) (Q:Value->Shared->Prop) (E:Value->Shared->Prop),Q (.bool (g i j)) s->wpAny #[mt] X.A #[UR] Q E s) :
  OpR X f (rI0 fun i j=>.bl (g i j)):=by
 intro mq s σ H x y v u Q I rx ry h;obtain⟨i,j,rfl,rfl,q⟩:=h;obtain⟨t,rfl⟩:=rx;obtain⟨t',rfl⟩:=ry;exact rule i j t t' s _ _ ⟨.bl (g i j),H,I,rfl,q⟩
noncomputable def zpa (i j:Int):Prop:=0 < j/\j < 1073741824
noncomputable def zpN (i j:Int):Prop:=0<=j/\j<=1000000/\i.natAbs < 2 ^ 64
noncomputable def zn5 (i j:Int):Prop:=(-(2 ^ 64) < i/\i < 2 ^ 64)\/(-(2 ^ 64) < j/\j < 2 ^ 64)
theorem zn5.ok {i j:Int} (h:zn5 i j):IntMulOk i j:=by
 rcases h with ⟨h1,h2⟩ | ⟨h1,h2⟩
 ·exact .of_left (intBits_le_64 h1 h2)
 ·exact .of_right (intBits_le_64 h1 h2)
theorem zae:OpR X #[VM] (rI0 fun i j=>.int (i+j)):=zo9 fun _ _ _ _ _ _ _ q=>add_int q
theorem zbf:OpR X (binaryOp .Sub) (rI0 fun i j=>.int (i - j)):=zo9 fun _ _ _ _ _ _ _ q=>sub_int q
theorem zai:OpR X (binaryOp .Mult) (rI zn5 fun i j=>.int (i*j)):=opI fun _ _ _ _ _ _ _ hc q=>mul_int q hc.ok
theorem zci:OpR X (binaryOp .FloorDiv) (rI zpa fun i j=>.int (i / j)):=opI fun i j _ _ _ _ _ hc q=>by
 have h1:(0:Int) < j:=hc.1;have h2:j < 1073741824:=hc.2;exact floordiv_int #[O] (by rw [gW i #[O]]; exact q) (.inl (iR #[O]))
theorem zL:OpR X (binaryOp .Mod) (rI (fun _ j=>0 < j) fun i j=>.int (i % j)):=opI fun i j _ _ _ _ _ hc q=>by
 have h1:(0:Int) < j:=hc;exact mod_int' #[O] (by rw [Int.fmod_eq_emod_of_nonneg i #[O]]; exact q)
theorem zhZ:OpR X (binaryOp .Pow) (rI zpN fun i j=>.int (i ^ j.toNat)):=opI fun _ _ _ _ _ _ _ hc q=>pow_int_small hc.1 hc.2.1 hc.2.2 q
theorem zk9:OpR X (inplaceOp .FloorDiv) (rI zpa fun i j=>.int (i / j)):=opI fun i j _ _ _ _ _ hc q=>by
 have h1:(0:Int) < j:=hc.1;have h2:j < 1073741824:=hc.2;exact ifloordiv_int #[O] (by rw [gW i #[O]]; exact q) (.inl (iR #[O]))
theorem unI {f:Value->Sem Value} {g:Int->Int}
  (rule:∀ (i:Int) (t:Tok) (s:Shared) (Q:Value->Shared->Prop) (E:Value->Shared->Prop),Q (.int (g i) s.toks) { s with toks:=s.toks+1 }->wpAny #[mt] X.A (f (.int i t)) Q E s) :
  UnR X f (rU fun i=>.int (g i)):=by
 intro mq s σ H x v Q I rx h;obtain⟨i,rfl,q⟩:=h;obtain⟨t,rfl⟩:=rx;exact rule i t s _ _ ⟨.int (g i),H,I.tok _,⟨_,rfl⟩,q⟩
theorem zh0:UnR X (unaryOp .USub) (rU fun i=>.int (-i)):=unI fun _ _ _ _ _ q=>neg_int q
end
noncomputable def zmC:V->V->Bool
 | .non,.non=>true | .non,.int _=>true | .int _,.non=>true | .non,.bl _=>true | .bl _,.non=>true | .non,.str _=>true | .str _,.non=>true
 | .int _,.int _=>true | .bl _,.bl _=>true | .str _,.str _=>true | .byt _,.byt _=>true
 | .int _,.str _=>true | .str _,.int _=>true | .bl _,.str _=>true | .str _,.bl _=>true
 | _,_=>false
noncomputable def rEq:R2:=fun x y H Q=>zmC x y=true/\Q (.bl (decide (x=y))) H
noncomputable def rNe:R2:=fun x y H Q=>zmC x y=true/\Q (.bl (!decide (x=y))) H
theorem ziJ {i j:Int}:decide (V.int i=V.int j)=(i == j):=by
 rw [dY];simp
theorem zla {i j:Bool}:decide (V.bl i=V.bl j)=(i == j):=by
 rw [dY];simp
theorem ziK {i j:Str}:decide (V.str i=V.str j)=(i == j):=by
 rw [dY];simp
theorem ziL {i j:Array UInt8}:decide (V.byt i=V.byt j)=(i.toList == j.toList):=by
 rw [dY];cases i;cases j;simp
section
variable {X:Cx} {a b c:Expr} {ta tb tc:TE} {pos:Pos}
theorem zU {σ:St} {Q:VK} {k k':Bool} (I:Inv X mq σ H s) (q:Q (.bl k) H) (e:k=k'):EP X mq σ Q (.bool k') s:=by
 subst e;exact⟨.bl k,H,I,rfl,q⟩
theorem zaX:OpR X (compareOp .Eq) rEq:=by
 intro mq s σ H x y v u Q I rx ry h;obtain⟨hs,q⟩:=h;cases x with
 | non =>
  cases rx;cases y with
  | non=>cases ry; exact PySem.EqNone.eq_none_none #[GE]
  | bl j=>cases ry; exact PySem.EqNone.eq_none_bool #[GE]
  | int j=>obtain⟨t',rfl⟩:=ry; exact PySem.EqNone.eq_none_int #[GE]
  | str j=>obtain⟨t',rfl⟩:=ry; exact PySem.EqNone.eq_none_str #[GE]
  | _=>exact absurd (show false=true from hs) aG
 | bl i =>
  cases rx;cases y with
  | non=>cases ry; exact PySem.EqNone.eq_bool_none #[GE]
  | bl j=>cases ry; exact eq_bool (zU I q zla)
  | str j=>obtain⟨t',rfl⟩:=ry; exact PySem.EqMixed.eq_bool_str #[GE]
  | _=>exact absurd (show false=true from hs) aG
 | int i =>
  obtain⟨t,rfl⟩:=rx;cases y with
  | non=>cases ry; exact PySem.EqNone.eq_int_none #[GE]
  | int j=>obtain⟨t',rfl⟩:=ry; exact eq_int (zU I q ziJ)
  | str j=>obtain⟨t',rfl⟩:=ry; exact PySem.EqMixed.eq_int_str #[GE]
  | _=>exact absurd (show false=true from hs) aG
 | str i =>
  obtain⟨t,rfl⟩:=rx;cases y with
  | non=>cases ry; exact PySem.EqNone.eq_str_none #[GE]
  | bl j=>cases ry; exact PySem.EqMixed.eq_str_bool #[GE]
  | int j=>obtain⟨t',rfl⟩:=ry; exact PySem.EqMixed.eq_str_int #[GE]
  | str j=>obtain⟨t',rfl⟩:=ry; exact eq_str (zU I q ziK)
  | _=>exact absurd (show false=true from hs) aG
 | byt i =>
  obtain⟨t,rfl⟩:=rx;cases y with
  | byt j=>obtain⟨t',rfl⟩:=ry; exact PySem.W.eq_bytes (zU I q ziL)
  | _=>exact absurd (show false=true from hs) aG
 | _=>cases y <;> exact absurd (show false=true from hs) aG
theorem ziM:OpR X #[Wv] rNe:=by
 intro mq s σ H x y v u Q I rx ry h;obtain⟨hs,q⟩:=h;cases x with
 | non =>
  cases rx;cases y with
  | non=>cases ry; exact PySem.EqNone.ne_none_none #[GE]
  | bl j=>cases ry; exact PySem.EqNone.ne_none_bool #[GE]
  | int j=>obtain⟨t',rfl⟩:=ry; exact PySem.EqNone.ne_none_int #[GE]
  | str j=>obtain⟨t',rfl⟩:=ry; exact PySem.EqNone.ne_none_str #[GE]
  | _=>exact absurd (show false=true from hs) aG
 | bl i =>
  cases rx;cases y with
  | non=>cases ry; exact PySem.EqNone.ne_bool_none #[GE]
  | bl j=>cases ry; exact ne_bool (zU I q (congrArg not zla))
  | str j=>obtain⟨t',rfl⟩:=ry; exact PySem.EqMixed.ne_bool_str #[GE]
  | _=>exact absurd (show false=true from hs) aG
 | int i =>
  obtain⟨t,rfl⟩:=rx;cases y with
  | non=>cases ry; exact PySem.EqNone.ne_int_none #[GE]
  | int j=>obtain⟨t',rfl⟩:=ry; exact ne_int (zU I q (congrArg not ziJ))
  | str j=>obtain⟨t',rfl⟩:=ry; exact PySem.EqMixed.ne_int_str #[GE]
  | _=>exact absurd (show false=true from hs) aG
 | str i =>
  obtain⟨t,rfl⟩:=rx;cases y with
  | non=>cases ry; exact PySem.EqNone.ne_str_none #[GE]
  | bl j=>cases ry; exact PySem.EqMixed.ne_str_bool #[GE]
  | int j=>obtain⟨t',rfl⟩:=ry; exact PySem.EqMixed.ne_str_int #[GE]
  | str j=>obtain⟨t',rfl⟩:=ry; exact ne_str (zU I q (congrArg not ziK))
  | _=>exact absurd (show false=true from hs) aG
 | byt i =>
  obtain⟨t,rfl⟩:=rx;cases y with
  | byt j=>obtain⟨t',rfl⟩:=ry; exact PySem.W.ne_bytes (zU I q (congrArg not ziL))
  | _=>exact absurd (show false=true from hs) aG
 | _=>cases y <;> exact absurd (show false=true from hs) aG
theorem zcD:OpR X (compareOp .Lt) (rI0 fun i j=>.bl (decide (i < j))):=zmB fun _ _ _ _ _ _ _ q=>lt_int q
theorem ziN:OpR X (compareOp .LtE) (rI0 fun i j=>.bl (decide (i<=j))):=zmB fun _ _ _ _ _ _ _ q=>le_int q
theorem zlb:OpR X (compareOp .Gt) (rI0 fun i j=>.bl (decide (j < i))):=zmB fun _ _ _ _ _ _ _ q=>gt_int q
theorem zlc:OpR X (compareOp .GtE) (rI0 fun i j=>.bl (decide (j<=i))):=zmB fun _ _ _ _ _ _ _ q=>ge_int q
theorem zh1:OpR X (compareOp .Is) (fun x y H Q=>y = .non/\Q (.bl (decide (x = .non))) H):=by
 intro mq s σ H x y v u Q I rx ry h;obtain⟨rfl,q⟩:=h;cases ry;refine is_none_gen (zU I q ?_);cases x <;> first
  | (cases rx; rfl)
  | (obtain⟨t,rfl⟩:=rx; rfl)
theorem zcj:OpR X (compareOp .IsNot) (fun x y H Q=>y = .non/\Q (.bl (!decide (x = .non))) H):=by
 intro mq s σ H x y v u Q I rx ry h;obtain⟨rfl,q⟩:=h;cases ry;refine isnot_none_gen (zU I q ?_);cases x <;> first
  | (cases rx; rfl)
  | (obtain⟨t,rfl⟩:=rx; rfl)
theorem zF (b:Expr) {op:CmpOp} (h:op≠.In:=by decide) (h2:op≠.NotIn:=by decide):behindInMarks op b=false:=by
 have e1:(op == CmpOp.In)=false:=by cases op <;> first | rfl | exact absurd rfl h
 have e2:(op == CmpOp.NotIn)=false:=by cases op <;> first | rfl | exact absurd rfl h2
 cases b <;> simp [behindInMarks,e1,e2]
theorem ziO {op:CmpOp} {r:R2} (ho:OpR X #[Wo] r) (ha:PE X a ta) (hb:PE X b tb) (hm:behindInMarks op b=false):PE X (.Compare a [op] [b] pos) #[W9]:=by
 intro mq s σ H Q I h;exact wpAny_Compare1 (zn4 ha hb I h fun v u s2 x y H2 I2 rx ry q=>ho mq s2 σ H2 x y v u Q I2 rx ry q) hm
noncomputable def znH (t:TE):TT:=fun σ H Q=>t σ H fun x H'=>∃ k,x = .bl k/\Q k H'
theorem zA {op:CmpOp} {r:R2} (ho:OpR X #[Wo] r) (ha:PE X a ta) (hb:PE X b tb) (hm:behindInMarks op b=false):PT X (.Compare a [op] [b] pos) (znH #[W9]):=by
 intro mq s σ H Q I h;refine wpAny_isTrue_Compare1 (thn #[Fr] fun v s1 ⟨x,H1,I1,r1,q1⟩=>thn #[SN] fun u s2 ⟨y,H2,I2,r2,q2⟩ =>
  thn #[Sb] fun c s3 ⟨z,H3,I3,r3,k,e,q3⟩=>?_) hm
 subst e;cases r3;exact cH ⟨H3,I3,q3⟩
noncomputable def zld (r r':R2) (ta tb tc:TE):TE:=fun σ H Q=>ta σ H fun x H1=>tb σ H1 fun y H2=>r x y H2 fun z H3=>∃ k,z = .bl k /\
 (if k=true then tc σ H3 fun w' H4=>r' y w' H4 Q else Q #[Xt] H3)
theorem zle {op CA:CmpOp} {r r':R2} (ho:OpR X #[Wo] r) (uL:OpR X (compareOp CA) r') (ha:PE X a ta) (hb:PE X b tb) (hc:PE X c tc)
  (hm:lastMarks [op,CA] [b,c]=false:=by with_unfolding_all rfl):PE X (.Compare a [op,CA] [b,c] pos) (zld r r' ta tb tc):=by
 intro mq s σ H Q I h;refine Compare_chain (thn #[Fr] fun v s1 ⟨x,H1,I1,r1,q1⟩=>chain_link (thn #[SN] fun u s2 ⟨y,H2,I2,r2,q2⟩ =>
  thn #[Sb] fun d s3 ⟨z,H3,I3,r3,k,e,q3⟩=>?_)) hm
 subst e;cases r3;refine cH ?_;cases k with
 | false=>exact ite_ff ⟨.bl false,H3,I3,rfl,q3⟩
 | true=>exact ite_tt (chain_last (thn (hc mq s3 σ H3 _ I3 q3) fun w' s4 ⟨z',H4,I4,r4,q4⟩=>uL mq s4 σ H4 y z' u w' Q I4 r2 r4 q4))
theorem zex {op CA:CmpOp} {r r':R2} (ho:OpR X #[Wo] r) (uL:OpR X (compareOp CA) r') (ha:PE X a ta) (hb:PE X b tb) (hc:PE X c tc)
  (hm:lastMarks [op,CA] [b,c]=false:=by with_unfolding_all rfl):PT X (.Compare a [op,CA] [b,c] pos) (znH (zld r r' ta tb tc)):=by
 intro mq s σ H Q I h;refine isTrue_chain (thn #[Fr] fun v s1 ⟨x,H1,I1,r1,q1⟩=>test_link (thn #[SN] fun u s2 ⟨y,H2,I2,r2,q2⟩ =>
  thn #[Sb] fun d s3 ⟨z,H3,I3,r3,k,e,q3⟩=>?_)) hm
 subst e;cases r3;refine cH ?_;cases k with
 | false =>
  obtain⟨k',e',q'⟩:=q3;cases e';exact ite_ff ⟨H3,I3,q'⟩
 | true =>
  refine ite_tt (test_last (thn (hc mq s3 σ H3 _ I3 q3) fun w' s4 ⟨z',H4,I4,r4,q4⟩=>thn (uL mq s4 σ H4 y z' u w' _ I4 r2 r4 q4) fun d' s5 ⟨z2,H5,I5,r5,k2,e2,q5⟩=>?_));subst e2;cases r5;exact cH ⟨H5,I5,q5⟩
noncomputable def zn6 (K:af) (x:V) (H:Hp) (k:Bool):Prop :=
 match x with
 | .non=>k=false
 | .bl b=>k=b
 | .int i=>k=(i != 0)
 | .str y=>y.length<=sizeLine/\k=((y.length:Int) != 0)
 | .byt y=>y.size<=sizeLine/\k=((y.size:Int) != 0)
 | .ref p=>(∃ xs,mB K H p xs/\k = !xs.isEmpty)\/(∃ xs,mK K H p xs/\k = !xs.isEmpty)\/∃ mI,H p=some (.dK mI)/\k = !mI.isEmpty
 | _=>False
theorem zh2 {κ:Type} {mI:List (κ×V)} {vs:List (κ×Value)} (r:KV mI vs):(!vs.isEmpty) = !mI.isEmpty:=by
 cases r <;> rfl
theorem zey (r:zH xs mC):(!mC.toArray.isEmpty) = !xs.isEmpty:=by
 cases r <;> simp
theorem zez:(sizeLine:Nat) < 2 ^ 63:=by rw [aS]; decide
theorem zlf:zpM X (fun x H Q=>∃ k,zn6 X.K x H k/\Q k H):=by
 intro mq s σ H x v Q I rx h;obtain⟨k,e,q⟩:=h;have hl:=zez;have hs:sizeLine=16777216:=aS;cases x with
 | non =>
  cases rx;have e':k=false:=e;subst e';exact truthy_none ⟨H,I,q⟩
 | bl b =>
  cases rx;have e':k=b:=e;subst e';exact cH ⟨H,I,q⟩
 | int i =>
  obtain⟨t,rfl⟩:=rx;have e':k=(i != 0):=e;subst e';exact PySem.P.truthy_int ⟨H,I,q⟩
 | str y =>
  obtain⟨t,rfl⟩:=rx;obtain⟨hy,e'⟩:y.length<=sizeLine/\k=((y.length:Int) != 0):=e;subst e';exact PySem.P.truthy_str #[O] ⟨H,I.tok _,q⟩
 | byt y =>
  obtain⟨t,rfl⟩:=rx;obtain⟨hy,e'⟩:y.size<=sizeLine/\k=((y.size:Int) != 0):=e;subst e';exact PySem.W.truthy_bytes #[O] ⟨H,I.tok _,q⟩
 | ref p =>
  cases rx;have e':(∃ xs,mB X.K H p xs/\k = !xs.isEmpty)\/(∃ xs,mK X.K H p xs/\k = !xs.isEmpty)\/∃ mI,H p=some (.dK mI)/\k = !mI.isEmpty:=e;rcases e' with ⟨xs,hx,e'⟩ | ⟨xs,hx,e'⟩ | ⟨mI,hx,e'⟩
  ·subst e';obtain⟨mC,r,pl,hz⟩:=I.list hx;have mS:=r.length;exact wpAny_truthy_list pl.isList (by simp only [au]; lia) ⟨H,I.tok _,by rw [zey r]; exact q⟩
  ·subst e';obtain⟨mC,r,pl,hz⟩:=I.tuple hx;have mS:=r.length;exact truthy_tuple pl (by simp only [au]; lia) ⟨H,I.tok _,by rw [zey r]; exact q⟩
  ·subst e';obtain⟨hz,hS,vs,r,m⟩:mI.length<=sizeLine/\(p == sysModules)=false/\∃ vs,KV mI vs/\s.heap.DictOf (zav X.prog X.w) p vs:=I.hok p _ hx;have mS:mI.length=vs.length:=fL r;exact wpAny_truthy_dict hS m #[O] ⟨H,I.tok _,by rw [zh2 r]; exact q⟩
 | _=>exact (show False from e).elim
theorem zgT (ha:PE X a ta) (he:∀ whole,isTrue a X.env whole=(do let v <- whole; standAt a.pos; holding [v] (truthy v))) :
  PT X a (fun σ H Q=>ta σ H fun x H'=>∃ k,zn6 X.K x H' k/\Q k H'):=by
 intro mq s σ H Q I h;exact isTrue_plain (thn #[Fr] fun v s1 ⟨x,H1,I1,r1,q1⟩=>zlf mq s1 σ H1 x v Q I1 r1 q1) (he _)
theorem vals1 {x:V} (r:zH [x] us):∃ u,us = [u]/\RelV x u:=by
 cases r with
 | cons r1 r2=>cases r2; exact⟨_,rfl,r1⟩
theorem vals2 {x:V} (r:zH [x,y] us):∃ u w',us = [u,w']/\RelV x u/\RelV y w':=by
 cases r with
 | cons r1 r2 =>
  cases r2 with
  | cons r3 r4=>cases r4; exact⟨_,_,rfl,r1,r3⟩
theorem zfx (hc:X.calm=true):zbj X (.builtin "max") (fun xs H Q=>∃ i j,xs = [.int i,.int j]/\Q (.int (if j > i then j else i)) H):=by
 intro mq s σ H xs us Q I r h;obtain⟨i,j,rfl,q⟩:=h;obtain⟨u,w',rfl,⟨t,rfl⟩,⟨t',rfl⟩⟩:=vals2 r;refine max_two_ints #[Rq] fun h' tk k=>⟨_,H,I.kept k,?_,q⟩
 by_cases hj:j > i
 ·rw [if_pos hj,if_pos hj]; exact⟨_,rfl⟩
 ·rw [if_neg hj,if_neg hj]; exact⟨_,rfl⟩
theorem zfy (hc:X.calm=true):zbj X (.builtin "min") (fun xs H Q=>∃ i j,xs = [.int i,.int j]/\Q (.int (if j < i then j else i)) H):=by
 intro mq s σ H xs us Q I r h;obtain⟨i,j,rfl,q⟩:=h;obtain⟨u,w',rfl,⟨t,rfl⟩,⟨t',rfl⟩⟩:=vals2 r;refine min_two_ints #[Rq] fun h' tk k=>⟨_,H,I.kept k,?_,q⟩
 by_cases hj:j < i
 ·rw [if_pos hj,if_pos hj]; exact⟨_,rfl⟩
 ·rw [if_neg hj,if_neg hj]; exact⟨_,rfl⟩
theorem zfz:zbj X (.type "int") (fun xs H Q=>(∃ i,xs = [.int i]/\Q #[WO] H)\/∃ k,xs = [.bl k]/\Q (.int (if k then 1 else 0)) H):=by
 intro mq s σ H xs us Q I r h;rcases h with ⟨i,rfl,q⟩ | ⟨k,rfl,q⟩
 ·obtain⟨u,rfl,t,rfl⟩:=vals1 r;exact call_int_int ⟨.int i,H,I,⟨_,rfl⟩,q⟩
 ·obtain⟨u,rfl,r1⟩:=vals1 r;cases r1;exact call_int_bool ⟨.int (if k then 1 else 0),H,I.tok _,⟨_,rfl⟩,q⟩
end
structure Qi (h:Heap) (x dx C:Addr) (mA:Str->Option Value):Prop where
 obj:h.get? x=some (c6 C dx)
 ns:h.Ns1 dx mA
 ne:dx≠x
theorem zjN {dx:Addr} {mA:Str->Option Value} (n:h.Ns1 dx mA):∃ od,h.get? dx=some od/\∀ name,gC name od=some (mA name):=by
 obtain⟨o,es,ep,ho,hd,hk,_,hm⟩:=n;refine⟨o,ho,fun name=>?_⟩;have e:=hm name;unfold nsFind findBy at e;rw [<- Array.find?_toList] at e;unfold gC;rw [hd];dsimp only;split
 ·rename_i y q
  rw [q] at e;exact congrArg some e
 ·rename_i q
  rw [q] at e;have a:es.toList.any (·.refKey)=false:=by
   rw [List.any_eq_false];intro y hy;obtain⟨z,t,vR⟩:=hk y (jp.mp hy);simp [DictEntry.refKey,vR]
  have a':¬ es.toList.any (·.refKey)=true:=by rw [a]; exact aG
  rw [if_neg a'];exact congrArg some e
theorem Qi.look {x dx:Addr} {mA:Str->Option Value} (I:Qi h x dx C mA):∃ od,PySem.W.InstAt h x (c6 C dx) C (some od)/\∀ name,gC name od=some (mA name) :=
 let ⟨od,ho,hl⟩:=zjN I.ns
 ⟨od,⟨I.obj,rfl,rfl,ho⟩,hl⟩
section
variable {prog:Program} {w:World} {A:Around} {E:Value->Shared->Prop} {s:Shared} {K:af} {x dx C f:Addr} {mA:Str->Option Value} {name:Str} {v:Value}
theorem zmD {expr:Bool} {Q:Value->Shared->Prop} (X:K.In s.heap) (I:Qi s.heap x dx C mA) (hg:eC K C name=true) (hh:fq K C=true)
  (ha:aJ K #[QW] name=some none) (hv:mA name=some v) (Hk:kQ v=true) (h:Q v { s with toks:=s.toks+1 }) :
  wpAny #[na] A (getAttr (.ref x) name expr) Q E s:=by
 obtain⟨od,J,hl⟩:=I.look;exact PySem.W.get_value X J (gt hg).1 (PySem.W.findObj_own hh ha rfl (by rw [hl,hv])) Hk h
theorem zlg {pl:Sem Bool} {Q:Value×List Value->Shared->Prop} (X:K.In s.heap) (I:Qi s.heap x dx C mA) (hg:eC K C name=true)
  (hf:aJ K #[QW] name=some #[Uk]) (ht:f' K #[R7]=true) (hv:mA name=none) (h:Q (.ref f,[.ref x]) s) :
  wpAny #[na] A (getMethod (.ref x) name pl) Q E s:=by
 obtain⟨od,J,hl⟩:=I.look;exact PySem.W.method_fn X J (gt hg).1 (gt hg).2 hf (beq_iff_eq.mp ht) (by show (gC name od).map (·.isSome)=some false; rw [hl,hv]; rfl) h
theorem zmE {ns:List Str} {Q:Unit->Shared->Prop} (X:K.In s.heap) (I:Qi s.heap x dx C mA)
  (hs:aJ K #[QW] "__setattr__" = some (some (.builtin "object.__setattr__"))) (hp:ic K C=true) (ht:iK K C name=some none) (hh:fq K C=true)
  (hw:jY mA ns) (hsz:ns.length<=sizeLine)
  (h:∀ h',Qi h' x dx C (fun y=>if y=name then some v else mA y)->aX dx s.heap h'->Q () { s with heap:=h',toks:=s.toks+2 }) :
  wpAny #[na] A (setAttr (.ref x) name v) Q E s:=by
 obtain⟨od,J,hl⟩:=I.look;refine PySem.W.set_plain X J hs (PySem.W.osa_open (s:={ s with toks:=s.toks+1 }) (r:=none) X J hp ht fun b=>?_);obtain⟨cd,hc,AR⟩:=PySem.W.any_some hh;have hx:s.heap.get? x=some ⟨.ref C,some dx,.plain,#[]⟩:=I.obj;refine aa (ag (aa (aa (wpAny_loadPart hx (aa (PySem.W.Looks.here (s:={ s with toks:=s.toks+1 }) (PySem.W.looks_clsIn X hc) ?_))))));rw [AR];refine ag (a:=some dx) (aa (ag (aa ?_)));refine wpAny_nsSet1 (s:={ s with toks:=s.toks+1 }) I.ns fun h' xf oJ=>?_
 obtain⟨oD,esD,epD,hoD,hdD,hcD⟩:=xf.count (PySem.Within.cons name v hw);refine aa (wpAny_lookBehind hoD (by rw [hdD]; exact pastItsLine_dict (bn hcD (by rw [bh]; lia))) ?_);exact ag (h _ ⟨(oJ.2 _ (cA I.ne)).trans I.obj,xf,I.ne⟩ oJ)
theorem zlh (X:K.In s.heap) (hm:iL K C=true)
  (hi:aJ K #[QW] "__init__" = some #[Uk]) (hf:PySem.W.typeIn K #[R7]=some (.type "function"))
  (h:codeAny #[na] (A.under (.builtin "type.__call__" ⟨.ref C :: vs,kw⟩)) (.call #[R7] ⟨.ref #[ul] :: vs,kw⟩) (PySem.W.InitBack #[ul] R)
   { s with heap:=#[S4].push #[SX] }) :
  codeAny #[na] A (.call #[QW] ⟨vs,kw⟩) R s:=by
 obtain⟨hh,g,d,t,os⟩:=s;exact PySem.W.make_core (PySem.W.makes_of X hm) (gb X hi) (fun self=>PySem.W.bind_fn X self hf) #[KM] h
end
noncomputable def zaq (f:Str) (v:V):List (Str×V)->List (Str×V)
 | []=>[(f,v)]
 | (g,x) :: r=>if g=f then (g,v) :: r else (g,x) :: zaq f v r
theorem zdT (f g:Str) (v:V):∀ fs:List (Str×V),#[Wj].lookup g=if g=f then some v else fs.lookup g
 | []=>by
  show cP g [(f,v)]=_;by_cases h:g=f
  ·have hb:(g == f)=true:=beq_iff_eq.mpr h;simp only [cP,hb,if_pos h]
  ·have hb:(g == f)=false:=beq_eq_false_iff_ne.mpr h;simp only [cP,hb,if_neg h]
 | (k,x) :: r=>by
  have ih:=zdT f g v r;rw [show zaq f v ((k,x) :: r)=(if k=f then (k,v) :: r else (k,x) :: zaq f v r) from rfl];by_cases hk:k=f
  ·rw [if_pos hk];by_cases h:g=k
   ·have hb:(g == k)=true:=beq_iff_eq.mpr h;simp only [cP,hb,if_pos (h.trans hk)]
   ·have hb:(g == k)=false:=beq_eq_false_iff_ne.mpr h;simp only [cP,hb,if_neg (fun e:g=f=>h (e.trans hk.symm))]
  ·rw [if_neg hk];by_cases h:g=k
   ·have hb:(g == k)=true:=beq_iff_eq.mpr h;simp only [cP,hb,if_neg (fun e:g=f=>hk (h.symm.trans e))]
   ·have hb:(g == k)=false:=beq_eq_false_iff_ne.mpr h;simp only [cP,hb];exact ih
theorem zdK (f:Str) (v:V):∀ fs:List (Str×V),f∈#[Wj].map (·.1)/\∀ g,g∈fs.map (·.1)->g∈#[Wj].map (·.1)
 | []=>⟨by simp [zaq],fun g h=>by simp at h⟩
 | (k,x) :: r=>by
  obtain⟨i1,i2⟩:=zdK f v r;rw [show zaq f v ((k,x) :: r)=(if k=f then (k,v) :: r else (k,x) :: zaq f v r) from rfl];by_cases hk:k=f
  ·rw [if_pos hk];subst hk;exact⟨#[M],fun g h=>by simpa using h⟩
  ·rw [if_neg hk];refine⟨?_,fun g h=>?_⟩
   ·rw [bc];exact ar _ i1
   ·rw [bc] at h |-;rcases av.mp h with e | e
    ·exact av.mpr (.inl e)
    ·exact ar _ (i2 g e)
theorem zdU (f:Str) (v:V):∀ fs:List (Str×V),#[Wj].length<=fs.length+1
 | []=>by simp [zaq]
 | (k,x) :: r=>by
  have ih:=zdU f v r;rw [show zaq f v ((k,x) :: r)=(if k=f then (k,v) :: r else (k,x) :: zaq f v r) from rfl];by_cases hk:k=f
  ·rw [if_pos hk,bh,bh]; lia
  ·rw [if_neg hk,bh,bh]; lia
theorem zdI.some_of {v:V} {o:Option Value} (r:zdI #[UW] o):∃ u,o=some u/\RelV v u:=by
 cases o with
 | none=>exact (show False from r).elim
 | some u=>exact⟨u,rfl,r⟩
theorem zdI.none_of {o:Option Value} (r:zdI none o):o=none:=by
 cases o with
 | none=>rfl
 | some u=>exact (show False from r).elim
theorem zjO {v:V} {u:Value} (r:RelV v u):kQ u=true:=by
 cases v with
 | non=>cases (show u=bW from r); rfl
 | bl b=>cases (show u=eB b from r); rfl
 | int i=>obtain⟨t,e⟩:=(show ∃ t,u=cK i t from r); cases e; rfl
 | str x=>obtain⟨t,e⟩:=(show ∃ t,u=iJ x t from r); cases e; rfl
 | byt b=>obtain⟨t,e⟩:=(show ∃ t,u=Value.bytes b t from r); cases e; rfl
 | flt b=>obtain⟨t,e⟩:=(show ∃ t,u=kL b t from r); cases e; rfl
 | ref a=>cases (show u=aL a from r); rfl
 | ty n=>cases (show u=ff n from r); rfl
section
variable {P:Program} {w:World} {H H':Hp} {h h':Heap} {a C dx:Addr} {fs fs':List (Str×V)}
theorem zef (hok:HOk P w H h) (e:H a=some #[RP]):∃ mA,Qi h a dx C mA/\(∀ f,zdI (fs.lookup f) (mA f))/\jY mA (fs.map (·.1))/\fs.length<=1000/\H dx=some (.own a):=by
 obtain⟨d,z,ne,ob,mA,n,r,q⟩:=(show zW P w H h a #[RP] from hok a _ e);exact⟨mA,⟨ob,n,ne⟩,r,q,z,d⟩
end
structure Cls (K:af) (C:Addr):Prop where
 pg:eC K C Str.empty=true
 hd:fq K C=true
 po:ic K C=true
 sa:aJ K #[QW] "__setattr__" = some (some (.builtin "object.__setattr__"))
theorem Cls.get (c:Cls K C) (f:Str):eC K C f=true:=c.pg
noncomputable def zbH (K:af) (C:Addr) (f:Str):Prop:=aJ K #[QW] f=some none
theorem zbH.QE {f:Str} (n:zbH K C f):iK K C f=some none:=by
 unfold iK;rw [show aJ K #[QW] f=some none from n];rfl
structure Oi (K:af) (C:Addr) (m:Str) (f:Addr):Prop where
 at_:aJ K #[QW] m=some #[Uk]
 fn:f' K #[R7]=true
 kp:cF K #[R7]=true
section
variable {X:Cx} {mq:List (Addr×Obj)} {σ:St} {H:Hp} {s:Shared} {a C dx:Addr} {fs:List (Str×V)} {f:Str} {v:V} {A:Around} {E:Value->Shared->Prop}
theorem zh3 {b:Bool} {Q:Value->Shared->Prop} (I:Inv X mq σ H s) (e:H a=some #[RP]) (c:Cls X.K C) (n:zbH X.K C f) (l:fs.lookup f=some v)
  (h:∀ u s',Inv X mq σ H s'->RelV v u->Q u s'):wpAny #[mt] A (getAttr #[Rf] f b) Q E s:=by
 obtain⟨mA,O,r,_,_,_⟩:=zef I.hok e;obtain⟨u,hu,ru⟩:=zdI.some_of (v:=v) (o:=mA f) (by rw [<- l]; exact r f);exact zmD I.kIn O (c.get f) c.hd n hu (zjO ru) (h u _ (I.tok _) ru)
theorem zck {g:Addr} {pl:Sem Bool} {Q:Value×List Value->Shared->Prop} (I:Inv X mq σ H s) (e:H a=some #[RP]) (c:Cls X.K C) (k:Oi X.K C m g) (l:fs.lookup m=none)
  (h:Q (.ref g,[.ref a]) s):wpAny #[mt] A (getMethod #[Rf] m pl) Q E s:=by
 obtain⟨mA,O,r,_,_,_⟩:=zef I.hok e;have hn:mA m=none:=zdI.none_of (by rw [<- l]; exact r m);exact zlg I.kIn O (c.get m) k.at_ k.fn hn h
theorem zh4 {u:Value} {Q:Unit->Shared->Prop} (I:Inv X mq σ H s) (e:H a=some #[RP]) (c:Cls X.K C) (n:zbH X.K C f) (hl:fs.length < 1000) (ry:RelV y u)
  (h:∀ s',Inv X mq σ (mz H a (.ins C dx (zaq f y fs))) s'->Q () s'):wpAny #[mt] A (setAttr #[Rf] f u) Q E s:=by
 obtain⟨mA,O,r,wi,_,ho⟩:=zef I.hok e;have hz:(fs.map (·.1)).length<=sizeLine:=by rw [ae,aS]; lia
 refine zmE I.kIn O c.sa c.po n.QE c.hd wi hz fun h' O' sb=>h _ ?_
 have hd:∃ o,h'.get? dx=some o:=let ⟨o,_,_,e',_⟩:=O'.ns; ⟨o,e'⟩
 refine I.write (x:=a) (e:=dx) (by rw [e]; exact dG) (.inr ho) (fun b q hb z=>(sb.2 b hb).trans z) hd ?_;refine⟨by rw [zg O.ne]; exact ho,?_,O.ne,O'.obj,_,O'.ns,fun g=>?_,fun g hg=>?_⟩
 ·have:=zdU f y fs; lia
 ·show zdI ((zaq f y fs).lookup g) (if g=f then some u else mA g);rw [zdT];by_cases q:g=f
  ·rw [if_pos q,if_pos q]; exact ry
  ·rw [if_neg q,if_neg q]; exact r g
 ·by_cases q:g=f
  ·rw [q]; exact (zdK f y fs).1
  ·refine (zdK f y fs).2 g (wi g fun z=>hg ?_);show (if g=f then some u else mA g)=none;rw [if_neg q]; exact z
theorem Inv.made (I:Inv X mq σ H s):Inv X mq σ (mz (mz H s.heap.objs.size (.own #[ul])) #[ul] (.ins C s.heap.objs.size []))
  { s with heap:=#[S4].push #[SX] }:=by
 have e1:#[S4].get? s.heap.objs.size=some cr:=az s.heap rfl;have e2:(#[S4].push #[SX]).get? #[ul]=some #[SX]:=by
  have:=az #[S4] (o:=c6 C s.heap.objs.size) rfl
  rwa [bq] at this
 have e3:#[S4].Ns s.heap.objs.size #[XG]:=⟨cr,#[],_,e1,rfl,(fun e he=>absurd he #[M]),fun _=>rfl⟩;have I1:=I.laid (a:=s.heap.objs.size) (o:=.own #[ul]) (h':=s.heap.push cr) (t':=s.toks) (fun b u q=>ah _ q) (ai _) ⟨_,e1⟩;refine I1.laid (a:=s.heap.objs.size+1) (o:=.ins C s.heap.objs.size []) (t':=s.toks) (fun b u q=>ah _ q) (j1 (bq _ _)) ?_;have ne:s.heap.objs.size≠s.heap.objs.size+1:=aO (eD _);refine⟨by rw [zg ne,zb],bg _,ne,e2,fun _=>none,(Heap.Ns1.of_empty e3).at fun o q=>ah _ q,fun _=>dG,fun y hy=>absurd rfl hy⟩
theorem zmF {e:Expr} {f:Str} {Q:Value->Shared->Prop} (hb:attributeBase e f env (eval e env)=eval e env)
  (h:wpAny #[na] A (eval e env) (fun o s₁=>wpAny #[na] A (getAttr o f true) Q E s₁) E s):wpAny #[na] A (eval (.Attribute e f pos) env) Q E s :=
 Attribute_any_ h (by rw [arm_eval_Attribute,hb])
end
noncomputable def zpO (K:af) (ta:TE) (f:Str):TE:=fun σ H Q=>ta σ H fun x H1=>∃ a C dx fs v,x = .ref a/\H1 a=some #[RP]/\Cls K C/\zbH K C f/\fs.lookup f=some v/\Q v H1
noncomputable def zpP (K:af) (ta tv:TE) (f:Str):TS:=fun D σ H=>tv σ H fun y H1=>ta σ H1 fun x H2=>∃ a C dx fs,x = .ref a/\H2 a=some #[RP]/\Cls K C/\zbH K C f/\fs.length < 1000 /\
 D.nx σ (mz H2 a (.ins C dx (zaq f y fs)))
section
variable {X:Cx} {o e value:Expr} {f:Str} {pos pos' rk:Pos} {ta tv:TE}
theorem zag (he:PE X e ta) (hb:attributeBase e f X.env #[U0]=eval e X.env):PE X (.Attribute e f pos) (zpO X.K ta f):=by
 intro mq s σ H Q I h;refine zmF hb (thn #[Id] fun u s1 ⟨x,H1,I1,rx,a,C,dx,fs,v,ex,ea,c,n,l,q⟩=>?_);subst ex;obtain rfl:u=aL a:=rx;exact zh3 I1 ea c n l fun u' s2 I2 ru=>⟨v,H1,I2,ru,q⟩
theorem zdL (ha:PE X o ta) (hv:PE X value tv) (hs:swapsWith value (some (.Attribute o f pos')) pos.line X.env=pure false):PS X (.Assign [.Attribute o f pos'] value pos) (zpP X.K ta tv f):=by
 intro mq s σ H D I h;refine plainObj_wpAny_Assign_Attribute (thn (hv mq s σ H _ I h) fun u s1 ⟨y,H1,I1,ry,q⟩=>thn (ha mq s1 σ H1 _ I1 q) fun ov s2 ⟨x,H2,I2,rx,a,C,dx,fs,ex,ea,c,n,l,q2⟩=>?_) hs;subst ex;obtain rfl:ov=aL a:=rx;exact zh4 I2 ea c n l ry fun s3 I3=>⟨σ,_,I3,q2⟩
end
section
variable {X:Cx} {mq:List (Addr×Obj)} {σ:St} {H:Hp} {s:Shared} {A:Around} {E:Value->Shared->Prop} {Q:Value->Shared->Prop} {c:Value} {b:Bool}
inductive Oh (K:af) (H:Hp):V->Value->Prop where
 | non:Oh K H .non (.type "NoneType")
 | bl (x:Bool):Oh K H (.bl x) (.type "bool")
 | int (i:Int):Oh K H #[WO] (.type "int")
 | str (x:Str):Oh K H (.str x) (.type "str")
 | flt (x:UInt64):Oh K H (.flt x) (.type "float")
 | lst {a:Addr} {xs:List V} (e:H a=some #[RH]):Oh K H #[Rf] (.type "list")
 | frz {a:Addr} {o:Obj} {xs:List V} (e:H a=some (.frz o #[RH])):Oh K H #[Rf] (.type "list")
 | tup {a:Addr} {xs:List V} (e:H a=some #[Rp]):Oh K H #[Rf] (.type "tuple")
 | dK {a:Addr} {mI:List (Key×V)} (e:H a=some (.dK mI)):Oh K H #[Rf] (.type "dict")
 | dT {a:Addr} {mI:List (List Key×V)} (e:H a=some #[Vp]):Oh K H #[Rf] (.type "dict")
 | ins {a C dx:Addr} {fs:List (Str×V)} (e:H a=some #[RP]) (cl:Cls K C) (ha:aJ K #[QW] "__class__" = some (some (.builtin "object.__class__")))
   (hn:PySem.W.specialIn K (.builtin "object.__class__") "__get__" = some (some (.builtin "getset_descriptor.__get__"))) (htk:PySem.W.takesIn K (.builtin "object.__class__")=some true)
   (hm:bu K C (.type "object")=some true):Oh K H #[Rf] #[QW]
theorem zjP {x:V} {u t:Value} (I:Inv X mq σ H s) (rx:RelV x u) (ty:Oh X.K H x t) (e:am X.K t c=some b) (h:∀ tk,Q (.bool b) { s with toks:=tk }) :
  wpAny #[mt] A (call (.builtin "isinstance") [u,c]) Q E s:=by
 cases ty with
 | non=>cases (show u=bW from rx); exact bT PySem.W.kitx_none I.kIn dG e (fun z=>nomatch z) h
 | bl y=>cases (show u=eB y from rx); exact bT PySem.W.kitx_bool I.kIn dG e (fun z=>nomatch z) h
 | int i=>obtain⟨t,q⟩:=(show ∃ t,u=cK i t from rx); cases q; exact bT PySem.W.kitx_int I.kIn dG e (fun z=>nomatch z) h
 | str y=>obtain⟨t,q⟩:=(show ∃ t,u=iJ y t from rx); cases q; exact bT PySem.W.kitx_str I.kIn dG e (fun z=>nomatch z) h
 | flt y=>obtain⟨t,q⟩:=(show ∃ t,u=kL y t from rx); cases q; exact bT PySem.W.kitx_float I.kIn dG e (fun z=>nomatch z) h
 | @lst a xs ea =>
  cases (show u=aL a from rx);obtain⟨_,_,n,_,h1⟩:=(show zW X.prog X.w H s.heap a #[RH] from I.hok a _ ea);exact bT kz I.kIn ⟨_,h1,rfl⟩ e (fun z=>nomatch z) h
 | @frz a ob xs ea =>
  cases (show u=aL a from rx);obtain⟨_,_,_,n,_,h1⟩:=(show zW X.prog X.w H s.heap a (.frz ob #[RH]) from I.hok a _ ea);exact bT kz I.kIn ⟨_,h1,rfl⟩ e (fun z=>nomatch z) h
 | @tup a xs ea =>
  cases (show u=aL a from rx);obtain⟨_,_,_,p⟩:=(show zW X.prog X.w H s.heap a #[Rp] from I.hok a _ ea);obtain⟨o,h1,h2,_⟩:=p;exact bT PySem.W.kitx_tuple I.kIn ⟨o,h1,h2⟩ e (fun z=>nomatch z) h
 | @dK a mI ea =>
  cases (show u=aL a from rx);obtain⟨_,_,vs,_,p⟩:=(show zW X.prog X.w H s.heap a (.dK mI) from I.hok a _ ea);obtain⟨o,es,ep,h1,h2,_⟩:=p;exact bT kA I.kIn ⟨o,h1,h2.1⟩ e (fun z=>nomatch z) h
 | @dT a mI ea =>
  cases (show u=aL a from rx);obtain⟨_,_,xs,_,o,es,ep,h1,h2,_⟩:=(show zW X.prog X.w H s.heap a #[Vp] from I.hok a _ ea);exact bT kA I.kIn ⟨o,h1,h2.1⟩ e (fun z=>nomatch z) h
 | @ins a C dx fs ea cl ha hn htk hm =>
  cases (show u=aL a from rx);obtain⟨mA,O,_⟩:=zef I.hok ea;obtain⟨od,J,_⟩:=O.look;exact bT (PySem.W.kitx_own (cl.get _) cl.hd ha hn htk hm) I.kIn J e (fun z=>nomatch z) h
end
structure LJ (k:Nat) (A:Around):Prop where
 hd:A.handled=none
 dp:A.depth+3*k+5 < recursionLimit
 un:A.units+16*k+200 < cLine
theorem LJ.mono (r:LJ k A) (h:j<=k):LJ j A:=⟨r.hd,by have:=r.dp; lia,by have:=r.un; lia⟩
theorem LJ.deeper (r:LJ (k+1) A) (env:Env):LJ k (A.deeper env) :=
 ⟨r.hd,by have:=r.dp; show A.depth+1+3*k+5 < _; lia,by have:=r.un; show A.units+3+16*k+200 < _; lia⟩
theorem zh5:(A.under (.builtin "type.__call__" #[TV])).depth=A.depth+1:=by
 first | rfl | simp [j2,Code.weight,Code.isCreation,Code.isGuard,Code.isCaller,Code.frames,j3,guardIds]
theorem zh6:(A.under (.builtin "type.__call__" #[TV])).units=A.units+1:=by
 first | rfl | simp [j2,Code.cUnits,Code.frames,j3]
theorem LJ.make (r:LJ (k+1) A) (C:Addr) (us:List Value) (kw:List (Str×Value)):LJ k (A.under (.builtin "type.__call__" #[TV])) :=
 ⟨r.hd,by have:=r.dp; rw [zh5]; lia,by have:=r.un; rw [zh6]; lia⟩
theorem LJ.depth (r:LJ k A):A.depth < recursionLimit:=by have:=r.dp; lia
theorem LJ.units (r:LJ k A):A.units+64 < cLine:=by have:=r.un; lia
noncomputable def zli:TA:=fun _ H Q=>Q [] H
noncomputable def ziP (ta:TE) (tr:TA):TA:=fun σ H Q=>ta σ H fun x H1=>tr σ H1 fun xs H2=>Q (x :: xs) H2
section
variable {X:Cx} {e:Expr} {es:List Expr} {te:TE} {t:TA} {pos:Pos}
theorem zf:PA X [] zli:=fun _ _ _ _ H Q I h=>kB ⟨[],H,I,.nil,h⟩
theorem za (ha:PE X e te) (hr:PA X es t) (hs:starEach (e :: es) X.env=#[Do] :: starEach es X.env:=by rfl):PA X (e :: es) (ziP te t):=by
 intro pos mq s σ H Q I h;rw [hs];show wpAny _ _ (spliced (#[Do] :: backTo pos (starEach es X.env))) _ _ s;refine j4 (thn #[Fr] fun u s1 ⟨x,H1,I1,r1,q1⟩=>?_);exact thn (hr pos mq s1 σ H1 _ I1 q1) fun us s2 ⟨xs,H2,I2,r2,q2⟩=>⟨x :: xs,H2,I2,.cons r1 r2,q2⟩
theorem ya {X:Cx} {e:Expr} {te:TE} (a:PE X e te) (b:starEach [e] X.env=#[Do] :: starEach [] X.env):PA X [e] (ziP te zli):=za a zf b
noncomputable def zpQ (t:TA):TE:=fun σ H Q=>t σ H fun xs H1=>xs.length<=sizeLine/\∀ p,H1 p=none->Q (.ref p) (mz H1 p #[Rp])
noncomputable def zh7 (t:TA):TE:=fun σ H Q=>t σ H fun xs H1=>xs.length<=sizeLine/\∀ p,H1 p=none->Q (.ref p) (mz H1 p #[RH])
theorem zaf {x1} (h:PA X es t):PE X (.Tuple es x1 pos) (zpQ t):=by
 intro mq s σ H Q I hq;refine wpAny_Tuple_spliced (thn (h pos mq s σ H _ I hq) fun us s1 ⟨xs,H1,I1,r,z,q⟩=>⟨by rw [<- r.length]; exact z,?_⟩);have hf:H1 s1.heap.objs.size=none:=I1.hok.fresh (ai _);refine⟨.ref s1.heap.objs.size,mz H1 s1.heap.objs.size #[Rp],I1.laid (t':=s1.toks) (fun b u e=>ah _ e) (ai _) ?_,rfl,q _ hf⟩;exact⟨z,us,r,⟨_,az _ rfl,rfl,_,rfl⟩⟩
theorem zK (h:PA X es t):PE X (.List es pos) (zh7 t):=by
 intro mq s σ H Q I hq;refine wpAny_List_spliced (thn (h pos mq s σ H _ I hq) fun us s1 ⟨xs,H1,I1,r,z,q⟩=>⟨by rw [<- r.length]; exact z,?_⟩);have hf:H1 s1.heap.objs.size=none:=I1.hok.fresh (ai _);refine⟨.ref s1.heap.objs.size,mz H1 s1.heap.objs.size #[RH],I1.laid (t':=s1.toks) (fun b u e=>ah _ e) (ai _) ?_,rfl,q _ hf⟩;exact⟨z,us,0,r,az _ rfl⟩
end
abbrev Sp:=List V->Hp->VK->XK->Prop
abbrev CXT:=List Env->Hp->Shared->XK->Value->Shared->Prop
structure PR (P:Program) (w:World) (K:af) (mg:Str->Option Value) (base:Heap) (A:Around) (outer:List Env) (s:Shared) (H:Hp):Prop where
 frames:A.frames=some outer
 mod:Mod K mg base
 bs:∀ b o,base.get? b=some o->s.heap.get? b=some o/\H b=none
 bsz:base.objs.size<=s.heap.objs.size
 Nu:s.heap.FunFrames base outer
 frf:∀ b∈frs outer,H b=none
 hok:HOk P w H s.heap
 bare:AllBare s.gens
noncomputable def CE (outer:List Env) (P:Program) (w:World) (H:Hp) (s:Shared) (Q:VK) (u:Value) (s':Shared):Prop :=
 ∃ v H',s'.os=s.os/\AllBare s'.gens/\Un (frs outer) [] H H' s.heap s'.heap/\HOk P w H' s'.heap/\RelV v u/\Q v H'
noncomputable def CR (CX:CXT) (outer:List Env) (P:Program) (w:World) (H:Hp) (s:Shared) (Q:VK) (E:XK) (r:Result) (s':Shared):Prop :=
 match r with
 | .ok (.ret u)=>CE outer P w H s Q u s'
 | .ok _=>False
 | .error e=>CX outer H s E e s'
structure Kq (P:Program) (w:World) (K:af) (mg:Str->Option Value) (base:Heap) (CX:CXT) (k:Nat) (f:Addr) (fd:FuncData) (ps:List Str) (sp:Sp):Prop where
 len:∀ vs H Q E,sp vs H Q E->vs.length=ps.length
 run:∀ (A:Around) (outer:List Env) (s:Shared) (H:Hp) (args:Args) (us:List Value) (vs:List V) (Q:VK) (E:XK),LJ k A->PR P w K mg base A outer s H->BindsTo s fd args #[V1]->zH vs us->sp vs H Q E ->
  codeAny #[Ui] A (.call #[R7] args) (CR CX outer P w H s Q E) s
theorem PR.make {P:Program} (e:PR P w K mg base A outer s H) (C:Addr) (us:List Value) (kw:List (Str×Value)) :
  PR P w K mg base (A.under (.builtin "type.__call__" #[TV])) outer s H:=⟨by first | exact e.frames | (simpa [j2,Code.envs,j3,pushEnvs] using e.frames),e.mod,e.bs,e.bsz,e.Nu,e.frf,e.hok,e.bare⟩
section
variable {X:Cx} {mq:List (Addr×Obj)} {σ:St} {H:Hp} {s s':Shared}
theorem Inv.Qx (I:Inv X mq σ H s):PR X.prog X.w X.K X.mg X.base X.A X.stack s H :=
 ⟨I.ok.frames,I.ok.mod,I.bs,bn I.ok.bsz I.sz,I.stack,I.Mj,I.hok,I.bare⟩
theorem Inv.after {Q:VK} {u:Value} (I:Inv X mq σ H s) (h:CE X.stack X.prog X.w H s Q u s'):EP X mq σ Q u s':=by
 obtain⟨v,H',os,bare,un,hok,r,q⟩:=h;obtain⟨hh,g,d,t,Hl⟩:=s';obtain rfl:Hl=s.os:=os;exact⟨v,H',I.call (h':=hh) (g':=g) (d':=d) (t':=t) (ch:=[]) un hok bare (fun b z=>absurd z #[M]),r,q⟩
end
noncomputable def znI (sp:Sp) (qf:List V) (E:XK) (t:TA):TE:=fun σ H Q=>t σ H fun vs H1=>sp (vs++qf) H1 Q E
noncomputable def ziQ (C:Addr) (m:Str) (sp:Sp) (qf:List V) (E:XK) (ta:TE) (t:TA):TE:=fun σ H Q=>ta σ H fun x H1=>∃ a dx fs,x = .ref a/\H1 a=some #[RP]/\fs.lookup m=none /\
 t σ H1 fun vs H2=>sp (x :: (vs++qf)) H2 Q E
noncomputable def zpb (C:Addr) (sp:Sp) (qf:List V) (E:XK) (t:TA):TE:=fun σ H Q=>t σ H fun vs H1=>∀ x dx,H1 x=none->H1 dx=none->dx≠x ->
 sp (.ref x :: (vs++qf)) (mz (mz H1 dx (.own x)) x (.ins C dx [])) (fun v H2=>v = .non/\Q (.ref x) H2) E
noncomputable def Binds (K:af) (fd:FuncData) (ps:List Str) (ds:List Value):Prop :=
 ∀ (s:Shared) (us:List Value),K.In s.heap->(us++ds).length=ps.length->BindsTo s fd ⟨us,[]⟩ (ps.zip (us++ds))
theorem Binds.all {ps:List Str} (h:∀ us:List Value,us.length=ps.length->bindArgs fd ⟨us,[]⟩=pure #[V1]):Binds K fd ps []:=fun s us _ hl=>by
 rw [cv] at hl |-;exact .of_eq (h us hl)
noncomputable def zcl (CX:CXT) (X:Cx) (E:XK):Prop:=∀ (mq:List (Addr×Obj)) (σ:St) (H:Hp) (s:Shared) (e:Value) (s':Shared),Inv X mq σ H s->CX X.stack H s E e s'->X.xe e s'
section
variable {X:Cx} {CX:CXT} {k:Nat} {f C:Addr} {fd:FuncData} {ps:List Str} {sp:Sp} {qf:List V} {ds:List Value} {E:XK} {x m:Str} {p pos apos:Pos} {e o:Expr} {es:List Expr} {ta:TE} {t:TA}
theorem zh8 {σ:St} {Q:VK} {vs:List V} (F:Kq X.prog X.w X.K X.mg X.base CX k f fd ps sp) (hr:LJ k X.A) (hb:Binds X.K fd ps ds) (hd:zH qf ds) (hx:zcl CX X E)
  (I:Inv X mq σ H s) (r:zH vs us) (h:sp (vs++qf) H Q E):wpAny #[mt] X.A (call #[R7] us) #[Op] X.xe s:=by
 have r2:zH (vs++qf) (us++ds):=r.append hd;have hl:(us++ds).length=ps.length:=by rw [<- r2.length]; exact F.len _ _ _ _ h
 refine gc (eV (F.run X.A X.stack s H ⟨us,[]⟩ (us++ds) (vs++qf) Q E hr I.Qx (hb s us I.kIn hl) r2 h) fun r s' hq=>?_);cases r with
 | error e=>exact hx mq σ H s e s' I hq
 | ok fl =>
  cases fl with
  | ret u=>exact I.after hq
  | next=>exact bO hq
  | brk=>exact bO hq
  | cont=>exact bO hq
theorem zI (F:Kq X.prog X.w X.K X.mg X.base CX k f fd ps sp) (hr:LJ k X.A) (hg:Gl X x) (hm:X.mg x=some #[R7]) (hk:cF X.K #[R7]=true) (hb:Binds X.K fd ps ds) (hd:zH qf ds) (hx:zcl CX X E)
  (ha:PA X (e :: es) t) (AU:(x == ("__debug__" : Str))=false:=by decide) (he:starEach (e :: es) X.env=#[Do] :: starEach es X.env:=by rfl) (nZ:#[AT].any (·.1)=false:=by rfl) :
  PE X (.Call #[Xu] (e :: es) [] pos) (znI sp qf E t):=by
 intro mq s σ H Q I h;refine dZ #[VR];refine d6 (h₀:=X.base) I.ok.mod.kin hk (thn #[AC] fun us s1 ⟨vs,H1,I1,r,q⟩=>⟨I1.kIn,?_⟩) he nZ;exact zh8 F hr hb hd hx I1 r q
theorem zcN {pl:Sem Bool} (he:PE X o ta) (c:Cls X.K C) (hm:Oi X.K C m f) (F:Kq X.prog X.w X.K X.mg X.base CX k f fd ps sp) (hr:LJ k X.A) (hb:Binds X.K fd ps ds) (hd:zH qf ds) (hx:zcl CX X E) (ha:PA X (e :: es) t)
  (oj:starEach (e :: es) X.env=#[Do] :: starEach es X.env:=by rfl) (nZ:#[AT].any (·.1)=false:=by rfl)
  (ht:eval (.Call #[Q8] (e :: es) [] pos) X.env=(do
   let ov <- eval o X.env
   standAt apos.atName
   let (f,first) <- holding [ov] #[Us]
   callWith pos f first (backTo pos #[Sw]) (backToKw pos (keywordEach [] X.env))):=by rfl) :
  PE X (.Call #[Q8] (e :: es) [] pos) (ziQ C m sp qf E ta t):=by
 intro mq s σ H Q I h;refine eg (pl:=pl) (thn #[Id] fun u s1 ⟨x,H1,I1,rx,a,dx,fs,ex,ea,l,q⟩=>?_) ht;subst ex;obtain rfl:u=aL a:=rx;refine zck I1 ea c hm l ?_;refine d6 (first:=[.ref a]) (h₀:=X.base) I.ok.mod.kin hm.kp (thn #[Xh] fun us s2 ⟨vs,H2,I2,r,q2⟩=>⟨I2.kIn,?_⟩) oj nZ;exact zh8 (us:=.ref a :: us) (vs:=.ref a :: vs) F hr hb hd hx I2 (.cons rfl r) q2
theorem zdi {pl:Sem Bool} (he:PE X o ta) (c:Cls X.K C) (hm:Oi X.K C m f) (F:Kq X.prog X.w X.K X.mg X.base CX k f fd ps sp) (hr:LJ k X.A) (hb:Binds X.K fd ps ds) (hd:zH qf ds) (hx:zcl CX X E)
  (ht:eval (.Call #[Q8] [] [] pos) X.env=(do
   let ov <- eval o X.env
   standAt apos.atName
   let (f,first) <- holding [ov] #[Us]
   callWith pos f first (backTo pos (starEach [] X.env)) (backToKw pos (keywordEach [] X.env))):=by rfl) :
  PE X (.Call #[Q8] [] [] pos) (ziQ C m sp qf E ta zli):=by
 intro mq s σ H Q I h;refine eg (pl:=pl) (thn #[Id] fun u s1 ⟨x,H1,I1,rx,a,dx,fs,ex,ea,l,q⟩=>?_) ht;subst ex;obtain rfl:u=aL a:=rx;refine zck I1 ea c hm l ?_;exact jK (first:=[.ref a]) I1.kIn hm.kp (zh8 (us:=[.ref a]) (vs:=[.ref a]) F hr hb hd hx I1 #[Vh] q)
structure Mk (K:af) (C f:Addr):Prop where
 makes:iL K C=true
 init:aJ K #[QW] "__init__" = some #[Uk]
 fn:f' K #[R7]=true
 kp:cF K #[QW]=true
theorem zlj {σ:St} {Q:VK} {vs:List V} (M:Mk X.K C f) (F:Kq X.prog X.w X.K X.mg X.base CX k f fd ps sp) (hr:LJ (k+1) X.A) (hb:Binds X.K fd ps ds) (hd:zH qf ds)
  (hx:zcl CX X E) (I:Inv X mq σ H s) (r:zH vs us)
  (h:∀ x dx,H x=none->H dx=none->dx≠x->sp (.ref x :: (vs++qf)) (mz (mz H dx (.own x)) x (.ins C dx [])) (fun v H2=>v = .non/\Q (.ref x) H2) E) :
  wpAny #[mt] X.A (call #[QW] us) #[Op] X.xe s:=by
 have hq:=h #[ul] s.heap.objs.size (I.hok.fresh (eN _)) #[SM] (aO (eD _));have I2:=Inv.made (C:=C) I;have r2:zH (V.ref #[ul] :: (vs++qf)) (aL #[ul] :: (us++ds)):=.cons rfl (r.append hd);have hl:(aL #[ul] :: us++ds).length=ps.length:=by
  have e:=r2.length;rw [F.len _ _ _ _ hq] at e;exact e.symm
 refine gc (zlh (f:=f) I.kIn M.makes M.init (beq_iff_eq.mp M.fn) (eV (F.run _ X.stack _ _ ⟨aL #[ul] :: us,[]⟩ (aL #[ul] :: (us++ds)) _ _ E (hr.make C us [])
  (I2.Qx.make C us []) (hb _ (aL #[ul] :: us) I2.kIn hl) r2 hq) fun r s' ub=>?_))
 cases r with
 | error e=>exact hx mq σ _ _ e s' I2 ub
 | ok fl =>
  cases fl with
  | ret u =>
   obtain⟨v,H',I3,rv,ev,q3⟩:=I2.after ub;subst ev;exact⟨rv,⟨V.ref #[ul],H',I3,rfl,q3⟩⟩
  | next=>exact bO ub
  | brk=>exact bO ub
  | cont=>exact bO ub
theorem zmG (M:Mk X.K C f) (F:Kq X.prog X.w X.K X.mg X.base CX k f fd ps sp) (hr:LJ (k+1) X.A) (hg:Gl X x) (hm:X.mg x=some #[QW]) (hb:Binds X.K fd ps ds) (hd:zH qf ds) (hx:zcl CX X E)
  (ha:PA X (e :: es) t) (AU:(x == ("__debug__" : Str))=false:=by decide) (he:starEach (e :: es) X.env=#[Do] :: starEach es X.env:=by rfl) (nZ:#[AT].any (·.1)=false:=by rfl) :
  PE X (.Call #[Xu] (e :: es) [] pos) (zpb C sp qf E t):=by
 intro mq s σ H Q I h;refine dZ #[VR];refine d6 (h₀:=X.base) I.ok.mod.kin M.kp (thn #[AC] fun us s1 ⟨vs,H1,I1,r,q⟩=>⟨I1.kIn,?_⟩) he nZ;exact zlj M F hr hb hd hx I1 r q
end
structure Kg (N P:List Str) (sc:Scope):Prop where
 kind:sc.kind = .function
 co:sc.isCoroutine=false
 gen:sc.isGenerator=false
 nd:N.Nodup
 pre:N.take P.length=P
 par:∀ x∈P,sc.names.lookup x=some .local\/sc.names.lookup x=some .cell
 Qq:∀ y∈sc.names,y.2≠.free
theorem zfA {kindOf:Str->Option NameKind} {x:Str}:∀ {binds:List (Str×Value)} {m:Str->Option Value},(∀ v,(x,v)∉binds)->bindL kindOf binds m x=m x
 | [],_,_=>rfl
 | (n,v) :: r,m,h=>by
  unfold bindL;rw [zfA fun w hw=>h w (ar _ hw)];split
  ·have:x≠n:=by rintro rfl; exact h v aA
   simp [this]
  ·rfl
theorem zfB {kindOf:Str->Option NameKind} {x:Str}:∀ {binds:List (Str×Value)} {m:Str->Option Value},(∀ v,(x,v)∉binds)->bindC kindOf binds m x=m x
 | [],_,_=>rfl
 | (n,v) :: r,m,h=>by
  unfold bindC;rw [zfB fun w hw=>h w (ar _ hw)];split
  ·rfl
  ·have:x≠n:=by rintro rfl; exact h v aA
   simp [this]
theorem zfC {kindOf:Str->Option NameKind} {x:Str} {v:Value}:∀ {P:List Str} {vs:List Value} {i:Nat} {m:Str->Option Value},P.Nodup->P[i]? = some x->vs[i]? = some v->kindOf x=some .local ->
  bindL kindOf (P.zip vs) m x=some v
 | [],_,_,_,_,h,_,_=>by simp at h
 | _ :: _,[],_,_,_,_,h,_=>by simp at h
 | p :: P,w :: vs,0,m,nd,h1,h2,hk=>by
  simp at h1 h2; subst h1; subst h2;show bindL kindOf #[UK] m p=_;unfold bindL;rw [zfA fun v hv=>(du.mp nd).1 (gd hv).1,if_pos hk];simp
 | p :: P,w :: vs,i+1,m,nd,h1,h2,hk=>by
  show bindL kindOf #[UK] m x=_;unfold bindL;exact zfC (i:=i) (du.mp nd).2 (by simpa using h1) (by simpa using h2) hk
theorem zfD {kindOf:Str->Option NameKind} {x:Str} {v:Value}:∀ {P:List Str} {vs:List Value} {i:Nat} {m:Str->Option Value},P.Nodup->P[i]? = some x->vs[i]? = some v->kindOf x≠some .local ->
  bindC kindOf (P.zip vs) m x=some v
 | [],_,_,_,_,h,_,_=>by simp at h
 | _ :: _,[],_,_,_,_,h,_=>by simp at h
 | p :: P,w :: vs,0,m,nd,h1,h2,hk=>by
  simp at h1 h2; subst h1; subst h2;show bindC kindOf #[UK] m p=_;unfold bindC;rw [zfB fun v hv=>(du.mp nd).1 (gd hv).1,if_neg hk];simp
 | p :: P,w :: vs,i+1,m,nd,h1,h2,hk=>by
  show bindC kindOf #[UK] m x=_;unfold bindC;exact zfD (i:=i) (du.mp nd).2 (by simpa using h1) (by simpa using h2) hk
noncomputable def start (N:List Str) (vs:List V):St:=vs.map some++ak (N.length - vs.length) none
noncomputable def zbR (CX:CXT) (P:Program) (w:World) (K:af) (mg:Str->Option Value) (base:Heap) (N:List Str) (qual:Str) (scope:Scope) (f:Addr) (cd:Value) (A:Around) (outer:List Env) (s:Shared) (H:Hp) (E:XK):Cx where
 prog:=P
 w:=w
 K:=K
 mg:=mg
 base:=base
 A:=A.deeper #[Ix]
 N:=N
 s₀:=s
 H₀:=H
 env:=envOfC qual scope s.heap.objs.size f cd
 outer:=outer
 stack:=envOfC qual scope s.heap.objs.size f cd :: outer
 ex:=[]
 calm:=true
 fn:=fun _=>true
 pn:=[]
 xe:=fun e s'=>wpAny #[Ui] (A.deeper #[Ix]) (leaving #[Ix] e) (fun _ EE=>CX outer H s E e EE) (fun e' EE=>CX outer H s E e' EE) s'
theorem zgU {sc:Scope} {n:Nat} {x:Str} (h:sc.names.lookup x=some .cell):∃ c,(cellsFrom n sc.names []).lookup x=some c:=by
 have q:=fI sc.names n [] (.inl h);exact Option.isSome_iff_exists.mp q
theorem zfE {P:Program} {ps:List Str} {f:Addr} {E:XK} {vs:List V}
  (S:Kg N ps scope) (hd:A.handled=none) (e0:PR P w K mg base A outer s H) (hl:vs.length=ps.length) (r:zH vs us)
  (x:InCallC s s.heap.objs.size (bindL #[Ix].kindOf #[V1] fun _=>none) (cellsFrom #[ul] scope.names []) (bindC #[Ix].kindOf #[V1] fun _=>none) s1) :
  Inv #[Tt] [] #[Sl] H s1:=by
 have nZ:ps.length<=N.length:=by have:=congrArg cZ S.pre; rw [aI] at this; lia
 obtain⟨h1,tk,rfl,hk⟩:=x.done;have AV:∀ b:Addr,b∉#[Tt].ex:=fun b z=>absurd (show b∈([]:List Addr) from z) #[M]
 refine⟨⟨e0.mod,S.kind,rfl,rfl,ai _,fun y z c h1 h2=>?_,fun y hy=>?_,fun y c _ h=>?_,fun _=>hd,Around.frames_deeper e0.frames,.inr ⟨rfl,rfl⟩,fun b z=>absurd z (AV b),e0.bs,e0.bsz,fun b _ _=>AV b,fun b z=>absurd z (AV b),e0.Nu,e0.frf⟩,
  rfl,e0.bare,Un.kept hk,⟨_,x.toInCall.ns,fun i y v h1 h2 h3=>?_⟩,fun y c h=>⟨_,x.cell y c h⟩,e0.hok.fresh (ai _),fun y c h=>?_,fun p hp=>absurd (show p∈([]:List (Addr×Obj)) from hp) #[M],e0.hok.kept hk,?_⟩
 ·exact name_of_addr x.apart (dS h1) (dS h2)
 ·have hy:scope.names.lookup y=some .cell\/scope.names.lookup y=some .free:=hy;rcases hy with hy | hy
  ·exact zgU hy
  ·exact absurd rfl (S.Qq _ (dS hy))
 ·exact io (x.above y c (dS h))
 ·have hi:i < vs.length:=by
   unfold start at h2;by_cases hi:i < vs.length
   ·exact hi
   ·rw [aV (by simpa using hi)] at h2;rw [List.getElem?_replicate] at h2;split at h2 <;> cases h2
  have ha:vs[i]? = some v:=by
   unfold start at h2;rw [aT (by simpa using hi),ao] at h2;cases e:vs[i]? with
   | none=>rw [e] at h2; cases h2
   | some a=>rw [e] at h2; cases h2; rfl
  obtain⟨u,hu,rv⟩:=r.get ha;have hp:ps[i]? = some y:=by
   rw [<- S.pre,c7 #[O]]; exact h1
  have ndP:ps.Nodup:=by rw [<- S.pre]; exact S.nd.sublist (cI _ _)
  refine⟨u,rv,?_⟩;rcases S.par y (aP hp) with k | k
  ·exact .inl ⟨k,zfC ndP hp hu k⟩
  ·obtain⟨c,e⟩:=zgU (n:=s.heap.objs.size+1) k;refine .inr ⟨.inl k,c,e,?_⟩;have q:=x.cell y c e;rw [zfD ndP hp hu (by show scope.names.lookup y≠_; rw [k]; decide)] at q;exact q
 ·exact e0.hok.fresh (io (x.above y c (dS h)))
 ·unfold start;show _=N.length;rw [aH,ae,dw];lia
theorem znJ {P:Program} {f:Addr} {name:Str} {params:Arguments} {body:List Stmt} {dV kV:Value} 
  {ps:List Str} (lk:K.lookup f=some ⟨oc,od,.func #[GM],yb⟩) (t9:dM K mV qual=true) (S:Kg N ps scope)
  (len:∀ vs H Q E,sp vs H Q E->vs.length=ps.length)
  (qg:∀ (A:Around) (outer:List Env) (s:Shared) (H:Hp) (vs:List V) (Q:VK) (E:XK),LJ k #[TQ]->sp vs H Q E ->
   ∃ t,PSs #[Rj] body t/\t { nx:=fun _ H'=>Q .non H',rt:=Q } #[Sl] H) :
  Kq P w K mg base CX (k+1) f #[GM] ps sp:=by
 refine#[Ts];have hl:=len _ _ _ _ tj;have KX:K.In s.heap:=e0.mod.kin.keeps fun b o e=>#[Xd].1
 have lim:s.heap.NoLimit:=e0.mod.nolimit.keeps fun b o e=>#[Xd].1
 have rH:∀ y∈ps.zip us,scope.names.lookup y.1=some .local\/(scope.names.lookup y.1=some .cell/\((cellsFrom #[ul] scope.names []).lookup y.1).isSome=true):=fun ⟨n,v⟩ hy=>by
  rcases S.par n (gd hy).1 with q | q
  ·exact .inl q
  ·exact .inr ⟨q,fI _ _ _ (.inl q)⟩
 refine je hr.depth (KX _ _ lk) rfl S.co S.gen rfl (j5 KX t9) (hb _ _ _ _ ?_);refine gZ S.kind rH fun env he s1 x=>?_
 subst he;refine#[Ut];obtain⟨t,ht,hq⟩:=qg A outer s H vs Q E (hr.deeper _) tj;have I:Inv #[Rj] [] #[Sl] H s1:=zfE S hr.hd e0 hl r x;refine bK (ht [] s1 #[Sl] H _ I hq) (fun fl s' hs=>?_) fun e s' hs=>hs
 have fin:∀ {σ':St} {H':Hp} {v:V} {u:Value},Inv #[Rj] [] σ' H' s'->RelV v u->Q v H'->CE outer P w H s Q u s' :=
  fun {σ' H' v u} J rv q=>⟨v,H',J.os,J.bare,J.base,J.hok,rv,q⟩
 cases fl with
 | ret u =>
  obtain⟨v,σ',H',J,rv,q⟩:=hs;exact fin J rv q
 | next =>
  obtain⟨σ',H',J,q⟩:=hs;exact fin (v:=V.non) (u:=bW) J rfl q
 | brk =>
  obtain⟨_,_,_,q⟩:=hs;exact bO q
 | cont =>
  obtain⟨_,_,_,q⟩:=hs;exact bO q
section
variable {X:Cx} {x:Str} {p pos:Pos} {e:Expr} {es:List Expr} {t:TA} {id T:String} {r:List V->Hp->VK->Prop}
noncomputable def tCB (r:List V->Hp->VK->Prop) (t:TA):TE:=fun σ H Q=>t σ H fun vs H1=>r vs H1 Q
theorem zt (hc:zbj X #[Tf] r) (hg:Gl X x) (hm:X.mg x=none) (hv:bootBuiltins x=some #[Tf]) (ha:PA X (e :: es) t) (hn:x≠"__name__":=by decide) (AU:(x == ("__debug__" : Str))=false:=by decide)
  (he:starEach (e :: es) X.env=#[Do] :: starEach es X.env:=by rfl) (nZ:#[AT].any (·.1)=false:=by rfl):PE X (.Call #[Xu] (e :: es) [] pos) (tCB r t):=by
 intro mq s σ H Q I h;refine dZ #[XI];exact PyProof.Rows.callWith_builtin1 (thn #[AC] fun us s1 ⟨vs,H1,I1,r1,q1⟩=>hc mq s1 σ H1 vs us Q I1 r1 q1) he nZ
theorem zaN (hc:zbj X (.type T) r) (hg:Gl X x) (hm:X.mg x=none) (hv:bootBuiltins x=some (.type T)) (ha:PA X (e :: es) t) (hn:x≠"__name__":=by decide) (AU:(x == ("__debug__" : Str))=false:=by decide)
  (he:starEach (e :: es) X.env=#[Do] :: starEach es X.env:=by rfl) (nZ:#[AT].any (·.1)=false:=by rfl):PE X (.Call #[Xu] (e :: es) [] pos) (tCB r t):=by
 intro mq s σ H Q I h;refine dZ #[XI];exact bC (thn #[AC] fun us s1 ⟨vs,H1,I1,r1,q1⟩=>hc mq s1 σ H1 vs us Q I1 r1 q1) he nZ
end
end L2
namespace HT
open PySem PyProof.Rows
section
variable {prog:Program} {w:World} {A:Around} {E:Value->Shared->Prop} {s:Shared}
theorem Qe {t b:Addr} {vs ws:List Value} {Q:Value->Shared->Prop} (ht:IsTup s.heap t vs.toArray) (hb:IsTup s.heap b ws.toArray) (hv:vs≠[])
  (h1:ws = []->Q (.ref t) s) (h2:ws≠[]->Q #[t0] { s with heap:=s.heap.push { cls:=.type "tuple",data:=.seq (vs++ws).toArray } })
  (hsz:vs.length+ws.length<=sizeLine):wpAny #[na] A (binaryOp .Add (.ref t) (.ref b)) Q E s:=by
 obtain⟨⟨cls,dd,data,sl⟩,ho,hc,n,hd⟩:=id ht;obtain⟨⟨Hm,Gj,data2,AD⟩,vN,BY,n2,hd2⟩:=id hb;simp only at hc hd BY hd2;subst hc hd BY hd2;have e:vs.toArray++ws.toArray=(vs++ws).toArray:=by simp
 by_cases hw:ws = []
 ·exact j6 ⟨_,ho,rfl⟩ ⟨_,vN,rfl⟩ iq jD fJ fk (eW _ _)
   (tuple_addW1 t b vs.toArray ws.toArray n n2 dd Gj sl AD (by simpa using hv) (by simp [hw])) ⟨ho,vN,h1 hw⟩
 ·refine j6 ⟨_,ho,rfl⟩ ⟨_,vN,rfl⟩ iq jD fJ fk (eW _ _)
   (tuple_addW2 t b vs.toArray ws.toArray n n2 dd Gj sl AD (by simpa using hv) (by simpa using hw) (by rw [au,au]; exact hsz)) ⟨ho,vN,?_⟩
  rw [e];exact h2 hw
noncomputable def sIx (n d:Nat):Option Int->Nat
 | none=>d
 | some v=>if v < 0 then (v+(n:Int)).toNat else min v.toNat n
theorem NZ (n d:Nat):sIx n d none=d:=rfl
theorem OS (n d k:Nat):sIx n d (some (k:Int))=min k n:=by
 show (if (k:Int) < 0 then ((k:Int)+(n:Int)).toNat else min (k:Int).toNat n)=min k n;rw [if_neg #[O],a8]
end
end HT
namespace L2
open PySem PySem.Spec PyProof.Rows
variable {A:Around} {H:Hp} {j t':Nat} {mC us:List Value} {mq:List (Addr×Obj)} {ns:List Int} {s:Shared} {xs ys:List V} {y:V}
abbrev TO:=St->Hp->(Option Int->Hp->Prop)->Prop
noncomputable def PO (X:Cx) (e:Option Expr) (t:TO):Prop :=
 ∀ (mq:List (Addr×Obj)) (s:Shared) (σ:St) (H:Hp) (Q:Option Int->Hp->Prop),Inv X mq σ H s->t σ H Q ->
  wpAny #[mt] X.A (evalPart e X.env) (fun u s'=>∃ o H',Inv X mq σ H' s'/\IsPart u o/\Q o H') X.xe s
noncomputable def zmH:TO:=fun _ H Q=>Q none H
noncomputable def zpc (t:TE):TO:=fun σ H Q=>t σ H fun x H1=>∃ i,x = .int i/\Q (some i) H1
theorem intsAre_of:∀ {us:List Value},zH #[wS] us->IntsAre us ns:=by
 induction ns with
 | nil=>intro us r; rw [j7] at r; cases r; exact .nil
 | cons n ns ih =>
  intro us r;rw [bc] at r;cases r with
  | cons r1 r2 =>
   obtain⟨t,e⟩:=r1;subst e;exact .cons n t (ih r2)
section
variable {X:Cx} {e:Expr} {te:TE} {lo hi:Option Expr} {tl th:TO} {pos p2:Pos}
theorem zeg:PO X none zmH:=by
 intro mq s σ H Q I h;rw [evalPart_none];exact ag ⟨none,H,I,.none,h⟩
theorem zeh (h:PE X e te):PO X (some e) (zpc te):=by
 intro mq s σ H Q I hw;rw [evalPart_some];refine thn #[VB] fun u s1 ⟨x,H1,I1,r1,q1⟩=>?_
 obtain⟨i,rfl,q⟩:=q1;obtain⟨t,rfl⟩:=r1;exact⟨some i,H1,I1,.int i t,q⟩
noncomputable def SlR (X:Cx) (r:V->Option Int->Option Int->Hp->VK->Prop):Prop :=
 ∀ (mq:List (Addr×Obj)) (s:Shared) (σ:St) (H:Hp) (x:V) (v vl vu:Value) (lo hi:Option Int) (sl:Addr) (Q:VK),Inv X mq σ H s->RelV x v->s.heap.IsSliceOf sl vl vu .none->IsPart vl lo->IsPart vu hi->r x lo hi H Q ->
  ∃ T id,typeLookup (.type T) "__getitem__" = pure (some #[Tf])/\s.TypeIs v T/\wpAny #[mt] X.A (getItem v (.ref sl)) #[Op] X.xe s
noncomputable def tSl (r:V->Option Int->Option Int->Hp->VK->Prop) (te:TE) (tl th:TO):TE:=fun σ H Q=>te σ H fun x H1=>tl σ H1 fun l H2=>th σ H2 fun u H3=>r x l u H3 Q
theorem zdj {r:V->Option Int->Option Int->Hp->VK->Prop} (hr:SlR X r) (he:PE X e te) (hl:PO X lo tl) (hu:PO X hi th):PE X (.Subscript e (.Slice lo hi none p2) pos) (tSl r te tl th):=by
 intro mq s σ H Q I h;refine Subscript_ (thn #[Id] fun v s1 ⟨x,H1,I1,r1,q1⟩=>?_);refine wpAny_Slice (thn (hl mq s1 σ H1 _ I1 q1) fun vl s2 ⟨l,H2,I2,pl,q2⟩=>thn (hu mq s2 σ H2 _ I2 q2) fun vu s3 ⟨u,H3,I3,pu,q3⟩=>?_);rw [evalPart_none];refine ag ?_;have I4:Inv X mq σ H3 { s3 with heap:=s3.heap.push { cls:=.type "slice",data:=.fields #[vl,vu,.none] } }:=I3.kept (t':=s3.toks) fun b ob q=>ah _ q
 obtain⟨T,id,hT,ht,hg⟩:=hr mq { s3 with heap:=s3.heap.push { cls:=.type "slice",data:=.fields #[vl,vu,.none] } } σ H3 x v vl vu l u s3.heap.objs.size Q I4 r1 (Heap.IsSliceOf.new ..) pl pu q3;show wpAny #[mt] X.A (subscriptTail e (.Slice lo hi none p2) v (.ref s3.heap.objs.size)) #[Op] X.xe { s3 with heap:=s3.heap.push { cls:=.type "slice",data:=.fields #[vl,vu,.none] } };exact tail_any (ops:=[.ref s3.heap.objs.size,v]) ht hT hg (by with_unfolding_all rfl)
noncomputable def zdb (xs:List V) (lo hi:Option Int):List V:=(xs.drop (HT.sIx xs.length 0 lo)).take #[Th]
theorem zgV (xs:List V) (lo hi:Option Int):(zdb xs lo hi).length<=xs.length:=by
 unfold zdb;rw [aI,cB];lia
noncomputable def zpd (K:af):R2:=fun x y H Q=>∃ a b xs ys,x = .ref a/\y = .ref b/\mK K H a xs/\mK K H b ys/\xs≠[]/\xs.length+ys.length<=sizeLine /\
 (ys = []->Q #[Rf] H)/\(ys≠[]->∀ p,H p=none->Q (.ref p) (mz H p (.tup (xs++ys))))
theorem zH.MY (r:zH xs us):us = []↔xs = []:=by
 cases r with
 | nil=>simp
 | cons _ _=>simp
theorem zmI:OpR X #[VM] (zpd X.K):=by
 intro mq s σ H x y v u Q I rx ry h;obtain⟨a,b,xs,ys,rfl,rfl,ha,hb,hx,hz,q1,q2⟩:=h;cases rx;cases ry;obtain⟨mC,r1,p1,_⟩:=I.tuple ha;obtain⟨nA,r2,p2,_⟩:=I.tuple hb;refine HT.Qe p1 p2 (fun z=>hx (r1.MY.mp z)) (fun z=>⟨.ref a,H,I,rfl,q1 (r2.MY.mp z)⟩) (fun z=>?_) (by rw [<- r1.length,<- r2.length]; exact hz);refine⟨.ref s.heap.objs.size,_,I.laid (t':=s.toks) (o:=.tup (xs++ys)) (fun b ob q=>ah _ q) (ai _) ?_,rfl,q2 (fun w=>z (r2.MY.mpr w)) _ #[SM]⟩;exact⟨by rw [aH]; exact hz,_,r1.append r2,IsTup.new _ _⟩
end
noncomputable def ixN (n:Nat) (i:Int):Option Nat:=if 0<=i then (if i < n then some i.toNat else none) else if -(n:Int)<=i then some (i+n).toNat else none
noncomputable def atI {α:Type} (xs:List α) (i:Int):Option α:=(ixN xs.length i).bind fun j=>xs[j]?
theorem ziR {n:Nat} {i:Int} (h:ixN n i=some j):seqIndex? i n=some j/\j < n/\-(n:Int)<=i/\i < n:=by
 unfold ixN at h;by_cases h0:0<=i
 ·rw [if_pos h0] at h;by_cases h1:i < n
  ·rw [if_pos h1] at h;have e:i.toNat=j:=aN h;exact⟨by rw [gN h0 h1,e],#[O],#[O],h1⟩
  ·rw [if_neg h1] at h; cases h
 ·rw [if_neg h0] at h;by_cases h1:-(n:Int)<=i
  ·rw [if_pos h1] at h;have e:(i+n).toNat=j:=aN h;exact⟨by rw [j8 #[O] h1,e],#[O],h1,#[O]⟩
  ·rw [if_neg h1] at h; cases h
theorem ziS {α:Type} {xs:List α} {i:Int} {v:α} (h:atI xs i=some v):∃ j,seqIndex? i xs.length=some j/\xs[j]? = some v/\j < xs.length/\-(xs.length:Int)<=i/\i < xs.length:=by
 unfold atI at h;cases e:ixN xs.length i with
 | none=>rw [e] at h; cases h
 | some j =>
  rw [e] at h;obtain⟨h1,h2,h3,h4⟩:=ziR e;exact⟨j,h1,h,h2,h3,h4⟩
theorem zab {α:Type} {xs:List α} {v:α} (h:xs[j]? = some v):atI xs (j:Int)=some v:=by
 have hj:j < xs.length:=(aj.mp h).1;have e:ixN xs.length (j:Int)=some j:=by
  unfold ixN;rw [if_pos #[O],if_pos #[O]]; simp
 unfold atI; rw [e]; exact h
noncomputable def zmJ (b:Expr):Prop:=∀ o i,subscripted b false o i=operate [o,i] (getItem o i)
noncomputable def IxR (X:Cx) (r:R2):Prop :=
 ∀ (value slice:Expr) (mq:List (Addr×Obj)) (s:Shared) (σ:St) (H:Hp) (x y:V) (v u:Value) (Q:VK),Inv X mq σ H s->RelV x v->RelV y u->r x y H Q ->
  subscripted slice false v u=operate [v,u] (getItem v u)->wpAny #[mt] X.A (subscriptTail value slice v u) #[Op] X.xe s
noncomputable def MtR (X:Cx) (id:String) (r:V->List V->Hp->VK->Prop):Prop :=
 ∀ (mq:List (Addr×Obj)) (s:Shared) (σ:St) (H:Hp) (x:V) (xs:List V) (v:Value) (us:List Value) (Q:VK),Inv X mq σ H s->RelV x v->zH xs us->r x xs H Q ->
  wpAny #[mt] X.A (call #[Tf] (v :: us)) #[Op] X.xe s
section
variable {X:Cx} {a b:Expr} {ta tb:TE} {pos:Pos}
theorem zx {r:R2} (hr:IxR X r) (ha:PE X a ta) (hb:PE X b tb) (hs:zmJ b):PE X (.Subscript a b pos) #[W9]:=by
 intro mq s σ H Q I h;exact Subscript_ (zn4 ha hb I h fun v u s2 x y H2 I2 rx ry q=>hr a b mq s2 σ H2 x y v u Q I2 rx ry q (hs _ _))
noncomputable def zpe (K:af):R2:=fun x y H Q=>∃ p xs i v,x = .ref p/\y = .int i/\mB K H p xs/\atI xs i=some v/\Q v H
noncomputable def zpf (K:af):R2:=fun x y H Q=>∃ p xs i v,x = .ref p/\y = .int i/\mK K H p xs/\atI xs i=some v/\Q v H
theorem zC:IxR X (zpe X.K):=by
 intro value slice mq s σ H x y v u Q I rx ry h hs;obtain⟨p,xs,i,z,rfl,rfl,hq,he,q⟩:=h;cases rx;obtain⟨t,rfl⟩:=ry;obtain⟨mC,r,pl,hz⟩:=I.list hq;obtain⟨j,h1,h2,h3,h4,h5⟩:=ziS he;obtain⟨w,ew,EF⟩:=r.get h2;have hl:=r.length;have hn:=zez;have fin:EP X mq σ Q w s:=⟨z,H,I,EF,q⟩;by_cases h0:0<=i
 ·have hj:i.toNat=j:=by
   rw [gN h0 h5] at h1;exact aN h1
  exact item_listR pl.isList h0 #[O] (by rw [hj]; simpa using ew) fin hs
 ·have hj:(i+(mC.toArray.size:Int)).toNat=j:=by
   rw [j8 #[O] h4] at h1;rw [au,<- hl];exact aN h1
  exact iS (x:=w) pl.isList.typeIs slot_list_getitem.lookup
   (wpAny_getItem_list_neg (Q:=fun r s'=>r=w/\EP X mq σ Q r s') pl.isList #[O] (by rw [au] <;> lia) #[O] (by rw [hj]; simpa using ew) ⟨rfl,fin⟩) hs
theorem zaj:IxR X (zpf X.K):=by
 intro value slice mq s σ H x y v u Q I rx ry h hs;obtain⟨p,xs,i,z,rfl,rfl,hq,he,q⟩:=h;cases rx;obtain⟨t,rfl⟩:=ry;obtain⟨mC,r,pl,hz⟩:=I.tuple hq;obtain⟨j,h1,h2,h3,h4,h5⟩:=ziS he;obtain⟨w,ew,EF⟩:=r.get h2;have hl:=r.length;have hn:=zez;have fin:EP X mq σ Q w s:=⟨z,H,I,EF,q⟩;exact iS (x:=w) pl.typeIs slot_tuple_getitem.lookup
  (getItem_tuple (j:=j) (Q:=fun r s'=>r=w/\EP X mq σ Q r s') pl #[O] #[O] (by rw [au,<- hl]; exact h1) (by simpa using ew) ⟨rfl,fin⟩) hs
theorem zh9 (mC:List Value) (n j:Nat) (u:Value):cq (·.setIfInBounds j u) { cls:=.type "list",data:=.seq mC.toArray n } = { cls:=.type "list",data:=.seq (mC.set j u).toArray n }:=by
 simp [cq]
theorem Inv.lst {mq:List (Addr×Obj)} {σ:St} {H:Hp} {s:Shared} {p:Addr} {xs:List V} (I:Inv X mq σ H s) (h:H p=some #[RH]) :
  ∃ (mC:List Value) (n:Nat),zH xs mC/\s.heap.get? p=some { cls:=.type "list",data:=.seq mC.toArray n }/\xs.length<=sizeLine:=by
 obtain⟨z,mC,n,r,e⟩:=I.hok p _ h;exact⟨mC,n,r,e,z⟩
theorem Inv.Qt {σ:St} {p:Addr} {its':List Value} {n n':Nat} {f:Obj->Obj} (I:Inv X mq σ H s) (h:H p=some #[RH])
  (ho:s.heap.get? p=some { cls:=.type "list",data:=.seq mC.toArray n }) (hf:f { cls:=.type "list",data:=.seq mC.toArray n } = { cls:=.type "list",data:=.seq its'.toArray n' }) (r:zH ys its') (hz:ys.length<=sizeLine) (t:Nat) :
  Inv X mq σ (mz H p #[Vb]) { s with heap:=s.heap.update p f,toks:=t }:=by
 have e:(s.heap.update p f).get? p=some { cls:=.type "list",data:=.seq its'.toArray n' }:=by
  rw [bP f ho (by rw [hf] <;> rfl),hf]
 refine I.write (x:=p) (e:=p) (by rw [h]; trivial) #[KM] (fun b u hb q=>(dn _ _ (cA hb)).trans q) ⟨_,e⟩ ?_;exact⟨hz,its',n',r,e⟩
noncomputable def zpg:V->V->V->Hp->(Hp->Prop)->Prop:=fun o i v H Q=>∃ p xs k j,o = .ref p/\i = .int k/\H p=some #[RH]/\ixN xs.length k=some j/\Q (mz H p (.lst (xs.set j v)))
theorem set_list:zo5 X zpg:=by
 intro mq s σ H o i v ov iv u Q I ro ri rv h;obtain⟨p,xs,k,j,rfl,rfl,hp,hj,q⟩:=h;cases ro;obtain⟨t,rfl⟩:=ri;obtain⟨mC,n,r,ho,hz⟩:=I.lst hp;obtain⟨h1,h2,h3,h4⟩:=ziR hj;have hl:=r.length;have hn:=zez;have I':Inv X mq σ (mz H p (.lst (xs.set j v))) { s with heap:=s.heap.update p (cq (·.setIfInBounds j u)) } :=
  I.Qt hp ho (zh9 mC n j u) (r.set rv j) (by rw [iM]; exact hz) s.toks
 by_cases h0:0<=k
 ·have hk:k.toNat=j:=by
   rw [gN h0 h4] at h1;exact aN h1
  exact PySem.W.ki_setAt ho h0 #[O] (by rw [au,<- hl]; exact h4) (by rw [hk]; exact⟨_,I',q⟩)
 ·have hk:(k+(mC.toArray.size:Int)).toNat=j:=by
   rw [j8 #[O] h3] at h1;rw [au,<- hl];exact aN h1
  exact PySem.W.ki_setBack ho #[O] (by rw [au,<- hl]; exact h3) #[O] (by rw [hk]; exact⟨_,I',q⟩)
theorem zf9 (lo hi:Option Int) (n:Nat):#[Uq].1=((HT.sIx n 0 lo:Nat):Int)/\#[Uq].2.1=((HT.sIx n n hi:Nat):Int)/\#[Uq].2.2=1:=by
 refine⟨?_,?_,rfl⟩
 ·cases lo with
  | none=>simp [sliceBounds,HT.sIx]
  | some i =>
   simp only [sliceBounds,HT.sIx,kR,show (1:Int) > 0 by decide,if_true];by_cases h:i < 0
   ·simp only [h,if_true] <;> lia
   ·simp only [h,if_false] <;> lia
 ·cases hi with
  | none=>simp [sliceBounds,HT.sIx]
  | some i =>
   simp only [sliceBounds,HT.sIx,kR,show (1:Int) > 0 by decide,if_true];by_cases h:i < 0
   ·simp only [h,if_true] <;> lia
   ·simp only [h,if_false] <;> lia
theorem zfh (mC:List Value) (lo hi:Option Int):slicePick mC.toArray lo hi none=((mC.drop (HT.sIx mC.length 0 lo)).take (HT.sIx mC.length mC.length hi - HT.sIx mC.length 0 lo)).toArray:=by
 obtain⟨h1,h2,h3⟩:=zf9 lo hi mC.toArray.size;unfold slicePick;rw [h1,h2,h3];simp only [sliceRange_one,pick_run,au] <;> rfl
noncomputable def zpR (K:af):V->Option Int->Option Int->Hp->VK->Prop:=fun x lo hi H Q=>∃ a xs,x = .ref a/\mB K H a xs/\∀ p,H p=none->Q (.ref p) (mz H p (.lst (zdb xs lo hi)))
theorem zei:SlR X (zpR X.K):=by
 intro mq s σ H x v vl vu lo hi sl Q I rx hs pl pu h;obtain⟨a,xs,rfl,hx,q⟩:=h;cases rx;obtain⟨mC,r,ht,hz⟩:=I.list hx;have mS:=r.length;refine⟨"list",_,slot_list_getitem.lookup,ht.isList.typeIs,?_⟩;refine wpAny_getItem_list_slice ht.isList hs pl pu .none #[M] ?_ (by rw [au] <;> lia);rw [zfh,<- mS];refine⟨.ref s.heap.objs.size,_,I.laid (t':=s.toks) (o:=.lst (zdb xs lo hi)) (fun b ob q=>ah _ q) (ai _) ?_,rfl,q _ #[SM]⟩;exact⟨bn (zgV xs lo hi) hz,_,0,(r.drop (HT.sIx xs.length 0 lo)).take #[Th],az _ rfl⟩
noncomputable def zcx:V->Bool
 | .non=>true
 | .bl _=>true
 | .int _=>true
 | .str _=>true
 | _=>false
noncomputable def eqV:V->V->Bool
 | .non,.non=>true
 | .bl a,.bl b=>a == b
 | .bl a,.int b=>(if a then 1 else 0) == b
 | .int a,.bl b=>a == (if b then 1 else 0)
 | .int a,.int b=>a == b
 | .str a,.str b=>a == b
 | _,_=>false
theorem zlk {x:V} {u v:Value} (ry:RelV y u) (rx:RelV x v) (fy:zcx y=true) (fx:zcx x=true):jq A s u v (eqV y x):=by
 cases y with
 | non =>
  cases ry;cases x with
  | non=>cases rx; exact lg _
  | bl b=>cases rx; exact SeqAt.EqAt.none_bool b
  | int b=>obtain⟨t,rfl⟩:=rx; exact SeqAt.EqAt.none_int b t
  | str b=>obtain⟨t,rfl⟩:=rx; exact SeqAt.EqAt.none_str b t
  | _=>exact absurd (show false=true from fx) aG
 | bl a =>
  cases ry;cases x with
  | non=>cases rx; exact SeqAt.EqAt.bool_none a
  | bl b=>cases rx; exact SeqAt.EqAt.bool_bool a b
  | int b=>obtain⟨t,rfl⟩:=rx; exact SeqAt.EqAt.bool_int a b t
  | str b=>obtain⟨t,rfl⟩:=rx; exact SeqAt.EqAt.bool_str a b t
  | _=>exact absurd (show false=true from fx) aG
 | int a =>
  obtain⟨t',rfl⟩:=ry;cases x with
  | non=>cases rx; exact SeqAt.EqAt.int_none a t'
  | bl b=>cases rx; exact SeqAt.EqAt.int_bool a t' b
  | int b=>obtain⟨t,rfl⟩:=rx; exact SeqAt.EqAt.int_int a t' b t
  | str b=>obtain⟨t,rfl⟩:=rx; exact jW a t' b t
  | _=>exact absurd (show false=true from fx) aG
 | str a =>
  obtain⟨t',rfl⟩:=ry;cases x with
  | non=>cases rx; exact SeqAt.EqAt.str_none a t'
  | bl b=>cases rx; exact SeqAt.EqAt.str_bool a t' b
  | int b=>obtain⟨t,rfl⟩:=rx; exact jX a t' b t
  | str b=>obtain⟨t,rfl⟩:=rx; exact SeqAt.EqAt.str_str a t' b t
  | _=>exact absurd (show false=true from fx) aG
 | _=>exact absurd (show false=true from fy) aG
noncomputable def eqU (x:V) (u:Value):Bool:=match u with
 | .none=>eqV .non x
 | .bool b=>eqV (.bl b) x
 | .int i _=>eqV #[WO] x
 | .str z _=>eqV (.str z) x
 | _=>false
theorem zll {x:V} {u:Value} (r:RelV y u) (f:zcx y=true):eqU x u=eqV y x:=by
 cases y with
 | non=>cases r; rfl
 | bl b=>cases r; rfl
 | int i=>obtain⟨t,rfl⟩:=r; rfl
 | str z=>obtain⟨t,rfl⟩:=r; rfl
 | _=>exact absurd (show false=true from f) aG
theorem zga {x:V}:∀ {xs:List V} {us:List Value},zH xs us->xs.all zcx=true->us.any (eqU x)=xs.any fun y=>eqV y x
 | _,_,.nil,_=>rfl
 | y :: xs,u :: us,.cons r t,f=>by
  rw [jE,bV] at f;rw [fM,fM,zll r f.1,zga t f.2]
theorem zeA {A:Around} {s:Shared} {x:V} {v:Value} (rx:RelV x v) (fx:zcx x=true):∀ {xs:List V} {us:List Value},zH xs us->xs.all zcx=true->∀ u∈us,jq A s u v (eqU x u)
 | _,_,.nil,_=>fun u hu=>by cases hu
 | y :: xs,u :: us,.cons r t,f=>fun u' hu=>by
  rw [jE,bV] at f;rcases av.mp hu with rfl | hu
  ·rw [zll r f.1]; exact zlk r rx f.1 fx
  ·exact zeA rx fx t f.2 u' hu
noncomputable def inV (x:V) (xs:List V):Bool:=xs.any fun y=>eqV y x
noncomputable def rIn (K:af) (neg:Bool):R2:=fun x y H Q=>∃ p xs,y = .ref p/\(mB K H p xs\/mK K H p xs)/\zcx x=true/\xs.all zcx=true/\Q (.bl (if neg then !inV x xs else inV x xs)) H
theorem zjQ:OpR X (compareOp .In) (rIn X.K false):=by
 intro mq s σ H x y v u Q I rx ry h;obtain⟨p,xs,rfl,hq,fx,fs,q⟩:=h;cases ry;rcases hq with hq | hq
 ·obtain⟨mC,r,pl,hz⟩:=I.list hq;refine SeqAt.in_listAt (eqU x) pl.isList (fun w hw=>zeA rx fx r fs w (by simpa using hw)) #[SD];rw [show mC.toArray.any (eqU x)=mC.any (eqU x) by simp,zga r fs];exact q
 ·obtain⟨mC,r,pl,hz⟩:=I.tuple hq;refine SeqAt.in_tupleAt (eqU x) pl (fun w hw=>zeA rx fx r fs w (by simpa using hw)) #[SD];rw [show mC.toArray.any (eqU x)=mC.any (eqU x) by simp,zga r fs];exact q
theorem zB:zbj X (.builtin "len") (fun xs H Q=>∃ p ys,xs = [.ref p]/\(mB X.K H p ys\/mK X.K H p ys)/\Q (.int ys.length) H):=by
 intro mq s σ H xs us Q I r h;obtain⟨p,ys,rfl,hq,q⟩:=h;obtain⟨u,rfl,rx⟩:=vals1 r;cases rx;have hn:=zez;rcases hq with hq | hq
 ·obtain⟨mC,r',pl,hz⟩:=I.list hq;have mS:=r'.length;exact Calls.call_len_list pl.isList (by simp only [au] <;> lia) ⟨.int ys.length,H,I.tok _,⟨s.toks+1,by rw [au,mS]⟩,q⟩
 ·obtain⟨mC,r',pl,hz⟩:=I.tuple hq;have mS:=r'.length;exact len_tuple pl (by simp only [au] <;> lia) ⟨.int ys.length,H,I.tok _,⟨s.toks+1,by rw [au,mS]⟩,q⟩
theorem zdk:zbj X (.type "list") (fun xs H Q=>∃ p ys,xs = [.ref p]/\(mB X.K H p ys\/mK X.K H p ys)/\∀ l,H l=none->Q #[Su] (mz H l #[Vb])):=by
 intro mq s σ H xs us Q I r h;obtain⟨p,ys,rfl,hq,q⟩:=h;obtain⟨u,rfl,rx⟩:=vals1 r;cases rx;have fin:∀ (mC:List Value),zH ys mC->ys.length<=sizeLine->∀ (h':Heap) (c':Nat),(∀ b o',s.heap.get? b=some o'->h'.get? b=some o') ->
   h'.get? s.heap.objs.size=some { cls:=.type "list",dict:=none,data:=.seq mC.toArray c',slots:=#[] }->EP X mq σ Q #[t0] { s with heap:=h' }:=fun mC r' hz h' c' kp e =>
  ⟨.ref s.heap.objs.size,_,I.laid (t':=s.toks) kp (ai _) (show zW X.prog X.w _ h' _ #[Vb] from ⟨hz,mC,c',r',e⟩),rfl,q _ #[SM]⟩
 rcases hq with hq | hq
 ·obtain⟨mC,r',pl,hz⟩:=I.list hq;have mS:=r'.length;obtain⟨o,ho,hc,n,hd⟩:=pl.isList;exact call_list_seq p #[KM] ho hc hd #[UV] (by simp only [au] <;> lia)
 ·obtain⟨mC,r',pl,hz⟩:=I.tuple hq;have mS:=r'.length;obtain⟨o,ho,hc,n,hd⟩:=pl;exact call_list_seq p (.inr rfl) ho hc hd #[UV] (by simp only [au] <;> lia)
theorem zb0:zbj X (.type "tuple") (fun xs H Q=>∃ p ys,xs = [.ref p]/\((mB X.K H p ys/\∀ l,H l=none->Q #[Su] (mz H l (.tup ys)))\/(mK X.K H p ys/\Q (.ref p) H))):=by
 intro mq s σ H xs us Q I r h;obtain⟨p,ys,rfl,h⟩:=h;obtain⟨u,rfl,rx⟩:=vals1 r;cases rx;rcases h with ⟨hq,q⟩ | ⟨hq,q⟩
 ·obtain⟨mC,r',pl,hz⟩:=I.list hq;have mS:=r'.length;refine call_tuple_list pl.isList (fun h' kp=>?_) (by simp only [au] <;> lia);have I1:Inv X mq σ H { s with heap:=h' }:=I.kept (t':=s.toks) kp;have I2:Inv X mq σ (mz H h'.objs.size (.tup ys)) { s with heap:=h'.push { cls:=.type "tuple",data:=.seq mC.toArray } } :=
   I1.laid (t':=s.toks) (fun b o e=>ah _ e) (ai _) (show zW X.prog X.w _ _ _ (.tup ys) from ⟨hz,mC,r',IsTup.new _ _⟩)
  exact⟨.ref h'.objs.size,_,I2,rfl,q _ #[Ry]⟩
 ·obtain⟨mC,r',pl,hz⟩:=I.tuple hq;exact call_tuple_same pl ⟨.ref p,H,I,rfl,q⟩
noncomputable def tyV (K:af) (T:String) (x:V) (H:Hp):Prop:=match x with
 | .str _=>T = "str"
 | .int _=>T = "int"
 | .ref p=>(T = "list"/\∃ xs,mB K H p xs)\/(T = "tuple"/\∃ o,K.lookup p=some o/\o.cls = .type "tuple"/\o.dict=none) \/
   (T = "dict"/\((∃ mI,H p=some (.dK mI))\/∃ mI,H p=some #[Vp]))\/(T = "set"/\∃ S n,H p=some (.set S n))
 | _=>False
theorem zlm {σ:St} {T:String} {x:V} {v:Value} (I:Inv X mq σ H s) (r:RelV x v) (ty:tyV X.K T x H) :
  s.TypeIs v T/\∀ a,v = .ref a->∃ ob,s.heap.get? a=some ob/\ob.dict=none:=by
 cases x with
 | str z =>
  obtain⟨t,rfl⟩:=r;cases (show T = "str" from ty);exact⟨typeIs_str s z t,fun _ e=>nomatch e⟩
 | int i =>
  obtain⟨t,rfl⟩:=r;cases (show T = "int" from ty);exact⟨lh s i t,fun _ e=>nomatch e⟩
 | ref p =>
  cases r;rcases ty with ⟨rfl,xs,hq⟩ | ⟨rfl,o,hk,hc,hd⟩ | ⟨rfl,hk⟩ | ⟨rfl,S,n,hk⟩
  ·obtain⟨mC,_,pl,_⟩:=I.list hq;refine⟨pl.isList.typeIs,fun a e=>?_⟩;cases e;obtain⟨o,n,e,c,hd,_⟩:=pl;exact⟨o,e,hd⟩
  ·refine⟨⟨o,I.kIn p o hk,hc⟩,fun a e=>?_⟩;cases e;exact⟨o,I.kIn _ o hk,hd⟩
  ·have z:∃ o,s.heap.get? p=some o/\o.ExactDict:=by
    rcases hk with ⟨mI,hk⟩ | ⟨mI,hk⟩
    ·obtain⟨_,_,_,_,o,_,_,e,ex,_⟩:=I.hok p _ hk;exact⟨o,e,ex⟩
    ·obtain⟨_,_,_,_,o,_,_,e,ex,_⟩:=I.hok p _ hk;exact⟨o,e,ex⟩
   obtain⟨o,e,ex⟩:=z;refine⟨⟨o,e,ex.1⟩,fun a e2=>?_⟩;cases e2;exact⟨o,e,ex.2.1⟩
  ·obtain⟨o,_,_,_,e,ex,_⟩:=I.hok p _ hk;refine⟨⟨o,e,ex.1⟩,fun a e2=>?_⟩;cases e2;exact⟨o,e,ex.2.1⟩
 | _=>exact bO ty
noncomputable def zpS (K:af) (T:String) (r:V->List V->Hp->VK->Prop) (to:TE):TE:=fun σ H Q=>to σ H fun x H1=>tyV K T x H1/\r x [] H1 Q
noncomputable def tBM (K:af) (T:String) (r:V->List V->Hp->VK->Prop) (to:TE) (t:TA):TE:=fun σ H Q=>to σ H fun x H1=>tyV K T x H1/\t σ H1 fun xs H2=>r x xs H2 Q
variable {o e:Expr} {es:List Expr} {to:TE} {t:TA} {name:Str} {apos oz:Pos} {T id:String} {r:V->List V->Hp->VK->Prop}
theorem zln (pa:PlainAttrs T) (slot:Slot T name id) (EG:typeOf #[Tf]=pure (.type "method_descriptor")) (hm:MtR X id r) (ho:PE X o to)
  (uM:attributeBase o name X.env #[Wn]=eval o X.env:=by rfl) (uN:(apos.endLine == oz.line)=true:=by rfl):PE X (.Call #[UG] [] [] oz) (zpS X.K T r to):=by
 intro mq s σ H Q I h;refine wpAny_Call_method0_late uM uN (thn #[Vy] fun v s1 ⟨x,H1,I1,r1,ty,q1⟩=>?_);obtain⟨h1,h2⟩:=zlm I1 r1 ty;exact⟨T,id,pa,slot,EG,h1,h2,iT rfl (PySem.evalArgs_none (hm mq s1 σ H1 x [] v [] Q I1 r1 .nil q1))⟩
theorem zcZ (pa:PlainAttrs T) (slot:Slot T name id) (EG:typeOf #[Tf]=pure (.type "method_descriptor")) (hm:MtR X id r) (ho:PE X o to) (ha:PA X (e :: es) t)
  (uM:attributeBase o name X.env #[Wn]=eval o X.env:=by rfl)
  (rJ:((backTo oz #[Sw]).all (fun x=>!x.1) && (backToKw oz (keywordEach [] X.env)).all (fun x=>x.1.isSome)
   && decide ((e :: es).length+([]:List Keyword).length+(if ([]:List Keyword).isEmpty then 0 else 1) < 30))=true:=by rfl)
  (uN:(apos.endLine == oz.line)=true:=by rfl) (hs:starEach (e :: es) X.env=#[Do] :: starEach es X.env:=by rfl) (vS:#[Tp].any (·.1)=false:=by rfl) :
  PE X (.Call #[UG] (e :: es) [] oz) (tBM X.K T r to t):=by
 intro mq s σ H Q I h;refine wpAny_Call_method_late uM rJ uN rfl (thn #[Vy] fun v s1 ⟨x,H1,I1,r1,ty,q1⟩=>?_);obtain⟨h1,h2⟩:=zlm I1 r1 ty;refine⟨T,id,pa,slot,EG,h1,h2,?_⟩;have hA:=ha oz mq s1 σ H1 _ I1 q1;rw [hs] at hA |-;refine iT (by show (false || #[Tp].any (·.1))=false; rw [vS] <;> rfl) (jr ?_);exact thn hA fun us s2 ⟨vs,H2,I2,r2,q2⟩=>hm mq s2 σ H2 x vs v us Q I2 r1 r2 q2
end
noncomputable def MtM (X:Cx) (id:String) (r:V->List V->Hp->VK->Prop):Prop :=
 ∀ (mq:List (Addr×Obj)) (s:Shared) (σ:St) (H:Hp) (x:V) (xs:List V) (v:Value) (us:List Value) (Q:VK),Inv X mq σ H s->RelV x v->zH xs us->r x xs H Q ->
  wpAny #[mt] X.A (call #[Tf] (v :: us)) #[Op] X.xe s
theorem zH.one:∀ {x:V} {us:List Value},zH [x] us->∃ u,us = [u]/\RelV x u
 | _,_,.cons r .nil=>⟨_,rfl,r⟩
theorem zH.zero:∀ {us:List Value},zH [] us->us = []
 | _,.nil=>rfl
theorem zH.dropLast (h:zH xs us):zH xs.dropLast us.dropLast:=by
 induction h with
 | nil=>exact .nil
 | cons r t ih =>
  cases t with
  | nil=>exact .nil
  | cons q t'=>exact .cons r ih
theorem zH.eraseIdx:∀ {xs:List V} {us:List Value} (i:Nat),zH xs us->zH (xs.eraseIdx i) (us.eraseIdx i)
 | _,_,_,.nil=>.nil
 | _,_,0,.cons _ t=>t
 | _,_,i+1,.cons r t=>.cons r (zH.eraseIdx i t)
theorem zH.rep {xs:List V} {us:List Value} (h:zH xs us):∀ k:Nat,zH (ak k xs).flatten (ak k us).flatten
 | 0=>.nil
 | k+1=>by
  rw [bo,bo,dB,dB];exact zH.append h (zH.rep h k)
theorem zia {α:Type} (l:List α):l.eraseIdx (l.length - 1)=l.dropLast:=by
 induction l with
 | nil=>rfl
 | cons a r ih =>
  cases r with
  | nil=>rfl
  | cons b r =>
   have e:(a :: b :: r).length - 1=((b :: r).length - 1)+1:=by
    have h1:(a :: b :: r).length=r.length+2:=rfl;have h2:(b :: r).length=r.length+1:=rfl;lia
   rw [e,iH,ih]
   all_goals rfl
theorem zfF {α:Type}:∀ (l:List α) (i:Nat),(l.eraseIdx i).length<=l.length
 | [],_=>ai _
 | _ :: _,0=>eN _
 | _ :: r,i+1=>fQ (zfF r i)
theorem foldl_rep (mC:List Value):∀ (k:Nat) (acc:List Value),
  li #[WU] acc.toArray (ak k mC.toArray)=(acc++(ak k mC).flatten).toArray
 | 0,acc=>by simp
 | k+1,acc=>by
  have e:acc.toArray++mC.toArray=(acc++mC).toArray:=by simp
  have e2:(acc++mC)++(ak k mC).flatten=acc++(ak (k+1) mC).flatten:=by
   rw [bo,dB,cu]
  rw [<- e2,<- foldl_rep mC k (acc++mC),<- e,bo,ge]
section
variable {X:Cx} {mq:List (Addr×Obj)} {σ:St} {H:Hp} {s:Shared} {l b:Addr} {xs ys zs:List V}
theorem Inv.Qw {its':List Value} {n:Nat} {f:Array Value->Array Value} (I:Inv X mq σ H s) (hH:H l=some #[RH])
  (e:s.heap.get? l=some { cls:=.type "list",data:=.seq mC.toArray n }) (hf:f mC.toArray=its'.toArray) (hv:zH ys its') (hz:ys.length<=sizeLine) :
  Inv X mq σ (mz H l #[Vb]) { s with heap:=s.heap.update l (cq f),toks:=t' }:=by
 have q:=kS e f;rw [hf] at q;refine I.write (x:=l) (e:=l) (by rw [hH]; exact trivial) #[KM] (fun b' u hb hu=>(dn s.heap (cq f) (cA hb)).trans hu) ⟨_,q⟩ ?_;exact⟨hz,its',_,hv,q⟩
theorem Inv.QM (I:Inv X mq σ H s) (hv:zH ys mC) (hz:ys.length<=sizeLine) :
  Inv X mq σ (mz H s.heap.objs.size #[Vb]) { s with heap:=s.heap.push { cls:=.type "list",data:=.seq mC.toArray },toks:=t' } :=
 I.laid (fun _ _ q=>ah _ q) (ai _) ⟨hz,mC,0,hv,az _ rfl⟩
theorem Inv.fresh (I:Inv X mq σ H s):H s.heap.objs.size=none:=I.hok.fresh (ai _)
theorem Inv.Ph (I:Inv X mq σ H s) (hH:H l=some #[RH]):xs.length<=sizeLine/\∃ (mC:List Value) (n:Nat),zH xs mC/\xs.length=mC.length/\s.heap.get? l=some { cls:=.type "list",data:=.seq mC.toArray n }:=by
 obtain⟨z,mC,n,r,e⟩:=I.hok l _ hH;exact⟨z,mC,n,r,r.length,e⟩
theorem zgW {n:Nat} (h:n<=sizeLine):dP n=false:=by
 unfold dP;exact decide_eq_false #[O]
end
section
variable {X:Cx}
noncomputable def zmK:V->List V->Hp->VK->Prop:=fun x vs H Q=>∃ l xs y,x = .ref l/\vs = [y]/\H l=some #[RH]/\xs.length < sizeLine/\Q .non (mz H l (.lst (xs++[y])))
theorem zb7:MtM X "list.append" zmK:=by
 intro mq s σ H x vs v us Q I rx rv h;obtain⟨l,xs,y,rfl,rfl,hH,hz,q⟩:=h;cases rx;obtain⟨u,rfl,ru⟩:=rv.one;obtain⟨z,mC,n,r,hl,e⟩:=I.Ph hH;refine d7 j9 ⟨_,e,rfl⟩ jL (jt _ _) (kC l mC.toArray n u (by rw [au]; lia)) ⟨e,?_⟩;refine⟨.non,_,I.Qw (its':=mC++[u]) hH e #[M] (r.append (.cons ru .nil)) ?_,rfl,q⟩;rw [aH,fZ];lia
noncomputable def zmL:V->List V->Hp->VK->Prop:=fun x vs H Q=>∃ l b xs zs,x = .ref l/\vs = [.ref b]/\H l=some #[RH]/\H b=some (.lst zs)/\xs.length+zs.length<=sizeLine/\Q .non (mz H l (.lst (xs++zs)))
theorem zfG:MtM X "list.extend" zmL:=by
 intro mq s σ H x vs v us Q I rx rv h;obtain⟨l,b,xs,zs,rfl,rfl,hH,hB,hz,q⟩:=h;cases rx;obtain⟨u,rfl,ru⟩:=rv.one;cases ru;obtain⟨z,mC,n,r,hl,e⟩:=I.Ph hH;obtain⟨z2,nA,n2,r2,pJ,e2⟩:=I.Ph hB;have hsz:mC.toArray.size+nA.toArray.size<=sizeLine:=by rw [au,au]; lia
 have yk:¬ (!mC.toArray.isEmpty && dP (mC.toArray.size+nA.toArray.size))=true:=by
  rw [zgW hsz,lH];exact aG
 refine d7 F.slot_list_extend ⟨_,e,rfl⟩ F.entry_list_extend (F.args_list_extend_2 _ _)
  (AutoSeq1.list_extend_list_list_0 l mC.toArray n b nA.toArray n2 yk (by rw [au]; lia) #[O]) ⟨e,e2,?_⟩
 refine⟨.non,_,I.Qw (its':=mC++nA) hH e #[M] (r.append r2) ?_,rfl,q⟩;rw [aH];lia
noncomputable def zpT:V->List V->Hp->VK->Prop:=fun x vs H Q=>∃ l xs y,x = .ref l/\vs = []/\H l=some #[RH]/\xs[xs.length - 1]? = some y/\Q y (mz H l (.lst xs.dropLast))
theorem zlo:MtM X "list.pop" zpT:=by
 intro mq s σ H x vs v us Q I rx rv h;obtain⟨l,xs,y,rfl,rfl,hH,hy,q⟩:=h;cases rx;have nh:=rv.zero;subst nh;obtain⟨z,mC,n,r,hl,e⟩:=I.Ph hH;obtain⟨u,hu,ru⟩:=r.get hy;have CB:mC.toArray[mC.toArray.size - 1]? = some u:=by
  show mC.toArray[mC.length - 1]? = some u;rw [<- bG,<- hl];exact hu
 refine d7 F.slot_list_pop ⟨_,e,rfl⟩ kT (F.args_list_pop_1 _) (MeetsSeq.list_pop_last l mC.toArray n u CB (by rw [au]; lia)) ⟨e,?_⟩;refine⟨y,_,I.Qw (its':=mC.dropLast) hH e ?_ r.dropLast ?_,ru,q⟩
 ·show mC.toArray.eraseIdxIfInBounds (mC.toArray.size - 1)=mC.dropLast.toArray;rw [au,f9,zia]
 ·rw [ju];lia
noncomputable def zn7:V->List V->Hp->VK->Prop:=fun x vs H Q=>∃ l xs i k y,x = .ref l/\vs = [.int i]/\H l=some #[RH]/\-(2 ^ 63)<=i/\i < 2 ^ 63/\seqIndex? i xs.length=some k/\xs[k]? = some y/\Q y (mz H l (.lst (xs.eraseIdx k)))
theorem zlp:MtM X "list.pop" zn7:=by
 intro mq s σ H x vs v us Q I rx rv h;obtain⟨l,xs,i,k,y,rfl,rfl,hH,h1,h2,hk,hy,q⟩:=h;cases rx;obtain⟨u,rfl,ru⟩:=rv.one;obtain⟨t,rfl⟩:=ru;obtain⟨z,mC,n,r,hl,e⟩:=I.Ph hH;obtain⟨w,hw,EF⟩:=r.get hy;refine d7 F.slot_list_pop ⟨_,e,rfl⟩ kT (F.args_list_pop_2 _ _)
  (MeetsSeq.list_pop_at l mC.toArray n i t k w (fitsIndex_both h1 h2) (by rw [au,<- hl]; exact hk) (by rw [<- bG]; exact hw) (by rw [au]; lia)) ⟨e,?_⟩
 refine⟨y,_,I.Qw (its':=mC.eraseIdx k) hH e ?_ (r.eraseIdx k) ?_,EF,q⟩
 ·show mC.toArray.eraseIdxIfInBounds k=(mC.eraseIdx k).toArray;rw [f9]
 ·have:=zfF xs k;lia
noncomputable def zpU:R2:=fun x y H Q=>∃ l b xs zs,x = .ref l/\y = .ref b/\H l=some #[RH]/\H b=some (.lst zs)/\xs.length+zs.length<=sizeLine/\∀ p,H p=none->Q (.ref p) (mz H p (.lst (xs++zs)))
theorem zb1:OpR X #[VM] zpU:=by
 intro mq s σ H x y v u Q I rx ry h;obtain⟨l,b,xs,zs,rfl,rfl,hH,hB,hz,q⟩:=h;cases rx;cases ry;obtain⟨z,mC,n,r,hl,e⟩:=I.Ph hH;obtain⟨z2,nA,n2,r2,pJ,e2⟩:=I.Ph hB;refine PySem.P.add_list e e2 ?_ (by rw [au,au]; lia);have ea:mC.toArray++nA.toArray=(mC++nA).toArray:=by simp
 rw [ea];exact⟨.ref _,_,I.QM (t':=s.toks) (r.append r2) (by rw [aH]; lia),rfl,q _ I.fresh⟩
noncomputable def zpV:R2:=fun x y H Q=>∃ l k xs,x = .ref l/\y = .int k/\H l=some #[RH]/\-(2 ^ 63)<=k/\k < 2 ^ 63/\xs.length*k.toNat<=sizeLine /\
 ∀ p,H p=none->Q (.ref p) (mz H p (.lst (ak k.toNat xs).flatten))
theorem len_rep {α:Type} (xs:List α) (k:Nat):(ak k xs).flatten.length=k*xs.length:=by
 induction k with
 | zero=>simp
 | succ k ih=>rw [bo,dB,aH,ih,Nat.succ_mul,Nat.add_comm]
theorem zeB:OpR X (binaryOp .Mult) zpV:=by
 intro mq s σ H x y v u Q I rx ry h;obtain⟨l,k,xs,rfl,rfl,hH,h1,h2,hz,q⟩:=h;cases rx;obtain⟨t,rfl⟩:=ry;obtain⟨z,mC,n,r,hl,e⟩:=I.Ph hH;have mS:mC.toArray.size*k.toNat<=sizeLine:=by rw [au,<- hl]; exact hz
 have Hn:¬ mC.toArray.size*k.toNat > (2 ^ 63 - 1) / 8:=by
  have:(sizeLine:Nat)<=(2 ^ 63 - 1) / 8:=by decide
  lia
 have AW:¬ (!Builtin.List.listFitsIndex k)=true:=by
  rw [fitsIndex_both h1 h2];exact aG
 have yk:¬ dP (mC.toArray.size*k.toNat)=true:=by
  rw [zgW mS];exact aG
 have Ho:li #[WU] #[] (ak (if mC.toArray.isEmpty=true then 0 else k.toNat) mC.toArray)=(ak k.toNat mC).flatten.toArray:=by
  have f0:∀ m:Nat,li #[WU] #[] (ak m mC.toArray)=(ak m mC).flatten.toArray:=fun m=>by
   have:=foldl_rep mC m [];rw [gf] at this;exact this
  rw [f0];cases mC with
  | nil=>simp
  | cons a r'=>rw [if_neg #[M]]
 refine wpAny_binaryOp_repeat_ref (T:="list") (U:="int") #[D] ⟨_,e,rfl⟩ (fun s'=>lh s' k t) noFill_list_mul F.fills_int_mul F.slot_int_rmul repeat_list F.slot_int_index.lookup
  (d7 F.slot_int_rmul (lh s k t) F.entry_int_rmul (F.args_int_rmul_2 _ _) (int___rmul___int_list k t l mC.toArray n)
   ⟨e,rfl,⟨_,e,rfl⟩,d7 F.slot_list_mul ⟨_,e,rfl⟩ F.entry_list_mul (F.args_list_mul_2 _ _) (AutoListH.list___mul___list_int_3 l mC.toArray n k t AW Hn yk) ⟨e,?_⟩⟩)
 rw [Ho];exact⟨.ref _,_,I.QM (t':=s.toks) (r.rep k.toNat) (by rw [len_rep,Nat.mul_comm]; exact hz),rfl,q _ I.fresh⟩
end
end L2
namespace Att
open PySem PySem.W PySem.Calls PyProof.Rows
theorem zd9 {P:Params} {h:Heap}:∀ (ns:List Int) (vs:List Value),WellAll P h vs (ns.map WData.int)->IntsAre vs ns:=by
 intro ns;induction ns with
 | nil =>
  intro vs w;rw [j7] at w;cases w;exact .nil
 | cons n ns ih =>
  intro vs w;rw [bc] at w;cases w with
  | cons a b =>
   cases a;exact .cons _ _ (ih _ b)
theorem zjR {l:OpenLaw} {n:Nat} (hn:l.most=some n) {P:Params} {h:Heap} {args:List WData} {vals:List Value}
  (AX:l.row.toRowW.claim.pre args=true) (EH:WellAll P h vals args) :
  ∃ a vs ns,vals = [aL a]/\args = [WData.list (ns.map WData.int)]/\h.get? a=some { cls:=.type "list",data:=.seq vs.toArray }/\IntsAre vs ns/\ns.length<=n:=by
 have hsh:WShape.hasAll [] args [.list .int]=true:=(pre_splitW AX).1;have hc:l.pre.holds [] { args:=args }=true:=(pre_splitW AX).2;obtain⟨d,r,rfl,h1,h2⟩:=hasAllW_cons hsh;obtain rfl:=hasAllW_nil h2;obtain⟨xs,rfl,h3⟩:=hasW_list h1;obtain⟨ns,rfl⟩:=items_int h3;have mS:ns.length<=n:=by
  unfold OpenLaw.pre at hc;have h4:(WTm.not (.lt (.lit (.int (n:Int))) (.len (.arg 0)))).holds [] { args:=[.list (ns.map .int)] }=true:=by
   have h4:=(holds_andW hc).1;rw [hn] at h4;exact h4
  have h5:=condW_of h4 (w_not (w_lt w_lit (w_len_list (w_arg rfl))));rw [ae] at h5;refine ir fun q=>?_
  have q':(n:Int) < ((ns.length:Nat):Int):=by lia
  first
   | (rw [decide_eq_true q'] at h5; exact absurd h5 #[D])
   | (simp at h5; lia)
 cases EH with
 | cons w1 w2 =>
  cases w2;cases w1 with
  | list ho qh=>exact⟨_,_,ns,rfl,rfl,ho,zd9 ns _ qh,mS⟩
theorem zjS (l:OpenLaw) (args:List WData):l.row.toRowW.claim.post args #[Tk] args=true :=
 postW_of (r:=l.row.toRowW) (X:=(true == true))
  (show WShape.has [] #[Tk] .bool=true by first | rfl | decide | simp [WShape.has,WShape.arms,WShape.armsAll])
  (show (WTm.eq .res (.lit #[Tk])).value [] { args:=args,res:=some #[Tk],after:=args }=some (.bool (true == true)) from w_eq_bool (w_res rfl) w_lit) rfl
theorem NT {l:OpenLaw} {n:Nat} {q:Program} {loose:List Str} {XP:#[Ww]->Heap->Prop} {YP:World->Heap->Prop} {d:DefRec}
  (hn:l.most=some n) (EI:d.params.defaults = [])
  (call:∀ (w:World) (s₀ s₁:Shared) (mg mb:Str->Option Value) (fa:Addr) (o:Obj) (pm cd doc:Value) (a:Addr) (vs:List Value) (ns:List Int),
   Ground q loose [] XP w s₀ mg mb s₁.heap->YP w s₁.heap ->
   s₁.heap.get? fa=some o->o.data = .func (docDef d.name d.params d.body d.scope pm cd doc)->s₁.heap.CodeRec cd d.name->mg d.name=some (.ref fa) ->
   s₁.heap.get? a=some { cls:=.type "list",data:=.seq vs.toArray }->IntsAre vs ns->ns.length<=n->s₁.gens = #[] ->
   codeAny (model l.prog w) callerA (.call (.ref fa) ⟨[.ref a],[]⟩) (fun r s'=>r = .ok (.ret #[Tk])/\OldK s₁.heap s'.heap/\s'.os=s₁.os/\AllBare s'.gens) s₁) :
  WalkO q loose XP YP l.row.toRowW d [] #[Wu]:=by
 intro w s₀ s₁ mg mb G Y fa o pm cd doc dV kV ho hd t9 hD Hq hg args vals as AX hlay EJ EH yl;obtain rfl:dV = .none:=Dflts.none hD EI;obtain rfl:kV = .none:=Dflts.noKw hD;obtain⟨a,vs,ns,rfl,rfl,CC,hints,mS⟩:=zjR hn AX EH;refine enter_call (eV (call w s₀ s₁ mg mb fa o pm cd doc a vs ns G Y ho (fd_plain hd) t9 Hq CC hints mS hg) fun r s' hq=>?_);obtain⟨rfl,h2,h3,h4⟩:=hq;exact⟨.inl ⟨.bool true,.bool true,[],rfl,fun _=>rfl,.bool true,zjS l _,fun _=>⟨kD,fun _ hm=>(nomatch hm)⟩⟩,h2,h3,h4⟩
end Att
namespace L2
open PySem PySem.Spec PyProof.Rows
variable {CX:CXT} {H H' H1 H2:Hp} {K:af} {N:List Str} {an od:Option Addr} {ct doc mV oc pm:Value} {fd:FuncData} {k:Nat} {mg:Str->Option Value} {ns:List Int} {qual:Str} {sp:Sp} {vs:List Value} {w:World} {xs:List V} {yb:Array #[Tl]}
theorem zfH:∀ {vs:List Value} {ns:List Int},IntsAre vs ns->zH #[wS] vs
 | _,_,.nil=>.nil
 | _,_,.cons n t h=>.cons ⟨t,rfl⟩ (zfH h)
noncomputable def zn8 (H:Hp):Prop:=∀ b,H b=none\/∃ o xs,H b=some (.frz o #[RH])
theorem zlq {P:Program} {mb:Str->Option Value} {fa a:Addr} {x:Str} {s₁:Shared} 
  (KX:K.In s₁.heap) (yc:s₁.heap.Ns mainGlobals mg) (hb:s₁.heap.Ns builtinsNs mb) (hbb:∀ x:Str,x≠"__name__"->mb x=bootBuiltins x) (Hr:s₁.heap.NoLimit) (hg:s₁.gens = #[])
  (ha:s₁.heap.get? a=some { cls:=.type "list",data:=.seq vs.toArray }) (hi:IntsAre vs ns) (hl:ns.length<=sizeLine) (hr:LJ k callerA)
  (F:∀ base:Heap,K.In base->base.Ns mainGlobals mg->Kq P w K mg base CX k fa fd [x] sp) (EK:∀ (s:Shared) (u:Value),BindsTo s fd ⟨[u],[]⟩ [(x,u)])
  (tj:∀ H:Hp,zn8 H->mB K H a #[wS]->sp [.ref a] H (fun v _=>v = .bl true) fun _ _ _=>False)
  (Hs:∀ H e s',CX [] H s₁ (fun _ _ _=>False) e s'->False) :
  codeAny #[Ui] callerA (.call (.ref fa) ⟨[.ref a],[]⟩) (fun r s'=>r = .ok (.ret #[Tk])/\OldK s₁.heap s'.heap/\s'.os=s₁.os/\AllBare s'.gens) s₁:=by
 have rv:=zfH hi;have Ht:=hi.length;have core:∀ H:Hp,zn8 H->mB K H a #[wS]->HOk P w H s₁.heap->(∀ b,H b≠none->b=a)->(H a≠none->K.lookup a=none) ->
   codeAny #[Ui] callerA (.call (.ref fa) ⟨[.ref a],[]⟩) (fun r s'=>r = .ok (.ret #[Tk])/\OldK s₁.heap s'.heap/\s'.os=s₁.os/\AllBare s'.gens) s₁:=by
  intro H hO hS hok hA hK;have wX:∀ {b:Addr} {o:Obj},s₁.heap.get? b=some o->H b=none->#[TK].get? b=some o:=fun e n=>zk1 e n
  have AV:∀ {b:Addr} {o:Obj} {es:Array DictEntry} {ep:Nat},s₁.heap.get? b=some o->o.data = .dict es ep->H b=none:=fun {b o es ep} e d=>by
   cases q:H b with
   | none=>rfl
   | some u =>
    have e':b=a:=hA b (by rw [q]; simp);subst e';rw [ha] at e; cases e;have d':Data.seq vs.toArray _=Data.dict es ep:=d;cases d'
  have Gk:∀ {b:Addr} {m:Str->Option Value},s₁.heap.Ns b m->#[TK].Ns b m:=fun {b m} ⟨o,es,ep,e,d,r⟩=>⟨o,es,ep,wX e (AV e d),d,r⟩
  have hKb:K.In #[TK]:=fun b o e=>wX (KX b o e) (by
   cases q:H b with
   | none=>rfl
   | some u =>
    have e':b=a:=hA b (by rw [q]; simp);subst e';rw [hK (by rw [q]; simp)] at e; cases e)
  have hM:Mod K mg #[TK]:=⟨hKb,Gk yc,⟨mb,Gk hb,hbb⟩,let ⟨mc,h1,h2⟩:=Hr; ⟨mc,Gk h1,h2⟩⟩;have e0:PR P w K mg #[TK] callerA [] s₁ H:=⟨rfl,hM,fun b o e=>zmz e,j1 (zjI _ _),trivial,fun b hb=>absurd (show b∈([]:List Addr) from hb) #[M],hok,.of_eq hg⟩;refine eV ((F _ hKb (Gk yc)).run callerA [] s₁ H ⟨[.ref a],[]⟩ [.ref a] [.ref a] _ _ hr e0 (EK s₁ #[Rf]) #[Vh] (tj H hO hS)) fun r s' h=>?_
  cases r with
  | error e=>exact (Hs H e s' h).elim
  | ok fl =>
   cases fl with
   | next=>exact bO h
   | brk=>exact bO h
   | cont=>exact bO h
   | ret u =>
    obtain⟨v,H',os,bare,un,Hu,r',q⟩:=h;have q':v = .bl true:=q;subst q';obtain rfl:u=eB true:=r';refine⟨rfl,OldK.of_keep fun b o e=>?_,os,bare⟩;cases q:H b with
    | none=>exact un.keep b o e q (by intro z; exact absurd (show b∈([]:List Addr) from z) #[M]) #[M]
    | some u =>
     rcases hO b with z | ⟨ob,xs,z⟩
     ·rw [q] at z; cases z
     ·have z2:=un.MS b ob _ z;obtain⟨e1,_⟩:=hok b _ z;obtain⟨e2,_⟩:=Hu b _ z2;rw [e] at e1; cases e1;exact e2
 cases hk:K.lookup a with
 | some o =>
  have e:=KX a o hk;rw [ha] at e;cases e;refine core #[XG] (fun _=>.inl rfl) (.inr ⟨_,vs.toArray,_,hk,rfl,rfl,rfl,by rw [au,Ht]; exact hl,by simpa using rv⟩) (fun b u z=>by have z':(none:Option HO)=some u:=z; cases z') (fun b z=>absurd rfl z) fun z=>absurd rfl z
 | none =>
  refine core (fun b=>if b=a then some (.frz { cls:=.type "list",data:=.seq vs.toArray } (.lst #[wS])) else none) (fun b=>?_) (.inl (.inr ⟨{ cls:=.type "list",data:=.seq vs.toArray },if_pos rfl⟩)) (fun b u z=>?_) (fun b z=>?_) fun _=>hk
  ·by_cases hb:b=a
   ·exact .inr ⟨_,_,if_pos hb⟩
   ·exact .inl (if_neg hb)
  ·by_cases hb:b=a
   ·have z':=(if_pos hb).symm.trans z;cases z';subst hb;exact⟨ha,by rw [ae]; exact hl,vs,_,rv,ha⟩
   ·have z':=(if_neg hb).symm.trans z;cases z'
  ·by_cases hb:b=a
   ·exact hb
   ·exact absurd (if_neg hb) z
theorem zmM {l:iN} {n:Nat} {q:Program} {loose:List Str} {XP:#[Ww]->Heap->Prop} {YP:World->Heap->Prop} {d:DefRec} {K:Params->af} {CX:World->CXT} {sp:World->Sp} {x:Str}
  (hn:l.most=some n) (xf:n<=sizeLine) (EI:d.params.defaults = []) (hr:LJ k callerA)
  (hY:∀ (w:World) (h:Heap),YP w h->#[Sn].In h)
  (F:∀ (w:World) (mg:Str->Option Value) (fa:Addr) (h:Heap),#[Sn].In h->h.Ns mainGlobals mg->mg d.name=some (.ref fa) ->
   ∃ fd:FuncData,(∀ (s:Shared) (u:Value),BindsTo s fd ⟨[u],[]⟩ [(x,u)]) /\
    ∀ base:Heap,#[Sn].In base->base.Ns mainGlobals mg->Kq l.prog w #[Sn] mg base (CX w) k fa fd [x] (sp w))
  (tj:∀ (w:World) (H:Hp) (a:Addr) (ns:List Int),ns.length<=n->zn8 H->mB #[Sn] H a #[wS]->sp w [.ref a] H (fun v _=>v = .bl true) fun _ _ _=>False)
  (Hs:∀ (w:World) (H:Hp) (s:Shared) (e:Value) (s':Shared),CX w [] H s (fun _ _ _=>False) e s'->False) :
  lQ q loose XP YP l.row.toRowW d [] #[Wu]:=by
 refine Att.NT hn EI fun w s₀ s₁ mg mb fa o pm cd doc a vs ns G Y ho hd t9 Hq CC hints mS hg=>?_
 have KX:=hY w _ Y;obtain⟨fd,hb,hF⟩:=F w mg fa _ KX G.T.g Hq;exact zlq KX G.T.g G.T.b G.T.builtins G.T.nolimit hg CC hints (bn mS xf) hr hF hb (fun H hO hS=>tj w H a ns mS hO hS) fun H e s'=>Hs w H s₁ e s'
noncomputable def inClass (s:Stmt) (j:Nat):Stmt:=match s with
 | .ClassDef _ _ _ body _ _ _ _ _ _ _=>body.getD j (.Pass ⟨0,0,0,0⟩)
 | _=>.Pass ⟨0,0,0,0⟩
noncomputable def zbs (s:Stmt):Arguments:=match s with
 | .FunctionDef _ a _ _ _ _ _ _ _ _=>a
 | _=>{ posonlyargs:=[],args:=[],vararg:=none,kwonlyargs:=[],kw_defaults:=[],kwarg:=none,defaults:=[] }
noncomputable def zaO (s:Stmt):List Stmt:=match s with
 | .FunctionDef _ _ b _ _ _ _ _ _ _=>b
 | _=>[]
noncomputable def zi (s:Stmt):Scope:=match s with
 | .FunctionDef _ _ _ _ _ _ sc _ _ _=>sc
 | _=>{ kind:=.function,names:=[],isGenerator:=false,isCoroutine:=false }
abbrev CX0:CXT:=fun _ _ _ _ _ _=>False
abbrev E0:XK:=fun _ _ _=>False
theorem zP {X:Cx}:zcl CX0 X E0:=fun _ _ _ _ _ _ _ h=>h.elim
structure Fun (K:af) (x qual:Str) (st:Stmt) (f:Addr) (fd:FuncData):Prop where
 ex:∃ (oc:Value) (od:Option Addr) (kV doc pm:Value) (an:Option Addr) (mV ct:Value) (yb:Array #[Tl]),
  fd=cj x qual (zbs st) (zaO st) (zi st) .none kV doc pm an mV ct/\K.lookup f=some ⟨oc,od,.func fd,yb⟩/\dM K mV qual=true
 kp:cF K #[R7]=true
section
variable {P:Program} {w:World} {K:af} {mg:Str->Option Value} {base:Heap}
theorem Fun.ok {x:Str} {st:Stmt} {f:Addr} {ps:List Str} (F:Fun K x qual st f fd) (S:Kg N ps (zi st)) (len:∀ vs H Q E,sp vs H Q E->vs.length=ps.length)
  (qg:∀ (mV:Value) (A:Around) (outer:List Env) (s:Shared) (H:Hp) (vs:List V) (Q:VK) (E:XK),LJ k #[Ro]->sp vs H Q E ->
   ∃ t,PSs (zbR CX0 P w K mg base N qual (zi st) f mV A outer s H E).nox (zaO st) t/\t { nx:=fun _ H'=>Q .non H',rt:=Q } #[Sl] H):Kq P w K mg base CX0 (k+1) f fd ps sp:=by
 obtain⟨oc,od,kV,doc,pm,an,mV,ct,yb,rfl,lk,t9⟩:=F.ex;refine znJ lk t9 S len fun A outer s H vs Q E hr tj=>?_
 obtain⟨t,h,q⟩:=qg mV A outer s H vs Q E hr tj;exact⟨t,h.nox,q⟩
theorem Fun.binds {x:Str} {st:Stmt} {f:Addr} {ps:List Str} (F:Fun K x qual st f fd)
  (h:∀ (kV doc pm:Value) (an:Option Addr) (mV ct:Value) (us:List Value),us.length=ps.length->bindArgs #[Q6] ⟨us,[]⟩=pure #[V1]):Binds K fd ps []:=by
 obtain⟨oc,od,kV,doc,pm,an,mV,ct,yb,rfl,lk,t9⟩:=F.ex;exact .all (h kV doc pm an mV ct)
theorem zib {x:Str} {st:Stmt} {f:Addr} {kV:Value} (l:K.lookup f=some ⟨oc,od,.func #[Q6],yb⟩)
  (c:dM K mV qual=true) (k:cF K #[R7]=true):Fun K x qual st f #[Q6]:=⟨⟨oc,od,kV,doc,pm,an,mV,ct,yb,rfl,l,c⟩,k⟩
end
theorem zaP {A B:Prop} (h:B):if false=true then A else B:=by
 rw [if_neg aG];exact h
theorem zaF {A B:Prop} (h:A):if true=true then A else B:=by
 rw [if_pos rfl];exact h
theorem zaY {c A B:Prop} [Decidable c] (h1:c->A) (h2:¬ c->B):if c then A else B:=by
 by_cases h:c
 ·rw [if_pos h];exact h1 h
 ·rw [if_neg h];exact h2 h
noncomputable def zy (H H':Hp):Prop:=∀ b o,H b=some o->H' b=some o
theorem zy.trans (a:zy H H1) (b:zy H1 H2):zy H H2:=fun c o h=>b c o (a c o h)
theorem zy.free (e:zy H H') {l:Addr} (h:H' l=mh):H l=mh:=by
 cases q:H l with
 | none=>rfl
 | some o =>
  rw [e l o q] at h;cases h
theorem zy.seq {a:Addr} (e:zy H H') (h:mB K H a xs):mB K H' a xs:=by
 rcases h with (h | ⟨o,h⟩) | h
 ·exact .inl (.inl (e _ _ h))
 ·exact .inl (.inr ⟨o,e _ _ h⟩)
 ·exact .inr h
end L2
section
namespace L2
open PySem
abbrev Ends.n (D:Ends) (N:St->Hp->Prop):Ends:={ D with nx:=N }
section
variable {r1 r2 r3 r4 r5 r6 r7 r8 r9 r10 r11 r12 r13 r14 r15:TS} {D:Ends} {σ:St} {H:Hp}
theorem zn9 (h:let N2:=r2 D; r1 (D.n N2) σ H):(zax r1 r2) D σ H:=h
theorem zfi (h:let N3:=r3 D; let N2:=r2 (D.n N3); r1 (D.n N2) σ H):(zax r1 (zax r2 r3)) D σ H:=h
theorem zgb (h:let N4:=r4 D; let N3:=r3 (D.n N4); let N2:=r2 (D.n N3); r1 (D.n N2) σ H):(zax r1 (zax r2 (zax r3 r4))) D σ H:=h
theorem zph (h:let N5:=r5 D; let N4:=r4 (D.n N5); let N3:=r3 (D.n N4); let N2:=r2 (D.n N3); r1 (D.n N2) σ H):(zax r1 (zax r2 (zax r3 (zax r4 r5)))) D σ H:=h
theorem zoa (h:let N6:=r6 D; let N5:=r5 (D.n N6); let N4:=r4 (D.n N5); let N3:=r3 (D.n N4); let N2:=r2 (D.n N3); r1 (D.n N2) σ H):(zax r1 (zax r2 (zax r3 (zax r4 (zax r5 r6))))) D σ H:=h
theorem zpi (h:let N7:=r7 D; let N6:=r6 (D.n N7); let N5:=r5 (D.n N6); let N4:=r4 (D.n N5); let N3:=r3 (D.n N4); let N2:=r2 (D.n N3); r1 (D.n N2) σ H):(zax r1 (zax r2 (zax r3 (zax r4 (zax r5 (zax r6 r7)))))) D σ H:=h
theorem zpW (h:let N8:=r8 D; let N7:=r7 (D.n N8); let N6:=r6 (D.n N7); let N5:=r5 (D.n N6); let N4:=r4 (D.n N5); let N3:=r3 (D.n N4); let N2:=r2 (D.n N3); r1 (D.n N2) σ H):(zax r1 (zax r2 (zax r3 (zax r4 (zax r5 (zax r6 (zax r7 r8))))))) D σ H:=h
theorem zpj (h:let N9:=r9 D; let N8:=r8 (D.n N9); let N7:=r7 (D.n N8); let N6:=r6 (D.n N7); let N5:=r5 (D.n N6); let N4:=r4 (D.n N5); let N3:=r3 (D.n N4); let N2:=r2 (D.n N3); r1 (D.n N2) σ H):(zax r1 (zax r2 (zax r3 (zax r4 (zax r5 (zax r6 (zax r7 (zax r8 r9)))))))) D σ H:=h
theorem zaG {X0:Cx} {B:List PySem.Stmt} (h:let X:=X0; ∃ t,PSs X B t/\t D σ H):∃ t,PSs X0 B t/\t D σ H:=h
end
end L2
end
section
namespace L2
open PySem PySem.Spec PyProof.Rows
variable {A:Around} {H:Hp} {J:It} {M:Model} {X:Cx} {env:Env} {mq:List (Addr×Obj)} {qual:Str} {s:Shared} {scope:Scope} {te:TE} {ts:TT} {σ0:St}
noncomputable def zN (cs:List (Str×Addr)):List (Str×NameKind)->List (Str×Addr)->List (Str×Addr)
 | [],acc=>acc
 | (n,k) :: r,acc=>if k == .free then zN cs r ((n,(cs.lookup n).getD 0) :: acc) else zN cs r acc
theorem zb2 (h:∀ y∈scope.names,y.2 = .free->∃ c,env.cells.lookup y.1=some c) :
  closureFor scope env=pure (zN env.cells scope.names []):=by
 have go:∀ (names:List (Str×NameKind)) (acc:List (Str×Addr)),(∀ y∈names,y.2 = .free->∃ c,env.cells.lookup y.1=some c) ->
   (forIn names acc (fun (x:Str×NameKind) (cs:List (Str×Addr))=>(if (x.2 == bY)=true then do
    let a <- cellOf env x.1
    pure (cm ((x.1,a) :: cs)) else pure (cm cs):Sem (ForInStep (List (Str×Addr))))))=(pure (zN env.cells names acc):Sem _):=by
  intro names;induction names with
  | nil=>intro acc _; rfl
  | cons y r ih =>
   intro acc hy;obtain⟨n,k⟩:=y;rw [dz];cases hk:(k == bY) with
   | true =>
    obtain⟨c,hc⟩:=hy (n,k) aA (by simpa using hk);have pG:cellOf env n=pure c:=by
     unfold cellOf;have mQ:env.cells.lookup n=some c:=hc;rw [mQ]
    simp only [hk,if_true,pG];have e:=ih ((n,c) :: acc) fun y CB=>hy y (ar _ CB)
    have mQ:env.cells.lookup n=some c:=hc;simp only [zN,hk,if_true,mQ,iu];exact e
   | false =>
    simp only [hk,aY,if_false];have e:=ih acc fun y CB=>hy y (ar _ CB)
    simp only [zN,hk,aY,if_false];exact e
 have e:=go scope.names [] h;unfold closureFor;show (forIn scope.names [] _ >>= fun cs=>pure cs)=_
 first
  | (rw [e]; rfl)
  | (simp only []; rw [e]; rfl)
  | (have e':=e; simp at e' |-; exact e')
theorem zbt {cs:List (Str×Addr)}:∀ (names:List (Str×NameKind)) (acc:List (Str×Addr)),
  (∀ y∈names,y.2 = .free->∃ c,cs.lookup y.1=some c)->(∀ x c,acc.lookup x=some c->cs.lookup x=some c) ->
  ∀ x c,(zN cs names acc).lookup x=some c->cs.lookup x=some c
 | [],acc,_,h,x,c,e=>h x c e
 | (n,k) :: r,acc,hy,h,x,c,e=>by
  have hr:∀ y∈r,y.2 = .free->∃ c,cs.lookup y.1=some c:=fun y CB=>hy y (ar _ CB)
  unfold zN at e;cases hk:(k == bY) with
  | false =>
   rw [hk] at e;exact zbt r acc hr h x c e
  | true =>
   rw [hk] at e;obtain⟨d,hd⟩:=hy (n,k) aA (by simpa using hk);have AR:cs.lookup n=some d:=hd;refine zbt r _ hr (fun x c e'=>?_) x c e;rw [AR,iu,br] at e';cases hx:(x == n) with
   | true =>
    rw [hx] at e';have:x=n:=by simpa using hx
    subst this;rw [AR];exact e'
   | false =>
    rw [hx] at e';exact h x c e'
theorem zbm {cs:List (Str×Addr)}:∀ (names:List (Str×NameKind)) (acc:List (Str×Addr)) (x:Str),
  ((∃ c,acc.lookup x=some c)\/(x,bY)∈names)->∃ c,(zN cs names acc).lookup x=some c
 | [],acc,x,h=>by
  rcases h with h | h
  ·exact h
  ·cases h
 | (n,k) :: r,acc,x,h=>by
  unfold zN;cases hk:(k == bY) with
  | false =>
   refine zbm r acc x ?_;rcases h with h | h
   ·exact .inl h
   ·rcases av.mp h with h | h
    ·cases h;exact absurd hk #[D]
    ·exact .inr h
  | true =>
   refine zbm r _ x ?_;cases hx:(x == n) with
   | true=>exact .inl ⟨_,by rw [br,hx]⟩
   | false =>
    rcases h with ⟨c,h⟩ | h
    ·exact .inl ⟨c,by rw [br,hx]; exact h⟩
    ·rcases av.mp h with h | h
     ·cases h;simp at hx
     ·exact .inr h
theorem lookup_mem {α:Type}:∀ {l:List (Str×α)} {x:Str} {k:α},l.lookup x=some k->(x,k)∈l
 | [],x,k,h=>by simp at h
 | (n,j) :: r,x,k,h=>by
  rw [br] at h;cases hx:(x == n) with
  | true =>
   rw [hx] at h;have:x=n:=by simpa using hx
   subst this;cases h;exact aA
  | false =>
   rw [hx] at h;exact ar _ (lookup_mem h)
theorem zaW {env:Env}:∀ {names:List (Str×NameKind)} {x:Str},names.lookup x=some .free ->
  (names.map fun (n,k)=>if (k == bY && env.scope.kind == .function && env.kindOf n == some .cell) then (n,cE) else (n,k)).lookup x=some .cell \/
  (names.map fun (n,k)=>if (k == bY && env.scope.kind == .function && env.kindOf n == some .cell) then (n,cE) else (n,k)).lookup x=some .free
 | [],_,h=>by simp at h
 | (n,k) :: r,x,h=>by
  have ih:=@zaW env r x;simp only [bc];cases hx:x == n with
  | true =>
   simp only [br,hx] at h; cases h;by_cases hc:(bY == bY && env.scope.kind == .function && env.kindOf n == some .cell)=true
   ·rw [if_pos hc]; left; simp only [br,hx]
   ·rw [if_neg hc]; right; simp only [br,hx]
  | false =>
   simp only [br,hx] at h; rcases ka ((k == bY && env.scope.kind == .function && env.kindOf n == some .cell)=true) with hc | hc
   ·exact (by rw [if_pos hc]; simp only [br,hx]; exact ih h)
   ·exact (by rw [if_neg hc]; simp only [br,hx]; exact ih h)
theorem zcm {env:Env}:∀ {names:List (Str×NameKind)} {x:Str},
  ((names.map fun (n,k)=>if (k == bY && env.scope.kind == .function && env.kindOf n == some .cell) then (n,cE) else (n,k)).lookup x=some .cell \/
  (names.map fun (n,k)=>if (k == bY && env.scope.kind == .function && env.kindOf n == some .cell) then (n,cE) else (n,k)).lookup x=some .free) ->
  names.lookup x=some .free\/names.lookup x=some .cell
 | [],_,h=>by simp at h
 | (n,k) :: r,x,h=>by
  have ih:=@zcm env r x;simp only [bc] at h;cases hx:x == n with
  | true =>
   rcases ka ((k == bY && env.scope.kind == .function && env.kindOf n == some .cell)=true) with hc | hc
   ·have hk:k = .free:=by
     simp only [bV] at hc; simpa using hc.1.1
    subst hk;exact .inl (by simp only [br,hx])
   ·rw [if_neg hc] at h;simp only [br,hx] at h |-;rcases h with h | h
    ·exact .inr h
    ·exact .inl h
  | false =>
   rcases ka ((k == bY && env.scope.kind == .function && env.kindOf n == some .cell)=true) with hc | hc
   ·rw [if_pos hc] at h;simp only [br,hx] at h |-;exact ih h
   ·rw [if_neg hc] at h;simp only [br,hx] at h |-;exact ih h
theorem zeC:∀ (names:List (Str×NameKind)) (n:Nat) (acc:List (Str×Addr)) (x:Str),(x,cE)∉names->(cellsFrom n names acc).lookup x=acc.lookup x
 | [],_,_,_,_=>rfl
 | (y,k) :: r,n,acc,x,h=>by
  have hr:(x,cE)∉r:=fun z=>h (ar _ z)
  unfold cellsFrom;split
  ·rename_i hk
   have uO:k = .cell:=by simpa using hk
   rw [zeC r _ _ x hr,br];cases hx:(x == y) with
   | true =>
    have:x=y:=by simpa using hx
    subst this;subst uO;exact absurd aA h
   | false=>rfl
  ·exact zeC r _ _ x hr
theorem zdM:∀ (names:List (Str×NameKind)) (n:Nat) (acc:List (Str×Addr)) (x:Str),(x,cE)∈names->∃ c,(cellsFrom n names acc).lookup x=some c/\n<=c
 | (y,k) :: r,n,acc,x,h=>by
  by_cases hr:(x,cE)∈r
  ·unfold cellsFrom;split
   ·obtain⟨c,e,l⟩:=zdM r (n+1) ((y,n) :: acc) x hr;exact⟨c,e,#[O]⟩
   ·exact zdM r n acc x hr
  ·rcases av.mp h with e | e
   ·cases e;unfold cellsFrom;rw [if_pos #[D],zeC r _ _ _ hr,br,beq_self_eq_true];exact⟨n,rfl,ai _⟩
   ·exact absurd e hr
structure CO (h:Heap) (lo:Nat) (old cs:List (Str×Addr)):Prop where
 each:∀ x c,cs.lookup x=some c->(h.IsCell c none/\lo<=c)\/(old.lookup x=some c/\c < lo)
 inj:∀ x y c,cs.lookup x=some c->cs.lookup y=some c->x=y
theorem ziT {lo:Nat} {old:List (Str×Addr)}:∀ (names:List (Str×NameKind)) (h:Heap) (acc:List (Str×Addr)),CO h lo old acc->lo<=h.objs.size->CO (pushCells h names) lo old (cellsFrom h.objs.size names acc)
 | [],_,_,a,_=>a
 | (y,k) :: r,h,acc,a,hl=>by
  unfold pushCells cellsFrom;split
  ·have lt:∀ x c,acc.lookup x=some c->c < h.objs.size:=fun x c e=>(a.each x c e).elim (fun z=>z.1.lt) fun z=>aR z.2 hl
   have key:∀ x c,cP x ((y,h.objs.size) :: acc)=some c->(x=y/\c=h.objs.size)\/acc.lookup x=some c:=fun x c e=>by
    rw [br] at e;cases hx:(x == y) with
    | true =>
     rw [hx] at e;exact .inl ⟨by simpa using hx,(aN e).symm⟩
    | false =>
     rw [hx] at e;exact .inr e
   have:=ziT (lo:=lo) (old:=old) r (h.push { cls:=.type "cell",data:=.cell none }) ((y,h.objs.size) :: acc) ⟨fun x c e=>?_,fun x z c e1 e2=>?_⟩ (by rw [bq]; lia)
   ·rw [bq] at this;exact this
   ·rcases key x c e with ⟨_,rfl⟩ | e
    ·exact .inl ⟨⟨_,az _ rfl,rfl⟩,hl⟩
    ·rcases a.each x c e with z | z
     ·exact .inl ⟨z.1.keeps fun b o e=>ah _ e,z.2⟩
     ·exact .inr z
   ·rcases key x c e1 with ⟨p1,q1⟩ | f1 <;> rcases key z c e2 with ⟨p2,q2⟩ | f2
    ·exact p1.trans p2.symm
    ·exact absurd (lt _ _ f2) (by rw [q1]; exact bX _)
    ·exact absurd (lt _ _ f1) (by rw [q2]; exact bX _)
    ·exact a.inj x z c f1 f2
  ·exact ziT r h acc a hl
theorem zfI {E:Value->Shared->Prop} {globals:Addr} {closure:List (Str×Addr)} {Q:Env->Shared->Prop}
  (h:Q (newEnv scope s.heap.objs.size globals (cellsFrom #[ul] scope.names closure) qual none .none (some env) builtinsNs) { s with heap:=pushCells (s.heap.push { cls:=.type "dict",data:=.dict #[] }) scope.names }) :
  wpAny M A (newFunctionEnv scope globals closure [] qual none .none (some env)) Q E s:=by
 (simp only [newFunctionEnv,kb,if_true])
 (refine aa (wpAny_alloc ?_))
 (refine aa (wpAny_layCells _ (fun name kind cells=>by cases hkc:kind == cE <;> simp [hkc]) _ _ _ _ ?_))
 rw [show ({ s with heap:=s.heap.push { cls:=.type "dict",data:=.dict #[] } }:Shared).heap.objs.size=s.heap.objs.size+1 from bq ..]
 (exact aa (ag (ag h)))
abbrev zM (X:Cx) (N':List Str) (scope:Scope) (s₃:Shared) (H₃:Hp) (ex:List Addr) (mq:List (Addr×Obj)):Cx :=
 { X with N:=N',s₀:=s₃,H₀:=H₃,env:=compEnvC scope (cellsFrom (s₃.heap.objs.size+1) scope.names (zN X.env.cells scope.names [])) s₃.heap.objs.size X.env,outer:=X.stack,stack:=X.stack,ex:=ex,fn:=fun x=>scope.names.lookup x == some .cell,pn:=X.pn++mq,xe:=fun _ _=>False }
noncomputable def zic (ifs:List Expr) (env:Env):Sem Bool :=
 forIn ifs true fun c r=>if r=true then do let ok <- isTrue c env (eval c env); pure (cm ok) else pure (cm r)
noncomputable def zdc (X:Cx) (ifs:List Expr) (t:TT):Prop :=
 ∀ (mq:List (Addr×Obj)) (s:Shared) (σ:St) (H:Hp) (Q:Bool->Hp->Prop),Inv X mq σ H s->t σ H Q->wpAny #[mt] X.A (zic ifs X.env) #[Wr] X.xe s
noncomputable def zob:TT:=fun _ H Q=>Q true H
theorem zak {X:Cx}:zdc X [] zob:=fun _ _ _ H _ I h=>ag ⟨H,I,h⟩
theorem zaZ {X:Cx} {c:Expr} {t:TT} (h:PT X c t):zdc X [c] t:=by
 intro mq s σ H Q I hw;unfold zic;rw [dz];simp only [if_true];exact aa (aa (thn #[VB] fun b s1 q=>ag (ag q)))
structure Ki (X:Cx) (N':List Str) (ix:List #[At]) (scope:Scope):Prop where
 kind:scope.kind = .function
 cells:∀ y∈scope.names,y.2 = .cell->scope.names.lookup y.1=some .cell
 names:∀ y∈scope.names,y.2 = .local->scope.names.lookup y.1=some .local
 free:∀ y∈scope.names,y.2 = .free->X.env.kindOf y.1=some .cell\/X.env.kindOf y.1=some .free
 len:N'.length=ix.length
 cap:∀ j i:Nat,ix[j]? = some (some i)->∃ x,N'[j]? = some x/\X.N[i]? = some x/\scope.names.lookup x=some .free
noncomputable def ziU (D5:Scope) (oN N':List Str) (ix:List #[At]) (scope:Scope):Bool :=
 (scope.kind == .function) && (scope.names.all fun y=>y.2 != .cell || scope.names.lookup y.1 == some .cell) && (scope.names.all fun y=>y.2 != .local || scope.names.lookup y.1 == some .local) &&
 (scope.names.all fun y=>y.2 != .free || (D5.names.lookup y.1 == some .cell || D5.names.lookup y.1 == some .free)) && (N'.length == ix.length) &&
 ((bd ix.length).all fun j=>match ix[j]? with
  | some (some i)=>(match N'[j]? with
   | some x=>oN[i]? == some x && scope.names.lookup x == some .free
   | none=>false)
  | _=>true)
theorem Ki.of {N':List Str} {ix:List #[At]} (D5:Scope) (oN:List Str) (h1:X.env.scope=D5) (h2:X.N=oN) (hb:ziU D5 oN N' ix scope=true):Ki X N' ix scope:=by
 unfold ziU at hb;simp only [bV,cT] at hb;obtain⟨⟨⟨⟨⟨a,b⟩,c⟩,d⟩,e⟩,f⟩:=hb;refine⟨?_,fun y hy hl=>?_,fun y hy hl=>?_,fun y hy hf=>?_,by simpa using e,fun j i hj=>?_⟩
 ·revert a
  cases scope.kind <;> first | (intro _; rfl) | (intro h; exact absurd h #[D])
 ·have:=b y hy;rw [hl] at this;simpa using this
 ·have:=c y hy;rw [hl] at this;simpa using this
 ·have:=d y hy;rw [hf] at this;have e1:X.env.kindOf y.1=D5.names.lookup y.1:=by rw [<- h1]; rfl
  rw [e1];simpa using this
 ·have mW:j < ix.length:=(aj.mp hj).1;have:=f j (bN.mpr mW);rw [hj] at this;cases hN:N'[j]? with
  | none =>
   rw [hN] at this;simp at this
  | some x =>
   rw [hN] at this;refine⟨x,rfl,?_⟩;rw [h2];simpa using this
noncomputable def zbx (ix:List #[At]) (σ:St):St:=ix.map fun o=>match o with
 | none=>none
 | some i=>(σ[i]?).join
theorem Inv.OQ {σ:St} {D:Addr} {o:HO} (I:Inv X mq σ H s) (hn:H D=none) (hs:X.s₀.heap.objs.size<=D) (hL:X.env.locals≠D)
  (hC:∀ x c,X.env.cells.lookup x=some c->c≠D) (hp:∀ p∈X.pn++mq,p.1≠D) (ok:zW X.prog X.w (mz H D o) s.heap D o):Inv X mq σ (mz H D o) s:=by
 have ne:∀ b u,H b=some u->b≠D:=fun b u e=>zj e hn
 refine⟨I.ok,I.os,I.bare,#[RG],I.loc,I.cell,?_,fun x c e=>?_,fun p sW=>?_,fun b u e=>?_,I.len⟩
 ·have:b≠D:=aO (aR (aB e) hs);rw [zg this];exact I.base.free b u e n hx
 ·have:=I.base.MD b xs e;rw [zg (ne b _ this)];exact this
 ·have:=I.base.MS b u xs e;rw [zg (ne b _ this)];exact this
 ·obtain⟨more,q⟩:=I.base.MV b ps e;exact⟨more,by rw [zg (ne b _ q)]; exact q⟩
 ·rw [zg hL];exact I.free
 ·rw [zg (hC x c e)];exact I.KH x c e
 ·obtain⟨a1,a2,a3⟩:=I.pin p sW;exact⟨a1,by rw [zg (hp p sW)]; exact a2,a3⟩
 ·by_cases hb:b=D
  ·subst hb;rw [zb] at e;cases e;exact ok
  ·rw [zg hb] at e;exact #[Vt].Nm (fun c v _ q=>q) (fun c q=>by rw [zg (ne c _ q)]; exact q) fun c xs q=>by rw [zg (ne c _ q)]; exact q
noncomputable def cGo (g:TG) (ts:TT) (te:TE) (σ0:St) (J:It) (Q:VK) (H1:Hp):Prop :=
 ∃ W:Nat->Nat->List V->Hp->Prop,(∃ m,W 0 m [] H1)/\∀ i m ys H,W i m ys H ->
  (J.stop i H/\∀ D,H D=none->Q #[QV] (mz H D #[Vb])) \/
  (J.go i H/\∃ N:List V->Hp->Prop,(∀ rh H',N rh H'->∃ m',m' < m/\W (i+1) m' rh H')/\∀ x H',J.yld i H x H'->g x σ0 H' fun σ2 H2=>ts σ2 H2 fun b H3 =>
   if b=true then te σ2 H3 fun y H4=>ys.length < sizeLine/\N (ys++[y]) H4 else N ys H3)
noncomputable def znK (ix:List #[At]) (wi:TI) (g:TG) (ts:TT) (te:TE):TE:=fun σ H Q=>wi σ H fun J H1=>cGo g ts te #[Ug] J Q H1
theorem zgc {n:Nat} {g:TG} {Q:VK} (Pv:Nat->List V->Hp->Prop) (h0:Pv 0 [] H) (ym:∀ i ys H,i < n->Pv i ys H->J.go i H) (oj:∀ ys H,Pv n ys H->J.stop n H)
  (hs:∀ i x ys H H',i < n->Pv i ys H->J.yld i H x H'->g x σ0 H' fun σ2 H2=>ts σ2 H2 fun b H3=>if b=true then te σ2 H3 fun y H4=>ys.length < sizeLine/\Pv (i+1) (ys++[y]) H4 else Pv (i+1) ys H3)
  (hd:∀ ys H D,Pv n ys H->H D=none->Q #[QV] (mz H D #[Vb])):cGo g ts te σ0 J Q H:=by
 refine⟨fun i m ys H=>m=n - i/\i<=n/\Pv i ys H,#[Tm],?_⟩;rintro i m ys H ⟨rfl,hi,p⟩;by_cases mW:i < n
 ·exact .inr #[Cl]
 ·have e:i=n:=by lia
  subst e;exact .inl ⟨oj ys H p,fun D hD=>hd ys H D p hD⟩
theorem zoc {n:Nat} {g:TG} {tb:TS} {D:Ends} {σ:St} (Pv:Nat->St->Hp->Prop) (h0:Pv 0 σ H) (ym:∀ i σ H,i < n->Pv i σ H->J.go i H) (oj:∀ σ H,Pv n σ H->J.stop n H)
  (hs:∀ i x σ H H',i < n->Pv i σ H->J.yld i H x H'->g x σ H' fun σ2 H2=>tb { D with nx:=Pv (i+1),ct:=Pv (i+1),bk:=D.nx } σ2 H2) (hd:∀ σ H,Pv n σ H->D.nx σ H) :
  ∃ W:Nat->Nat->St->Hp->Prop,(∃ m,W 0 m σ H)/\∀ i m σ H,W i m σ H ->
   (J.stop i H/\D.nx σ H)\/(J.go i H/\∃ N:St->Hp->Prop,(∀ σ' H',N σ' H'->∃ m',m' < m/\W (i+1) m' σ' H')/\∀ x H',J.yld i H x H'->g x σ H' fun σ2 H2=>tb { D with nx:=N,ct:=N,bk:=D.nx } σ2 H2):=by
 refine⟨fun i m σ H=>m=n - i/\i<=n/\Pv i σ H,#[Tm],?_⟩;rintro i m σ H ⟨rfl,hi,p⟩;by_cases mW:i < n
 ·exact .inr ⟨ym i σ H mW p,Pv (i+1),fun σ' H' p'=>⟨n - (i+1),#[O],rfl,mW,p'⟩,fun x H' y=>hs i x σ H H' mW p y⟩
 ·have e:i=n:=by lia
  subst e;exact .inl ⟨oj σ H p,hd σ H p⟩
end L2
end
section
namespace L2
open PySem
variable {H:Hp} {J:It} {te:TE} {ts:TT} {σ0:St}
abbrev Lp (J:It) (g:TG) (tb:TS) (D:Ends) (σ:St) (H:Hp):Prop:=∃ W:Nat->Nat->St->Hp->Prop,(∃ m,W 0 m σ H)/\∀ i m σ H,W i m σ H->(J.stop i H/\D.nx σ H)\/(J.go i H/\∃ N:St->Hp->Prop,(∀ σ' H',N σ' H'->∃ m',m' < m/\W (i+1) m' σ' H')/\∀ x H',J.yld i H x H'->g x σ H' fun σ2 H2=>tb { D with nx:=N,ct:=N,bk:=D.nx } σ2 H2)
abbrev Ends.l (D:Ends) (Pv:Nat->St->Hp->Prop) (i:Nat):Ends:={ D with nx:=Pv (i+1),ct:=Pv (i+1),bk:=D.nx }
section
variable {g:TG} {tb:TS} {D:Ends} {σ:St} {H:Hp} (Pv:Nat->St->Hp->Prop) {n:Nat} {K:af} {a:Addr} {xs:List V}
theorem zgd (h0:Pv 0 σ H) (ym:∀ i σ H,i < n->Pv i σ H->J.go i H) (oj:∀ σ H,Pv n σ H->J.stop n H) (hs:let N:=D.l Pv; let T:=tb; ∀ i x σ H H',i < n->Pv i σ H->J.yld i H x H'->g x σ H' (T (N i))) (hd:∀ σ H,Pv n σ H->D.nx σ H):Lp J g tb D σ H:=zoc Pv h0 ym oj hs hd
theorem zba (h0:Pv 0 σ H) (hl:∀ i σ H,i<=xs.length->Pv i σ H->mB K H a xs) (hs:let N:=D.l Pv; let T:=tb; ∀ i x σ H,xs[i]? = some x->Pv i σ H->g x σ H (T (N i))) (hd:∀ σ H,Pv xs.length σ H->D.nx σ H):Lp #[W5] g tb D σ H:=zk6 Pv h0 hl hs hd
theorem zlr (h0:Pv 0 σ H) (hl:∀ i σ H,i<=xs.length->Pv i σ H->mK K H a xs) (hs:let N:=D.l Pv; let T:=tb; ∀ i x σ H,xs[i]? = some x->Pv i σ H->g x σ H (T (N i))) (hd:∀ σ H,Pv xs.length σ H->D.nx σ H):Lp (Itt K a) g tb D σ H:=zmA Pv h0 hl hs hd
theorem zbI {lo:Int} (h0:Pv 0 σ H) (hs:let N:=D.l Pv; let T:=tb; ∀ i σ H,i < n->Pv i σ H->g (.int (lo+i)) σ H (T (N i))) (hd:∀ σ H,Pv n σ H->D.nx σ H):Lp (Itr lo n) g tb D σ H:=zjM Pv h0 hs hd
end
theorem z6 {n:Nat} {g:TG} {Q:VK} (Pv:Nat->List V->Hp->Prop) (h0:Pv 0 [] H) (ym:∀ i ys H,i < n->Pv i ys H->J.go i H) (oj:∀ ys H,Pv n ys H->J.stop n H)
  (hs:let S:=σ0; let T:=ts; let E:=te; ∀ i x ys H H',i < n->Pv i ys H->J.yld i H x H'->g x S H' fun σ2 H2=>T σ2 H2 fun b H3=>if b=true then E σ2 H3 fun y H4=>ys.length < sizeLine/\Pv (i+1) (ys++[y]) H4 else Pv (i+1) ys H3)
  (hd:∀ ys H D,Pv n ys H->H D=none->Q #[QV] (mz H D #[Vb])):cGo g ts te σ0 J Q H:=zgc Pv h0 ym oj hs hd
end L2
end
section
namespace L2
theorem mr {α β:Type} {a:β} {f:α->β} {B:α->Prop} {v:α} (h:a=f v) (hb:B v):∃ v,a=f v/\B v:=⟨v,h,hb⟩
theorem mJ {α β γ δ:Type} {a:γ} {b:δ} {f:α->γ} {g:β->δ} {B:α->β->Prop} {v:α} {w:β} (h:a=f v) (h':b=g w) (hb:B v w):∃ v w,a=f v/\b=g w/\B v w:=⟨v,w,h,h',hb⟩
theorem ex3 {A0 A1 A2:Type} {P:A0->A1->A2->Prop} (x0:A0) (x1:A1) (x2:A2) (h:P x0 x1 x2):∃ x0 x1 x2,P x0 x1 x2:=⟨x0,x1,x2,h⟩
theorem ex4 {A0 A1 A2 A3:Type} {P:A0->A1->A2->A3->Prop} (x0:A0) (x1:A1) (x2:A2) (x3:A3) (h:P x0 x1 x2 x3):∃ x0 x1 x2 x3,P x0 x1 x2 x3:=⟨x0,x1,x2,x3,h⟩
theorem ex5 {A0 A1 A2 A3 A4:Type} {P:A0->A1->A2->A3->A4->Prop} (x0:A0) (x1:A1) (x2:A2) (x3:A3) (x4:A4) (h:P x0 x1 x2 x3 x4):∃ x0 x1 x2 x3 x4,P x0 x1 x2 x3 x4:=⟨x0,x1,x2,x3,x4,h⟩
theorem ex6 {A0 A1 A2 A3 A4 A5:Type} {P:A0->A1->A2->A3->A4->A5->Prop} (x0:A0) (x1:A1) (x2:A2) (x3:A3) (x4:A4) (x5:A5) (h:P x0 x1 x2 x3 x4 x5):∃ x0 x1 x2 x3 x4 x5,P x0 x1 x2 x3 x4 x5:=⟨x0,x1,x2,x3,x4,x5,h⟩
theorem ex7 {A0 A1 A2 A3 A4 A5 A6:Type} {P:A0->A1->A2->A3->A4->A5->A6->Prop} (x0:A0) (x1:A1) (x2:A2) (x3:A3) (x4:A4) (x5:A5) (x6:A6) (h:P x0 x1 x2 x3 x4 x5 x6):∃ x0 x1 x2 x3 x4 x5 x6,P x0 x1 x2 x3 x4 x5 x6:=⟨x0,x1,x2,x3,x4,x5,x6,h⟩
theorem ex8 {A0 A1 A2 A3 A4 A5 A6 A7:Type} {P:A0->A1->A2->A3->A4->A5->A6->A7->Prop} (x0:A0) (x1:A1) (x2:A2) (x3:A3) (x4:A4) (x5:A5) (x6:A6) (x7:A7) (h:P x0 x1 x2 x3 x4 x5 x6 x7):∃ x0 x1 x2 x3 x4 x5 x6 x7,P x0 x1 x2 x3 x4 x5 x6 x7:=⟨x0,x1,x2,x3,x4,x5,x6,x7,h⟩
theorem ex9 {A0 A1 A2 A3 A4 A5 A6 A7 A8:Type} {P:A0->A1->A2->A3->A4->A5->A6->A7->A8->Prop} (x0:A0) (x1:A1) (x2:A2) (x3:A3) (x4:A4) (x5:A5) (x6:A6) (x7:A7) (x8:A8) (h:P x0 x1 x2 x3 x4 x5 x6 x7 x8):∃ x0 x1 x2 x3 x4 x5 x6 x7 x8,P x0 x1 x2 x3 x4 x5 x6 x7 x8:=⟨x0,x1,x2,x3,x4,x5,x6,x7,x8,h⟩
theorem zpX {A0 A1 A2 A3 A4 A5 A6 A7 A8 A9:Type} {P:A0->A1->A2->A3->A4->A5->A6->A7->A8->A9->Prop} (x0:A0) (x1:A1) (x2:A2) (x3:A3) (x4:A4) (x5:A5) (x6:A6) (x7:A7) (x8:A8) (x9:A9) (h:P x0 x1 x2 x3 x4 x5 x6 x7 x8 x9):∃ x0 x1 x2 x3 x4 x5 x6 x7 x8 x9,P x0 x1 x2 x3 x4 x5 x6 x7 x8 x9:=⟨x0,x1,x2,x3,x4,x5,x6,x7,x8,x9,h⟩
theorem zpk {A0 A1 A2 A3 A4 A5 A6 A7 A8 A9 BZ:Type} {P:A0->A1->A2->A3->A4->A5->A6->A7->A8->A9->BZ->Prop} (x0:A0) (x1:A1) (x2:A2) (x3:A3) (x4:A4) (x5:A5) (x6:A6) (x7:A7) (x8:A8) (x9:A9) (wY:BZ) (h:P x0 x1 x2 x3 x4 x5 x6 x7 x8 x9 wY):∃ x0 x1 x2 x3 x4 x5 x6 x7 x8 x9 wY,P x0 x1 x2 x3 x4 x5 x6 x7 x8 x9 wY:=⟨x0,x1,x2,x3,x4,x5,x6,x7,x8,x9,wY,h⟩
theorem zpY {A0 A1 A2 A3 A4 A5 A6 A7 A8 A9 BZ EM EN:Type} {P:A0->A1->A2->A3->A4->A5->A6->A7->A8->A9->BZ->EM->EN->Prop} (x0:A0) (x1:A1) (x2:A2) (x3:A3) (x4:A4) (x5:A5) (x6:A6) (x7:A7) (x8:A8) (x9:A9) (wY:BZ) (AY:EM) (AZ:EN) (h:P x0 x1 x2 x3 x4 x5 x6 x7 x8 x9 wY AY AZ):∃ x0 x1 x2 x3 x4 x5 x6 x7 x8 x9 wY AY AZ,P x0 x1 x2 x3 x4 x5 x6 x7 x8 x9 wY AY AZ:=⟨x0,x1,x2,x3,x4,x5,x6,x7,x8,x9,wY,AY,AZ,h⟩
theorem zmN {A0 A1 A2 A3 A4 A5 A6 A7 A8 A9 BZ EM EN A13:Type} {P:A0->A1->A2->A3->A4->A5->A6->A7->A8->A9->BZ->EM->EN->A13->Prop} (x0:A0) (x1:A1) (x2:A2) (x3:A3) (x4:A4) (x5:A5) (x6:A6) (x7:A7) (x8:A8) (x9:A9) (wY:BZ) (AY:EM) (AZ:EN) (Gm:A13) (h:P x0 x1 x2 x3 x4 x5 x6 x7 x8 x9 wY AY AZ Gm):∃ x0 x1 x2 x3 x4 x5 x6 x7 x8 x9 wY AY AZ Gm,P x0 x1 x2 x3 x4 x5 x6 x7 x8 x9 wY AY AZ Gm:=⟨x0,x1,x2,x3,x4,x5,x6,x7,x8,x9,wY,AY,AZ,Gm,h⟩
end L2
end
section
namespace L2
open PySem PySem.Spec PyProof.Rows
variable {A:Around} {H H' H2:Hp} {J:It} {K:af} {R:Result->Shared->Prop} {X:Cx} {ch fp:List Addr} {elt i1 iter tg:Expr} {env:Env} {f1:List Expr} {h:Heap} {it:Addr} {js:List Nat} {k t':Nat} {mC:List Value} {mq oS:List (Addr×Obj)} {pos:Pos} {prog:Program} {s s' s2:Shared} {scope:Scope} {te:TE} {tn:Nat->Heap->Prop} {w:World} {wi:TI} {ys:List V}
abbrev TM:=List V->St->Hp->(List V->Hp->Prop)->Prop
abbrev zea (mC:List Value) (nn:Nat):Obj:={ cls:=.type "list",data:=.seq mC.toArray nn }
structure AccAt (Y:Cx) (mq:List (Addr×Obj)) (H:Hp) (s:Shared) (D:Addr) (ys:List V) (mC:List Value) (nn:Nat):Prop where
 fp:zbA Y mq H D
 here:s.heap.get? D=some (zea mC nn)
 vals:zH ys mC
 len:ys.length<=sizeLine
noncomputable def zcE (js:List Nat) (σ:St):Prop:=∀ j∈js,∀ v,σ[j]?≠some #[UW]
noncomputable def Kp (js:List Nat) (σ σ2:St):Prop:=σ2.length=σ.length/\∀ j,j∉js->σ2[j]? = σ[j]?
theorem Kp.refl {σ:St}:Kp js σ σ:=#[Vw]
theorem Kp.set {σ σ2:St} {i:Nat} {v:Option V} (hi:i∈js) (h:Kp js σ σ2):Kp js σ (σ2.set i v):=by
 refine⟨by rw [iM]; exact h.1,fun j hj=>?_⟩;rw [dF (fun z=>hj (by rw [<- z]; exact hi))];exact h.2 j hj
noncomputable def GS (js:List Nat) (g:TG):Prop:=∀ (σ σ1:St) (x:V) (H:Hp) (Q:St->Hp->Prop),Kp js σ σ1->g x σ1 H Q->g x σ1 H fun σ2 H2=>Kp js σ σ2/\Q σ2 H2
noncomputable def GSs (js:List Nat) (g:TGs):Prop:=∀ (σ σ1:St) (xs:List V) (H:Hp) (Q:St->Hp->Prop),Kp js σ σ1->g xs σ1 H Q->g xs σ1 H fun σ2 H2=>Kp js σ σ2/\Q σ2 H2
theorem ziV {i:Nat} (hi:i∈js):GS js (zaD i):=fun σ σ1 x H Q hw h=>⟨hw.set hi,h⟩
theorem ziW:GSs js zjK:=fun σ σ1 xs H Q hw h=>⟨h.1,hw,h.2⟩
theorem zeD {i:Nat} {u:TGs} (hi:i∈js) (h2:GSs js u):GSs js (zcY (zaD i) u):=fun σ σ1 xs H Q hw h=>by
 obtain⟨v,r,e,h⟩:=h;exact⟨v,r,e,h2 σ _ r H Q (hw.set hi) h⟩
theorem zls {n:Nat} {t:TGs} (h:GSs js t):GS js (zhW K n t):=fun σ σ1 x H Q hw hg=>by
 obtain⟨a,xs,e,hq,hl,hg⟩:=hg;exact⟨a,xs,e,hq,hl,h σ σ1 xs H Q hw hg⟩
theorem Inv.M6 {σ:St} (I:Inv X mq σ H s) (h:∀ p∈oS,p∈mq):Inv X oS σ H s :=
 I.Ml fun p hp=>I.pin p (aq _ (h p hp))
section
variable {Y:Cx} {mq:List (Addr×Obj)} {σ:St} {H:Hp} {s:Shared} {D:Addr} {ys:List V} {mC:List Value} {nn:Nat}
theorem AccAt.pin (a:AccAt Y mq H s D ys mC nn) (I:Inv Y mq σ H s):Inv Y (mq++[#[SH]]) σ H s :=
 I.Ml fun p hp=>by
  rcases (aC.mp hp) with hp | hp
  ·exact I.pin p (aq _ hp)
  ·obtain rfl:p=(D,zea mC nn):=by simpa using hp
   obtain⟨a0,a1,a2,_⟩:=a.fp;exact⟨a.here,a0,a1,a2,fun v z=>by cases z⟩
theorem AccAt.back {σ':St} (a:AccAt Y mq H s D ys mC nn) (I:Inv Y oS σ' H' s') (hm:#[SH]∈oS):AccAt Y mq H' s' D ys mC nn:=by
 have p:=I.pin #[SH] (aq _ hm);exact⟨⟨p.2.1,a.fp.2⟩,p.1,a.vals,a.len⟩
end
noncomputable def PM (Y:Cx) (D:Addr) (js:List Nat) (mk:Sem Fin->Sem Fin) (tm:TM):Prop :=
 ∀ (last:Sem Fin) (mq:List (Addr×Obj)) (s:Shared) (σ:St) (H:Hp) (ys:List V) (mC:List Value) (nn:Nat) (Q:List V->Hp->Prop) (Φ:Fin->Shared->Prop),Inv Y mq σ H s->AccAt Y mq H s D ys mC nn->zcE js σ->tm ys σ H Q ->
  (∀ (s':Shared) (rh:List V) (its':List Value) (CD:Nat) (H':Hp),Inv Y mq σ H' s'->AccAt Y mq H' s' D rh its' CD->Q rh H'->wpAny #[Rg] Y.A last Φ #[Q3] s') ->
  wpAny #[Rg] Y.A (mk last) Φ #[Q3] s
noncomputable def zfJ (elt:Expr) (acc:Value) (env:Env) (last:Sem Fin):Sem Fin:=(eval elt env >>= fun x=>call (.builtin "list.append") [acc,x] >>= fun _=>pure ()) >>= fun _=>last
noncomputable def ziX (e iter:Expr) (d:Nat) (acc:Value) (env:Env) (last:Sem Fin):Sem Fin :=
 eval iter env >>= fun x=>standAt iter.pos >>= fun _=>foldedSetIterable iter env x >>= fun x=>holding [x] (pyIter x) >>= fun itv=>runOwn (.compStart e d itv acc env) env >>= fun _=>last
noncomputable def zlu (te:TE):TM:=fun ys σ H Q=>te σ H fun y H4=>ys.length < sizeLine/\Q (ys++[y]) H4
noncomputable def cIn (g:TG) (ts:TT) (tm:TM) (σ:St) (J:It) (Q:List V->Hp->Prop) (ys:List V) (H1:Hp):Prop :=
 ∃ W:Nat->Nat->List V->Hp->Prop,(∃ m,W 0 m ys H1)/\∀ i m ys H,W i m ys H ->
  (J.stop i H/\Q ys H) \/
  (J.go i H/\∃ N:List V->Hp->Prop,(∀ rh H',N rh H'->∃ m',m' < m/\W (i+1) m' rh H')/\∀ x H',J.yld i H x H'->g x σ H' fun σ2 H2=>ts σ2 H2 fun b H3 =>
   if b=true then tm ys σ2 H3 N else N ys H3)
noncomputable def zlv (wi:TI) (g:TG) (ts:TT) (tm:TM):TM:=fun ys σ H Q=>wi σ H fun J H1=>cIn g ts tm σ J Q ys H1
noncomputable def zid (ix:List #[At]) (wi:TI) (g:TG) (ts:TT) (tm:TM):TE:=fun σ H Q=>wi σ H fun J H1=>cIn g ts tm #[Ug] J (fun ys H'=>∀ D,H' D=none->Q #[QV] #[S8]) [] H1
theorem thx {α:Type} {m:Sem α} {P Q:α->Shared->Prop} {E:Value->Shared->Prop} (hx:X.xe=fun _ _=>False) (h:wpAny #[mt] X.A m P X.xe s) (k:∀ a s',P a s'->Q a s'):wpAny #[mt] X.A m Q E s :=
 bK h k fun _ _ z=>by rw [hx] at z; exact z.elim
theorem zie {Y:Cx} {D:Addr} (hx:Y.xe=fun _ _=>False) (he:PE Y elt te):PM Y D [] (zfJ elt #[QV] Y.env) (zlu te):=by
 intro last mq s σ H ys mC nn Q Φ I a no h k;unfold zfJ;refine aa (aa (thx hx (he (mq++[#[SH]]) s σ H _ (a.pin I) h) fun yv s1 ⟨y,H1,I1,r1,hz,q1⟩=>aa ?_));have a1:=a.back I1 #[W4];have J1:Inv Y mq σ H1 s1:=I1.M6 fun p hp=>aD _ hp
 have Gn:=a1.vals.length;refine d7 j9 ⟨_,a1.here,rfl⟩ jL (jt _ _) (kC D mC.toArray nn yv (by rw [au]; lia)) ⟨a1.here,?_⟩;refine ag ?_;have q:=kS a1.here (·.push yv);have Ba:∀ b o,b≠D->s1.heap.get? b=some o->(s1.heap.update D (cq (·.push yv))).get? b=some o:=fun b o hb e=>(dn s1.heap (cq (·.push yv)) (cA hb)).trans e
 obtain⟨b0,b1,b2,b3,b4,b5⟩:=a1.fp;have Hv:Inv Y mq σ H1 { s1 with heap:=s1.heap.update D (cq (·.push yv)) }:=J1.turned (t':=s1.toks) Ba b0 b1 b3 b4 b5;have e1:mC.toArray.push yv=(mC++[yv]).toArray:=by simp
 rw [e1] at q;refine k _ (ys++[y]) (mC++[yv]) _ H1 Hv ⟨a1.fp,q,a1.vals.append (.cons r1 .nil),?_⟩ q1;rw [aH,fZ];lia
section
variable {Y:Cx} {D:Addr} {js js':List Nat} {elt:Expr} {gens:List Comprehension} {scope:Scope} {pos:Pos} {d:Nat} {tg:Expr} {ifs:List Expr} {p:Pos} {mk:Sem Fin->Sem Fin} {g:TG} {ts:TT} {tm:TM}
noncomputable def zbn (tg:Expr) (ifs:List Expr) (p:Pos) (mk:Sem Fin->Sem Fin) (c:Code) (it:Value) (env:Env):Sem Fin :=
 standAt p >>= fun _=>pyNext it >>= fun r=>match r with
  | none=>pure (.done .next)
  | some v=>letOwnedTupleGo tg it v >>= fun _=>assign tg env v >>= fun _=>zic ifs env >>= fun ok=>if ok=true then mk (again c) else again c
theorem ziY (hc:Y.calm=true) (hx:Y.xe=fun _ _=>False) (xg:GS js g) (pK:∀ j∈js,j∉js') (hg:PG Y tg g) (ht:zdc Y ifs ts) (hm:PM Y D js' mk tm)
  (om:∀ it,compTurn #[wf] d it #[QV] Y.env=zbn tg ifs p mk #[WE] it Y.env)
  {σ:St} {Q:List V->Hp->Prop} {nn:Nat}
  (I2:Inv Y mq σ H2 s2) (a2:AccAt Y mq H2 s2 D ys mC nn) (no:zcE (js++js') σ) (T:Turn Y.prog Y.w Y.K tg J fp it tn) (nF:tn 0 s2.heap) (f2:∀ b∈fp,zbA Y mq H2 b) (fD:∀ b∈fp,b≠D) (q:cIn g ts tm σ J Q ys H2)
  (hR:∀ (s':Shared) (rh:List V) (its':List Value) (CD:Nat) (H':Hp),Inv Y mq σ H' s'->AccAt Y mq H' s' D rh its' CD->Q rh H'->R (.ok .next) s') :
  codeAny #[Rg] Y.A #[Wf] R s2:=by
 obtain⟨W,⟨m0,w0⟩,turn⟩:=q;have xh:∀ {H':Hp} {mC:List Value} {nn:Nat},(∀ b∈fp,H' b=none)->∀ b∈fp,zbA Y (mq++[#[SH]]) H' b:=fun {H' mC nn} hn b hb=>by
  obtain⟨_,a1,a2,a3,a4,a5⟩:=f2 b hb;refine#[Xz];rcases (aC.mp hp) with hp | hp
  ·exact a5 p (aD _ hp)
  ·rcases (aC.mp hp) with hp | hp
   ·exact a5 p (aq _ hp)
   ·obtain rfl:p=(D,zea mC nn):=by simpa using hp
    exact (fD b hb).symm
 refine codeAny_loop rfl (fun n s'=>∃ i ys H' mC nn,Inv Y mq σ H' s'/\tn i s'.heap/\(∀ b∈fp,H' b=none)/\AccAt Y mq H' s' D ys mC nn/\W i n ys H') ?_ m0
  ⟨0,ys,H2,mC,nn,I2,nF,fun b hb=>(f2 b hb).1,a2,w0⟩
 rintro n s5 ⟨i,ys,H5,mC,nn,I5,AS,Cz,a5,w5⟩;show wpAny _ Y.A ((compTurn #[wf] d #[Q7] #[QV] Y.env).onRaise (fun x=>do noteFrame x Y.env; theTreesLotGoes x)) _ _ s5;refine wpAny_noted ?_;rw [om];unfold zbn;have EO:=a5.pin I5
 (refine aa #[WQ])
 rcases turn i n ys H5 w5 with ⟨stop,qn⟩ | ⟨go,N,hN,step⟩
 ·refine bK #[SV] (fun r s6 ⟨hr,I6⟩=>?_) fun _ _ z=>z.elim
  subst hr;exact ag (hR s6 ys mC nn H5 (I6.M6 fun p hp=>aD _ hp) (a5.back I6 #[W4]) qn)
 ·refine bK #[Td] (fun r s6 ⟨u,hr,h6⟩=>?_) fun _ _ z=>z.elim
  subst hr;refine aa (bK h6 (fun _ s7 ⟨x,H7,I7,r7,y7,CF,Hw⟩=>?_) fun _ _ z=>z.elim);have Hx:=I7.pinned (xh Hw) (T.obj _ _ CF);refine aa (thx hx #[Sx] fun _ s8 ⟨σ8,H8,I8,kp,q8⟩=>?_);refine aa (thx hx (ht _ s8 σ8 H8 _ I8 q8) fun ok s9 ⟨H9,I9,q9⟩=>?_);have mD:#[SH]∈(mq++[#[SH]])++zbB fp s7.heap:=aD _ #[W4];have a9:=a5.back I9 mD;have K9:Inv Y #[RV] σ8 H9 s9:=I9.M6 fun p hp=>(aC.mp hp).elim (fun z=>aD _ (aD _ z)) fun z=>aq _ z
  have wk:∀ (j:Nat) v,σ[j]? = some #[UW]->σ8[j]? = some #[UW]:=fun j v e=>by
   have hj:j∉js:=fun z=>no j (aD _ z) v e
   rw [kp.2 j hj];exact e
  have back:∀ {H':Hp} {s':Shared},Inv Y #[RV] σ8 H' s'->Inv Y mq σ H' s'/\tn (i+1) s'.heap/\∀ b∈fp,H' b=none:=fun {H' s'} I'=>by
   refine⟨(I'.M6 fun p hp=>aD _ hp).weak kp.1.symm wk,T.keep _ _ _ CF fun b hb o e=>#[Rv].1,fun b hb=>?_⟩;obtain⟨o,e,d⟩:=T.obj _ _ CF b hb;exact #[Rv].2.1
  cases ok with
  | false =>
   rw [if_neg aG] at q9 |-;obtain⟨m',Bb,w9⟩:=hN _ _ q9;obtain⟨b1,b2,b3⟩:=back K9;exact ag ⟨rfl,m',Bb,i+1,ys,H9,mC,nn,b1,b2,b3,a9,w9⟩
  | true =>
   rw [if_pos rfl] at q9 |-;have Hy:AccAt Y #[RV] H9 s9 D ys mC nn:=by
    obtain⟨b0,b1,b2,b3,b4,b5⟩:=a9.fp;refine⟨⟨b0,b1,b2,b3,b4,fun p hp=>?_⟩,a9.here,a9.vals,a9.len⟩;rcases (aC.mp hp) with hp | hp
    ·exact b5 p (aD _ hp)
    ·rcases (aC.mp hp) with hp | hp
     ·exact b5 p (aq _ hp)
     ·exact fD _ (zdJ hp).1
   have Hz:zcE js' σ8:=fun j hj v e=>by
    have uF:j∉js:=fun z=>pK j z hj
    rw [kp.2 j uF] at e;exact no j (aq _ hj) v e
   refine bK (hm (again _) _ s9 σ8 H9 ys mC nn N (fun fin s'=>match fin with | .done f=>R (.ok f) s' | .again c'=>c'=_/\∃ m,m < n/\_) K9 Hy Hz q9 fun s' rh its' CD H' I' a' n'=>?_) (fun _ _ z=>z) fun _ _ z=>z.elim
   obtain⟨m',Bb,w'⟩:=hN _ _ n';obtain⟨b1,b2,b3⟩:=back I';obtain⟨c0,c1,c2,c3,c4,c5⟩:=a'.fp;refine ag ⟨rfl,m',Bb,i+1,rh,H',its',CD,b1,b2,b3,⟨#[Ud],a'.here,a'.vals,a'.len⟩,w'⟩;rcases (aC.mp hp) with hp | hp
   ·exact c5 p (aD _ hp)
   ·exact c5 p #[Vu]
theorem zgX {it acc:Value} (hd:gens[d]? = some ⟨tg,iter,ifs,0⟩)
  (h0:codeAny #[na] A (.compLoop #[wf] d it acc env) R s)
  (h:wpAny #[na] A (pyIter it) (fun CG s'=>codeAny #[na] A (.compLoop #[wf] d CG acc env) R s') #[Q3] s) :
  codeAny #[na] A (.compStart #[wf] d it acc env) R s:=by
 refine codeAny_of_tree ?_;show wpAny _ _ ((compStart #[wf] d it acc env).onRaise (fun x=>do noteFrame x env; standAt theWindowsPlace)) _ _ s;refine wpAny_notedAt ?_;unfold compStart;have e1:(clausesOf #[wf])[d]? = some ⟨tg,iter,ifs,0⟩:=hd;rw [e1]
 (show wpAny _ _ (ask >>= _) _ _ s)
 (refine aa (fR (wpAny_ite ?_)))
 split
 ·first
   | (exact aa (ag (ag ⟨rfl,h0⟩)))
   | (exact ag ⟨rfl,h0⟩)
 ·first
   | exact aa (cw (aa (cS (aa (bK h #[RW] fun _ _ x=>x.elim)))))
   | (refine aa (cw ?_); show wpAny _ _ (standAt iter.pos >>= _) _ _ s; exact aa (cS (aa (bK h #[RW] fun _ _ x=>x.elim))))
theorem zod (hc:Y.calm=true) (hx:Y.xe=fun _ _=>False) (xg:GS js g) (pK:∀ j∈js,j∉js') (hi:PI Y tg iter wi) (hg:PG Y tg g) (ht:zdc Y ifs ts) (hm:PM Y D js' mk tm) (hd:gens[d]? = some ⟨tg,iter,ifs,0⟩)
  (om:∀ it,compTurn #[wf] d it #[QV] Y.env=zbn tg ifs p mk #[WE] it Y.env)
  (hs:∀ x,foldedSetIterable iter Y.env x=pure x:=by intro _; rfl) :
  PM Y D (js++js') (ziX #[wf] iter d #[QV] Y.env) (zlv wi g ts tm):=by
 intro last mq s σ H ys mC nn Q Φ I a no h k;unfold ziX;refine aa (thx hx (hi (mq++[#[SH]]) s σ H _ (a.pin I) h) fun v s1 h1=>aa #[WQ]);rw [hs v];refine ag (aa (bJ (thx hx h1 fun itv s2 h2=>?_)));obtain⟨it,fp,tn,J,H2,e,I2,T,nF,f2,q⟩:=h2;subst e;have a2:=a.back I2 #[W4];have J2:Inv Y mq σ H2 s2:=I2.M6 fun p hp=>aD _ hp
 have Gp:∀ b∈fp,zbA Y mq H2 b:=fun b hb=>by
  obtain⟨c0,c1,c2,c3,c4,c5⟩:=f2 b hb;refine#[Ud];rcases (aC.mp hp) with hp | hp
  ·exact c5 p (aD _ hp)
  ·exact c5 p #[Vu]
 have fD:∀ b∈fp,b≠D:=fun b hb=>((f2 b hb).2.2.2.2.2 #[SH] (aq _ #[W4])).symm
 have loop:codeAny #[Rg] Y.A #[Wf] (fun r s'=>match r with | .ok f=>wpAny #[Rg] Y.A last Φ #[Q3] s' | .error e=>cameBackBy #[Rg] Y.A Y.env #[Q3] e s') s2 :=
  ziY hc hx xg pK hg ht hm om J2 a2 no T nF Gp fD q fun s' rh its' CD H' I' a' q'=>k s' rh its' CD H' I' a' q'
 exact aa (wpAny_runOwn (zgX hd loop (T.self _ 0 _ _ _ nF loop)))
end
section
variable {X:Cx} {elt tg iter:Expr} {ifs:List Expr} {gs:List Comprehension} {scope:Scope} {pos:Pos} {N':List Str} {ix:List #[At]} {js js':List Nat} {g:TG} {ts:TT} {tm:TM} {mk:Addr->Env->Sem Fin->Sem Fin}
theorem zdV {σ:St} {Q:VK} {E:Value->Shared->Prop} {RR:Value->Addr->Result->Shared->Prop}
  (SC:Ki X N' ix scope) (hc:X.calm=true) (xg:GS js g) (pK:∀ j∈js,j∉js') (Bc:∀ j∈js++js',ix[j]? = some none)
  (hg:∀ s₃ H₃ ex mq,PG #[ld] tg g) (ht:∀ s₃ H₃ ex mq,zdc #[ld] ifs ts) (hm:∀ s₃ H₃ ex mq D,PM #[ld] D js' (mk D #[ld].env) tm)
  (om:∀ it D env,compTurn #[on] 0 it #[QV] env=zbn tg ifs iter.pos (mk D env) #[Tq] it env)
  (I2:Inv X mq σ H2 s2) (T:Turn X.prog X.w X.K tg J fp it tn) (nF:tn 0 s2.heap) (f2:∀ b∈fp,zbA X mq H2 b) (q:cIn g ts tm #[Ug] J (fun ys H'=>∀ D,H' D=none->Q #[QV] #[S8]) [] H2)
  (HC:∀ (D C:Addr) (s':Shared) (ys:List V) (H':Hp) (m:Str->Option Value),Inv X mq σ #[S8] s'->zbA X mq #[S8] C->s'.heap.Ns C m->Q #[QV] #[S8]->RR #[QV] C (.ok .next) s') :
  wpAny #[mt] X.A (newList []) (fun acc s₃=>wpAny #[mt] X.A (newFunctionEnv scope X.env.globals (zN X.env.cells scope.names []) [] X.env.qual none .none (some X.env)) (fun yn s₄ =>
   codeAny #[mt] X.A (.compStart #[on] 0 #[Q7] acc { yn with scope:=relabel scope X.env }) (RR acc yn.locals) s₄) E s₃) E s2:=by
 have yo:∀ y∈scope.names,y.2 = .free->∃ c,X.env.cells.lookup y.1=some c:=fun y hy hf=>I2.ok.has y.1 #[TL]
 have tu:∀ x c,(zN X.env.cells scope.names []).lookup x=some c->X.env.cells.lookup x=some c:=zbt scope.names [] yo (fun x c e=>by simp at e);refine bE (zfI ?_);have I3:Inv X mq σ H2 { s2 with heap:=s2.heap.push { cls:=.type "list",dict:=none,data:=.seq ([]:List Value).toArray } }:=I2.kept (t':=s2.toks) fun b o e=>ah _ e
 have CH:(s2.heap.push { cls:=.type "list",dict:=none,data:=.seq ([]:List Value).toArray }).get? s2.heap.objs.size=some { cls:=.type "list",dict:=none,data:=.seq ([]:List Value).toArray }:=az _ rfl;have yp:tn 0 (s2.heap.push { cls:=.type "list",dict:=none,data:=.seq ([]:List Value).toArray }):=T.keep _ _ _ nF fun b hb o e=>ah _ e
 have yq:(s2.heap.push { cls:=.type "list",dict:=none,data:=.seq ([]:List Value).toArray }).objs.size=s2.heap.objs.size+1:=bq _ _;generalize hh3:s2.heap.push { cls:=.type "list",dict:=none,data:=.seq ([]:List Value).toArray }=h3 at *;have CI:=T.obj _ _ nF;have uP:∀ b∈fp,b < s2.heap.objs.size:=fun b hb=>by obtain⟨o,e,_⟩:=CI b hb; exact aB e
 have stk:∀ b∈frs X.stack,b=X.env.locals\/b∈X.fs:=fun b hb=>av.mp (I2.NY b hb)
 have yr:zbA X mq H2 s2.heap.objs.size:=I2.Nv (ai _) I2.fresh;have qG:∀ b∈s2.heap.objs.size :: fp,zbA X mq H2 b:=fun b hb=>by
  rcases (av.mp hb) with e | hb
  ·rw [e]; exact yr
  ·exact f2 b hb
 have vT:∀ b∈s2.heap.objs.size :: fp,b < h3.objs.size:=fun b hb=>by
  rw [yq];rcases (av.mp hb) with e | hb; · rw [e]; exact eD _
  ·exact cJ (uP b hb)
 have uQ:∀ b∈s2.heap.objs.size :: fp,b∉frs X.stack:=fun b hb z=>by
  obtain⟨_,a1,a2,_⟩:=qG b hb;rcases stk b z with e | e
  ·exact a1 e
  ·exact a2 e
 have hns₁:(pushCells (h3.push { cls:=.type "dict",data:=.dict #[] }) scope.names).Ns h3.objs.size #[XG]:=(mi h3 (.type "dict")).keeps (gg _ _);have old:∀ b o,h3.get? b=some o->(pushCells (h3.push { cls:=.type "dict",data:=.dict #[] }) scope.names).get? b=some o:=fun b o e=>gg _ _ b o (ah _ e)
 have CJ:∀ x c,X.env.cells.lookup x=some c->c < h3.objs.size:=fun x c e=>by
  obtain⟨v,q⟩:=I3.cell x c e;exact q.lt
 have co:CO (pushCells (h3.push { cls:=.type "dict",data:=.dict #[] }) scope.names) #[Go] (zN X.env.cells scope.names []) (cellsFrom #[Go] scope.names (zN X.env.cells scope.names [])):=by
  have:=ziT (lo:=h3.objs.size+1) (old:=zN X.env.cells scope.names []) scope.names (h3.push { cls:=.type "dict",data:=.dict #[] }) (zN X.env.cells scope.names [])
   #[RA] (by rw [bq]; exact ai _)
  rw [bq] at this;exact this
 generalize pushCells (h3.push { cls:=.type "dict",data:=.dict #[] }) scope.names=h₁ at hns₁ old co |-;have CK:∀ {x c},(cellsFrom #[Go] scope.names (zN X.env.cells scope.names [])).lookup x=some c->(h₁.IsCell c none/\h3.objs.size+1<=c)\/X.env.cells.lookup x=some c:=fun {x c} e=>(co.each x c e).elim .inl fun z=>.inr (tu x c z.1)
 have ER:∀ x,scope.names.lookup x=some .free->(cellsFrom #[Go] scope.names (zN X.env.cells scope.names [])).lookup x=(zN X.env.cells scope.names []).lookup x:=fun x hx=>zeC _ _ _ _ fun z=>by
  have:=SC.cells _ z rfl;rw [hx] at this;cases this
 let s3:Shared:={ s2 with heap:=h3 }
 let Y:Cx:=zM X N' scope s3 H2 #[XJ] mq
 have rl:Inv X mq σ H2 s3:=I3;have ES:Y.Ok:=by
  refine#[IN]
  ·have vO:=zcm (env:=X.env) (names:=scope.names) (x:=x) hx;rcases vO with vO | vO
   ·obtain⟨c,e⟩:=zbm (cs:=X.env.cells) scope.names [] x (.inr #[VI]);exact⟨c,(ER x vO).trans e⟩
   ·obtain⟨c,e,_⟩:=zdM scope.names #[Go] (zN X.env.cells scope.names []) x #[VI];exact⟨c,e⟩
  ·obtain⟨c',e',l'⟩:=zdM scope.names #[Go] (zN X.env.cells scope.names []) x (lookup_mem (by have z':(scope.names.lookup x == some cE)=true:=z; simpa using z'));have e2:(cellsFrom #[Go] scope.names (zN X.env.cells scope.names [])).lookup x=some c:=e;rw [e'] at e2;cases e2;exact dC l'
  ·refine⟨aO (vT b hb),fun x c e=>(CK e).elim (fun z y=>?_) fun z=>(qG b hb).2.2.2.2.1 x c z⟩;subst y;exact bX _ (aR (vT _ hb) (dC z.2))
  ·exact bn I2.ok.bsz rl.sz
  ·obtain⟨_,_,_,a3,_⟩:=qG b hb;rcases a3 with z | z
   ·exact I2.ok.PX b o e z
   ·have:=(I2.ok.bs b o e).1;exact absurd (aR (aB this) z) (bX _)
 have zlw:Inv Y [] #[Ug] H2 { s3 with heap:=h₁ }:=by
  refine⟨ES,rfl,I2.bare,Un.kept old,#[V9],fun x c e=>?_,rl.fresh,fun x c e=>(CK e).elim (fun z=>rl.hok.fresh (dC z.2)) fun z=>I2.KH x c z,fun p hp=>?_,rl.hok.kept old,?_⟩
  ·unfold zbx at e2;rw [ao] at e2;cases hj:ix[j]? with
   | none=>rw [hj] at e2; simp at e2
   | some oi =>
    rw [hj] at e2;cases oi with
    | none=>simp at e2
    | some i =>
     obtain⟨y,h1,h2,Bd⟩:=SC.cap j i hj;have Gq:y=x:=by
      have ET:N'[j]? = some x:=e1;rw [h1] at ET;exact aN ET
     subst Gq;have yt:(σ[i]?).join=some v:=by simpa using e2
     have CL:σ[i]? = some #[UW]:=by
      cases hs:σ[i]? with
      | none=>rw [hs] at yt; simp at yt
      | some w=>rw [hs] at yt; simp at yt; rw [yt]
     obtain⟨m,hn,hl⟩:=rl.loc;have hk:=SC.free (y,.free) #[VJ] rfl;have CM:Vis X.env.scope y:=hk.elim (fun z=>.inr (.inl z)) fun z=>.inr (.inr z)
     obtain⟨u,r,l⟩:=hl i y v h2 CL CM;refine⟨u,r,.inr ⟨zaW Bd,?_⟩⟩;obtain⟨c,oh⟩:=zbm (cs:=X.env.cells) scope.names [] y (.inr #[VJ]);refine⟨c,(ER y Bd).trans oh,?_⟩;rcases l with ⟨uO,_⟩ | ⟨_,c',mQ,pG⟩
     ·rcases hk with hk | hk
      ·have CN:X.env.kindOf y=some .cell:=hk;rw [CN] at uO; cases uO
      ·have CN:X.env.kindOf y=some .free:=hk;rw [CN] at uO; cases uO
     ·have:=tu y c oh;rw [mQ] at this;cases this;obtain⟨o,ho,hd⟩:=pG;exact⟨o,old _ _ ho,hd⟩
  ·rcases CK e with z | z
   ·exact⟨_,z.1⟩
   ·obtain⟨v,o,ho,hd⟩:=rl.cell x c z;exact⟨v,o,old _ _ ho,hd⟩
  ·have sW:p∈X.pn++mq:=by
    have:p∈(X.pn++mq)++([]:List (Addr×Obj)):=hp;simpa using this
   obtain⟨a1,a2,a3,a4,a5⟩:=rl.pin p sW;exact⟨old _ _ a1,a2,aO (aB a1),fun z=>(stk _ z).elim a3 a4,a5⟩
  ·unfold zbx;rw [ae];exact SC.len.symm
 have xh:∀ {H':Hp},(∀ b∈s2.heap.objs.size :: fp,H' b=none)->∀ b∈s2.heap.objs.size :: fp,zbA Y [] H' b:=fun {H'} hn b hb=>by
  obtain⟨_,a1,a2,a3,a4,a5⟩:=qG b hb;refine⟨hn b hb,aO (vT b hb),uQ b hb,.inl hb,(ES.exf b hb).2,fun p hp=>?_⟩;have:p∈(X.pn++mq)++([]:List (Addr×Obj)):=hp;exact a5 p (by simpa using this)
 have EU:∀ b∈s2.heap.objs.size :: fp,H2 b=none:=fun b hb=>(qG b hb).1
 have AV:zcE (js++js') #[Ug]:=fun j hj v e=>by
  unfold zbx at e;rw [ao,Bc j hj] at e;simp at e
 have loop:∀ s₅:Shared,s₅ = { s2 with heap:=h₁ } ->
   codeAny #[mt] X.A (.compLoop #[on] 0 #[Q7] #[SO] (compEnvC scope (cellsFrom #[Go] scope.names (zN X.env.cells scope.names [])) h3.objs.size X.env)) (RR #[SO] h3.objs.size) s₅:=by
  rintro s₅ rfl;refine ziY (Y:=Y) (mq:=[]) (σ:=zbx ix σ) (mC:=[]) (nn:=0) hc rfl xg pK (hg s3 H2 _ mq) (ht s3 H2 _ mq) #[VO] (fun it=>om it _ _) zlw ⟨xh EU _ aA,old _ _ CH,.nil,bg _⟩ AV T (T.keep _ _ _ yp fun b hb o e=>old b o e)
   (fun b hb=>xh EU b (ar _ hb)) (fun b hb=>aO (uP b hb)) q fun s6 ys mC nn H5 I6 a6 qn=>?_
  have EV:H5 s2.heap.objs.size=none:=a6.fp.1;have I7:Inv X mq σ H5 s6:=by
   refine rl.Qf (s':=s6) (ch:=s2.heap.objs.size :: fp) I6.os I6.base I6.hok I6.bare fun b hb=>?_
   obtain⟨_,a1,a2,a3,a4,a5⟩:=qG b hb;exact⟨a3,a1,a4,a5⟩
  have I8:Inv X mq σ (mz H5 s2.heap.objs.size #[Vb]) s6:=by
   obtain⟨_,a1,a2,a3,a4,a5⟩:=yr;exact I7.OQ EV I2.sz (cA a1) a4 a5 ⟨a6.len,mC,nn,a6.vals,a6.here⟩
  obtain⟨mm,EW,_⟩:=I6.loc;have HD:h3.objs.size≠s2.heap.objs.size:=by rw [yq]; exact eE _
  refine HC _ _ s6 ys H5 mm I8 (rl.Nv (H':=mz H5 s2.heap.objs.size #[Vb]) (ai _) ?_) EW (qn _ EV);show mz H5 s2.heap.objs.size #[Vb] h3.objs.size=none;rw [zg HD];exact I6.free
 exact zgX rfl (loop _ rfl) (T.self _ 0 _ _ _ (T.keep _ _ _ yp fun b hb o e=>old b o e) (loop _ rfl))
theorem zlx (SC:Ki X N' ix scope) (hc:X.calm=true) (xg:GS js g) (pK:∀ j∈js,j∉js') (Bc:∀ j∈js++js',ix[j]? = some none) (hi:PI X tg iter wi)
  (hg:∀ s₃ H₃ ex mq,PG #[ld] tg g) (ht:∀ s₃ H₃ ex mq,zdc #[ld] ifs ts) (hm:∀ s₃ H₃ ex mq D,PM #[ld] D js' (mk D #[ld].env) tm)
  (om:∀ it D env,compTurn #[on] 0 it #[QV] env=zbn tg ifs iter.pos (mk D env) #[Tq] it env)
  (hs:∀ x,foldedSetIterable iter X.env x=pure x:=by intro _; rfl):PE X #[on] (zid ix wi g ts tm):=by
 intro mq s σ H Q I h;rw [eval_ListComp];have yo:∀ y∈scope.names,y.2 = .free->∃ c,X.env.cells.lookup y.1=some c:=fun y hy hf=>I.ok.has y.1 #[TL]
 refine eX (use:=none) rfl hs (zb2 yo) SC.kind SC.names (thn #[T8] fun v s1 h1=>thn h1 fun itv s2 h2=>?_);obtain⟨it,fp,tn,J,H2,e,I2,T,nF,f2,q⟩:=h2;subst e;refine zdV (RR:=fun acc C=>compPost #[mt] X.A X.xe none #[Op] acc C) SC hc xg pK Bc hg ht hm om I2 T nF f2 q ?_;intro D C s' ys H' m I' EX hm q';refine#[WB];obtain⟨f0,f1,Gp,f3,f4,f5⟩:=EX;exact I'.turned (t':=s'.toks) #[VW] f0 f1 f3 f4 f5
theorem zdW {i:Nat} {x:Str} {pos' qi:Pos} (hN:X.N.Nodup) (Be:X.N[i]? = some x) (hx:Loc X.env.scope x) (SC:Ki X N' ix scope) (hc:X.calm=true) (xg:GS js g) (pK:∀ j∈js,j∉js') (Bc:∀ j∈js++js',ix[j]? = some none) (hi:PI X tg iter wi)
  (hg:∀ s₃ H₃ ex mq,PG #[ld] tg g) (ht:∀ s₃ H₃ ex mq,zdc #[ld] ifs ts) (hm:∀ s₃ H₃ ex mq D,PM #[ld] D js' (mk D #[ld].env) tm)
  (om:∀ it D env,compTurn #[on] 0 it #[QV] env=zbn tg ifs iter.pos (mk D env) #[Tq] it env)
  (EY:swapsWith #[on] #[WP] qi.line X.env=pure true:=by rfl)
  (hs:∀ x,foldedSetIterable iter X.env x=pure x:=by intro _; rfl) (hf:X.fn x=true\/X.env.scope.names.lookup x=some .local:=by first | exact .inl rfl | exact .inr rfl | assumption) :
  PS X (.Assign [.Name x pos'] #[on] qi) (zfg (zid ix wi g ts tm) (zaD i)):=by
 intro mq s σ H D I h;have yo:∀ y∈scope.names,y.2 = .free->∃ c,X.env.cells.lookup y.1=some c:=fun y hy hf=>I.ok.has y.1 #[TL]
 rw [exec_Assign_Name_used _ _ _ _ EY]; refine aa #[WQ];show wpAny _ X.A (do let _ <- comprehension #[on] scope X.env _ (newList []) false (eval iter X.env) (some #[VS])) _ _ s;refine aa (bK (eX (use:=some #[VS]) (Q:=fun _ s'=>SP X mq D .next s') rfl hs (zb2 yo) SC.kind SC.names
  (thn #[T8] fun v s1 h1=>thn h1 fun itv s2 h2=>?_)) (fun _ s' hq=>ag (ag hq)) fun _ _ e=>e)
 obtain⟨it,fp,tn,J,H2,e,I2,T,nF,f2,q⟩:=h2;subst e;refine zdV (Q:=fun x H1=>zaD i x σ H1 D.nx) (RR:=fun acc C=>compPost #[mt] X.A X.xe (some #[VS]) (fun _ s'=>SP X mq D .next s') acc C) SC hc xg pK Bc hg ht hm om I2 T nF f2 q ?_;intro Da C s' ys H' m I' EX hm q';show wpAny _ X.A (assign #[RQ] X.env (.ref Da)) _ _ _;refine wpAny_assign_Name (zfu I' hN Be hx (show RelV (.ref Da) (.ref Da) from rfl) (fun EE I'' ⟨a,oq,ha⟩=>?_) hf);obtain⟨f0,f1,Gp,f3,f4,f5⟩:=EX;have hCa:C≠a:=by
  rcases ha with e | e
  ·rw [e]; exact f1
  ·exact cA (f4 x a e)
 refine⟨m,hm.sameBut oq hCa,fun h₃ hs₃=>⟨_,_,?_,q'⟩⟩;exact I''.turned (t':=EE.toks) (fun b o hb e=>hs₃.extBut b o hb e) f0 f1 f3 f4 f5
end
theorem zoe {t1 t2 i2:Expr} {f2:List Expr} (it:Value) (D:Addr) (env:Env):compTurn (.ListComp elt [⟨t1,i1,f1,0⟩,⟨t2,i2,f2,0⟩] scope pos) 0 it #[QV] env =
  zbn t1 f1 i1.pos (ziX (.ListComp elt [⟨t1,i1,f1,0⟩,⟨t2,i2,f2,0⟩] scope pos) i2 1 #[QV] env) (.compLoop (.ListComp elt [⟨t1,i1,f1,0⟩,⟨t2,i2,f2,0⟩] scope pos) 0 it #[QV] env) it env:=by rfl
theorem zof {t1 t2 i2:Expr} {f2:List Expr} (it:Value) (D:Addr) (env:Env):compTurn (.ListComp elt [⟨t1,i1,f1,0⟩,⟨t2,i2,f2,0⟩] scope pos) 1 it #[QV] env =
  zbn t2 f2 i2.pos (zfJ elt #[QV] env) (.compLoop (.ListComp elt [⟨t1,i1,f1,0⟩,⟨t2,i2,f2,0⟩] scope pos) 1 it #[QV] env) it env:=by rfl
noncomputable def zdd (ix:List #[At]):List Nat:=(bd ix.length).filter fun j=>ix[j]? == some none
theorem zbJ {ix:List #[At]} {i:Nat}:i∈zdd ix↔ix[i]? = some none:=by
 unfold zdd;rw [cL,bN,beq_iff_eq];exact⟨fun h=>h.2,fun h=>⟨(aj.mp h).1,h⟩⟩
noncomputable def GK (ix:List #[At]) (g:TG):Prop:=GS (zdd ix) g
noncomputable def GKs (ix:List #[At]) (g:TGs):Prop:=GSs (zdd ix) g
theorem zay {ix:List #[At]} {i:Nat} (hi:ix[i]? = some none):GK ix (zaD i):=ziV (zbJ.2 hi)
theorem zbC {ix:List #[At]}:GKs ix zjK:=ziW
theorem zaa {ix:List #[At]} {i:Nat} {u:TGs} (hi:ix[i]? = some none) (h2:GKs ix u):GKs ix (zcY (zaD i) u):=zeD (zbJ.2 hi) h2
theorem zcn {ix:List #[At]} {K:af} {n:Nat} {t:TGs} (h:GKs ix t):GK ix (zhW K n t):=zls h
theorem zjT {ix:List #[At]} {g:TG} {u:TGs} (h1:GK ix g) (h2:GKs ix u) (mono:∀ (x:V) (σ:St) (H:Hp) (Q Q':St->Hp->Prop),(∀ σ' H',Q σ' H'->Q' σ' H')->g x σ H Q->g x σ H Q'):GKs ix (zcY g u):=fun σ σ1 xs H Q hw h=>by
 obtain⟨v,r,e,h⟩:=h;refine⟨v,r,e,mono v σ1 H _ _ (fun σ' H' q=>?_) (h1 σ σ1 v H _ hw h)⟩;exact h2 σ σ' r H' Q q.1 q.2
theorem znL {t1:Expr} (it:Value) (D:Addr) (env:Env):compTurn (.ListComp elt [⟨t1,i1,f1,0⟩] scope pos) 0 it #[QV] env =
  zbn t1 f1 i1.pos (zfJ elt #[QV] env) (.compLoop (.ListComp elt [⟨t1,i1,f1,0⟩] scope pos) 0 it #[QV] env) it env:=by rfl
section
variable {X:Cx} {elt tg iter:Expr} {ifs:List Expr} {scope:Scope} {pos:Pos} {N':List Str} {ix:List #[At]} {g:TG} {ts:TT} {te:TE}
theorem zaQ {wi:TI} (SC:Ki X N' ix scope) (hc:X.calm=true) (hk:GK ix g) (hi:PI X tg iter wi)
  (hg:∀ s₃ H₃ ex mq,PG #[ld] tg g) (ht:∀ s₃ H₃ ex mq,zdc #[ld] ifs ts) (he:∀ s₃ H₃ ex mq,PE #[ld] elt te)
  (hs:∀ x,foldedSetIterable iter X.env x=pure x:=by intro _; rfl):PE X (.ListComp elt [⟨tg,iter,ifs,0⟩] scope pos) (znK ix wi g ts te) :=
 zlx (mk:=fun D env=>zfJ elt #[QV] env) (js:=zdd ix) (js':=[]) SC hc hk (fun _ _ h=>nomatch h) (fun j h=>zbJ.1 (by simpa using h)) hi hg ht #[TZ] (fun _ _ _=>znL _ _ _) hs
theorem zaz {wi:TI} {i:Nat} {x:Str} {pos' qi:Pos} (hN:X.N.Nodup) (Be:X.N[i]? = some x) (hx:Loc X.env.scope x) (SC:Ki X N' ix scope) (hc:X.calm=true) (hk:GK ix g) (hi:PI X tg iter wi)
  (hg:∀ s₃ H₃ ex mq,PG #[ld] tg g) (ht:∀ s₃ H₃ ex mq,zdc #[ld] ifs ts) (he:∀ s₃ H₃ ex mq,PE #[ld] elt te)
  (EY:swapsWith (.ListComp elt [⟨tg,iter,ifs,0⟩] scope pos) #[WP] qi.line X.env=pure true:=by rfl)
  (hs:∀ x,foldedSetIterable iter X.env x=pure x:=by intro _; rfl) (hf:X.fn x=true\/X.env.scope.names.lookup x=some .local:=by first | exact .inl rfl | exact .inr rfl | assumption) :
  PS X (.Assign [.Name x pos'] (.ListComp elt [⟨tg,iter,ifs,0⟩] scope pos) qi) (zfg (znK ix wi g ts te) (zaD i)) :=
 zdW (mk:=fun D env=>zfJ elt #[QV] env) (js:=zdd ix) (js':=[]) hN Be hx SC hc hk (fun _ _ h=>nomatch h) (fun j h=>zbJ.1 (by simpa using h)) hi hg ht #[TZ] (fun _ _ _=>znL _ _ _) EY hs hf
end
section
variable {X:Cx} {mq:List (Addr×Obj)} {σ:St} {H:Hp} {s:Shared} {h':Heap}
theorem Inv.Mi (I:Inv X mq σ H s) (k:∀ b o,b∉ch->s.heap.get? b=some o->h'.get? b=some o) (hf:∀ b∈ch,zbA X mq H b)
  (th:∀ b∈ch,∃ o,h'.get? b=some o):Inv X mq σ H { s with heap:=h',toks:=t' }:=by
 have wW:∀ b u,H b=some u->b∉ch:=fun b u e z=>by rw [(hf b z).1] at e; cases e
 refine I.step (g':=s.gens) (d':=s.drawn) (ch:=ch) #[WR] (fun b o _ _ hc e _=>k b o hc e) (fun b o _ _ hc e _=>⟨o.slots,k b o hc e⟩) #[Tv]
  (fun b o hc e=>⟨o,k b o hc e⟩) #[SK] #[Uy] (fun b ps e=>⟨#[],by rw [e]; simp⟩) #[Ve] (fun b u e=>?_) I.bare
 ·obtain⟨_,a1,_,a3,a4,a5⟩:=hf b hb;exact⟨a3,a1,a4,a5⟩
 ·obtain⟨o,es,ep,ho,r⟩:=hm;exact⟨o,es,ep,k _ o (fun z=>(hf _ z).2.1 rfl) ho,r⟩
 ·refine #[Vt].Nm (fun c v hc q=>k c v ?_ q) #[Ul] fun _ _ q=>q
  rcases hc with z | z
  ·rw [z]; exact wW b u e
  ·exact wW c _ z
theorem Inv.Lo {T:Addr} {o:HO} (I:Inv X mq σ H s) (k:∀ b o,b∉ch->s.heap.get? b=some o->h'.get? b=some o) (hf:∀ b∈ch,zbA X mq H b)
  (th:∀ b∈ch,∃ o,h'.get? b=some o) (hT:s.heap.objs.size<=T) (ok:zW X.prog X.w (mz H T o) h' T o):Inv X mq σ (mz H T o) { s with heap:=h',toks:=t' }:=by
 have I1:Inv X mq σ H { s with heap:=h',toks:=t' }:=I.Mi k hf th;have hn:H T=none:=I.hok.fresh hT;obtain⟨_,a1,a2,a3,a4,a5⟩:=I.Nv (H':=H) hT hn;exact I1.OQ hn (bn I.sz hT) (cA a1) a4 a5 ok
end
noncomputable def zog (Sq:Hp->Addr->List V->Prop) (a:Addr):It :=
 ⟨fun i H=>∃ xs x,Sq H a xs/\xs[i]? = some x,fun i H x H'=>∃ T v,H T=none/\x = .ref T/\H'=mz H T (.tup [.int i,v])/\∀ xs,Sq H a xs->xs[i]? = some v,fun i H=>∃ xs,Sq H a xs/\xs.length<=i⟩
theorem zbK {T:Addr} {a b:Value} (e:h.get? T=some { cls:=.type "tuple",data:=.seq #[a,b] }):IsTup h T ([a,b]:List Value).toArray:=⟨_,e,rfl,_,rfl⟩
theorem zbb:2<=sizeLine:=by rw [aS]; decide
theorem zif {P:Program} {es:List Expr} (a it e:Addr) (hei:e≠it):Turn P w K #[SG] (zog (mB K) a) [e,it] e (fun i h=>(∃ old,IsEnum h e it i old)/\h.IsListIter it a i) where
 mem:=by simp
 obj:=fun i h st b hb=>by
  obtain⟨⟨old,he⟩,o,ho,hc,hd⟩:=st;rcases av.mp hb with z | z
  ·subst z;exact⟨_,he,fun v z=>by cases z⟩
  ·have z:b=it:=by simpa using z
   subst z;exact⟨o,ho,fun v z=>by rw [hd] at z; cases z⟩
 keep:=fun i h h' st kk=>⟨st.1.imp fun old he=>kk e #[M] _ he,st.2.at fun o eo=>kk it #[M] o eo⟩
 item:=by
  intro X hP hw hK hc i mq s σ H E I hf st hg;subst hP hw hK;obtain⟨xs,x,hq,hx⟩:=hg;obtain⟨⟨old,he⟩,hit⟩:=st;obtain⟨mC,rv,p,hz⟩:=I.list hq;obtain⟨u,hu,ru⟩:=rv.get hx;have vP:e < s.heap.objs.size:=aB he;have hits:it < s.heap.objs.size:=by obtain⟨o,ho,_⟩:=hit; exact aB ho
  refine wpAny_pyNext_enum_item he hit p.isList (x:=u) (by simpa using hu) hei fun h' uL uc hT hsz kk=>?_
  have k1:∀ b o,b∉[e,it]->s.heap.get? b=some o->h'.get? b=some o:=fun b o hb eo=>kk b o (fun z=>hb (by simp [z])) (fun z=>hb (by simp [z])) eo
  have CP:∀ b∈[e,it],∃ o,h'.get? b=some o:=fun b hb=>by
   rcases av.mp hb with z | z
   ·subst z; exact⟨_,uL⟩
   ·have z:b=it:=by simpa using z
    subst z;obtain⟨o,eo,_⟩:=uc;exact⟨o,eo⟩
  have I1:Inv X mq σ (mz H s.heap.objs.size (.tup [.int i,x])) { s with heap:=h',toks:=s.toks+1 } :=
   I.Lo k1 hf CP (ai _) ⟨zbb,_,.cons ⟨s.toks,rfl⟩ (.cons ru .nil),zbK hT⟩
  refine⟨_,rfl,g8 uL fun yu vU oK=>?_⟩;have fr:∀ b∈[e,it],mz H s.heap.objs.size (.tup [.int i,x]) b=none:=fun b hb=>by
   have mW:b < s.heap.objs.size:=by
    rcases av.mp hb with z | z
    ·subst z; exact vP
    ·have z:b=it:=by simpa using z
     subst z; exact hits
   rw [zg (aO mW)];exact #[W3].1
  have I2:Inv X mq σ (mz H s.heap.objs.size (.tup [.int i,x])) { s with heap:=yu,toks:=s.toks+1 } :=
   Inv.Mi (s:={ s with heap:=h',toks:=s.toks+1 }) (ch:=[e]) (t':=s.toks+1) I1 (fun b o hb eo=>oK.extBut b o (by simpa using hb) eo) (fun b hb=>by
    have z:b=e:=by simpa using hb
    subst z;exact⟨fr b #[M],(hf b #[M]).2⟩) (fun b hb=>by
    have z:b=e:=by simpa using hb
    subst z;exact⟨_,vU⟩)
  refine⟨.ref s.heap.objs.size,_,I2,rfl,⟨_,x,I.fresh,rfl,rfl,fun ys hy=>by rw [I.KG hy hq]; exact hx⟩,⟨⟨_,by simpa using vU⟩,uc.extBut oK.extBut (cA hei)⟩,fr⟩
 done:=by
  intro X hP hw hK hc i mq s σ H E I hf st hg;subst hP hw hK;obtain⟨xs,hq,hx⟩:=hg;obtain⟨⟨old,he⟩,hit⟩:=st;obtain⟨mC,rv,p,hz⟩:=I.list hq;have hl:=rv.length;obtain⟨f0,f1,f2,f3,f4,f5⟩:=hf it #[M];exact wpAny_pyNext_enum_end #[Rq] he hit p.isList (by simp; lia) fun h' eb=>#[ss]
 self:=fun _ _ _ _ _ st h=>by
  obtain⟨⟨old,he⟩,_⟩:=st;exact ft he h
noncomputable def iEn (Sq:Hp->Addr->List V->Prop) (ta:TA):TI:=fun σ H R=>ta σ H fun vs H1=>∃ a xs,vs = [.ref a]/\Sq H1 a xs/\R (zog Sq a) H1
theorem zgY {X:Cx} {es:List Expr} {k:Nat} {rk p pos:Pos} {a:Expr} {ta:TA} (hg:Gl X "enumerate") (hm:X.mg "enumerate" = none) (ha:PA X [a] ta) (hs:starEach [a] X.env = [#[Rh]]:=by rfl) :
  PI X #[S7] (.Call (.Name "enumerate" p) [a] [] pos) (iEn #[WN] ta):=by
 intro mq s σ H R I h;refine Call_ (zbG I hg hm boot_enumerate (bC (thn #[AC] fun us s1 ⟨vs,H1,I1,r1,q1⟩=>?_) hs rfl));obtain⟨l,xs,e,hq,q⟩:=q1;subst e;cases r1 with
 | cons r rr =>
  cases rr;cases r;obtain⟨mC,rv,pl,hz⟩:=I1.list hq;refine call_enumerate_list pl.isList fun h' he hi hsz kk=>?_
  have I2:Inv X mq σ H1 { s1 with heap:=h' }:=I1.kept (t':=s1.toks) kk;refine ft he ?_; refine⟨_,[s1.heap.objs.size+1,s1.heap.objs.size],_,zog #[WN] l,H1,rfl,I2,zif l s1.heap.objs.size (s1.heap.objs.size+1) (eE _),⟨⟨_,he⟩,hi⟩,fun b hb=>?_,q⟩;have hle:s1.heap.objs.size<=b:=by
   rcases av.mp hb with z | z
   ·rw [z]; exact eN _
   ·have z:b=s1.heap.objs.size:=by simpa using z
    rw [z]; exact ai _
  exact I1.Nv hle #[UE]
noncomputable def zjU (tN tO:Hp->Addr->List V->Prop) (a b:Addr):It :=
 ⟨fun i H=>∃ xs ys x y,tN H a xs/\tO H b ys/\xs[i]? = some x/\ys[i]? = some y,
  fun i H x H'=>∃ T u v,H T=none/\x = .ref T/\H'=mz H T (.tup [u,v])/\(∀ xs,tN H a xs->xs[i]? = some u)/\∀ ys,tO H b ys->ys[i]? = some v,
  fun i H=>∃ xs ys,tN H a xs/\tO H b ys/\(xs.length<=i\/ys.length<=i)⟩
theorem zjV {P:Program} {es:List Expr} (a b:Addr) (n:Nat) (ha:a < n) (hb:b < n):Turn P w K #[SG] (zjU (mB K) (mB K) a b) [n+4,n+2,n+3,n,n+1] (n+4)
  (fun i h=>IsZip h (n+4) (n+2) (n+3) .none/\IsPair h (n+2) (.ref n) #[Xs]/\(∃ u v,IsPair h (n+3) u v)/\h.IsListIter n a i/\h.IsListIter (n+1) b i) where
 mem:=by simp
 obj:=fun i h st c hc=>by
  obtain⟨h1,h2,⟨u,v,h3⟩,⟨o4,e4,_,d4⟩,⟨o5,e5,_,d5⟩⟩:=st;simp only [av,ba,or_false] at hc;rcases hc with z | z | z | z | z <;> subst z
  ·exact⟨_,h1,fun v z=>by cases z⟩
  ·exact⟨_,h2,fun v z=>by cases z⟩
  ·exact⟨_,h3,fun v z=>by cases z⟩
  ·exact⟨_,e4,fun v z=>by rw [d4] at z; cases z⟩
  ·exact⟨_,e5,fun v z=>by rw [d5] at z; cases z⟩
 keep:=fun i h h' st kk=>by
  obtain⟨h1,h2,⟨u,v,h3⟩,h4,h5⟩:=st;exact⟨kk _ #[M] _ h1,kk _ #[M] _ h2,#[Vi],h4.at fun o eo=>kk _ #[M] o eo,h5.at fun o eo=>kk _ #[M] o eo⟩
 item:=by
  intro X hP hw hK hc i mq s σ H E I hf st hg;subst hP hw hK;obtain⟨xs,ys,x,y,tw,tP,hx,hy⟩:=hg;obtain⟨h1,h2,⟨u0,v0,h3⟩,h4,h5⟩:=st;obtain⟨nW,wZ,p1,rD⟩:=I.list tw;obtain⟨nA,xi,p2,yw⟩:=I.list tP;obtain⟨u,hu,ru⟩:=wZ.get hx;obtain⟨v,hv,rv⟩:=xi.get hy;have hzs:n+4 < s.heap.objs.size:=aB h1;refine wpAny_pyNext_zip_item #[UC] h1 h2 h3 h4 h5 p1.isList p2.isList (x:=u) (y:=v) (by simpa using hu) (by simpa using hv) fun h' a1 a2 a3 a4 a5 a6 kk=>?_
  have k1:∀ c o,c∉[n+4,n+3,n,n+1]->s.heap.get? c=some o->h'.get? c=some o:=fun c o mQ eo =>
   kk c o (fun z=>mQ (by simp [z])) (fun z=>mQ (by simp [z])) (fun z=>mQ (by simp [z])) (fun z=>mQ (by simp [z])) eo
  have sub:∀ c∈[n+4,n+3,n,n+1],c∈[n+4,n+2,n+3,n,n+1]:=fun c mQ=>by
   simp only [av,ba,or_false] at mQ |-;rcases mQ with z | z | z | z <;> subst z <;> simp
  have CP:∀ c∈[n+4,n+3,n,n+1],∃ o,h'.get? c=some o:=fun c mQ=>by
   simp only [av,ba,or_false] at mQ;rcases mQ with z | z | z | z <;> subst z
   ·exact⟨_,a1⟩
   ·exact⟨_,a2⟩
   ·obtain⟨o,e,_⟩:=a3; exact⟨o,e⟩
   ·obtain⟨o,e,_⟩:=a4; exact⟨o,e⟩
  have I1:Inv X mq σ (mz H s.heap.objs.size (.tup [x,y])) { s with heap:=h' } :=
   I.Lo (t':=s.toks) k1 (fun c mQ=>hf c (sub c mQ)) CP (ai _) ⟨zbb,_,.cons ru (.cons rv .nil),zbK a5⟩
  refine⟨_,rfl,wpAny_letOwnedTupleGo_zip a1 fun yu yx oK=>?_⟩;have fr:∀ c∈[n+4,n+2,n+3,n,n+1],mz H s.heap.objs.size (.tup [x,y]) c=none:=fun c mQ=>by
   have mW:c < s.heap.objs.size:=by
    simp only [av,ba,or_false] at mQ;rcases mQ with z | z | z | z | z <;> subst z <;> lia
   rw [zg (aO mW)];exact (hf c mQ).1
  have I2:Inv X mq σ (mz H s.heap.objs.size (.tup [x,y])) { s with heap:=yu } :=
   Inv.Mi (s:={ s with heap:=h' }) (ch:=[n+4]) (t':=s.toks) I1 (fun c o mQ eo=>oK.extBut c o (by simpa using mQ) eo) (fun c mQ=>by
    have z:c=n+4:=by simpa using mQ
    subst z;exact⟨fr _ #[M],(hf _ #[M]).2⟩) (fun c mQ=>by
    have z:c=n+4:=by simpa using mQ
    subst z;exact⟨_,yx⟩)
  refine⟨.ref s.heap.objs.size,_,I2,rfl,⟨_,x,y,I.fresh,rfl,rfl,fun zs hz=>by rw [I.KG hz tw]; exact hx,fun zs hz=>by rw [I.KG hz tP]; exact hy⟩,
   ⟨yx,oK.extBut _ _ #[UC].TIz (kk _ _ #[UC].TIz #[UC].TITO #[UC].TIi1 #[UC].TIi2 h2),⟨_,_,oK.extBut _ _ #[UC].TOz a2⟩,a3.extBut oK.extBut #[UC].i1z,a4.extBut oK.extBut #[UC].i2z⟩,fr⟩
 done:=by
  intro X hP hw hK hc i mq s σ H E I hf st hg;subst hP hw hK;obtain⟨xs,ys,tw,tP,hx⟩:=hg;obtain⟨h1,h2,⟨u0,v0,h3⟩,h4,h5⟩:=st;obtain⟨nW,wZ,p1,rD⟩:=I.list tw;obtain⟨nA,xi,p2,yw⟩:=I.list tP;have xj:=wZ.length;have pJ:=xi.length;refine wpAny_pyNext_zip_end #[Rq] #[UC] h1 h2 h3 h4 h5 p1.isList p2.isList ?_ fun h' kk=>#[Uj]
  ·rcases hx with z | z
   ·exact .inl (by simp; lia)
   ·exact .inr (by simp; lia)
  ·have hth:∀ c∈[n+4,n+3,n,n+1],c∈[n+4,n+2,n+3,n,n+1]:=fun c mQ=>by
    simp only [av,ba,or_false] at mQ |-;rcases mQ with z | z | z | z <;> subst z <;> simp
   refine I.step (g':=s.gens) (d':=s.drawn) (t':=s.toks) (ch:=[n+4,n+3,n,n+1]) (fun c mQ=>?_) (fun c o _ _ oh e _=>kk c o (fun z=>oh (by simp [z])) (fun z=>oh (by simp [z])) (fun z=>oh (by simp [z])) (fun z=>oh (by simp [z])) e)
    (fun c o _ _ oh e _=>⟨o.slots,kk c o (fun z=>oh (by simp [z])) (fun z=>oh (by simp [z])) (fun z=>oh (by simp [z])) (fun z=>oh (by simp [z])) e⟩) #[Tv]
    (fun c o oh e=>⟨o,kk c o (fun z=>oh (by simp [z])) (fun z=>oh (by simp [z])) (fun z=>oh (by simp [z])) (fun z=>oh (by simp [z])) e⟩) #[SK] #[Uy] (fun c ps e=>⟨#[],by rw [e]; simp⟩) #[Ve] (fun c u e=>?_) I.bare
   ·obtain⟨_,a1,_,a3,a4,a5⟩:=hf c (hth c mQ);exact⟨a3,a1,a4,a5⟩
   ·obtain⟨o,es',ep,ho,r⟩:=hm;have ne:∀ c∈[n+4,n+2,n+3,n,n+1],X.env.locals≠c:=fun c mQ=>cA (hf c mQ).2.1
    exact⟨o,es',ep,kk _ o (ne _ #[M]) (ne _ #[M]) (ne _ #[M]) (ne _ #[M]) ho,r⟩
   ·have wW:∀ d u',H d=some u'->∀ c∈[n+4,n+2,n+3,n,n+1],d≠c:=fun d u' e' c mQ z=>by rw [z,(hf c mQ).1] at e'; cases e'
    refine (I.hok c u e).Nm (fun d v' hd q=>kk d v' ?_ ?_ ?_ ?_ q) #[Ul] fun _ _ q=>q
    all_goals
     rcases hd with z | z
     ·rw [z]; exact wW c u e _ #[M]
     ·exact wW d _ z _ #[M]
 self:=fun _ _ _ _ _ st h=>fS st.1 h
noncomputable def iZp (tN tO:Hp->Addr->List V->Prop) (ta:TA):TI:=fun σ H R=>ta σ H fun vs H1=>∃ a b xs ys,vs = [.ref a,.ref b]/\tN H1 a xs/\tO H1 b ys/\R (zjU tN tO a b) H1
theorem zej {X:Cx} {es:List Expr} {k:Nat} {rk p pos:Pos} {a b:Expr} {ta:TA} (hg:Gl X "zip") (hm:X.mg "zip" = none) (ha:PA X [a,b] ta) (hs:starEach [a,b] X.env = [#[Rh],#[Ps]]:=by rfl) (oJ:starEach [b] X.env = [#[Ps]]:=by rfl) :
  PI X #[S7] (.Call (.Name "zip" p) [a,b] [] pos) (iZp #[WN] #[WN] ta):=by
 intro mq s σ H R I h;refine Call_ (zbG I hg hm boot_zip (bC (thn #[AC] fun us s1 ⟨vs,H1,I1,r1,q1⟩=>?_) (by rw [hs,oJ]) (by rw [oJ]; rfl)));obtain⟨l1,l2,xs,ys,e,tw,tP,q⟩:=q1;subst e;cases r1 with
 | cons r rr =>
  cases rr with
  | cons r' rr =>
   cases rr;cases r;cases r';obtain⟨nW,wZ,rE,rD⟩:=I1.list tw;obtain⟨nA,xi,CQ,yw⟩:=I1.list tP;have uf:l1 < s1.heap.objs.size:=by obtain⟨_,_,e,_⟩:=rE; exact aB e
   have ug:l2 < s1.heap.objs.size:=by obtain⟨_,_,e,_⟩:=CQ; exact aB e
   refine call_zip_2 rE.isList CQ.isList fun h' b1 b2 b3 b4 b5 b6 kk=>?_
   have I2:Inv X mq σ H1 { s1 with heap:=h' }:=I1.kept (t':=s1.toks) kk;refine fS b1 ?_;refine⟨_,_,_,zjU #[WN] #[WN] l1 l2,H1,rfl,I2,zjV l1 l2 s1.heap.objs.size uf ug,⟨b1,b2,⟨_,_,b3⟩,b4,b5⟩,fun c hc=>?_,q⟩;have hle:s1.heap.objs.size<=c:=by
    simp only [av,ba,or_false] at hc;rcases hc with z | z | z | z | z <;> subst z <;> lia
   exact I1.Nv hle #[UE]
noncomputable def zgZ (Sq:Hp->Addr->List V->Prop) (a:Addr) (n:Nat):It :=
 ⟨fun i H=>i < n/\∃ xs,Sq H a xs/\xs.length=n,fun i H x H'=>H'=H/\∀ xs,Sq H a xs->xs[n - 1 - i]? = some x,fun i H=>n<=i⟩
theorem zjW {P:Program} (a it:Addr) (n:Nat):Turn P w K tg (zgZ (mB K) a n) [it] it (fun i h=>i<=n/\h.IsRevIter it a ((n:Int) - 1 - (i:Int))) where
 mem:=by simp
 obj:=fun i h st b hb=>by
  have z:b=it:=by simpa using hb
  subst z;obtain⟨_,o,e,c,d⟩:=st;exact⟨o,e,fun v z=>by rw [d] at z; cases z⟩
 keep:=fun i h h' st k=>⟨st.1,st.2.at fun o e=>k it #[M] o e⟩
 item:=by
  intro X hP hw hK hc i mq s σ H E I hf st hg;subst hP hw hK;obtain⟨rG,xs,hq,hl⟩:=hg;obtain⟨mC,rv,p,hz⟩:=I.list hq;have mS:=rv.length;obtain⟨x,hx⟩:∃ x,xs[n - 1 - i]? = some x:=⟨xs[n - 1 - i]'#[O],#[M]⟩;obtain⟨u,hu,ru⟩:=rv.get hx;obtain⟨f0,f1,f2,f3,f4,f5⟩:=hf it #[M];have e:(n:Int) - 1 - (i:Int)=((n - 1 - i:Nat):Int):=by lia
  have hit:=st.2;rw [e] at hit;refine wpAny_pyNext_rev_item hit p.isList (x:=u) (by simpa using hu) fun h' mP sb=>?_
  have I1:Inv X mq σ H { s with heap:=h' }:=I.turned (t':=s.toks) (fun b o hb e=>(sb.2 b hb).trans e) f0 f1 f3 f4 f5;have e2:((n - 1 - i:Nat):Int) - 1=(n:Int) - 1 - ((i+1:Nat):Int):=by lia
  rw [e2] at mP;obtain⟨o,eo,c,d⟩:=id mP;exact⟨u,rfl,zfv (s:={ s with heap:=h' }) eo c d #[D] ⟨x,H,I1,ru,⟨rfl,fun ys hy=>by rw [I.KG hy hq]; exact hx⟩,⟨rG,mP⟩,fun b hb=>#[W3].1⟩⟩
 done:=by
  intro X hP hw hK hc i mq s σ H E I hf st hg;subst hP hw hK;obtain⟨f0,f1,f2,f3,f4,f5⟩:=hf it #[M];have rG:n<=i:=hg;have e:(n:Int) - 1 - (i:Int) = -1:=by have:=st.1; lia
  have hit:=st.2;rw [e] at hit;exact wpAny_pyNext_rev_end #[Rq] hit fun h' eb=>#[ss]
 self:=fun _ _ _ _ _ st h=>jv st.2 h
end L2
end
section
namespace PySem
namespace F
theorem zfK:Manifest.owners.lookup (String.ofList ['d','e','s','r','e','v','e','r'].reverse)=some Manifest.sig_reversed:=by kernel_rfl
theorem Kl:Slot "reversed" "__next__" "reversed.__next__" :=
 .of (owner:="reversed") (n:="__next__") (by rw [d8,cU]; kernel_rfl) #[N] #[N] #[N] (by first | exact .inl #[N] | exact .inr #[N]) (by rw [dN]; kernel_rfl)
theorem Lc:entryFor table "reversed.__next__" = some Builtin.«reversed.__next__»:=entryFor_of_tree (by kernel_rfl)
theorem K3 (a:Value):argsOk "reversed.__next__" ⟨[a],[]⟩:=by
 unfold argsOk; rw [signature?_of (id:="reversed.__next__") (n:=['_','_','t','x','e','n','_','_']) (o:=['d','e','s','r','e','v','e','r']) (by kernel_rfl) zfK]; kernel_rfl
theorem Lr:Slot "reversed" "__iter__" "reversed.__iter__" :=
 .of (owner:="reversed") (n:="__iter__") (by rw [d8,cU]; kernel_rfl) #[N] #[N] #[N] (by first | exact .inl #[N] | exact .inr #[N]) (by rw [dN]; kernel_rfl)
theorem MA (a:Value):argsOk "reversed.__iter__" ⟨[a],[]⟩:=by
 unfold argsOk; rw [signature?_of (id:="reversed.__iter__") (n:=['_','_','r','e','t','i','_','_']) (o:=['d','e','s','r','e','v','e','r']) (by kernel_rfl) zfK]; kernel_rfl
theorem MI:entryFor table "reversed.__iter__" = some Builtin.«dict_keyiterator.__iter__»:=jf (id':="dict_keyiterator.__iter__") (by kernel_rfl) (by first | rfl | decide +kernel | (unfold String.splitOn; simp +decide [String.splitOnAux])) #[N] (by kernel_rfl)
theorem zfj:Slot "reversed" "__init__" "object.__init__":=.of (owner:="object") (n:="__init__") (by rw [d8,cU]; kernel_rfl) #[N] #[N] #[N] (by first | exact .inl #[N] | exact .inr #[N]) (by rw [dN]; kernel_rfl)
theorem OG:TypeCalled "reversed" "reversed.__new__" "object.__init__" :=
 ⟨#[N],#[N],⟨_,_,mro_reversed⟩,made_reversed,#[N],by rw [dN]; kernel_rfl,zfj⟩
theorem NA:typeLookup (.type "tuple") "__reversed__" = pure none:=by rw [d8,cU]; kernel_rfl
end F
noncomputable def zge (l:Addr) (i:Int):Obj:={ cls:=.type "reversed",data:=.fields #[.ref l,rawInt i] }
noncomputable def Heap.MC (h:Heap) (a l:Addr) (i:Int):Prop:=∃ o,h.get? a=some o/\o.cls = .type "reversed"/\o.data = .fields #[.ref l,rawInt i]
theorem Heap.MC.typeIs {s:Shared} {a l:Addr} {i:Int} (x:s.heap.MC a l i):s.TypeIs #[Rf] "reversed":=let ⟨o,ho,hc,_⟩:=x; ⟨o,ho,hc⟩
theorem Heap.MC.at {h h':Heap} {a l:Addr} {i:Int} (x:h.MC a l i) (e:∀ o,h.get? a=some o->h'.get? a=some o):h'.MC a l i:=let ⟨o,ho,r⟩:=x; ⟨o,e _ ho,r⟩
open PyProof.Rows in
theorem zfk (l:Addr) (items:Array Value) :
  Meets (Builtin.«reversed.__new__» ⟨[.type "reversed",.ref l],[]⟩) (fun _ R s=>IsTup s.heap l items/\(items.size:Int) < 2 ^ 63 /\
   R (.ok (.ret #[t0])) { s with heap:=s.heap.push (zge l ((items.size:Int) - 1)),toks:=s.toks+1+1 }) :=
 .of_wp fun prog w A R s h=>by
  obtain⟨hl,hsz,h⟩:=h;unfold Builtin.«reversed.__new__»; refine aa (dL (newClass_reversed _) ?_)
  try dsimp only
  iterate 2 refine aa (dL (a:=()) (by first | rfl | kernel_rfl) ?_)
  try dsimp only
  refine aa (gh hl.typeIs F.NA ?_)
  try dsimp only
  refine aa (aa (m:=isInstance #[Su] (.type "dict")) (dh hl.typeIs F.sub_tuple_dict ?_));simp only [aY,if_false]; refine aa (m:=specialOf #[Su] "__getitem__") #[Uz];refine ag ?_
  try dsimp only
  try simp only [fN,aY,if_false]
  refine aa (len_tuple hl hsz ?_);refine aa (m:=asInt? _) (dL (a:=some (items.size:Int)) rfl ?_)
  try dsimp only
  refine aa (m:=lI _ _) ?_;show wpAny _ _ (newObj (.type "reversed") (.fields #[.ref l,rawInt ((items.size:Int) - 1)]) none) _ _ _;refine bE ?_;exact ag ⟨_,rfl,h⟩
section
variable {prog:Program} {w:World} {A:Around} {E:Value->Shared->Prop} {s:Shared}
open PyProof.Rows
theorem zeE {l:Addr} {items:Array Value} {Q:Value->Shared->Prop} (hl:IsTup s.heap l items) (hsz:(items.size:Int) < 2 ^ 63)
  (h:Q #[t0] { s with heap:=s.heap.push (zge l ((items.size:Int) - 1)),toks:=s.toks+1+1 }):wpAny #[na] A (call (.type "reversed") [.ref l]) Q E s:=by
 refine kf F.OG #[D] (F.typeCall_reversed_1 _) (F.newCall_reversed_1 _) (fun obj=>jw obj _) F.entry_reversed_new (zfk l items) ⟨hl,hsz,?_⟩; exact⟨⟨_,az _ rfl,rfl⟩,h⟩
theorem zcB {it l:Addr} {i:Nat} {items:Array Value} {x:Value} {Q:Option Value->Shared->Prop} (hit:s.heap.MC it l (i:Int)) (hl:IsTup s.heap l items) (hx:items[i]? = some x) (hi:(i:Int) < 2 ^ 62)
  (hQ:∀ h',h'.MC it l ((i:Int) - 1)->aX it s.heap h'->Q (some x) { s with heap:=h',toks:=s.toks+1 }):wpAny #[na] A #[SI] Q E s:=by
 obtain⟨o,ho,hc,hd⟩:=id hit; unfold pyNext;refine aa (bZ (bp (name:=bL "__next__") hit.typeIs F.Kl
  (bi F.Kl hit.typeIs F.Lc ?_ (F.K3 _))))
 unfold Builtin.«reversed.__next__»;refine aa (dL (a:=(aL it,[])) rfl ?_); try dsimp only
 refine aa #[XM]; refine aa (bw ho hd (x:=rawInt (i:Int)) rfl ?_);show wpAny _ _ (if (i:Int) < 0 then _ else _) _ _ s; rw [if_neg #[O]];refine aa #[Uz]
 try simp only [Option.isNone_some,aY,if_false]
 refine aa (wpAny_mkInt ?_); have mW:i < items.size:=by
  obtain⟨h1,_⟩:=hJ.mp hx;exact h1
 refine aa (bZ (getItem_tuple (j:=i) hl #[O] #[O] (by rw [gN #[O] #[O]]; simp) hx ?_))
 try dsimp only
 refine aa (bw (s:={ s with toks:=s.toks+1 }) ho hd (x:=rawInt (i:Int)) rfl ?_);show wpAny _ _ (setField #[Q7] 1 (rawInt ((i:Int) - 1)) >>= _) _ _ _;refine aa (cG (s:={ s with toks:=s.toks+1 }) ho hd #[M] (ag ⟨x,rfl,ag (hQ _ ?_ (bH ..))⟩));exact⟨_,bP _ ho (cV (bR hd _)),(d9 ..).trans hc,by rw [bR hd]; simp⟩
theorem zcF {it l:Addr} {Q:Option Value->Shared->Prop} (hh:A.handled=none) (hit:s.heap.MC it l (-1)) (hQ:∀ h',iU it s.heap h'->Q none { s with heap:=h' }):wpAny #[na] A #[SI] Q E s:=by
 obtain⟨o,ho,hc,hd⟩:=id hit; unfold pyNext;refine aa (bZ (bp (name:=bL "__next__") hit.typeIs F.Kl
  (bi F.Kl hit.typeIs F.Lc ?_ (F.K3 _))))
 unfold Builtin.«reversed.__next__»;refine aa (dL (a:=(aL it,[])) rfl ?_); try dsimp only
 refine aa #[XM]; refine aa (bw ho hd (x:=rawInt (-1)) rfl ?_);show wpAny _ _ (if (-1:Int) < 0 then _ else _) _ _ s; rw [if_pos #[D]];refine aa (cw ?_);refine aa (aa (m:=setField #[Q7] 1 (rawInt (-1))) #[UP]);have hd2:=bR hd (·.setIfInBounds 1 (rawInt (-1)));have vN:=bP (eM (·.setIfInBounds 1 (rawInt (-1)))) ho (cV hd2);refine cG vN hd2 #[M] ?_
 try dsimp only
 refine aa ?_; show wpAny _ _ (newExc (.type "StopIteration") [] >>= _) _ _ _;refine aa ?_;simp only [newExc,newTuple];refine aa (bE ?_ (by size_fits)); refine aa (m:=firstArgMember _ _) (dL (a:=bW) (by first | rfl | (simp only [firstArgMember]; rfl)) ?_);refine bE ?_ (by size_fits); simp only [raiseNew];refine aa (hU ?_); first | rw [show A.in1.handled=none from hh] | rw [hh]
 refine aa (ag (iV ?_)); refine aa (dh (T:="StopIteration") (b:=true) ⟨_,az _ rfl,rfl⟩ fg ?_);exact ag (hQ _ ((((bH ..).extBut.trans (bH ..).extBut).push _).push _))
theorem zb8 {it l:Addr} {i:Int} {Q:Value->Shared->Prop} (hit:s.heap.MC it l i) (h:Q #[Q7] s):wpAny #[na] A (pyIter #[Q7]) Q E s:=by
 refine ee hit.typeIs F.Lr (bi F.Lr hit.typeIs F.MI ?_ (F.MA _));show wpAny _ _ (ret #[Q7]) _ _ s; exact ag ⟨_,rfl,"reversed",_,hit.typeIs,F.Kl.lookup,h⟩
end
section
variable {prog:Program} {w:World} {A:Around} {E:Value->Shared->Prop} {s:Shared}
theorem zg0 {it t:Addr} {i:Nat} {items:Array Value} {x:Value} {Q:Value->Shared->Prop} (hit:s.heap.IsTupleIter it t i) (ht:s.heap.IsTuple t items) (hx:items[i]? = some x)
  (hQ:∀ h',h'.IsTupleIter it t (i+1)->aX it s.heap h'->Q x { s with heap:=h' }):wpAny #[na] A (be #[Q7]) Q E s:=by
 obtain⟨o,ho,hc,hd⟩:=id hit; obtain⟨ot,HE,_,nt,HF⟩:=ht;unfold be; refine aa (bp (name:=bL "__next__") hit.typeIs dA #[WL]);show wpAny _ _ (field #[Q7] 0 >>= _) _ _ s; refine aa #[XL]; show wpAny _ _ (if (aL t == bW)=true then _ else _) _ _ _; rw [if_neg (by exact aG)];refine aa #[Xk]; refine aa (m:=seqItems? _) (di HE HF ?_); simp only [a8,hx];have hn:=bP (eM (·.setIfInBounds 1 (rawInt ((i+1:Nat):Int)))) ho (cV (bR hd _));refine aa (cG ho hd #[M] (ag ⟨x,rfl,ag (hQ _ ⟨_,hn,(d9 ..).trans hc,?_⟩ (bH ..))⟩)); rw [bR hd]; simp [rawInt]
theorem zg1 {it t:Addr} {i:Nat} {items:Array Value} {Q:Value->Shared->Prop} (hh:A.handled=none) (hit:s.heap.IsTupleIter it t i) (ht:s.heap.IsTuple t items) (hx:items[i]? = none)
  (hE:∀ h' e,iU it s.heap h'->(∃ o,h'.get? e=some o/\o.cls = .type "StopIteration")->E #[Ux] { s with heap:=h' }):wpAny #[na] A (be #[Q7]) Q E s:=by
 obtain⟨o,ho,hc,hd⟩:=id hit; obtain⟨ot,HE,_,nt,HF⟩:=ht;unfold be; refine aa (bp (name:=bL "__next__") hit.typeIs dA #[WL]);show wpAny _ _ (field #[Q7] 0 >>= _) _ _ s; refine aa #[XL]; show wpAny _ _ (if (aL t == bW)=true then _ else _) _ _ _; rw [if_neg (by exact aG)];refine aa #[Xk]; refine aa (m:=seqItems? _) (di HE HF ?_); simp only [a8,hx];refine aa (cw (aa #[UP])); show wpAny _ _ (newExc (.type "StopIteration") [] >>= _) _ _ _; refine aa ?_;simp only [newExc,newTuple]; refine aa (bE ?_ (by size_fits)); refine aa (m:=firstArgMember _ _) (dL (a:=bW) (by first | rfl | (simp only [firstArgMember]; rfl)) ?_);refine bE ?_ (by size_fits); simp only [raiseNew]; refine aa (hU ?_); first | rw [show A.in1.handled=none from hh] | rw [hh]
 refine aa (ag (iV ?_)); exact hE _ _ (((bH ..).extBut.push _).push _) ⟨_,az _ rfl,rfl⟩
end
theorem Draws.tuple {prog:Program} {w:World} {A:Around} (hh:A.handled=none) (it t:Addr) (oM:t≠it) (items:Array Value):Draws prog w A it [it,t] items.size (fun i v=>items[i]? = some v) (fun i h=>h.IsTupleIter it t i/\h.IsTuple t items) where
 live:=fun i h st=>st.1.imp fun o r=>r.1
 frame:=fun i h h' st kk=>⟨st.1.at fun o=>kk it #[M] o,st.2.at fun o=>kk t #[M] o⟩
 item:=fun i s Q E hi st hQ=>zg0 st.1 st.2 (x:=items[i]) (by simp [hi]) fun h' a b=>hQ _ h' s.toks (by simp [hi]) ⟨a,st.2.extBut b.extBut oM⟩ b
 done:=fun s Q E st hE=>zg1 hh st.1 st.2 #[M] hE
noncomputable def zcy (t:Addr):Obj:={ cls:=.type "tuple_iterator",data:=.fields #[.ref t,.int 0 0] }
noncomputable def zly (it:Addr):Obj:={ cls:=.type "enumerate",data:=.fields #[.none,.bool false,.ref it,rawInt 0,.none,.none] }
end PySem
namespace L2
open PySem PySem.Spec PyProof.Rows
variable {H1:Hp} {K:af} {X:Cx} {j:Nat} {mq:List (Addr×Obj)} {s1:Shared} {tg:Expr} {us:List Value} {w:World} {xs:List V}
theorem zjX {P:Program} (a it:Addr) (n:Nat):Turn P w K tg (zgZ (mK K) a n) [it] it (fun i h=>i<=n/\h.MC it a ((n:Int) - 1 - (i:Int))) where
 mem:=by simp
 obj:=fun i h st b hb=>by
  have z:b=it:=by simpa using hb
  subst z;obtain⟨_,o,e,c,d⟩:=st;exact⟨o,e,fun v z=>by rw [d] at z; cases z⟩
 keep:=fun i h h' st k=>⟨st.1,st.2.at fun o e=>k it #[M] o e⟩
 item:=by
  intro X hP hw hK hc i mq s σ H E I hf st hg;subst hP hw hK;obtain⟨rG,xs,hq,hl⟩:=hg;obtain⟨mC,rv,p,hz⟩:=I.tuple hq;have mS:=rv.length;have qj:=aS;obtain⟨x,hx⟩:∃ x,xs[n - 1 - i]? = some x:=⟨xs[n - 1 - i]'#[O],#[M]⟩;obtain⟨u,hu,ru⟩:=rv.get hx;obtain⟨f0,f1,f2,f3,f4,f5⟩:=hf it #[M];have e:(n:Int) - 1 - (i:Int)=((n - 1 - i:Nat):Int):=by lia
  have hit:=st.2;rw [e] at hit;refine zcB hit p (x:=u) (by simpa using hu) #[O] fun h' mP sb=>?_
  have I1:Inv X mq σ H { s with heap:=h',toks:=s.toks+1 }:=I.turned (t':=s.toks+1) (fun b o hb e=>(sb.2 b hb).trans e) f0 f1 f3 f4 f5;have e2:((n - 1 - i:Nat):Int) - 1=(n:Int) - 1 - ((i+1:Nat):Int):=by lia
  rw [e2] at mP;obtain⟨o,eo,c,d⟩:=id mP;exact⟨u,rfl,zfv (s:={ s with heap:=h',toks:=s.toks+1 }) eo c d #[D] ⟨x,H,I1,ru,⟨rfl,fun ys hy=>by rw [I.Lq hy hq]; exact hx⟩,⟨rG,mP⟩,fun b hb=>#[W3].1⟩⟩
 done:=by
  intro X hP hw hK hc i mq s σ H E I hf st hg;subst hP hw hK;obtain⟨f0,f1,f2,f3,f4,f5⟩:=hf it #[M];have rG:n<=i:=hg;have e:(n:Int) - 1 - (i:Int) = -1:=by have:=st.1; lia
  have hit:=st.2;rw [e] at hit;exact zcF #[Rq] hit fun h' eb=>#[ss]
 self:=fun _ _ _ _ _ st h=>zb8 st.2 h
theorem zgf {σ:St} {R:It->Hp->Prop} {l:Addr} (I1:Inv X mq σ H1 s1) (hq:mK X.K H1 l xs) (q:R (zgZ (mK X.K) l xs.length) H1) :
  wpAny #[mt] X.A (call (.type "reversed") [.ref l]) #[SY] X.xe s1:=by
 obtain⟨mC,rv,pl,hz⟩:=I1.tuple hq;have mS:=rv.length;have qj:=aS;refine zeE pl (by rw [au]; lia) ?_;have I2:Inv X mq σ H1 { s1 with heap:=s1.heap.push (zge l ((mC.toArray.size:Int) - 1)),toks:=s1.toks+1+1 }:=I1.kept fun b o e=>ah _ e
 have hr:(s1.heap.push (zge l ((mC.toArray.size:Int) - 1))).MC s1.heap.objs.size l ((xs.length:Int) - 1 - ((0:Nat):Int)):=by
  refine⟨_,az _ rfl,rfl,?_⟩;have e1:(mC.toArray.size:Int) - 1=(xs.length:Int) - 1 - ((0:Nat):Int):=by rw [au,mS]; lia
  show kM #[.ref l,rawInt ((mC.toArray.size:Int) - 1)]=_;rw [e1]
 refine zb8 hr ?_;refine⟨_,[s1.heap.objs.size],_,zgZ (mK X.K) l xs.length,H1,rfl,I2,zjX l s1.heap.objs.size xs.length,⟨bg _,hr⟩,fun b hb=>?_,q⟩;have z:b=s1.heap.objs.size:=by simpa using hb
 subst z;exact I1.Nv (ai _) #[Ry]
theorem zg2 {σ:St} {R:It->Hp->Prop} {l:Addr} (I1:Inv X mq σ H1 s1) (hq:mB X.K H1 l xs) (q:R (zgZ #[WN] l xs.length) H1) :
  wpAny #[mt] X.A (call (.type "reversed") [.ref l]) #[SY] X.xe s1:=by
 obtain⟨mC,rv,pl,hz⟩:=I1.list hq;have mS:=rv.length;refine call_reversed_list pl.isList ?_;have I2:Inv X mq σ H1 { s1 with heap:=s1.heap.push (revObj l ((mC.toArray.size:Int) - 1)) }:=I1.kept (t':=s1.toks) fun b o e=>ah _ e
 have hr:(s1.heap.push (revObj l ((mC.toArray.size:Int) - 1))).IsRevIter s1.heap.objs.size l ((xs.length:Int) - 1 - ((0:Nat):Int)):=by
  refine⟨_,az _ rfl,rfl,?_⟩;have e1:(mC.toArray.size:Int) - 1=(xs.length:Int) - 1 - ((0:Nat):Int):=by rw [au,mS]; lia
  show kM #[.ref l,rawInt ((mC.toArray.size:Int) - 1)]=_;rw [e1]
 refine jv hr ?_;refine⟨_,[s1.heap.objs.size],_,zgZ #[WN] l xs.length,H1,rfl,I2,zjW l s1.heap.objs.size xs.length,⟨bg _,hr⟩,fun b hb=>?_,q⟩;have z:b=s1.heap.objs.size:=by simpa using hb
 subst z;exact I1.Nv (ai _) #[Ry]
noncomputable def zpZ (K:af) (ta:TA):TI:=fun σ H R=>ta σ H fun vs H1=>∃ a xs,vs = [.ref a]/\((mB K H1 a xs/\R (zgZ (mB K) a xs.length) H1)\/(mK K H1 a xs/\R (zgZ (mK K) a xs.length) H1))
theorem zoh {X:Cx} {tg:Expr} {p pos:Pos} {a:Expr} {ta:TA} (hg:Gl X "reversed") (hm:X.mg "reversed" = none) (ha:PA X [a] ta) (hs:starEach [a] X.env = [#[Rh]]:=by rfl) :
  PI X tg (.Call (.Name "reversed" p) [a] [] pos) (zpZ X.K ta):=by
 intro mq s σ H R I h;refine Call_ (zbG I hg hm boot_reversed (bC (thn #[AC] fun us s1 ⟨vs,H1,I1,r1,q1⟩=>?_) hs rfl));obtain⟨l,xs,e,hq⟩:=q1;subst e;cases r1 with
 | cons r rr =>
  cases rr;cases r;rcases hq with ⟨hq,q⟩ | ⟨hq,q⟩
  ·exact zg2 I1 hq q
  ·exact zgf I1 hq q
inductive EqD (K:af) (H:Hp):Nat->V->V->Bool->Prop where
 | flat {d:Nat} {x y:V} (hx:zcx x=true) (hy:zcx y=true):EqD K H d x y (eqV x y)
 | same {d:Nat} {a:Addr}:EqD K H d #[Rf] #[Rf] true
 | lists {d:Nat} {a b:Addr} {xs ys:List V} {e:Nat->Bool} (oM:a≠b) (ha:mB K H a xs) (hb:mB K H b ys) (hl:xs.length=ys.length)
   (he:∀ (j:Nat) x y,xs[j]? = some x->ys[j]? = some y->EqD K H d x y (e j)):EqD K H (d+1) #[Rf] (.ref b) (#[Wp].all e)
 | lens {d:Nat} {a b:Addr} {xs ys:List V} (oM:a≠b) (ha:mB K H a xs) (hb:mB K H b ys) (hl:xs.length≠ys.length):EqD K H (d+1) #[Rf] (.ref b) false
 | MD {d:Nat} {a b:Addr} {xs ys:List V} {e:Nat->Bool} (oM:a≠b) (ha:mK K H a xs) (hb:mK K H b ys)
   (he:∀ (j:Nat) x y,xs[j]? = some x->ys[j]? = some y->EqD K H d x y (e j)):EqD K H (d+1) #[Rf] (.ref b) ((bd (min xs.length ys.length)).all e && xs.length == ys.length)
theorem zH.Pj (r:zH xs us) (h:j < us.toArray.size):∃ x,xs[j]? = some x/\RelV x us.toArray[j]:=by
 have hl:=r.length;have hj:j < xs.length:=by rw [hl]; simpa using h
 obtain⟨u,hu,ru⟩:=r.get (i:=j) (x:=xs[j]) #[M];refine⟨xs[j],#[M],?_⟩;have:us.toArray[j]=u:=by
  have h2:j < us.length:=by simpa using h
  rw [aF h2] at hu;simpa using aN hu
 rw [this];exact ru
theorem EqD.at {X:Cx} {mq:List (Addr×Obj)} {σ:St} {H:Hp} {s:Shared} (I:Inv X mq σ H s) {d:Nat} {x y:V} {b:Bool} (h:EqD X.K H d x y b) :
  ∀ (A:Around) (u v:Value),RelV x u->RelV y v->A.units+d < cLine->jq A s u v b:=by
 induction h with
 | flat hx hy=>exact fun A u v rx ry _=>zlk rx ry hx hy
 | same=>intro A u v rx ry _; cases rx; cases ry; exact lg _
 | lists oM ha hb hl he ih =>
  intro A u v rx ry hu;cases rx; cases ry;obtain⟨CS,r1,p1,_⟩:=I.list ha;obtain⟨CT,r2,p2,_⟩:=I.list hb;have l1:=r1.length;have l2:=r2.length;refine gS oM ?_;have q:=SeqAt.RcAt.lists (A:=A) p1.isList p2.isList (by simp only [au]; lia) #[O] fun j h1 h2=>by
   obtain⟨x,hx,rx⟩:=r1.Pj h1;obtain⟨y,hy,ry⟩:=r2.Pj h2;exact ih j x y hx hy A.in1 _ _ rx ry (by simp only [eF]; lia)
  rw [au,<- l1] at q;exact q
 | lens oM ha hb hl =>
  intro A u v rx ry hu;cases rx; cases ry;obtain⟨CS,r1,p1,_⟩:=I.list ha;obtain⟨CT,r2,p2,_⟩:=I.list hb;have l1:=r1.length;have l2:=r2.length;exact gS oM (SeqAt.RcAt.lists_lengths p1.isList p2.isList (by simp only [au,bne_iff_ne]; lia) #[O])
 | MD oM ha hb he ih =>
  intro A u v rx ry hu;cases rx; cases ry;obtain⟨CS,r1,p1,_⟩:=I.tuple ha;obtain⟨CT,r2,p2,_⟩:=I.tuple hb;have l1:=r1.length;have l2:=r2.length;refine gS oM ?_;have q:=SeqAt.RcAt.tuples (A:=A) (s:=s) p1 p2 #[O] fun j h1 h2=>by
   obtain⟨x,hx,rx⟩:=r1.Pj h1;obtain⟨y,hy,ry⟩:=r2.Pj h2;exact ih j x y hx hy A.in1 _ _ rx ry (by simp only [eF]; lia)
  rw [au,au,<- l1,<- l2] at q;exact q
noncomputable def zmO (K:af) (neg:Bool):R2:=fun x y H Q=>∃ a b xs ys,x = .ref a/\y = .ref b/\((mB K H a xs/\mB K H b ys)\/(mK K H a xs/\mK K H b ys)) /\
 ((xs.length≠ys.length/\(∀ (j:Nat) x y,xs[j]? = some x->ys[j]? = some y->∃ c,EqD K H 8 x y c)/\Q (.bl neg) H) \/
  (xs.length=ys.length/\∃ e:Nat->Bool,(∀ (j:Nat) x y,xs[j]? = some x->ys[j]? = some y->EqD K H 8 x y (e j))/\Q (.bl (if neg then !#[Wp].all e else #[Wp].all e)) H))
theorem zig {X:Cx} (hu:X.A.units+20 < cLine):OpR X #[Wv] (zmO X.K true):=by
 intro mq s σ H x y v u Q I rx ry h;obtain⟨a,b,xs,ys,rfl,rfl,hk,h⟩:=h;cases rx; cases ry;rcases hk with ⟨ha,hb⟩ | ⟨ha,hb⟩
 ·obtain⟨CS,r1,p1,_⟩:=I.list ha;obtain⟨CT,r2,p2,_⟩:=I.list hb;have l1:=r1.length;have l2:=r2.length;rcases h with ⟨hl,_,q⟩ | ⟨hl,e,he,q⟩
  ·exact SeqAt.RcNeAt.lists_lengths p1.isList p2.isList (by simp only [au,bne_iff_ne]; lia) #[O] _ _ _ _ ⟨.bl true,H,I,rfl,q⟩
  ·refine SeqAt.RcNeAt.lists p1.isList p2.isList (e:=e) (by simp only [au]; lia) #[O] #[Xy] _ _ _ _ #[SD]
   ·obtain⟨x,hx,rx⟩:=r1.Pj h1;obtain⟨y,hy,ry⟩:=r2.Pj h2;exact (he j x y hx hy).at I _ _ _ rx ry (by simp only [eF]; lia)
   ·rw [au,<- l1];exact q
 ·obtain⟨CS,r1,p1,_⟩:=I.tuple ha;obtain⟨CT,r2,p2,_⟩:=I.tuple hb;have l1:=r1.length;have l2:=r2.length;rcases h with ⟨hl,he,q⟩ | ⟨hl,e,he,q⟩
  ·have Bf:∀ j:Nat,∃ c:Bool,∀ x y,xs[j]? = some x->ys[j]? = some y->EqD X.K H 8 x y c:=fun j=>by
    cases hx:xs[j]? with
    | none=>exact⟨true,fun x y z=>by cases z⟩
    | some x =>
     cases hy:ys[j]? with
     | none=>exact⟨true,fun x y _ z=>by cases z⟩
     | some y =>
      obtain⟨c,hc⟩:=he j x y hx hy;exact⟨c,fun x' y' z1 z2=>by cases z1; cases z2; exact hc⟩
   obtain⟨e,vU⟩:=Classical.axiomOfChoice Bf;refine jM (s:=s) p1 p2 (e:=e) #[O] #[Xy] _ _ _ _ #[SD]
   ·obtain⟨x,hx,rx⟩:=r1.Pj h1;obtain⟨y,hy,ry⟩:=r2.Pj h2;exact (vU j x y hx hy).at I _ _ _ rx ry (by simp only [eF]; lia)
   ·have tQ:(CS.toArray.size == CT.toArray.size)=false:=by
     rw [au,au]; exact beq_eq_false_iff_ne.mpr #[O]
    rw [tQ,lH];exact q
  ·refine jM (s:=s) p1 p2 (e:=e) #[O] #[Xy] _ _ _ _ #[SD]
   ·obtain⟨x,hx,rx⟩:=r1.Pj h1;obtain⟨y,hy,ry⟩:=r2.Pj h2;exact (he j x y hx hy).at I _ _ _ rx ry (by simp only [eF]; lia)
   ·have tQ:(CS.toArray.size == CT.toArray.size)=true:=by
     rw [au,au]; exact beq_iff_eq.mpr #[O]
    have HH:min CS.toArray.size CT.toArray.size=xs.length:=by rw [au,au]; lia
    rw [tQ,Bool.and_true,HH];exact q
theorem zdX {X:Cx}:zbj X (.builtin "isinstance") (fun xs H Q=>∃ x t n b,xs = [x,.ty n]/\Oh X.K H x t/\am X.K t (.type n)=some b/\Q (.bl b) H):=by
 intro mq s σ H xs us Q I r h;obtain⟨x,t,n,b,rfl,ty,hk,q⟩:=h;obtain⟨u,u',rfl,rx,r2⟩:=vals2 r;cases r2;exact zjP I rx ty hk fun tk=>⟨.bl b,H,I.tok tk,rfl,q⟩
theorem zg3 {X:Cx}:zbj X (.type "range") (fun xs H Q=>∃ j:Int,xs = [.int j]/\∀ l,H l=none->Q #[Su] (mz H l (.rng 0 j))):=by
 intro mq s σ H xs us Q I r h;obtain⟨j,rfl,q⟩:=h;obtain⟨u,rfl,t,rfl⟩:=vals1 r;refine call_range_1 ?_;exact⟨.ref s.heap.objs.size,_,I.laid (o:=.rng 0 j) (fun b o e=>ah _ e) (ai _) ⟨_,_,_,az _ rfl⟩,rfl,q _ I.fresh⟩
noncomputable def zb3 (lo:Int) (n:Nat):List Int:=(bd n).map fun (i:Nat)=>lo+(i:Int)
theorem zc0 (lo:Int) (n:Nat):(zb3 lo n).length=n:=by simp [zb3]
theorem zfl {acc:Array Value} {lo:Int} {n:Nat} (h:ItemsOf (fun i v=>∃ t,v = .int (lo+(i:Nat)*1) t) acc n):zH ((zb3 lo n).map V.int) acc.toList:=by
 obtain⟨hsz,hv⟩:=h;have go:∀ (us:List Value) (k:Nat),(∀ (j:Nat) v,us[j]? = some v->∃ t,v = .int (lo+((k+j:Nat):Int)) t)->zH (((bd us.length).map fun (i:Nat)=>V.int (lo+((k+i:Nat):Int)))) us:=by
  intro us;induction us with
  | nil=>intro k _; exact .nil
  | cons u us ih =>
   intro k hu;rw [bh,fK,bc,bx];refine .cons ?_ ?_
   ·obtain⟨t,e⟩:=hu 0 u rfl;exact⟨t,e⟩
   ·have:=ih (k+1) fun j v e=>by
     obtain⟨t,z⟩:=hu (j+1) v (by simpa using e);exact⟨t,by rw [z]; congr 1; lia⟩
    have e2:(fun (i:Nat)=>V.int (lo+((k+1+i:Nat):Int)))=((fun (i:Nat)=>V.int (lo+((k+i:Nat):Int))) ∘ Nat.succ):=by
     funext i;show V.int _=V.int _;congr 2;show ((k+1+i:Nat):Int)=((k+(i+1):Nat):Int);lia
    rw [<- e2];exact this
 have h1:=go acc.toList 0 fun j v e=>by
  obtain⟨t,z⟩:=hv j v (by simpa using e);exact⟨t,by rw [z]; simp⟩
 have e1:acc.toList.length=n:=by simpa using hsz
 rw [e1] at h1;unfold zb3;rw [bx];have e2:(V.int ∘ fun (i:Nat)=>lo+(i:Int))=fun (i:Nat)=>V.int (lo+((0+i:Nat):Int)):=by
  funext i;show V.int (lo+(i:Int))=V.int (lo+((0+i:Nat):Int));rw [eY]
 rw [e2];exact h1
theorem zfm {X:Cx} (hc:X.calm=true):zbj X (.type "list") (fun xs H Q=>∃ p hi,xs = [.ref p]/\H p=some (.rng 0 hi)/\0<=hi/\hi<=1000/\∀ l,H l=none->Q #[Su] (mz H l (.lst ((zb3 0 hi.toNat).map V.int)))):=by
 intro mq s σ H xs us Q I r h;obtain⟨p,hi,rfl,hp,h0,h1,q⟩:=h;obtain⟨u,rfl,rx⟩:=vals1 r;cases rx;obtain⟨t,u',v,e⟩:=(show zW X.prog X.w H s.heap p (.rng 0 hi) from I.hok p _ hp);have qj:=aS;refine call_list_range (n:=hi.toNat) #[Rq] (show IsRange s.heap p 0 hi 1 t u' v from e) (small_one #[O] #[O] #[O] #[O]) (by rw [rangeSize_one]; split <;> lia) #[O] fun h' tk CU c' kk ho vV=>?_
 have hv:=zfl (lo:=0) (n:=hi.toNat) vV;refine⟨.ref s.heap.objs.size,_,I.laid kk (ai _) ?_,rfl,q _ I.fresh⟩;exact⟨by rw [ae,zc0]; lia,CU.toList,c',hv,by simpa using ho⟩
noncomputable def zp0 (K:af) (tl:TE):TI:=fun σ H R=>tl σ H fun x H1=>∃ a,x = .ref a/\(((∃ xs,mB K H1 a xs)/\R #[W5] H1)\/((∃ xs,mK K H1 a xs)/\R (Itt K a) H1))
theorem zoi {X:Cx} {tg l:Expr} {tl:TE} (hl:PE X l tl):PI X tg l (zp0 X.K tl):=by
 intro mq s σ H R I h;refine thn #[Vz] fun v s1 ⟨x,H1,I1,r1,q1⟩=>?_
 obtain⟨a,e,q⟩:=q1;subst e;cases r1;rcases q with ⟨⟨xs,hq⟩,q⟩ | ⟨⟨xs,hq⟩,q⟩
 ·obtain⟨mC,rv,p,hz⟩:=I1.list hq;refine ib p.isList ?_;refine⟨s1.heap.objs.size,[s1.heap.objs.size],_,_,H1,rfl,I1.kept (t':=s1.toks) fun b o e=>ah _ e,zfw a _,⟨_,az _ rfl,rfl,rfl⟩,fun b hb=>?_,q⟩;have e:b=s1.heap.objs.size:=by simpa using hb
  subst e;exact I1.Nv (ai _) #[Ry]
 ·obtain⟨mC,rv,p,hz⟩:=I1.tuple hq;refine kg (show s1.heap.IsTuple a mC.toArray from p) ?_;refine⟨s1.heap.objs.size,[s1.heap.objs.size],_,_,H1,rfl,I1.kept (t':=s1.toks) fun b o e=>ah _ e,zhX a _,⟨_,az _ rfl,rfl,rfl⟩,fun b hb=>?_,q⟩;have e:b=s1.heap.objs.size:=by simpa using hb
  subst e;exact I1.Nv (ai _) #[Ry]
noncomputable def intsOf:List Expr->Option #[GT]
 | []=>some []
 | .Constant #[WO] _ _ :: r=>(intsOf r).map (i :: ·)
 | _=>none
noncomputable def zfL (ns:List Int):TA:=fun _ H Q=>Q #[wS] H
theorem zlz:∀ (es:List Expr) (ns:List Int),intsOf es=some ns->PA X es (zfL ns):=by
 intro es;induction es with
 | nil =>
  intro ns h;have e:ns = []:=(aN h).symm;subst e;exact zf
 | cons e r ih =>
  intro ns h;unfold intsOf at h;split at h
  ·rename_i heq
   cases heq
  ·rename_i i j p r' heq
   injection heq with e1 e2
   subst e1 e2;cases hr:intsOf r with
   | none=>rw [hr] at h; cases h
   | some ms =>
    rw [hr] at h;have e:i :: ms=ns:=aN h;subst e;exact za zh (ih ms hr)
  ·cases h
theorem zmP {X:Cx} {es:List Expr} {ns:List Int} (h:intsOf es=some ns):PA X es (zfL ns):=zlz es ns h
theorem zg4 {X:Cx} {i:Int} {j:Nat} {p:Pos} {es:List Expr} {t:TA} (hr:PA X es t):PA X (.Constant #[WO] j p :: es) (ziP (tC #[WO]) t):=za zh hr
theorem zlA {X:Cx} {i:Nat} {x:Str} {pos' pL qi:Pos} {rest:List Stmt} {u:TS} {es:List Expr} {ns:List Int} (h:intsOf es=some ns) (hN:X.N.Nodup) (hi:X.N[i]? = some x) (hx:Loc X.env.scope x)
  (hf:X.fn x=true\/X.env.scope.names.lookup x=some .local) (hr:PSs X rest u):PSs X (.Assign [.Name x pos'] #[UJ] qi :: rest) (zax (zfg (zh7 (zfL ns)) (zaD i)) u):=by
 have h1:PE X #[UJ] (zh7 (zfL ns)):=@zK X es (zfL ns) pL (@zmP X es ns h);have h2:PS X (.Assign [.Name x pos'] #[UJ] qi) (zfg (zh7 (zfL ns)) (zaD i)):=zr hN hi hx h1 (by rfl) hf;exact ze h2 hr
section
variable {X:Cx} {K:af}
theorem zbg (hK:X.K=K):IxR X (zpe K):=by subst hK; exact zC
theorem zaI (hK:X.K=K):IxR X (zpf K):=by subst hK; exact zaj
noncomputable def zpl (K:af):List V->Hp->VK->Prop:=fun xs H Q=>∃ p ys,xs = [.ref p]/\(mB K H p ys\/mK K H p ys)/\Q (.int ys.length) H
theorem za0 (hK:X.K=K):zbj X (.builtin "len") (zpl K):=by subst hK; exact zB
theorem zbu {es:List Expr} {k:Nat} {t:TGs} {n:Nat} {pos:Pos} (hK:X.K=K) (hc:X.calm=true) (h:PGs X es t)
  (hn:#[So].length=n:=by rfl) (oj:#[So].findIdx? (·.1)=none:=by rfl):PG X #[SG] (zhW K n t):=by subst hK; exact zbe hc h hn oj
theorem zoj {o e:Expr} {es:List Expr} {to:TE} {t:TA} {name:Str} {apos oz:Pos} {T id:String} {r:V->List V->Hp->VK->Prop} (hK:X.K=K) (pa:PlainAttrs T) (slot:Slot T name id) (EG:typeOf #[Tf]=pure (.type "method_descriptor")) (hm:MtR X id r) (ho:PE X o to) (ha:PA X (e :: es) t)
  (uM:attributeBase o name X.env #[Wn]=eval o X.env:=by rfl)
  (rJ:((backTo oz #[Sw]).all (fun x=>!x.1) && (backToKw oz (keywordEach [] X.env)).all (fun x=>x.1.isSome)
   && decide ((e :: es).length+([]:List Keyword).length+(if ([]:List Keyword).isEmpty then 0 else 1) < 30))=true:=by rfl)
  (uN:(apos.endLine == oz.line)=true:=by rfl) (hs:starEach (e :: es) X.env=#[Do] :: starEach es X.env:=by rfl) (vS:#[Tp].any (·.1)=false:=by rfl) :
  PE X (.Call #[UG] (e :: es) [] oz) (tBM K T r to t):=by subst hK; exact zcZ pa slot EG hm ho ha uM rJ uN hs vS
end
end L2
end
section
namespace My
variable {done mO:List (Int×Int)} {z:Int}
noncomputable def Cg (p a b:Int):Prop:=∃ k,a=b+p*k
theorem Cg.refl (p a:Int):Cg p a a:=⟨0,by grind⟩
theorem Cg.symm {p a b:Int} (h:Cg p a b):Cg p b a:=by obtain⟨k,e⟩:=h; exact⟨-k,by grind⟩
theorem Cg.trans {p a b c:Int} (h:Cg p a b) (h':Cg p b c):Cg p a c:=by
 obtain⟨k,e⟩:=h; obtain⟨l,e'⟩:=h'; exact⟨k+l,by grind⟩
theorem Cg.add {p a b c d:Int} (h:Cg p a b) (h':Cg p c d):Cg p (a+c) (b+d):=by
 obtain⟨k,e⟩:=h; obtain⟨l,e'⟩:=h'; exact⟨k+l,by grind⟩
theorem Cg.sub {p a b c d:Int} (h:Cg p a b) (h':Cg p c d):Cg p (a - c) (b - d):=by
 obtain⟨k,e⟩:=h; obtain⟨l,e'⟩:=h'; exact⟨k - l,by grind⟩
theorem Cg.mul {p a b c d:Int} (h:Cg p a b) (h':Cg p c d):Cg p (a*c) (b*d):=by
 obtain⟨k,e⟩:=h; obtain⟨l,e'⟩:=h';exact⟨k*d+b*l+p*k*l,by subst e e'; grind⟩
theorem Cg.of_eq {p a b:Int} (h:a=b):Cg p a b:=h ▸ Cg.refl p a
theorem Cg.emod (p a:Int):Cg p (a % p) a:=⟨-(a / p),by have:=Int.emod_add_mul_ediv a p; grind⟩
theorem Cg.mod_eq {p a b:Int} (h:Cg p a b):a % p=b % p:=by
 obtain⟨k,e⟩:=h; rw [e,Int.add_mul_emod_self_left]
theorem Cg.N0 {p a b:Int} (h:a % p=b % p):Cg p a b:=(Cg.emod p a).symm.trans (h ▸ Cg.emod p b)
theorem Cg.eq {p a b:Int} (h:Cg p a b) (ha:0<=a) (EZ:a < p) (hb:0<=b) (tQ:b < p):a=b:=by
 have:=h.mod_eq
 rwa [dD ha EZ,dD hb tQ] at this
noncomputable def zw (p x:Int):List Int->Int
 | []=>0
 | c :: r=>(c+x*zw p x r) % p
theorem zbS {p x:Int} (hp:0 < p):∀ l,0<=zw p x l
 | []=>cQ 0
 | _ :: _=>aQ _ #[O]
theorem zbT {p x:Int} (hp:0 < p):∀ l,zw p x l < p
 | []=>hp
 | _ :: _=>aK _ hp
theorem zac (p x c:Int) (r:List Int):Cg p (zw p x (c :: r)) (c+x*zw p x r):=Cg.emod _ _
theorem zih {p x:Int} (m:Nat):zw p x (ak m 0)=0:=by
 induction m with
 | zero=>rfl
 | succ m ih=>rw [bo]; show (0+x*zw p x (ak m 0)) % p=0; rw [ih]; simp
theorem zg5 {p x:Int} (m:Nat):∀ l,zw p x (l++ak m 0)=zw p x l
 | []=>zih m
 | c :: r=>by show (c+x*zw p x (r++ak m 0)) % p=(c+x*zw p x r) % p; rw [zg5 m r]
noncomputable def lv (p x:Int):Int->Int->List Int->Int
 | mR,_,[]=>mR
 | mR,power,c :: r=>lv p x ((mR+c*power) % p) (power*x % p) r
theorem znM {p x:Int}:∀ (l:List Int) (mR power:Int),Cg p (lv p x mR power l) (mR+power*zw p x l)
 | [],mR,power=>Cg.of_eq (by show mR=mR+power*0; grind)
 | c :: r,mR,power=>by
  have h1:=znM (p:=p) (x:=x) r ((mR+c*power) % p) (power*x % p);refine h1.trans ?_;have h2:Cg p ((mR+c*power) % p+power*x % p*zw p x r) (mR+c*power+power*x*zw p x r):=#[UI].add ((Cg.emod p (power*x)).mul #[Sc]);refine h2.trans ?_;have h3:Cg p (mR+power*(c+x*zw p x r)) (mR+power*zw p x (c :: r)):=#[Sc].add (#[Sc].mul (zac p x c r).symm);refine (Cg.of_eq ?_).trans h3;grind
theorem zlB {p x:Int} (hp:0 < p):∀ (l:List Int) (mR power:Int),0<=mR->mR < p->0<=lv p x mR power l/\lv p x mR power l < p
 | [],mR,power,h1,h2=>⟨h1,h2⟩
 | c :: r,mR,power,h1,h2=>zlB hp r _ _ (aQ _ #[O]) (aK _ hp)
theorem ziZ {p x:Int} (hp:0 < p) (l:List Int):lv p x 0 1 l=zw p x l:=by
 obtain⟨a,b⟩:=zlB (x:=x) hp l 0 1 (cQ _) hp;exact ((znM l 0 1).trans (Cg.of_eq (by grind))).eq a b (zbS hp l) (zbT hp l)
noncomputable def zG:List Int:=[5,7,11,13,17,19,23,29,31,37,41,43,47,53,59,61,67,71,73,79,83,89,97]
noncomputable def zcO (p:Int):Nat->Int->Int->Int->Int
 | 0,prod,_,_=>prod
 | n+1,prod,sq,left=>if 0 < left then zcO p n (if left % 2=1 then prod*sq % p else prod) (sq*sq % p) (left / 2) else prod
noncomputable def inv (p h:Int):Int:=zcO p 7 1 (h % p) (p - 2)
noncomputable def zp1:Bool:=zG.all fun p=>(bd p.toNat).all fun h=>h == 0 || (inv p h*h) % p == 1
theorem zjY:zp1=true:=by decide +kernel
theorem zQ {p:Int} (hp:p∈zG):5<=p/\p<=97:=by
 have:zG.all (fun p=>decide (5<=p/\p<=97))=true:=by decide +kernel
 have:=cT.mp this p hp;simpa using this
theorem zgg {p h:Int} (hp:p∈zG) (h0:0 < h) (h1:h < p):Cg p (inv p h*h) 1:=by
 have e:=cT.mp (cT.mp zjY p hp) h.toNat (bN.mpr #[O]);have hh:((h.toNat:Nat):Int)=h:=by lia
 have:h.toNat≠0:=by lia
 simp only [bA,beq_iff_eq,hh,this,false_or] at e;have hr:=zQ hp;exact Cg.N0 (by rw [e,dD #[O] #[O]])
theorem zg6 {p a b:Int} (hp:p∈zG) (h:Cg p (a*b) 0):Cg p a 0\/Cg p b 0:=by
 have hr:=zQ hp;by_cases ha:a % p=0
 ·exact .inl (Cg.N0 (by rw [ha]; simp))
 ·right;have h0:0 < a % p:=by have:=aQ a (show p≠0 by lia); lia
  have hi:=zgg hp h0 (aK a #[O]);have h1:Cg p (inv p (a % p)*(a*b)) 0:=(#[Sc].mul h).trans (Cg.of_eq (by grind));have h2:Cg p (inv p (a % p)*(a % p)*b) (1*b):=hi.mul (Cg.refl p b);have h3:Cg p (inv p (a % p)*(a*b)) (inv p (a % p)*(a % p)*b):=by
   have:=((Cg.refl p (inv p (a % p))).mul (Cg.emod p a).symm).mul (Cg.refl p b);exact (Cg.of_eq (by grind)).trans this
  exact ((Cg.of_eq (by grind)).trans (h2.symm.trans (h3.symm.trans h1)))
noncomputable def trF (p r:Int) (high low:Int):Int:=(high - r*low) % p
noncomputable def zc1 (p r:Int) (v:List Int):List Int:=aU #[Va] (0 :: v) (v++[0])
theorem znN {p r z:Int}:∀ (v:List Int) (h:Int),Cg p (zw p z (aU #[Va] (h :: v) (v++[0]))) (h+(z - r)*zw p z v)
 | [],h=>by
  show Cg p ((trF p r h 0+z*0) % p) (h+(z - r)*0);refine #[UI].trans ?_;have:Cg p (trF p r h 0) (h - r*0):=Cg.emod p _;exact (this.add (Cg.refl p (z*0))).trans (Cg.of_eq (by grind))
 | c :: w,h=>by
  show Cg p ((trF p r h c+z*zw p z (aU #[Va] (c :: w) (w++[0]))) % p) (h+(z - r)*zw p z (c :: w));have ih:=znN (p:=p) (r:=r) (z:=z) w c;have h1:Cg p (trF p r h c) (h - r*c):=Cg.emod p _;refine #[UI].trans ((h1.add ((Cg.refl p z).mul ih)).trans ?_);have h2:Cg p (h+(z - r)*(c+z*zw p z w)) (h+(z - r)*zw p z (c :: w)):=(Cg.refl p h).add (#[Sc].mul (zac p z c w).symm);exact (Cg.of_eq (by grind)).trans h2
theorem zmQ {p r:Int} (v:List Int):Cg p (zw p z (zc1 p r v)) ((z - r)*zw p z v):=(znN v 0).trans (Cg.of_eq (by grind))
theorem zfM (p r:Int) (v:List Int):(zc1 p r v).length=v.length+1:=by simp [zc1]
theorem zg7 {α β γ:Type} {f:α->β->γ}:∀ {as:List α} {bs:List β} {c:γ},c∈aU f as bs->∃ a b,c=f a b
 | [],_,c,h=>by simp at h
 | _ :: _,[],c,h=>by simp at h
 | a :: as,b :: bs,c,h=>by
  rcases av.mp h with e | e
  ·exact⟨a,b,e⟩
  ·exact zg7 e
theorem zok {p r:Int} (hp:0 < p) (v:List Int):∀ c∈zc1 p r v,0<=c/\c < p:=by
 intro c hc;obtain⟨a,b,e⟩:=zg7 hc;rw [e]; exact⟨aQ _ #[O],aK _ hp⟩
noncomputable def ad (p f:Int):List Int->List Int->List Int
 | c :: cs,v :: vs=>(c+f*v) % p :: ad p f cs vs
 | cs,[]=>cs
 | [],_ :: _=>[]
theorem zfN (p f:Int):∀ (cs vs:List Int),#[Wq].length=cs.length
 | _ :: cs,_ :: vs=>by show #[Wq].length+1=_; rw [zfN p f cs vs]; rfl
 | [],[]=>rfl
 | _ :: _,[]=>rfl
 | [],_ :: _=>rfl
theorem zlC {p f:Int} (hp:0 < p):∀ (cs vs:List Int),(∀ c∈cs,0<=c/\c < p)->∀ c∈ad p f cs vs,0<=c/\c < p
 | c :: cs,v :: vs,h,d,hd=>by
  rcases av.mp hd with e | e
  ·rw [e]; exact⟨aQ _ #[O],aK _ hp⟩
  ·exact zlC hp cs vs (fun c hc=>h c (ar _ hc)) d e
 | [],[],h,d,hd=>h d hd
 | _ :: _,[],h,d,hd=>h d hd
 | [],_ :: _,h,d,hd=>by cases hd
theorem zi0 {p f z:Int}:∀ (cs vs:List Int),vs.length<=cs.length->Cg p (zw p z #[Wq]) (zw p z cs+f*zw p z vs)
 | c :: cs,v :: vs,h=>by
  have ih:=zi0 (p:=p) (f:=f) (z:=z) cs vs (by simpa using h);show Cg p (((c+f*v) % p+z*zw p z #[Wq]) % p) (zw p z (c :: cs)+f*zw p z (v :: vs));refine #[UI].trans (((Cg.emod p (c+f*v)).add ((Cg.refl p z).mul ih)).trans ?_);have h2:Cg p ((c+z*zw p z cs)+f*(v+z*zw p z vs)) (zw p z (c :: cs)+f*zw p z (v :: vs)):=(zac p z c cs).symm.add ((Cg.refl p f).mul (zac p z v vs).symm);exact (Cg.of_eq (by grind)).trans h2
 | [],[],_=>Cg.of_eq (by show (0:Int)=0+f*0; grind)
 | c :: cs,[],_=>Cg.of_eq (by show zw p z (c :: cs)=zw p z (c :: cs)+f*0; grind)
 | [],_ :: _,h=>by simp at h
noncomputable def zbU (p:Int) (s:List Int×List Int) (q:Int×Int):List Int×List Int :=
 (ad p ((q.2 - zw p q.1 s.1)*inv p (zw p q.1 s.2) % p) s.1 s.2,zc1 p q.1 s.2)
noncomputable def zpm (p:Int) (n:Nat) (mO:List (Int×Int)):List Int×List Int:=mO.foldl (zbU p) (ak n 0,[1])
noncomputable def thr (p:Int) (mO:List (Int×Int)):List Int:=(zpm p mO.length mO).1
noncomputable def zcG (z:Int):List (Int×Int)->Int
 | []=>1
 | q :: r=>(z - q.1)*zcG z r
theorem zeF (z:Int) (q:Int×Int):∀ l,zcG z (l++[q])=zcG z l*(z - q.1)
 | []=>by show (z - q.1)*1=1*(z - q.1); grind
 | a :: l=>by show (z - a.1)*zcG z (l++[q])=(z - a.1)*zcG z l*(z - q.1); rw [zeF z q l]; grind
theorem zeG {z:Int}:∀ {l:List (Int×Int)},(∃ q∈l,q.1=z)->zcG z l=0
 | [],h=>by obtain⟨q,hq,_⟩:=h; cases hq
 | a :: l,h=>by
  show (z - a.1)*zcG z l=0;obtain⟨q,hq,e⟩:=h;rcases av.mp hq with hq | hq
  ·subst hq; rw [e]; simp
  ·rw [zeG ⟨q,hq,e⟩]; simp
theorem zg8 {p z:Int} (hp:p∈zG) (hz:0<=z) (Gr:z < p):∀ {l:List (Int×Int)},(∀ q∈l,0<=q.1/\q.1 < p/\q.1≠z)->¬ Cg p (zcG z l) 0
 | [],_,h=>by
  have hr:=zQ hp;have:=h.mod_eq;have e1:(zcG z []:Int)=1:=rfl;rw [e1,dD #[O] #[O]] at this;simp at this
 | a :: l,hl,h=>by
  rcases zg6 hp (show Cg p ((z - a.1)*zcG z l) 0 from h) with h | h
  ·obtain⟨h1,h2,h3⟩:=hl a aA;have:Cg p z a.1:=by
    have:=h.add (Cg.refl p a.1);exact (Cg.of_eq (by grind)).trans (this.trans (Cg.of_eq (by grind)))
   exact h3 (this.eq hz Gr h1 h2).symm
  ·exact zg8 hp hz Gr (fun q hq=>hl q (ar _ hq)) h
structure Nw (p:Int) (n:Nat) (done:List (Int×Int)) (s:List Int×List Int):Prop where
 lc:s.1.length=n
 lv:s.2.length=done.length+1
 rc:∀ c∈s.1,0<=c/\c < p
 rv:∀ c∈s.2,0<=c/\c < p
 van:∀ z,Cg p (zw p z s.2) (zcG z done)
 hit:∀ q∈done,zw p q.1 s.1=q.2
theorem zeH {p:Int} (hp:p∈zG) (n:Nat):Nw p n [] (ak n 0,[1]):=by
 have hr:=zQ hp;refine⟨#[M],rfl,fun c hc=>?_,fun c hc=>?_,fun z=>?_,fun q hq=>by cases hq⟩
 ·obtain⟨_,e⟩:=List.mem_replicate.mp hc;lia
 ·have:c=1:=by simpa using hc
  lia
 ·show Cg p ((1+z*0) % p) 1;exact #[UI].trans (Cg.of_eq (by grind))
theorem zgh {p:Int} {n:Nat} {s:List Int×List Int} (hp:p∈zG) (h:Nw p n done s) {q:Int×Int} (q0:0<=q.1) (q1:q.1 < p) (hd:∀ a∈done,0<=a.1/\a.1 < p/\a.1≠q.1) :
  0 < zw p q.1 s.2/\zw p q.1 s.2 < p:=by
 have hr:=zQ hp;refine⟨?_,zbT #[O] _⟩;have h0:=zbS (x:=q.1) (show 0 < p by lia) s.2;by_cases e:zw p q.1 s.2=0
 ·exact absurd ((h.van q.1).symm.trans (Cg.of_eq e)) (zg8 hp q0 q1 hd)
 ·lia
theorem zfO {p:Int} {n:Nat} {s:List Int×List Int} (hp:p∈zG) (h:Nw p n done s) {q:Int×Int} (q0:0<=q.1) (q1:q.1 < p) (hd:∀ a∈done,0<=a.1/\a.1 < p/\a.1≠q.1) :
  Cg p ((q.2 - zw p q.1 s.1)*inv p (zw p q.1 s.2) % p*zw p q.1 s.2) (q.2 - zw p q.1 s.1):=by
 obtain⟨h0,h1⟩:=zgh hp h q0 q1 hd;have hi:=zgg hp h0 h1;refine (#[UI].mul #[Sc]).trans ?_;have:=(Cg.refl p (q.2 - zw p q.1 s.1)).mul hi;exact (Cg.of_eq (by grind)).trans (this.trans (Cg.of_eq (by grind)))
theorem zgi {p:Int} {n:Nat} {s:List Int×List Int} (hp:p∈zG) (h:Nw p n done s) {q:Int×Int} (hn:done.length < n) (q0:0<=q.1) (q1:q.1 < p) (q2:0<=q.2) (q3:q.2 < p)
  (hd:∀ a∈done,0<=a.1/\a.1 < p/\a.1≠q.1/\0<=a.2/\a.2 < p):Nw p n (done++[q]) (zbU p s q):=by
 have hr:=zQ hp;have AR:∀ a∈done,0<=a.1/\a.1 < p/\a.1≠q.1:=fun a ha=>⟨(hd a ha).1,(hd a ha).2.1,(hd a ha).2.2.1⟩
 have hlv:=h.lv;have hlc:=h.lc;have hle:s.2.length<=s.1.length:=by lia
 refine⟨by show (ad _ _ _ _).length=n; rw [zfN,h.lc],by show (zc1 _ _ _).length=_; rw [zfM,h.lv,aH,fZ],zlC #[O] _ _ h.rc,zok #[O] _,fun z=>?_,fun a ha=>?_⟩
 ·rw [zeF];exact (zmQ s.2).trans ((#[Sc].mul (h.van z)).trans (Cg.of_eq (by grind)))
 ·have hv:=zi0 (p:=p) (f:=(q.2 - zw p q.1 s.1)*inv p (zw p q.1 s.2) % p) (z:=a.1) s.1 s.2 hle; rcases aC.mp ha with ha | ha
  ·obtain⟨b0,b1,b2,b3,b4⟩:=hd a ha;have hz:Cg p (zw p a.1 s.2) 0:=(h.van a.1).trans (Cg.of_eq (zeG ⟨a,ha,rfl⟩));have h2:Cg p (zw p a.1 (ad p ((q.2 - zw p q.1 s.1)*inv p (zw p q.1 s.2) % p) s.1 s.2)) (zw p a.1 s.1):=hv.trans (((Cg.refl p (zw p a.1 s.1)).add (#[Sc].mul hz)).trans (Cg.of_eq (by rw [Int.mul_zero,Int.add_zero])));rw [h.hit a ha] at h2;exact h2.eq (zbS #[O] _) (zbT #[O] _) b3 b4
  ·have e:a=q:=by simpa using ha
   subst e;have h2:Cg p (zw p a.1 (ad p ((a.2 - zw p a.1 s.1)*inv p (zw p a.1 s.2) % p) s.1 s.2)) a.2:=hv.trans (((Cg.refl p (zw p a.1 s.1)).add (zfO hp h q0 q1 AR)).trans #[Rx]);exact h2.eq (zbS #[O] _) (zbT #[O] _) q2 q3
structure Pts (p:Int) (mO:List (Int×Int)):Prop where
 nd:(mO.map (·.1)).Nodup
 rg:∀ q∈mO,0<=q.1/\q.1 < p/\0<=q.2/\q.2 < p
theorem Pts.apart {p:Int} {rest:List (Int×Int)} {q:Int×Int} (h:Pts p (done++q :: rest)):∀ a∈done,0<=a.1/\a.1 < p/\a.1≠q.1/\0<=a.2/\a.2 < p:=fun a ha=>by
 obtain⟨r1,r2,r3,r4⟩:=h.rg a (aD _ ha);refine⟨r1,r2,fun e=>?_,r3,r4⟩;have nd:=h.nd;rw [aw,fu] at nd;exact nd.2.2 a.1 (aZ.mpr ⟨a,ha,rfl⟩) q.1 #[M] e
theorem zlD {p:Int} (hp:p∈zG) {n:Nat}:∀ (rest done:List (Int×Int)) (s:List Int×List Int),Pts p (done++rest)->(done++rest).length=n->Nw p n done s->Nw p n (done++rest) (rest.foldl (zbU p) s)
 | [],done,s,_,_,h=>by rw [cv]; exact h
 | q :: rest,done,s,hP,hn,h=>by
  have BX:done.length < n:=by rw [<- hn]; simp
  obtain⟨a,b,c,d⟩:=hP.rg q #[M];have hs:=zgi hp h (q:=q) BX a b c d hP.apart;have e:done++q :: rest=(done++[q])++rest:=by simp
  rw [e] at hP hn |-;exact zlD hp rest (done++[q]) _ hP hn hs
theorem zii {p:Int} (hp:p∈zG) (hP:Pts p mO):(thr p mO).length=mO.length/\(∀ c∈thr p mO,0<=c/\c < p)/\∀ q∈mO,zw p q.1 (thr p mO)=q.2:=by
 have h:=zlD hp (n:=mO.length) mO [] _ (by simpa using hP) #[M] (zeH hp mO.length);exact⟨h.lc,h.rc,h.hit⟩
theorem zjZ {p high step f m:Int} (hp:p∈zG) (h0:0 < high) (h1:high < p) (hf:Cg p (f*high) step) (hm:Cg p (m*high) step) (f0:0<=f) (f1:f < p) (m0:0<=m) (m1:m < p):f=m:=by
 have hi:=zgg hp h0 h1;have h2:Cg p (f*high) (m*high):=hf.trans hm.symm;have h3:=(Cg.refl p (inv p high)).mul h2;have h4:Cg p (inv p high*high*f) (1*f):=hi.mul (Cg.refl p f);have h5:Cg p (inv p high*high*m) (1*m):=hi.mul (Cg.refl p m);have h6:Cg p f m:=(Cg.of_eq (by grind)).trans (h4.symm.trans ((Cg.of_eq (by grind)).trans (h3.trans ((Cg.of_eq (by grind)).trans (h5.trans (Cg.of_eq (by grind)))))));exact h6.eq f0 f1 m0 m1
theorem zgj {p f:Int} (hp:0 < p):∀ (cs vs:List Int) (m:Nat),(∀ c∈cs,0<=c/\c < p)->cs.length<=vs.length+m->vs.length<=cs.length->aU (fun one other=>(one+f*other) % p) cs (vs++ak m 0)=ad p f cs vs
 | c :: cs,v :: vs,m,h,h1,h2=>by
  show (c+f*v) % p :: aU _ cs (vs++ak m 0)=(c+f*v) % p :: ad p f cs vs;rw [zgj hp cs vs m (fun d hd=>h d (ar _ hd)) (by simp at h1; lia) (by simpa using h2)]
 | [],[],m,_,_,_=>by simp [ad]
 | [],_ :: _,_,_,_,h2=>by simp at h2
 | c :: cs,[],m,h,h1,h2=>by
  cases m with
  | zero=>simp at h1
  | succ m =>
   obtain⟨c0,c1⟩:=h c aA;have ih:=zgj (f:=f) hp cs [] m (fun d hd=>h d (ar _ hd)) (by simp at h1 |-; lia) #[M];have e:ad p f cs []=cs:=by cases cs <;> rfl
   rw [e,gf] at ih;rw [gf,bo];show (c+f*0) % p :: aU _ cs (ak m 0)=c :: cs;rw [ih,Int.mul_zero,Int.add_zero,dD c0 c1]
theorem zfP {p r:Int}:∀ m:Nat,aU #[Va] (ak (m+1) 0) (ak m 0)=ak m 0
 | 0=>by simp
 | m+1=>by
  rw [bo (n:=m+1),bo (n:=m)];show trF p r 0 0 :: aU #[Va] (0 :: ak m 0) (ak m 0)=0 :: ak m 0;have:=zfP (p:=p) (r:=r) m;rw [bo] at this;rw [this];have e:trF p r 0 0=0:=by simp [trF]
  rw [e]
theorem zi1 {p r:Int} (m:Nat):∀ (v:List Int) (h:Int),aU #[Va] (h :: #[W8]) #[W8]=aU #[Va] (h :: v) (v++[0])++ak m 0
 | [],h=>by
  rw [gf,bo];show trF p r h 0 :: aU #[Va] (0 :: ak m 0) (ak m 0)=trF p r h 0 :: ak m 0;have:=zfP (p:=p) (r:=r) m;rw [bo] at this;rw [this]
 | c :: v,h=>by
  show trF p r h c :: aU #[Va] (c :: #[W8]) #[W8]=trF p r h c :: (aU #[Va] (c :: v) (v++[0])++ak m 0);rw [zi1 m v c]
end My
end
section
namespace My
open PySem L2 PyProof.Rows
variable {H H':Hp} {K:af} {as cs ns:List Int} {j k:Nat} {te:TE} {ts:TT} {y:V}
section
variable {K:af}
theorem zlE {k:Int} (h0:0<=k) (h1:k < ns.length):∃ c:Int,ns[k.toNat]? = some c/\atI #[wS] k=some (.int c):=by
 have mW:k.toNat < ns.length:=by lia
 have e:atI #[wS] ((k.toNat:Nat):Int)=some (.int ns[k.toNat]):=zab (by simp [ao,aF mW]);have hk:((k.toNat:Nat):Int)=k:=by lia
 rw [hk] at e;exact⟨ns[k.toNat],#[M],e⟩
theorem zbV {k:Int} (h0:0<=k) (h1:k < ns.length):∃ c:Int,atI #[wS] k=some (.int c):=let ⟨c,_,e⟩:=zlE h0 h1; ⟨c,e⟩
theorem zd {a:Addr} {o:HO} (h:H a=none):zy H #[Ti]:=fun b u e=>by rw [zg (zj e h)]; exact e
theorem zaR {a:Addr} {o:HO} (s:zy H H') (h:H a=none):zy H (mz H' a o):=fun b u e=>by rw [zg (zj e h)]; exact s b u e
theorem zaA {n:Nat} (h:n<=10000):n < sizeLine:=by rw [aS]; lia
noncomputable def zj0 (K:af):Sp:=fun vs H Q _=>∃ (a:Addr) (ns:List Int) (k:Int),vs = [.ref a,.int k]/\mB K H a #[wS]/\ns.length<=63/\0<=k/\k<=1000/\∀ c:Int,Q (.int c) H
noncomputable def zi2 (many:Nat) (base:Int) (ds:List Int):Prop:=ds.length=many/\∀ d∈ds,0<=d/\d < base
noncomputable def zij (K:af):Sp:=fun vs H Q _=>∃ (a:Addr) (ns:List Int) (k many base:Int),vs = [.ref a,.int k,.int many,.int base]/\mB K H a #[wS]/\ns.length<=63/\0<=k/\k<=1000/\0<=many/\many<=1000/\0 < base/\base < 1073741824 /\
 ∀ (l:Addr) (ds:List Int) (H':Hp),H l=none->zy H H'->zi2 many.toNat base ds->H' l=some #[Sv]->Q #[Su] H'
abbrev zmR:List V:=[.int 2147483647,.int 2147483629,.int 2147483587,.int 2147483579,.int 2147483563,.int 2147483549,.int 2147483543,.int 2147483497]
theorem zmS {m:Int} (h0:0<=m) (h1:m < 8):∃ q:Int,atI zmR m=some (.int q)/\0 < q/\q < 2147483648:=by
 have:m=0\/m=1\/m=2\/m=3\/m=4\/m=5\/m=6\/m=7:=by lia
 rcases this with e | e | e | e | e | e | e | e <;> subst e <;> exact⟨_,rfl,#[D],#[D]⟩
theorem zeI (j:Int):∃ q:Int,atI zmR (j % 8)=some (.int q)/\0 < q/\q < 2147483648:=zmS (aQ _ #[D]) (aK _ #[D])
theorem gY {i:Nat} {x:V} {σ:L2.St} {A B:L2.St->Hp->Prop} (h:A #[Sd] H):zaD i x σ H (fun σ2 H2=>zob σ2 H2 fun b H3=>if b=true then A σ2 H3 else B σ2 H3):=by
 show (if true=true then A #[Sd] H else B #[Sd] H);rw [if_pos rfl];exact h
structure Pf (mk mn p k:Int) (pl:List Int):Prop where
 pr:p∈zG
 k1:1<=k
 kk:k<=mk
 kl:k<=pl.length
 ln:(pl.length:Int)<=mn
 nd:pl.Nodup
 rg:∀ x∈pl,0<=x/\x < p
noncomputable def zj1 (K:af):Sp:=fun vs H Q _=>∃ (a:Addr) (ns:List Int) (at' mk mn:Int),vs = [.ref a,.int at',.int mk,.int mn]/\mB K H a #[wS]/\ns.length<=63/\0<=at'/\at'<=1000/\1<=mk/\mk<=5/\mk<=mn/\mn<=16 /\
 ∀ (c tt:Addr) (p k:Int) (pl:List Int) (H':Hp),H c=none->zy H H'->Pf mk mn p k pl->H' c=some (.tup [.int p,.int k,.ref tt])->H' tt=some (.tup #[Um])->Q #[UX] H'
theorem zol {x y m:Int} (h0:0<=m) (h1:m < 2):∃ z:Int,atI [V.int x,V.int y] m=some (.int z)/\(z=x\/z=y):=by
 have:m=0\/m=1:=by lia
 rcases this with e | e <;> subst e
 ·exact⟨x,rfl,.inl rfl⟩
 ·exact⟨y,rfl,.inr rfl⟩
theorem zlF {k:Int} (h0:0<=k) (h1:k < ns.length):∃ c:Int,c∈ns/\atI #[wS] k=some (.int c):=by
 obtain⟨c,e,h⟩:=zlE h0 h1;exact⟨c,aP e,h⟩
theorem zfQ {α β:Type} (f:α->β):∀ (l:List α) (k:Nat),(l.map f).eraseIdx k=(l.eraseIdx k).map f
 | [],_=>rfl
 | _ :: _,0=>rfl
 | a :: l,k+1=>by show f a :: (l.map f).eraseIdx k=f a :: (l.eraseIdx k).map f; rw [zfQ f l k]
theorem KD {α:Type}:∀ {l:List α} {k:Nat} {x:α},l[k]? = some x->(x :: l.eraseIdx k).Perm l
 | [],_,_,h=>by simp at h
 | a :: l,0,x,h=>by
  have e:a=x:=by simpa using h
  subst e;exact List.Perm.refl _
 | a :: l,k+1,x,h=>by
  have ih:=KD (l:=l) (k:=k) (x:=x) (by simpa using h);exact (lJ a x _).trans (ih.cons a)
theorem zmT {p:Int} {xs ls:List Int} {x:Int} (h:ls[k]? = some x) (nd:(xs++ls).Nodup) (rg:∀ y∈xs++ls,0<=y/\y < p):((xs++[x])++ls.eraseIdx k).Nodup/\∀ y∈(xs++[x])++ls.eraseIdx k,0<=y/\y < p:=by
 have hp:((xs++[x])++ls.eraseIdx k).Perm (xs++ls):=by
  rw [cu];exact (KD h).append_left xs
 exact⟨hp.nodup_iff.mpr nd,fun y hy=>rg y (hp.mem_iff.mp hy)⟩
theorem zj2 (p:Int):(zb3 0 p.toNat).Nodup/\∀ y∈zb3 0 p.toNat,0<=y/\y < p:=by
 unfold zb3;constructor
 ·rw [hV,dE];exact (hV.mp (List.nodup_range (n:=p.toNat))).imp fun {a b} hab=>by lia
 ·intro y hy;obtain⟨i,hi,e⟩:=aZ.mp hy;have:=bN.mp hi;lia
noncomputable def zdY (K:af):Sp:=fun vs H Q _=>∃ (p x:Int) (a:Addr) (cs:List Int),vs = [.int p,.ref a,.int x]/\(mB K H a #[SA]\/mK K H a #[SA])/\0 < p/\p<=97/\0<=x/\x < p/\Q (.int (zw p x cs)) H
noncomputable def zik (K:af):Sp:=zdY K
theorem zfR {i:Nat} {c:Int} (hi:i < cs.length) (h:cs[cs.length - 1 - i]? = some c):cs.drop (cs.length - (i+1))=c :: cs.drop (cs.length - i):=by
 have e:cs.length - (i+1)=cs.length - 1 - i:=by lia
 have mW:cs.length - 1 - i < cs.length:=by lia
 rw [e,eQ mW];have:cs[cs.length - 1 - i]=c:=by
  rw [aF mW] at h;exact aN h
 rw [this];congr 2;lia
theorem zaJ {x:V} (h:#[SA][j]? = some x):∃ c,x = .int c/\cs[j]? = some c:=by
 rw [ao] at h;cases e:cs[j]? with
 | none=>rw [e] at h; cases h
 | some c=>rw [e] at h; exact⟨c,(aN h).symm,rfl⟩
theorem zi3 {p x mR power c:Int} {i:Nat} (h:cs[i]? = some c):lv p x mR power (cs.drop i)=lv p x ((mR+c*power) % p) (power*x % p) (cs.drop (i+1)):=by
 obtain⟨mW,e⟩:=aj.mp h;rw [eQ mW,e];rfl
noncomputable def zil (K:af):Sp:=fun vs H Q _=>∃ (p h:Int),vs = [.int p,.int h]/\p∈zG/\0<=h/\h < p/\Q (.int (inv p h)) H
noncomputable def zom (σ:L2.St):Nat:=match (σ[4]?:Option (Option V)) with
 | some (some (V.int l))=>l.toNat
 | _=>0
theorem zgk {p prod sq left:Int} {n:Nat} (h0:0 < left) (h1:left < 2 ^ (n+1)):zcO p (n+1) prod sq left=zcO p n (if left % 2=1 then prod*sq % p else prod) (sq*sq % p) (left / 2):=by
 show (if 0 < left then _ else _)=_;rw [if_pos h0]
theorem zg9 {p prod sq:Int}:∀ n,zcO p n prod sq 0=prod
 | 0=>rfl
 | n+1=>by show (if (0:Int) < 0 then _ else prod)=prod; rw [if_neg #[D]]
theorem gY2 {i:Nat} {T:Addr} {x:V} {σ:L2.St} {A B:L2.St->Hp->Prop} (hT:mK K H T [x,y]) (h:A (#[Sd].set j (some y)) H) :
  zhW K 2 #[TN] (.ref T) σ H (fun σ2 H2=>zob σ2 H2 fun b H3=>if b=true then A σ2 H3 else B σ2 H3):=by
 refine⟨T,_,rfl,hT,rfl,x,_,rfl,y,_,rfl,rfl,?_⟩;show (if true=true then A (#[Sd].set j (some y)) H else B (#[Sd].set j (some y)) H);rw [if_pos rfl];exact h
theorem zha {f:Int->Int->Int} {bs:List Int} {i:Nat} {x y:Int} (hx:as[i]? = some x) (hy:bs[i]? = some y):#[Vd].take (i+1)=#[Vd].take i++[f x y]:=by
 have e:#[Vd][i]? = some (f x y):=by rw [List.getElem?_zipWith,hx,hy]
 rw [kE,e,lR]
noncomputable def zfn (K:af):Sp:=fun vs H Q _=>∃ (p r:Int) (a:Addr) (cs:List Int),vs = [.int p,.ref a,.int r]/\H a=some (.lst #[SA])/\cs.length<=1000/\0 < p/\0<=r/\r<=97 /\
 ∀ (l:Addr) (H':Hp),H l=none->zy H H'->H' l=some (.lst ((zc1 p r cs).map V.int))->Q #[Su] H'
noncomputable def zi4 (K:af) (H:Hp) (a:Addr) (mO:List (Int×Int)):Prop:=∃ bs:List Addr,mB K H a #[Uo]/\bs.length=mO.length/\∀ (i:Nat) (b:Addr) (q:Int×Int),bs[i]? = some b->mO[i]? = some q->H b=some (.tup [.int q.1,.int q.2])
theorem zeJ (n:Nat):(ak n [V.int 0]).flatten=(ak n (0:Int)).map V.int:=by
 induction n with
 | zero=>rfl
 | succ n ih=>rw [bo,dB,ih,bo]; rfl
theorem zdl {n:Nat} (h:j < n):ixN n (j:Int)=some j:=by
 unfold ixN;rw [if_pos #[O],if_pos #[O]];rfl
theorem zaB {bs:List Addr} {i:Nat} {x:V} (h:#[Uo][i]? = some x):∃ b,x = .ref b/\bs[i]? = some b:=by
 rw [ao] at h;cases e:bs[i]? with
 | none=>rw [e] at h; cases h
 | some b=>rw [e] at h; exact⟨b,(aN h).symm,rfl⟩
theorem take_snoc {α:Type} {l:List α} {i:Nat} {x:α} (h:l[i]? = some x):l.take (i+1)=l.take i++[x]:=by
 rw [kE,h,lR]
theorem zco {α:Type} {l:List α} {i:Nat} {x:α} (h:l[i]? = some x):l=l.take i++x :: l.drop (i+1):=by
 obtain⟨hi,e⟩:=aj.mp h; have:=jg i l;rw [eQ hi,e] at this;exact this.symm
noncomputable def zim (K:af):Sp:=fun vs H Q _=>∃ (p:Int) (a:Addr) (mO:List (Int×Int)),vs = [.int p,.ref a]/\zi4 K H a mO/\mO.length<=100/\p∈zG/\Pts p mO /\
 ∀ (l:Addr) (H':Hp),H l=none->zy H H'->H' l=some (.tup ((thr p mO).map V.int))->Q #[Su] H'
noncomputable def zgl (K:af):Sp:=zim K
theorem zlG {f:Int->Int->Int} {bs:List Int} {n:Nat} (h1:n<=as.length) (h2:n<=bs.length) (h3:as.length<=n\/bs.length<=n):#[Vd].length=n:=by
 rw [gu];lia
theorem zdN {a b:Addr} {bs:List Int} {n:Nat} {f:Int->Int->Int} {g:TG} {σ0:L2.St} {Q:VK} (ha:H a=some (.lst (as.map V.int))) (hb:H b=some (.lst (bs.map V.int))) (h1:n<=as.length) (h2:n<=bs.length) (h3:as.length<=n\/bs.length<=n) (hn:n<=10000)
  (hs:∀ (i:Nat) (x y:Int) (H1:Hp) (T:Addr) (R:VK) (B:L2.St->Hp->Prop),as[i]? = some x->bs[i]? = some y->zy H H1->H1 T=none->R (.int (f x y)) (mz H1 T (.tup [.int x,.int y]))->g (.ref T) σ0 (mz H1 T (.tup [.int x,.int y])) fun σ2 H2=>ts σ2 H2 fun b H3=>if b=true then te σ2 H3 R else B σ2 H3)
  (hd:∀ D H1,zy H H1->H1 D=none->Q #[QV] (mz H1 D (.lst (#[Vd].map V.int)))):cGo g ts te σ0 (zjU (mB K) (mB K) a b) Q H:=by
 have hl:=zlG (f:=f) h1 h2 h3;refine zgc (n:=n) (fun i ys H'=>ys=(#[Vd].take i).map V.int/\zy H H') ⟨#[M],fun _ _ e=>e⟩ ?_ ?_ ?_ ?_
 ·rintro i ys H3 hi ⟨_,s3⟩;obtain⟨x,hx⟩:∃ x,as[i]? = some x:=⟨as[i]'#[O],#[M]⟩;obtain⟨y,hy⟩:∃ y,bs[i]? = some y:=⟨bs[i]'#[O],#[M]⟩;exact⟨_,_,.int x,.int y,mB.of (s3 _ _ ha),mB.of (s3 _ _ hb),by rw [ao,hx]; rfl,by rw [ao,hy]; rfl⟩
 ·rintro ys H3 ⟨_,s3⟩;exact⟨_,_,mB.of (s3 _ _ ha),mB.of (s3 _ _ hb),by rw [ae,ae]; exact h3⟩
 ·rintro i x ys H3 H4 hi ⟨rfl,s3⟩ ⟨T,u,v,hT,rfl,rfl,hu,hv⟩;obtain⟨x,rfl,hx⟩:=zaJ (hu _ (mB.of (s3 _ _ ha)));obtain⟨y,rfl,hy⟩:=zaJ (hv _ (mB.of (s3 _ _ hb)));refine hs i x y H3 T _ _ hx hy s3 hT ⟨zaA ?_,?_,s3.trans (zd hT)⟩
  ·rw [ae];exact bn (gv _ _) #[O]
  ·rw [zha hx hy,aw];rfl
 ·rintro ys H3 D ⟨rfl,s3⟩ hD;rw [bj #[O]];exact hd D H3 s3 hD
noncomputable def zgm (K:af):Sp:=fun vs H Q _=>∃ (a:Addr) (ns:List Int),vs = [.ref a]/\mB K H a #[wS]/\ns.length<=63/\∀ H',Q (.bl true) H'
end
end My
end
section
namespace PySem
abbrev IsZ (h:Heap) (z TI TO:Addr) (f0 f1:Value):Prop:=h.get? z=some { cls:=.type "zip",dict:=none,data:=.fields #[f0,f1,.bool false,.ref TI,.ref TO],slots:=#[] }
noncomputable def ZF (f0 f1:Value):Prop:=(f0 = .none\/∃ a t,f0 = .int a t)/\∃ b,f1 = .bool b
structure Zap (z TI TO i1 i2:Addr) (sY sZ:List Addr):Prop where
 zTI:TI≠z
 zTO:TO≠z
 z1:i1≠z
 z2:i2≠z
 TT:TI≠TO
 T1:TI≠i1
 T2:TI≠i2
 O1:TO≠i1
 O2:TO≠i2
 ii:i1≠i2
 a1:z∉sY
 a2:TO∉sY
 a3:i2∉sY
 b1:z∉sZ
 b2:TO∉sZ
 b3:i1∉sZ
section
variable {prog:Program} {w:World} {A:Around} {E:Value->Shared->Prop} {s:Shared}
theorem zj3 {a:Addr} {Q:Option Obj->Shared->Prop} (h:Q (s.heap.get? a) s):wpAny #[na] A (loadIfAlive a) Q E s:=fun _ _ _=>h
theorem zlH {z TI TO:Addr} {f0 f1:Value} {Q:Bool->Shared->Prop} (hz:IsZ s.heap z TI TO f0 f1) (hf:ZF f0 f1) (h1:Q true s)
  (h2:∀ h',IsZ h' z TI TO f0 #[Tk]->aX z s.heap h'->Q false { s with heap:=h' }):wpAny #[na] A (bQ #[Uw]) Q E s:=by
 obtain⟨hf,b,rfl⟩:=hf;unfold bQ; rcases hf with rfl | ⟨a,t,rfl⟩
 ·exact aa (bw hz rfl (x:=.none) rfl (ag h1))
 ·refine aa (bw hz rfl (x:=.int a t) rfl ?_);refine aa (zj3 ?_);cases s.heap.get? a.toNat with
  | none=>exact ag h1
  | some o =>
   refine aa (bw hz rfl (x:=.bool b) rfl ?_);cases b with
   | true=>exact ag (h2 s.heap hz #[Vw])
   | false=>exact aa (bF hz #[M] fun h' a' b'=>ag (h2 h' a' b'))
theorem zi5 {z TI TO i1 i2:Addr} {sY sZ:List Addr} {n1 n2 k1 k2:Nat} {P1 P2:Nat->Value->Prop} {S1 S2:Nat->Heap->Prop} {f0 f1 a b:Value} {Q:Value->Shared->Prop} (D1:Draws prog w A i1 sY n1 P1 S1) (D2:Draws prog w A i2 sZ n2 P2 S2) (Z:Zap z TI TO i1 i2 sY sZ)
  (hz:IsZ s.heap z TI TO f0 f1) (hf:ZF f0 f1) (xk:IsPair s.heap TI #[UB] #[UA]) (yd:IsPair s.heap TO a b) (uG:S1 k1 s.heap) (nF:S2 k2 s.heap) (l1:k1 < n1) (l2:k2 < n2)
  (hQ:∀ x y h' tk g0 g1 a' b',P1 k1 x->P2 k2 y->IsZ h' z TI TO g0 g1->ZF g0 g1->IsPair h' TI #[UB] #[UA]->IsPair h' TO a' b'->S1 (k1+1) h'->S2 (k2+1) h'->IsPair h' s.heap.objs.size x y->h'.objs.size=s.heap.objs.size+1 ->
   (∀ c o,c≠z->c≠TO->c≠i1->c≠i2->s.heap.get? c=some o->h'.get? c=some o)->Q #[t0] { s with heap:=h',toks:=tk }):wpAny #[na] A (Builtin.«zip.__next__» ⟨[.ref z],[]⟩) (fun fin s'=>∃ v,fin = .done (.ret v)/\Q v s') E s:=by
 obtain⟨hp,g,d,Gs,os⟩:=s;show wpAny _ _ (field #[Uw] 2 >>= _) _ _ _; refine aa #[We]; show wpAny _ _ (field #[Uw] 3 >>= _) _ _ _;refine aa #[Xj]; refine aa (di xk rfl ?_);show wpAny _ _ (bQ #[Uw] >>= _) _ _ _; refine aa (zlH hz hf ?_ fun h0 hz0 w4=>?_)
 ·simp only [if_true];refine aa #[VP];refine aa (bF hz #[M] fun ha B0 uh=>?_);replace B0:IsZ ha z TI TO .ellipsis f1:=B0;replace uh:aX z hp ha:=uh;refine aa ?_;simp only [kU,lp,dz,fh]; refine aa (aa (fO ?_)); show wpAny _ _ (be #[UB] >>= _) _ _ _;refine aa (D1.item k1 _ _ _ l1 (D1.frame _ _ _ uG fun c hc o e=>uh.extBut c o (fun q=>Z.a1 (q ▸ hc)) e) fun x hb E2 px E3 oq=>ag ?_);replace oq:aX i1 ha hb:=oq;have yz:IsPair hb TO a b:=oq.extBut _ _ Z.O1 (uh.extBut _ _ Z.zTO yd);refine aa (di yz rfl (aa (gi yz fun hc Bg xl=>?_)));replace Bg:IsPair hc TO x b:=Bg;replace xl:aX TO hb hc:=xl;refine aa (iW (ag (aa (aa (fO ?_))))); show wpAny _ _ (be #[UA] >>= _) _ _ _;refine aa (D2.item k2 _ _ _ l2 (D2.frame _ _ _ nF fun c rm o e=>xl.extBut c o (fun q=>Z.b2 (q ▸ rm)) (oq.extBut c o (fun q=>Z.b3 (q ▸ rm)) (uh.extBut c o (fun q=>Z.b1 (q ▸ rm)) e))) fun y hd HI py HJ tR=>ag ?_);replace tR:aX i2 hc hd:=tR;have Bh:IsPair hd TO x b:=tR.extBut _ _ Z.O2 Bg;refine aa (di Bh rfl (aa (gi Bh fun he Bi CV=>?_)));replace Bi:IsPair he TO x y:=Bi;replace CV:aX TO hd he:=CV;refine aa (iW (ag (ag ?_))); refine aa (di Bi rfl (aa (gF ?_)));have hsz:he.objs.size=hp.objs.size:=by rw [CV.1,tR.1,xl.1,oq.1,uh.1]
  have hze:IsZ he z TI TO .ellipsis f1:=CV.extBut _ _ Z.zTO.symm (tR.extBut _ _ Z.z2.symm #[Tu]);have kk:∀ c o,c≠z->c≠TO->c≠i1->c≠i2->hp.get? c=some o->he.get? c=some o:=fun c o c1 c2 c3 c4 e=>CV.extBut _ _ c2 (tR.extBut _ _ c4 (xl.extBut _ _ c2 (oq.extBut _ _ c3 (uh.extBut _ _ c1 e))))
  have HK:S1 (k1+1) he:=D1.frame _ _ _ E3 fun c rm o e=>CV.extBut c o (fun q=>Z.a2 (q ▸ rm)) (tR.extBut c o (fun q=>Z.a3 (q ▸ rm)) (xl.extBut c o (fun q=>Z.a2 (q ▸ rm)) e))
  have HM:S2 (k2+1) he:=D2.frame _ _ _ HJ fun c rm o e=>CV.extBut c o (fun q=>Z.b2 (q ▸ rm)) e
  have zlt:z < he.objs.size:=aB hze;show wpAny _ _ (cC #[Uw] (.ref he.objs.size) >>= _) _ _ _;refine aa ?_;unfold cC; have Bj:IsZ (he.push { cls:=.type "tuple",data:=.seq #[x,y] }) z TI TO .ellipsis f1:=ah _ hze;refine aa (bF Bj #[M] fun h7 HN B1=>?_);replace HN:IsZ h7 z TI TO (rawInt he.objs.size) f1:=HN;refine bF HN #[M] fun h8 Gu HP=>ag ⟨_,rfl,?_⟩
  replace Gu:IsZ h8 z TI TO (rawInt he.objs.size) #[Xf]:=Gu;have up:∀ c o,c≠z->he.get? c=some o->h8.get? c=some o:=fun c o c1 e=>HP.extBut _ _ c1 (B1.extBut _ _ c1 (ah _ e))
  have E4:IsPair h8 he.objs.size x y:=HP.extBut _ _ (dO zlt) (B1.extBut _ _ (dO zlt) (az _ rfl));have yA:h8.objs.size=he.objs.size+1:=by rw [HP.1,B1.1,bq]
  show Q (.ref he.objs.size) _;rw [hsz] at Gu E4 yA |-;exact hQ x y h8 HI _ _ _ _ px py Gu ⟨.inr ⟨_,_,rfl⟩,_,rfl⟩ (up _ _ Z.zTI #[VV]) (up _ _ Z.zTO Bi) (D1.frame _ _ _ HK fun c rm o e=>up c o (fun q=>Z.a1 (q ▸ rm)) e) (D2.frame _ _ _ HM fun c rm o e=>up c o (fun q=>Z.b1 (q ▸ rm)) e) E4 yA fun c o c1 c2 c3 c4 e=>up c o c1 (kk c o c1 c2 c3 c4 e)
 ·simp only [aY,if_false]; replace w4:aX z hp h0:=w4;rw [show (#[aL i1,aL i2]:Array Value) = [aL i1,aL i2].toArray from rfl];simp only [kh,dz,fh];refine aa (aa (aa (bJ ?_))); show wpAny _ _ (be #[UB] >>= _) _ _ _;refine aa (D1.item k1 _ _ _ l1 (D1.frame _ _ _ uG fun c hc o e=>w4.extBut c o (fun q=>Z.a1 (q ▸ hc)) e) fun x hb E2 px E3 oq=>ag (ag ?_));replace oq:aX i1 h0 hb:=oq;refine aa (aa (bJ ?_)); show wpAny _ _ (be #[UA] >>= _) _ _ _;refine aa (D2.item k2 _ _ _ l2 (D2.frame _ _ _ nF fun c rm o e=>oq.extBut c o (fun q=>Z.b3 (q ▸ rm)) (w4.extBut c o (fun q=>Z.b1 (q ▸ rm)) e)) fun y hd HI py HJ tR=>ag (ag (ag ?_)));replace tR:aX i2 hb hd:=tR;show wpAny _ _ (newTuple [x,y] >>= _) _ _ _;refine aa (gF (ag ⟨_,rfl,?_⟩));have hsz:hd.objs.size=hp.objs.size:=by rw [tR.1,oq.1,w4.1]
  have kk:∀ c o,c≠z->c≠TO->c≠i1->c≠i2->hp.get? c=some o->hd.get? c=some o:=fun c o c1 c2 c3 c4 e=>tR.extBut _ _ c4 (oq.extBut _ _ c3 (w4.extBut _ _ c1 e))
  have Gv:IsZ hd z TI TO f0 #[Tk]:=tR.extBut _ _ Z.z2.symm (oq.extBut _ _ Z.z1.symm hz0);have Bh:IsPair hd TO a b:=tR.extBut _ _ Z.O2 (oq.extBut _ _ Z.O1 (w4.extBut _ _ Z.zTO yd));have HQ:S1 (k1+1) hd:=D1.frame _ _ _ E3 fun c rm o e=>tR.extBut c o (fun q=>Z.a3 (q ▸ rm)) e
  have up:∀ c o,hd.get? c=some o->(hd.push { cls:=.type "tuple",data:=.seq #[x,y] }).get? c=some o:=fun c o e=>ah _ e
  have E4:IsPair (hd.push { cls:=.type "tuple",data:=.seq #[x,y] }) hd.objs.size x y:=az _ rfl;have yA:(hd.push { cls:=.type "tuple",data:=.seq #[x,y] }).objs.size=hd.objs.size+1:=bq ..;show Q (.ref hd.objs.size) _;rw [hsz] at E4 yA |-;exact hQ x y _ HI _ _ _ _ px py (up _ _ Gv) ⟨hf.1,_,rfl⟩ (up _ _ #[VV]) (up _ _ Bh) (D1.frame _ _ _ HQ fun c _ o e=>up c o e) (D2.frame _ _ _ HJ fun c _ o e=>up c o e) E4 yA fun c o c1 c2 c3 c4 e=>up c o (kk c o c1 c2 c3 c4 e)
theorem zlI {z TI TO i1 i2:Addr} {sY sZ:List Addr} {n1 n2 k1 k2:Nat} {P1 P2:Nat->Value->Prop} {S1 S2:Nat->Heap->Prop} {f0 f1 a b:Value} {Q:Fin->Shared->Prop} (D1:Draws prog w A i1 sY n1 P1 S1) (D2:Draws prog w A i2 sZ n2 P2 S2) (Z:Zap z TI TO i1 i2 sY sZ)
  (hz:IsZ s.heap z TI TO f0 f1) (hf:ZF f0 f1) (xk:IsPair s.heap TI #[UB] #[UA]) (yd:IsPair s.heap TO a b) (uG:S1 k1 s.heap) (nF:S2 k2 s.heap) (l1:k1=n1\/(k1 < n1/\k2=n2))
  (hE:∀ h' tk e,(∀ c o,c≠z->c≠TO->c≠i1->c≠i2->s.heap.get? c=some o->h'.get? c=some o)->(∃ o,h'.get? e=some o/\o.cls = .type "StopIteration")->E #[Ux] { s with heap:=h',toks:=tk }):wpAny #[na] A (Builtin.«zip.__next__» ⟨[.ref z],[]⟩) Q E s:=by
 obtain⟨hp,g,d,Gs,os⟩:=s;have nz:∀ {h:Heap} {e:Addr} {o:Obj} {x y:Value},IsZ h z TI TO x y->h.get? e=some o->o.cls = .type "StopIteration"->e≠z:=fun h1 h2 h3 q=>by subst q; rw [h1] at h2; cases h2; simp at h3
 show wpAny _ _ (field #[Uw] 2 >>= _) _ _ _; refine aa #[We]; show wpAny _ _ (field #[Uw] 3 >>= _) _ _ _;refine aa #[Xj]; refine aa (di xk rfl ?_);show wpAny _ _ (bQ #[Uw] >>= _) _ _ _; refine aa (zlH hz hf ?_ fun h0 hz0 w4=>?_)
 ·simp only [if_true];refine aa #[VP];refine aa (bF hz #[M] fun ha B0 uh=>?_);replace B0:IsZ ha z TI TO .ellipsis f1:=B0;replace uh:aX z hp ha:=uh;refine aa ?_;simp only [kU,lp,dz,fh]; refine aa (aa (fO ?_)); show wpAny _ _ (be #[UB] >>= _) _ _ _;have yB:S1 k1 ha:=D1.frame _ _ _ uG fun c hc o e=>uh.extBut c o (fun q=>Z.a1 (q ▸ hc)) e
  rcases l1 with rfl | ⟨l1,rfl⟩
  ·refine aa (D1.done _ _ _ yB fun hb e oq ⟨oe,E5,D6⟩=>?_);have hzb:IsZ hb z TI TO .ellipsis f1:=oq _ _ Z.z1.symm B0;exact bF hzb #[M] fun h3 _ xm=>hE h3 Gs e (fun c o c1 _ c3 _ x=>xm.extBut _ _ c1 (oq _ _ c3 (uh.extBut _ _ c1 x))) ⟨oe,xm.extBut _ _ (nz hzb E5 D6) E5,D6⟩
  ·refine aa (D1.item k1 _ _ _ l1 yB fun x hb E2 px E3 oq=>ag ?_);replace oq:aX i1 ha hb:=oq;have yz:IsPair hb TO a b:=oq.extBut _ _ Z.O1 (uh.extBut _ _ Z.zTO yd);refine aa (di yz rfl (aa (gi yz fun hc Bg xl=>?_)));replace xl:aX TO hb hc:=xl;refine aa (iW (ag (aa (aa (fO ?_))))); show wpAny _ _ (be #[UA] >>= _) _ _ _;refine aa (D2.done _ _ _ (D2.frame _ _ _ nF fun c rm o e=>xl.extBut c o (fun q=>Z.b2 (q ▸ rm)) (oq.extBut c o (fun q=>Z.b3 (q ▸ rm)) (uh.extBut c o (fun q=>Z.b1 (q ▸ rm)) e))) fun hd e tR ⟨oe,E5,D6⟩=>?_);have Gv:IsZ hd z TI TO .ellipsis f1:=tR _ _ Z.z2.symm #[Tu];exact bF Gv #[M] fun h3 _ xm=>hE h3 E2 e (fun c o c1 c2 c3 c4 x=>xm.extBut _ _ c1 (tR _ _ c4 (xl.extBut _ _ c2 (oq.extBut _ _ c3 (uh.extBut _ _ c1 x))))) ⟨oe,xm.extBut _ _ (nz Gv E5 D6) E5,D6⟩
 ·simp only [aY,if_false]; replace w4:aX z hp h0:=w4;rw [show (#[aL i1,aL i2]:Array Value) = [aL i1,aL i2].toArray from rfl];simp only [kh,dz,fh];refine aa (aa (aa (bJ ?_))); show wpAny _ _ (be #[UB] >>= _) _ _ _;have yB:S1 k1 h0:=D1.frame _ _ _ uG fun c hc o e=>w4.extBut c o (fun q=>Z.a1 (q ▸ hc)) e
  rcases l1 with rfl | ⟨l1,rfl⟩
  ·exact aa (D1.done _ _ _ yB fun hb e oq he=>hE hb Gs e (fun c o c1 _ c3 _ x=>oq _ _ c3 (w4.extBut _ _ c1 x)) he)
  ·refine aa (D1.item k1 _ _ _ l1 yB fun x hb E2 px E3 oq=>ag (ag ?_));replace oq:aX i1 h0 hb:=oq;refine aa (aa (bJ ?_)); show wpAny _ _ (be #[UA] >>= _) _ _ _;exact aa (D2.done _ _ _ (D2.frame _ _ _ nF fun c rm o e=>oq.extBut c o (fun q=>Z.b3 (q ▸ rm)) (w4.extBut c o (fun q=>Z.b1 (q ▸ rm)) e)) fun hd e tR he=>hE hd E2 e (fun c o c1 _ c3 c4 x=>tR _ _ c4 (oq.extBut _ _ c3 (w4.extBut _ _ c1 x))) he)
theorem zmU {e z TI TO i1 i2:Addr} {sY sZ:List Addr} {n1 n2 i:Nat} {P1 P2:Nat->Value->Prop} {S1 S2:Nat->Heap->Prop} {f0 f1 a b old:Value} {Q:Option Value->Shared->Prop} (D1:Draws prog w A.in1.in1 i1 sY n1 P1 S1) (D2:Draws prog w A.in1.in1 i2 sZ n2 P2 S2) (Z:Zap z TI TO i1 i2 sY sZ)
  (he:IsEnum s.heap e z i old) (ez:e≠z) (eT:e≠TI) (eO:e≠TO) (e1:e≠i1) (e2:e≠i2) (ef1:e∉sY) (ef2:e∉sZ)
  (hz:IsZ s.heap z TI TO f0 f1) (hf:ZF f0 f1) (xk:IsPair s.heap TI #[UB] #[UA]) (yd:IsPair s.heap TO a b) (uG:S1 i s.heap) (nF:S2 i s.heap) (l1:i < n1) (l2:i < n2)
  (hQ:∀ x y h' tk g0 g1 a' b',P1 i x->P2 i y->IsEnumOut h' e z ((i:Int)+1) #[t0] #[ul]->IsZ h' z TI TO g0 g1->ZF g0 g1->IsPair h' TI #[UB] #[UA]->IsPair h' TO a' b'->S1 (i+1) h'->S2 (i+1) h'->IsPair h' s.heap.objs.size x y ->
   IsPair h' #[ul] (.int i tk) #[t0]->h'.objs.size=s.heap.objs.size+2 ->
   (∀ c o,c≠e->c≠z->c≠TO->c≠i1->c≠i2->s.heap.get? c=some o->h'.get? c=some o)->Q (some (.ref #[ul])) { s with heap:=h',toks:=tk+1 }):wpAny #[na] A (pyNext #[Ux]) Q E s:=by
 have hT:s.TypeIs #[Ux] "enumerate":=⟨_,he,rfl⟩; have yC:s.TypeIs #[Uw] "zip":=⟨_,hz,rfl⟩;unfold pyNext;refine aa (bZ (bp (name:=bL "__next__") hT ei (bi ei hT iX ?_ (iI _))));obtain⟨hp,g,d,Gs,os⟩:=s;show wpAny _ _ (field #[Ux] 2 >>= _) _ _ _; refine aa #[WJ];unfold be; refine aa (bp (name:=bL "__next__") yC c9 #[Tg]);refine zi5 D1 D2 Z hz hf xk yd uG nF l1 l2 fun x y h1 tk g0 g1 a' b' px py rD HR CW CY CZ C0 Bk C1 kk=>ag ?_
 have B2:IsEnum h1 e z i old:=kk _ _ ez eO e1 e2 he;have elt:e < hp.objs.size:=aB he;show wpAny _ _ (field #[Ux] 3 >>= _) _ _ ⟨h1,g,d,tk,os⟩; refine aa (bw B2 rfl (x:=rawInt i) rfl ?_);show wpAny _ _ (field #[Ux] 4 >>= _) _ _ ⟨h1,g,d,tk,os⟩; refine aa (bw B2 rfl (x:=.none) rfl ?_);show wpAny _ _ (mkInt i >>= _) _ _ ⟨h1,g,d,tk,os⟩; refine aa (wpAny_mkInt ?_);show wpAny _ _ (setField #[Ux] 3 (rawInt ((i:Int)+1)) >>= _) _ _ ⟨h1,g,d,tk+1,os⟩; refine aa (bF B2 #[M] fun h2 HS oJ=>?_);replace oJ:aX e h1 h2:=oJ;replace HS:IsEnum h2 e z ((i:Int)+1) old:=HS;show wpAny _ _ (setField #[Ux] 4 .none >>= _) _ _ ⟨h2,g,d,tk+1,os⟩; refine aa (bF HS #[M] fun h3 B3 xm=>?_);replace xm:aX e h2 h3:=xm;replace B3:IsEnum h3 e z ((i:Int)+1) old:=B3;show wpAny _ _ (newTuple [.int i tk,.ref hp.objs.size] >>= _) _ _ ⟨h3,g,d,tk+1,os⟩; refine aa (gF ?_);have z3:h3.objs.size=hp.objs.size+1:=by rw [xm.1,oJ.1]; exact C1
 rw [z3];have Gw:IsEnum (h3.push { cls:=.type "tuple",data:=.seq #[Rm] }) e z ((i:Int)+1) old:=ah _ B3;have HU:=az h3 (o:={ cls:=.type "tuple",data:=.seq #[Rm] }) rfl;rw [z3] at HU;have k4:∀ c o,c≠e->h1.get? c=some o->(h3.push { cls:=.type "tuple",data:=.seq #[Rm] }).get? c=some o:=fun c o ce x=>ah _ (xm.extBut c o ce (oJ.extBut c o ce x))
 have z4:(h3.push { cls:=.type "tuple",data:=.seq #[Rm] }).objs.size=hp.objs.size+2:=by rw [bq,z3]
 generalize h3.push { cls:=.type "tuple",data:=.seq #[Rm] }=h4 at Gw HU k4 z4 |-;show wpAny _ _ (bQ #[Ux] >>= _) _ _ ⟨h4,g,d,tk+1,os⟩;refine aa ?_;unfold bQ; refine aa (bw Gw rfl (x:=.none) rfl (ag ?_));simp only [if_true]; refine aa (cw (aa (bw Gw rfl (x:=old) rfl ?_)));refine aa (bF Gw #[M] fun h5 D7 Gx=>?_);replace Gx:aX e h4 h5:=Gx;replace D7:IsEnum h5 e z ((i:Int)+1) #[VU]:=D7;show wpAny _ _ (cC #[Ux] (.ref (hp.objs.size+1)) >>= _) _ _ ⟨h5,g,d,tk+1,os⟩;refine aa ?_;unfold cC; refine aa (bF D7 #[M] fun h6 HV Gy=>?_);replace Gy:aX e h5 h6:=Gy;replace HV:IsEnumOut h6 e z ((i:Int)+1) #[VU] (hp.objs.size+1):=HV;refine bF HV #[M] fun h7 HW B1=>?_
 replace B1:aX e h6 h7:=B1;replace HW:IsEnumOut h7 e z ((i:Int)+1) #[VU] (hp.objs.size+1):=HW;have up:∀ c o,c≠e->h4.get? c=some o->h7.get? c=some o:=fun c o ce x=>B1.extBut c o ce (Gy.extBut c o ce (Gx.extBut c o ce x))
 have z7:h7.objs.size=hp.objs.size+2:=by rw [B1.1,Gy.1,Gx.1,z4]
 refine aa (iW (ag ⟨_,rfl,ag ?_⟩));exact hQ x y h7 tk g0 g1 a' b' px py HW (up _ _ ez.symm (k4 _ _ ez.symm rD)) HR (up _ _ eT.symm (k4 _ _ eT.symm CW)) (up _ _ eO.symm (k4 _ _ eO.symm CY))
  (D1.frame _ _ _ CZ fun c hc o x=>up c o (fun q=>ef1 (q ▸ hc)) (k4 c o (fun q=>ef1 (q ▸ hc)) x)) (D2.frame _ _ _ C0 fun c hc o x=>up c o (fun q=>ef2 (q ▸ hc)) (k4 c o (fun q=>ef2 (q ▸ hc)) x))
  (up _ _ (dO elt) (k4 _ _ (dO elt) Bk)) (up _ _ (dO (cJ elt)) HU) z7 fun c o ce cz cO c1 c2 x=>up c o ce (k4 c o ce (kk c o cz cO c1 c2 x))
theorem zon {e z TI TO i1 i2:Addr} {sY sZ:List Addr} {n1 n2 k:Nat} {i:Int} {P1 P2:Nat->Value->Prop} {S1 S2:Nat->Heap->Prop} {f0 f1 a b old:Value} {Q:Option Value->Shared->Prop} (D1:Draws prog w A.in1.in1 i1 sY n1 P1 S1) (D2:Draws prog w A.in1.in1 i2 sZ n2 P2 S2) (Z:Zap z TI TO i1 i2 sY sZ)
  (he:IsEnum s.heap e z i old) (hz:IsZ s.heap z TI TO f0 f1) (hf:ZF f0 f1) (xk:IsPair s.heap TI #[UB] #[UA]) (yd:IsPair s.heap TO a b) (uG:S1 k s.heap) (nF:S2 k s.heap) (l1:k=n1\/(k < n1/\k=n2))
  (hQ:∀ h' tk,(∀ c o,c≠z->c≠TO->c≠i1->c≠i2->s.heap.get? c=some o->h'.get? c=some o)->Q none { s with heap:=h',toks:=tk }):wpAny #[na] A (pyNext #[Ux]) Q E s:=by
 have hT:s.TypeIs #[Ux] "enumerate":=⟨_,he,rfl⟩; have yC:s.TypeIs #[Uw] "zip":=⟨_,hz,rfl⟩;unfold pyNext;refine aa (bZ (bp (name:=bL "__next__") hT ei (bi ei hT iX ?_ (iI _))));show wpAny _ _ (field #[Ux] 2 >>= _) _ _ _; refine aa #[WJ];unfold be; refine aa (bp (name:=bL "__next__") yC c9 #[Tg]);refine zlI D1 D2 Z hz hf xk yd uG nF l1 fun h' tk x kk ⟨o,ho,hc⟩=>?_
 exact aa (dh (T:="StopIteration") (b:=true) ⟨o,ho,hc⟩ fg (ag (hQ h' tk kk)))
end
noncomputable def zgn (x y:Value):Obj:={ cls:=.type "tuple",data:=.seq #[x,y] }
noncomputable def zpn (a b:Addr):Obj:={ cls:=.type "zip",data:=.fields #[.none,.bool false,.bool false,.ref a,.ref b] }
noncomputable def itO (C:String) (l:Addr):Obj:={ cls:=.type C,data:=.fields #[.ref l,.int 0 0] }
abbrev zt2 (C:String) (h:Heap) (l1 l2:Addr):Heap:=#[Xx].push (itO C l2)
abbrev zt4 (C:String) (h:Heap) (l1 l2:Addr):Heap:=((zt2 C h l1 l2).push (zgn (.ref h.objs.size) (.ref #[Xx].objs.size))).push (zgn .none .none)
abbrev zt5 (C:String) (h:Heap) (l1 l2:Addr):Heap:=(zt4 C h l1 l2).push (zpn (zt2 C h l1 l2).objs.size ((zt2 C h l1 l2).push (zgn (.ref h.objs.size) (.ref #[Xx].objs.size))).objs.size)
noncomputable def ItC (C:String) (h:Heap) (a l:Addr) (i:Nat):Prop:=∃ o,h.get? a=some o/\o.cls = .type C/\o.data = .fields #[.ref l,.int i 0]
structure SkH (C:String) (Is:Heap->Addr->Array Value->Prop):Prop where
 it:∀ {prog:Program} {w:World} {A:Around} {E:Value->Shared->Prop} {s:Shared} {l:Addr} {items:Array Value} {Q:Value->Shared->Prop},Is s.heap l items->Q #[t0] { s with heap:=s.heap.push (itO C l) }->wpAny #[na] A (pyIter #[Su]) Q E s
 pu:∀ {h:Heap} {l:Addr} {items:Array Value} (o:Obj),Is h l items->Is (h.push o) l items
 dr:∀ {prog:Program} {w:World} {A:Around},A.handled=none->∀ (it l:Addr),l≠it->∀ (items:Array Value),Draws prog w A it [it,l] items.size (fun i v=>items[i]? = some v) fun i h=>ItC C h it l i/\Is h l items
theorem skL:SkH "list_iterator" Heap.IsList:=⟨fun h q=>ib h q,fun o h=>Heap.IsList.push h o,fun hh it l ne items=>lq hh it l ne items⟩
theorem zhb {C:String} {Is:Heap->Addr->Array Value->Prop} (S:SkH C Is) (l1 l2:Addr) (xs ys:Array Value):Meets (Builtin.«zip.__new__» ⟨[.type "zip",.ref l1,.ref l2],[]⟩) (fun _ R s=>s.heap.IsTuple l1 xs/\Is s.heap l2 ys/\R (.ok (.ret (.ref #[Vx].objs.size))) { s with heap:=zt5 C s.heap l1 l2 }) :=
 .of_wp fun prog w A R s h=>by
  obtain⟨hp,g,d,tk,os⟩:=s; obtain⟨xj,pJ,h⟩:=h; have rK:=sub_zip;have D8:Heap.IsTuple (kN ⟨hp,g,d,tk,os⟩) l1 xs:=xj;have D9:Is (kN ⟨hp.push { cls:=.type "tuple_iterator",data:=.fields #[.ref l1,.int 0 0] },g,d,tk,os⟩) l2 ys:=S.pu _ pJ
  wp_walk using kg D8,S.it D9
  exact⟨_,rfl,h⟩
section
variable {prog:Program} {w:World} {A:Around} {E:Value->Shared->Prop} {s:Shared}
theorem zeK {C:String} {Is:Heap->Addr->Array Value->Prop} (S:SkH C Is) {l1 l2:Addr} {xs ys:Array Value} {Q:Value->Shared->Prop} (xj:s.heap.IsTuple l1 xs) (pJ:Is s.heap l2 ys)
  (h:∀ h' n,n=s.heap.objs.size->IsZ h' (n+4) (n+2) (n+3) .none #[Xf]->IsPair h' (n+2) (.ref n) #[Xs]->IsPair h' (n+3) .none .none->h'.IsTupleIter n l1 0->ItC C h' (n+1) l2 0->h'.objs.size=n+5 ->
   (∀ c o,s.heap.get? c=some o->h'.get? c=some o)->Q (.ref (n+4)) { s with heap:=h' }):wpAny #[na] A (call (.type "zip") [.ref l1,.ref l2]) Q E s:=by
 refine kf F.called_zip #[D] (F.typeCall_zip_2 _ _) (F.newCall_zip_2 _ _) (fun obj=>F.args_object_init_3 obj _ _) F.entry_zip_new (zhb S l1 l2 xs ys) ⟨xj,pJ,?_⟩;have z1:#[QZ].objs.size=s.heap.objs.size+1:=bq ..;have z2:#[Rc].objs.size=s.heap.objs.size+2:=by rw [bq,z1]
 have z3:(#[Rc].push (zgn #[t0] (.ref #[QZ].objs.size))).objs.size=s.heap.objs.size+3:=by rw [bq,z2]
 have z4:#[Vx].objs.size=s.heap.objs.size+4:=by rw [bq,z3]
 have g5:=az #[Vx] (o:=zpn #[Rc].objs.size (#[Rc].push (zgn #[t0] (.ref #[QZ].objs.size))).objs.size) rfl;have g4:#[Rb].get? _=some _:=ah _ (az (#[Rc].push (zgn #[t0] (.ref #[QZ].objs.size))) (o:=zgn .none .none) rfl);have g3:#[Rb].get? _=some _:=ah _ (ah _ (az #[Rc] (o:=zgn #[t0] (.ref #[QZ].objs.size)) rfl));have g2:#[Rb].get? _=some _:=ah _ (ah _ (ah _ (az #[QZ] (o:=itO C l2) rfl)));have g1:#[Rb].get? s.heap.objs.size=some (zcy l1):=ah _ (ah _ (ah _ (ah _ (az _ rfl))));have z5:#[Rb].objs.size=s.heap.objs.size+5:=by rw [bq,z4]
 have k5:∀ c o,s.heap.get? c=some o->#[Rb].get? c=some o:=fun c o x=>ah _ (ah _ (ah _ (ah _ (ah _ x))))
 show _/\_;rw [z4] at g5 |-;rw [z3] at g4;rw [z2] at g3;rw [z1] at g2;refine⟨⟨_,g5,rfl⟩,h _ _ rfl ?_ ?_ g4 ⟨_,g1,rfl,rfl⟩ ⟨_,g2,rfl,rfl⟩ z5 k5⟩
 ·have:IsZ #[Rb] (s.heap.objs.size+4) #[Rc].objs.size (#[Rc].push (zgn #[t0] (.ref #[QZ].objs.size))).objs.size .none #[Xf]:=g5;rw [z2,z3] at this;exact this
 ·have:IsPair #[Rb] (s.heap.objs.size+2) #[t0] (.ref #[QZ].objs.size):=g3;rw [z1] at this;exact this
theorem zin {l1 l2:Addr} {xs ys:Array Value} {Q:Value->Shared->Prop} (xj:s.heap.IsTuple l1 xs) (pJ:s.heap.IsList l2 ys)
  (h:∀ h' n,n=s.heap.objs.size->IsZ h' (n+4) (n+2) (n+3) .none #[Xf]->IsPair h' (n+2) (.ref n) #[Xs]->IsPair h' (n+3) .none .none->h'.IsTupleIter n l1 0->h'.IsListIter (n+1) l2 0->h'.objs.size=n+5 ->
   (∀ c o,s.heap.get? c=some o->h'.get? c=some o)->Q (.ref (n+4)) { s with heap:=h' }):wpAny #[na] A (call (.type "zip") [.ref l1,.ref l2]) Q E s:=zeK skL xj pJ h
end
open AutoSeq1 (wpAny_loadPart') in
theorem zhc (z TI TO:Addr) (f0:Value):Meets (Builtin.«enumerate.__new__» ⟨[.type "enumerate",.ref z],[]⟩) (fun _ R s=>IsZip s.heap z TI TO f0/\R (.ok (.ret #[t0])) { s with heap:=s.heap.push (zly z) }) :=
 .of_wp fun prog w A R s h=>by
  obtain⟨hp,g,d,tk,os⟩:=s; obtain⟨hz,h⟩:=h;have hZ:IsZip (kN ⟨hp,g,d,tk,os⟩) z TI TO f0:=hz;have rK:=sub_enumerate; wp_walk using iO hz;refine wpAny_stack_any fun st=>ag ?_; split
  ·rename_i c _ _ _ _ _; cases (c == ff "enumerate") <;> (wp_walk using iO hz,fS hZ; exact⟨_,rfl,h⟩)
  ·wp_walk using iO hz,fS hZ; exact⟨_,rfl,h⟩
theorem zio {prog:Program} {w:World} {A:Around} {E:Value->Shared->Prop} {s:Shared} {z TI TO:Addr} {f0:Value} {Q:Value->Shared->Prop} (hz:IsZip s.heap z TI TO f0)
  (h:∀ h',IsEnum h' s.heap.objs.size z 0 .none->h'.objs.size=s.heap.objs.size+1->(∀ b o,s.heap.get? b=some o->h'.get? b=some o)->Q #[t0] { s with heap:=h' }):wpAny #[na] A (call (.type "enumerate") [.ref z]) Q E s:=by
 refine kf F.called_enumerate #[D] (F.typeCall_enumerate_1 _) (F.newCall_enumerate_1 _) (fun obj=>jw obj _) F.entry_enumerate_new (zhc z TI TO f0) ⟨hz,?_⟩;have he:=az s.heap (o:=zly z) rfl;exact⟨⟨_,he,rfl⟩,h _ he (bq ..) fun b o x=>ah _ x⟩
end PySem
end
section
namespace L2
open PySem PySem.Spec PyProof.Rows
variable {K:af} {j k:Nat} {pos:Pos} {w:World}
noncomputable def zmV (tN tO:Hp->Addr->List V->Prop) (a b:Addr):It :=
 ⟨fun i H=>∃ xs ys x y,tN H a xs/\tO H b ys/\xs[i]? = some x/\ys[i]? = some y,
  fun i H x H'=>∃ T1 T2 u v,H T1=none/\H T2=none/\T1≠T2/\x = .ref T2/\H'=mz (mz H T1 (.tup [u,v])) T2 (.tup [.int i,.ref T1])/\(∀ xs,tN H a xs->xs[i]? = some u)/\∀ ys,tO H b ys->ys[i]? = some v,
  fun i H=>∃ xs ys,tN H a xs/\tO H b ys/\xs.length=i⟩
abbrev zeL (n:Nat):List Addr:=[n+5,n+4,n+2,n+3,n,n+1]
abbrev zoo (n a b:Nat) (i:Nat) (h:Heap):Prop:=(∃ old,IsEnum h (n+5) (n+4) i old)/\(∃ f0 f1,IsZ h (n+4) (n+2) (n+3) f0 f1/\ZF f0 f1)/\IsPair h (n+2) (.ref n) #[Xs]/\(∃ u v,IsPair h (n+3) u v)/\h.IsTupleIter n a i/\h.IsListIter (n+1) b i
theorem nq {x y:Nat} (h:x≠y):@Ne Addr x y:=h
theorem nl {x y:Nat} (h:x < y):@LT.lt Nat _ x y:=h
theorem nm2 {c x y:Nat} (h1:c≠x) (h2:c≠y):¬ @Membership.mem Addr (List Addr) _ [x,y] c:=fun h=>by
 rcases av.mp h with e | e
 ·exact h1 e
 ·exact h2 (aW.mp e)
theorem zek {n a b:Nat} (ha:a < n) (hb:b < n):Zap (n+4) (n+2) (n+3) n (n+1) [n,a] [n+1,b] :=
 ⟨nq #[O],nq #[O],nq #[O],nq #[O],nq #[O],nq #[O],nq #[O],nq #[O],nq #[O],nq #[O],nm2 #[O] #[O],nm2 #[O] #[O],nm2 #[O] #[O],nm2 #[O] #[O],nm2 #[O] #[O],nm2 #[O] #[O]⟩
theorem zmW {P:Program} {es:List Expr} (a b n:Nat) (ha:a < n) (hb:b < n):Turn P w K #[SG] (zmV (mK K) (mB K) a b) (zeL n) (n+5) (zoo n a b) where
 mem:=by simp
 obj:=fun i h st c hc=>by
  obtain⟨⟨old,h0⟩,⟨f0,f1,h1,_⟩,h2,⟨u,v,h3⟩,⟨o4,e4,_,d4⟩,⟨o5,e5,_,d5⟩⟩:=st;simp only [zeL,av,ba,or_false] at hc;rcases hc with z | z | z | z | z | z <;> subst z
  ·exact⟨_,h0,fun v z=>by cases z⟩
  ·exact⟨_,h1,fun v z=>by cases z⟩
  ·exact⟨_,h2,fun v z=>by cases z⟩
  ·exact⟨_,h3,fun v z=>by cases z⟩
  ·exact⟨_,e4,fun v z=>by rw [d4] at z; cases z⟩
  ·exact⟨_,e5,fun v z=>by rw [d5] at z; cases z⟩
 keep:=fun i h h' st kk=>by
  obtain⟨⟨old,h0⟩,⟨f0,f1,h1,hf⟩,h2,⟨u,v,h3⟩,h4,h5⟩:=st;exact⟨⟨old,kk _ #[M] _ h0⟩,⟨f0,f1,kk _ #[M] _ h1,hf⟩,kk _ #[M] _ h2,#[Vi],h4.at fun o eo=>kk _ #[M] o eo,h5.at fun o eo=>kk _ #[M] o eo⟩
 item:=by
  intro X hP hw hK hc i mq s σ H E I hf st hg;subst hP hw hK;obtain⟨xs,ys,x,y,tw,tP,hx,hy⟩:=hg;obtain⟨⟨old,h0⟩,⟨f0,f1,h1,Bj⟩,h2,⟨u0,v0,h3⟩,h4,h5⟩:=st;obtain⟨nW,wZ,p1,rD⟩:=I.tuple tw;obtain⟨nA,xi,p2,yw⟩:=I.list tP;obtain⟨u,hu,ru⟩:=wZ.get hx;obtain⟨v,hv,rv⟩:=xi.get hy;have vP:n+5 < s.heap.objs.size:=aB h0;have hh:X.A.in1.in1.handled=none:=by simp [I.ok.hd hc]
  have uf:i < nW.toArray.size:=by have:=(aj.mp hu).1; simpa using this
  have ug:i < nA.toArray.size:=by have:=(aj.mp hv).1; simpa using this
  refine zmU #[Ra] #[XD] (zek ha hb) h0 #[Te] #[Te] #[Te] #[Te] #[Te] (nm2 #[O] #[O]) (nm2 #[O] #[O]) h1 Bj h2 h3 ⟨h4,(show s.heap.IsTuple a nW.toArray from p1)⟩ ⟨h5,p2.isList⟩ uf ug
   fun x' y' h' tk g0 g1 a' b' px py eo ez HX e2 e3 t4 t5 pp pe hsz kk=>?_
  have eu:x'=u:=by
   have e1:nW[i]? = some x':=by simpa using px
   rw [hu] at e1; exact (aN e1).symm
  have ev:y'=v:=by
   have e1:nA[i]? = some y':=by simpa using py
   rw [hv] at e1; exact (aN e1).symm
  subst eu ev;have ch:∀ c∈[n+5,n+4,n+3,n,n+1],c∈zeL n:=fun c mQ=>by
   simp only [zeL,av,ba,or_false] at mQ |-;rcases mQ with z | z | z | z | z <;> subst z <;> simp
  have k1:∀ c o,c∉[n+5,n+4,n+3,n,n+1]->s.heap.get? c=some o->h'.get? c=some o:=fun c o mQ eo=>by
   simp only [av,ba,or_false,not_or] at mQ;exact kk c o mQ.1 mQ.2.1 mQ.2.2.1 mQ.2.2.2.1 mQ.2.2.2.2 eo
  have CP:∀ c∈[n+5,n+4,n+3,n,n+1],∃ o,h'.get? c=some o:=fun c mQ=>by
   simp only [av,ba,or_false] at mQ;rcases mQ with z | z | z | z | z <;> subst z
   ·exact⟨_,eo⟩
   ·exact⟨_,ez⟩
   ·exact⟨_,e3⟩
   ·obtain⟨o,e,_⟩:=t4.1; exact⟨o,e⟩
   ·obtain⟨o,e,_⟩:=t5.1; exact⟨o,e⟩
  have I1:Inv X mq σ (mz H s.heap.objs.size (.tup [x,y])) { s with heap:=h',toks:=tk+1 } :=
   I.Lo k1 (fun c mQ=>hf c (ch c mQ)) CP (ai _) #[Vl]
  have xf:H #[ul]=none:=I.hok.fresh (eN _);have HY:mz H s.heap.objs.size (.tup [x,y]) #[ul]=none:=by rw [zg (eE _)]; exact xf
  obtain⟨_,a1,a2,a3,a4,a5⟩:=I.Nv (H':=H) (eN s.heap.objs.size) xf;have I1':Inv X mq σ (mz (mz H s.heap.objs.size (.tup [x,y])) #[ul] (.tup [.int i,.ref s.heap.objs.size])) { s with heap:=h',toks:=tk+1 } :=
   I1.OQ HY (bn I.sz (eN _)) (cA a1) a4 a5 ⟨zbb,_,.cons ⟨tk,rfl⟩ #[Vh],zbK pe⟩
  refine⟨_,rfl,g8 eo fun yu vU oK=>?_⟩;have fr:∀ c∈zeL n,mz (mz H s.heap.objs.size (.tup [x,y])) #[ul] (.tup [.int i,.ref s.heap.objs.size]) c=none:=fun c mQ=>by
   have mW:c < s.heap.objs.size:=by
    simp only [zeL,av,ba,or_false] at mQ;rcases mQ with z | z | z | z | z | z <;> subst z <;> exact nl #[O]
   rw [zg (aO (cJ mW)),zg (aO mW)];exact (hf c mQ).1
  have I2:Inv X mq σ (mz (mz H s.heap.objs.size (.tup [x,y])) #[ul] (.tup [.int i,.ref s.heap.objs.size])) { s with heap:=yu,toks:=tk+1 } :=
   Inv.Mi (s:={ s with heap:=h',toks:=tk+1 }) (ch:=[n+5]) (t':=tk+1) I1' (fun c o mQ eo=>oK.extBut c o (by simpa using mQ) eo) (fun c mQ=>by
    have z:c=n+5:=by simpa using mQ
    subst z;exact⟨fr _ #[M],(hf _ #[M]).2⟩) (fun c mQ=>by
    have z:c=n+5:=by simpa using mQ
    subst z;exact⟨_,vU⟩)
  have up:∀ c o,c≠n+5->h'.get? c=some o->yu.get? c=some o:=fun c o mQ e=>oK.extBut c o mQ e
  exact⟨.ref #[ul],_,I2,rfl,⟨_,_,x,y,I.fresh,xf,aO (eD _),rfl,rfl,fun zs hz=>by rw [I.Lq hz tw]; exact hx,fun zs hz=>by rw [I.KG hz tP]; exact hy⟩,
   ⟨⟨_,by simpa using vU⟩,⟨g0,g1,up _ _ #[Te] ez,HX⟩,up _ _ #[Te] e2,⟨_,_,up _ _ #[Te] e3⟩,t4.1.at fun o e=>up _ o #[Te] e,t5.1.at fun o e=>up _ o #[Te] e⟩,fr⟩
 done:=by
  intro X hP hw hK hc i mq s σ H E I hf st hg;subst hP hw hK;obtain⟨xs,ys,tw,tP,hx⟩:=hg;obtain⟨⟨old,h0⟩,⟨f0,f1,h1,Bj⟩,h2,⟨u0,v0,h3⟩,h4,h5⟩:=st;obtain⟨nW,wZ,p1,rD⟩:=I.tuple tw;obtain⟨nA,xi,p2,yw⟩:=I.list tP;have hh:X.A.in1.in1.handled=none:=by simp [I.ok.hd hc]
  have xj:=wZ.length;refine zon #[Ra] #[XD] (zek ha hb) h0 h1 Bj h2 h3 ⟨h4,(show s.heap.IsTuple a nW.toArray from p1)⟩ ⟨h5,p2.isList⟩ (.inl (by rw [au]; lia)) fun h' tk kk=>#[Uj]
  have sub:∀ c∈[n+4,n+3,n,n+1],c∈zeL n:=fun c mQ=>by
   simp only [zeL,av,ba,or_false] at mQ |-;rcases mQ with z | z | z | z <;> subst z <;> simp
  have k1:∀ c o,c∉[n+4,n+3,n,n+1]->s.heap.get? c=some o->h'.get? c=some o:=fun c o mQ e=>by
   simp only [av,ba,or_false,not_or] at mQ;exact kk c o mQ.1 mQ.2.1 mQ.2.2.1 mQ.2.2.2 e
  have wW:∀ d u',H d=some u'->d∉[n+4,n+3,n,n+1]:=fun d u' e' hd=>by rw [(hf d (sub d hd)).1] at e'; cases e'
  refine I.step (g':=s.gens) (d':=s.drawn) (t':=tk) (ch:=[n+4,n+3,n,n+1]) (fun c mQ=>?_) #[Wc] #[UL] #[Tv]
   (fun c o oh e=>⟨o,k1 c o oh e⟩) #[SK] #[Uy] (fun c ps e=>⟨#[],by rw [e]; simp⟩) #[Ve] (fun c u e=>?_) I.bare
  ·obtain⟨_,a1,_,a3,a4,a5⟩:=hf c (sub c mQ);exact⟨a3,a1,a4,a5⟩
  ·obtain⟨o,es',ep,ho,r⟩:=hm;exact⟨o,es',ep,k1 _ o (fun z=>(hf _ (sub _ z)).2.1 rfl) ho,r⟩
  ·refine (I.hok c u e).Nm #[Xi] #[Ul] fun _ _ q=>q
   rcases hd with z | z
   ·rw [z]; exact wW c u e
   ·exact wW d _ z
 self:=fun _ _ _ _ _ st h=>by
  obtain⟨⟨old,he⟩,_⟩:=st;exact ft he h
noncomputable def iEZ (tN tO:Hp->Addr->List V->Prop) (ta:TA):TI:=fun σ H R=>ta σ H fun vs H1=>∃ a b xs ys,vs = [.ref a,.ref b]/\tN H1 a xs/\tO H1 b ys/\R (zmV tN tO a b) H1
theorem ziq {X:Cx} {es:List Expr} {k:Nat} {rk p p2 pos pL:Pos} {a b:Expr} {ta:TA} (hg:Gl X "enumerate") (hm:X.mg "enumerate" = none) (E6:Gl X "zip") (xn:X.mg "zip" = none) (ha:PA X [a,b] ta) (hs:starEach [a,b] X.env = [#[Rh],#[Ps]]:=by rfl) (oJ:starEach [b] X.env = [#[Ps]]:=by rfl)
  (xm:starEach [.Call (.Name "zip" p2) [a,b] [] pL] X.env = [(false,eval (.Call (.Name "zip" p2) [a,b] [] pL) X.env)]:=by rfl) :
  PI X #[S7] (.Call (.Name "enumerate" p) [.Call (.Name "zip" p2) [a,b] [] pL] [] pos) (iEZ (mK X.K) #[WN] ta):=by
 intro mq s σ H R I h;refine Call_ (zbG I hg hm boot_enumerate (bC ?_ xm rfl));rw [xm];show wpAny _ _ (spliced ((false,eval (.Call (.Name "zip" p2) [a,b] [] pL) X.env) :: [])) _ _ s;refine j4 ?_;refine Call_ (zbG I E6 xn boot_zip (bC (thn (ha pL mq s σ H _ I h) fun us s1 ⟨vs,H1,I1,r1,q1⟩=>?_) (by rw [hs,oJ]) (by rw [oJ]; rfl)));obtain⟨l1,l2,xs,ys,e,tw,tP,q⟩:=q1;subst e;cases r1 with
 | cons r rr =>
  cases rr with
  | cons r' rr =>
   cases rr;cases r;cases r';obtain⟨nW,wZ,rE,rD⟩:=I1.tuple tw;obtain⟨nA,xi,CQ,yw⟩:=I1.list tP;have uf:l1 < s1.heap.objs.size:=by obtain⟨_,e,_⟩:=rE; exact aB e
   have ug:l2 < s1.heap.objs.size:=by obtain⟨_,_,e,_⟩:=CQ; exact aB e
   refine zin (show s1.heap.IsTuple l1 nW.toArray from rE) CQ.isList fun h' n hn b1 b2 b3 b4 b5 b6 kk=>?_
   refine kB ?_;refine zio b1 fun h2 he hsz D'=>?_
   have I2:Inv X mq σ H1 { s1 with heap:=h2 }:=I1.kept (t':=s1.toks) fun c o e=>D' c o (kk c o e)
   refine ft he ?_; have e5:h'.objs.size=n+5:=b6;have Bf:IsEnum h2 (n+5) (n+4) 0 .none:=by rw [<- e5]; exact he
   refine⟨_,zeL n,zoo n l1 l2,zmV (mK X.K) #[WN] l1 l2,H1,rfl,I2,?_,⟨⟨_,Bf⟩,⟨_,_,D' _ _ b1,.inl rfl,_,rfl⟩,D' _ _ b2,⟨_,_,D' _ _ b3⟩,b4.at fun o e=>D' _ o e,b5.at fun o e=>D' _ o e⟩,fun c hc=>?_,q⟩
   ·show Turn X.prog X.w X.K #[S7] (zmV (mK X.K) #[WN] l1 l2) (zeL n) h'.objs.size (zoo n l1 l2);rw [e5];exact zmW l1 l2 n (by rw [hn]; exact uf) (by rw [hn]; exact ug)
   ·have hle:s1.heap.objs.size<=c:=by
     simp only [zeL,av,ba,or_false] at hc;rw [<- hn];rcases hc with z | z | z | z | z | z <;> subst z
     all_goals first | exact iw _ _ | exact ai _
    exact I1.Nv hle #[UE]
theorem zir {i:Nat}:∀ (x:V) (σ:St) (H:Hp) (Q Q':St->Hp->Prop),(∀ σ' H',Q σ' H'->Q' σ' H')->zhW K 2 #[TN] x σ H Q->zhW K 2 #[TN] x σ H Q':=fun x σ H Q Q' hq ⟨a,xs,e1,h1,h2,v,r,e3,v2,r2,e4,e5,h⟩=>⟨a,xs,e1,h1,h2,v,r,e3,v2,r2,e4,e5,hq _ _ h⟩
end L2
end
section
namespace My
open PySem L2 PyProof.Rows
variable {H H':Hp} {j:Nat} {m7 pl:List Int} {rw:List #[Ch]} {te:TE} {ts:TT} {xs:List V} {z:Int}
section
variable {K:af}
inductive PU (H:Hp):V->Prop where
 | non:PU H .non
 | bl (b:Bool):PU H (.bl b)
 | int (i:Int):PU H #[WO]
 | str (x:Str):PU H (.str x)
 | lst {a:Addr} {xs:List V} (e:H a=some #[RH]):PU H #[Rf]
 | tup {a:Addr} {xs:List V} (e:H a=some #[Rp]):PU H #[Rf]
noncomputable def isI:V->Bool
 | .int _=>true
 | .bl _=>true
 | _=>false
noncomputable def isB:V->Bool
 | .bl _=>true
 | _=>false
noncomputable def isW:V->Bool
 | .int _=>true
 | _=>false
noncomputable def zlJ (H:Hp):V->Option (List V)
 | .ref a=>match H a with
  | some #[RH]=>some xs
  | _=>none
 | _=>none
theorem zop {v:V} (h:PU H v):∃ t,Oh K H v t/\am K t (.type "int")=some (isI v)/\am K t (.type "bool")=some (isB v)/\am K t (.type "list")=some (zlJ H v).isSome:=by
 cases h with
 | non=>exact⟨_,.non,rfl,rfl,rfl⟩
 | bl b=>exact⟨_,.bl b,rfl,rfl,rfl⟩
 | int i=>exact⟨_,.int i,rfl,rfl,rfl⟩
 | str x=>exact⟨_,.str x,rfl,rfl,rfl⟩
 | lst e=>exact⟨_,.lst e,rfl,rfl,by simp only [zlJ,e]; rfl⟩
 | tup e=>exact⟨_,.tup e,rfl,rfl,by simp only [zlJ,e]; rfl⟩
noncomputable def zaH (H:Hp) (c tt:Addr) (p k:Int) (pl:List Int):Prop:=H c=some (.tup [.int p,.int k,.ref tt])/\H tt=some (.tup #[Um])
theorem zaH.same {c tt:Addr} {p k:Int} (s:zy H H') (h:zaH H c tt p k pl):zaH H' c tt p k pl:=⟨s _ _ h.1,s _ _ h.2⟩
noncomputable def zgo (p:Int):V->Bool
 | .int i=>decide (0<=i) && decide (i < p)
 | _=>false
noncomputable def zgp (K:af):Sp:=fun vs H Q _=>∃ v,vs = [v]/\PU H v/\Q (.bl (isW v)) H
noncomputable def zgq (K:af):Sp:=fun vs H Q _=>∃ (p:Int) (v:V),vs = [.int p,v]/\PU H v/\Q (.bl (zgo p v)) H
theorem zmX {v:V} (h:isW v=true):∃ i,v = .int i:=by
 cases v with
 | int i=>exact⟨i,rfl⟩
 | _=>cases h
theorem zj4 {a:Addr} {kp:V->Bool} {f:V->V} {g:TG} {σ0:L2.St} {Q:VK} (ha:mB K H a xs) (hn:xs.length<=10000)
  (hs:∀ (i:Nat) (x:V) (R:VK) (B:Hp->Prop),xs[i]? = some x->(if kp x=true then R (f x) H else B H)->g x σ0 H fun σ2 H2=>ts σ2 H2 fun b H3=>if b=true then te σ2 H3 R else B H3)
  (hd:∀ D,H D=none->Q #[QV] (mz H D (.lst ((xs.filter kp).map f)))):cGo g ts te σ0 #[W5] Q H:=by
 refine zgc (n:=xs.length) (fun i ys H'=>ys=((xs.take i).filter kp).map f/\H'=H) ⟨#[M],rfl⟩ ?_ ?_ ?_ ?_
 ·rintro i ys H3 hi ⟨_,rfl⟩;exact⟨_,xs[i],ha,#[M]⟩
 ·rintro ys H3 ⟨_,rfl⟩;exact⟨_,ha,ai _⟩
 ·rintro i x ys H3 H4 hi ⟨rfl,rfl⟩ ⟨rfl,hx⟩;refine hs i x _ _ (hx _ ha) ?_;rw [take_snoc (hx _ ha),cD,aw];by_cases h:kp x=true
  ·rw [if_pos h];refine⟨zaA ?_,?_,rfl⟩
   ·rw [ae];exact bn (cW _ _) (bn (gv _ _) #[O])
   ·congr 1;simp [h]
  ·rw [if_neg h];refine⟨?_,rfl⟩;simp [h]
 ·rintro ys H3 D ⟨rfl,rfl⟩ hD;rw [bt];exact hd D hD
noncomputable def mM:Option Int->V
 | none=>.non
 | some i=>.int i
noncomputable def zcz (p:Int) (pl:List Int) (rw:List #[Ch]) (m7:List Int) (j:Nat):Bool:=match pl[j]?,rw[j]? with
 | some x,some (some i)=>decide (i=zw p x m7)
 | _,_=>false
noncomputable def zdm (p:Int) (pl:List Int) (rw:List #[Ch]) (m7:List Int) (n:Nat):List Int:=((bd n).filter (zcz p pl rw m7)).map fun (j:Nat)=>(j:Int)
theorem zfS {p:Int} {n:Nat}:zdm p pl rw m7 (n+1)=zdm p pl rw m7 n++if zcz p pl rw m7 n then [(n:Int)] else []:=by
 unfold zdm;rw [eR,cD,aw];congr 1;by_cases h:zcz p pl rw m7 n=true
 ·rw [if_pos h]; simp [h]
 ·rw [if_neg h]; simp [h]
theorem zhd (p:Int) (pl:List Int) (rw:List #[Ch]) (m7:List Int) (n:Nat):(zdm p pl rw m7 n).length<=n:=by
 unfold zdm;rw [ae];exact bn (cW _ _) (by rw [cg]; exact ai _)
theorem zel {x:V} (h:(rw.map mM)[j]? = some x):∃ o,x=mM o/\rw[j]? = some o:=by
 rw [ao] at h;cases e:rw[j]? with
 | none=>rw [e] at h; cases h
 | some c=>rw [e] at h; exact⟨c,(aN h).symm,rfl⟩
noncomputable def hide (H:Hp) (a:Addr):Hp:=fun b=>if b=a then none else H b
theorem zcH (H:Hp) (a:Addr):zy (hide H a) H:=fun b o e=>by
 unfold hide at e;split at e
 ·cases e
 ·exact e
theorem zeM {a:Addr} {o:HO}:hide #[Ti] a=hide H a:=by
 funext b;unfold hide;by_cases h:b=a
 ·rw [if_pos h,if_pos h]
 ·rw [if_neg h,if_neg h,zg h]
theorem zbc {a:Addr} (s:zy H H'):zy (hide H a) (hide H' a):=fun b o e=>by
 unfold hide at e |-;by_cases h:b=a
 ·rw [if_pos h] at e; cases e
 ·rw [if_neg h] at e |-; exact s _ _ e
theorem za3 {a b:Addr} {o:HO} (h:H b=some o) (oM:b≠a):hide H a b=some o:=by unfold hide; rw [if_neg oM]; exact h
noncomputable def zi6 (K:af):Sp:=fun vs H Q _=>∃ (c tt ra po:Addr) (p k:Int) (pl m7:List Int) (rw:List #[Ch]),vs = [.ref c,.ref ra,.ref po]/\zaH H c tt p k pl/\H ra=some #[UQ]/\rw.length=pl.length/\H po=some (.tup (m7.map V.int))/\0 < p/\p<=97/\(∀ x∈pl,0<=x/\x < p)/\pl.length<=100 /\
 ∀ (l:Addr) (H':Hp),H l=none->zy H H'->H' l=some (.lst ((zdm p pl rw m7 pl.length).map V.int))->Q #[Su] H'
noncomputable def zj5 (K:af):Sp:=zi6 K
theorem zlK (o:Option Int) (z:Int):zmC (mM o) (.int z)=true:=by cases o <;> rfl
theorem zj6 (o:Option Int) (z:Int):zmC (.int z) (mM o)=true:=by cases o <;> rfl
theorem zhe {p:Int} {x:Int} {o:Option Int} (hx:pl[j]? = some x) (ho:rw[j]? = some o):zcz p pl rw m7 j=decide (mM o = .int (zw p x m7)):=by
 unfold zcz;rw [hx,ho];cases o with
 | none=>rfl
 | some i=>simp [mM]
noncomputable def zal (rw:List #[Ch]) (n:Nat):List Int:=((bd n).filter fun j=>(rw[j]?.getD none).isSome).map fun (j:Nat)=>(j:Int)
theorem zde {n:Nat}:zal rw (n+1)=zal rw n++if (rw[n]?.getD none).isSome=true then [(n:Int)] else []:=by
 unfold zal;rw [eR,cD,aw];congr 1;by_cases h:(rw[n]?.getD none).isSome=true
 ·rw [if_pos h]; simp [h]
 ·rw [if_neg h]; simp [h]
theorem zbD (rw:List #[Ch]) (n:Nat):(zal rw n).length<=n:=by
 unfold zal;rw [ae];exact bn (cW _ _) (by rw [cg]; exact ai _)
noncomputable def zoq (p:Int) (pl:List Int) (rw:List #[Ch]) (m7:List Int):V->Bool
 | .int z=>zcz p pl rw m7 z.toNat
 | _=>false
theorem zj7 {p:Int} (n:Nat):(((zal rw n).map V.int).filter (zoq p pl rw m7)).map id=(zdm p pl rw m7 n).map V.int:=by
 rw [iY];unfold zal zdm;rw [lx,lx,List.filter_filter];congr 2;refine List.filter_congr fun j _=>?_
 show (zcz p pl rw m7 ((j:Int)).toNat && (rw[j]?.getD none).isSome)=zcz p pl rw m7 j;rw [a8];by_cases h:zcz p pl rw m7 j=true
 ·rw [h,lS];unfold zcz at h;split at h
  ·rename_i _ _ e; rw [e]; rfl
  ·cases h
 ·rw [kF.mpr h,lG]
theorem zj8 {n:Nat} (h:z∈zal rw n):∃ j:Nat,z=j/\j < n:=by
 unfold zal at h;obtain⟨j,hj,e⟩:=aZ.mp h;exact⟨j,e.symm,bN.mp (cL.mp hj).1⟩
end
end My
end
section
namespace PySem
section
variable {prog:Program} {w:World} {A:Around} {E:Value->Shared->Prop} {s:Shared}
theorem zmY {z TI TO i1 i2:Addr} {sY sZ:List Addr} {n1 n2 k1 k2:Nat} {P1 P2:Nat->Value->Prop} {S1 S2:Nat->Heap->Prop} {f0 f1 a b:Value} {Q:Option Value->Shared->Prop} (D1:Draws prog w A.in1 i1 sY n1 P1 S1) (D2:Draws prog w A.in1 i2 sZ n2 P2 S2) (Z:Zap z TI TO i1 i2 sY sZ)
  (hz:IsZ s.heap z TI TO f0 f1) (hf:ZF f0 f1) (xk:IsPair s.heap TI #[UB] #[UA]) (yd:IsPair s.heap TO a b) (uG:S1 k1 s.heap) (nF:S2 k2 s.heap) (l1:k1 < n1) (l2:k2 < n2)
  (hQ:∀ x y h' tk g0 g1 a' b',P1 k1 x->P2 k2 y->IsZ h' z TI TO g0 g1->ZF g0 g1->IsPair h' TI #[UB] #[UA]->IsPair h' TO a' b'->S1 (k1+1) h'->S2 (k2+1) h'->IsPair h' s.heap.objs.size x y->h'.objs.size=s.heap.objs.size+1 ->
   (∀ c o,c≠z->c≠TO->c≠i1->c≠i2->s.heap.get? c=some o->h'.get? c=some o)->Q (some #[t0]) { s with heap:=h',toks:=tk }):wpAny #[na] A (pyNext #[Uw]) Q E s:=by
 have yC:s.TypeIs #[Uw] "zip":=⟨_,hz,rfl⟩;unfold pyNext;refine aa (bZ (bp (name:=bL "__next__") yC c9 #[Tg]));exact zi5 D1 D2 Z hz hf xk yd uG nF l1 l2 fun x y h1 tk g0 g1 a' b' px py rD HR CW CY CZ C0 Bk C1 kk=>ag (hQ x y h1 tk g0 g1 a' b' px py rD HR CW CY CZ C0 Bk C1 kk)
theorem zor {z TI TO i1 i2:Addr} {sY sZ:List Addr} {n1 n2 k1 k2:Nat} {P1 P2:Nat->Value->Prop} {S1 S2:Nat->Heap->Prop} {f0 f1 a b:Value} {Q:Option Value->Shared->Prop} (D1:Draws prog w A.in1 i1 sY n1 P1 S1) (D2:Draws prog w A.in1 i2 sZ n2 P2 S2) (Z:Zap z TI TO i1 i2 sY sZ)
  (hz:IsZ s.heap z TI TO f0 f1) (hf:ZF f0 f1) (xk:IsPair s.heap TI #[UB] #[UA]) (yd:IsPair s.heap TO a b) (uG:S1 k1 s.heap) (nF:S2 k2 s.heap) (l1:k1=n1\/(k1 < n1/\k2=n2))
  (hQ:∀ h' tk,(∀ c o,c≠z->c≠TO->c≠i1->c≠i2->s.heap.get? c=some o->h'.get? c=some o)->Q none { s with heap:=h',toks:=tk }):wpAny #[na] A (pyNext #[Uw]) Q E s:=by
 have yC:s.TypeIs #[Uw] "zip":=⟨_,hz,rfl⟩;unfold pyNext;refine aa (bZ (bp (name:=bL "__next__") yC c9 #[Tg]));refine zlI D1 D2 Z hz hf xk yd uG nF l1 fun h' tk x kk ⟨o,ho,hc⟩=>?_
 exact aa (dh (T:="StopIteration") (b:=true) ⟨o,ho,hc⟩ fg (ag (hQ h' tk kk)))
theorem zi7 {z TI TO:Addr} {f0 f1:Value} {Q:Value->Shared->Prop} (hz:IsZ s.heap z TI TO f0 f1) (h:Q #[Uw] s):wpAny #[na] A (pyIter #[Uw]) Q E s:=by
 have hT:s.TypeIs #[Uw] "zip":=⟨_,hz,rfl⟩; refine ee hT F.slot_zip_iter (bi F.slot_zip_iter hT F.entry_zip_iter ?_ (F.args_zip_iter_1 _));show wpAny _ _ (ret #[Uw]) _ _ s; exact ag ⟨_,rfl,"zip",_,hT,F.slot_zip_next.lookup,h⟩
theorem zpo {elts:List Expr} {x1} {pos:Pos} {z TI TO T:Addr} {f0 f1:Value} {Q:Unit->Shared->Prop} (hz:IsZ s.heap z TI TO f0 f1) (hf:ZF f0 f1)
  (hQ:∀ h' g0,IsZ h' z TI TO g0 f1->ZF g0 f1->aX z s.heap h'->Q () { s with heap:=h' }):wpAny #[na] A (letOwnedTupleGo (.Tuple elts x1 pos) #[Uw] (.ref T)) Q E s:=by
 unfold letOwnedTupleGo; refine aa (k9 hz ?_);show wpAny _ _ (if _ then _ else _) Q E s;split
 ·refine aa (cw ?_); show wpAny _ _ (setField #[Uw] 0 .none) Q E s;exact bF hz #[M] fun h' Gr oT=>hQ h' .none Gr ⟨.inl rfl,hf.2⟩ oT
 ·exact ag (hQ s.heap f0 hz hf #[Vw])
end
end PySem
namespace L2
open PySem PySem.Spec PyProof.Rows
variable {A:Around} {C:Addr} {H H':Hp} {K:af} {M:Model} {N:List Str} {R:Result->Shared->Prop} {X:Cx} {an od:Option Addr} {ct doc mV oc pm:Value} {env:Env} {fd:FuncData} {h h':Heap} {k t' tk:Nat} {mI:List (List Key×V)} {mq:List (Addr×Obj)} {outer:List Env} {pos:Pos} {qual:Str} {s:Shared} {scope:Scope} {sp:Sp} {us vs:List Value} {w:World} {y:V} {yb:Array #[Tl]}
noncomputable def zos (tN tO:Hp->Addr->List V->Prop) (a b:Addr):It :=
 ⟨(zjU tN tO a b).go,(zjU tN tO a b).yld,fun i H=>∃ xs ys,tN H a xs/\tO H b ys/\(xs.length=i\/(i < xs.length/\ys.length=i))⟩
abbrev zfo (n:Nat):List Addr:=[n+4,n+2,n+3,n,n+1]
abbrev zpp (C:String) (n a b:Nat) (i:Nat) (h:Heap):Prop:=(∃ f0 f1,IsZ h (n+4) (n+2) (n+3) f0 f1/\ZF f0 f1)/\IsPair h (n+2) (.ref n) #[Xs]/\(∃ u v,IsPair h (n+3) u v)/\h.IsTupleIter n a i/\ItC C h (n+1) b i
structure Sk (C:String) (Is:Heap->Addr->Array Value->Prop) (Sq:af->Hp->Addr->List V->Prop):Prop where
 h:SkH C Is
 inv:∀ {X:Cx} {mq:List (Addr×Obj)} {σ:St} {H:Hp} {s:Shared} {a:Addr} {xs:List V},Inv X mq σ H s->Sq X.K H a xs->∃ mC:List Value,zH xs mC/\Is s.heap a mC.toArray/\a < s.heap.objs.size
 inj:∀ {X:Cx} {mq:List (Addr×Obj)} {σ:St} {H:Hp} {s:Shared} {a:Addr} {xs ys:List V},Inv X mq σ H s->Sq X.K H a xs->Sq X.K H a ys->xs=ys
theorem sqL:Sk "list_iterator" Heap.IsList mB:=⟨skL,fun I h=>let ⟨mC,r,p,_⟩:=I.list h; ⟨mC,r,p.isList,by obtain⟨_,_,e,_⟩:=p; exact aB e⟩,fun I h h'=>I.KG h h'⟩
theorem zlL {C:String} {Is:Heap->Addr->Array Value->Prop} {Sq:af->Hp->Addr->List V->Prop} (S:Sk C Is Sq) {P:Program} {es:List Expr} (a b n:Nat) (ha:a < n) (hb:b < n):Turn P w K #[SG] (zos (mK K) (Sq K) a b) (zfo n) (n+4) (zpp C n a b) where
 mem:=by simp
 obj:=fun i h st c hc=>by
  obtain⟨⟨f0,f1,h1,_⟩,h2,⟨u,v,h3⟩,⟨o4,e4,_,d4⟩,⟨o5,e5,_,d5⟩⟩:=st;simp only [zfo,av,ba,or_false] at hc;rcases hc with z | z | z | z | z <;> subst z
  ·exact⟨_,h1,fun v z=>by cases z⟩
  ·exact⟨_,h2,fun v z=>by cases z⟩
  ·exact⟨_,h3,fun v z=>by cases z⟩
  ·exact⟨_,e4,fun v z=>by rw [d4] at z; cases z⟩
  ·exact⟨_,e5,fun v z=>by rw [d5] at z; cases z⟩
 keep:=fun i h h' st kk=>by
  obtain⟨⟨f0,f1,h1,hf⟩,h2,⟨u,v,h3⟩,h4,h5⟩:=st;obtain⟨o5,e5,r5⟩:=h5;exact⟨⟨f0,f1,kk _ #[M] _ h1,hf⟩,kk _ #[M] _ h2,#[Vi],h4.at fun o eo=>kk _ #[M] o eo,o5,kk _ #[M] _ e5,r5⟩
 item:=by
  intro X hP hw hK hc i mq s σ H E I hf st hg;subst hP hw hK;obtain⟨xs,ys,x,y,tw,tP,hx,hy⟩:=hg;obtain⟨⟨f0,f1,h1,Bj⟩,h2,⟨u0,v0,h3⟩,h4,h5⟩:=st;obtain⟨nW,wZ,p1,rD⟩:=I.tuple tw;obtain⟨nA,xi,p2,_⟩:=S.inv I tP;obtain⟨u,hu,ru⟩:=wZ.get hx;obtain⟨v,hv,rv⟩:=xi.get hy;have vP:n+4 < s.heap.objs.size:=aB h1;have hh:X.A.in1.handled=none:=by simp [I.ok.hd hc]
  have uf:i < nW.toArray.size:=by have:=(aj.mp hu).1; simpa using this
  have ug:i < nA.toArray.size:=by have:=(aj.mp hv).1; simpa using this
  refine zmY #[Ra] #[WD] (zek ha hb) h1 Bj h2 h3 ⟨h4,(show s.heap.IsTuple a nW.toArray from p1)⟩ ⟨h5,p2⟩ uf ug
   fun x' y' h' tk g0 g1 a' b' px py ez HX e2 e3 t4 t5 pp hsz kk=>?_
  have eu:x'=u:=by
   have e1:nW[i]? = some x':=by simpa using px
   rw [hu] at e1; exact (aN e1).symm
  have ev:y'=v:=by
   have e1:nA[i]? = some y':=by simpa using py
   rw [hv] at e1; exact (aN e1).symm
  subst eu ev;have ch:∀ c∈[n+4,n+3,n,n+1],c∈zfo n:=fun c mQ=>by
   simp only [zfo,av,ba,or_false] at mQ |-;rcases mQ with z | z | z | z <;> subst z <;> simp
  have k1:∀ c o,c∉[n+4,n+3,n,n+1]->s.heap.get? c=some o->h'.get? c=some o:=fun c o mQ eo=>by
   simp only [av,ba,or_false,not_or] at mQ;exact kk c o mQ.1 mQ.2.1 mQ.2.2.1 mQ.2.2.2 eo
  have CP:∀ c∈[n+4,n+3,n,n+1],∃ o,h'.get? c=some o:=fun c mQ=>by
   simp only [av,ba,or_false] at mQ;rcases mQ with z | z | z | z <;> subst z
   ·exact⟨_,ez⟩
   ·exact⟨_,e3⟩
   ·obtain⟨o,e,_⟩:=t4.1; exact⟨o,e⟩
   ·obtain⟨o,e,_⟩:=t5.1; exact⟨o,e⟩
  have I1:Inv X mq σ (mz H s.heap.objs.size (.tup [x,y])) { s with heap:=h',toks:=tk } :=
   I.Lo k1 (fun c mQ=>hf c (ch c mQ)) CP (ai _) #[Vl]
  refine⟨_,rfl,zpo (s:={ s with heap:=h',toks:=tk }) ez HX fun yu g2 yx E7 oK=>?_⟩;have fr:∀ c∈zfo n,mz H s.heap.objs.size (.tup [x,y]) c=none:=fun c mQ=>by
   have mW:c < s.heap.objs.size:=by
    simp only [zfo,av,ba,or_false] at mQ;rcases mQ with z | z | z | z | z <;> subst z <;> exact nl #[O]
   rw [zg (aO mW)];exact (hf c mQ).1
  have I2:Inv X mq σ (mz H s.heap.objs.size (.tup [x,y])) { s with heap:=yu,toks:=tk } :=
   Inv.Mi (s:={ s with heap:=h',toks:=tk }) (ch:=[n+4]) (t':=tk) I1 (fun c o mQ eo=>oK.extBut c o (by simpa using mQ) eo) (fun c mQ=>by
    have z:c=n+4:=by simpa using mQ
    subst z;exact⟨fr _ #[M],(hf _ #[M]).2⟩) (fun c mQ=>by
    have z:c=n+4:=by simpa using mQ
    subst z;exact⟨_,yx⟩)
  have up:∀ c o,c≠n+4->h'.get? c=some o->yu.get? c=some o:=fun c o mQ e=>oK.extBut c o mQ e
  exact⟨.ref s.heap.objs.size,_,I2,rfl,⟨_,x,y,I.fresh,rfl,rfl,fun zs hz=>by rw [I.Lq hz tw]; exact hx,fun zs hz=>by rw [S.inj I hz tP]; exact hy⟩,
   ⟨⟨g2,g1,yx,E7⟩,up _ _ #[Te] e2,⟨_,_,up _ _ #[Te] e3⟩,t4.1.at fun o e=>up _ o #[Te] e,⟨t5.1.choose,up _ _ #[Te] t5.1.choose_spec.1,t5.1.choose_spec.2⟩⟩,fr⟩
 done:=by
  intro X hP hw hK hc i mq s σ H E I hf st hg;subst hP hw hK;obtain⟨xs,ys,tw,tP,hx⟩:=hg;obtain⟨⟨f0,f1,h1,Bj⟩,h2,⟨u0,v0,h3⟩,h4,h5⟩:=st;obtain⟨nW,wZ,p1,rD⟩:=I.tuple tw;obtain⟨nA,xi,p2,_⟩:=S.inv I tP;have hh:X.A.in1.handled=none:=by simp [I.ok.hd hc]
  have xj:=wZ.length;have pJ:=xi.length;refine zor #[Ra] #[WD] (zek ha hb) h1 Bj h2 h3 ⟨h4,(show s.heap.IsTuple a nW.toArray from p1)⟩ ⟨h5,p2⟩ (by rw [au,au]; lia) fun h' tk kk=>#[Uj]
  have sub:∀ c∈[n+4,n+3,n,n+1],c∈zfo n:=fun c mQ=>by
   simp only [zfo,av,ba,or_false] at mQ |-;rcases mQ with z | z | z | z <;> subst z <;> simp
  have k1:∀ c o,c∉[n+4,n+3,n,n+1]->s.heap.get? c=some o->h'.get? c=some o:=fun c o mQ e=>by
   simp only [av,ba,or_false,not_or] at mQ;exact kk c o mQ.1 mQ.2.1 mQ.2.2.1 mQ.2.2.2 e
  have wW:∀ d u',H d=some u'->d∉[n+4,n+3,n,n+1]:=fun d u' e' hd=>by rw [(hf d (sub d hd)).1] at e'; cases e'
  refine I.step (g':=s.gens) (d':=s.drawn) (t':=tk) (ch:=[n+4,n+3,n,n+1]) (fun c mQ=>?_) #[Wc] #[UL] #[Tv]
   (fun c o oh e=>⟨o,k1 c o oh e⟩) #[SK] #[Uy] (fun c ps e=>⟨#[],by rw [e]; simp⟩) #[Ve] (fun c u e=>?_) I.bare
  ·obtain⟨_,a1,_,a3,a4,a5⟩:=hf c (sub c mQ);exact⟨a3,a1,a4,a5⟩
  ·obtain⟨o,es',ep,ho,r⟩:=hm;exact⟨o,es',ep,k1 _ o (fun z=>(hf _ (sub _ z)).2.1 rfl) ho,r⟩
  ·refine (I.hok c u e).Nm #[Xi] #[Ul] fun _ _ q=>q
   rcases hd with z | z
   ·rw [z]; exact wW c u e
   ·exact wW d _ z
 self:=fun _ _ _ _ _ st h=>by
  obtain⟨⟨f0,f1,hz,_⟩,_⟩:=st;exact zi7 hz h
noncomputable def iZq (tN tO:Hp->Addr->List V->Prop) (ta:TA):TI:=fun σ H R=>ta σ H fun vs H1=>∃ a b xs ys,vs = [.ref a,.ref b]/\tN H1 a xs/\tO H1 b ys/\R (zos tN tO a b) H1
theorem zlM {C:String} {Is:Heap->Addr->Array Value->Prop} {Sq:af->Hp->Addr->List V->Prop} (S:Sk C Is Sq) {es:List Expr} {rk p:Pos} {a b:Expr} {ta:TA} (hg:Gl X "zip") (hm:X.mg "zip" = none) (ha:PA X [a,b] ta) (hs:starEach [a,b] X.env = [#[Rh],#[Ps]]:=by rfl) (oJ:starEach [b] X.env = [#[Ps]]:=by rfl) :
  PI X #[S7] (.Call (.Name "zip" p) [a,b] [] pos) (iZq (mK X.K) (Sq X.K) ta):=by
 intro mq s σ H R I h;refine Call_ (zbG I hg hm boot_zip (bC (thn #[AC] fun us s1 ⟨vs,H1,I1,r1,q1⟩=>?_) (by rw [hs,oJ]) (by rw [oJ]; rfl)));obtain⟨l1,l2,xs,ys,e,tw,tP,q⟩:=q1;subst e;cases r1 with
 | cons r rr =>
  cases rr with
  | cons r' rr =>
   cases rr;cases r;cases r';obtain⟨nW,wZ,rE,rD⟩:=I1.tuple tw;obtain⟨nA,xi,CQ,ug⟩:=S.inv I1 tP;have uf:l1 < s1.heap.objs.size:=by obtain⟨_,e,_⟩:=rE; exact aB e
   refine zeK S.h (show s1.heap.IsTuple l1 nW.toArray from rE) CQ fun h' n hn b1 b2 b3 b4 b5 b6 kk=>?_
   have I2:Inv X mq σ H1 { s1 with heap:=h' }:=I1.kept (t':=s1.toks) kk;refine zi7 b1 ?_;refine⟨_,zfo n,zpp C n l1 l2,zos (mK X.K) (Sq X.K) l1 l2,H1,rfl,I2,zlL S l1 l2 n (by rw [hn]; exact uf) (by rw [hn]; exact ug),⟨⟨_,_,b1,.inl rfl,_,rfl⟩,b2,⟨_,_,b3⟩,b4,b5⟩,fun c hc=>?_,q⟩;have hle:s1.heap.objs.size<=c:=by
    simp only [zfo,av,ba,or_false] at hc;rw [<- hn];rcases hc with z | z | z | z | z <;> subst z
    all_goals first | exact iw _ _ | exact ai _
   exact I1.Nv hle #[UE]
theorem zlN {X:Cx} {es:List Expr} {k:Nat} {rk p pos:Pos} {a b:Expr} {ta:TA} (hg:Gl X "zip") (hm:X.mg "zip" = none) (ha:PA X [a,b] ta) (hs:starEach [a,b] X.env = [#[Rh],#[Ps]]:=by rfl) (oJ:starEach [b] X.env = [#[Ps]]:=by rfl) :
  PI X #[S7] (.Call (.Name "zip" p) [a,b] [] pos) (iZq (mK X.K) #[WN] ta):=zlM sqL hg hm ha hs oJ
section
variable {prog:Program} {w:World} {A:Around} {h:Heap} {g:Array GenState} {d:Drawn} {tk:Nat} {os:OsState} {K:af} {x C:Addr} {E:Value->Shared->Prop}
theorem zis {tp:Value} (J:∀ M,fP M h #[U7] #[QW]) (X:K.In h)
  (hm:bu K C (.type "object")=some true) (q:R (.ok (.ret #[QW])) ⟨h,g,d,tk,os⟩) :
  codeAny #[na] A (Code.call (.builtin "getset_descriptor.__get__") { pos:=[.builtin "object.__class__",.ref x,tp] }) R ⟨h,g,d,tk,os⟩:=by
 refine jx PySem.W.KF.slot_gs.plain PySem.W.KF.entry_gs (PySem.W.KF.slot_gs.check _ _ _ _ _ _ _ _ ?_ (PySem.W.KF.args_gs _ _ _) ?_)
 ·exact f6
 ·unfold Builtin.«getset_descriptor.__get__» kG;rw [PySem.W.dga_obj];refine aa (ag ?_)
  try dsimp only
  unfold jV
  try dsimp only
  refine aa ?_;unfold iZ jd
  try dsimp only
  rw [PySem.W.KF.owner_class];refine aa (ag ?_)
  try dsimp only
  unfold isInstance;refine aa (aa ((J _).at ((gw X hm).at ?_)));refine cM rfl (ag ?_);unfold again;refine ag ⟨Code.quiet_builtin _ #[N],?_⟩;refine iP PySem.W.KF.entry_class ?_;unfold Builtin.«object.__class__»
  try dsimp only
  unfold shownTypeOf;refine aa (aa ((J _).at ?_));refine cM rfl (ag ?_);unfold ret;exact ag q
theorem zj9 {B4:Value} {Q:Unit->Shared->Prop} (J:∀ M,fP M h #[U7] #[QW]) (X:K.In h) (hm:bu K C (.type "BaseException")=some true) (q:Q () ⟨h,g,d,tk,os⟩) :
  wpAny M A (checkBuiltinCall "BaseException.__getattribute__" { pos:=[.ref x,B4] }) Q E ⟨h,g,d,tk,os⟩:=by
 have hk:builtinKind "BaseException.__getattribute__" = some mj:=#[N];have hs:splitId "BaseException.__getattribute__" = some ("BaseException","__getattribute__"):=by decide +kernel
 unfold checkBuiltinCall;rw [hk,hs]
 try dsimp only
 unfold isInstance;refine aa (aa ((J _).at ((gw X hm).at ?_)));refine cM rfl ?_;have ok:=F.args_bexc_ga (.ref x) B4;unfold argsOk at ok;generalize Manifest.signature? "BaseException.__getattribute__" = sg at ok |-;cases sg with
 | none=>exact ag q
 | some sig =>
  dsimp only at ok |-;rw [ok];exact ag q
theorem zka {Q:Option Value->Shared->Prop} (J:∀ M,fP M h #[U7] #[QW]) (X:K.In h)
  (F1:aJ K #[QW] "__getattribute__" = some (some (.builtin "BaseException.__getattribute__"))) (F2:aJ K #[QW] "__getattr__" = some none)
  (F3:aJ K #[QW] "__class__" = some (some (.builtin "object.__class__"))) (hm:bu K C (.type "object")=some true) (hb:bu K C (.type "BaseException")=some true)
  (q:Q (some #[QW]) ⟨h,g,d,tk+1,os⟩):wpAny #[na] A (getAttr? (.ref x) "__class__") Q E ⟨h,g,d,tk,os⟩:=by
 unfold getAttr?
 (refine aa (wpAny_mkText ?_))
 unfold getAttrBy?
 (refine aa (bZ ?_))
 unfold getAttrBy;refine bJ (aa ((J _).at (aa ((gb X F1).at ?_))))
 try dsimp only
 refine cM rfl ?_;unfold getAttrByItsOwn;refine aa ((PySem.W.looks_hook (mc:=.ref C) X (r:=none) (by rw [show onTheHeap (aL C)=true from rfl,if_pos rfl]; exact F2)).at ?_)
 (refine aa (bZ (bJ ?_)))
 unfold callGetattribute;refine cM rfl ?_;unfold boundAndCalled;rw [F.attrBase_ValueError.ga.bind];refine aa (ag ?_)
 try dsimp only
 refine gc ?_;refine jx F.attrBase_ValueError.ga.plain F.entry_bexc_ga (zj9 J X hb ?_)
 (unfold Builtin.«object.__getattribute__»)
 refine aa ?_;unfold slotArgs
 try dsimp only
 refine cM rfl (cM rfl (ag ?_))
 try dsimp only
 unfold lO
 try dsimp only
 refine aa (ag (aa ((J _).at (aa ?_))));unfold l9;refine aa ((gb X F3).at ?_);unfold l7
 try dsimp only
 refine aa (jN f6 F.slot_gs_get.lookup ?_);unfold kH
 try dsimp only
 refine aa ?_;unfold ly;refine aa (aa (jN f6 F.slot_gs_set.lookup ?_));refine gG rfl (ag ?_);refine gG rfl (ag ?_)
 try dsimp only
 (refine aa (cw (ag ?_)))
 try dsimp only
 unfold lZ
 try dsimp only
 refine aa (bJ (gc (zis J X hm ?_)))
 try dsimp only
 unfold ret;refine ag ?_
 try dsimp only
 unfold handedOut
 try dsimp only
 refine ag ?_
 try dsimp only
 exact ag q
end
structure Xc (K:af) (C:Addr):Prop where
 f1:aJ K #[QW] "__getattribute__" = some (some (.builtin "BaseException.__getattribute__"))
 f2:aJ K #[QW] "__getattr__" = some none
 f3:aJ K #[QW] "__class__" = some (some (.builtin "object.__class__"))
 ob:bu K C (.type "object")=some true
 bb:bu K C (.type "BaseException")=some true
 kc:bS K #[QW] #[QW]=some true
theorem zeN {x:Addr} (e:∃ o,h.get? x=some o/\o.cls = .ref C) (M:Model):fP M h #[U7] #[QW]:=by
 obtain⟨o,e,c⟩:=e;intro A Q E s k q;obtain⟨h',g,d,t,os⟩:=s;unfold typeOf;refine aa (wpAny_loadPart_at (k _ _ e) (ag ?_));rw [c];exact q
theorem zot {b:Value} {r:Bool} (m:bu K C b=some r):∃ oc dd cd sl,K.lookup C=some ⟨oc,dd,.cls cd,sl⟩:=by
 unfold bu PySem.W.clsIn at m;cases e:cP C K with
 | none=>rw [e] at m; cases m
 | some o =>
  obtain⟨oc,dd,da,sl⟩:=o;cases da with
  | cls cd=>exact⟨oc,dd,cd,sl,rfl⟩
  | _=>rw [e] at m; cases m
theorem zhf {x:Addr} (c:Xc K C):PySem.W.KitX K (.ref x) #[QW] (fun h=>∃ o,h.get? x=some o/\o.cls = .ref C):=by
 refine⟨fun M h _ e=>zeN e M,fun M h X e=>(lA X c.kc).2.1,fun h tp dd mC n sl X e=>?_,fun {prog w A E Q s} X e q=>?_⟩
 ·obtain⟨oc,E8,cd,Gf,l⟩:=zot c.ob;have e2:=X _ _ l;have ne:C≠tp:=fun z=>by
   rw [z,e] at e2;cases e2
  exact decide_eq_false fun z=>ne (by injection z)
 ·obtain⟨h,g,d,tk,os⟩:=s;exact zka (fun M=>zeN e M) X c.f1 c.f2 c.f3 c.ob c.bb q
noncomputable def zlO (a C:Addr):HO:=.ext fun h=>∃ o,h.get? a=some o/\o.cls = .ref C
theorem zZ {X:Cx}:zbj X (.builtin "isinstance") (fun xs H Q=>∃ a C y b,xs = [.ref a,y]/\H a=some (zlO a C)/\Xc X.K C/\((∃ D,y = .ref D/\am X.K #[QW] #[QV]=some b)\/∃ n,y = .ty n/\am X.K #[QW] (.type n)=some b)/\Q (.bl b) H):=by
 intro mq s σ H xs us Q I r h;obtain⟨a,C,y,b,rfl,ha,c,hy,q⟩:=h;obtain⟨u,u',rfl,rx,r2⟩:=vals2 r;cases rx;obtain⟨he,_,_⟩:=(show zW X.prog X.w H s.heap a (zlO a C) from I.hok a _ ha);rcases hy with ⟨D,rfl,hk⟩ | ⟨n,rfl,hk⟩
 ·cases r2;exact bT (zhf c) I.kIn he hk (fun z=>nomatch z) fun tk=>⟨.bl b,H,I.tok tk,rfl,q⟩
 ·cases r2;exact bT (zhf c) I.kIn he hk (fun z=>nomatch z) fun tk=>⟨.bl b,H,I.tok tk,rfl,q⟩
abbrev zdO:List Value:=[.type "ValueError",.type "Exception",.type "BaseException",.type "object"]
structure QS (C:Addr) (h:Heap) (bmB:List Value) (newId:String):Prop where
 ex:∃ nm q N bs bm hdct sn sub ab col dd k0 k1 k2 k3 k5,∃ mN:Str->Option Value,h.get? C=some (excClassObj nm q C N bs bm hdct sn sub ab col dd k0 k1 k2 k3 k5 newId)/\h.Ns N mN/\mN "__init__" = none/\OwnTail h bmB bm
theorem zkb {bmB:List Value} {newId:String} (X:K.In h) (e:ci K C bmB newId=true):QS C h bmB newId:=by
 unfold ci at e;split at e
 ·rename_i dict cd sl hl
  split at e
  ·rename_i C' bm a0 a1 a2 a3 n a5 hm hs
   simp only [bV,beq_iff_eq] at e;obtain⟨⟨⟨⟨⟨rfl,rfl⟩,C2⟩,ht⟩,hn⟩,hi⟩:=e;obtain⟨sll⟩:=sl;have hs:sll = [a0,a1,a2,a3,some (Value.builtin n),a5]:=hs;subst hs;have ho:=X _ _ hl;cases cd;dsimp only at hm hn hi C2;subst hm;simp only [kI] at C2;subst C2;exact⟨_,_,_,_,_,_,_,_,_,_,_,_,_,_,_,_,_,ho,Heap.Ns.of_isNs (PySem.W.isNs_of_in X hn),PySem.W.nsMap_none_of_in X hn hi,PySem.W.tail_of_in X ht⟩
  ·cases e
 ·cases e
theorem zdZ {h h' base B:Heap} (k:∀ b o,h.get? b=some o->h'.get? b=some o):∀ {l:List Env},h.FunFrames base l->(∀ b∈frs l,B.get? b=none)->h'.FunFrames B l
 | [],_,_=>trivial
 | env :: r,hl,hb=>by
  obtain⟨hk,⟨L,o,hf,hn,ho,hd⟩,hr⟩:=hl;have e:frs (env :: r)=L :: frs r:=by unfold frs; rw [cb,hf]
  rw [e] at hb;exact⟨hk,⟨L,o,hf,hb L #[M],k _ _ ho,hd⟩,zdZ k hr fun b z=>hb b (ar _ z)⟩
structure Xl (P:Program) (w:World) (outer:List Env) (H:Hp) (h:Heap) (H':Hp) (h' B:Heap) (e C:Addr):Prop where
 new:h.get? e=none
 hok:HOk P w H' B
 fly:∃ t,B.FlyingW outer e #[QW] t h'
 keep:∀ b o,h.get? b=some o->H b=none->b∉frs outer->B.get? b=some o
 slot:∀ b o,h.get? b=some o->H b=none->b∈frs outer->∃ sl,h'.get? b=some { o with slots:=sl }
 free:∀ b o,h.get? b=some o->H b=none->H' b=none
 there:∀ b o,h.get? b=some o->b∉frs outer->∃ o',B.get? b=some o'
 MD:∀ b xs,H b=some #[Rp]->H' b=some #[Rp]
 MS:∀ b o u,H b=some #[Wi]->H' b=some #[Wi]
 MV:∀ b ps,H b=some (.tbl ps)->∃ more,H' b=some (.tbl (ps++more))
noncomputable def CX1 (P:Program) (w:World):CXT:=fun outer H s E ev s'=>∃ (e C:Addr) (H':Hp) (B:Heap),ev = .ref e/\s'.os=s.os/\AllBare s'.gens/\Xl P w outer H s.heap H' s'.heap B e C/\E #[QW] none H'
section
variable {P:Program} {w:World} {outer:List Env} {H H':Hp} {h h' B:Heap} {e C:Addr}
theorem zlP {o:HO} {a:Addr} (x:zW P w H h a o):∃ ob,h.get? a=some ob:=by
 cases o with
 | lst xs=>obtain⟨_,_,_,_,e⟩:=x; exact⟨_,e⟩
 | tup xs=>obtain⟨_,_,_,o,e,_⟩:=x; exact⟨_,e⟩
 | dK mI=>obtain⟨_,_,_,_,o,_,_,e,_⟩:=x; exact⟨_,e⟩
 | dT mI=>obtain⟨_,_,_,_,o,_,_,e,_⟩:=x; exact⟨_,e⟩
 | set S n=>obtain⟨o,_,_,_,e,_⟩:=x; exact⟨_,e⟩
 | ins C dx fs=>obtain⟨_,_,_,e,_⟩:=x; exact⟨_,e⟩
 | own y=>obtain⟨_,e⟩:=x; exact⟨_,e⟩
 | xd fs=>obtain⟨_,⟨_,_,_,e,_⟩,_⟩:=x; exact⟨_,e⟩
 | rng lo hi=>obtain⟨_,_,_,e⟩:=x; exact⟨_,e⟩
 | frz ob u=>obtain⟨e,_⟩:=x; exact⟨_,e⟩
 | tbl ps=>exact⟨_,(show h.get? a=some _ from x)⟩
 | met f y=>exact⟨_,(show h.get? a=some _ from x)⟩
 | ext φ=>obtain⟨_,⟨_,e⟩,_⟩:=x; exact⟨_,e⟩
theorem Xl.fresh (x:Xl P w outer H h H' h' B e C):H' e=none:=by
 obtain⟨t,_,hb,_⟩:=x.fly;cases q:H' e with
 | none=>rfl
 | some u =>
  obtain⟨ob,z⟩:=zlP (x.hok e u q);rw [hb] at z;cases z
theorem Xl.un (x:Xl P w outer H h H' h' B e C) (hf:∀ b∈frs outer,H b=none):Un (frs outer) [] H H' h h' where
 keep:=fun b o q n hb _=>by
  obtain⟨t,st,_⟩:=x.fly;exact st _ _ (x.keep b o q n hb)
 slot:=fun b o q n hb _=>x.slot b o q n hb
 free:=fun b o q n _=>x.free b o q n
 there:=fun b o q _=>by
  by_cases hb:b∈frs outer
  ·obtain⟨sl,z⟩:=x.slot b o q #[W3] hb;exact⟨_,z⟩
  ·obtain⟨o',z⟩:=x.there b o q hb;obtain⟨t,st,_⟩:=x.fly;exact⟨o',st _ _ z⟩
 MD:=x.MD
 MS:=x.MS
 MV:=x.MV
end
section
variable {X:Cx} {σ:St} {H:Hp} {s:Shared} {mq:List (Addr×Obj)}
theorem Inv.hid (I:Inv X mq σ H s):HOk X.prog X.w H (dq s.heap (frs X.stack)):=fun a o q =>
 (I.hok a o q).Nm (fun b u hb z=>eP _ z fun m=>by
  have n:=I.Mj b m;rcases hb with rfl | hb
  ·rw [q] at n; cases n
  ·rw [hb] at n; cases n) (fun _ z=>z) fun _ _ z=>z
theorem zhg {L:Addr} (hf:env.frame=some L):frs (env :: outer)=L :: frs outer:=by unfold frs; rw [cb,hf]
theorem Inv.MX (I:Inv X mq σ H s) {b:Addr} {o:Obj} (q:X.s₀.heap.get? b=some o):b≠X.env.locals:=aO (aR (aB q) I.ok.above)
end
section
variable {P:Program} {w:World} {K:af} {mg:Str->Option Value} {base:Heap} {N:List Str} {qual:Str} {scope:Scope} {f:Addr} {cd:Value} {A:Around} {outer:List Env} {s₀:Shared} {H₀:Hp} {E:XK}
abbrev cxX (P:Program) (w:World) (K:af) (mg:Str->Option Value) (base:Heap) (N:List Str) (qual:Str) (scope:Scope) (f:Addr) (cd:Value) (A:Around) (outer:List Env) (s:Shared) (H:Hp) (E:XK):Cx:=zbR #[Wh] P w K mg base N qual scope f cd A outer s H E
theorem zbo {σ:St} {h1:Heap} {e:Addr} (I:Inv #[pi] mq σ H s) (m:s.heap.MadeExcOf h1 e #[QW] vs) (q:E #[QW] none H) :
  (cxX P w K mg base N qual scope f cd A outer s₀ H₀ E).xe #[Ux] { s with heap:=h1 }:=by
 have Ea:frs #[pi].stack=s₀.heap.objs.size :: frs outer:=zhg rfl;obtain⟨t,he,_,_⟩:=m.there;have stays:(dq s.heap (frs #[pi].stack)).StaysIn h1:=fun b o z=>m.keeps _ _ (gP _ z)
 have ui:(dq s.heap (frs #[pi].stack)).get? e=none:=by
  cases z:(dq s.heap (frs #[pi].stack)).get? e with
  | none=>rfl
  | some o=>have:=gP _ z; rw [m.new] at this; cases this
 refine wpAny_leaving_firstW (base:=dq s.heap (frs #[pi].stack)) (outer:=outer) I.ok.frames (zdZ m.keeps I.stack fun b z=>jm _ z) rfl he stays ui rfl rfl rfl fun h2 left=>?_
 obtain⟨nF,ff2,tr2,AD⟩:=left;refine⟨e,C,H,dq s.heap (frs #[pi].stack),rfl,I.os,I.bare,⟨?_,I.hid,⟨_,nF,ui,ff2.2.2,tr2⟩,fun b o z n hb=>?_,fun b o z n hb=>?_,fun b o z n=>I.base.free b o z n (by simp [cxX,zbR]),fun b o z hb=>?_,I.base.MD,I.base.MS,I.base.MV⟩,q⟩
 ·cases z:s₀.heap.get? e with
  | none=>rfl
  | some o =>
   obtain⟨o',z'⟩:=I.base.there e o z (by simp [cxX,zbR]);rw [m.new] at z'; cases z'
 ·refine eP _ (I.base.keep b o z n hb (by simp [cxX,zbR])) fun hm=>?_
  rw [Ea] at hm;rcases av.mp hm with z' | z'
  ·exact I.MX z z'
  ·exact hb z'
 ·obtain⟨sl,z1⟩:=I.base.slot b o z n hb (by simp [cxX,zbR]);obtain⟨_,ob,zo,nd⟩:=I.ok.Nu.mem hb;have eo:ob=o:=by
   have z3:s₀.heap.get? b=some ob:=zo;rw [z] at z3; exact (aN z3).symm
  subst eo;obtain⟨Gf,z2⟩:=AD b _ (m.keeps _ _ z1) nd;exact⟨Gf,z2⟩
 ·obtain⟨o',z1⟩:=I.base.there b o z (by simp [cxX,zbR]);refine⟨o',eP _ z1 fun hm=>?_⟩;rw [Ea] at hm;rcases av.mp hm with z' | z'
  ·exact I.MX z z'
  ·exact hb z'
theorem zeO:zcl #[Wh] #[pi] E:=by
 intro mq σ H s ev s' I hq;obtain⟨e,C,H',B,rfl,os,bare,L,q⟩:=hq;have Ea:frs #[pi].stack=s₀.heap.objs.size :: frs outer:=zhg rfl;obtain⟨t,fl⟩:=L.fly;show wpAny _ _ (leaving _ _) _ _ _;unfold leaving;refine aa (wpAny_looks_onW (base:=B) (outer:=outer) I.ok.frames rfl fl fun h2 held u2=>?_);refine wpAny_landsW held fun h3 E9 u3=>?_
 obtain⟨Cy,ui,ff3,tr3⟩:=E9;refine⟨e,C,H',B,rfl,os.trans I.os,bare,⟨?_,L.hok,⟨_,Cy,ui,ff3.2.2,tr3⟩,fun b o z n hb=>?_,fun b o z n hb=>?_,fun b o z n=>?_,fun b o z hb=>?_,fun b xs z=>L.MD b xs (I.base.MD b xs z),fun b o u z=>L.MS b o u (I.base.MS b o u z),fun b ps z=>?_⟩,q⟩
 ·cases z:s₀.heap.get? e with
  | none=>rfl
  | some o =>
   obtain⟨o',z'⟩:=I.base.there e o z (by simp [cxX,zbR]);rw [L.new] at z'; cases z'
 ·refine L.keep b o (I.base.keep b o z n hb (by simp [cxX,zbR])) (I.base.free b o z n (by simp [cxX,zbR])) fun hm=>?_
  rw [Ea] at hm;rcases av.mp hm with z' | z'
  ·exact I.MX z z'
  ·exact hb z'
 ·obtain⟨sl,z1⟩:=I.base.slot b o z n hb (by simp [cxX,zbR]);obtain⟨_,ob,zo,nd⟩:=I.ok.Nu.mem hb;have eo:ob=o:=by
   have z3:s₀.heap.get? b=some ob:=zo;rw [z] at z3; exact (aN z3).symm
  subst eo;obtain⟨AD,z2⟩:=L.slot b _ z1 (I.base.free b _ z n (by simp [cxX,zbR])) (by rw [Ea]; exact ar _ hb);obtain⟨sl3,z3⟩:=u2 b _ z2 nd;obtain⟨sl4,z4⟩:=u3 b _ z3 nd;exact⟨sl4,z4⟩
 ·obtain⟨o',z'⟩:=I.base.there b o z (by simp [cxX,zbR]);exact L.free b o' z' (I.base.free b o z n (by simp [cxX,zbR]))
 ·obtain⟨o',z'⟩:=I.base.there b o z (by simp [cxX,zbR]);refine L.there b o' z' fun hm=>?_
  rw [Ea] at hm;rcases av.mp hm with z' | z'
  ·exact I.MX z z'
  ·exact hb z'
 ·obtain⟨m1,e1⟩:=I.base.MV b ps z;obtain⟨m2,e2⟩:=L.MV b _ e1;exact⟨m1++m2,by rw [e2,jZ]⟩
theorem Fun.okX {x:Str} {st:Stmt} {ps:List Str} (F:Fun K x qual st f fd) (S:Kg N ps (zi st)) (len:∀ vs H Q E,sp vs H Q E->vs.length=ps.length)
  (qg:∀ (mV:Value) (A:Around) (outer:List Env) (s:Shared) (H:Hp) (vs:List V) (Q:VK) (E:XK),LJ k #[Ro]->sp vs H Q E ->
   ∃ t,PSs (cxX P w K mg base N qual (zi st) f mV A outer s H E) (zaO st) t/\t { nx:=fun _ H'=>Q .non H',rt:=Q } #[Sl] H):Kq P w K mg base #[Wh] (k+1) f fd ps sp:=by
 obtain⟨oc,od,kV,doc,pm,an,mV,ct,yb,rfl,lk,t9⟩:=F.ex;exact znJ lk t9 S len fun A outer s H vs Q E hr tj=>qg mV A outer s H vs Q E hr tj
end
section
variable {X:Cx} {x:Str} {C:Addr} {e:Expr} {te:TE} {np oz pos:Pos} {E:XK}
noncomputable def zlQ (X:Cx) (E:XK):Prop:=∀ (mq:List (Addr×Obj)) (σ:St) (H:Hp) (s:Shared) (h1:Heap) (e C:Addr) (vs:List Value),Inv X mq σ H s->s.heap.MadeExcOf h1 e #[QW] vs->E #[QW] none H->X.xe #[Ux] { s with heap:=h1 }
noncomputable def zou (C:Addr) (E:XK) (te:TE):TS:=fun _ σ H=>ziP te zli σ H fun vs H1=>vs.length=1/\E #[QW] none H1
theorem zb9 (hx:zlQ X E) (hc:X.calm=true) (hg:Gl X x) (hm:X.mg x=some #[QW]) (xc:ci X.K C zdO "ValueError.__new__" = true) (he:PE X e te) (hd:(x == ("__debug__" : Str))=false:=by decide)
  (nZ:((backTo oz (starEach [e] X.env)).any fun x=>x.fst)=false:=by rfl) (oj:starEach [e] X.env=#[Do] :: starEach [] X.env:=by rfl) :
  PS X (.Raise (some (.Call (.Name x np) [e] [] oz)) none pos) (zou C E te):=by
 intro mq s σ H D I h;obtain⟨nm,q,N,bs,bm,hdct,sn,sub,ab,col,dd,k0,k1,k2,k3,k5,mN,HZ,yc,rG,xo⟩:=(zkb I.mod.kin xc).ex;refine wpAny_Raise_call_subU (nm:=nm) (q:=q) (N:=N) (bs:=bs) (hdct:=hdct) (sn:=sn) (sub:=sub) (ab:=ab) (col:=col) (dd:=dd) (k0:=k0) (k1:=k1) (k2:=k2) (k3:=k3) (k5:=k5) (bm:=bm) (bmB:=zdO) (bmN:=zdO) jy rfl jy (OwnTail.hasType xo rfl) #[Rq] nZ rG (zcM I hg hm #[Uj] hd);have pa:PA X [e] (ziP te zli):=za he zf oj;have go:=pa oz mq s σ H (fun vs H1=>vs.length=1/\E #[QW] none H1) I h;rw [oj] at go |-;refine jr (thn go fun us s2 ⟨vs,H2,I2,r2,ql,q2⟩=>⟨rfl,?_,I2.bk _ _ HZ,yc.keeps I2.bk,xo.keeps I2.bk,fun h1 ea m=>hx mq σ H2 s2 h1 ea C _ I2 m q2⟩);have:=r2.length;have qj:1<=sizeLine:=by decide
 show us.length<=sizeLine;lia
end
noncomputable def zov (X:Cx) (mq:List (Addr×Obj)) (σ:St) (e:Expr) (t:TE):Prop:=∀ (s:Shared) (H:Hp) (Q:VK),Inv X mq σ H s->t σ H Q->wpAny #[mt] X.A #[U0] #[Op] X.xe s
noncomputable def zow (X:Cx) (mq:List (Addr×Obj)) (σ:St) (st:Stmt) (t:TS):Prop:=∀ (s:Shared) (H:Hp) (D:Ends),Inv X mq σ H s->t D σ H->wpAny #[mt] X.A (exec st X.env) #[Xr] X.xe s
noncomputable def zi8 (X:Cx) (mq:List (Addr×Obj)) (σ:St) (st:List Stmt) (t:TS):Prop:=∀ (s:Shared) (H:Hp) (D:Ends),Inv X mq σ H s->t D σ H->wpAny #[mt] X.A (execs st X.env) #[Xr] X.xe s
noncomputable def zdn (CX:CXT) (X:Cx) (mq:List (Addr×Obj)) (σ:St) (E:XK):Prop:=∀ (H:Hp) (s:Shared) (e:Value) (s':Shared),Inv X mq σ H s->CX X.stack H s E e s'->X.xe e s'
section
variable {X:Cx} {mq:List (Addr×Obj)} {σ:St} {CX:CXT} {k:Nat} {f C:Addr} {fd:FuncData} {ps:List Str} {sp:Sp} {qf:List V} {ds:List Value} {E:XK} {x m:Str} {p pos apos:Pos} {e o:Expr} {es:List Expr} {ta te:TE} {t:TA}
theorem zfT {Q:VK} {vs:List V} (F:Kq X.prog X.w X.K X.mg X.base CX k f fd ps sp) (hr:LJ k X.A) (hb:Binds X.K fd ps ds) (hd:zH qf ds) (hx:zdn CX X mq σ E)
  (I:Inv X mq σ H s) (r:zH vs us) (h:sp (vs++qf) H Q E):wpAny #[mt] X.A (call #[R7] us) #[Op] X.xe s:=by
 have r2:zH (vs++qf) (us++ds):=r.append hd;have hl:(us++ds).length=ps.length:=by rw [<- r2.length]; exact F.len _ _ _ _ h
 refine gc (eV (F.run X.A X.stack s H ⟨us,[]⟩ (us++ds) (vs++qf) Q E hr I.Qx (hb s us I.kIn hl) r2 h) fun r s' hq=>?_);cases r with
 | error e=>exact hx H s e s' I hq
 | ok fl =>
  cases fl with
  | ret u=>exact I.after hq
  | next=>exact bO hq
  | brk=>exact bO hq
  | cont=>exact bO hq
theorem zeP {pl:Sem Bool} (he:PE X o ta) (c:Cls X.K C) (hm:Oi X.K C m f) (F:Kq X.prog X.w X.K X.mg X.base CX k f fd ps sp) (hr:LJ k X.A) (hb:Binds X.K fd ps ds) (hd:zH qf ds) (hx:zdn CX X mq σ E) (ha:PA X (e :: es) t)
  (oj:starEach (e :: es) X.env=#[Do] :: starEach es X.env:=by rfl) (nZ:#[AT].any (·.1)=false:=by rfl)
  (ht:eval (.Call #[Q8] (e :: es) [] pos) X.env=(do
   let ov <- eval o X.env
   standAt apos.atName
   let (f,first) <- holding [ov] #[Us]
   callWith pos f first (backTo pos #[Sw]) (backToKw pos (keywordEach [] X.env))):=by rfl) :
  zov X mq σ (.Call #[Q8] (e :: es) [] pos) (ziQ C m sp qf E ta t):=by
 intro s H Q I h;refine eg (pl:=pl) (thn #[Id] fun u s1 ⟨x,H1,I1,rx,a,dx,fs,ex,ea,l,q⟩=>?_) ht;subst ex;obtain rfl:u=aL a:=rx;refine zck I1 ea c hm l ?_;refine d6 (first:=[.ref a]) (h₀:=X.base) I.ok.mod.kin hm.kp (thn #[Xh] fun us s2 ⟨vs,H2,I2,r,q2⟩=>⟨I2.kIn,?_⟩) oj nZ;exact zfT (us:=.ref a :: us) (vs:=.ref a :: vs) F hr hb hd hx I2 (.cons rfl r) q2
theorem zd0 {pl:Sem Bool} (he:PE X o ta) (c:Cls X.K C) (hm:Oi X.K C m f) (F:Kq X.prog X.w X.K X.mg X.base CX k f fd ps sp) (hr:LJ k X.A) (hb:Binds X.K fd ps ds) (hd:zH qf ds) (hx:zdn CX X mq σ E)
  (ht:eval (.Call #[Q8] [] [] pos) X.env=(do
   let ov <- eval o X.env
   standAt apos.atName
   let (f,first) <- holding [ov] #[Us]
   callWith pos f first (backTo pos (starEach [] X.env)) (backToKw pos (keywordEach [] X.env))):=by rfl) :
  zov X mq σ (.Call #[Q8] [] [] pos) (ziQ C m sp qf E ta zli):=by
 intro s H Q I h;refine eg (pl:=pl) (thn #[Id] fun u s1 ⟨x,H1,I1,rx,a,dx,fs,ex,ea,l,q⟩=>?_) ht;subst ex;obtain rfl:u=aL a:=rx;refine zck I1 ea c hm l ?_;exact jK (first:=[.ref a]) I1.kIn hm.kp (zfT (us:=[.ref a]) (vs:=[.ref a]) F hr hb hd hx I1 #[Vh] q)
theorem zcP {i:Nat} {pos':Pos} (hN:X.N.Nodup) (hi:X.N[i]? = some x) (hx:Loc X.env.scope x) (he:zov X mq σ e te) (hs:swapsWith e #[WP] pos.line X.env=pure false:=by rfl) (hf:X.fn x=true\/X.env.scope.names.lookup x=some .local:=by first | exact .inl rfl | exact .inr rfl | assumption) :
  zow X mq σ (.Assign [.Name x pos'] e pos) (zfg te (zaD i)):=by
 intro s H D I h;refine wpAny_Assign_Name (thn (he s H _ I h) fun v s1 ⟨y,H1,I1,r1,q1⟩=>?_) hs;exact zb6 I1 hN hi hx r1 (fun s2 I2=>⟨_,H1,I2,q1⟩) hf
theorem zeQ {c:Expr} {a b:List Stmt} {tc:TT} {ts u:TS} (hc:PT X c tc) (ha:zi8 X mq σ a ts) (hb:zi8 X mq σ b u):zow X mq σ (.If c a b pos) (zo4 tc ts u):=by
 intro s H D I h;refine wpAny_If (thn #[VA] fun d s1 ⟨H1,I1,q1⟩=>?_);cases d with
 | true=>exact ha s1 H1 D I1 q1
 | false=>exact hb s1 H1 D I1 q1
theorem za7 {st:Stmt} {ts:TS} (h:zow X mq σ st ts):zi8 X mq σ [st] ts:=by
 intro s H D I h1;refine ip (thn (h s H D I h1) fun f s1 q=>?_);cases f with
 | next=>exact dX q
 | ret v=>exact q
 | brk=>exact q
 | cont=>exact q
end
section
variable {X:Cx} {σ:St} {H:Hp} {s:Shared} {mq:List (Addr×Obj)}
theorem zkc {E:Value->Shared->Prop} {i:Nat} {x:Str} {v:V} {Q:Unit->Shared->Prop} (I:Inv X mq σ H s) (hN:X.N.Nodup) (hi:X.N[i]? = some x) (hk:X.env.scope.names.lookup x=some .local) (hv:σ[i]? = some #[UW])
  (h:∀ s',Inv X mq #[VF] H s'->Q () s'):wpAny M A (unbindName X.env x) Q E s:=by
 obtain⟨m,hn,hl⟩:=id I.loc;have yj:(X.env.scope.kind == .class || (X.env.scope.kind == .module && X.env.locals != X.env.globals))=false:=by rw [I.ok.kind]; rfl
 have hiσ:i < σ.length:=by rw [I.len]; exact (aj.mp hi).1
 have cne:=I.cne;obtain⟨u,r,lk⟩:=hl i x v hi hv (.inl hk);have hm:m x=some u:=by
  rcases lk with ⟨_,z⟩ | ⟨z,_⟩
  ·exact z
  ·have z:X.env.scope.names.lookup x=some .cell\/X.env.scope.names.lookup x=some .free:=z;rw [hk] at z;rcases z with z | z <;> cases z
 refine wpAny_unbindName_local hk hn hm yj fun h' u' BX hs=>?_
 obtain⟨oL,_,_,D4,_⟩:=id hn;refine h _ ⟨I.ok,I.os,I.bare,#[wT],#[WY],fun y c e=>?_,I.free,I.KH,fun p hp=>?_,fun b ob e=>?_,by simpa using I.len⟩
 ·exact (hs.2 b #[Q9]).trans #[Se]
 ·obtain⟨sl,e1⟩:=I.base.slot b o e n hb hx;exact⟨sl,(hs.2 b #[Q9]).trans e1⟩
 ·obtain⟨o',e1⟩:=I.base.there b o e hx;exact⟨o',(hs.2 b #[Q9]).trans e1⟩
 ·by_cases hj:j=i
  ·subst hj;rw [dm hiσ] at e2;cases e2
  ·rw [dF (cA hj)] at e2;obtain⟨u',r',q⟩:=hl j y v' e1 e2 e3;refine⟨u',r',?_⟩;rcases q with ⟨k,e⟩ | ⟨k,c,e,z⟩
   ·refine .inl ⟨k,?_⟩;have:y≠x:=fun e=>hj (zew hN e1 (e ▸ hi))
    simp [this,e]
   ·exact .inr #[WX]
 ·obtain⟨w',z⟩:=I.cell y c e;exact#[WG]
 ·obtain⟨e,n,ne,nf,d⟩:=I.pin p hp;exact⟨(hs.2 p.1 ne).trans e,n,ne,nf,d⟩
 ·refine (I.hok b ob e).Nm (fun c w' hc q=>(hs.2 c ?_).trans q) #[Ul] fun _ _ q=>q
  rintro rfl;rcases hc with rfl | hc
  ·rw [I.free] at e; cases e
  ·rw [I.free] at hc; cases hc
theorem Inv.Qo {a:Addr} {o:HO} (I:Inv X mq σ H s) (hn:H a=none) (h0:X.s₀.heap.get? a=none) (hL:a≠X.env.locals) (hc:∀ x c,X.env.cells.lookup x=some c->c≠a) (hp:∀ p∈X.pn++mq,p.1≠a) (new:zW X.prog X.w #[Ti] s.heap a o) :
  Inv X mq σ #[Ti] s:=by
 have hok:HOk X.prog X.w #[Ti] s.heap:=fun b u e=>by
  by_cases hb:b=a
  ·subst hb;rw [zb] at e;cases e;exact new
  ·rw [zg hb] at e;exact #[Vt].Nm (fun c v _ q=>q) (fun c q=>by rw [zg (zj q hn)]; exact q) fun c xs q=>by rw [zg (zj q hn)]; exact q
 refine⟨I.ok,I.os,I.bare,#[RG],I.loc,I.cell,?_,fun x c e=>?_,fun p Gz=>?_,hok,I.len⟩
 ·rw [zg (fun z=>by rw [z,h0] at e; cases e)];exact I.base.free b u e n hx
 ·have:=I.base.MD b xs e;rw [zg (zj this hn)]; exact this
 ·have:=I.base.MS b u xs e;rw [zg (zj this hn)]; exact this
 ·obtain⟨m1,this⟩:=I.base.MV b ps e;exact⟨m1,by rw [zg (zj this hn)]; exact this⟩
 ·rw [zg (cA hL)]; exact I.free
 ·rw [zg (hc x c e)]; exact I.KH x c e
 ·obtain⟨e,n,ne,nf,d⟩:=I.pin p Gz;exact⟨e,by rw [zg (hp p Gz)]; exact n,ne,nf,d⟩
end
abbrev Cx.Mb (X:Cx) (e:Addr):Cx:={ X with A:=X.A.mark (some #[Ux]),calm:=false,xe:=fun _ _=>False }
section
variable {X:Cx} {mq:List (Addr×Obj)} {σ:St} {H:Hp} {s:Shared} {e:Addr}
theorem Cx.Ok.Mb (ok:X.Ok) (e:Addr):(X.Mb e).Ok :=
 ⟨ok.mod,ok.kind,ok.glob,ok.blt,ok.above,ok.inj,ok.has,ok.cab,fun z=>(by cases z),ok.frames,ok.stk,ok.exf,ok.bs,ok.bsz,ok.PX,ok.Ql,ok.Nu,ok.frf⟩
theorem Inv.Mb (I:Inv X mq σ H s) (e:Addr):Inv (X.Mb e) mq σ H s:=⟨I.ok.Mb e,I.os,I.bare,I.base,I.loc,I.cell,I.free,I.KH,I.pin,I.hok,I.len⟩
theorem Inv.Qp (I:Inv (X.Mb e) mq σ H s) (ok:X.Ok):Inv X mq σ H s:=⟨ok,I.os,I.bare,I.base,I.loc,I.cell,I.free,I.KH,I.pin,I.hok,I.len⟩
theorem zhh {E:Value->Shared->Prop} {g:Array GenState} {d:Drawn} {os:OsState} {S:Addr} {Q:Bool->Shared->Prop} (X:K.In h) (he:∃ o,h.get? e=some o/\o.cls = .ref C) (hk:bS K #[QW] (.ref S)=some true)
  (hs:bu K S (.type "BaseException")=some true) (q:Q true ⟨h,g,d,tk,os⟩):wpAny M A (excMatches #[Ux] (.ref S)) Q E ⟨h,g,d,tk,os⟩:=by
 obtain⟨l1,l2,l3⟩:=lA (M:=M) X hk;unfold excMatches isInstance;refine aa (aa (l1.at ?_));rw [tc_notTuple];refine ag (cM rfl (aa (ag ?_)));dsimp only
 (simp only [dz,fh])
 refine aa (aa (aa ?_));unfold isExcClass;refine aa (l2.at (gG rfl ((gw X hs).at ?_)));refine cM rfl (ag (ag ?_));refine aa ((zeN he M).at ?_);refine aa (aa (aa (l3.at (gG rfl (ag (ag ?_))))));exact ag q
end
noncomputable def Ends.but (D:Ends) (i:Nat):Ends:={ nx:=fun σ H=>D.nx #[VF] H,rt:=D.rt,bk:=fun σ H=>D.bk #[VF] H,ct:=fun σ H=>D.ct #[VF] H }
noncomputable def zp2 (K:af) (S:Addr) (i:Nat) (tb:XK->TS) (th:TS):TS:=fun D σ H =>
 tb (fun cls _ H'=>∃ C,cls = .ref C/\bS K #[QW] (.ref S)=some true/\∀ e,H' e=none->th (D.but i) (σ.set i (some #[Ux])) (mz H' e (zlO e C))) D σ H
section
variable {X:Cx} {x n:Str} {S:Addr} {i:Nat} {body yD:List Stmt} {b₀:Stmt} {tb:XK->TS} {th:TS} {np xp pos:Pos}
theorem zox (hex:X.ex = []) (Fb:X.stack=X.env :: X.outer) (yo:X.env.frame=some X.env.locals) (hg:Gl X x) (hm:X.mg x=some (.ref S)) (hS:bu X.K S (.type "BaseException")=some true)
  (hN:X.N.Nodup) (hi:X.N[i]? = some n) (hk:X.env.scope.names.lookup n=some .local)
  (hb:∀ (xe:Value->Shared->Prop) (mq:List (Addr×Obj)) (σ:St) (E:XK),zdn (CX1 X.prog X.w) (X.Om xe) mq σ E->zi8 (X.Om xe) mq σ body (tb E))
  (hh:∀ e:Addr,PSs (X.Mb e) (b₀ :: yD) th) (hd:(x == ("__debug__" : Str))=false:=by decide) :
  PS X (.Try body [.ExceptHandler (some (.Name x np)) (some n) (b₀ :: yD) xp] [] [] pos) (zp2 X.K S i tb th):=by
 intro mq s σ H D I h;refine wpAny_Try_except ?_;refine bK (hb (fun ev s1=>wpAny #[mt] X.A (noteFrame ev X.env) (fun _ s₂=>wpAny #[mt] X.A (setFlight ev none) (fun _ s₃=>wpAny #[mt] X.A (handleBy ev X.env [ExceptHandler.ExceptHandler (some (Expr.Name x np)) (some n) (b₀ :: yD) xp]) #[Xr] X.xe s₃) X.xe s₂) X.xe s1) mq σ _ ?_ s H D (I.Om _) h) (fun f s1 q=>?_) fun ev s1 z=>z
 ·
  intro H1 s1 ev s2 I1 hq;have I1:=I1.Ky;obtain⟨e,C,H',B,rfl,os,bare,L,C',hC,tu,q⟩:=hq;cases hC;obtain⟨t,fl⟩:=L.fly;have uR:∀ b∈frs X.stack,H1 b=none:=I1.Mj;show wpAny _ _ (noteFrame _ _) _ _ _;have fl0:B.FlyingW (X.env :: X.outer) e #[QW] t s2.heap:=by rw [<- Fb]; exact fl
  refine wpAny_looks_onW (base:=B) (outer:=X.outer) (by rw [<- Fb]; exact I1.ok.frames) yo fl0 fun h2 held u2=>?_
  refine wpAny_landsW held fun h3 E9 u3=>?_
  have Cy:∀ (h4:Heap),B.FlyingW (X.env :: X.outer) e #[QW] t h4->s2.heap.UpToSlots h4->∀ (tk:Nat),Inv X mq σ H' ⟨h4,s2.gens,s2.drawn,tk,s2.os⟩:=by
   intro h4 Eb u4 tk;refine I1.Qf (s':=⟨h4,s2.gens,s2.drawn,tk,s2.os⟩) (ch:=[]) os ?_ (L.hok.kept Eb.1) bare (fun b z=>absurd z #[M]);have U:=L.un uR;refine⟨fun b o z nn hb _=>Eb.1 _ _ (L.keep b o z nn hb),fun b o z nn hb _=>?_,U.free,fun b o z _=>?_,L.MD,L.MS,L.MV⟩
   ·obtain⟨sl,z1⟩:=L.slot b o z nn hb;obtain⟨_,ob,zo,nd⟩:=I1.stack.mem hb;rw [z] at zo;cases zo;obtain⟨AD,z2⟩:=u4 b _ z1 nd;exact⟨AD,z2⟩
   ·by_cases hb:b∈frs X.stack
    ·obtain⟨sl,z1⟩:=L.slot b o z (uR b hb) hb;obtain⟨_,ob,zo,nd⟩:=I1.stack.mem hb;rw [z] at zo;cases zo;obtain⟨AD,z2⟩:=u4 b _ z1 nd;exact⟨_,z2⟩
    ·obtain⟨o',z1⟩:=L.there b o z hb;exact⟨o',Eb.1 _ _ z1⟩
  have I3:=Cy h3 E9 (u2.trans u3) s2.toks;refine wpAny_handleBy_cons (codeAny_handlers_test ?_) (by intro z; cases z);refine zcM (X:=X.Mb e) (I3.Mb e) hg hm ?_ hd;refine zhh I3.kIn E9.there tu hS ?_;rw [if_pos rfl]
  (refine codeAny_handlers_suite_as ?_)
  refine PyProof.Rows.lands_againW E9 fun h4 Eb u4=>?_
  have I4:=Cy h4 Eb ((u2.trans u3).trans u4) s2.toks;have ne:H' e=none:=L.fresh;have e0:X.s₀.heap.get? e=none:=by
   cases z:X.s₀.heap.get? e with
   | none=>rfl
   | some o =>
    obtain⟨o',z'⟩:=I1.base.there e o z (by rw [hex]; simp);rw [L.new] at z'; cases z'
  have I5:Inv X mq σ (mz H' e (zlO e C)) ⟨h4,s2.gens,s2.drawn,s2.toks,s2.os⟩:=by
   refine I4.Qo ne e0 (fun z=>?_) (fun y c hc z=>?_) (fun p hp z=>?_) ?_
   ·obtain⟨m,⟨o,_,_,ho,_⟩,_⟩:=I1.loc;rw [<- z,L.new] at ho;cases ho
   ·obtain⟨v,o,ho,_⟩:=I1.cell y c hc;rw [z,L.new] at ho;cases ho
   ·have:=(I1.pin p hp).1;rw [z,L.new] at this;cases this
   ·obtain⟨ob,ho,yj⟩:=Eb.there;exact⟨⟨ob,ho,yj⟩,⟨ob,ho⟩,fun h1 h2 ⟨o,z,c⟩ k=>⟨o,k o z,c⟩⟩
  refine zb6 (X:=X.Mb e) (v:=.ref e) (I5.Mb e) hN hi (.inl hk) rfl (fun s6 I6=>?_) (.inr hk);refine bK (hh e mq s6 _ _ (D.but i) I6 (q e ne)) (fun f s7 q7=>?_) fun _ _ z=>z.elim
  have fin:∀ {σ':St} {H7:Hp} {R:Shared->Prop},Inv (X.Mb e) mq σ' H7 s7->(∀ s8,Inv X mq (σ'.set i none) H7 s8->R s8)->wpAny #[mt] X.A (do bindName X.env n bW; unbindBehindTheSuite X.env n xp) (fun _ s8=>R s8) X.xe s7:=by
   intro σ' H7 R I7 hR;have I7:=I7.Qp I.ok;refine aa (wpAny_bindName (zb6 (v:=.non) I7 hN hi (.inl hk) rfl (fun s8 I8=>?_) (.inr hk)));unfold unbindBehindTheSuite;refine fO ?_;have B5:i < σ'.length:=by rw [I7.len]; exact (aj.mp hi).1
   refine zkc (v:=.non) I8 hN hi hk (by rw [dm B5]) fun s9 I9=>hR s9 ?_
   rw [List.set_set] at I9;exact I9
  cases f with
  | next =>
   obtain⟨σ',H7,I7,q8⟩:=q7;exact fin I7 fun s8 I8=>⟨_,_,I8,q8⟩
  | brk =>
   obtain⟨σ',H7,I7,q8⟩:=q7;exact fin I7 fun s8 I8=>⟨_,_,I8,q8⟩
  | cont =>
   obtain⟨σ',H7,I7,q8⟩:=q7;exact fin I7 fun s8 I8=>⟨_,_,I8,q8⟩
  | ret v =>
   obtain⟨u,σ',H7,I7,r,q8⟩:=q7;exact fin I7 fun s8 I8=>⟨u,_,_,I8,r,q8⟩
 ·cases f with
  | next=>exact dX (SP.Ky q)
  | ret v=>exact SP.Ky q
  | brk=>exact SP.Ky q
  | cont=>exact SP.Ky q
end
structure MP (k:Nat) (A:Around):Prop where
 dp:A.depth+3*k+5 < recursionLimit
 un:A.units+16*k+200 < cLine
theorem MP.of {e:Addr} (r:LJ k A):MP k (A.mark (some #[Ux])):=⟨r.dp,r.un⟩
theorem MP.deeper (r:MP (k+1) A) (env:Env):MP k (A.deeper env) :=
 ⟨by have:=r.dp; show A.depth+1+3*k+5 < _; lia,by have:=r.un; show A.units+3+16*k+200 < _; lia⟩
structure PN (P:Program) (w:World) (K:af) (mg:Str->Option Value) (base:Heap) (k:Nat) (f:Addr) (fd:FuncData) (ps:List Str) (sp:Sp):Prop where
 len:∀ vs H Q E,sp vs H Q E->vs.length=ps.length
 run:∀ (A:Around) (outer:List Env) (s:Shared) (H:Hp) (args:Args) (us:List Value) (vs:List V) (Q:VK) (E:XK),MP k A->PR P w K mg base A outer s H->BindsTo s fd args #[V1]->zH vs us->sp vs H Q E ->
  codeAny #[Ui] A (.call #[R7] args) (CR CX0 outer P w H s Q E) s
abbrev cxH (P:Program) (w:World) (K:af) (mg:Str->Option Value) (base:Heap) (N:List Str) (qual:Str) (scope:Scope) (f:Addr) (cd:Value) (A:Around) (outer:List Env) (s:Shared) (H:Hp) (E:XK):Cx :=
 { zbR CX0 P w K mg base N qual scope f cd A outer s H E with calm:=false,xe:=fun _ _=>False }
section
variable {P:Program} {w:World} {K:af} {mg:Str->Option Value} {base:Heap}
theorem zoy {f:Addr} {name:Str} {params:Arguments} {body:List Stmt} {dV kV:Value} 
  {ps:List Str} (lk:K.lookup f=some ⟨oc,od,.func #[GM],yb⟩) (t9:dM K mV qual=true) (S:Kg N ps scope)
  (len:∀ vs H Q E,sp vs H Q E->vs.length=ps.length)
  (qg:∀ (A:Around) (outer:List Env) (s:Shared) (H:Hp) (vs:List V) (Q:VK) (E:XK),MP k #[TQ]->sp vs H Q E ->
   ∃ t,PSs #[Ru] body t/\t { nx:=fun _ H'=>Q .non H',rt:=Q } #[Sl] H) :
  PN P w K mg base (k+1) f #[GM] ps sp:=by
 refine#[Ts];have hl:=len _ _ _ _ tj;have KX:K.In s.heap:=e0.mod.kin.keeps fun b o e=>#[Xd].1
 have lim:s.heap.NoLimit:=e0.mod.nolimit.keeps fun b o e=>#[Xd].1
 have rH:∀ y∈ps.zip us,scope.names.lookup y.1=some .local\/(scope.names.lookup y.1=some .cell/\((cellsFrom #[ul] scope.names []).lookup y.1).isSome=true):=fun ⟨n,v⟩ hy=>by
  rcases S.par n (gd hy).1 with q | q
  ·exact .inl q
  ·exact .inr ⟨q,fI _ _ _ (.inl q)⟩
 refine je (by have:=hr.dp; lia) (KX _ _ lk) rfl S.co S.gen rfl (j5 KX t9) (hb _ _ _ _ ?_);refine gZ S.kind rH fun env he s1 x=>?_
 subst he;refine#[Ut];obtain⟨t,ht,hq⟩:=qg A outer s H vs Q E (hr.deeper _) tj;have e1:PR P w K mg base { A with handled:=none } outer s H:=⟨e0.frames,e0.mod,e0.bs,e0.bsz,e0.Nu,e0.frf,e0.hok,e0.bare⟩;have I0:Inv (zbR CX0 P w K mg base N qual scope f mV { A with handled:=none } outer s H E) [] #[Sl] H s1:=zfE S rfl e1 hl r x;have I:Inv #[Ru] [] #[Sl] H s1 :=
  ⟨⟨I0.ok.mod,I0.ok.kind,I0.ok.glob,I0.ok.blt,I0.ok.above,I0.ok.inj,I0.ok.has,I0.ok.cab,fun z=>(by cases z),I0.ok.frames,I0.ok.stk,I0.ok.exf,I0.ok.bs,I0.ok.bsz,I0.ok.PX,I0.ok.Ql,I0.ok.Nu,I0.ok.frf⟩,I0.os,I0.bare,I0.base,I0.loc,I0.cell,I0.free,I0.KH,I0.pin,I0.hok,I0.len⟩
 refine bK (ht [] s1 #[Sl] H _ I hq) (fun fl s' hs=>?_) fun e s' hs=>hs.elim
 have fin:∀ {σ':St} {H':Hp} {v:V} {u:Value},Inv #[Ru] [] σ' H' s'->RelV v u->Q v H'->CE outer P w H s Q u s' :=
  fun {σ' H' v u} J rv q=>⟨v,H',J.os,J.bare,J.base,J.hok,rv,q⟩
 cases fl with
 | ret u =>
  obtain⟨v,σ',H',J,rv,q⟩:=hs;exact fin J rv q
 | next =>
  obtain⟨σ',H',J,q⟩:=hs;exact fin (v:=V.non) (u:=bW) J rfl q
 | brk =>
  obtain⟨_,_,_,q⟩:=hs;exact bO q
 | cont =>
  obtain⟨_,_,_,q⟩:=hs;exact bO q
theorem Fun.okH {x:Str} {st:Stmt} {f:Addr} {ps:List Str} (F:Fun K x qual st f fd) (S:Kg N ps (zi st)) (len:∀ vs H Q E,sp vs H Q E->vs.length=ps.length)
  (qg:∀ (mV:Value) (A:Around) (outer:List Env) (s:Shared) (H:Hp) (vs:List V) (Q:VK) (E:XK),MP k #[Ro]->sp vs H Q E ->
   ∃ t,PSs (cxH P w K mg base N qual (zi st) f mV A outer s H E) (zaO st) t/\t { nx:=fun _ H'=>Q .non H',rt:=Q } #[Sl] H):PN P w K mg base (k+1) f fd ps sp:=by
 obtain⟨oc,od,kV,doc,pm,an,mV,ct,yb,rfl,lk,t9⟩:=F.ex;exact zoy lk t9 S len fun A outer s H vs Q E hr tj=>qg mV A outer s H vs Q E hr tj
end
section
variable {X:Cx} {k:Nat} {f:Addr} {fd:FuncData} {ps:List Str} {sp:Sp} {x:Str} {p pos:Pos} {e:Expr} {es:List Expr} {t:TA}
theorem zlR (F:PN X.prog X.w X.K X.mg X.base k f fd ps sp) (hr:MP k X.A) (hg:Gl X x) (hm:X.mg x=some #[R7]) (hk:cF X.K #[R7]=true) (hb:Binds X.K fd ps [])
  (ha:PA X (e :: es) t) (AU:(x == ("__debug__" : Str))=false:=by decide) (he:starEach (e :: es) X.env=#[Do] :: starEach es X.env:=by rfl) (nZ:#[AT].any (·.1)=false:=by rfl) :
  PE X (.Call #[Xu] (e :: es) [] pos) (znI sp [] E0 t):=by
 intro mq s σ H Q I h;refine dZ #[VR];refine d6 (h₀:=X.base) I.ok.mod.kin hk (thn #[AC] fun us s1 ⟨vs,H1,I1,r,q⟩=>⟨I1.kIn,?_⟩) he nZ;have r2:zH (vs++[]) (us++[]):=r.append .nil;have hl:(us++[]).length=ps.length:=by rw [<- r2.length]; exact F.len _ _ _ _ q
 refine gc (eV (F.run X.A X.stack s1 H1 ⟨us,[]⟩ (us++[]) (vs++[]) Q E0 hr I1.Qx (hb s1 us I1.kIn hl) r2 q) fun r s' hq=>?_);cases r with
 | error e=>exact hq.elim
 | ok fl =>
  cases fl with
  | ret u=>exact I1.after hq
  | next=>exact bO hq
  | brk=>exact bO hq
  | cont=>exact bO hq
end
theorem zdf:∀ {bs:List Bool} {us:List Value},zH (bs.map V.bl) us->us=bs.map eB
 | [],_,r=>by cases r; rfl
 | b :: bs,_,r=>by
  cases r with
  | cons r1 r2 =>
   rw [zdf r2];cases r1;rfl
theorem zd1 {h:Heap}:∀ (bs:List Bool),∃ as,ReadsAll h (bs.map eB) (bs.map ml) as
 | []=>⟨_,.nil⟩
 | b :: bs=>by
  obtain⟨as,r⟩:=zd1 (h:=h) bs;exact⟨_,.cons (by constructor) r⟩
theorem zd2:∀ (bs:List Bool),(bs.map ml).all Spec.Shape.bool.has=true
 | []=>rfl
 | _ :: bs=>by
  rw [bc,jE,zd2 bs];rfl
theorem zhi {bs:List Bool} (k:Bool) (y:Value) (hy:y∈bs.map eB) (A:Around) (s:Shared):jq A s y (.bool k) (isBoolOf k y):=by
 obtain⟨as,r⟩:=zd1 (h:=s.heap) bs;exact eq_isBoolOf k r (zd2 bs) y hy A s
theorem zdo (k:Bool):∀ bs:List Bool,List.countP (isBoolOf k) (bs.map eB)=bs.count k
 | []=>rfl
 | b :: bs=>by
  rw [bc,List.countP_cons,List.count_cons,zdo k bs];rfl
section
variable {X:Cx}
noncomputable def zmZ:V->List V->Hp->VK->Prop:=fun x vs H Q=>∃ (l:Addr) (bs:List Bool) (k:Bool),x = .ref l/\vs = [.bl k]/\H l=some (.lst (bs.map V.bl))/\Q (.int ((bs.count k:Nat):Int)) H
theorem zkd:MtM X "list.count" zmZ:=by
 intro mq s σ H x vs v us Q I rx rv h;obtain⟨l,bs,k,rfl,rfl,hH,q⟩:=h;cases rx;obtain⟨u,rfl,ru⟩:=rv.one;cases ru;obtain⟨z,mC,n,r,hl,e⟩:=I.Ph hH;have hi:=zdf r;subst hi;refine d7 F.slot_list_count ⟨_,e,rfl⟩ F.entry_list_count (F.args_list_count_2 _ _) (SeqAt.list_countAt l _ n _ _ (.bool k) (isBoolOf k)) ⟨e,fun y hy=>zhi (bs:=bs) k y (by simpa using hy) _ _,?_⟩;rw [List.toList_toArray,zdo];exact⟨.int ((bs.count k:Nat):Int),H,I.tok _,⟨_,rfl⟩,q⟩
noncomputable def zm0:V->List V->Hp->VK->Prop:=fun x vs H Q=>∃ (l:Addr) (bs:List Bool) (k:Bool) (j:Nat),x = .ref l/\vs = [.bl k]/\H l=some (.lst (bs.map V.bl))/\bs[j]? = some k/\(∀ m,m < j->bs[m]? = some (!k))/\j < 1000/\Q (.int (j:Int)) H
theorem zke:MtM X "list.index" zm0:=by
 intro mq s σ H x vs v us Q I rx rv h;obtain⟨l,bs,k,j,rfl,rfl,hH,hj,hm,h1000,q⟩:=h;cases rx;obtain⟨u,rfl,ru⟩:=rv.one;cases ru;obtain⟨z,mC,n,r,hl,e⟩:=I.Ph hH;have hi:=zdf r;subst hi;obtain⟨hjl,hje⟩:=aj.mp hj;refine d7 F.slot_list_index ⟨_,e,rfl⟩ F.entry_list_index (F.args_list_index_2 _ _) (SeqAt.list_indexAt l _ n _ _ (.bool k) (isBoolOf k) j (by simpa using hjl) #[O] ?_ ?_) ⟨e,fun y hy=>zhi (bs:=bs) k y (by simpa using hy) _ _,?_⟩
 ·simp [isBoolOf,hje]
 ·intro m h1 h2;have:=hm m h2;obtain⟨_,hme⟩:=aj.mp this;simp [isBoolOf,hme]
 ·exact⟨.int (j:Int),H,I.tok _,⟨_,rfl⟩,q⟩
end
noncomputable def strsOf:List Expr->Option (List Str)
 | []=>some []
 | .Constant (.str i) _ _ :: r=>(strsOf r).map (i :: ·)
 | _=>none
noncomputable def zhj (ns:List Str):TA:=fun _ H Q=>Q (ns.map V.str) H
theorem zm1 {X:Cx}:∀ (es:List Expr) (ns:List Str),strsOf es=some ns->PA X es (zhj ns):=by
 intro es;induction es with
 | nil =>
  intro ns h;have e:ns = []:=(aN h).symm;subst e;exact zf
 | cons e r ih =>
  intro ns h;unfold strsOf at h;split at h
  ·rename_i heq
   cases heq
  ·rename_i i j p r' heq
   injection heq with e1 e2
   subst e1 e2;cases hr:strsOf r with
   | none=>rw [hr] at h; cases h
   | some ms =>
    rw [hr] at h;have e:i :: ms=ns:=aN h;subst e;exact za zR (ih ms hr)
  ·cases h
theorem zlS {X:Cx} {i:Nat} {x:Str} {pos' pL qi:Pos} {rest:List Stmt} {u:TS} {es:List Expr} {ns:List Str} (h:strsOf es=some ns) (hN:X.N.Nodup) (hi:X.N[i]? = some x) (hx:Loc X.env.scope x)
  (hf:X.fn x=true\/X.env.scope.names.lookup x=some .local) (hr:PSs X rest u):PSs X (.Assign [.Name x pos'] #[UJ] qi :: rest) (zax (zfg (zh7 (zhj ns)) (zaD i)) u):=by
 have h1:PE X #[UJ] (zh7 (zhj ns)):=@zK X es (zhj ns) pL (@zm1 X es ns h);have h2:PS X (.Assign [.Name x pos'] #[UJ] qi) (zfg (zh7 (zhj ns)) (zaD i)):=zr hN hi hx h1 (by rfl) hf;exact ze h2 hr
section
variable {κ:Type} [DecidableEq κ]
noncomputable def zit (mI:List (κ×V)) (k:κ):Option V:=(mI.find? fun kv=>decide (kv.1=k)).map (·.2)
noncomputable def putK (mI:List (κ×V)) (k:κ) (v:V):List (κ×V) :=
 if (mI.any fun kv=>decide (kv.1=k))=true then mI.map (fun kv=>if kv.1=k then (kv.1,v) else kv) else mI++[(k,v)]
theorem zhk {p:κ×V} {r:List (κ×V)} {k:κ} (e:p.1=k):zit (p :: r) k=some p.2:=by simp [zit,gj,e]
theorem zhl {p:κ×V} {r:List (κ×V)} {k:κ} (e:¬ p.1=k):zit (p :: r) k=zit r k:=by simp [zit,gj,e]
theorem zhm (k:κ):∀ mI:List (κ×V),(mI.any fun kv=>decide (kv.1=k))=(zit mI k).isSome
 | []=>rfl
 | p :: r=>by
  rw [fM];by_cases e:p.1=k
  ·simp only [zhk e,decide_eq_true e,Bool.true_or,kb]
  ·rw [zhl e,decide_eq_false e,Bool.false_or]; exact zhm k r
theorem zd3 (mI:List (κ×V)) (k:κ) (v:V):#[T5].length<=mI.length+1:=by
 unfold putK;split
 ·rw [ae]; lia
 ·rw [aH,bh,eU]; lia
theorem zdI.OZ {o:Option V} {u:Option Value} (r:zdI o u):o.isSome=u.isSome:=by
 cases o with
 | none=>cases u with
  | none=>rfl
  | some _=>exact (show False from r).elim
 | some _=>cases u with
  | none=>exact (show False from r).elim
  | some _=>rfl
theorem KV.any {mI:List (κ×V)} {vs:List (κ×Value)} (r:KV mI vs) (k:κ):(mI.any fun kv=>decide (kv.1=k))=vs.any fun kv=>decide (kv.1=k):=by
 unfold KV at r;induction r with
 | nil=>rfl
 | cons h t ih=>rw [fM,fM,ih,h.1]
theorem KV.QF {mI:List (κ×V)} {vs:List (κ×Value)} (r:KV mI vs) (k:κ) {u:Value} (ry:RelV y u) :
  KV (mI.map fun kv=>if kv.1=k then (kv.1,y) else kv) (vs.map fun kv=>if kv.1=k then (kv.1,u) else kv):=by
 unfold KV at r |-;induction r with
 | nil=>exact .nil
 | @cons p q ps qs h t ih =>
  rw [bc,bc];refine .cons ?_ ih;obtain⟨h1,h2⟩:=h;by_cases e:p.1=k
  ·rw [if_pos e,if_pos (h1.symm.trans e)]; exact⟨h1,ry⟩
  ·rw [if_neg e,if_neg (fun z=>e (h1.trans z))]; exact⟨h1,h2⟩
theorem KV.put {mI:List (κ×V)} {vs:List (κ×Value)} (r:KV mI vs) (k:κ) {u:Value} (ry:RelV y u):KV (putK mI k y) (stored vs k u):=by
 unfold putK stored;rw [r.any k];by_cases e:(vs.any fun kv=>decide (kv.1=k))=true
 ·rw [if_pos e,if_pos e]; exact r.QF k ry
 ·rw [if_neg e,if_neg e]; exact cR r ⟨rfl,ry⟩
theorem KV.length {mI:List (κ×V)} {vs:List (κ×Value)} (r:KV mI vs):mI.length=vs.length:=fL r
end
theorem znO {P:Program} {k:Key} {u:Value} (r:RelV (kV k) u):(zav P w).is k u=true:=by
 cases k with
 | inl i=>obtain⟨t,e⟩:=(show ∃ t,u=cK i t from r); subst e; exact zgQ P w i t
 | inr x=>obtain⟨t,e⟩:=(show ∃ t,u=iJ x t from r); subst e; exact zgR P w x t
theorem zfU {P:Program} {w:World}:∀ {ks:List Key} {us:List Value},zH (ks.map kV) us->ItemsAre (zav P w) ks us
 | [],_,r=>by rw [j7] at r; cases r; exact .nil
 | k :: ks,_,r=>by
  rw [bc] at r;cases r with
  | cons h t=>exact .cons (znO h) (zfU t)
abbrev KT (H:Hp):List (List Key×V)->List (List Key×Addr×Value)->Prop:=Paired fun p q=>p.1=q.1/\H q.2.1=some (.tup (p.1.map kV))/\RelV p.2 q.2.2
theorem KT.val {xs:List (List Key×Addr×Value)} (r:KT H mI xs) (k:List Key):zdI (zit mI k) ((atKey xs k).map (·.2)):=by
 induction r with
 | nil=>exact dG
 | @cons p q ps qs h t ih =>
  obtain⟨h1,_,h2⟩:=h;by_cases e:p.1=k
  ·have e':q.1=k:=h1.symm.trans e;have b:atKey (q :: qs) k=some q.2:=by simp [atKey,gj,e']
   rw [zhk e,b]; exact h2
  ·have e':¬ q.1=k:=fun z=>e (h1.trans z)
   have b:atKey (q :: qs) k=atKey qs k:=by simp [atKey,gj,e']
   rw [zhl e,b]; exact ih
theorem KT.QF {xs:List (List Key×Addr×Value)} (r:KT H mI xs) (k:List Key) {u:Value} (ry:RelV y u) :
  KT H (mI.map fun kv=>if kv.1=k then (kv.1,y) else kv) (xs.map (putAt k u)):=by
 induction r with
 | nil=>exact .nil
 | @cons p q ps qs h t ih =>
  rw [bc,bc];refine .cons ?_ ih;obtain⟨h1,h2,h3⟩:=h;unfold putAt;by_cases e:p.1=k
  ·rw [if_pos e,if_pos (h1.symm.trans e)]; exact⟨h1,h2,ry⟩
  ·rw [if_neg e,if_neg (fun z=>e (h1.trans z))]; exact⟨h1,h2,h3⟩
theorem KT.put {xs:List (List Key×Addr×Value)} (r:KT H mI xs) (k:List Key) {b:Addr} {u:Value} (hb:H b=some #[T7]) (ry:RelV y u) :
  KT H (putK mI k y) (storedH xs k b u):=by
 have e:(mI.any fun kv=>decide (kv.1=k))=(atKey xs k).isSome:=by
  rw [zhm,(r.val k).OZ,Option.isSome_map]
 unfold putK storedH;rw [e];by_cases q:(atKey xs k).isSome=true
 ·rw [if_pos q,if_pos q]; exact r.QF k ry
 ·rw [if_neg q,if_neg q]; exact cR r ⟨rfl,hb,ry⟩
theorem KT.keeps {xs:List (List Key×Addr×Value)} (r:KT H mI xs) (ht:∀ b ys,H b=some (.tup ys)->H' b=some (.tup ys)):KT H' mI xs :=
 Paired.QI r fun _ _ z=>⟨z.1,ht _ _ z.2.1,z.2.2⟩
section
variable {P:Program} {w:World} {H:Hp} {h:Heap} {a:Addr}
theorem znP {u:HO} (ok:HOk P w H h) (e:Rd H a u):zW P w H h a u:=e.ok ok
theorem zpq {mI:List (Key×V)} (ok:HOk P w H h) (e:Rd H a (.dK mI)):mI.length<=sizeLine/\(a == sysModules)=false/\∃ vs,KV mI vs/\h.DictOf (zav P w) a vs :=
 show zW P w H h a (.dK mI) from znP ok e
theorem zpr {mI:List (Key×V)} (ok:HOk P w H h) (e:H a=some (.dK mI)):mI.length<=sizeLine/\(a == sysModules)=false/\∃ vs,KV mI vs/\h.DictOf (zav P w) a vs:=zpq ok (.inl e)
theorem zlT {ks:List Key} (ok:HOk P w H h) (e:H a=some (.tup (ks.map kV))):#[RN].is h ks a:=by
 obtain⟨_,mC,r,o,h1,h2,n,h3⟩:=(show zW P w H h a (.tup (ks.map kV)) from ok a _ e);exact⟨o,mC.toArray,n,h1,h2,h3,by simpa using zfU r⟩
theorem zps (ok:HOk P w H h) (e:Rd H a #[Vp]):mI.length<=sizeLine/\(a == sysModules)=false /\
  ∃ xs,KT H mI xs/\h.DictOfH #[RN] a xs:=by
 obtain⟨z,y,xs,r,o,es,ep,h1,h2,h3,h4,h5⟩:=(show zW P w H h a #[Vp] from znP ok e);refine⟨z,y,xs,r,o,es,ep,h1,h2,h3,h4,fun x hx=>?_,h5⟩;have all:∀ {l:List (List Key×V)} {m:List (List Key×Addr×Value)},KT H l m->∀ x∈m,#[RN].is h x.1 x.2.1:=by
  intro l m q;induction q with
  | nil=>intro x hx; exact nomatch hx
  | @cons p q ps qs hq t ih =>
   intro x hx;rcases av.mp hx with e | hx
   ·subst e;exact zlT ok (by rw [<- hq.1]; exact hq.2.1)
   ·exact ih x hx
 exact all r x hx
theorem zpt (ok:HOk P w H h) (e:H a=some #[Vp]):mI.length<=sizeLine/\(a == sysModules)=false /\
  ∃ xs,KT H mI xs/\h.DictOfH #[RN] a xs:=zps ok (.inl e)
end
noncomputable def zkf (H:Hp) (a:Addr) (y v:V) (H':Hp):Prop :=
 (∃ mI k,H a=some (.dK mI)/\y=kV k/\mI.length < sizeLine/\H'=mz H a (.dK #[T5])) \/
 ∃ mI k b,H a=some #[Vp]/\y = .ref b/\H b=some #[T7]/\mI.length < sizeLine/\H'=mz H a (.dT #[T5])
theorem zkf.t {a b:Addr} {k:List Key} {v:V} (e:H a=some #[Vp]) (eb:H b=some #[T7]) (hl:mI.length < sizeLine) :
  zkf H a (.ref b) v (mz H a (.dT #[T5])):=.inr ⟨mI,k,b,e,rfl,eb,hl,rfl⟩
section
variable {X:Cx} {mq:List (Addr×Obj)} {σ:St} {H:Hp} {s:Shared} {a:Addr} {y v:V} {u r:Value} {o:Option V} {A:Around} {E:Value->Shared->Prop}
theorem Inv.big (I:Inv X mq σ H s):sysModules < s.heap.objs.size:=by
 have h:mainGlobals < s.heap.objs.size:=(I.mod.glob.keeps I.bk).lt;exact ki #[D] h
theorem zi9 {ob:HO} (I:Inv X mq σ H s) (mu:Mut (H a)) (hs:aX a s.heap h') (he:∃ q,h'.get? a=some q) (new:zW X.prog X.w (mz H a ob) h' a ob) :
  Inv X mq σ (mz H a ob) { s with heap:=h',toks:=t' } :=
 I.write (x:=a) (e:=a) mu #[KM] (fun b q hb z=>(hs.2 b hb).trans z) he new
theorem zoz {P:Program} {mI:List (Key×V)} {vs:List (Key×Value)} (z:mI.length<=sizeLine) (hd:(a == sysModules)=false) (rel:KV mI vs) (dd:h'.DictOf (zav P w) a vs) :
  zW P w H' h' a (.dK mI):=⟨z,hd,vs,rel,dd⟩
theorem zkg {Q:Unit->Shared->Prop} (hu:A.units+1 < cLine) (I:Inv X mq σ H s) (g:zkf H a y v H') (ry:RelV y u) (rv:RelV v r) (h:∀ s',Inv X mq σ H' s'->Q () s') :
  wpAny #[mt] A (setItem #[Rf] u r) Q E s:=by
 rcases g with ⟨mI,k,e,ey,l,eH⟩ | ⟨mI,k,b,e,ey,eb,l,eH⟩
 ·subst ey eH;obtain⟨z,hd,vs,rel,dd⟩:=zpr I.hok e;have hz:vs.length<=sizeLine:=by rw [<- rel.length]; exact z
  have hl:#[T5].length<=sizeLine:=by have:=zd3 mI k v; lia
  refine wpAny_setItem_pairs (hsz:=hz) (znO ry) dd fun h' E8 hs=>h _ ?_
  have he:∃ q,h'.get? a=some q:=let ⟨q,_,_,hq,_⟩:=E8; ⟨q,hq⟩
  exact zi9 I (by rw [e]; exact dG) hs he (zoz hl hd (rel.put k rv) E8)
 ·subst ey eH;cases (show u=aL b from ry);obtain⟨z,hd,xs,rel,dd⟩:=zpt I.hok e;have hz:xs.length<=sizeLine:=by rw [<- fL rel]; exact z
  have hl:#[T5].length<=sizeLine:=by have:=zd3 mI k v; lia
  refine wpAny_setItem_heap (hsz:=hz) (tupleKind_room_in1 hu) (zlT I.hok eb) dd fun h' E8 hs=>h _ ?_
  obtain⟨q,es,ep,hq,h2,h3,h4,_,h5⟩:=E8;refine zi9 I (by rw [e]; exact dG) hs ⟨q,hq⟩ ⟨hl,hd,_,(rel.put k eb rv).keeps fun c ys ec=>?_,q,es,ep,hq,h2,h3,h4,h5⟩;rw [zg (zaV ec e (fun z=>nomatch z))];exact ec
end
noncomputable def zpu (td ty tv:TE):TS:=fun D σ H=>tv σ H fun v H1=>td σ H1 fun x H2=>ty σ H2 fun y H3=>∃ a H4,x = .ref a/\zkf H3 a y v H4/\D.nx σ H4
section
variable {X:Cx} {o i e value:Expr} {pos pos' rk:Pos} {td ty tv:TE}
theorem zja (hu:X.A.units+1 < cLine) (ho:PE X o td) (hi:PE X i ty) (hv:PE X value tv) (hs:swapsWith value (some (.Subscript o i pos')) pos.line X.env=pure false) :
  PS X (.Assign [.Subscript o i pos'] value pos) (zpu td ty tv):=by
 intro mq s σ H D I h;refine wpAny_Assign_Subscript (thn (hv mq s σ H _ I h) fun r s1 ⟨v,H1,I1,rv,q1⟩=>thn (ho mq s1 σ H1 _ I1 q1) fun u s2 ⟨x,H2,I2,rx,q2⟩=>thn (hi mq s2 σ H2 _ I2 q2) fun iv s3 ⟨y,H3,I3,ry,a,H4,ex,g,q3⟩=>?_) hs;subst ex;obtain rfl:u=aL a:=rx;exact zkg hu I3 g ry rv fun s4 I4=>⟨σ,H4,I4,q3⟩
end
theorem zlU {P:Program} (h:Heap) (hb:sysModules < h.objs.size):zW P w H (h.push { cls:=.type "dict",data:=.dict #[] }) h.objs.size (.dT []) :=
 ⟨bg _,beq_eq_false_iff_ne.mpr (cA (aO hb)),[],.nil,_,#[],0,az _ rfl,⟨rfl,rfl,rfl⟩,rfl,rfl,List.nodup_nil⟩
noncomputable def zoA:TE:=fun _ H Q=>∀ p,H p=none->Q (.ref p) (mz H p (.dT []))
section
variable {X:Cx} {pos:Pos}
theorem zhn:PE X (.Dict [] [] pos) zoA:=fun mq s σ H Q I h =>
 wpAny_Dict_empty ⟨.ref s.heap.objs.size,_,I.laid (a:=s.heap.objs.size) (o:=.dT []) (t':=s.toks) (fun _ _ q=>ah _ q) (ai _) (zlU s.heap I.big),rfl,h _ #[SM]⟩
end
end L2
namespace PySem
open PyProof.Rows
end PySem
namespace L2
open PySem PySem.Spec PyProof.Rows
end L2
namespace My
open PySem L2 PyProof.Rows
section
variable {K:af}
structure Qv (K:af) (H:Hp) (r:Addr) (n:Nat) (rw:List #[Ch]):Prop where
 at':mB K H r (rw.map mM)
 len:rw.length=n
end
end My
end
section
namespace Srt
open PySem PyProof.Rows
variable {j mT:Nat} {st₀:SortSt}
noncomputable def Vk (val:Keyed->Int) (xs:Array Keyed) (i:Nat):Int:=match xs[i]? with
 | some p=>val p
 | none=>0
theorem zcI {val:Keyed->Int} {xs ys:Array Keyed} {i:Nat} (h:xs[i]? = ys[j]?):Vk val xs i=Vk val ys j:=by unfold Vk; rw [h]
theorem zjb {val:Keyed->Int} {xs:Array Keyed} {i:Nat} {p:Keyed} (h:xs[i]? = some p):Vk val xs i=val p:=by unfold Vk; rw [h]
noncomputable def SIn (val:Keyed->Int) (xs:Array Keyed) (lo hi:Nat):Prop:=∀ i j,lo<=i->i<=j->j < hi->Vk val xs i<=Vk val xs j
noncomputable def DIn (val:Keyed->Int) (xs:Array Keyed) (lo hi:Nat):Prop:=∀ i j,lo<=i->i<=j->j < hi->Vk val xs j<=Vk val xs i
structure SB (κ:SortKind) (a₀:Array Keyed) (st:SortSt):Prop where
 perm:#[IR].Perm a₀
 kind:kindOf st=κ
 failed:failedOf st=none
theorem SB.size {κ:SortKind} {a₀:Array Keyed} {st:SortSt} (h:SB κ a₀ st):#[IR].size=a₀.size:=h.perm.size_eq
theorem SB.mem {κ:SortKind} {a₀:Array Keyed} {st:SortSt} (h:SB κ a₀ st) {i:Nat} (hi:i < a₀.size):∃ p,#[IR][i]? = some p/\p∈a₀.toList:=by
 (have pM:i < #[IR].size:=by rw [h.size]; exact hi)
 exact⟨#[IR][i],getElem?_pos _ i pM,(hW.mp h.perm).mem_iff.mp #[M]⟩
structure SF (κ:SortKind) (a₀:Array Keyed) (lo:Nat) (st₀ st:SortSt):Prop where
 b:SB κ a₀ st
 low:∀ k,k < lo->#[IR][k]? = (arrOf st₀)[k]?
 pend:pendingOf st=pendingOf st₀
theorem SF.refl {κ:SortKind} {a₀:Array Keyed} {lo:Nat} {st:SortSt} (h:SB κ a₀ st):SF κ a₀ lo st st:=⟨h,fun _ _=>rfl,rfl⟩
theorem SF.setArr {κ:SortKind} {a₀:Array Keyed} {lo:Nat} {st₀ st:SortSt} (h:SF κ a₀ lo st₀ st) {xs:Array Keyed} (hp:xs.Perm #[IR]) (hl:∀ k,k < lo->xs[k]? = #[IR][k]?):SF κ a₀ lo st₀ (setArr st xs) :=
 ⟨⟨hp.trans h.b.perm,h.b.kind,h.b.failed⟩,fun k hk=>(hl k hk).trans (h.low k hk),h.pend⟩
section
variable {prog:Program} {w:World} {A:Around} {E:Value->Shared->Prop} {s:Shared} {a₀:Array Keyed} {κ:SortKind} {val:Keyed->Int}
noncomputable def Cmp (prog:Program) (w:World) (A:Around) (s:Shared) (κ:SortKind) (val:Keyed->Int) (a₀:Array Keyed):Prop :=
 ∀ x y,x∈a₀.toList->y∈a₀.toList->∀ (Q:Bool->Shared->Prop) (E:Value->Shared->Prop),Q (decide (val x < val y)) s->wpAny #[na] A (keyLt' κ x.1 y.1) Q E s
theorem zp3 {st:SortSt} {x y:Keyed} {Q:Option Bool->SortSt->Prop} (hC:Cmp prog w A s κ val a₀) (hk:kindOf st=κ) (hx:x∈a₀.toList) (hy:y∈a₀.toList) (h:Q (some (decide (val x < val y))) st) :
  wpS #[na] A E s (lt' x y) Q st:=by
 rw [lt'_eq];refine bz (jh ?_);rw [hk];refine bz (wpS_lift (bZ (hC x y hx hy _ _ #[Uj])));exact ck h
theorem zlV {st:SortSt} {arr:Array Keyed} {i:Nat} {p:Keyed} {Q:Keyed->SortSt->Prop} (hi:arr[i]? = some p) (h:Q p st):wpS #[na] A E s (elem' arr i) Q st:=by
 rw [elem'_eq,hi];exact ck h
theorem zeR {st:SortSt} {i:Nat} {Q:Option Bool->SortSt->Prop} (hC:Cmp prog w A s κ val a₀) (hB:SB κ a₀ st) (hi:i < a₀.size) (hj:j < a₀.size) (h:Q (some (decide (Vk val #[IR] i < Vk val #[IR] j))) st) :
  (wpS #[na] A E s (ltAt' i j) Q st):=by
 obtain⟨x,ex,mx⟩:=hB.mem hi;obtain⟨y,ey,my⟩:=hB.mem hj;rw [ltAt'_eq];refine bz (jh ?_)
 (show wpS _ _ _ _ (do let x <- elem' #[IR] i; let y <- elem' #[IR] j; lt' x y) Q st)
 refine bz (zlV ex (bz (zlV ey (zp3 hC hB.kind mx my ?_))));rw [zjb ex,zjb ey] at h;exact h
theorem zjc {st:SortSt} {i:Nat} {Q:Unit->SortSt->Prop} (h:Q () (setArr st (mirror #[IR] i j ((j - i) / 2)))) :
  (wpS #[na] A E s (reverseSlice' i j) Q st):=by
 ((rw [reverseSlice'_eq]; exact jz h))
theorem zeS {xs:Array Keyed} {i:Nat} (hj:j<=xs.size) (k:Nat):Vk val (mirror xs i j ((j - i) / 2)) k=if i<=k/\k < j then Vk val xs (i+j - 1 - k) else Vk val xs k:=by
 (have e:=jO (i:=i) hj k)
 by_cases h1:i<=k/\k < j
 ·rw [if_pos h1] at e |-; exact zcI e
 ·rw [if_neg h1] at e |-; exact zcI e
theorem zby {xs:Array Keyed} {i:Nat} (hj:j<=xs.size) (heq:∀ k,i<=k->k < j->Vk val xs k=Vk val xs (j - 1)) (k:Nat):Vk val (mirror xs i j ((j - i) / 2)) k=Vk val xs k:=by
 rw [zeS hj];split
 ·(rw [heq _ #[O] #[O],heq k #[O] #[O]])
 ·rfl
theorem zcp {xs:Array Keyed} {lo i:Nat} (hj:j<=xs.size) (hi:lo<=i):∀ k,k < lo->(mirror xs i j ((j - i) / 2))[k]? = xs[k]?:=fun k hk=>by
 rw [jO hj,if_neg #[O]]
theorem ziu {xs:Array Keyed} {lo src d:Nat} (hs:src < xs.size) (hd:d<=src) (hl:lo<=src - d):∀ k,k < lo->(bubble xs src d)[k]? = xs[k]?:=fun k hk=>by
 rw [getElem?_bubble hs d hd,if_neg #[O],if_neg #[O]]
noncomputable def zlW (lo a mT:Nat):StateT SortSt Sem AscSt :=
 forIn [a:mT] ((none,a):AscSt) fun _ st=>do
  let x <- ltAt' (lo+st.snd) (lo+st.snd - 1)
  match x with
  | some uj=>if uj=true then pure (fi (none,st.snd)) else pure (cm (none,st.snd+1))
  | _=>pure (fi (some none,st.snd))
noncomputable def zho (lo n mT:Nat):StateT SortSt Sem #[At]:=do
 reverseSlice' lo (lo+n)
 let st <- zlW lo n mT
 match st.fst with
 | some r=>pure r
 | none=>pure (some st.snd)
noncomputable def zjd (lo n mT:Nat):StateT SortSt Sem DescSt :=
 forIn [n:mT] ((none,n,0):DescSt) fun _ st=>do
  let x <- ltAt' #[V5] (lo+st.snd.fst - 1)
  match x with
  | some uj =>
   if uj=true then
    if st.snd.snd > 0 then do
     reverseSlice' (lo+st.snd.fst - (st.snd.snd+1)) #[V5]
     pure (cm (none,st.snd.fst+1,0))
    else pure (cm (none,st.snd.fst+1,0))
   else do
    let x <- ltAt' (lo+st.snd.fst - 1) #[V5]
    match x with
    | some C3 =>
     if C3=true then pure (fi (none,st.snd.fst,st.snd.snd))
     else pure (cm (none,st.snd.fst+1,st.snd.snd+1))
    | _=>pure #[VX]
  | _=>pure #[VX]
noncomputable def zhp (lo n mT:Nat):StateT SortSt Sem #[At]:=do
 liftM (rule "list.sort.descending-run"); let st <- zjd lo (n+1) mT
 match st.fst with
 | some r=>pure r
 | none =>
  if st.snd.snd > 0 then do
   reverseSlice' (lo+st.snd.fst - (st.snd.snd+1)) #[V5]
   zho lo st.snd.fst mT
  else zho lo st.snd.fst mT
theorem zgr (lo mT:Nat):countRun' lo mT=(do
  let st <- zlW lo 1 mT
  match st.fst with
  | some r=>pure r
  | none =>
   if (st.snd == mT)=true then pure (some st.snd)
   else if st.snd > 1 then do
    let x <- ltAt' lo (lo+st.snd - 1)
    match x with
    | some Fc=>if Fc=true then pure (some st.snd) else do
      reverseSlice' lo (lo+st.snd)
      zhp lo st.snd mT
    | _=>pure none
   else zhp lo st.snd mT):=by
 rw [countRun'_eq];unfold zhp zho zjd zlW;dsimp only;refine congrArg (bind _) ?_;funext c;obtain⟨r,n⟩:=c;cases r with
 | some r=>rfl
 | none =>
  dsimp only;split
  ·rfl
  ·split
   ·congr 1;funext x;cases x with
    | none=>rfl
    | some Fc =>
     dsimp only;split
     ·rfl
     ·congr 1;funext _r;congr 1; funext _u; congr 1; congr 1; funext s2; obtain⟨r2,n2,q2⟩:=s2;cases r2 with
      | some r2=>rfl
      | none =>
       dsimp only;split
       ·congr 1; funext _v; congr 1; funext _w; congr 1; funext s3; obtain⟨r3,n3⟩:=s3; cases r3 <;> rfl
       ·congr 1; funext _w; congr 1; funext s3; obtain⟨r3,n3⟩:=s3; cases r3 <;> rfl
   ·congr 1; funext _u; congr 1; congr 1; funext s2; obtain⟨r2,n2,q2⟩:=s2;cases r2 with
    | some r2=>rfl
    | none =>
     dsimp only;split
     ·congr 1; funext _v; congr 1; funext _w; congr 1; funext s3; obtain⟨r3,n3⟩:=s3; cases r3 <;> rfl
     ·congr 1; funext _w; congr 1; funext s3; obtain⟨r3,n3⟩:=s3; cases r3 <;> rfl
theorem znQ {st:SortSt} {lo a:Nat} {Q:AscSt->SortSt->Prop} (hC:Cmp prog w A s κ val a₀) (hn:lo+mT<=a₀.size) (ha:1<=a) (han:a<=mT) (hB:SF κ a₀ lo st₀ st)
  (hs:SIn val #[IR] lo (lo+a))
  (h:∀ n,a<=n->n<=mT->SIn val #[IR] lo (lo+n)->(n=mT\/Vk val #[IR] (lo+n) < Vk val #[IR] (lo+n - 1))->Q (none,n) st) :
  wpS #[na] A E s (zlW lo a mT) Q st:=by
 unfold zlW;refine eZ (I:=fun x c mP=>mP=st/\c=(none,x)/\SIn val #[IR] lo (lo+x)) ?step ?fin ⟨rfl,rfl,hs⟩
 case fin =>
  rintro c mP ⟨rfl,rfl,oT⟩
  (rw [show max a mT=mT by lia] at oT |-)
  (exact h mT han (ai _) oT #[KM])
 case step =>
  (rintro x c mP Ia hxn ⟨rfl,rfl,oT⟩)
  dsimp only;refine bz (zeR hC hB.b #[O] #[O] ?_);by_cases ou:Vk val #[EQ] (lo+x) < Vk val #[EQ] (lo+x - 1)
  ·(simp only [ou,decide_true,if_true])
   (exact ck (h x Ia #[O] oT (.inr ou)))
  ·(simp only [ou,decide_false,aY,if_false])
   refine ck ⟨rfl,rfl,fun i j uS uH hj=>?_⟩;by_cases Fd:j < lo+x
   ·exact oT i j uS uH Fd
   ·have uF:j=lo+x:=by lia
    subst uF;by_cases pM:i=lo+x
    ·(subst pM; exact cQ _)
    ·exact ko (oT i (lo+x - 1) uS #[O] #[O]) (Int.not_lt.mp ou)
theorem zlX {st:SortSt} {lo n:Nat} {Q:Option Nat->SortSt->Prop} (hC:Cmp prog w A s κ val a₀) (hn:lo+mT<=a₀.size) (h1:1<=n) (Bl:n<=mT) (hB:SF κ a₀ lo st₀ st)
  (hs:DIn val #[IR] lo (lo+n)) (h:∀ m mP,SF κ a₀ lo st₀ mP->1<=m->m<=mT->SIn val #[EQ] lo (lo+m)->Q (some m) mP) :
  wpS #[na] A E s (zho lo n mT) Q st:=by
 unfold zho;have hsz:lo+n<=#[IR].size:=by rw [hB.b.size]; lia
 refine bz (zjc ?_);have qk:=hB.setArr (ja #[IR] lo (lo+n) ((lo+n - lo) / 2)) (zcp hsz (ai _));refine bz (znQ hC hn h1 Bl qk ?_ fun m B6 xn yE _=>ck (h m _ qk #[O] xn yE));intro i j uS uH hj;show Vk val (mirror #[IR] lo (lo+n) ((lo+n - lo) / 2)) i<=Vk val (mirror #[IR] lo (lo+n) ((lo+n - lo) / 2)) j;rw [zeS hsz,zeS hsz,if_pos #[O],if_pos #[O]];exact hs _ _ #[O] #[O] #[O]
theorem zoB {st:SortSt} {lo n:Nat} {Q:DescSt->SortSt->Prop} (hC:Cmp prog w A s κ val a₀) (hn:lo+mT<=a₀.size) (h1:1<=n) (Bl:n<=mT) (hB:SF κ a₀ lo st₀ st)
  (hs:DIn val #[IR] lo (lo+n))
  (h:∀ m vW mP,SF κ a₀ lo st₀ mP->n<=m->m<=mT->DIn val #[EQ] lo (lo+m)->vW+1<=m->(∀ i,lo+m - (vW+1)<=i->i < lo+m->Vk val #[EQ] i=Vk val #[EQ] (lo+m - 1))->Q (none,m,vW) mP) :
  wpS #[na] A E s (zjd lo n mT) Q st:=by
 unfold zjd;refine eZ (I:=fun x c mP=>∃ vW,c=(none,x,vW)/\SF κ a₀ lo st₀ mP/\DIn val #[EQ] lo (lo+x)/\vW+1<=x /\
   (∀ i,lo+x - (vW+1)<=i->i < lo+x->Vk val #[EQ] i=Vk val #[EQ] (lo+x - 1))) ?step ?fin ⟨0,rfl,hB,hs,#[O],fun i h1 h2=>by congr 1; lia⟩
 case fin =>
  (rintro c mP ⟨vW,rfl,qk,oT,hq,he⟩)
  (rw [show max n mT=mT by lia] at oT hq he |-)
  (exact h mT vW mP qk Bl (ai _) oT hq he)
 case step =>
  (rintro x c mP Ia hxn ⟨vW,rfl,qk,oT,hq,he⟩)
  dsimp only;have hsz:lo+x<=#[EQ].size:=by rw [qk.b.size]; lia
  refine bz (zeR hC qk.b #[O] #[O] ?_);by_cases ou:Vk val #[EQ] (lo+x) < Vk val #[EQ] (lo+x - 1)
  ·(simp only [ou,decide_true,if_true])
   have B7:∀ xs:Array Keyed,(∀ k,Vk val xs k=Vk val #[EQ] k)->DIn val xs lo (lo+(x+1)):=by
    intro xs hk i j uS uH hj;rw [hk,hk];by_cases Fd:j < lo+x
    ·exact oT i j uS uH Fd
    ·have uF:j=lo+x:=by lia
     subst uF;by_cases pM:i=lo+x
     ·(subst pM; exact cQ _)
     ·exact ko (iz ou) (oT i (lo+x - 1) uS #[O] #[O])
   by_cases yF:vW > 0
   ·rw [if_pos yF];refine bz (zjc (ck ⟨0,rfl,qk.setArr (ja _ _ _ _) (zcp hsz #[O]),B7 _ (zby hsz he),#[O],fun i h1 h2=>by congr 1; lia⟩))
   ·rw [if_neg yF]
    (exact ck ⟨0,rfl,qk,B7 _ (fun _=>rfl),#[O],fun i h1 h2=>by congr 1; lia⟩)
  ·(simp only [ou,decide_false,aY,if_false])
   refine bz (zeR hC qk.b #[O] #[O] ?_);by_cases w6:Vk val #[EQ] (lo+x - 1) < Vk val #[EQ] (lo+x)
   ·(simp only [w6,decide_true,if_true])
    (exact ck (h x vW mP qk Ia #[O] oT hq he))
   ·(simp only [w6,decide_false,aY,if_false])
    have Fe:Vk val #[EQ] (lo+x)=Vk val #[EQ] (lo+x - 1):=by lia
    refine ck ⟨vW+1,rfl,qk,fun i j uS uH hj=>?_,#[O],fun i h1 h2=>?_⟩
    ·by_cases Fd:j < lo+x
     ·exact oT i j uS uH Fd
     ·have uF:j=lo+x:=by lia
      subst uF;by_cases pM:i=lo+x
      ·(subst pM; exact cQ _)
      ·rw [Fe]; exact oT i (lo+x - 1) uS #[O] #[O]
    ·rw [show lo+(x+1) - 1=lo+x by lia];by_cases hix:i=lo+x
     ·subst hix; rfl
     ·(rw [Fe]; exact he i #[O] #[O])
theorem zje {st:SortSt} {lo n:Nat} {Q:Option Nat->SortSt->Prop} (hC:Cmp prog w A s κ val a₀) (hn:lo+mT<=a₀.size) (Bl:n+1<=mT) (hB:SF κ a₀ lo st₀ st)
  (hs:DIn val #[IR] lo (lo+(n+1))) (h:∀ m mP,SF κ a₀ lo st₀ mP->1<=m->m<=mT->SIn val #[EQ] lo (lo+m)->Q (some m) mP) :
  wpS #[na] A E s (zhp lo n mT) Q st:=by
 unfold zhp
 (refine bz (wpS_lift (cw #[Uj])))
 refine bz (zoB hC hn #[O] Bl hB hs fun m vW mP qk B6 xn oT hq he=>?_);dsimp only;have hsz:lo+m<=#[EQ].size:=by rw [qk.b.size]; lia
 by_cases yF:vW > 0
 ·rw [if_pos yF];refine bz (zjc (zlX hC hn #[O] xn (qk.setArr (ja _ _ _ _) (zcp hsz #[O])) ?_ h));intro i j uS uH hj;show Vk val (mirror #[EQ] _ _ _) j<=Vk val (mirror #[EQ] _ _ _) i;rw [zby hsz he,zby hsz he];exact oT i j uS uH hj
 ·rw [if_neg yF];exact zlX hC hn #[O] xn qk oT h
theorem zm2 {st:SortSt} {lo:Nat} {Q:Option Nat->SortSt->Prop} (hC:Cmp prog w A s κ val a₀) (hn:lo+mT<=a₀.size) (h1:1<=mT) (hB:SF κ a₀ lo st₀ st)
  (h:∀ m mP,SF κ a₀ lo st₀ mP->1<=m->m<=mT->SIn val #[EQ] lo (lo+m)->Q (some m) mP) :
  wpS #[na] A E s (countRun' lo mT) Q st:=by
 rw [zgr];refine bz (znQ hC hn (ai 1) h1 hB (fun i j uS uH hj=>(by
   have e:i=j:=by lia
   rw [e];exact cQ _)) fun n GA xf AE hor=>?_)
 dsimp only;by_cases Bl:n=mT
 ·(rw [if_pos (by simpa using Bl)])
  (exact ck (h n st hB GA xf AE))
 ·(rw [if_neg (by simpa using Bl)])
  have mW:Vk val #[IR] (lo+n) < Vk val #[IR] (lo+n - 1):=hor.resolve_left Bl;by_cases hgt:n > 1
  ·rw [if_pos hgt];refine bz (zeR hC hB.b #[O] #[O] ?_);by_cases B8:Vk val #[IR] lo < Vk val #[IR] (lo+n - 1)
   ·(simp only [B8,decide_true,if_true])
    (exact ck (h n st hB GA xf AE))
   ·(simp only [B8,decide_false,aY,if_false])
    have hsz:lo+n<=#[IR].size:=by rw [hB.b.size]; lia
    have qh:∀ k,lo<=k->k < lo+n->Vk val #[IR] k=Vk val #[IR] (lo+n - 1):=by
     intro k GB hk;have a1:=AE lo k (ai _) GB hk;have a2:=AE k (lo+n - 1) GB #[O] #[O];lia
    refine bz (zjc (zje hC hn #[O] (hB.setArr (ja _ _ _ _) (zcp hsz (ai _))) ?_ h));intro i j uS uH hj;show Vk val (mirror #[IR] _ _ _) j<=Vk val (mirror #[IR] _ _ _) i;rw [zby hsz qh,zby hsz qh];by_cases hjn:j < lo+n
    ·(rw [qh i #[O] #[O],qh j #[O] hjn]; exact cQ _)
    ·have uF:j=lo+n:=by lia
     subst uF;by_cases pM:i=lo+n
     ·(subst pM; exact cQ _)
     ·(rw [qh i #[O] #[O]]; exact iz mW)
  ·rw [if_neg hgt];have Ib:n=1:=by lia
   subst Ib;refine zje hC hn #[O] hB ?_ h;intro i j uS uH hj;by_cases pM:i=j
   ·(subst pM; exact cQ _)
   ·have hi0:i=lo:=by lia
    have hj1:j=lo+1:=by lia
    subst hi0; subst hj1;exact iz mW
theorem zhq {xs:Array Keyed} {src d:Nat} (hs:src < xs.size) (hd:d<=src) (k:Nat) :
  Vk val (bubble xs src d) k=if k=src - d then Vk val xs src else if src - d < k/\k<=src then Vk val xs (k - 1) else Vk val xs k:=by
 (have e:=getElem?_bubble hs d hd k)
 by_cases h1:k=src - d
 ·rw [if_pos h1] at e |-; exact zcI e
 ·rw [if_neg h1] at e |-
  (by_cases h2:src - d < k/\k<=src)
  ·rw [if_pos h2] at e |-; exact zcI e
  ·rw [if_neg h2] at e |-; exact zcI e
theorem zpv {st:SortSt} {lo n ok:Nat} {Q:Bool->SortSt->Prop} (hC:Cmp prog w A s κ val a₀) (hn:lo+n<=a₀.size) (hok:ok<=n) (hB:SF κ a₀ lo st₀ st) (hs:SIn val #[IR] lo (lo+ok))
  (h:∀ mP,SF κ a₀ lo st₀ mP->SIn val #[EQ] lo (lo+n)->Q true mP):wpS #[na] A E s (binarySort' lo n ok) Q st:=by
 rw [binarySort'_eq];refine bz (kW (eZ (I:=fun k c mP=>c=(none,())/\SF κ a₀ lo st₀ mP/\SIn val #[EQ] lo (lo+min k n))
  (Q:=fun c mP=>c=(none,())/\SF κ a₀ lo st₀ mP/\SIn val #[EQ] lo (lo+n)) ?step ?fin ?init) ?post)
 case post =>
  rintro c mP ⟨rfl,qk,oT⟩
  (exact ck (h mP qk oT))
 case init =>
  refine⟨rfl,hB,fun i j uS uH hj=>?_⟩;by_cases h1:ok=0
  ·have e:i=j:=by lia
   rw [e]; exact cQ _
  ·exact hs i j uS uH #[O]
 case fin =>
  rintro c mP ⟨hc,qk,oT⟩;refine⟨hc,qk,?_⟩
  (rwa [show min (max (max ok 1) n) n=n by lia] at oT)
 case step =>
  (rintro k c mP hak hkn ⟨rfl,qk,oT⟩)
  (rw [show min k n=k by lia] at oT)
  have hk:lo+k < a₀.size:=#[O]; refine bz (kW (eZ (I:=fun x c pN=>pN=mP/\∃ l r,c=(none,l,r)/\l<=r/\r<=k/\r - l<=k - x /\
    (∀ i,i < l->Vk val #[EQ] (lo+i)<=Vk val #[EQ] (lo+k))/\(∀ i,r<=i->i < k->Vk val #[EQ] (lo+k) < Vk val #[EQ] (lo+i)))
   (Q:=fun c pN=>pN=mP/\∃ l r,c=(none,l,r)/\l<=k/\(∀ i,i < l->Vk val #[EQ] (lo+i)<=Vk val #[EQ] (lo+k))/\(∀ i,l<=i->i < k->Vk val #[EQ] (lo+k) < Vk val #[EQ] (lo+i))) ?istep ?ifin ?iinit) ?ipost)
  case iinit=>(exact⟨rfl,0,k,rfl,#[O],#[O],#[O],fun i hi=>by lia,fun i h1 h2=>by lia⟩)
  case ifin =>
   (rintro c pN ⟨rfl,l,r,rfl,B9,Ic,hm,yl,Ec⟩)
   have:l=r:=by lia
   subst this
   (exact⟨rfl,l,l,rfl,Ic,yl,Ec⟩)
  case istep =>
   (rintro x c pN _ hxk ⟨rfl,l,r,rfl,B9,Ic,hm,yl,Ec⟩)
   dsimp only;by_cases AF:l>=r
   ·rw [if_pos AF];have:l=r:=by lia
    subst this
    (exact ck ⟨rfl,l,l,rfl,Ic,yl,Ec⟩)
   ·rw [if_neg AF];refine bz (zeR hC qk.b hk #[O] ?_);by_cases ou:Vk val #[UY] (lo+k) < Vk val #[UY] (lo+(l+r) / 2)
    ·(simp only [ou,decide_true,if_true])
     (refine ck ⟨rfl,l,(l+r) / 2,rfl,#[O],#[O],#[O],yl,fun i h1 h2=>?_⟩)
     exact Int.lt_of_lt_of_le ou (oT _ _ #[O] #[O] #[O])
    ·(simp only [ou,decide_false,aY,if_false])
     (refine ck ⟨rfl,(l+r) / 2+1,r,rfl,#[O],#[O],#[O],fun i h1=>?_,Ec⟩)
     exact ko (oT (lo+i) (lo+(l+r) / 2) #[O] #[O] #[O]) (Int.not_lt.mp ou)
  case ipost =>
   (rintro c pN ⟨rfl,l,r,rfl,hlk,yl,Ec⟩)
   show wpS _ _ _ _ (do moveDown' (lo+k) (lo+l); pure (cm (none,()))) _ _;rw [moveDown'_eq];have Ie:lo+k < #[UY].size:=by rw [qk.b.size]; exact hk
   refine bz (jz (ck ⟨rfl,qk.setArr (bubble_perm _ _ _) (ziu Ie #[O] #[O]),?_⟩))
   (rw [show min (k+1) n=k+1 by lia])
   intro i j uS uH hj;show Vk val (bubble #[UY] (lo+k) (lo+k - (lo+l))) i<=Vk val (bubble #[UY] (lo+k) (lo+k - (lo+l))) j;rw [zhq Ie #[O],zhq Ie #[O],show lo+k - (lo+k - (lo+l))=lo+l by lia];have C4:∀ i,lo<=i->i < lo+l->Vk val #[UY] i<=Vk val #[UY] (lo+k):=fun i h1 h2=>by
    have:=yl (i - lo) #[O]
    rwa [show lo+(i - lo)=i by lia] at this
   have Ig:∀ i,lo+l<=i->i < lo+k->Vk val #[UY] (lo+k) < Vk val #[UY] i:=fun i h1 h2=>by
    have:=Ec (i - lo) #[O] #[O]
    rwa [show lo+(i - lo)=i by lia] at this
   repeat' split
   all_goals first
    | (exfalso; lia)
    | exact cQ _
    | exact C4 _ #[O] #[O]
    | exact iz (Ig _ #[O] #[O])
    | exact oT _ _ #[O] #[O] #[O]
end
end Srt
end
section
namespace Srt
open PySem PyProof.Rows
end Srt
end
section
namespace Srt
open PySem PyProof.Rows
end Srt
end
section
namespace Srt
open PySem PyProof.Rows
end Srt
end
section
namespace Srt
open PySem PyProof.Rows
end Srt
end
section
namespace Srt
open PySem PyProof.Rows
end Srt
end
section
namespace Srt
open PySem PyProof.Rows
end Srt
end
section
namespace Srt
open PySem PyProof.Rows
noncomputable def num (B:Int):List Int->Int
 | []=>0
 | n :: r=>n*B ^ r.length+num B r
theorem Mm {B:Int} (hB:1<=B):∀ {ns:List Int},(∀ n∈ns,0<=n/\n < B)->0<=num B ns/\num B ns < B ^ ns.length
 | [],_=>by simp [num]
 | n :: r,h=>by
  obtain⟨h1,h2⟩:=Mm hB (ns:=r) fun m hm=>h m (ar _ hm)
  obtain⟨a,b⟩:=h n #[M];have hp:0 < B ^ r.length:=Int.pow_pos #[O];have e:B ^ (n :: r).length=B ^ r.length*B:=by rw [bh,Int.pow_succ]
  show 0<=n*B ^ r.length+num B r/\n*B ^ r.length+num B r < _;rw [e];have h3:0<=n*B ^ r.length:=Int.mul_nonneg a #[O];have h4:n*B ^ r.length<=(B - 1)*B ^ r.length:=db #[O] #[O];have h5:(B - 1)*B ^ r.length=B ^ r.length*B - B ^ r.length:=by rw [Int.sub_mul,Int.one_mul,kq]
  lia
noncomputable def zhr:List Int->List Int->Bool
 | [],[]=>false
 | [],_ :: _=>true
 | _ :: _,[]=>false
 | x :: xs,y :: ys=>if x=y then zhr xs ys else decide (x < y)
theorem zcQ (x y:Int) (xs ys:List Int):zhr (x :: xs) (y :: ys)=if x=y then zhr xs ys else decide (x < y):=rfl
theorem zjf {B:Int} (hB:1<=B):∀ {ms ns:List Int},ms.length=ns.length->(∀ n∈ms,0<=n/\n < B)->(∀ n∈ns,0<=n/\n < B)->zhr ms ns=decide (num B ms < num B ns)
 | [],[],_,_,_=>by simp [zhr,num]
 | [],_ :: _,h,_,_=>by simp at h
 | _ :: _,[],h,_,_=>by simp at h
 | m :: ms,n :: ns,hl,h1,h2=>by
  have Cv:ms.length=ns.length:=by simpa using hl
  have ih:=zjf hB Cv (fun x hx=>h1 x (ar _ hx)) (fun x hx=>h2 x (ar _ hx));obtain⟨a1,a2⟩:=Mm hB fun x hx=>h1 x (ar m hx)
  obtain⟨b1,b2⟩:=Mm hB fun x hx=>h2 x (ar n hx)
  rw [zcQ];show _=decide (m*B ^ ms.length+num B ms < n*B ^ ns.length+num B ns);rw [Cv] at a2 |-;have hp:0 < B ^ ns.length:=Int.pow_pos #[O];by_cases e:m=n
  ·rw [if_pos e,ih,e];rw [dY];simp only [decide_eq_true_eq];lia
  ·rw [if_neg e,dY];simp only [decide_eq_true_eq];have key:∀ x y:Int,x < y->x*B ^ ns.length+B ^ ns.length<=y*B ^ ns.length:=fun x y Gq=>by
    have:=db (show x+1<=y by lia) (show 0<=B ^ ns.length by lia);rw [Int.add_mul,Int.one_mul] at this;exact this
   constructor
   ·intro h;have:=key m n h;lia
   ·intro h;rcases kJ m n with h3 | h3 | h3
    ·exact h3
    ·exact absurd h3 e
    ·have:=key n m h3;lia
section
variable {prog:Program} {w:World} {A:Around} {E:Value->Shared->Prop} {s:Shared}
theorem zjg {Q:Bool->Shared->Prop} {fin:Bool}:∀ {xs ys:List Value} {ms ns:List Int} (i:Nat),IntsAre xs ms->IntsAre ys ns->ms.length=ns.length->Q (if ms=ns then fin else zhr ms ns) s->PySem.W.KatLex prog w A true fin Q (xs.zip ys) i s
 | [],[],[],[],i,_,_,_,h=>PySem.W.kat_nil (by simpa using h)
 | _ :: _,_,[],_,_,hx,_,_,_=>by cases hx
 | [],_,_ :: _,_,_,hx,_,_,_=>by cases hx
 | _,[],_,_ :: _,_,_,hy,_,_=>by cases hy
 | _,_ :: _,_,[],_,_,hy,_,_=>by cases hy
 | x :: xs,y :: ys,m :: ms,n :: ns,i,hx,hy,hl,h=>by
  cases hx with
  | cons _ t hx =>
   cases hy with
   | cons _ u hy =>
    refine PySem.W.kat_cons (wpAny_eqBool_int ?_);by_cases e:m=n
    ·rw [show (m == n)=true by simpa using e];refine PySem.W.kat_yes (zjg (i+1) hx hy (by simpa using hl) ?_);subst e;rw [zcQ,if_pos rfl] at h;simpa using h
    ·rw [show (m == n)=false by simpa using e];have oM:¬ (m :: ms=n :: ns):=fun z=>e (jF z).1
     rw [if_neg oM,zcQ,if_neg e] at h;refine PySem.W.kat_no ?_;by_cases hi:i=0
     ·subst hi;exact oneLt_int h
     ·have hb:(true && i == 0)=false:=by simp [hi]
      rw [hb];exact PySem.W.kat_one _ _ (wpAny_lt_int h)
end
end Srt
end
section
namespace PySem
open PyProof.Rows
noncomputable def zeb (h:Heap) (d:Addr) (es:Array DictEntry) (ep:Nat):Prop:=∃ o,h.get? d=some o/\o.ExactDict/\o.data = .dict es ep
theorem zeb.at' {h h':Heap} {d:Addr} {es:Array DictEntry} {ep:Nat} (x:zeb h d es ep) (e:∀ o,h.get? d=some o->h'.get? d=some o):zeb h' d es ep:=let ⟨o,ho,r⟩:=x; ⟨o,e _ ho,r⟩
theorem zeb.typeIs {s:Shared} {d:Addr} {es:Array DictEntry} {ep:Nat} (x:zeb s.heap d es ep):s.TypeIs (.ref d) "dict":=let ⟨o,ho,hc,_⟩:=x; ⟨o,ho,hc.1⟩
section
variable {prog:Program} {w:World} {A:Around} {E:Value->Shared->Prop} {s:Shared} {it d:Addr} {i ep:Nat} {es:Array DictEntry}
theorem zhs {Q:Value->Shared->Prop} (hd:(d == sysModules)=false) (hm:zeb s.heap d es ep) (hQ:Q #[t0] { s with heap:=s.heap.push { cls:=.type "dict_keyiterator",data:=.fields #[.ref d,.int 0 0,.int es.size 0,.int ep 0] } }):wpAny #[na] A (pyIter (.ref d)) Q E s:=by
 have hT:=hm.typeIs;obtain⟨o,ho,hc,Ff⟩:=id hm;refine ee hT kX (bi kX hT F.entry_dict_iter ?_ (F.args_dict_iter_1 _)); unfold Builtin.«dict.__iter__» Builtin.Dict.dictSlotNone;refine aa (aa (wpAny_notOrdered_dict hT ?_)); show wpAny _ _ (pure (aL d)) _ _ s;refine ag ?_; show wpAny _ _ (ji d >>= _) _ _ s; unfold ji;rw [if_neg (show ¬ ((d == sysModules)=true) by rw [hd]; decide)];refine aa (ag (aa (ie ho Ff (aa (iQ ho Ff (aa (bE (ag ⟨_,rfl,"dict_keyiterator",_,⟨_,az _ rfl,rfl⟩,F.slot_dict_keyiterator_next.lookup,?_⟩))))))));simpa [rawInt] using hQ
theorem zht {e:DictEntry} {Q:Option Value->Shared->Prop} (hit:s.heap.IsKeyIter it d i es.size ep) (hm:zeb s.heap d es ep) (he:es[i]? = some e)
  (hQ:∀ h',h'.IsKeyIter it d (i+1) es.size ep->aX it s.heap h'->Q (some e.key) { s with heap:=h' }):wpAny #[na] A #[SI] Q E s:=by
 (obtain⟨o,ho,hc,hd⟩:=id hit)
 obtain⟨od,Fg,t9,AG⟩:=id hm;have mW:i < es.size:=(hJ.mp he).1;have C5:gH "dict_keyiterator" = false:=by decide +kernel
 unfold pyNext; refine aa (bZ (bp (name:=bL "__next__") hit.typeIs dk #[WK]));refine aa #[Uv];simp only [C5,aY,if_false]; show wpAny _ _ (if (aL d == bW)=true then _ else _) _ _ s;rw [if_neg (show ¬ ((aL d == bW)=true) from fun z=>aG z)];refine aa (ag (aa (ie Fg AG ?_)));rw [if_neg (show ¬ ((((es.size:Nat):Int) != ((es.size:Nat):Int))=true) by simp)];refine aa (ag (aa (iQ Fg AG ?_)));rw [if_neg #[M]]; refine ag ?_;simp only [show ¬ ((i:Int) < 0) by lia,if_false,a8,he];refine aa (aa (dg hit.typeIs (ag (aa (jj hit.typeIs ?_)))));show wpAny _ _ (setField #[Q7] 1 (rawInt ((i:Int)+1)) >>= _) _ _ s; refine aa #[UP];have uc:(s.heap.update it (eM (·.setIfInBounds 1 (rawInt ((i:Int)+1))))).IsKeyIter it d (i+1) es.size ep:=⟨_,bP _ ho (cV (bR hd _)),(d9 ..).trans hc,by rw [bR hd]; simp [rawInt]⟩;refine aa (bJ (aa (jj (s:={ s with heap:=s.heap.update it (eM (·.setIfInBounds 1 (rawInt ((i:Int)+1)))) }) uc.typeIs ?_)));show wpAny _ _ (pure e.key) _ _ _; exact ag (ag ⟨_,rfl,ag (hQ _ uc (bH ..))⟩)
theorem zjh {Q:Option Value->Shared->Prop} (hh:A.handled=none) (hit:s.heap.IsKeyIter it d i es.size ep) (hm:zeb s.heap d es ep) (he:es.size<=i) (hQ:∀ h',iU it s.heap h'->Q none { s with heap:=h' }):wpAny #[na] A #[SI] Q E s:=by
 (obtain⟨o,ho,hc,hd⟩:=id hit)
 obtain⟨od,Fg,t9,AG⟩:=id hm;have C5:gH "dict_keyiterator" = false:=by decide +kernel
 unfold pyNext; refine aa (bZ (bp (name:=bL "__next__") hit.typeIs dk #[WK]));refine aa #[Uv];simp only [C5,aY,if_false]; show wpAny _ _ (if (aL d == bW)=true then _ else _) _ _ s;rw [if_neg (show ¬ ((aL d == bW)=true) from fun z=>aG z)];refine aa (ag (aa (ie Fg AG ?_)));rw [if_neg (show ¬ ((((es.size:Nat):Int) != ((es.size:Nat):Int))=true) by simp)];refine aa (ag (aa (iQ Fg AG ?_)));rw [if_neg #[M]]; refine ag ?_;simp only [show ¬ ((i:Int) < 0) by lia,if_false,a8,ca he];refine aa (aa (dg hit.typeIs (ag ?_)));show wpAny _ _ (setField #[Q7] 0 .none >>= _) _ _ s; refine aa #[UP];show wpAny _ _ (newExc (.type "StopIteration") [] >>= _) _ _ _; simp only [newExc,newTuple];refine aa (aa (bE (aa (m:=firstArgMember _ _) (dL (a:=bW) (by first | rfl | (simp only [firstArgMember]; rfl)) (bE ?_ (by size_fits)))) (by size_fits)));simp only [raiseNew]; refine aa (hU ?_); rw [show A.in1.handled=none from hh];refine aa (ag (iV ?_)); refine aa (dh (T:="StopIteration") (b:=true) ⟨_,az _ rfl,rfl⟩ fg ?_)
 (exact ag (hQ _ (((bH ..).extBut.push _).push _)))
theorem zkh (hh:A.handled=none) (I d:Addr) (oM:d≠I) (es:Array DictEntry) (ep:Nat) :
  Walks prog w A I [I,d] [I] es.size (fun i v=>∃ e,es[i]? = some e/\v=e.key) (fun i h=>h.IsKeyIter I d i es.size ep/\zeb h d es ep) where
 sub:=(fun b hb=>by simp at hb; simp [hb])
 frame:=(fun _ _ _ st hk=>⟨st.1.at fun o e=>hk I #[M] o e,st.2.at' fun o e=>hk d #[M] o e⟩)
 item:=fun i s Q E hi st hQ=>zht st.1 st.2 (getElem?_pos es i hi) fun h' uc oT=>hQ _ h' s.toks ⟨es[i],getElem?_pos es i hi,rfl⟩ ⟨uc,st.2.at' fun o e=>oT.extBut d o oM e⟩ fun b o hb e=>oT.extBut b o (fun h=>hb (by simp [h])) e
 done:=fun s Q E st hQ=>zjh hh st.1 st.2 (ai _) fun h' Bf=>hQ h' s.toks fun b o hb e=>Bf b o (fun h=>hb (by simp [h])) e
 self:=(fun _ _ _ _ st hQ=>jA st.1 hQ)
theorem zm3 (lo:(d == sysModules)=false):PySem.W.KdlSrc prog w "dict" d d es.size (fun i v=>∃ e,es[i]? = some e/\v=e.key) (fun h=>zeb h d es ep) where
 type:=fun _ hm=>hm.typeIs
 there:=fun _ hm=>let ⟨_,ho,_⟩:=hm; ⟨aB ho,aB ho⟩
 keep:=(fun _ _ hm hk=>hm.at' fun o e=>hk d #[KM] o e)
 notList:=by decide
 notTuple:=by decide
 hint:=fun _ _ _ _ hm hq=>PySem.W.kdl_hint_dict hm.typeIs hq
 iter:=fun _ _ hh hm=>⟨_,_,(fun _ _ hq=>zhs lo hm hq),zkh hh _ d (by obtain⟨_,ho,_⟩:=id hm; exact aO (aB ho)) es ep,⟨⟨_,az _ rfl,rfl,rfl⟩,hm.at' fun o e=>ah _ e⟩⟩
end
end PySem
end
section
namespace Srt
open PySem PyProof.Rows
variable {vs:List Value}
section
variable {prog:Program} {w:World} {A:Around} {E:Value->Shared->Prop} {s:Shared} {κ:SortKind} {val:Keyed->Int}
theorem zca {p:Keyed} (h:p∈#[Sm].toList):p.1∈vs/\p.2=p.1:=by
 rw [jk] at h;obtain⟨i,hi,e⟩:=List.getElem_of_mem h;rw [List.getElem_zip] at e;rw [<- e];exact⟨eG _,rfl⟩
theorem zoC {xs:Array Keyed} (hp:xs.Perm #[Sm]) (hs:SIn val xs 0 #[Sm].size):(xs.map (·.2)).toList.Perm vs/\(xs.map (·.2)).toList.Pairwise fun x y=>val (x,x)<=val (y,y):=by
 (have hl:xs.toList.Perm (vs.zip vs):=by rw [<- jk]; exact hW.mp hp)
 have hm:∀ p∈xs.toList,p=(p.2,p.2):=fun p sW=>by
  have:=zca (by rw [jk]; exact hl.mem_iff.mp sW);exact Prod.ext this.2.symm rfl
 constructor
 ·rw [iA];refine (hl.map (·.2)).trans ?_;rw [show (vs.zip vs).map (·.2)=vs from List.map_snd_zip (ai _)]
 ·rw [iA,dE,ij];intro i j hi hj uH
  (have pM:i < xs.size:=by simpa using hi)
  (have uF:j < xs.size:=by simpa using hj)
  have h1:=hs i j (bg _) #[O] (by rw [<- hp.size_eq]; exact uF);rw [zjb (getElem?_pos xs i pM),zjb (getElem?_pos xs j uF)] at h1;have e1:=hm xs.toList[i] (eG _);have e2:=hm xs.toList[j] (eG _);rw [<- e1,<- e2];simpa using h1
end
end Srt
end
section
namespace L2
open PySem PySem.Spec PyProof.Rows PySem.Builtin.Str
variable {H:Hp} {X:Cx} {h':Heap} {mq:List (Addr×Obj)} {s:Shared} {tk:Nat}
theorem Inv.above {σ:St} {D:Addr} {o:HO} (I:Inv X mq σ H s) (k:∀ b o,s.heap.get? b=some o->h'.get? b=some o) (hD:∀ b o,s.heap.get? b=some o->b < D)
  (new:zW X.prog X.w (mz H D o) h' D o):H D=none/\Inv X mq σ (mz H D o) { s with heap:=h',toks:=tk }:=by
 have hn:H D=none:=by
  cases e:H D with
  | none=>rfl
  | some u =>
   obtain⟨ob,z⟩:=zlP (I.hok D u e);exact absurd (hD D ob z) (bX _)
 have hL:X.env.locals < D:=by
  obtain⟨m,⟨o,es,ep,ho,_⟩,_⟩:=I.loc;exact hD _ _ ho
 have I1:Inv X mq σ H { s with heap:=h',toks:=tk }:=I.kept k;refine⟨hn,I1.OQ hn (io (Nat.lt_of_le_of_lt I.ok.above hL)) (aO hL) (fun x c e z=>?_) (fun p hp z=>?_) new⟩
 ·obtain⟨v,oc,q,_⟩:=I.cell x c e;exact absurd (hD c oc q) (by rw [z]; exact bX _)
 ·exact absurd (hD p.1 _ (I.pin p hp).1) (by rw [z]; exact bX _)
end L2
end
section
namespace L2
open PySem PySem.Spec PyProof.Rows Srt
variable {H:Hp} {M:Model} {X:Cx} {h:Heap} {mI:List (List Key×V)} {mq:List (Addr×Obj)} {ns:List Int} {s s':Shared}
noncomputable def zlY (xs:List V):List Int:=xs.filterMap fun x=>match x with
 | .int n=>some n
 | _=>none
theorem zki (ns:List Int):zlY #[wS]=ns:=by
 unfold zlY;rw [gT];induction ns with
 | nil=>rfl
 | cons n ns ih =>
  rw [cb];simp only [lT];rw [ih]
noncomputable def zc2 (H:Hp) (v:Value):List Int:=match v with
 | .ref a=>(match H a with
  | some #[Rp]=>zlY xs
  | _=>[])
 | _=>[]
theorem zeT {a:Addr} (h:H a=some (.tup #[wS])):zc2 H #[Rf]=ns:=by
 unfold zc2;simp only [h];exact zki ns
noncomputable def zkj (H:Hp) (k:Nat) (B:Int) (ps:List (Addr×List Int)):Prop:=∀ q∈ps,H q.1=some (.tup (q.2.map V.int))/\q.2.length=k/\∀ n∈q.2,0<=n/\n < B
theorem zfV:∀ {ps:List (Addr×List Int)} {us:List Value},zH (ps.map fun q=>V.ref q.1) us->us=ps.map fun q=>aL q.1
 | [],_,r=>by cases r; rfl
 | q :: ps,_,r=>by
  cases r with
  | cons r1 r2 =>
   cases r1;rw [zfV r2];rfl
theorem zcq:∀ (ps:List (Addr×List Int)),zH (ps.map fun q=>V.ref q.1) (ps.map fun q=>aL q.1)
 | []=>.nil
 | q :: ps=>.cons rfl (zcq ps)
section
variable {X:Cx} {mq:List (Addr×Obj)} {σ:St} {H:Hp} {s:Shared} {k:Nat} {B:Int} {ps:List (Addr×List Int)}
theorem zgs (I:Inv X mq σ H s) {q:Addr×List Int} (h:H q.1=some (.tup (q.2.map V.int))):∃ o mC n,s.heap.get? q.1=some o/\o.cls = .type "tuple"/\o.data = .seq mC n/\IntsAre mC.toList q.2:=by
 obtain⟨mC,r,⟨o,ho,hc,n,hd⟩,hz⟩:=I.tuple (mK.of h);exact⟨o,mC.toArray,n,ho,hc,hd,by simpa using intsAre_of r⟩
theorem zlZ (I:Inv X mq σ H s) (hT:zkj H k B ps) (hk:1<=k) (kk:∀ b o,s.heap.get? b=some o->s'.heap.get? b=some o):∃ fs:List Value,PySem.W.KatTups s'.heap (ps.map fun q=>aL q.1) fs/\fs.length=ps.length/\∀ v∈fs,∃ n t,v=cK n t:=by
 induction ps with
 | nil=>exact⟨[],trivial,rfl,fun v hv=>by cases hv⟩
 | cons q ps ih =>
  obtain⟨fs,h1,h2,h3⟩:=ih fun q' ub=>hT q' (ar _ ub)
  obtain⟨hq,hl,_⟩:=hT q #[M];obtain⟨o,mC,n,ho,hc,hd,hi⟩:=zgs I hq;have mS:=hi.length;obtain⟨m,ms,e⟩:∃ m ms,q.2=m :: ms:=by
   cases e:q.2 with
   | nil=>rw [e] at hl; simp at hl; lia
   | cons m ms=>exact⟨m,ms,rfl⟩
  rw [e] at hi;cases e2:mC.toList with
  | nil=>rw [e2] at hi; cases hi
  | cons f fr =>
   rw [e2] at hi;cases hi with
   | cons _ t hi =>
    refine⟨.int m t :: fs,mo (kk _ _ ho) hc hd ?_ h1,by simp [h2],fun v hv=>?_⟩
    ·rw [<- bG,e2];rfl
    ·rcases (av.mp hv) with rfl | hv
     ·exact⟨m,t,rfl⟩
     ·exact h3 v hv
theorem zfW:∀ ms:List Int,zhr ms ms=false
 | []=>rfl
 | m :: ms=>by rw [zcQ,if_pos rfl,zfW ms]
theorem zl0 (I:Inv X mq σ H s) (hT:zkj H k B ps) (hB:1<=B) {A':Around} (kk:∀ b o,s.heap.get? b=some o->s'.heap.get? b=some o) :
  Cmp X.prog X.w A' s' (tuples' true) (fun p=>num B (zc2 H p.1)) (pairsOf (ps.map fun q=>aL q.1)):=by
 intro x y hx hy Q E hQ;obtain⟨qx,mx,ex⟩:=aZ.mp (zca hx).1;obtain⟨qy,my,ey⟩:=aZ.mp (zca hy).1;obtain⟨hx1,hx2,hx3⟩:=hT qx mx;obtain⟨hy1,hy2,hy3⟩:=hT qy my;obtain⟨ox,ix,nx,gx,cx,dx,ax⟩:=zgs I hx1;obtain⟨oy,iy,ny,gy,cy,dy,ay⟩:=zgs I hy1;have ev:decide ((fun p:Keyed=>num B (zc2 H p.1)) x < (fun p:Keyed=>num B (zc2 H p.1)) y)=zhr qx.2 qy.2:=by
  rw [zjf hB (hx2.trans hy2.symm) hx3 hy3,<- zeT hx1,<- zeT hy1];simp only [ex,ey]
 rw [ev] at hQ;rw [<- ex,<- ey];refine PySem.W.kat_lt (kk _ _ gx) dx (kk _ _ gy) dy (zjg 0 ax ay (hx2.trans hy2.symm) ?_);have hsz:decide (ix.size < iy.size)=false:=by
  have e1:=ax.length;have e2:=ay.length;rw [aE] at e1 e2;exact decide_eq_false #[O]
 rw [hsz];by_cases e:qx.2=qy.2
 ·rw [if_pos e];rw [e,zfW] at hQ;exact hQ
 ·rw [if_neg e];exact hQ
theorem zhu (hT:zkj H k B ps) {out:Array Value} (hp:out.toList.Perm (ps.map fun q=>aL q.1)) (hs:out.toList.Pairwise fun x y=>num B (zc2 H x)<=num B (zc2 H y)) :
  ∃ pq:List (Addr×List Int),pq.Perm ps/\(pq.Pairwise fun a b=>num B a.2<=num B b.2)/\out.toList=pq.map fun q=>aL q.1:=by
 let g:Value->Addr×List Int:=fun v=>match v with
  | .ref a=>(a,zc2 H #[Rf])
  | _=>(0,[])
 have hg:∀ q∈ps,g (.ref q.1)=q:=fun q hq=>Prod.ext rfl (zeT (hT q hq).1)
 have hv:∀ v∈out.toList,∃ q∈ps,v = .ref q.1:=fun v hv=>by
  obtain⟨q,hq,e⟩:=aZ.mp (hp.mem_iff.mp hv);exact⟨q,hq,e.symm⟩
 refine⟨out.toList.map g,?_,?_,?_⟩
 ·refine (hp.map g).trans ?_;rw [bx];have:ps.map (g ∘ fun q=>aL q.1)=ps:=by
   conv=>rhs; rw [<- iY ps]
   exact cf fun q hq=>hg q hq
  rw [this]
 ·rw [dE];refine iB (fun {x y} hx hy h=>?_) hs;obtain⟨q,hq,rfl⟩:=hv x hx;obtain⟨q',ub,rfl⟩:=hv y hy;exact h
 ·rw [bx]
  conv=>lhs; rw [<- iY out.toList]
  refine cf fun v Hk=>?_
  obtain⟨q,hq,rfl⟩:=hv v Hk;rfl
end
theorem zfX {n:Int} {t:Tok}:fP M h (typeOf (.int n t)) (.type "int"):=PySem.W.Looks.of_pure rfl
theorem zm4 {σ:St} {d:Addr} {nB:List #[GT]} (I:Inv X mq σ H s) (hd:H d=some #[Vp]) (hk:mI.map (·.1)=nB.map (·.map cN)) :
  (d == sysModules)=false/\mI.length<=sizeLine/\∃ (ps:List (Addr×List Int)) (es:Array DictEntry) (ep:Nat),zeb s.heap d es ep/\es.toList.map (·.key)=(ps.map fun q=>aL q.1)/\ps.map (·.2)=nB/\∀ q∈ps,H q.1=some (.tup (q.2.map V.int)):=by
 obtain⟨hz,hs,xs,hp,o,es,ep,ho,hx,he,vP,uU⟩:=I.hok d _ hd;refine⟨hs,hz,?_⟩;have key:∀ {mI:List (List Key×V)} {xs:List (List Key×Addr×Value)} {nB:List #[GT]},Paired (fun (p:List Key×V) (q:List Key×Addr×Value)=>p.1=q.1/\H q.2.1=some (.tup (p.1.map kV))/\RelV p.2 q.2.2) mI xs->mI.map (·.1)=nB.map (·.map cN) ->
   ∃ ps:List (Addr×List Int),xs.map (fun x=>aL x.2.1)=(ps.map fun q=>aL q.1)/\ps.map (·.2)=nB/\∀ q∈ps,H q.1=some (.tup (q.2.map V.int)):=by
  intro mI xs nB hp;induction hp generalizing nB with
  | nil =>
   intro e;cases nB with
   | nil=>exact⟨[],rfl,rfl,fun q hq=>by cases hq⟩
   | cons m nB=>simp at e
  | @cons x y l1 l2 h1 h2 ih =>
   intro e;cases nB with
   | nil=>simp at e
   | cons m nB =>
    rw [bc,bc] at e;obtain⟨e1,e2⟩:=jF e;obtain⟨ps,a1,a2,a3⟩:=ih e2;obtain⟨_,h12,_⟩:=h1;refine⟨(y.2.1,m) :: ps,by rw [bc,bc,a1],by rw [bc,a2],fun q hq=>?_⟩;rcases (av.mp hq) with rfl | hq
    ·rw [h12,e1,bx];rfl
    ·exact a3 q hq
 obtain⟨ps,a1,a2,a3⟩:=key hp hk;refine⟨ps,es,ep,⟨o,ho,hx,he⟩,?_,a2,a3⟩;rw [vP,bx,<- a1];rfl
end L2
end
section
namespace L2
open PySem PySem.Spec PyProof.Rows
variable {H:Hp} {J:It} {ts:TT} {ys:List V} {σ0:St}
section
variable {X:Cx} {elt t1 i1 t2 i2:Expr} {f1 f2:List Expr} {scope:Scope} {pos:Pos} {N':List Str} {ix:List #[At]} {Ih Ed:List Nat} {g1 g2:TG} {ts1 GC:TT} {te:TE} {wi1 GD:TI}
theorem zoD (hc:X.calm=true) (Ii:GS Ed g2) (Bm:∀ s₃ H₃ ex mq,PI #[ld] t2 i2 GD)
  (E6:∀ s₃ H₃ ex mq,PG #[ld] t2 g2) (yG:∀ s₃ H₃ ex mq,zdc #[ld] f2 GC) (he:∀ s₃ H₃ ex mq,PE #[ld] elt te)
  (oJ:∀ s₃ H₃ ex mq x,foldedSetIterable i2 #[ld].env x=pure x) :
  ∀ s₃ H₃ ex mq D,PM #[ld] D Ed ((fun D env=>ziX (.ListComp elt [⟨t1,i1,f1,0⟩,⟨t2,i2,f2,0⟩] scope pos) i2 1 #[QV] env) D #[ld].env) (zlv GD g2 GC (zlu te)):=by
 intro s₃ H₃ ex mq D;have h:=zod (Y:=zM X N' scope s₃ H₃ ex mq) (D:=D) (js:=Ed) (js':=[]) (elt:=elt) (gens:=[⟨t1,i1,f1,0⟩,⟨t2,i2,f2,0⟩]) (scope:=scope) (pos:=pos) (d:=1) (p:=i2.pos) hc rfl Ii (fun _ _ z=>by cases z) (Bm s₃ H₃ ex mq) (E6 s₃ H₃ ex mq) (yG s₃ H₃ ex mq) (zie rfl (he s₃ H₃ ex mq)) rfl (fun it=>zof it D _) (oJ s₃ H₃ ex mq);rw [cv] at h;exact h
theorem ziv {i:Nat} {x:Str} {pos' qi:Pos} (hN:X.N.Nodup) (Be:X.N[i]? = some x) (hx:Loc X.env.scope x) (SC:Ki X N' ix scope) (hc:X.calm=true) (gs1:GS Ih g1) (Ii:GS Ed g2) (pK:∀ j∈Ih,j∉Ed) (Bc:∀ j∈Ih++Ed,ix[j]? = some none) (hi1:PI X t1 i1 wi1)
  (C6:∀ s₃ H₃ ex mq,PG #[ld] t1 g1) (ht1:∀ s₃ H₃ ex mq,zdc #[ld] f1 ts1) (Bm:∀ s₃ H₃ ex mq,PI #[ld] t2 i2 GD)
  (E6:∀ s₃ H₃ ex mq,PG #[ld] t2 g2) (yG:∀ s₃ H₃ ex mq,zdc #[ld] f2 GC) (he:∀ s₃ H₃ ex mq,PE #[ld] elt te)
  (EY:swapsWith (.ListComp elt [⟨t1,i1,f1,0⟩,⟨t2,i2,f2,0⟩] scope pos) #[WP] qi.line X.env=pure true:=by rfl)
  (hs:∀ x,foldedSetIterable i1 X.env x=pure x:=by intro _; rfl) (oJ:∀ s₃ H₃ ex mq x,foldedSetIterable i2 #[ld].env x=pure x:=by intros; rfl) (hf:X.fn x=true\/X.env.scope.names.lookup x=some .local:=by first | exact .inl rfl | exact .inr rfl | assumption) :
  PS X (.Assign [.Name x pos'] (.ListComp elt [⟨t1,i1,f1,0⟩,⟨t2,i2,f2,0⟩] scope pos) qi) (zfg (zid ix wi1 g1 ts1 (zlv GD g2 GC (zlu te))) (zaD i)) :=
 zdW hN Be hx SC hc gs1 pK Bc hi1 C6 ht1 (zoD hc Ii Bm E6 yG he oJ) (fun it D env=>zoe it D env) EY hs hf
end
theorem znR {n:Nat} {g:TG} {tm:TM} {Q:List V->Hp->Prop} (Pv:Nat->List V->Hp->Prop) (h0:Pv 0 ys H) (ym:∀ i ys H,i < n->Pv i ys H->J.go i H) (oj:∀ ys H,Pv n ys H->J.stop n H)
  (hs:∀ i x ys H H',i < n->Pv i ys H->J.yld i H x H'->g x σ0 H' fun σ2 H2=>ts σ2 H2 fun b H3=>if b=true then tm ys σ2 H3 (Pv (i+1)) else Pv (i+1) ys H3)
  (hd:∀ ys H,Pv n ys H->Q ys H):cIn g ts tm σ0 J Q ys H:=by
 refine⟨fun i m ys H=>m=n - i/\i<=n/\Pv i ys H,#[Tm],?_⟩;rintro i m ys H ⟨rfl,hi,p⟩;by_cases mW:i < n
 ·exact .inr #[Cl]
 ·have e:i=n:=by lia
  subst e;exact .inl ⟨oj ys H p,hd ys H p⟩
noncomputable def zoE (sc:Scope) (x:Str):Bool:=match sc.names.lookup x with
 | some .local=>true
 | some .cell=>true
 | some .free=>true
 | _=>false
theorem zm5 {sc:Scope} {x:Str} (h:zoE sc x=true):Vis sc x:=by
 unfold zoE at h;unfold Vis;cases e:sc.names.lookup x with
 | none=>rw [e] at h; cases h
 | some k=>cases k <;> simp_all
noncomputable def pvB (N:List Str) (sc:Scope) (i:Nat) (x:Str):Bool:=decide (N[i]? = some x) && zoE sc x && !(x == ("__debug__" : Str)) && !(x == ("__classdict__" : Str))
theorem pvx {X:Cx} (i:Nat) {x:Str} {pos:Pos} (h:pvB X.N X.env.scope i x=true):PE X #[T6] (zoZ i):=by
 unfold pvB at h;simp only [bV,kI,decide_eq_true_eq] at h;exact znZ h.1.1.1 (zm5 h.1.1.2) h.1.2 h.2
end L2
end
section
namespace My
open PySem L2 PyProof.Rows
variable {H H':Hp} {j k:Nat} {mI:List (List Key×V)} {mO pk:List (Int×Int)} {pl q:List Int} {qs:List #[GT]} {rs:List Addr} {rw:List #[Ch]}
noncomputable def nxt {α:Type} (xs:List α) (c:Nat×List α):List (Nat×List α):=(bd (xs.length - c.1)).map fun j=>(c.1+j+1,c.2++xs[c.1+j]?.toList)
noncomputable def chs {α:Type} (xs:List α):Nat->List (Nat×List α)
 | 0=>[(0,[])]
 | m+1=>#[SU].flatMap (nxt xs)
theorem zem {α:Type} (xs:List α) (c:Nat×List α):(nxt xs c).length=xs.length - c.1:=by unfold nxt; rw [ae,cg]
theorem zji {α:Type} {xs:List α} {c:Nat×List α} {x:α} (h:xs[c.1+j]? = some x):(nxt xs c)[j]? = some (c.1+j+1,c.2++[x]):=by
 have hj:j < xs.length - c.1:=by
  have:=(aj.mp h).1;lia
 unfold nxt;rw [ao,jP hj];simp [h]
theorem zjj:∀ r:Nat,((bd r).map fun j=>2 ^ (r - j - 1)).sum+1=2 ^ r
 | 0=>rfl
 | r+1=>by
  rw [fK,bc,jG,bx];have e:((bd r).map ((fun j=>2 ^ (r+1 - j - 1)) ∘ Nat.succ))=(bd r).map fun j=>2 ^ (r - j - 1):=cf fun j _=>by
   show 2 ^ (r+1 - (j+1) - 1)=2 ^ (r - j - 1);congr 1;lia
  rw [e];have:=zjj r;rw [iC];show 2 ^ (r+1 - 0 - 1)+_+1=_;rw [show r+1 - 0 - 1=r from by lia];lia
noncomputable def pot {α:Type} (n:Nat) (cs:List (Nat×List α)):Nat:=(cs.map fun c=>2 ^ (n - c.1)).sum
theorem zm6 {α:Type} (xs:List α) (c:Nat×List α):pot xs.length (nxt xs c)<=2 ^ (xs.length - c.1):=by
 unfold pot nxt;rw [bx];have e:((bd (xs.length - c.1)).map ((fun c:Nat×List α=>2 ^ (xs.length - c.1)) ∘ fun j=>(c.1+j+1,c.2++xs[c.1+j]?.toList)))=(bd (xs.length - c.1)).map fun j=>2 ^ (xs.length - c.1 - j - 1):=cf fun j _=>by
  show 2 ^ (xs.length - (c.1+j+1))=_;congr 1;lia
 rw [e];have:=zjj (xs.length - c.1);lia
theorem zhv {α:Type} (xs:List α):∀ cs:List (Nat×List α),pot xs.length (cs.flatMap (nxt xs))<=pot xs.length cs
 | []=>ai _
 | c :: cs=>by
  have h1:=zm6 xs c;have h2:=zhv xs cs;rw [fz];unfold pot at h1 h2 |-;rw [aw,List.sum_append,bc,jG];lia
theorem zjk {α:Type} (n:Nat):∀ cs:List (Nat×List α),cs.length<=pot n cs
 | []=>ai _
 | c :: cs=>by
  have h:=zjk n cs;have:0 < 2 ^ (n - c.1):=Nat.pos_of_ne_zero #[M];unfold pot at h |-;rw [bc,jG,bh];lia
theorem zjl {α:Type} (xs:List α):∀ m,pot xs.length #[SU]<=2 ^ xs.length
 | 0=>by
  unfold chs pot;simp
 | m+1=>bn (zhv xs #[SU]) (zjl xs m)
theorem zm7 {α:Type} (xs:List α) (m:Nat):#[SU].length<=2 ^ xs.length:=bn (zjk _ _) (zjl xs m)
theorem zdP {α:Type} {xs:List α} (m:Nat) (h:xs.length<=16):#[SU].length<=65536:=bn (zm7 xs m) (bn (dH #[D] h) #[D])
theorem zkk {α β:Type} {f:α->List β} {l:List α} {i:Nat} {c:α} (hc:l[i]? = some c) (hj:j < (f c).length):((l.take i).flatMap f).length+j < (l.flatMap f).length:=by
 have e:l.flatMap f=(l.take i).flatMap f++(f c++(l.drop (i+1)).flatMap f):=by
  conv=>lhs; rw [zco hc]
  rw [jQ,fz]
 rw [e,aH,aH];lia
theorem zfY {α β:Type} {f:α->List β} {l:List α} {i:Nat} {c:α} (hc:l[i]? = some c):(l.take (i+1)).flatMap f=(l.take i).flatMap f++f c:=by
 rw [take_snoc hc,jQ,fz,List.flatMap_nil,cv]
theorem zoF {α:Type} {xs:List α}:∀ {m:Nat} {c:Nat×List α},c∈chs xs m->c.1<=xs.length
 | 0,c,h=>by
  unfold chs at h;rw [aW] at h;subst h;exact bg _
 | m+1,c,h=>by
  unfold chs at h;obtain⟨c',_,hc⟩:=eI.mp h;unfold nxt at hc;obtain⟨j,hj,rfl⟩:=aZ.mp hc;have:=bN.mp hj;show c'.1+j+1<=xs.length;lia
theorem zhw {α:Type} {xs:List α}:∀ {m:Nat} {c:Nat×List α},c∈chs xs m->c.2.length<=m
 | 0,c,h=>by
  unfold chs at h;rw [aW] at h;subst h;exact ai _
 | m+1,c,h=>by
  unfold chs at h;obtain⟨c',hm,hc⟩:=eI.mp h;have:=zhw hm;unfold nxt at hc;obtain⟨j,hj,rfl⟩:=aZ.mp hc;show (c'.2++xs[c'.1+j]?.toList).length<=m+1;rw [aH];have:xs[c'.1+j]?.toList.length<=1:=by cases xs[c'.1+j]? <;> simp
  lia
theorem Paired.get {α β:Type} {F:α->β->Prop}:∀ {l₁:List α} {l₂:List β},Paired F l₁ l₂->∀ {i:Nat} {a:α},l₁[i]? = some a->∃ b,l₂[i]? = some b/\F a b
 | _,_,.nil,i,a,h=>by simp at h
 | _,_,.cons r t,0,a,h=>by
  (simp only [dW,fA] at h)
  subst h;exact⟨_,rfl,r⟩
 | _,_,.cons r t,i+1,a,h=>by
  rw [cn] at h;obtain⟨b,hb,f⟩:=Paired.get t h;exact⟨b,by rw [cn]; exact hb,f⟩
noncomputable def zm8 (H:Hp) (t:Addr) (c:Nat×List V):Prop:=∃ L,H t=some (.tup [.int (c.1:Int),.ref L])/\H L=some (.lst c.2)
theorem zm8.same (s:zy H H') {t:Addr} {c:Nat×List V} (h:zm8 H t c):zm8 H' t c:=let ⟨L,h1,h2⟩:=h; ⟨L,s _ _ h1,s _ _ h2⟩
noncomputable def zeU (H:Hp):List Addr->List (Nat×List V)->Prop:=Paired (zm8 H)
theorem zeU.same (s:zy H H') {ts:List Addr} {cs:List (Nat×List V)} (h:zeU H ts cs):zeU H' ts cs:=gO (fun _ _ z=>z.same s) h
noncomputable def zhx (H:Hp):List Addr->List (List V)->Prop:=Paired fun l pk=>H l=some (.lst pk)
theorem zhx.same (s:zy H H') {ts:List Addr} {cs:List (List V)} (h:zhx H ts cs):zhx H' ts cs:=gO #[Up] h
noncomputable def ziw (K:af):Sp:=fun vs H Q _=>∃ (a:Addr) (m:Nat) (xs:List V),vs = [.ref a,.int (m:Int)]/\mB K H a xs/\xs.length<=16/\m<=1000 /\
 ∀ (l:Addr) (ls:List Addr) (H':Hp),H l=none->zy H H'->H' l=some #[VC]->zhx H' ls (#[SU].map (·.2))->Q #[Su] H'
noncomputable def quo (p r:Int):List Int->List Int
 | []=>[]
 | [_]=>[]
 | _ :: d :: cs=>zw p r (d :: cs) :: quo p r (d :: cs)
theorem zjm (p r:Int):∀ (c:Int) (cs:List Int),(quo p r (c :: cs)).length=cs.length
 | _,[]=>rfl
 | _,d :: cs=>by
  show #[Ws].length+1=cs.length+1;rw [zjm p r d cs]
theorem zl1 {p r x:Int}:∀ d:List Int,Cg p (zw p x d - zw p r d) ((x - r)*zw p x (quo p r d))
 | []=>Cg.of_eq (by show (0:Int) - 0=(x - r)*0; lia)
 | [c]=>by
  have h1:Cg p (zw p x [c]) (c+x*0):=zac p x c [];have h2:Cg p (zw p r [c]) (c+r*0):=zac p r c [];refine (h1.sub h2).trans (Cg.of_eq ?_);show c+x*0 - (c+r*0)=(x - r)*0;lia
 | c :: d :: cs=>by
  have h1:=zac p x c (d :: cs);have h2:=zac p r c (d :: cs);have ih:=zl1 (p:=p) (r:=r) (x:=x) (d :: cs);have h3:Cg p (zw p x (quo p r (c :: d :: cs))) (zw p r (d :: cs)+x*zw p x #[Ws]):=zac p x _ _;have h4:=(Cg.refl p (x - r)).mul h3;have h5:=(Cg.refl p x).mul ih;refine (h1.sub h2).trans (Cg.symm (h4.trans ?_));refine (Cg.of_eq (show _=(x - r)*zw p r (d :: cs)+x*((x - r)*zw p x #[Ws]) by grind)).trans ?_;refine ((Cg.refl p ((x - r)*zw p r (d :: cs))).add h5.symm).trans (Cg.of_eq (by grind))
theorem zhy {p r:Int}:∀ d:List Int,Cg p (zw p r d) 0->(∀ c∈quo p r d,Cg p c 0)->∀ c∈d,Cg p c 0
 | [],_,_,c,hc=>by cases hc
 | [a],h,_,c,hc=>by
  obtain rfl:c=a:=by simpa using hc
  have h1:Cg p (zw p r [c]) (c+r*0):=zac p r c [];exact (#[Rx].trans h1.symm).trans h
 | a :: d :: cs,h,hq,c,hc=>by
  have h0:Cg p (zw p r (d :: cs)) 0:=hq _ aA;rcases (av.mp hc) with rfl | hc
  ·have h1:=zac p r c (d :: cs);have h2:=(Cg.refl p r).mul h0;have h3:=(h1.symm.trans h).sub h2;exact #[Rx].trans (h3.trans #[Rx])
  ·exact zhy (d :: cs) h0 (fun c hc=>hq c (ar _ hc)) c hc
theorem zkl {p a y:Int} (hp:p∈zG) (ha0:a % p≠0) (h:Cg p (a*y) 0):Cg p y 0:=by
 have rp:=zQ hp;have g0:=aQ a (show p≠0 by lia);have g1:=aK a (show 0 < p by lia);have hi:=zgg hp (h:=a % p) #[O] g1;have h1:Cg p (inv p (a % p)*(a % p)*y) (1*y):=hi.mul (Cg.refl p y);have h2:Cg p (inv p (a % p)*(a % p)*y) (inv p (a % p)*(a*y)):=by
  have:=((Cg.refl p (inv p (a % p))).mul (Cg.emod p a)).mul (Cg.refl p y);exact this.trans (Cg.of_eq (by grind))
 have h3:=(Cg.refl p (inv p (a % p))).mul h;exact #[Rx].trans (h1.symm.trans (h2.trans (h3.trans #[Rx])))
theorem zeV {p:Int} (hp:p∈zG):∀ (n:Nat) (d xs:List Int),d.length=n->n<=xs.length->xs.Nodup->(∀ x∈xs,0<=x/\x < p)->(∀ x∈xs,Cg p (zw p x d) 0)->∀ c∈d,Cg p c 0
 | 0,d,xs,hd,_,_,_,_,c,hc=>by
  rw [cp] at hd;subst hd;cases hc
 | n+1,d,[],hd,hx,_,_,_,c,hc=>by simp at hx
 | n+1,[],r :: xs,hd,hx,_,_,_,c,hc=>by cases hc
 | n+1,a :: cs,r :: xs,hd,hx,uU,C7,hz,c,hc=>by
  have rp:=zQ hp;obtain⟨r0,r1⟩:=C7 r aA;have hr:=hz r aA;refine zhy (a :: cs) hr (zeV hp n (quo p r (a :: cs)) xs (by rw [zjm]; simpa using hd) (by simpa using hx) (du.mp uU).2 (fun x h=>C7 x (ar _ h)) fun x h=>?_) c hc;obtain⟨x0,x1⟩:=C7 x (ar _ h);have oM:x≠r:=fun e=>(du.mp uU).1 (e ▸ h)
  have he:=zl1 (p:=p) (r:=r) (x:=x) (a :: cs);have h0:=(hz x (ar _ h)).sub hr;refine zkl hp (a:=x - r) (fun e=>?_) (he.symm.trans (h0.trans #[Rx]));have:Cg p x r:=by
   have h1:Cg p (x - r) 0:=Cg.N0 (by rw [e]; simp);have h2:=h1.add (Cg.refl p r);exact #[Rx].trans (h2.trans #[Rx])
  exact oM (this.eq x0 x1 r0 r1)
theorem zhz {p x:Int}:∀ {a b:List Int},a.length=b.length->Cg p (zw p x (aU (· - ·) a b)) (zw p x a - zw p x b)
 | [],[],_=>Cg.of_eq rfl
 | c :: a,d :: b,h=>by
  have ih:=zhz (p:=p) (x:=x) (a:=a) (b:=b) (by simpa using h);have h1:=zac p x c a;have h2:=zac p x d b;have h3:Cg p (zw p x (aU (· - ·) (c :: a) (d :: b))) (c - d+x*zw p x (aU (· - ·) a b)):=zac p x (c - d) _;refine h3.trans (((Cg.refl p (c - d)).add ((Cg.refl p x).mul ih)).trans (Cg.symm ((h1.sub h2).trans (Cg.of_eq (by grind)))))
 | [],_ :: _,h=>by simp at h
 | _ :: _,[],h=>by simp at h
theorem zhA {p:Int}:∀ {a b:List Int},a.length=b.length->(∀ c∈a,0<=c/\c < p)->(∀ c∈b,0<=c/\c < p)->(∀ c∈aU (· - ·) a b,Cg p c 0)->a=b
 | [],[],_,_,_,_=>rfl
 | c :: a,d :: b,h,ha,hb,hz=>by
  obtain⟨c0,c1⟩:=ha c aA;obtain⟨d0,d1⟩:=hb d aA;have h1:Cg p (c - d) 0:=hz _ aA;have h2:Cg p c d:=#[Rx].trans ((h1.add (Cg.refl p d)).trans #[Rx]);rw [h2.eq c0 c1 d0 d1,zhA (by simpa using h) (fun c hc=>ha c (ar _ hc)) (fun c hc=>hb c (ar _ hc)) (fun c hc=>hz c (ar _ hc))]
 | [],_ :: _,h,_,_,_=>by simp at h
 | _ :: _,[],h,_,_,_=>by simp at h
theorem zhB {p:Int} (hp:p∈zG) {a b xs:List Int} (hl:a.length=b.length) (hx:a.length<=xs.length) (uU:xs.Nodup) (C7:∀ x∈xs,0<=x/\x < p) (ha:∀ c∈a,0<=c/\c < p) (hb:∀ c∈b,0<=c/\c < p)
  (he:∀ x∈xs,zw p x a=zw p x b):a=b:=by
 refine zhA hl ha hb (zeV hp a.length _ xs (by rw [gu]; lia) hx uU C7 fun x h=>?_);refine (zhz hl).trans (Cg.of_eq ?_);rw [he x h];lia
theorem zoG {p:Int} (hp:p∈zG) (hP:Pts p pk) (hl:q.length=pk.length) (hq:∀ c∈q,0<=c/\c < p) (hh:∀ a∈pk,zw p a.1 q=a.2):q=thr p pk:=by
 obtain⟨h1,h2,h3⟩:=zii hp hP;refine zhB hp (xs:=pk.map (·.1)) #[O] (by rw [ae]; lia) hP.nd (fun x hx=>?_) hq h2 fun x hx=>?_
 ·obtain⟨a,ha,rfl⟩:=aZ.mp hx;exact⟨(hP.rg a ha).1,(hP.rg a ha).2.1⟩
 ·obtain⟨a,ha,rfl⟩:=aZ.mp hx;rw [hh a ha,h3 a ha]
theorem Pts.sub {p:Int} (h:Pts p mO) (hs:pk.Sublist mO):Pts p pk:=⟨(hs.map _).nodup h.nd,fun q hq=>h.rg q (hs.subset hq)⟩
theorem zjn {α:Type} {xs:List α}:∀ {m:Nat} {c:Nat×List α},c∈chs xs m->c.2.Sublist (xs.take c.1)/\c.2.length=m/\c.1<=xs.length
 | 0,c,h=>by
  unfold chs at h;rw [aW] at h;subst h;exact⟨fU _,rfl,bg _⟩
 | m+1,c,h=>by
  unfold chs at h;obtain⟨c',hm,hc⟩:=eI.mp h;obtain⟨h1,h2,h3⟩:=zjn hm;unfold nxt at hc;obtain⟨j,hj,rfl⟩:=aZ.mp hc
  (have uF:=bN.mp hj)
  have mW:c'.1+j < xs.length:=by lia
  have e:xs[c'.1+j]? = some xs[c'.1+j]:=aF mW;dsimp only;rw [e];refine⟨?_,by rw [aH,h2]; rfl,#[O]⟩;rw [take_snoc e];refine List.Sublist.append (h1.trans ?_) (List.Sublist.refl _);have:xs.take c'.1=(xs.take (c'.1+j)).take c'.1:=by rw [List.take_take]; congr 1; lia
  rw [this];exact cI _ _
theorem sub_one {α:Type} {l:List α} {x:α} (h:l.Sublist [x]):l = []\/l = [x]:=by
 cases h with
 | cons _ h=>exact .inl (fV.mp h)
 | cons_cons _ h=>exact .inr (by rw [fV.mp h])
theorem zen {α:Type} {xs:List α}:∀ {m n:Nat} {pk:List α},pk.Sublist (xs.take n)->pk.length=m->∃ s,s<=n/\(s,pk)∈chs xs m
 | 0,n,pk,h,hl=>by
  rw [cp] at hl;subst hl;exact⟨0,bg _,by unfold chs; exact aW.mpr rfl⟩
 | m+1,0,pk,h,hl=>by
  rw [gJ] at h;rw [fV.mp h] at hl;simp at hl
 | m+1,n+1,pk,h,hl=>by
  cases e:xs[n]? with
  | none =>
   have:xs.take (n+1)=xs.take n:=by
    have:=List.getElem?_eq_none_iff.mp e;rw [bj #[O],bj this]
   rw [this] at h;obtain⟨s,h1,h2⟩:=zen (m:=m+1) (n:=n) h hl;exact⟨s,#[O],h2⟩
  | some x =>
   rw [take_snoc e] at h;obtain⟨l1,l2,rfl,h1,h2⟩:=List.sublist_append_iff.mp h;rcases (sub_one h2) with rfl | rfl
   ·rw [cv] at hl |-;obtain⟨s,a1,a2⟩:=zen (m:=m+1) (n:=n) h1 hl;exact⟨s,#[O],a2⟩
   ·obtain⟨s,a1,a2⟩:=zen (m:=m) (n:=n) h1 (by simpa using hl);refine⟨n+1,ai _,?_⟩;unfold chs;refine eI.mpr ⟨(s,l1),a2,?_⟩;have mW:=(aj.mp e).1;unfold nxt;refine aZ.mpr ⟨n - s,bN.mpr (by show n - s < xs.length - s; lia),?_⟩;have es:s+(n - s)=n:=by lia
    dsimp only;rw [es,e];rfl
theorem zeo {α:Type} {xs pk:List α} {m:Nat}:pk∈#[SU].map (·.2)↔pk.Sublist xs/\pk.length=m:=by
 constructor
 ·intro h;obtain⟨c,hc,rfl⟩:=aZ.mp h;obtain⟨h1,h2,h3⟩:=zjn hc;exact⟨h1.trans (cI _ _),h2⟩
 ·rintro⟨h1,h2⟩;obtain⟨s,_,hs⟩:=zen (xs:=xs) (n:=xs.length) (by rw [bt]; exact h1) h2;exact aZ.mpr ⟨_,hs,rfl⟩
noncomputable def hit (p:Int) (q:List Int) (a:Int×Int):Bool:=decide (zw p a.1 q=a.2)
noncomputable def hits (p:Int) (q:List Int) (mO:List (Int×Int)):Nat:=(mO.filter #[W2]).length
noncomputable def IsP (p:Int) (k:Nat) (q:List Int):Prop:=q.length=k/\∀ c∈q,0<=c/\c < p
theorem zdg {p:Int} (hp:p∈zG) (hP:Pts p mO) {t n:Nat} (hq:IsP p k q) (hk:k<=t) (hn:mO.length<=n+(t - k)) (ht:t<=hits p q mO) :
  ∃ pk,pk∈(chs #[Vc] k).map (·.2)/\q=thr p pk:=by
 have Ij:hits p q mO=(#[Vc].filter #[W2]).length+((mO.drop n).filter #[W2]).length:=by
  unfold hits
  conv=>lhs; rw [<- jg n mO]
  rw [cD,aH]
 have hd:=cW #[W2] (mO.drop n);rw [cB] at hd;have uO:k<=(#[Vc].filter #[W2]).length:=by lia
 have hs:((#[Vc].filter #[W2]).take k).Sublist #[Vc]:=(cI _ _).trans (List.filter_sublist);have hl:((#[Vc].filter #[W2]).take k).length=k:=by rw [aI]; lia
 refine⟨_,zeo.mpr ⟨hs,hl⟩,zoG hp (hP.sub (hs.trans (cI _ _))) (by rw [hl]; exact hq.1) hq.2 fun a ha=>?_⟩;have:=(cL.mp ((cI _ _).subset ha)).2;simpa [hit] using this
theorem zjo {p:Int} (hp:p∈zG) (hP:Pts p mO) (h:pk∈(chs mO k).map (·.2)):IsP p k (thr p pk):=by
 obtain⟨h1,h2⟩:=zeo.mp h;obtain⟨a,b,_⟩:=zii hp (hP.sub h1);exact⟨a.trans h2,b⟩
noncomputable def mX:List Int->List #[Ch]->List (Int×Int)
 | x :: pl,some y :: rw=>(x,y) :: mX pl rw
 | _ :: pl,none :: rw=>mX pl rw
 | _,_=>[]
theorem zdp:∀ {pl:List Int} {rw:List #[Ch]} {i:Nat} {x:Int} {o:Option Int},pl[i]? = some x->rw[i]? = some o->mX (pl.take (i+1)) (rw.take (i+1))=mX (pl.take i) (rw.take i)++(match o with | some y=>[(x,y)] | none=>[])
 | [],_,i,x,o,h,_=>by simp at h
 | _ :: _,[],i,x,o,_,h=>by simp at h
 | a :: pl,b :: rw,0,x,o,h1,h2=>by
  simp only [dW,fA] at h1 h2;subst h1 h2;cases b <;> rfl
 | a :: pl,b :: rw,i+1,x,o,h1,h2=>by
  rw [cn] at h1 h2;have ih:=zdp h1 h2;cases b with
  | none=>exact ih
  | some y =>
   show (a,y) :: mX (pl.take (i+1)) (rw.take (i+1))=(a,y) :: mX (pl.take i) (rw.take i)++_;rw [ih];rfl
theorem zdq:∀ (pl:List Int) (rw:List #[Ch]),#[FM].length<=pl.length
 | [],rw=>by unfold mX; simp
 | a :: pl,[]=>by unfold mX; simp
 | a :: pl,none :: rw=>by
  have:=zdq pl rw;show #[FM].length<=pl.length+1;lia
 | a :: pl,some y :: rw=>by
  have:=zdq pl rw;show #[FM].length+1<=pl.length+1;lia
theorem zcR:∀ {pl:List Int} {rw:List #[Ch]} {a:Int×Int},a∈mX pl rw->a.1∈pl/\some a.2∈rw
 | [],_,a,h=>by unfold mX at h; cases h
 | _ :: _,[],a,h=>by unfold mX at h; cases h
 | x :: pl,none :: rw,a,h=>by
  obtain⟨h1,h2⟩:=zcR (pl:=pl) (rw:=rw) h;exact⟨ar _ h1,ar _ h2⟩
 | x :: pl,some y :: rw,a,h=>by
  rcases (av.mp h) with rfl | h
  ·exact⟨aA,aA⟩
  ·obtain⟨h1,h2⟩:=zcR (pl:=pl) (rw:=rw) h;exact⟨ar _ h1,ar _ h2⟩
theorem zgt:∀ (pl:List Int) (rw:List #[Ch]),(#[FM].map (·.1)).Sublist pl
 | [],_=>by unfold mX; exact fU _
 | _ :: _,[]=>by unfold mX; exact fU _
 | x :: pl,none :: rw=>(zgt pl rw).cons _
 | x :: pl,some y :: rw=>(zgt pl rw).cons_cons _
theorem zep {p:Int} (h1:pl.Nodup) (h2:∀ x∈pl,0<=x/\x < p) (h3:∀ z,some z∈rw->0<=z/\z < p):Pts p #[FM] :=
 ⟨(zgt pl rw).nodup h1,fun q hq=>⟨(h2 _ (zcR hq).1).1,(h2 _ (zcR hq).1).2,(h3 _ (zcR hq).2).1,(h3 _ (zcR hq).2).2⟩⟩
theorem zhC {p:Int} {pl:List Int} {rw:List #[Ch]} {q:List Int} (hl:rw.length=pl.length):∀ n,n<=pl.length->(zdm p pl rw q n).length=hits p q (mX (pl.take n) (rw.take n))
 | 0,_=>by simp [zdm,hits,mX]
 | n+1,hn=>by
  have ih:=zhC (p:=p) (q:=q) hl n #[O];have e1:pl[n]? = some pl[n]:=aF #[O];have e2:rw[n]? = some rw[n]:=aF #[O];rw [zfS,aH,ih,zdp e1 e2];unfold hits;rw [cD,aH];congr 1;unfold zcz;rw [e1,e2];cases rw[n] with
  | none=>rfl
  | some y =>
   show (if decide (y=zw p pl[n] q)=true then [(n:Int)] else []).length=([(pl[n],y)].filter #[W2]).length;by_cases e:y=zw p pl[n] q
   ·rw [fm (by simp [hit,e])];simp [e]
   ·rw [fo (by simp [hit]; exact fun z=>e z.symm)];simp [e]
theorem zjp {p:Int} (hl:rw.length=pl.length):(zdm p pl rw q pl.length).length=hits p q #[FM]:=by
 have:=zhC (p:=p) (q:=q) hl pl.length (ai _);rw [bt,bj #[O]] at this;exact this
noncomputable def zdQ (p:Int) (k:Nat) (qs:List #[GT]):Prop:=(∀ q∈qs,IsP p k q)/\qs.Pairwise fun a b=>Srt.num p a < Srt.num p b
theorem zjq {B:Int} (hB:1<=B):∀ {a b:List Int},a.length=b.length->(∀ n∈a,0<=n/\n < B)->(∀ n∈b,0<=n/\n < B)->Srt.num B a=Srt.num B b->a=b
 | [],[],_,_,_,_=>rfl
 | c :: a,d :: b,h,ha,hb,e=>by
  have h':a.length=b.length:=by simpa using h
  have ra:=Srt.Mm hB (ns:=a) fun n hn=>ha n (ar _ hn)
  have rb:=Srt.Mm hB (ns:=b) fun n hn=>hb n (ar _ hn)
  have e':c*B ^ a.length+Srt.num B a=d*B ^ b.length+Srt.num B b:=e;rw [<- h'] at e' rb;generalize B ^ a.length=M at e' ra rb;have hM:0 < M:=by lia
  have t9:c=d:=by
   have e2:(c - d)*M=Srt.num B b - Srt.num B a:=by
    rw [Int.sub_mul];lia
   rcases (kJ c d) with mW | heq | hgt
   ·have:(c - d)*M<=(-1)*M:=db #[O] #[O];lia
   ·exact heq
   ·have:1*M<=(c - d)*M:=db #[O] #[O];lia
  subst t9;rw [zjq hB h' (fun n hn=>ha n (ar _ hn)) (fun n hn=>hb n (ar _ hn)) #[O]]
 | [],_ :: _,h,_,_,_=>by simp at h
 | _ :: _,[],h,_,_,_=>by simp at h
theorem zjr {p:Int} (hp:1<=p) (h1:∀ q∈qs,IsP p k q) (h2:qs.Nodup) (h3:qs.Pairwise fun a b=>Srt.num p a<=Srt.num p b):zdQ p k qs:=by
 refine⟨h1,?_⟩;have h4:=h3.and h2;refine iB (fun {a b} ha hb h=>?_) h4;have oM:Srt.num p a≠Srt.num p b:=fun e=>h.2 (zjq hp ((h1 a ha).1.trans (h1 b hb).1.symm) (h1 a ha).2 (h1 b hb).2 e)
 have:=h.1;lia
theorem zdQ.tail {p:Int} (h:zdQ p k (q :: qs)):zdQ p k qs:=⟨fun x hx=>h.1 x (ar _ hx),(fb.mp h.2).2⟩
theorem zjs {p:Int} {k:Nat}:∀ {as bs:List #[GT]},zdQ p k as->zdQ p k bs->(∀ q,q∈as↔q∈bs)->as=bs
 | [],[],_,_,_=>rfl
 | [],b :: bs,_,_,h=>by
  have:=(h b).mpr aA;cases this
 | a :: as,[],_,_,h=>by
  have:=(h a).mp aA;cases this
 | a :: as,b :: bs,ha,hb,h=>by
  have pa:=(fb.mp ha.2).1;have pb:=(fb.mp hb.2).1;have e:a=b:=by
   rcases (av.mp ((h a).mp aA)) with e | ma
   ·exact e
   ·rcases (av.mp ((h b).mpr aA)) with e | mb
    ·exact e.symm
    ·have:=pb a ma;have:=pa b mb;lia
  subst e;rw [zjs ha.tail hb.tail fun q=>?_];have hq:=h q;rw [av,av] at hq;constructor
  ·intro m;rcases (hq.mp (.inr m)) with rfl | z
   ·exact absurd (pa q m) #[O]
   ·exact z
  ·intro m;rcases (hq.mpr (.inr m)) with rfl | z
   ·exact absurd (pb q m) #[O]
   ·exact z
theorem zdQ.filter {p:Int} (f:List Int->Bool) (h:zdQ p k qs):zdQ p k (qs.filter f):=⟨fun q hq=>h.1 q (cL.mp hq).1,h.2.filter f⟩
theorem zm9 {α β:Type} (f:α->β) (xs:List α) (c:Nat×List α):nxt #[Xo] (c.1,c.2.map f)=(nxt xs c).map fun d=>(d.1,d.2.map f):=by
 unfold nxt;rw [bx,ae];refine cf fun j _=>?_
 show (c.1+j+1,c.2.map f++#[Xo][c.1+j]?.toList)=(c.1+j+1,(c.2++xs[c.1+j]?.toList).map f);rw [ao,aw];cases xs[c.1+j]? <;> rfl
theorem zgu {α β:Type} (f:α->β) (xs:List α):∀ m,chs #[Xo] m=#[SU].map fun d=>(d.1,d.2.map f)
 | 0=>rfl
 | m+1=>by
  show (chs #[Xo] m).flatMap (nxt #[Xo])=(#[SU].flatMap (nxt xs)).map _;rw [zgu f xs m,kY,kZ];congr 1;funext c;exact zm9 f xs c
theorem zfZ {α β:Type} (f:α->β) (xs:List α) (m:Nat):(chs #[Xo] m).map (·.2)=(#[SU].map (·.2)).map (·.map f):=by
 rw [zgu,bx,bx];rfl
noncomputable def PtB (H:Hp):List Addr->List (Int×Int)->Prop:=Paired fun b q=>H b=some (.tup [.int q.1,.int q.2])
theorem PtB.same (s:zy H H') {bs:List Addr} (h:PtB H bs mO):PtB H' bs mO:=gO #[Up] h
theorem PtB.zs {H:Hp}:∀ {bs:List Addr} {mO:List (Int×Int)},PtB H bs mO->∃ zs:List (Addr×Int×Int),bs=zs.map (·.1)/\mO=zs.map (·.2)/\∀ z∈zs,H z.1=some (.tup [.int z.2.1,.int z.2.2])
 | _,_,.nil=>⟨[],rfl,rfl,#[M]⟩
 | _,_,.cons (a:=b) (b:=q) r t=>by
  obtain⟨zs,h1,h2,h3⟩:=PtB.zs t;refine⟨(b,q) :: zs,by rw [h1]; rfl,by rw [h2]; rfl,fun z hz=>?_⟩;rcases (av.mp hz) with rfl | hz
  ·exact r
  ·exact h3 z hz
theorem PtB.take {bs:List Addr} (h:PtB H bs mO) (n:Nat):PtB H (bs.take n) #[Vc]:=by
 induction h generalizing n with
 | nil=>rw [lU,lU]; exact .nil
 | cons r t ih =>
  cases n with
  | zero=>exact .nil
  | succ n=>exact .cons r (ih n)
noncomputable def zaK (H:Hp):List Addr->List #[GT]->Prop:=Paired fun r q=>H r=some (.tup (q.map V.int))
theorem zaK.same (s:zy H H') (h:zaK H rs qs):zaK H' rs qs:=gO #[Up] h
theorem zaK.of {H:Hp}:∀ {ps:List (Addr×List Int)},(∀ q∈ps,H q.1=some (.tup (q.2.map V.int)))->zaK H (ps.map (·.1)) (ps.map (·.2))
 | [],_=>.nil
 | a :: ps,h=>.cons (h a aA) (zaK.of fun q hq=>h q (ar _ hq))
theorem zl2 {κ:Type} [DecidableEq κ] (mI:List (κ×V)) (k:κ) (v:V):#[T5].map (·.1)=if k∈mI.map (·.1) then mI.map (·.1) else mI.map (·.1)++[k]:=by
 unfold putK;by_cases h:(mI.any fun kv=>decide (kv.1=k))=true
 ·rw [if_pos h];obtain⟨kv,h1,h2⟩:=dQ.mp h;have h2:kv.1=k:=by simpa using h2
  rw [if_pos (by rw [<- h2]; exact dU h1),bx];refine cf fun a _=>?_
  show (if a.1=k then (a.1,v) else a).1=a.1;split <;> rfl
 ·rw [if_neg h];rw [if_neg (fun hm=>h ?_),aw]
  ·rfl
  ·obtain⟨kv,h1,h2⟩:=aZ.mp hm;exact dQ.mpr ⟨kv,h1,by simpa using h2⟩
theorem zna {a b:List Int} (h:(a.map cN:List Key)=b.map cN):a=b:=by
 induction a generalizing b with
 | nil=>cases b with
  | nil=>rfl
  | cons _ _=>simp at h
 | cons x a ih=>cases b with
  | nil=>simp at h
  | cons y b =>
   rw [bc,bc] at h;obtain⟨h1,h2⟩:=jF h;rw [mf h1,ih h2]
noncomputable def KeysAre (mI:List (List Key×V)) (nB:List #[GT]):Prop:=mI.map (·.1)=nB.map (·.map cN)
theorem zhD {nB:List #[GT]} (h:KeysAre mI nB) (hn:nB.Nodup) (q:List Int) (v:V):∃ uV,KeysAre (putK mI (q.map cN) v) uV/\uV.Nodup/\uV.length<=nB.length+1/\∀ x,x∈uV↔x∈nB\/x=q:=by
 unfold KeysAre at h |-;rw [zl2,h];have hm:(q.map cN:List Key)∈nB.map (·.map cN)↔q∈nB:=by
  constructor
  ·intro hm;obtain⟨x,hx,e⟩:=aZ.mp hm;rw [<- zna e];exact hx
  ·intro hm;exact dU hm
 by_cases hq:q∈nB
 ·refine⟨nB,by rw [if_pos (hm.mpr hq)],hn,#[O],fun x=>⟨.inl,fun z=>z.elim id fun e=>e ▸ hq⟩⟩
 ·refine⟨nB++[q],by rw [if_neg fun z=>hq (hm.mp z),aw]; rfl,?_,by rw [aH]; exact ai _,fun x=>by rw [aC,aW]⟩;rw [fu];exact⟨hn,#[M],fun a ha b hb e=>hq (by rw [<- aW.mp hb,<- e]; exact ha)⟩
noncomputable def znb (K:af):Sp:=fun vs H Q _=>∃ (c tt r:Addr) (p k:Int) (pl:List Int) (rw:List #[Ch]),vs = [.ref c,.ref r]/\zaH H c tt p k pl/\Qv K H r pl.length rw/\pl.length<=1000 /\
 ∀ (l:Addr) (bs:List Addr) (H':Hp),H l=none->zy H H'->H' l=some (.lst #[Uo])->PtB H' bs #[FM]->Q #[Su] H'
theorem zb4 {α β:Type} {F:α->β->Prop}:∀ {a:List α} {b:List β} {c:List α} {d:List β},Paired F a b->Paired F c d->Paired F (a++c) (b++d)
 | _,_,_,_,.nil,h=>h
 | _,_,_,_,.cons r t,h=>.cons r (zb4 t h)
noncomputable def zkm (H:Hp):List Addr->List #[GT]->Prop:=Paired fun l c=>H l=some (.lst (c.map V.int))
theorem zkm.same (s:zy H H') {ls:List Addr} {cs:List #[GT]} (h:zkm H ls cs):zkm H' ls cs:=gO #[Up] h
noncomputable def zl3 (K:af):Nat->Sp
 | 0=>fun _ _ _ _=>False
 | m+1=>fun vs H Q _=>∃ (a:Addr) (ns:List Int),vs = [.ref a,.int (m:Int)]/\mB K H a #[wS]/\ns.length<=16/\m<=100 /\
  ∀ (l:Addr) (ls:List Addr) (cs:List #[GT]) (H':Hp),H l=none->zy H H'->H' l=some #[VC]->zkm H' ls cs->cs.length<=2 ^ ns.length->(∀ c,c∈cs↔c.Sublist ns/\c.length=m)->Q #[Su] H'
theorem zkn {α:Type} {xs:List α} {m:Nat} {c:List α}:(c.Sublist xs/\c.length=m+1)↔∃ (j:Nat) (x:α) (c':List α),j < xs.length/\xs[j]? = some x/\c=x :: c'/\c'.Sublist (xs.drop (j+1))/\c'.length=m:=by
 constructor
 ·rintro⟨h,hl⟩;cases c with
  | nil=>simp at hl
  | cons x c' =>
   have go:∀ {xs:List α},(x :: c').Sublist xs->∃ j,j < xs.length/\xs[j]? = some x/\c'.Sublist (xs.drop (j+1)):=by
    intro xs h;induction xs with
    | nil=>exact absurd (fV.mp h) #[M]
    | cons y ys ih =>
     cases h with
     | cons _ h =>
      obtain⟨j,h1,h2,h3⟩:=ih h;exact⟨j+1,by rw [bh]; lia,by rw [cn]; exact h2,by rw [List.drop_succ_cons]; exact h3⟩
     | cons_cons _ h=>exact⟨0,by rw [bh]; lia,rfl,h⟩
   obtain⟨j,h1,h2,h3⟩:=go h;exact⟨j,x,c',h1,h2,rfl,h3,by simpa using hl⟩
 ·rintro⟨j,x,c',h1,h2,rfl,h3,h4⟩;refine⟨?_,by rw [bh,h4]⟩;have e:=zco h2;rw [e];exact (h3.cons_cons x).trans (List.sublist_append_right _ _)
noncomputable def zd4 (p:Int) (q:List Int):List #[GT]:=(bd p.toNat).map fun n:Nat=>q++[(n:Int)]
theorem zko (p:Int) (q:List Int):(zd4 p q).length=p.toNat:=by unfold zd4; rw [ae,cg]
theorem zl4 {p:Int} {i:Nat} {q':List Int}:IsP p (i+1) q'↔∃ q,IsP p i q/\q'∈zd4 p q:=by
 constructor
 ·rintro⟨h1,h2⟩;have oM:q'≠[]:=fun e=>by rw [e] at h1; simp at h1
  (have e:=gK oM)
  refine⟨q'.dropLast,⟨by rw [ju]; lia,fun c hc=>h2 c (List.dropLast_subset _ hc)⟩,?_⟩;obtain⟨b0,b1⟩:=h2 _ (List.getLast_mem oM);unfold zd4;refine aZ.mpr ⟨(q'.getLast oM).toNat,bN.mpr #[O],?_⟩;rw [show (((q'.getLast oM).toNat:Nat):Int)=q'.getLast oM by lia];exact e
 ·rintro⟨q,⟨h1,h2⟩,h⟩;unfold zd4 at h;obtain⟨n,hn,rfl⟩:=aZ.mp h;have:=bN.mp hn;refine⟨by rw [aH,h1]; rfl,fun c hc=>?_⟩;rcases (aC.mp hc) with hc | hc
  ·exact h2 c hc
  ·rw [aW.mp hc];lia
theorem zl5 {p:Int} {i:Nat} (h:∀ q,q∈qs↔IsP p i q):∀ q,q∈qs.flatMap (zd4 p)↔IsP p (i+1) q:=fun q=>by
 rw [eI,zl4];constructor
 ·rintro⟨a,h1,h2⟩;exact⟨a,(h a).mp h1,h2⟩
 ·rintro⟨a,h1,h2⟩;exact⟨a,(h a).mpr h1,h2⟩
theorem zdr {p:Int}:∀ qs:List #[GT],(qs.flatMap (zd4 p)).length=qs.length*p.toNat
 | []=>by simp
 | q :: qs=>by
  rw [fz,aH,zko,zdr qs,bh,Nat.succ_mul];lia
noncomputable def zl6 (K:af):Sp:=fun vs H Q _=>∃ (p:Int) (k:Nat),vs = [.int p,.int (k:Int)]/\0 < p/\p<=97/\k<=2 /\
 ∀ (l:Addr) (rs:List Addr) (qs:List #[GT]) (H':Hp),H l=none->zy H H'->H' l=some #[o0]->zaK H' rs qs->qs.length<=10000->(∀ q,q∈qs↔IsP p k q)->Q #[Su] H'
end My
end
section
namespace L2
open PySem PySem.Spec PyProof.Rows
variable {H:Hp} {K:af} {X:Cx} {ep:Nat} {h:Heap} {mI:List (List Key×V)} {mq:List (Addr×Obj)} {s:Shared} {tg:Expr} {w:World}
noncomputable def Itd (d:Addr) (o:Obj) (mI:List (List Key×V)):It :=
 ⟨fun i H=>H d=some #[R9]/\i < mI.length,fun i H x H'=>H'=H/\∃ a k,x = .ref a/\(mI.map (·.1))[i]? = some k/\H a=some #[T7],fun i H=>H d=some #[R9]/\mI.length<=i⟩
theorem zl7 {P:Program} {d:Addr} {o:Obj} {es:Array DictEntry} (hd:o.data = .dict es ep) (x:zW P w H h d #[R9]) :
  zeb h d es ep/\es.size=mI.length/\∀ (i:Nat) (e:DictEntry),es[i]? = some e->∃ a k,e.key = .ref a/\(mI.map (·.1))[i]? = some k/\H a=some #[T7]:=by
 obtain⟨ho,_,_,xs,hp,o',es',Gg,uL,hx,he,vP,uU⟩:=x;have e1:o'=o:=by rw [ho] at uL; exact (aN uL).symm
 subst e1;rw [he] at hd;cases hd;have hl:es.toList.length=mI.length:=by rw [vP,ae]; exact (fL hp).symm
 refine⟨⟨o',ho,hx,he⟩,by simpa using hl,fun i e h=>?_⟩;have h':es.toList[i]? = some e:=by rw [bG]; exact h
 rw [vP,ao] at h';cases Be:xs[i]? with
 | none=>rw [Be] at h'; cases h'
 | some x =>
  rw [Be] at h';have Bf:e=entryOfKey #[RN] x:=(aN h').symm;have key:∀ {mI:List (List Key×V)} {xs:List (List Key×Addr×Value)},Paired (fun (p:List Key×V) (q:List Key×Addr×Value)=>p.1=q.1/\H q.2.1=some (.tup (p.1.map kV))/\RelV p.2 q.2.2) mI xs->∀ (i:Nat) x,xs[i]? = some x->∃ p,mI[i]? = some p/\H x.2.1=some (.tup (p.1.map kV)):=by
   intro mI xs hp;induction hp with
   | nil=>intro i x h; simp at h
   | cons h1 _ ih =>
    intro i x h;cases i with
    | zero =>
     (simp only [dW,fA] at h)
     subst h;exact⟨_,rfl,h1.2.1⟩
    | succ i =>
     rw [cn] at h;obtain⟨p,hp,hh⟩:=ih i x h;exact⟨p,by rw [cn]; exact hp,hh⟩
  obtain⟨p,sW,hh⟩:=key hp i x Be;exact⟨x.2.1,p.1,by rw [Bf]; rfl,by rw [ao,sW]; rfl,hh⟩
theorem znc {P:Program} (d it:Addr) (o:Obj) (mI:List (List Key×V)) (es:Array DictEntry) (ep:Nat) (hd:o.data = .dict es ep):Turn P w K tg (Itd d o mI) [it] it (fun i h=>h.IsKeyIter it d i es.size ep) where
 mem:=by simp
 obj:=fun i h st b hb=>by
  have e:b=it:=by simpa using hb
  subst e;obtain⟨o,e,c,d⟩:=st;exact⟨o,e,fun v z=>by rw [d] at z; cases z⟩
 keep:=fun i h h' st k=>st.at fun o e=>k it #[M] o e
 item:=by
  intro X hP hw hK hc i mq s σ H E I hf st hg;subst hP hw hK;obtain⟨hq,hi⟩:=hg;obtain⟨yH,hsz,vR⟩:=zl7 hd (I.hok d _ hq);have pM:i < es.size:=by lia
  obtain⟨a,k,he,hk,ha⟩:=vR i es[i] (getElem?_pos es i pM);obtain⟨f0,f1,f2,f3,f4,f5⟩:=hf it #[M];refine zht st yH (getElem?_pos es i pM) fun h' mP sb=>?_
  have I1:Inv X mq σ H { s with heap:=h' }:=I.turned (t':=s.toks) (fun b o hb e=>(sb.2 b hb).trans e) f0 f1 f3 f4 f5;obtain⟨o,e,c,d⟩:=id mP;exact⟨_,rfl,zfv (s:={ s with heap:=h' }) e c d #[D] ⟨.ref a,H,I1,by rw [he]; rfl,⟨rfl,a,k,rfl,hk,ha⟩,mP,fun b hb=>#[W3].1⟩⟩
 done:=by
  intro X hP hw hK hc i mq s σ H E I hf st hg;subst hP hw hK;obtain⟨hq,hi⟩:=hg;obtain⟨yH,hsz,vR⟩:=zl7 hd (I.hok d _ hq);obtain⟨f0,f1,f2,f3,f4,f5⟩:=hf it #[M];exact zjh #[Rq] st yH #[O] fun h' eb=>#[ss]
 self:=fun _ _ _ _ _ st h=>jA st h
theorem Inv.QQ {σ:St} {d:Addr} {o:Obj} (I:Inv X mq σ H s) (hd:H d=some #[Vp]) (ho:s.heap.get? d=some o):Inv X mq σ (mz H d #[R9]) s:=by
 have ne:∀ b u,H b=some u->(∀ k,u≠.dT k)->b≠d:=fun b u e n z=>by subst z; rw [hd] at e; exact n mI (aN e).symm
 have nn:∀ b,H b=none->b≠d:=fun b e z=>by subst z; rw [hd] at e; cases e
 have up:∀ b,H b=none->mz H d #[R9] b=none:=fun b e=>by rw [zg (nn b e)]; exact e
 refine⟨I.ok,I.os,I.bare,⟨I.base.keep,I.base.slot,fun b u e n hx=>up b (I.base.free b u e n hx),I.base.there,fun b xs e=>?_,fun b u xs e=>?_,fun b ps e=>?_⟩,I.loc,I.cell,up _ I.free,fun x c e=>up _ (I.KH x c e),fun p sW=>?_,fun b u e=>?_,I.len⟩
 ·have:=I.base.MD b xs e;rw [zg (ne b _ this fun k z=>by cases z)];exact this
 ·have:=I.base.MS b u xs e;rw [zg (ne b _ this fun k z=>by cases z)];exact this
 ·obtain⟨more,q⟩:=I.base.MV b ps e;exact⟨more,by rw [zg (ne b _ q fun k z=>by cases z)]; exact q⟩
 ·obtain⟨a1,a2,a3⟩:=I.pin p sW;exact⟨a1,up _ a2,a3⟩
 ·have Nm:∀ {u:HO} {b:Addr},zW X.prog X.w H s.heap b u->zW X.prog X.w (mz H d #[R9]) s.heap b u:=fun {u b} x=>x.Nm (fun c v _ q=>q) (fun c q=>by rw [zg (ne c _ q fun k z=>by cases z)]; exact q) fun c xs q=>by rw [zg (ne c _ q fun k z=>by cases z)]; exact q
  by_cases hb:b=d
  ·subst hb;rw [zb] at e;cases e;exact⟨ho,Nm (I.hok b _ hd)⟩
  ·rw [zg hb] at e;exact Nm #[Vt]
noncomputable def iDT (tl:TE):TI:=fun σ H R=>tl σ H fun x H1=>∃ d mI,x = .ref d/\H1 d=some #[Vp]/\∀ o,R (Itd d o mI) (mz H1 d #[R9])
theorem zpw {X:Cx} {tg l:Expr} {tl:TE} (hl:PE X l tl):PI X tg l (iDT tl):=by
 intro mq s σ H R I h;refine thn #[Vz] fun v s1 ⟨x,H1,I1,r1,q1⟩=>?_
 obtain⟨d,mI,e,hd,q⟩:=q1;subst e;cases r1;obtain⟨hz,hs,xs,hp,o,es,ep,ho,hx,he,vP,uU⟩:=I1.hok d _ hd;have I2:=I1.QQ hd ho;refine zhs (es:=es) (ep:=ep) hs ⟨o,ho,hx,he⟩ ?_;refine⟨s1.heap.objs.size,[s1.heap.objs.size],_,_,_,rfl,I2.kept (t':=s1.toks) fun b o e=>ah _ e,znc d _ o mI es ep he,⟨_,az _ rfl,rfl,rfl⟩,fun b hb=>?_,q o⟩;have e:b=s1.heap.objs.size:=by simpa using hb
 subst e;exact I2.Nv (ai _) (I2.hok.fresh (ai _))
noncomputable def zoH (K:af):R2:=fun x y H Q=>∃ a b xs ys,x = .ref a/\y = .ref b/\mK K H a xs/\mK K H b ys/\ys≠[]/\xs.length+ys.length<=sizeLine /\
 (xs = []->Q (.ref b) H)/\(xs≠[]->∀ p,H p=none->Q (.ref p) (mz H p (.tup (xs++ys))))
theorem zkp {X:Cx} {K:af} (hK:X.K=K):OpR X #[VM] (zoH K):=by
 subst hK;intro mq s σ H x y v u Q I rx ry h;obtain⟨a,b,xs,ys,rfl,rfl,ha,hb,hy,hz,q1,q2⟩:=h;by_cases hx:xs = []
 ·cases rx;cases ry;obtain⟨mC,r1,p1,_⟩:=I.tuple ha;obtain⟨nA,r2,p2,_⟩:=I.tuple hb;obtain⟨⟨cls,dd,data,sl⟩,ho,hc,n,hd⟩:=id p1;obtain⟨⟨Hm,Gj,data2,AD⟩,vN,BY,n2,hd2⟩:=id p2;simp only at hc hd BY hd2;subst hc hd BY hd2;exact j6 ⟨_,ho,rfl⟩ ⟨_,vN,rfl⟩ iq jD fJ fk (eW _ _)
   (tuple_addW0 a b mC.toArray nA.toArray n n2 dd Gj sl AD (by simp [r1.MY.mpr hx])) ⟨ho,vN,⟨.ref b,H,I,rfl,q1 hx⟩⟩
 ·exact zmI mq s σ H _ _ v u Q I rx ry ⟨a,b,xs,ys,rfl,rfl,ha,hb,hx,hz,fun z=>absurd z hy,fun _=>q2 hx⟩
end L2
end
section
namespace My
open PySem L2 PyProof.Rows
variable {H:Hp} {K:af} {X:Cx} {k:Nat} {mO:List (Int×Int)} {pl q:List Int} {rw:List #[Ch]} {z:Int}
theorem zeW {st:Stmt} {ts:TS} (h:PS X st ts):PS X st (fun D σ H=>∃ Pv:L2.St->Hp->Prop,ts { D with nx:=Pv } σ H/\∀ σ' H',Pv σ' H'->D.nx σ' H'):=by
 intro mq s σ H D I hq;obtain⟨Pv,h1,h2⟩:=hq;refine thn (h mq s σ H _ I h1) fun f s1 q=>?_
 cases f with
 | next =>
  obtain⟨σ',H',I',p⟩:=q;exact⟨σ',H',I',h2 _ _ p⟩
 | ret v=>exact q
 | brk=>exact q
 | cont=>exact q
theorem zaK.zs {H:Hp}:∀ {us:List Addr} {qs:List #[GT]},zaK H us qs->∃ ps:List (Addr×List Int),us=ps.map (·.1)/\qs=ps.map (·.2)/\∀ q∈ps,H q.1=some (.tup (q.2.map V.int))
 | _,_,.nil=>⟨[],rfl,rfl,#[M]⟩
 | _,_,.cons (a:=b) (b:=q) r t=>by
  obtain⟨zs,h1,h2,h3⟩:=zaK.zs t;refine⟨(b,q) :: zs,by rw [h1]; rfl,by rw [h2]; rfl,fun z hz=>?_⟩;rcases (av.mp hz) with rfl | hz
  ·exact r
  ·exact h3 z hz
theorem zl8 {a:Addr} {o:HO}:zy (hide H a) #[Ti]:=fun b u e=>by
 unfold hide at e;by_cases hb:b=a
 ·rw [if_pos hb] at e; cases e
 ·rw [if_neg hb] at e;rw [zg hb];exact e
theorem PtB.pts {a:Addr} {bs:List Addr} (ha:H a=some (.lst #[Uo])) (h:PtB H bs mO):zi4 K H a mO:=by
 refine⟨bs,mB.of ha,h.length,fun i b q h1 h2=>?_⟩;obtain⟨q',h3,h4⟩:=Paired.get h h1;rw [h2] at h3;cases h3;exact h4
noncomputable def zgv (pl:List Int) (rw:List #[Ch]) (j:Int):Int×Int:=(pl[j.toNat]?.getD 0,(rw[j.toNat]?.getD none).getD 0)
theorem zhE {pl:List Int} {rw:List #[Ch]} (hl:rw.length=pl.length):∀ n,n<=pl.length->mX (pl.take n) (rw.take n)=(zal rw n).map #[VZ]
 | 0,_=>by simp [zal,mX]
 | n+1,hn=>by
  have ih:=zhE hl n #[O];have e1:pl[n]? = some pl[n]:=aF #[O];have e2:rw[n]? = some rw[n]:=aF #[O];rw [zdp e1 e2,ih,zde,aw];congr 1;rw [e2,iu];cases ho:rw[n] with
  | none=>rfl
  | some y =>
   show [(pl[n],y)] = [zgv pl rw ((n:Nat):Int)];unfold zgv;rw [a8,e1,e2,ho];rfl
theorem zjt (hl:rw.length=pl.length):mX pl rw=#[Fa].map #[VZ]:=by
 have:=zhE hl pl.length (ai _);rw [bt,bj #[O]] at this;rw [hl];exact this
theorem zl9 {n:Nat} (h:z∈zal rw n):∃ (j:Nat) (y:Int),z=j/\j < n/\rw[j]? = some (some y):=by
 unfold zal at h;obtain⟨j,hj,rfl⟩:=aZ.mp h;obtain⟨h1,h2⟩:=cL.mp hj;refine⟨j,?_⟩;cases e:rw[j]? with
 | none=>rw [e] at h2; simp at h2
 | some o =>
  cases o with
  | none=>rw [e] at h2; simp at h2
  | some y=>exact⟨y,rfl,bN.mp h1,rfl⟩
theorem zhF {p:Int} (hp:p∈zG) (hl:rw.length=pl.length) (hP:Pts p #[FM]) {t:Nat} (hq:IsP p k q) (hk:k<=t) (ht:t<=hits p q #[FM]) :
  ∃ c:List Int,c.Sublist #[Fa]/\c.length=k/\q=thr p (c.map #[VZ]):=by
 obtain⟨pk,h1,h2⟩:=zdg hp hP (n:=#[FM].length) hq hk #[O] ht;rw [bt] at h1;obtain⟨h3,h4⟩:=zeo.mp h1;rw [zjt hl] at h3;obtain⟨c,h5,rfl⟩:=List.sublist_map_iff.mp h3;exact⟨c,h5,by simpa using h4,h2⟩
theorem zeX {p:Int} (hl:rw.length=pl.length) (hP:Pts p #[FM]) {c:List Int} (h:c.Sublist #[Fa]):Pts p (c.map #[VZ]):=by
 refine hP.sub ?_;rw [zjt hl];exact h.map _
end My
end
section
namespace L2
open PySem PySem.Spec PyProof.Rows
end L2
end
section
namespace HT
open PySem PySem.Spec PyProof.Rows
end HT
namespace L2
open PySem PySem.Spec PyProof.Rows
end L2
end
section
namespace My
open PySem L2 PyProof.Rows
variable {C da ea ua:Addr} {H H':Hp} {fd:FuncData} {k:Nat} {m:Str} {pp sl:Int} {rows:List Rw} {rs:List Addr} {xs:List V}
noncomputable def md (p:Int) (q:Int×Int):Int×Int:=(q.1,q.2 % p)
theorem zhG (p:Int) (s:List Int×List Int) (q:Int×Int):zbU p s (md p q)=zbU p s q:=by
 unfold zbU md;have:(q.2 % p - zw p q.1 s.1)*inv p (zw p q.1 s.2) % p=(q.2 - zw p q.1 s.1)*inv p (zw p q.1 s.2) % p:=(((Cg.emod p q.2).sub #[Sc]).mul #[Sc]).mod_eq;dsimp only;rw [this]
theorem zju (p:Int):∀ (mO:List (Int×Int)) (s:List Int×List Int),#[V4].foldl (zbU p) s=mO.foldl (zbU p) s
 | [],s=>rfl
 | q :: mO,s=>by
  rw [bc,ge,ge,zhG,zju p mO]
theorem zoI (p:Int) (mO:List (Int×Int)):thr p #[V4]=thr p mO:=by
 unfold thr zpm;rw [zju,ae]
noncomputable def zhH (K:af):Sp:=fun vs H Q _=>∃ (p:Int) (a:Addr) (mO:List (Int×Int)),vs = [.int p,.ref a]/\zi4 K H a mO/\mO.length<=100/\p∈zG/\Pts p #[V4]/\(∀ q∈mO,0<=q.2/\q.2 < 10000) /\
 ∀ (l:Addr) (H':Hp),H l=none->zy H H'->H' l=some (.tup ((thr p #[V4]).map V.int))->Q #[Su] H'
noncomputable def hid (S:List Addr) (H:Hp):Hp:=fun b=>if b∈S then none else H b
theorem zah {S:List Addr} {b:Addr} {o:HO} (h:H b=some o) (n:b∉S):hid S H b=some o:=by unfold hid; rw [if_neg n]; exact h
theorem zbh {S:List Addr} {b:Addr} {o:HO} (h:hid S H b=some o):H b=some o/\b∉S:=by
 unfold hid at h;by_cases n:b∈S
 ·rw [if_pos n] at h; cases h
 ·rw [if_neg n] at h; exact⟨h,n⟩
theorem zbL {S:List Addr} (s:zy H H'):zy (hid S H) (hid S H'):=fun b o e=>by
 obtain⟨e,n⟩:=zbh e;exact zah (s b o e) n
theorem zad (S:List Addr) (H:Hp):zy (hid S H) H:=fun b o e=>(zbh e).1
theorem zgw {S:List Addr} {a:Addr} {o:HO} (h:a∈S):zy (hid S H) (hid S #[Ti]):=fun b u e=>by
 obtain⟨e,n⟩:=zbh e;refine zah ?_ n;rw [zg (fun z=>n (by rw [z]; exact h))];exact e
noncomputable def fl (c:Addr) (sl:Int) (ea da ua:Addr):List (Str×V):=[("code",.ref c),("slips",.int sl),("entries",.ref ea),("deeds",.ref da),("undone",.ref ua)]
theorem n1:¬ (("code" : Str) = "slips"):=by decide +kernel
theorem n2:¬ (("code" : Str) = "entries"):=by decide +kernel
theorem n3:¬ (("code" : Str) = "deeds"):=by decide +kernel
theorem n4:¬ (("code" : Str) = "undone"):=by decide +kernel
theorem n5:¬ (("slips" : Str) = "entries"):=by decide +kernel
theorem n6:¬ (("slips" : Str) = "deeds"):=by decide +kernel
theorem n7:¬ (("slips" : Str) = "undone"):=by decide +kernel
theorem n8:¬ (("entries" : Str) = "deeds"):=by decide +kernel
theorem n9:¬ (("entries" : Str) = "undone"):=by decide +kernel
theorem n10:¬ (("deeds" : Str) = "undone"):=by decide +kernel
section
variable {c ea da ua:Addr} {sl:Int}
theorem zoJ:zaq "undone" (.ref ua) (zaq "deeds" (.ref da) (zaq "entries" (.ref ea) (zaq "slips" #[W7] (zaq "code" #[UX] []))))=fl c sl ea da ua:=by
 simp only [zaq,if_neg n1,if_neg n2,if_neg n3,if_neg n4,if_neg n5,if_neg n6,if_neg n7,if_neg n8,if_neg n9,if_neg n10];rfl
theorem zkq {u:Addr}:zaq "undone" (.ref u) #[LE]=fl c sl ea da u:=by
 unfold fl;simp only [zaq,if_neg n4,if_neg n7,if_neg n9,if_neg n10,if_true]
theorem zaC {f g:Str} {v:V} {r:List (Str×V)} (h:¬ g=f):cP f ((g,v) :: r)=cP f r:=by
 rw [br];have:(f == g)=false:=beq_eq_false_iff_ne.mpr (cA h);rw [this]
theorem zds {f:Str} {v:V} {r:List (Str×V)}:cP f ((f,v) :: r)=some v:=by
 rw [br,beq_self_eq_true]
theorem zbM:#[LE].lookup ("code" : Str)=some #[UX]:=zds
theorem zV:#[LE].lookup ("entries" : Str)=some (.ref ea):=by unfold fl; rw [zaC n2,zaC n5,zds]
theorem zbW:#[LE].lookup ("deeds" : Str)=some (.ref da):=by unfold fl; rw [zaC n3,zaC n6,zaC n8,zds]
theorem zcr:#[LE].lookup ("undone" : Str)=some (.ref ua):=by unfold fl; rw [zaC n4,zaC n7,zaC n9,zaC n10,zds]
theorem zma (h1:¬ ("code" : Str)=m) (h2:¬ ("slips" : Str)=m) (h3:¬ ("entries" : Str)=m) (h4:¬ ("deeds" : Str)=m) (h5:¬ ("undone" : Str)=m):#[LE].lookup m=none:=by
 unfold fl;rw [zaC h1,zaC h2,zaC h3,zaC h4,zaC h5];rfl
end
abbrev Dt:=Nat×Option Int×Option Int
noncomputable def zmb (d:Dt):List V:=[.int (d.1:Int),mM d.2.1,mM d.2.2]
noncomputable def Dts (H:Hp) (rs:List Addr) (ds:List Dt):Prop:=rs.length=ds.length/\∀ (i:Nat) (r:Addr) (d:Dt),rs[i]? = some r->ds[i]? = some d->H r=some #[Vf]
theorem Dts.nil:Dts H [] []:=⟨rfl,fun i r d h=>by simp at h⟩
theorem Dts.same {ds:List Dt} (h:Dts H rs ds) (k:∀ b xs,H b=some #[Rp]->H' b=some #[Rp]):Dts H' rs ds:=⟨h.1,fun i r d e1 e2=>k _ _ (h.2 i r d e1 e2)⟩
theorem Dts.snoc {ds:List Dt} {r:Addr} {d:Dt} (h:Dts H rs ds) (e:H r=some #[Vf]):Dts H (rs++[r]) (ds++[d]):=by
 obtain⟨hl,ha⟩:=h;refine⟨by simp [hl],fun i r' d' e1 e2=>?_⟩;rcases Nat.lt_trichotomy i rs.length with hi | hi | hi
 ·rw [aT hi] at e1;rw [aT #[O]] at e2;exact ha i r' d' e1 e2
 ·subst hi;rw [aV (ai _)] at e1;rw [aV #[O]] at e2;simp at e1;rw [hl,fc] at e2;simp at e2;subst e1 e2;exact e
 ·rw [cX (by simp; lia)] at e1;cases e1
theorem Dts.PV {ds:List Dt} {d:Dt} (h:Dts H rs (ds++[d])):∃ rn r,rs=rn++[r]/\Dts H rn ds/\H r=some #[Vf]:=by
 obtain⟨hl,ha⟩:=h;have oM:rs≠[]:=by
  intro z;subst z;simp at hl
 obtain⟨rn,r,rfl⟩:∃ rn r,rs=rn++[r]:=⟨rs.dropLast,rs.getLast oM,(gK oM).symm⟩;have Cv:rn.length=ds.length:=by simpa using hl
 refine⟨rn,r,rfl,⟨Cv,fun i r' d' e1 e2=>?_⟩,?_⟩
 ·have hi:=(aj.mp e1).1;exact ha i r' d' (by rw [aT hi]; exact e1) (by rw [aT #[O]]; exact e2)
 ·exact ha rn.length r d #[M] (by rw [Cv]; simp)
structure Ls (C:Addr) (H:Hp) (S:List Addr) (p c:Addr) (pp sl:Int) (es:List #[Ch]) (ds us:List Dt):Prop where
 ex:∃ dx ea da ua k tt dr ur,S = [p,ea,da,ua]/\ea≠da/\ea≠ua/\da≠ua/\H p=some (.ins C dx #[LE])/\H ea=some (.lst #[R6])/\H da=some (.lst (dr.map V.ref))/\H ua=some (.lst (ur.map V.ref))/\Dts H dr ds/\Dts H ur us/\H c=some (.tup [.int pp,.int k,.ref tt])
theorem Ls.same {S:List Addr} {p c:Addr} {es:List #[Ch]} {ds us:List Dt} (h:Ls C H S p c pp sl es ds us) (s:zy H H'):Ls C H' S p c pp sl es ds us:=by
 obtain⟨dx,ea,da,ua,k,tt,dr,ur,e,h1,h2,h3,h4,h5,h6,h7,h8,h9,tf⟩:=h.ex;exact⟨dx,ea,da,ua,k,tt,dr,ur,e,h1,h2,h3,s _ _ h4,s _ _ h5,s _ _ h6,s _ _ h7,h8.same fun b xs z=>s _ _ z,h9.same fun b xs z=>s _ _ z,s _ _ tf⟩
theorem Ls.own {S:List Addr} {p c:Addr} {es:List #[Ch]} {ds us:List Dt} (h:Ls C H S p c pp sl es ds us):∀ b∈S,(∃ xs,H b=some #[RH])\/∃ C dx fs,H b=some #[RP]:=by
 obtain⟨dx,ea,da,ua,k,tt,dr,ur,rfl,h1,h2,h3,h4,h5,h6,h7,_⟩:=h.ex;intro b hb;simp at hb;rcases (hb) with rfl | rfl | rfl | rfl
 ·exact .inr ⟨_,_,_,h4⟩
 ·exact .inl ⟨_,h5⟩
 ·exact .inl ⟨_,h6⟩
 ·exact .inl ⟨_,h7⟩
theorem Ls.tup {C:Addr} {H:Hp} {S:List Addr} {p c b:Addr} {pp sl:Int} {es:List #[Ch]} {ds us:List Dt} {xs:List V} (h:Ls C H S p c pp sl es ds us) (e:H b=some #[Rp]):b∉S:=fun hb=>by
 rcases h.own b hb with ⟨_,z⟩ | ⟨_,_,_,z⟩ <;> (rw [e] at z; cases z)
theorem Ls.fresh {S:List Addr} {p c b:Addr} {es:List #[Ch]} {ds us:List Dt} (h:Ls C H S p c pp sl es ds us) (e:H b=none):b∉S:=fun hb=>by
 rcases h.own b hb with ⟨_,z⟩ | ⟨_,_,_,z⟩ <;> (rw [e] at z; cases z)
inductive Dd where
 | ME (n x:Int) | forget (n:Int) | back | again
inductive Wd where
 | place | number | heard | notHeard | nothing
noncomputable def Wd.txt:Wd->Str
 | .place=>"place"
 | .number=>"number"
 | .heard=>"heard"
 | .notHeard=>"not heard"
 | .nothing=>"nothing"
noncomputable def owd:Option Wd->Str
 | none=>""
 | some w=>w.txt
abbrev Rw:=List #[Ch]
noncomputable def inB (es:Rw) (n:Int):Bool:=decide (0<=n) && decide (n < (es.length:Int))
noncomputable def zfp (pp x:Int):Bool:=decide (0<=x) && decide (x < pp)
noncomputable def stp (pp:Int) (es:Rw) (ds us:List Dt):Dd->Wd ⊕ (Rw×List Dt×List Dt)
 | .ME n x=>if inB es n=false then .inl .place else if zfp pp x=false then .inl .number else match (es[n.toNat]?).getD none with
  | some _=>.inl .heard
  | none=>.inr (es.set n.toNat (some x),ds++[(n.toNat,none,some x)],[])
 | .forget n=>if inB es n=false then .inl .place else match (es[n.toNat]?).getD none with
  | some v=>.inr (es.set n.toNat none,ds++[(n.toNat,some v,none)],[])
  | none=>.inl .notHeard
 | .back=>match ds.getLast? with
  | none=>.inl .nothing
  | some d=>.inr (es.set d.1 d.2.1,ds.dropLast,us++[d])
 | .again=>match us.getLast? with
  | none=>.inl .nothing
  | some d=>.inr (es.set d.1 d.2.2,ds++[d],us.dropLast)
noncomputable def ltr (pp:Int) (rows:List Rw) (at':Nat) (r:Rw):Dd->List Rw×Nat×Option Wd
 | .ME n x=>if inB r n=false then #[RK] else if zfp pp x=false then #[Vj] else match (r[n.toNat]?).getD none with
  | some _=>(rows,at',some .heard)
  | none=>(rows.take (at'+1)++[r.set n.toNat (some x)],at'+1,none)
 | .forget n=>if inB r n=false then #[RK] else match (r[n.toNat]?).getD none with
  | some _=>(rows.take (at'+1)++[r.set n.toNat none],at'+1,none)
  | none=>(rows,at',some .notHeard)
 | .back=>if at'=0 then #[S9] else (rows,at' - 1,none)
 | .again=>if at'+1 < rows.length then (rows,at'+1,none) else #[S9]
noncomputable def Tr (r:Rw) (d:Dt) (r':Rw):Prop:=r[d.1]? = some d.2.1/\r'=r.set d.1 d.2.2
theorem Tr.back {r r':Rw} {d:Dt} (h:Tr r d r'):r'.set d.1 d.2.1=r:=by
 obtain⟨h1,rfl⟩:=h;rw [List.set_set];obtain⟨hi,e⟩:=aj.mp h1;apply fB;intro j;by_cases hj:d.1=j
 ·subst hj;rw [dm hi,h1]
 ·rw [dF hj]
structure Jn (n:Nat) (rows:List Rw) (at':Nat) (es:Rw) (ds us:List Dt):Prop where
 len:rows.length=(ds++us.reverse).length+1
 da:ds.length=at'
 cur:rows[at']? = some es
 ch:∀ (i:Nat) (r r':Rw) (d:Dt),rows[i]? = some r->(ds++us.reverse)[i]? = some d->rows[i+1]? = some r'->Tr r d r'
 wd:∀ r∈rows,r.length=n
theorem Jn.new {n:Nat} {at':Nat} {es:Rw} {ds us:List Dt} (J:Jn n rows at' es ds us) {d:Dt} {es':Rw} (t:Tr es d es'):Jn n (rows.take (at'+1)++[es']) (at'+1) es' (ds++[d]) []:=by
 obtain⟨hl,ha,hc,qe,hw⟩:=J;obtain⟨hi,D6⟩:=aj.mp hc;have mW:#[WT].length=at'+1:=by rw [aI]; lia
 refine⟨by simp [mW,ha],by simp [ha],?_,fun i r r' d' e1 e2 e3=>?_,fun r hr=>?_⟩
 ·rw [aV #[O],mW];simp
 ·rw [List.reverse_nil,cv] at e2;have Bm:i < at'+1:=by
   have:=(aj.mp e2).1;simp at this;lia
  rw [aT #[O],c7 Bm] at e1;by_cases hia:i=at'
  ·subst hia;rw [hc] at e1;cases e1;rw [aV #[O],ha,fc] at e2;rw [aV #[O],mW,fc] at e3;simp at e2 e3;subst e2 e3;exact t
  ·rw [aT #[O]] at e2;rw [aT #[O],c7 #[O]] at e3;exact qe i r r' d' e1 (by rw [aT #[O]]; exact e2) e3
 ·rcases aC.mp hr with h | h
  ·exact hw r (dI h)
  ·have:r=es':=by simpa using h
   subst this;rw [t.2,iM];exact hw es (aP hc)
theorem Jn.Qu {n:Nat} {at':Nat} {es:Rw} {ds us:List Dt} {d:Dt} (J:Jn n rows at' es (ds++[d]) us):Jn n rows (at' - 1) (es.set d.1 d.2.1) ds (us++[d])/\0 < at':=by
 obtain⟨hl,ha,hc,qe,hw⟩:=J;have EZ:ds.length+1=at':=by simpa using ha
 have eT:ds++[d]++us.reverse=ds++(us++[d]).reverse:=by simp
 rw [eT] at hl qe;obtain⟨r,hr⟩:∃ r,rows[at' - 1]? = some r:=by
  have:=(aj.mp hc).1;exact⟨rows[at' - 1]'#[O],#[M]⟩
 have t:Tr r d es:=qe (at' - 1) r es d hr (by
  have e:at' - 1=ds.length:=by lia
  rw [e,aV (ai _)];simp) (by rw [show at' - 1+1=at' by lia]; exact hc)
 rw [t.back];exact⟨⟨hl,#[O],hr,qe,hw⟩,#[O]⟩
theorem Jn.Qc {n:Nat} {at':Nat} {es:Rw} {ds us:List Dt} {d:Dt} (J:Jn n rows at' es ds (us++[d])):Jn n rows (at'+1) (es.set d.1 d.2.2) (ds++[d]) us/\at'+1 < rows.length:=by
 obtain⟨hl,ha,hc,qe,hw⟩:=J;have eT:ds++(us++[d]).reverse=ds++[d]++us.reverse:=by simp
 rw [eT] at hl qe;have mW:at'+1 < rows.length:=by rw [hl]; simp; lia
 obtain⟨r',rL⟩:∃ r',rows[at'+1]? = some r':=⟨rows[at'+1]'(mW),#[M]⟩;have t:Tr es d r':=qe at' es r' d hc (by
  rw [cu,aV #[O],ha,fc];simp) rL
 rw [<- t.2];exact⟨⟨hl,by simp [ha],rL,qe,hw⟩,mW⟩
theorem znd {n:Nat} {at':Nat} {es:Rw} {ds us:List Dt} (J:Jn n rows at' es ds us) (D:Dd) :
  (∃ w,stp pp es ds us D = .inl w/\ltr pp rows at' es D=(rows,at',some w)) \/
  ∃ es' uk um nY at2,stp pp es ds us D = .inr (es',uk,um)/\ltr pp rows at' es D=(nY,at2,none)/\Jn n nY at2 es' uk um/\nY.length<=rows.length+1/\(uk++um).length<=(ds++us).length+1:=by
 cases D with
 | ME k x =>
  unfold stp ltr;dsimp only;by_cases h1:inB es k=false
  ·rw [if_pos h1,if_pos h1];exact .inl ⟨_,rfl,rfl⟩
  ·rw [if_neg h1,if_neg h1];by_cases h2:zfp pp x=false
   ·rw [if_pos h2,if_pos h2];exact .inl ⟨_,rfl,rfl⟩
   ·rw [if_neg h2,if_neg h2];have B':inB es k=true:=by simpa using h1
    unfold inB at B';simp only [bV,decide_eq_true_eq] at B';have hk:k.toNat < es.length:=by lia
    obtain⟨o,ho⟩:∃ o,es[k.toNat]? = some o:=⟨es[k.toNat],#[M]⟩;rw [ho];cases o with
    | some v=>exact .inl ⟨_,rfl,rfl⟩
    | none =>
     refine .inr ⟨_,_,_,_,_,rfl,rfl,J.new (d:=(k.toNat,none,some x)) ⟨ho,rfl⟩,?_,?_⟩
     ·simp <;> lia
     ·simp <;> lia
 | forget k =>
  unfold stp ltr;dsimp only;by_cases h1:inB es k=false
  ·rw [if_pos h1,if_pos h1];exact .inl ⟨_,rfl,rfl⟩
  ·rw [if_neg h1,if_neg h1];have B':inB es k=true:=by simpa using h1
   unfold inB at B';simp only [bV,decide_eq_true_eq] at B';have hk:k.toNat < es.length:=by lia
   obtain⟨o,ho⟩:∃ o,es[k.toNat]? = some o:=⟨es[k.toNat],#[M]⟩;rw [ho];cases o with
   | none=>exact .inl ⟨_,rfl,rfl⟩
   | some v =>
    refine .inr ⟨_,_,_,_,_,rfl,rfl,J.new (d:=(k.toNat,some v,none)) ⟨ho,rfl⟩,?_,?_⟩
    ·simp <;> lia
    ·simp <;> lia
 | back =>
  unfold stp ltr;dsimp only;rcases ej ds with h | ⟨uk,d,h⟩
  ·subst h;have:at'=0:=J.da.symm;rw [if_pos this];exact .inl ⟨_,rfl,rfl⟩
  ·rw [et] at h;subst h;obtain⟨J',h0⟩:=J.Qu;rw [if_neg #[O]];refine .inr ⟨_,_,_,_,_,by rw [eJ]; simp,rfl,J',#[O],?_⟩;simp <;> lia
 | again =>
  unfold stp ltr;dsimp only;rcases ej us with h | ⟨um,d,h⟩
  ·subst h;have hl:=J.len;have ha:=J.da;have:¬ at'+1 < rows.length:=by rw [hl]; simp; lia
   rw [if_neg this];exact .inl ⟨_,rfl,rfl⟩
  ·rw [et] at h;subst h;obtain⟨J',h0⟩:=J.Qc;rw [if_pos h0];refine .inr ⟨_,_,_,_,_,by rw [eJ]; simp,rfl,J',#[O],?_⟩;simp <;> lia
noncomputable def top (i:Nat):Stmt:=PySem.Challenge.pw_slipcurve_k29_whole_two_listeners.main.body.getD i (.Pass ⟨0,0,0,0⟩)
abbrev zcs:Stmt:=top 1
abbrev zbX:Stmt:=top 2
abbrev zct:Stmt:=top 3
abbrev zcS:Stmt:=top 4
abbrev zbi:Stmt:=top 5
abbrev zeY:Stmt:=top 6
abbrev zcT:Stmt:=top 7
abbrev zaL:Stmt:=top 21
abbrev zeZ:Stmt:=top 22
abbrev zbF:Stmt:=top 24
abbrev za1:Stmt:=top 25
abbrev zbN:Stmt:=top 26
abbrev zdt:Stmt:=top 30
abbrev zcU:Stmt:=top 31
abbrev zcJ:Stmt:=top 32
abbrev zcV:Stmt:=top 33
abbrev zaM:Stmt:=top 34
abbrev zcb:Stmt:=top 35
abbrev zbd:Stmt:=top 36
abbrev zdu:Stmt:=top 37
abbrev zbz:Stmt:=top 38
abbrev zdv:Stmt:=top 39
abbrev zdw:Stmt:=top 40
abbrev zdx:Stmt:=top 41
abbrev zcW:Stmt:=top 42
abbrev zbO:Stmt:=top 43
abbrev zcc:Stmt:=top 44
abbrev zcd:Stmt:=top 45
abbrev zgx:Stmt:=inClass (top 28) 0
abbrev zbv:Stmt:=inClass (top 28) 1
abbrev zdy:Stmt:=inClass (top 28) 2
abbrev zgy:Stmt:=inClass (top 28) 3
abbrev zdz:Stmt:=inClass (top 28) 4
abbrev zgz:Stmt:=inClass (top 28) 5
abbrev s_again:Stmt:=inClass (top 28) 6
abbrev s_row:Stmt:=inClass (top 28) 7
abbrev zdA:Stmt:=inClass (top 28) 8
abbrev ze0:Stmt:=inClass (top 28) 9
structure Adr where
 MB:Addr
 Pd:Addr
 NX:Addr
 NW:Addr
 Lm:Addr
 K7:Addr
 OK:Addr
 K6:Addr
 Kn:Addr
 Pe:Addr
 Qj:Addr
 Kf:Addr
 init:Addr
 KN:Addr
 change:Addr
 ME:Addr
 forget:Addr
 back:Addr
 again:Addr
 row:Addr
 Og:Addr
 sure:Addr
 Me:Addr
 LH:Addr
 Mc:Addr
 inverse:Addr
 K4:Addr
 Qy:Addr
 through:Addr
 Ku:Addr
 fits:Addr
 Nh:Addr
 Kt:Addr
 Mh:Addr
 Of:Addr
 M3:Addr
 Oe:Addr
 M1:Addr
 Lx:Addr
 Ob:Addr
 KA:Addr
 Py:Addr
 Nt:Addr
 Oa:Addr
 Od:Addr
 Oc:Addr
 M2:Addr
 Md:Addr
 Nr:Addr
 law:Addr
structure KW (K:af) (t:Adr) (C:Addr) (b0 b1 b2 b3 b4 b5 b6 b7 b8 b9:Bool):Prop where
 i0:am K #[QW] (.ref t.Pd)=some b0
 i1:am K #[QW] (.ref t.NX)=some b1
 i2:am K #[QW] (.ref t.NW)=some b2
 i3:am K #[QW] (.ref t.Lm)=some b3
 i4:am K #[QW] (.ref t.K7)=some b4
 i5:am K #[QW] (.ref t.OK)=some b5
 i6:am K #[QW] (.ref t.K6)=some b6
 i7:am K #[QW] (.ref t.Kn)=some b7
 i8:am K #[QW] (.ref t.Pe)=some b8
 i9:am K #[QW] (.ref t.Qj)=some b9
 iv:am K #[QW] (.type "ValueError")=some true
 xc:Xc K C
 sl:bS K #[QW] (.ref t.MB)=some true
abbrev FbQ (K:af) (x:Str) (s:Stmt) (a:Addr) (p:List Str):Prop:=∃ fd,Fun K x x s a fd/\Binds K fd p []
structure Txt (K:af) (mg:Str->Option Value) (t:Adr):Prop where
 LL:mg "len" = none
 Kz:mg "range" = none
 Qb:mg "list" = none
 OP:mg "tuple" = none
 QG:mg "min" = none
 QH:mg "max" = none
 Kh:mg "isinstance" = none
 QJ:mg "int" = none
 QK:mg "bool" = none
 Qk:mg "zip" = none
 LY:mg "enumerate" = none
 OT:mg "reversed" = none
 Nz:mg "sorted" = none
 NV:mg "ValueError" = none
 Ny:mg "SlipError" = some (.ref t.MB)
 Pl:mg "TooFew" = some (.ref t.Pd)
 OM:mg "NoCurve" = some (.ref t.NX)
 OL:mg "NoPaper" = some (.ref t.NW)
 Nl:mg "NoPlace" = some (.ref t.Lm)
 MR:mg "NoNumber" = some (.ref t.K7)
 ON:mg "Heard" = some (.ref t.OK)
 MQ:mg "NotHeard" = some (.ref t.K6)
 KE:mg "NothingLeft" = some (.ref t.Kn)
 Pm:mg "NoText" = some (.ref t.Pe)
 P4:mg "NoRow" = some (.ref t.Qj)
 Kx:ci K t.Lm zdO "ValueError.__new__" = true
 Ks:ci K t.K7 zdO "ValueError.__new__" = true
 Ln:ci K t.OK zdO "ValueError.__new__" = true
 Kr:ci K t.K6 zdO "ValueError.__new__" = true
 Kk:ci K t.Kn zdO "ValueError.__new__" = true
 Oz:KW K t t.Lm false false false true false false false false false false
 ND:KW K t t.K7 false false false false true false false false false false
 Pz:KW K t t.OK false false false false false true false false false false
 NC:KW K t t.K6 false false false false false false true false false false
 MF:KW K t t.Kn false false false false false false false true false false
 sb:bu K t.MB (.type "BaseException")=some true
 cl:Cls K t.Kf
 Ol:mg "Listener" = some (.ref t.Kf)
 mkr:Mk K t.Kf t.init
 LK:zbH K t.Kf "code"
 MZ:zbH K t.Kf "slips"
 Kj:zbH K t.Kf "entries"
 Lu:zbH K t.Kf "deeds"
 KS:zbH K t.Kf "undone"
 Kv:Oi K t.Kf "check_place" t.KN
 Nn:Oi K t.Kf "change" t.change
 P8:Oi K t.Kf "hear" t.ME
 OU:Oi K t.Kf "forget" t.forget
 P9:Oi K t.Kf "back" t.back
 Po:Oi K t.Kf "again" t.again
 PY:Oi K t.Kf "row" t.row
 Np:Oi K t.Kf "can_be" t.Og
 P7:Oi K t.Kf "sure" t.sure
 O4:∃ fd,Fun K "__init__" "Listener.__init__" zgx t.init fd/\Binds K fd ["self","code","slips"] []
 Km:∃ fd,Fun K "check_place" "Listener.check_place" zbv t.KN fd/\Binds K fd ["self","number"] []
 Mf:∃ fd,Fun K "change" "Listener.change" zdy t.change fd/\Binds K fd ["self","number","entry"] []
 O5:∃ fd,Fun K "hear" "Listener.hear" zgy t.ME fd/\Binds K fd ["self","number","entry"] []
 Ng:∃ fd,Fun K "forget" "Listener.forget" zdz t.forget fd/\Binds K fd ["self","number"] []
 O8:∃ fd,Fun K "back" "Listener.back" zgz t.back fd/\Binds K fd ["self"] []
 NG:∃ fd,Fun K "again" "Listener.again" s_again t.again fd/\Binds K fd ["self"] []
 Qd:∃ fd,Fun K "row" "Listener.row" s_row t.row fd/\Binds K fd ["self"] []
 Mg:∃ fd,Fun K "can_be" "Listener.can_be" zdA t.Og fd/\Binds K fd ["self"] []
 O0:∃ fd,Fun K "sure" "Listener.sure" ze0 t.sure fd/\Binds K fd ["self","number"] []
 Ox:mg "is_whole" = some (.ref t.Me)
 Mp:mg "is_number" = some (.ref t.LH)
 K5:mg "value_at" = some (.ref t.Mc)
 OX:mg "inverse" = some (.ref t.inverse)
 Nq:mg "times_root" = some (.ref t.K4)
 Qs:mg "bent" = some (.ref t.Qy)
 OV:mg "through" = some (.ref t.through)
 Lb:mg "heard_points" = some (.ref t.Ku)
 Qr:mg "fits" = some (.ref t.fits)
 OY:mg "choices" = some (.ref t.Nh)
 M0:mg "all_through" = some (.ref t.Kt)
 Oy:mg "all_near" = some (.ref t.Mh)
 Px:mg "_law_cell" = some (.ref t.Of)
 Mn:mg "_law_draws" = some (.ref t.M3)
 N1:mg "_law_code" = some (.ref t.Oe)
 Lw:mg "_law_value" = some (.ref t.M1)
 NB:mg "_law_through" = some (.ref t.Lx)
 Pt:mg "_law_fits" = some (.ref t.Ob)
 Mo:mg "_law_choices" = some (.ref t.KA)
 Qa:mg "_law_all" = some (.ref t.Py)
 Pr:mg "_law_near" = some (.ref t.Nt)
 Pp:mg "_law_word" = some (.ref t.Oa)
 Pw:mg "_law_deed" = some (.ref t.Od)
 Pu:mg "_law_done" = some (.ref t.Oc)
 OW:mg "_law_later" = some (.ref t.M2)
 Ov:mg "_law_can_be" = some (.ref t.Md)
 Pq:mg "_law_sure" = some (.ref t.Nr)
 LV:FbQ K "is_whole" zcs t.Me ["thing"]
 KJ:FbQ K "is_number" zbX t.LH ["p","thing"]
 KC:FbQ K "value_at" zct t.Mc ["p","polynomial","x"]
 Mx:FbQ K "inverse" zcS t.inverse ["p","number"]
 K1:FbQ K "times_root" zbi t.K4 ["p","polynomial","root"]
 O7:FbQ K "bent" zeY t.Qy ["p","polynomial","vanishing","point"]
 Mv:FbQ K "through" zcT t.through ["p","points"]
 Ko:FbQ K "heard_points" zaL t.Ku ["code","row"]
 O6:FbQ K "fits" zeZ t.fits ["code","row","polynomial"]
 Mz:FbQ K "choices" zbF t.Nh ["things","many"]
 KL:FbQ K "all_through" za1 t.Kt ["code","points"]
 LW:FbQ K "all_near" zbN t.Mh ["code","row","t"]
 Nf:FbQ K "_law_cell" zdt t.Of ["script","k"]
 LI:FbQ K "_law_draws" zcU t.M3 ["script","k","many","base"]
 Nd:FbQ K "_law_code" zcJ t.Oe ["script","at","most_k","most_n"]
 K2:FbQ K "_law_value" zcV t.M1 ["p","polynomial","x"]
 Ll:FbQ K "_law_through" zaM t.Lx ["p","points"]
 Na:FbQ K "_law_fits" zcb t.Ob ["code","row","polynomial"]
 KI:FbQ K "_law_choices" zbd t.KA ["some","many"]
 NF:FbQ K "_law_all" zdu t.Py ["p","k"]
 M9:FbQ K "_law_near" zbz t.Nt ["code","row","t"]
 M7:FbQ K "_law_word" zdv t.Oa ["e"]
 Nc:FbQ K "_law_deed" zdw t.Od ["draw","code"]
 Nb:FbQ K "_law_done" zdx t.Oc ["listener","deed"]
 Mw:FbQ K "_law_later" zcW t.M2 ["code","states","at","deed"]
 LU:FbQ K "_law_can_be" zbO t.Md ["code","row","slips"]
 M8:FbQ K "_law_sure" zcc t.Nr ["code","ones","number"]
section
variable {P:Program} {w:World} {K:af} {mg:Str->Option Value} {base:Heap} {t:Adr}
theorem zhI:Kg ["thing"] ["thing"] (zi zcs):=#[S]
theorem zhJ (T:Txt K mg t) (F:Fun K "is_whole" "is_whole" zcs t.Me fd):Kq P w K mg base CX0 1 t.Me fd ["thing"] (zgp K):=by
 refine F.ok zhI #[ol] #[ac]
 ·obtain⟨v,rfl,_⟩:=h;rfl
 ·obtain⟨v,rfl,hv,q⟩:=h;refine zaG ?_; intro zX;refine⟨_,#[zl,#[zJ,#[zk3,#[zt,#[zdX],T.Kh,bU,#[za,#[wn],#[ya,#[zf8,(.ty "int"),T.QJ,boot_int]]]],#[zhV,(@zn0 _ _ _ _ #[zt,#[zdX],T.Kh,bU,#[za,#[wn],#[ya,#[zf8,(.ty "bool"),T.QK,boot_bool]]]])]]]],?_⟩;obtain⟨ty,ht,hi,hb,_⟩:=zop (K:=K) hv;refine (mr rfl (ex4 _ _ _ _ ⟨rfl,ht,hi,#[Db]⟩));refine zaY (fun h=>(mr rfl (ex4 _ _ _ _ ⟨rfl,ht,hb,#[Db]⟩))) #[SQ]
  ·have e:isW v = !isB v:=by cases v <;> simp_all [isI,isB,isW]
   rw [<- e];exact q
  ·have e:isW v=false:=by cases v <;> simp_all [isI,isB,isW]
   rw [<- e];exact q
theorem zgA:Kg ["p","thing"] ["p","thing"] (zi zbX):=#[S]
theorem zdB (T:Txt K mg t) (F:Fun K "is_number" "is_number" zbX t.LH fd):Kq P w K mg base CX0 2 t.LH fd ["p","thing"] (zgq K):=by
 obtain⟨uW,rM,pO⟩:=T.LV;have vX:=zhJ (P:=P) (w:=w) (base:=base) T rM;refine F.ok zgA #[ol] #[ac]
 ·obtain⟨p,v,rfl,_⟩:=h;rfl
 ·obtain⟨p,v,rfl,hv,q⟩:=h;refine zaG ?_; intro zX;refine⟨_,#[zl,#[zJ,#[zk3,#[zI,vX,#[pc],T.Ox,rM.kp,pO,#[zP],#[RT]],#[zhV,(@zle _ _ _ _ _ _ _ _ _ _ _ _ #[ziN] #[zcD] #[zh] #[ww] #[wn] (by with_unfolding_all rfl))]]]],?_⟩;refine (mr rfl ⟨v,rfl,hv,#[Db]⟩);refine zaY #[SQ] #[SQ]
  ·obtain⟨i,rfl⟩:=zmX h;refine #[Sf];refine zaY (fun h0=>(mr rfl #[SL])) (fun h0=>?_)
   ·have e:zgo p #[WO]=decide (i < p):=by simp only [zgo]; rw [h0]; rfl
    rw [e] at q;exact q
   ·have e:zgo p #[WO]=false:=by simp only [zgo]; rw [kF.mpr h0]; rfl
    rw [e] at q;exact q
  ·have e:zgo p v=false:=by cases v <;> simp_all [zgo,isW]
   rw [<- e];exact q
theorem zkr:Kg ["script","k"] ["script","k"] (zi zdt):=#[S]
theorem zkt (T:Txt K mg t) (F:Fun K "_law_cell" "_law_cell" zdt t.Of fd):Kq P w K mg base CX0 1 t.Of fd ["script","k"] (zj0 K):=by
 refine F.ok zkr #[ol] #[ac]
 ·obtain⟨a,ns,k,rfl,_⟩:=h; rfl
 ·obtain⟨a,ns,k,rfl,hS,mS,k0,k1,q⟩:=h;refine zaG ?_; intro zX;refine⟨_,#[ze,#[zan,#[zA,#[zcD],#[ww],#[Sr],(zF _)],#[zl,#[zJ,#[zx,#[zC],#[wn],#[ww]]]],#[zO]],#[ze,#[zan,#[zA,#[zaX],#[Sr],#[zh],(zF _)],#[zl,#[zJ,#[zn,#[zae],#[Wy],#[zh]]]],#[zO]],#[zl,#[zJ,#[zn,#[zae],#[zn,#[zL],#[zx,#[zC],#[wn],#[zn,#[zL],#[ww],#[Sr]]],#[zh]],#[Wy]]]]]],?_⟩;refine zfi ?_; intro qD pP;refine (mr rfl (mr rfl ⟨a,(mr rfl ⟨.inl hS,#[sK]⟩)⟩)); rw [ae];refine zaY #[SQ] #[SQ]
  ·have h:k < (ns.length:Int):=by simpa using h
   obtain⟨c,hc⟩:=zbV k0 h;exact (mr rfl (mr rfl (ex4 a _ k _ ⟨rfl,rfl,hS,hc,q c⟩)))
  ·have h:¬ k < (ns.length:Int):=by simpa using h
   refine (mr rfl ⟨a,(mr rfl ⟨.inl hS,rfl,#[Db]⟩)⟩);rw [ae];refine zaY (fun h2=>?_) (fun h2=>?_)
   ·exact #[Uu]
   ·have h2:¬ V.int (ns.length:Int)=V.int 0:=by simpa using h2
    have xp:0 < (ns.length:Int):=by
     have:(ns.length:Int)≠0:=fun z=>h2 (by rw [z])
     lia
    have m0:=aQ k (show (ns.length:Int)≠0 by lia);have m1:=aK k xp;obtain⟨c,hc⟩:=zbV m0 m1;refine (mr rfl (mr rfl (mr rfl ⟨a,(mr rfl ⟨.inl hS,(mJ rfl rfl ⟨by rw [ae]; exact xp,a,_,_,_,rfl,rfl,hS,by rw [ae]; exact hc,(mJ rfl rfl ⟨(by show (0:Int) < 1000003; decide),?_⟩)⟩)⟩)⟩)));exact #[Uu]
theorem z8:Kg ["script","k","many","base","primes","cell","rest","row","j","mash"] ["script","k","many","base"] (zi zcU):=#[S]
theorem ze1 (T:Txt K mg t) (F:Fun K "_law_draws" "_law_draws" zcU t.M3 fd):Kq P w K mg base CX0 2 t.M3 fd ["script","k","many","base"] (zij K):=by
 obtain⟨xq,uX,rN⟩:=T.Nf;have yI:=zkt (P:=P) (w:=w) (base:=base) T uX;refine F.ok z8 #[ol] #[ac]
 ·obtain⟨a,ns,k,many,base,rfl,_⟩:=h;rfl
 ·obtain⟨a,ns,k,many,bs,rfl,hS,mS,k0,k1,m0,m1,b0,b1,q⟩:=h;refine zaG ?_; intro zX;refine⟨_,#[ze,#[zr,4,z8.nd,#[A],#[zaf,#[zg4,#[zg4,#[zg4,#[zg4,#[zg4,#[SR]]]]]]]],#[ze,#[zr,5,z8.nd,#[A],#[zI,yI,#[pc],T.Px,uX.kp,rN,#[zP],#[V7]]],#[ze,#[zr,6,z8.nd,#[A],#[zh]],#[ze,#[zan,#[zA,#[zlc],#[Uf],#[Wx],(zF _)],#[zl,#[zr,6,z8.nd,#[A],#[Uf]]],#[zO]],#[ze,#[zr,7,z8.nd,#[A],#[Sy]],#[ze,#[za6,bD,#[zap,T.Kz,#[VQ]],#[zm,8,z8.nd,#[A]],#[ze,#[zr,9,z8.nd,#[A],#[zn,#[zai],#[zn,#[zL],#[Uf],#[zx,#[zaj],#[TJ],#[zn,#[zL],#[Vo],#[zh]]]],#[zn,#[zae],#[zh],#[zn,#[zai],#[zn,#[zai],#[zh],#[Vo]],#[Vo]]]]],#[ze,#[zr,9,z8.nd,#[A],#[zn,#[zae],#[zn,#[zae],#[Vn],#[zn,#[zai],#[zn,#[zai],#[zh],#[Wz]],#[Wz]]],#[Wy]]],#[ze,#[zr,9,z8.nd,#[A],#[zn,#[zL],#[Vn],#[zx,#[zaj],#[TJ],#[zn,#[zL],#[zn,#[zae],#[zn,#[zai],#[zh],#[Vo]],#[ww]],#[zh]]]]],#[ze,#[zr,9,z8.nd,#[A],#[zn,#[zL],#[zn,#[zai],#[zn,#[zai],#[Vn],#[Vn]],#[Vn]],#[zx,#[zaj],#[TJ],#[zn,#[zL],#[Wz],#[zh]]]]],#[ze,#[zan,#[zA,#[zlb],#[pvx,6],#[zh],(zF _)],#[zl,#[zr,9,z8.nd,#[A],#[pvx,6]]],#[zO]],#[ze,#[za2,#[zcZ,bv,de,df,#[zb7],#[pvx,7],#[ya,#[zn,#[zL],#[Vn],#[Rn]]]]],#[zl,#[zr,6,z8.nd,#[A],#[zn,#[zci],#[pvx,6],#[Rn]]]]]]]]]]],#[zl,#[zJ,#[pvx,7]]]]]]]]],?_⟩;refine zpi ?_; intro GF C8 Bn uI qD pP;refine⟨by show 8<=sizeLine; rw [aS]; decide,fun tp ht=>?_⟩;have s1:zy H (mz H tp (.tup zmR)):=zd ht;refine (mr rfl (mr rfl (ex3 a ns k ⟨rfl,s1.seq hS,mS,k0,k1,fun c=>?_⟩)));refine (mr rfl (mJ rfl rfl ⟨⟨#[D],#[D],#[D]⟩,#[sK]⟩));refine zaY (fun _=>#[Db]) (fun _=>?_)
  all_goals
   refine⟨bg _,fun l hl=>?_⟩;have GG:H l=none:=zy.free s1 hl;have xo:tp≠l:=zj zb hl;refine⟨_,rfl,many,rfl,#[O],#[O],zbI (lo:=0) (n:=many.toNat) (fun i σ H'=>∃ (r:Int) (v8 v9:Option V) (ds:List Int),σ = [some #[Rf],some (.int k),some (.int many),some (.int bs),some (.ref tp),some (.int c),some (.int r),some #[Su],v8,v9]/\zi2 i bs ds/\zy H H'/\H' tp=some (.tup zmR)/\H' l=some #[Sv])
    ⟨_,none,none,[],rfl,⟨rfl,#[M]⟩,zaR s1 GG,by rw [zg xo]; exact zb,zb⟩ ?_ ?_⟩
   ·rintro zD zT i σ H2 hi ⟨r,v8,v9,ds,rfl,hd,s2,Fh,rO⟩;obtain⟨q1,e1,q1p,q1l⟩:=zeI (0+(i:Int));obtain⟨q2,e2,q2p,q2l⟩:=zeI (3*(0+(i:Int))+k);obtain⟨q3,e3,q3p,q3l⟩:=zeI (0+(i:Int)+5);have c1:=aQ c (show q1≠0 by lia);have c2:=aK c q1p;have pM:(i:Int) < 1000:=by lia
    refine (mr rfl (mr rfl (mr rfl (mJ rfl rfl ⟨(by show (0:Int) < 8; decide),tp,_,_,_,rfl,rfl,mK.of Fh,e1,(mJ rfl rfl ⟨q1p,(mr rfl (mJ rfl rfl ⟨.inl #[P3],(mr rfl (mJ rfl rfl ⟨.inl #[IO],(mJ rfl rfl (mJ rfl rfl ⟨.inl #[IO],?_⟩))⟩))⟩))⟩)⟩))));refine (mr rfl (mr rfl (mJ rfl rfl (mJ rfl rfl ⟨.inl #[P3],(mr rfl (mJ rfl rfl (mJ rfl rfl ⟨.inl #[IO],(mJ rfl rfl (mr rfl (mJ rfl rfl ⟨.inl #[P3],#[SL]⟩)))⟩)))⟩))));refine (mr rfl (mr rfl (mr rfl (mJ rfl rfl ⟨.inl #[P3],(mr rfl (mJ rfl rfl (mJ rfl rfl ⟨(by show (0:Int) < 8; decide),tp,_,_,_,rfl,rfl,mK.of Fh,e2,(mJ rfl rfl ⟨q2p,?_⟩)⟩)))⟩))));generalize c % q1*(48271+2*(0+(i:Int))*(0+(i:Int)))+7919*(0+(i:Int)+1)*(0+(i:Int)+1)+104729*k=ms;have d1:=aQ ms (show q2≠0 by lia);have d2:=aK ms q2p;refine (mr rfl (mr rfl (mJ rfl rfl ⟨.inl #[IO],(mr rfl (mJ rfl rfl ⟨.inr #[IO],(mr rfl (mr rfl (mJ rfl rfl (mJ rfl rfl ⟨(by show (0:Int) < 8; decide),tp,_,_,_,rfl,rfl,mK.of Fh,e3,(mJ rfl rfl ⟨q3p,?_⟩)⟩))))⟩))⟩)));refine #[Sf];have AH:=hd.1;refine zaY (fun _=>#[Db]) (fun _=>?_)
    all_goals
     refine⟨_,rfl,.inl ⟨rfl,_,mB.of rO⟩,_,rfl,_,rfl,_,_,rfl,rfl,b0,l,_,_,rfl,rfl,rO,zaA (by rw [ae]; lia),?_⟩;refine (mr rfl (mr rfl (mJ rfl rfl ⟨⟨b0,b1⟩,?_⟩)));refine (ex4 _ _ _ (ds++[_]) ⟨rfl,⟨by rw [aH,AH]; rfl,fun d hm=>?_⟩,zaR s2 GG,by rw [zg xo]; exact Fh,by rw [zb,aw]; rfl⟩); rcases aC.mp hm with hm | hm
     ·exact hd.2 d hm
     ·have e:=aW.mp hm;rw [e];exact⟨aQ _ #[O],aK _ b0⟩
   ·rintro σ H2 ⟨r,v8,v9,ds,rfl,hd,s2,Fh,rO⟩;exact (mr rfl (q l ds H2 GG s2 hd rO))
theorem zbp:Kg ["script","at","most_k","most_n","plan","primes","p","k","many","left"] ["script","at","most_k","most_n"] (zi zcJ):=#[S]
theorem zku (T:Txt K mg t) (F:Fun K "_law_code" "_law_code" zcJ t.Oe fd):Kq P w K mg base CX0 3 t.Oe fd ["script","at","most_k","most_n"] (zj1 K):=by
 obtain⟨rP,nL,nN⟩:=T.LI;have ph:=ze1 (P:=P) (w:=w) (base:=base) T nL;refine F.ok zbp #[ol] #[ac]
 ·obtain⟨a,ns,at',mk,mn,rfl,_⟩:=h;rfl
 ·obtain⟨a,ns,at',mk,mn,rfl,hS,mS,a0,a1,k1,k5,kn,n16,q⟩:=h;refine zaG ?_; intro zX;refine⟨_,#[ze,#[zr,4,zbp.nd,#[U9],#[zI,ph,#[pc],T.Mn,nL.kp,nN,#[zP],#[za,#[wn],by exact #[za,#[ww],#[za,#[zh],#[RI]]]]]],(by exact (@zlA _ 5 _ _ _ _ _ _ _ [5,7,11,13,17,19,23,29,31,37,41,43,47,53,59,61,67,71,73,79,83,89,97] #[N] zbp.nd rfl #[A] (by first | exact .inl rfl | exact .inr rfl) (by exact #[ze,#[zr,6,zbp.nd,#[A],#[zx,#[zC],#[zK,#[za,#[zx,#[zC],#[Uf],#[WW]],#[ya,#[zx,#[zC],#[Uf],#[WW]]]]],#[WW]]],#[ze,#[zr,7,zbp.nd,#[A],#[zn,#[zae],#[zh],#[zn,#[zL],#[R5],#[zt,#[zfy],T.QG,boot_min,#[za,#[QT],#[UM]]]]]],#[ze,#[zr,8,zbp.nd,#[A],#[zn,#[zae],#[pvx,7],#[zn,#[zL],#[R5],#[zn,#[zae],#[zn,#[zbf],#[zt,#[zfy],T.QG,boot_min,#[za,#[Rn],#[UM]]],#[pvx,7]],#[zh]]]]],#[ze,#[zr,9,zbp.nd,#[U9],#[zaN,(@zfm _ rfl),T.Qb,boot_list,#[ya,#[zaN,(@zg3 _),T.Kz,lb,#[UM]]]]],#[zl,#[zJ,#[zaf,#[za,#[pvx,6],#[za,#[pvx,7],#[ya,#[zaN,#[zb0],T.OP,lB,#[ya,#[zaQ,(Ki.of (N':=["j","left","plan"]) (ix:=[none,some 9,some 4]) (zi zcJ) _ rfl rfl rfl),#[zay],#[zap,T.Kz,#[ya,#[Vo]]],#[ut],#[wP],(fun _ _ _ _=>(@zoj _ (K) _ _ _ _ _ _ _ _ _ _ _ rfl bv f7 f8 (@zlp _) #[ww] #[ya,#[zn,#[zL],#[zx,#[Xn],#[QT],#[zn,#[zae],#[zh],#[wn]]],#[zt,#[za0,(K)],T.LL,bM,#[RT]]]] (by rfl) (by rfl) (by rfl) (by rfl) (by rfl)))]]]]]]]]]]]]])))],?_⟩;refine zpi ?_; intro GF C8 Bn uI qD pP;refine (mr rfl (mr rfl (ex5 a ns at' 20 27720 ⟨rfl,hS,mS,a0,a1,#[D],#[D],#[D],#[D],fun l ds H1 hl s1 hd nZ=>?_⟩)));have AH:ds.length=20:=hd.1;have dat:∀ m:Int,0<=m->m < 20->∃ c:Int,atI (ds.map V.int) m=some (.int c):=fun m h0 h1=>zbV h0 #[O]
  refine⟨by show 23<=sizeLine; rw [aS]; decide,fun pr Ca=>?_⟩;have Ik:l≠pr:=zj nZ Ca;obtain⟨d0,ed0⟩:=dat 0 #[D] #[D];obtain⟨d1,ed1⟩:=dat 1 #[D] #[D];obtain⟨d2,ed2⟩:=dat 2 #[D] #[D];obtain⟨d3,ed3⟩:=dat 3 #[D] #[D];have Cc:#[RM] l=some #[Sv]:=by rw [zg Ik]; exact nZ
  obtain⟨p1,mp1,ep1⟩:=zlF (ns:=zG) (k:=d0 % 23) (aQ _ #[D]) (aK _ #[D]);obtain⟨p2,mp2,ep2⟩:=zlF (ns:=zG) (k:=d0 % 3) (aQ _ #[D]) (by have:=aK d0 (show (0:Int) < 3 by decide); have e:(zG.length:Int)=23:=rfl; lia);obtain⟨p,ep,Gz⟩:=zol (x:=p1) (y:=p2) (m:=d1 % 2) (aQ _ #[D]) (aK _ #[D]);have mp:p∈zG:=by rcases Gz with e | e <;> rw [e] <;> assumption
  have rp:=zQ mp;refine⟨_,rfl,_,rfl,l,_,_,_,rfl,rfl,mB.of Cc,ed0,_,_,rfl,rfl,(by show (0:Int) < 23; decide),pr,_,_,_,rfl,rfl,mB.of zb,ep1,
   _,rfl,_,rfl,l,_,_,_,rfl,rfl,mB.of Cc,ed0,_,_,rfl,rfl,(by show (0:Int) < 3; decide),pr,_,_,_,rfl,rfl,mB.of zb,ep2,zbb,fun l2 pJ=>?_⟩
  have Il:l≠l2:=zj Cc pJ;have Ee:(mz #[RM] l2 (.lst [.int p1,.int p2])) l=some #[Sv]:=by rw [zg Il]; exact Cc
  refine (mr rfl (ex4 l _ _ _ ⟨rfl,rfl,mB.of Ee,ed1,(mJ rfl rfl ⟨(by show (0:Int) < 2; decide),l2,_,_,_,rfl,rfl,mB.of zb,ep,?_⟩)⟩));have B6:(0:Int) < (if p < mk then p else mk):=by split <;> lia
  have xn:(if p < mk then p else mk)<=mk:=by split <;> lia
  have hm3:(if p < mk then p else mk)<=p:=by split <;> lia
  refine⟨_,rfl,l,_,_,_,rfl,rfl,mB.of Ee,ed2,_,rfl,_,rfl,_,_,rfl,_,_,rfl,rfl,B6,_,_,rfl,rfl,?_⟩;generalize (if p < mk then p else mk)=mm at B6 xn hm3 |-;have GB:=aQ d2 (show mm≠0 by lia);have GH:=aK d2 B6;have GA:(if p < mn then p else mn)<=mn:=by split <;> lia
  have xf:(if p < mn then p else mn)<=p:=by split <;> lia
  have hn3:mm<=(if p < mn then p else mn):=by split <;> lia
  refine (mr rfl (mr rfl (ex4 l _ _ _ ⟨rfl,rfl,mB.of Ee,ed3,(mr rfl (mr rfl ⟨_,_,rfl,(mr rfl (mJ rfl rfl (mJ rfl rfl (mJ rfl rfl ⟨#[O],#[SL]⟩))))⟩))⟩)));generalize (if p < mn then p else mn)=nn at GA xf hn3 |-;have GI:=aQ d3 (show nn - (1+d2 % mm)+1≠0 by lia);have tw:=aK d3 (show 0 < nn - (1+d2 % mm)+1 by lia);refine (mr rfl ⟨p,rfl,fun r Ef=>⟨r,p,rfl,zb,#[O],#[O],fun lf Im=>?_⟩⟩);have B9:l≠r:=zj Ee Ef;have Fi:l≠lf:=by
   refine zj (H:=mz (mz #[RM] l2 (.lst [.int p1,.int p2])) r (.rng 0 p)) (o:=.lst (ds.map V.int)) ?_ Im;rw [zg B9]; exact Ee
  have sA:zy H (mz #[RM] l2 (.lst [.int p1,.int p2])):=(s1.trans (zd Ca)).trans (zd pJ);have sB:=#[XC].trans (zd (o:=.lst ((zb3 0 p.toNat).map V.int)) Im);have Io:H lf=none:=#[XC].free Im;obtain⟨nd0,rg0⟩:=zj2 p;refine⟨_,rfl,_,rfl,_,rfl,_,rfl,#[O],#[O],z6 (n:=(1+d2 % mm+d3 % (nn - (1+d2 % mm)+1)).toNat) (fun i ys H'=>∃ xs ls:List Int,ys=xs.map V.int/\xs.length=i/\zy H H'/\H' l=some #[Sv]/\H' lf=some (.lst (ls.map V.int))/\ls.length+i=p.toNat/\(xs++ls).Nodup/\∀ y∈xs++ls,0<=y/\y < p)
   ⟨[],zb3 0 p.toNat,rfl,rfl,sB,by rw [zg Fi,zg B9]; exact Ee,zb,by rw [zc0]; rfl,by simpa using nd0,by simpa using rg0⟩ #[Sg] #[RJ] ?_ ?_⟩
  ·rintro zS zT zE i x ys H4 H5 hi ⟨xs,ls,rfl,hxl,s4,C9,Bo,GJ,nd,rg⟩ ⟨rfl,rfl⟩;refine gY ?_;obtain⟨c,ec⟩:=dat (4+(0+(i:Int))) #[O] #[O];have lpos:0 < ls.length:=by lia
   have lm:((ls.map V.int).length:Int)=(ls.length:Int):=by rw [ae]
   have c0:=aQ c (show (ls.length:Int)≠0 by lia);have c1:=aK c (show (0:Int) < ls.length by lia);have qj:=aS;obtain⟨y,ey⟩:∃ y,ls[(c % (ls.length:Int)).toNat]? = some y:=⟨ls[(c % (ls.length:Int)).toNat]'#[O],#[M]⟩;refine (mr rfl ⟨.inl ⟨rfl,_,mB.of Bo⟩,(mr rfl (mr rfl (mJ rfl rfl (ex4 l _ _ _ ⟨rfl,rfl,mB.of C9,ec,(mr rfl ⟨lf,(mr rfl ⟨.inl (mB.of Bo),(mJ rfl rfl ⟨(by rw [lm]; lia),lf,_,_,(c % (ls.length:Int)).toNat,.int y,rfl,rfl,Bo,?_⟩)⟩)⟩)⟩))))⟩);rw [lm];refine⟨#[O],#[O],by rw [ae]; exact gN c0 c1,by rw [ao,ey]; rfl,zaA (by rw [ae]; lia),xs++[y],ls.eraseIdx (c % (ls.length:Int)).toNat,by rw [aw]; rfl,by rw [aH,hxl]; rfl,zaR s4 Io,by rw [zg Fi]; exact C9,by rw [zb,zfQ],?_,zmT ey nd rg⟩;rw [List.length_eraseIdx];split <;> lia
  ·rintro ys H4 D ⟨xs,ls,rfl,hxl,s4,C9,Bo,GJ,nd,rg⟩ hD;refine⟨D,(mr rfl (.inl ⟨mB.of zb,fun tt De=>⟨by show 3<=sizeLine; rw [aS]; decide,fun c hc=>?_⟩⟩))⟩;have s5:=(s4.trans (zd (o:=.lst (xs.map V.int)) hD)).trans (zd (o:=.tup (xs.map V.int)) De);refine q c tt p _ xs _ (s5.free hc) (s5.trans (zd hc)) ⟨mp,#[O],#[O],#[O],#[O],(fu.mp nd).1,fun y hy=>rg y (aD _ hy)⟩ zb ?_;rw [zg (zj zb hc)];exact zb
theorem zbq:Kg ["p","polynomial","x","total","power","number"] ["p","polynomial","x"] (zi zcV):=#[S]
theorem zdh (T:Txt K mg t) (F:Fun K "_law_value" "_law_value" zcV t.M1 fd):Kq P w K mg base CX0 1 t.M1 fd ["p","polynomial","x"] (zik K):=by
 refine F.ok zbq #[ol] #[ac]
 ·obtain⟨p,x,a,cs,rfl,_⟩:=h;rfl
 ·obtain⟨p,x,a,cs,rfl,hS,p0,p1,x0,x1,q⟩:=h;refine zaG ?_; intro zX;refine⟨_,#[ze,#[zr,3,zbq.nd,#[A],#[zh]],#[ze,#[zr,4,zbq.nd,#[A],#[zh]],#[ze,#[za6,bD,(@zoi _ _ _ _ #[ww]),#[zm,5,zbq.nd,#[A]],#[ze,#[zr,3,zbq.nd,#[A],#[zn,#[zL],#[zn,#[zae],#[Rn],#[zn,#[zai],#[Uf],#[TJ]]],#[wn]]],#[zl,#[zr,4,zbq.nd,#[A],#[zn,#[zL],#[zn,#[zai],#[TJ],#[QT]],#[wn]]]]]],#[zl,#[zJ,#[Rn]]]]]],?_⟩;refine zgb ?_; intro uI qD pP;refine (mr rfl ⟨a,rfl,?_⟩);rcases hS with hS | hS
  ·refine .inl ⟨⟨_,hS⟩,zba (K:=K) (a:=a) (xs:=cs.map V.int) (fun i σ H'=>H'=H/\∃ (mR power:Int) (nb:Option V),σ = [some #[Wg],some #[Rf],some #[Xm],some (.int mR),some (.int power),nb]/\0<=power/\power<=97/\lv p x mR power (cs.drop i)=lv p x 0 1 cs)
    ⟨rfl,0,1,none,rfl,#[D],#[D],rfl⟩ (fun i σ H' _ ⟨e,_⟩=>by rw [e]; exact hS) ?_ ?_⟩
   ·rintro zD zT i y σ H1 hy ⟨rfl,mR,power,nb,rfl,w0,w1,hl⟩;obtain⟨c,rfl,hc⟩:=zaJ hy;have m0:=aQ (power*x) (show p≠0 by lia);have m1:=aK (power*x) p0;refine #[SS];refine (mr rfl (mr rfl #[Ta]));exact⟨rfl,_,_,_,rfl,m0,#[O],(zi3 hc).symm.trans hl⟩
   ·rintro σ H1 ⟨rfl,mR,power,nb,rfl,w0,w1,hl⟩;rw [ae,fW] at hl;have hl:mR=lv p x 0 1 cs:=hl;rw [ziZ p0] at hl;rw [<- hl] at q;exact (mr rfl q)
  ·refine .inr ⟨⟨_,hS⟩,zlr (K:=K) (a:=a) (xs:=cs.map V.int) (fun i σ H'=>H'=H/\∃ (mR power:Int) (nb:Option V),σ = [some #[Wg],some #[Rf],some #[Xm],some (.int mR),some (.int power),nb]/\0<=power/\power<=97/\lv p x mR power (cs.drop i)=lv p x 0 1 cs)
    ⟨rfl,0,1,none,rfl,#[D],#[D],rfl⟩ (fun i σ H' _ ⟨e,_⟩=>by rw [e]; exact hS) ?_ ?_⟩
   ·rintro zD zT i y σ H1 hy ⟨rfl,mR,power,nb,rfl,w0,w1,hl⟩;obtain⟨c,rfl,hc⟩:=zaJ hy;have m0:=aQ (power*x) (show p≠0 by lia);have m1:=aK (power*x) p0;refine #[SS];refine (mr rfl (mr rfl #[Ta]));exact⟨rfl,_,_,_,rfl,m0,#[O],(zi3 hc).symm.trans hl⟩
   ·rintro σ H1 ⟨rfl,mR,power,nb,rfl,w0,w1,hl⟩;rw [ae,fW] at hl;have hl:mR=lv p x 0 1 cs:=hl;rw [ziZ p0] at hl;rw [<- hl] at q;exact (mr rfl q)
theorem zoK (xs:List V) (j:Nat):zdb xs none (some (j:Int))=xs.take j:=by
 unfold zdb;rw [HT.OS,HT.NZ,gl,gL];by_cases h:j<=xs.length
 ·rw [lC h]
 ·rw [show min j xs.length=xs.length by lia,bj (ai _),bj (show xs.length<=j by lia)]
theorem zbY:Kg ["p","polynomial","x","value","number"] ["p","polynomial","x"] (zi zct):=#[S]
theorem zcK (T:Txt K mg t) (F:Fun K "value_at" "value_at" zct t.Mc fd):Kq P w K mg base CX0 1 t.Mc fd ["p","polynomial","x"] (zdY K):=by
 refine F.ok zbY #[ol] #[ac]
 ·obtain⟨p,x,a,cs,rfl,_⟩:=h;rfl
 ·obtain⟨p,x,a,cs,rfl,hS,p0,p1,x0,x1,q⟩:=h;refine zaG ?_; intro zX;refine⟨_,#[ze,#[zr,3,zbY.nd,#[A],#[zh]],#[ze,#[za6,bD,(@zoh _ _ _ _ _ _ rfl T.OT #[RT] (by rfl)),#[zm,4,zbY.nd,#[A]],#[zl,#[zr,3,zbY.nd,#[A],#[zn,#[zL],#[zn,#[zae],#[zn,#[zai],#[Rn],#[QT]],#[TJ]],#[wn]]]]],#[zl,#[zJ,#[Rn]]]]],?_⟩;refine zfi ?_; intro qD pP;refine (mr rfl ⟨a,cs.map V.int,rfl,?_⟩);rcases hS with hS | hS
  ·refine .inl ⟨hS,?_⟩;rw [ae];refine zgd (n:=cs.length) (fun i σ H'=>H'=H/\∃ nb,σ = [some #[Wg],some #[Rf],some #[Xm],some (.int (zw p x #[No])),nb]) ⟨rfl,none,by rw [gl,fW]; rfl⟩
    (fun i σ H' hi ⟨e,_⟩=>⟨hi,cs.map V.int,by rw [e]; exact hS,by rw [ae]⟩) (fun σ H' _=>ai _) ?_ ?_
   ·rintro zD zT i y σ H1 H2 hi ⟨rfl,nb,rfl⟩ ⟨rfl,hy⟩;obtain⟨c,rfl,hc⟩:=zaJ (hy _ hS);have v0:=zbS (x:=x) p0 #[No];have v1:=zbT (x:=x) p0 #[No];refine #[ST];refine⟨rfl,some (.int c),?_⟩;rw [zfR hi hc];show _ = [some (V.int p),_,_,some (V.int ((c+x*zw p x #[No]) % p)),_];rw [Int.add_comm c,kq x];rfl
   ·rintro σ H1 ⟨rfl,nb,rfl⟩;rw [fc,gL];exact (mr rfl q)
  ·refine .inr ⟨hS,?_⟩;rw [ae];refine zgd (n:=cs.length) (fun i σ H'=>H'=H/\∃ nb,σ = [some #[Wg],some #[Rf],some #[Xm],some (.int (zw p x #[No])),nb]) ⟨rfl,none,by rw [gl,fW]; rfl⟩
    (fun i σ H' hi ⟨e,_⟩=>⟨hi,cs.map V.int,by rw [e]; exact hS,by rw [ae]⟩) (fun σ H' _=>ai _) ?_ ?_
   ·rintro zD zT i y σ H1 H2 hi ⟨rfl,nb,rfl⟩ ⟨rfl,hy⟩;obtain⟨c,rfl,hc⟩:=zaJ (hy _ hS);have v0:=zbS (x:=x) p0 #[No];have v1:=zbT (x:=x) p0 #[No];refine #[ST];refine⟨rfl,some (.int c),?_⟩;rw [zfR hi hc];show _ = [some (V.int p),_,_,some (V.int ((c+x*zw p x #[No]) % p)),_];rw [Int.add_comm c,kq x];rfl
   ·rintro σ H1 ⟨rfl,nb,rfl⟩;rw [fc,gL];exact (mr rfl q)
theorem za8:Kg ["p","number","product","square","left"] ["p","number"] (zi zcS):=#[S]
theorem zix (T:Txt K mg t) (F:Fun K "inverse" "inverse" zcS t.inverse fd):Kq P w K mg base CX0 1 t.inverse fd ["p","number"] (zil K):=by
 refine F.ok za8 #[ol] #[ac]
 ·obtain⟨p,h,rfl,_⟩:=h;rfl
 ·obtain⟨p,hh,rfl,mp,h0,h1,q⟩:=h;refine zaG ?_; intro zX;refine⟨_,#[ze,#[zr,2,za8.nd,#[A],#[zh]],#[ze,#[zr,3,za8.nd,#[A],#[zn,#[zL],#[ww],#[wn]]],#[ze,#[zr,4,za8.nd,#[A],#[zn,#[zbf],#[wn],#[zh]]],#[ze,(@zk5 _ _ _ _ _ _ bD #[zA,#[zlb],#[TJ],#[zh],(zF _)] #[ze,#[zan,#[zA,#[zaX],#[zn,#[zL],#[TJ],#[zh]],#[zh],(zF _)],#[zl,#[zr,2,za8.nd,#[A],#[zn,#[zL],#[zn,#[zai],#[QT],#[Rn]],#[wn]]]],#[zO]],#[ze,#[zr,3,za8.nd,#[A],#[zn,#[zL],#[zn,#[zai],#[Rn],#[Rn]],#[wn]]],#[zl,(@zn3 _ _ (4) _ _ _ _ _ _ za8.nd rfl #[A] #[zh] zk9 (by trivial))]]]),#[zl,#[zJ,#[QT]]]]]]],?_⟩;refine zph ?_; intro Bn uI qD pP;have rp:=zQ mp;have e0:=aQ hh (show p≠0 by lia);have e1:=aK hh (show 0 < p by lia);refine (mr rfl (mr rfl (mJ rfl rfl ⟨(by show 0 < p; lia),(mr rfl #[SL])⟩)));refine zk7 (fun σ H'=>H'=H/\∃ (prod sq left:Int) (n:Nat),σ = [some #[Wg],some (.int hh),some (.int prod),some (.int sq),some (.int left)]/\0<=prod/\prod < p/\0<=sq/\sq < p/\0<=left/\left < 2 ^ n/\zcO p n prod sq left=inv p hh) (fun σ _=>zom σ)
   ⟨rfl,1,hh % p,p - 2,7,rfl,#[O],#[O],e0,e1,#[O],#[O],rfl⟩ ?_ ?_
  ·rintro σ H1 ⟨rfl,prod,sq,left,n,rfl,b0,b1,s0,s1,l0,l1,hi⟩;refine #[Sf];refine zaY (fun hl=>?_) (fun hl=>?_)
   ·have hl:0 < left:=by simpa using hl
    obtain⟨m,rfl⟩:∃ m,n=m+1:=by
     cases n with
     | zero=>lia
     | succ m=>exact⟨m,rfl⟩
    rw [zgk hl l1] at hi;have l2:left / 2 < 2 ^ m:=by
     have:(2:Int) ^ (m+1)=2 ^ m*2:=Int.pow_succ ..;lia
    have m0:=aQ (prod*sq) (show p≠0 by lia);have m1:=aK (prod*sq) (show 0 < p by lia);have n0:=aQ (sq*sq) (show p≠0 by lia);have n1:=aK (sq*sq) (show 0 < p by lia);refine (mr rfl (mJ rfl rfl ⟨(by show (0:Int) < 2; decide),rfl,#[Db]⟩)); refine zaY (fun ho=>?_) (fun ho=>?_)
    ·have ho:left % 2=1:=by simpa using ho
     rw [if_pos ho] at hi;refine (mr rfl (mr rfl (mJ rfl rfl ⟨.inl #[IO],(mr rfl (mJ rfl rfl ⟨(by show 0 < p; lia),?_⟩))⟩)));refine (mr rfl (mr rfl (mJ rfl rfl ⟨.inl #[IO],(mr rfl (mJ rfl rfl ⟨(by show 0 < p; lia),?_⟩))⟩)));refine (mr rfl (mJ rfl rfl ⟨#[P3],⟨rfl,_,_,_,m,rfl,m0,m1,n0,n1,#[O],l2,hi⟩,?_⟩));show (left / 2).toNat < left.toNat;lia
    ·have ho:¬ left % 2=1:=by simpa using ho
     rw [if_neg ho] at hi;refine (mr rfl (mr rfl (mJ rfl rfl ⟨.inl #[IO],(mr rfl (mJ rfl rfl ⟨(by show 0 < p; lia),?_⟩))⟩)));refine (mr rfl (mJ rfl rfl ⟨#[P3],⟨rfl,_,_,_,m,rfl,b0,b1,n0,n1,#[O],l2,hi⟩,?_⟩));show (left / 2).toNat < left.toNat;lia
   ·have hl:¬ 0 < left:=by simpa using hl
    have el:left=0:=by lia
    subst el;rw [zg9] at hi;rw [<- hi] at q;exact (mr rfl q)
  ·rintro σ H1 Q1 Q2 hq ⟨v,e,i,j,e1,e2,k,e3,q⟩;exact⟨v,e,i,j,e1,e2,k,e3,hq _ _ q⟩
theorem zb5:Kg ["p","polynomial","root","raised","kept"] ["p","polynomial","root"] (zi zbi):=#[S]
theorem zfq (T:Txt K mg t) (F:Fun K "times_root" "times_root" zbi t.K4 fd):Kq P w K mg base CX0 1 t.K4 fd ["p","polynomial","root"] (zfn K):=by
 refine F.ok zb5 #[ol] #[ac]
 ·obtain⟨p,r,a,cs,rfl,_⟩:=h;rfl
 ·obtain⟨p,r,a,cs,rfl,ha,mS,p0,r0,r1,q⟩:=h;refine zaG ?_; intro zX;refine⟨_,#[ze,#[zr,3,zb5.nd,#[A],#[zn,#[zb1],#[zK,#[RI]],#[ww]]],#[ze,#[zr,4,zb5.nd,#[A],#[zn,#[zb1],#[ww],#[zK,#[RI]]]],#[zl,#[zJ,#[zaQ,(Ki.of (N':=["high","low","root","p"]) (ix:=[none,none,some 2,some 0]) (zi zbi) _ rfl rfl rfl),#[KB],#[zej,T.Qk,#[V8]],#[or],#[wP],#[WH]]]]]],?_⟩;refine zfi ?_; intro qD pP;have qj:=aS;refine⟨by show 1<=sizeLine; lia,fun z hz=>(mr rfl (ex4 z a ([.int 0]) #[SA] ⟨rfl,rfl,zb,by rw [zg (zj ha hz)]; exact ha,by rw [ae]; show 1+cs.length<=sizeLine; lia,fun ra qH=>?_⟩))⟩;have s1:zy H (mz (mz H z (.lst [.int 0])) ra (.lst ([.int 0]++cs.map V.int))):=(zd hz).trans (zd qH);refine (mr rfl ⟨by show 1<=sizeLine; lia,fun z2 yw=>(ex4 a z2 #[SA] ([.int 0]) ⟨rfl,rfl,by rw [zg (zj (s1 _ _ ha) yw)]; exact s1 _ _ ha,zb,by rw [ae]; show cs.length+1<=sizeLine; lia,fun ke hke=>?_⟩)⟩);have s2:=s1.trans ((zd (o:=.lst [.int 0]) yw).trans (zd (o:=.lst (cs.map V.int++[.int 0])) hke));have yJ:mz (mz (mz (mz H z (.lst [.int 0])) ra (.lst ([.int 0]++cs.map V.int))) z2 (.lst [.int 0])) ke (.lst (cs.map V.int++[.int 0])) ra=some (.lst ((0 :: cs).map V.int)) :=
   ((zd (o:=.lst [.int 0]) yw).trans (zd (o:=.lst (cs.map V.int++[.int 0])) hke)) _ _ zb
  have yK:mz (mz (mz (mz H z (.lst [.int 0])) ra (.lst ([.int 0]++cs.map V.int))) z2 (.lst [.int 0])) ke (.lst (cs.map V.int++[.int 0])) ke=some (.lst ((cs++[0]).map V.int)):=by rw [zb,aw]; rfl
  generalize mz (mz (mz (mz H z (.lst [.int 0])) ra (.lst ([.int 0]++cs.map V.int))) z2 (.lst [.int 0])) ke (.lst (cs.map V.int++[.int 0]))=H2 at s2 yJ yK |-;refine (mr rfl (mr rfl (ex4 ra ke _ _ ⟨rfl,mB.of yJ,mB.of yK,z6 (n:=cs.length+1) (fun i ys H'=>ys=((zc1 p r cs).take i).map V.int/\zy H2 H') ⟨#[M],fun _ _ e=>e⟩ ?_ ?_ ?_ ?_⟩)))
  ·rintro i ys H3 hi ⟨_,s3⟩;obtain⟨x,hx⟩:∃ x,(0 :: cs)[i]? = some x:=⟨(0 :: cs)[i]'(by simpa using hi),#[M]⟩;obtain⟨y,hy⟩:∃ y,(cs++[0])[i]? = some y:=⟨(cs++[0])[i]'(by simpa using hi),#[M]⟩;exact⟨_,_,.int x,.int y,mB.of (s3 _ _ yJ),mB.of (s3 _ _ yK),by rw [ao,hx]; rfl,by rw [ao,hy]; rfl⟩
  ·rintro ys H3 ⟨_,s3⟩;exact⟨_,_,mB.of (s3 _ _ yJ),mB.of (s3 _ _ yK),.inl #[M]⟩
  ·rintro zS zT zE i x ys H3 H4 hi ⟨rfl,s3⟩ ⟨T,u,v,hT,rfl,rfl,hu,hv⟩;obtain⟨x,rfl,hx⟩:=zaJ (hu _ (mB.of (s3 _ _ yJ)));obtain⟨y,rfl,hy⟩:=zaJ (hv _ (mB.of (s3 _ _ yK)));refine gY2 (mK.of zb) ?_;refine (mr rfl (mr rfl (mr rfl (mJ rfl rfl ⟨.inl #[IO],(mJ rfl rfl (mr rfl (mJ rfl rfl ⟨p0,zaA ?_,?_,s3.trans (zd hT)⟩)))⟩))))
   ·rw [ae];exact bn (gv _ _) #[O]
   ·show _=(List.take (i+1) (aU #[Va] (0 :: cs) (cs++[0]))).map V.int;rw [zha hx hy,aw];rfl
  ·rintro ys H3 D ⟨rfl,s3⟩ hD;refine q D _ ((s2.trans s3).free hD) ((s2.trans s3).trans (zd hD)) ?_;rw [zb,bj (by rw [zfM]; exact ai _)]
theorem zmc {p f:Int}:∀ (cs vs:List Int),vs.length<=cs.length->ad p f cs vs=aU (fun number other=>(number+f*other) % p) cs vs++cs.drop vs.length
 | [],[],_=>rfl
 | _ :: _,[],_=>rfl
 | [],_ :: _,h=>by simp at h
 | c :: cs,v :: vs,h=>by
  show (c+f*v) % p :: ad p f cs vs=(c+f*v) % p :: (aU _ cs vs++cs.drop vs.length);rw [zmc cs vs (by simpa using h)]
theorem zmd (h:k<=xs.length):zdb xs (some (k:Int)) none=xs.drop k:=by
 have e1:HT.sIx xs.length 0 (some (k:Int))=k:=by
  unfold HT.sIx;simp;split <;> lia
 have e2:HT.sIx xs.length xs.length none=xs.length:=rfl;unfold zdb;rw [e1,e2];exact bj (by rw [cB]; exact ai _)
noncomputable def zne (K:af):Sp:=fun vs H Q _=>∃ (p x y:Int) (c v b:Addr) (cs ws:List Int),vs = [.int p,.ref c,.ref v,.ref b]/\H c=some (.lst #[SA])/\H v=some (.lst (ws.map V.int))/\H b=some (.tup [.int x,.int y])/\p∈zG/\0<=x/\x < p/\0<=y/\y < 10000/\0 < zw p x ws/\zw p x ws < p/\ws.length<=cs.length/\cs.length<=1000 /\
 ∀ (l:Addr) (H':Hp),H l=none->zy H H'->H' l=some (.lst ((ad p (#[VH]*inv p (zw p x ws) % p) cs ws).map V.int))->Q #[Su] H'
theorem zcX:Kg ["p","polynomial","vanishing","point","x","y","missing","factor","added"] ["p","polynomial","vanishing","point"] (zi zeY):=#[S]
theorem znf (T:Txt K mg t) (F:Fun K "bent" "bent" zeY t.Qy fd):Kq P w K mg base CX0 2 t.Qy fd ["p","polynomial","vanishing","point"] (zne K):=by
 obtain⟨oU,mZ,m8⟩:=T.KC;have nC:=zcK (P:=P) (w:=w) (base:=base) T mZ;obtain⟨vY,tS,qI⟩:=T.Mx;have xr:=zix (P:=P) (w:=w) (base:=base) T tS;refine F.ok zcX #[ol] #[ac]
 ·obtain⟨p,x,y,c,v,b,cs,ws,rfl,_⟩:=h;rfl
 ·obtain⟨p,x,y,c,v,b,cs,ws,rfl,hc,hv,hb,mp,x0,x1,y0,y1,g0,g1,hle,mS,q⟩:=h;refine zaG ?_; intro zX;refine⟨_,#[ze,#[za5,#[Rn],#[zbe,#[zq,#[zm,4,zcX.nd,#[A]],#[zq,#[zm,5,zcX.nd,#[A]],#[zY]]]]],#[ze,#[zr,6,zcX.nd,#[A],#[zn,#[zbf],#[Uf],#[zI,nC,#[pc],T.K5,mZ.kp,m8,#[zP],#[za,#[wn],#[za,#[ww],#[Q4]]]]]],#[ze,#[zr,7,zcX.nd,#[U9],#[zn,#[zL],#[zn,#[zai],#[pvx,6],#[zI,xr,#[pc],T.OX,tS.kp,qI,#[zP],#[za,#[wn],#[ya,#[zI,nC,#[pc],T.K5,mZ.kp,m8,#[zP],#[za,#[wn],#[za,#[QT],#[Q4]]]]]]]],#[wn]]],#[ze,#[zaz,8,zcX.nd,#[A],(Ki.of (N':=["number","other","factor","p"]) (ix:=[none,none,some 7,some 0]) (zi zeY) _ rfl rfl rfl),#[KB],#[zej,T.Qk,#[za,#[ww],#[VQ]]],#[or],#[wP],#[WI]],#[zl,#[zJ,#[zn,#[zb1],#[Vo],#[zdj,zei,#[ww],#[zeh,#[zt,#[zB],T.LL,bM,#[ya,#[Vo]]]],#[zeg]]]]]]]]],?_⟩;refine zph ?_; intro Bn uI qD pP;have qj:=aS;have rp:=zQ mp;have p0:0 < p:=by lia
  have v0:=zbS (x:=x) p0 cs;have v1:=zbT (x:=x) p0 cs;refine⟨_,rfl,b,_,rfl,mK.of hb,rfl,_,_,rfl,_,_,rfl,rfl,?_⟩;refine (mr rfl (mr rfl (mr rfl (mr rfl (ex4 p x c cs ⟨rfl,.inl (mB.of hc),p0,#[O],x0,x1,#[SL]⟩)))));refine (mr rfl (mr rfl (mr rfl (mr rfl (mr rfl (ex4 p x v ws ⟨rfl,.inl (mB.of hv),p0,#[O],x0,x1,p,(mr rfl ⟨mp,#[O],#[O],#[Ta]⟩)⟩))))));have f0:=aQ (#[VH]*inv p (zw p x ws)) (show p≠0 by lia);have f1:=aK (#[VH]*inv p (zw p x ws)) p0;refine (mr rfl (mr rfl (ex4 c v _ _ ⟨rfl,mB.of hc,mB.of hv,zdN (n:=ws.length) (f:=fun number other=>(number+(#[VH]*inv p (zw p x ws) % p)*other) % p) hc hv hle (ai _) (.inr (ai _)) #[O] ?_ ?_⟩)))
  ·intro j u w H6 T R B hu hv s6 hT hR;refine gY2 (mK.of zb) ?_;exact #[xz]
  ·intro D H6 s6 hD;obtain⟨f,hf⟩:∃ f,(y - zw p x cs)*inv p (zw p x ws) % p=f:=⟨_,rfl⟩;rw [hf] at q |-;have lz:(aU (fun number other=>(number+f*other) % p) cs ws).length=ws.length:=by rw [gu]; lia
   have s7:=s6.trans (zd (o:=.lst ((aU (fun number other=>(number+f*other) % p) cs ws).map V.int)) hD);have Ip:mz H6 D (.lst ((aU (fun number other=>(number+f*other) % p) cs ws).map V.int)) D=some (.lst ((aU (fun number other=>(number+f*other) % p) cs ws).map V.int)):=zb;generalize mz H6 D (.lst ((aU (fun number other=>(number+f*other) % p) cs ws).map V.int))=H7 at s7 Ip |-;have GL:=s7 _ _ hc;refine (mr rfl (mr rfl (mr rfl ⟨D,(mr rfl ⟨.inl (mB.of Ip),?_⟩)⟩)));refine (mr rfl ⟨c,(mr rfl ⟨mB.of GL,fun z hz=>?_⟩)⟩);have ec:zdb #[SA] (some ((((aU (fun number other=>(number+f*other) % p) cs ws).map V.int).length:Nat):Int)) none=(cs.drop ws.length).map V.int:=by
    rw [ae,lz,zmd (by rw [ae]; exact hle),lV]
   rw [ec];have s8:=zd (o:=.lst ((cs.drop ws.length).map V.int)) hz;refine (ex4 D z _ _ ⟨rfl,rfl,s8 _ _ Ip,zb,by rw [ae,ae,lz,cB]; lia,fun l hl=>q l _ (((s7.trans s8).free hl)) ((s7.trans s8).trans (zd hl)) ?_⟩);rw [zb,zmc cs ws hle,aw]
theorem za9:Kg ["p","points","polynomial","vanishing","x","y"] ["p","points"] (zi zcT):=#[S]
theorem ziy (T:Txt K mg t) (F:Fun K "through" "through" zcT t.through fd):Kq P w K mg base CX0 3 t.through fd ["p","points"] (zhH K):=by
 obtain⟨Bp,yL,vZ⟩:=T.O7;have Df:=znf (P:=P) (w:=w) (base:=base) T yL;obtain⟨tz,qm,oA⟩:=T.K1;have uo:=zfq (P:=P) (w:=w) (base:=base) T qm;refine F.ok za9 #[ol] #[ac]
 ·obtain⟨p,a,mO,rfl,_⟩:=h;rfl
 ·obtain⟨p,a,mO,rfl,hP,mS,mp,hp,hyr,q⟩:=h;refine zaG ?_; intro zX;refine⟨_,#[ze,#[zr,2,za9.nd,#[A],#[U3]],#[ze,#[zr,3,za9.nd,#[A],#[zK,#[RI]]],#[ze,#[za6,bD,#[zao,#[ww]],#[zbe,#[zq,#[zm,4,za9.nd,#[A]],#[zq,#[zm,5,za9.nd,#[A]],#[zY]]]],#[ze,#[zr,2,za9.nd,#[A],#[zI,Df,#[pc],T.Qs,yL.kp,vZ,#[zP],#[za,#[wn],by exact #[za,#[QT],#[za,#[Rn],#[ya,#[zaf,#[za,#[TJ],#[ya,#[Uf]]]]]]]]]],#[zl,#[zr,3,za9.nd,#[A],#[zI,uo,#[pc],T.Nq,qm.kp,oA,#[zP],#[za,#[wn],#[V8]]]]]]],#[zl,#[zJ,#[zaN,#[zb0],T.OP,lB,#[VQ]]]]]]],?_⟩;refine zgb ?_; intro uI qD pP;have qj:=aS;have rp:=zQ mp;have p0:0 < p:=by lia
  obtain⟨bs,hS,yM,hb⟩:=id hP;refine⟨by show 1<=sizeLine; lia,fun z hz=>(mr rfl ⟨a,(mr rfl ⟨.inl ((zd hz).seq hS),z,_,[.int 0],rfl,rfl,zb,by rw [ae]; lia,by rw [ae]; lia,by rw [ae]; show 1*_<=sizeLine; lia,fun c hc=>?_⟩)⟩)⟩;have s0:=zd (o:=.lst [.int 0]) hz;have hcH:H c=none:=s0.free hc;refine⟨by show 1<=sizeLine; lia,fun v hv=>?_⟩;have hcv:c≠v:=zj zb hv;rw [ae,zeJ,yM,a8] at hv |-;have s2:zy H (mz (mz (mz H z (.lst [.int 0])) c (.lst (#[S6].map V.int))) v (.lst [.int 1])):=(s0.trans (zd hc)).trans (zd hv);refine⟨_,rfl,a,rfl,⟨_,s2.seq hS⟩,zba (K:=K) (a:=a) (xs:=bs.map V.ref) (fun i σ H'=>∃ (c v:Addr) (s:List Int×List Int) (e4 e5:Option V),σ = [some #[Wg],some #[Rf],some #[UX],some (.ref v),e4,e5] /\
   s=#[V2].foldl (zbU p) (ak mO.length 0,[1])/\Nw p mO.length (#[V2].map (md p)) s/\zy H H'/\H' c=some (.lst (s.1.map V.int))/\H' v=some (.lst (s.2.map V.int)))
   ⟨c,v,_,none,none,rfl,rfl,by rw [gJ]; exact zeH mp _,s2,by rw [zg hcv]; exact zb,zb⟩ (fun i σ H' _ hq=>by obtain⟨_,_,_,_,_,_,_,_,s3,_⟩:=hq; exact (s3.seq hS)) ?_ ?_⟩
  ·rintro zD zT i y σ H1 hy ⟨c,v,s,e4,e5,rfl,hs,nw,s1,tT,Iq⟩;obtain⟨b,rfl,Cd⟩:=zaB hy;obtain⟨hi,_⟩:=aj.mp Cd;obtain⟨⟨x,y⟩,hq⟩:∃ q,mO[i]? = some q:=⟨mO[i]'#[O],#[M]⟩;have Ir:=s1 _ _ (hb i b _ Cd hq);have tj:=zco hq;have sW:=hp;rw [tj,aw,bc] at sW;have Bq:=sW.apart;obtain⟨x0,x1,m0,m1⟩:=hp.rg _ (aZ.mpr ⟨_,aP hq,rfl⟩);obtain⟨y0,y1⟩:=hyr _ (aP hq);dsimp only [md] at x0 x1 m0 m1 y0 y1;have B5:i < mO.length:=by lia
   have xo:#[V2].length=i:=by rw [aI]; lia
   have Eg:=zgi mp nw (q:=md p (x,y)) (by rw [ae,xo]; exact B5) x0 x1 m0 m1 Bq;rw [zhG] at Eg;obtain⟨Fj,C6⟩:=zgh mp nw (q:=(x,y)) x0 x1 (fun a ha=>⟨(Bq a ha).1,(Bq a ha).2.1,(Bq a ha).2.2.1⟩);dsimp only at Fj C6;have oj:zbU p s (x,y)=(ad p ((y - zw p x s.1)*inv p (zw p x s.2) % p) s.1 s.2,zc1 p x s.2):=rfl;rw [oj] at Eg;have l1:=nw.lc;have l2:=nw.lv;rw [ae,xo] at l2;refine#[XH];refine (mr rfl (mr rfl (mr rfl (mr rfl (mr rfl ⟨by show 2<=sizeLine; lia,fun tt ht=>?_⟩)))));have t1:=zd (o:=.tup [.int x,.int y]) ht;refine (ex8 p x y c v tt s.1 s.2 ⟨rfl,t1 _ _ tT,t1 _ _ Iq,zb,mp,x0,x1,y0,y1,Fj,C6,#[O],#[O],fun l H3 hl s3 yN=>?_⟩);have s4:=t1.trans s3;refine (mr rfl (mr rfl (mr rfl (ex4 p x v s.2 ⟨rfl,s4 _ _ Iq,#[O],p0,#[O],#[O],fun l2 H4 pJ s5 h4l=>?_⟩))));refine (ex5 l l2 (zbU p s (x,y)) _ _ ⟨rfl,?_,?_,(s1.trans s4).trans s5,?_,?_⟩)
   ·rw [take_snoc hq,ig,<- hs];rfl
   ·rw [take_snoc hq,oj,aw];exact Eg
   ·rw [oj];exact s5 _ _ yN
   ·rw [oj];exact h4l
  ·rintro σ H1 ⟨c,v,s,e4,e5,rfl,hs,nw,s1,tT,Iq⟩;rw [ae,yM,bt] at hs;refine #[RS];rw [zb,hs,zoI];rfl
theorem za4:Kg ["code","row","p","k","places"] ["code","row"] (zi zaL):=#[S]
theorem zcA (T:Txt K mg t) (F:Fun K "heard_points" "heard_points" zaL t.Ku fd):Kq P w K mg base CX0 1 t.Ku fd ["code","row"] (znb K):=by
 refine F.ok za4 #[ol] #[ac]
 ·obtain⟨c,tt,r,p,k,pl,rw,rfl,_⟩:=h;rfl
 ·obtain⟨c,tt,r,p,k,pl,rw,rfl,hc,rL,hn,q⟩:=h;refine zaG ?_; intro zX;refine⟨_,#[ze,#[za5,#[wn],#[zbe,#[zq,#[zm,2,za4.nd,#[A]],#[zq,#[zm,3,za4.nd,#[A]],#[zq,#[zm,4,za4.nd,#[A]],#[zY]]]]]],#[zl,#[zJ,#[zaQ,(Ki.of (N':=["place","entry"]) (ix:=[none,none]) (zi zaL) _ rfl rfl rfl),#[KB],(@zlN _ _ _ _ _ _ _ _ _ rfl T.Qk #[za,#[TJ],#[RT]] (by rfl) (by rfl)),#[or],#[WC],(fun _ _ _ _=>#[zaf,#[V7]])]]]],?_⟩;refine zn9 ?_; intro pP;have qj:=aS;have hl:=rL.len;refine⟨_,rfl,c,_,rfl,mK.of hc.1,rfl,_,_,rfl,_,_,rfl,_,_,rfl,rfl,?_⟩;refine (mr rfl (mr rfl (ex4 tt r _ _ ⟨rfl,mK.of hc.2,rL.at',z6 (n:=pl.length) (fun i ys H'=>zy H H'/\∃ us:List Addr,ys=us.map V.ref/\PtB H' us (mX (pl.take i) (rw.take i))) ⟨fun _ _ e=>e,[],rfl,.nil⟩ ?_ ?_ ?_ ?_⟩)))
  ·rintro i ys H3 hi ⟨s3,_⟩;obtain⟨o,ho⟩:∃ o,rw[i]? = some o:=⟨rw[i]'#[O],#[M]⟩;exact⟨_,_,.int pl[i],mM o,mK.of (s3 _ _ hc.2),s3.seq rL.at',by rw [ao,aF hi]; rfl,by rw [ao,ho]; rfl⟩
  ·rintro ys H3 ⟨s3,_⟩;exact⟨_,_,mK.of (s3 _ _ hc.2),s3.seq rL.at',.inl (by rw [ae])⟩
  ·rintro zS zT zE i xx ys H3 H4 hi ⟨s3,us,rfl,nh⟩ ⟨T,u,v,hT,rfl,rfl,hu,hv⟩;obtain⟨x,rfl,hx⟩:=zaJ (hu _ (mK.of (s3 _ _ hc.2)));obtain⟨o,rfl,ho⟩:=zel (hv _ (s3.seq rL.at'));have v4:=zd (o:=.tup [.int x,mM o]) hT;have s4:=s3.trans v4;have hs:=zdp hx ho;have uJ:=nh.length;have hb:=zdq (pl.take i) (rw.take i);rw [aI] at hb;refine⟨T,_,rfl,mK.of zb,rfl,_,_,rfl,_,_,rfl,rfl,?_⟩;refine #[u8];cases o with
   | none =>
    refine zaP ⟨s4,us,rfl,?_⟩;rw [hs,cv];exact nh.same v4
   | some z =>
    refine zaF (mr rfl (mr rfl ⟨by show 2<=sizeLine; lia,fun T2 vQ=>⟨by rw [ae]; lia,s4.trans (zd vQ),us++[T2],by rw [aw]; rfl,?_⟩⟩));rw [hs];exact cR (nh.same (v4.trans (zd vQ))) zb
  ·rintro ys H3 D ⟨s3,us,rfl,nh⟩ hD;rw [bt,bj #[O]] at nh;exact q D us _ (s3.free hD) (s3.trans (zd hD)) zb #[Xw]
theorem z9:Kg ["p","points","found","wall","x","y","step","high","by"] ["p","points"] (zi zaM):=#[S]
theorem zgB (T:Txt K mg t) (F:Fun K "_law_through" "_law_through" zaM t.Lx fd):Kq P w K mg base CX0 2 t.Lx fd ["p","points"] (zgl K):=by
 obtain⟨pQ,ng,nr⟩:=T.K2;have nO:=zdh (P:=P) (w:=w) (base:=base) T ng;refine F.ok z9 #[ol] #[ac]
 ·obtain⟨p,a,mO,rfl,_⟩:=h;rfl
 ·obtain⟨p,a,mO,rfl,hP,mS,mp,hp,q⟩:=h;refine zaG ?_; intro zX;refine⟨_,#[ze,#[zr,2,z9.nd,#[A],#[U3]],#[ze,#[zr,3,z9.nd,#[A],#[zn,#[zb1],#[zK,#[RI]],#[U3]]],#[ze,#[za6,bD,#[zao,#[ww]],#[zbe,#[zq,#[zm,4,z9.nd,#[U9]],#[zq,#[zm,5,z9.nd,#[A]],#[zY]]]],#[ze,#[zr,6,z9.nd,#[U9],#[zn,#[zL],#[zn,#[zbf],#[Uf],#[zI,nO,#[pc],T.Lw,ng.kp,nr,#[zP],#[za,#[wn],#[za,#[QT],#[Q4]]]]],#[wn]]],#[ze,#[zr,7,z9.nd,#[U9],#[zI,nO,#[pc],T.Lw,ng.kp,nr,#[zP],#[za,#[wn],#[V8]]]],#[ze,#[zr,8,z9.nd,#[U9],#[zx,#[zC],#[zaQ,(Ki.of (N':=["number","high","p","step"]) (ix:=[none,some 7,some 0,some 6]) (zi zaM) _ rfl rfl rfl),#[zay],#[zap,T.Kz,#[ya,#[wn]]],#[ut],(fun _ _ _ _=>#[zaZ,#[zA,#[zaX],#[zn,#[zL],#[zn,#[zai],#[wn],#[ww]],#[QT]],#[Rn],(zF _)]]),#[Rk]],#[zh]]],#[ze,#[zaz,2,z9.nd,#[A],(Ki.of (N':=["one","other","by","p"]) (ix:=[none,none,some 8,some 0]) (zi zaM) _ rfl rfl rfl),#[KB],#[zej,T.Qk,#[za,#[QT],#[U6]]],#[or],#[wP],#[WI]],#[zl,#[zaz,3,z9.nd,#[A],(Ki.of (N':=["below","one","x","p"]) (ix:=[none,none,some 4,some 0]) (zi zaM) _ rfl rfl rfl),#[KB],#[zej,T.Qk,#[za,#[zn,#[zb1],#[zK,#[RI]],#[Rn]],#[U6]]],#[or],#[wP],#[WH]]]]]]]],#[zl,#[zJ,#[zaN,#[zb0],T.OP,lB,#[VQ]]]]]]],?_⟩;refine zgb ?_; intro uI qD pP;have qj:=aS;have rp:=zQ mp;have p0:0 < p:=by lia
  obtain⟨bs,hS,yM,hb⟩:=id hP;refine⟨by show 1<=sizeLine; lia,fun z hz=>(mr rfl ⟨a,(mr rfl ⟨.inl ((zd hz).seq hS),z,_,[.int 0],rfl,rfl,zb,by rw [ae]; lia,by rw [ae]; lia,by rw [ae]; show 1*_<=sizeLine; lia,fun c hc=>?_⟩)⟩)⟩;have s0:=zd (o:=.lst [.int 0]) hz;rw [ae,zeJ,yM,a8];have s1:zy H (mz (mz H z (.lst [.int 0])) c (.lst (#[S6].map V.int))):=s0.trans (zd hc);refine⟨by show 1<=sizeLine; lia,fun z1 rD=>⟨by show 1<=sizeLine; lia,fun z2 yw=>?_⟩⟩;have t1:=zd (o:=.lst [.int 1]) rD;have t2:=zd (o:=.lst [.int 0]) yw;refine (mr rfl ⟨a,(mr rfl ⟨.inl (((s1.trans t1).trans t2).seq hS),z2,_,[.int 0],rfl,rfl,zb,by rw [ae]; lia,by rw [ae]; lia,by rw [ae]; show 1*_<=sizeLine; lia,fun z3 hz3=>?_⟩)⟩);rw [ae,zeJ,yM,a8];have t3:=zd (o:=.lst (#[S6].map V.int)) hz3;refine (ex4 z1 z3 ([.int 1]) (#[S6].map V.int) ⟨rfl,rfl,(t2.trans t3) _ _ zb,zb,by rw [ae,dw]; show 1+_<=sizeLine; lia,fun wl EH=>?_⟩);have t4:=zd (o:=.lst ([.int 1]++#[S6].map V.int)) EH;have sA:=s1.trans #[Wa];have hcA:=#[Wa] _ _ (zb (H:=mz H z (.lst [.int 0])) (a:=c) (o:=.lst (#[S6].map V.int)));refine⟨_,rfl,a,rfl,⟨_,sA.seq hS⟩,zba (K:=K) (a:=a) (xs:=bs.map V.ref) (fun i σ H'=>∃ (c wl:Addr) (s:List Int×List Int) (e4 e5 e6 e7 e8:Option V),σ = [some #[Wg],some #[Rf],some #[UX],some (.ref wl),e4,e5,e6,e7,e8] /\
   s=#[V2].foldl (zbU p) (ak mO.length 0,[1])/\Nw p mO.length #[V2] s/\zy H H'/\H' c=some (.lst (s.1.map V.int))/\H' wl=some (.lst ((s.2++ak #[TF] 0).map V.int)))
   ⟨c,wl,_,none,none,none,none,none,rfl,rfl,by rw [gJ]; exact zeH mp _,sA,hcA,by rw [zb]; rfl⟩ (fun i σ H' _ hq=>by obtain⟨_,_,_,_,_,_,_,_,_,_,_,s3,_⟩:=hq; exact (s3.seq hS)) ?_ ?_⟩
  ·rintro zD zT i y σ H1 hy ⟨c,wl,s,e4,e5,e6,e7,e8,rfl,hs,nw,s1,tT,GN⟩;obtain⟨b,rfl,Cd⟩:=zaB hy;obtain⟨hi,_⟩:=aj.mp Cd;obtain⟨⟨x,y⟩,hq⟩:∃ q,mO[i]? = some q:=⟨mO[i]'#[O],#[M]⟩;have Ir:=s1 _ _ (hb i b _ Cd hq);have tj:=zco hq;have sW:=hp;rw [tj] at sW;have Bq:=sW.apart;have Fk:∀ a∈mO.take i,0<=a.1/\a.1 < p/\a.1≠x:=fun a ha=>⟨(Bq a ha).1,(Bq a ha).2.1,(Bq a ha).2.2.1⟩
   obtain⟨x0,x1,y0,y1⟩:=hp.rg _ (aP hq);dsimp only at x0 x1 y0 y1;have B5:i < mO.length:=by lia
   have xo:#[V2].length=i:=by rw [aI]; lia
   have Eg:=zgi mp nw (q:=(x,y)) (by rw [xo]; exact B5) x0 x1 y0 y1 Bq;obtain⟨Fj,C6⟩:=zgh mp nw (q:=(x,y)) x0 x1 Fk;have Br:=zfO mp nw (q:=(x,y)) x0 x1 Fk;dsimp only at Fj C6 Br;have l1:=nw.lc;have l2:=nw.lv;rw [xo] at l2;have f0:=aQ ((y - zw p x s.1)*inv p (zw p x s.2)) (show p≠0 by lia);have f1:=aK ((y - zw p x s.1)*inv p (zw p x s.2)) p0;have oj:zbU p s (x,y)=(ad p ((y - zw p x s.1)*inv p (zw p x s.2) % p) s.1 s.2,zc1 p x s.2):=rfl;obtain⟨f,hf⟩:∃ f,(y - zw p x s.1)*inv p (zw p x s.2) % p=f:=⟨_,rfl⟩;rw [hf] at f0 f1 oj Br;rw [oj] at Eg;refine#[XH];refine (mr rfl (mr rfl (mr rfl (mr rfl (ex4 p x c s.1 ⟨rfl,.inl (mB.of tT),p0,#[O],x0,x1,(mJ rfl rfl #[wE])⟩)))));refine (mr rfl (mr rfl (mr rfl (ex4 p x wl _ ⟨rfl,.inl (mB.of GN),p0,#[O],x0,x1,?_⟩))));rw [zg5];refine (mr rfl ⟨p,rfl,#[O],#[O],z6 (n:=p.toNat) (fun i ys H'=>zy H1 H'/\ys=if f < (i:Int) then [V.int f] else []) ⟨fun _ _ e=>e,by rw [if_neg #[O]]⟩ #[Sg] #[RJ] ?_ ?_⟩)
   ·rintro zS zT zE m xx ys H4 H5 hm ⟨s4,Eh⟩ ⟨rfl,rfl⟩;refine (mr rfl (mr rfl (mJ rfl rfl ⟨.inl #[IO],(mr rfl (mJ rfl rfl ⟨p0,#[u8]⟩))⟩)));refine zaY (fun ho=>?_) (fun ho=>?_)
    ·have ho:(0+(m:Int))*zw p x s.2 % p=(y - zw p x s.1) % p:=by simpa using ho
     have e:f=0+(m:Int):=zjZ mp Fj C6 Br (Cg.N0 ho) f0 f1 #[O] #[O];rw [if_neg #[O]] at Eh;subst Eh;refine (mr rfl ⟨zaA (by show 0<=10000; decide),s4,?_⟩);rw [if_pos #[O],e];rfl
    ·have ho:¬ (0+(m:Int))*zw p x s.2 % p=(y - zw p x s.1) % p:=by simpa using ho
     have e:f≠(m:Int):=fun e=>ho (by rw [eA,<- e]; exact Br.mod_eq)
     refine⟨s4,?_⟩;rw [Eh];by_cases hfm:f < (m:Int)
     ·rw [if_pos hfm,if_pos #[O]]
     ·rw [if_neg hfm,if_neg #[O]]
   ·rintro ys H4 D ⟨s4,Eh⟩ hD;rw [if_pos #[O]] at Eh;subst Eh;refine (ex4 D _ _ _ ⟨rfl,rfl,mB.of zb,rfl,?_⟩);have s5:=s4.trans (zd (o:=.lst [.int f]) hD);generalize mz H4 D (.lst [.int f])=H5 at s5 |-;have h5c:=s5 _ _ tT;have h5w:=s5 _ _ GN;refine (mr rfl (mr rfl (ex4 c wl _ _ ⟨rfl,mB.of h5c,mB.of h5w,zdN (n:=mO.length) (f:=fun one other=>(one+f*other) % p) h5c h5w #[O] (by rw [aH,dw]; lia) (.inl #[O]) #[O] ?_ ?_⟩)))
    ·intro j u v H6 T R B hu hv s6 hT hR;refine gY2 (mK.of zb) ?_;exact #[xz]
    ·intro D2 H6 s6 GO;rw [zgj p0 s.1 s.2 _ nw.rc #[O] #[O]];have s7:=(s5.trans s6).trans (zd (o:=.lst ((ad p f s.1 s.2).map V.int)) GO);have GL:mz H6 D2 (.lst ((ad p f s.1 s.2).map V.int)) D2=some (.lst ((ad p f s.1 s.2).map V.int)):=zb;generalize mz H6 D2 (.lst ((ad p f s.1 s.2).map V.int))=H7 at s7 GL |-;have h7w:=s7 _ _ GN;have lw:(s.2++ak #[TF] 0).length=mO.length+1:=by rw [aH,dw]; lia
     refine⟨by show 1<=sizeLine; lia,fun z hz=>(mr rfl (ex4 z wl ([.int 0]) _ ⟨rfl,rfl,zb,(zd hz) _ _ h7w,by rw [ae,lw]; show 1+_<=sizeLine; lia,fun zc hzc=>?_⟩))⟩;have u1:=zd (o:=.lst [.int 0]) hz;have u2:=zd (o:=.lst ([.int 0]++(s.2++ak #[TF] 0).map V.int)) hzc;have Iu:mz (mz H7 z (.lst [.int 0])) zc (.lst ([.int 0]++(s.2++ak #[TF] 0).map V.int)) zc=some (.lst ((0 :: (s.2++ak #[TF] 0)).map V.int)):=by rw [zb]; rfl
     have s8:=s7.trans #[Vs];have Iv:=#[Vs] _ _ h7w;have h8c:=#[Vs] _ _ GL;generalize mz (mz H7 z (.lst [.int 0])) zc (.lst ([.int 0]++(s.2++ak #[TF] 0).map V.int))=H8 at Iu s8 Iv h8c |-;refine (mr rfl (ex4 zc wl _ _ ⟨rfl,mB.of Iu,mB.of Iv,zdN (n:=mO.length+1) (f:=trF p x) Iu Iv (by rw [bh,lw]; lia) (by rw [lw]; exact ai _) (.inr (by rw [lw]; exact ai _)) #[O] ?_ ?_⟩))
     ·intro j u v H9 T R B hu hv s9 hT hR;refine gY2 (mK.of zb) ?_;exact #[xz]
     ·intro D3 H9 s9 CH;have em:mO.length - i=mO.length - (i+1)+1:=by lia
      rw [em,zi1 (mO.length - (i+1)) s.2 0];refine (ex8 D2 D3 (zbU p s (x,y)) _ _ _ _ _ ⟨rfl,?_,?_,((s1.trans s8).trans s9).trans (zd CH),?_,?_⟩)
      ·rw [take_snoc hq,ig,<- hs];rfl
      ·rw [take_snoc hq,oj];exact Eg
      ·rw [oj];exact (s9.trans (zd CH)) _ _ h8c
      ·rw [oj];exact zb
  ·rintro σ H1 ⟨c,wl,s,e4,e5,e6,e7,e8,rfl,hs,nw,s1,tT,GN⟩;rw [ae,yM,bt] at hs;refine #[RS];rw [zb,hs];rfl
section
variable (t:Adr)
noncomputable def zng (K:af):Sp:=fun vs H Q _=>∃ (p dx c tt:Addr) (sl pp k:Int) (pl:List Int),vs = [.ref p,.ref c,.int sl]/\H p=some (.ins t.Kf dx [])/\H dx=some (.own p)/\zaH H c tt pp k pl/\pl.length<=16 /\
 ∀ (S:List Addr) (H':Hp),Ls t.Kf H' S p c pp sl (ak pl.length none) [] []->(∀ b o,H b=some o->b≠p->H' b=some o)->(∀ b∈S,b=p\/H b=none)->Q .non H'
noncomputable def ze2 (K:af):Sp:=fun vs H Q E=>∃ (S:List Addr) (p c:Addr) (pp sl n:Int) (es:Rw) (ds us:List Dt),vs = [.ref p,.int n]/\Ls t.Kf H S p c pp sl es ds us/\es.length<=16 /\
 (inB es n=false->E (.ref t.Lm) none H)/\(inB es n=true->Q .non H)
noncomputable def Goes (t:Adr) (H:Hp) (S:List Addr) (p c:Addr) (pp sl:Int) (es:Rw) (ds us:List Dt) (Q:VK):Prop:=∀ (S':List Addr) (H':Hp),Ls t.Kf H' S' p c pp sl es ds us->zy (hid S H) (hid S' H')->(∀ b∈S',b∈S\/H b=none)->Q .non H'
noncomputable def zkv (K:af):Sp:=fun vs H Q _=>∃ (S:List Addr) (p c:Addr) (pp sl:Int) (n:Nat) (x b:Option Int) (es:Rw) (ds us:List Dt),vs = [.ref p,.int (n:Int),mM x]/\Ls t.Kf H S p c pp sl es ds us/\es.length<=16/\ds.length<=1000/\es[n]? = some b /\
 Goes t H S p c pp sl (es.set n x) (ds++[(n,b,x)]) [] Q
noncomputable def zpx (t:Adr):Wd->Addr
 | .place=>t.Lm
 | .number=>t.K7
 | .heard=>t.OK
 | .notHeard=>t.K6
 | .nothing=>t.Kn
noncomputable def zec (t:Adr) (H:Hp) (S:List Addr) (p c:Addr) (pp sl:Int) (es:Rw) (ds us:List Dt) (D:Dd) (Q:VK) (E:XK):Prop:=match stp pp es ds us D with
 | .inl w=>E (.ref (zpx t w)) none H
 | .inr (es',uk,um)=>Goes t H S p c pp sl es' uk um Q
noncomputable def znh (K:af):Sp:=fun vs H Q E=>∃ (S:List Addr) (p c:Addr) (pp sl n x:Int) (es:Rw) (ds us:List Dt),vs = [.ref p,.int n,.int x]/\Ls t.Kf H S p c pp sl es ds us/\es.length<=16/\ds.length<=1000/\us.length<=1000/\zec t H S p c pp sl es ds us (.ME n x) Q E
noncomputable def zkw (K:af):Sp:=fun vs H Q E=>∃ (S:List Addr) (p c:Addr) (pp sl n:Int) (es:Rw) (ds us:List Dt),vs = [.ref p,.int n]/\Ls t.Kf H S p c pp sl es ds us/\es.length<=16/\ds.length<=1000/\us.length<=1000/\zec t H S p c pp sl es ds us (.forget n) Q E
noncomputable def zni (K:af):Sp:=fun vs H Q E=>∃ (S:List Addr) (p c:Addr) (pp sl:Int) (es:Rw) (ds us:List Dt),vs = [.ref p]/\Ls t.Kf H S p c pp sl es ds us/\es.length<=16/\ds.length<=1000/\us.length<=1000/\(∀ d∈ds,d.1 < es.length)/\zec t H S p c pp sl es ds us .back Q E
noncomputable def zme (K:af):Sp:=fun vs H Q E=>∃ (S:List Addr) (p c:Addr) (pp sl:Int) (es:Rw) (ds us:List Dt),vs = [.ref p]/\Ls t.Kf H S p c pp sl es ds us/\es.length<=16/\ds.length<=1000/\us.length<=1000/\(∀ d∈us,d.1 < es.length)/\zec t H S p c pp sl es ds us .again Q E
noncomputable def zoL (K:af):Sp:=fun vs H Q _=>∃ (S:List Addr) (p c:Addr) (pp sl:Int) (es:Rw) (ds us:List Dt),vs = [.ref p]/\Ls t.Kf H S p c pp sl es ds us/\∀ l,H l=none->Q #[Su] (mz H l (.lst #[R6]))
end
section
variable {P:Program} {w:World} {K:af} {mg:Str->Option Value} {base:Heap} {t:Adr}
theorem zoM:Kg ["self"] ["self"] (zi s_row):=#[S]
theorem zoN (T:Txt K mg t) (F:Fun K "row" "Listener.row" s_row t.row fd):Kq P w K mg base CX0 1 t.row fd ["self"] (zoL t K):=by
 refine F.ok zoM #[ol] #[ac]
 ·obtain⟨S,p,c,pp,sl,es,ds,us,rfl,_⟩:=h;rfl
 ·obtain⟨S,p,c,pp,sl,es,ds,us,rfl,L,q⟩:=h;obtain⟨dx,ea,da,ua,k,tt,dr,ur,rfl,h1,h2,h3,h4,h5,h6,h7,h8,h9,tf⟩:=L.ex;refine zaG ?_; intro zX;refine⟨_,#[zl,#[zJ,#[zaN,#[zdk],T.Qb,boot_list,#[ya,#[KK]]]]],?_⟩;exact (mr rfl (ex5 p t.Kf dx _ _ ⟨rfl,h4,T.cl,T.Kj,zV,ea,(mr rfl ⟨.inl (mB.of h5),q⟩)⟩))
theorem ze3:Kg ["self","number"] ["self","number"] (zi zbv):=#[S]
theorem zbP (T:Txt K mg t) (F:Fun K "check_place" "Listener.check_place" zbv t.KN fd):Kq P w K mg base #[Wh] 3 t.KN fd ["self","number"] (ze2 t K):=by
 obtain⟨qo,nG,nH⟩:=T.KJ;have oV:=zdB (P:=P) (w:=w) (base:=base) T nG;refine F.okX ze3 #[ol] #[ac]
 ·obtain⟨S,p,c,pp,sl,n,es,ds,us,rfl,_⟩:=h;rfl
 ·obtain⟨S,p,c,pp,sl,n,es,ds,us,rfl,L,uY,qE,qQ⟩:=h;obtain⟨dx,ea,da,ua,k,tt,dr,ur,rfl,h1,h2,h3,h4,h5,h6,h7,h8,h9,tf⟩:=L.ex;refine zaG ?_; intro zX;refine⟨_,#[zl,#[zan,#[zc8,#[zhU,#[zI,oV,#[pc],T.Mp,nG.kp,nH,#[zP],#[za,#[zt,#[zB],T.LL,bM,#[ya,#[KK]]],#[RT]]]]],#[zl,#[zb9,#[Ev],T.Nl,T.Kx,#[zR]]],#[zO]]],?_⟩;refine (mr rfl (ex5 p t.Kf dx _ _ ⟨rfl,h4,T.cl,T.Kj,zV,ea,(mr rfl ⟨.inl (mB.of h5),(mr rfl ⟨_,.int n,rfl,.int n,#[Db]⟩)⟩)⟩));have e:zgo (#[R6].length:Int) (.int n)=inB es n:=by rw [ae]; rfl
  rw [e];cases hb:inB es n with
  | false =>
   refine zaF ?_;exact⟨rfl,qE hb⟩
  | true =>
   refine zaP ?_;exact qQ hb
theorem zkx:Kg ["self","number","entry"] ["self","number","entry"] (zi zdy):=#[S]
theorem zf0 (T:Txt K mg t) (F:Fun K "change" "Listener.change" zdy t.change fd):Kq P w K mg base CX0 1 t.change fd ["self","number","entry"] (zkv t K):=by
 refine F.ok zkx #[ol] #[ac]
 ·obtain⟨S,p,c,pp,sl,n,x,b,es,ds,us,rfl,_⟩:=h;rfl
 ·obtain⟨S,p,c,pp,sl,n,x,b,es,ds,us,rfl,L,uY,yO,hb,q⟩:=h;obtain⟨dx,ea,da,ua,k,tt,dr,ur,rfl,h1,h2,h3,h4,h5,h6,h7,h8,h9,tf⟩:=L.ex;refine zaG ?_; intro zX;refine⟨_,#[ze,#[za2,#[zcZ,bv,de,df,#[zb7],#[KK],#[ya,#[zaf,#[za,#[ww],#[za,#[WV],#[VQ]]]]]]],#[ze,#[zdL,#[wn],#[Sy]],#[zl,#[za5,#[QT],#[U4]]]]],?_⟩;refine zfi ?_; intro qD pP;have qj:=aS;have hnl:=(aj.mp hb).1;refine⟨_,rfl,p,t.Kf,dx,_,_,rfl,h4,T.cl,T.Lu,zbW,.inl ⟨rfl,_,mB.of h6⟩,_,rfl,_,rfl,p,t.Kf,dx,_,_,rfl,h4,T.cl,T.Kj,zV,_,rfl,ea,_,_,mM b,rfl,rfl,mB.of h5,zab (by rw [ao,hb]; rfl),_,rfl,by show 3<=sizeLine; lia,fun u hu=>?_⟩;have t1:=zd (o:=.tup [.int (n:Int),mM b,mM x]) hu;refine⟨da,_,_,rfl,rfl,t1 _ _ h6,by rw [ae,h8.1]; lia,?_⟩;have AI:p≠da:=zaV h4 h6 (by intro z; cases z);have Ce:p≠ea:=zaV h4 h5 (by intro z; cases z);have npu:p≠u:=zj h4 hu;refine⟨by show 0<=sizeLine; lia,fun z hz=>?_⟩;have Iw:z≠da:=fun e=>by rw [e,zb] at hz; cases hz
  rw [zg Iw] at hz;have zu:z≠u:=fun e=>by rw [e,zb] at hz; cases hz
  rw [zg zu] at hz;have npz:p≠z:=zj h4 hz;have Iy:ea≠z:=zj h5 hz;have Iz:ea≠u:=zj h5 hu;refine⟨_,rfl,p,t.Kf,dx,_,rfl,by rw [zg npz,zg AI,zg npu]; exact h4,T.cl,T.KS,by show 5 < 1000; decide,?_⟩;rw [zkq];refine⟨_,rfl,_,rfl,p,t.Kf,dx,_,_,rfl,zb,T.cl,T.Kj,zV,_,rfl,ea,_,_,n,rfl,rfl,by rw [zg Ce.symm,zg Iy,zg h1,zg Iz]; exact h5,zdl (by rw [ae]; exact hnl),?_⟩;have kp:∀ a o,H a=some o->a≠p->a≠ea->a≠da->mz (mz (mz (mz (mz H u (.tup [.int (n:Int),mM b,mM x])) da (.lst (dr.map V.ref++[.ref u]))) z (.lst [])) p (.ins t.Kf dx (fl c sl ea da z))) ea (.lst (#[R6].set n (mM x))) a=some o:=fun a o e n1 n2 n3=>by
   rw [zg n2,zg n1,zg (zj e hz),zg n3,zg (zj e hu)];exact e
  have tp:∀ a xs,H a=some #[Rp]->a≠p/\a≠ea/\a≠da:=fun a xs e=>⟨zaV e h4 (by intro z; cases z),zaV e h5 (by intro z; cases z),zaV e h6 (by intro z; cases z)⟩
  refine q [p,ea,da,z] _ ⟨dx,ea,da,z,k,tt,dr++[u],[],rfl,h1,Iy,Iw.symm,by rw [zg Ce]; exact zb,by rw [zb,gm],by rw [zg h1.symm,zg AI.symm,zg Iw.symm,zb,aw]; rfl,by rw [zg Iy.symm,zg npz.symm,zb]; rfl,(h8.same fun a xs e=>kp a _ e #[Uh].1 #[Uh].2.1 #[Uh].2.2).snoc ?_,.nil,kp c _ tf (tp c _ tf).1 (tp c _ tf).2.1 (tp c _ tf).2.2⟩ (fun a o e=>?_) (fun a ha=>?_)
  ·have nue:u≠ea:=Iz.symm;rw [zg Iz.symm,zg npu.symm,zg zu.symm,zg (zj h6 hu).symm,zb];rfl
  ·obtain⟨e,hn⟩:=zbh e;simp at hn;refine zah (kp a o e hn.1 hn.2.1 hn.2.2.1) ?_;simp;exact⟨hn.1,hn.2.1,hn.2.2.1,zj e hz⟩
  ·simp at ha |-;rcases ha with rfl | rfl | rfl | rfl
   ·exact .inl (.inl rfl)
   ·exact .inl (.inr #[KM])
   ·exact .inl #[Tn]
   ·exact .inr hz
theorem zbw {c:Addr} (h:m = "check_place"\/m = "change"\/m = "hear"\/m = "forget"\/m = "back"\/m = "again"\/m = "row"):#[LE].lookup m=none:=by
 rcases h with rfl | rfl | rfl | rfl | rfl | rfl | rfl <;> exact zma #[N] #[N] #[N] #[N] #[N]
theorem zgC {es:Rw} {n:Int} (h:inB es n=true):∃ (m:Nat) (b:Option Int),n=(m:Int)/\n.toNat=m/\es[m]? = some b:=by
 unfold inB at h;simp only [bV,decide_eq_true_eq] at h;have hk:n.toNat < es.length:=by lia
 exact⟨n.toNat,es[n.toNat],#[O],rfl,#[M]⟩
theorem znj:Kg ["self","number","entry"] ["self","number","entry"] (zi zgy):=#[S]
theorem znk (T:Txt K mg t) (F:Fun K "hear" "Listener.hear" zgy t.ME fd):Kq P w K mg base #[Wh] 4 t.ME fd ["self","number","entry"] (znh t K):=by
 obtain⟨nP,ni,mU⟩:=T.Km;have nj:=zbP (P:=P) (w:=w) (base:=base) T ni;obtain⟨qo,nG,nH⟩:=T.KJ;have oV:=zdB (P:=P) (w:=w) (base:=base) T nG;obtain⟨tU,rQ,oW⟩:=T.Mf;have rR:=zf0 (P:=P) (w:=w) (base:=base) T rQ;refine F.okX znj #[ol] #[ac]
 ·obtain⟨S,p,c,pp,sl,n,x,es,ds,us,rfl,_⟩:=h;rfl
 ·obtain⟨S,p,c,pp,sl,n,x,es,ds,us,rfl,L,uY,yO,nh,q⟩:=h;obtain⟨dx,ea,da,ua,k,tt,dr,ur,eS,h1,h2,h3,h4,h5,h6,h7,h8,h9,tf⟩:=L.ex;refine zaG ?_; intro zX;refine⟨_,#[ze,#[XF],#[ze,#[zan,#[zc8,#[zhU,#[zI,oV,#[pc],T.Mp,nG.kp,nH,#[zP],#[za,#[zx,#[zaj],#[KK],#[zh]],#[VQ]]]]],#[zl,#[zb9,#[Ev],T.MR,T.Ks,#[zR]]],#[zO]],#[ze,#[zan,#[zA,#[zcj],#[WV],#[zaw],(zF _)],#[zl,#[zb9,#[Ev],T.ON,T.Ln,#[zR]]],#[zO]],#[zl,#[za2,#[zcN,#[wn],T.cl,T.Nn,rR,#[pc],oW,#[zP],#[za,#[ww],#[VQ]]]]]]]],?_⟩;refine zgb ?_; intro uI qD pP;unfold zec stp at q;dsimp only at q;refine #[RE]
  ·rw [if_pos hb] at q;exact q
  ·rw [if_neg (by simp [hb])] at q;refine (mr rfl (ex5 p t.Kf dx _ _ ⟨rfl,h4,T.cl,T.LK,zbM,c,_,_,_,rfl,rfl,mK.of tf,rfl,(mr rfl ⟨_,.int x,rfl,.int x,#[Db]⟩)⟩));have e:zgo pp #[Xm]=zfp pp x:=rfl;rw [e];cases hn:zfp pp x with
   | false =>
    rw [if_pos hn] at q;refine zaF ?_;exact⟨rfl,q⟩
   | true =>
    rw [if_neg (by simp [hn])] at q;refine zaP ?_;obtain⟨m,b,rfl,hm,hb⟩:=zgC hb;rw [hm,hb] at q;refine (mr rfl (ex5 p t.Kf dx _ _ ⟨rfl,h4,T.cl,T.Kj,zV,(mr rfl (ex4 ea _ _ (mM b) ⟨rfl,rfl,mB.of h5,zab (by rw [ao,hb]; rfl),?_⟩))⟩));refine#[WF];cases b with
    | some v =>
     refine zaF ?_;exact⟨rfl,q⟩
    | none =>
     refine zaP ?_;exact (mr rfl (ex3 p dx _ ⟨rfl,h4,zbw (.inr #[KM]),(mr rfl (mr rfl (zpk S p c pp sl m (some x) none es ds us ⟨rfl,L,uY,yO,hb,q⟩)))⟩))
theorem zky:Kg ["self","number"] ["self","number"] (zi zdz):=#[S]
theorem zkz (T:Txt K mg t) (F:Fun K "forget" "Listener.forget" zdz t.forget fd):Kq P w K mg base #[Wh] 4 t.forget fd ["self","number"] (zkw t K):=by
 obtain⟨nP,ni,mU⟩:=T.Km;have nj:=zbP (P:=P) (w:=w) (base:=base) T ni;obtain⟨tU,rQ,oW⟩:=T.Mf;have rR:=zf0 (P:=P) (w:=w) (base:=base) T rQ;refine F.okX zky #[ol] #[ac]
 ·obtain⟨S,p,c,pp,sl,n,es,ds,us,rfl,_⟩:=h;rfl
 ·obtain⟨S,p,c,pp,sl,n,es,ds,us,rfl,L,uY,yO,nh,q⟩:=h;obtain⟨dx,ea,da,ua,k,tt,dr,ur,eS,h1,h2,h3,h4,h5,h6,h7,h8,h9,tf⟩:=L.ex;refine zaG ?_; intro zX;refine⟨_,#[ze,#[XF],#[ze,#[zan,#[zA,#[zh1],#[WV],#[zaw],(zF _)],#[zl,#[zb9,#[Ev],T.MQ,T.Kr,#[zR]]],#[zO]],#[zl,#[za2,#[zcN,#[wn],T.cl,T.Nn,rR,#[pc],oW,#[zP],#[za,#[ww],#[ya,#[zaw]]]]]]]],?_⟩;refine zfi ?_; intro qD pP;unfold zec stp at q;dsimp only at q;refine #[RE]
  ·rw [if_pos hb] at q;exact q
  ·rw [if_neg (by simp [hb])] at q;obtain⟨m,b,rfl,hm,hb⟩:=zgC hb;rw [hm,hb] at q;refine (mr rfl (ex5 p t.Kf dx _ _ ⟨rfl,h4,T.cl,T.Kj,zV,(mr rfl (ex4 ea _ _ (mM b) ⟨rfl,rfl,mB.of h5,zab (by rw [ao,hb]; rfl),?_⟩))⟩));refine#[WF];cases b with
   | none =>
    refine zaF ?_;exact⟨rfl,q⟩
   | some v =>
    refine zaP ?_;exact (mr rfl (ex3 p dx _ ⟨rfl,h4,zbw (.inr #[KM]),(mr rfl (zpk S p c pp sl m none #[UW] es ds us ⟨rfl,L,uY,yO,hb,q⟩))⟩))
theorem zeq:Kg ["self","number","before","behind"] ["self"] (zi zgz):=#[S]
theorem znl (T:Txt K mg t) (F:Fun K "back" "Listener.back" zgz t.back fd):Kq P w K mg base #[Wh] 1 t.back fd ["self"] (zni t K):=by
 refine F.okX zeq #[ol] #[ac]
 ·obtain⟨S,p,c,pp,sl,es,ds,us,rfl,_⟩:=h;rfl
 ·obtain⟨S,p,c,pp,sl,es,ds,us,rfl,L,uY,yO,nh,rG,q⟩:=h;obtain⟨dx,ea,da,ua,k,tt,dr,ur,rfl,h1,h2,h3,h4,h5,h6,h7,h8,h9,tf⟩:=L.ex;refine zaG ?_; intro zX;refine⟨_,#[ze,#[U5],#[ze,#[za5,#[zln,bv,f7,f8,#[zlo],#[KK]],#[zbe,#[zq,#[zm,1,zeq.nd,#[A]],#[zq,#[zm,2,zeq.nd,#[A]],#[zq,#[zm,3,zeq.nd,#[A]],#[zY]]]]]],#[ze,#[za5,#[QT],#[U4]],#[VE]]]],?_⟩;refine zgb ?_; intro uI qD pP;have qj:=aS;unfold zec stp at q;dsimp only at q;refine (mr rfl (ex5 p t.Kf dx _ _ ⟨rfl,h4,T.cl,T.Lu,zbW,_,.inl ⟨_,mB.of h6,rfl⟩,?_⟩));rcases ej ds with hd | ⟨uk,d,hd⟩
  ·subst hd;have:dr = []:=cp.mp h8.1;subst this;refine zaF ?_;exact⟨rfl,q⟩
  ·rw [et] at hd;subst hd;obtain⟨rs,r,rfl,Bs,hr⟩:=h8.PV;rw [eJ] at q;simp at q;have AH:d.1 < es.length:=rG d #[M];have em:((rs++[r]).map V.ref).isEmpty=false:=by simp
   rw [em];refine zaP ?_;have AI:p≠da:=zaV h4 h6 (by intro z; cases z);have Ce:p≠ea:=zaV h4 h5 (by intro z; cases z);have IA:p≠ua:=zaV h4 h7 (by intro z; cases z);have EJ:r≠da:=zaV hr h6 (by intro z; cases z);refine (mr rfl (ex5 p t.Kf dx _ _ ⟨rfl,h4,T.cl,T.Lu,zbW,.inl ⟨rfl,_,mB.of h6⟩,da,_,.ref r,rfl,rfl,h6,#[M],?_⟩));have ed:((rs++[r]).map V.ref).dropLast=rs.map V.ref:=by simp
   rw [ed];refine⟨r,_,rfl,mK.of (by rw [zg EJ]; exact hr),rfl,_,_,rfl,_,_,rfl,_,_,rfl,rfl,?_⟩;refine (mr rfl (mr rfl (ex5 p t.Kf dx _ _ ⟨rfl,by rw [zg AI]; exact h4,T.cl,T.Kj,zV,(mr rfl (ex4 ea _ _ d.1 ⟨rfl,rfl,by rw [zg h1]; exact h5,zdl (by rw [ae]; exact AH),?_⟩))⟩)));refine (mr rfl (ex5 p t.Kf dx _ _ ⟨rfl,by rw [zg Ce,zg AI]; exact h4,T.cl,T.KS,zcr,.inl ⟨rfl,_,mB.of (by rw [zg h2.symm,zg h3.symm]; exact h7)⟩,(mr rfl (mr rfl (mr rfl ⟨by show 3<=sizeLine; lia,fun u hu=>?_⟩)))⟩));have ue:u≠ea:=fun e=>by rw [e,zb] at hu; cases hu
   rw [zg ue] at hu;have ud:u≠da:=fun e=>by rw [e,zb] at hu; cases hu
   rw [zg ud] at hu;have uu:u≠ua:=(zj h7 hu).symm;have up:u≠p:=(zj h4 hu).symm;refine (ex3 ua _ _ ⟨rfl,rfl,by rw [zg uu.symm,zg h2.symm,zg h3.symm]; exact h7,by rw [ae,h9.1]; lia,?_⟩);have kp:∀ a o,H a=some o->a≠ea->a≠da->a≠ua->mz (mz (mz #[UO] ea (.lst (#[R6].set d.1 (mM d.2.1)))) u (.tup [.int (d.1:Int),mM d.2.1,mM d.2.2])) ua (.lst (ur.map V.ref++[.ref u])) a=some o:=fun a o e n1 n2 n3=>by
    rw [zg n3,zg (zj e hu),zg n1,zg n2];exact e
   have tp:∀ a xs,H a=some #[Rp]->a≠ea/\a≠da/\a≠ua:=fun a xs e=>⟨zaV e h5 (by intro z; cases z),zaV e h6 (by intro z; cases z),zaV e h7 (by intro z; cases z)⟩
   have kt:∀ a xs,H a=some #[Rp]->mz (mz (mz #[UO] ea (.lst (#[R6].set d.1 (mM d.2.1)))) u (.tup [.int (d.1:Int),mM d.2.1,mM d.2.2])) ua (.lst (ur.map V.ref++[.ref u])) a=some #[Rp]:=fun a xs e=>kp a _ e #[Uh].1 #[Uh].2.1 #[Uh].2.2
   have IB:mz (mz (mz #[UO] ea (.lst (#[R6].set d.1 (mM d.2.1)))) u (.tup [.int (d.1:Int),mM d.2.1,mM d.2.2])) ua (.lst (ur.map V.ref++[.ref u])) u=some #[Vf]:=by
    rw [zg uu,zb];rfl
   have IC:mz (mz (mz #[UO] ea (.lst (#[R6].set d.1 (mM d.2.1)))) u (.tup [.int (d.1:Int),mM d.2.1,mM d.2.2])) ua (.lst (ur.map V.ref++[.ref u])) da=some #[o0]:=by
    rw [zg h3,zg ud.symm,zg h1.symm,zb]
   have ID:mz (mz (mz #[UO] ea (.lst (#[R6].set d.1 (mM d.2.1)))) u (.tup [.int (d.1:Int),mM d.2.1,mM d.2.2])) ua (.lst (ur.map V.ref++[.ref u])) ua=some (.lst ((ur++[u]).map V.ref)):=by
    rw [zb,aw];rfl
   refine q [p,ea,da,ua] _ ⟨dx,ea,da,ua,k,tt,rs,ur++[u],rfl,h1,h2,h3,kp p _ h4 Ce AI IA,by rw [zg h2,zg ue.symm,zb,gm],IC,ID,Bs.same kt,(h9.same kt).snoc IB,kt c _ tf⟩ (fun a o e=>?_) (fun a ha=>.inl ha);obtain⟨e,hn⟩:=zbh e;simp at hn;exact zah (kp a o e hn.2.1 hn.2.2.1 hn.2.2.2) (by simp; exact hn)
theorem zdC:Kg ["self","number","before","behind"] ["self"] (zi s_again):=#[S]
theorem zmf (T:Txt K mg t) (F:Fun K "again" "Listener.again" s_again t.again fd):Kq P w K mg base #[Wh] 1 t.again fd ["self"] (zme t K):=by
 refine F.okX zdC #[ol] #[ac]
 ·obtain⟨S,p,c,pp,sl,es,ds,us,rfl,_⟩:=h;rfl
 ·obtain⟨S,p,c,pp,sl,es,ds,us,rfl,L,uY,yO,nh,rG,q⟩:=h;obtain⟨dx,ea,da,ua,k,tt,dr,ur,rfl,h1,h2,h3,h4,h5,h6,h7,h8,h9,tf⟩:=L.ex;refine zaG ?_; intro zX;refine⟨_,#[ze,#[U5],#[ze,#[za5,#[zln,bv,f7,f8,#[zlo],#[KK]],#[zbe,#[zq,#[zm,1,zdC.nd,#[A]],#[zq,#[zm,2,zdC.nd,#[A]],#[zq,#[zm,3,zdC.nd,#[A]],#[zY]]]]]],#[ze,#[za5,#[Rn],#[U4]],#[VE]]]],?_⟩;refine zgb ?_; intro uI qD pP;have qj:=aS;unfold zec stp at q;dsimp only at q;refine (mr rfl (ex5 p t.Kf dx _ _ ⟨rfl,h4,T.cl,T.KS,zcr,_,.inl ⟨_,mB.of h7,rfl⟩,?_⟩));rcases ej us with hd | ⟨um,d,hd⟩
  ·subst hd;have:ur = []:=cp.mp h9.1;subst this;refine zaF ?_;exact⟨rfl,q⟩
  ·rw [et] at hd;subst hd;obtain⟨rs,r,rfl,Bs,hr⟩:=h9.PV;rw [eJ] at q;simp at q;have AH:d.1 < es.length:=rG d #[M];have em:((rs++[r]).map V.ref).isEmpty=false:=by simp
   rw [em];refine zaP ?_;have AI:p≠ua:=zaV h4 h7 (by intro z; cases z);have Ce:p≠ea:=zaV h4 h5 (by intro z; cases z);have IA:p≠da:=zaV h4 h6 (by intro z; cases z);have EJ:r≠ua:=zaV hr h7 (by intro z; cases z);refine (mr rfl (ex5 p t.Kf dx _ _ ⟨rfl,h4,T.cl,T.KS,zcr,.inl ⟨rfl,_,mB.of h7⟩,ua,_,.ref r,rfl,rfl,h7,#[M],?_⟩));have ed:((rs++[r]).map V.ref).dropLast=rs.map V.ref:=by simp
   rw [ed];refine⟨r,_,rfl,mK.of (by rw [zg EJ]; exact hr),rfl,_,_,rfl,_,_,rfl,_,_,rfl,rfl,?_⟩;refine (mr rfl (mr rfl (ex5 p t.Kf dx _ _ ⟨rfl,by rw [zg AI]; exact h4,T.cl,T.Kj,zV,(mr rfl (ex4 ea _ _ d.1 ⟨rfl,rfl,by rw [zg h2]; exact h5,zdl (by rw [ae]; exact AH),?_⟩))⟩)));refine (mr rfl (ex5 p t.Kf dx _ _ ⟨rfl,by rw [zg Ce,zg AI]; exact h4,T.cl,T.Lu,zbW,.inl ⟨rfl,_,mB.of (by rw [zg h1.symm,zg h3]; exact h6)⟩,(mr rfl (mr rfl (mr rfl ⟨by show 3<=sizeLine; lia,fun u hu=>?_⟩)))⟩));have ue:u≠ea:=fun e=>by rw [e,zb] at hu; cases hu
   rw [zg ue] at hu;have ud:u≠ua:=fun e=>by rw [e,zb] at hu; cases hu
   rw [zg ud] at hu;have uu:u≠da:=(zj h6 hu).symm;have up:u≠p:=(zj h4 hu).symm;refine (ex3 da _ _ ⟨rfl,rfl,by rw [zg uu.symm,zg h1.symm,zg h3]; exact h6,by rw [ae,h8.1]; lia,?_⟩);have kp:∀ a o,H a=some o->a≠ea->a≠ua->a≠da->mz (mz (mz #[UN] ea (.lst (#[R6].set d.1 (mM d.2.2)))) u (.tup [.int (d.1:Int),mM d.2.1,mM d.2.2])) da (.lst (dr.map V.ref++[.ref u])) a=some o:=fun a o e n1 n2 n3=>by
    rw [zg n3,zg (zj e hu),zg n1,zg n2];exact e
   have tp:∀ a xs,H a=some #[Rp]->a≠ea/\a≠ua/\a≠da:=fun a xs e=>⟨zaV e h5 (by intro z; cases z),zaV e h7 (by intro z; cases z),zaV e h6 (by intro z; cases z)⟩
   have kt:∀ a xs,H a=some #[Rp]->mz (mz (mz #[UN] ea (.lst (#[R6].set d.1 (mM d.2.2)))) u (.tup [.int (d.1:Int),mM d.2.1,mM d.2.2])) da (.lst (dr.map V.ref++[.ref u])) a=some #[Rp]:=fun a xs e=>kp a _ e #[Uh].1 #[Uh].2.1 #[Uh].2.2
   have IB:mz (mz (mz #[UN] ea (.lst (#[R6].set d.1 (mM d.2.2)))) u (.tup [.int (d.1:Int),mM d.2.1,mM d.2.2])) da (.lst (dr.map V.ref++[.ref u])) u=some #[Vf]:=by
    rw [zg uu,zb];rfl
   have IC:mz (mz (mz #[UN] ea (.lst (#[R6].set d.1 (mM d.2.2)))) u (.tup [.int (d.1:Int),mM d.2.1,mM d.2.2])) da (.lst (dr.map V.ref++[.ref u])) ua=some #[o0]:=by
    rw [zg h3.symm,zg ud.symm,zg h2.symm,zb]
   have ID:mz (mz (mz #[UN] ea (.lst (#[R6].set d.1 (mM d.2.2)))) u (.tup [.int (d.1:Int),mM d.2.1,mM d.2.2])) da (.lst (dr.map V.ref++[.ref u])) da=some (.lst ((dr++[u]).map V.ref)):=by
    rw [zb,aw];rfl
   refine q [p,ea,da,ua] _ ⟨dx,ea,da,ua,k,tt,dr++[u],rs,rfl,h1,h2,h3,kp p _ h4 Ce AI IA,by rw [zg h1,zg ue.symm,zb,gm],ID,IC,(h8.same kt).snoc IB,Bs.same kt,kt c _ tf⟩ (fun a o e=>?_) (fun a ha=>.inl ha);obtain⟨e,hn⟩:=zbh e;simp at hn;exact zah (kp a o e hn.2.1 hn.2.2.2 hn.2.2.1) (by simp; exact hn)
theorem zdD (f:Str) (v:V):∀ fs:List (Str×V),#[Wj].length<=fs.length+1
 | []=>ai _
 | (g,x) :: r=>by
  unfold zaq;split
  ·simp
  ·have:=zdD f v r;simp;lia
theorem zjv (n:Nat):(ak n [V.non]).flatten=(ak n (none:Option Int)).map mM:=by
 induction n with
 | zero=>rfl
 | succ n ih=>rw [bo,dB,ih,bo]; rfl
theorem znm:Kg ["self","code","slips"] ["self","code","slips"] (zi zgx):=#[S]
theorem znn (T:Txt K mg t) (F:Fun K "__init__" "Listener.__init__" zgx t.init fd):Kq P w K mg base CX0 1 t.init fd ["self","code","slips"] (zng t K):=by
 refine F.ok znm #[ol] #[ac]
 ·obtain⟨p,dx,c,tt,sl,pp,k,pl,rfl,_⟩:=h;rfl
 ·obtain⟨p,dx,c,tt,sl,pp,k,pl,rfl,hp,hdx,hc,nZ,q⟩:=h;refine zaG ?_; intro zX;refine⟨_,#[ze,#[zdL,#[wn],#[ww]],#[ze,#[zdL,#[wn],#[QT]],#[ze,#[zdL,#[wn],#[zn,#[zeB],#[zK,#[ya,#[zaw]]],#[zt,#[zB],T.LL,bM,#[ya,#[zx,#[zaj],#[ww],#[zh]]]]]],#[ze,#[zdL,#[wn],#[Sy]],#[zl,#[zdL,#[wn],#[Sy]]]]]]],?_⟩;have qj:=aS;have l1:=zdD "code" #[UX] [];have l2:=zdD "slips" #[W7] (zaq "code" #[UX] []);have Fl:p≠c:=zaV hp hc.1 (by intro z; cases z);have npt:p≠tt:=zaV hp hc.2 (by intro z; cases z);simp only [eU] at l1;refine (mr rfl (mr rfl (ex4 p t.Kf dx ([]) ⟨rfl,hp,T.cl,T.LK,by show 0 < 1000; decide,?_⟩)));refine (mr rfl (mr rfl (ex4 p t.Kf dx _ ⟨rfl,zb,T.cl,T.MZ,#[O],?_⟩)));rw [zf6];refine⟨by show 1<=sizeLine; lia,fun z hz=>(mr rfl (ex4 c _ _ _ ⟨rfl,rfl,mK.of (by rw [zg (zj (show mz H p _ c=_ by rw [zg Fl.symm]; exact hc.1) hz),zg Fl.symm]; exact hc.1),rfl,tt,(mr rfl ⟨.inr (mK.of (by rw [zg (zj (show mz H p _ tt=_ by rw [zg npt.symm]; exact hc.2) hz),zg npt.symm]; exact hc.2)),z,_,[.non],rfl,rfl,zb,by rw [ae]; lia,by rw [ae]; lia,by rw [ae]; show 1*_<=sizeLine; lia,fun ea Cf=>?_⟩)⟩))⟩;rw [ae,zjv,a8];have zp:z≠p:=fun e=>by rw [e,zb] at hz; cases hz
  rw [zg zp] at hz;have eaz:ea≠z:=fun e=>by rw [e,zb] at Cf; cases Cf
  rw [zg eaz] at Cf;have Fm:ea≠p:=fun e=>by rw [e,zb] at Cf; cases Cf
  rw [zg Fm] at Cf;have l3:=zdD "entries" (.ref ea) (zaq "slips" #[W7] (zaq "code" #[UX] []));refine (mr rfl (ex4 p t.Kf dx _ ⟨rfl,by rw [zg Fm.symm,zg zp.symm,zb],T.cl,T.Kj,#[O],?_⟩));refine⟨by show 0<=sizeLine; lia,fun da yP=>?_⟩;have Fn:da≠p:=fun e=>by rw [e,zb] at yP; cases yP
  rw [zg Fn] at yP;have IE:da≠ea:=fun e=>by rw [e,zb] at yP; cases yP
  rw [zg IE] at yP;have daz:da≠z:=fun e=>by rw [e,zb] at yP; cases yP
  rw [zg daz,zg Fn] at yP;have l4:=zdD "deeds" (.ref da) (zaq "entries" (.ref ea) (zaq "slips" #[W7] (zaq "code" #[UX] [])));refine⟨_,rfl,p,t.Kf,dx,_,rfl,by rw [zg Fn.symm,zb],T.cl,T.Lu,#[O],?_⟩;refine⟨by show 0<=sizeLine; lia,fun ua w8=>?_⟩;have Fo:ua≠p:=fun e=>by rw [e,zb] at w8; cases w8
  rw [zg Fo] at w8;have IF:ua≠da:=fun e=>by rw [e,zb] at w8; cases w8
  rw [zg IF,zg Fo] at w8;have IG:ua≠ea:=fun e=>by rw [e,zb] at w8; cases w8
  rw [zg IG] at w8;have uaz:ua≠z:=fun e=>by rw [e,zb] at w8; cases w8
  rw [zg uaz,zg Fo] at w8;refine⟨_,rfl,p,t.Kf,dx,_,rfl,by rw [zg Fo.symm,zb],T.cl,T.KS,#[O],?_⟩;rw [zoJ];have kp:∀ a o,H a=some o->a≠p->mz (mz (mz (mz (mz (mz (mz (mz H p (.ins t.Kf dx (zaq "slips" #[W7] (zaq "code" #[UX] [])))) z (.lst [.non])) ea (.lst ((ak pl.length (none:Option Int)).map mM))) p (.ins t.Kf dx (zaq "entries" (.ref ea) (zaq "slips" #[W7] (zaq "code" #[UX] []))))) da (.lst [])) p (.ins t.Kf dx (zaq "deeds" (.ref da) (zaq "entries" (.ref ea) (zaq "slips" #[W7] (zaq "code" #[UX] [])))))) ua (.lst [])) p (.ins t.Kf dx #[LE]) a=some o:=fun a o e n=>by
   rw [zg n,zg (zj e w8),zg n,zg (zj e yP),zg n,zg (zj e Cf),zg (zj e hz),zg n];exact e
  refine q [p,ea,da,ua] _ ⟨dx,ea,da,ua,k,tt,[],[],rfl,IE.symm,IG.symm,IF.symm,zb,?_,?_,?_,.nil,.nil,kp c _ hc.1 Fl.symm⟩ kp (fun a ha=>?_)
  ·rw [zg Fm,zg IG.symm,zg Fm,zg IE.symm,zg Fm,zb]
  ·rw [zg Fn,zg IF.symm,zg Fn,zb];rfl
  ·rw [zg Fo,zb];rfl
  ·simp at ha;rcases ha with rfl | rfl | rfl | rfl
   ·exact .inl rfl
   ·exact .inr Cf
   ·exact .inr yP
   ·exact .inr w8
end
end
end My
end
section
namespace Srt
open PySem PyProof.Rows
section
variable {prog:Program} {w:World} {A:Around} {E:Value->Shared->Prop} {s:Shared} {κ:SortKind} {val:Keyed->Int} {a₀:Array Keyed}
theorem zmg {st:SortSt} {Q:Unit->SortSt->Prop} (hC:Cmp prog w A s κ val a₀) (hB:SB κ a₀ st) (hp:pendingOf st = #[]) (h2:1<=a₀.size) (ye:a₀.size < 64)
  (h:∀ mP,SB κ a₀ mP->SIn val #[EQ] 0 a₀.size->Q () mP):wpS #[na] A E s sortRuns' Q st:=by
 rw [sortRuns'_eq];refine bz (jh ?_);dsimp only;rw [hB.size]; have GP:minRun' a₀.size a₀.size 0=a₀.size:=by
  (obtain⟨f,hf⟩:∃ f,a₀.size=f+1:=⟨a₀.size - 1,#[O]⟩)
  (have:minRun' (f+1) a₀.size 0=a₀.size:=by rw [minRun'_succ,if_pos ye]; rfl)
  rw [<- hf] at this;exact this
 rw [GP];refine bz (kW (eZ (I:=fun x c mP=>∃ lo,c=(none,lo)/\SB κ a₀ mP/\((x=0/\lo=0/\pendingOf mP = #[])\/(lo=a₀.size/\(pendingOf mP).size=1/\SIn val #[EQ] 0 a₀.size)))
  (Q:=fun c mP=>c=(none,a₀.size)/\SB κ a₀ mP/\(pendingOf mP).size=1/\SIn val #[EQ] 0 a₀.size) ?step ?fin ⟨0,rfl,hB,.inl ⟨rfl,rfl,hp⟩⟩) ?post)
 case fin =>
  rintro c mP ⟨lo,rfl,qk,z | ⟨rfl,h3,h4⟩⟩
  ·have:=z.1;lia
  ·exact⟨rfl,qk,h3,h4⟩
 case step =>
  rintro x c mP _ hx ⟨lo,rfl,qk,z | ⟨rfl,h3,h4⟩⟩
  ·obtain⟨rfl,rfl,sW⟩:=z;dsimp only;rw [if_neg #[O]];have tl:∀ nF,SF κ a₀ 0 mP nF->SIn val (arrOf nF) 0 (0+a₀.size)->∃ lo,#[Xv]=((none:Option Unit),lo)/\SB κ a₀ (setPending nF (#[UZ].push #[S3]))/\((0+1=0/\lo=0/\pendingOf (setPending nF (#[UZ].push #[S3])) = #[])\/(lo=a₀.size/\(pendingOf (setPending nF (#[UZ].push #[S3]))).size=1/\SIn val (arrOf (setPending nF (#[UZ].push #[S3]))) 0 a₀.size)):=fun nF Dg oJ=>by
    rw [eY] at oJ |-;refine⟨_,rfl,⟨Dg.b.perm,Dg.b.kind,Dg.b.failed⟩,.inr ⟨rfl,?_,oJ⟩⟩;show (#[UZ].push #[S3]).size=1;rw [Dg.pend,sW];rfl
   refine bz (zm2 hC #[O] #[O] (SF.refl qk) fun m uG IH B6 xn GQ=>?_);dsimp only;by_cases GP:m < a₀.size
   ·rw [if_pos GP]
    (refine bz (wpS_lift (cw #[Uj])))
    refine bz (zpv hC #[O] #[O] IH GQ fun nF Dg oJ=>?_);rw [if_neg #[D]];rw [gl,Nat.min_self] at oJ |-;refine bz (jh ?_);rw [Dg.pend.trans sW];show wpS _ _ _ _ (do
     modify fun s=>setPending s ((pendingOf s).push #[S3])
     pure (cm #[Xv])) _ _
    exact bz (jz (ck (tl nF Dg oJ)))
   ·rw [if_neg GP];obtain rfl:m=a₀.size:=by lia
    refine bz (jh ?_);rw [IH.pend.trans sW];show wpS _ _ _ _ (do
     modify fun s=>setPending s ((pendingOf s).push #[S3])
     pure (cm #[Xv])) _ _
    exact bz (jz (ck (tl uG IH GQ)))
  ·dsimp only;rw [if_pos (ai _)];exact ck ⟨rfl,qk,h3,h4⟩
 case post =>
  rintro c uG ⟨rfl,hB1,Bk,GQ⟩;dsimp only;refine bz (kW (eZ (I:=fun x c mP=>c=(none,())/\mP=uG) (Q:=fun c mP=>c=(none,())/\mP=uG) ?_ (fun _ _ hh=>hh) ⟨rfl,rfl⟩) ?_)
  ·rintro x c nF _ hx ⟨rfl,rfl⟩;refine bz (jh ?_);rw [Bk,if_pos #[D]];exact ck ⟨rfl,rfl⟩
  ·rintro c nF ⟨rfl,rfl⟩;exact ck (h nF hB1 GQ)
end
end Srt
end
section
namespace Srt
open PySem PyProof.Rows
variable {vs:List Value}
section
variable {prog:Program} {w:World} {A:Around} {E:Value->Shared->Prop} {s:Shared} {κ:SortKind} {val:Keyed->Int}
theorem zhK {a:Addr} {n:Nat} {P:PySem.Fin->Shared->Prop} (ho:s.heap.get? a=some (seqObj "list" vs.toArray n)) (ye:vs.length < 64)
  (rH:∀ h',(∀ b o,b≠a->s.heap.get? b=some o->h'.get? b=some o)->2<=vs.length->∀ (Q:SortKind->Shared->Prop) (E:Value->Shared->Prop),Q κ { s with heap:=h' }->wpAny #[na] A (keyKind' vs.toArray) Q E { s with heap:=h' })
  (Dh:∀ h',(∀ b o,b≠a->s.heap.get? b=some o->h'.get? b=some o)->Cmp prog w A { s with heap:=h' } κ val #[Sm])
  (h:∀ out:Array Value,out.toList.Perm vs->(out.toList.Pairwise fun x y=>val (x,x)<=val (y,y))->P (.done (.ret .none)) { s with heap:=sortedHeap s.heap a vs out }):wpAny #[na] A (Builtin.«list.sort» ⟨[.ref a],[]⟩) P E s:=by
 have mS:vs.length<=sizeLine:=by have:=aS; lia
 rw [list_sort_plain]
 (have ha:a < s.heap.objs.size:=aB ho)
 have hz:vs.toArray.size=vs.length:=au;refine aa (listItems_at ho rfl (aa (jH ho rfl ?_ (hsz:=by rw [hz]; exact mS))))
 (obtain⟨e1,AJ⟩:∃ e1,(s.heap.update a (cq fun _=>#[])).get? a=some (seqObj "list" #[] e1):=⟨_,get?_update_seq ho (fun _=>#[])⟩)
 refine aa (kO AJ rfl (aa (gF (aa (wpAny_newList (bJ ?_))) (hsz:=mS))));have GR:(((s.heap.update a (cq fun _=>#[])).push (seqObj "tuple" vs.toArray 0)).push (seqObj "list" #[] 0)).get? a=some (seqObj "list" #[] e1):=ah _ (ah _ AJ);have hk6:∀ b o,b≠a->s.heap.get? b=some o->(((s.heap.update a (cq fun _=>#[])).push (seqObj "tuple" vs.toArray 0)).push (seqObj "list" #[] 0)).get? b=some o:=fun b o hb e=>ah _ (ah _ ((jR _ _ _ _ hb).trans e))
 (show wpAny #[na] A _ P E { s with heap:=((s.heap.update a (cq fun _=>#[])).push (seqObj "tuple" vs.toArray 0)).push (seqObj "list" #[] 0) })
 dsimp only;have II:=Dh _ hk6;have fin:∀ mP:SortSt,SB κ #[Sm] mP\/(arrOf mP=pairsOf vs/\failedOf mP=none)->SIn val #[EQ] 0 #[Sm].size ->
   P (.done (.ret .none)) { s with heap:=sortedHeap s.heap a vs (#[EQ].map (·.2)) }:=fun mP hB hs=>by
  have hp:#[EQ].Perm #[Sm]:=by
   rcases hB with hB | hB
   ·exact hB.perm
   ·rw [hB.1]
  obtain⟨b1,b2⟩:=zoC hp hs;exact h _ b1 b2
 (by_cases h2:vs.toArray.size < 2)
 ·rw [if_pos h2,if_pos h2];refine aa (ag ?_); rw [StateT.run_pure]; refine aa (ag ?_);dsimp only;refine aa (kO GR rfl (aa (jH GR rfl ?_ (hsz2:=by rw [lK]; show #[Sm].size<=_; rw [gn]; lia))))
  (simp only [bne_self_eq_false,aY,if_false])
  refine ag (fin (SortSt.mk' general' #[Xg] #[] 7 none) (.inr ⟨rfl,rfl⟩) fun i j _ uH hj=>?_);have e:i=j:=by rw [gn] at hj; lia
  rw [e];exact cQ _
 ·rw [if_neg h2,if_neg h2];refine aa (rH _ hk6 #[O] _ _ ?_);refine aa (bK (zmg (a₀:=pairsOf vs) (κ:=κ) (val:=val) (st:=SortSt.mk' κ #[Xg] #[] 7 none) (Q:=fun _ mP=>SB κ #[Sm] mP/\SIn val #[EQ] 0 #[Sm].size)
   II ⟨Array.Perm.refl _,rfl,rfl⟩ rfl (by rw [gn]; lia) (by rw [gn]; lia) fun mP a1 a2=>⟨a1,a2⟩) ?_ fun _ _ e=>e)
  rintro⟨⟨⟩,mP⟩ s' ⟨rfl,hB,hs⟩;dsimp only;refine aa (kO GR rfl (aa (jH GR rfl ?_ (hsz2:=bn (j1 ((lK ..).trans (hB.perm.size_eq.trans (gn _)))) #[O]))));rw [hB.failed]
  (simp only [bne_self_eq_false,aY,if_false])
  exact ag (fin mP (.inl hB) hs)
theorem zcL {v:Value} {Q:Value->Shared->Prop} (ye:vs.length < 64)
  (IJ:∀ R:List Value->Shared->Prop,(∀ (h':Heap) (tk:Nat),(∀ b o,s.heap.get? b=some o->h'.get? b=some o)->R vs { s with heap:=h',toks:=tk })->wpAny #[na] A.in1 (collect v) R E s)
  (rH:∀ s',(∀ b o,s.heap.get? b=some o->s'.heap.get? b=some o)->2<=vs.length->∀ (A':Around) (Q:SortKind->Shared->Prop) (E:Value->Shared->Prop),Q κ s'->wpAny #[na] A' (keyKind' vs.toArray) Q E s')
  (Dh:∀ s' A',(∀ b o,s.heap.get? b=some o->s'.heap.get? b=some o)->Cmp prog w A' s' κ val #[Sm])
  (h:∀ (h':Heap) (tk:Nat) (out:Array Value) (e:Nat) (D:Addr),(∀ b o,s.heap.get? b=some o->h'.get? b=some o)->(∀ b o,s.heap.get? b=some o->b < D)->h'.get? D=some (seqObj "list" out e)->out.toList.Perm vs->(out.toList.Pairwise fun x y=>val (x,x)<=val (y,y))->Q #[QV] { s with heap:=h',toks:=tk }) :
  wpAny #[na] A (call (.builtin "sorted") [v]) Q E s:=by
 have mS:vs.length<=sizeLine:=by have:=aS; lia
 refine Calls.call_function_entry kind_sorted plain_sorted entry_sorted (args_sorted1 _) ?_; unfold Builtin.«sorted»;refine aa (m:=checkCount "sorted" 1 1 _) (ag (aa (bK (IJ (fun us s'=>us=vs/\∃ (h':Heap) (tk:Nat),s' = { s with heap:=h',toks:=tk }/\∀ b o,s.heap.get? b=some o->h'.get? b=some o) fun h' tk k=>⟨rfl,h',tk,rfl,k⟩) ?_ fun _ _ e=>e)));rintro us s' ⟨rfl,h1,tk,rfl,kk⟩;refine aa (wpAny_newList ?_ (hsz:=mS));have D4:(h1.push (seqObj "list" us.toArray 0)).get? h1.objs.size=some (seqObj "list" us.toArray 0):=az _ rfl;have kn:∀ b o,s.heap.get? b=some o->b≠h1.objs.size:=fun b o e=>aO (aB (kk b o e))
 refine aa (bJ (bi slot_list_sort ⟨_,D4,rfl⟩ entry_list_sort (zhK (κ:=κ) (val:=val) D4 ye (fun h' hk h2 Q E hq=>rH _ (fun b o e=>hk b o (kn b o e) (ah _ (kk b o e))) h2 _ Q E hq) (fun h' hk=>Dh _ _ fun b o e=>hk b o (kn b o e) (ah _ (kk b o e))) fun out a1 a2=>⟨_,rfl,?_⟩) (args_list_sort _)));obtain⟨e,he⟩:=sortedHeap_at (out:=out) D4;refine ag ⟨_,rfl,h _ tk out e h1.objs.size (fun b o x=>?_) (fun b o x=>aB (kk _ _ x)) he a1 a2⟩;rw [sortedHeap_old (kn b o x) (by rw [bq]; exact cJ (aB (kk _ _ x)))];exact ah _ (kk _ _ x)
end
end Srt
end
section
namespace L2
open PySem PySem.SetTable
variable {j:Nat} {led:Bool}
noncomputable def Rs (xs:Array Nat):Prop:=xs.toList.Pairwise (· < ·)
theorem Rs.lt {xs:Array Nat} (h:Rs xs) {i j:Nat} (hj:j < xs.size) (uH:i < j):xs[i]'#[O] < xs[j]:=by
 have:=(ij.mp h) i j (by simpa using (by lia:i < xs.size)) (by simpa using hj) uH;simpa using this
theorem ze4 {xs:Array Nat} (h:Rs xs) {j:Nat}:∀ fuel lo hi,hi - lo<=fuel->lo<=hi->hi<=xs.size->(∀ i (pM:i < xs.size),i < lo->xs[i] < j)->(∀ i (pM:i < xs.size),hi<=i->j<=xs[i]) ->
  below.go xs j fuel lo hi<=xs.size/\(∀ i (pM:i < xs.size),i < below.go xs j fuel lo hi->xs[i] < j)/\(∀ i (pM:i < xs.size),below.go xs j fuel lo hi<=i->j<=xs[i])
 | 0,lo,hi,hf,hl,hs,h1,h2=>by
  have e:lo=hi:=by lia
  subst e;exact⟨hs,h1,h2⟩
 | fuel+1,lo,hi,hf,hl,hs,h1,h2=>by
  rw [below.go];by_cases mW:lo < hi
  ·rw [if_pos mW];have hm:(lo+hi) / 2 < xs.size:=by lia
   have e:xs.getD ((lo+hi) / 2) j=xs[(lo+hi) / 2]:=by simp [gp,hm]
   dsimp only;rw [e];by_cases hc:xs[(lo+hi) / 2] < j
   ·rw [if_pos hc];refine ze4 h fuel _ hi #[O] #[O] hs (fun i pM hlt'=>?_) h2;by_cases e2:i=(lo+hi) / 2
    ·subst e2; exact hc
    ·exact ki (h.lt hm #[O]) hc
   ·rw [if_neg hc];refine ze4 h fuel lo _ #[O] #[O] #[O] h1 (fun i pM hle=>?_);by_cases e2:i=(lo+hi) / 2
    ·subst e2; lia
    ·have:=h.lt pM (show (lo+hi) / 2 < i by lia); lia
  ·rw [if_neg mW];have e:lo=hi:=by lia
   subst e;exact⟨hs,h1,h2⟩
theorem zdE {xs:Array Nat} (h:Rs xs) (j:Nat):below xs j<=xs.size/\(∀ i (pM:i < xs.size),i < below xs j->xs[i] < j)/\(∀ i (pM:i < xs.size),below xs j<=i->j<=xs[i]) :=
 ze4 h _ _ _ #[O] #[O] (ai _) (fun i _ hi=>absurd hi #[O]) (fun i pM hle=>absurd pM #[O])
theorem ziz {xs:Array Nat} (h:Rs xs) {i:Nat} (hi:i < xs.size):below xs (xs[i]+1)=i+1:=by
 obtain⟨a,b,c⟩:=zdE h (xs[i]+1);have e1:i < below xs (xs[i]+1):=by
  (refine cY fun hn=>?_)
  have:=c i hi #[O];lia
 (refine cY fun hn=>?_)
 have h2:i+1 < xs.size:=by lia
 have:=b (i+1) h2 #[O];have:=h.lt h2 (show i < i+1 by lia);lia
theorem ziA {xs:Array Nat} (h:Rs xs):below xs 0=0:=by
 obtain⟨a,b,c⟩:=zdE h 0
 (refine cY fun hn=>?_)
 have:=b 0 #[O] #[O];lia
theorem zkA {xs:Array Nat} (h:Rs xs) (hn:xs[below xs j]?≠some j):Rs (insertAt xs #[Tj] j):=by
 obtain⟨a,b,c⟩:=zdE h j;unfold Rs insertAt;simp only [jS,fC,jB,ik,gl,gL];have hsz:xs.toList.length=xs.size:=by simp
 have e1:List.take (xs.size - below xs j) (List.drop #[Tj] xs.toList)=List.drop #[Tj] xs.toList:=bj (by rw [cB]; lia);rw [e1,cu];have hp:(xs.toList.take #[Tj]).Pairwise (· < ·):=h.sublist (cI _ _);have hq:(xs.toList.drop #[Tj]).Pairwise (· < ·):=h.sublist (List.drop_sublist _ _);have ht:∀ x∈xs.toList.take #[Tj],x < j:=fun x hx=>by
  obtain⟨i,hi,rfl⟩:=eK.mp hx;rw [aI] at hi;rw [List.getElem_take];have:=b i #[O] #[O];simpa using this
 have hd:∀ x∈xs.toList.drop #[Tj],j < x:=fun x hx=>by
  obtain⟨i,hi,rfl⟩:=eK.mp hx;rw [cB] at hi;rw [List.getElem_drop];have h1:below xs j < xs.size:=by lia
  have h2:=c #[Tj] h1 (ai _);have h3:xs[below xs j]≠j:=fun e=>hn (by rw [bI h1,e])
  have h4:=c (below xs j+i) #[O] #[O];by_cases e:i=0
  ·subst e;have:j < xs[below xs j]:=by lia
   simpa using this
  ·have:=h.lt (show below xs j+i < xs.size by lia) (show below xs j < below xs j+i by lia);have:j < xs[below xs j+i]:=by lia
   simpa using this
 refine List.pairwise_append.mpr ⟨hp,?_,?_⟩
 ·show (j :: xs.toList.drop #[Tj]).Pairwise (· < ·);exact fb.mpr ⟨hd,hq⟩
 ·intro x hx y hy;rcases (av.mp hy) with rfl | hy
  ·exact ht x hx
  ·exact ki (ht x hx) (hd y hy)
structure Tb (led:Bool) (t:SetTable):Prop where
 r:Rs t.place
 d:t.dummies = #[]
 l:t.led=led
theorem Tb.fresh (f m:Nat) (led:Bool):Tb led (SetTable.fresh f m led):=⟨kD,rfl,rfl⟩
theorem Tb.standIn {t:SetTable} (h:Tb led t) (n:Nat):Tb led (t.standIn n):=⟨by
 show (Array.range n).toList.Pairwise (· < ·);rw [Array.toList_range];exact jb,rfl,h.l⟩
theorem zgD (j:Nat):has #[] j=false:=by
 unfold has;simp
theorem Tb.put {t:SetTable} (h:Tb led t) (hn:t.place[below t.place j]?≠some j):Tb led (t.put j).1:=⟨zkA h.r hn,by
 show (if has t.dummies j=true then _ else t.dummies) = #[];rw [h.d,zgD];rfl,h.l⟩
theorem Tb.Pn {t:SetTable} (h:Tb led t) (es:Array (Int×Value)) (wanted:Nat):Tb led (relayAll t es wanted).2.1:=by
 unfold relayAll;split
 ·next t' o he =>
  have ht:Tb led t':=by
   unfold SetTable.relaid SetTable.laid at he;cases hl:layClean (sizeAbove wanted - 1) (es.map (·.1)) with
   | none=>rw [hl] at he; simp at he
   | some ow =>
    rw [hl] at he;simp only [Option.pure_def,Option.bind_eq_bind,Option.bind_some,fA,Prod.mk.injEq] at he;obtain⟨rfl,_⟩:=he;refine⟨?_,rfl,h.l⟩;show (List.toArray _).toList.Pairwise (· < ·);rw [kr];refine List.Pairwise.filterMap _ ?_ jb;intro a a' haa b hb b' tQ;simp at hb tQ;obtain⟨_,_,rfl⟩:=hb;obtain⟨_,_,rfl⟩:=tQ;exact haa
  dsimp only;split
  ·exact ht
  ·exact h.standIn _
 ·exact h.standIn _
end L2
end
section
namespace L2
open PySem PySem.Spec PyProof.Rows
variable {prog:Program} {w:World}
noncomputable def vInt:Value->Int
 | .int n _=>n
 | _=>0
theorem zgE {k:Int} {v:Value} (h:#[Rt].is k v=true):vInt v=k:=by
 have h:gM k v=true:=h;cases v with
 | int i t=>unfold gM at h; simp at h; exact h
 | _=>exact absurd h (by unfold gM; simp)
end L2
end
section
namespace L2
open PySem PySem.SetTable
variable {j k:Nat} {led:Bool}
noncomputable def tM (mask:Nat):SetTable:={ mask:=mask,place:=#[],dummies:=#[],finger:=0,led:=true,moves:=0,plain:=true }
theorem zmh (t:SetTable) (p:Probe):t.advance p=(tM t.mask).advance p:=rfl
theorem ziB (t:SetTable) (h:Int):t.probeStart h=(tM t.mask).probeStart h:=rfl
noncomputable def rch (mask:Nat):Nat->Probe->Nat->Bool
 | 0,_,_=>false
 | n+1,p,j=>p.j == j || rch mask n ((tM mask).advance p) j
theorem zp4:∀ h,h < 97->∀ j,j < 8->rch 7 220 ((tM 7).probeStart (h:Nat)) j=true:=by decide +kernel
theorem zpy:∀ h,h < 97->∀ j,j < 32->rch 31 460 ((tM 31).probeStart (h:Nat)) j=true:=by decide +kernel
noncomputable def lr (mask:Nat):Nat->Nat->Nat->Nat->Bool
 | 0,i,_,j=>i == j
 | n+1,i,q,j=>i == j || lr mask n #[VL].1 #[VL].2 j
theorem zgF {mask j:Nat}:∀ {n m i q:Nat},n<=m->lr mask n i q j=true->lr mask m i q j=true
 | 0,0,i,q,_,h=>h
 | 0,m+1,i,q,_,h=>by
  rw [lr,bA];exact .inl h
 | n+1,0,i,q,hm,h=>by lia
 | n+1,m+1,i,q,hm,h=>by
  rw [lr,bA] at h |-;exact h.imp id fun h=>zgF #[O] h
noncomputable def fv (i:Nat):Nat:=(i*5+1) % 128
noncomputable def itv:Nat->Nat->Nat
 | 0,i=>i
 | n+1,i=>itv n (fv i)
theorem zer:∀ (n m i:Nat),itv (n+m) i=itv m (itv n i)
 | 0,m,i=>by rw [eY]; rfl
 | n+1,m,i=>by
  rw [show n+1+m=(n+m)+1 by lia];exact zer n m (fv i)
noncomputable def orv:Nat->Nat->List Nat
 | 0,_=>[]
 | n+1,i=>i :: orv n (fv i)
theorem zgG:∀ {n i j:Nat},j∈orv n i->∃ m,m < n/\itv m i=j
 | 0,i,j,h=>by cases h
 | n+1,i,j,h=>by
  rcases (av.mp h) with rfl | h
  ·exact⟨0,#[O],rfl⟩
  ·obtain⟨m,hm,e⟩:=zgG h;exact⟨m+1,#[O],e⟩
theorem zjw:∀ i,i < 128->i∈orv 128 0:=by decide +kernel
theorem zkB:itv 128 0=0:=by decide +kernel
theorem ziC {j:Nat}:∀ (m i:Nat),itv m i=j->lr 127 m i 0 j=true
 | 0,i,h=>by rw [lr]; exact beq_iff_eq.mpr h
 | m+1,i,h=>by
  rw [lr,bA];refine .inr ?_;have:leap 127 i 0=(fv i,0):=by unfold leap fv; simp
  rw [this];exact ziC m (fv i) h
theorem zpz:∀ i,i < 128->∀ j,j < 128->lr 127 127 i 0 j=true:=fun i hi j hj=>by
 obtain⟨a,ha,ea⟩:=zgG (zjw i hi);obtain⟨b,hb,eb⟩:=zgG (zjw j hj);by_cases h:a<=b
 ·refine zgF (show b - a<=127 by lia) (ziC (b - a) i ?_);rw [<- ea,<- zer,show a+(b - a)=b by lia,eb]
 ·refine zgF (show 128 - a+b<=127 by lia) (ziC (128 - a+b) i ?_);rw [<- ea,<- zer,show a+(128 - a+b)=128+b by lia,zer,zkB,eb]
theorem zjx {mask j m:Nat} (hb:∀ i,i < mask+1->∀ j,j < mask+1->lr mask m i 0 j=true) (hj:j < mask+1):∀ n i q,i < mask+1->q < 32 ^ n->lr mask (n+m) i q j=true
 | 0,i,q,hi,hq=>by
  obtain rfl:q=0:=by lia
  rw [eY];exact hb i hi j hj
 | n+1,i,q,hi,hq=>by
  rw [show n+1+m=n+m+1 by lia,lr,bA];refine .inr (zjx hb hj n _ _ (fj _ (gq _)) ?_);show q / 32 < 32 ^ n;rw [iC] at hq;lia
noncomputable def zno (mask i q:Nat):Probe:={ j:=i,more:=runEnd mask i - i,i:=i,perturb:=q,dummy:=none }
theorem ze5 {mask j:Nat}:∀ {n:Nat} {p:Probe} {m:Nat},n<=m->rch mask n p j=true->rch mask m p j=true
 | 0,p,m,_,h=>by simp [rch] at h
 | n+1,p,0,hm,h=>by lia
 | n+1,p,m+1,hm,h=>by
  rw [rch,bA] at h |-;rcases h with h | h
  ·exact .inl h
  ·exact .inr (ze5 #[O] h)
theorem zjy {mask j:Nat}:∀ (d:Nat) (p:Probe) (n:Nat),p.more=d->rch mask n (zno mask #[FS].1 #[FS].2) j=true->p.dummy=none->rch mask (n+d+1) p j=true
 | 0,p,n,hd,h,hp=>by
  rw [Nat.add_zero,rch,bA];refine .inr ?_;have:(tM mask).advance p=zno mask #[FS].1 #[FS].2:=by
   unfold advance;rw [if_neg #[O]];show ({ p with j:=#[FS].1,more:=runEnd mask #[FS].1 - #[FS].1,i:=#[FS].1,perturb:=#[FS].2 }:Probe)=_;rw [hp];rfl
  rw [this];exact h
 | d+1,p,n,hd,h,hp=>by
  rw [rch,bA];refine .inr ?_;have:(tM mask).advance p = { p with j:=p.j+1,more:=p.more - 1 }:=by
   unfold advance;rw [if_pos #[O]]
  rw [this];exact zjy d _ n (by show p.more - 1=d; lia) h hp
theorem zmi (mask i:Nat):runEnd mask i - i<=9:=by
 unfold runEnd;split <;> lia
theorem zmj {mask j:Nat}:∀ (n i q:Nat),lr mask n i q j=true->rch mask (10*n+1) (zno mask i q) j=true
 | 0,i,q,h=>by
  rw [Nat.mul_zero,eY,rch,bA];exact .inl h
 | n+1,i,q,h=>by
  rw [lr,bA] at h;rcases h with h | h
  ·rw [show 10*(n+1)+1=10*n+10+1 by lia,rch,bA];exact .inl h
  ·have h9:=zmi mask i;exact ze5 (show 10*n+1+(runEnd mask i - i)+1<=10*(n+1)+1 by lia) (zjy _ (zno mask i q) (10*n+1) rfl (zmj n _ _ h) rfl)
theorem zhL {h:Nat} (hh:h < 97) (hj:j < 128):lr 127 (2+127) (bits (h:Nat) % (127+1)) (bits (h:Nat)) j=true:=by
 have hb:bits (h:Nat)=h:=by unfold bits; lia
 exact zjx zpz (show j < 127+1 by lia) 2 _ _ (fj _ #[D]) (by rw [hb]; lia)
theorem zoO:∀ h,h < 97->∀ j,j < 128->rch 127 (10*turns 127) ((tM 127).probeStart (h:Nat)) j=true:=fun h hh j hj=>ze5 #[D] (zmj _ _ _ (zhL hh hj))
theorem zmk {mask i:Nat} (h:i<=mask):i+(runEnd mask i - i)<=mask:=by
 unfold runEnd;split <;> lia
theorem zoP {t:SetTable} {p:Probe} (h:p.j+p.more<=t.mask):(t.advance p).j+(t.advance p).more<=t.mask:=by
 unfold advance;split
 ·show p.j+1+(p.more - 1)<=t.mask;lia
 ·exact zmk #[U1]
theorem zkC {t:SetTable} {p:Probe} (h:p.dummy=none):(t.advance p).dummy=none:=by
 unfold advance;split <;> exact h
theorem zjz {t:SetTable} (hd:t.dummies = #[]) {hashAt:Nat->Int} {h:Int} (hh:∀ i,hashAt i≠h) {j0:Nat} (h0:t.slot j0 = .empty):∀ fuel p,p.dummy=none->p.j+p.more<=t.mask->rch t.mask fuel p j0=true->∃ j,probe.go t hashAt h fuel p=some (.empty j none)/\j<=t.mask/\t.slot j = .empty
 | 0,p,_,_,hr=>by simp [rch] at hr
 | fuel+1,p,hp,hm,hr=>by
  rw [probe.go];split
  ·next hs=>exact⟨p.j,by rw [hp],#[O],hs⟩
  ·next hs =>
   unfold slot at hs;dsimp only at hs;rw [hd,zgD] at hs;split at hs
   ·cases hs
   ·simp at hs
  ·next i hs =>
   rw [if_neg (by simpa using hh i)];refine zjz hd hh h0 fuel _ (zkC hp) (zoP hm) ?_;rw [rch,bA] at hr;rcases hr with hr | hr
   ·rw [beq_iff_eq.mp hr,h0] at hs;cases hs
   ·rw [zmh]; exact hr
theorem ziD {t:SetTable} (hd:t.dummies = #[]) (hn:j∉t.place.toList):t.slot j = .empty:=by
 unfold slot;dsimp only;rw [hd,zgD,if_neg,if_neg #[M]];intro hc;have hc:t.place[below t.place j]? = some j:=by simpa using hc
 exact hn (by rw [jp]; exact Array.mem_of_getElem? hc)
theorem zml {t:SetTable} (hd:t.dummies = #[]) (hs:t.place.size<=t.mask):∃ j,j<=t.mask/\t.slot j = .empty:=by
 (refine cY fun hn=>?_)
 have rK:bd (t.mask+1) ⊆ t.place.toList:=fun j hj=>cY fun hc=>hn ⟨j,by have:=bN.mp hj; lia,ziD hd hc⟩
 have:=List.nodup_range.length_le_of_subset rK;rw [cg,aE] at this;lia
structure Pb (led:Bool) (t:SetTable) (n:Nat):Prop where
 b:Tb led t
 p:t.plain=true
 z:t.place.size=n
 i:∀ j∈t.place.toList,j<=t.mask
 m:t.mask=7/\n<=4\/t.mask=31/\n<=18\/t.mask=127/\n<=70
theorem Pb.free {t:SetTable} {n:Nat} (P:Pb led t n) {h:Nat} (hh:h < 97):∃ j,t.freeSlot (h:Nat)=some (j,false)/\j<=t.mask/\t.slot j = .empty:=by
 obtain⟨j0,hj0,h0⟩:=zml P.b.d (by have:=P.z; rcases P.m with m | m | m <;> lia);have oj:(t.probeStart (h:Nat)).j+(t.probeStart (h:Nat)).more<=t.mask:=zmk #[U1];have hr:rch t.mask (10*turns t.mask) (t.probeStart (h:Nat)) j0=true:=by
  rw [ziB];rcases P.m with ⟨m,_⟩ | ⟨m,_⟩ | ⟨m,_⟩
  ·rw [m]; exact zp4 h hh j0 #[O]
  ·rw [m]; exact zpy h hh j0 #[O]
  ·rw [m]; exact zoO h hh j0 #[O]
 obtain⟨j,e,hj,hs⟩:=zjz P.b.d (hashAt:=fun _=>(h:Int)+1) (h:=(h:Int)) (fun _=>by lia) h0 _ (t.probeStart (h:Nat)) rfl oj hr;refine⟨j,?_,hj,hs⟩;unfold freeSlot probe;rw [e];rfl
theorem zd5 {α:Type} {xs:Array α} {p:Nat} {x:α} (hp:p<=xs.size):(insertAt xs p x).size=xs.size+1:=by
 unfold insertAt;simp only [Array.size_append,Array.size_push,Array.size_extract];lia
theorem zjA {a b:Nat} {l:List Nat} (h:k∈l.extract a b):k∈l:=by
 rw [ik] at h;exact List.mem_of_mem_drop (dI h)
theorem Pb.lay {t:SetTable} {n:Nat} (P:Pb led t n) {h:Nat} (hh:h < 97) {es:Array (Int×Value)} (he:es.size=n) (x:Value) :
  ∃ v7 t1,layNew t es (h:Nat) x=(v7,t1,false,false)/\Tb led t1/\t1.plain=true/\t1.mask=t.mask/\t1.place.size=n+1/\(∀ j∈t1.place.toList,j<=t1.mask):=by
 obtain⟨j,e,hj,hs⟩:=P.free hh;have hn:t.place[below t.place j]?≠some j:=fun hc=>by
  unfold slot at hs;dsimp only at hs;rw [hc] at hs;simp at hs
 have hb:=(zdE P.b.r j).1;have hT:=P.b.put hn;have hz:(t.put j).1.place.size=n+1:=by
  show (insertAt t.place #[R4] j).size=n+1;rw [zd5 hb,P.z]
 have vP:(insertAt es #[R4] ((h:Int),x)).size=n+1:=by rw [zd5 (by rw [he,<- P.z]; exact hb),he]
 have hf:(t.put j).1.fits (n+1)=true:=by
  unfold fits fill;rw [hT.d,hz];have:(t.put j).1.mask=t.mask:=rfl;rw [this];rcases P.m with m | m | m <;> simp <;> lia
 refine⟨insertAt es #[R4] ((h:Int),x),(t.put j).1,?_,hT,P.p,rfl,hz,?_⟩
 ·unfold layNew;rw [e];show (insertAt es #[R4] ((h:Int),x),(t.put j).1.orStandIn (insertAt es #[R4] ((h:Int),x)).size,false,!(t.put j).1.fits (insertAt es #[R4] ((h:Int),x)).size)=_;rw [vP];unfold orStandIn;rw [if_pos hf,hf];rfl
 ·intro k hk;show k<=t.mask;have hk:k∈(insertAt t.place #[R4] j).toList:=hk;unfold insertAt at hk;simp only [jS,fC,jB,aC,aW] at hk;rcases hk with (hk | hk) | hk
  ·exact P.i k (zjA hk)
  ·lia
  ·exact P.i k (zjA hk)
noncomputable def rF (mask:Nat):Nat->Nat->Nat->Nat->Bool
 | 0,_,_,_=>false
 | n+1,i,q,j=>(decide (i<=j) && decide (j<=runEnd mask i)) || rF mask n #[VL].1 #[VL].2 j
theorem zp5:∀ h,h < 97->∀ j,j < 32->rF 31 46 (bits (h:Nat) % 32) (bits (h:Nat)) j=true:=by decide +kernel
theorem zjB {mask j:Nat}:∀ {n m i q:Nat},n<=m->rF mask n i q j=true->rF mask m i q j=true
 | 0,m,i,q,_,h=>by simp [rF] at h
 | n+1,0,i,q,hm,h=>by lia
 | n+1,m+1,i,q,hm,h=>by
  rw [rF,bA] at h |-;rcases h with h | h
  ·exact .inl h
  ·exact .inr (zjB #[O] h)
theorem zmm (mask i:Nat):i<=runEnd mask i:=by
 unfold runEnd;split <;> lia
theorem znS {mask j:Nat}:∀ (n i q:Nat),lr mask n i q j=true->rF mask (n+1) i q j=true
 | 0,i,q,h=>by
  rw [rF,bA];have h:i=j:=by rw [lr] at h; exact beq_iff_eq.mp h
  have:=zmm mask i;exact .inl (by rw [bV]; exact#[UU])
 | n+1,i,q,h=>by
  rw [lr,bA] at h;rw [rF,bA];rcases h with h | h
  ·have h:i=j:=beq_iff_eq.mp h;have:=zmm mask i;exact .inl (by rw [bV]; exact#[UU])
  ·exact .inr (znS n _ _ h)
theorem zpA:∀ h,h < 97->∀ j,j < 128->rF 127 (turns 127) (bits (h:Nat) % 128) (bits (h:Nat)) j=true:=fun h hh j hj=>zjB #[D] (znS _ _ _ (zhL hh hj))
theorem rFM {M:Nat} (hM:M=31\/M=127) {h:Nat} (hh:h < 97) (hj:j < M+1):rF M (turns M) (bits (h:Nat) % (M+1)) (bits (h:Nat)) j=true:=by
 rcases hM with rfl | rfl
 ·exact zp5 h hh j hj
 ·exact zpA h hh j hj
theorem zf1 {ow:Array #[At]} {mask j0:Nat} (hz:ow.size=mask+1) (h0:ow[j0]? = some none):∀ fuel i q,i<=mask->rF mask fuel i q j0=true->∃ j,layClean.free mask ow fuel i q=some j/\ow[j]? = some none
 | 0,i,q,_,h=>by simp [rF] at h
 | fuel+1,i,q,hi,h=>by
  rw [layClean.free];cases hf:(bd (runEnd mask i+1 - i)).find? (fun k=>(ow.getD (i+k) (some 0)).isNone) with
  | some k =>
   refine⟨i+k,rfl,?_⟩;have hk:=List.find?_some hf;have hk:(ow.getD (i+k) (some 0)).isNone=true:=hk;by_cases hs:i+k < ow.size
   ·rw [bI hs];have:ow.getD (i+k) (some 0)=ow[i+k]:=by simp [gp,hs]
    rw [this] at hk;rw [Option.isNone_iff_eq_none.mp hk]
   ·have:ow.getD (i+k) (some 0)=some 0:=by simp [gp,hs]
    rw [this] at hk;cases hk
  | none =>
   dsimp only;have hn:=List.find?_eq_none.mp hf;rw [rF,bA,bV,decide_eq_true_eq,decide_eq_true_eq] at h;rcases h with ⟨h1,h2⟩ | h
   ·exfalso;refine hn (j0 - i) (bN.mpr #[O]) ?_;have mW:j0 < ow.size:=by
     rcases fe j0 ow.size with h | h
     ·exact h
     ·rw [ca h] at h0; cases h0
    have e:ow[j0]=none:=by rw [bI mW] at h0; injection h0
    have:ow.getD (i+(j0 - i)) (some 0)=none:=by rw [show i+(j0 - i)=j0 by lia]; simp [gp,mW,e]
    rw [this];rfl
   ·exact zf1 hz h0 fuel _ _ #[U1] h
theorem zmn {k:Nat}:∀ {l:List #[At]} {j:Nat},l[j]? = some none->((l.set j (some k)).filterMap id).Perm (k :: l.filterMap id)
 | [],j,h=>by simp at h
 | a :: l,0,h=>by
  simp at h;subst h;simp
 | a :: l,j+1,h=>by
  (simp only [cn] at h)
  have ih:=zmn (k:=k) h;cases a with
  | none=>simpa using ih
  | some a =>
   simp only [List.set_cons_succ,cb,id];exact (ih.cons a).trans (.swap k a _)
theorem zjC:∀ {l:List #[At]},(l.filterMap id).length < l.length->∃ j:Nat,l[j]? = some none
 | [],h=>by simp at h
 | none :: l,_=>⟨0,rfl⟩
 | some a :: l,h=>by
  simp only [cb,id,bh] at h;obtain⟨j,hj⟩:=zjC (l:=l) #[O];exact⟨j+1,by simpa using hj⟩
noncomputable def Ow (M:Nat) (ow:Array #[At]) (k:Nat):Prop:=ow.size=M+1/\(ow.toList.filterMap id).Perm (bd k)
theorem znp {M:Nat} (hM:M=31\/M=127) {ow:Array #[At]} (O:Ow M ow k) (hk:k < M+1) {h:Nat} (hh:h < 97):∃ j,layClean.free M ow (turns M) (bits (h:Nat) % (M+1)) (bits (h:Nat))=some j/\Ow M (ow.setIfInBounds j (some k)) (k+1):=by
 obtain⟨j0,h0⟩:=zjC (l:=ow.toList) (by rw [O.2.length_eq,cg,aE,O.1]; exact hk);rw [bG] at h0;have hj0:j0 < M+1:=by
  rcases fe j0 ow.size with h | h
  ·rw [<- O.1]; exact h
  ·rw [ca h] at h0; cases h0
 obtain⟨j,e,hj⟩:=zf1 (mask:=M) O.1 h0 (turns M) (bits (h:Nat) % (M+1)) (bits (h:Nat)) #[U1] (rFM hM hh hj0);refine⟨j,e,by rw [Array.size_setIfInBounds]; exact O.1,?_⟩;rw [Array.toList_setIfInBounds];refine (zmn (by rw [bG]; exact hj)).trans ?_;rw [eR];exact (O.2.cons k).trans (List.perm_append_singleton k (bd k)).symm
theorem zoQ {M:Nat} (hM:M=31\/M=127) {hs:List Nat} (hh:∀ h∈hs,h < 97) (hl:hs.length<=M):∃ ow,layClean M (hs.map fun (h:Nat)=>(h:Int)).toArray=some ow/\Ow M ow hs.length:=by
 have key:∀ (hs:List Nat) (ow:Array #[At]) (k:Nat),(∀ h∈hs,h < 97)->k+hs.length<=M->Ow M ow k->∃ GU,(hs.map fun (h:Nat)=>(h:Int)).foldl (fun (acc:Option (Array #[At]×Nat)) (h:Int)=>do
   let (owner,k) <- acc
   let j <- layClean.free M owner (turns M) (bits h % (M+1)) (bits h)
   pure (owner.setIfInBounds j (some k),k+1)) (some (ow,k))=some (GU,k+hs.length)/\Ow M GU (k+hs.length):=by
  intro hs;induction hs with
  | nil=>intro ow k _ _ O; exact⟨ow,rfl,O⟩
  | cons h hs ih =>
   intro ow k hh hl O;rw [bh] at hl;obtain⟨j,e,O2⟩:=znp hM O #[O] (hh h aA);obtain⟨GU,e2,O3⟩:=ih _ (k+1) (fun x hx=>hh x (ar _ hx)) #[O] O2;refine⟨GU,?_,by rw [bh,show k+(hs.length+1)=k+1+hs.length by lia]; exact O3⟩;rw [bc,ge,bh,show k+(hs.length+1)=k+1+hs.length by lia,<- e2];congr 1;show (layClean.free M ow (turns M) (bits (h:Nat) % (M+1)) (bits (h:Nat))).bind _=_;rw [e];rfl
 obtain⟨ow,e,O⟩:=key hs (Array.replicate (M+1) none) 0 hh #[O] ⟨#[M],by
  rw [Array.toList_replicate,List.range_zero];have:∀ n,(ak n (none:Option Nat)).filterMap id = []:=fun n=>by
   induction n with
   | zero=>rfl
   | succ n ih=>simp [bo,ih]
  rw [this]⟩
 rw [eY] at e O;refine⟨ow,?_,O⟩;unfold layClean;rw [<- Array.foldl_toList];rw [e];rfl
theorem range_getD {α:Type} {d:α}:∀ (l:List α),(bd l.length).map (fun j=>l.getD j d)=l:=fun l=>by
 refine List.ext_getElem #[M] fun i h1 h2=>?_
 simp [hX,aF h2]
theorem zkD {M:Nat} {ow:Array #[At]} (hz:ow.size=M):((bd M).filterMap fun j=>(ow.getD j none).map (j,·)).map (·.2)=ow.toList.filterMap id:=by
 have e:ow.toList.filterMap id=((bd M).map fun j=>ow.toList.getD j none).filterMap id:=by
  have:=range_getD (d:=(none:Option Nat)) ow.toList;rw [aE,hz] at this;rw [this]
 rw [e,kr,gT];congr 1;funext j;have:ow.toList.getD j none=ow.getD j none:=by
  rw [hX,bG,Array.getD_eq_getD_getElem?]
 simp only [lT,id];rw [this];cases ow.getD j none <;> rfl
theorem zkE {α:Type} (es:Array α):(bd es.size).filterMap (fun i=>es[i]?)=es.toList:=by
 have h:∀ (l:List α),(bd l.length).filterMap (fun i=>l[i]?)=l:=fun l=>by
  induction l with
  | nil=>rfl
  | cons a l ih =>
   rw [bh,fK,cb];simp only [dW];rw [gT];show a :: _=_;congr 1
 have:=h es.toList;rw [aE] at this;simpa using this
theorem Pb.Pn {t:SetTable} {n wanted:Nat} {es:Array (Int×Value)} (T:Tb led t) (hp:t.plain=true) (hh:∀ e∈es.toList,∃ h:Nat,h < 97/\e.1=h) (he:es.size=n) {M:Nat} (hn:M=31/\n<=18\/M=127/\n<=70) (hw:sizeAbove wanted=M+1) :
  ∃ es' t',relayAll t es wanted=(es',t',false)/\Pb led t' n:=by
 have hT:=T.Pn es wanted;obtain⟨hs,IK⟩:∃ hs:List Nat,hs=es.toList.map fun e=>e.1.toNat:=⟨_,rfl⟩
 have hl:hs.length=n:=by rw [IK,ae,aE,he]
 have mW:∀ h∈hs,h < 97:=fun h hm=>by
  rw [IK] at hm;obtain⟨e,IL,rfl⟩:=aZ.mp hm;obtain⟨h',h1,h2⟩:=hh e IL;rw [h2];simpa using h1
 have eh:es.map (·.1)=(hs.map fun (h:Nat)=>(h:Int)).toArray:=by
  refine Array.toList_inj.mp ?_;rw [iA,IK,bx];refine cf fun e IL=>?_
  obtain⟨h',h1,h2⟩:=hh e IL;simp [h2]
 have hM:M=31\/M=127:=hn.imp And.left And.left;obtain⟨ow,e,O⟩:=zoQ hM mW #[O];rw [hl] at O;obtain⟨live,IM⟩:∃ live,live=(bd (M+1)).filterMap fun j=>(ow.getD j none).map (j,·):=⟨_,rfl⟩
 have hv:(live.map (·.2)).Perm (bd n):=by rw [IM,zkD O.1]; exact O.2
 have GJ:live.length=n:=by rw [<- ae (f:=(·.2)),hv.length_eq,cg]
 have er:t.relaid (es.map (·.1)) wanted=some ({ mask:=M,place:=(live.map (·.1)).toArray,dummies:=#[],finger:=t.finger,led:=t.led,moves:=t.movedTo M,plain:=t.plain },(live.map (·.2)).toArray):=by
  unfold relaid laid;rw [hw,eh];show (layClean M (hs.map fun (h:Nat)=>(h:Int)).toArray).bind _=_;rw [e,IM];rfl
 have vP:((live.map (·.2)).toArray.filterMap (es[·]?)).size=n:=by
  rw [<- aE,Array.toList_filterMap];rw [(hv.filterMap _).length_eq,<- he,zkE,aE]
 have hc:coversAll (live.map (·.2)).toArray n=true:=by
  unfold coversAll;exact List.isPerm_iff.mpr hv
 unfold relayAll at hT |-;rw [er] at hT |-;dsimp only at hT |-;have hf:lW { mask:=M,place:=(live.map (·.1)).toArray,dummies:=#[],finger:=t.finger,led:=t.led,moves:=t.movedTo M,plain:=t.plain } n=true:=by
  unfold fits fill;simp [GJ];lia
 rw [vP,he,hc,hf] at hT |-;refine⟨_,_,rfl,hT,hp,by simp [GJ],fun j hj=>?_,.inr hn⟩;have hj:j∈live.map (·.1):=hj;obtain⟨q,hq,rfl⟩:=aZ.mp hj;rw [IM] at hq;obtain⟨j',uF,e'⟩:=gQ.mp hq;have:=bN.mp uF;cases h:ow.getD j' none with
 | none=>rw [h] at e'; cases e'
 | some v =>
  rw [h] at e';injection e' with e'
  subst e';show j'<=M;lia
end L2
end
section
namespace L2
open PySem PySem.Spec PyProof.Rows PySem.SetTable
variable {ep tk:Nat} {h:Heap} {led:Bool} {ns:List Int}
theorem ze6:∀ n:Nat,n < 97->hashInt (n:Nat)=(n:Nat):=by decide +kernel
theorem Pb.fits {t:SetTable} {n:Nat} (P:Pb led t n):t.fits n=true:=by
 unfold lW lX;rw [P.b.d,P.z];rcases P.m with m | m | m <;> simp <;> lia
theorem Pb.next {t1:SetTable} {n:Nat} (T:Tb led t1) (hp:t1.plain=true) (hz:t1.place.size=n) (hi:∀ j∈t1.place.toList,j<=t1.mask) (hm:t1.mask=7/\n<=5\/t1.mask=31/\n<=19\/t1.mask=127/\n<=70) :
  (t1.tooFull=true->n=5\/n=19)/\(t1.tooFull=false->Pb led t1 n):=by
 have ef:t1.fill=n:=by unfold lX; rw [T.d,hz]; rfl
 constructor
 ·intro h;unfold tooFull at h;rw [ef] at h;simp at h;rcases hm with ⟨m,h2⟩ | ⟨m,h2⟩ | ⟨m,h2⟩ <;> rw [m] at h <;> lia
 ·intro h;unfold tooFull at h;rw [ef] at h;simp at h;refine⟨T,hp,hz,hi,?_⟩;rcases hm with ⟨m,h2⟩ | ⟨m,h2⟩ | ⟨m,h2⟩ <;> rw [m] at h
  ·exact .inl ⟨m,#[O]⟩
  ·exact .inr (.inl ⟨m,#[O]⟩)
  ·exact .inr (.inr ⟨m,h2⟩)
section
variable {prog:Program} {w:World} {A:Around} {E:Value->Shared->Prop} {s:Shared}
noncomputable def zed (prog:Program) (w:World) (led:Bool) (h:Heap) (a:Addr) (ns:List Int):Prop :=
 ∃ o es ep t,h.get? a=some o/\o.ExactSet/\o.data = .set es ep t/\ElemsOf #[Rt] es.toList/\(es.toList.map fun e=>vInt e.2).Perm ns/\(∀ n∈ns,0<=n/\n < 97)/\Pb led t es.size
theorem zf2 {a:Addr} {o:Obj} {es es':Array (Int×Value)} {t t':SetTable} (ho:h.get? a=some o) (hex:o.ExactSet) (hd:o.data = .set es ep t) :
  (h.update a (lD es' t')).get? a=some { o with data:=.set es' (ep+1) t' }:=by
 (have:=bP (lD es' t') ho (by rw [putSet_of es' t' hd]; rfl))
 rw [putSet_of es' t' hd] at this;exact this
theorem zmo {a:Addr} {n:Int} {Q:Bool->Shared->Prop} (hS:zed prog w led s.heap a ns) (Ci:ns.length+1<=70) (h0:0<=n) (Fp:n < 97)
  (h:∀ h' b,aX a s.heap h'->zed prog w led h' a (dJ ns n)->Q b { s with heap:=h' }) :
  wpAny #[na] A (setAddHashed a (.int n tk) (#[Rt].hash n)) Q E s:=by
 obtain⟨o,es,ep,t,ho,hex,hd,Di,hp,yE,P⟩:=hS;have hf:=P.fits;have hn:es.size=ns.length:=by rw [<- hp.length_eq,ae,aE]
 have hb:es.size < scanBound:=by unfold scanBound; lia
 have vR:#[Rt].is n (.int n tk)=true:=intKind_is _ _ _ _;have Cj:∀ k:Int,(∃ e∈es.toList,#[Rt].is k e.2=true)↔k∈ns:=fun k=>by
  rw [<- hp.mem_iff,aZ];constructor
  ·rintro⟨e,he,hk⟩;exact⟨e,he,zgE hk⟩
  ·rintro⟨e,he,rfl⟩;obtain⟨⟨k',uO,_⟩,_⟩:=Di e he;exact⟨e,he,by rw [zgE uO]; exact uO⟩
 (unfold setAddHashed setAddHashedIn)
 (refine bJ (aa #[Vg]))
 dsimp only;rw [byScan_of (knd:=intKind prog w) (x:=.int n tk) rfl hb Di];simp only [↓reduceIte];unfold setAddByScan;refine aa (aa (cw (aa (wpAny_setScan_of vR ho hd hf Di ?_))));have e0:s = { s with heap:=s.heap }:=by cases s; rfl
 cases hr:List.findIdx? (fun e=>#[Rt].is n e.2) es.toList with
 | some j =>
  dsimp only
  (obtain⟨hj,hpj,_⟩:=List.findIdx?_eq_some_iff_getElem.mp hr)
  have rG:n∈ns:=(Cj n).mp ⟨es.toList[j],eG hj,hpj⟩;have e1:dJ ns n=ns:=by
   unfold dJ;rw [if_pos (dQ.mpr ⟨n,rG,#[M]⟩)]
  (refine ag (ag ?_))
  rw [e0];exact h s.heap _ (Heap.SameBut.refl a s.heap) (by rw [e1]; exact⟨o,es,ep,t,ho,hex,hd,Di,hp,yE,P⟩)
 | none =>
  dsimp only;have IP:n∉ns:=fun rG=>by
   obtain⟨e,he,hk⟩:=(Cj n).mpr rG
   (have:=List.findIdx?_eq_none_iff.mp hr e he)
   rw [hk] at this;cases this
  have e1:dJ ns n=ns++[n]:=by
   unfold dJ;rw [if_neg fun hc=>by
    obtain⟨x,hx,IQ⟩:=dQ.mp hc;exact IP (by rw [<- beq_iff_eq.mp IQ]; exact hx)]
  rw [e1] at h;obtain⟨m,rfl⟩:∃ m:Nat,n=m:=⟨n.toNat,#[O]⟩;have hm:m < 97:=by lia
  have eh:#[Rt].hash (m:Int)=(m:Int):=ze6 m hm;have nQ:=layNew_perm t es (#[Rt].hash (m:Int)) (.int m tk);obtain⟨v7,t1,eL,T1,p1,m1,z1,i1⟩:=P.lay hm rfl (.int m tk);rw [eh] at nQ |-;rw [eL] at nQ |-;dsimp only at nQ |-
  (rw [fC] at nQ)
  have Dj:ElemsOf #[Rt] v7.toList:=(Di.push (k:=(m:Int)) vR rfl).perm (by rw [eh]; exact nQ);have Bk:(v7.toList.map fun e=>vInt e.2).Perm (ns++[(m:Int)]):=by
   refine (nQ.map _).trans ?_;rw [aw];exact hp.append (.refl _)
  have rD:v7.size=es.size+1:=by
   rw [<- aE,nQ.length_eq,aH,aE];rfl
  have Ck:v7.size < scanBound:=by unfold scanBound; lia
  have Dk:∀ x∈ns++[(m:Int)],0<=x/\x < 97:=fun x hx=>by
   rcases (aC.mp hx) with hx | hx
   ·exact yE x hx
   ·rw [aW.mp hx]; exact⟨h0,Fp⟩
  have hhs:∀ e∈v7.toList,∃ k:Nat,k < 97/\e.1=k:=fun e he=>by
   obtain⟨⟨k',uO,hh'⟩,_⟩:=Dj e he;have rG:k'∈ns++[(m:Int)]:=Bk.mem_iff.mp (aZ.mpr ⟨e,he,zgE uO⟩);obtain⟨c0,c1⟩:=Dk k' rG;obtain⟨q,rfl⟩:∃ q:Nat,k'=q:=⟨k'.toNat,#[O]⟩;exact⟨q,#[O],by rw [hh']; exact ze6 q #[O]⟩
  have EW:t1.mask=7/\es.size+1<=5\/t1.mask=31/\es.size+1<=19\/t1.mask=127/\es.size+1<=70:=by
   rw [m1];rcases P.m with ⟨a,b⟩ | ⟨a,b⟩ | ⟨a,b⟩
   ·exact .inl ⟨a,#[O]⟩
   ·exact .inr (.inl ⟨a,#[O]⟩)
   ·exact .inr (.inr ⟨a,#[O]⟩)
  obtain⟨nx1,nx2⟩:=Pb.next T1 p1 z1 i1 EW;have oq:=fun t2=>bH s.heap a (lD v7 t2)
  refine aa (ag ?_);rw [if_pos p1];refine aa ?_;rw [hashByValue_scannable 8 (x:=.int m tk) rfl];refine ag ?_;rw [show plainKind (.int (m:Int) tk)=true from rfl];simp only [↓reduceIte,jl,lS]
  (refine aa (wpAny_storeSet_of ho hd ?_ (fits_of_scanBound Ck)))
  have AJ:=zf2 (es':=v7) (t':=t1) ho hex hd;by_cases Bt:t1.tooFull=true
  ·rw [if_pos Bt];have h5:=nx1 Bt;obtain⟨IS,t3,e2,P2⟩:∃ es' t',relayAll t1 v7 (lL v7.size)=(es',t',false)/\Pb led t' (es.size+1):=by
    rcases h5 with h5 | h5
    ·exact Pb.Pn (M:=31) T1 p1 hhs rD (.inl ⟨rfl,#[O]⟩) (by rw [rD,h5]; decide)
    ·exact Pb.Pn (M:=127) T1 p1 hhs rD (.inr ⟨rfl,#[O]⟩) (by rw [rD,h5]; decide)
   have Ca:=relayAll_perm t1 v7 (lL v7.size);rw [e2] at Ca |-;dsimp only at Ca |-;have hsz:IS.size=v7.size:=by rw [<- aE,Ca.length_eq,aE]
   refine aa (ag ?_);refine aa (wpAny_storeSet_of AJ rfl ?_ (fits_of_scanBound #[O]));have vN:=zf2 (es':=IS) (t':=t3) AJ hex rfl;exact ag (ag (h _ _ ((oq t1).trans (bH _ a _)) ⟨_,IS,_,t3,vN,hex,rfl,Dj.perm Ca,(Ca.map _).trans Bk,Dk,by rw [hsz,rD]; exact P2⟩))
  ·rw [if_neg Bt];exact ag (ag (h _ _ (oq t1) ⟨_,v7,_,t1,AJ,hex,rfl,Dj,Bk,Dk,by rw [rD]; exact nx2 (by simpa using Bt)⟩))
end
end L2
end
section
namespace L2
open PySem PySem.Spec PyProof.Rows
variable {ep:Nat} {h h':Heap} {it:Addr} {led:Bool} {ns:List Int}
section
variable {St:Nat->Shared->Prop} {prog:Program} {w:World} {A:Around} {R:Result->Shared->Prop} {I:Addr} {fp wr:List Addr} {G:Array GenState->Array GenState->Prop} {n:Nat} {P:Nat->Value->Prop}
theorem zed.at {a:Addr} (hS:zed prog w led h a ns) (e:∀ o,h.get? a=some o->h'.get? a=some o):zed prog w led h' a ns:=by
 (obtain⟨o,es,ep,t,ho,rest⟩:=hS)
 exact⟨o,es,ep,t,e o ho,rest⟩
end
noncomputable def zau (w:World):Bool:=!w.params.followText "set-order"
noncomputable def zpB (led:Bool):Obj:={ cls:=.type "set",dict:=none,data:=.set #[] 0 (.fresh 0 0 led) }
section
variable {prog:Program} {w:World} {A:Around} {E:Value->Shared->Prop} {s:Shared}
theorem ziE {a:Addr} (ho:h.get? a=some (zpB led)):zed prog w led h a [] :=
 ⟨_,#[],0,_,ho,⟨rfl,rfl,rfl⟩,rfl,fun e he=>by simp at he,.refl _,(fun n hn=>by cases hn),⟨.fresh _ _ _,rfl,rfl,(fun j hj=>by cases hj),.inl ⟨rfl,bg _⟩⟩⟩
end
theorem KD {α:Type}:∀ {l:List α} {i:Nat} (h:i < l.length),(l[i] :: l.eraseIdx i).Perm l
 | [],i,h=>by simp at h
 | a :: l,0,h=>by simp
 | a :: l,i+1,h=>by
  have:=KD (l:=l) (i:=i) (by simpa using h);simp only [List.getElem_cons_succ,iH];exact (lJ _ _ _).trans (this.cons a)
theorem zjD {α:Type} {next:Nat->Nat}:∀ (fuel k:Nat) (left:List α) (out:Array α),left.length<=fuel->(ku next fuel k left out).toList.Perm (out.toList++left)
 | 0,k,left,out,h=>by
  have:left = []:=cp.mp #[O];subst this;simp [ku]
 | fuel+1,k,left,out,h=>by
  rw [ku];split
  ·next x hx =>
   have hi:next k % left.length < left.length:=by
    rcases fe (next k % left.length) left.length with h' | h'
    ·exact h'
    ·rw [cX h'] at hx; cases hx
   have e:left[next k % left.length]=x:=by rw [aF hi] at hx; injection hx
   refine (zjD fuel (k+1) _ _ (by rw [List.length_eraseIdx_of_lt hi]; lia)).trans ?_;rw [fC,cu]
   (refine List.Perm.append_left _ ?_)
   rw [List.singleton_append,<- e];exact KD hi
  ·next hx =>
   have:left = []:=by
    cases left with
    | nil=>rfl
    | cons a l=>rw [aF (fj _ #[M])] at hx; cases hx
   subst this;simp
theorem zkF {α:Type} (next:Nat->Nat) (xs:Array α):(pickOrder next xs).toList.Perm xs.toList:=by
 have:=zjD (next:=next) xs.size 0 xs.toList #[] #[M];simpa [pickOrder] using this
noncomputable def zbk (w:World) (a:Addr) (ep:Nat) (es:Array (Int×Value)):Array (Int×Value):=if zau w=true then es else pickOrder (w.params.setOrder a ep) es
theorem zbQ (w:World) (a:Addr) (ep:Nat) (es:Array (Int×Value)):#[Rr].toList.Perm es.toList:=by
 unfold zbk;split
 ·exact .refl _
 ·exact zkF _ _
noncomputable def slotAt (w:World) (t:SetTable) (i:Nat):Nat:=if zau w=true then (if i=0 then 0 else t.place.getD (i - 1) 0+1) else 0
section
variable {prog:Program} {w:World} {A:Around} {E:Value->Shared->Prop} {s:Shared}
theorem zcu {Q:Bool->Shared->Prop} (h:Q (!zau w) s):wpAny #[na] A setsByText Q E s:=by
 unfold setsByText;refine aa (fR (ag ?_));unfold zau at h;rw [Bool.not_not] at h;exact h
theorem zhM {a:Addr} {o:Obj} {es:Array (Int×Value)} {i:Nat} {t:SetTable} {Q:Option (Value×Nat)->Shared->Prop} (ho:s.heap.get? a=some o) (hd:o.data = .set es ep t) (P:Pb (zau w) t es.size) (hi:i<=es.size)
  (h:Q ((#[Rr][i]?).map fun e=>(e.2,slotAt w t (i+1))) s):wpAny #[na] A (setNext a #[Wm] i ep) Q E s:=by
 have hf:=P.fits;unfold setNext
 (refine aa #[Vg])
 dsimp only;refine aa (zcu ?_);cases hl:zau w with
 | false =>
  rw [jl,if_pos rfl];rw [if_neg #[M]];have e1:zbk w a ep es=pickOrder (w.params.setOrder a ep) es:=by unfold zbk; rw [hl]; rfl
  have e2:∀ j,slotAt w t j=0:=fun j=>by unfold slotAt; rw [hl]; rfl
  rw [e1,e2] at h;rw [e2];refine aa ?_;unfold setWalk
  (refine aa #[Vg])
  dsimp only;refine aa (zcu ?_);rw [hl,jl,if_pos rfl];refine aa (fR (ag ?_));exact ag h
 | true =>
  rw [fN,if_neg #[M]];have e1:zbk w a ep es=es:=by unfold zbk; rw [hl]; rfl
  have yM:SetTable.below t.place #[Wm]=i:=by
   unfold slotAt;rw [hl,if_pos rfl];by_cases h0:i=0
   ·rw [if_pos h0,h0]; exact ziA P.b.r
   ·rw [if_neg h0];have mW:i - 1 < t.place.size:=by rw [P.z]; lia
    have:t.place.getD (i - 1) 0=t.place[i - 1]:=by simp [gp,mW]
    rw [this,ziz P.b.r mW];lia
  have h2:slotAt w t (i+1)=t.place.getD i 0+1:=by unfold slotAt; rw [hl]; rfl
  rw [e1,h2] at h;split
  ·next yQ =>
   exfalso;have yQ:(!t.plain && decide (es.size > 1))=true:=yQ;rw [P.p] at yQ;simp at yQ
  ·refine aa ?_;show wpAny _ _ (if (!t.led && !es.isEmpty)=true then _ else _) _ _ _;rw [P.b.l,hl];rw [if_neg #[M]];refine ag ?_;rw [yM];by_cases mW:i < es.size
   ·have hz:i < t.place.size:=by rw [P.z]; exact mW
    rw [bI mW,bI hz];rw [bI mW] at h;have:t.place.getD i 0=t.place[i]:=by simp [gp,hz]
    rw [this] at h;exact ag h
   ·rw [ca #[O]] at h |-;exact ag h
end
theorem zaS:Slot "set_iterator" "__next__" "set_iterator.__next__" :=
 .of (owner:="set_iterator") (n:="__next__") (by rw [d8,cU]; kernel_rfl) #[N] #[N] #[N] (by first | exact .inl #[N] | exact .inr #[N]) (by rw [dN]; kernel_rfl)
theorem zdF:Slot "set_iterator" "__iter__" "set_iterator.__iter__" :=
 .of (owner:="set_iterator") (n:="__iter__") (by rw [d8,cU]; kernel_rfl) #[N] #[N] #[N] (by first | exact .inl #[N] | exact .inr #[N]) (by rw [dN]; kernel_rfl)
theorem zc3:entryFor table "set_iterator.__next__" = some Builtin.«set_iterator.__next__»:=entryFor_of_fast (by kernel_rfl)
theorem zfr:entryFor table "set_iterator.__iter__" = some Builtin.«dict_keyiterator.__iter__»:=jf (id':="dict_keyiterator.__iter__") (by kernel_rfl) rfl #[N] (by kernel_rfl)
theorem ze7:entryFor table "set.__iter__" = some Builtin.«frozenset.__iter__»:=jf (id':="frozenset.__iter__") (by kernel_rfl) rfl #[N] (by kernel_rfl)
theorem zdG (a:Value):argsOk "set_iterator.__next__" ⟨[a],[]⟩:=by unfold argsOk; kernel_rfl
theorem zgH (a:Value):argsOk "set_iterator.__iter__" ⟨[a],[]⟩:=by unfold argsOk; kernel_rfl
noncomputable def SIt (h:Heap) (it a:Addr) (sl i n ep:Nat):Prop:=∃ o,h.get? it=some o/\o.cls = .type "set_iterator"/\o.data = .fields #[rawInt sl,rawInt i,.ref a,rawInt n,rawInt ep]
section
variable {prog:Program} {w:World} {A:Around} {E:Value->Shared->Prop} {s:Shared}
theorem SIt.typeIs {a:Addr} {sl i n:Nat} (h:SIt s.heap it a sl i n ep):s.TypeIs #[Q7] "set_iterator":=let ⟨o,ho,hc,_⟩:=h; ⟨o,ho,hc⟩
theorem znq {a:Addr} {sl i n:Nat} {Q:Value->Shared->Prop} (hit:SIt s.heap it a sl i n ep) (h:Q #[Q7] s):wpAny #[na] A (pyIter #[Q7]) Q E s:=by
 refine ee hit.typeIs zdF (bi zdF hit.typeIs zfr ?_ (zgH _))
 (show wpAny _ _ (ret #[Q7]) _ _ s)
 exact ag ⟨_,rfl,"set_iterator",_,hit.typeIs,zaS.lookup,h⟩
theorem zmp {a:Addr} {o:Obj} {es:Array (Int×Value)} {t:SetTable} {Q:Value->Shared->Prop} (ho:s.heap.get? a=some o) (hex:o.ExactSet) (hd:o.data = .set es ep t) (P:Pb (zau w) t es.size)
  (h:Q #[t0] { s with heap:=s.heap.push { cls:=.type "set_iterator",data:=.fields #[RC] } }):wpAny #[na] A (pyIter #[Rf]) Q E s:=by
 have hf:=P.fits
 (have hT:s.TypeIs #[Rf] "set":=⟨o,ho,hex.1⟩)
 refine ee hT F.slot_set_iter (bi F.slot_set_iter hT ze7 ?_ (F.args_set_iter_1 _));unfold Builtin.«frozenset.__iter__» me slotArgs
 (simp only [fY,fN,aY,↓reduceIte,bind_assoc,eU,bne_self_eq_false])
 (unfold iD l8)
 refine aa (ag ?_)
 try dsimp only
 refine aa (ag ?_)
 (refine aa (aa (gz ho hd hf (ag ?_))))
 unfold setDrawn;refine aa (aa #[Vg]);dsimp only;refine aa (zcu (ag ?_));split
 ·next yQ =>
  exfalso;have yQ:(!!zau w && (!t.plain && decide (es.size > 1)))=true:=yQ;rw [P.p] at yQ;simp at yQ
 ·exact aa (ag (aa (wpAny_setEpoch_of ho hd hf (aa (bE (ag ⟨_,rfl,"set_iterator",_,⟨_,az _ rfl,rfl⟩,zaS.lookup,h⟩))))))
theorem next_item {a:Addr} {o:Obj} {es:Array (Int×Value)} {i:Nat} {t:SetTable} {x:Int×Value} {Q:Option Value->Shared->Prop} (hit:SIt s.heap it a #[Wm] i es.size ep) (oM:a≠it)
  (ho:s.heap.get? a=some o) (hd:o.data = .set es ep t) (P:Pb (zau w) t es.size) (hx:#[Rr][i]? = some x)
  (hQ:∀ h',SIt h' it a (slotAt w t (i+1)) (i+1) es.size ep->aX it s.heap h'->Q (some x.2) { s with heap:=h' }):wpAny #[na] A #[SI] Q E s:=by
 have hf:=P.fits;have hi:i<=es.size:=by
  have h1:#[Rr].size=es.size:=by rw [<- aE,#[VG].length_eq,aE]
  rcases (fe i es.size) with h | h
  ·lia
  ·rw [ca #[O]] at hx; cases hx
 obtain⟨oi,Ei,hci,Dq⟩:=id hit;unfold pyNext;refine aa (bZ (bp (name:=bL "__next__") hit.typeIs zaS #[VY]));unfold Builtin.«set_iterator.__next__» slotArgs
 (simp only [fY,fN,aY,↓reduceIte,bind_assoc,eU,bne_self_eq_false])
 refine aa (ag ?_);refine aa (gI Ei Dq ?_);dsimp only [rawInt];refine aa (gz ho hd hf ?_);rw [if_neg #[M]];refine aa ?_;simp only [a8];refine zhM ho hd P hi ?_;rw [hx];show wpAny _ _ (setField (aL it) 0 (cK (slotAt w t (i+1):Nat) 0) >>= fun _=>setField (aL it) 1 (cK ((i:Int)+1) 0) >>= fun _=>ret x.2) _ _ s;refine aa (cG Ei Dq #[M] ?_);have g1:=bP (eM (·.setIfInBounds 0 (cK (slotAt w t (i+1):Nat) 0))) Ei (cV (bR Dq _));have d1:=bR Dq (·.setIfInBounds 0 (cK (slotAt w t (i+1):Nat) 0));refine aa (cG g1 d1 #[M] ?_);have g2:=bP (eM (·.setIfInBounds 1 (cK ((i:Int)+1) 0))) g1 (cV (bR d1 _));refine ag ⟨x.2,rfl,ag (hQ _ ⟨_,g2,?_,?_⟩ ((bH ..).trans (bH ..)))⟩
 ·exact (d9 ..).trans ((d9 ..).trans hci)
 ·rw [bR d1];simp [rawInt]
theorem next_end {a:Addr} {o:Obj} {es:Array (Int×Value)} {t:SetTable} {Q:Option Value->Shared->Prop} (hh:A.handled=none) (hit:SIt s.heap it a (slotAt w t es.size) es.size es.size ep)
  (ho:s.heap.get? a=some o) (hd:o.data = .set es ep t) (P:Pb (zau w) t es.size) (hQ:∀ h',iU it s.heap h'->Q none { s with heap:=h' }):wpAny #[na] A #[SI] Q E s:=by
 have hf:=P.fits;have hx:#[Rr][es.size]? = none:=ca (by rw [<- aE,#[VG].length_eq,aE]; lia);obtain⟨oi,Ei,hci,Dq⟩:=id hit;unfold pyNext;refine aa (bZ (bp (name:=bL "__next__") hit.typeIs zaS #[VY]));unfold Builtin.«set_iterator.__next__» slotArgs
 (simp only [fY,fN,aY,↓reduceIte,bind_assoc,eU,bne_self_eq_false])
 refine aa (ag ?_);refine aa (gI Ei Dq ?_);dsimp only [rawInt];refine aa (gz ho hd hf ?_);rw [if_neg #[M]];refine aa ?_;simp only [a8];refine zhM ho hd P (ai _) ?_;rw [hx];show wpAny _ _ (setField (aL it) 2 bW >>= fun _=>newExc (.type "StopIteration") [] >>= fun e=>raiseNew e) _ _ s;refine aa (cG Ei Dq #[M] ?_);refine aa ?_;simp only [newExc,newTuple]
 (refine aa (bE ?_ (by size_fits)))
 (refine aa (m:=firstArgMember _ _) (dL (a:=bW) (by first | rfl | (simp only [firstArgMember]; rfl)) ?_))
 (refine bE ?_ (by size_fits))
 simp only [raiseNew]
 (refine aa (hU ?_))
 (rw [show A.in1.handled=none from hh])
 (refine aa (ag (iV ?_)))
 (refine aa (dh (T:="StopIteration") (b:=true) ⟨_,az _ rfl,rfl⟩ fg ?_))
 (exact ag (hQ _ (((bH ..).extBut.push _).push _)))
theorem SIt.at {a:Addr} {sl i n:Nat} (x:SIt h it a sl i n ep) (e:∀ o,h.get? it=some o->h'.get? it=some o):SIt h' it a sl i n ep:=let ⟨o,ho,r⟩:=x; ⟨o,e _ ho,r⟩
theorem zkG (hh:A.handled=none) (I a:Addr) (oM:a≠I) {o:Obj} {es:Array (Int×Value)} {t:SetTable} (hd:o.data = .set es ep t) (P:Pb (zau w) t es.size) :
  Walks prog w A I [I,a] [I] es.size (fun i v=>(#[Rr][i]?).map (·.2)=some v) (fun i h=>SIt h I a #[Wm] i es.size ep/\h.get? a=some o) where
 sub:=(fun b hb=>by simp at hb; simp [hb])
 frame:=fun _ _ _ st hk=>⟨st.1.at fun o e=>hk I #[M] o e,hk a #[M] o st.2⟩; item:=fun i s Q E hi st hQ=>by
  have h1:#[Rr].size=es.size:=by rw [<- aE,#[VG].length_eq,aE]
  have hx:#[Rr][i]? = some (#[Rr][i]'#[O]):=bI #[O];refine next_item st.1 oM st.2 hd P hx fun h' uc oT=>?_
  refine hQ _ h' s.toks (by rw [hx]; rfl) ⟨uc,oT.extBut a o oM st.2⟩ fun b o hb e=>oT.extBut b o (fun h=>hb (by simp [h])) e
 done:=fun s Q E st hQ=>next_end hh st.1 st.2 hd P fun h' Bf=>hQ h' s.toks fun b o hb e=>Bf b o (fun h=>hb (by simp [h])) e
 self:=fun _ _ _ _ st hQ=>znq st.1 hQ
theorem zkH {ord:Array (Int×Value)} {acc:Array Value} (h:ItemsOf (fun i v=>(ord[i]?).map (·.2)=some v) acc ord.size):acc.toList=ord.toList.map (·.2):=by
 refine fB fun i=>?_
 rw [ao,bG,bG];by_cases hi:i < acc.size
 ·rw [h.2 i _ (bI hi),bI hi]
 ·rw [ca #[O],ca (by have:=h.1; lia)];rfl
theorem zhN {a:Addr} {o:Obj} {es:Array (Int×Value)} {t:SetTable} {Q:List Value->Shared->Prop} (hh:A.handled=none) (ho:s.heap.get? a=some o) (hex:o.ExactSet) (hd:o.data = .set es ep t) (P:Pb (zau w) t es.size)
  (hQ:∀ h' tk,(∀ b o,s.heap.get? b=some o->h'.get? b=some o)->Q (#[Rr].toList.map (·.2)) { s with heap:=h',toks:=tk }):wpAny #[na] A (collect #[Rf]) Q E s:=by
 have hsz:es.size<=70:=by have:=P.m; lia
 have Fq:#[Rr].size=es.size:=by rw [<- aE,#[VG].length_eq,aE]
 have mW:=aB ho;unfold collect
 (refine aa (wpAny_runValue (iP F.entry_proto_collect ?_)))
 (rw [jC F.plain_proto_collect _])
 show wpAny _ A.in1 (newList [] >>= fun l=>again (.builtin "list.__iadd__" ⟨[l,.ref a],[]⟩)) _ _ s
 (refine aa (bE ?_))
 (refine ag ⟨plainId_quiet kK _,iP F.entry_list_iadd ?_⟩)
 (rw [jC kK _])
 show wpAny _ A.in1 (gU #[t0] #[Rf] #[t0]) _ _ _
 (unfold gU)
 generalize hH:s.heap.push { cls:=.type "list",data:=.seq ([]:List Value).toArray }=H
 (have Ej:H.objs.size=s.heap.objs.size+1:=by rw [<- hH,bq])
 have AJ:H.get? a=some o:=hH ▸ ah _ ho;have hS:H.get? s.heap.objs.size=some { cls:=.type "list",data:=.seq ([]:List Value).toArray }:=hH ▸ az _ rfl;refine aa (wpAny_typeOf (T:="set") ⟨o,AJ,hex.1⟩ ?_);have h1:iE #[t0] #[Rf]=false:=by
  unfold iE;simpa using dO mW
 have h2:(ff "set" == ff "list")=false:=by decide
 have h3:(ff "set" == ff "tuple")=false:=by decide
 (simp only [h1,h2,h3,Bool.or_false,aY,if_false])
 refine aa (zmp AJ hex hd P ?_)
 (refine aa (bJ ?_))
 generalize hG:H.push { cls:=.type "set_iterator",data:=.fields #[RC] }=G;have vN:G.get? a=some o:=hG ▸ ah _ AJ;have AK:G.get? s.heap.objs.size=some { cls:=.type "list",data:=.seq ([]:List Value).toArray }:=hG ▸ ah _ hS;have hI2:G.get? H.objs.size=some { cls:=.type "set_iterator",data:=.fields #[RC] }:=hG ▸ az _ rfl
 (unfold Builtin.List.listLengthHint)
 refine aa (gh (T:="set") ⟨o,vN,hex.1⟩ F.slot_set_len.lookup ?_)
 wp_delta
 refine aa (dh (T:="set") (b:=true) ⟨o,vN,hex.1⟩ (by rw [dN]; kernel_rfl) ?_);show wpAny _ A.in1 (typeOf (aL a) >>= _) _ _ _;refine aa (wpAny_typeOf (T:="set") ⟨o,vN,hex.1⟩ ?_);refine ag ?_;rw [if_pos #[D]];refine aa (cw ?_);refine aa ?_
 (show wpAny _ A.in1 (updateSeq s.heap.objs.size (·.push .none) >>= fun _=>updateSeq s.heap.objs.size (·.pop)) _ _ _)
 refine aa (wpAny_updateSeq AK rfl ?_);have hS3:=bP (cq (·.push bW)) AK rfl;refine wpAny_updateSeq hS3 rfl ?_;have hS4:=bP (cq (·.pop)) hS3 rfl;have IT:∀ b o,b≠s.heap.objs.size->G.get? b=some o->((G.update s.heap.objs.size (cq (·.push bW))).update s.heap.objs.size (cq (·.pop))).get? b=some o :=
  fun b o hb e=>(dn _ _ (cA hb)).trans ((dn _ _ (cA hb)).trans e)
 have Fs:H.objs.size≠s.heap.objs.size:=by rw [Ej]; exact eE _
 have hSf:s.heap.objs.size∉[H.objs.size,a]:=fun hm=>by
  rcases av.mp hm with e | e
  ·exact Fs e.symm
  ·exact dO mW (aW.mp e)
 have h0:slotAt w t 0=0:=by unfold slotAt; split <;> rfl
 refine ag ⟨plainId_quiet F.plain_extend_loop _,codeAny_extend_loopS ((zkG (prog:=prog) (A:=A.in1) (by simp [hh]) H.objs.size a (by rw [Ej]; exact aO (cJ mW)) hd P).toS) (bn hsz (by rw [show sizeLine=16777216 from rfl]; decide)) _ hSf _ es.size 0 _ _ _ rfl (bg _)
  ⟨⟨_,IT _ _ Fs hI2,rfl,by rw [h0]; rfl⟩,IT a o (aO mW) vN⟩ hS4 (ItemsOf.nil _) fun s' CU c' hm IU vV=>?_⟩
 (show wpAny _ A (load s.heap.objs.size >>= _) _ _ s')
 (refine aa (k9 IU ?_))
 (obtain⟨h',g',d',tk',Hl⟩:=s')
 obtain rfl:g'=s.gens:=hm.gens;obtain rfl:d'=s.drawn:=hm.drawn;obtain rfl:Hl=s.os:=hm.os;show wpAny _ A (pure CU.toList) _ _ _;rw [zkH (ord:=zbk w a ep es) (by rw [Fq]; exact vV)];refine ag (hQ h' tk' fun b ob e=>?_);have hb:=aB e;refine hm.heap b ob (fun Bb=>?_) (IT b ob (aO hb) (hG ▸ ah _ (hH ▸ ah _ e)));rcases av.mp Bb with e' | e'
 ·exact aO hb e'
 ·rw [aW.mp e',Ej] at hb;exact absurd hb (Nat.not_lt.mpr (eN _))
end
end L2
end
section
namespace L2
open PySem PySem.Spec PyProof.Rows Srt
noncomputable def ze8:Value->Int
 | .int n _=>n
 | _=>0
theorem ze9:∀ {vs:List Value},(∀ v∈vs,∃ n t,v=cK n t)->zH ((vs.map ze8).map V.int) vs
 | [],_=>.nil
 | v :: vs,h=>by
  obtain⟨n,t,rfl⟩:=h v aA;exact .cons ⟨t,rfl⟩ (ze9 fun u hu=>h u (ar _ hu))
theorem zkI:∀ {vs:List Value} {ns:List Int},IntsAre vs ns->2<=vs.length->keyKind' vs.toArray=pure oneType'
 | [],_,_,h=>by simp at h
 | [_],_,_,h=>by simp at h
 | _ :: _ :: _,_,hI,_=>keyKind_ints hI
theorem ziF (v:Value):vInt v=ze8 v:=by cases v <;> rfl
theorem zd6:∀ {vs:List Value},(∀ v∈vs,∃ n t,v=cK n t)->IntsAre vs (vs.map ze8)
 | [],_=>.nil
 | v :: vs,h=>by
  obtain⟨n,t,rfl⟩:=h v aA;exact .cons n t (zd6 fun u hu=>h u (ar _ hu))
end L2
end
section
namespace L2
open PySem PySem.Spec PyProof.Rows
variable {A:Around} {H H' H2:Hp} {J:It} {R:Result->Shared->Prop} {elt i1 iter:Expr} {env:Env} {f1:List Expr} {fp:List Addr} {h:Heap} {it:Addr} {led:Bool} {mq oS:List (Addr×Obj)} {ns:List Int} {pos:Pos} {prog:Program} {s s' s2:Shared} {scope:Scope} {te:TE} {tk:Nat} {tn:Nat->Heap->Prop} {ts:TT} {w:World} {ys:List V} {σ0:St}
noncomputable def dds (ys:List V):List Int:=ys.foldl (fun acc v=>match v with
 | .int n=>dJ acc n
 | _=>acc) []
theorem zhO (ys:List V) (n:Int):dds (ys++[.int n])=dJ (dds ys) n:=by
 unfold dds;rw [ig];rfl
noncomputable def SJ (P:Program) (w:World) (a:Addr) (ns:List Int):HO:=HO.ext fun h=>zed P w (zau w) h a ns
theorem zpC {P:Program} {a:Addr} (hS:zed P w (zau w) h a ns):zW P w H h a (SJ P w a ns) :=
 ⟨hS,let ⟨o,_,_,_,ho,_⟩:=hS; ⟨o,ho⟩,fun _ _ x k=>x.at k⟩
structure Pg (Y:Cx) (mq:List (Addr×Obj)) (H:Hp) (s:Shared) (D:Addr) (ys:List V) (ob:Obj):Prop where
 fp:zbA Y mq H D
 here:s.heap.get? D=some ob
 set:zed Y.prog Y.w (zau Y.w) s.heap D (dds ys)
section
variable {Y:Cx} {mq:List (Addr×Obj)} {σ:St} {H:Hp} {s:Shared} {D:Addr} {ys:List V} {ob:Obj}
theorem Pg.pin (a:Pg Y mq H s D ys ob) (I:Inv Y mq σ H s):Inv Y (mq++[(D,ob)]) σ H s :=
 I.Ml fun p hp=>by
  rcases (aC.mp hp) with hp | hp
  ·exact I.pin p (aq _ hp)
  ·obtain rfl:p=(D,ob):=by simpa using hp
   obtain⟨a0,a1,a2,_⟩:=a.fp;obtain⟨o,es,ep,t,ho,hex,hd,_⟩:=a.set;have e:ob=o:=aN (a.here.symm.trans ho);exact⟨a.here,a0,a1,a2,fun v z=>by rw [e,hd] at z; cases z⟩
theorem Pg.back {σ':St} (a:Pg Y mq H s D ys ob) (I:Inv Y oS σ' H' s') (hm:(D,ob)∈oS):Pg Y mq H' s' D ys ob:=by
 have p:=I.pin (D,ob) (aq _ hm);exact⟨⟨p.2.1,a.fp.2⟩,p.1,a.set.at fun o e=>by rw [a.here] at e; cases e; exact p.1⟩
end
noncomputable def PMS (Y:Cx) (D:Addr) (js:List Nat) (mk:Sem Fin->Sem Fin) (tm:TM):Prop :=
 ∀ (last:Sem Fin) (mq:List (Addr×Obj)) (s:Shared) (σ:St) (H:Hp) (ys:List V) (ob:Obj) (Q:List V->Hp->Prop) (Φ:Fin->Shared->Prop),Inv Y mq σ H s->Pg Y mq H s D ys ob->zcE js σ->tm ys σ H Q ->
  (∀ (s':Shared) (rh:List V) (Ft:Obj) (H':Hp),Inv Y mq σ H' s'->Pg Y mq H' s' D rh Ft->Q rh H'->wpAny #[Rg] Y.A last Φ #[Q3] s') ->
  wpAny #[Rg] Y.A (mk last) Φ #[Q3] s
noncomputable def zgI (elt:Expr) (acc:Value) (env:Env) (last:Sem Fin):Sem Fin:=(eval elt env >>= fun x=>standAt elt.pos >>= fun _=>call (.builtin "set.add") [acc,x] >>= fun _=>pure ()) >>= fun _=>last
noncomputable def zgJ (te:TE):TM:=fun ys σ H Q=>te σ H fun y H4=>∃ n:Int,y = .int n/\0<=n/\n < 97/\(dds ys).length < 69/\Q (ys++[y]) H4
theorem zkJ {E:Value->Shared->Prop} {a:Addr} {n:Int} {Q:Value->Shared->Prop} (hS:zed prog w led s.heap a ns) (Ci:ns.length+1<=70) (h0:0<=n) (Fp:n < 97)
  (h:∀ h',aX a s.heap h'->zed prog w led h' a (dJ ns n)->Q .none { s with heap:=h',toks:=s.toks+1 }) :
  wpAny #[na] A (call (.builtin "set.add") [.ref a,.int n tk]) Q E s:=by
 have hT:s.TypeIs #[Rf] "set":=by
  obtain⟨o,es,ep,t,ho,hex,_⟩:=hS;exact⟨o,ho,hex.1⟩
 refine bi F.slot_set_add hT F.entry_set_add ?_ (F.args_set_add_2 _ _)
 (unfold Builtin.«set.add» lY)
 (simp only [fY,bind_assoc])
 (unfold iD setAdd)
 refine aa (ag ?_)
 try dsimp only
 refine aa (ag ?_)
 try dsimp only
 refine aa ?_;refine bJ ?_;refine aa (#[Rt].pyHash (k:=n) (intKind_is _ _ _ _) ?_);refine zmo (s:={ s with toks:=s.toks+1 }) hS Ci h0 Fp fun h' b oq AK=>?_
 exact ag ⟨.none,rfl,h h' oq AK⟩
theorem znr {Y:Cx} {D:Addr} (hx:Y.xe=fun _ _=>False) (he:PE Y elt te):PMS Y D [] (zgI elt #[QV] Y.env) (zgJ te):=by
 intro last mq s σ H ys ob Q Φ I a no h k;unfold zgI;refine aa (aa (thx hx (he (mq++[(D,ob)]) s σ H _ (a.pin I) h) fun yv s1 ⟨y,H1,I1,r1,n,ey,n0,n1,hz,q1⟩=>aa #[WQ]));subst ey;obtain⟨tk,rfl⟩:=r1;have a1:=a.back I1 #[W4];have J1:Inv Y mq σ H1 s1:=I1.M6 fun p hp=>aD _ hp
 refine zkJ a1.set #[O] n0 n1 fun h' oq AK=>ag ?_
 obtain⟨b0,b1,b2,b3,b4,b5⟩:=a1.fp;have Hv:Inv Y mq σ H1 { s1 with heap:=h',toks:=s1.toks+1 }:=J1.turned (t':=s1.toks+1) (fun b o hb e=>(oq.2 b hb).trans e) b0 b1 b3 b4 b5;obtain⟨o,es,ep,t,ho,_⟩:=id AK;exact k _ (ys++[.int n]) o H1 Hv ⟨a1.fp,ho,by rw [zhO]; exact AK⟩ q1
section
variable {Y:Cx} {D:Addr} {js js':List Nat} {elt:Expr} {gens:List Comprehension} {scope:Scope} {pos:Pos} {d:Nat} {tg:Expr} {ifs:List Expr} {p:Pos} {mk:Sem Fin->Sem Fin} {g:TG} {ts:TT} {tm:TM}
theorem zmq (hc:Y.calm=true) (hx:Y.xe=fun _ _=>False) (xg:GS js g) (pK:∀ j∈js,j∉js') (hg:PG Y tg g) (ht:zdc Y ifs ts) (hm:PMS Y D js' mk tm)
  (om:∀ it,compTurn #[xL] d it #[QV] Y.env=zbn tg ifs p mk (.compLoop #[xL] d it #[QV] Y.env) it Y.env)
  {σ:St} {Q:List V->Hp->Prop} {ob:Obj}
  (I2:Inv Y mq σ H2 s2) (a2:Pg Y mq H2 s2 D ys ob) (no:zcE (js++js') σ) (T:Turn Y.prog Y.w Y.K tg J fp it tn) (nF:tn 0 s2.heap) (f2:∀ b∈fp,zbA Y mq H2 b) (fD:∀ b∈fp,b≠D) (q:cIn g ts tm σ J Q ys H2)
  (hR:∀ (s':Shared) (rh:List V) (Ft:Obj) (H':Hp),Inv Y mq σ H' s'->Pg Y mq H' s' D rh Ft->Q rh H'->R (.ok .next) s') :
  codeAny #[Rg] Y.A (.compLoop #[xL] d #[Q7] #[QV] Y.env) R s2:=by
 obtain⟨W,⟨m0,w0⟩,turn⟩:=q;have xh:∀ {H':Hp} {ob:Obj},(∀ b∈fp,H' b=none)->∀ b∈fp,zbA Y (mq++[(D,ob)]) H' b:=fun {H' ob} hn b hb=>by
  obtain⟨_,a1,a2,a3,a4,a5⟩:=f2 b hb;refine#[Xz];rcases (aC.mp hp) with hp | hp
  ·exact a5 p (aD _ hp)
  ·rcases (aC.mp hp) with hp | hp
   ·exact a5 p (aq _ hp)
   ·obtain rfl:p=(D,ob):=by simpa using hp
    exact (fD b hb).symm
 refine codeAny_loop rfl (fun n s'=>∃ i ys H' ob,Inv Y mq σ H' s'/\tn i s'.heap/\(∀ b∈fp,H' b=none)/\Pg Y mq H' s' D ys ob/\W i n ys H') ?_ m0
  ⟨0,ys,H2,ob,I2,nF,fun b hb=>(f2 b hb).1,a2,w0⟩
 rintro n s5 ⟨i,ys,H5,ob,I5,AS,Cz,a5,w5⟩;show wpAny _ Y.A ((compTurn #[xL] d #[Q7] #[QV] Y.env).onRaise (fun x=>do noteFrame x Y.env; theTreesLotGoes x)) _ _ s5;refine wpAny_noted ?_;rw [om];unfold zbn;have EO:=a5.pin I5
 (refine aa #[WQ])
 rcases turn i n ys H5 w5 with ⟨stop,qn⟩ | ⟨go,N,hN,step⟩
 ·refine bK #[SV] (fun r s6 ⟨hr,I6⟩=>?_) fun _ _ z=>z.elim
  subst hr;exact ag (hR s6 ys ob H5 (I6.M6 fun p hp=>aD _ hp) (a5.back I6 #[W4]) qn)
 ·refine bK #[Td] (fun r s6 ⟨u,hr,h6⟩=>?_) fun _ _ z=>z.elim
  subst hr;refine aa (bK h6 (fun _ s7 ⟨x,H7,I7,r7,y7,CF,Hw⟩=>?_) fun _ _ z=>z.elim);have Hx:=I7.pinned (xh Hw) (T.obj _ _ CF);refine aa (thx hx #[Sx] fun _ s8 ⟨σ8,H8,I8,kp,q8⟩=>?_);refine aa (thx hx (ht _ s8 σ8 H8 _ I8 q8) fun ok s9 ⟨H9,I9,q9⟩=>?_);have mD:(D,ob)∈(mq++[(D,ob)])++zbB fp s7.heap:=aD _ #[W4];have a9:=a5.back I9 mD;have K9:Inv Y #[RV] σ8 H9 s9:=I9.M6 fun p hp=>(aC.mp hp).elim (fun z=>aD _ (aD _ z)) fun z=>aq _ z
  have wk:∀ (j:Nat) v,σ[j]? = some #[UW]->σ8[j]? = some #[UW]:=fun j v e=>by
   have hj:j∉js:=fun z=>no j (aD _ z) v e
   rw [kp.2 j hj];exact e
  have back:∀ {H':Hp} {s':Shared},Inv Y #[RV] σ8 H' s'->Inv Y mq σ H' s'/\tn (i+1) s'.heap/\∀ b∈fp,H' b=none:=fun {H' s'} I'=>by
   refine⟨(I'.M6 fun p hp=>aD _ hp).weak kp.1.symm wk,T.keep _ _ _ CF fun b hb o e=>#[Rv].1,fun b hb=>?_⟩;obtain⟨o,e,d⟩:=T.obj _ _ CF b hb;exact #[Rv].2.1
  cases ok with
  | false =>
   rw [if_neg aG] at q9 |-;obtain⟨m',Bb,w9⟩:=hN _ _ q9;obtain⟨b1,b2,b3⟩:=back K9;exact ag ⟨rfl,m',Bb,i+1,ys,H9,ob,b1,b2,b3,a9,w9⟩
  | true =>
   rw [if_pos rfl] at q9 |-;have Hy:Pg Y #[RV] H9 s9 D ys ob:=by
    obtain⟨b0,b1,b2,b3,b4,b5⟩:=a9.fp;refine⟨⟨b0,b1,b2,b3,b4,fun p hp=>?_⟩,a9.here,a9.set⟩;rcases (aC.mp hp) with hp | hp
    ·exact b5 p (aD _ hp)
    ·rcases (aC.mp hp) with hp | hp
     ·exact b5 p (aq _ hp)
     ·exact fD _ (zdJ hp).1
   have Hz:zcE js' σ8:=fun j hj v e=>by
    have uF:j∉js:=fun z=>pK j z hj
    rw [kp.2 j uF] at e;exact no j (aq _ hj) v e
   refine bK (hm (again _) _ s9 σ8 H9 ys ob N (fun fin s'=>match fin with | .done f=>R (.ok f) s' | .again c'=>c'=_/\∃ m,m < n/\_) K9 Hy Hz q9 fun s' rh Ft H' I' a' n'=>?_) (fun _ _ z=>z) fun _ _ z=>z.elim
   obtain⟨m',Bb,w'⟩:=hN _ _ n';obtain⟨b1,b2,b3⟩:=back I';obtain⟨c0,c1,c2,c3,c4,c5⟩:=a'.fp;refine ag ⟨rfl,m',Bb,i+1,rh,H',Ft,b1,b2,b3,⟨#[Ud],a'.here,a'.set⟩,w'⟩;rcases (aC.mp hp) with hp | hp
   ·exact c5 p (aD _ hp)
   ·exact c5 p #[Vu]
theorem zkK {it acc:Value} (hd:gens[d]? = some ⟨tg,iter,ifs,0⟩)
  (h0:codeAny #[na] A (.compLoop #[xL] d it acc env) R s)
  (h:wpAny #[na] A (pyIter it) (fun CG s'=>codeAny #[na] A (.compLoop #[xL] d CG acc env) R s') #[Q3] s) :
  codeAny #[na] A (.compStart #[xL] d it acc env) R s:=by
 refine codeAny_of_tree ?_;show wpAny _ _ ((compStart #[xL] d it acc env).onRaise (fun x=>do noteFrame x env; standAt theWindowsPlace)) _ _ s;refine wpAny_notedAt ?_;unfold compStart;have e1:(clausesOf #[xL])[d]? = some ⟨tg,iter,ifs,0⟩:=hd;rw [e1]
 (show wpAny _ _ (ask >>= _) _ _ s)
 (refine aa (fR (wpAny_ite ?_)))
 split
 ·first
   | (exact aa (ag (ag ⟨rfl,h0⟩)))
   | (exact ag ⟨rfl,h0⟩)
 ·first
   | exact aa (cw (aa (cS (aa (bK h #[RW] fun _ _ x=>x.elim)))))
   | (refine aa (cw ?_); show wpAny _ _ (standAt iter.pos >>= _) _ _ s; exact aa (cS (aa (bK h #[RW] fun _ _ x=>x.elim))))
end
section
variable {X:Cx} {elt tg iter:Expr} {ifs:List Expr} {gs:List Comprehension} {scope:Scope} {pos:Pos} {N':List Str} {ix:List #[At]} {js js':List Nat} {g:TG} {ts:TT} {tm:TM} {mk:Addr->Env->Sem Fin->Sem Fin}
theorem zhP {σ:St} {Q:VK} {E:Value->Shared->Prop} {RR:Value->Addr->Result->Shared->Prop}
  (SC:Ki X N' ix scope) (hc:X.calm=true) (xg:GS js g) (pK:∀ j∈js,j∉js') (Bc:∀ j∈js++js',ix[j]? = some none)
  (hg:∀ s₃ H₃ ex mq,PG #[ld] tg g) (ht:∀ s₃ H₃ ex mq,zdc #[ld] ifs ts) (hm:∀ s₃ H₃ ex mq D,PMS #[ld] D js' (mk D #[ld].env) tm)
  (om:∀ it D env,compTurn #[Os] 0 it #[QV] env=zbn tg ifs iter.pos (mk D env) (.compLoop #[Os] 0 it #[QV] env) it env)
  (I2:Inv X mq σ H2 s2) (T:Turn X.prog X.w X.K tg J fp it tn) (nF:tn 0 s2.heap) (f2:∀ b∈fp,zbA X mq H2 b) (q:cIn g ts tm #[Ug] J (fun ys H'=>∀ D,H' D=none->Q #[QV] #[Rz]) [] H2)
  (HC:∀ (D C:Addr) (s':Shared) (ys:List V) (H':Hp) (m:Str->Option Value),Inv X mq σ #[Rz] s'->zbA X mq #[Rz] C->s'.heap.Ns C m->Q #[QV] #[Rz]->RR #[QV] C (.ok .next) s') :
  wpAny #[mt] X.A (newSet (.type "set")) (fun acc s₃=>wpAny #[mt] X.A (newFunctionEnv scope X.env.globals (zN X.env.cells scope.names []) [] X.env.qual none .none (some X.env)) (fun yn s₄ =>
   codeAny #[mt] X.A (.compStart #[Os] 0 #[Q7] acc { yn with scope:=relabel scope X.env }) (RR acc yn.locals) s₄) E s₃) E s2:=by
 have yo:∀ y∈scope.names,y.2 = .free->∃ c,X.env.cells.lookup y.1=some c:=fun y hy hf=>I2.ok.has y.1 #[TL]
 have tu:∀ x c,(zN X.env.cells scope.names []).lookup x=some c->X.env.cells.lookup x=some c:=zbt scope.names [] yo (fun x c e=>by simp at e);unfold newSet;refine aa (zcu ?_);show wpAny _ _ (newObj (.type "set") (.set #[] 0 (.fresh (finger:=0) (moves:=0) (led:=!(!zau X.w))))) _ _ _;rw [Bool.not_not];refine bE (zfI ?_);have I3:Inv X mq σ H2 { s2 with heap:=s2.heap.push { cls:=.type "set",dict:=none,data:=.set #[] 0 #[Rl] } }:=I2.kept (t':=s2.toks) fun b o e=>ah _ e
 have CH:(s2.heap.push { cls:=.type "set",dict:=none,data:=.set #[] 0 #[Rl] }).get? s2.heap.objs.size=some { cls:=.type "set",dict:=none,data:=.set #[] 0 #[Rl] }:=az _ rfl;have yp:tn 0 (s2.heap.push { cls:=.type "set",dict:=none,data:=.set #[] 0 #[Rl] }):=T.keep _ _ _ nF fun b hb o e=>ah _ e
 have yq:(s2.heap.push { cls:=.type "set",dict:=none,data:=.set #[] 0 #[Rl] }).objs.size=s2.heap.objs.size+1:=bq _ _;generalize hh3:s2.heap.push { cls:=.type "set",dict:=none,data:=.set #[] 0 #[Rl] }=h3 at *;have CI:=T.obj _ _ nF;have uP:∀ b∈fp,b < s2.heap.objs.size:=fun b hb=>by obtain⟨o,e,_⟩:=CI b hb; exact aB e
 have stk:∀ b∈frs X.stack,b=X.env.locals\/b∈X.fs:=fun b hb=>av.mp (I2.NY b hb)
 have yr:zbA X mq H2 s2.heap.objs.size:=I2.Nv (ai _) I2.fresh;have qG:∀ b∈s2.heap.objs.size :: fp,zbA X mq H2 b:=fun b hb=>by
  rcases (av.mp hb) with e | hb
  ·rw [e]; exact yr
  ·exact f2 b hb
 have vT:∀ b∈s2.heap.objs.size :: fp,b < h3.objs.size:=fun b hb=>by
  rw [yq];rcases (av.mp hb) with e | hb; · rw [e]; exact eD _
  ·exact cJ (uP b hb)
 have uQ:∀ b∈s2.heap.objs.size :: fp,b∉frs X.stack:=fun b hb z=>by
  obtain⟨_,a1,a2,_⟩:=qG b hb;rcases stk b z with e | e
  ·exact a1 e
  ·exact a2 e
 have hns₁:(pushCells (h3.push { cls:=.type "dict",data:=.dict #[] }) scope.names).Ns h3.objs.size #[XG]:=(mi h3 (.type "dict")).keeps (gg _ _);have old:∀ b o,h3.get? b=some o->(pushCells (h3.push { cls:=.type "dict",data:=.dict #[] }) scope.names).get? b=some o:=fun b o e=>gg _ _ b o (ah _ e)
 have CJ:∀ x c,X.env.cells.lookup x=some c->c < h3.objs.size:=fun x c e=>by
  obtain⟨v,q⟩:=I3.cell x c e;exact q.lt
 have co:CO (pushCells (h3.push { cls:=.type "dict",data:=.dict #[] }) scope.names) #[Go] (zN X.env.cells scope.names []) (cellsFrom #[Go] scope.names (zN X.env.cells scope.names [])):=by
  have:=ziT (lo:=h3.objs.size+1) (old:=zN X.env.cells scope.names []) scope.names (h3.push { cls:=.type "dict",data:=.dict #[] }) (zN X.env.cells scope.names [])
   #[RA] (by rw [bq]; exact ai _)
  rw [bq] at this;exact this
 generalize pushCells (h3.push { cls:=.type "dict",data:=.dict #[] }) scope.names=h₁ at hns₁ old co |-;have CK:∀ {x c},(cellsFrom #[Go] scope.names (zN X.env.cells scope.names [])).lookup x=some c->(h₁.IsCell c none/\h3.objs.size+1<=c)\/X.env.cells.lookup x=some c:=fun {x c} e=>(co.each x c e).elim .inl fun z=>.inr (tu x c z.1)
 have ER:∀ x,scope.names.lookup x=some .free->(cellsFrom #[Go] scope.names (zN X.env.cells scope.names [])).lookup x=(zN X.env.cells scope.names []).lookup x:=fun x hx=>zeC _ _ _ _ fun z=>by
  have:=SC.cells _ z rfl;rw [hx] at this;cases this
 let s3:Shared:={ s2 with heap:=h3 }
 let Y:Cx:=zM X N' scope s3 H2 #[XJ] mq
 have rl:Inv X mq σ H2 s3:=I3;have ES:Y.Ok:=by
  refine#[IN]
  ·have vO:=zcm (env:=X.env) (names:=scope.names) (x:=x) hx;rcases vO with vO | vO
   ·obtain⟨c,e⟩:=zbm (cs:=X.env.cells) scope.names [] x (.inr #[VI]);exact⟨c,(ER x vO).trans e⟩
   ·obtain⟨c,e,_⟩:=zdM scope.names #[Go] (zN X.env.cells scope.names []) x #[VI];exact⟨c,e⟩
  ·obtain⟨c',e',l'⟩:=zdM scope.names #[Go] (zN X.env.cells scope.names []) x (lookup_mem (by have z':(scope.names.lookup x == some cE)=true:=z; simpa using z'));have e2:(cellsFrom #[Go] scope.names (zN X.env.cells scope.names [])).lookup x=some c:=e;rw [e'] at e2;cases e2;exact dC l'
  ·refine⟨aO (vT b hb),fun x c e=>(CK e).elim (fun z y=>?_) fun z=>(qG b hb).2.2.2.2.1 x c z⟩;subst y;exact bX _ (aR (vT _ hb) (dC z.2))
  ·exact bn I2.ok.bsz rl.sz
  ·obtain⟨_,_,_,a3,_⟩:=qG b hb;rcases a3 with z | z
   ·exact I2.ok.PX b o e z
   ·have:=(I2.ok.bs b o e).1;exact absurd (aR (aB this) z) (bX _)
 have zlw:Inv Y [] #[Ug] H2 { s3 with heap:=h₁ }:=by
  refine⟨ES,rfl,I2.bare,Un.kept old,#[V9],fun x c e=>?_,rl.fresh,fun x c e=>(CK e).elim (fun z=>rl.hok.fresh (dC z.2)) fun z=>I2.KH x c z,fun p hp=>?_,rl.hok.kept old,?_⟩
  ·unfold zbx at e2;rw [ao] at e2;cases hj:ix[j]? with
   | none=>rw [hj] at e2; simp at e2
   | some oi =>
    rw [hj] at e2;cases oi with
    | none=>simp at e2
    | some i =>
     obtain⟨y,h1,h2,Bd⟩:=SC.cap j i hj;have Gq:y=x:=by
      have ET:N'[j]? = some x:=e1;rw [h1] at ET;exact aN ET
     subst Gq;have yt:(σ[i]?).join=some v:=by simpa using e2
     have CL:σ[i]? = some #[UW]:=by
      cases hs:σ[i]? with
      | none=>rw [hs] at yt; simp at yt
      | some w=>rw [hs] at yt; simp at yt; rw [yt]
     obtain⟨m,hn,hl⟩:=rl.loc;have hk:=SC.free (y,.free) #[VJ] rfl;have CM:Vis X.env.scope y:=hk.elim (fun z=>.inr (.inl z)) fun z=>.inr (.inr z)
     obtain⟨u,r,l⟩:=hl i y v h2 CL CM;refine⟨u,r,.inr ⟨zaW Bd,?_⟩⟩;obtain⟨c,oh⟩:=zbm (cs:=X.env.cells) scope.names [] y (.inr #[VJ]);refine⟨c,(ER y Bd).trans oh,?_⟩;rcases l with ⟨uO,_⟩ | ⟨_,c',mQ,pG⟩
     ·rcases hk with hk | hk
      ·have CN:X.env.kindOf y=some .cell:=hk;rw [CN] at uO; cases uO
      ·have CN:X.env.kindOf y=some .free:=hk;rw [CN] at uO; cases uO
     ·have:=tu y c oh;rw [mQ] at this;cases this;obtain⟨o,ho,hd⟩:=pG;exact⟨o,old _ _ ho,hd⟩
  ·rcases CK e with z | z
   ·exact⟨_,z.1⟩
   ·obtain⟨v,o,ho,hd⟩:=rl.cell x c z;exact⟨v,o,old _ _ ho,hd⟩
  ·have sW:p∈X.pn++mq:=by
    have:p∈(X.pn++mq)++([]:List (Addr×Obj)):=hp;simpa using this
   obtain⟨a1,a2,a3,a4,a5⟩:=rl.pin p sW;exact⟨old _ _ a1,a2,aO (aB a1),fun z=>(stk _ z).elim a3 a4,a5⟩
  ·unfold zbx;rw [ae];exact SC.len.symm
 have xh:∀ {H':Hp},(∀ b∈s2.heap.objs.size :: fp,H' b=none)->∀ b∈s2.heap.objs.size :: fp,zbA Y [] H' b:=fun {H'} hn b hb=>by
  obtain⟨_,a1,a2,a3,a4,a5⟩:=qG b hb;refine⟨hn b hb,aO (vT b hb),uQ b hb,.inl hb,(ES.exf b hb).2,fun p hp=>?_⟩;have:p∈(X.pn++mq)++([]:List (Addr×Obj)):=hp;exact a5 p (by simpa using this)
 have EU:∀ b∈s2.heap.objs.size :: fp,H2 b=none:=fun b hb=>(qG b hb).1
 have AV:zcE (js++js') #[Ug]:=fun j hj v e=>by
  unfold zbx at e;rw [ao,Bc j hj] at e;simp at e
 have loop:∀ s₅:Shared,s₅ = { s2 with heap:=h₁ } ->
   codeAny #[mt] X.A (.compLoop #[Os] 0 #[Q7] #[SO] (compEnvC scope (cellsFrom #[Go] scope.names (zN X.env.cells scope.names [])) h3.objs.size X.env)) (RR #[SO] h3.objs.size) s₅:=by
  rintro s₅ rfl;refine zmq (Y:=Y) (mq:=[]) (σ:=zbx ix σ) (ob:={ cls:=.type "set",dict:=none,data:=.set #[] 0 #[Rl] }) hc rfl xg pK (hg s3 H2 _ mq) (ht s3 H2 _ mq) #[VO] (fun it=>om it _ _) zlw ⟨xh EU _ aA,old _ _ CH,ziE (led:=zau X.w) (show _=some (zpB (zau X.w)) from old _ _ CH)⟩ AV T (T.keep _ _ _ yp fun b hb o e=>old b o e)
   (fun b hb=>xh EU b (ar _ hb)) (fun b hb=>aO (uP b hb)) q fun s6 ys ob H5 I6 a6 qn=>?_
  have EV:H5 s2.heap.objs.size=none:=a6.fp.1;have I7:Inv X mq σ H5 s6:=by
   refine rl.Qf (s':=s6) (ch:=s2.heap.objs.size :: fp) I6.os I6.base I6.hok I6.bare fun b hb=>?_
   obtain⟨_,a1,a2,a3,a4,a5⟩:=qG b hb;exact⟨a3,a1,a4,a5⟩
  have I8:Inv X mq σ (mz H5 s2.heap.objs.size #[RU]) s6:=by
   obtain⟨_,a1,a2,a3,a4,a5⟩:=yr;exact I7.OQ EV I2.sz (cA a1) a4 a5 (zpC a6.set)
  obtain⟨mm,EW,_⟩:=I6.loc;have HD:h3.objs.size≠s2.heap.objs.size:=by rw [yq]; exact eE _
  refine HC _ _ s6 ys H5 mm I8 (rl.Nv (H':=mz H5 s2.heap.objs.size #[RU]) (ai _) ?_) EW (qn _ EV);show mz H5 s2.heap.objs.size #[RU] h3.objs.size=none;rw [zg HD];exact I6.free
 exact zkK rfl (loop _ rfl) (T.self _ 0 _ _ _ (T.keep _ _ _ yp fun b hb o e=>old b o e) (loop _ rfl))
end
theorem zoR {t1:Expr} (it:Value) (D:Addr) (env:Env):compTurn (.SetComp elt [⟨t1,i1,f1,0⟩] scope pos) 0 it #[QV] env =
  zbn t1 f1 i1.pos (zgI elt #[QV] env) (.compLoop (.SetComp elt [⟨t1,i1,f1,0⟩] scope pos) 0 it #[QV] env) it env:=by rfl
noncomputable def zoS (P:Program) (w:World) (ix:List #[At]) (wi:TI) (g:TG) (ts:TT) (te:TE):TE:=fun σ H Q=>wi σ H fun J H1=>cIn g ts (zgJ te) #[Ug] J (fun ys H'=>∀ D,H' D=none->Q #[QV] (mz H' D (SJ P w D (dds ys)))) [] H1
theorem zns {X:Cx} {P:Program} {w:World} {elt tg iter:Expr} {ifs:List Expr} {scope:Scope} {pos:Pos} {N':List Str} {ix:List #[At]} {g:TG} {ts:TT} {te:TE} {wi:TI} (hP:X.prog=P) (hw:X.w=w) (SC:Ki X N' ix scope) (hc:X.calm=true) (hk:GK ix g) (hi:PI X tg iter wi)
  (hg:∀ s₃ H₃ ex mq,PG #[ld] tg g) (ht:∀ s₃ H₃ ex mq,zdc #[ld] ifs ts) (he:∀ s₃ H₃ ex mq,PE #[ld] elt te)
  (hs:∀ x,foldedSetIterable iter X.env x=pure x:=by intro _; rfl):PE X (.SetComp elt [⟨tg,iter,ifs,0⟩] scope pos) (zoS P w ix wi g ts te):=by
 subst hP hw;intro mq s σ H Q I h;rw [arm_eval_SetComp];dsimp only;have yo:∀ y∈scope.names,y.2 = .free->∃ c,X.env.cells.lookup y.1=some c:=fun y hy hf=>I.ok.has y.1 #[TL]
 refine eX (use:=none) rfl hs (zb2 yo) SC.kind SC.names (thn #[T8] fun v s1 h1=>thn h1 fun itv s2 h2=>?_);obtain⟨it,fp,tn,J,H2,e,I2,T,nF,f2,q⟩:=h2;subst e;refine zhP (mk:=fun D env=>zgI elt #[QV] env) (js:=zdd ix) (js':=[]) (RR:=fun acc C=>compPost #[mt] X.A X.xe none #[Op] acc C) SC hc hk (fun _ _ h=>nomatch h) (fun j h=>zbJ.1 (by simpa using h)) hg ht (fun s₃ H₃ ex mq D=>znr rfl (he s₃ H₃ ex mq)) (fun _ _ _=>zoR _ _ _) I2 T nF f2 q ?_;intro D C s' ys H' m I' EX hm q';refine#[WB];obtain⟨f0,f1,Gp,f3,f4,f5⟩:=EX;exact I'.turned (t':=s'.toks) #[VW] f0 f1 f3 f4 f5
theorem znt {n:Nat} {g:TG} {Q:List V->Hp->Prop} (Pv:Nat->List V->Hp->Prop) (h0:Pv 0 [] H) (ym:∀ i ys H,i < n->Pv i ys H->J.go i H) (oj:∀ ys H,Pv n ys H->J.stop n H)
  (hs:∀ i x ys H H',i < n->Pv i ys H->J.yld i H x H'->g x σ0 H' fun σ2 H2=>ts σ2 H2 fun b H3=>if b=true then zgJ te ys σ2 H3 (Pv (i+1)) else Pv (i+1) ys H3)
  (hd:∀ ys H,Pv n ys H->Q ys H):cIn g ts (zgJ te) σ0 J Q [] H:=by
 refine⟨fun i m ys H=>m=n - i/\i<=n/\Pv i ys H,#[Tm],?_⟩;rintro i m ys H ⟨rfl,hi,p⟩;by_cases mW:i < n
 ·exact .inr #[Cl]
 ·obtain rfl:i=n:=by lia
  exact .inl ⟨oj ys H p,hd ys H p⟩
end L2
end
section
namespace L2
open PySem PySem.Spec PyProof.Rows Srt
variable {H:Hp} {X:Cx} {mq:List (Addr×Obj)} {ns:List Int} {s:Shared}
theorem zfa {X:Cx} (hc:X.calm=true):zbj X (.builtin "sorted") (fun xs H Q=>∃ (d:Addr) (k:Nat) (B:Int) (mI:List (List Key×V)) (nB:List #[GT]),xs = [.ref d]/\H d=some #[Vp]/\mI.map (·.1)=nB.map (·.map cN)/\(∀ ms∈nB,ms.length=k/\∀ n∈ms,0<=n/\n < B)/\1<=k/\1<=B/\nB.length < 64 /\
  ∀ (l:Addr) (pq:List (Addr×List Int)),H l=none->(pq.map (·.2)).Perm nB->(pq.Pairwise fun a b=>num B a.2<=num B b.2)->(∀ q∈pq,H q.1=some (.tup (q.2.map V.int)))->Q #[Su] (mz H l (.lst (pq.map fun q=>V.ref q.1)))):=by
 intro mq s σ H xs us Q I r h;obtain⟨d,k,B,mI,nB,rfl,hd,xt,C7,hk,hB,ye,q⟩:=h;obtain⟨u,rfl,rx⟩:=vals1 r;cases rx;obtain⟨hs,hz,ps,es,ep,yH,hek,mX,hH⟩:=zm4 I hd xt;have hT:zkj H k B ps:=fun q' ub=>⟨hH q' ub,C7 q'.2 (by rw [<- mX]; exact dU ub)⟩
 have hlp:ps.length=mI.length:=by
  have e1:=congrArg cZ mX;have e2:=congrArg cZ xt;rw [ae] at e1;rw [ae,ae] at e2;lia
 have hlm:ps.length=nB.length:=by
  have e1:=congrArg cZ mX;rw [ae] at e1;exact e1
 have vP:es.size=ps.length:=by
  have:=congrArg cZ hek;rw [ae,ae,aE] at this;exact this
 refine zcL (vs:=ps.map fun q=>aL q.1) (κ:=tuples' true) (val:=fun p=>num B (zc2 H p.1)) (by rw [ae]; lia) (fun R hR=>?_) #[Tx] #[W0] fun h' tk out e D kk hD yR hp hs=>?_
 ·refine PySem.W.kdu_collect (zm3 (es:=es) (ep:=ep) hs) (by simp [I.ok.hd hc]) yH #[O] fun h' tk acc kk vV=>?_
  have:acc.toList=ps.map fun q=>aL q.1:=by
   rw [<- hek];refine fB fun j=>?_
   by_cases hj:j < es.size
   ·have hja:j < acc.size:=by rw [vV.1]; exact hj
    obtain⟨e',h1,h2⟩:=vV.2 j acc[j] (getElem?_pos acc j hja);rw [bG,getElem?_pos acc j hja,ao,bG,h1,h2];rfl
   ·rw [cX (by rw [aE,vV.1]; lia),cX (by rw [ae,aE]; lia)]
  rw [this];exact hR h' tk kk
 ·obtain⟨fs,k1,k2,k3⟩:=zlZ I hT hk kk;exact k6 (T:=.type "int") k1 (by rw [ae] at h2; lia) (fun v hv=>by obtain⟨n,t,rfl⟩:=k3 v hv; exact zfX) rfl ub
 ·obtain⟨pq,p1,p2,p3⟩:=zhu hT hp hs;have hl:=p1.length_eq;obtain⟨hn,I2⟩:=I.above (tk:=tk) (D:=D) (o:=.lst (pq.map fun q=>V.ref q.1)) kk hD ⟨by rw [ae]; lia,pq.map fun q=>aL q.1,e,zcq pq,by rw [<- p3]; exact yR⟩;exact⟨.ref D,_,I2,rfl,q D pq hn (by rw [<- mX]; exact p1.map _) p2 fun q' ub=>(hT q' (p1.mem_iff.mp ub)).1⟩
theorem zfb {X:Cx}:zbj X (.builtin "sorted") (fun xs H Q=>∃ (p:Addr) (k:Nat) (B:Int) (ps:List (Addr×List Int)),xs = [.ref p]/\mB X.K H p (ps.map fun q=>V.ref q.1)/\zkj H k B ps/\1<=k/\1<=B/\ps.length < 64 /\
  ∀ (l:Addr) (pq:List (Addr×List Int)),H l=none->pq.Perm ps->(pq.Pairwise fun a b=>num B a.2<=num B b.2)->Q #[Su] (mz H l (.lst (pq.map fun q=>V.ref q.1)))):=by
 intro mq s σ H xs us Q I r h;obtain⟨p,k,B,ps,rfl,hq,hT,hk,hB,ye,q⟩:=h;obtain⟨u,rfl,rx⟩:=vals1 r;cases rx;obtain⟨mC,rv,pl,hz⟩:=I.list hq;have ev:=zfV rv;subst ev;rw [ae] at hz;refine zcL (vs:=ps.map fun q=>aL q.1) (κ:=tuples' true) (val:=fun p=>num B (zc2 H p.1)) (by rw [ae]; lia) (fun R hR=>?_) #[Tx] #[W0] fun h' tk out e D kk hD yR hp hs=>?_
 ·exact collect_list pl.isList (hR _ _ fun b o e=>(jR _ _ _ _ (aO (aB e))).trans (ah _ e)) (by rw [ae]; exact hz)
 ·obtain⟨fs,k1,k2,k3⟩:=zlZ I hT hk kk;exact k6 (T:=.type "int") k1 (by rw [ae] at h2; lia) (fun v hv=>by obtain⟨n,t,rfl⟩:=k3 v hv; exact zfX) rfl ub
 ·obtain⟨pq,p1,p2,p3⟩:=zhu hT hp hs;have hl:=p1.length_eq;obtain⟨hn,I2⟩:=I.above (tk:=tk) (D:=D) (o:=.lst (pq.map fun q=>V.ref q.1)) kk hD ⟨by rw [ae]; lia,pq.map fun q=>aL q.1,e,zcq pq,by rw [<- p3]; exact yR⟩;exact⟨.ref D,_,I2,rfl,q D pq hn p1 p2⟩
theorem zfs (hc:X.calm=true) {σ:St} {a:Addr} {Q:VK} (I:Inv X mq σ H s) (hS:zed X.prog X.w (zau X.w) s.heap a ns) (ye:ns.length < 64)
  (q:∀ (l:Addr) (ms:List Int),H l=none->ms.Perm ns->(ms.Pairwise fun a b=>a<=b)->Q #[Su] (mz H l (.lst #[R8]))) :
  wpAny #[mt] X.A (call (.builtin "sorted") [.ref a]) #[Op] X.xe s:=by
 obtain⟨o,es,ep,t,ho,hex,hd,Di,hp,yE,P⟩:=hS;have hsz:es.size<=70:=by have:=P.m; lia
 obtain⟨vs,ev⟩:∃ vs,vs=(zbk X.w a ep es).toList.map (·.2):=⟨_,rfl⟩;have GV:(vs.map ze8).Perm ns:=by
  rw [ev,bx];refine lE ?_ hp;have:=#[WS].map fun e=>vInt e.2
  refine lE (List.Perm.of_eq ?_) this;exact cf fun e _=>(ziF e.2).symm
 have rG:∀ v∈vs,∃ n t,v=cK n t:=fun v hv=>by
  rw [ev] at hv;obtain⟨e,he,rfl⟩:=aZ.mp hv;obtain⟨⟨k,hk,_⟩,_⟩:=Di e (#[WS].mem_iff.mp he);obtain⟨t,h⟩:=ky hk;exact⟨k,t,h⟩
 have hI:=zd6 rG;have hl:vs.length<=70:=by rw [ev,ae,#[WS].length_eq,aE]; exact hsz
 have qj:sizeLine=16777216:=rfl;refine zcL (vs:=vs) (κ:=oneType') (val:=fun p=>ze8 p.1) (by have:=GV.length_eq; rw [ae] at this; lia) (fun R hR=>?_) #[Tx] (fun s' A' kk=>?_) fun h' tk out e D kk hD yR Fu hs=>?_
 ·refine zhN (A:=X.A.in1) (by rw [show X.A.in1.handled=X.A.handled by simp]; exact I.ok.hd hc) ho hex hd P fun h' tk k=>?_
  rw [<- ev];exact hR h' tk k
 ·rw [zkI hI h2];exact ag ub
 ·intro x y hx hy Q E hQ;obtain⟨a,t,ex⟩:=rG _ (zca hx).1;obtain⟨b,t',ey⟩:=rG _ (zca hy).1;rw [keyLt'_oneType,ex,ey];simp only [ex,ey,ze8] at hQ;exact oneLt_int hQ
 ·have ho:∀ v∈out.toList,∃ n t,v=cK n t:=fun v hv=>rG v (Fu.mem_iff.mp hv)
  have mS:=Fu.length_eq;obtain⟨hn,I2⟩:=I.above (tk:=tk) (D:=D) (o:=.lst ((out.toList.map ze8).map V.int)) kk hD ⟨by rw [ae,ae]; lia,out.toList,e,ze9 ho,by simpa using yR⟩;exact⟨.ref D,_,I2,rfl,q D _ hn ((Fu.map _).trans GV) (dE.mpr hs)⟩
theorem zee {X:Cx} {P:Program} {w:World} (hP:X.prog=P) (hw:X.w=w) (hc:X.calm=true):zbj X (.builtin "sorted") (fun xs H Q=>∃ (d:Addr) (ns:List Int),xs = [.ref d]/\H d=some (SJ P w d ns)/\ns.length < 64 /\
  ∀ (l:Addr) (ms:List Int),H l=none->ms.Perm ns->(ms.Pairwise fun a b=>a<=b)->Q #[Su] (mz H l (.lst #[R8]))):=by
 subst hP hw;intro mq s σ H xs us Q I r h;obtain⟨d,ns,rfl,hd,ye,q⟩:=h;obtain⟨u,rfl,rx⟩:=vals1 r;cases rx;have hS:zW X.prog X.w H s.heap d (SJ X.prog X.w d ns):=I.hok d _ hd;exact zfs hc I hS.1 ye q
end L2
end
section
namespace My
open PySem L2 PyProof.Rows Srt
variable {k:Nat} {mO:List (Int×Int)} {ns:List Int} {qs:List #[GT]}
noncomputable def sts (n:Nat):Nat->List Nat
 | 0=>[0]
 | m+1=>(sts n m).flatMap fun s=>(bd (n - s)).map fun j=>s+j+1
theorem zgK {α:Type} (xs:List α):∀ m,#[SU].map (·.1)=sts xs.length m
 | 0=>rfl
 | m+1=>by
  show (#[SU].flatMap (nxt xs)).map (·.1)=(sts xs.length m).flatMap _;rw [<- zgK xs m,kY,kZ];congr 1;funext c;refine fB fun j=>?_
  rw [ao,ao];by_cases hj:j < xs.length - c.1
  ·have hx:xs[c.1+j]? = some (xs[c.1+j]'#[O]):=aF _;rw [zji hx,jP hj];rfl
  ·rw [cX (by rw [zem]; lia),cX (by rw [cg]; lia)];rfl
theorem zjE:∀ n,n < 8->∀ k,k < 4->(sts n k).length<=35:=by decide +kernel
theorem zfc {p:Int} (hp:p∈zG) (hP:Pts p mO) {sl:Nat} (k3:k<=3) (s4:sl<=4) (AF:k+sl<=mO.length) (hn:qs.Nodup) (hm:∀ q∈qs,IsP p k q/\((mO.length:Int) - (sl:Int))<=(hits p q mO:Int)):qs.length<=35:=by
 have h1:qs ⊆ ((chs (mO.take (k+sl)) k).map (·.2)).map (thr p):=fun q hq=>by
  obtain⟨h1,h2⟩:=hm q hq;obtain⟨pk,h3,h4⟩:=zdg hp hP (n:=k+sl) (t:=mO.length - sl) h1 #[O] #[O] #[O];exact aZ.mpr ⟨pk,h3,h4.symm⟩
 have h2:=hn.length_le_of_subset h1;rw [ae,ae] at h2;have h3:=congrArg cZ (zgK (mO.take (k+sl)) k);rw [ae,aI,show min (k+sl) mO.length=k+sl by lia] at h3;have h4:=zjE (k+sl) #[O] k #[O];lia
noncomputable def sur:List Int->Option Int
 | []=>none
 | a :: r=>if r.all (fun b=>b == a) then some a else none
theorem znu (ns:List Int) (n:Int):dJ ns n=if n∈ns then ns else ns++[n]:=by
 unfold dJ;by_cases h:n∈ns
 ·rw [if_pos h,if_pos (dQ.mpr ⟨n,h,#[M]⟩)]
 ·rw [if_neg h,if_neg fun hc=>by
   obtain⟨x,hx,IQ⟩:=dQ.mp hc;exact h (by rw [<- beq_iff_eq.mp IQ]; exact hx)]
theorem zfd (ns:List Int):(∀ v,v∈dds #[wS]↔v∈ns)/\(dds #[wS]).Nodup/\(dds #[wS]).length<=ns.length:=by
 have key:∀ (ns:List Int),(∀ v,v∈dds #[To]↔v∈ns.reverse)/\(dds #[To]).Nodup/\(dds #[To]).length<=ns.length:=fun ns=>by
  induction ns with
  | nil=>exact⟨fun v=>by simp [dds],by simp [dds],by simp [dds]⟩
  | cons n ns ih =>
   obtain⟨h1,h2,h3⟩:=ih;rw [List.reverse_cons,aw];show (∀ v,v∈dds (ns.reverse.map V.int++[V.int n])↔_)/\(dds (ns.reverse.map V.int++[V.int n])).Nodup/\(dds (ns.reverse.map V.int++[V.int n])).length<=_;rw [zhO,znu];by_cases h:n∈dds #[To]
   ·rw [if_pos h];refine⟨fun v=>?_,h2,by rw [bh]; lia⟩;rw [h1,aC,aW];exact⟨.inl,fun z=>z.elim id fun e=>by rw [e]; exact (h1 n).mp h⟩
   ·rw [if_neg h];refine⟨fun v=>?_,fu.mpr ⟨h2,#[M],fun a ha b hb e=>?_⟩,by rw [aH,bh]; exact fQ h3⟩
    ·rw [aC,aC,h1]
    ·rw [aW.mp hb] at e;exact h (e ▸ ha)
 have:=key ns.reverse;rw [List.reverse_reverse,jT] at this;exact this
theorem zoT {ms:List Int} (hp:ms.Perm (dds #[wS])):(ms.length=1->∃ v,ms = [v]/\sur ns=some v)/\(ms.length≠1->sur ns=none):=by
 obtain⟨h1,h2,_⟩:=zfd ns;have hm:∀ v,v∈ms↔v∈ns:=fun v=>by rw [hp.mem_iff,h1]
 have hn:ms.Nodup:=hp.nodup_iff.mpr h2;constructor
 ·intro h;obtain⟨v,rfl⟩:=List.length_eq_one_iff.mp h;refine⟨v,rfl,?_⟩;cases ns with
  | nil=>exact absurd ((hm v).mp #[M]) #[M]
  | cons a r =>
   have ha:a=v:=by simpa using (hm a).mpr #[M]
   subst ha;show (if r.all (fun b=>b == a) then some a else none)=some a;rw [if_pos (cT.mpr fun b hb=>by have:=(hm b).mpr (ar _ hb); simpa using this)]
 ·intro h;cases ns with
  | nil=>rfl
  | cons a r =>
   show (if r.all (fun b=>b == a) then some a else none)=none;refine if_neg fun qh=>h ?_
   have Bu:∀ v∈ms,v=a:=fun v hv=>by
    rcases av.mp ((hm v).mp hv) with e | hv
    ·exact e
    ·exact beq_iff_eq.mp (cT.mp qh v hv)
   have ha:=(hm a).mpr aA
   match ms,ha,hn,Bu with
   | [x],_,_,_=>rfl
   | x :: y :: ms,_,hn,Bu =>
    have e1:=Bu x #[M];have e2:=Bu y #[M];exact absurd (du.mp hn).1 (by rw [e1,e2]; simp)
end My
end
section
namespace L2
open PySem PySem.Spec PyProof.Rows
theorem zkL {X:Cx} (hc:X.calm=true):zbj X (.builtin "max") (fun xs H Q=>∃ (p:Addr) (ns:List Int),xs = [.ref p]/\mB X.K H p #[wS]/\ns≠[]/\∀ M:Int,M∈ns->(∀ a∈ns,a<=M)->Q (.int M) H):=by
 intro mq s σ H xs us Q I r h;obtain⟨p,ns,rfl,hq,hn,q⟩:=h;obtain⟨u,rfl,rx⟩:=vals1 r;cases rx;obtain⟨mC,rv,pl,hz⟩:=I.list hq;have hi:IntsAre mC ns:=by simpa using intsAre_of rv
 (obtain⟨xs,e⟩:=hi.allInts.items)
 have yc:ns=xs.toList.map (·.1):=by rw [<- hi.numsOf,<- nums_intItems,<- e]
 have hsz:0 < xs.size:=by
  have h3:=jU.mpr hn;rw [yc,ae,aE] at h3;exact h3
 have hl:=pl.isList;rw [e] at hl;refine max_intList #[Rq] hl hsz fun v h' tk hv hk=>?_
 (obtain⟨t,rfl⟩:=intItems_at hv)
 (obtain⟨h1,h2⟩:=argBest_gt (numAt xs) (xs.size - 1))
 refine⟨.int _,H,I.kept hk,⟨_,rfl⟩,q _ ?_ fun a ha=>?_⟩
 ·(rw [yc,k7]; exact getD_mem (by rw [ae,aE]; lia))
 ·rw [yc] at ha
  (obtain⟨j,hj,rfl⟩:=mem_getD ha)
  (rw [ae,aE] at hj)
  (rw [<- k7]; exact h2 j #[O])
end L2
end
section
namespace PySem
open PyProof.Rows
end PySem
namespace L2
open PySem PySem.Spec PyProof.Rows
theorem zkM {X:Cx} (hc:X.calm=true):zbj X (.builtin "min") (fun xs H Q=>∃ (p:Addr) (ns:List Int),xs = [.ref p]/\mB X.K H p #[wS]/\ns≠[]/\∀ M:Int,M∈ns->(∀ a∈ns,M<=a)->Q (.int M) H):=by
 intro mq s σ H xs us Q I r h;obtain⟨p,ns,rfl,hq,hn,q⟩:=h;obtain⟨u,rfl,rx⟩:=vals1 r;cases rx;obtain⟨mC,rv,pl,hz⟩:=I.list hq;have hi:IntsAre mC ns:=by simpa using intsAre_of rv
 (obtain⟨xs,e⟩:=hi.allInts.items)
 have yc:ns=xs.toList.map (·.1):=by rw [<- hi.numsOf,<- nums_intItems,<- e]
 have hsz:0 < xs.size:=by
  have h3:=jU.mpr hn;rw [yc,ae,aE] at h3;exact h3
 have hl:=pl.isList;rw [e] at hl;refine min_intList #[Rq] hl hsz fun v h' tk hv hk=>?_
 (obtain⟨t,rfl⟩:=intItems_at hv)
 (obtain⟨h1,h2⟩:=argBest_lt (numAt xs) (xs.size - 1))
 refine⟨.int _,H,I.kept hk,⟨_,rfl⟩,q _ ?_ fun a ha=>?_⟩
 ·(rw [yc,k7]; exact getD_mem (by rw [ae,aE]; lia))
 ·rw [yc] at ha
  (obtain⟨j,hj,rfl⟩:=mem_getD ha)
  (rw [ae,aE] at hj)
  (rw [<- k7]; exact h2 j #[O])
end L2
end
section
namespace PySem
end PySem
end
section
namespace PySem
end PySem
namespace L2
open PySem PySem.Spec PyProof.Rows
end L2
end
section
namespace PySem
end PySem
namespace L2
open PySem PySem.Spec PyProof.Rows
noncomputable def zp6 (K:af) (ta tb:TE):TE:=fun σ H Q=>ta σ H fun x H1=>∃ k,zn6 K x H1 k/\if k=true then Q x H1 else tb σ H1 Q
theorem zmr {X:Cx} {K:af} {a b:Expr} {ta tb:TE} {pos:Pos} (hK:X.K=K) (ha:PE X a ta) (hb:PE X b tb):PE X (.BoolOp .Or [a,b] pos) (zp6 K ta tb):=by
 subst hK;intro mq s σ H Q I h;refine BoolOp_or (thn #[Fr] fun v s1 ⟨x,H1,I1,r1,k,hk,q1⟩=>?_);refine thn (zlf mq s1 σ H1 x v (fun b H'=>b=k/\H'=H1) I1 r1 ⟨k,hk,rfl,rfl⟩) fun b s2 ⟨H2,I2,e1,e2⟩=>?_
 subst e1 e2;cases b with
 | false=>exact zhV hb mq s2 σ H2 Q I2 q1
 | true=>exact⟨x,H2,I2,r1,q1⟩
end L2
end
section
namespace My
open PySem L2 PyProof.Rows
variable {H H':Hp} {da ea ua:Addr} {fd:FuncData} {k:Nat} {m:Str} {mO:List (Int×Int)} {ns pl:List Int} {rows:List Rw} {rs:List Addr} {sl:Int} {xs:List V}
section
variable {P:Program} {w:World} {K:af} {mg:Str->Option Value} {base:Heap} {t:Adr}
theorem zes:Kg ["code","row","polynomial","p","k","places"] ["code","row","polynomial"] (zi zeZ):=#[S]
theorem znv (T:Txt K mg t) (F:Fun K "fits" "fits" zeZ t.fits fd):Kq P w K mg base CX0 2 t.fits fd ["code","row","polynomial"] (zi6 K):=by
 obtain⟨oU,mZ,m8⟩:=T.KC;have nC:=zcK (P:=P) (w:=w) (base:=base) T mZ;refine F.ok zes #[ol] #[ac]
 ·obtain⟨c,tt,ra,po,p,k,pl,m7,rw,rfl,_⟩:=h;rfl
 ·obtain⟨c,tt,ra,po,p,k,pl,m7,rw,rfl,hc,qH,tD,IV,p0,p1,nZ,hn,q⟩:=h;refine zaG ?_; intro zX;refine⟨_,#[ze,#[za5,#[wn],#[zbe,#[zq,#[zm,3,zes.nd,#[U9]],#[zq,#[zm,4,zes.nd,#[A]],#[zq,#[zm,5,zes.nd,#[A]],#[zY]]]]]],#[zl,#[zJ,#[zaQ,(Ki.of (N':=["at","place","entry","p","polynomial"]) (ix:=[none,none,none,some 3,some 2]) (zi zeZ) _ rfl rfl rfl),#[zcn,#[zaa,(@zjT _ _ _ #[KB] #[zbC] zir)]],(@ziq _ _ _ _ _ _ _ _ _ _ _ rfl T.LY rfl T.Qk #[za,#[Uf],#[RT]] (by rfl) (by rfl) (by rfl)),(fun _ _ _ _=>#[zbu,(K),2,#[zq,#[zm,0,#[Y],#[A]],#[zq,#[zbu,(K),2,#[zq,#[zm,1,#[Y],#[A]],#[zq,#[zm,2,#[Y],#[A]],#[zY]]]],#[zY]]]]),(fun _ _ _ _=>#[zaZ,#[zA,#[zaX],#[QT],#[zI,nC,#[pc],T.K5,mZ.kp,m8,#[zP],#[za,#[Rn],#[za,#[TJ],#[RT]]]],(zF _)]]),#[Rk]]]]],?_⟩;refine zn9 ?_; intro pP;refine⟨_,rfl,c,_,rfl,mK.of hc.1,rfl,_,_,rfl,_,_,rfl,_,_,rfl,rfl,?_⟩;refine (mr rfl (mr rfl (ex4 tt ra _ _ ⟨rfl,mK.of hc.2,mB.of qH,z6 (n:=pl.length) (fun i ys H'=>ys=(zdm p pl rw m7 i).map V.int/\zy H H') ⟨rfl,fun _ _ e=>e⟩ ?_ ?_ ?_ ?_⟩)))
  ·rintro i ys H3 hi ⟨_,s3⟩;obtain⟨o,ho⟩:∃ o,rw[i]? = some o:=⟨rw[i]'#[O],#[M]⟩;exact⟨_,_,.int pl[i],mM o,mK.of (s3 _ _ hc.2),mB.of (s3 _ _ qH),by rw [ao,aF hi]; rfl,by rw [ao,ho]; rfl⟩
  ·rintro ys H3 ⟨_,s3⟩;exact⟨_,_,mK.of (s3 _ _ hc.2),mB.of (s3 _ _ qH),by rw [ae]⟩
  ·rintro zS zT zE i xx ys H3 H4 hi ⟨rfl,s3⟩ ⟨T1,T2,u,v,hT1,vQ,oM,rfl,rfl,hu,hv⟩;obtain⟨x,rfl,hx⟩:=zaJ (hu _ (mK.of (s3 _ _ hc.2)));obtain⟨o,rfl,ho⟩:=zel (hv _ (mB.of (s3 _ _ qH)));obtain⟨x0,x1⟩:=nZ x (aP hx);have s4:zy H3 (mz (mz H3 T1 (.tup [.int x,mM o])) T2 (.tup [.int i,.ref T1])):=zaR (zd hT1) vQ;refine⟨T2,_,rfl,mK.of zb,rfl,_,_,rfl,_,_,rfl,T1,_,rfl,mK.of (by rw [zg oM]; exact zb),rfl,_,_,rfl,_,_,rfl,rfl,rfl,?_⟩;refine (mr rfl (mr rfl (mr rfl (mr rfl (ex4 p x po m7 ⟨rfl,.inr (mK.of ((s3.trans s4) _ _ IV)),p0,p1,x0,x1,zlK o _,#[Db]⟩)))));rw [zfS,zhe hx ho,aw];have mS:=zhd p pl rw m7 i;refine zaY (fun h1=>(mr rfl ⟨zaA (by rw [ae]; lia),?_,s3.trans s4⟩)) (fun h1=>⟨?_,s3.trans s4⟩)
   ·rw [if_pos h1];rfl
   ·rw [if_neg h1];simp
  ·rintro ys H3 D ⟨rfl,s3⟩ hD;exact q D _ (s3.free hD) (s3.trans (zd hD)) zb
theorem zcv:Kg ["things","many","chosen","step"] ["things","many"] (zi zbF):=#[S]
theorem ziG (T:Txt K mg t) (F:Fun K "choices" "choices" zbF t.Nh fd):Kq P w K mg base CX0 1 t.Nh fd ["things","many"] (ziw K):=by
 refine F.ok zcv #[ol] #[ac]
 ·obtain⟨a,m,xs,rfl,_⟩:=h;rfl
 ·obtain⟨a,m,xs,rfl,hS,hx,hm,q⟩:=h;refine zaG ?_; intro zX;refine⟨_,#[ze,#[zr,2,zcv.nd,#[A],#[zK,#[ya,#[zaf,#[za,#[zh],#[ya,#[Sy]]]]]]],#[ze,#[za6,bD,#[zap,T.Kz,#[RT]],#[zm,3,zcv.nd,#[A]],#[zl,(@ziv _ _ _ _ _ _ _ _ _ _ _ _ _ _ _ _ _ _ _ _ _ (2) _ _ _ zcv.nd rfl #[A] (Ki.of (N':=["start","picked","at","things"]) (ix:=[none,none,none,some 0]) (zi zbF) _ rfl rfl rfl) rfl (zls (js:=[0,1]) (zeD (js:=[0,1]) (i:=0) #[D] (zeD (js:=[0,1]) (i:=1) #[D] (ziW (js:=[0,1]))))) (ziV (js:=[2]) (i:=2) #[D]) #[D] #[D] #[zao,#[QT]] #[or] #[wP] (fun _ _ _ _=>(@zjL _ _ _ _ _ _ _ rfl T.Kz #[za,#[wn],#[ya,#[zt,#[za0,(K)],T.LL,bM,#[U6]]]] (by rfl) (by rfl))) (fun _ _ _ _=>#[zm,2,#[Y],#[A]]) #[wP] (fun _ _ _ _=>#[zaf,#[za,#[WA],#[ya,#[zn,#[zb1],#[ww],#[zK,#[ya,#[zx,#[Xn],#[Rn],#[QT]]]]]]]]) (by rfl) (by intro _; rfl) (by intros; rfl) (by trivial))]],#[zl,#[zJ,#[zaQ,(Ki.of (N':=["start","picked"]) (ix:=[none,none]) (zi zbF) _ rfl rfl rfl),#[KB],#[zao,#[QT]],#[or],#[wP],(fun _ _ _ _=>#[ww])]]]]],?_⟩;refine zfi ?_; intro qD pP;have qj:=aS;refine⟨bg _,fun L0 IW=>⟨by show 2<=sizeLine; lia,fun T0 Cm=>⟨by show 1<=sizeLine; lia,fun c hc=>?_⟩⟩⟩;have u0:=zd (o:=.lst []) IW;have u1:=zd (o:=.tup [.int 0,.ref L0]) Cm;have u2:=zd (o:=.lst [.ref T0]) hc;have Fv:zeU (mz (mz (mz H L0 (.lst [])) T0 (.tup [.int 0,.ref L0])) c (.lst [.ref T0])) [T0] (chs xs 0):=.cons ⟨L0,u2 _ _ zb,#[Vs] _ _ zb⟩ .nil;have IX:mz (mz (mz H L0 (.lst [])) T0 (.tup [.int 0,.ref L0])) c (.lst [.ref T0]) c=some (.lst ([T0].map V.ref)):=zb;have s0:=(u0.trans u1).trans u2;generalize mz (mz (mz H L0 (.lst [])) T0 (.tup [.int 0,.ref L0])) c (.lst [.ref T0])=H0 at Fv IX s0 |-;refine (mr rfl (mr rfl ⟨#[O],#[O],?_⟩));rw [a8];refine zbI (lo:=0) (n:=m) (fun i σ H'=>∃ (c:Addr) (ts:List Addr) (e3:Option V),σ = [some #[Rf],some (.int m),some #[UX],e3]/\zy H H'/\H' c=some (.lst (ts.map V.ref))/\zeU H' ts (chs xs i)) (ex3 c ([T0]) none ⟨rfl,s0,IX,Fv⟩) ?_ ?_
  ·rintro zD zT i σ H1 hi ⟨c,ts,e3,rfl,s1,tT,qe⟩;have tu:=qe.length;have yE:=zdP (xs:=xs) (i+1) hx;have Bt:((chs xs i).flatMap (nxt xs)).length<=65536:=yE;refine (mr rfl ⟨c,rfl,⟨_,mB.of tT⟩,znR (n:=ts.length) (fun i' ys H'=>∃ us:List Addr,ys=us.map V.ref/\zy H1 H'/\zeU H' us (((chs xs i).take i').flatMap (nxt xs))) ⟨[],rfl,fun _ _ e=>e,.nil⟩ ?_ ?_ ?_ ?_⟩)
   ·rintro i' ys H2 pM ⟨us,_,s2,_⟩;exact⟨_,.ref ts[i'],mB.of (s2 _ _ tT),by rw [ao,aF pM]; rfl⟩
   ·rintro ys H2 ⟨us,_,s2,_⟩;exact⟨_,mB.of (s2 _ _ tT),by rw [ae]; exact ai _⟩
   ·rintro i' y ys H2 H3 pM ⟨us,rfl,s2,nh⟩ ⟨rfl,hy⟩;obtain⟨tt,rfl,De⟩:=zaB (hy _ (mB.of (s2 _ _ tT)));obtain⟨cc,oh,qF⟩:=Paired.get qe De;obtain⟨L,D8,D9⟩:=qF.same s2;have hle:=zoF (aP oh);have nZ:=zhw (aP oh);obtain⟨st,pk⟩:=cc;dsimp only at D8 D9 hle nZ;refine gY2 (mK.of D8) ?_;refine (mr rfl (mr rfl ⟨a,xs,rfl,.inl (#[Xb].seq hS),_,_,rfl,⟨#[O],#[O],#[O],#[O]⟩,?_⟩));have en:((xs.length:Int) - (st:Int)).toNat=xs.length - st:=by lia
    rw [en];refine znR (n:=xs.length - st) (fun j ys H'=>∃ us:List Addr,ys=us.map V.ref/\zy H3 H'/\zeU H' us (((chs xs i).take i').flatMap (nxt xs)++(nxt xs (st,pk)).take j)) ⟨us,rfl,fun _ _ e=>e,by rw [gJ,cv]; exact nh⟩ (fun j ys H' hj _=>hj) #[RJ] ?_ ?_
    ·rintro j z ys H4 H5 hj ⟨us,rfl,s4,nh⟩ ⟨rfl,rfl⟩;obtain⟨x,vO⟩:∃ x,xs[st+j]? = some x:=⟨xs[st+j]'#[O],#[M]⟩;have qF:atI xs ((st:Int)+(j:Int))=some x:=by
      have e:((st+j:Nat):Int)=(st:Int)+j:=by lia
      rw [<- e];exact zab vO
     have hng:=zji (c:=(st,pk)) vO;have uJ:=nh.length;have hpart:=zkk (f:=nxt xs) oh (show j < (nxt xs (st,pk)).length by rw [zem]; exact hj);have hnl:=zem xs (st,pk);refine gY ?_;refine (mr rfl (mJ rfl rfl (mr rfl (mr rfl (mr rfl (ex4 a xs _ x ⟨rfl,rfl,(#[Xb].trans s4).seq hS,qF,by show 1<=sizeLine; lia,fun b hb=>?_⟩))))));have v1:=zd (o:=.lst [x]) hb;refine (ex4 L b pk ([x]) ⟨rfl,rfl,(s4.trans v1) _ _ D9,zb,by show pk.length+1<=sizeLine; lia,fun L2 Fw=>⟨by show 2<=sizeLine; lia,fun T2 vQ=>⟨?_,us++[T2],by rw [aw]; rfl,?_,?_⟩⟩⟩)
     ·rw [ae,uJ,aH,aI];lia
     ·exact s4.trans (v1.trans ((zd Fw).trans (zd vQ)))
     ·rw [take_snoc hng,<- cu];refine cR (nh.same (v1.trans ((zd Fw).trans (zd vQ)))) ⟨L2,?_,(zd vQ) _ _ zb⟩;rw [zb];show some (HO.tup [.int ((st:Int)+(j:Int)+1),.ref L2])=some (HO.tup [.int ((st+j+1:Nat):Int),.ref L2]);have e:((st+j+1:Nat):Int)=(st:Int)+j+1:=by lia
      rw [e]
    ·rintro ys H4 ⟨us,rfl,s4,nh⟩;rw [bj (l:=nxt xs (st,pk)) (by rw [zem]; exact ai _)] at nh;exact⟨us,rfl,s2.trans s4,by rw [zfY oh]; exact nh⟩
   ·rintro ys H2 ⟨us,rfl,s2,nh⟩ D hD;rw [tu,bj (ai _)] at nh;exact (ex3 D us _ ⟨rfl,s1.trans (s2.trans (zd hD)),zb,nh.same (zd hD)⟩)
  ·rintro σ H1 ⟨c,ts,e3,rfl,s1,tT,qe⟩;have tu:=qe.length;have yE:=zdP (xs:=xs) m hx;refine (mr rfl ⟨c,rfl,⟨_,mB.of tT⟩,z6 (n:=ts.length) (fun i ys H'=>H'=H1/\∃ us:List Addr,ys=us.map V.ref/\zhx H1 us ((#[SU].map (·.2)).take i)) ⟨rfl,[],rfl,.nil⟩ ?_ ?_ ?_ ?_⟩)
   ·rintro i ys H2 hi ⟨rfl,_⟩;exact⟨_,.ref ts[i],mB.of tT,by rw [ao,aF hi]; rfl⟩
   ·rintro ys H2 ⟨rfl,_⟩;exact⟨_,mB.of tT,by rw [ae]; exact ai _⟩
   ·rintro zS zT zE i y ys H2 H3 hi ⟨rfl,us,rfl,nh⟩ ⟨rfl,hy⟩;obtain⟨tt,rfl,De⟩:=zaB (hy _ (mB.of tT));obtain⟨cc,oh,L,D8,D9⟩:=Paired.get qe De;have uJ:=nh.length;refine gY2 (mK.of D8) ⟨_,rfl,?_,rfl,us++[L],by rw [aw]; rfl,?_⟩
    ·rw [ae,uJ,aI,ae];lia
    ·have IY:(#[SU].map (·.2))[i]? = some cc.2:=by rw [ao,oh]; rfl
     rw [take_snoc IY];exact cR nh D9
   ·rintro ys H2 D ⟨rfl,us,rfl,nh⟩ hD;rw [bj (by rw [ae,tu]; exact ai _)] at nh;exact q D us _ (s1.free hD) (s1.trans (zd hD)) zb #[Xw]
theorem znT {p:Int} (hP:Pts p mO):mO.map (md p)=mO:=by
 refine (cf fun q hq=>?_).trans (iY _);obtain⟨_,_,h1,h2⟩:=hP.rg q hq;show (q.1,q.2 % p)=q;rw [dD h1 h2]
theorem znw {α:Type} (xs:List α) (h:xs.length < 8) (h3:k < 4):(chs xs k).length < 64:=by
 have h1:=congrArg cZ (zgK xs k);rw [ae] at h1;have h2:=zjE xs.length h k h3;lia
noncomputable def znx (K:af):Sp:=fun vs H Q _=>∃ (c tt a:Addr) (p:Int) (k:Nat) (pl:List Int) (bs:List Addr) (mO:List (Int×Int)),vs = [.ref c,.ref a]/\zaH H c tt p k pl/\mB K H a #[Uo]/\PtB H bs mO/\mO.length<=16/\p∈zG/\Pts p mO/\1<=k/\k<=100/\(chs mO k).length < 64 /\
 ∀ (l:Addr) (rs:List Addr) (qs:List #[GT]) (H':Hp),H l=none->zy H H'->H' l=some #[o0]->zaK H' rs qs->qs.length<=65536->zdQ p k qs->(∀ q,q∈qs↔∃ pk∈(chs mO k).map (·.2),q=thr p pk)->Q #[Su] H'
theorem zar:Kg ["code","points","p","k","places","found","picked"] ["code","points"] (zi za1):=#[S]
theorem zfe (T:Txt K mg t) (F:Fun K "all_through" "all_through" za1 t.Kt fd):Kq P w K mg base CX0 4 t.Kt fd ["code","points"] (znx K):=by
 obtain⟨wa,tV,qJ⟩:=T.Mz;have xu:=ziG (P:=P) (w:=w) (base:=base) T tV;obtain⟨wb,tW,qK⟩:=T.Mv;have xv:=ziy (P:=P) (w:=w) (base:=base) T tW;refine F.ok zar #[ol] #[ac]
 ·obtain⟨c,tt,a,p,k,pl,bs,mO,rfl,_⟩:=h;rfl
 ·obtain⟨c,tt,a,p,k,pl,bs,mO,rfl,hc,hS,hB,hn,hp,hP,k0,k1,ye,q⟩:=h;have hu:(A.deeper (envOfC (bL "all_through") (zi za1) s.heap.objs.size t.Kt mV)).units+1 < cLine:=by have:=hr.units; lia
  refine zaG ?_; intro zX;refine⟨_,#[ze,#[za5,#[wn],#[zbe,#[zq,#[zm,2,zar.nd,#[A]],#[zq,#[zm,3,zar.nd,#[A]],#[zq,#[zm,4,zar.nd,#[A]],#[zY]]]]]],#[ze,#[zr,5,zar.nd,#[A],#[zhn]],#[ze,#[za6,bD,#[zao,#[zI,xu,#[pc],T.OY,tV.kp,qJ,#[zP],#[za,#[ww],#[U6]]]],#[zm,6,zar.nd,#[A]],#[zl,#[zja,hu,#[Uf],#[zI,xv,#[pc],T.OV,tW.kp,qK,#[zP],#[za,#[QT],#[UM]]],#[zdS]]]],#[zl,#[zJ,#[zt,(@zfa _ rfl),T.Nz,kP,#[ya,#[Uf]]]]]]]],?_⟩;refine zgb ?_; intro uI qD pP;have qj:=aS;have rp:=zQ hp;obtain⟨zs,rfl,rfl,hz⟩:=hB.zs;rw [ae] at hn;refine⟨_,rfl,c,_,rfl,mK.of hc.1,rfl,_,_,rfl,_,_,rfl,_,_,rfl,rfl,fun D hD=>?_⟩;have s0:=zd (o:=.dT []) hD;have IZ:mz H D (.dT []) D=some (.dT []):=zb;generalize mz H D (.dT [])=H0 at s0 IZ |-;refine (mr rfl (mr rfl (ex3 a k _ ⟨rfl,s0.seq hS,by rw [ae,ae]; lia,#[O],fun l ls H1 hl s1 Cn GW=>?_⟩)));have hlD:l≠D:=fun e=>by rw [e,IZ] at hl; cases hl
  rw [bx,zfZ (V.ref ∘ fun z:Addr×Int×Int=>z.1) zs k] at GW;have nZ:=GW.length;rw [ae,ae] at nZ;have yE:=zdP (xs:=zs) k hn;obtain⟨Ek,Bv⟩:∃ Ek,(chs zs k).map (·.2)=Ek:=⟨_,rfl⟩;rw [Bv] at GW;have hzl:ls.length=Ek.length:=by rw [nZ,<- Bv,ae]
  have Fy:H1 D=some (.dT []):=s1 _ _ IZ;have hid:=zcH H1 D;refine⟨l,rfl,⟨_,mB.of Cn⟩,zba (K:=K) (a:=l) (xs:=ls.map V.ref) (fun i σ H'=>∃ (mI:List (List Key×V)) (nB:List #[GT]) (e6:Option V),σ = [some #[UX],some #[Rf],some #[Wg],some (.int k),some (.ref tt),some #[QV],e6] /\
   zy (hide H1 D) H'/\H' D=some #[Vp]/\KeysAre mI nB/\nB.Nodup/\nB.length<=i/\∀ x,x∈nB↔∃ zk∈Ek.take i,x=thr p (zk.map (·.2)))
   ⟨[],[],none,rfl,hid,Fy,rfl,#[M],ai _,fun x=>by simp⟩ (fun i σ H' _ hq=>by obtain⟨_,_,_,_,s3,_⟩:=hq; exact (mB.of (s3 _ _ (za3 Cn hlD)))) ?_ ?_⟩
  ·rintro zD zT i y σ H2 hy ⟨mI,nB,e6,rfl,s2,Bw,xt,uU,AL,nu⟩;obtain⟨b,rfl,Cd⟩:=zaB hy;obtain⟨hi,_⟩:=aj.mp Cd;obtain⟨vk,Fz,Ck⟩:=Paired.get GW Cd;obtain⟨zk,hzk,rfl⟩:∃ zk,Ek[i]? = some zk/\vk=zk.map (V.ref ∘ fun z:Addr×Int×Int=>z.1):=by
    rw [ao] at Fz;cases e:Ek[i]? with
    | none=>rw [e] at Fz; cases Fz
    | some zk=>rw [e] at Fz; exact⟨zk,rfl,(aN Fz).symm⟩
   have hbD:b≠D:=fun e=>by rw [e,Fy] at Ck; cases Ck
   obtain⟨rK,mS⟩:=zeo.mp (by rw [Bv]; exact aP hzk:zk∈(chs zs k).map (·.2));have GX:Pts p (zk.map (·.2)):=hP.sub (rK.map _);have Ja:zi4 K H2 b (zk.map (·.2)):=by
    refine⟨zk.map (·.1),?_,by rw [ae,ae],fun j b' q' h1 h2=>?_⟩
    ·have:=s2 _ _ (za3 Ck hbD);rw [bx];exact mB.of this
    ·rw [ao] at h1 h2;cases e:zk[j]? with
     | none=>rw [e] at h1; cases h1
     | some z =>
      rw [e] at h1 h2;cases h1;cases h2;have rD:=hz z (rK.subset (aP e));have hzD:z.1≠D:=zj rD hD;exact s2 _ _ (za3 ((s0.trans s1) _ _ rD) hzD)
   have Jb:mI.length=nB.length:=by
    have:=congrArg cZ xt;rw [ae,ae] at this;exact this
   refine (mr rfl (mr rfl (mr rfl (ex3 p b _ ⟨rfl,Ja,by rw [ae]; lia,hp,(by rw [znT GX]; exact GX),(fun q hq=>by have:=GX.rg q hq; lia),fun tl H3 xo s3 h3=>?_⟩))));rw [znT GX] at h3;have GY:=s3 _ _ Bw;refine⟨D,(mr rfl ⟨zkf.t (k:=(thr p (zk.map (·.2))).map cN) GY (by rw [h3,bx]; rfl) #[O],?_⟩)⟩;obtain⟨uV,m1,m2,m3,m4⟩:=zhD xt uU (thr p (zk.map (·.2))) (.bl true);refine (ex3 _ uV _ ⟨rfl,?_,zb,m1,m2,#[O],fun x=>?_⟩)
   ·refine zaR (s2.trans s3) ?_;unfold hide;rw [if_pos rfl]
   ·rw [m4 x,nu x,take_snoc hzk];constructor
    ·rintro (⟨Jc,h1,h2⟩ | e)
     ·exact⟨Jc,aD _ h1,h2⟩
     ·exact⟨zk,aq _ (aW.mpr rfl),e⟩
    ·rintro⟨Jc,h1,h2⟩;rcases (aC.mp h1) with h1 | h1
     ·exact .inl ⟨Jc,h1,h2⟩
     ·rw [aW.mp h1] at h2;exact .inr h2
  ·rintro σ H2 ⟨mI,nB,e6,rfl,s2,Bw,xt,uU,AL,nu⟩;rw [ae,hzl] at nu AL;rw [bt] at nu;rw [<- hzl,nZ] at AL;have qh:∀ x,x∈nB↔∃ pk∈(chs (zs.map (·.2)) k).map (·.2),x=thr p pk:=fun x=>by
    rw [nu x,zfZ,Bv];constructor
    ·rintro⟨zk,h1,h2⟩;exact⟨_,dU h1,h2⟩
    ·rintro⟨pk,h1,h2⟩;obtain⟨zk,h3,rfl⟩:=aZ.mp h1;exact⟨zk,h3,h2⟩
   have Bx:∀ x∈nB,IsP p k x:=fun x hx=>by
    obtain⟨pk,h1,rfl⟩:=(qh x).mp hx;exact zjo hp hP h1
   refine (mr rfl (ex5 D k p mI nB ⟨rfl,Bw,xt,fun ms hm=>Bx ms hm,k0,#[O],(by have:=congrArg cZ (zgu (fun z:Addr×Int×Int=>z.2) zs k); rw [ae] at this; lia),fun r pq rL nQ yS hH=>?_⟩));have Ej:zy H H2:=fun x u e=>s2 _ _ (za3 ((s0.trans s1) _ _ e) (zj e hD))
   have e1:pq.map (fun q=>V.ref q.1)=(pq.map (·.1)).map V.ref:=by rw [bx]; rfl
   rw [e1];refine q r (pq.map (·.1)) (pq.map (·.2)) _ (Ej.free rL) (Ej.trans (zd rL)) zb ((zaK.of hH).same (zd rL)) (by rw [nQ.length_eq]; lia) (zjr #[O] (fun x hx=>Bx x (nQ.mem_iff.mp hx)) (nQ.nodup_iff.mpr uU) ?_) fun x=>?_
   ·rw [dE];exact yS
   ·rw [nQ.mem_iff];exact qh x
noncomputable def zgL (K:af):Sp:=fun vs H Q _=>∃ (c tt r:Addr) (p:Int) (k:Nat) (T:Int) (pl:List Int) (rw:List #[Ch]),vs = [.ref c,.ref r,.int T]/\zaH H c tt p k pl/\H r=some #[UQ]/\rw.length=pl.length/\pl.length<=16/\p∈zG/\pl.Nodup/\(∀ x∈pl,0<=x/\x < p)/\(∀ z,some z∈rw->0<=z/\z < p)/\1<=k/\k<=100/\(k:Int)<=T/\k<=3/\(#[FM].length:Int)<=T+4 /\
 ∀ (l:Addr) (rs:List Addr) (qs:List #[GT]) (H':Hp),H l=none->zy H H'->H' l=some #[o0]->zaK H' rs qs->zdQ p k qs->(∀ q,q∈qs↔IsP p k q/\T<=(hits p q #[FM]:Int))->Q #[Su] H'
theorem zbZ:Kg ["code","row","t","k","points","first"] ["code","row","t"] (zi zbN):=#[S]
theorem zhQ (T:Txt K mg t) (F:Fun K "all_near" "all_near" zbN t.Mh fd):Kq P w K mg base CX0 5 t.Mh fd ["code","row","t"] (zgL K):=by
 obtain⟨oI,m9,nc⟩:=T.Ko;have nR:=zcA (P:=P) (w:=w) (base:=base) T m9;obtain⟨By,yT,wc⟩:=T.O6;have Dr:=znv (P:=P) (w:=w) (base:=base) T yT;obtain⟨rS,pH,oa⟩:=T.KL;have tE:=zfe (P:=P) (w:=w) (base:=base) T pH;refine F.ok zbZ #[ol] #[ac]
 ·obtain⟨c,tt,r,p,k,T',pl,rw,rfl,_⟩:=h;rfl
 ·obtain⟨c,tt,r,p,k,T',pl,rw,rfl,hc,qH,tD,hn,hp,uU,nZ,FA,k0,k1,h1,k3,h4,q⟩:=h;refine zaG ?_; intro zX;refine⟨_,#[ze,#[zr,3,zbZ.nd,#[A],#[Ua]],#[ze,#[zan,#[zA,#[zcD],#[QT],#[Rn],(zF _)],(@zjJ _ _),#[zO]],#[ze,#[zr,4,zbZ.nd,#[A],#[zI,nR,#[pc],T.Lb,m9.kp,nc,#[zP],#[V7]]],#[ze,#[zan,#[zA,#[zlb],#[QT],#[Sa],(zF _)],#[zl,#[zJ,#[Sy]]],#[zO]],#[ze,#[zr,5,zbZ.nd,#[A],#[zdj,zei,#[TJ],#[zeg],#[zeh,#[zn,#[zae],#[zn,#[zbf],#[Sa],#[QT]],#[Rn]]]]],#[zl,#[zJ,#[zaQ,(Ki.of (N':=["polynomial","code","row","t"]) (ix:=[none,some 0,some 1,some 2]) (zi zbN) _ rfl rfl rfl),#[zay],#[zao,#[zI,tE,#[pc],T.M0,pH.kp,oa,#[zP],#[za,#[wn],#[ya,#[Uf]]]]],#[ut],(fun _ _ _ _=>#[zaZ,#[zA,#[zlc],#[zt,#[za0,(K)],T.LL,bM,#[ya,#[zI,Dr,#[pc],T.Qr,yT.kp,wc,#[zP],#[za,#[ww],#[za,#[QT],#[ya,#[wn]]]]]]],#[Rn],(zF _)]]),#[Rk]]]]]]]]],?_⟩;refine zoa ?_; intro C8 Bn uI qD pP;have qj:=aS;have rp:=zQ hp;have hR:Qv K H r pl.length rw:=⟨mB.of qH,tD⟩;have hP:=zep uU nZ FA;have hhl:=zdq pl rw;refine (mr rfl (ex4 c _ _ _ ⟨rfl,rfl,mK.of hc.1,rfl,?_⟩));refine (mr rfl #[Sf])
  ·refine zaY (fun h=>absurd (of_decide_eq_true h) #[O]) (fun _=>?_);refine (mr rfl (mr rfl (ex7 c tt r p k pl rw ⟨rfl,hc,hR,#[O],fun l bs H1 xj s1 Cn hB=>?_⟩)));have yM:bs.length=#[FM].length:=hB.length;refine (mr rfl (mr rfl ⟨l,(mr rfl ⟨.inl (mB.of Cn),#[sK]⟩)⟩));rw [ae];refine zaY (fun mW=>?_) (fun AF=>?_)
   ·have mW:=of_decide_eq_true mW;refine⟨bg _,fun z hz=>q z [] [] _ (s1.free hz) (s1.trans (zd hz)) zb .nil ⟨#[M],.nil⟩ fun x=>?_⟩;have:=cW (hit p x) #[FM];constructor
    ·intro h; cases h
    ·rintro⟨_,h⟩;unfold hits at h;lia
   ·have AF:¬ T' > (bs.length:Int):=fun h=>AF (decide_eq_true h)
    obtain⟨tn,rfl⟩:∃ tn:Nat,T'=tn:=⟨T'.toNat,#[O]⟩;refine (mr rfl (mr rfl ⟨l,(mr rfl ⟨.inl (mB.of Cn),(mr rfl (mJ rfl rfl (mr rfl (mJ rfl rfl (mr rfl ⟨l,(mr rfl ⟨mB.of Cn,fun z hz=>?_⟩)⟩)))))⟩)⟩));have Jd:(#[Uo].length:Int) - (tn:Int)+(k:Int)=((bs.length - tn+k:Nat):Int):=by rw [ae]; lia
    rw [Jd,zoK,<- jI];have v1:=zd (o:=.lst ((bs.take (bs.length - tn+k)).map V.ref)) hz;have hzz:mz H1 z (.lst ((bs.take (bs.length - tn+k)).map V.ref)) z=some (.lst ((bs.take (bs.length - tn+k)).map V.ref)):=zb;have s2:=s1.trans v1;have hB2:=(hB.same v1).take (bs.length - tn+k);generalize mz H1 z (.lst ((bs.take (bs.length - tn+k)).map V.ref))=H2 at v1 hzz s2 hB2 |-;have hPt:Pts p (#[FM].take (bs.length - tn+k)):=hP.sub (cI _ _);refine (mr rfl (mr rfl (ex8 c tt z p k pl _ _ ⟨rfl,hc.same s2,mB.of hzz,hB2,by rw [aI]; lia,hp,hPt,k0,k1,znw _ (by rw [aI]; lia) #[O],fun l2 rs qs H3 pJ s3 yN hT El FC nu=>?_⟩)));have Je:=hT.length;have pj:=s2.trans s3;refine⟨l2,rfl,⟨_,mB.of yN⟩,z6 (n:=rs.length) (fun i ys H'=>zy H3 H'/\∃ us:List Addr,ys=us.map V.ref/\us.length<=i/\zaK H' us (#[Xq].filter fun x=>decide ((tn:Int)<=(hits p x #[FM]:Int)))) ⟨fun _ _ e=>e,[],rfl,ai _,.nil⟩ ?_ ?_ ?_ ?_⟩
    ·rintro i ys H4 hi ⟨s4,_⟩;exact⟨_,.ref rs[i],mB.of #[V0],by rw [ao,aF hi]; rfl⟩
    ·rintro ys H4 ⟨s4,_⟩;exact⟨_,mB.of #[V0],by rw [ae]; exact ai _⟩
    ·rintro zS zT zE i y ys H4 H5 hi ⟨s4,us,rfl,uJ,nh⟩ ⟨rfl,hy⟩;obtain⟨rb,rfl,AM⟩:=zaB (hy _ (mB.of #[V0]));obtain⟨qq,we,qF⟩:=Paired.get hT AM;have uZ:=pj.trans s4;refine (mr rfl (mr rfl (mr rfl (ex9 c tt r rb p k pl qq rw ⟨rfl,hc.same uZ,uZ _ _ qH,tD,s4 _ _ qF,#[O],#[O],nZ,#[O],fun fl H6 Bt s6 h6=>?_⟩))));refine⟨fl,(mr rfl ⟨.inl (mB.of h6),#[Sf]⟩)⟩;have ef:(#[XA].map V.int).length=hits p qq #[FM]:=by rw [ae]; exact zjp tD
     rw [ef];have AE:(qs.take (i+1)).filter (fun x=>decide ((tn:Int)<=(hits p x #[FM]:Int)))=#[Xq].filter (fun x=>decide ((tn:Int)<=(hits p x #[FM]:Int)))++[qq].filter (fun x=>decide ((tn:Int)<=(hits p x #[FM]:Int))):=by rw [take_snoc we,cD]
     refine zaY (fun h=>(mr rfl ⟨?_,s4.trans s6,us++[rb],by rw [aw]; rfl,by rw [aH]; exact fQ uJ,?_⟩)) (fun h=>⟨s4.trans s6,us,rfl,#[O],?_⟩)
     ·rw [ae]; lia
     ·rw [AE,fm (p:=fun x=>decide ((tn:Int)<=(hits p x #[FM]:Int))) h];exact cR (nh.same s6) ((s4.trans s6) _ _ qF)
     ·rw [AE,fo (p:=fun x=>decide ((tn:Int)<=(hits p x #[FM]:Int))) h,lF,cv];exact nh.same s6
    ·rintro ys H4 D ⟨s4,us,rfl,uJ,nh⟩ hD;rw [Je,bt] at nh;have uZ:=pj.trans s4;refine q D us _ _ (uZ.free hD) (uZ.trans (zd hD)) zb #[Xw] (FC.filter _) fun x=>?_
     rw [cL,nu x,decide_eq_true_iff];constructor
     ·rintro⟨⟨pk,h1,rfl⟩,h2⟩;exact⟨zjo hp hPt h1,h2⟩
     ·rintro⟨B',h2⟩;exact⟨zdg hp hP B' (t:=tn) #[O] #[O] #[O],h2⟩
theorem zd7 {c:Addr} :#[LE].lookup ("slips" : Str)=some #[W7]:=by unfold fl; rw [zaC n1,zds]
structure Lk (t:Adr) (H:Hp) (S:List Addr) (a c tt:Addr) (p:Int) (k sl:Nat) (pl:List Int) (es:Rw) (ds us:List Dt):Prop where
 L:Ls t.Kf H S a c p sl es ds us
 cd:zaH H c tt p k pl
 ln:es.length=pl.length
 n6:pl.length<=16
 pr:p∈zG
 nd:pl.Nodup
 rg:∀ x∈pl,0<=x/\x < p
 er:∀ z,some z∈es->0<=z/\z < p
 k0:1<=k
 k1:k<=3
 s4:sl<=4
noncomputable def Cb (p:Int) (k sl:Nat) (pl:List Int) (es:Rw) (qs:List #[GT]):Prop:=k+sl<=#[Vr].length/\zdQ p k qs/\∀ q,q∈qs↔IsP p k q/\((#[Vr].length:Int) - (sl:Int))<=(hits p q #[Vr]:Int)
noncomputable def zkN (t:Adr) (K:af):Sp:=fun vs H Q _=>∃ (S:List Addr) (a c tt:Addr) (p:Int) (k sl:Nat) (pl:List Int) (es:Rw) (ds us:List Dt),vs = [.ref a]/\Lk t H S a c tt p k sl pl es ds us /\
 (#[Vr].length < k+sl->∀ H',zy H H'->Q .non H')/\∀ (l:Addr) (rs:List Addr) (qs:List #[GT]) (H':Hp),H l=none->zy H H'->H' l=some #[o0]->zaK H' rs qs->Cb p k sl pl es qs->Q #[Su] H'
theorem zf3:Kg ["self","heard"] ["self"] (zi zdA):=#[S]
theorem zf4 (T:Txt K mg t) (F:Fun K "can_be" "Listener.can_be" zdA t.Og fd):Kq P w K mg base CX0 6 t.Og fd ["self"] (zkN t K):=by
 obtain⟨oI,m9,nc⟩:=T.Ko;have nR:=zcA (P:=P) (w:=w) (base:=base) T m9;obtain⟨va,rT,pR⟩:=T.LW;have wg:=zhQ (P:=P) (w:=w) (base:=base) T rT;refine F.ok zf3 #[ol] #[ac]
 ·obtain⟨S,a,c,tt,p,k,sl,pl,es,ds,us,rfl,_⟩:=h;rfl
 ·obtain⟨S,a,c,tt,p,k,sl,pl,es,ds,us,rfl,Z,q1,q2⟩:=h;obtain⟨dx,ea,da,ua,k',tt',dr,ur,eS,h1,h2,h3,h4,h5,h6,h7,h8,h9,tf⟩:=Z.L.ex;refine zaG ?_; intro zX;refine⟨_,#[ze,#[zr,1,zf3.nd,#[A],#[zt,#[zB],T.LL,bM,#[ya,#[zI,nR,#[pc],T.Lb,m9.kp,nc,#[zP],#[za,#[KK],#[ya,#[KK]]]]]]],#[ze,#[zan,#[zA,#[zcD],#[ww],#[zn,#[zae],#[zx,#[zaj],#[KK],#[zh]],#[KK]],(zF _)],#[zl,#[zJ,#[zaw]]],#[zO]],#[zl,#[zJ,#[zI,wg,#[pc],T.Oy,rT.kp,pR,#[zP],#[za,#[KK],#[za,#[KK],#[ya,#[zn,#[zbf],#[ww],#[KK]]]]]]]]]],?_⟩;refine zfi ?_; intro qD pP;have qj:=aS;have hn:=Z.n6;have hhl:=zdq pl es;refine (mr rfl (ex5 a t.Kf dx _ _ ⟨rfl,h4,T.cl,T.LK,zbM,(mr rfl (ex5 a t.Kf dx _ _ ⟨rfl,h4,T.cl,T.Kj,zV,c,tt,ea,p,k,pl,es,rfl,Z.cd,⟨mB.of h5,Z.ln⟩,#[O],fun l bs H1 xj s1 Cn hB=>?_⟩))⟩));have yM:bs.length=#[Vr].length:=hB.length;have yU:=Z.cd.same s1;refine⟨l,(mr rfl ⟨.inl (mB.of Cn),?_⟩)⟩;rw [ae,yM];refine (mr rfl (mr rfl (ex5 a t.Kf dx _ _ ⟨rfl,s1 _ _ h4,T.cl,T.LK,zbM,c,_,_,_,rfl,rfl,mK.of yU.1,rfl,(mr rfl (ex5 a t.Kf dx _ _ ⟨rfl,s1 _ _ h4,T.cl,T.MZ,zd7,(mJ rfl rfl #[sK])⟩))⟩)));refine zaY (fun h=>q1 (by have:=of_decide_eq_true h; lia) H1 s1) #[SQ];have AF:k+sl<=#[Vr].length:=by
   refine ir fun z=>h (decide_eq_true ?_)
   lia
  refine (mr rfl (ex5 a t.Kf dx _ _ ⟨rfl,s1 _ _ h4,T.cl,T.LK,zbM,(mr rfl (ex5 a t.Kf dx _ _ ⟨rfl,s1 _ _ h4,T.cl,T.Kj,zV,(mr rfl (mr rfl (ex5 a t.Kf dx _ _ ⟨rfl,s1 _ _ h4,T.cl,T.MZ,zd7,(mJ rfl rfl (ex8 c tt ea p k ((#[Vr].length:Int) - (sl:Int)) pl es ⟨rfl,yU,s1 _ _ h5,Z.ln,hn,Z.pr,Z.nd,Z.rg,Z.er,Z.k0,(by have:=Z.k1; lia),#[O],Z.k1,(by have:=Z.s4; lia),fun l2 rs qs H2 pJ s2 h2 hT hR hm=>?_⟩))⟩)))⟩))⟩));exact q2 l2 rs qs H2 (s1.free pJ) #[Xb] h2 hT ⟨AF,hR,hm⟩
theorem zdR:Kg ["code","row","polynomial","places","some"] ["code","row","polynomial"] (zi zcb):=#[S]
theorem zkO (T:Txt K mg t) (F:Fun K "_law_fits" "_law_fits" zcb t.Ob fd):Kq P w K mg base CX0 2 t.Ob fd ["code","row","polynomial"] (zj5 K):=by
 obtain⟨pQ,ng,nr⟩:=T.K2;have nO:=zdh (P:=P) (w:=w) (base:=base) T ng;refine F.ok zdR #[ol] #[ac]
 ·obtain⟨c,tt,ra,po,p,k,pl,m7,rw,rfl,_⟩:=h;rfl
 ·obtain⟨c,tt,ra,po,p,k,pl,m7,rw,rfl,hc,qH,tD,IV,p0,p1,nZ,hn,q⟩:=h;refine zaG ?_; intro zX;refine⟨_,#[ze,#[zr,3,zdR.nd,#[U9],#[Ua]],#[ze,#[zaz,4,zdR.nd,#[A],(Ki.of (N':=["number","row"]) (ix:=[none,some 1]) (zi zcb) _ rfl rfl rfl),#[zay],#[zap,T.Kz,#[ya,#[Q0]]],#[ut],#[U8],#[Rk]],#[zl,#[zJ,#[zaQ,(Ki.of (N':=["number","code","polynomial","places","row"]) (ix:=[none,some 0,some 2,some 3,some 1]) (zi zcb) _ rfl rfl rfl),#[zay],#[zao,#[TJ]],#[ut],(fun _ _ _ _=>#[zaZ,#[zA,#[zaX],#[zI,nO,#[pc],T.Lw,ng.kp,nr,#[zP],#[za,#[FB],#[za,#[QT],#[ya,#[zx,#[zaI,(K)],#[Rn],#[wn]]]]]],#[zx,#[Xn],#[TJ],#[wn]],(zF _)]]),#[Rk]]]]]],?_⟩;refine zfi ?_; intro qD pP;refine (mr rfl (ex4 c _ _ _ ⟨rfl,rfl,mK.of hc.1,rfl,?_⟩));refine (mr rfl ⟨ra,(mr rfl ⟨.inl (mB.of qH),(mr rfl ⟨by rw [ae]; lia,by rw [ae]; lia,?_⟩)⟩)⟩);rw [ae,a8];refine z6 (n:=rw.length) (fun i ys H'=>ys=(zal rw i).map V.int/\H'=H) ⟨rfl,rfl⟩ #[Sg] #[RJ] ?_ ?_
  ·rintro zS zT zE i xx ys H4 H5 hi ⟨rfl,rfl⟩ ⟨rfl,rfl⟩;obtain⟨o,ho⟩:∃ o,rw[i]? = some o:=⟨rw[i]'#[O],#[M]⟩;have qF:atI (rw.map mM) (0+(i:Int))=some (mM o):=by
    rw [eA];exact zab (by rw [ao,ho]; rfl)
   refine (mr rfl (mr rfl (ex4 ra _ _ _ ⟨rfl,rfl,mB.of qH,qF,rfl,#[Db]⟩)));have hl:=zbD rw i;rw [zde,ho,aw];refine zaY (fun h1=>(mr rfl ⟨zaA (by rw [ae]; lia),?_,rfl⟩)) (fun h1=>⟨?_,rfl⟩)
   ·cases o with
    | none=>exact absurd h1 (by simp [mM])
    | some z=>rw [eA]; rfl
   ·cases o with
    | none=>simp
    | some z=>exact absurd (by simp [mM]) h1
  ·rintro ys H4 D ⟨rfl,rfl⟩ hD;have sD:=zd (o:=.lst (#[Fa].map V.int)) hD;have Du:mz H4 D (.lst (#[Fa].map V.int)) D=some (.lst (#[Fa].map V.int)):=zb;generalize mz H4 D (.lst (#[Fa].map V.int))=H5 at sD Du |-;have qj:=zbD rw rw.length;refine (mr rfl ⟨D,rfl,⟨_,mB.of Du⟩,zj4 (K:=K) (xs:=#[Fa].map V.int) (kp:=zoq p pl rw m7) (f:=id) (mB.of Du) (by rw [ae]; lia) ?_ ?_⟩)
   ·intro j xx R B hx hR;obtain⟨z,rfl,hz⟩:=zaJ hx;obtain⟨m,rfl,hm⟩:=zj8 (aP hz);obtain⟨o,ho⟩:∃ o,rw[m]? = some o:=⟨rw[m]'#[O],#[M]⟩;obtain⟨x,hx⟩:∃ x,pl[m]? = some x:=⟨pl[m]'#[O],#[M]⟩;obtain⟨x0,x1⟩:=nZ x (aP hx);refine (mr rfl (ex4 c _ _ _ ⟨rfl,rfl,mK.of (sD _ _ hc.1),rfl,(mr rfl (mr rfl (mr rfl (ex4 tt _ _ #[Xm] ⟨rfl,rfl,mK.of (sD _ _ hc.2),zab (by rw [ao,hx]; rfl),p,x,po,m7,rfl,.inr (mK.of (sD _ _ IV)),p0,p1,x0,x1,(mr rfl (mr rfl (ex4 ra _ _ (mM o) ⟨rfl,rfl,mB.of (sD _ _ qH),zab (by rw [ao,ho]; rfl),zj6 o _,#[Db]⟩)))⟩))))⟩));have e:zoq p pl rw m7 (.int (m:Int))=decide (V.int (zw p x m7)=mM o):=by
     show zcz p pl rw m7 ((m:Int)).toNat=_;rw [a8,zhe hx ho];exact decide_eq_decide.mpr ⟨fun e=>e.symm,fun e=>e.symm⟩
    rw [e] at hR;refine zaY (fun h1=>#[Db]) (fun h1=>?_)
    ·rw [if_pos h1] at hR;exact hR
    ·rw [if_neg h1] at hR;exact hR
   ·intro D2 GO;refine q D2 _ (sD.free GO) (sD.trans (zd GO)) ?_;rw [zb,zj7,tD]
theorem zms (xs:List V) (i:Nat):zdb xs (some (i:Int)) none=xs.drop i:=by
 unfold zdb;rw [HT.OS,HT.NZ];by_cases h:i<=xs.length
 ·rw [lC h];exact bj (by rw [cB]; exact ai _)
 ·rw [Nat.min_eq_right #[O],jc (ai _),jc #[O]];simp
theorem zbE:Kg ["some","many","found","at"] ["some","many"] (zi zbd):=#[S]
theorem zc4:∀ (m:Nat) {fd:FuncData} (T:Txt K mg t) (F:Fun K "_law_choices" "_law_choices" zbd t.KA fd),Kq P w K mg base CX0 (m+1) t.KA fd ["some","many"] (zl3 K m):=by
 intro m;induction m with
 | zero=>exact fun {fd} T F=>F.ok zbE (fun vs H Q E h=>h.elim) (fun mV A outer s H vs Q E hr h=>h.elim)
 | succ m ih =>
  intro fd T F;obtain⟨qp,nJ,nK⟩:=T.KI;have oX:=ih T nJ;refine F.ok zbE #[ol] #[ac]
  ·obtain⟨a,ns,rfl,_⟩:=h;rfl
  obtain⟨a,ns,rfl,hS,hn,hm,q⟩:=h;refine⟨_,#[ze,#[zan,#[zA,#[zaX],#[ww],#[zh],(zF _)],#[zl,#[zJ,#[zK,#[ya,#[Sy]]]]],#[zO]],#[ze,#[zr,2,zbE.nd,#[A],#[Sy]],#[ze,#[za6,bD,#[zap,T.Kz,#[ya,#[Sr]]],#[zm,3,zbE.nd,#[U9]],#[zl,#[za2,#[zcZ,bv,iF,iG,#[zfG],#[QT],#[ya,#[zaQ,(Ki.of (N':=["one","some","at"]) (ix:=[none,some 0,some 3]) (zi zbd) _ rfl rfl rfl),#[zay],#[zao,#[zI,oX,(hr.mono (ai _)),T.Mo,nJ.kp,nK,#[zP],#[za,#[zdj,zei,#[wn],#[zeh,#[zn,#[zae],#[Rn],#[zh]]],#[zeg]],#[ya,#[zn,#[zbf],#[ww],#[zh]]]]]],#[ut],#[wP],(fun _ _ _ _=>#[zn,#[zb1],#[zK,#[ya,#[zx,#[Xn],#[ww],#[QT]]]],#[wn]])]]]]]],#[zl,#[zJ,#[QT]]]]]],?_⟩;have qj:=aS;have r0:zy H H:=fun _ _ e=>e
  refine⟨_,rfl,rfl,_,rfl,zaY (fun h0=>?_) (fun h0=>?_)⟩
  ·have h0:(m:Int)=0:=by
    have:=of_decide_eq_true h0;injection this
   have h0:m=0:=by lia
   subst h0;refine⟨bg _,fun L0 IW=>⟨by show 1<=sizeLine; lia,fun l hl=>?_⟩⟩;have u0:=zd (o:=.lst []) IW;refine q l [L0] [[]] _ (u0.free hl) (u0.trans (zd hl)) zb (.cons ((zd hl) _ _ zb) .nil) (Nat.one_le_two_pow) fun c=>?_
   rw [aW,cp];exact⟨fun e=>by subst e; exact⟨fU _,rfl⟩,fun e=>e.2⟩
  ·have h0:m≠0:=fun z=>h0 (decide_eq_true (by rw [z]; rfl))
   cases m with
   | zero=>exact absurd rfl h0
   | succ m =>
   refine⟨bg _,fun D hD=>?_⟩;have s0:=zd (o:=.lst []) hD;have h2n:2 ^ ns.length<=65536:=bn (dH #[D] hn) #[D];refine⟨_,rfl,a,_,rfl,.inl (s0.seq hS),_,rfl,by rw [ae]; lia,by rw [ae]; lia,?_⟩;rw [ae,a8];refine zbI (lo:=0) (n:=ns.length) (fun i σ H'=>∃ (e3:Option V) (ls:List Addr) (cs:List #[GT]),σ = [some #[Rf],some (.int ((m+1:Nat):Int)),some #[QV],e3]/\zy H H'/\H' D=some #[VC]/\zkm (hide H' D) ls cs/\cs.length+2 ^ (ns.length - i)<=2 ^ ns.length /\
    ∀ c,c∈cs↔∃ (j:Nat) (x:Int) (c':List Int),j < i/\ns[j]? = some x/\c=x :: c'/\c'.Sublist (ns.drop (j+1))/\c'.length=m)
    ⟨none,[],[],rfl,s0,zb,.nil,#[M],fun c=>by simp⟩ ?_ ?_
   ·rintro zD zT i σ H1 hi ⟨e3,ls,cs,rfl,s1,GZ,hI,mS,nu⟩;have B5:=hI.length;obtain⟨x,hx⟩:∃ x,ns[i]? = some x:=⟨ns[i]'hi,#[M]⟩;have Jf:atI #[wS] (0+(i:Int))=some #[Xm]:=by rw [eA]; exact zab (by rw [ao,hx]; rfl)
    have em:((m+1:Nat):Int) - 1=(m:Int):=by lia
    have ec:(0+(i:Int))+1=((i+1:Nat):Int):=by lia
    have hSa:=s1.seq hS;refine⟨_,rfl,.inl ⟨rfl,_,mB.of GZ⟩,_,rfl,_,rfl,_,_,rfl,rfl,_,rfl,a,_,rfl,hSa,fun z hz=>?_⟩;rw [ec,zms,<- lV];have v1:=zd (o:=.lst ((ns.drop (i+1)).map V.int)) hz;refine⟨_,rfl,_,_,rfl,rfl,z,ns.drop (i+1),by show [V.ref z,V.int (((m+1:Nat):Int) - 1)]=_; rw [em],mB.of zb,by rw [cB]; lia,#[O],fun l ls' cs' H3 hl s3 yN hI' FD yV=>?_⟩;have pj:=v1.trans s3;have GY:=pj _ _ GZ;have Jg:=hI'.length;rw [cB] at FD;have hpow:2 ^ (ns.length - i)=2*2 ^ (ns.length - (i+1)):=by
     have:ns.length - i=ns.length - (i+1)+1:=by lia
     rw [this,iC];lia
    refine⟨l,rfl,⟨_,mB.of yN⟩,z6 (n:=ls'.length) (fun j ys H'=>zy H3 H'/\∃ us:List Addr,ys=us.map V.ref/\zkm (hide H' D) us ((cs'.take j).map (x :: ·))) ⟨fun _ _ e=>e,[],rfl,.nil⟩ ?_ ?_ ?_ ?_⟩
    ·rintro j ys H4 hj ⟨s4,_⟩;exact⟨_,.ref ls'[j],mB.of #[V0],by rw [ao,aF hj]; rfl⟩
    ·rintro ys H4 ⟨s4,_⟩;exact⟨_,mB.of #[V0],by rw [ae]; exact ai _⟩
    ·rintro zS zT zE j y ys H4 H5 hj ⟨s4,us,rfl,nh⟩ ⟨rfl,hy⟩;obtain⟨lo,rfl,yl⟩:=zaB (hy _ (mB.of #[V0]));obtain⟨c',mQ,hlc⟩:=Paired.get hI' yl;have II:=(yV c').mp (aP mQ);have uJ:=nh.length;rw [ae,aI] at uJ;refine gY ⟨_,rfl,_,rfl,a,_,_,.int x,rfl,rfl,(pj.trans s4).seq hSa,Jf,by show 1<=sizeLine; lia,fun b hb=>?_⟩;have v5:=zd (o:=.lst [.int x]) hb;refine⟨_,rfl,b,lo,[.int x],c'.map V.int,rfl,rfl,zb,v5 _ _ (s4 _ _ hlc),by rw [ae,II.2]; show 1+m<=sizeLine; lia,fun l2 pJ=>⟨by rw [ae]; lia,s4.trans (v5.trans (zd pJ)),us++[l2],by rw [aw]; rfl,?_⟩⟩;rw [take_snoc mQ,aw];have Jh:l2≠D:=fun e=>by
      rw [e,v5 _ _ (s4 _ _ GY)] at pJ;cases pJ
     refine cR (nh.same (zbc (v5.trans (zd pJ)))) (za3 ?_ Jh);rw [zb];rfl
    ·rintro ys H4 Dc ⟨s4,us,rfl,nh⟩ G3;rw [Jg,bt] at nh;have uJ:=nh.length;rw [ae] at uJ;have v6:=zd (o:=.lst #[Wl]) G3;have Dv:=s4 _ _ GY;have Du:D≠Dc:=zj Dv G3;refine⟨D,Dc,ls.map V.ref,us.map V.ref,rfl,rfl,v6 _ _ Dv,zb,by rw [ae,ae]; lia,?_⟩;refine⟨_,ls++us,cs++cs'.map (x :: ·),rfl,?_,?_,?_,?_,fun c=>?_⟩
     ·exact zaR (s1.trans (pj.trans #[Xa])) hD
     ·rw [zb,aw]
     ·rw [zeM];have t1:zy (hide H1 D) (hide (mz H4 Dc #[RO]) D):=zbc (pj.trans #[Xa]);have t2:zy (hide H4 D) (hide (mz H4 Dc #[RO]) D):=zbc v6;exact zb4 (hI.same t1) (nh.same t2)
     ·rw [aH,ae];lia
     ·rw [aC,nu c,aZ];constructor
      ·rintro (⟨j,x',c',h1,h2,h3,h4,h5⟩ | ⟨c',h1,rfl⟩)
       ·exact⟨j,x',c',#[O],h2,h3,h4,h5⟩
       ·obtain⟨h2,h3⟩:=(yV c').mp h1;exact⟨i,x,c',#[O],hx,rfl,h2,h3⟩
      ·rintro⟨j,x',c',h1,h2,h3,h4,h5⟩;by_cases hj:j < i
       ·exact .inl ⟨j,x',c',hj,h2,h3,h4,h5⟩
       ·have:j=i:=by lia
        subst this;rw [hx] at h2;cases h2;exact .inr ⟨c',(yV c').mpr ⟨h4,h5⟩,h3.symm⟩
   ·rintro σ H1 ⟨e3,ls,cs,rfl,s1,GZ,hI,mS,nu⟩;refine⟨_,rfl,q D ls cs H1 hD s1 GZ (hI.same (zcH H1 D)) (bn (iw _ _) mS) fun c=>?_⟩;rw [nu c,zkn]
theorem zce:Kg ["p","k","found","step","longer","one"] ["p","k"] (zi zdu):=#[S]
theorem zmt (T:Txt K mg t) (F:Fun K "_law_all" "_law_all" zdu t.Py fd):Kq P w K mg base CX0 1 t.Py fd ["p","k"] (zl6 K):=by
 refine F.ok zce #[ol] #[ac]
 ·obtain⟨p,k,rfl,_⟩:=h;rfl
 ·obtain⟨p,k,rfl,p0,p1,hk,q⟩:=h;refine zaG ?_; intro zX;refine⟨_,#[ze,#[zr,2,zce.nd,#[A],#[zK,#[ya,#[zaf,#[zf]]]]],#[ze,#[za6,bD,#[zap,T.Kz,#[RT]],#[zm,3,zce.nd,#[A]],#[ze,#[zr,4,zce.nd,#[A],#[Sy]],#[ze,#[za6,bD,#[zao,#[QT]],#[zm,5,zce.nd,#[U9]],#[zl,#[za2,#[zcZ,bv,iF,iG,#[zfG],#[TJ],#[ya,#[zaQ,(Ki.of (N':=["number","one"]) (ix:=[none,some 5]) (zi zdu) _ rfl rfl rfl),#[zay],#[zap,T.Kz,#[ya,#[wn]]],#[ut],#[wP],(fun _ _ _ _=>#[zn,(@zkp _ (K) rfl),#[ww],#[zaf,#[ya,#[wn]]]])]]]]]],#[zl,#[zr,2,zce.nd,#[A],#[TJ]]]]]],#[zl,#[zJ,#[QT]]]]],?_⟩;refine zfi ?_; intro qD pP;have qj:=aS;refine⟨bg _,fun E0 hE0=>⟨by show 1<=sizeLine; lia,fun c hc=>?_⟩⟩;have u0:=zd (o:=.tup []) hE0;have u1:=zd (o:=.lst [.ref E0]) hc;refine (mr rfl (mr rfl ⟨#[O],#[O],?_⟩));rw [a8];refine zbI (lo:=0) (n:=k) (fun i σ H'=>∃ (f:Addr) (rs:List Addr) (qs:List #[GT]) (e3 e4 e5:Option V),σ = [some #[Wg],some (.int k),some #[R7],e3,e4,e5]/\H f=none/\zy H H'/\H' f=some #[o0]/\zaK H' rs qs/\qs.length<=97 ^ i/\∀ x,x∈qs↔IsP p i x)
   ⟨c,[E0],[[]],none,none,none,rfl,u0.free hc,u0.trans u1,zb,.cons (u1 _ _ zb) .nil,ai _,fun x=>?_⟩ ?_ ?_
  ·rw [aW];exact⟨fun e=>by subst e; exact⟨rfl,#[M]⟩,fun e=>cp.mp e.1⟩
  ·rintro zD zT i σ H1 hi ⟨f,rs,qs,e3,e4,e5,rfl,hf,s1,FE,hT,El,nu⟩;have tD:=hT.length;have Fp:97 ^ i<=97 ^ 1:=dH #[D] #[O];have Ji:97 ^ (i+1)=97 ^ i*97:=iC ..;refine⟨bg _,fun D hD=>?_⟩;have s0:=zd (o:=.lst []) hD;have hfD:f≠D:=zj FE hD;refine⟨_,rfl,f,rfl,⟨_,mB.of (s0 _ _ FE)⟩,zba (K:=K) (a:=f) (xs:=rs.map V.ref) (fun j σ H'=>∃ (us:List Addr) (e3 e5:Option V),σ = [some #[Wg],some (.int k),some #[R7],e3,some #[QV],e5]/\zy H1 H'/\H' D=some #[RO]/\zaK (hide H' D) us ((qs.take j).flatMap (zd4 p)))
    ⟨[],_,_,rfl,s0,zb,.nil⟩ (fun j σ H' _ hq=>by obtain⟨_,_,_,_,s3,_⟩:=hq; exact (mB.of (s3 _ _ FE))) ?_ ?_⟩
   ·rintro zD zT j y σ H2 hy ⟨us,e3,e5,rfl,s2,Bw,nh⟩;obtain⟨ob,rfl,HZ⟩:=zaB hy;obtain⟨qq,we,qF⟩:=Paired.get hT HZ;have uJ:=nh.length;rw [zdr,aI] at uJ;have hjl:j < qs.length:=(aj.mp we).1;have hqi:qq.length=i:=((nu qq).mp (aP we)).1;have hfp:=zdr (p:=p) qs;have yE:((qs.take j).length)*p.toNat<=97*97:=lM (by rw [aI]; lia) #[O];rw [aI] at yE;refine (mr rfl ⟨.inl ⟨rfl,_,mB.of Bw⟩,(mr rfl ⟨p,rfl,#[O],#[O],z6 (n:=p.toNat) (fun m ys H'=>zy H2 H'/\∃ vs:List Addr,ys=vs.map V.ref/\zaK (hide H' D) vs ((bd m).map fun n:Nat=>qq++[(n:Int)])) ⟨fun _ _ e=>e,[],rfl,.nil⟩ (fun m ys H' hm _=>hm) #[RJ] ?_ ?_⟩)⟩)
    ·rintro zS zT zE m y ys H4 H5 hm ⟨s4,vs,rfl,Em⟩ ⟨rfl,rfl⟩;have Gn:=Em.length;rw [ae,cg] at Gn;have Dv:=s4 _ _ Bw;have AW:(vs.map V.ref).length < sizeLine:=by rw [ae]; lia
     have Jj:=(s2.trans s4) _ _ qF;have z0:(0:Int)+(m:Int)=(m:Int):=by lia
     refine gY (mr rfl (mr rfl ⟨by show 1<=sizeLine; lia,fun tb Jk=>?_⟩));have v5:=zd (o:=.tup [.int (0+(m:Int))]) Jk;have htD:tb≠D:=fun e=>by rw [e,Dv] at Jk; cases Jk
     refine (ex4 ob tb (qq.map V.int) ([.int (0+(m:Int))]) ⟨rfl,rfl,mK.of (v5 _ _ Jj),mK.of zb,#[M],by rw [ae]; show qq.length+1<=sizeLine; lia,fun hx=>?_,fun hx r rL=>?_⟩)
     ·refine⟨AW,s4.trans v5,vs++[tb],by rw [aw]; rfl,?_⟩;rw [eR,aw];refine cR (Em.same (zbc v5)) (za3 ?_ htD);rw [zb,aw,hx,z0];rfl
     ·have v6:=zd (o:=.tup (qq.map V.int++[.int (0+(m:Int))])) rL;have hrD:r≠D:=fun e=>by rw [e,v5 _ _ Dv] at rL; cases rL
      refine⟨AW,s4.trans (v5.trans v6),vs++[r],by rw [aw]; rfl,?_⟩;rw [eR,aw];refine cR (Em.same (zbc (v5.trans v6))) (za3 ?_ hrD);rw [zb,aw,z0];rfl
    ·rintro ys H4 Dc ⟨s4,vs,rfl,Em⟩ G3;have v6:=zd (o:=.lst (vs.map V.ref)) G3;have Dv:=s4 _ _ Bw;have Gn:=Em.length;rw [ae,cg] at Gn;refine (ex4 D Dc #[Wl] (vs.map V.ref) ⟨rfl,rfl,v6 _ _ Dv,zb,by rw [ae,ae]; lia,?_⟩);refine (ex3 (us++vs) _ _ ⟨rfl,zaR (s2.trans #[Xa]) hD,by rw [zb,aw],?_⟩);rw [zeM,zfY we];exact zb4 (nh.same (zbc #[Xa])) (Em.same (zbc v6))
   ·rintro σ H2 ⟨us,e3,e5,rfl,s2,Bw,nh⟩;rw [ae,tD,bt] at nh;refine (mr rfl (ex6 D us _ _ _ _ ⟨rfl,s1.free hD,s1.trans s2,Bw,nh.same (zcH H2 D),?_,zl5 nu⟩));rw [zdr,Ji];exact lM El #[O]
  ·rintro σ H1 ⟨f,rs,qs,e3,e4,e5,rfl,hf,s1,FE,hT,El,nu⟩;have Fp:97 ^ k<=97 ^ 2:=dH #[D] hk;exact (mr rfl (q f rs qs H1 hf s1 FE hT #[O] nu))
noncomputable def zgM (K:af):Sp:=fun vs H Q E=>∃ m,m<=5/\zl3 K (m+1) vs H Q E
theorem zgN (T:Txt K mg t) (F:Fun K "_law_choices" "_law_choices" zbd t.KA fd):Kq P w K mg base CX0 7 t.KA fd ["some","many"] (zgM K) :=
 ⟨fun vs H Q E ⟨m,_,h⟩=>#[XB].len vs H Q E h,fun A outer s H args us vs Q E hr he hb hv ⟨m,hm,h⟩=>#[XB].run A outer s H args us vs Q E (hr.mono #[O]) he hb hv h⟩
noncomputable def zny (K:af):Sp:=fun vs H Q _=>∃ (c tt r:Addr) (p:Int) (k:Nat) (T:Int) (pl:List Int) (rw:List #[Ch]),vs = [.ref c,.ref r,.int T]/\zaH H c tt p k pl/\H r=some #[UQ]/\rw.length=pl.length/\pl.length<=16/\p∈zG/\pl.Nodup/\(∀ x∈pl,0<=x/\x < p)/\(∀ z,some z∈rw->0<=z/\z < p)/\1<=k/\k<=5/\(k:Int)<=T/\k<=3/\(∃ sl:Nat,sl<=4/\T=(#[FM].length:Int) - (sl:Int)/\k+sl<=#[FM].length) /\
 ∀ (l:Addr) (rs:List Addr) (qs:List #[GT]) (H':Hp),H l=none->zy H H'->H' l=some #[o0]->zaK H' rs qs->zdQ p k qs->(∀ q,q∈qs↔IsP p k q/\T<=(hits p q #[FM]:Int))->Q #[Su] H'
theorem zaE:Kg ["code","row","t","p","k","places","some","ones","choice","known","one"] ["code","row","t"] (zi zbz):=#[S]
theorem zkP (T:Txt K mg t) (F:Fun K "_law_near" "_law_near" zbz t.Nt fd):Kq P w K mg base CX0 8 t.Nt fd ["code","row","t"] (zny K):=by
 obtain⟨yW,xa,uq⟩:=T.NF;have Bz:=zmt (P:=P) (w:=w) (base:=base) T xa;obtain⟨qp,nJ,nK⟩:=T.KI;have oX:=zgN (P:=P) (w:=w) (base:=base) T nJ;obtain⟨uv,rj,oY⟩:=T.Ll;have vb:=zgB (P:=P) (w:=w) (base:=base) T rj;obtain⟨xw,vc,rV⟩:=T.Na;have yX:=zkO (P:=P) (w:=w) (base:=base) T vc;refine F.ok zaE #[ol] #[ac]
 ·obtain⟨c,tt,r,p,k,T',pl,rw,rfl,_⟩:=h;rfl
 ·obtain⟨c,tt,r,p,k,T',pl,rw,rfl,hc,qH,tD,hn,hp,uU,nZ,FA,k0,k1,hkT,k3,ye,q⟩:=h;have hu:(A.deeper (envOfC (bL "_law_near") (zi zbz) s.heap.objs.size t.Nt mV)).units+1 < cLine:=by have:=hr.units; lia
  refine zaG ?_; intro zX;refine⟨_,#[ze,#[za5,#[wn],#[zbe,#[zq,#[zm,3,zaE.nd,#[A]],#[zq,#[zm,4,zaE.nd,#[A]],#[zq,#[zm,5,zaE.nd,#[U9]],#[zY]]]]]],#[ze,#[zaz,6,zaE.nd,#[A],(Ki.of (N':=["number","row"]) (ix:=[none,some 1]) (zi zbz) _ rfl rfl rfl),#[zay],#[zap,T.Kz,#[ya,#[Q0]]],#[ut],#[U8],#[Rk]],#[ze,(zeW #[zan,(@PW.pt _ _ _ #[zc7,#[zA,#[zcD],#[TJ],#[zh],(zF _)],#[zch,#[zA,#[zcD],#[Rn],#[zh],(zF _)]]]),#[zl,#[zr,7,zaE.nd,#[A],#[zI,Bz,#[pc],T.Qa,xa.kp,uq,#[zP],#[V8]]]],#[ze,#[zr,7,zaE.nd,#[A],#[Sy]],#[zl,#[za6,bD,#[zao,#[zI,oX,#[pc],T.Mo,nJ.kp,nK,#[zP],#[za,#[pvx,6],#[Q4]]]],#[zm,8,zaE.nd,#[A]],#[zl,#[za2,#[zcZ,bv,de,df,#[zb7],#[pvx,7],#[ya,#[zI,vb,#[pc],T.NB,rj.kp,oY,#[zP],#[za,#[Rn],#[ya,#[zaQ,(Ki.of (N':=["number","places","row"]) (ix:=[none,some 5,some 1]) (zi zbz) _ rfl rfl rfl),#[zay],#[zao,#[Vo]],#[ut],#[wP],(fun _ _ _ _=>#[zaf,#[za,#[zx,#[zaI,(K)],#[ww],#[wn]],#[ya,#[zx,#[Xn],#[QT],#[wn]]]]])]]]]]]]]]]]]),#[ze,#[zr,9,zaE.nd,#[A],#[zhn]],#[ze,#[za6,bD,#[zao,#[pvx,7]],#[zm,10,zaE.nd,#[A]],#[zl,#[zja,hu,#[Vn],#[pvx,10],#[zdS]]]],#[zl,#[zJ,#[zt,(@zfb _),T.Nz,kP,#[ya,#[zaQ,(Ki.of (N':=["one","code","row","t"]) (ix:=[none,some 0,some 1,some 2]) (zi zbz) _ rfl rfl rfl),#[zay],(@zpw _ _ _ _ #[Vn]),#[ut],(fun _ _ _ _=>#[zaZ,#[zA,#[zlc],#[zt,#[za0,(K)],T.LL,bM,#[ya,#[zI,yX,#[pc],T.Pt,vc.kp,rV,#[zP],#[za,#[ww],#[za,#[QT],#[ya,#[wn]]]]]]],#[Rn],(zF _)]]),#[Rk]]]]]]]]]]],?_⟩;refine zoa ?_; intro C8 Bn uI qD pP;have qj:=aS;have rp:=zQ hp;have hP:=zep uU nZ FA;refine⟨_,rfl,c,_,rfl,mK.of hc.1,rfl,_,_,rfl,_,_,rfl,_,_,rfl,rfl,?_⟩;refine (mr rfl ⟨r,(mr rfl ⟨.inl (mB.of qH),(mr rfl ⟨by rw [ae]; lia,by rw [ae]; lia,?_⟩)⟩)⟩);rw [ae,a8];refine z6 (n:=rw.length) (fun i ys H'=>ys=(zal rw i).map V.int/\H'=H) ⟨rfl,rfl⟩ #[Sg] #[RJ] ?_ ?_
  ·rintro zS zT zE i xx ys H4 H5 hi ⟨rfl,rfl⟩ ⟨rfl,rfl⟩;obtain⟨o,ho⟩:∃ o,rw[i]? = some o:=⟨rw[i]'#[O],#[M]⟩;have qF:atI (rw.map mM) (0+(i:Int))=some (mM o):=by
    rw [eA];exact zab (by rw [ao,ho]; rfl)
   refine (mr rfl (mr rfl (ex4 r _ _ _ ⟨rfl,rfl,mB.of qH,qF,rfl,#[Db]⟩)));have hl:=zbD rw i;rw [zde,ho,aw];refine zaY (fun h1=>(mr rfl ⟨zaA (by rw [ae]; lia),?_,rfl⟩)) (fun h1=>⟨?_,rfl⟩)
   ·cases o with
    | none=>exact absurd h1 (by simp [mM])
    | some z=>rw [eA]; rfl
   ·cases o with
    | none=>simp
    | some z=>exact absurd (by simp [mM]) h1
  rintro ys H4 D ⟨rfl,rfl⟩ hD;have sD:=zd (o:=.lst (#[Fa].map V.int)) hD;have Du:mz H4 D (.lst (#[Fa].map V.int)) D=some (.lst (#[Fa].map V.int)):=zb;generalize mz H4 D (.lst (#[Fa].map V.int))=H5 at sD Du |-;have hsl':=zbD rw rw.length;have hc5:=hc.same sD;have hr5:=sD _ _ qH;refine⟨fun σ H'=>∃ (o:Addr) (rs:List Addr) (qs:List #[GT]) (e8:Option V),σ = [some #[UX],some (.ref r),some (.int T'),some #[Wg],some (.int k),some (.ref tt),some #[QV],some (.ref o),e8,none,none]/\zy H5 H'/\H' o=some #[o0]/\zaK H' rs qs/\qs.length<=65536/\(∀ x∈qs,IsP p k x)/\∀ x,IsP p k x->T'<=(hits p x #[FM]:Int)->x∈qs,?_,?_⟩
  ·refine (mr rfl (mJ rfl rfl (mr rfl (zaY (fun h1=>(mr rfl (mJ rfl rfl (mr rfl (zaY (fun h2=>?_) (fun h2=>?_)))))) (fun h1=>zaP ?_)))))
   ·have h1:=of_decide_eq_true h1;refine (mr rfl (mr rfl ⟨p,k,rfl,#[O],#[O],#[O],fun l rs qs H6 hl s6 h6 hT El nu=>?_⟩));exact (ex4 l rs qs _ ⟨rfl,s6,h6,hT,#[O],fun x hx=>(nu x).mp hx,fun x hx _=>(nu x).mpr hx⟩)
   all_goals
    refine⟨bg _,fun o ho=>?_⟩;have u0:=zd (o:=.lst []) ho;have Jl:mz H5 o (.lst []) o=some (.lst []):=zb;generalize mz H5 o (.lst [])=H5a at u0 Jl |-;refine⟨_,rfl,_,rfl,k,k1,D,zal rw rw.length,rfl,mB.of (u0 _ _ Du),#[O],#[O],fun l ls cs H6 hl s6 h6l hI mS nu=>?_⟩;have yl:l≠o:=fun e=>by rw [e,Jl] at hl; cases hl
    have FF:=s6 _ _ Jl;have B5:=hI.length;have h2n:2 ^ #[Fa].length<=65536:=bn (dH #[D] (show #[Fa].length<=16 by lia)) #[D];have s56:zy H5 (hide H6 o):=fun b u e=>za3 ((u0.trans s6) _ _ e) (zj e ho)
    refine⟨l,rfl,⟨_,mB.of h6l⟩,zba (K:=K) (a:=l) (xs:=ls.map V.ref) (fun i σ H'=>∃ (rs:List Addr) (e8:Option V),σ = [some #[UX],some (.ref r),some (.int T'),some #[Wg],some (.int k),some (.ref tt),some #[QV],some (.ref o),e8,none,none]/\zy (hide H6 o) H'/\H' o=some #[o0]/\zaK (hide H' o) rs ((cs.take i).map fun ch=>thr p (ch.map #[VZ])))
     ⟨[],_,rfl,zcH H6 o,FF,.nil⟩ (fun i σ H' _ hq=>by obtain⟨_,_,_,s3,_⟩:=hq; exact (mB.of (s3 _ _ (za3 h6l yl)))) ?_ ?_⟩
    ·rintro zD zT i y σ H2 hy ⟨rs,e8,rfl,s2,G4,Bs⟩;obtain⟨lo,rfl,C4⟩:=zaB hy;obtain⟨ch,qe,qF⟩:=Paired.get hI C4;obtain⟨rK,tu⟩:=(nu ch).mp (aP qe);have Jm:lo≠o:=fun e=>by
      rw [e,FF] at qF;injection qF with qF
      injection qF with qF
      cases ch with
      | nil=>simp at tu; lia
      | cons _ _=>simp at qF
     have BA:=s2 _ _ (za3 qF Jm);have s52:=s56.trans s2;have Jo:=Bs.length;rw [ae,aI] at Jo;have hil2:i < cs.length:=(aj.mp qe).1;refine (mr rfl ⟨.inl ⟨rfl,_,mB.of G4⟩,(mr rfl (mr rfl ⟨lo,rfl,⟨_,mB.of BA⟩,z6 (n:=ch.length) (fun j ys H'=>zy H2 H'/\∃ us:List Addr,ys=us.map V.ref/\PtB H' us ((ch.take j).map #[VZ])) ⟨fun _ _ e=>e,[],rfl,.nil⟩ ?_ ?_ ?_ ?_⟩))⟩)
     ·rintro j ys H7 hj ⟨s7,_⟩;exact⟨_,.int ch[j],mB.of (s7 _ _ BA),by rw [ao,aF hj]; rfl⟩
     ·rintro ys H7 ⟨s7,_⟩;exact⟨_,mB.of (s7 _ _ BA),by rw [ae]; exact ai _⟩
     ·rintro zS zT zE j y ys H7 H8 hj ⟨s7,us,rfl,nh⟩ ⟨rfl,hy⟩;obtain⟨z,rfl,hz⟩:=zaJ (hy _ (mB.of (s7 _ _ BA)));obtain⟨j',y',rfl,uF,hrj⟩:=zl9 (rK.subset (aP hz));obtain⟨x,hx⟩:∃ x,pl[j']? = some x:=⟨pl[j']'#[O],#[M]⟩;have s57:=s52.trans s7;have uJ:=nh.length;rw [ae,aI] at uJ;refine gY (mr rfl (mr rfl (ex4 tt _ _ #[Xm] ⟨rfl,rfl,mK.of (s57 _ _ hc5.2),zab (by rw [ao,hx]; rfl),(mr rfl (mr rfl (ex4 r _ _ (mM (some y')) ⟨rfl,rfl,mB.of (s57 _ _ hr5),zab (by rw [ao,hrj]; rfl),by show 2<=sizeLine; lia,fun T2 vQ=>⟨by rw [ae]; lia,s7.trans (zd vQ),us++[T2],by rw [aw]; rfl,?_⟩⟩)))⟩)));rw [take_snoc hz,aw];refine cR (nh.same (zd vQ)) ?_;unfold zgv;rw [a8,hx,hrj];exact zb
     ·rintro ys H7 Dp ⟨s7,us,rfl,nh⟩ hDp;rw [bt] at nh;have v8:=zd (o:=.lst #[Wl]) hDp;refine (ex3 p Dp _ ⟨rfl,(nh.same v8).pts zb,by rw [ae]; lia,hp,zeX tD hP rK,fun tl H9 xo s9 h9=>?_⟩);have Jp:=s7.trans (v8.trans s9);have h9o:=Jp _ _ G4;have hto:tl≠o:=fun e=>by rw [e,h9o] at h9; injection h9 with h9; cases h9
      refine (ex3 o _ _ ⟨rfl,rfl,h9o,by rw [ae]; lia,rs++[tl],(mr rfl ⟨?_,by rw [zb,aw]; rfl,?_⟩)⟩)
      ·refine zaR (s2.trans Jp) ?_;unfold hide;rw [if_pos rfl]
      ·rw [zeM,take_snoc qe,aw];exact cR (Bs.same (zbc Jp)) (za3 h9 hto)
    ·rintro σ H2 ⟨rs,e8,rfl,s2,G4,Bs⟩;rw [ae,B5,bt] at Bs;refine (ex4 o rs _ _ ⟨rfl,s56.trans s2,G4,Bs.same (zcH H2 o),by rw [ae]; lia,fun x hx=>?_,fun x hx ht=>?_⟩)
     ·obtain⟨ch,h1,rfl⟩:=aZ.mp hx;obtain⟨rK,tu⟩:=(nu ch).mp h1;obtain⟨a1,a2,_⟩:=zii hp (zeX tD hP rK);exact⟨by rw [a1,ae]; exact tu,a2⟩
     ·obtain⟨ch,h1,h2,h3⟩:=zhF hp tD hP (t:=T'.toNat) hx #[O] #[O];exact aZ.mpr ⟨ch,(nu ch).mpr ⟨h1,h2⟩,h3.symm⟩
  ·rintro σ H6 ⟨o,rs,qs,e8,rfl,s6,FF,hT,El,Bx,FG⟩;intro Kd Jq;have v0:=zd (o:=.dT []) Jq;have Je:=hT.length;refine⟨_,rfl,o,rfl,⟨_,mB.of (v0 _ _ FF)⟩,zba (K:=K) (a:=o) (xs:=rs.map V.ref) (fun i σ H'=>∃ (mI:List (List Key×V)) (nB:List #[GT]) (Co:Option V),σ = [some #[UX],some (.ref r),some (.int T'),some #[Wg],some (.int k),some (.ref tt),some #[QV],some (.ref o),e8,some (.ref Kd),Co] /\
    zy H6 H'/\H' Kd=some #[Vp]/\KeysAre mI nB/\nB.Nodup/\nB.length<=i/\∀ x,x∈nB↔x∈qs.take i)
    ⟨[],[],_,rfl,v0,zb,rfl,#[M],ai _,fun x=>by simp⟩ (fun i σ H' _ hq=>by obtain⟨_,_,_,_,s3,_⟩:=hq; exact (mB.of (s3 _ _ FF))) ?_ ?_⟩
   ·rintro zD zT i y σ H7 hy ⟨mI,nB,Co,rfl,s7,Jr,xt,BB,AL,nu⟩;obtain⟨rb,rfl,AM⟩:=zaB hy;obtain⟨qq,we,qF⟩:=Paired.get hT AM;have hiq:i < qs.length:=(aj.mp we).1;have Jb:mI.length=nB.length:=by
     have:=congrArg cZ xt;rw [ae,ae] at this;exact this
    refine (mr rfl (mr rfl ⟨Kd,(mr rfl ⟨zkf.t (k:=qq.map cN) Jr (by rw [s7 _ _ qF,bx]; rfl) #[O],?_⟩)⟩));obtain⟨uV,m1,m2,m3,m4⟩:=zhD xt BB qq (.bl true);refine (ex3 _ uV _ ⟨rfl,zaR s7 Jq,zb,m1,m2,#[O],fun x=>?_⟩);rw [m4 x,nu x,take_snoc we,aC,aW]
   ·rintro σ H7 ⟨mI,nB,Co,rfl,s7,Jr,xt,BB,AL,nu⟩;rw [ae,Je] at nu AL;rw [bt] at nu;have Jb:mI.length=nB.length:=by
     have:=congrArg cZ xt;rw [ae,ae] at this;exact this
    refine (mr rfl ⟨Kd,mI,rfl,Jr,fun ob=>?_⟩);have s78:zy H6 (hide H7 Kd):=fun b u e=>za3 (s7 _ _ e) (zj e Jq)
    have s48:=sD.trans (s6.trans s78);refine z6 (n:=mI.length) (fun i ys H'=>zy (hide H7 Kd) H'/\H' Kd=some (.frz ob #[Vp])/\∃ us:List Addr,ys=us.map V.ref/\us.length<=i/\zaK H' us ((nB.take i).filter fun x=>decide (T'<=(hits p x #[FM]:Int)))) ⟨zl8,zb,[],rfl,ai _,.nil⟩ (fun i ys H' hi ⟨_,hK,_⟩=>⟨hK,hi⟩) (fun ys H' ⟨_,hK,_⟩=>⟨hK,ai _⟩) ?_ ?_
    ·rintro zS zT zE i y ys H8 H9 hi ⟨s8,Js,us,rfl,uJ,nh⟩ ⟨rfl,a,kk,rfl,hk,ha⟩;obtain⟨qq,we,rfl⟩:∃ qq,nB[i]? = some qq/\kk=qq.map cN:=by
      rw [xt,ao] at hk;cases e:nB[i]? with
      | none=>rw [e] at hk; cases hk
      | some qq=>rw [e] at hk; exact⟨qq,rfl,(aN hk).symm⟩
     have EZ:H9 a=some (.tup (qq.map V.int)):=by
      rw [ha,bx];rfl
     have En:=s48.trans s8;refine (mr rfl (mr rfl (mr rfl (ex9 c tt r a p k pl qq rw ⟨rfl,hc.same En,En _ _ qH,tD,EZ,#[O],#[O],nZ,#[O],fun fl Jt Bt AN tf=>?_⟩))));refine⟨fl,(mr rfl ⟨.inl (mB.of tf),#[Sf]⟩)⟩;have ef:(#[XA].map V.int).length=hits p qq #[FM]:=by rw [ae]; exact zjp tD
     rw [ef];have AE:(nB.take (i+1)).filter (fun x=>decide (T'<=(hits p x #[FM]:Int)))=(nB.take i).filter (fun x=>decide (T'<=(hits p x #[FM]:Int)))++[qq].filter (fun x=>decide (T'<=(hits p x #[FM]:Int))):=by rw [take_snoc we,cD]
     refine zaY (fun h=>⟨_,rfl,?_,s8.trans AN,AN _ _ Js,us++[a],by rw [aw]; rfl,by rw [aH]; exact fQ uJ,?_⟩) (fun h=>⟨s8.trans AN,AN _ _ Js,us,rfl,#[O],?_⟩)
     ·rw [ae]; lia
     ·rw [AE,fm (p:=fun x=>decide (T'<=(hits p x #[FM]:Int))) h];exact cR (nh.same AN) (AN _ _ EZ)
     ·rw [AE,fo (p:=fun x=>decide (T'<=(hits p x #[FM]:Int))) h,lF,cv];exact nh.same AN
    ·rintro ys H8 Dl ⟨s8,Js,us,rfl,uJ,nh⟩ hDl;rw [Jb,bt] at nh;have v9:=zd (o:=.lst #[Wl]) hDl;have En:=(s48.trans s8).trans v9;have FH:=nh.same v9;have Ju:mz H8 Dl #[RO] Dl=some #[RO]:=zb;generalize mz H8 Dl #[RO]=H9 at En FH Ju |-;obtain⟨ps,rfl,Dw,FI⟩:=FH.zs;have hL:∀ x,x∈ps.map (·.2)↔IsP p k x/\T'<=(hits p x #[FM]:Int):=fun x=>by
      rw [<- Dw,cL,nu x,decide_eq_true_iff];exact⟨fun h=>⟨Bx x h.1,h.2⟩,fun h=>⟨FG x h.1 h.2,h.2⟩⟩
     have hTL:zkj H9 k p ps:=fun x hx=>⟨FI x hx,((hL x.2).mp (dU hx)).1⟩
     have e1:(ps.map (·.1)).map V.ref=ps.map (fun q=>V.ref q.1):=by rw [bx]; rfl
     rw [e1] at Ju;have rJ:ps.length < 64:=by
      obtain⟨sl,g1,g2,g3⟩:=ye;have:=zfc hp hP k3 g1 g3 (qs:=ps.map (·.2)) (by rw [<- Dw]; exact BB.filter _) (fun q hq=>by rw [<- g2]; exact (hL q).mp hq);rw [ae] at this;lia
     refine (ex4 Dl k p ps ⟨rfl,mB.of Ju,hTL,k0,#[O],rJ,fun l pq hl nQ yS=>?_⟩);have e2:pq.map (fun q=>V.ref q.1)=(pq.map (·.1)).map V.ref:=by rw [bx]; rfl
     rw [e2];have Cc:(pq.map (·.2)).Perm (ps.map (·.2)):=nQ.map _;refine q l (pq.map (·.1)) (pq.map (·.2)) _ (En.free hl) (En.trans (zd hl)) zb ((zaK.of fun x hx=>FI x (nQ.mem_iff.mp hx)).same (zd hl)) (zjr #[O] (fun x hx=>((hL x).mp (Cc.mem_iff.mp hx)).1) (Cc.nodup_iff.mpr (by rw [<- Dw]; exact BB.filter _)) ?_) fun x=>?_
     ·rw [dE];exact yS
     ·rw [Cc.mem_iff];exact hL x
noncomputable def znz (t:Adr) (K:af):Sp:=fun vs H Q _=>∃ (S:List Addr) (a c tt:Addr) (p:Int) (k sl n:Nat) (x:Int) (pl:List Int) (es:Rw) (ds us:List Dt),vs = [.ref a,.int (n:Int)]/\Lk t H S a c tt p k sl pl es ds us/\pl[n]? = some x/\k<=3/\sl<=4 /\
 (#[Vr].length < k+sl->∀ H',zy H H'->Q .non H')/\∀ (qs:List #[GT]) (H':Hp),zy H H'->Cb p k sl pl es qs->Q #[UD] H'
theorem zgO {c:Addr} (h:m = "can_be"\/m = "check_place"):#[LE].lookup m=none:=by
 rcases h with rfl | rfl <;> exact zma #[N] #[N] #[N] #[N] #[N]
theorem zoU {P:Program} {w:World} {X:Cx}:zcl #[Wh] X E0:=by
 intro mq σ H s ev s' I hq;obtain⟨e,C,H',B,_,_,_,_,q⟩:=hq;exact q.elim
theorem zdH:Kg ["self","number","p","k","places","values"] ["self","number"] (zi ze0):=#[S]
theorem znA (T:Txt K mg t) (F:Fun K "sure" "Listener.sure" ze0 t.sure fd):Kq P w K mg base CX0 7 t.sure fd ["self","number"] (znz t K):=by
 obtain⟨nP,ni,mU⟩:=T.Km;have nj:=zbP (P:=P) (w:=w) (base:=base) T ni;obtain⟨tX,rW,oZ⟩:=T.Mg;have rX:=zf4 (P:=P) (w:=w) (base:=base) T rW;obtain⟨oU,mZ,m8⟩:=T.KC;have nC:=zcK (P:=P) (w:=w) (base:=base) T mZ;refine F.ok zdH #[ol] #[ac]
 ·obtain⟨S,a,c,tt,p,k,sl,n,x,pl,es,ds,us,rfl,_⟩:=h;rfl
 ·obtain⟨S,a,c,tt,p,k,sl,n,x,pl,es,ds,us,rfl,Z,hx,k3,s4,q1,q2⟩:=h;obtain⟨dx,ea,da,ua,k',tt',dr,ur,eS,h1,h2,h3,h4,h5,h6,h7,h8,h9,tf⟩:=Z.L.ex;refine zaG ?_; intro zX;refine⟨_,#[ze,#[za2,#[zcN,#[wn],T.cl,T.Kv,nj,#[pc],mU,(@zoU _ _ _),#[RT]]],#[ze,#[za5,#[KK],#[zbe,#[zq,#[zm,2,zdH.nd,#[U9]],#[zq,#[zm,3,zdH.nd,#[A]],#[zq,#[zm,4,zdH.nd,#[U9]],#[zY]]]]]],#[ze,#[zr,5,zdH.nd,#[A],#[zt,(@zee _ (P) (w) rfl rfl rfl),T.Nz,kP,#[ya,(@zns _ (P) (w) _ _ _ _ _ _ _ _ _ _ _ _ rfl rfl (Ki.of (N':=["polynomial","p","places","number"]) (ix:=[none,some 2,some 4,some 1]) (zi ze0) _ rfl rfl rfl) rfl #[zay] #[zao,#[zmr,(K),#[zdi,#[wn],T.cl,T.Np,rX,#[pc],oZ,#[zP]],#[Sy]]] #[ut] #[wP] (fun _ _ _ _=>#[zI,nC,#[pc],T.K5,mZ.kp,m8,#[zP],#[za,#[ww],#[za,#[wn],#[ya,#[zx,#[zaI,(K)],#[QT],#[Rn]]]]]]) (by intro _; rfl))]]],#[zl,#[zJ,#[zcC,#[zA,#[zaX],#[zt,#[zB],T.LL,bM,#[ya,#[Uf]]],#[zh],(zF _)],#[zx,#[zC],#[Uf],#[zh]],#[zaw]]]]]]],?_⟩;refine zgb ?_; intro uI qD pP;have qj:=aS;have rp:=zQ Z.pr;have GG:=Z.ln;have hn:=(aj.mp hx).1;have rG:inB es (n:Int)=true:=by unfold inB; simp; lia
  refine (mr rfl (ex3 a dx _ ⟨rfl,h4,zgO (.inr rfl),(mr rfl (ex9 S a c p (sl:Int) (n:Int) es ds us ⟨rfl,Z.L,by have:=Z.n6; lia,fun h=>absurd h (by rw [rG]; simp),fun _=>?_⟩))⟩));refine⟨_,rfl,a,t.Kf,dx,_,_,rfl,h4,T.cl,T.LK,zbM,c,_,rfl,mK.of Z.cd.1,rfl,_,_,rfl,_,_,rfl,_,_,rfl,rfl,?_⟩;refine (mr rfl (ex3 a dx _ ⟨rfl,h4,zgO #[KM],S,a,c,tt,p,k,sl,pl,es,ds,us,rfl,Z,fun rJ H0 s0=>?_,fun l0 Dx G5 H0 hl0 s0 h0 Cm hC=>?_⟩));refine⟨false,rfl,zaP ⟨bg _,fun zz hz=>⟨zz,rfl,⟨[],mB.of zb⟩,?_⟩⟩⟩;obtain⟨rs,qs,h1,hT,FJ,hQ,hP⟩:∃ (rs:List Addr) (qs:List (List Int)),mz H0 zz (.lst []) zz=some #[o0]/\zaK (mz H0 zz (.lst [])) rs qs/\qs.length<=35/\(∀ H',zy H H'->Q #[UD] H')/\∀ q∈qs,IsP p k q:=⟨[],[],zb,.nil,#[M],q1 rJ,fun q hq=>(by cases hq)⟩;have s1:=s0.trans (zd (o:=.lst []) hz);generalize mz H0 zz (.lst [])=H1 at h1 hT s1 |-;rotate_left;have FK:=zfc Z.pr (zep Z.nd Z.rg Z.er) k3 s4 hC.1 (hC.2.1.2.imp (fun {u v} h e=>by rw [e] at h; lia)) (fun q hq=>(hC.2.2 q).mp hq);by_cases yf:Dx = [];subst yf;refine⟨false,.inl ⟨_,mB.of h0,rfl⟩,zaP ⟨bg _,fun zz hz=>⟨zz,rfl,⟨[],mB.of zb⟩,?_⟩⟩⟩;obtain⟨rs,qs,h1,hT,FJ,hQ,hP⟩:∃ (rs:List Addr) (qs:List (List Int)),mz H0 zz (.lst []) zz=some #[o0]/\zaK (mz H0 zz (.lst [])) rs qs/\qs.length<=35/\(∀ H',zy H H'->Q #[UD] H')/\∀ q∈qs,IsP p k q:=⟨[],G5,zb,Cm.same (zd hz),FK,fun H' s'=>q2 G5 H' s' hC,hC.2.1.1⟩;have s1:=s0.trans (zd (o:=.lst []) hz);generalize mz H0 zz (.lst [])=H1 at h1 hT s1 |-;rotate_left;refine⟨true,.inl ⟨_,mB.of h0,by cases Dx with | nil=>exact absurd rfl yf | cons=>rfl⟩,zaF ⟨l0,rfl,⟨_,mB.of h0⟩,?_⟩⟩;obtain⟨zz,rs,qs,H1,s1,h1,hT,FJ,hQ,hP,ez,eH⟩:∃ (zz:Addr) (rs:List Addr) (qs:List #[GT]) (H1:Hp),zy H H1/\H1 zz=some #[o0]/\zaK H1 rs qs/\qs.length<=35/\(∀ H',zy H H'->Q #[UD] H')/\(∀ q∈qs,IsP p k q)/\l0=zz/\H0=H1:=⟨l0,Dx,G5,H0,s0,h0,Cm,FK,fun H' s'=>q2 G5 H' s' hC,hC.2.1.1,rfl,rfl⟩;rw [ez,eH]
  all_goals
   have tD:=hT.length;have FN:=Z.rg x (aP hx);have De:=s1 _ _ Z.cd.2;refine znt (n:=rs.length) (fun i ys H'=>zy H1 H'/\ys=(#[Xq].map (zw p x)).map V.int) ⟨fun _ _ e=>e,rfl⟩ ?_ ?_ ?_ ?_
   ·rintro i ys H2 hi ⟨s2,_⟩;exact⟨_,.ref rs[i],mB.of (s2 _ _ h1),by rw [ao,aF hi]; rfl⟩
   ·rintro ys H2 ⟨s2,_⟩;exact⟨_,mB.of (s2 _ _ h1),by rw [ae]; exact ai _⟩
   ·rintro i y ys H2 H3 hi ⟨s2,rfl⟩ ⟨rfl,hy⟩;obtain⟨rb,rfl,AM⟩:=zaB (hy _ (mB.of (s2 _ _ h1)));obtain⟨qq,we,qF⟩:=Paired.get hT AM;have AH:=(zfd (#[Xq].map (zw p x))).2.2;rw [ae,aI] at AH;refine gY (mr rfl (mr rfl (mr rfl (mr rfl (ex4 tt _ _ #[Xm] ⟨rfl,rfl,mK.of (s2 _ _ De),zab (by rw [ao,hx]; rfl),p,x,rb,qq,rfl,.inr (mK.of (s2 _ _ qF)),#[O],#[O],FN.1,FN.2,zw p x qq,rfl,zbS #[O] _,by have:=zbT (p:=p) (x:=x) #[O] qq; lia,#[O],s2,?_⟩)))));rw [take_snoc we,aw,aw];rfl
   ·rintro ys H2 ⟨s2,rfl⟩ D hD;rw [tD,bt];refine⟨D,(mr rfl ⟨zb,(by have:=(zfd #[Re]).2.2; rw [ae] at this; lia),fun l ms hl Fu hpw=>?_⟩)⟩;have sf:=#[Xb].trans ((zd hD).trans (zd (o:=.lst #[R8]) hl));obtain⟨g1,g2⟩:=zoT Fu;refine (mr rfl ⟨l,(mr rfl ⟨.inl (mB.of zb),rfl,#[Db]⟩)⟩);rw [ae];refine zaY #[SQ] #[SQ]
    ·have B':(ms.length:Int)=1:=by simpa using h
     obtain⟨v,rfl,ev⟩:=g1 #[O];have:=hQ _ sf;rw [ev] at this;exact (mr rfl (ex4 l _ _ _ ⟨rfl,rfl,mB.of zb,rfl,this⟩))
    ·have:=hQ _ sf;rw [g2 (fun z=>h (by simp [z]))] at this;exact this
noncomputable def zhR (K:af):Sp:=fun vs H Q _=>∃ (c tt r:Addr) (p:Int) (k sl:Nat) (pl:List Int) (rw:List #[Ch]),vs = [.ref c,.ref r,.int (sl:Int)]/\zaH H c tt p k pl/\H r=some #[UQ]/\rw.length=pl.length/\pl.length<=16/\p∈zG/\pl.Nodup/\(∀ x∈pl,0<=x/\x < p)/\(∀ z,some z∈rw->0<=z/\z < p)/\1<=k/\k<=3/\sl<=4 /\
 (#[FM].length < k+sl->∀ H',zy H H'->Q .non H')/\∀ (l:Addr) (rs:List Addr) (qs:List #[GT]) (H':Hp),H l=none->zy H H'->H' l=some #[o0]->zaK H' rs qs->Cb p k sl pl rw qs->Q #[Su] H'
theorem zkQ:∀ {rw:List #[Ch]},rw.length=pl.length->#[FM].length=(rw.filter fun o=>o.isSome).length:=by
 induction pl with
 | nil =>
  intro rw h;cases rw with
  | nil=>rfl
  | cons=>simp at h
 | cons x pl ih =>
  intro rw h;cases rw with
  | nil=>simp at h
  | cons o rw =>
   have:=ih (rw:=rw) (by simpa using h);cases o with
   | none=>simpa [mX] using this
   | some z=>simpa [mX] using this
theorem zd8:Kg ["code","row","slips","many"] ["code","row","slips"] (zi zbO):=#[S]
theorem zhS (T:Txt K mg t) (F:Fun K "_law_can_be" "_law_can_be" zbO t.Md fd):Kq P w K mg base CX0 9 t.Md fd ["code","row","slips"] (zhR K):=by
 obtain⟨xy,vd,rY⟩:=T.M9;have yY:=zkP (P:=P) (w:=w) (base:=base) T vd;refine F.ok zd8 #[ol] #[ac]
 ·obtain⟨c,tt,r,p,k,sl,pl,rw,rfl,_⟩:=h;rfl
 ·obtain⟨c,tt,r,p,k,sl,pl,rw,rfl,hc,rL,tD,hn,hp,uU,nZ,FA,k0,k1,s4,q1,q2⟩:=h;refine zaG ?_; intro zX;refine⟨_,#[ze,#[zr,3,zd8.nd,#[A],#[zt,#[zB],T.LL,bM,#[ya,#[zaQ,(Ki.of (N':=["entry"]) (ix:=[none]) (zi zbO) _ rfl rfl rfl),#[zay],#[zao,#[ww]],#[ut],(fun _ _ _ _=>#[zaZ,#[zA,#[zcj],#[wn],#[zaw],(zF _)]]),#[Rk]]]]],#[ze,#[zan,#[zA,#[zcD],#[Rn],#[zn,#[zae],#[Ua],#[QT]],(zF _)],#[zl,#[zJ,#[zaw]]],#[zO]],#[zl,#[zJ,#[zI,yY,#[pc],T.Pr,vd.kp,rY,#[zP],#[za,#[wn],#[za,#[ww],#[ya,#[zn,#[zbf],#[Rn],#[QT]]]]]]]]]],?_⟩;refine zfi ?_; intro qD pP;have qj:=aS;have Jv:=zkQ tD;refine (mr rfl ⟨r,rfl,⟨_,mB.of rL⟩,z6 (n:=rw.length) (fun i ys H'=>H'=H/\ys=((rw.take i).filter fun o=>o.isSome).map mM) ⟨rfl,rfl⟩ ?_ ?_ ?_ ?_⟩)
  ·rintro i ys H1 hi ⟨rfl,_⟩;exact⟨_,mM rw[i],mB.of rL,by rw [ao,aF hi]; rfl⟩
  ·rintro ys H1 ⟨rfl,_⟩;exact⟨_,mB.of rL,by rw [ae]; exact ai _⟩
  ·rintro zS zT zE i y ys H1 H2 hi ⟨rfl,rfl⟩ ⟨rfl,hy⟩;obtain⟨o,rfl,ho⟩:=zel (hy _ (mB.of rL));have Bt:=cW (fun o:Option Int=>o.isSome) (rw.take i);rw [aI] at Bt;rw [take_snoc ho,cD,aw];refine #[u8];refine zaY (fun h=>(mr rfl ⟨by rw [ae]; lia,rfl,?_⟩)) (fun h=>#[Uj])
   ·cases o with
    | none=>exact absurd h (by simp [mM])
    | some z=>rfl
   ·cases o with
    | none=>simp
    | some z=>exact absurd (by simp [mM]) h
  rintro ys H1 D ⟨rfl,rfl⟩ hD;rw [bt];have t1:=zd (o:=.lst ((rw.filter fun o=>o.isSome).map mM)) hD;refine⟨D,(mr rfl ⟨.inl (mB.of zb),?_⟩)⟩;rw [ae,<- Jv];generalize mz H1 D (.lst ((rw.filter fun o=>o.isSome).map mM))=H2 at t1 |-;have BY:=hc.same t1;refine (mr rfl (mr rfl (ex4 c _ _ _ ⟨rfl,rfl,mK.of BY.1,rfl,(mr rfl (mJ rfl rfl #[sK]))⟩)));refine zaY (fun h=>q1 (by have:=of_decide_eq_true h; lia) H2 t1) #[SQ];have AF:k+sl<=#[FM].length:=ir fun z=>h (decide_eq_true #[O])
  refine (mr rfl (mr rfl (mr rfl (mr rfl (mJ rfl rfl (ex8 c tt r p k ((#[FM].length:Int) - (sl:Int)) pl rw ⟨rfl,BY,t1 _ _ rL,tD,hn,hp,uU,nZ,FA,k0,#[O],#[O],k1,⟨sl,s4,rfl,#[O]⟩,fun l2 rs qs H3 pJ s2 h2 hT hR hm=>?_⟩))))));exact q2 l2 rs qs H3 (t1.free pJ) (t1.trans s2) h2 hT ⟨AF,hR,hm⟩
noncomputable def zkR (K:af):Sp:=fun vs H Q _=>∃ (c tt:Addr) (o:V) (p x:Int) (k n:Nat) (pl:List Int) (qs:List #[GT]),vs = [.ref c,o,.int (n:Int)]/\zaH H c tt p k pl/\pl[n]? = some x/\5<=p/\p<=97/\0<=x/\x < p/\qs.length<=1000/\((o = .non/\qs = [])\/∃ l rs,o = .ref l/\H l=some #[o0]/\zaK H rs qs)/\(∀ q∈qs,IsP p k q) /\
 ∀ H',zy H H'->Q #[UD] H'
theorem zoV {a b:Int} (ha:a∈ns) (Jw:∀ v∈ns,a<=v) (hb:b∈ns) (G6:∀ v∈ns,v<=b):sur ns=if a=b then some a else none:=by
 cases ns with
 | nil=>cases ha
 | cons c r =>
  show (if r.all (fun b=>b == c) then some c else none)=_;by_cases h:a=b
  ·subst h;have e:∀ v∈c :: r,v=a:=fun v hv=>by have:=Jw v hv; have:=G6 v hv; lia
   rw [if_pos rfl,if_pos (cT.mpr fun v hv=>by rw [e v (ar _ hv),e c aA]; simp),e c aA]
  ·rw [if_neg h];refine if_neg fun qh=>h ?_
   have e:∀ v∈c :: r,v=c:=fun v hv=>by
    rcases av.mp hv with e | hv
    ·exact e
    ·exact beq_iff_eq.mp (cT.mp qh v hv)
   rw [e a ha,e b hb]
theorem zf5:Kg ["code","ones","number","values"] ["code","ones","number"] (zi zcc):=#[S]
theorem zkS (T:Txt K mg t) (F:Fun K "_law_sure" "_law_sure" zcc t.Nr fd):Kq P w K mg base CX0 2 t.Nr fd ["code","ones","number"] (zkR K):=by
 obtain⟨pQ,ng,nr⟩:=T.K2;have nO:=zdh (P:=P) (w:=w) (base:=base) T ng;refine F.ok zf5 #[ol] #[ac]
 ·obtain⟨c,tt,o,p,x,k,n,pl,qs,rfl,_⟩:=h;rfl
 ·obtain⟨c,tt,o,p,x,k,n,pl,qs,rfl,hc,hx,p5,p97,x0,x1,FJ,ho,hP,q⟩:=h;have hu:(A.deeper (envOfC (bL "_law_sure") (zi zcc) s.heap.objs.size t.Nr mV)).units+20 < cLine:=by have:=hr.units; lia
  refine zaG ?_; intro zX;refine⟨_,#[ze,#[zaz,3,zf5.nd,#[A],(Ki.of (N':=["one","code","number"]) (ix:=[none,some 0,some 2]) (zi zcc) _ rfl rfl rfl),#[zay],#[zao,#[zmr,(K),#[ww],#[Sy]]],#[ut],#[wP],(fun _ _ _ _=>#[zI,nO,#[pc],T.Lw,ng.kp,nr,#[zP],#[za,#[FB],#[za,#[wn],#[ya,#[zx,#[zaI,(K)],#[FB],#[QT]]]]]])],#[zl,#[zJ,#[zcC,(@PW.pt _ _ _ #[zc7,#[zA,#[zig,hu],#[Rn],#[Sy],(zF _)],#[zch,#[zA,#[zaX],#[zt,(@zkM _ rfl),T.QG,boot_min,#[U6]],#[zt,(@zkL _ rfl),T.QH,boot_max,#[U6]],(zF _)]]]),#[zx,#[zC],#[Rn],#[zh]],#[zaw]]]]],?_⟩;refine zn9 ?_; intro pP;have qj:=aS;have FO:qs = []->∀ zz,mz H zz (.lst []) zz=some (.lst (([]:List Addr).map V.ref))/\zaK (mz H zz (.lst [])) [] qs:=fun e zz=>by rw [e]; exact⟨zb,.nil⟩
  rcases ho with ⟨rfl,eq⟩ | ⟨l0,Dx,rfl,h0,Cm⟩
  refine (mr rfl ⟨false,rfl,zaP ⟨bg _,fun zz hz=>⟨zz,rfl,⟨[],mB.of zb⟩,?_⟩⟩⟩);obtain⟨rs,h1,hT⟩:∃ (rs:List Addr),mz H zz (.lst []) zz=some (.lst #[Sz])/\zaK (mz H zz (.lst [])) rs qs:=⟨[],FO eq zz⟩;have s1:=zd (o:=.lst []) hz;generalize mz H zz (.lst [])=H1 at h1 hT s1 |-;rotate_left;by_cases yf:Dx = [];have eq:qs = []:=by rw [yf] at Cm; cases Cm; rfl
  refine (mr rfl ⟨false,.inl ⟨_,mB.of h0,by rw [yf]; rfl⟩,zaP ⟨bg _,fun zz hz=>⟨zz,rfl,⟨[],mB.of zb⟩,?_⟩⟩⟩);obtain⟨rs,h1,hT⟩:∃ (rs:List Addr),mz H zz (.lst []) zz=some (.lst #[Sz])/\zaK (mz H zz (.lst [])) rs qs:=⟨[],FO eq zz⟩;have s1:=zd (o:=.lst []) hz;generalize mz H zz (.lst [])=H1 at h1 hT s1 |-;rotate_left;refine (mr rfl ⟨true,.inl ⟨_,mB.of h0,by cases Dx with | nil=>exact absurd rfl yf | cons=>rfl⟩,zaF ⟨l0,rfl,⟨_,mB.of h0⟩,?_⟩⟩);obtain⟨zz,rs,H1,s1,h1,hT,ez,eH⟩:∃ (zz:Addr) (rs:List Addr) (H1:Hp),zy H H1/\H1 zz=some #[o0]/\zaK H1 rs qs/\l0=zz/\H=H1:=⟨l0,Dx,H,fun _ _ e=>e,h0,Cm,rfl,rfl⟩;rw [ez,eH]
  all_goals
   have tD:=hT.length;have yU:=hc.same s1;refine z6 (n:=rs.length) (fun i ys H'=>H'=H1/\ys=(#[Xq].map (zw p x)).map V.int) ⟨rfl,rfl⟩ ?_ ?_ ?_ ?_
   ·rintro i ys H2 hi ⟨rfl,_⟩;exact⟨_,.ref rs[i],mB.of h1,by rw [ao,aF hi]; rfl⟩
   ·rintro ys H2 ⟨rfl,_⟩;exact⟨_,mB.of h1,by rw [ae]; exact ai _⟩
   ·rintro zS zT zE i y ys H2 H3 hi ⟨rfl,rfl⟩ ⟨rfl,hy⟩;obtain⟨rb,rfl,AM⟩:=zaB (hy _ (mB.of h1));obtain⟨qq,we,qF⟩:=Paired.get hT AM;refine gY (mr rfl (ex4 c _ _ _ ⟨rfl,rfl,mK.of yU.1,rfl,(mr rfl (mr rfl (ex4 c _ _ _ ⟨rfl,rfl,mK.of yU.1,rfl,(mr rfl (ex4 tt _ _ #[Xm] ⟨rfl,rfl,mK.of yU.2,zab (by rw [ao,hx]; rfl),?_⟩))⟩)))⟩));have El:=(aj.mp we).1;refine (ex4 p x rb qq ⟨rfl,.inr (mK.of qF),#[O],#[O],x0,x1,by rw [ae,ae,aI]; lia,rfl,?_⟩);rw [take_snoc we,aw,aw];rfl
   rintro ys H2 D ⟨rfl,rfl⟩ hD;rw [tD,bt];have t2:=zd (o:=.lst (#[Re].map V.int)) hD;have f2:mz H2 D (.lst (#[Re].map V.int)) D=some (.lst (#[Re].map V.int)):=zb;generalize mz H2 D (.lst (#[Re].map V.int))=H3 at t2 f2 |-;refine (mr rfl ⟨bg _,fun E1 hE1=>?_⟩);have t3:=zd (o:=.lst []) hE1;have f3:=t3 _ _ f2;have f4:mz H3 E1 (.lst []) E1=some (.lst []):=zb;generalize mz H3 E1 (.lst [])=H4 at t3 f3 f4 |-;have s4:=s1.trans (t2.trans t3);have hQ:=q H4 s4;by_cases GI:qs = []
   ·rw [GI] at f3 hQ;refine (ex4 D E1 _ _ ⟨rfl,rfl,.inl ⟨mB.of f3,mB.of f4⟩,.inr ⟨rfl,fun _=>true,fun j x y hx=>(by simp at hx),#[Db]⟩⟩);exact zaP hQ
   ·refine (ex4 D E1 _ _ ⟨rfl,rfl,.inl ⟨mB.of f3,mB.of f4⟩,.inl ⟨fun z=>GI (by simpa using z),fun j x y _ hy=>(by simp at hy),#[Db]⟩⟩);have FP:qs.map (zw p x)≠[]:=fun z=>GI (by simpa using z)
    refine zaF (mr rfl ⟨D,(mr rfl ⟨mB.of f3,FP,fun m B6 xn=>(mr rfl ⟨D,(mr rfl ⟨mB.of f3,FP,fun M hM1 hM2=>#[WF]⟩)⟩)⟩)⟩);rw [zoV B6 xn hM1 hM2] at hQ;refine zaY #[SQ] #[SQ]
    ·have h:m=M:=by simpa using h
     rw [if_pos h] at hQ;obtain⟨v,vr,ev⟩:∃ v vr,qs.map (zw p x)=v :: vr:=by
      cases h9:qs.map (zw p x) with
      | nil=>exact absurd h9 FP
      | cons v vr=>exact⟨v,vr,rfl⟩
     have e1:v=m:=by
      have y1:=xn v (by rw [ev]; exact aA);have y2:=hM2 v (by rw [ev]; exact aA);lia
     refine (mr rfl (ex4 D _ _ (.int v) ⟨rfl,rfl,mB.of f3,by rw [ev]; show atI _ ((0:Nat):Int)=_; exact zab rfl,?_⟩));rw [e1];exact hQ
    ·have h:m≠M:=fun z=>h (by simp [z])
     rw [if_neg h] at hQ;exact hQ
noncomputable def zgP:List Str:=["few","curve","paper","place","number","heard","not heard","nothing","text","row"]
noncomputable def zkT (t:Adr) (K:af):Sp:=fun vs H Q _=>∃ (e C:Addr) (b0 b1 b2 b3 b4 b5 b6 b7 b8 b9:Bool) (j:Nat) (x:Str),vs = [.ref e]/\H e=some (zlO e C)/\KW K t C b0 b1 b2 b3 b4 b5 b6 b7 b8 b9/\[b0,b1,b2,b3,b4,b5,b6,b7,b8,b9].count true=1/\[b0,b1,b2,b3,b4,b5,b6,b7,b8,b9][j]? = some true/\(∀ m,m < j->[b0,b1,b2,b3,b4,b5,b6,b7,b8,b9][m]? = some false)/\j < 10/\zgP[j]? = some x/\∀ H',zy H H'->Q (.str x) H'
theorem zcf:Kg ["e","kinds","words"] ["e"] (zi zdv):=#[S]
theorem zkU (T:Txt K mg t) (F:Fun K "_law_word" "_law_word" zdv t.Oa fd):PN P w K mg base 1 t.Oa fd ["e"] (zkT t K):=by
 refine F.okH zcf #[ol] #[ac]
 ·obtain⟨e,C,b0,b1,b2,b3,b4,b5,b6,b7,b8,b9,j,x,rfl,_⟩:=h;rfl
 ·obtain⟨e,C,b0,b1,b2,b3,b4,b5,b6,b7,b8,b9,j,x,rfl,he,kw,hc,hj,hm,hj10,hx,q⟩:=h;refine zaG ?_; intro zX;refine⟨_,#[ze,#[zr,1,zcf.nd,#[A],#[zK,#[za,#[zt,#[zZ],T.Kh,bU,#[za,#[wn],#[ya,#[zbr,(.ref t.Pd),T.Pl]]]],by exact #[za,#[zt,#[zZ],T.Kh,bU,#[za,#[wn],#[ya,#[zbr,(.ref t.NX),T.OM]]]],#[za,#[zt,#[zZ],T.Kh,bU,#[za,#[wn],#[ya,#[zbr,(.ref t.NW),T.OL]]]],#[ya,#[zt,#[zZ],T.Kh,bU,#[za,#[wn],#[ya,#[zbr,(.ref t.Lm),T.Nl]]]]]]]]]],#[ze,#[zr,1,zcf.nd,#[A],#[zn,#[zb1],#[ww],#[zK,#[za,#[zt,#[zZ],T.Kh,bU,#[za,#[wn],#[ya,#[zbr,(.ref t.K7),T.MR]]]],#[za,#[zt,#[zZ],T.Kh,bU,#[za,#[wn],#[ya,#[zbr,(.ref t.OK),T.ON]]]],#[ya,#[zt,#[zZ],T.Kh,bU,#[za,#[wn],#[ya,#[zbr,(.ref t.K6),T.MQ]]]]]]]]]],#[ze,#[zr,1,zcf.nd,#[A],#[zn,#[zb1],#[ww],#[zK,#[za,#[zt,#[zZ],T.Kh,bU,#[za,#[wn],#[ya,#[zbr,(.ref t.Kn),T.KE]]]],#[za,#[zt,#[zZ],T.Kh,bU,#[za,#[wn],#[ya,#[zbr,(.ref t.Pe),T.Pm]]]],#[ya,#[zt,#[zZ],T.Kh,bU,#[za,#[wn],#[ya,#[zbr,(.ref t.Qj),T.P4]]]]]]]]]],#[ze,#[zan,(@PW.pt _ _ _ #[znG,#[zA,#[ziM],#[zcZ,bv,PySem.F.slot_list_count,PySem.F.type_list_count,(@zkd _),#[ww],#[ya,#[zdS]]],#[zh],(zF _)],#[zk2,#[zc8,#[zhU,#[zt,#[zZ],T.Kh,bU,#[za,#[wn],#[ya,#[zf8,(.ty "ValueError"),T.NV,lN]]]]]]]]),#[zl,#[zJ,#[zR]]],#[zO]],(by exact (@zlS _ 2 _ _ _ _ _ _ _ ["few","curve","paper","place","number","heard","not heard","nothing","text","row"] #[N] zcf.nd rfl #[A] (by first | exact .inl rfl | exact .inr rfl) (by exact #[zl,#[zJ,#[zx,#[zC],#[QT],#[zcZ,bv,PySem.F.slot_list_index,PySem.F.type_list_index,(@zke _),#[ww],#[ya,#[zdS]]]]]])))]]]],?_⟩;refine zoa ?_; intro C8 Bn uI qD pP;have qj:=aS;have xc:=kw.xc;refine (mr rfl (ex4 e C _ _ ⟨rfl,he,xc,.inl (mr rfl kw.i0),(mr rfl (ex4 e C _ _ ⟨rfl,he,xc,.inl (mr rfl kw.i1),(mr rfl (ex4 e C _ _ ⟨rfl,he,xc,.inl (mr rfl kw.i2),(mr rfl (ex4 e C _ _ ⟨rfl,he,xc,.inl (mr rfl kw.i3),by show 4<=sizeLine; lia,fun l1 xj=>?_⟩))⟩))⟩))⟩));have s1:=zd (o:=.lst [.bl b0,.bl b1,.bl b2,.bl b3]) xj;have B2:=s1 _ _ he;refine (mr rfl (mr rfl (ex4 e C _ _ ⟨rfl,B2,xc,.inl (mr rfl kw.i4),(mr rfl (ex4 e C _ _ ⟨rfl,B2,xc,.inl (mr rfl kw.i5),(mr rfl (ex4 e C _ _ ⟨rfl,B2,xc,.inl (mr rfl kw.i6),by show 3<=sizeLine; lia,fun l2 pJ=>?_⟩))⟩))⟩)));have s2:=zd (o:=.lst [.bl b4,.bl b5,.bl b6]) pJ;refine (ex4 l1 l2 _ _ ⟨rfl,rfl,s2 _ _ zb,zb,by show 7<=sizeLine; lia,fun l3 hl3=>?_⟩);have s3:=zd (o:=.lst ([V.bl b0,.bl b1,.bl b2,.bl b3]++[.bl b4,.bl b5,.bl b6])) hl3;have B3:=s3 _ _ (s2 _ _ B2);refine (mr rfl (mr rfl (ex4 e C _ _ ⟨rfl,B3,xc,.inl (mr rfl kw.i7),(mr rfl (ex4 e C _ _ ⟨rfl,B3,xc,.inl (mr rfl kw.i8),(mr rfl (ex4 e C _ _ ⟨rfl,B3,xc,.inl (mr rfl kw.i9),by show 3<=sizeLine; lia,fun l4 hl4=>?_⟩))⟩))⟩)));have s4:=zd (o:=.lst [.bl b7,.bl b8,.bl b9]) hl4;refine (ex4 l3 l4 _ _ ⟨rfl,rfl,s4 _ _ zb,zb,by show 10<=sizeLine; lia,fun l5 hl5=>?_⟩);have s5:=zd (o:=.lst ([V.bl b0,.bl b1,.bl b2,.bl b3]++[.bl b4,.bl b5,.bl b6]++[.bl b7,.bl b8,.bl b9])) hl5;have D7:=s5 _ _ (s4 _ _ B3);have sA:=s1.trans (s2.trans (s3.trans (s4.trans s5)));have h5:mz (mz (mz (mz (mz H l1 (.lst [.bl b0,.bl b1,.bl b2,.bl b3])) l2 (.lst [.bl b4,.bl b5,.bl b6])) l3 (.lst ([V.bl b0,.bl b1,.bl b2,.bl b3]++[.bl b4,.bl b5,.bl b6]))) l4 (.lst [.bl b7,.bl b8,.bl b9])) l5 (.lst ([V.bl b0,.bl b1,.bl b2,.bl b3]++[.bl b4,.bl b5,.bl b6]++[.bl b7,.bl b8,.bl b9])) l5=some (.lst ([b0,b1,b2,b3,b4,b5,b6,b7,b8,b9].map V.bl)):=zb;generalize mz (mz (mz (mz (mz H l1 (.lst [.bl b0,.bl b1,.bl b2,.bl b3])) l2 (.lst [.bl b4,.bl b5,.bl b6])) l3 (.lst ([V.bl b0,.bl b1,.bl b2,.bl b3]++[.bl b4,.bl b5,.bl b6]))) l4 (.lst [.bl b7,.bl b8,.bl b9])) l5 (.lst ([V.bl b0,.bl b1,.bl b2,.bl b3]++[.bl b4,.bl b5,.bl b6]++[.bl b7,.bl b8,.bl b9]))=H5 at D7 sA h5 |-;refine (mr rfl ⟨.inl ⟨rfl,_,mB.of h5⟩,l5,_,true,rfl,rfl,h5,?_⟩);rw [hc];refine#[WF];refine zaP ?_;refine (mr rfl (ex4 e C _ _ ⟨rfl,D7,xc,.inr (mr rfl kw.iv),#[Db]⟩));refine zaP ?_;refine⟨by show 10<=sizeLine; lia,fun lw hlw=>?_⟩;have s6:=zd (o:=.lst (zgP.map V.str)) hlw;refine (mr rfl (mr rfl ⟨.inl ⟨rfl,_,mB.of (s6 _ _ h5)⟩,l5,_,true,j,rfl,rfl,s6 _ _ h5,hj,hm,#[O],?_⟩));refine (ex4 lw _ _ (.str x) ⟨rfl,rfl,mB.of zb,?_,q _ (sA.trans s6)⟩);exact zab (xs:=zgP.map V.str) (by rw [ao,hx]; rfl)
noncomputable def encD:Dd->List V
 | .ME n x=>[.str "hear",.int n,.int x]
 | .forget n=>[.str "forget",.int n]
 | .back=>[.str "back"]
 | .again=>[.str "again"]
noncomputable def zkV (K:af):Sp:=fun vs H Q _=>∃ (dr p k:Int) (c tt:Addr) (pl:List Int),vs = [.int dr,.ref c]/\zaH H c tt p k pl/\1<=pl.length/\pl.length<=16/\0 < p/\p<=97/\∀ (D:Dd) (l:Addr) (H':Hp),H l=none->zy H H'->H' l=some #[TU]->Q #[Su] H'
theorem lt3 {m:Int} (h0:0<=m) (h1:m < 3):m=0\/m=1\/m=2:=by lia
theorem zaT:Kg ["draw","code","p","k","places","near","number","entry","way"] ["draw","code"] (zi zdw):=#[S]
theorem zkW (T:Txt K mg t) (F:Fun K "_law_deed" "_law_deed" zdw t.Od fd):Kq P w K mg base CX0 1 t.Od fd ["draw","code"] (zkV K):=by
 refine F.ok zaT #[ol] #[ac]
 ·obtain⟨dr,p,k,c,tt,pl,rfl,_⟩:=h;rfl
 ·obtain⟨dr,p,k,c,tt,pl,rfl,hc,l1,l2,p0,p1,q⟩:=h;refine zaG ?_; intro zX;refine⟨_,#[ze,#[za5,#[ww],#[zbe,#[zq,#[zm,2,zaT.nd,#[A]],#[zq,#[zm,3,zaT.nd,#[A]],#[zq,#[zm,4,zaT.nd,#[A]],#[zY]]]]]],#[ze,#[zr,5,zaT.nd,#[A],#[zn,#[zL],#[Ub],#[Sa]]],#[ze,#[zr,6,zaT.nd,#[A],#[zx,#[zC],#[zK,#[za,#[Uf],by exact #[za,#[zk8,zh0,#[zh]],#[za,#[Sa],#[ya,#[Wx]]]]]],#[zt,#[zfx],T.QH,boot_max,#[za,#[zh],#[ya,#[zn,#[zbf],#[zn,#[zL],#[wn],#[zh]],#[zh]]]]]]],#[ze,#[zr,5,zaT.nd,#[A],#[zn,#[zL],#[Ub],#[QT]]],#[ze,#[zr,7,zaT.nd,#[A],#[zx,#[zC],#[zK,#[za,#[Uf],by exact #[za,#[zk8,zh0,#[zh]],#[za,#[QT],#[ya,#[Wx]]]]]],#[zt,#[zfx],T.QH,boot_max,#[za,#[zh],#[ya,#[zn,#[zbf],#[zn,#[zL],#[Ub],#[zh]],#[zh]]]]]]],#[ze,#[zr,8,zaT.nd,#[A],#[zn,#[zL],#[Ub],#[zh]]],#[ze,#[zan,#[zA,#[zcD],#[Vo],#[zh],(zF _)],#[zl,#[zJ,#[zaf,#[za,#[zR],#[za,#[pvx,6],#[ya,#[pvx,7]]]]]]],#[zO]],#[zl,#[zJ,#[zx,#[zC],#[zK,#[za,#[zaf,#[za,#[zR],#[UM]]],#[za,#[zaf,#[ya,#[zR]]],#[ya,#[zaf,#[ya,#[zR]]]]]]],#[zn,#[zbf],#[Vo],#[zh]]]]]]]]]]]],?_⟩;refine zpW ?_; intro zN8 GF C8 Bn uI qD pP;have qj:=aS;refine⟨_,rfl,c,_,rfl,mK.of hc.1,rfl,_,_,rfl,_,_,rfl,_,_,rfl,rfl,?_⟩;refine (mr rfl (mJ rfl rfl ⟨#[P3],(mr rfl ⟨tt,(mr rfl ⟨.inr (mK.of hc.2),(mJ rfl rfl ⟨by rw [ae]; lia,?_⟩)⟩)⟩)⟩));refine (mr rfl (mr rfl (mr rfl ⟨tt,(mr rfl ⟨.inr (mK.of hc.2),?_⟩)⟩)));refine (mJ rfl rfl ⟨⟨#[D],#[D],#[D]⟩,by show 4<=sizeLine; lia,fun a1 ha1=>?_⟩);have m1:=aQ dr (show (11:Int)≠0 by decide);have m2:=aK dr (show (0:Int) < 11 by decide);have nI:∀ z:Int,(if z > 0 then z else 0)=if z > 0 then z else 0:=fun _=>rfl
  refine (mr rfl (mJ rfl rfl ⟨(by show (0:Int) < 11; decide),(mJ rfl rfl ⟨_,_,rfl,?_⟩)⟩));have i0:0<=(if dr % 11 - 7 > 0 then dr % 11 - 7 else 0)/\(if dr % 11 - 7 > 0 then dr % 11 - 7 else 0) < 4:=by split <;> lia
  obtain⟨n,hn⟩:=zbV (ns:=[dr / 13 % (#[Um].length:Int),-1,(#[Um].length:Int),10 ^ 30]) i0.1 (by show _ < (4:Int); exact i0.2);have t1:=zd (o:=.lst [.int (dr / 13 % (#[Um].length:Int)),.int (-1),.int (#[Um].length:Int),.int (10 ^ 30)]) ha1;refine (ex4 a1 _ _ (.int n) ⟨rfl,rfl,mB.of zb,hn,?_⟩);refine (mr rfl (mJ rfl rfl ⟨#[P3],#[wE]⟩));refine (mr rfl (mr rfl (mr rfl (mJ rfl rfl ⟨⟨#[D],#[D],#[D]⟩,by show 4<=sizeLine; lia,fun a2 Jw=>?_⟩))));have m3:=aQ (dr / 11) (show (13:Int)≠0 by decide);have m4:=aK (dr / 11) (show (0:Int) < 13 by decide);refine (mr rfl (mJ rfl rfl ⟨#[P3],(mJ rfl rfl ⟨(by show (0:Int) < 13; decide),(mJ rfl rfl ⟨_,_,rfl,?_⟩)⟩)⟩));have i1:0<=(if dr / 11 % 13 - 9 > 0 then dr / 11 % 13 - 9 else 0)/\(if dr / 11 % 13 - 9 > 0 then dr / 11 % 13 - 9 else 0) < 4:=by split <;> lia
  obtain⟨x,hx⟩:=zbV (ns:=[dr / 200 % p,-1,p,10 ^ 30]) i1.1 (by show _ < (4:Int); exact i1.2);have t2:=zd (o:=.lst [.int (dr / 200 % p),.int (-1),.int p,.int (10 ^ 30)]) Jw;refine (ex4 a2 _ _ #[Xm] ⟨rfl,rfl,mB.of zb,hx,?_⟩);have sA:=t1.trans t2;have m5:=aQ (dr / 90) (show (7:Int)≠0 by decide);have m6:=aK (dr / 90) (show (0:Int) < 7 by decide);refine (mr rfl (mJ rfl rfl ⟨#[P3],(mJ rfl rfl ⟨(by show (0:Int) < 7; decide),?_⟩)⟩));refine #[Sf];refine zaY (fun hw=>?_) (fun hw=>?_)
  ·refine (mr rfl (mr rfl ⟨by show 3<=sizeLine; lia,fun l hl=>q (.ME n x) l _ (sA.free hl) (sA.trans (zd hl)) zb⟩))
  ·have hw:¬ dr / 90 % 7 < 4:=by simpa using hw
   refine (mr rfl ⟨by show 2<=sizeLine; lia,fun b1 Ck=>⟨by show 1<=sizeLine; lia,fun b2 G6=>⟨by show 1<=sizeLine; lia,fun b3 FQ=>⟨by show 3<=sizeLine; lia,fun b4 hb4=>?_⟩⟩⟩⟩);have u1:=zd (o:=.tup [.str "forget",.int n]) Ck;have u2:=zd (o:=.tup [.str "back"]) G6;have u3:=zd (o:=.tup [.str "again"]) FQ;have u4:=zd (o:=.lst [.ref b1,.ref b2,.ref b3]) hb4;have sB:=sA.trans (u1.trans (u2.trans (u3.trans u4)));have f1:=(u2.trans (u3.trans u4)) b1 (.tup [.str "forget",.int n]) zb;have f2:=(u3.trans u4) b2 (.tup [.str "back"]) zb;have f3:=u4 b3 (.tup [.str "again"]) zb;have g1:H b1=none:=sA.free Ck;have g2:H b2=none:=(sA.trans u1).free G6;have g3:H b3=none:=(sA.trans #[Vs]).free FQ;rcases lt3 (m:=dr / 90 % 7 - 4) #[O] #[O] with hm | hm | hm
   ·exact (mr rfl (mJ rfl rfl (ex4 b4 _ _ (.ref b1) ⟨rfl,rfl,mB.of zb,by rw [hm]; rfl,q (.forget n) b1 _ g1 sB f1⟩)))
   ·exact (mr rfl (mJ rfl rfl (ex4 b4 _ _ (.ref b2) ⟨rfl,rfl,mB.of zb,by rw [hm]; rfl,q .back b2 _ g2 sB f2⟩)))
   ·exact (mr rfl (mJ rfl rfl (ex4 b4 _ _ (.ref b3) ⟨rfl,rfl,mB.of zb,by rw [hm]; rfl,q .again b3 _ g3 sB f3⟩)))
theorem zet (T:Txt K mg t) (w:Wd):∃ (b0 b1 b2 b3 b4 b5 b6 b7 b8 b9:Bool) (j:Nat),KW K t (zpx t w) b0 b1 b2 b3 b4 b5 b6 b7 b8 b9/\[b0,b1,b2,b3,b4,b5,b6,b7,b8,b9].count true=1/\[b0,b1,b2,b3,b4,b5,b6,b7,b8,b9][j]? = some true/\(∀ m,m < j->[b0,b1,b2,b3,b4,b5,b6,b7,b8,b9][m]? = some false)/\j < 10/\zgP[j]? = some w.txt:=by
 cases w with
 | place=>exact⟨_,_,_,_,_,_,_,_,_,_,3,T.Oz,rfl,rfl,#[D],#[D],rfl⟩
 | number=>exact⟨_,_,_,_,_,_,_,_,_,_,4,T.ND,rfl,rfl,#[D],#[D],rfl⟩
 | heard=>exact⟨_,_,_,_,_,_,_,_,_,_,5,T.Pz,rfl,rfl,#[D],#[D],rfl⟩
 | notHeard=>exact⟨_,_,_,_,_,_,_,_,_,_,6,T.NC,rfl,rfl,#[D],#[D],rfl⟩
 | nothing=>exact⟨_,_,_,_,_,_,_,_,_,_,7,T.MF,rfl,rfl,#[D],#[D],rfl⟩
theorem t1:¬ (("forget" : Str) = "hear"):=by decide +kernel
theorem t2:¬ (("back" : Str) = "hear"):=by decide +kernel
theorem t3:¬ (("again" : Str) = "hear"):=by decide +kernel
theorem t4:¬ (("back" : Str) = "forget"):=by decide +kernel
theorem t5:¬ (("again" : Str) = "forget"):=by decide +kernel
theorem t6:¬ (("again" : Str) = "back"):=by decide +kernel
theorem zc5 {x y:Str} {A B:Prop} (h:¬ x=y) (b:B):if decide (V.str x=V.str y)=true then A else B:=by
 rw [decide_eq_false (fun z=>h (by injection z))];exact zaP b
theorem zff {x:Str} {A B:Prop} (b:A):if decide (V.str x=V.str x)=true then A else B:=by
 rw [decide_eq_true rfl];exact zaF b
noncomputable def zkX (t:Adr) (K:af):Sp:=fun vs H Q _=>∃ (S:List Addr) (p c d:Addr) (pp sl:Int) (es:Rw) (ds us:List Dt) (D:Dd),vs = [.ref p,.ref d]/\Ls t.Kf H S p c pp sl es ds us/\es.length<=16/\ds.length<=1000/\us.length<=1000/\(∀ d∈ds,d.1 < es.length)/\(∀ d∈us,d.1 < es.length)/\H d=some #[TU] /\
 match stp pp es ds us D with
 | .inl w=>∀ H',zy H H'->Q (.str w.txt) H'
 | .inr (es',uk,um)=>∀ (S':List Addr) (H':Hp),Ls t.Kf H' S' p c pp sl es' uk um->zy (hid S H) (hid S' H')->(∀ b∈S',b∈S\/H b=none)->Q (.str "") H'
theorem zaU:Kg ["listener","deed","name","told","e"] ["listener","deed"] (zi zdx):=#[S]
theorem zkY (T:Txt K mg t) (F:Fun K "_law_done" "_law_done" zdx t.Oc fd):Kq P w K mg base CX0 5 t.Oc fd ["listener","deed"] (zkX t K):=by
 obtain⟨BC,Dy,wj⟩:=T.O5;have Dz:=znk (P:=P) (w:=w) (base:=base) T Dy;obtain⟨xA,yZ,rZ⟩:=T.Ng;have y6:=zkz (P:=P) (w:=w) (base:=base) T yZ;obtain⟨BD,DA,wm⟩:=T.O8;have DB:=znl (P:=P) (w:=w) (base:=base) T DA;obtain⟨y8,BE,uw⟩:=T.NG;have BF:=zmf (P:=P) (w:=w) (base:=base) T BE;obtain⟨xB,ve,sd⟩:=T.M7;have y9:=zkU (P:=P) (w:=w) (base:=base) T ve;refine F.ok zaU #[ol] #[ac]
 ·obtain⟨S,p,c,d,pp,sl,es,ds,us,D,rfl,_⟩:=h;rfl
 ·obtain⟨S,p,c,d,pp,sl,es,ds,us,D,rfl,L,uY,yO,nh,Jx,hiu,hd,q⟩:=h;obtain⟨dx,ea,da,ua,k,tt,dr,ur,eS,h1,h2,h3,h4,h5,h6,h7,h8,h9,tf⟩:=L.ex;refine zaG ?_; intro zX;refine⟨_,#[ze,#[zr,2,zaU.nd,#[A],#[zR]],#[ze,#[zr,3,zaU.nd,#[A],#[zaw]],#[ze,(@zox _ _ _ _ (4) _ _ _ _ _ _ _ _ rfl rfl rfl rfl T.Ny T.sb zaU.nd rfl rfl (fun xe mq σ E hp=>#[za7,#[zeQ,#[US],#[za7,#[zcP,3,zaU.nd,#[A],#[zeP,#[wn],T.cl,T.P8,Dz,#[pc],wj,hp,#[za,#[FB],#[ya,#[FB]]]]]],#[za7,#[zeQ,#[US],#[za7,#[zcP,3,zaU.nd,#[A],#[zeP,#[wn],T.cl,T.OU,y6,#[pc],rZ,hp,#[ya,#[FB]]]]],#[za7,#[zeQ,#[US],#[za7,#[zcP,3,zaU.nd,#[A],#[zd0,#[wn],T.cl,T.P9,DB,#[pc],wm,hp]]],#[za7,#[zcP,3,zaU.nd,#[A],#[zd0,#[wn],T.cl,T.Po,BF,#[pc],uw,hp]]]]]]]]]) (fun e=>zl #[zr,2,zaU.nd,#[A],(@zlR _ _ _ _ _ _ _ _ _ _ _ _ y9 (MP.of #[pc]) rfl T.Pp ve.kp sd #[Q4] #[D] (by rfl) (by rfl))]) #[D]),#[zl,#[zJ,#[zcC,#[zA,#[zh1],#[Rn],#[zaw],(zF _)],#[QT],#[zR]]]]]]],?_⟩;refine zgb ?_; intro uI qD pP;cases D with
  | ME n x =>
   refine #[QY];refine (mr rfl (ex3 p dx _ ⟨rfl,h4,zbw #[Tn],(mr rfl (ex4 d _ _ _ ⟨rfl,rfl,mK.of hd,rfl,(mr rfl (ex4 d _ _ _ ⟨rfl,rfl,mK.of hd,rfl,S,p,c,pp,sl,n,x,es,ds,us,rfl,L,uY,yO,nh,?_⟩))⟩))⟩));unfold zec
   revert q
   generalize stp pp es ds us _=st;intro q;cases st with
   | inl w =>
    obtain⟨b0,b1,b2,b3,b4,b5,b6,b7,b8,b9,j,kw,kc,kj,km,Ba,kx⟩:=zet T w;refine #[RL];refine #[wp];refine #[u8];exact zaF (mr rfl (q H' ((zd he).trans s')))
   | inr r =>
    obtain⟨es',uk,um⟩:=r;intro S' H' L' sS hS;refine #[u8];exact zaF #[Sj]
  | forget n =>
   refine (mr rfl (ex4 d _ _ _ ⟨rfl,rfl,mK.of hd,rfl,rfl,(mr rfl (zc5 t1 ?_))⟩));refine #[QY];refine (mr rfl (ex3 p dx _ ⟨rfl,h4,zbw (.inr #[Tn]),(mr rfl (ex4 d _ _ _ ⟨rfl,rfl,mK.of hd,rfl,S,p,c,pp,sl,n,es,ds,us,rfl,L,uY,yO,nh,?_⟩))⟩));unfold zec
   revert q
   generalize stp pp es ds us _=st;intro q;cases st with
   | inl w =>
    obtain⟨b0,b1,b2,b3,b4,b5,b6,b7,b8,b9,j,kw,kc,kj,km,Ba,kx⟩:=zet T w;refine #[RL];refine #[wp];refine #[u8];exact zaF (mr rfl (q H' ((zd he).trans s')))
   | inr r =>
    obtain⟨es',uk,um⟩:=r;intro S' H' L' sS hS;refine #[u8];exact zaF #[Sj]
  | back =>
   refine (mr rfl (ex4 d _ _ _ ⟨rfl,rfl,mK.of hd,rfl,rfl,(mr rfl (zc5 t2 ?_))⟩));refine (mr rfl (ex4 d _ _ _ ⟨rfl,rfl,mK.of hd,rfl,rfl,(mr rfl (zc5 t4 ?_))⟩));refine #[QY];refine (mr rfl (ex3 p dx _ ⟨rfl,h4,zbw (.inr (.inr #[Tn])),S,p,c,pp,sl,es,ds,us,rfl,L,uY,yO,nh,Jx,?_⟩));unfold zec
   revert q
   generalize stp pp es ds us _=st;intro q;cases st with
   | inl w =>
    obtain⟨b0,b1,b2,b3,b4,b5,b6,b7,b8,b9,j,kw,kc,kj,km,Ba,kx⟩:=zet T w;refine #[RL];refine #[wp];refine #[u8];exact zaF (mr rfl (q H' ((zd he).trans s')))
   | inr r =>
    obtain⟨es',uk,um⟩:=r;intro S' H' L' sS hS;refine #[u8];exact zaF #[Sj]
  | again =>
   refine (mr rfl (ex4 d _ _ _ ⟨rfl,rfl,mK.of hd,rfl,rfl,(mr rfl (zc5 t3 ?_))⟩));refine (mr rfl (ex4 d _ _ _ ⟨rfl,rfl,mK.of hd,rfl,rfl,(mr rfl (zc5 t5 ?_))⟩));refine (mr rfl (ex4 d _ _ _ ⟨rfl,rfl,mK.of hd,rfl,rfl,(mr rfl (zc5 t6 ?_))⟩));refine (mr rfl (ex3 p dx _ ⟨rfl,h4,zbw (.inr (.inr (.inr #[Tn]))),S,p,c,pp,sl,es,ds,us,rfl,L,uY,yO,nh,hiu,?_⟩));unfold zec
   revert q
   generalize stp pp es ds us _=st;intro q;cases st with
   | inl w =>
    obtain⟨b0,b1,b2,b3,b4,b5,b6,b7,b8,b9,j,kw,kc,kj,km,Ba,kx⟩:=zet T w;refine #[RL];refine #[wp];refine #[u8];exact zaF (mr rfl (q H' ((zd he).trans s')))
   | inr r =>
    obtain⟨es',uk,um⟩:=r;intro S' H' L' sS hS;refine #[u8];exact zaF #[Sj]
structure St (H:Hp) (sa:Addr) (rs:List Addr) (rows:List Rw):Prop where
 at_:H sa=some #[o0]
 len:rs.length=rows.length
 row:∀ (i:Nat) (r:Addr) (w:Rw),rs[i]? = some r->rows[i]? = some w->H r=some (.lst (w.map mM))
theorem St.same {sa:Addr} (h:St H sa rs rows) (s:zy H H'):St H' sa rs rows:=⟨s _ _ h.at_,h.len,fun i r w e1 e2=>s _ _ (h.row i r w e1 e2)⟩
noncomputable def ziH (K:af):Sp:=fun vs H Q _=>∃ (c tt sa d:Addr) (pp k:Int) (at':Nat) (rs:List Addr) (rows:List Rw) (r:Rw) (D:Dd),vs = [.ref c,.ref sa,.int (at':Int),.ref d]/\H c=some (.tup [.int pp,.int k,.ref tt])/\St H sa rs rows/\rows[at']? = some r/\H d=some #[TU]/\rows.length<=1000/\r.length<=16 /\
 ∀ (l tY:Addr) (rn:List Addr) (H':Hp),H l=none->zy H H'->St H' tY rn #[TH].1->(∀ b,b=tY\/b∈rn->(b=sa\/b∈rs)\/H b=none)->H' l=some (.tup [.ref tY,.int (#[TH].2.1:Int),.str (owd #[TH].2.2)])->Q #[Su] H'
theorem zp7:inV (V.str "hear") [V.str "back",V.str "again"]=false:=by decide +kernel
theorem zp8:inV (V.str "forget") [V.str "back",V.str "again"]=false:=by decide +kernel
theorem zp9:inV (V.str "back") [V.str "back",V.str "again"]=true:=by decide +kernel
theorem zlw:inV (V.str "again") [V.str "back",V.str "again"]=true:=by decide +kernel
theorem t8:¬ (("back" : Str) = "again"):=by decide +kernel
theorem t7:¬ (("hear" : Str) = "forget"):=by decide +kernel
theorem zmu (h:k<=xs.length):zdb xs none (some (k:Int))=xs.take k:=by
 have e1:HT.sIx xs.length xs.length (some (k:Int))=k:=by
  unfold HT.sIx;simp;split <;> lia
 have e2:HT.sIx xs.length 0 none=0:=rfl;unfold zdb;rw [e1,e2];rfl
theorem zeu {es:Rw} {n:Int} (h:¬ 0<=n\/¬ n < (es.length:Int)):inB es n=false:=by
 unfold inB;rcases h with h | h <;> simp [h]
theorem zjF {es:Rw} {n:Int} (h0:0<=n) (h1:n < (es.length:Int)):inB es n=true:=by
 unfold inB;simp [h0,h1]
theorem zcw:Kg ["code","states","at","deed","row","there","later"] ["code","states","at","deed"] (zi zcW):=#[S]
theorem ziI (T:Txt K mg t) (F:Fun K "_law_later" "_law_later" zcW t.M2 fd):Kq P w K mg base CX0 1 t.M2 fd ["code","states","at","deed"] (ziH K):=by
 refine F.ok zcw #[ol] #[ac]
 ·obtain⟨c,tt,sa,d,pp,k,at',rs,rows,r,D,rfl,_⟩:=h;rfl
 ·obtain⟨c,tt,sa,d,pp,k,at',rs,rows,r,D,rfl,hc,pI,yf,hd,hl,uY,q⟩:=h;obtain⟨ra,qH⟩:∃ ra,rs[at']? = some ra:=by
   have:=(aj.mp yf).1;exact⟨rs[at']'(by rw [pI.len]; exact this),#[M]⟩
  have rO:=pI.row at' ra r qH yf;refine zaG ?_; intro zX;refine⟨_,#[ze,#[zr,4,zcw.nd,#[A],#[zx,#[zC],#[ww],#[QT]]],#[ze,#[zan,#[zA,(@zjQ _),#[wv],#[zaf,#[za,#[zR],#[ya,#[zR]]]],(by with_unfolding_all rfl)],#[ze,#[zr,5,zcw.nd,#[A],#[zn,#[zae],#[QT],#[zx,#[zC],#[zK,#[za,#[zk8,zh0,#[zh]],#[RI]]],#[zaN,#[zfz],T.QJ,boot_int,#[ya,#[ziO,#[zaX],#[wv],#[zR],(zF _)]]]]]],#[zl,#[zJ,#[zcC,#[zex,#[ziN],#[zcD],#[zh],#[Uf],#[Q0],(by with_unfolding_all rfl)],#[zaf,#[za,#[ww],#[za,#[Uf],#[ya,#[zR]]]]],#[On]]]]],#[zO]],#[ze,#[zan,#[zc8,#[zex,#[ziN],#[zcD],#[zh],#[wv],#[Sa],(by with_unfolding_all rfl)]],#[V6],#[zO]],#[ze,#[zan,(@PW.pt _ _ _ #[zc7,#[Ss],#[zch,#[zc8,#[zex,#[ziN],#[zcD],#[zh],#[wv],#[Ua],(by with_unfolding_all rfl)]]]]),#[V6],#[zO]],#[ze,#[zan,(@PW.pt _ _ _ #[zc7,#[Ss],#[zch,#[zA,#[zcj],#[zx,#[zC],#[TJ],#[wv]],#[zaw],(zF _)]]]),#[V6],#[zO]],#[ze,#[zan,(@PW.pt _ _ _ #[zc7,#[Ss],#[zch,#[zA,#[zh1],#[zx,#[zC],#[TJ],#[wv]],#[zaw],(zF _)]]]),#[V6],#[zO]],#[ze,#[zr,6,zcw.nd,#[A],#[zaN,#[zdk],T.Qb,boot_list,#[Q4]]],#[ze,#[za5,#[zcC,#[Ss],#[wv],#[zaw]],#[zc9,#[pvx,6],#[wv],set_list]],#[zl,#[zJ,#[zaf,#[za,#[zn,#[zb1],#[zdj,zei,#[ww],#[zeg],#[zeh,#[WA]]],#[zK,#[UM]]],#[za,#[WA],#[ya,#[zR]]]]]]]]]]]]]]],?_⟩;refine zpj ?_; intro zN9 zN8 GF C8 Bn uI qD pP;have qj:=aS;have keep:∀ b,b=sa\/b∈rs->(b=sa\/b∈rs)\/H b=none:=fun b hb=>.inl hb
  refine (mr rfl (mr rfl (ex4 sa _ _ (.ref ra) ⟨rfl,rfl,mB.of pI.at_,zab (by rw [ao,qH]; rfl),?_⟩)));cases D with
  | ME n x =>
   refine (mr rfl (ex4 d _ _ _ ⟨rfl,rfl,mK.of hd,rfl,by show 2<=sizeLine; lia,fun t2 yG=>?_⟩));have u1:=zd (o:=.tup [.str "back",.str "again"]) yG;refine#[Pi];rw [if_neg aG,zp7];refine zaP ?_;have uK:=u1 _ _ hd;have yU:=u1 _ _ hc;have se:=u1 _ _ rO;have DC:=u1 _ _ pI.at_;have ek:(#[Vq].length:Int)=(r.length:Int):=by rw [ae]
   refine #[RB];by_cases h0:0<=n
   case neg =>
    have e:ltr pp rows at' r (.ME n x)=#[RK]:=by unfold ltr; dsimp only; rw [if_pos (zeu (.inl h0))]
    rw [e] at q;rw [decide_eq_false h0];exact zaP (mr rfl (zaF (mr rfl (mr rfl ⟨by show 3<=sizeLine; lia,fun l hl=>q l sa rs _ #[T4] #[BT] #[Si] keep zb⟩))))
   rw [decide_eq_true h0];refine zaF #[UT];rw [ek];by_cases h1:n < (r.length:Int)
   case neg =>
    have e:ltr pp rows at' r (.ME n x)=#[RK]:=by unfold ltr; dsimp only; rw [if_pos (zeu (.inr h1))]
    rw [e] at q;rw [decide_eq_false h1];exact zaF (mr rfl (mr rfl ⟨by show 3<=sizeLine; lia,fun l hl=>q l sa rs _ #[T4] #[BT] #[Si] keep zb⟩))
   rw [decide_eq_true h1];refine zaP ?_;have hB:=zjF h0 h1;have DD:¬ inB r n=false:=by rw [hB]; decide
   obtain⟨m,b,rfl,hm,hb⟩:=zgC hB;have AL:=(aj.mp hb).1;refine #[QX];refine #[RB];by_cases g0:0<=x
   case neg =>
    have e:ltr pp rows at' r (.ME m x)=#[Vj]:=by unfold ltr; dsimp only; rw [if_neg DD,if_pos (by unfold zfp; simp [g0])]
    rw [e] at q;rw [decide_eq_false g0];exact zaP (mr rfl (zaF (mr rfl (mr rfl ⟨by show 3<=sizeLine; lia,fun l hl=>q l sa rs _ #[T4] #[BT] #[Si] keep zb⟩))))
   rw [decide_eq_true g0];refine zaF (mr rfl (ex4 c _ _ _ ⟨rfl,rfl,mK.of yU,rfl,#[sK]⟩));by_cases g1:x < pp
   case neg =>
    have e:ltr pp rows at' r (.ME m x)=#[Vj]:=by unfold ltr; dsimp only; rw [if_neg DD,if_pos (by unfold zfp; simp [g1])]
    rw [e] at q;rw [decide_eq_false g1];exact zaF (mr rfl (mr rfl ⟨by show 3<=sizeLine; lia,fun l hl=>q l sa rs _ #[T4] #[BT] #[Si] keep zb⟩))
   rw [decide_eq_true g1];refine zaP ?_;have hn:¬ zfp pp x=false:=by unfold zfp; simp [g0,g1]
   refine #[QX];refine (mr rfl (mr rfl (ex4 d _ _ _ ⟨rfl,rfl,mK.of uK,rfl,ra,_,_,mM b,rfl,rfl,mB.of se,zab (by rw [ao,hb]; rfl),rfl,#[Db]⟩)));cases b with
   | some v =>
    have e:ltr pp rows at' r (.ME m x)=(rows,at',some .heard):=by unfold ltr; dsimp only; rw [if_neg DD,if_neg hn,hm,hb]; rfl
    rw [e] at q;exact zaF (mr rfl (mr rfl ⟨by show 3<=sizeLine; lia,fun l hl=>q l sa rs _ #[T4] #[BT] #[Si] keep zb⟩))
   | none =>
    have e:ltr pp rows at' r (.ME m x)=(rows.take (at'+1)++[r.set m (some x)],at'+1,none):=by unfold ltr; dsimp only; rw [if_neg DD,if_neg hn,hm,hb]; rfl
    rw [e] at q;refine zaP ?_;refine (mr rfl (ex4 d _ _ _ ⟨rfl,rfl,mK.of uK,rfl,rfl,(mr rfl (zc5 t7 ?_))⟩));refine #[Ue];have u2:=zd (o:=.lst #[Vq]) DE;have hd2:=u2 _ _ uK;refine (mr rfl (ex4 d _ _ _ ⟨rfl,rfl,mK.of hd2,rfl,rfl,(mr rfl (zff (mr rfl (ex4 d _ _ _ ⟨rfl,rfl,mK.of hd2,rfl,(mr rfl (mr rfl (ex4 d _ _ _ ⟨rfl,rfl,mK.of hd2,rfl,la,_,_,m,rfl,rfl,zb,zdl (by rw [ae]; exact AL),?_⟩)))⟩))))⟩));rw [zf6];have u3:=zd (o:=.lst (#[Vq].set m (mM (some x)))) DE;have DF:mz (mz H t2 (.tup [.str "back",.str "again"])) la (.lst (#[Vq].set m (mM (some x)))) la=some (.lst ((r.set m (some x)).map mM)):=by rw [zb,gm]
    have sB:=u1.trans u3;refine #[RX];have ec:zdb #[Sz] none (some ((at':Int)+1))=#[QU].map V.ref:=by
     have e1:((at':Int)+1)=((at'+1:Nat):Int):=by lia
     have:=(aj.mp qH).1;rw [e1,zmu (by rw [ae]; lia),jI]
    rw [ec];have u4:=zd (o:=.lst (#[QU].map V.ref)) hz;refine (mr rfl ⟨by show 1<=sizeLine; lia,fun y hy=>?_⟩);have u5:=zd (o:=.lst [V.ref la]) hy;refine (ex4 z y _ _ ⟨rfl,rfl,u5 _ _ zb,zb,by rw [ae,aI]; show _+1<=sizeLine; have:=pI.len; lia,fun s2 oJ=>?_⟩);have u6:=zd (o:=.lst (#[QU].map V.ref++[V.ref la])) oJ;refine (mr rfl (mJ rfl rfl ⟨by show 3<=sizeLine; lia,fun l hl=>?_⟩));have u7:=zd (o:=.tup [.ref s2,.int ((at':Int)+1),.str ""]) hl;have sC:=sB.trans #[RD];refine q l s2 (rs.take (at'+1)++[la]) _ (#[Wb].free hl) sC ⟨by rw [u7 _ _ zb,aw]; rfl,by rw [aH,aH,aI,aI,pI.len]; rfl,fun i r' w' e1 e2=>?_⟩ (fun b' tQ=>?_) zb
    ·rcases fe i (rs.take (at'+1)).length with hi | hi
     ·rw [aT hi] at e1;rw [aT (by rw [aI] at hi |-; rw [<- pI.len]; exact hi)] at e2;have Bm:i < at'+1:=by rw [aI] at hi; lia
      rw [c7 Bm] at e1 e2;exact sC _ _ (pI.row i r' w' e1 e2)
     ·rw [aV hi] at e1;have el:#[QU].length=#[WT].length:=by rw [aI,aI,pI.len]
      rw [aV #[O],<- el] at e2;have e3:i - #[QU].length=0:=by
       have:i - #[QU].length < 1:=(aj.mp e1).1;lia
      rw [e3] at e1 e2;simp at e1 e2;subst e1 e2;exact #[RD] _ _ DF
    ·rcases tQ with rfl | tQ
     ·exact .inr ((sB.trans (u4.trans u5)).free oJ)
     ·rcases aC.mp tQ with h | h
      ·exact .inl (.inr (dI h))
      ·have:b'=la:=by simpa using h
       subst this;exact .inr (u1.free DE)
  | forget n =>
   refine (mr rfl (ex4 d _ _ _ ⟨rfl,rfl,mK.of hd,rfl,by show 2<=sizeLine; lia,fun t2 yG=>?_⟩));have u1:=zd (o:=.tup [.str "back",.str "again"]) yG;refine#[Pi];rw [if_neg aG,zp8];refine zaP ?_;have uK:=u1 _ _ hd;have yU:=u1 _ _ hc;have se:=u1 _ _ rO;have DC:=u1 _ _ pI.at_;have ek:(#[Vq].length:Int)=(r.length:Int):=by rw [ae]
   refine #[RB];by_cases h0:0<=n
   case neg =>
    have e:ltr pp rows at' r (.forget n)=#[RK]:=by unfold ltr; dsimp only; rw [if_pos (zeu (.inl h0))]
    rw [e] at q;rw [decide_eq_false h0];exact zaP (mr rfl (zaF (mr rfl (mr rfl ⟨by show 3<=sizeLine; lia,fun l hl=>q l sa rs _ #[T4] #[BT] #[Si] keep zb⟩))))
   rw [decide_eq_true h0];refine zaF #[UT];rw [ek];by_cases h1:n < (r.length:Int)
   case neg =>
    have e:ltr pp rows at' r (.forget n)=#[RK]:=by unfold ltr; dsimp only; rw [if_pos (zeu (.inr h1))]
    rw [e] at q;rw [decide_eq_false h1];exact zaF (mr rfl (mr rfl ⟨by show 3<=sizeLine; lia,fun l hl=>q l sa rs _ #[T4] #[BT] #[Si] keep zb⟩))
   rw [decide_eq_true h1];refine zaP ?_;have hB:=zjF h0 h1;have DD:¬ inB r n=false:=by rw [hB]; decide
   obtain⟨m,b,rfl,hm,hb⟩:=zgC hB;have AL:=(aj.mp hb).1;refine #[Tc];refine #[Tc];refine #[QX];refine (mr rfl (mr rfl (ex4 d _ _ _ ⟨rfl,rfl,mK.of uK,rfl,ra,_,_,mM b,rfl,rfl,mB.of se,zab (by rw [ao,hb]; rfl),rfl,#[Db]⟩)));cases b with
   | none =>
    have e:ltr pp rows at' r (.forget m)=(rows,at',some .notHeard):=by unfold ltr; dsimp only; rw [if_neg DD,hm,hb]; rfl
    rw [e] at q;exact zaF (mr rfl (mr rfl ⟨by show 3<=sizeLine; lia,fun l hl=>q l sa rs _ #[T4] #[BT] #[Si] keep zb⟩))
   | some v =>
    have e:ltr pp rows at' r (.forget m)=(rows.take (at'+1)++[r.set m none],at'+1,none):=by unfold ltr; dsimp only; rw [if_neg DD,hm,hb]; rfl
    rw [e] at q;refine zaP ?_;refine #[Ue];have u2:=zd (o:=.lst #[Vq]) DE;have hd2:=u2 _ _ uK;refine (mr rfl (ex4 d _ _ _ ⟨rfl,rfl,mK.of hd2,rfl,rfl,(mr rfl (zc5 t1 (mr rfl (mr rfl (ex4 d _ _ _ ⟨rfl,rfl,mK.of hd2,rfl,la,_,_,m,rfl,rfl,zb,zdl (by rw [ae]; exact AL),?_⟩)))))⟩));rw [zf6];have u3:=zd (o:=.lst (#[Vq].set m (mM (none)))) DE;have DF:mz (mz H t2 (.tup [.str "back",.str "again"])) la (.lst (#[Vq].set m (mM (none)))) la=some (.lst ((r.set m (none)).map mM)):=by rw [zb,gm]
    have sB:=u1.trans u3;refine #[RX];have ec:zdb #[Sz] none (some ((at':Int)+1))=#[QU].map V.ref:=by
     have e1:((at':Int)+1)=((at'+1:Nat):Int):=by lia
     have:=(aj.mp qH).1;rw [e1,zmu (by rw [ae]; lia),jI]
    rw [ec];have u4:=zd (o:=.lst (#[QU].map V.ref)) hz;refine (mr rfl ⟨by show 1<=sizeLine; lia,fun y hy=>?_⟩);have u5:=zd (o:=.lst [V.ref la]) hy;refine (ex4 z y _ _ ⟨rfl,rfl,u5 _ _ zb,zb,by rw [ae,aI]; show _+1<=sizeLine; have:=pI.len; lia,fun s2 oJ=>?_⟩);have u6:=zd (o:=.lst (#[QU].map V.ref++[V.ref la])) oJ;refine (mr rfl (mJ rfl rfl ⟨by show 3<=sizeLine; lia,fun l hl=>?_⟩));have u7:=zd (o:=.tup [.ref s2,.int ((at':Int)+1),.str ""]) hl;have sC:=sB.trans #[RD];refine q l s2 (rs.take (at'+1)++[la]) _ (#[Wb].free hl) sC ⟨by rw [u7 _ _ zb,aw]; rfl,by rw [aH,aH,aI,aI,pI.len]; rfl,fun i r' w' e1 e2=>?_⟩ (fun b' tQ=>?_) zb
    ·rcases fe i (rs.take (at'+1)).length with hi | hi
     ·rw [aT hi] at e1;rw [aT (by rw [aI] at hi |-; rw [<- pI.len]; exact hi)] at e2;have Bm:i < at'+1:=by rw [aI] at hi; lia
      rw [c7 Bm] at e1 e2;exact sC _ _ (pI.row i r' w' e1 e2)
     ·rw [aV hi] at e1;have el:#[QU].length=#[WT].length:=by rw [aI,aI,pI.len]
      rw [aV #[O],<- el] at e2;have e3:i - #[QU].length=0:=by
       have:i - #[QU].length < 1:=(aj.mp e1).1;lia
      rw [e3] at e1 e2;simp at e1 e2;subst e1 e2;exact #[RD] _ _ DF
    ·rcases tQ with rfl | tQ
     ·exact .inr ((sB.trans (u4.trans u5)).free oJ)
     ·rcases aC.mp tQ with h | h
      ·exact .inl (.inr (dI h))
      ·have:b'=la:=by simpa using h
       subst this;exact .inr (u1.free DE)
  | back =>
   refine (mr rfl (ex4 d _ _ _ ⟨rfl,rfl,mK.of hd,rfl,by show 2<=sizeLine; lia,fun t2 yG=>?_⟩));have u1:=zd (o:=.tup [.str "back",.str "again"]) yG;refine#[Pi];rw [if_neg aG,zp9];refine zaF ?_;have uK:=u1 _ _ hd;refine (mr rfl (mr rfl ⟨by show 2<=sizeLine; lia,fun t3 Jy=>?_⟩));have u2:=zd (o:=.lst [.int (-1),.int 1]) Jy;have hd2:=u2 _ _ uK;refine #[TY];have ev:(if decide (V.str "back" = V.str "again")=true then (1:Int) else 0)=0:=by rw [decide_eq_false (fun z=>t8 (by injection z))]; rfl
   rw [ev];refine (ex4 t3 _ _ (.int (-1)) ⟨rfl,rfl,mB.of zb,rfl,#[SL]⟩);have sB:=u1.trans u2;refine #[Sf];by_cases h:at'=0
   case pos =>
    have e:ltr pp rows at' r .back=#[S9]:=if_pos h;rw [e] at q;have f:¬ (0:Int)<=(at':Int) + -1:=by lia
    rw [decide_eq_false f];exact zaP (mr rfl (zaP (mr rfl (mr rfl ⟨by show 3<=sizeLine; lia,fun l hl=>q l sa rs _ (sB.free hl) #[RF] #[V3] keep zb⟩))))
   have e:ltr pp rows at' r .back=(rows,at' - 1,none):=if_neg h;rw [e] at q;have f0:(0:Int)<=(at':Int) + -1:=by lia
   have f1:(at':Int) + -1 < (#[Sz].length:Int):=by rw [ae]; have:=(aj.mp qH).1; lia
   have ez:(at':Int) + -1=((at' - 1:Nat):Int):=by lia
   rw [decide_eq_true f0];refine zaF #[Q5];rw [decide_eq_true f1];exact zaF (mr rfl (mr rfl ⟨by show 3<=sizeLine; lia,fun l hl=>q l sa rs _ (sB.free hl) #[RF] #[V3] keep (by rw [zb]; show some (HO.tup [V.ref sa,V.int ((at':Int) + -1),V.str ""])=_; rw [ez]; rfl)⟩))
  | again =>
   refine (mr rfl (ex4 d _ _ _ ⟨rfl,rfl,mK.of hd,rfl,by show 2<=sizeLine; lia,fun t2 yG=>?_⟩));have u1:=zd (o:=.tup [.str "back",.str "again"]) yG;refine#[Pi];rw [if_neg aG,zlw];refine zaF ?_;have uK:=u1 _ _ hd;refine (mr rfl (mr rfl ⟨by show 2<=sizeLine; lia,fun t3 Jy=>?_⟩));have u2:=zd (o:=.lst [.int (-1),.int 1]) Jy;have hd2:=u2 _ _ uK;refine #[TY];have ev:(if decide (V.str "again" = V.str "again")=true then (1:Int) else 0)=1:=by rw [decide_eq_true rfl]; rfl
   rw [ev];refine (ex4 t3 _ _ (.int 1) ⟨rfl,rfl,mB.of zb,rfl,#[SL]⟩);have sB:=u1.trans u2;refine #[Sf];have f0:(0:Int)<=(at':Int)+1:=by lia
   by_cases h:at'+1 < rows.length
   case neg =>
    have e:ltr pp rows at' r .again=#[S9]:=if_neg h;rw [e] at q;rw [decide_eq_true f0];have f1:¬ (at':Int)+1 < (#[Sz].length:Int):=by rw [ae,pI.len]; lia
    refine zaF #[Q5];rw [decide_eq_false f1];exact zaP (mr rfl (mr rfl ⟨by show 3<=sizeLine; lia,fun l hl=>q l sa rs _ (sB.free hl) #[RF] #[V3] keep zb⟩))
   have e:ltr pp rows at' r .again=(rows,at'+1,none):=if_pos h;rw [e] at q;have f1:(at':Int)+1 < (#[Sz].length:Int):=by rw [ae,pI.len]; lia
   have ez:(at':Int)+1=((at'+1:Nat):Int):=by lia
   rw [decide_eq_true f0];refine zaF #[Q5];rw [decide_eq_true f1];exact zaF (mr rfl (mr rfl ⟨by show 3<=sizeLine; lia,fun l hl=>q l sa rs _ (sB.free hl) #[RF] #[V3] keep (by rw [zb]; show some (HO.tup [V.ref sa,V.int ((at':Int)+1),V.str ""])=_; rw [ez]; rfl)⟩))
end
end My
end
section
namespace L2
open PySem PySem.Spec PyProof.Rows
variable {X:Cx}
theorem zoW (hu:X.A.units+20 < cLine):OpR X #[Wv] (fun x y H Q=>(x = .non/\y = .non/\Q #[Xt] H)\/zmO X.K true x y H Q):=by
 intro mq s σ H x y v u Q I rx ry h;rcases h with ⟨rfl,rfl,q⟩ | h
 ·exact ziM mq s σ H .non .non v u Q I rx ry ⟨rfl,q⟩
 ·exact zig hu mq s σ H x y v u Q I rx ry h
end L2
end
section
namespace My
open PySem L2 PyProof.Rows
variable {C da ea ua:Addr} {F:Fx} {G1 H H':Hp} {K:af} {an od:Option Addr} {cd ct dc oc pm:Value} {fd:FuncData} {h:Heap} {k:Nat} {mg:Str->Option Value} {pl:List Int} {pp sl:Int} {qs:List #[GT]} {rn rs:List Addr} {rows:List Rw} {us:List Value} {w:World} {xs ys:List V} {y:V}
section
variable {P:Program} {w:World} {K:af} {mg:Str->Option Value} {base:Heap} {t:Adr}
theorem zkZ {Q:VK} {a b:Addr} {ms:Rw} (ha:mB K H a (ms.map mM)) (hb:mB K H b (ms.map mM)) (q:Q #[Xt] H):zmO K true #[Rf] (.ref b) H Q:=by
 refine⟨a,b,_,_,rfl,rfl,.inl ⟨ha,hb⟩,.inr ⟨rfl,fun _=>true,fun j x y hx hy=>?_,?_⟩⟩
 ·rw [hx] at hy;cases hy;rw [ao] at hx;cases e:ms[j]? with
  | none=>rw [e] at hx; cases hx
  | some o =>
   rw [e] at hx;cases hx;have:eqV (mM o) (mM o)=true:=by
    cases o with
    | none=>rfl
    | some i=>show (i == i)=true; simp
   show EqD K H 8 (mM o) (mM o) true;rw [<- this];exact EqD.flat (by cases o <;> rfl) (by cases o <;> rfl)
 ·rw [if_pos rfl];have:(bd (List.map mM ms).length).all (fun _=>true)=true:=by simp
  rw [this];exact q
theorem zmv {x y:Str} {A B:Prop} (h:x=y) (b:B):if (!decide (V.str x=V.str y))=true then A else B:=by
 subst h;rw [decide_eq_true rfl];exact zaP b
theorem Jn.lt {n:Nat} {rows:List Rw} {at':Nat} {es:Rw} {ds us:List Dt} (J:Jn n rows at' es ds us):es.length=n/\(∀ d∈ds,d.1 < es.length)/\∀ d∈us,d.1 < es.length:=by
 have he:es.length=n:=J.wd es (aP J.cur);have all:∀ d∈ds++us.reverse,d.1 < n:=fun d hd=>by
  obtain⟨i,hi,e⟩:=eK.mp hd;have hl:=J.len;have h1:rows[i]? = some (rows[i]'#[O]):=by simp
  have h2:rows[i+1]? = some (rows[i+1]'#[O]):=by simp
  have t:=J.ch i _ _ d h1 (by rw [aj]; exact⟨hi,e⟩) h2;have h3:=(aj.mp t.1).1;rw [J.wd _ (aP h1)] at h3;exact h3
 rw [he];exact⟨rfl,fun d hd=>all d (aD _ hd),fun d hd=>all d (aq _ (List.mem_reverse.mpr hd))⟩
theorem Jn.few {n:Nat} {at':Nat} {es:Rw} {ds us:List Dt} (J:Jn n rows at' es ds us):ds.length<=rows.length/\us.length<=rows.length:=by
 have hl:=J.len;rw [aH,jT] at hl;lia
theorem znB {S S':List Addr} (h:∀ b∈S',b∈S):zy (hid S H) (hid S' H):=fun b o e=>by
 obtain⟨h1,h2⟩:=zbh e;exact zah h1 fun z=>h2 (h b z)
theorem Ls.hide {S R:List Addr} {p c:Addr} {es:Rw} {ds us:List Dt} (h:Ls C H S p c pp sl es ds us) (h1:∀ b∈R,b∉S) (h2:∀ b∈R,∀ xs,¬ H b=some #[Rp]):Ls C (hid R H) S p c pp sl es ds us:=by
 obtain⟨dx,ea,da,ua,k,tt,dr,ur,rfl,n1,n2,n3,a1,a2,a3,a4,a5,a6,a7⟩:=h.ex;have own:∀ b∈[p,ea,da,ua],b∉R:=fun b hb z=>h1 b z hb
 have tp:∀ b xs,H b=some #[Rp]->hid R H b=some #[Rp]:=fun b xs e=>zah e fun z=>h2 b z xs e
 exact⟨dx,ea,da,ua,k,tt,dr,ur,rfl,n1,n2,n3,zah a1 (own _ #[M]),zah a2 (own _ #[M]),zah a3 (own _ #[M]),zah a4 (own _ #[M]),a5.same tp,a6.same tp,tp _ _ a7⟩
structure Fx where
 x:Addr
 c:Addr
 tt:Addr
 p:Int
 k:Nat
 sl:Nat
 pl:List Int
structure Lv where
 S:List Addr
 sa:Addr
 rs:List Addr
 rows:List Rw
 at':Nat
 es:Rw
 ds:List Dt
 us:List Dt
noncomputable def zhT (p:Int) (r:Rw):Prop:=∀ z,some z∈r->0<=z/\z < p
structure One (t:Adr) (HL HG:Hp) (F:Fx) (v:Lv):Prop where
 L:Ls t.Kf HL v.S F.x F.c F.p F.sl v.es v.ds v.us
 st:My.St HG v.sa v.rs v.rows
 J:Jn F.pl.length v.rows v.at' v.es v.ds v.us
 er:∀ r∈v.rows,zhT F.p r
theorem One.same {HL HG HL' HG':Hp} {v:Lv} (h:One t HL HG F v) (s1:zy HL HL') (s2:zy HG HG'):One t HL' HG' F v:=⟨h.L.same s1,h.st.same s2,h.J,h.er⟩
structure Tw (t:Adr) (G1 H:Hp) (M:List Addr) (F E:Fx) (v u:Lv):Prop where
 a:One t (hid (u.S++M) H) (hid (v.S++u.S++M) H) F v
 b:One t (hid (v.S++M) H) (hid (v.S++u.S++M) H) E u
 dj:∀ b∈v.S,b∉u.S
 mv:∀ b∈M,b∉v.S/\b∉u.S/\∃ xs,H b=some #[RH]
 g:zy G1 (hid (v.S++u.S++M) H)
theorem Tw.symm {M:List Addr} {E:Fx} {v u:Lv} (h:Tw t G1 H M F E v u):Tw t G1 H M E F u v:=by
 have s:zy (hid (v.S++u.S++M) H) (hid (u.S++v.S++M) H):=znB fun b hb=>by
  simp at hb |-;rcases hb with hb | hb | hb
  ·exact .inr (.inl hb)
  ·exact .inl hb
  ·exact .inr (.inr hb)
 exact⟨h.b.same #[SK] s,h.a.same #[SK] s,fun b hb z=>h.dj b z hb,fun b hb=>⟨#[SZ].2.1,#[SZ].1,#[SZ].2.2⟩,h.g.trans s⟩
theorem Tw.same {M:List Addr} {E:Fx} {v u:Lv} (h:Tw t G1 H M F E v u) (s:zy H H'):Tw t G1 H' M F E v u :=
 ⟨h.a.same (zbL s) (zbL s),h.b.same (zbL s) (zbL s),h.dj,fun b hb=>⟨#[SZ].1,#[SZ].2.1,#[SZ].2.2.imp fun _ e=>s _ _ e⟩,h.g.trans (zbL s)⟩
theorem Tw.QL {M:List Addr} {E:Fx} {v u:Lv} {b:Addr} (h:Tw t G1 H M F E v u) (hb:b∈M):Tw t G1 (mz H b #[RH]) M F E v u:=by
 have k:∀ S,zy (hid (S++M) H) (hid (S++M) (mz H b #[RH])):=fun S=>zgw (aq _ hb)
 refine⟨h.a.same (k _) (k _),h.b.same (k _) (k _),h.dj,fun d hd=>⟨(h.mv d hd).1,(h.mv d hd).2.1,?_⟩,h.g.trans (k _)⟩;by_cases e:d=b
 ·subst e;exact⟨xs,zb⟩
 ·rw [zg e];exact (h.mv d hd).2.2
theorem Tw.fresh {M:List Addr} {E:Fx} {v u:Lv} {b:Addr} (h:Tw t G1 H M F E v u) (e:H b=none):b∉v.S++u.S++M:=fun hb=>by
 simp at hb;rcases hb with hb | hb | hb
 ·exact (h.a.L.same (zad _ _)).fresh e hb
 ·exact (h.b.L.same #[SW]).fresh e hb
 ·obtain⟨xs,z⟩:=#[SZ].2.2;rw [e] at z;cases z
theorem Tw.QN {M:List Addr} {E:Fx} {v u:Lv} {tY:Addr} {nY:List Rw} (h:Tw t G1 H M F E v u) (st:My.St H' tY rn nY)
  (hb:∀ b,b=tY\/b∈rn->(b=v.sa\/b∈v.rs)\/H b=none):My.St (hid (v.S++u.S++M) H') tY rn nY:=by
 have out:∀ b,b=tY\/b∈rn->b∉v.S++u.S++M:=fun b tQ=>by
  rcases hb b tQ with (rfl | z) | z
  ·exact (zbh h.a.st.at_).2
  ·obtain⟨i,hi,e⟩:=eK.mp z;have h1:v.rs[i]? = some b:=aj.mpr ⟨hi,e⟩;have h2:v.rows[i]? = some (v.rows[i]'(by rw [<- h.a.st.len]; exact hi)):=by simp
   exact (zbh (h.a.st.row i b _ h1 h2)).2
  ·exact h.fresh z
 exact⟨zah st.at_ (out _ #[KM]),st.len,fun i r w e1 e2=>zah (st.row i r w e1 e2) (out _ (.inr (aP e1)))⟩
theorem Tw.QR {M:List Addr} {E:Fx} {v u:Lv} {S':List Addr} {tY:Addr} {nY:List Rw} {at2:Nat} {es':Rw} {uk um:List Dt} (h:Tw t G1 H M F E v u)
  (L:Ls t.Kf H' S' F.x F.c F.p F.sl es' uk um) (s:zy (hid v.S H) (hid S' H')) (hS:∀ b∈S',b∈v.S\/H b=none) (st:My.St (hid (v.S++u.S++M) H) tY rn nY) (J:Jn F.pl.length nY at2 es' uk um) (er:∀ r∈nY,zhT F.p r) :
  Tw t G1 H' M F E ⟨S',tY,rn,nY,at2,es',uk,um⟩ u:=by
 have kp:∀ b o,H b=some o->b∉v.S->H' b=some o/\b∉S':=fun b o e n=>zbh (s b o (zah e n))
 have sG:∀ R:List Addr,(∀ b,b∈R->b∉v.S)->zy (hid (v.S++R) H) (hid (S'++R) H'):=fun R hR b o e=>by
  obtain⟨e1,e2⟩:=zbh e;obtain⟨z1,z2⟩:=kp b o e1 fun z=>e2 (aD _ z)
  refine zah z1 fun z=>?_
  rcases aC.mp z with z | z
  ·exact z2 z
  ·exact e2 (aq _ z)
 have hu:∀ b∈u.S,b∉v.S:=fun b hb z=>h.dj b z hb
 have hm:∀ b∈M,b∉v.S:=fun b hb=>#[SZ].1
 have hum:∀ b,b∈u.S++M->b∉v.S:=fun b hb=>by
  rcases (aC.mp hb) with hb | hb
  ·exact hu b hb
  ·exact hm b hb
 have lu:=h.b.L.same #[SW];have sA:=sG (u.S++M) hum;rw [<- cu,<- cu] at sA;have nS:∀ b∈u.S++M,b∉S':=fun b hb z=>by
  rcases hS b z with z | z
  ·exact hum b hb z
  ·exact h.fresh z (by rw [cu]; exact aq _ hb)
 have lu':Ls t.Kf (hid (S'++M) H') u.S E.x E.c E.p E.sl u.es u.ds u.us:=h.b.L.same (sG M hm);refine⟨⟨L.hide nS fun b hb xs e=>?_,st.same sA,J,er⟩,h.b.same (sG M hm) sA,fun b hb z=>nS b (aD _ z) hb,fun b hb=>⟨nS b (aq _ hb),#[SZ].2.1,?_⟩,h.g.trans sA⟩
 ·rcases (aC.mp hb) with hb | hb
  ·exact (lu'.same (zad _ _)).tup e hb
  ·obtain⟨ys,z⟩:=#[SZ].2.2;rw [(kp b _ z (hm b hb)).1] at e;cases e
 ·obtain⟨ys,z⟩:=#[SZ].2.2;exact⟨ys,(kp b _ z (hm b hb)).1⟩
theorem znC {at':Nat} {r:Rw} {D:Dd} (h:∀ w∈rows,zhT pp w) (hr:zhT pp r):∀ w∈#[TH].1,zhT pp w:=by
 have key:∀ r':Rw,zhT pp r'->∀ w∈rows.take (at'+1)++[r'],zhT pp w:=fun r' h' w hw=>by
  rcases aC.mp hw with hw | hw
  ·exact h w (dI hw)
  ·rw [aW.mp hw];exact h'
 cases D with
 | ME n x =>
  unfold ltr;dsimp only;split
  ·exact h
  ·split
   ·exact h
   ·rename_i _ hx
    split
    ·exact h
    ·refine key _ fun z hz=>?_
     rcases il hz with h1 | h1
     ·exact hr z h1
     ·cases h1;unfold zfp at hx;simp at hx;lia
 | forget n =>
  unfold ltr;dsimp only;split
  ·exact h
  ·split
   ·refine key _ fun z hz=>?_
    rcases il hz with h1 | h1
    ·exact hr z h1
    ·cases h1
   ·exact h
 | back =>
  unfold ltr;dsimp only;split <;> exact h
 | again =>
  unfold ltr;dsimp only;split <;> exact h
theorem zmw {x:V} {A B:Prop} (b:B):if (!decide (x=x))=true then A else B:=by
 rw [decide_eq_true rfl];exact zaP b
theorem Cb.one {p:Int} {sl:Nat} {es:Rw} {Jz:List #[GT]} (h:Cb p k sl pl es qs) (h':Cb p k sl pl es Jz):Jz=qs:=zjs h'.2.1 h.2.1 fun q=>(h'.2.2 q).trans (h.2.2 q).symm
theorem zk0 {Q:VK} {a b:Addr} (ha:mB K H a xs) (hb:mB K H b ys) (hl:xs.length=ys.length) (he:∀ (j:Nat) x y,xs[j]? = some x->ys[j]? = some y->EqD K H 8 x y true) (q:Q #[Xt] H):zmO K true #[Rf] (.ref b) H Q:=by
 refine⟨a,b,_,_,rfl,rfl,.inl ⟨ha,hb⟩,.inr ⟨hl,fun _=>true,he,?_⟩⟩;have:#[Wp].all (fun _=>true)=true:=by simp
 rw [this];exact q
theorem zmx {d:Nat} {x:V} (hx:zcx x=true):EqD K H d x x true:=by
 have h:=EqD.flat (K:=K) (H:=H) (d:=d) (x:=x) (y:=x) hx hx;have e:eqV x x=true:=by
  cases x <;> simp_all [eqV,zcx]
 rw [e] at h;exact h
theorem znD {a b:Addr} {ms:List Int} (ha:H a=some (.tup #[R8])) (hb:H b=some (.tup #[R8])):EqD K H 8 #[Rf] (.ref b) true:=by
 by_cases oM:a=b
 ·subst oM;exact .same
 ·have h:=EqD.MD (K:=K) (H:=H) (d:=7) (e:=fun _=>true) oM (mK.of ha) (mK.of hb) fun j x y h1 h2=>by
   rw [h1] at h2;cases h2;obtain⟨z,rfl,_⟩:=zaJ h1;exact zmx rfl
  have e:((bd (min #[R8].length #[R8].length)).all (fun _=>true) && #[R8].length == #[R8].length)=true:=by simp
  rw [e] at h;exact h
theorem znE (h1:zaK H rs qs) (h2:zaK H rn qs):∀ (j:Nat) x y,#[Sz][j]? = some x->(rn.map V.ref)[j]? = some y->EqD K H 8 x y true:=fun j x y e1 e2=>by
 obtain⟨a,rfl,ha⟩:=zaB e1;obtain⟨b,rfl,hb⟩:=zaB e2;obtain⟨q,g1,g2⟩:=Paired.get h1 ha;obtain⟨q',g3,g4⟩:=Paired.get h2 hb;rw [g1] at g3;cases g3;exact znD g2 g4
theorem znF {c:Addr} :#[LE].lookup ("sure" : Str)=none:=zma #[N] #[N] #[N] #[N] #[N]
noncomputable def pr {α:Type} (w:Nat) (x y:α):List α:=if w=0 then [x,y] else [y,x]
theorem zcg {w:Nat} {x:V} (hw:w < 2):atI (pr w x y) (w:Int)=some x:=by
 have:w=0\/w=1:=by lia
 rcases this with rfl | rfl <;> rfl
theorem zpD {w:Nat} {x:V} (hw:w < 2):atI (pr w x y) (1 - (w:Int))=some y:=by
 have:w=0\/w=1:=by lia
 rcases this with rfl | rfl <;> rfl
theorem zmy {α:Type} {w:Nat} {x y z:α} (hw:w < 2):(pr w x y).set w z=pr w z y:=by
 have:w=0\/w=1:=by lia
 rcases this with rfl | rfl <;> rfl
theorem znU {α:Type} {w:Nat} {x y:α} (hw:w < 2):ixN (pr w x y).length (w:Int)=some w:=by
 have:w=0\/w=1:=by lia
 rcases this with rfl | rfl <;> rfl
structure PQ (G:Hp) (F:Fx):Prop where
 cd:zaH G F.c F.tt F.p F.k F.pl
 ok:Pf 3 8 F.p F.k F.pl
 s4:F.sl<=4
theorem view {G:Hp} {M:List Addr} {F0 F1:Fx} {v u:Lv} (T:Tw t G H M F0 F1 v u) (f0:PQ G F0) (f1:PQ G F1) {w:Nat} (hw:w < 2):∃ (F E:Fx) (v' u':Lv),Tw t G H M F E v' u'/\PQ G F/\PQ G E/\(∀ {α:Type} (g:Fx->α),pr 0 (g F0) (g F1)=pr w (g F) (g E))/\(∀ {α:Type} (g:Lv->α),pr 0 (g v) (g u)=pr w (g v') (g u'))/\(v'=v/\u'=u\/v'=u/\u'=v) /\
  ∀ (G' H':Hp) (v2 u2:Lv),Tw t G' H' M F E v2 u2->∃ v3 u3,Tw t G' H' M F0 F1 v3 u3/\(∀ {α:Type} (g:Lv->α),pr w (g v2) (g u2)=pr 0 (g v3) (g u3))/\(v3=v2/\u3=u2\/v3=u2/\u3=v2):=by
 have:w=0\/w=1:=by lia
 rcases this with rfl | rfl
 ·exact⟨F0,F1,v,u,T,f0,f1,fun g=>rfl,fun g=>rfl,.inl ⟨rfl,rfl⟩,fun G' H' v2 u2 h=>⟨v2,u2,h,fun g=>rfl,.inl ⟨rfl,rfl⟩⟩⟩
 ·exact⟨F1,F0,u,v,T.symm,f1,f0,fun g=>rfl,fun g=>rfl,.inr ⟨rfl,rfl⟩,fun G' H' v2 u2 h=>⟨u2,v2,h.symm,fun g=>rfl,.inr ⟨rfl,rfl⟩⟩⟩
theorem Tw.re {G G':Hp} {M:List Addr} {E:Fx} {v u:Lv} (h:Tw t G' H M F E v u) (s:zy G (hid (v.S++u.S++M) H)):Tw t G H M F E v u:=⟨h.a,h.b,h.dj,h.mv,s⟩
theorem PQ.same {G G':Hp} (h:PQ G F) (s:zy G G'):PQ G' F:=⟨h.cd.same s,h.ok,h.s4⟩
theorem zas:Kg ["script","codes","plan","slips","listeners","states","at","j","draw","which","deeds","row","deed","due","k","ones","number","sure"] ["script"] (zi zcd):=#[S]
theorem zoX (T:Txt K mg t) (F:Fun K "law" "law" zcd t.law fd):Kq P w K mg base CX0 10 t.law fd ["script"] (zgm K):=by
 obtain⟨xC,sh,qr⟩:=T.Nd;have vf:=zku (P:=P) (w:=w) (base:=base) T sh;obtain⟨rP,nL,nN⟩:=T.LI;have ph:=ze1 (P:=P) (w:=w) (base:=base) T nL;obtain⟨BG,DG,wo⟩:=T.O4;have DH:=znn (P:=P) (w:=w) (base:=base) T DG;obtain⟨xD,vg,si⟩:=T.Nc;have Aa:=zkW (P:=P) (w:=w) (base:=base) T vg;obtain⟨DI,FR,xb⟩:=T.Qd;have Cp:=zoN (P:=P) (w:=w) (base:=base) T FR;obtain⟨wq,tZ,qL⟩:=T.Mw;have xE:=ziI (P:=P) (w:=w) (base:=base) T tZ;obtain⟨xF,vh,sj⟩:=T.Nb;have Ab:=zkY (P:=P) (w:=w) (base:=base) T vh;obtain⟨vi,sk,pS⟩:=T.LU;have wt:=zhS (P:=P) (w:=w) (base:=base) T sk;obtain⟨tX,rW,oZ⟩:=T.Mg;have rX:=zf4 (P:=P) (w:=w) (base:=base) T rW;obtain⟨xG,vj,sm⟩:=T.M8;have Ac:=zkS (P:=P) (w:=w) (base:=base) T vj;obtain⟨BH,DJ,wu⟩:=T.O0;have DK:=znA (P:=P) (w:=w) (base:=base) T DJ;refine F.ok zas #[ol] #[ac]
 ·obtain⟨a,ns,rfl,_⟩:=h;rfl
 ·obtain⟨a,ns,rfl,hS,mS,q⟩:=h;have hu:(A.deeper (envOfC (bL "law") (zi zcd) s.heap.objs.size t.law mV)).units+20 < cLine:=by have:=hr.units; lia
  refine zaG ?_; intro zX;refine⟨_,#[ze,#[zr,1,zas.nd,#[U9],#[zK,#[za,#[zI,vf,#[pc],T.N1,sh.kp,qr,#[zP],#[za,#[wn],by exact #[SR]]],#[ya,#[zI,vf,#[pc],T.N1,sh.kp,qr,#[zP],#[za,#[wn],by exact #[SR]]]]]]],#[ze,#[zr,2,zas.nd,#[A],#[zI,ph,#[pc],T.Mn,nL.kp,nN,#[zP],#[za,#[wn],by exact #[SR]]]],#[ze,(zeW #[zan,#[zA,#[zaX],#[Ty],#[zh],(zF _)],#[zl,#[za5,#[zx,#[zC],#[ww],#[zh]],#[zc9,#[ww],#[zh],set_list]]],#[zO]]),#[ze,#[zr,3,zas.nd,#[U9],#[zK,#[za,#[Ty],#[ya,#[Ty]]]]],#[ze,#[zaz,4,zas.nd,#[A],(Ki.of (N':=["k","codes","slips"]) (ix:=[none,some 1,some 3]) (zi zcd) _ rfl rfl rfl),#[zay],#[zap,T.Kz,#[RI]],#[ut],#[wP],(fun _ _ _ _=>(@zmG _ _ _ _ _ _ _ _ _ _ _ _ _ _ _ _ _ T.mkr DH #[pc] rfl T.Ol wo .nil #[zP] #[za,#[zx,#[Xn],#[ww],#[wn]],#[ya,#[zx,#[Xn],#[QT],#[wn]]]] #[D] (by rfl) (by rfl)))],#[ze,#[zaz,5,zas.nd,#[A],(Ki.of (N':=["code"]) (ix:=[none]) (zi zcd) _ rfl rfl rfl),#[zay],#[zao,#[ww]],#[ut],#[wP],(fun _ _ _ _=>#[zK,#[ya,#[zn,#[zeB],#[zK,#[ya,#[zaw]]],#[zt,#[za0,(K)],T.LL,bM,#[ya,#[zx,#[zaI,(K)],#[wn],#[zh]]]]]]])],#[ze,#[zr,6,zas.nd,#[A],#[zK,#[za,#[zh],#[RI]]]],#[ze,#[za6,bD,#[zgY,T.LY,#[ya,#[zI,ph,#[pc],T.Mn,nL.kp,nN,#[zP],#[za,#[wn],by exact #[za,#[zh],#[za,#[zh],#[ya,#[zn,#[zai],#[zh],#[zh]]]]]]]]],#[zbe,#[zq,#[zm,7,zas.nd,#[A]],#[zq,#[zm,8,zas.nd,#[A]],#[zY]]]],#[ze,#[zr,9,zas.nd,#[A],#[zaN,#[zfz],T.QJ,boot_int,#[ya,#[ziO,#[zaX],#[zn,#[zL],#[Vo],#[zh]],#[zh],(zF _)]]]],#[ze,#[zr,10,zas.nd,#[A],#[zK,#[ya,#[zI,Aa,#[pc],T.Pw,vg.kp,si,#[zP],#[za,#[zn,#[zci],#[Vo],#[zh]],#[ya,#[zx,#[zC],#[ww],#[Vn]]]]]]]],#[ze,(zeW #[zan,#[Sh],#[ze,#[zr,11,zas.nd,#[A],#[zdi,#[zx,#[zC],#[TJ],#[zn,#[zbf],#[zh],#[Vn]]],T.cl,T.PY,Cp,#[pc],xb,#[zP]]],#[zl,#[zaz,10,zas.nd,#[A],(Ki.of (N':=["number","entry"]) (ix:=[none,none]) (zi zcd) _ rfl rfl rfl),#[KB],#[zgY,T.LY,#[ya,#[pvx,11]]],#[or],#[WC],(fun _ _ _ _=>#[zaf,#[za,#[zR],#[V7]]])]]],#[zO]]),#[ze,#[za6,bD,#[zao,#[pvx,10]],#[zm,12,zas.nd,#[A]],#[ze,#[za5,#[zI,xE,#[pc],T.OW,tZ.kp,qL,#[zP],#[za,#[zx,#[zC],#[ww],#[Vn]],by exact #[za,#[zx,#[zC],#[Uf],#[Vn]],#[za,#[zx,#[zC],#[pvx,6],#[Vn]],#[ya,#[pvx,12]]]]]],#[zbe,#[zq,#[zc9,#[Uf],#[Vn],set_list],#[zq,#[zc9,#[pvx,6],#[Vn],set_list],#[zq,#[zm,13,zas.nd,#[A]],#[zY]]]]]],#[zl,#[zan,#[zA,#[ziM],#[zI,Ab,#[pc],T.Pu,vh.kp,sj,#[zP],#[za,#[zx,#[zC],#[TJ],#[Vn]],#[ya,#[pvx,12]]]],#[pvx,13],(zF _)],#[Vv],#[zO]]]]],#[zl,#[za6,bD,#[zap,T.Kz,#[RI]],#[zm,14,zas.nd,#[A]],#[ze,#[zr,11,zas.nd,#[A],#[zx,#[zC],#[zx,#[zC],#[Uf],#[pvx,14]],#[zx,#[zC],#[pvx,6],#[pvx,14]]]],#[ze,(zeW #[zr,15,zas.nd,#[A],#[zI,wt,#[pc],T.Ov,sk.kp,pS,#[zP],#[za,#[zx,#[zC],#[ww],#[pvx,14]],#[za,#[pvx,11],#[ya,#[zx,#[zC],#[Rn],#[pvx,14]]]]]]]),#[ze,#[zr,16,zas.nd,#[A],#[zn,#[zL],#[zn,#[zci],#[Vo],#[zh]],#[zt,#[zB],T.LL,bM,#[ya,#[pvx,11]]]]],#[ze,(zeW #[zan,(@PW.pt _ _ _ #[znG,#[zA,#[zig,hu],#[zdi,#[VD],T.cl,T.PY,Cp,#[pc],xb,#[zP]],#[pvx,11],(zF _)],#[zk2,(@PW.pt _ _ _ #[zc7,#[Sh],#[zch,#[zA,(zoW hu),#[zdi,#[VD],T.cl,T.Np,rX,#[pc],oZ,#[zP]],#[pvx,15],(zF _)]]])]]),#[Vv],#[zO]]),#[ze,#[zr,17,zas.nd,#[A],#[zI,Ac,#[pc],T.Pq,vj.kp,sm,#[zP],#[za,#[zx,#[zC],#[ww],#[pvx,14]],#[za,#[pvx,15],#[ya,#[pvx,16]]]]]],#[zl,#[zan,(@PW.pt _ _ _ #[zc7,#[Sh],#[zch,#[zA,#[ziM],#[zcN,#[VD],T.cl,T.P7,DK,#[pc],wu,#[zP],#[ya,#[pvx,16]]],#[pvx,17],(zF _)]]]),#[Vv],#[zO]]]]]]]]]]]]]]],#[Vv]]]]]]]]],?_⟩;refine zpj ?_; intro zN9 zN8 GF C8 Bn uI qD pP;have qj:=aS;refine (mr rfl (ex5 a ns 0 3 8 ⟨rfl,hS,mS,#[D],#[D],#[D],#[D],#[D],#[D],fun c0 FT p0 kI0 yg H1 IX s1 G7 tT h1t=>?_⟩));refine (mr rfl (ex5 a ns 1 3 8 ⟨rfl,s1.seq hS,mS,#[D],#[D],#[D],#[D],#[D],#[D],fun c1 Cq p1 kI1 rE H2 yU s2 DL h2c h2t=>?_⟩));have GB:=G7.k1;have GH:=DL.k1;obtain⟨k0,rfl⟩:∃ k:Nat,kI0=k:=⟨kI0.toNat,#[O]⟩;obtain⟨k1,rfl⟩:∃ k:Nat,kI1=k:=⟨kI1.toNat,#[O]⟩;have s12:=s1.trans s2;have cd0:zaH H2 c0 FT p0 k0 yg:=⟨s2 _ _ tT,s2 _ _ h1t⟩;have G8:zaH H2 c1 Cq p1 k1 rE:=⟨h2c,h2t⟩;have AK:=s12.seq hS;refine⟨by show 2<=sizeLine; lia,fun cs hcs=>?_⟩;have u2:=zd (o:=.lst [.ref c0,.ref c1]) hcs;refine (mr rfl (ex5 a ns 2 4 27720 ⟨rfl,u2.seq AK,mS,#[D],#[D],#[D],#[D],#[D],#[D],fun pa pd H3 hpa s3 hpd JA=>?_⟩));have p4:pd.length=4:=hpd.1;have JB:=s3 _ _ (zb (H:=H2) (a:=cs) (o:=.lst [.ref c0,.ref c1]));have s23:zy H2 H3:=u2.trans s3;have Fl:pa≠cs:=fun z=>by
   rw [z,zb] at hpa;cases hpa
  obtain⟨v0,FP⟩:=zbV (ns:=pd) (k:=0) #[D] #[O];obtain⟨v1,hv1⟩:=zbV (ns:=pd) (k:=1) #[D] #[O];obtain⟨v2,hv2⟩:=zbV (ns:=pd) (k:=2) #[D] #[O];refine⟨fun σ' H'=>∃ (c1 Cq:Addr) (p1:Int) (k1:Nat) (rE:List Int),σ' = [some #[Rf],some (.ref cs),some (.ref pa),none,none,none,none,none,none,none,none,none,none,none,none,none,none,none]/\zy H2 H'/\zaH H2 c1 Cq p1 k1 rE/\Pf 3 8 p1 k1 rE/\H' cs=some (.lst [.ref c0,.ref c1])/\H' pa=some (.lst (pd.map V.int)),?_,?_⟩
  ·refine (mr rfl (ex4 pa _ _ (.int v0) ⟨rfl,rfl,mB.of JA,FP,(mJ rfl rfl ⟨(by show (0:Int) < 2; decide),rfl,#[Db]⟩)⟩));refine zaY (fun g=>?_) (fun g=>(ex5 c1 Cq p1 k1 rE ⟨rfl,s23,G8,DL,JB,JA⟩));refine (mr rfl (ex4 cs _ _ (.ref c0) ⟨rfl,rfl,mB.of JB,rfl,(mr rfl (ex4 cs _ 1 1 ⟨rfl,rfl,JB,rfl,?_⟩))⟩));refine (ex5 c0 FT p0 k0 yg ⟨rfl,fun b o e=>?_,cd0,G7,zb,by rw [zg Fl]; exact JA⟩);rw [zg (zj e hcs)];exact s23 _ _ e
  clear GH G8 DL h2c h2t yU;rintro σ H4 ⟨c1,Cq,p1,k1,rE,rfl,s4,G8,DL,h4s,h4p⟩;have GH:=DL.k1;have m0:=aQ v1 (show (5:Int)≠0 by decide);have m1:=aK v1 (show (0:Int) < 5 by decide);have n0:=aQ v2 (show (5:Int)≠0 by decide);have n1:=aK v2 (show (0:Int) < 5 by decide);obtain⟨DM,e0⟩:∃ sl:Nat,v1 % 5=(sl:Int):=⟨(v1 % 5).toNat,#[O]⟩;obtain⟨Eo,e1⟩:∃ sl:Nat,v2 % 5=(sl:Int):=⟨(v2 % 5).toNat,#[O]⟩;refine (mr rfl (ex4 pa _ _ (.int v1) ⟨rfl,rfl,mB.of h4p,hv1,(mJ rfl rfl ⟨(by show (0:Int) < 5; decide),(mr rfl (ex4 pa _ _ (.int v2) ⟨rfl,rfl,mB.of h4p,hv2,(mJ rfl rfl ⟨(by show (0:Int) < 5; decide),by show 2<=sizeLine; lia,fun sp tj=>?_⟩)⟩))⟩)⟩));have u5:=zd (o:=.lst [.int (v1 % 5),.int (v2 % 5)]) tj;have Ep:mz H4 sp (.lst [.int (v1 % 5),.int (v2 % 5)]) sp=some (.lst [.int (v1 % 5),.int (v2 % 5)]):=zb;generalize eH5:mz H4 sp (.lst [.int (v1 % 5),.int (v2 % 5)])=H5 at u5 Ep |-;rw [e0,e1] at Ep;have G9:=u5 _ _ h4s;have JC:=s4.trans u5;have DN:=cd0.same JC;have DO:=G8.same JC;have ln0:=G7.ln;have ln1:=DL.ln;have hS5:=JC.seq AK;refine⟨2,rfl,#[D],#[D],?_⟩;refine z6 (n:=2) (fun i ys H'=>(i=0/\ys = []/\H'=H5)\/(i=1/\∃ x0 S0,ys = [.ref x0]/\Ls t.Kf H' S0 x0 c0 p0 DM #[VT] [] []/\zy H5 (hid S0 H'))\/(i=2/\∃ x0 S0 x1 S1,ys = [.ref x0,.ref x1]/\Ls t.Kf H' S0 x0 c0 p0 DM #[VT] [] []/\Ls t.Kf H' S1 x1 c1 p1 Eo (ak rE.length none) [] []/\(∀ b∈S0,b∉S1)/\zy H5 (hid (S0++S1) H'))) (.inl ⟨rfl,rfl,rfl⟩) #[Sg] #[RJ] ?_ ?_
  ·rintro zS zT zE i y ys H6 H7 hi (⟨rfl,rfl,rfl⟩ | ⟨rfl,x0,S0,rfl,L0,g0⟩ | ⟨rfl,_⟩) ⟨rfl,rfl⟩
   ·refine gY (mr rfl (mr rfl (ex4 cs _ _ (.ref c0) ⟨rfl,rfl,mB.of G9,rfl,(mr rfl (mr rfl (ex4 sp _ _ (.int (DM:Int)) ⟨rfl,rfl,mB.of Ep,rfl,?_⟩)))⟩)));intro x dx nx JD JE;have sX:zy H7 (mz (mz H7 dx (.own x)) x (.ins t.Kf dx [])):=fun b o e=>by
     (rw [zg (zj e nx),zg (zj e JD)])
     exact e
    refine (ex8 x dx c0 FT DM p0 k0 yg ⟨rfl,zb,by rw [zg JE]; exact zb,DN.same sX,#[O],fun S H8 L8 kp JF=>⟨rfl,by show 0 < sizeLine; lia,.inr (.inl ⟨rfl,x,S,rfl,L8,fun b o e=>?_⟩)⟩⟩);have nb:b≠x:=zj e nx;refine zah (kp b o (sX b o e) nb) fun hb=>?_
    rcases JF b hb with z | z
    ·exact nb z
    ·rw [sX b o e] at z; cases z
   ·have JG:=g0.trans #[SW];refine gY (mr rfl (mr rfl (ex4 cs _ _ (.ref c1) ⟨rfl,rfl,mB.of (JG _ _ G9),rfl,(mr rfl (mr rfl (ex4 sp _ _ (.int (Eo:Int)) ⟨rfl,rfl,mB.of (JG _ _ Ep),rfl,?_⟩)))⟩)));intro x dx nx JD JE;have sX:zy H7 (mz (mz H7 dx (.own x)) x (.ins t.Kf dx [])):=fun b o e=>by
     (rw [zg (zj e nx),zg (zj e JD)])
     exact e
    refine (ex8 x dx c1 Cq Eo p1 k1 rE ⟨rfl,zb,by rw [zg JE]; exact zb,(DO.same JG).same sX,#[O],fun S H8 L8 kp JF=>?_⟩);have Ha:∀ b o,H7 b=some o->H8 b=some o/\b∉S:=fun b o e=>by
     have nb:b≠x:=zj e nx;refine⟨kp b o (sX b o e) nb,fun hb=>?_⟩;rcases JF b hb with z | z
     ·exact nb z
     ·rw [sX b o e] at z; cases z
    refine⟨rfl,by show 1 < sizeLine; lia,.inr (.inr ⟨rfl,x0,S0,x,S,rfl,L0.same fun b o e=>(Ha b o e).1,L8,fun b hb=>?_,fun b o e=>?_⟩)⟩
    ·rcases L0.own b hb with ⟨_,z⟩ | ⟨_,_,_,z⟩ <;> exact (Ha _ _ z).2
    ·obtain⟨z1,z2⟩:=zbh (g0 b o e);refine zah (Ha b o z1).1 fun hb=>?_
     rcases (aC.mp hb) with hb | hb
     ·exact z2 hb
     ·exact (Ha b o z1).2 hb
   ·lia
  rintro ys H6 ls GV JH;obtain⟨x0,S0,x1,S1,rfl,L0,L1,dj,g6⟩:∃ x0 S0 x1 S1,ys = [.ref x0,.ref x1]/\Ls t.Kf H6 S0 x0 c0 p0 DM #[VT] [] []/\Ls t.Kf H6 S1 x1 c1 p1 Eo (ak rE.length none) [] []/\(∀ b∈S0,b∉S1)/\zy H5 (hid (S0++S1) H6):=by
   rcases GV with ⟨z,_⟩ | ⟨z,_⟩ | ⟨_,z⟩
   ·lia
   ·lia
   ·exact z
  have u7:=zd (o:=.lst [.ref x0,.ref x1]) JH;have Er:mz H6 ls (.lst [.ref x0,.ref x1]) ls=some (.lst [.ref x0,.ref x1]):=zb;have nls:ls∉S0++S1:=fun hb=>by
   rcases (aC.mp hb) with hb | hb
   ·exact L0.fresh JH hb
   ·exact L1.fresh JH hb
  generalize mz H6 ls (.lst [.ref x0,.ref x1])=H7 at u7 Er |-;have g7:=g6.trans (zbL u7);have q7:=g7.trans #[SW];have L0:=L0.same u7;have L1:=L1.same u7;have Hb:=q7 _ _ G9;have h7p:=q7 _ _ Ep;have JI:=DN.same q7;have JJ:=DO.same q7;have hS7:=q7.seq hS5;refine (mr rfl ⟨cs,rfl,⟨_,mB.of Hb⟩,?_⟩);have key:∀ (i:Nat) (y:V),[V.ref c0,V.ref c1][i]? = some y->∃ (cc tx:Addr) (pp kk:Int) (qq:List Int),y = .ref cc/\zaH H7 cc tx pp kk qq/\qq=(if i=0 then yg else rE)/\qq.length<=8:=fun i y hy=>by
   match i,hy with
   | 0,hy =>
    cases hy;exact (ex5 c0 FT p0 k0 yg ⟨rfl,JI,rfl,#[O]⟩)
   | 1,hy =>
    cases hy;exact (ex5 c1 Cq p1 k1 rE ⟨rfl,JJ,rfl,#[O]⟩)
  refine z6 (n:=2) (fun i ys H'=>zy H7 H'/\∃ (ps:List (Addr×Addr)),ps.length=i/\ys=ps.map (fun z=>V.ref z.1)/\∀ (m:Nat) (z:Addr×Addr),ps[m]? = some z->H7 z.1=none/\H7 z.2=none/\H' z.1=some (.lst [.ref z.2])/\H' z.2=some (.lst ((ak (if m=0 then yg else rE).length (none:Option Int)).map mM))) ⟨fun _ _ e=>e,[],rfl,rfl,fun m z hz=>(by simp at hz)⟩ ?_ ?_ ?_ ?_
  ·rintro i ys H8 hi ⟨s8,_⟩;exact⟨_,[V.ref c0,V.ref c1][i],mB.of (s8 _ _ Hb),aF hi⟩
  ·rintro ys H8 ⟨s8,_⟩;exact⟨_,mB.of (s8 _ _ Hb),ai _⟩
  ·rintro zS zT zE i y ys H8 H9 hi ⟨s8,ps,nZ,rfl,mX⟩ ⟨rfl,hy⟩;obtain⟨cc,tx,pp,kk,qq,rfl,cdq,eqq,q8⟩:=key i y (hy _ (mB.of (s8 _ _ Hb)));have cd9:=cdq.same s8;refine gY ⟨by show 1<=sizeLine; lia,fun z hz=>(mr rfl (ex4 cc _ _ _ ⟨rfl,rfl,mK.of ((zd hz) _ _ cd9.1),rfl,tx,(mr rfl ⟨.inr (mK.of ((zd hz) _ _ cd9.2)),z,_,[.non],rfl,rfl,zb,by rw [ae]; lia,by rw [ae]; lia,by rw [ae]; show 1*_<=sizeLine; lia,fun r0 yf=>⟨by show 1<=sizeLine; lia,fun sa uh=>?_⟩⟩)⟩))⟩;have el:(qq.map V.int).length=qq.length:=ae _;rw [el,zjv,a8] at uh |-;have w1:=zd (o:=.lst [.non]) hz;have w2:=zd (o:=.lst ((ak qq.length (none:Option Int)).map mM)) yf;have w3:=zd (o:=.lst [V.ref r0]) uh;have sA:=w1.trans (w2.trans w3);refine⟨by rw [ae]; lia,s8.trans sA,ps++[(sa,r0)],by simp [nZ],#[M],fun m z hz=>?_⟩;by_cases hm:m < ps.length
   ·rw [aT hm] at hz;obtain⟨z1,z2,z3,z4⟩:=mX m z hz;exact⟨z1,z2,sA _ _ z3,sA _ _ z4⟩
   ·have xn:m < ps.length+1:=by
     have:=(aj.mp hz).1;simpa using this
    have em:m=i:=by lia
    rw [aV #[O],show m - ps.length=0 by lia] at hz;have hz:(sa,r0)=z:=by simpa using hz
    subst hz;refine⟨(s8.trans (w1.trans w2)).free uh,(s8.trans w1).free yf,zb,?_⟩;rw [em,<- eqq];exact w3 _ _ zb
  rintro ys H8 sts ⟨s8,ps,nZ,rfl,mX⟩ oj;obtain⟨AO,r0,AQ,r1,rfl⟩:∃ AO r0 AQ r1,ps = [(AO,r0),(AQ,r1)]:=by
   match ps,nZ with
   | [(s0,r0),(s1,r1)],_=>exact⟨s0,r0,s1,r1,rfl⟩
  obtain⟨f1,f2,f3,f4⟩:=mX 0 _ rfl;obtain⟨g1,g2,g3,g4⟩:=mX 1 _ rfl;clear mX nZ;have u9:=zd (o:=.lst [.ref AO,.ref AQ]) oj;refine⟨by show 2<=sizeLine; lia,fun nv qF=>?_⟩;show zaD 6 (V.ref nv) _ (mz (mz H8 sts (.lst [.ref AO,.ref AQ])) nv (.lst [.int 0,.int 0])) _;have Cr:mz H8 sts (.lst [.ref AO,.ref AQ]) sts=some (.lst [.ref AO,.ref AQ]):=zb;have vm:mz H8 sts (.lst [.ref AO,.ref AQ]) nv=none:=qF;generalize mz H8 sts (.lst [.ref AO,.ref AQ])=H9 at u9 Cr vm |-;have uA:=zd (o:=.lst [.int 0,.int 0]) vm;have FU:mz H9 nv (.lst [.int 0,.int 0]) nv=some (.lst [.int 0,.int 0]):=zb;have FV:=uA _ _ Cr;generalize mz H9 nv (.lst [.int 0,.int 0])=HA at uA FU FV |-;have nst:sts≠nv:=fun z=>by
   rw [z] at Cr;rw [Cr] at vm;cases vm
  have Hc:=s8.trans (u9.trans uA);have L0A:=L0.same Hc;have L1A:=L1.same Hc;have fst:∀ b,H7 b=none->b∉S0++S1:=fun b e hb=>by
   rcases (aC.mp hb) with hb | hb
   ·exact L0.fresh e hb
   ·exact L1.fresh e hb
  have JK:=fst sts (s8.free oj);have JL:=fst nv ((s8.trans u9).free vm);have hM:∀ b∈[sts,nv],b∉S0/\b∉S1/\∃ xs,HA b=some #[RH]:=fun b hb=>by
   simp at hb JK JL;rcases hb with rfl | rfl
   ·exact⟨JK.1,JK.2,_,FV⟩
   ·exact⟨JL.1,JL.2,_,FU⟩
  have nM:∀ b o,HA b=some o->H7 b=some o\/(∃ z,o = .lst [.ref z])\/True:=fun _ _ _=>.inr (.inr trivial)
  have gA:zy H5 (hid (S0++S1++[sts,nv]) HA):=fun b o e=>by
   obtain⟨z1,z2⟩:=zbh (g7 b o e);refine zah (Hc _ _ z1) fun hb=>?_
   rcases (aC.mp hb) with hb | hb
   ·exact z2 hb
   ·simp at hb;rcases hb with rfl | rfl
    ·rw [s8.free oj] at z1; cases z1
    ·rw [(s8.trans u9).free vm] at z1; cases z1
  have fr:∀ b,H8 b≠none->H7 b=none->b∉S0++S1++[sts,nv]:=fun b e1 e2 hb=>by
   rcases (aC.mp hb) with hb | hb
   ·exact fst b e2 hb
   ·simp at hb;rcases hb with rfl | rfl
    ·exact e1 oj
    ·exact e1 (u9.free vm)
  have Gi:∀ b o,H7 b=none->H8 b=some o->hid (S0++S1++[sts,nv]) HA b=some o:=fun b o e1 e2=>zah ((u9.trans uA) _ _ e2) (fr b (by rw [e2]; simp) e1)
  have tpl:∀ (S:List Addr) (x c:Addr) (pp sl:Int) (es:Rw),Ls t.Kf HA S x c pp sl es [] []->∀ b∈S++[sts,nv],∀ xs,¬ HA b=some #[Rp]:=fun S x c pp sl es hL b hb xs e=>by
   rcases (aC.mp hb) with hb | hb
   ·exact hL.tup e hb
   ·obtain⟨_,_,ys,z⟩:=hM b hb;rw [e] at z;cases z
  have stt:∀ (n:Nat) (sa r:Addr),H7 sa=none->H7 r=none->H8 sa=some (.lst [.ref r])->H8 r=some (.lst ((ak n (none:Option Int)).map mM))->My.St (hid (S0++S1++[sts,nv]) HA) sa [r] [ak n none]:=fun n sa r y1 y2 y3 y4=>by
   refine⟨Gi _ _ y1 y3,rfl,fun i r' w e1 e2=>?_⟩;cases i with
   | zero =>
    have e1:r=r':=by simpa using e1
    have e2:ak n none=w:=by simpa using e2
    subst e1 e2;exact Gi _ _ y2 y4
   | succ i=>simp at e1
  have jn:∀ n:Nat,Jn n [ak n none] 0 (ak n none) [] []:=fun n=>⟨rfl,rfl,rfl,fun i r r' d e1 e2 e3=>by simp at e2,fun r hr=>by
   have:r=ak n none:=by simpa using hr
   rw [this,dw]⟩
  have rgn:∀ (n:Nat) (pp:Int),∀ r∈[ak n (none:Option Int)],zhT pp r:=fun n pp r hr z hz=>by
   have:r=ak n none:=by simpa using hr
   rw [this] at hz;cases List.eq_of_mem_replicate hz
  obtain⟨F0,Es⟩:∃ F:Fx,F=⟨x0,c0,FT,p0,k0,DM,yg⟩:=⟨_,rfl⟩;obtain⟨F1,Et⟩:∃ F:Fx,F=⟨x1,c1,Cq,p1,k1,Eo,rE⟩:=⟨_,rfl⟩;have T0:Tw t (hid (S0++S1++[sts,nv]) HA) HA [sts,nv] F0 F1 ⟨S0,AO,[r0],[ak yg.length none],0,ak yg.length none,[],[]⟩ ⟨S1,AQ,[r1],[ak rE.length none],0,ak rE.length none,[],[]⟩:=by
   subst Es Et;refine⟨⟨L0A.hide #[WR] (tpl _ _ _ _ _ _ L1A),stt _ _ _ f1 f2 f3 f4,jn _,rgn _ _⟩,⟨L1A.hide #[WR] (tpl _ _ _ _ _ _ L0A),stt _ _ _ g1 g2 g3 g4,jn _,rgn _ _⟩,dj,hM,fun _ _ e=>e⟩
   ·rcases (aC.mp hb) with hb | hb
    ·exact fun z=>dj b z hb
    ·exact (hM b hb).1
   ·rcases (aC.mp hb) with hb | hb
    ·exact fun z=>dj b hb z
    ·exact (hM b hb).2.1
  have Eu:PQ (hid (S0++S1++[sts,nv]) HA) F0:=by
   subst Es;exact⟨DN.same gA,G7,by show DM<=4; lia⟩
  have Ew:PQ (hid (S0++S1++[sts,nv]) HA) F1:=by
   subst Et;exact⟨DO.same gA,DL,by show Eo<=4; lia⟩
  have Ex:hid (S0++S1++[sts,nv]) HA ls=some (.lst (pr 0 (.ref F0.x) (.ref F1.x))):=by
   subst Es Et;refine zah (Hc _ _ Er) fun hb=>?_
   rcases (aC.mp hb) with hb | hb
   ·exact nls hb
   ·simp at hb;rcases hb with rfl | rfl
    ·rw [s8.free oj] at Er; cases Er
    ·rw [(s8.trans u9).free vm] at Er; cases Er
  have Ey:hid (S0++S1++[sts,nv]) HA cs=some (.lst (pr 0 (.ref F0.c) (.ref F1.c))):=by
   subst Es Et;exact gA _ _ G9
  have FW:hid (S0++S1++[sts,nv]) HA sp=some (.lst (pr 0 (.int F0.sl) (.int F1.sl))):=by
   subst Es Et;exact gA _ _ Ep
  have hSA:=(gA.trans #[SW]).seq hS5;have FV:HA sts=some (.lst (pr 0 (.ref AO) (.ref AQ))):=FV;have FU:HA nv=some (.lst (pr 0 (.int ((0:Nat):Int)) (.int ((0:Nat):Int)))):=FU;generalize hid (S0++S1++[sts,nv]) HA=G0 at T0 Eu Ew Ex Ey FW;clear Es Et;refine (mr rfl (mJ rfl rfl ⟨.inl #[P3],a,ns,3,40,(mr rfl ⟨hSA,mS,#[D],#[D],#[D],#[D],#[D],#[D],fun dr dl HB yQ sB AH hBd=>?_⟩)⟩));have h40:dl.length=40:=AH.1;have TB:=T0.same sB;have Hd:hid (S0++S1++[sts,nv]) HB dr=some (.lst (dl.map V.int)):=zah hBd (T0.fresh yQ);have gB:zy G0 (hid (S0++S1++[sts,nv]) HB):=TB.g;have T1:Tw t (hid (S0++S1++[sts,nv]) HB) HB [sts,nv] F0 F1 _ _:=TB.re fun _ _ e=>e
  have Eu:=Eu.same gB;have Ew:=Ew.same gB;have Ex:=gB _ _ Ex;have Ey:=gB _ _ Ey;have FW:=gB _ _ FW;have hBs:=sB _ _ FV;have hBa:=sB _ _ FU;generalize hid (S0++S1++[sts,nv]) HB=G1 at T1 Eu Ew Ex Ey FW Hd;refine⟨dr,_,rfl,mB.of hBd,zgd (n:=dl.length) (fun i σ H'=>∃ (v u:Lv) (e7 e8 e9 Co xH xI xJ Ad Ae yh xK:Option V),σ = [some #[Rf],some (.ref cs),some (.ref pa),some (.ref sp),some (.ref ls),some #[Xp],some (.ref nv),e7,e8,e9,Co,xH,xI,xJ,Ad,Ae,yh,xK]/\Tw t G1 H' [sts,nv] F0 F1 v u/\H' sts=some (.lst (pr 0 (.ref v.sa) (.ref u.sa)))/\H' nv=some (.lst (pr 0 (.int (v.at':Int)) (.int (u.at':Int))))/\v.rows.length<=8*i+1/\u.rows.length<=8*i+1)
   ⟨_,_,none,none,none,none,none,none,none,none,none,none,none,rfl,T1,hBs,hBa,ai _,ai _⟩ ?_ ?_ ?_ ?_⟩
  ·rintro j σ H8 hj ⟨v,u,e7,e8,e9,Co,xH,xI,xJ,Ad,Ae,yh,xK,_,T,_⟩;exact⟨_,.int dl[j],mB.of #[UH],by rw [ao,aF hj]; rfl⟩
  ·rintro σ H8 ⟨v,u,e7,e8,e9,Co,xH,xI,xJ,Ad,Ae,yh,xK,_,T,_⟩;exact⟨_,mB.of #[UH],by rw [ae]; exact ai _⟩
  ·rintro zD zT j yy σ H8 H9 hj ⟨v,u,e7,e8,e9,Co,xH,xI,xJ,Ad,Ae,yh,xK,rfl,T,h8s,h8a,hr1,Ef⟩ ⟨TT,uu,hT,rfl,rfl,hu'⟩;obtain⟨dv,rfl,hdv⟩:=zaJ (hu' _ (mB.of #[UH]));have uT:=zd (o:=.tup [.int (j:Int),.int dv]) hT;refine⟨TT,_,rfl,mK.of zb,rfl,_,_,rfl,_,_,rfl,rfl,?_⟩;have T9:=T.same uT;have Cr:=uT _ _ h8s;have JM:=uT _ _ h8a;generalize mz H8 TT (.tup [.int (j:Int),.int dv])=H9 at T9 Cr JM |-;refine (mr rfl (mJ rfl rfl ⟨(by show (0:Int) < 3; decide),rfl,.inr #[Db]⟩));obtain⟨w,ew,hw⟩:∃ w:Nat,(if (decide (V.int (dv % 3)=V.int 0))=true then (1:Int) else 0)=(w:Int)/\w < 2:=by
    split
    ·exact⟨1,rfl,#[D]⟩
    ·exact⟨0,rfl,#[D]⟩
   show zaD 9 (V.int (if (decide (V.int (dv % 3)=V.int 0))=true then 1 else 0)) _ H9 _;rw [ew];obtain⟨F,E,vw,vo,TW,fF,fE,pF,pV,hvv,bk⟩:=view T9 Eu Ew hw;rw [pV #[Wt]] at Cr;rw [pV (fun l=>V.int (l.at':Int))] at JM;have JN:=Ey;rw [pF (fun l=>V.ref l.c)] at JN;have JO:=Ex;rw [pF (fun l=>V.ref l.x)] at JO;have GH:=fF.ok.k1;have hkl:=fF.ok.kl;have ln:=fF.ok.ln;have rp:=zQ fF.ok.pr;have g9:=TW.g.trans #[SW];refine (mr rfl (mJ rfl rfl ⟨#[P3],(mr rfl (mr rfl (ex4 cs _ _ (.ref F.c) ⟨rfl,rfl,mB.of (g9 _ _ JN),zcg hw,dv / 3,F.p,F.k,F.c,F.tt,F.pl,rfl,fF.cd.same g9,#[O],#[O],#[O],#[O],fun D0 d0 Jt hd0 AN tf=>⟨by show 1<=sizeLine; lia,fun JP FX=>?_⟩⟩)))⟩));have uD:=zd (o:=.lst [V.ref d0]) FX;have He:=AN.trans uD;have TD:=TW.same He;have gD:=g9.trans He;refine⟨fun σ' H'=>∃ (dd:Addr) (rd:List Addr) (Ds:List Dd) (xH:Option V),σ' = [some #[Rf],some (.ref cs),some (.ref pa),some (.ref sp),some (.ref ls),some #[Xp],some (.ref nv),some (.int (j:Int)),some (.int dv),some (.int (w:Int)),some (.ref dd),xH,xI,xJ,Ad,Ae,yh,xK]/\zy H9 H'/\H9 dd=none/\H' dd=some (.lst (rd.map V.ref))/\rd.length=Ds.length/\rd.length<=8/\∀ (i:Nat) (r:Addr) (D:Dd),rd[i]? = some r->Ds[i]? = some D->H9 r=none/\H' r=some #[TU],?_,?_⟩
   ·refine (mr rfl (mJ rfl rfl ⟨(by show (0:Int) < 9; decide),rfl,#[Db]⟩));refine zaY (fun g=>?_) (fun g=>(ex4 JP ([d0]) ([D0]) _ ⟨rfl,He,AN.free FX,zb,rfl,#[M],fun i r D e1 e2=>?_⟩))
    ·have EL:=TD.b.L.same #[SW];obtain⟨FY,ea,da,ua,kk,ttt,drr,urr,eS,_,_,_,JQ,_⟩:=EL.ex;have le:vo.es.length=E.pl.length:=TD.b.J.lt.1;have lnE:=fE.ok.ln;refine⟨_,rfl,_,rfl,_,_,rfl,rfl,ls,_,_,.ref E.x,rfl,rfl,mB.of (gD _ _ JO),zpD hw,E.x,FY,_,rfl,JQ,zbw #[Vm],vo.S,E.x,E.c,E.p,E.sl,vo.es,vo.ds,vo.us,rfl,EL,fun lr B9=>?_⟩;have vL:=zd (o:=.lst ((vo.es:Rw).map mM)) B9;have pJ:mz (mz Jt JP (.lst [V.ref d0])) lr (.lst ((vo.es:Rw).map mM)) lr=some (.lst ((vo.es:Rw).map mM)):=zb;generalize mz (mz Jt JP (.lst [V.ref d0])) lr (.lst ((vo.es:Rw).map mM))=Cs at vL pJ |-;have JR:=He.trans vL;refine (mr rfl ⟨lr,(mr rfl ⟨mB.of pJ,?_⟩)⟩);refine z6 (n:=vo.es.length) (fun i ys H'=>zy Cs H'/\∃ (rd:List Addr) (Ds:List Dd),ys=rd.map V.ref/\rd.length=Ds.length/\rd.length<=i/\∀ (m:Nat) (r:Addr) (D:Dd),rd[m]? = some r->Ds[m]? = some D->Cs r=none/\H' r=some #[TU]) ⟨fun _ _ e=>e,[],[],rfl,rfl,ai _,fun m r D e=>(by simp at e)⟩ ?_ ?_ ?_ ?_
     ·rintro i ys yi hi ⟨pj,_⟩;exact⟨_,mM vo.es[i],mB.of (pj _ _ pJ),by rw [ao,aF hi]; rfl⟩
     ·rintro ys yi ⟨pj,_⟩;exact⟨_,mB.of (pj _ _ pJ),by rw [ae]; exact ai _⟩
     ·rintro zS zT zE i y ys yi Ct hi ⟨pj,rd,Ds,rfl,Hf,l2',hD⟩ ⟨TT2,oo,vQ,rfl,rfl,hoo⟩;obtain⟨o,rfl,ho⟩:=zel (hoo _ (mB.of (pj _ _ pJ)));have FZ:=zd (o:=.tup [.int (i:Int),mM o]) vQ;refine⟨TT2,_,rfl,mK.of zb,rfl,_,_,rfl,_,_,rfl,rfl,?_⟩;refine #[u8];refine zaY #[SQ] (fun h=>⟨pj.trans FZ,rd,Ds,rfl,Hf,#[O],fun m r D e1 e2=>⟨#[S5].1,FZ _ _ #[S5].2⟩⟩);obtain⟨z,rfl⟩:∃ z,o=some z:=by
       cases o with
       | none=>exact absurd h (by simp [mM])
       | some z=>exact⟨z,rfl⟩
      refine (mr rfl (mr rfl ⟨by show 3<=sizeLine; lia,fun tq JS=>⟨by rw [ae]; lia,pj.trans (FZ.trans (zd JS)),rd++[tq],Ds++[.ME (i:Int) z],by rw [aw]; rfl,by simp [Hf],by simp; lia,fun m r D e1 e2=>?_⟩⟩));by_cases hm:m < rd.length
      ·rw [aT hm] at e1;rw [aT #[O]] at e2;exact⟨#[S5].1,(zd JS) _ _ (FZ _ _ #[S5].2)⟩
      ·rw [aV #[O]] at e1;rw [aV #[O]] at e2;have e0:m - rd.length=0:=by
        have:=(aj.mp e1).1;simp at this;lia
       rw [e0] at e1;rw [show m - Ds.length=0 by lia] at e2;have e1:tq=r:=by simpa using e1
       have e2:Dd.ME (i:Int) z=D:=by simpa using e2
       subst e1 e2;exact⟨(pj.trans FZ).free JS,zb⟩
     ·rintro ys yi dd ⟨pj,rd,Ds,rfl,Hf,l2',hD⟩ AG;have uE:=zd (o:=.lst (rd.map V.ref)) AG;exact (ex4 dd rd Ds _ ⟨rfl,(JR.trans pj).trans uE,(JR.trans pj).free AG,zb,Hf,#[O],fun m r D e1 e2=>⟨JR.free #[S5].1,uE _ _ #[S5].2⟩⟩)
    ·cases i with
     | zero =>
      have e1:d0=r:=by simpa using e1
      have e2:D0=D:=by simpa using e2
      subst e1 e2;exact⟨hd0,uD _ _ tf⟩
     | succ i=>simp at e1
   rintro σ' Ez ⟨dd,rd,Ds,xH,rfl,JT,AG,h11,EJ,hr8,hD⟩;have hvb:vw.rows.length<=8*j+1/\vo.rows.length<=8*j+1:=by
    rcases hvv with ⟨rfl,rfl⟩ | ⟨rfl,rfl⟩
    ·exact⟨hr1,Ef⟩
    ·exact⟨Ef,hr1⟩
   have T11:=TW.same JT;have F4:zy G1 (hid (vw.S++vo.S++[sts,nv]) Ez):=T11.g;have ddG:hid (vw.S++vo.S++[sts,nv]) Ez dd=some (.lst (rd.map V.ref)):=zah h11 (TW.fresh AG);have JU:∀ (i:Nat) (r:Addr) (D:Dd),rd[i]? = some r->Ds[i]? = some D->hid (vw.S++vo.S++[sts,nv]) Ez r=some #[TU]:=fun i r D e1 e2=>zah (hD i r D e1 e2).2 (TW.fresh (hD i r D e1 e2).1)
   have TR:Tw t (hid (vw.S++vo.S++[sts,nv]) Ez) Ez [sts,nv] F E vw vo:=T11.re #[SK];have fF2:=fF.same F4;have F5:=F4 _ _ JN;have F6:=F4 _ _ JO;have JV:=JT _ _ Cr;have JW:=JT _ _ JM;generalize hid (vw.S++vo.S++[sts,nv]) Ez=G2 at ddG JU TR fF2 F5 F6 F4;refine (mr rfl ⟨dd,rfl,⟨_,mB.of h11⟩,zba (K:=K) (a:=dd) (xs:=rd.map V.ref) (fun i σ H'=>∃ (v2:Lv) (xI xJ:Option V),σ = [some #[Rf],some (.ref cs),some (.ref pa),some (.ref sp),some (.ref ls),some #[Xp],some (.ref nv),some (.int (j:Int)),some (.int dv),some (.int (w:Int)),some (.ref dd),xH,xI,xJ,Ad,Ae,yh,xK]/\Tw t G2 H' [sts,nv] F E v2 vo/\H' sts=some (.lst (pr w (.ref v2.sa) (.ref vo.sa)))/\H' nv=some (.lst (pr w (.int (v2.at':Int)) (.int (vo.at':Int))))/\v2.rows.length<=8*j+1+i) (ex3 vw xI xJ ⟨rfl,TR,JV,JW,hvb.1⟩) (fun i σ H' _ hq=>by obtain⟨_,_,_,_,T,_⟩:=hq; exact (mB.of ((T.g.trans #[SW]) _ _ ddG))) ?_ ?_⟩)
   ·rintro zD zT i y σ Cs hy ⟨v2,xI,xJ,rfl,T2,xM,xN,AM⟩;obtain⟨d,rfl,BI⟩:=zaB hy;obtain⟨D,hDi⟩:∃ D,Ds[i]? = some D:=by
     have:=(aj.mp BI).1;exact⟨Ds[i]'#[O],#[M]⟩
    have JX:=T2.g.trans #[SW];have JY:=JX _ _ (JU i d D BI hDi);have i8:i < 8:=by
     have:=(aj.mp BI).1;lia
    have JZ:My.St Cs v2.sa v2.rs v2.rows:=T2.a.st.same #[SW];obtain⟨J0,J3,J4⟩:=T2.a.J.lt;obtain⟨f1,f2⟩:=T2.a.J.few;have J5:=fF2.cd.same JX;refine⟨_,rfl,_,rfl,cs,_,_,.ref F.c,rfl,rfl,mB.of (JX _ _ F5),zcg hw,_,rfl,_,rfl,sts,_,_,.ref v2.sa,rfl,rfl,mB.of xM,zcg hw,_,rfl,_,rfl,nv,_,_,.int (v2.at':Int),rfl,rfl,mB.of xN,zcg hw,_,rfl,F.c,F.tt,v2.sa,d,F.p,F.k,v2.at',v2.rs,v2.rows,v2.es,D,rfl,J5.1,JZ,T2.a.J.cur,JY,#[O],#[O],fun l tY rn yi hl pj mP tQ J6=>?_⟩;have J7:nv≠sts:=fun z=>nst z.symm
    have BJ:=pj _ _ xM;have BK:=pj _ _ xN;refine⟨l,_,rfl,mK.of J6,rfl,_,_,rfl,_,rfl,_,rfl,sts,_,(w:Int),w,rfl,rfl,BJ,znU hw,_,_,rfl,_,rfl,_,rfl,nv,_,(w:Int),w,rfl,rfl,by rw [zg J7]; exact BK,znU hw,_,_,rfl,rfl,?_⟩;rw [zmy hw,zmy hw];have stH:=T2.QN mP tQ;have EA:=((T2.same pj).QL (b:=sts) (xs:=pr w (V.ref tY) (V.ref vo.sa)) #[M]).QL (b:=nv) (xs:=pr w (V.int (#[NE].2.1:Int)) (V.int (vo.at':Int))) #[M];have stH:=(stH.same (zgw (o:=.lst #[Ri]) (show sts∈v2.S++vo.S++[sts,nv] by simp))).same (zgw (o:=.lst (pr w (V.int (#[NE].2.1:Int)) (V.int (vo.at':Int)))) (show nv∈v2.S++vo.S++[sts,nv] by simp));have DP:mz #[U2] nv (.lst (pr w (V.int (#[NE].2.1:Int)) (V.int (vo.at':Int)))) sts=some (.lst #[Ri]):=by
     rw [zg nst];exact zb
    have Af:mz #[U2] nv (.lst (pr w (V.int (#[NE].2.1:Int)) (V.int (vo.at':Int)))) nv=some (.lst (pr w (V.int (#[NE].2.1:Int)) (V.int (vo.at':Int)))):=zb;generalize mz #[U2] nv (.lst (pr w (V.int (#[NE].2.1:Int)) (V.int (vo.at':Int))))=Ct at EA stH DP Af |-;have g14:=EA.g.trans #[SW];refine (mr rfl (mr rfl (ex4 ls _ _ (.ref F.x) ⟨rfl,rfl,mB.of (g14 _ _ F6),zcg hw,(mr rfl (zpX v2.S F.x F.c d F.p F.sl v2.es v2.ds v2.us D ⟨rfl,EA.a.L.same #[SW],#[O],#[O],#[O],J3,J4,g14 _ _ (JU i d D BI hDi),?_⟩))⟩)));have vP:=T2.a.er _ (aP T2.a.J.cur);have her:=znC (at':=v2.at') (D:=D) T2.a.er vP;rcases znd (pp:=F.p) T2.a.J D with ⟨w',e1,e2⟩ | ⟨es',uk,um,nY,at2,e1,e2,J',rL,AR⟩
    ·rw [e1];dsimp only;rw [e2] at stH Af;intro EB wx;refine #[u8];refine zmv (by rw [e2]; rfl) ?_;have DQ:=EA.same wx;exact⟨⟨v2.S,tY,rn,v2.rows,v2.at',v2.es,v2.ds,v2.us⟩,_,_,rfl,⟨⟨DQ.a.L,stH.same (zbL wx),DQ.a.J,DQ.a.er⟩,DQ.b,DQ.dj,DQ.mv,DQ.g⟩,wx _ _ DP,wx _ _ Af,by show v2.rows.length<=_; lia⟩
    ·rw [e1];dsimp only;rw [e2] at stH Af her;intro S' EB L15 wx IU;refine #[u8];refine zmv (by rw [e2]; rfl) ?_;have kp:∀ b o,b∈[sts,nv]->Ct b=some o->EB b=some o:=fun b o hb e=>(zbh (wx b o (zah e (EA.mv b hb).1))).1
     exact⟨⟨S',tY,rn,nY,at2,es',uk,um⟩,_,_,rfl,EA.QR L15 wx IU stH J' her,kp _ _ #[M] DP,kp _ _ #[M] Af,by show nY.length<=_; lia⟩
   ·rintro σ Cs ⟨v2,xI,xJ,rfl,T2,xM,xN,AM⟩;obtain⟨v3,u3,T3,pB,hvu⟩:=bk G2 Cs v2 vo T2;have T3:Tw t G1 Cs [sts,nv] F0 F1 v3 u3:=T3.re (F4.trans T3.g);rw [pB #[Wt]] at xM;rw [pB (fun l=>V.int (l.at':Int))] at xN;rw [ae] at AM;have FQ:v3.rows.length<=8*(j+1)+1/\u3.rows.length<=8*(j+1)+1:=by
     rcases hvu with ⟨rfl,rfl⟩ | ⟨rfl,rfl⟩ <;> lia
    refine⟨2,rfl,#[D],#[D],zbI (lo:=0) (n:=(2:Int).toNat) (fun i σ H'=>∃ (xH Ad Ae yh xK:Option V),σ = [some #[Rf],some (.ref cs),some (.ref pa),some (.ref sp),some (.ref ls),some #[Xp],some (.ref nv),some (.int (j:Int)),some (.int dv),some (.int (w:Int)),some (.ref dd),xH,xI,xJ,Ad,Ae,yh,xK]/\zy Cs H') (ex5 xH Ad Ae yh xK ⟨rfl,fun _ _ e=>e⟩) ?_ ?_⟩
    ·rintro zD zT i σ yi hi ⟨xH,Ad,Ae,yh,xK,rfl,pj⟩;have hi:i < 2:=hi;rw [eA];obtain⟨X,Y,vx,vy,TX,fX,_,pX,pU,_,_⟩:=view (T3.same pj) Eu Ew hi;have gX:=TX.g.trans #[SW];have J8:=gX _ _ Ey;rw [pX (fun l=>V.ref l.c)] at J8;have Hg:=gX _ _ Ex;rw [pX (fun l=>V.ref l.x)] at Hg;have xsp:=gX _ _ FW;rw [pX (fun l=>V.int (l.sl:Int))] at xsp;have BJ:=pj _ _ xM;rw [pU #[Wt]] at BJ;have BK:=pj _ _ xN;rw [pU (fun l=>V.int (l.at':Int))] at BK;have J9:My.St yi vx.sa vx.rs vx.rows:=TX.a.st.same #[SW];obtain⟨ra,qH⟩:∃ ra,vx.rs[vx.at']? = some ra:=by
      have:=(aj.mp TX.a.J.cur).1;exact⟨vx.rs[vx.at']'(by rw [J9.len]; exact this),#[M]⟩
     have rO:=J9.row _ ra vx.es qH TX.a.J.cur;have J0:=TX.a.J.lt.1;have er:=TX.a.er _ (aP TX.a.J.cur);have xk1:=fX.ok.k1;have xkk:=fX.ok.kk;have xkl:=fX.ok.kl;have xln:=fX.ok.ln;have rp:=zQ fX.ok.pr;refine (mr rfl (mr rfl (ex4 sts _ _ (.ref vx.sa) ⟨rfl,rfl,mB.of BJ,zcg hi,(mr rfl (mr rfl (ex4 nv _ _ (.int (vx.at':Int)) ⟨rfl,rfl,mB.of BK,zcg hi,vx.sa,_,_,.ref ra,rfl,rfl,mB.of J9.at_,zab (by rw [ao,qH]; rfl),?_⟩)))⟩)));have LX:=TX.a.L.same #[SW];have Ka:=fX.cd.same gX;have Z:∀ {H':Hp},zy yi H'->Lk t H' vx.S X.x X.c X.tt X.p X.k X.sl X.pl vx.es vx.ds vx.us:=fun s'=>⟨LX.same s',Ka.same s',J0,#[O],fX.ok.pr,fX.ok.nd,fX.ok.rg,er,#[O],#[O],fX.s4⟩
     have FJ:∀ {qs:List #[GT]},Cb X.p X.k X.sl X.pl vx.es qs->qs.length<=35:=fun {qs} hC=>zfc fX.ok.pr (zep fX.ok.nd fX.ok.rg er) #[O] fX.s4 hC.1 (hC.2.1.2.imp (fun {u v} h e=>by rw [e] at h; lia)) (fun q hq=>(hC.2.2 q).mp hq)
     obtain⟨FY,ea,da,ua,kk,ttt,drr,urr,eS,_,_,_,Kb,_⟩:=LX.ex;refine⟨fun σ' H'=>∃ (ow:V) (qs:List #[GT]),σ' = [some #[Rf],some (.ref cs),some (.ref pa),some (.ref sp),some (.ref ls),some #[Xp],some (.ref nv),some (.int (j:Int)),some (.int dv),some (.int (w:Int)),some (.ref dd),some (.ref ra),xI,xJ,some (.int (i:Int)),some ow,yh,xK]/\zy yi H'/\(((mX X.pl vx.es).length < X.k+X.sl/\ow = .non/\qs = [])\/((∃ l rs,ow = .ref l/\H' l=some #[o0]/\zaK H' rs qs)/\Cb X.p X.k X.sl X.pl vx.es qs)),?_,?_⟩
     ·refine (mr rfl (mr rfl (ex4 cs _ _ (.ref X.c) ⟨rfl,rfl,mB.of J8,zcg hi,(mr rfl (mr rfl (mr rfl (ex4 sp _ _ (.int (X.sl:Int)) ⟨rfl,rfl,mB.of xsp,zcg hi,X.c,X.tt,ra,X.p,X.k,X.sl,X.pl,vx.es,rfl,Ka,rO,J0,#[O],fX.ok.pr,fX.ok.nd,fX.ok.rg,er,#[O],#[O],fX.s4,fun rJ Ct uZ=>?_,fun l rs qs Ct hl uZ h14 hT hC=>?_⟩))))⟩)))
      ·exact⟨_,[],rfl,uZ,.inl ⟨rJ,rfl,rfl⟩⟩
      ·exact⟨_,qs,rfl,uZ,.inr ⟨⟨l,rs,rfl,h14,hT⟩,hC⟩⟩
     rintro σ' Ct ⟨ow,qs,rfl,uZ,hO⟩;have hq35:qs.length<=35:=by
      rcases hO with ⟨_,_,rfl⟩ | ⟨_,hC⟩
      ·simp
      ·exact FJ hC
     have hqP:∀ q∈qs,IsP X.p X.k q:=by
      rcases hO with ⟨_,_,rfl⟩ | ⟨_,hC⟩
      ·exact fun q hq=>(by cases hq)
      ·exact hC.2.1.1
     have l0:(0:Int) < (#[Wk].length:Int):=by rw [ae]; lia
     refine (mr rfl (mJ rfl rfl ⟨#[P3],(mr rfl ⟨ra,(mr rfl ⟨.inl (mB.of (uZ _ _ rO)),(mJ rfl rfl ⟨l0,?_⟩)⟩)⟩)⟩));have n0:=aQ (dv / 7) (show (#[Wk].length:Int)≠0 by lia);have n1:=aK (dv / 7) l0;obtain⟨n,en⟩:∃ n:Nat,dv / 7 % ((vx.es.map mM).length:Int)=(n:Int):=⟨(dv / 7 % (#[Wk].length:Int)).toNat,#[O]⟩;have hn:n < X.pl.length:=by
      rw [en,ae] at n1;lia
     show zaD 16 (V.int (dv / 7 % (#[Wk].length:Int))) _ Ct _;rw [en];have BX:X.pl[n]? = some X.pl[n]:=aF hn;have FN:=fX.ok.rg X.pl[n] (eG hn);refine⟨fun σ' H'=>σ' = [some #[Rf],some (.ref cs),some (.ref pa),some (.ref sp),some (.ref ls),some #[Xp],some (.ref nv),some (.int (j:Int)),some (.int dv),some (.int (w:Int)),some (.ref dd),some (.ref ra),xI,xJ,some (.int (i:Int)),some ow,some (.int (n:Int)),xK]/\zy Ct H',?_,?_⟩
     ·refine⟨_,rfl,_,rfl,ls,_,_,.ref X.x,rfl,rfl,mB.of (uZ _ _ Hg),zcg hi,X.x,FY,_,rfl,uZ _ _ Kb,zbw #[Vm],vx.S,X.x,X.c,X.p,X.sl,vx.es,vx.ds,vx.us,rfl,LX.same uZ,fun lr B9=>?_⟩;have v5:=zd (o:=.lst ((vx.es:Rw).map mM)) B9;refine (mr rfl (zkZ (mB.of zb) (mB.of (v5 _ _ (uZ _ _ rO))) (mr rfl (zaP ?_))));generalize mz Ct lr (.lst ((vx.es:Rw).map mM))=EB at v5 |-;have wx:=uZ.trans v5;refine (mr rfl (mJ rfl rfl ⟨(by show (0:Int) < 3; decide),rfl,#[Db]⟩));refine zaY (fun g=>?_) (fun g=>⟨rfl,v5⟩);refine⟨_,rfl,_,rfl,ls,_,_,.ref X.x,rfl,rfl,mB.of (wx _ _ Hg),zcg hi,X.x,FY,_,rfl,wx _ _ Kb,zgO #[KM],vx.S,X.x,X.c,X.tt,X.p,X.k,X.sl,X.pl,vx.es,vx.ds,vx.us,rfl,Z wx,fun rJ H16 F7=>?_,fun l1 rs1 qs1 H16 xj F7 uY F8 hC1=>?_⟩
      ·rcases hO with ⟨_,rfl,_⟩ | ⟨_,hC⟩
       ·exact (mr rfl (.inl ⟨rfl,rfl,(mr rfl (zaP ⟨rfl,v5.trans F7⟩))⟩))
       ·exact absurd hC.1 #[O]
      ·rcases hO with ⟨hf,_,_⟩ | ⟨⟨l2,rs2,rfl,h2,vQ⟩,hC⟩
       ·exact absurd hC1.1 #[O]
       ·have:=hC.one hC1;subst this;have e1:=F8.length;have e2:=vQ.length;have sw:=v5.trans F7;exact (mr rfl (.inr (zk0 (mB.of uY) (mB.of (sw _ _ h2)) (by rw [ae,ae]; lia) (znE F8 (vQ.same sw)) (mr rfl (zaP ⟨rfl,sw⟩)))))
     rintro σ' EB ⟨rfl,wx⟩;have sF:=uZ.trans wx;have Kc:(ow = .non/\qs = [])\/∃ l rs,ow = .ref l/\EB l=some #[o0]/\zaK EB rs qs:=by
      rcases hO with ⟨_,y1,y2⟩ | ⟨⟨l,rs,y1,y2,y3⟩,_⟩
      ·exact .inl ⟨y1,y2⟩
      ·exact .inr ⟨l,rs,y1,wx _ _ y2,y3.same wx⟩
     refine (mr rfl (mr rfl (ex4 cs _ _ (.ref X.c) ⟨rfl,rfl,mB.of (sF _ _ J8),zcg hi,(mr rfl (mr rfl (ex9 X.c X.tt ow X.p (X.pl[n]) X.k n X.pl qs ⟨rfl,Ka.same sF,BX,#[O],#[O],FN.1,FN.2,#[O],Kc,hqP,fun H16 F7=>?_⟩)))⟩)));have sG:=sF.trans F7;refine (mr rfl (mJ rfl rfl ⟨(by show (0:Int) < 3; decide),rfl,#[Db]⟩));refine zaY (fun g=>?_) (fun g=>(ex5 _ _ _ _ _ ⟨rfl,pj.trans sG⟩));refine⟨_,rfl,_,rfl,ls,_,_,.ref X.x,rfl,rfl,mB.of (sG _ _ Hg),zcg hi,X.x,FY,_,rfl,sG _ _ Kb,znF,_,rfl,vx.S,X.x,X.c,X.tt,X.p,X.k,X.sl,n,X.pl[n],X.pl,vx.es,vx.ds,vx.us,rfl,Z sG,BX,#[O],fX.s4,fun rJ H17 Ke=>?_,fun Jz H17 Ke hC'=>?_⟩
     ·rcases hO with ⟨_,_,rfl⟩ | ⟨_,hC⟩
      ·exact (mr rfl ⟨rfl,(mr rfl #[Ur])⟩)
      ·exact absurd hC.1 #[O]
     ·rcases hO with ⟨hf,_,_⟩ | ⟨_,hC⟩
      ·exact absurd hC'.1 #[O]
      ·rw [hC.one hC'];refine (mr rfl ⟨?_,(mr rfl #[Ur])⟩);cases sur (qs.map (zw X.p X.pl[n])) <;> rfl
    ·rintro σ yi ⟨xH,Ad,Ae,yh,xK,rfl,pj⟩;exact (zpY v3 u3 _ _ _ _ _ _ _ _ _ _ _ ⟨rfl,T3.same pj,pj _ _ xM,pj _ _ xN,FQ.1,FQ.2⟩)
  ·rintro σ H8 _;exact q H8
end
structure Dn (K:af) (x:Str) (st:Stmt) (f:Addr) (fd:FuncData):Prop where
 a:bf K mainGlobals x=some #[Uk]
 f:Fun K x x st f fd
theorem zat {x:Str} {st:Stmt} {f:Addr} {sl:Array #[Tl]} {kV:Value} (a:bf K mainGlobals x=some #[Uk]) (l:K.lookup f=some ⟨oc,od,.func #[Tz],sl⟩) (c:dM K cd x=true) (k:cF K #[R7]=true):Dn K x st f #[Tz]:=⟨a,zib l c k⟩
structure Dm (K:af) (C:Addr) (x q:Str) (st:Stmt) (f:Addr) (fd:FuncData):Prop where
 a:aJ K #[QW] x=some #[Uk]
 i:f' K #[R7]=true
 f:Fun K x q st f fd
theorem zc6 {x q:Str} {st:Stmt} {f:Addr} {sl:Array #[Tl]} {kV:Value} (a:aJ K #[QW] x=some #[Uk]) (i:f' K #[R7]=true) (l:K.lookup f=some ⟨oc,od,.func #[TC],sl⟩) (c:dM K cd q=true) (k:cF K #[R7]=true):Dm K C x q st f #[TC]:=⟨a,i,zib l c k⟩
theorem el0 {n:Nat} (e:us.length=n+1):∃ a v,us=a :: v/\v.length=n:=by
 cases us with
 | nil=>cases e
 | cons a v=>exact⟨a,v,rfl,Nat.succ.inj e⟩
theorem el1 (e:us.length=1):∃ a,us = [a]:=by
 obtain⟨a,v,rfl,h⟩:=el0 e;exact⟨a,by rw [List.eq_nil_of_length_eq_zero h]⟩
theorem el2 (e:us.length=2):∃ a b,us = [a,b]:=by
 obtain⟨a,v,rfl,h⟩:=el0 e;obtain⟨b,rfl⟩:=el1 h;exact⟨a,b,rfl⟩
theorem el3 (e:us.length=3):∃ a b c,us = [a,b,c]:=by
 obtain⟨a,v,rfl,h⟩:=el0 e;obtain⟨b,c,rfl⟩:=el2 h;exact⟨a,b,c,rfl⟩
theorem el4 (e:us.length=4):∃ a b c d,us = [a,b,c,d]:=by
 obtain⟨a,v,rfl,h⟩:=el0 e;obtain⟨b,c,d,rfl⟩:=el3 h;exact⟨a,b,c,d,rfl⟩
local macro_rules|`(#[E1])=>`(fun _ _ _ _ _ _ _ h=>by obtain⟨_,e⟩:=el1 h;subst e;exact rfl)
local macro_rules|`(#[E2])=>`(fun _ _ _ _ _ _ _ h=>by obtain⟨_,_,e⟩:=el2 h;subst e;exact rfl)
local macro_rules|`(#[E3])=>`(fun _ _ _ _ _ _ _ h=>by obtain⟨_,_,_,e⟩:=el3 h;subst e;exact rfl)
local macro_rules|`(#[E4])=>`(fun _ _ _ _ _ _ _ h=>by obtain⟨_,_,_,_,e⟩:=el4 h;subst e;exact rfl)
theorem zoY {l:iN} {fa fl mY nT nD nE mG mE mL mF mw nU oB mH:Addr} (X:K.In h) (G:h.Ns mainGlobals mg) (hfa:mg "law" = some (.ref fa))
  {sl:Array #[Tl]} {kV:Value} (vn:bf K mainGlobals "SlipError" = some (some (.ref mY))) (Ag:bf K mainGlobals "TooFew" = some (some (.ref nT))) (xO:bf K mainGlobals "NoCurve" = some (some (.ref nD))) (xP:bf K mainGlobals "NoPaper" = some (some (.ref nE))) (xQ:bf K mainGlobals "NoPlace" = some (some #[R0])) (wy:bf K mainGlobals "NoNumber" = some (some #[R3])) (BL:bf K mainGlobals "Heard" = some (some #[RZ])) (wz:bf K mainGlobals "NotHeard" = some (some #[R1])) (tF:bf K mainGlobals "NothingLeft" = some (some #[RY])) (Ah:bf K mainGlobals "NoText" = some (some (.ref nU))) (BM:bf K mainGlobals "NoRow" = some (some (.ref oB))) (wA:bf K mainGlobals "Listener" = some (some #[W6])) (wB:∃ f fd,Dn K "is_whole" zcs f fd) (vp:∃ f fd,Dn K "is_number" zbX f fd) (wC:∃ f fd,Dn K "value_at" zct f fd) (xR:∃ f fd,Dn K "inverse" zcS f fd) (ux:∃ f fd,Dn K "times_root" zbi f fd) (DR:∃ f fd,Dn K "bent" zeY f fd) (xS:∃ f fd,Dn K "through" zcT f fd) (so:∃ f fd,Dn K "heard_points" zaL f fd) (DS:∃ f fd,Dn K "fits" zeZ f fd) (xT:∃ f fd,Dn K "choices" zbF f fd) (tG:∃ f fd,Dn K "all_through" za1 f fd) (wD:∃ f fd,Dn K "all_near" zbN f fd) (Ai:∃ f fd,Dn K "_law_cell" zdt f fd) (xU:∃ f fd,Dn K "_law_draws" zcU f fd) (Aj:∃ f fd,Dn K "_law_code" zcJ f fd) (xV:∃ f fd,Dn K "_law_value" zcV f fd) (vq:∃ f fd,Dn K "_law_through" zaM f fd) (Ak:∃ f fd,Dn K "_law_fits" zcb f fd) (vt:∃ f fd,Dn K "_law_choices" zbd f fd) (BN:∃ f fd,Dn K "_law_all" zdu f fd) (Al:∃ f fd,Dn K "_law_near" zbz f fd) (Am:∃ f fd,Dn K "_law_word" zdv f fd) (An:∃ f fd,Dn K "_law_deed" zdw f fd) (Ao:∃ f fd,Dn K "_law_done" zdx f fd) (xW:∃ f fd,Dn K "_law_later" zcW f fd) (wF:∃ f fd,Dn K "_law_can_be" zbO f fd) (Ap:∃ f fd,Dn K "_law_sure" zcc f fd) (d_init:∃ f fd,Dm K mH "__init__" "Listener.__init__" zgx f fd) (tH:∃ f fd,Dm K mH "check_place" "Listener.check_place" zbv f fd) (Aq:∃ f fd,Dm K mH "change" "Listener.change" zdy f fd) (DT:∃ f fd,Dm K mH "hear" "Listener.hear" zgy f fd) (Ar:∃ f fd,Dm K mH "forget" "Listener.forget" zdz f fd) (DU:∃ f fd,Dm K mH "back" "Listener.back" zgz f fd) (BO:∃ f fd,Dm K mH "again" "Listener.again" s_again f fd) (F9:∃ f fd,Dm K mH "row" "Listener.row" s_row f fd) (As:∃ f fd,Dm K mH "can_be" "Listener.can_be" zdA f fd) (DV:∃ f fd,Dm K mH "sure" "Listener.sure" ze0 f fd) (Kx:ci K mG zdO "ValueError.__new__" = true) (Ks:ci K mE zdO "ValueError.__new__" = true) (Ln:ci K mL zdO "ValueError.__new__" = true) (Kr:ci K mF zdO "ValueError.__new__" = true) (Kk:ci K mw zdO "ValueError.__new__" = true) (qM:am K #[R0] (.ref nT)=some false) (qt:am K #[R0] (.ref nD)=some false) (qu:am K #[R0] (.ref nE)=some false) (qv:am K #[R0] #[R0]=some true) (pT:am K #[R0] #[R3]=some false) (rq:am K #[R0] #[RZ]=some false) (pW:am K #[R0] #[R1]=some false) (oO:am K #[R0] #[RY]=some false) (qN:am K #[R0] (.ref nU)=some false) (rz:am K #[R0] (.ref oB)=some false) (xX:am K #[R0] (.type "ValueError")=some true) (xY:bS K #[R0] (.ref mY)=some true) (wG:aJ K #[R0] "__getattribute__" = some (some (.builtin "BaseException.__getattribute__"))) (wH:aJ K #[R0] "__getattr__" = some none) (wI:aJ K #[R0] "__class__" = some (some (.builtin "object.__class__"))) (wJ:bu K mG (.type "object")=some true) (wK:bu K mG (.type "BaseException")=some true) (wL:bS K #[R0] #[R0]=some true) (qw:am K #[R3] (.ref nT)=some false) (pY:am K #[R3] (.ref nD)=some false) (pZ:am K #[R3] (.ref nE)=some false) (p6:am K #[R3] #[R0]=some false) (pv:am K #[R3] #[R3]=some true) (qO:am K #[R3] #[RZ]=some false) (pw:am K #[R3] #[R1]=some false) (oC:am K #[R3] #[RY]=some false) (qz:am K #[R3] (.ref nU)=some false) (qP:am K #[R3] (.ref oB)=some false) (wM:am K #[R3] (.type "ValueError")=some true) (wN:bS K #[R3] (.ref mY)=some true) (vv:aJ K #[R3] "__getattribute__" = some (some (.builtin "BaseException.__getattribute__"))) (vz:aJ K #[R3] "__getattr__" = some none) (vA:aJ K #[R3] "__class__" = some (some (.builtin "object.__class__"))) (vB:bu K mE (.type "object")=some true) (vC:bu K mE (.type "BaseException")=some true) (vD:bS K #[R3] #[R3]=some true) (sr:am K #[RZ] (.ref nT)=some false) (rA:am K #[RZ] (.ref nD)=some false) (rB:am K #[RZ] (.ref nE)=some false) (rC:am K #[RZ] #[R0]=some false) (qR:am K #[RZ] #[R3]=some false) (tI:am K #[RZ] #[RZ]=some true) (qS:am K #[RZ] #[R1]=some false) (pz:am K #[RZ] #[RY]=some false) (su:am K #[RZ] (.ref nU)=some false) (tJ:am K #[RZ] (.ref oB)=some false) (BP:am K #[RZ] (.type "ValueError")=some true) (BQ:bS K #[RZ] (.ref mY)=some true) (Au:aJ K #[RZ] "__getattribute__" = some (some (.builtin "BaseException.__getattribute__"))) (Av:aJ K #[RZ] "__getattr__" = some none) (Aw:aJ K #[RZ] "__class__" = some (some (.builtin "object.__class__"))) (Ax:bu K mL (.type "object")=some true) (Ay:bu K mL (.type "BaseException")=some true) (Az:bS K #[RZ] #[RZ]=some true) (qA:am K #[R1] (.ref nT)=some false) (p7:am K #[R1] (.ref nD)=some false) (p8:am K #[R1] (.ref nE)=some false) (p9:am K #[R1] #[R0]=some false) (pA:am K #[R1] #[R3]=some false) (qT:am K #[R1] #[RZ]=some false) (pC:am K #[R1] #[R1]=some true) (oE:am K #[R1] #[RY]=some false) (qB:am K #[R1] (.ref nU)=some false) (qU:am K #[R1] (.ref oB)=some false) (wO:am K #[R1] (.type "ValueError")=some true) (wQ:bS K #[R1] (.ref mY)=some true) (vE:aJ K #[R1] "__getattribute__" = some (some (.builtin "BaseException.__getattribute__"))) (vF:aJ K #[R1] "__getattr__" = some none) (vG:aJ K #[R1] "__class__" = some (some (.builtin "object.__class__"))) (vH:bu K mF (.type "object")=some true) (vI:bu K mF (.type "BaseException")=some true) (vJ:bS K #[R1] #[R1]=some true) (o1:am K #[RY] (.ref nT)=some false) (oP:am K #[RY] (.ref nD)=some false) (oQ:am K #[RY] (.ref nE)=some false) (oR:am K #[RY] #[R0]=some false) (oF:am K #[RY] #[R3]=some false) (pD:am K #[RY] #[RZ]=some false) (oG:am K #[RY] #[R1]=some false) (nX:am K #[RY] #[RY]=some true) (o2:am K #[RY] (.ref nU)=some false) (pE:am K #[RY] (.ref oB)=some false) (tK:am K #[RY] (.type "ValueError")=some true) (tL:bS K #[RY] (.ref mY)=some true) (sv:aJ K #[RY] "__getattribute__" = some (some (.builtin "BaseException.__getattribute__"))) (sx:aJ K #[RY] "__getattr__" = some none) (sy:aJ K #[RY] "__class__" = some (some (.builtin "object.__class__"))) (sE:bu K mw (.type "object")=some true) (sH:bu K mw (.type "BaseException")=some true) (sI:bS K #[RY] #[RY]=some true) (sb:bu K mY (.type "BaseException")=some true) (pg:eC K mH Str.empty=true) (hd:fq K mH=true) (po:ic K mH=true) (sa:aJ K #[W6] "__setattr__" = some (some (.builtin "object.__setattr__"))) (mk:iL K mH=true) (kc:cF K #[W6]=true) (DW:aJ K #[W6] "code" = some none) (BR:aJ K #[W6] "slips" = some none) (xZ:aJ K #[W6] "entries" = some none) (BS:aJ K #[W6] "deeds" = some none) (AA:aJ K #[W6] "undone" = some none)
  (al:bf K mainGlobals "law" = some (some (.ref fl))) (ll:K.lookup fl=some ⟨oc,od,.func (cj "law" "law" (zbs zcd) (zaO zcd) (zi zcd) .none kV dc pm an cd ct),sl⟩) (cl:dM K cd "law" = true) (kl:cF K (.ref fl)=true) (F':bf K mainGlobals "len" = some none) (BU:bf K mainGlobals "range" = some none) (DX:bf K mainGlobals "list" = some none) (BV:bf K mainGlobals "tuple" = some none) (Ga:bf K mainGlobals "min" = some none) (Gb:bf K mainGlobals "max" = some none) (uy:bf K mainGlobals "isinstance" = some none) (Gc:bf K mainGlobals "int" = some none) (DY:bf K mainGlobals "bool" = some none) (Gd:bf K mainGlobals "zip" = some none) (vK:bf K mainGlobals "enumerate" = some none) (wR:bf K mainGlobals "reversed" = some none) (AB:bf K mainGlobals "sorted" = some none) (uz:bf K mainGlobals "ValueError" = some none) :
  ∃ fd:FuncData,(∀ (s:Shared) (v:Value),BindsTo s fd ⟨[v],[]⟩ [("script",v)])/\∀ base:Heap,K.In base->base.Ns mainGlobals mg->Kq l.prog w K mg base CX0 10 fa fd ["script"] (zgm K):=by
 cases hfa.symm.trans (aM X G al);obtain⟨O4,BG,uB⟩:=d_init;have wo:=uB.f.binds (ps:=["self","code","slips"]) #[E3]
 obtain⟨Km,nP,nk⟩:=tH;have mU:=nk.f.binds (ps:=["self","number"]) #[E2]
 obtain⟨Mf,tU,o3⟩:=Aq;have oW:=o3.f.binds (ps:=["self","number","entry"]) #[E3]
 obtain⟨O5,BC,sJ⟩:=DT;have wj:=sJ.f.binds (ps:=["self","number","entry"]) #[E3]
 obtain⟨Ng,xA,o6⟩:=Ar;have rZ:=o6.f.binds (ps:=["self","number"]) #[E2]
 obtain⟨O8,BD,sL⟩:=DU;have wm:=sL.f.binds (ps:=["self"]) #[E1]
 obtain⟨NG,y8,qC⟩:=BO;have uw:=qC.f.binds (ps:=["self"]) #[E1]
 obtain⟨Qd,DI,vM⟩:=F9;have xb:=vM.f.binds (ps:=["self"]) #[E1]
 obtain⟨Mg,tX,o7⟩:=As;have oZ:=o7.f.binds (ps:=["self"]) #[E1]
 obtain⟨O0,BH,sM⟩:=DV;have wu:=sM.f.binds (ps:=["self","number"]) #[E2]
 obtain⟨LV,uW,qa⟩:=wB;have pO:=qa.f.binds (ps:=["thing"]) #[E1]
 obtain⟨KJ,qo,o8⟩:=vp;have nH:=o8.f.binds (ps:=["p","thing"]) #[E2]
 obtain⟨KC,oU,qb⟩:=wC;have m8:=qb.f.binds (ps:=["p","polynomial","x"]) #[E3]
 obtain⟨Mx,vY,qV⟩:=xR;have qI:=qV.f.binds (ps:=["p","number"]) #[E2]
 obtain⟨K1,tz,oH⟩:=ux;have oA:=oH.f.binds (ps:=["p","polynomial","root"]) #[E3]
 obtain⟨O7,Bp,wU⟩:=DR;have vZ:=wU.f.binds (ps:=["p","polynomial","vanishing","point"]) #[E4]
 obtain⟨Mv,wb,qW⟩:=xS;have qK:=qW.f.binds (ps:=["p","points"]) #[E2]
 obtain⟨Ko,oI,nV⟩:=so;have nc:=nV.f.binds (ps:=["code","row"]) #[E2]
 obtain⟨O6,By,wV⟩:=DS;have wc:=wV.f.binds (ps:=["code","row","polynomial"]) #[E3]
 obtain⟨Mz,wa,qX⟩:=xT;have qJ:=qX.f.binds (ps:=["things","many"]) #[E2]
 obtain⟨KL,rS,og⟩:=tG;have oa:=og.f.binds (ps:=["code","points"]) #[E2]
 obtain⟨LW,va,qc⟩:=wD;have pR:=qc.f.binds (ps:=["code","row","t"]) #[E3]
 obtain⟨Nf,xq,sN⟩:=Ai;have rN:=sN.f.binds (ps:=["script","k"]) #[E2]
 obtain⟨LI,rP,qY⟩:=xU;have nN:=qY.f.binds (ps:=["script","k","many","base"]) #[E4]
 obtain⟨Nd,xC,sO⟩:=Aj;have qr:=sO.f.binds (ps:=["script","at","most_k","most_n"]) #[E4]
 obtain⟨K2,pQ,qZ⟩:=xV;have nr:=qZ.f.binds (ps:=["p","polynomial","x"]) #[E3]
 obtain⟨Ll,uv,o9⟩:=vq;have oY:=o9.f.binds (ps:=["p","points"]) #[E2]
 obtain⟨Na,xw,sP⟩:=Ak;have rV:=sP.f.binds (ps:=["code","row","polynomial"]) #[E3]
 obtain⟨KI,qp,pf⟩:=vt;have nK:=pf.f.binds (ps:=["some","many"]) #[E2]
 obtain⟨NF,yW,uC⟩:=BN;have uq:=uC.f.binds (ps:=["p","k"]) #[E2]
 obtain⟨M9,xy,sQ⟩:=Al;have rY:=sQ.f.binds (ps:=["code","row","t"]) #[E3]
 obtain⟨M7,xB,sR⟩:=Am;have sd:=sR.f.binds (ps:=["e"]) #[E1]
 obtain⟨Nc,xD,sT⟩:=An;have si:=sT.f.binds (ps:=["draw","code"]) #[E2]
 obtain⟨Nb,xF,sU⟩:=Ao;have sj:=sU.f.binds (ps:=["listener","deed"]) #[E2]
 obtain⟨Mw,wq,rf⟩:=xW;have qL:=rf.f.binds (ps:=["code","states","at","deed"]) #[E4]
 obtain⟨LU,vi,qd⟩:=wF;have pS:=qd.f.binds (ps:=["code","row","slips"]) #[E3]
 obtain⟨M8,xG,sV⟩:=Ap;have sm:=sV.f.binds (ps:=["code","ones","number"]) #[E3]
 let t:Adr:=⟨mY,nT,nD,nE,mG,mE,mL,mF,mw,nU,oB,mH,O4,Km,Mf,O5,Ng,O8,NG,Qd,Mg,O0,LV,KJ,KC,Mx,K1,O7,Mv,Ko,O6,Mz,KL,LW,Nf,LI,Nd,K2,Ll,Na,KI,NF,M9,M7,Nc,Nb,Mw,LU,M8,fa⟩
 have T:Txt K mg t:=⟨bB X G F',bB X G BU,bB X G DX,bB X G BV,bB X G Ga,bB X G Gb,bB X G uy,bB X G Gc,bB X G DY,bB X G Gd,bB X G vK,bB X G wR,bB X G AB,bB X G uz,aM X G vn,aM X G Ag,aM X G xO,aM X G xP,aM X G xQ,aM X G wy,aM X G BL,aM X G wz,aM X G tF,aM X G Ah,aM X G BM,Kx,Ks,Ln,Kr,Kk,⟨qM,qt,qu,qv,pT,rq,pW,oO,qN,rz,xX,⟨wG,wH,wI,wJ,wK,wL⟩,xY⟩,⟨qw,pY,pZ,p6,pv,qO,pw,oC,qz,qP,wM,⟨vv,vz,vA,vB,vC,vD⟩,wN⟩,⟨sr,rA,rB,rC,qR,tI,qS,pz,su,tJ,BP,⟨Au,Av,Aw,Ax,Ay,Az⟩,BQ⟩,⟨qA,p7,p8,p9,pA,qT,pC,oE,qB,qU,wO,⟨vE,vF,vG,vH,vI,vJ⟩,wQ⟩,⟨o1,oP,oQ,oR,oF,pD,oG,nX,o2,pE,tK,⟨sv,sx,sy,sE,sH,sI⟩,tL⟩,sb,⟨pg,hd,po,sa⟩,aM X G wA,⟨mk,uB.a,uB.i,kc⟩,DW,BR,xZ,BS,AA,⟨nk.a,nk.i,nk.f.kp⟩,⟨o3.a,o3.i,o3.f.kp⟩,⟨sJ.a,sJ.i,sJ.f.kp⟩,⟨o6.a,o6.i,o6.f.kp⟩,⟨sL.a,sL.i,sL.f.kp⟩,⟨qC.a,qC.i,qC.f.kp⟩,⟨vM.a,vM.i,vM.f.kp⟩,⟨o7.a,o7.i,o7.f.kp⟩,⟨sM.a,sM.i,sM.f.kp⟩,⟨_,uB.f,wo⟩,⟨_,nk.f,mU⟩,⟨_,o3.f,oW⟩,⟨_,sJ.f,wj⟩,⟨_,o6.f,rZ⟩,⟨_,sL.f,wm⟩,⟨_,qC.f,uw⟩,⟨_,vM.f,xb⟩,⟨_,o7.f,oZ⟩,⟨_,sM.f,wu⟩,aM X G qa.a,aM X G o8.a,aM X G qb.a,aM X G qV.a,aM X G oH.a,aM X G wU.a,aM X G qW.a,aM X G nV.a,aM X G wV.a,aM X G qX.a,aM X G og.a,aM X G qc.a,aM X G sN.a,aM X G qY.a,aM X G sO.a,aM X G qZ.a,aM X G o9.a,aM X G sP.a,aM X G pf.a,aM X G uC.a,aM X G sQ.a,aM X G sR.a,aM X G sT.a,aM X G sU.a,aM X G rf.a,aM X G qd.a,aM X G sV.a,⟨_,qa.f,pO⟩,⟨_,o8.f,nH⟩,⟨_,qb.f,m8⟩,⟨_,qV.f,qI⟩,⟨_,oH.f,oA⟩,⟨_,wU.f,vZ⟩,⟨_,qW.f,qK⟩,⟨_,nV.f,nc⟩,⟨_,wV.f,wc⟩,⟨_,qX.f,qJ⟩,⟨_,og.f,oa⟩,⟨_,qc.f,pR⟩,⟨_,sN.f,rN⟩,⟨_,qY.f,nN⟩,⟨_,sO.f,qr⟩,⟨_,qZ.f,nr⟩,⟨_,o9.f,oY⟩,⟨_,sP.f,rV⟩,⟨_,pf.f,nK⟩,⟨_,uC.f,uq⟩,⟨_,sQ.f,rY⟩,⟨_,sR.f,sd⟩,⟨_,sT.f,si⟩,⟨_,sU.f,sj⟩,⟨_,rf.f,qL⟩,⟨_,qd.f,pS⟩,⟨_,sV.f,sm⟩⟩;have FL:=zib (st:=zcd) ll cl kl;exact⟨cj "law" "law" (zbs zcd) (zaO zcd) (zi zcd) .none kV dc pm an cd ct,fun s v=>.of_eq rfl,fun base _ _=>zoX (t:=t) T FL⟩
theorem walk {l:iN} {q:Program} {loose:List Str} {XP:#[Ww]->Heap->Prop} {YP:World->Heap->Prop} {d:DefRec} {K:Params->af} (hn:l.most=some 63) (EI:d.params.defaults = []) (hY:∀ (w:World) (h:Heap),YP w h->#[Sn].In h)
  (F:∀ (w:World) (mg:Str->Option Value) (fa:Addr) (h:Heap),#[Sn].In h->h.Ns mainGlobals mg->mg d.name=some (.ref fa)->∃ fd:FuncData,(∀ (s:Shared) (u:Value),BindsTo s fd ⟨[u],[]⟩ [("script",u)])/\∀ base:Heap,#[Sn].In base->base.Ns mainGlobals mg->Kq l.prog w #[Sn] mg base CX0 10 fa fd ["script"] (zgm #[Sn])):lQ q loose XP YP l.row.toRowW d [] #[Wu] :=
 L2.zmM (n:=63) (k:=10) (x:="script") (CX:=fun _=>CX0) (sp:=fun w=>zgm #[Sn]) hn #[D] EI ⟨rfl,#[D],#[D]⟩ hY F (fun _ _ a ns hl _ hS=>⟨a,ns,rfl,hS,hl,fun _=>rfl⟩) fun _ _ _ _ _ z=>z
end My
namespace PySem.W.Fast
def tw1447917065752832270:=0
def tw11343361615880489119:=0
def tw13984895304020856051:=0
def tw11044785662197584941:=0
def tw10664833409279529757:=0
def tw4841443086219710969:=0
def tw2779690416859642506:=0
def tw15404813306183963268:=0
def tw15366016826100817079:=0
def tw13749808070610553099:=0
def tw6744557582991923160:=0
def tw10448540142513609551:=0
def tw5705188616897260400:=0
def tw1900346589830730346:=0
def tw2023947097214782380:=0
def tw1075568914680758670:=0
def tw3370099853894800310:=0
def tw16899352439495754732:=0
def tw16221078786705769712:=0
def tw3063714875990891621:=0
def tw3849750128377719766:=0
def tw13814616396651389832:=0
def tw8026362194004035856:=0
def tw10307205531531756858:=0
def tw17110899799630838984:=0
def tw9187133919669199303:=0
def tw5811716740069453603:=0
def tw2759576371716995452:=0
def tw16697761968118662875:=0
def tw15970390039355407523:=0
def tw382210924337613186:=0
def tw1074535841310098250:=0
def tw10662312296566366764:=0
def tw13863944160563371462:=0
def tw1624450804890454997:=0
def tw16178407361631605565:=0
def tw5705736892191261803:=0
def tw7261885679785976908:=0
def tw8523827172305536821:=0
def tw11094382519158739555:=0
def tw3883859855383290273:=0
def tw5099001111005074938:=0
def tw6268160491078107946:=0
def tw12550720326936611630:=0
def tw14145551684278413967:=0
def tw14997733436453183982:=0
def tw11964067669235421567:=0
def tw6914622286816207915:=0
def tw2304339742888334481:=0
def tw12589520699413870423:=0
def tw8746151281702101672:=0
def tw5312857817280669633:=0
def tw2204765425461936253:=0
def tw2737143036299355044:=0
def tw4280415842671875503:=0
def tw4589478042376573855:=0
def tw1713678177620205617:=0
def tw11746775198781821863:=0
def tw226779188799501626:=0
def tw15202911488586391056:=0
def tw755301997144613338:=0
def tw6860990506956285219:=0
def tw14581880347821976971:=0
def tw4822851485098934395:=0
def tw8918616899215929021:=0
def tw10317741847434097379:=0
def tw3136959374329751474:=0
def tw13593609475462030172:=0
def tw10875939742530031573:=0
def tw17190484863343927729:=0
def tw3878682591412855311:=0
def tw5816016991736053475:=0
def tw6919522655519346565:=0
def tw9854796477077459744:=0
def tw3538230803107642114:=0
def tw15580361440132429563:=0
def tw15086694906178824055:=0
def tw18431151886434259482:=0
def tw13722741294137707091:=0
def tw3387655232558767002:=0
def tw11403763196777102766:=0
def tw3004756222791755317:=0
def tw2406497293628395367:=0
def tw10723681006732405491:=0
def tw3362751260200671560:=0
def tw9732134664082421518:=0
def tw18116452153803053802:=0
def tw2366350758511670128:=0
def tw4406455580971889219:=0
def tw6971087007242836769:=0
def tw3270198931791588212:=0
def tw15778186245986313296:=0
def tw18337867371212490138:=0
def tw2286549340925046158:=0
def tw14959463604375821979:=0
def tw2701350650733909230:=0
def tw11954263077563703811:=0
def tw4054992927270692845:=0
def tw11532712056461676196:=0
def tw8359106857916899274:=0
def tw17039112923518239743:=0
def tw16164072406999441725:=0
def tw5045934102852183346:=0
def tw10659661992958765475:=0
def tw8661908002519539121:=0
def tw4273190789456140954:=0
def tw4662237606754565760:=0
def tw15313114923444995240:=0
def tw5386669323461906580:=0
def tw11173815920031322939:=0
def tw7450154696915974165:=0
def tw12612832145110627190:=0
def tw4883614552629810858:=0
def tw1851587679123441607:=0
def tw2465014146376044862:=0
def tw3285576683354943539:=0
def tw16091941598518505452:=0
def tw2070660328496500178:=0
def tw17346688222917006639:=0
def tw2582154753480036477:=0
def tw1182464295731678169:=0
def tw10339742177590339308:=0
def tw16871156668247274944:=0
def tw6896963963383625225:=0
def tw11211582454076141754:=0
def tw13334923103592204905:=0
def tw3583433638348132354:=0
def tw11072111719833956771:=0
def tw2225084230054221022:=0
def tw87387041955900838:=0
def tw10861595254337323196:=0
def tw14087090634492000047:=0
def tw2193683419353369266:=0
def tw15545352697364711900:=0
def tw4499720588730439311:=0
def tw7173163639528959248:=0
def tw18322043043594954755:=0
def tw12354091831896292847:=0
def tw2415309847423420590:=0
def tw9668730383477140970:=0
def tw15260028150472926411:=0
def tw10370540223918998102:=0
def tw16562292944893288683:=0
def tw1307013593363479718:=0
def tw17411110441543265434:=0
def tw6006855314854177847:=0
def tw16437438885617514795:=0
def tw10935546709576619780:=0
def tw1695085410429043846:=0
def tw13307728412449778994:=0
def tw4575636594927374507:=0
def tw11459449998917508892:=0
def tw3208456135674895710:=0
def tw4599188733869714740:=0
def tw4393788541247202819:=0
def tw5302511555340009634:=0
def tw16144983860840468188:=0
def tw16434914177402121801:=0
def tw455717329334898499:=0
def tw12151770674835401578:=0
def tw3385658478380761986:=0
def tw10786167175998002918:=0
def tw16212020036698370186:=0
def tw12300958393762412797:=0
def tw8694635997990975708:=0
def tw5751055324695659083:=0
def tw13993617848526023090:=0
def tw14003072958149484762:=0
def tw18195142183229283216:=0
def tw9354923007427374993:=0
def tw9462582572969982570:=0
def tw1828337807179740834:=0
def tw1425464871508444183:=0
def tw16516426011183530260:=0
def tw15291465796415854553:=0
def tw8867307279085883894:=0
def tw14280211539165144719:=0
def tw15236006476119282579:=0
def tw8250525769421811517:=0
def tw16018998890340995811:=0
end PySem.W.Fast
open PySem PySem.W
open PyProof.Rows
set_option maxHeartbeats 0 in
theorem PySem.Challenge.cw_slipcurve_k29_whole_two_listeners_holds : PySem.Challenge.rw_slipcurve_k29_whole_two_listeners.Holds := by
 w_on; o_law; k_head; (case hw=>w_witness2)
 k_fill
 refine My.walk (l:=PySem.Challenge.rw_slipcurve_k29_whole_two_listeners) rfl rfl (fun w h Y=>PySem.W.kIn_of Y) ?F
 case F =>
  intro w mg fa h KX G hmg;refine' My.zoY KX G hmg ?NU ?PK ?Pc ?Pa ?O9 ?OI ?Qh ?OH ?Ni ?PL ?Qg ?OJ ⟨_,_,My.zat ?da_is_whole ?dl_is_whole ?dc_is_whole ?dk_is_whole⟩ ⟨_,_,My.zat ?da_is_number ?dl_is_number ?dc_is_number ?dk_is_number⟩ ⟨_,_,My.zat ?da_value_at ?dl_value_at ?dc_value_at ?dk_value_at⟩ ⟨_,_,My.zat ?da_inverse ?dl_inverse ?dc_inverse ?dk_inverse⟩ ⟨_,_,My.zat ?da_times_root ?dl_times_root ?dc_times_root ?dk_times_root⟩ ⟨_,_,My.zat ?da_bent ?dl_bent ?dc_bent ?dk_bent⟩ ⟨_,_,My.zat ?da_through ?dl_through ?dc_through ?dk_through⟩ ⟨_,_,My.zat ?da_heard_points ?dl_heard_points ?dc_heard_points ?dk_heard_points⟩ ⟨_,_,My.zat ?da_fits ?dl_fits ?dc_fits ?dk_fits⟩ ⟨_,_,My.zat ?da_choices ?dl_choices ?dc_choices ?dk_choices⟩ ⟨_,_,My.zat ?da_all_through ?dl_all_through ?dc_all_through ?dk_all_through⟩ ⟨_,_,My.zat ?da_all_near ?dl_all_near ?dc_all_near ?dk_all_near⟩ ⟨_,_,My.zat ?da_l_cell ?dl_l_cell ?dc_l_cell ?dk_l_cell⟩ ⟨_,_,My.zat ?da_l_draws ?dl_l_draws ?dc_l_draws ?dk_l_draws⟩ ⟨_,_,My.zat ?da_l_code ?dl_l_code ?dc_l_code ?dk_l_code⟩ ⟨_,_,My.zat ?da_l_value ?dl_l_value ?dc_l_value ?dk_l_value⟩ ⟨_,_,My.zat ?da_l_through ?dl_l_through ?dc_l_through ?dk_l_through⟩ ⟨_,_,My.zat ?da_l_fits ?dl_l_fits ?dc_l_fits ?dk_l_fits⟩ ⟨_,_,My.zat ?da_l_choices ?dl_l_choices ?dc_l_choices ?dk_l_choices⟩ ⟨_,_,My.zat ?da_l_all ?dl_l_all ?dc_l_all ?dk_l_all⟩ ⟨_,_,My.zat ?da_l_near ?dl_l_near ?dc_l_near ?dk_l_near⟩ ⟨_,_,My.zat ?da_l_word ?dl_l_word ?dc_l_word ?dk_l_word⟩ ⟨_,_,My.zat ?da_l_deed ?dl_l_deed ?dc_l_deed ?dk_l_deed⟩ ⟨_,_,My.zat ?da_l_done ?dl_l_done ?dc_l_done ?dk_l_done⟩ ⟨_,_,My.zat ?da_l_later ?dl_l_later ?dc_l_later ?dk_l_later⟩ ⟨_,_,My.zat ?da_l_can_be ?dl_l_can_be ?dc_l_can_be ?dk_l_can_be⟩ ⟨_,_,My.zat ?da_l_sure ?dl_l_sure ?dc_l_sure ?dk_l_sure⟩ ⟨_,_,My.zc6 ?da_init ?di_init ?dl_init ?dc_init ?dk_init⟩ ⟨_,_,My.zc6 ?da_check_place ?di_check_place ?dl_check_place ?dc_check_place ?dk_check_place⟩ ⟨_,_,My.zc6 ?da_change ?di_change ?dl_change ?dc_change ?dk_change⟩ ⟨_,_,My.zc6 ?da_hear ?di_hear ?dl_hear ?dc_hear ?dk_hear⟩ ⟨_,_,My.zc6 ?da_forget ?di_forget ?dl_forget ?dc_forget ?dk_forget⟩ ⟨_,_,My.zc6 ?da_back ?di_back ?dl_back ?dc_back ?dk_back⟩ ⟨_,_,My.zc6 ?da_again ?di_again ?dl_again ?dc_again ?dk_again⟩ ⟨_,_,My.zc6 ?da_row ?di_row ?dl_row ?dc_row ?dk_row⟩ ⟨_,_,My.zc6 ?da_can_be ?di_can_be ?dl_can_be ?dc_can_be ?dk_can_be⟩ ⟨_,_,My.zc6 ?da_sure ?di_sure ?dl_sure ?dc_sure ?dk_sure⟩ ?Kx ?Ks ?Ln ?Kr ?Kk ?L4 ?LQ ?LP ?LO ?LC ?Mr ?LB ?K0 ?L5 ?Mq ?OO ?OR ?OF ?OE ?OD ?OC ?OB ?OA ?LR ?LG ?LF ?LD ?Li ?L7 ?Lh ?KR ?LS ?L6 ?Oq ?Ou ?NS ?NQ ?NO ?NM ?NK ?NI ?MG ?Mu ?Mt ?Ms ?Ma ?M5 ?L9 ?Lj ?MH ?M4 ?P5 ?P6 ?PJ ?PH ?PF ?PD ?PC ?PB ?LM ?LA ?Lz ?Ly ?Lg ?L3 ?Lf ?KQ ?LN ?LZ ?Oo ?Ot ?NR ?NP ?NN ?NL ?NJ ?NH ?K8 ?KZ ?KY ?KU ?KP ?Le ?KO ?Kw ?La ?Ld ?MT ?MW ?MO ?MN ?MM ?ML ?MK ?MJ ?sb ?pg ?hd ?po ?sa ?mk ?kc ?n_code ?n_slips ?n_entries ?n_deeds ?n_undone ?al ?ll ?cl ?kl ?QC ?P0 ?Qm ?PZ ?QA ?QB ?Nj ?QD ?Qn ?Qz ?Nx ?Oj ?Pk ?Nk
  (case NU=>k_is)
  (case PK=>k_is)
  (case Pc=>k_is)
  (case Pa=>k_is)
  (case O9=>k_is)
  (case OI=>k_is)
  (case Qh=>k_is)
  (case OH=>k_is)
  (case Ni=>k_is)
  (case PL=>k_is)
  (case Qg=>k_is)
  (case OJ=>k_is)
  (case da_is_whole=>k_is)
  (case dl_is_whole=>k_is)
  (case dc_is_whole=>k_is)
  (case dk_is_whole=>k_is)
  (case da_is_number=>k_is)
  (case dl_is_number=>k_is)
  (case dc_is_number=>k_is)
  (case dk_is_number=>k_is)
  (case da_value_at=>k_is)
  (case dl_value_at=>k_is)
  (case dc_value_at=>k_is)
  (case dk_value_at=>k_is)
  (case da_inverse=>k_is)
  (case dl_inverse=>k_is)
  (case dc_inverse=>k_is)
  (case dk_inverse=>k_is)
  (case da_times_root=>k_is)
  (case dl_times_root=>k_is)
  (case dc_times_root=>k_is)
  (case dk_times_root=>k_is)
  (case da_bent=>k_is)
  (case dl_bent=>k_is)
  (case dc_bent=>k_is)
  (case dk_bent=>k_is)
  (case da_through=>k_is)
  (case dl_through=>k_is)
  (case dc_through=>k_is)
  (case dk_through=>k_is)
  (case da_heard_points=>k_is)
  (case dl_heard_points=>k_is)
  (case dc_heard_points=>k_is)
  (case dk_heard_points=>k_is)
  (case da_fits=>k_is)
  (case dl_fits=>k_is)
  (case dc_fits=>k_is)
  (case dk_fits=>k_is)
  (case da_choices=>k_is)
  (case dl_choices=>k_is)
  (case dc_choices=>k_is)
  (case dk_choices=>k_is)
  (case da_all_through=>k_is)
  (case dl_all_through=>k_is)
  (case dc_all_through=>k_is)
  (case dk_all_through=>k_is)
  (case da_all_near=>k_is)
  (case dl_all_near=>k_is)
  (case dc_all_near=>k_is)
  (case dk_all_near=>k_is)
  (case da_l_cell=>k_is)
  (case dl_l_cell=>k_is)
  (case dc_l_cell=>k_is)
  (case dk_l_cell=>k_is)
  (case da_l_draws=>k_is)
  (case dl_l_draws=>k_is)
  (case dc_l_draws=>k_is)
  (case dk_l_draws=>k_is)
  (case da_l_code=>k_is)
  (case dl_l_code=>k_is)
  (case dc_l_code=>k_is)
  (case dk_l_code=>k_is)
  (case da_l_value=>k_is)
  (case dl_l_value=>k_is)
  (case dc_l_value=>k_is)
  (case dk_l_value=>k_is)
  (case da_l_through=>k_is)
  (case dl_l_through=>k_is)
  (case dc_l_through=>k_is)
  (case dk_l_through=>k_is)
  (case da_l_fits=>k_is)
  (case dl_l_fits=>k_is)
  (case dc_l_fits=>k_is)
  (case dk_l_fits=>k_is)
  (case da_l_choices=>k_is)
  (case dl_l_choices=>k_is)
  (case dc_l_choices=>k_is)
  (case dk_l_choices=>k_is)
  (case da_l_all=>k_is)
  (case dl_l_all=>k_is)
  (case dc_l_all=>k_is)
  (case dk_l_all=>k_is)
  (case da_l_near=>k_is)
  (case dl_l_near=>k_is)
  (case dc_l_near=>k_is)
  (case dk_l_near=>k_is)
  (case da_l_word=>k_is)
  (case dl_l_word=>k_is)
  (case dc_l_word=>k_is)
  (case dk_l_word=>k_is)
  (case da_l_deed=>k_is)
  (case dl_l_deed=>k_is)
  (case dc_l_deed=>k_is)
  (case dk_l_deed=>k_is)
  (case da_l_done=>k_is)
  (case dl_l_done=>k_is)
  (case dc_l_done=>k_is)
  (case dk_l_done=>k_is)
  (case da_l_later=>k_is)
  (case dl_l_later=>k_is)
  (case dc_l_later=>k_is)
  (case dk_l_later=>k_is)
  (case da_l_can_be=>k_is)
  (case dl_l_can_be=>k_is)
  (case dc_l_can_be=>k_is)
  (case dk_l_can_be=>k_is)
  (case da_l_sure=>k_is)
  (case dl_l_sure=>k_is)
  (case dc_l_sure=>k_is)
  (case dk_l_sure=>k_is)
  (case da_init=>k_is)
  (case di_init=>k_is)
  (case dl_init=>k_is)
  (case dc_init=>k_is)
  (case dk_init=>k_is)
  (case da_check_place=>k_is)
  (case di_check_place=>k_is)
  (case dl_check_place=>k_is)
  (case dc_check_place=>k_is)
  (case dk_check_place=>k_is)
  (case da_change=>k_is)
  (case di_change=>k_is)
  (case dl_change=>k_is)
  (case dc_change=>k_is)
  (case dk_change=>k_is)
  (case da_hear=>k_is)
  (case di_hear=>k_is)
  (case dl_hear=>k_is)
  (case dc_hear=>k_is)
  (case dk_hear=>k_is)
  (case da_forget=>k_is)
  (case di_forget=>k_is)
  (case dl_forget=>k_is)
  (case dc_forget=>k_is)
  (case dk_forget=>k_is)
  (case da_back=>k_is)
  (case di_back=>k_is)
  (case dl_back=>k_is)
  (case dc_back=>k_is)
  (case dk_back=>k_is)
  (case da_again=>k_is)
  (case di_again=>k_is)
  (case dl_again=>k_is)
  (case dc_again=>k_is)
  (case dk_again=>k_is)
  (case da_row=>k_is)
  (case di_row=>k_is)
  (case dl_row=>k_is)
  (case dc_row=>k_is)
  (case dk_row=>k_is)
  (case da_can_be=>k_is)
  (case di_can_be=>k_is)
  (case dl_can_be=>k_is)
  (case dc_can_be=>k_is)
  (case dk_can_be=>k_is)
  (case da_sure=>k_is)
  (case di_sure=>k_is)
  (case dl_sure=>k_is)
  (case dc_sure=>k_is)
  (case dk_sure=>k_is)
  (case Kx=>with_unfolding_all rfl)
  (case Ks=>with_unfolding_all rfl)
  (case Ln=>with_unfolding_all rfl)
  (case Kr=>with_unfolding_all rfl)
  (case Kk=>with_unfolding_all rfl)
  (case L4=>rfl)
  (case LQ=>rfl)
  (case LP=>rfl)
  (case LO=>rfl)
  (case LC=>rfl)
  (case Mr=>rfl)
  (case LB=>rfl)
  (case K0=>rfl)
  (case L5=>rfl)
  (case Mq=>rfl)
  (case OO=>rfl)
  (case OR=>rfl)
  (case OF=>k_is)
  (case OE=>k_is)
  (case OD=>k_is)
  (case OC=>k_is)
  (case OB=>k_is)
  (case OA=>rfl)
  (case LR=>rfl)
  (case LG=>rfl)
  (case LF=>rfl)
  (case LD=>rfl)
  (case Li=>rfl)
  (case L7=>rfl)
  (case Lh=>rfl)
  (case KR=>rfl)
  (case LS=>rfl)
  (case L6=>rfl)
  (case Oq=>rfl)
  (case Ou=>rfl)
  (case NS=>k_is)
  (case NQ=>k_is)
  (case NO=>k_is)
  (case NM=>k_is)
  (case NK=>k_is)
  (case NI=>rfl)
  (case MG=>rfl)
  (case Mu=>rfl)
  (case Mt=>rfl)
  (case Ms=>rfl)
  (case Ma=>rfl)
  (case M5=>rfl)
  (case L9=>rfl)
  (case Lj=>rfl)
  (case MH=>rfl)
  (case M4=>rfl)
  (case P5=>rfl)
  (case P6=>rfl)
  (case PJ=>k_is)
  (case PH=>k_is)
  (case PF=>k_is)
  (case PD=>k_is)
  (case PC=>k_is)
  (case PB=>rfl)
  (case LM=>rfl)
  (case LA=>rfl)
  (case Lz=>rfl)
  (case Ly=>rfl)
  (case Lg=>rfl)
  (case L3=>rfl)
  (case Lf=>rfl)
  (case KQ=>rfl)
  (case LN=>rfl)
  (case LZ=>rfl)
  (case Oo=>rfl)
  (case Ot=>rfl)
  (case NR=>k_is)
  (case NP=>k_is)
  (case NN=>k_is)
  (case NL=>k_is)
  (case NJ=>k_is)
  (case NH=>rfl)
  (case K8=>rfl)
  (case KZ=>rfl)
  (case KY=>rfl)
  (case KU=>rfl)
  (case KP=>rfl)
  (case Le=>rfl)
  (case KO=>rfl)
  (case Kw=>rfl)
  (case La=>rfl)
  (case Ld=>rfl)
  (case MT=>rfl)
  (case MW=>rfl)
  (case MO=>k_is)
  (case MN=>k_is)
  (case MM=>k_is)
  (case ML=>k_is)
  (case MK=>k_is)
  (case MJ=>rfl)
  (case sb=>k_is)
  (case pg=>k_is)
  (case hd=>k_is)
  (case po=>k_is)
  (case sa=>k_is)
  (case mk=>k_is)
  (case kc=>k_is)
  (case n_code=>k_is)
  (case n_slips=>k_is)
  (case n_entries=>k_is)
  (case n_deeds=>k_is)
  (case n_undone=>k_is)
  (case al=>k_is)
  (case ll=>k_is)
  (case cl=>k_is)
  (case kl=>k_is)
  (case QC=>k_is)
  (case P0=>k_is)
  (case Qm=>k_is)
  (case PZ=>k_is)
  (case QA=>k_is)
  (case QB=>k_is)
  (case Nj=>k_is)
  (case QD=>k_is)
  (case Qn=>k_is)
  (case Qz=>k_is)
  (case Nx=>k_is)
  (case Oj=>k_is)
  (case Pk=>k_is)
  (case Nk=>k_is)
#print axioms PySem.Challenge.cw_slipcurve_k29_whole_two_listeners_holds
end