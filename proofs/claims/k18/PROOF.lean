import PyProof.Rows.All
import Wide.All
import OpenK.AllK
import Wide.FinOn
import Lean
import PyProof.EqAt
import PyProof.EqKinds
import KE.KDictOf
import PyProof.AttrMissHeap
import PyProof.Rows.MinMaxN
import PyProof.ListMulRoad
import KE.KUnpackStar
import KE.KIntText
import PyProof.CallStr
import KE.KDictSum
import KE.KSortTup
import PyProof.Walk
import PyProof.Rows.SortRuns
import PyProof.Rows.ChunkEnd
import PyProof.Rows.Range3
import PyProof.Rows.SeqGen
import PyProof.ConsumeWalk
import PyProof.ListRange
import PyProof.NeKinds
import PyProof.TupleCall
import PySem.Challenge.RW_slipcurve_k18_whole_papers_judged
set_option maxHeartbeats 3999000
open List renaming length_map->aA,getElem?_map->aD,getElem?_eq_getElem->aG,mem_of_getElem?->aL,map_append->aN,length_append->aO,replicate->aP,size_toArray->aS,length_take->aU,mem_cons->aV,getElem?_eq_some_iff->aW,take_of_length_le->aY,mem_cons_of_mem->aZ,mem_singleton->bD,mem_map->bE,mem_append_right->bG,getD_eq_getElem?_getD->bI,mem_cons_self->bL,range->bM,mem_append->bO,not_mem_nil->bQ,length_range->bR,mem_append_left->bS,length_replicate->bU,map_cons->bV,lookup_cons->cm,zipWith->cn,mem_range->cE,append_assoc->cH,map_map->cN,length_drop->cP,getElem?_range->cR,append_nil->cZ,map_congr_left->c7,getElem?_append_right->c8,getElem?_eq_none_iff->db,getElem?_take_of_lt->df,take_append_drop->dh,mem_filter->dn,range_succ->dq,length_cons->dw,replicate_succ->dB,take_sublist->dC,mem_iff_getElem?->dF,eq_of_mem_replicate->dG,getElem?_replicate->dI,take_length->dL,flatten_replicate_singleton->dM,pairwise_map->dO,drop_eq_getElem_cons->dQ,pairwise_iff_getElem->dR,getElem_mem->d7,map_take->d9,mem_of_mem_take->eC,getElem?_cons_succ->eD,nodup_iff_pairwise_ne->eQ,drop_zero->eY,getElem?_eq_none->eZ,getElem?_append_left->fb,extract_eq_take_drop->fc,mem_or_eq_of_mem_set->fe,nodup_cons->fh,mem_flatMap->fK,drop_eq_nil_of_le->fL,filter_append->fO,length_set->fS,length_filter_le->fU,flatten_cons->fW,getElem?_set_ne->fY,mem_of_mem_drop->f8,getD->f9,all_eq_true->ge,getElem_of_mem->gh,map_drop->gi,take_nil->gk,forIn_cons->gq,find?_cons->gv,zip_cons_cons->gA,map_replicate->gB,getElem?_set_self->gC,length->gD,drop_of_length_le->gF,nodup_append->gH,ext_getElem?->gI,length_singleton->gJ,take_zero->gN,sum_cons->gV,filterMap_cons->gX,length_zipWith->gZ,length_take_le->g7,mem_map_of_mem->g8,flatMap_append->hJ,getElem?_zip_eq_some->ie,getElem?_drop->ip,map_set->iu,getElem?_cons_zero->iH,length_eq_zero_iff->iI,filter_cons_of_pos->iJ,filter_cons_of_neg->iK,range_succ_eq_map->iQ,any_cons->iT,drop_length->i5,concat_eq_append->i8,of_mem_zip->ja,map_nil->jb,sum_append->ji,eq_nil_of_length_eq_zero->jl,forIn_nil->jo,all_cons->jD,take_add_one->jM,flatMap_cons->jO,nil_sublist->jY,sublist_nil->jZ,any_eq_true->j2,set_eq_of_length_le->j5,foldl_cons->kb,length_nil->kf,filter_nil->kj,lookup->kA,getElem?_zipWith->kL,drop_drop->kM,eq_nil_or_concat->kN,pairwise_append->k8,getElem?_of_mem->lh,length_pos_iff->lH,map_eq_nil_iff->lK,mem_filterMap->lO,filterMap_map->lS,forIn_toArray->l3,getElem_take->mi,getElem?_set->mo,map_id->mI,nodup_range->mP,zipIdx_cons->mQ,foldl->mW,nil_append->mX,zipIdx_nil->mZ,length_zip->m8,nodup_nil->nu,take_take->nA
open PySem renaming wpAny_bind->aB,wpAny_pure->aK,sizeLine_eq->bJ,wpAny_callSpecial?_slot->cj,boot_len->cq,wpAny_field->cF,wpAny_call_entry->cI,wpAny_holding->cQ,wpAny_newObj_type->cS,wpAny_setField_rec->cT,wpAny_rule->c9,wpAny_of_eq->dk,wpAny_seqItems->dD,builtinLookup_eq_fast->dY,wpAny_attempt->d8,wpAny_mono->et,wpAny_truthy_bool->fE,wpAny_typeNameOfWhole_keyiter->fG,wpAny_pyIter_tuple->fM,wpAny_passesOwn->fR,typeLookup_type->fT,wpAny_pyIter_enum->fX,wpAny_setField->f',wpAny_tryCatch->ga,wpAny_isInstance->gf,mem_of_lookup->gg,plainId_quiet->gm,call_meets->gp,wpAny_loadPart'->gu,codeAny_builtin->gz,wpAny_letGo->gE,wpAny_standAt->gS,wpAny_letOwnedTupleGo_enum->gT,wpAny_Call_Name_kw->ik,wpAny_typeOf->im,isSubtype_type->iA,isSubtype_stop->iB,wpAny_pyIter_list->iL,wpAny_pyIter_rangeiter->iN,intItems_at->iR,wpAny_pyIter_zip->iW,wpAny_execs_nil->i9,wpAny_specialOf->jc,wpAny_updateSeq_pair->je,wpAny_newTuple->jp,seqIndex_of->jt,tupleKind_room_in1->jw,wpAny_onRaise->jF,wpAny_pyIter_slot->jL,wpAny_dictEntries->jN,noFill_tuple_add->jS,wpAny_comprehension_free->jU,callType_new->jV,numAt_eq->j3,wpAny_dictEpoch->kg,wpAny_updateSeq->kh,wpAny_pyNext_range_end->kr,wpAny_notOrdered_dict->kO,wpAny_isOneOf_keyiter->kQ,wpAny_loadName_local->kU,wpAny_pyIter_revIter->kZ,wpAny_pyIter_keyiter->k9,seq_tuple_add->lj,wpAny_handled->lq,nums_intItems->lA,wpAny_loadName_cell->lD,codeAny_mono->lP,concat_meets->lQ,seqIndex_neg->lU,list_append->mh,wpAny_throw->mG,wpAny_Name->mU,typeIs_int->mV,call->mY,argBest_gt->m7,Within->nH
open PySem.W renaming Frag->aF,nsIn->cD,kia_one->dH,fnOf->fj,keepIn->iw,codeIn->iz,mg_of->jG,methodObj->jH,instObj->ka,OpenLaw->kd,cellsFrom_some->ku,lookIn->kF,mroIn->li,kitx_list->me,kitx_dict->mf,plainGet->mJ,findIn->ni,kitOne->nj,WalkO->nF
open Nat renaming le_refl->aH,zero_le->bW,le_trans->bX,ne_of_lt->bY,lt_of_lt_of_le->cA,add_sub_cancel->cX,lt_irrefl->de,min_eq_left->dU,zero_add->eJ,sub_zero->eK,lt_succ_of_lt->fF,mul_succ->fQ,add_zero->gM,le_div_iff_mul_le->gO,mul_le_mul->gP,le_max_right->gR,le_succ->gW,le_max_left->ig,ne_of_gt->ij,mul_comm->io,succ_le_succ->iU,succ_ne_self->iV,lt_of_le_of_lt->jx,le_of_succ_le->jJ,le_of_lt->jR,lt_succ_self->jT,le_add_right->jW,sub_self->j4,min_eq_right->j7,div_le_self->km,mul_le_mul_left->lI,add_le_add_left->lJ,succ_mul->lW,lt_succ_of_le->mC,le_add_left->nc,not_lt_zero->nh,succ->nJ
open Or renaming inl->aI,inr->cY
open PySem.Heap renaming get?_push_of_some->aJ,get?_push_size->aX,lt_size->bA,SameBut->cC,size_push->cM,get?_update_other->dv,get?_update_self->dX,ExtBut->mF
open PyProof.Rows renaming wpS_bind->aQ,wpS_pure->aT,callWith_type1->bZ,wpS_forRange->d6,boot_tuple->eR,slot_tuple_getitem->ff,zipApart_new->fo,boot_max->fC,wpS_mono->fI,wpS_modify->gQ,boot_list->ir,wpS_get->iD,wpS_lift->jq,pairsOf_size->jX,subscriptTail_builtinR->kx,mirror_perm->kE,boot_enumerate->kG,pairsOf_toList->kR,boot_range->kW,listUpdate_at->ly,entry_tuple_getitem->lE,getElem?_mirror_all->lG,args_tuple_getitem->lT,seqEpoch_at->mH,boot_zip->mO
open Int renaming emod_lt_of_pos->aR,emod_nonneg->bC,toNat_natCast->cG,zero_add->cV,le_trans->cW,add_zero->dg,mul_le_mul_of_nonneg_right->du,le_refl->dz,zero_mul->dE,emod_eq_of_lt->dN,mul_zero->fq,pow_succ->fw,le_of_lt->gL,mul_comm->jg,natCast_mul->jj,toNat_of_nonneg->jm,lt_of_le_of_lt->jy,fdiv_eq_ediv_of_nonneg->jA,natCast_ediv->j6,natCast_add->ki,pow_nonneg->kS,zero_emod->lC,ediv_one->lR,natCast_nonneg->l9,lt_trichotomy->mj,mul_one->mE,natCast_sub->ng
open PySem.Paired renaming length->bF,snoc->cL,mono->fg
open Bool renaming false_ne_true->bH,false_eq_true->ck,eq_iff_iff->eE,and_eq_true->eS,not_eq_true'->ml,and_false->nk
open Option.some renaming inj->bK,injEq->jP
open PySem.PassesOwn renaming never->bN
open PySem.Value renaming ref->bP,none->eh,int->ju,bool->kT,builtin->lB,str->lL,type->mT,isStrOf->nE
open Array renaming length_toList->bT,getElem?_toList->cB,toList_append->cU,getElem?_eq_some_iff->eP,toList_extract->fu,perm_iff_toList_perm->gU,toList_reverse->jf,toList_map->mS,size_map->nB,toList->nI
open PySem.Builtin.Range renaming rangeFitsLong->cg,rangeSize->cK
open PySem.Builtin.SmallTypes renaming nextOf->ci,ownedTupleIsFree->c6,ownedTupleHandOut->dZ,newRecord->np
open PySem.Str renaming ofString->cJ
open PySem.NameKind renaming free->dm,cell->eL
open Classical renaming byContradiction->dA,propDecidable->fH,em->lX
open PySem.F renaming plainAttrs_list->dJ,slot_enumerate_next->eX,slot_zip_next->ft,slot_list_append->fA,type_list_append->fB,slot_dict_keyiterator_next->fJ,slot_tuple_iterator_next->fV,args_tuple_add_2->il,entry_tuple_add->iF,args_enumerate_next_1->iG,args_zip_next_1->iM,slot_tuple_add->iO,entry_enumerate_next->iP,entry_zip_next->iX,entry_max_loop->iY,plain_max_loop->iZ,entry_min_loop->i3,plain_min_loop->i4,slot_dict_get->i6,args_object_init_2->jd,args_dict_keyiterator_next_1->jh,entry_dict_keyiterator_next->jk,args_tuple_iterator_next_1->jn,entry_tuple_iterator_next->jv,args_dict_get_3->j8,typeCall_enumerate_1->kC,entry_dict_get->kD,typeCall_reversed_1->kH,newCall_enumerate_1->kJ,entry_enumerate_new->kK,args_list_append_2->kY,newCall_reversed_1->k6,entry_reversed_new->k7,plain_reversed_new->lg,entry_list_append->lF,slot_list_append->lV,called_enumerate->lZ,slot_dict_iter->mR
open ForInStep renaming yield->dP,done->iE
open Ne renaming symm->dW
open Sum renaming inl->eG,inr->jQ
open PySem.Heap.SameBut renaming update->eI
open PySem.Obj renaming data_mapFields->eU,mapSeq->fk,isFreed_of_fields->gK,mapFields->jE,cls_mapFields->jK
open PySem.Builtin.List renaming listTooLong->fm
open PySem.Around renaming under_plainId->fz
open PySem.Calls renaming spliced_cons->fN,spliced_nil->gG,Name_function_global->jz,callWith_builtin->kz,evalArgs_plain->kX
open PySem.Builtin.Builtins renaming bindParams->fP
open False renaming elim->fZ
open True renaming intro->f6
open PySem.Builtin.Slice renaming slicePlaces->f7,sliceAdjust->hU,sliceApplied->jB
open PySem.Builtin.Tuple renaming tupleExact->gb,tupleItemsOf->jC
open Option renaming getD_some->gd,map_eq_some_iff->iS,toList->lw,isSome_some->lY,getD_none->mL,none->nK
open List.Perm renaming trans->ic
open List.Pairwise renaming imp_of_mem->iq,sublist->i7,nil->jI,imp->mB
open PySem.Draws renaming list->iC
open PySem.Builtin.Dict_items renaming ownsTuple->jr
open PySem.Builtin.Dict renaming updateFrom->j9,showsAll->kP
open Sum.inl renaming inj->ko
open PySem.Data renaming fields->kq
open PyProof renaming noPylong_small->kt
open PySem.Shared renaming heap->kB
open List.cons renaming inj->lx
open PySem.SeqAt.EqAt renaming int_str->lM,str_int->lN
open Prod renaming ext->mK
open PySem.IsL renaming update->mM
open PyProof.Rows.SortSt renaming mk'->m5
open PyProof.Rows.IsTup renaming new->nC
open PySem.CmpOf renaming ints_gt->nG
open PySem.W.KatTups renaming cons->nL
local macro_rules | `(tactic| trivial)=>`(tactic| first | exact .inl rfl | exact .inr rfl | assumption)
local macro_rules|`(#[$xs,*])=>do
 let a:=xs.getElems
 if h:a.size=0 then Lean.Macro.throwUnsupported else
 let s:=a[0].raw.getId.eraseMacroScopes.toString
 if s=="Y" then `((of_decide_eq_true rfl)) else if s=="O" then `(by lia) else if s=="D" then `(by decide) else if s=="N" then `(by decide +kernel) else if s=="S" then `(⟨rfl,rfl,rfl,by decide +kernel,rfl,by decide +kernel,by decide +kernel⟩) else if s=="A" then `(Or.inl rfl) else if s=="M" then `(by simp) else
 match [("_____eb","ze"),("________eee","zbj zh zct"),("________eeee","zJ zj5"),("_","zgv zo zu zan zcv zB zQ zy zK zfp zd za6 zgw zcx zbU zam zai zt zbg zA zc3 zcJ zav zgZ zhZ za2 zh0 zkI"),("_e__f","pvx"),("_________ereeeddrr","zn zW"),("___er","ya"),("___e","zl zaA zb5"),("____e","zC z9 zmy zad ze0 zaU zgY zcm zi9"),("_______eeeu","zw"),("____","zf zdB"),("__e____efeert","zm"),("_____e","zap"),("______b","zdE"),("_____eer","za zj"),("________________eefeeeneedrr","zq"),("________efeeei","zah"),("______feer","zU"),("__e_efet","zg"),("____er","zcc"),("____________eeeeeerrrrr","zfu"),("_f","zgx za4 zet"),("_____________efeeeeei","zI"),("__f","zZ"),("_ef","za9 zaC zhd"),("__________eeee","zay"),("______eerrr","zaO"),("______ferr","zaw"),("_____________e___efeefeeeeerit","za8"),("_______ee","zgX zmh"),("___","zen"),("______eee","zfm"),("__e______efeeet","zjc"),("___fe","zz"),("_________feerr","zdT"),("_e___e_fferr","zaj"),("________feer","zcy zc6"),("_______eeei","zeo"),("______ee","zmk"),("_____________________efeeddeeeeeeeie","zkx"),("__","zgq"),("_e___________fefeeedd","zjD"),("_e___fe","zkH"),("_______feerr","zgs"),("____________eeeeee","zh1"),("___ei","zmg")].find? fun q=>(q.2.splitOn " ").contains s with
 |none=>Lean.Macro.throwUnsupported
 |some (p,_)=>do
  let mut r:=#[]
  let mut i:=1
  for c in p.toList do
   if c=='e' then
    r:=r.push (a[i]!)
    i:=i+1
   else if c=='b' then
    r:=r.push (<-`((by exact $(a[i]!))))
    i:=i+1
   else r:=r.push (<-match c with|'_'=>`(_)|'r'=>`((by rfl))|'d'=>`((by decide))|'f'=>`(rfl)|'t'=>`((by trivial))|'i'=>`((by intro _; rfl))|'u'=>`((fun _ _=>rfl))|'n'=>`(.nil)|'l'=>`(Or.inl rfl)|'o'=>`(Or.inr rfl)|_=>`(nomark _))
  return Lean.Syntax.mkApp (<-`(@$(⟨a[0].raw⟩):ident)) r
def qO:=["::","+","-","++","=","<=","->","<"]
def Wp:Nat->Nat->List String->Lean.MacroM (List (Lean.TSyntax `term)×List String)
|0,_,_=>Lean.Macro.throwUnsupported
|n+1,0,ts=>match ts with
 |"fun"::ts=>do
  let (bs,r):=ts.span (·≠"=>")
  let (b,r)<-Wp n 0 (r.drop 1)
  let mut e:=b.head!
  for x in bs.reverse do
   e<-if x=="_" then `(fun _=>$e) else let i:=Lean.mkIdent x.toName; `(fun $i=>$e)
  return ([e],r)
 |_=>do
  let (a,r)<-Wp n 1 ts
  let l:Lean.TSyntax `term:=if a.length=1 then a.head! else Lean.Syntax.mkApp a.head! a.tail.toArray
  match r with
  |o::q=>do
    if !qO.contains o then return ([l],r)
    let (e,q)<-Wp n 0 q
    let e:=e.head!
    let x<-match o with|"::"=>`($l :: $e)|"+"=>`($l+$e)|"-"=>`($l-$e)|"++"=>`($l++$e)|"="=>`($l=$e)|"<="=>`($l<=$e)|"->"=>`($l->$e)|_=>`($l<$e)
    return ([x],q)
  |_=>return ([l],r)
|n+1,1,ts=>match ts with
 |[]=>return ([],[])
 |t::ts=>if t==")"||t=="⟩"||t==","||t=="]"||qO.contains t then return ([],t::ts) else do
  let (a,r)<-if t=="(" && ts[1]?==some ":=" then do
    let (e,r)<-Wp n 0 (ts.drop 2)
    pure (⟨.node .none ``Lean.Parser.Term.namedArgument #[.atom .none "(",Lean.mkIdent ts.head!.toName,.atom .none ":=",e.head!,.atom .none ")"]⟩,r.drop 1)
   else if t=="(" then do
    let (e,r)<-Wp n 2 ts
    let f:=e.head!
    let e:=e.tail.toArray
    pure (<-if e.size=0 then `(($f)) else `(($f,$e,*)),r.drop 1)
   else if t=="⟨" then do
    let (e,r)<-Wp n 2 ts
    let e:=e.toArray
    pure (<-`(⟨$e,*⟩),r.drop 1)
   else if t=="#[" then do
    let (e,r)<-Wp n 2 ts
    let e:=e.toArray
    pure (<-`(#[$e,*]),r.drop 1)
   else if t=="_" then pure (<-`(_),ts)
   else if t=="?_" then pure (<-`(?_),ts)
   else if t.front.isDigit then pure (Lean.Syntax.mkNumLit t,ts)
   else if t.front=='.' then let i:=Lean.mkIdent (t.drop 1).toString.toName; pure (<-`(.$i:ident),ts)
   else if t.front=='@' then let i:=Lean.mkIdent (t.drop 1).toString.toName; pure (<-`(@$i),ts)
   else pure (⟨Lean.mkIdent t.toName⟩,ts)
  let (l,r)<-Wp n 1 r
  return (a::l,r)
|n+1,_,ts=>do
 let (e,r)<-Wp n 0 ts
 if r.head?==some "," then
  let (l,r)<-Wp n 2 (r.drop 1)
  return (e++l,r)
 return (e,r)
local macro_rules|`(#[$x:ident])=>do
 let s:=x.getId.eraseMacroScopes.toString++" "
 match ("mt ( fun oh A outer s H vs Q E hr h => ?_ )
or ( fun _ _ _ _ => #[ zaj , ( K ) , 2 , #[ zj , #[ zg , 0 , #[ Y ] , #[ A ] ] , #[ zj , #[ zg , 1 , #[ Y ] , #[ A ] ] , #[ zA ] ] ] ] )
o0 ( zY X N' scope s₃ H₃ ex nM )
pc ( fun _ _ _ _ => #[ zg , 0 , #[ Y ] , #[ A ] ] )
pi ( model X.prog X.w )
re ( fun _ _ _ _ => #[ zt ] )
sn ( fun vs H Q E h => ?_ )
ss ( model prog w )
sK ( hr.mono #[ D ] )
ul ( .ListComp elt ( ⟨ tg , iter , ifs , 0 ⟩ :: gs ) scope pos )
ut ⟨ rfl , I.turned ( t' := s.toks ) ( fun b o hb e => eb b o hb e ) f0 f1 f3 f4 f5 ⟩
v6 ⟨ #[ O ] , #[ O ] ⟩
wf ( .ref s.heap.objs.size )
wn ( arrOf st )
wp ( List Int )
wv #[ zaU , #[ zz , #[ zz , #[ zav ] ] ] ]
ww ( nR rfl rfl ( nN rfl ?_ ) )
wE ( a.toList ++ b.toList )
wP ( .ListComp elt gens scope pos )
xz ( sIx items.size items.size hi - sIx items.size 0 lo )
xL #[ ya , #[ pvx , 1 ] ]
At ( ls.map V.ref )
AC ( bs.map V.ref )
AT #[ pvx , 0 ]
BT ( fun _ => ?_ )
Ch ( arrOf nU )
Cl ( ns.map V.int )
Db ⟨ T , _ , rfl , nS.of zc , rfl , _ , _ , rfl , _ , _ , rfl , rfl , ?_ ⟩
Do ( mvd p x y rows )
Ev ( fun t => b ( t + 1 ) )
EQ ( nN rfl ( nR rfl rfl ⟨ p0 , ?_ ⟩ ) )
Fa ( s.heap.objs.size + 1 )
Fr ( false , eval b X.env )
FB ( false , eval a X.env )
FM ( ha pos nM s σ H _ I h )
FS ( fun i x y R B hx hy hR => ?_ )
Go ( wb ( sa + k ) out.toList.zipIdx #[ wn ] )
GE ( zaf I q #[ M ] )
GM ( nN rfl ( nR rfl rfl ⟨ #[ O ] , ?_ ⟩ ) )
GT #[ pvx , 2 ]
Id #[ pvx , 1 ]
Ix ( zaK rows rows.length )
IN #[ zn , #[ zo ] , T.KD , cq , #[ xL ] ]
IO ( oz pl rw )
IR ( nR rfl rfl ?_ )
KB ( qx x0 ( n + 1 ) A )
KF ( nQ ( nQ ( nQ H5 z ( .lst ( os.map V.int ) ) ) D ( .lst ( f.map V.int ) ) ) fa ( .tup ( f.map V.int ) ) )
KK ( us.map V.ref )
KM #[ za , #[ zf ] , #[ ya , #[ zf ] ] ]
LE ( envOfC qual scope s.heap.objs.size f cd )
No ⟨ _ , rfl , .inr ⟨ _ , _ , _ , _ , _ , _ , rfl , p7 , #[ O ] , #[ O ] , #[ O ] , #[ O ] , #[ O ] ⟩ ⟩
NE #[ pvx , 3 ]
On ( Cg.refl p _ )
Op ( Option Int )
Os ( cs.drop ( cs.length - i ) )
OC ( fun ys H' _ => aH _ )
OD #[ pvx , 4 ]
OE ( Option Nat )
OF ( Cg.emod p _ )
OG ( Cg.of_eq #[ O ] )
OH ( fun t => l ( t + 1 ) )
OI ( fun t => F ( t + 1 ) )
OJ #[ z9 , #[ ya , #[ zf ] ] ]
OK #[ .int lo t , .int hi u , .int 1 v ]
OL ( ds.map V.int )
OM ( I1.hok.fresh ( aH _ ) )
ON ⟨ _ , rfl , .inr ⟨ _ , _ , _ , _ , _ , _ , rfl , p7 , #[ O ] , #[ O ] , #[ O ] ⟩ ⟩
OO #[ zh , #[ zy ] , #[ zw , #[ zu ] , #[ AT ] , #[ zf ] ] , #[ zf ] ]
OP ⟨ #[ D ] , #[ D ] ⟩
OQ ( fun _ _ _ _ => #[ zn , #[ zaC , ( K ) ] , T.KD , cq , #[ ya , #[ AT ] ] ] )
OR ( false , eval e X.env )
OS ( s.heap.push ( zbT l1 ) )
OT ⟨ _ , _ , _ , _ , _ , _ , _ , rfl , rfl , p7 , #[ O ] , #[ O ] , #[ O ] , #[ O ] , #[ O ] ⟩
OU ( fj x qual ( zcd st ) ( zbV st ) ( zi st ) .none kV doc pm an oh ct )
OV ( fun _ _ e => e )
OW ( σ.set i ( some x ) )
OX #[ ya , #[ GT ] ]
OY ( Draws.tuple hh n a ( nq #[ O ] ) oB.toArray )
OZ ( zaK #[ Do ] rows.length )
O0 ( zt5 C s.heap l1 l2 )
O3 ( zt2 C s.heap l1 l2 )
O4 ( ha nM s σ H _ I h )
O5 ( HT.sIx xs.length xs.length hi - HT.sIx xs.length 0 lo )
O6 ( n4.same ( zb hD ) )
O7 ( I.ok.hd hc )
O8 ( zk6 CX P w K mg base N qual scope f oh A outer s H E )
O9 ( .lst #[ At ] )
Pa ( .lst ( rw.map qW ) )
Pb ( fun i ys H' hi _ => hi )
Pc #[ .int i tk , .ref hp.objs.size ]
Pd ( starEach es X.env )
Pe ( max ( s + 1 ) ( max rows.length ( wd rows ) ) )
Pf #[ pvx , 5 ]
Pg ( .Tuple es k o9 )
Pi ⟨ bC _ #[ O ] , aR _ #[ O ] ⟩
Pj ( EP X nM σ Q )
Pk #[ zh , #[ zy ] , #[ zw , #[ zu ] , #[ pvx , 8 ] , #[ zf ] ] , #[ zf ] ]
Pl ⟨ _ , _ , _ , _ , _ , _ , _ , rfl , rfl , p7 , #[ O ] , #[ O ] , #[ O ] ⟩
Pm ( .ref l )
Pn ( .ref a )
Po ( nN rfl #[ ww ] )
Pp ( nN rfl ?_ )
Pq #[ zn , #[ zo ] , T.KD , cq , #[ ya , #[ OD ] ] ]
Pr ⟨ fun b o e n hb hx => ?_ , fun b o e n hb hx => ?_ , I.base.free , fun b o e hx => ?_ , I.base.Nr , I.base.Nl , I.base.Nt ⟩
Pt ( .ref D )
Pu ⟨ n - ( i + 1 ) , #[ O ] , rfl , n6 , p' ⟩
Pw #[ zw , #[ zu ] , #[ pvx , 8 ] , #[ pvx , 11 ] ]
Px ( fun _ _ _ _ => #[ zh , #[ zy ] , #[ AT ] , #[ Id ] ] )
Py ( nN rfl ( nR rfl rfl ⟨ #[ O ] , hR ⟩ ) )
Pz #[ zh , #[ zam ] , #[ GT ] , #[ zf ] ]
PB ( nN rfl ( nN rfl ⟨ #[ O ] , #[ O ] , ?_ ⟩ ) )
PC ( .int p )
PD ( .inl rfl )
PF #[ zl , #[ zC , #[ zdB ] ] ]
PH ( fun c o _ _ oS e _ => ⟨ o.slots , k1 c o oS e ⟩ )
PJ ( .ref it )
PK ( .tup ( k.map kV ) )
PL ( nN rfl ( nR rfl rfl ⟨ p0 , hR ⟩ ) )
PN ( jq ( c9 ⟨ rfl , ?_ ⟩ ) )
PP ( nQ H1 pr ( .lst ( zG.map V.int ) ) )
PQ ( tupleKind ( zaM P w ) )
PR #[ zw , #[ zu ] , #[ Id ] , #[ zf ] ]
PU ( cY rfl )
PV ( he nM s σ H _ I h )
PX ( nN rfl ( nN rfl ( nR rfl rfl ⟨ .inl #[ v6 ] , ( nR rfl rfl ( nN rfl ( zaR ( fun h => ?_ ) ( fun n6 => ?_ ) ) ) ) ⟩ ) ) )
PY ( wd rows )
PZ #[ za , #[ AT ] , #[ xL ] ]
P0 ( aK ⟨ _ , rfl , aK h ⟩ )
P3 ( mq 0 n #[ Ev ] l )
P4 ( h3.objs.size + 1 )
P5 ( .lst ( v.map V.int ) )
P6 ( zda hC hk qr ep mp ?_ )
P7 ( items.toList.drop ( sIx items.size 0 lo ) )
P8 ( shO ( mq 0 ( k1 + 1 ) b ) n #[ OI ] v )
P9 ( .lst xs )
Qa #[ ya , #[ pvx , 6 ] ]
Qb ( .Tuple es k pos )
Qc ( nN rfl ( .inl ⟨ nO.of zc , fun l hl => ?_ ⟩ ) )
Qd ( s1 _ _ ha )
Qe ( nN rfl ( nN rfl ( ex7 c tt r p k pl rw ⟨ rfl , hc , hR , #[ O ] , fun l bs H1 u5 s1 qS hB => ?_ ⟩ ) ) )
Qf ( .tup #[ AC ] )
Qg ( .Name x pos' )
Qh ( .frz o ( .dT nT ) )
Qi #[ zn , #[ zo ] , T.KD , cq , #[ OX ] ]
Qj ⟨ T' , _ , rfl , nS.of zc , rfl , _ , _ , rfl , _ , _ , rfl , rfl , ?_ ⟩
Qk ( f.map V.int )
Ql ( c.map V.int )
Qm ( rows.map ( sms p x i ) )
Qn ( fun t i => cu rows t i )
Qo ( nq #[ O ] )
Qp ( Cg.of_eq #[ M ] )
Qq ( nR rfl rfl ⟨ #[ O ] , #[ IR ] ⟩ )
Qr ⟨ yZ i ys H n6 p , Pv ( i + 1 ) , fun tW H' p' => #[ Pu ] , fun x H' y => hs i x ys H H' n6 p y ⟩
Qs ( pairsOf vs )
Qt ( K w.params )
Qu ( zc1 rows x y u v )
Qv ( xs.toList.drop i )
Qw ( model Y.prog Y.w )
Qx ( I1.hok.fresh hle )
Qy ⟨ fun _ _ e => e , rfl ⟩
Qz ( assignEach es X.env )
QA ( fun _ _ => False )
QB ( fun _ _ _ _ n => n )
QC #[ ya , #[ AT ] ]
QD ( putK nT k v )
QE ( pl.map V.int )
QF ( pendingOf oI )
QG ( cs.map V.int )
QH #[ zw , #[ zu ] , #[ OD ] , #[ zf ] ]
QI ( bY ( cA ( bA e ) ( I.ok.cab x c Dw hc ) ) )
QJ ( nN rfl ( ex4 b _ _ _ ⟨ rfl , rfl , nO.of hB , zgU E4 , ( nN rfl ( nR rfl rfl #[ GM ] ) ) ⟩ ) )
QK ( D , zeQ nP nn )
QL ( fun t => c t i )
QM ( fun _ _ z => s _ _ z )
QN ( I.hok.fresh ( aH _ ) )
QO ( aP ( kept - 1 ) ( V.int 0 ) )
QP ( nN rfl ( nN rfl ( nR rfl rfl ⟨ .inl #[ v6 ] , ( nN rfl ( nR rfl rfl #[ EQ ] ) ) ⟩ ) ) )
QQ ( nN rfl ( nN rfl ( nN rfl ( nR rfl rfl ⟨ .inr #[ v6 ] , ( nR rfl rfl #[ EQ ] ) ⟩ ) ) ) )
QR ( nN rfl ( nN rfl ( nN rfl ( nR rfl rfl ⟨ .inl #[ v6 ] , ( nR rfl rfl #[ PL ] ) ⟩ ) ) ) )
QS ( fun c o _ _ oS e _ => k1 c o oS e )
QT #[ ya , #[ Pf ] ]
QU ( fun v s2 => wpAny #[ pi ] X.A ( pyIter v ) ( PIE X nM σ tg R ) X.xe s2 )
QV ( aK ( aB ( aB ( aB ( fG hit.typeIs ( aK ( aB ( wpAny_fieldsOf ho hd ?_ ) ) ) ) ) ) ) )
QW ( .ref z )
QX ( ts.map tK )
QY ( xs.extract i j )
QZ ( nQ H' D ( .lst ys ) )
Q0 ( bG _ ( bG _ ( zcI hb e ) ) )
Q3 ( nR rfl rfl ⟨ .inl #[ v6 ] , #[ EQ ] ⟩ )
Q4 ( setArr ( zaG pS g ) ( wb ( sa + k ) out.toList.zipIdx ( arrOf ( zaG pS g ) ) ) )
Q5 ( Cg.of_eq ?_ )
Q6 ( .builtin id )
Q7 ( zaK rows m ++ trm m r j )
Q8 ( cI ft wg iX ?_ ( iM _ ) )
Q9 ( .tup xs )
Ra ( .bool true )
Rb ( za7 xs lo hi )
Rc ( ms.map V.int )
Re ( fun _ _ _ e => e )
Rf ⟨ n , #[ M ] , bW _ , h0 ⟩
Rg ( .compLoop #[ ul ] 0 it #[ Pt ] env )
Rh #[ zq , oo , #[ sK ] , T.Ky , nZ.kp , om , #[ zK ] , #[ PZ ] ]
Ri ( zk6 CX P w K mg base N qual scope f cd A outer s H E )
Rj ( fj name qual params body scope dV kV doc pm an oh ct )
Rk ( wc.extBut _ _ Z.zTO.symm ( pI.extBut _ _ Z.z1.symm AY ) )
Rl #[ pvx , 7 ]
Rm ( fun D hD => ?_ )
Rn ( s1.trans ( zb hD ) )
Ro ( cA ( bA e ) I.ok.above )
Rp ( fj x x ( zcd st ) ( zbV st ) ( zi st ) .none kV dc pm an cd ct )
Rq ( .ref tt )
Rr ( .ref pa )
Rs ( zaa ez ?_ )
Rt ( binaryOp .Add )
Ru ( aB ( ga ( cQ ( aB ( uh ( j + 1 ) ( argBest bt j ) v vb _ _ _ hP D' ?_ ) ) ) ) )
Rv ( chs xs m )
Rx ( zgW s₁.heap H )
Ry ⟨ rfl , fun _ _ e => e ⟩
Rz ( zcu ( zaT i ) ( zcu ( zaT j ) zja ) )
RA ( fun d v' hd q => k1 d v' ?_ q )
RB ( zaa ey ( aQ ( zaa ez ( aQ ( zmY hC hk ( mb y my ) ( ma z mz ) ?_ ) ) ) ) )
RC ( rows.length + 1 )
RD ( s.heap.push ( zbT l ) )
RE ( .lst ( rs.map V.int ) )
RF ( .lst ( cs.map V.ref ) )
RG ( fun s₃ H₃ ex nM D => zjl rfl ( he s₃ H₃ ex nM ) )
RH #[ pvx , 8 ]
RI ( za1 k S )
RJ ( z8 rows )
RK ( gl w ld )
RL ( r.map V.int )
RM ( .Name x pos )
RN ( ho nM s σ H _ I h )
RO ( hl nM s σ H _ I h )
RP #[ zw , #[ za6 ] , #[ OD ] , #[ Pf ] ]
RQ ( I.base.keep b o e n hb hx )
RS #[ ya , #[ OD ] ]
RT ⟨ rfl , #[ Pp ] ⟩
RU ( nN rfl ( nN rfl ( nR rfl rfl ( nR rfl rfl ⟨ #[ v6 ] , #[ IR ] ⟩ ) ) ) )
RV ( zau n w g )
RW ( s3 _ _ tZ )
RX ( ks.zip ys )
RY ( fun _ q => q )
RZ ( .lst #[ AC ] )
R0 ( pendingOf st )
R1 ( as.map V.int )
R3 ( Option Value )
R4 ( sliceBounds lo hi none n )
R5 ( .ref nr )
R6 #[ zh , #[ zQ ] , #[ GT ] , #[ Id ] ]
R7 ( nN rfl ( nR rfl rfl ⟨ .inl #[ OP ] , ( nR rfl rfl ( q _ ) ) ⟩ ) )
R8 #[ pvx , 6 ]
R9 ( pyNext #[ PJ ] )
Sa ( fun m hm => ?_ )
Sb ( fun _ _ _ _ => #[ AT ] )
Sc ( jc hl.typeIs slot_tuple_getitem.lookup ?_ )
Sd ( .ref c )
Se ( .ref i2 )
Sf ( .ref i1 )
Sg #[ za9 , ( K ) ]
Sh ( fo ha hb )
Si #[ z9 , #[ zd ] ]
Sj #[ ya , #[ NE ] ]
Sl #[ zl , #[ zC , #[ NE ] ] ]
Sm #[ za , #[ zf ] , #[ KM ] ]
Sn ( decide_eq_true h )
So ( nN rfl ⟨ nO.of zc , ?_ ⟩ )
Sr ( hb nM s1 σ H1 _ I1 q1 )
Ss ( I.base.free b o e n hx )
Su ( model P w )
Sv ( intItems xs )
Sw ⟨ 0 , rfl , #[ D ] , #[ D ] ⟩
Sx ( ( p , w ) :: P.zip vs )
Sy ( .lst #[ OL ] )
Sz ( f' ho hd #[ M ] ?_ )
SA ( backTo pos #[ Pd ] )
SD ( f ( .int i t ) ( .int j u ) )
SE ( HT.sIx xs.length 0 lo )
SG #[ zJ , #[ zcv ] , #[ OO ] , #[ zf ] , ( zV _ ) ]
SH ( fun h' c' kp e => fin nP r' hz h' c' kp e )
SI #[ pvx , 9 ]
SJ ( nS.of zc )
SK ( arrOf pJ )
SM ( bs.map V.int )
SN ( sb.sub #[ O ] #[ O ] )
SO ( zkd C2 g2 C1 ( zkc te ) )
SQ ( cI eX hT iP ?_ ( iG _ ) )
SR ( nN rfl ⟨ b , ( nN rfl ⟨ .inr ( nS.of oW ) , ?_ ⟩ ) ⟩ )
SS ( ho nM s2 σ H2 x y v u _ I2 r1 r2 q2 )
ST ( byL p x i #[ PY ] )
SU ⟨ n6 , Pv ( i + 1 ) , fun σ' H' p' => #[ Pu ] , fun x H' y => ?_ ⟩
SV ( fun T t R B ht hT hR => gY2 hT ⟨ _ , rfl , hR ⟩ )
SW ( .ref e )
SX ( .dT nT )
SY ( .ref fa )
SZ ( .lst ys )
S0 ( nW.take n )
S3 ( zaK rows m )
S4 ( mq 0 n b l )
S5 ( cn f as bs )
S6 ⟨ u , v , kk _ #[ M ] _ h3 ⟩
S7 ⟨ bC _ #[ O ] , aR _ p0 ⟩
S8 #[ za , #[ AT ] , #[ za , #[ Id ] , #[ OX ] ] ]
S9 ( fun h => absurd ( of_decide_eq_true h ) #[ O ] )
Ta ( uV ( j - 1 ) #[ O ] )
Tb ⟨ za0 , _ , .cons ru ( .cons rv .nil ) , zbF pp ⟩
Tc ⟨ D , z8 rows , rfl , nO.of zc , oH , fun M vS yU => ?_ ⟩
Td ( wpAny_sequenceKey ht.typeIs #[ D ] ?_ )
Te ( fun _ _ _ _ => #[ zn , ( zgd ( K := K ) rfl rfl ) , T.MP , fC , #[ QC ] ] )
Tf ( .ref r )
Tg ( .ref p )
Th ( fun qV => ?_ )
Ti ( .tup #[ At ] )
Tj ( .lst #[ KK ] )
Tk ( s0.trans s1 )
Tl ( gallopOf st )
Tn ( Cg.refl p y )
To ( Cg.refl p x )
Tp ( Cg.refl _ _ )
Tq ⟨ rfl , fun _ _ => rfl ⟩
Tr ( zt4 C s.heap l1 l2 )
Ts ( zb ( o := .lst #[ KK ] ) hD )
Tt ( wd rows - r.length )
Tu ( hi nM s σ H _ I h )
Tv ( h nM s σ H _ I hw )
Tw ( fun t => sh x0 W ( F t ) )
Tx ( .lst ( w0.map V.int ) )
Ty ( .lst ( ts.map V.ref ) )
Tz ( .lst ( os.map V.ref ) )
TB ( .lst ( fs.map V.int ) )
TC ( backTo oU ( starEach ( e :: es ) X.env ) )
TD ( hit p q )
TF ( V.int 0 )
TH ( y - zF p x cs )
TJ ( I.ok.bs b o e )
TK ( fun GR s' h' => aK ( And.intro rfl h' ) )
TN ( c9 ( aB ( cF hz rfl ( x := .ref TO ) rfl ?_ ) ) )
TQ ( zbx nW + 1 )
TR ( .ref ( n + 4 ) )
TU ( .ref ( n + 1 ) )
TV #[ zcm , #[ Id ] ]
TW ⟨ k - 1 , #[ O ] ⟩
TX ( zbA ( K := K ) rfl )
TY ( vl ( k1 + 1 ) f x0 )
TZ ( fun i => u i + v i )
T3 ( vN a1 a2 a3 a4 a5 )
T4 ( nM ++ zc2 fp s7.heap )
T5 ( fun b ob q => aJ _ q )
T6 ( assign #[ Qg ] X.env )
T7 ( argBest bt ( n - 1 ) )
T8 ( @ite _ c inst x y )
T9 ( .ref hp.objs.size )
Ua #[ zn , #[ zo ] , T.KD , cq , #[ QC ] ]
Ub ( kk _ _ Z.zTI Z.TT Z.T1 Z.T2 v7 )
Uc ( iE ( some none , st.snd.fst , st.snd.snd ) )
Ud ( zdk ha hb )
Ue ( zaa ey ?_ )
Uf ( s7 _ _ h6 )
Ug ( pl.take i )
Uh ( nW.take i )
Ui ( pyNext ( bP I ) )
Uj ( nW.map ( md p ) )
Uk ( lo + st.snd.fst )
Ul ( fun c u e => ?_ )
Um ( nP.toArray.size + n9.toArray.size )
Uo ( cF hz rfl ( x := .bool false ) rfl ?_ )
Up ( .compLoop #[ wP ] d #[ PJ ] #[ Pt ] Y.env )
Uq ( nO X.K )
Ur ( hf b hb )
Us ( nQ H a o )
Ut ( start N vs )
Uu ( eval o X.env )
Uv ( ad p f cs vs )
Uw ( TP X nM σ Q )
Ux #[ zU , T.Ki , #[ OX ] ]
Uy ⟨ #[ O ] , #[ O ] , #[ O ] , #[ O ] ⟩
Uz ( σ.set i ( some v ) )
UA ( xs.extract i ( i + k ) )
UB ( quo p r ( d :: cs ) )
UC ( mv a b n w c t s )
UD ( kB ⟨ hp , g , d , tk , os ⟩ )
UE ( fun obj => jd obj _ )
UF ( fun f vs => mY f vs )
UG ( fun b o e => aJ _ e )
UH ( aB ( dD hS rfl ?_ ) )
UI ( Str -> Option Value )
UJ #[ zw , #[ za6 ] , #[ RH ] , #[ zf ] ]
UK #[ zh , #[ zbU ] , #[ Pw ] , #[ zf ] ]
UL ( nN rfl ⟨ nO.of h1 , fun z hz => ?_ ⟩ )
UM ( fun _ _ _ _ => #[ zb5 , #[ zJ , #[ zgZ ] , #[ Id ] , #[ zen ] , ( zV _ ) ] ] )
UN ( S.h.dr hh ( n + 1 ) b #[ Qo ] n9.toArray )
UO ( .compLoop #[ wP ] d it #[ Pt ] Y.env )
UP ( fun h => ?_ )
UQ ( ts.take ( m + 1 ) )
UR ( .tup ( xs ++ ys ) )
US #[ zg , 2 , #[ Y ] , #[ A ] ]
UT ( fun n8 pA pB ac bc => ( none , pA , pB , n8 , ac , bc ) )
UU ( fun n8 oZ oV ac bc => ( none , n8 , oZ , oV , ac , bc ) )
UV ( fun _ _ _ _ => #[ zh , #[ zy ] , #[ zh , #[ zam ] , #[ AT ] , #[ R6 ] ] , #[ NE ] ] )
UW ( cI fV hit.typeIs jv ?_ ( jn _ ) )
UX ( cI fJ hit.typeIs jk ?_ ( jh _ ) )
UY ( cF he rfl ( x := .ref z ) rfl ( aB ?_ ) )
UZ ( .bl ( dcd ( Ph p k rows #[ IO ] m T ) ) )
U0 ( .ref f )
U1 ( .dK nT )
U2 #[ pvx , 10 ]
U3 ⟨ rfl , ?_ ⟩
U4 ( fun pO => ?_ )
U5 ( fun n6 => ?_ )
U6 ( fun c nX => ?_ )
U7 ( s1.trans ( zb hz ) )
U8 ( rows.length - v )
U9 ( nR rfl rfl #[ IR ] )
Va ( nR rfl rfl #[ GM ] )
Vb ( fun x1 x2 => x1 ++ x2 )
Vc ( SC.free y hy hf )
Vd #[ zh , #[ zy ] , #[ QH ] , #[ zf ] ]
Ve #[ zh , #[ zQ ] , #[ zf ] , #[ Id ] ]
Vf #[ zh , #[ zB ] , #[ RH ] , #[ zf ] ]
Vg #[ zh , #[ zB ] , #[ Pf ] , #[ zf ] ]
Vh ⟨ _ , rfl , pt , _ , rfl , nS.of qm , rfl , _ , _ , rfl , _ , _ , rfl , rfl , ?_ ⟩
Vi ⟨ .int ( g i j ) , H , I.tok _ , ⟨ _ , rfl ⟩ , q ⟩
Vj ( nN rfl ⟨ .inl ( nO.of h1 ) , #[ Po ] ⟩ )
Vl ( fun r => Good val #[ wE ] r.toList )
Vm ( fun _ _ _ _ => #[ zh , #[ zy ] , #[ zh , #[ zB ] , #[ AT ] , #[ R6 ] ] , #[ NE ] ] )
Vn ( fun _ _ _ _ => #[ zh , #[ zB ] , #[ AT ] , #[ zh , #[ zQ ] , #[ Pz ] , #[ Id ] ] ] )
Vo #[ zaw , #[ zj , #[ zg , 7 , zak.nd , #[ A ] ] , #[ zj , #[ zg , 8 , zak.nd , #[ A ] ] , #[ zA ] ] ] ]
Vp ( Itt K a )
Vq ( Itl K a )
Vr ( .tup ys )
Vs #[ ya , #[ RH ] ]
Vt ( xs.size - 1 )
Vu ( uX.s _ _ oW )
Vv ( tOp r ta tb )
Vw ( s5.trans s6 )
Vx ( I.hok c u e )
Vy ( I.hok b u e )
Vz ( Fl b o e hx )
VA ( .bool false )
VB ⟨ _ , rfl , z , _ , rfl , nS.of hz , rfl , _ , _ , rfl , _ , _ , rfl , rfl , ?_ ⟩
VC ( vs.toArray.zip vs.toArray )
VD ( dk ( newClass_reversed _ ) ?_ )
VE ( cF hz rfl ( x := .ref TI ) rfl ?_ )
VF ( cF ho hd ( x := .int _ 0 ) rfl ?_ )
VG ( nS X.K )
VH ( xs.map f )
VI ( numAt xs )
VJ ( nN rfl q )
VL ( kept - 1 )
VM ( zez k s g )
VN ( zdS ix σ )
VO ( ts.map tI )
VP ( rs.take 3 )
VQ ( ps.zip us )
VR ( .bl false )
VS #[ zad , #[ Id ] ]
VT ( zaM X.prog X.w )
VU ( oG.same ( zb hD ) )
VV ( h.push ( zbT l1 ) )
VW ( backTo oU #[ Pd ] )
VX ( a₀.size - lo )
VY ⟨ rfl , .inr ⟨ _ , _ , _ , _ , _ , rfl , qI , #[ O ] , #[ O ] , #[ O ] , #[ O ] , #[ O ] ⟩ ⟩
VZ ⟨ T2 , _ , rfl , nS.of zc , rfl , _ , _ , rfl , _ , _ , rfl , rfl , ?_ ⟩
V1 ( znb hc D4 D6 Ac D7 he pH )
V2 ( zb ( o := .lst ( vs.map V.ref ) ) hD )
V3 ( wb sa m.toList.zipIdx xs )
V4 ( us.map V.ref ++ vs.map V.ref )
V5 ( sA.trans ( zb ( o := .rng 0 p ) vO ) )
V6 ( nR rfl rfl ⟨ .inr #[ v6 ] , ?_ ⟩ )
V7 ( nN rfl ( zaR #[ BT ] ( fun _ => skip ) ) )
V8 ( nN rfl ( zaR #[ BT ] ( fun _ => cont ) ) )
V9 ( letOwnedTupleGo tg #[ PJ ] u )
Wa ( iC hh ( n + 1 ) b #[ Qo ] n9.toArray )
Wb ( iC Eb n a #[ Qo ] oB.toArray )
Wc ( iC Eb ( n + 1 ) b #[ Qo ] n9.toArray )
We ( fun x l' r' R BU k1 k2 => ?_ )
Wf ( fun it D env => zmw it D env )
Wg ⟨ zax ( bX ( g7 _ _ ) #[ O ] ) , ?_ , rfl ⟩
Wh ⟨ .ref a , H , I , rfl , q a H #[ OV ] ?_ ⟩
Wi ( zbk I hg hm hv ?_ hn BB )
Wj ( xS a1 a2 a3 a4 a5 a6 a7 )
Wk ( vN a1 a2 a3 a4 a5 a6 a7 )
Wl ( fun t s => mv a b n w c t s )
Wm ( fun r o hG => aT ⟨ g , r , _ , rfl , rfl , hG ⟩ )
Wn ( cF ho hd ( x := .ref t ) rfl ?_ )
Wo ( cF ho hd ( x := .ref l ) rfl ?_ )".splitOn "\n").find? (·.startsWith s) with
 |some l=>return ((<-Wp 400 0 ((l.splitOn " ").drop 1)).1.head!)
 |none=>Lean.Macro.throwUnsupported
noncomputable section
set_option Elab.async false
set_option linter.all false
set_option maxRecDepth 100000
namespace L2
open PySem PySem.Spec PyProof.Rows
variable {A:Around} {CX:CXT} {H H':Hp} {K:aF} {M:Model} {P:Program} {R:It->Hp->Prop} {X:Cx} {an od:Option Addr} {cd ct oc pm:Value} {fd:FuncData} {fp:List Addr} {g:TG} {h:Heap} {it:Addr} {j k t' tk:Nat} {mg:Str->Option Value} {nM qF:List (Addr×Obj)} {nP us:List Value} {pos:Pos} {qual:Str} {s s' s1:Shared} {scope:Scope} {sp:Sp} {tg:Expr} {w:World}
abbrev Key:=Sum Int Str
noncomputable def zgo:Key->Value->Bool
 | .inl k,v=>Value.isInt k v
 | .inr x,v=>nE x v
noncomputable def zrN (w:World):Key->Int
 | .inl k=>hashInt k
 | .inr x=>hashStr w x
theorem zaL:∀ {k:Key} {v:Value},zgo k v=true->(∃ i t,k=eG i/\v=ju i t)\/(∃ x t,k=jQ x/\v=lL x t)
 | .inl i,v,h=>by
  obtain⟨t,e⟩:=Value.isInt_shape (k:=i) (v:=v) h;exact .inl ⟨i,t,rfl,e⟩
 | .inr x,v,h=>by
  obtain⟨t,e⟩:=Value.isStrOf_shape (x:=x) (v:=v) h;exact .inr ⟨x,t,rfl,e⟩
theorem zk0 (i:Int) (t:Tok):zgo (.inl i) (.int i t)=true:=by simp [zgo,Value.isInt]
theorem zk1 (x:Str) (t:Tok):zgo (.inr x) (.str x t)=true:=by simp [zgo,nE]
theorem zpY (a b:Int):decide ((eG a:Key)=eG b)=(a == b):=by
 by_cases e:a=b
 ·subst e; simp
 ·have h:¬ (eG a:Key)=eG b:=fun q=>e (ko q)
  rw [decide_eq_false h];exact (beq_eq_false_iff_ne.mpr e).symm
theorem zpZ (a b:Str):decide ((jQ a:Key)=jQ b)=decide (a=b):=by
 by_cases e:a=b
 ·subst e; simp
 ·have h:¬ (jQ a:Key)=jQ b:=fun q=>e (Sum.inr.inj q)
  rw [decide_eq_false h,decide_eq_false e]
theorem zp0 (a:Int) (b:Str):decide ((eG a:Key)=jQ b)=false:=decide_eq_false (fun q=>nomatch q)
theorem zp1 (a:Str) (b:Int):decide ((jQ a:Key)=eG b)=false:=decide_eq_false (fun q=>nomatch q)
noncomputable def zaM (prog:Program) (w:World):PySem.KeyKind prog w Key where
 is:=zgo
 hash:=zrN w
 inj:=fun v a b ha hb=>by
  rcases zaL ha with ⟨i,t,rfl,rfl⟩ | ⟨x,t,rfl,rfl⟩
  ·rcases zaL hb with ⟨j,u,rfl,e⟩ | ⟨y,u,rfl,e⟩
   ·injection e with e1 _; rw [e1]
   ·exact nomatch e
  ·rcases zaL hb with ⟨j,u,rfl,e⟩ | ⟨y,u,rfl,e⟩
   ·exact nomatch e
   ·injection e with e1 _; rw [e1]
 byValue:=fun k v h=>by
  rcases zaL h with ⟨i,t,rfl,rfl⟩ | ⟨x,t,rfl,rfl⟩ <;> rfl
 pyHash:=fun hv h=>by
  rcases zaL hv with ⟨i,t,rfl,rfl⟩ | ⟨x,t,rfl,rfl⟩
  ·exact wpAny_pyHash_int h
  ·exact wpAny_pyHash_str h
 eqBool:=fun hu hv h=>by
  rcases zaL hu with ⟨i,t,rfl,rfl⟩ | ⟨x,t,rfl,rfl⟩
  ·rcases zaL hv with ⟨j,u,rfl,rfl⟩ | ⟨y,u,rfl,rfl⟩
   ·rw [zpY] at h; exact wpAny_eqBool_int h
   ·rw [zp0] at h; exact lM i t y u _ _ _ _ h
  ·rcases zaL hv with ⟨j,u,rfl,rfl⟩ | ⟨y,u,rfl,rfl⟩
   ·rw [zp1] at h; exact lN x t j u _ _ _ _ h
   ·rw [zpZ] at h; exact wpAny_eqBool_str h
 «strs»:=fun k x t v h=>by
  rcases zaL h with ⟨i,u,rfl,e⟩ | ⟨y,u,rfl,e⟩
  ·exact nomatch e
  ·injection e with e1 _
   subst e1;cases v <;> rfl
theorem zhT (prog:Program) (w:World) (i:Int) (t:Tok):(zaM prog w).is (.inl i) (.int i t)=true:=zk0 i t
theorem zhU (prog:Program) (w:World) (x:Str) (t:Tok):(zaM prog w).is (.inr x) (.str x t)=true:=zk1 x t
inductive V where
 | non | bl (b:Bool) | int (i:Int) | str (x:Str) | byt (b:Array UInt8) | flt (b:UInt64) | ref (a:Addr) | ty (n:String)
 deriving DecidableEq
noncomputable def RelV:V->Value->Prop
 | .non,u=>u=eh
 | .bl b,u=>u=kT b
 | .int i,u=>∃ t,u=ju i t
 | .str x,u=>∃ t,u=lL x t
 | .byt b,u=>∃ t,u=Value.bytes b t
 | .flt b,u=>∃ t,u=Value.float b t
 | .ref a,u=>u=bP a
 | .ty n,u=>u=mT n
abbrev z0:List V->List Value->Prop:=Paired RelV
theorem z0.length {xs:List V} (r:z0 xs us):xs.length=us.length:=bF r
theorem z0.get:∀ {xs:List V} {us:List Value} {i:Nat} {x:V},z0 xs us->xs[i]? = some x->∃ u,us[i]? = some u/\RelV x u
 | _,_,_,_,.nil,e=>by simp at e
 | _,_,0,_,.cons r _,e=>by simp at e; subst e; exact⟨_,rfl,r⟩
 | _,_,i+1,x,.cons _ t,e=>by
  obtain⟨u,h1,h2⟩:=z0.get (i:=i) (x:=x) t (by simpa using e);exact⟨u,by simpa using h1,h2⟩
theorem z0.set {x:V} {u:Value} (r:RelV x u):∀ {xs:List V} {us:List Value} (i:Nat),z0 xs us->z0 (xs.set i x) (us.set i u)
 | _,_,_,.nil=>.nil
 | _,_,0,.cons _ t=>.cons r t
 | _,_,i+1,.cons q t=>.cons q (z0.set r i t)
theorem z0.append:∀ {xs ys:List V} {us ws:List Value},z0 xs us->z0 ys ws->z0 (xs++ys) (us++ws)
 | _,_,_,_,.nil,s=>s
 | _,_,_,_,.cons r t,s=>.cons r (z0.append t s)
theorem z0.take:∀ {xs:List V} {us:List Value} (n:Nat),z0 xs us->z0 (xs.take n) (us.take n)
 | _,_,0,_=>.nil
 | _,_,_+1,.nil=>.nil
 | _,_,n+1,.cons r t=>.cons r (z0.take n t)
theorem z0.drop:∀ {xs:List V} {us:List Value} (n:Nat),z0 xs us->z0 (xs.drop n) (us.drop n)
 | _,_,0,r=>r
 | _,_,_+1,.nil=>.nil
 | _,_,n+1,.cons _ t=>z0.drop n t
noncomputable def zgV:Option V->Option Value->Prop
 | some v,some u=>RelV v u
 | none,none=>True
 | _,_=>False
noncomputable def KV {κ:Type}:List (κ×V)->List (κ×Value)->Prop:=Paired fun (p:κ×V) (q:κ×Value)=>p.1=q.1/\RelV p.2 q.2
noncomputable def kV:Key->V
 | .inl i=>.int i
 | .inr x=>.str x
inductive HO where
 | lst (xs:List V)
 | tup (xs:List V)
 | dK (nT:List (Key×V)) | dT (nT:List (List Key×V))
 | set (S:Int->Bool) (n:Nat)
 | ins (C dx:Addr) (fs:List (Str×V))
 | own (x:Addr)
 | xd (fs:List (Str×V))
 | met (f x:Addr)
 | rng (lo hi:Int)
 | frz (o:Obj) (u:HO)
 | tbl (ps:Array Value)
 | ext (φ:Heap->Prop)
abbrev Hp:=Addr->Option HO
noncomputable def nQ (H:Hp) (a:Addr) (o:HO):Hp:=fun b=>if b=a then some o else H b
theorem zc {a:Addr} {o:HO}:nQ H a o a=some o:=by unfold nQ; rw [if_pos rfl]
theorem zp {a b:Addr} {o:HO} (h:b≠a):nQ H a o b=H b:=by unfold nQ; rw [if_neg h]
theorem zoh {a:Addr} {o u:HO}:nQ #[Us] a u=nQ H a u:=by
 funext b; unfold nQ; split <;> rfl
theorem zpu {a b:Addr} {o u:HO} (h:H a=some o) (h':H b=some u) (d:o≠u):a≠b:=by
 intro e; subst e; rw [h] at h'; exact d (bK h')
theorem zH {a b:Addr} {o:HO} (h:H a=some o) (h':H b=none):a≠b:=by
 intro e; subst e; rw [h] at h'; cases h'
section
variable (P:Program) (w:World)
noncomputable def zat (H:Hp) (h:Heap) (a:Addr):HO->Prop
 | .lst xs=>xs.length<=sizeLine/\∃ (nP:List Value) (n:Nat),z0 xs nP/\h.get? a=some { cls:=.type "list",data:=.seq nP.toArray n }
 | .tup xs=>xs.length<=sizeLine/\∃ nP:List Value,z0 xs nP/\IsTup h a nP.toArray
 | .dK nT=>nT.length<=sizeLine/\(a == sysModules)=false/\∃ vs,KV nT vs/\h.DictOf (zaM P w) a vs
 | .dT nT=>nT.length<=sizeLine/\(a == sysModules)=false/\∃ xs:List (List Key×Addr×Value),
   Paired (fun (p:List Key×V) (q:List Key×Addr×Value)=>p.1=q.1/\H q.2.1=some (.tup (p.1.map kV))/\RelV p.2 q.2.2) nT xs /\
   ∃ o es ep,h.get? a=some o/\o.ExactDict/\o.data = .dict es ep/\es.toList=xs.map (entryOfKey #[PQ])/\(xs.map (·.1)).Nodup
 | .set S n=>h.SetOf (intKind P w) a S n
 | .ins C dx fs=>H dx=some (.own a)/\fs.length<=1000/\dx≠a/\h.get? a=some (ka C dx) /\
   ∃ mA,h.Ns1 dx mA/\(∀ f,zgV (fs.lookup f) (mA f))/\nH mA (fs.map (·.1))
 | .own _=>∃ o,h.get? a=some o
 | .xd fs=>∃ mA,h.Ns1 a mA/\∀ f,zgV (fs.lookup f) (mA f)
 | .rng lo hi=>∃ t u v,h.get? a=some { cls:=.type "range",data:=.fields #[OK] }
 | .frz o u=>h.get? a=some o/\zat H h a u
 | .tbl ps=>h.get? a=some { cls:=.none,data:=.fields ps }
 | .met f x=>h.get? a=some (jH #[U0] (.ref x))
 | .ext φ=>φ h/\(∃ o,h.get? a=some o)/\∀ h1 h2:Heap,φ h1->(∀ o,h1.get? a=some o->h2.get? a=some o)->φ h2
noncomputable def HOk (H:Hp) (h:Heap):Prop:=∀ a o,H a=some o->zat P w H h a o
end
section
variable {P:Program} {w:World} {H H':Hp} {h h':Heap} {a:Addr} {o:HO}
theorem zat.lt (x:zat P w H h a o):a < h.objs.size:=by
 cases o with
 | lst xs=>obtain⟨_,_,_,_,e⟩:=x; exact bA e
 | tup xs=>obtain⟨_,_,_,p⟩:=x; exact p.lt
 | dK nT=>obtain⟨_,_,_,_,o,_,_,e,_⟩:=x; exact bA e
 | dT nT=>obtain⟨_,_,_,_,o,_,_,e,_⟩:=x; exact bA e
 | set S n=>obtain⟨o,_,_,_,e,_⟩:=x; exact bA e
 | ins C dx fs=>obtain⟨_,_,_,e,_⟩:=x; exact bA e
 | own y=>obtain⟨_,e⟩:=x; exact bA e
 | xd fs=>obtain⟨_,⟨_,_,_,e,_⟩,_⟩:=x; exact bA e
 | rng lo hi=>obtain⟨_,_,_,e⟩:=x; exact bA e
 | frz ob u=>obtain⟨e,_⟩:=x; exact bA e
 | tbl ps=>exact bA (show h.get? a=some _ from x)
 | met f y=>exact bA (show h.get? a=some _ from x)
 | ext φ=>obtain⟨_,⟨_,e⟩,_⟩:=x; exact bA e
theorem Paired.Oe {α β:Type} {F G:α->β->Prop}:∀ {l₁:List α} {l₂:List β},Paired F l₁ l₂->(∀ a b,F a b->G a b)->Paired G l₁ l₂
 | _,_,.nil,_=>.nil
 | _,_,.cons r t,f=>.cons (f _ _ r) (Paired.Oe t f)
theorem zat.MN (x:zat P w H h a o) (k:∀ b u,(b=a\/H b=some (.own a))->h.get? b=some u->h'.get? b=some u)
  (ho:∀ b,H b=some (.own a)->H' b=some (.own a)) (ht:∀ b xs,H b=some #[Q9]->H' b=some #[Q9]):zat P w H' h' a o:=by
 induction o with
 | lst xs=>obtain⟨z,nP,n,r,e⟩:=x; exact⟨z,nP,n,r,k _ _ #[PD] e⟩
 | tup xs=>obtain⟨z,nP,r,ob,e,c⟩:=x; exact⟨z,nP,r,ob,k _ _ #[PD] e,c⟩
 | dK nT=>obtain⟨z,y,vs,r,ob,es,ep,e,c⟩:=x; exact⟨z,y,vs,r,ob,es,ep,k _ _ #[PD] e,c⟩
 | dT nT =>
  obtain⟨z,y,xs,r,ob,es,ep,e,c⟩:=x;exact⟨z,y,xs,Paired.Oe r fun p q z=>⟨z.1,ht _ _ z.2.1,z.2.2⟩,ob,es,ep,k _ _ #[PD] e,c⟩
 | set S n=>obtain⟨ob,es,ep,t,e,c⟩:=x; exact⟨ob,es,ep,t,k _ _ #[PD] e,c⟩
 | ins C dx fs =>
  obtain⟨d,z,ne,e,mA,⟨od,es,ep,e2,c⟩,r⟩:=x;exact⟨ho _ d,z,ne,k _ _ #[PD] e,mA,⟨od,es,ep,k _ _ (.inr d) e2,c⟩,r⟩
 | own y=>obtain⟨ob,e⟩:=x; exact⟨ob,k _ _ #[PD] e⟩
 | xd fs=>obtain⟨mA,⟨od,es,ep,e,c⟩,r⟩:=x; exact⟨mA,⟨od,es,ep,k _ _ #[PD] e,c⟩,r⟩
 | rng lo hi=>obtain⟨t,u,v,e⟩:=x; exact⟨t,u,v,k _ _ #[PD] e⟩
 | frz ob u ih=>obtain⟨e,q⟩:=x; exact⟨k _ _ #[PD] e,ih q⟩
 | tbl ps =>
  have e:h.get? a=some { cls:=.none,data:=.fields ps }:=x;show h'.get? a=some { cls:=.none,data:=.fields ps };exact k a _ #[PD] e
 | met f y =>
  have e:h.get? a=some (jH #[U0] (.ref y)):=x;show h'.get? a=some (jH #[U0] (.ref y));exact k a _ #[PD] e
 | ext φ=>obtain⟨p,⟨o,e⟩,st⟩:=x; exact⟨st _ _ p fun o q=>k _ _ #[PD] q,⟨o,k _ _ #[PD] e⟩,st⟩
theorem HOk.lt (x:HOk P w H h) (e:H a=some o):a < h.objs.size:=(x a o e).lt
theorem HOk.fresh (x:HOk P w H h) (e:h.objs.size<=a):H a=none:=by
 cases q:H a with
 | none=>rfl
 | some u=>exact absurd (cA (x.lt q) e) (de _)
theorem HOk.kept (x:HOk P w H h) (k:∀ b u,h.get? b=some u->h'.get? b=some u):HOk P w H h':=fun a o e =>
 (x a o e).MN (fun b u _ q=>k b u q) #[RY] fun _ _ q=>q
theorem HOk.laid (x:HOk P w H h) (k:∀ b u,h.get? b=some u->h'.get? b=some u) (hp:h.objs.size<=a) (new:zat P w #[Us] h' a o):HOk P w #[Us] h':=fun b u e=>by
 have hn:=x.fresh hp;by_cases hb:b=a
 ·subst hb; rw [zc] at e; cases e; exact new
 ·rw [zp hb] at e;exact (x b u e).MN (fun c v _ q=>k c v q) (fun c q=>by rw [zp (zH q hn)]; exact q) fun c xs q=>by rw [zp (zH q hn)]; exact q
end
noncomputable def Rd (H:Hp) (a:Addr) (u:HO):Prop:=H a=some u\/∃ o,H a=some (.frz o u)
theorem Rd.ok {a:Addr} {u:HO} (r:Rd H a u) (x:HOk P w H h):zat P w H h a u:=by
 rcases r with r | ⟨o,r⟩
 ·exact x a u r
 ·obtain⟨_,q⟩:=x a _ r;exact q
noncomputable def Mut:Option HO->Prop
 | some (.lst _)=>True
 | some (.dK _)=>True
 | some (.dT _)=>True
 | some (.set _ _)=>True
 | some (.ins _ _ _)=>True
 | some (.ext _)=>True
 | _=>False
section
variable {P:Program} {w:World} {H:Hp} {h h':Heap} {x e:Addr} {o':HO}
theorem HOk.write (ok:HOk P w H h) (mu:Mut (H x)) (he:e=x\/H e=some (.own x)) (k:∀ b u,b≠e->h.get? b=some u->h'.get? b=some u) (CM:∃ u,h'.get? e=some u)
  (new:zat P w (nQ H x o') h' x o'):HOk P w (nQ H x o') h':=fun b u q=>by
 have Dt:∀ c y,H c=some (.own y)->c≠x:=fun c y r z=>by subst z; rw [r] at mu; exact mu
 have Gw:∀ c xs,H c=some #[Q9]->c≠x:=fun c xs r z=>by subst z; rw [r] at mu; exact mu
 by_cases hb:b=x
 ·subst hb; rw [zc] at q; cases q; exact new
 ·rw [zp hb] at q;by_cases By:b=e
  ·have q':H b=some (.own x):=by
    rcases he with z | z
    ·exact absurd (By.trans z) hb
    ·rw [By]; exact z
   rw [q] at q'; cases q';obtain⟨v,hv⟩:=CM;exact⟨v,by rw [By]; exact hv⟩
  ·refine (ok b u q).MN (fun c v hc r=>k c v ?_ r) (fun c r=>by rw [zp (Dt c b r)]; exact r) fun c xs r=>by rw [zp (Gw c xs r)]; exact r
   rcases hc with rfl | hc
   ·exact By
   ·rintro rfl;rcases he with z | z
    ·exact Dt c b hc z
    ·rw [hc] at z; cases z; exact hb rfl
end
structure Un (fs ex:List Addr) (H H':Hp) (h h':Heap):Prop where
 keep:∀ b o,h.get? b=some o->H b=none->b∉fs->b∉ex->h'.get? b=some o
 slot:∀ b o,h.get? b=some o->H b=none->b∈fs->b∉ex->∃ sl,h'.get? b=some { o with slots:=sl }
 free:∀ b o,h.get? b=some o->H b=none->b∉ex->H' b=none
 there:∀ b o,h.get? b=some o->b∉ex->∃ o',h'.get? b=some o'
 Nr:∀ b xs,H b=some #[Q9]->H' b=some #[Q9]
 Nl:∀ b o u,H b=some (.frz o u)->H' b=some (.frz o u)
 Nt:∀ b ps,H b=some (.tbl ps)->∃ more,H' b=some (.tbl (ps++more))
section
variable {fs fs' ex ex':List Addr} {H H1 H2:Hp} {h h1 h2 h':Heap} {a x e:Addr} {o:HO}
theorem Un.any (u:Un fs ex H H1 h h1) {b:Addr} {ob:Obj} (q:h.get? b=some ob) (n:H b=none) (hx:b∉ex):∃ sl,h1.get? b=some { ob with slots:=sl }:=by
 by_cases hb:b∈fs
 ·exact u.slot b ob q n hb hx
 ·exact⟨ob.slots,u.keep b ob q n hb hx⟩
theorem Un.kept (k:∀ b u,h.get? b=some u->h'.get? b=some u):Un fs ex H H h h' :=
 ⟨fun b ob q _ _ _=>k b ob q,fun b ob q _ _ _=>⟨ob.slots,k b ob q⟩,fun _ _ _ n _=>n,fun b ob q _=>⟨ob,k b ob q⟩,fun _ _ q=>q,fun _ _ _ q=>q,fun _ ps q=>⟨#[],by rw [q]; simp⟩⟩
theorem Un.refl:Un fs ex H H h h:=Un.kept fun _ _ q=>q
theorem Un.laid (k:∀ b u,h.get? b=some u->h'.get? b=some u) (hp:h.objs.size<=a) (hn:H a=none):Un fs ex H #[Us] h h' where
 keep:=fun b u q _ _ _=>k b u q
 slot:=fun b u q _ _ _=>⟨u.slots,k b u q⟩
 free:=fun b u q n _=>by rw [zp (bY (cA (bA q) hp))]; exact n
 there:=fun b u q _=>⟨u,k b u q⟩
 Nr:=fun b xs q=>by rw [zp (zH q hn)]; exact q
 Nl:=fun b u xs q=>by rw [zp (zH q hn)]; exact q
 Nt:=fun b ps q=>⟨#[],by rw [zp (zH q hn),q]; simp⟩
theorem Un.write (mu:Mut (H x)) (he:e=x\/H e=some (.own x)) (k:∀ b u,b≠e->h.get? b=some u->h'.get? b=some u) (CM:∃ u,h'.get? e=some u):Un fs ex H (nQ H x o) h h':=by
 have hx:∀ b,H b=none->b≠x:=fun b n z=>by subst z; rw [n] at mu; exact mu
 have hb:∀ b,H b=none->b≠e:=fun b n z=>by
  subst z;rcases he with r | r
  ·exact hx b n r
  ·rw [n] at r; cases r
 have hm:∀ b u,H b=some u->¬ Mut (some u)->b≠x:=fun b u q nm z=>by subst z; rw [q] at mu; exact nm mu
 refine⟨fun b u q n _ _=>k b u (hb b n) q,fun b u q n _ _=>⟨u.slots,k b u (hb b n) q⟩,fun b u q n _=>by rw [zp (hx b n)]; exact n,fun b u q _=>?_,
  fun b xs q=>by rw [zp (hm b _ q fun z=>z)]; exact q,fun b u xs q=>by rw [zp (hm b _ q fun z=>z)]; exact q,fun b ps q=>⟨#[],by rw [zp (hm b _ q fun z=>z),q]; simp⟩⟩
 by_cases By:b=e
 ·subst By; exact CM
 ·exact⟨u,k b u By q⟩
end
noncomputable def trk (h:Heap) (H:Hp):List Addr:=(bM h.objs.size).filter fun a=>(H a).isSome
noncomputable def zgW (h:Heap) (H:Hp):Heap:=PySem.W.hideAll h (trk h H)
theorem zk2 (h:Heap) (H:Hp):(zgW h H).objs.size=h.objs.size:=PySem.W.hideAll_size _ _
theorem zmf {b:Addr} {o:Obj} (e:h.get? b=some o) (n:H b=none):(zgW h H).get? b=some o :=
 PySem.W.hideAll_get _ e fun hm=>by
  have q:(H b).isSome=true:=(dn.mp hm).2;rw [n] at q; simp at q
theorem zoi {b:Addr} {o:Obj} (e:(zgW h H).get? b=some o):h.get? b=some o/\H b=none:=by
 have e':h.get? b=some o:=PySem.W.of_hideAll (trk h H) e;refine⟨e',?_⟩;cases q:H b with
 | none=>rfl
 | some x =>
  have hm:b∈trk h H:=dn.mpr ⟨cE.mpr (bA e'),by simp [q]⟩;have z:(zgW h H).get? b=none:=PySem.W.hideAll_none (trk h H) hm;rw [z] at e; cases e
structure Mod (K:aF) (mg:Str->Option Value) (base:Heap):Prop where
 kin:K.In base
 glob:base.Ns mainGlobals mg
 blt:∃ mb,base.Ns builtinsNs mb/\∀ x:Str,x≠"__name__"->mb x=bootBuiltins x
 nolimit:base.NoLimit
structure Cx where
 prog:Program
 w:World
 K:aF
 mg:Str->Option Value
 base:Heap
 A:Around
 N:List Str
 s₀:Shared
 H₀:Hp
 env:Env
 outer:List Env
 stack:List Env
 ex:List Addr
 fn:Str->Bool
 calm:Bool
 pn:List (Addr×Obj)
 xe:Value->Shared->Prop
noncomputable def frs (l:List Env):List Addr:=l.filterMap (·.frame)
abbrev Cx.fs (X:Cx):List Addr:=frs X.outer
noncomputable def Vis (sc:Scope) (x:Str):Prop:=sc.names.lookup x=some .local\/sc.names.lookup x=some .cell\/sc.names.lookup x=some .free
noncomputable def Loc (sc:Scope) (x:Str):Prop:=sc.names.lookup x=some .local\/sc.names.lookup x=some .cell
noncomputable def Look (env:Env) (h:Heap) (m:Str->Option Value) (x:Str) (u:Value):Prop :=
 (env.kindOf x=some .local/\m x=some u)\/((env.kindOf x=some .cell\/env.kindOf x=some .free)/\∃ c,env.cells.lookup x=some c/\h.IsCell c (some u))
structure Cx.Ok (X:Cx):Prop where
 mod:Mod X.K X.mg X.base
 kind:X.env.scope.kind = .function
 glob:X.env.globals=mainGlobals
 blt:X.env.builtins=builtinsNs
 above:X.s₀.heap.objs.size<=X.env.locals
 inj:∀ x y c,X.env.cells.lookup x=some c->X.env.cells.lookup y=some c->x=y
 has:∀ x,(X.env.kindOf x=some .cell\/X.env.kindOf x=some .free)->∃ c,X.env.cells.lookup x=some c
 cab:∀ x c,X.fn x=true->X.env.cells.lookup x=some c->X.s₀.heap.objs.size<=c
 hd:X.calm=true->X.A.handled=none
 frames:X.A.frames=some X.stack
 stk:X.stack=X.outer\/(X.stack=X.env :: X.outer/\X.env.frame=some X.env.locals)
 exf:∀ b∈X.ex,b≠X.env.locals/\∀ x c,X.env.cells.lookup x=some c->c≠b
 bs:∀ b o,X.base.get? b=some o->X.s₀.heap.get? b=some o/\X.H₀ b=none
 bsz:X.base.objs.size<=X.s₀.heap.objs.size
 NP:∀ b o,X.base.get? b=some o->b∉X.ex
 NY:∀ b∈X.ex,b∉X.fs
 Nk:X.s₀.heap.FunFrames X.base X.outer
 frf:∀ b∈X.fs,X.H₀ b=none
structure Inv (X:Cx) (nM:List (Addr×Obj)) (σ:List (Option V)) (H:Hp) (s:Shared):Prop where
 ok:X.Ok
 os:s.os=X.s₀.os
 bare:AllBare s.gens
 base:Un X.fs X.ex X.H₀ H X.s₀.heap s.heap
 loc:∃ m,s.heap.Ns X.env.locals m/\∀ (i:Nat) (x:Str) (v:V),X.N[i]? = some x->σ[i]? = some (some v)->Vis X.env.scope x->∃ u,RelV v u/\Look X.env s.heap m x u
 cell:∀ x c,X.env.cells.lookup x=some c->∃ v,s.heap.IsCell c v
 free:H X.env.locals=none
 Ls:∀ x c,X.env.cells.lookup x=some c->H c=none
 pin:∀ p∈X.pn++nM,s.heap.get? p.1=some p.2/\H p.1=none/\p.1≠X.env.locals/\p.1∉X.fs/\∀ v,p.2.data≠.cell v
 hok:HOk X.prog X.w H s.heap
 len:σ.length=X.N.length
section
variable {X:Cx} {nM:List (Addr×Obj)} {σ:List (Option V)} {H H':Hp} {s:Shared} {h':Heap}
theorem Cx.Ok.Ox (ok:X.Ok) {b:Addr} {o:Obj} (e:X.base.get? b=some o):b∉X.fs:=fun hb=>by
 have:=(ok.Nk.mem hb).1;rw [e] at this; cases this
theorem Inv.bs (I:Inv X nM σ H s):∀ b o,X.base.get? b=some o->s.heap.get? b=some o/\H b=none:=fun b o e =>
 ⟨I.base.keep b o #[TJ].1 #[TJ].2 (I.ok.Ox e) (I.ok.NP b o e),I.base.free b o #[TJ].1 #[TJ].2 (I.ok.NP b o e)⟩
theorem Inv.bk (I:Inv X nM σ H s):∀ b o,X.base.get? b=some o->s.heap.get? b=some o:=fun b o e=>(I.bs b o e).1
theorem Inv.mod (I:Inv X nM σ H s):Mod X.K X.mg X.base:=I.ok.mod
theorem Inv.kIn (I:Inv X nM σ H s):X.K.In s.heap:=I.ok.mod.kin.keeps I.bk
theorem Inv.lt (I:Inv X nM σ H s):X.env.locals < s.heap.objs.size:=let ⟨_,hn,_⟩:=I.loc; hn.lt
theorem Inv.sz (I:Inv X nM σ H s):X.s₀.heap.objs.size<=s.heap.objs.size:=bX I.ok.above (jR I.lt)
theorem Inv.Ow (I:Inv X nM σ H s) {a:Addr} (h:s.heap.objs.size<=a):a∉X.fs:=fun hb=>by
 obtain⟨_,o,ho,_⟩:=I.ok.Nk.mem hb;exact absurd (cA (bA ho) (bX I.sz h)) (de _)
theorem Inv.cne (I:Inv X nM σ H s):∀ x c,X.env.cells.lookup x=some c->c≠X.env.locals:=fun x c e z=>by
 obtain⟨v,o,ho,hd⟩:=I.cell x c e;obtain⟨m,⟨o',es,ep,tV,CN,_⟩,_⟩:=I.loc;rw [z,tV] at ho; cases ho; rw [CN] at hd; cases hd
theorem Inv.Nk (I:Inv X nM σ H s):s.heap.FunFrames X.base X.outer:=by
 have all:∀ (l:List Env),(∀ b∈frs l,b∈X.fs)->X.s₀.heap.FunFrames X.base l->s.heap.FunFrames X.base l:=by
  intro l;induction l with
  | nil=>intro _ _; trivial
  | cons env r ih =>
   intro hs hl;obtain⟨hk,⟨L,o,hf,hn,ho,hd⟩,hr⟩:=hl;have hL:L∈X.fs:=hs L (by unfold frs; rw [gX,hf]; exact bL);obtain⟨sl,e⟩:=I.base.slot L o ho (I.ok.frf L hL) hL fun z=>I.ok.NY L z hL
   exact⟨hk,⟨L,_,hf,hn,e,hd⟩,ih (fun b hb=>hs b (by unfold frs; rw [gX,hf]; exact aZ _ hb)) hr⟩
 exact all X.outer (fun _ hb=>hb) I.ok.Nk
theorem Inv.stack (I:Inv X nM σ H s):s.heap.FunFrames X.base X.stack:=by
 rcases I.ok.stk with e | ⟨e,hf⟩
 ·rw [e]; exact I.Nk
 ·rw [e];obtain⟨m,hn,_⟩:=I.loc;refine .cons (by rw [I.ok.kind]; decide) hf hn ?_ I.Nk;exact Heap.get?_none_of_le (bX I.ok.bsz I.ok.above)
theorem Inv.M7 (I:Inv X nM σ H s):∀ b∈frs X.stack,b∈X.env.locals :: X.fs:=fun b hb=>by
 rcases I.ok.stk with e | ⟨e,hf⟩
 ·rw [e] at hb; exact aZ _ hb
 ·rw [e] at hb;unfold frs at hb;rw [gX,hf] at hb;exact hb
theorem Inv.M8 (I:Inv X nM σ H s):∀ b∈frs X.stack,H b=none:=fun b hb=>by
 rcases aV.mp (I.M7 b hb) with e | hb
 ·rw [e]; exact I.free
 ·obtain⟨_,o,ho,_⟩:=I.ok.Nk.mem hb;exact I.base.free b o ho (I.ok.frf b hb) fun z=>I.ok.NY b z hb
theorem Inv.step {g':Array GenState} {d':Drawn} {ch:List Addr} (I:Inv X nM σ H s)
  (uM:∀ b∈ch,(b∈X.ex\/X.s₀.heap.objs.size<=b)/\b≠X.env.locals/\(∀ x c,X.env.cells.lookup x=some c->c≠b)/\∀ p∈X.pn++nM,p.1≠b)
  (keep:∀ b o,b≠X.env.locals->b∉X.fs->b∉ch->s.heap.get? b=some o->H b=none->h'.get? b=some o)
  (slot:∀ b o,b≠X.env.locals->b∈X.fs->b∉ch->s.heap.get? b=some o->H b=none->∃ sl,h'.get? b=some { o with slots:=sl }) (free:∀ b o,b∉ch->s.heap.get? b=some o->H b=none->H' b=none)
  (there:∀ b o,b∉ch->s.heap.get? b=some o->∃ o',h'.get? b=some o')
  (Nr:∀ b xs,H b=some #[Q9]->H' b=some #[Q9]) (Nl:∀ b o u,H b=some (.frz o u)->H' b=some (.frz o u)) (Nt:∀ b ps,H b=some (.tbl ps)->∃ more,H' b=some (.tbl (ps++more)))
  (ns:∀ m,s.heap.Ns X.env.locals m->h'.Ns X.env.locals m) (hok:HOk X.prog X.w H' h') (hg:AllBare g') :
  Inv X nM σ H' { s with heap:=h',gens:=g',drawn:=d',toks:=t' }:=by
 have neL:∀ b o,X.s₀.heap.get? b=some o->b≠X.env.locals:=fun b o e=>bY #[Ro]
 have Fl:∀ b o,X.s₀.heap.get? b=some o->b∉X.ex->b∉ch:=fun b o e hx hb=>by
  rcases (uM b hb).1 with z | z
  ·exact hx z
  ·exact absurd (cA (bA e) z) (de _)
 have cellK:∀ x c,X.env.cells.lookup x=some c->∀ v,s.heap.IsCell c v->h'.IsCell c v:=fun x c e v ⟨o,ho,hd⟩=>by
  have Du:c∉ch:=fun z=>(uM c z).2.2.1 x c e rfl
  by_cases hc:c∈X.fs
  ·obtain⟨sl,q⟩:=slot c o (I.cne x c e) hc Du ho (I.Ls x c e);exact⟨_,q,hd⟩
  ·exact⟨o,keep c o (I.cne x c e) hc Du ho (I.Ls x c e),hd⟩
 refine⟨I.ok,I.os,hg,⟨fun b o e n hb hx=>?_,fun b o e n hb hx=>?_,fun b o e n hx=>?_,fun b o e hx=>?_,fun b xs e=>Nr b xs (I.base.Nr b xs e),fun b o xs e=>Nl b o xs (I.base.Nl b o xs e),fun b ps e=>?_⟩,?_,fun x c e=>?_,?_,fun x c e=>?_,fun p hp=>?_,hok,I.len⟩
 ·exact keep b o (neL b o e) hb #[Vz] #[RQ] #[Ss]
 ·obtain⟨sl,e1⟩:=I.base.slot b o e n hb hx;obtain⟨sl',e2⟩:=slot b _ (neL b o e) hb #[Vz] e1 #[Ss];exact⟨sl',e2⟩
 ·obtain⟨o',e1⟩:=I.base.there b o e hx;exact free b o' #[Vz] e1 #[Ss]
 ·obtain⟨o',e1⟩:=I.base.there b o e hx;exact there b o' #[Vz] e1
 ·obtain⟨m1,e1⟩:=I.base.Nt b ps e;obtain⟨m2,e2⟩:=Nt b _ e1;exact⟨m1++m2,by rw [e2,Array.append_assoc]⟩
 ·obtain⟨m,hn,hl⟩:=I.loc;refine⟨m,ns m hn,fun i x v e1 e2 e3=>?_⟩;obtain⟨u,r,l⟩:=hl i x v e1 e2 e3;refine⟨u,r,?_⟩;rcases l with l | ⟨k,c,e,z⟩
  ·exact .inl l
  ·exact .inr ⟨k,c,e,cellK x c e _ z⟩
 ·obtain⟨v,z⟩:=I.cell x c e;exact⟨v,cellK x c e v z⟩
 ·obtain⟨m,⟨o,_,_,ho,_⟩,_⟩:=I.loc;exact free _ o (fun z=>(uM _ z).2.1 rfl) ho I.free
 ·obtain⟨v,o,ho,hd⟩:=I.cell x c e;exact free c o (fun z=>(uM c z).2.2.1 x c e rfl) ho (I.Ls x c e)
 ·obtain⟨e,n,ne,nf,d⟩:=I.pin p hp;have Du:p.1∉ch:=fun z=>(uM p.1 z).2.2.2 p hp rfl
  exact⟨keep p.1 p.2 ne nf Du e n,free p.1 p.2 Du e n,ne,nf,d⟩
theorem Inv.un (I:Inv X nM σ H s) (u:Un X.fs [] H H' s.heap h') (hok:HOk X.prog X.w H' h'):Inv X nM σ H' { s with heap:=h',toks:=t' }:=by
 obtain⟨m,⟨o,es,ep,ho,r⟩,_⟩:=id I.loc;obtain⟨sl,hL⟩:=u.any ho I.free #[M];exact I.step (g':=s.gens) (d':=s.drawn) (ch:=[]) (fun _ z=>nomatch z) (fun b o _ hb _ e n=>u.keep b o e n hb #[M]) (fun b o _ hb _ e n=>u.slot b o e n hb #[M]) (fun b o _ e n=>u.free b o e n #[M]) (fun b o _ e=>u.there b o e #[M]) u.Nr u.Nl u.Nt (fun m' hm=>by
  obtain⟨o',xj,Fm,tV,r'⟩:=hm;rw [ho] at tV; cases tV;exact⟨_,xj,Fm,hL,r'⟩) hok I.bare
theorem Inv.call {g':Array GenState} {d':Drawn} {ch:List Addr} (I:Inv X nM σ H s) (u:Un (frs X.stack) ch H H' s.heap h') (hok:HOk X.prog X.w H' h') (hg:AllBare g')
  (uM:∀ b∈ch,(b∈X.ex\/X.s₀.heap.objs.size<=b)/\b≠X.env.locals/\(∀ x c,X.env.cells.lookup x=some c->c≠b)/\∀ p∈X.pn++nM,p.1≠b) :
  Inv X nM σ H' { s with heap:=h',gens:=g',drawn:=d',toks:=t' }:=by
 obtain⟨m,⟨o,es,ep,ho,r⟩,_⟩:=id I.loc;obtain⟨sl,hL⟩:=u.any ho I.free fun z=>(uM _ z).2.1 rfl
 exact I.step (ch:=ch) uM (fun b o hL hb hc e n=>u.keep b o e n (fun z=>(aV.mp (I.M7 b z)).elim hL hb) hc) (fun b o _ _ hc e n=>u.any e n hc) (fun b o hc e n=>u.free b o e n hc) (fun b o hc e=>u.there b o e hc) u.Nr u.Nl u.Nt (fun m' hm=>by
  obtain⟨o',xj,Fm,tV,r'⟩:=hm;rw [ho] at tV; cases tV;exact⟨_,xj,Fm,hL,r'⟩) hok hg
theorem Inv.turned (I:Inv X nM σ H s) (k:∀ b o,b≠it->s.heap.get? b=some o->h'.get? b=some o) (hn:H it=none) (hL:it≠X.env.locals)
  (h1:it∈X.ex\/X.s₀.heap.objs.size<=it) (h2:∀ x c,X.env.cells.lookup x=some c->c≠it) (h3:∀ p∈X.pn++nM,p.1≠it):Inv X nM σ H { s with heap:=h',toks:=t' }:=by
 have ua:∀ b u,H b=some u->b≠it:=fun b u e z=>by rw [z,hn] at e; cases e
 refine I.step (g':=s.gens) (d':=s.drawn) (ch:=[it]) (fun b hb=>?_) (fun b o _ _ hc e _=>k b o (fun z=>hc (by simp [z])) e) (fun b o _ _ hc e _=>⟨o.slots,k b o (fun z=>hc (by simp [z])) e⟩) #[QB]
  (fun b o hc e=>⟨o,k b o (fun z=>hc (by simp [z])) e⟩) #[OV] #[Re] (fun b ps e=>⟨#[],by rw [e]; simp⟩) #[Sa] (fun b u e=>?_) I.bare
 ·have e:b=it:=by simpa using hb
  subst e;exact⟨h1,hL,h2,h3⟩
 ·obtain⟨o,es,ep,ho,r⟩:=hm;exact⟨o,es,ep,k _ o (dW hL) ho,r⟩
 ·refine #[Vy].MN (fun c v hc q=>k c v ?_ q) #[RY] fun _ _ q=>q
  rcases hc with z | z
  ·rw [z]; exact ua b u e
  ·exact ua c _ z
theorem Inv.tok (I:Inv X nM σ H s) (t:Nat):Inv X nM σ H { s with toks:=t }:=I.un (h':=s.heap) (t':=t) Un.refl I.hok
theorem Inv.kept (I:Inv X nM σ H s) (k:∀ b u,s.heap.get? b=some u->h'.get? b=some u):Inv X nM σ H { s with heap:=h',toks:=t' }:=I.un (Un.kept k) (I.hok.kept k)
theorem Inv.laid {a:Addr} {o:HO} (I:Inv X nM σ H s) (k:∀ b u,s.heap.get? b=some u->h'.get? b=some u) (hp:s.heap.objs.size<=a) (new:zat X.prog X.w #[Us] h' a o) :
  Inv X nM σ #[Us] { s with heap:=h',toks:=t' }:=I.un (Un.laid k hp (I.hok.fresh hp)) (I.hok.laid k hp new)
theorem Inv.write {x e:Addr} {o:HO} (I:Inv X nM σ H s) (mu:Mut (H x)) (he:e=x\/H e=some (.own x)) (k:∀ b u,b≠e->s.heap.get? b=some u->h'.get? b=some u) (CM:∃ u,h'.get? e=some u)
  (new:zat X.prog X.w (nQ H x o) h' x o):Inv X nM σ (nQ H x o) { s with heap:=h',toks:=t' }:=I.un (Un.write mu he k CM) (I.hok.write mu he k CM new)
theorem Inv.weak {σ':List (Option V)} (I:Inv X nM σ H s) (hl:σ'.length=σ.length) (w:∀ (i:Nat) v,σ'[i]? = some (some v)->σ[i]? = some (some v)):Inv X nM σ' H s :=
 ⟨I.ok,I.os,I.bare,I.base,let ⟨m,hn,yV⟩:=I.loc; ⟨m,hn,fun i x v e1 e2 e3=>yV i x v e1 (w i v e2) e3⟩,I.cell,I.free,I.Ls,I.pin,I.hok,hl.trans I.len⟩
theorem Inv.Mc (I:Inv X nM σ H s) (h:∀ p∈qF,s.heap.get? p.1=some p.2/\H p.1=none/\p.1≠X.env.locals/\p.1∉X.fs/\∀ v,p.2.data≠.cell v):Inv X qF σ H s :=
 ⟨I.ok,I.os,I.bare,I.base,I.loc,I.cell,I.free,I.Ls,fun p hp=>(bO.mp hp).elim (fun z=>I.pin p (bS _ z)) (h p),I.hok,I.len⟩
theorem zhV {N:List Str} (hN:N.Nodup) {i:Nat} {x:Str} (a:N[i]? = some x) (b:N[j]? = some x):i=j:=by
 obtain⟨h1,e1⟩:=aW.mp a;obtain⟨h2,e2⟩:=aW.mp b;exact (List.getElem_inj hN).mp (e1.trans e2.symm)
theorem zgp {E:Value->Shared->Prop} {i:Nat} {x:Str} {v:V} {u:Value} {Q:Unit->Shared->Prop} (I:Inv X nM σ H s) (hN:X.N.Nodup) (hi:X.N[i]? = some x) (hx:Loc X.env.scope x) (r:RelV v u)
  (h:∀ s',Inv X nM #[Uz] H s'->(∃ a,cC a s.heap s'.heap/\(a=X.env.locals\/X.env.cells.lookup x=some a))->Q () s') (hf:X.fn x=true\/X.env.scope.names.lookup x=some .local:=by first | exact .inl rfl | exact .inr rfl | assumption):wpAny M A (storeName X.env x u) Q E s:=by
 obtain⟨m,hn,hl⟩:=id I.loc;have Gx:(X.env.scope.kind == .class || (X.env.scope.kind == .module && X.env.locals != X.env.globals))=false:=by rw [I.ok.kind]; rfl
 have hiσ:i < σ.length:=by rw [I.len]; exact (aW.mp hi).1
 have cne:=I.cne;have tracked:∀ {a:Addr} {h':Heap},(∃ o,s.heap.get? a=some o/\H a=none)->cC a s.heap h'->HOk X.prog X.w H h':=fun {a h'} ha hs b ob e=>by
  obtain⟨_,_,AS⟩:=ha;refine (I.hok b ob e).MN (fun c w' hc q=>(hs.2 c ?_).trans q) #[RY] fun _ _ q=>q
  rintro rfl;rcases hc with rfl | hc
  ·rw [AS] at e; cases e
  ·rw [AS] at hc; cases hc
 rcases hx with hk | hk
 ·refine wpAny_storeName_local hk hn (fun h' yW hs=>?_) Gx;obtain⟨oL,_,_,Dv,_⟩:=id hn;refine h _ ⟨I.ok,I.os,I.bare,#[Pr],⟨_,yW,fun j y v' e1 e2 e3=>?_⟩,fun y c e=>?_,I.free,I.Ls,fun p hp=>?_,tracked ⟨oL,Dv,I.free⟩ hs,by simpa using I.len⟩ ⟨_,hs,.inl rfl⟩
  ·exact (hs.2 b (bY #[Ro])).trans #[RQ]
  ·obtain⟨sl,e1⟩:=I.base.slot b o e n hb hx;exact⟨sl,(hs.2 b (bY #[Ro])).trans e1⟩
  ·obtain⟨o',e1⟩:=I.base.there b o e hx;exact⟨o',(hs.2 b (bY #[Ro])).trans e1⟩
  ·by_cases hj:j=i
   ·subst hj;rw [hi] at e1; cases e1;rw [gC hiσ] at e2;cases e2;exact⟨u,r,.inl ⟨hk,#[M]⟩⟩
   ·rw [fY (dW hj)] at e2;obtain⟨u',r',q⟩:=hl j y v' e1 e2 e3;refine⟨u',r',?_⟩;rcases q with ⟨k,e⟩ | ⟨k,c,e,z⟩
    ·refine .inl ⟨k,?_⟩;have:y≠x:=fun e=>hj (zhV hN e1 (e ▸ hi))
     simp [this,e]
    ·exact .inr ⟨k,c,e,z.sameBut hs (cne y c e)⟩
  ·obtain⟨w',z⟩:=I.cell y c e;exact⟨w',z.sameBut hs (cne y c e)⟩
  ·obtain⟨e,n,ne,nf,d⟩:=I.pin p hp;exact⟨(hs.2 p.1 ne).trans e,n,ne,nf,d⟩
 ·have Dw:X.fn x=true:=by
   rcases hf with z | z
   ·exact z
   ·rw [z] at hk; cases hk
  obtain⟨c,hc⟩:=I.ok.has x (.inl hk);obtain⟨w',z⟩:=I.cell x c hc;refine wpAny_storeName_cell I.ok.kind hk hc z (fun h' nX hs=>?_);obtain⟨oc,hoc,Gy⟩:=id z;refine h { s with heap:=h' } ⟨I.ok,I.os,I.bare,#[Pr],⟨m,hn.sameBut hs (dW (cne x c hc)),fun j y v' e1 e2 e3=>?_⟩,fun y c' e=>?_,I.free,I.Ls,fun p hp=>?_,tracked ⟨oc,hoc,I.Ls x c hc⟩ hs,by simpa using I.len⟩ ⟨c,hs,.inr hc⟩
  ·exact (hs.2 b #[QI]).trans #[RQ]
  ·obtain⟨sl,e1⟩:=I.base.slot b o e n hb hx;exact⟨sl,(hs.2 b #[QI]).trans e1⟩
  ·obtain⟨o',e1⟩:=I.base.there b o e hx;exact⟨o',(hs.2 b #[QI]).trans e1⟩
  ·by_cases hj:j=i
   ·subst hj;rw [hi] at e1; cases e1;rw [gC hiσ] at e2;cases e2;exact⟨u,r,.inr ⟨.inl hk,c,hc,nX⟩⟩
   ·rw [fY (dW hj)] at e2;obtain⟨u',r',q⟩:=hl j y v' e1 e2 e3;refine⟨u',r',?_⟩;rcases q with q | ⟨k,c',e,z'⟩
    ·exact .inl q
    ·refine .inr ⟨k,c',e,z'.sameBut hs ?_⟩;rintro rfl;exact hj (zhV hN e1 (I.ok.inj _ _ _ e hc ▸ hi))
  ·by_cases oS:c'=c
   ·subst oS; exact⟨_,nX⟩
   ·obtain⟨w2,z2⟩:=I.cell y c' e;exact⟨w2,z2.sameBut hs oS⟩
  ·obtain⟨e,n,ne,nf,d⟩:=I.pin p hp;refine⟨(hs.2 p.1 ?_).trans e,n,ne,nf,d⟩;intro q;rw [q,hoc] at e;have q':oc=p.2:=bK e;exact d w' (by rw [<- q']; exact Gy)
theorem zfl {E:Value->Shared->Prop} {i:Nat} {x:Str} {v:V} {u:Value} {Q:Unit->Shared->Prop} (I:Inv X nM σ H s) (hN:X.N.Nodup) (hi:X.N[i]? = some x) (hx:Loc X.env.scope x) (r:RelV v u)
  (h:∀ s',Inv X nM #[Uz] H s'->Q () s') (hf:X.fn x=true\/X.env.scope.names.lookup x=some .local:=by first | exact .inl rfl | exact .inr rfl | assumption):wpAny M A (storeName X.env x u) Q E s :=
 zgp I hN hi hx r (fun s' I' _=>h s' I') hf
theorem Inv.Og {ch:List Addr} (I:Inv X nM σ H s) (ho:s'.os=s.os) (u:Un (frs X.stack) ch H H' s.heap s'.heap) (hok:HOk X.prog X.w H' s'.heap) (hg:AllBare s'.gens)
  (uM:∀ b∈ch,(b∈X.ex\/X.s₀.heap.objs.size<=b)/\b≠X.env.locals/\(∀ x c,X.env.cells.lookup x=some c->c≠b)/\∀ p∈X.pn++nM,p.1≠b):Inv X nM σ H' s':=by
 obtain⟨h',g',d',t',o'⟩:=s';have e:o'=s.os:=ho;subst e;exact I.call (g':=g') (t':=t') (d':=d') u hok hg uM
end
abbrev XK:=Value->Option Addr->Hp->Prop
abbrev St:=List (Option V)
abbrev VK:=V->Hp->Prop
abbrev TE:=St->Hp->VK->Prop
abbrev TT:=St->Hp->(Bool->Hp->Prop)->Prop
abbrev TA:=St->Hp->(List V->Hp->Prop)->Prop
structure Ends where
 nx:St->Hp->Prop
 rt:VK
 bk:St->Hp->Prop:=fun _ _=>False
 ct:St->Hp->Prop:=fun _ _=>False
abbrev TS:=Ends->St->Hp->Prop
noncomputable def EP (X:Cx) (nM:List (Addr×Obj)) (σ:St) (Q:VK) (u:Value) (s':Shared):Prop:=∃ v H',Inv X nM σ H' s'/\RelV v u/\Q v H'
noncomputable def TP (X:Cx) (nM:List (Addr×Obj)) (σ:St) (Q:Bool->Hp->Prop) (b:Bool) (s':Shared):Prop:=∃ H',Inv X nM σ H' s'/\Q b H'
noncomputable def AP (X:Cx) (nM:List (Addr×Obj)) (σ:St) (Q:List V->Hp->Prop) (us:List Value) (s':Shared):Prop:=∃ vs H',Inv X nM σ H' s'/\z0 vs us/\Q vs H'
noncomputable def SP (X:Cx) (nM:List (Addr×Obj)) (D:Ends) (f:Flow) (s':Shared):Prop :=
 match f with
 | .next=>∃ σ' H',Inv X nM σ' H' s'/\D.nx σ' H'
 | .brk=>∃ σ' H',Inv X nM σ' H' s'/\D.bk σ' H'
 | .cont=>∃ σ' H',Inv X nM σ' H' s'/\D.ct σ' H'
 | .ret u=>∃ v σ' H',Inv X nM σ' H' s'/\RelV v u/\D.rt v H'
noncomputable def PE (X:Cx) (e:Expr) (t:TE):Prop :=
 ∀ (nM:List (Addr×Obj)) (s:Shared) (σ:St) (H:Hp) (Q:VK),Inv X nM σ H s->t σ H Q->wpAny #[pi] X.A (eval e X.env) #[Pj] X.xe s
noncomputable def PT (X:Cx) (e:Expr) (t:TT):Prop :=
 ∀ (nM:List (Addr×Obj)) (s:Shared) (σ:St) (H:Hp) (Q:Bool->Hp->Prop),Inv X nM σ H s->t σ H Q->wpAny #[pi] X.A (isTrue e X.env (eval e X.env)) #[Uw] X.xe s
noncomputable def PW (X:Cx) (e:Expr) (t:TT):Prop :=
 ∀ (whole:Sem Value) (nM:List (Addr×Obj)) (s:Shared) (σ:St) (H:Hp) (Q:Bool->Hp->Prop),Inv X nM σ H s->t σ H Q->wpAny #[pi] X.A (isTrue e X.env whole) #[Uw] X.xe s
theorem PW.pt {X:Cx} {e:Expr} {t:TT} (h:PW X e t):PT X e t:=h _
noncomputable def PA (X:Cx) (es:List Expr) (t:TA):Prop :=
 ∀ (pos:Pos) (nM:List (Addr×Obj)) (s:Shared) (σ:St) (H:Hp) (Q:List V->Hp->Prop),Inv X nM σ H s->t σ H Q->wpAny #[pi] X.A (spliced #[SA]) (AP X nM σ Q) X.xe s
noncomputable def PS (X:Cx) (st:Stmt) (t:TS):Prop :=
 ∀ (nM:List (Addr×Obj)) (s:Shared) (σ:St) (H:Hp) (D:Ends),Inv X nM σ H s->t D σ H->wpAny #[pi] X.A (exec st X.env) (SP X nM D) X.xe s
noncomputable def PSs (X:Cx) (st:List Stmt) (t:TS):Prop :=
 ∀ (nM:List (Addr×Obj)) (s:Shared) (σ:St) (H:Hp) (D:Ends),Inv X nM σ H s->t D σ H->wpAny #[pi] X.A (execs st X.env) (SP X nM D) X.xe s
theorem thn {α:Type} {t:Sem α} {Q Q':α->Shared->Prop} {E:Value->Shared->Prop} (h:wpAny M A t Q E s) (hQ:∀ a s,Q a s->Q' a s):wpAny M A t Q' E s:=et h hQ fun _ _ x=>x
section
variable {X:Cx}
noncomputable def zq7 (i:Nat):TE:=fun σ H Q=>∃ v,σ[i]? = some (some v)/\Q v H
noncomputable def tC (v:V):TE:=fun _ H Q=>Q v H
theorem zp2 {i:Nat} {x:Str} (hN:X.N[i]? = some x) (hv:Vis X.env.scope x) (hd:(x == ("__debug__" : Str))=false:=by decide) (vV:(x == ("__classdict__" : Str))=false:=by decide):PE X #[RM] (zq7 i):=by
 intro nM s σ H Q I h;obtain⟨v,e,h⟩:=h;obtain⟨m,hn,hl⟩:=I.loc;obtain⟨u,r,l⟩:=hl i x v hN e hv;have fin:EP X nM σ Q u s:=⟨v,H,I,r,h⟩;rcases l with ⟨hk,hm⟩ | ⟨hk,c,hc,qG⟩
 ·exact mU (kU I.ok.kind hk hn hm fin) hd
 ·rcases hk with hk | hk
  ·exact mU (lD I.ok.kind hk hc qG fin) hd
  ·exact mU (wpAny_loadName_free I.ok.kind hk hc qG fin vV) hd
theorem zf {i j pos}:PE X (.Constant (.int i) j pos) (tC (.int i)):=fun _ _ _ H _ I h=>wpAny_Constant_int ⟨.int i,H,I.tok _,⟨_,rfl⟩,h⟩
theorem zdB {b j pos}:PE X (.Constant (.bool b) j pos) (tC (.bl b)):=fun _ _ _ H _ I h=>Constant_bool ⟨.bl b,H,I,rfl,h⟩
theorem zen {j pos}:PE X (.Constant .none j pos) (tC .non):=fun _ _ _ H _ I h=>Constant_none ⟨.non,H,I,rfl,h⟩
noncomputable def Gl (X:Cx) (x:Str):Prop:=X.env.kindOf x=some .globalImplicit
theorem zj1 {E:Value->Shared->Prop} {σ:St} {x:Str} {u:Value} {Q:Value->Shared->Prop} (I:Inv X nM σ H s) (hg:Gl X x) (hm:X.mg x=some u) (h:Q u s)
  (hd:(x == ("__debug__" : Str))=false:=by decide):wpAny #[pi] X.A (eval #[RM] X.env) Q E s :=
 jz I.ok.kind hg (Calls.loadGlobal_global (by rw [I.ok.glob]; exact I.mod.glob.keeps I.bk) hm h) hd
theorem zbk {E:Value->Shared->Prop} {σ:St} {x:Str} {u:Value} {Q:Value->Shared->Prop} (I:Inv X nM σ H s) (hg:Gl X x) (hm:X.mg x=none) (hv:bootBuiltins x=some u) (h:Q u s)
  (hn:x≠"__name__":=by decide) (hd:(x == ("__debug__" : Str))=false:=by decide):wpAny #[pi] X.A (eval #[RM] X.env) Q E s:=by
 obtain⟨mb,h1,h2⟩:=I.mod.blt;exact jz I.ok.kind hg (Calls.loadGlobal_builtin (by rw [I.ok.glob]; exact I.mod.glob.keeps I.bk) hm (by rw [I.ok.blt]; exact h1.keeps I.bk) ((h2 x hn).trans hv) h) hd
theorem zoj {x:Str} {v:V} {u:Value} {pos:Pos} (hg:Gl X x) (hm:X.mg x=some u) (r:RelV v u) (hd:(x == ("__debug__" : Str))=false:=by decide):PE X #[RM] (tC v) :=
 fun _ _ _ H _ I h=>zj1 I hg hm ⟨v,H,I,r,h⟩ hd
theorem zok {x:Str} {v:V} {u:Value} {pos:Pos} (hg:Gl X x) (hm:X.mg x=none) (hv:bootBuiltins x=some u) (r:RelV v u) (hn:x≠"__name__":=by decide) (hd:(x == ("__debug__" : Str))=false:=by decide):PE X #[RM] (tC v) :=
 fun _ _ _ H _ I h=>zbk I hg hm hv ⟨v,H,I,r,h⟩ hn hd
variable {a b:Expr} {ta tb:TE} {pos:Pos}
noncomputable def tB (t:TE):TT:=fun σ H Q=>t σ H fun x H1=>∃ c,x = .bl c/\Q c H1
theorem zmg {e:Expr} {t:TE} (h:PE X e t) (he:∀ whole,isTrue e X.env whole=(do let v <- whole; standAt e.pos; holding [v] (truthy v)):=by intro _; rfl):PT X e (tB t):=by
 intro nM s σ H Q I hw;refine isTrue_plain (thn #[Tv] fun v s1 ⟨x,H1,I1,r1,q1⟩=>?_) (he _);obtain⟨d,rfl,q⟩:=q1;cases r1;exact fE ⟨H1,I1,q⟩
variable {tA Fn:TT} {rest:List Expr}
noncomputable def zrO (t u:TT):TT:=fun σ H Q=>t σ H fun c H1=>if c=true then u σ H1 Q else Q false H1
noncomputable def tOr (t u:TT):TT:=fun σ H Q=>t σ H fun c H1=>if c=true then Q true H1 else u σ H1 Q
noncomputable def zrP (t:TT):TT:=fun σ H Q=>t σ H fun c H1=>Q (!c) H1
theorem ze0 (ha:PT X a tA):PW X (.BoolOp .And [a] pos) tA:=by
 intro wh nM s σ H Q I h;refine isTrue_and (thn (ha nM s σ H Q I h) fun c s1 e=>?_);cases c with
 | true=>exact isTrue_and_nil e
 | false=>exact e
theorem zi9 (ha:PT X a tA):PW X (.BoolOp .Or [a] pos) tA:=by
 intro wh nM s σ H Q I h;refine isTrue_or (thn (ha nM s σ H Q I h) fun c s1 e=>?_);cases c with
 | false=>exact isTrue_or_nil e
 | true=>exact e
theorem zgX (ha:PT X a tA) (hb:PW X (.BoolOp .And (b :: rest) pos) Fn):PW X (.BoolOp .And (a :: b :: rest) pos) (zrO tA Fn):=by
 intro wh nM s σ H Q I h;refine isTrue_and (thn #[O4] fun c s1 ⟨H1,I1,q1⟩=>?_);cases c with
 | true=>exact hb wh nM s1 σ H1 Q I1 q1
 | false=>exact⟨H1,I1,q1⟩
theorem zmh (ha:PT X a tA) (hb:PW X (.BoolOp .Or (b :: rest) pos) Fn):PW X (.BoolOp .Or (a :: b :: rest) pos) (tOr tA Fn):=by
 intro wh nM s σ H Q I h;refine isTrue_or (thn #[O4] fun c s1 ⟨H1,I1,q1⟩=>?_);cases c with
 | true=>exact⟨H1,I1,q1⟩
 | false=>exact hb wh nM s1 σ H1 Q I1 q1
theorem zgY (ha:PT X a tA):PT X (.UnaryOp .Not a pos) (zrP tA):=by
 intro nM s σ H Q I h;exact isTrue_not (ha nM s σ H (fun c H1=>Q (!c) H1) I h)
noncomputable def tIf (t:TT) (ta tb:TE):TE:=fun σ H Q=>t σ H fun c H1=>if c=true then ta σ H1 Q else tb σ H1 Q
theorem zct {c:Expr} (hc:PT X c tA) (ha:PE X a ta) (hb:PE X b tb):PE X (.IfExp c a b pos) (tIf tA ta tb):=by
 intro nM s σ H Q I h;refine wpAny_IfExp (thn (hc nM s σ H _ I h) fun d s1 ⟨H1,I1,q1⟩=>?_);cases d with
 | true=>exact ha nM s1 σ H1 Q I1 q1
 | false=>exact hb nM s1 σ H1 Q I1 q1
end
noncomputable def nO (K:aF) (H:Hp) (a:Addr) (xs:List V):Prop :=
 Rd H a #[P9] \/
  ∃ (o:Obj) (nP:Array Value) (n:Nat),K.lookup a=some o/\o.cls = .type "list"/\o.dict=none/\o.data = .seq nP n/\nP.size<=sizeLine/\z0 xs nP.toList
noncomputable def nS (K:aF) (H:Hp) (a:Addr) (xs:List V):Prop :=
 Rd H a #[Q9] \/
  ∃ (o:Obj) (nP:Array Value) (n:Nat),K.lookup a=some o/\o.cls = .type "tuple"/\o.data = .seq nP n/\nP.size<=sizeLine/\z0 xs nP.toList
noncomputable def zrQ:Value->Option V
 | .none=>some .non
 | .bool b=>some (.bl b)
 | .int i _=>some (.int i)
 | .str x _=>some (.str x)
 | .bytes b _=>some (.byt b)
 | .float b _=>some (.flt b)
 | .ref a=>some #[Pn]
 | .type n=>some (.ty n)
 | _=>none
theorem RelV.abs {x:V} {u:Value} (r:RelV x u):zrQ u=some x:=by
 cases x with
 | non=>cases r; rfl
 | bl _=>cases r; rfl
 | int _=>obtain⟨t,rfl⟩:=r; rfl
 | str _=>obtain⟨t,rfl⟩:=r; rfl
 | byt _=>obtain⟨t,rfl⟩:=r; rfl
 | flt _=>obtain⟨t,rfl⟩:=r; rfl
 | ref _=>cases r; rfl
 | ty _=>cases r; rfl
theorem RelV.inj {x y:V} {u:Value} (r:RelV x u) (q:RelV y u):x=y:=bK (r.abs.symm.trans q.abs)
theorem z0.inj:∀ {xs ys:List V} {us:List Value},z0 xs us->z0 ys us->xs=ys
 | _,_,_,.nil,.nil=>rfl
 | _,_,_,.cons r t,.cons r' t'=>by rw [r.inj r',z0.inj t t']
section
variable {X:Cx} {nM:List (Addr×Obj)} {σ:St} {H:Hp} {s:Shared} {a:Addr} {xs ys:List V}
theorem nO.of (h:H a=some #[P9]):nO K H a xs:=.inl (.inl h)
theorem nS.of (h:H a=some #[Q9]):nS K H a xs:=.inl (.inl h)
theorem Inv.list (I:Inv X nM σ H s) (h:nO X.K H a xs):∃ nP:List Value,z0 xs nP/\PlainL s.heap a nP.toArray/\xs.length<=sizeLine:=by
 rcases h with h | ⟨o,nP,n,hk,hc,hd,hs,hz,r⟩
 ·obtain⟨z,nP,n,r,e⟩:=h.ok I.hok;exact⟨nP,r,⟨_,n,e,rfl,rfl,rfl⟩,z⟩
 ·refine⟨nP.toList,r,⟨o,n,I.kIn a o hk,hc,hd,by simpa using hs⟩,?_⟩;have e:=r.length;simp only [bT] at e;lia
theorem Inv.tuple (I:Inv X nM σ H s) (h:nS X.K H a xs):∃ nP:List Value,z0 xs nP/\IsTup s.heap a nP.toArray/\xs.length<=sizeLine:=by
 rcases h with h | ⟨o,nP,n,hk,hc,hs,hz,r⟩
 ·obtain⟨z,nP,r,p⟩:=h.ok I.hok;exact⟨nP,r,p,z⟩
 ·refine⟨nP.toList,r,⟨o,I.kIn a o hk,hc,n,by simpa using hs⟩,?_⟩;have e:=r.length;simp only [bT] at e;lia
theorem Inv.KI (I:Inv X nM σ H s) (h:nO X.K H a xs) (h':nO X.K H a ys):xs=ys:=by
 obtain⟨nP,r,⟨o,n,e,_,_,d⟩,_⟩:=I.list h;obtain⟨its',r',⟨o',n',e',_,_,d'⟩,_⟩:=I.list h';rw [e] at e'; cases e';rw [d] at d';injection d' with d1 _
 have:nP=its':=by simpa using congrArg nI d1
 subst this;exact r.inj r'
theorem Inv.KU (I:Inv X nM σ H s) (h:nS X.K H a xs) (h':nS X.K H a ys):xs=ys:=by
 obtain⟨nP,r,⟨o,e,_,n,d⟩,_⟩:=I.tuple h;obtain⟨its',r',⟨o',e',_,n',d'⟩,_⟩:=I.tuple h';rw [e] at e'; cases e';rw [d] at d';injection d' with d1 _
 have:nP=its':=by simpa using congrArg nI d1
 subst this;exact r.inj r'
end
abbrev Cx.Nq (X:Cx) (E:Value->Shared->Prop):Cx:={ X with xe:=E }
abbrev Cx.nox (X:Cx):Cx:=X.Nq fun _ _=>False
theorem Cx.Ok.Nq (ok:X.Ok) (E:Value->Shared->Prop):(X.Nq E).Ok :=
 ⟨ok.mod,ok.kind,ok.glob,ok.blt,ok.above,ok.inj,ok.has,ok.cab,ok.hd,ok.frames,ok.stk,ok.exf,ok.bs,ok.bsz,ok.NP,ok.NY,ok.Nk,ok.frf⟩
theorem Cx.Ok.LA {E:Value->Shared->Prop} (ok:(X.Nq E).Ok):X.Ok :=
 ⟨ok.mod,ok.kind,ok.glob,ok.blt,ok.above,ok.inj,ok.has,ok.cab,ok.hd,ok.frames,ok.stk,ok.exf,ok.bs,ok.bsz,ok.NP,ok.NY,ok.Nk,ok.frf⟩
section
variable {X:Cx} {nM:List (Addr×Obj)} {σ:St} {H:Hp} {s:Shared} {E:Value->Shared->Prop}
theorem Inv.Nq (I:Inv X nM σ H s) (E:Value->Shared->Prop):Inv (X.Nq E) nM σ H s:=⟨I.ok.Nq E,I.os,I.bare,I.base,I.loc,I.cell,I.free,I.Ls,I.pin,I.hok,I.len⟩
theorem Inv.LA (I:Inv (X.Nq E) nM σ H s):Inv X nM σ H s:=⟨I.ok.LA,I.os,I.bare,I.base,I.loc,I.cell,I.free,I.Ls,I.pin,I.hok,I.len⟩
theorem SP.LA {D:Ends} {f:Flow} (h:SP (X.Nq E) nM D f s'):SP X nM D f s':=by
 cases f with
 | next=>obtain⟨σ',H',I,q⟩:=h; exact⟨σ',H',I.LA,q⟩
 | brk=>obtain⟨σ',H',I,q⟩:=h; exact⟨σ',H',I.LA,q⟩
 | cont=>obtain⟨σ',H',I,q⟩:=h; exact⟨σ',H',I.LA,q⟩
 | ret u=>obtain⟨v,σ',H',I,r,q⟩:=h; exact⟨v,σ',H',I.LA,r,q⟩
theorem PSs.nox {st:List Stmt} {t:TS} (h:PSs X.nox st t):PSs X st t:=fun nM s σ H D I hw =>
 et (h nM s σ H D (I.Nq _) hw) (fun _ _ q=>q.LA) fun _ _ z=>fZ z
end
section
variable {X:Cx} {st:Stmt} {rest:List Stmt} {t u:TS} {e:Expr} {te:TE} {pos:Pos}
noncomputable def zq8:TS:=fun D σ H=>D.nx σ H
noncomputable def zaY (t u:TS):TS:=fun D σ H=>t { D with nx:=u D } σ H
theorem zan:PSs X [] zq8:=fun _ _ σ H _ I h=>i9 ⟨σ,H,I,h⟩
theorem ze (h1:PS X st t) (h2:PSs X rest u):PSs X (st :: rest) (zaY t u):=by
 intro nM s σ H D I h;refine wpAny_execs_cons (thn (h1 nM s σ H { D with nx:=u D } I h) fun f s1 q=>?_);cases f with
 | next =>
  obtain⟨σ',H',I',q⟩:=q;exact h2 nM s1 σ' H' D I' q
 | ret v=>exact q
 | brk=>exact q
 | cont=>exact q
theorem zl (h1:PS X st t):PSs X [st] t:=by
 intro nM s σ H D I h;refine wpAny_execs_cons (thn (h1 nM s σ H D I h) fun f s1 q=>?_);cases f with
 | next=>exact i9 q
 | ret v=>exact q
 | brk=>exact q
 | cont=>exact q
theorem Inv.quiet {σ:St} (I:Inv X nM σ H s):interactive X.env=false:=by simp [interactive,I.ok.kind]
noncomputable def zq9 (te:TE):TS:=fun D σ H=>te σ H fun _ H1=>D.nx σ H1
theorem zcc (he:PE X e te) (hs:swapsWith e none pos.line X.env=pure false:=by rfl):PS X (.Expr e pos) (zq9 te):=by
 intro nM s σ H D I h;exact wpAny_Expr_any (thn #[PV] fun v s1 ⟨x,H1,I1,r1,q1⟩=>⟨σ,H1,I1,q1⟩) I.quiet hs
noncomputable def zrR (te:TE):TS:=fun D σ H=>te σ H D.rt
theorem zC (he:PE X e te):PS X (.Return (some e) pos) (zrR te):=by
 intro nM s σ H D I h;exact wpAny_Return_some (thn #[PV] fun v s1 ⟨x,H1,I1,r1,q1⟩=>⟨x,σ,H1,I1,r1,q1⟩)
noncomputable def zrS (c:TT) (t u:TS):TS:=fun D σ H=>c σ H fun b H1=>if b=true then t D σ H1 else u D σ H1
theorem zbj {c:Expr} {a b:List Stmt} {tc:TT} (hc:PT X c tc) (ha:PSs X a t) (hb:PSs X b u):PS X (.If c a b pos) (zrS tc t u):=by
 intro nM s σ H D I h;refine wpAny_If (thn (hc nM s σ H _ I h) fun d s1 ⟨H1,I1,q1⟩=>?_);cases d with
 | true=>exact ha nM s1 σ H1 D I1 q1
 | false=>exact hb nM s1 σ H1 D I1 q1
noncomputable def zp3:TS:=fun _ _ _=>False
theorem zgq {sts:List Stmt}:PSs X sts zp3:=fun _ _ _ _ _ _ h=>h.elim
end
abbrev TG:=V->St->Hp->(St->Hp->Prop)->Prop
abbrev TGs:=List V->St->Hp->(St->Hp->Prop)->Prop
noncomputable def PG (X:Cx) (target:Expr) (t:TG):Prop :=
 ∀ (nM:List (Addr×Obj)) (s:Shared) (σ:St) (H:Hp) (v:V) (u:Value) (Q:St->Hp->Prop),Inv X nM σ H s->RelV v u->t v σ H Q ->
  wpAny #[pi] X.A (assign target X.env u) (fun _ s'=>∃ σ' H',Inv X nM σ' H' s'/\Q σ' H') X.xe s
noncomputable def PGs (X:Cx) (ts:List Expr) (t:TGs):Prop :=
 ∀ (nM:List (Addr×Obj)) (s:Shared) (σ:St) (H:Hp) (vs:List V) (us:List Value) (Q:St->Hp->Prop),Inv X nM σ H s->z0 vs us->t vs σ H Q ->
  wpAny #[pi] X.A (assignInOrder ((assignEach ts X.env).map (·.2)) us) (fun _ s'=>∃ σ' H',Inv X nM σ' H' s'/\Q σ' H') X.xe s
abbrev zp4:=V->V->V->Hp->(Hp->Prop)->Prop
noncomputable def zra (X:Cx) (t:zp4):Prop :=
 ∀ (nM:List (Addr×Obj)) (s:Shared) (σ:St) (H:Hp) (o i v:V) (ov iv u:Value) (Q:Hp->Prop),Inv X nM σ H s->RelV o ov->RelV i iv->RelV v u->t o i v H Q ->
  wpAny #[pi] X.A (setItem ov iv u) (fun _ s'=>∃ H',Inv X nM σ H' s'/\Q H') X.xe s
abbrev TIp:=V->V->Hp->VK->Prop
noncomputable def PIp (X:Cx) (op:Operator) (t:TIp):Prop :=
 ∀ (nM:List (Addr×Obj)) (s:Shared) (σ:St) (H:Hp) (x y:V) (v u:Value) (Q:VK),Inv X nM σ H s->RelV x v->RelV y u->t x y H Q ->
  wpAny #[pi] X.A (inplaceOp op v u) #[Pj] X.xe s
section
variable {X:Cx} {pos:Pos}
noncomputable def zaT (i:Nat):TG:=fun v σ H Q=>Q #[Uz] H
theorem zg {i:Nat} {x:Str} (hN:X.N.Nodup) (hi:X.N[i]? = some x) (hx:Loc X.env.scope x) (hf:X.fn x=true\/X.env.scope.names.lookup x=some .local:=by first | exact .inl rfl | exact .inr rfl | assumption):PG X #[RM] (zaT i):=by
 intro nM s σ H v u Q I r h;exact wpAny_assign_Name (zfl I hN hi hx r (fun s' I'=>⟨_,H,I',h⟩) hf)
noncomputable def zja:TGs:=fun vs σ H Q=>vs = []/\Q σ H
noncomputable def zcu (t:TG) (u:TGs):TGs:=fun vs σ H Q=>∃ v r,vs=v :: r/\t v σ H fun σ' H'=>u r σ' H' Q
theorem zA:PGs X [] zja:=by
 intro nM s σ H vs us Q I r h;obtain⟨e,h⟩:=h;subst e;cases r;exact assignInOrder_nil ⟨σ,H,I,h⟩
theorem zj {e:Expr} {es:List Expr} {t:TG} {u:TGs} (h1:PG X e t) (h2:PGs X es u)
  (hs:(assignEach (e :: es) X.env).map (·.2)=assign e X.env :: #[Qz].map (·.2):=by rfl):PGs X (e :: es) (zcu t u):=by
 intro nM s σ H vs us Q I r h;obtain⟨v,vr,e1,h⟩:=h;subst e1;cases r with
 | cons r rr =>
  rw [hs];refine assignInOrder_cons (thn (h1 nM s σ H _ _ _ I r h) fun _ s1 ⟨σ1,H1,I1,q1⟩=>?_);exact h2 nM s1 σ1 H1 _ _ Q I1 rr q1
noncomputable def zhW (K:aF) (n:Nat) (t:TGs):TG:=fun v σ H Q=>∃ a xs,v = .ref a/\nS K H a xs/\xs.length=n/\t xs σ H Q
theorem zaw {es:List Expr} {k:Nat} {t:TGs} {n:Nat} (hc:X.calm=true) (h:PGs X es t)
  (hn:#[Qz].length=n:=by rfl) (qp:#[Qz].findIdx? (·.1)=none:=by rfl):PG X #[Qb] (zhW X.K n t):=by
 intro nM s σ H v u Q I r hw;obtain⟨a,xs,e1,hq,hl,hw⟩:=hw;subst e1;cases r;obtain⟨nP,rv,ht,hz⟩:=I.tuple hq;refine assign_Tuple_tuple #[O7] ht (by simp [hn,<- hl,rv.length]) qp fun h' hx=>?_
 have I1:Inv X nM σ H { s with heap:=h' }:=I.kept (t':=s.toks) fun b o e=>hx b o (bY (bA e)) e
 exact h nM _ σ H xs _ Q I1 (by simpa using rv) hw
noncomputable def zrT (to ti:TE) (t:zp4):TG:=fun v σ H Q=>to σ H fun o H1=>ti σ H1 fun i H2=>t o i v H2 fun H3=>Q σ H3
theorem zeo {o i:Expr} {to ti:TE} {t:zp4} (ho:PE X o to) (hi:PE X i ti) (hs:zra X t)
  (ha:∀ v,assign (.Subscript o i pos) X.env v=(do
   let ov <- holding [v] #[Uu]
   let iv <- holding [v,ov] (eval i X.env)
   standAt pos
   holding [v,ov,iv] (setItem ov iv v)
   release [v,ov,iv] []):=by intro _; rfl):PG X (.Subscript o i pos) (zrT to ti t):=by
 intro nM s σ H v u Q I r h;rw [ha];refine aB (cQ (thn #[RN] fun ov s1 ⟨x,H1,I1,r1,q1⟩=>?_));refine aB (cQ (thn (hi nM s1 σ H1 _ I1 q1) fun iv s2 ⟨y,H2,I2,r2,q2⟩=>?_));refine aB (gS (aB (cQ (thn (hs nM s2 σ H2 x y v ov iv u _ I2 r1 r2 r q2) fun _ s3 ⟨H3,I3,q3⟩=>?_))));exact wpAny_release ⟨σ,H3,I3,q3⟩
noncomputable def zjb (te:TE) (g:TG):TS:=fun D σ H=>te σ H fun x H1=>g x σ H1 D.nx
theorem zaO {tg e:Expr} {te:TE} {g:TG} (he:PE X e te) (hg:PG X tg g) (hs:swapsWithSole [tg] e pos.line X.env=pure false:=by rfl) (hw:swappedStores [tg] e X.env=pure none:=by rfl)
  (h1:(assignEach [tg] X.env).map (·.2) = [assign tg X.env]:=by rfl):PS X (.Assign [tg] e pos) (zjb te g):=by
 intro nM s σ H D I h;refine wpAny_Assign_stores (thn #[PV] fun v s1 ⟨x,H1,I1,r1,q1⟩=>?_) hs hw;rw [h1];exact thn (hg nM s1 σ H1 x v _ I1 r1 q1) fun _ s2 q=>q
theorem zm {i:Nat} {x:Str} {e:Expr} {te:TE} {pos':Pos} (hN:X.N.Nodup) (hi:X.N[i]? = some x) (hx:Loc X.env.scope x) (he:PE X e te) (hs:swapsWith e (some #[Qg]) pos.line X.env=pure false:=by rfl) (hf:X.fn x=true\/X.env.scope.names.lookup x=some .local:=by first | exact .inl rfl | exact .inr rfl | assumption) :
  PS X (.Assign [.Name x pos'] e pos) (zjb te (zaT i)):=by
 intro nM s σ H D I h;refine wpAny_Assign_Name (thn #[PV] fun v s1 ⟨y,H1,I1,r1,q1⟩=>?_) hs;exact zfl I1 hN hi hx r1 (fun s2 I2=>⟨_,H1,I2,q1⟩) hf
noncomputable def zrU (i:Nat) (te:TE) (ti:TIp):TS:=fun D σ H=>∃ x,σ[i]? = some (some x)/\te σ H fun y H1=>ti x y H1 fun z H2=>D.nx (σ.set i (some z)) H2
theorem zjc {i:Nat} {x:Str} {e:Expr} {te:TE} {op:Operator} {ti:TIp} {pos':Pos} (hN:X.N.Nodup) (hi:X.N[i]? = some x) (hx:Loc X.env.scope x) (he:PE X e te) (ho:PIp X op ti) (hf:X.fn x=true\/X.env.scope.names.lookup x=some .local:=by first | exact .inl rfl | exact .inr rfl | assumption) :
  PS X (.AugAssign #[Qg] op e pos) (zrU i te ti):=by
 intro nM s σ H D I h;obtain⟨v,e1,h⟩:=h;obtain⟨m,hn,hl⟩:=I.loc;have vis:Vis X.env.scope x:=by rcases hx with k | k; exact .inl k; exact .inr (.inl k)
 obtain⟨u,r,l⟩:=hl i x v hi e1 vis;refine wpAny_AugAssign_Name ?_;have go:wpAny #[pi] X.A (eval e X.env) (fun w s₂=>wpAny #[pi] X.A (inplaceOp op u w) (fun r s₃=>wpAny #[pi] X.A (storeName X.env x r) (fun _=>SP X nM D .next) X.xe s₃) X.xe s₂) X.xe s:=by
  refine thn #[PV] fun w s1 ⟨y,H1,I1,r1,q1⟩=>?_
  refine thn (ho nM s1 σ H1 v y u w _ I1 r r1 q1) fun z s2 ⟨zv,H2,I2,r2,q2⟩=>?_
  exact zfl I2 hN hi hx r2 (fun s3 I3=>⟨_,H2,I3,q2⟩) hf
 rcases l with ⟨hk,hm⟩ | ⟨hk,c,hc,qG⟩
 ·exact kU I.ok.kind hk hn hm go
 ·rcases hk with hk | hk
  ·exact lD I.ok.kind hk hc qG go
  ·rcases hx with k | k
   ·have:X.env.scope.names.lookup x=some .free:=hk;rw [k] at this; cases this
   ·have:X.env.scope.names.lookup x=some .free:=hk;rw [k] at this; cases this
noncomputable def zmi (c:TT) (tb:TS):TS:=fun D σ H=>∃ W:Nat->St->Hp->Prop,(∃ m,W m σ H)/\∀ m σ H,W m σ H ->
 c σ H fun b H1=>if b=true then ∃ N:St->Hp->Prop,(∀ σ' H',N σ' H'->∃ m',m' < m/\W m' σ' H')/\tb { D with nx:=N,ct:=N,bk:=D.nx } σ H1 else D.nx σ H1
theorem zfm {c:Expr} {body:List Stmt} {tc:TT} {tb:TS} (hp:PassesOwn #[pi] X.A X.env X.xe) (hc:PT X c tc) (hb:PSs X body tb):PS X (.While c body [] pos) (zmi tc tb):=by
 intro nM s σ H D I h;obtain⟨W,⟨m0,w0⟩,turn⟩:=h;refine wpAny_While (codeAny_whileLoop (fun n s'=>∃ σ' H',Inv X nM σ' H' s'/\W n σ' H') ?_ m0 ⟨σ,H,I,w0⟩);rintro n s1 ⟨σ1,H1,I1,w1⟩;refine fR hp (thn (hc nM s1 σ1 H1 _ I1 (turn n σ1 H1 w1)) fun b s2 ⟨H2,I2,q2⟩=>?_);cases b with
 | true =>
  obtain⟨N,hN,q2⟩:=q2;rw [if_pos rfl];refine fR hp (thn (hb nM s2 σ1 H2 _ I2 q2) fun f s3 q3=>?_);cases f with
  | next =>
   obtain⟨σ3,H3,I3,n3⟩:=q3;obtain⟨m',hm,w3⟩:=hN σ3 H3 n3;exact⟨m',hm,σ3,H3,I3,w3⟩
  | cont =>
   obtain⟨σ3,H3,I3,n3⟩:=q3;obtain⟨m',hm,w3⟩:=hN σ3 H3 n3;exact⟨m',hm,σ3,H3,I3,w3⟩
  | brk=>exact q3
  | ret v=>exact q3
 | false =>
  rw [if_neg bH];exact i9 ⟨σ1,H2,I2,q2⟩
end
structure It where
 go:Nat->Hp->Prop
 yld:Nat->Hp->V->Hp->Prop
 stop:Nat->Hp->Prop
noncomputable def zcl (X:Cx) (nM:List (Addr×Obj)) (H:Hp) (b:Addr):Prop :=
 H b=none/\b≠X.env.locals/\b∉X.fs/\(b∈X.ex\/X.s₀.heap.objs.size<=b)/\(∀ x c,X.env.cells.lookup x=some c->c≠b)/\∀ p∈X.pn++nM,p.1≠b
theorem Inv.Mq {σ:St} {b:Addr} (I:Inv X nM σ H s) (hb:s.heap.objs.size<=b) (hn:H' b=none):zcl X nM H' b:=by
 refine⟨hn,ij (cA I.lt hb),I.Ow hb,.inr (bX I.sz hb),fun x c e z=>?_,fun p hp z=>?_⟩
 ·obtain⟨v,q⟩:=I.cell x c e;exact absurd (cA q.lt (by rw [z]; exact hb)) (de _)
 ·exact absurd (cA (bA (I.pin p hp).1) (by rw [z]; exact hb)) (de _)
structure Turn (P:Program) (w:World) (K:aF) (tg:Expr) (J:It) (fp:List Addr) (it:Addr) (tn:Nat->Heap->Prop):Prop where
 mem:it∈fp
 obj:∀ i h,tn i h->∀ b∈fp,∃ o,h.get? b=some o/\∀ v,o.data≠.cell v
 keep:∀ i h h',tn i h->(∀ b∈fp,∀ o,h.get? b=some o->h'.get? b=some o)->tn i h'
 item:∀ (X:Cx),X.prog=P->X.w=w->X.K=K->X.calm=true->∀ (i:Nat) (nM:List (Addr×Obj)) (s:Shared) (σ:St) (H:Hp) (E:Value->Shared->Prop),Inv X nM σ H s->(∀ b∈fp,zcl X nM H b)->tn i s.heap->J.go i H ->
  wpAny #[Su] X.A #[R9] (fun r s1=>∃ u,r=some u /\
   wpAny #[Su] X.A #[V9] (fun _ s2=>∃ x H',Inv X nM σ H' s2/\RelV x u/\J.yld i H x H'/\tn (i+1) s2.heap/\∀ b∈fp,H' b=none) E s1) E s
 done:∀ (X:Cx),X.prog=P->X.w=w->X.K=K->X.calm=true->∀ (i:Nat) (nM:List (Addr×Obj)) (s:Shared) (σ:St) (H:Hp) (E:Value->Shared->Prop),Inv X nM σ H s->(∀ b∈fp,zcl X nM H b)->tn i s.heap->J.stop i H ->
  wpAny #[Su] X.A #[R9] (fun r s1=>r=none/\Inv X nM σ H s1) E s
 self:∀ (A:Around) (i:Nat) (s:Shared) (Q:Value->Shared->Prop) (E:Value->Shared->Prop),tn i s.heap->Q #[PJ] s->wpAny #[Su] A (pyIter #[PJ]) Q E s
abbrev TI:=St->Hp->(It->Hp->Prop)->Prop
noncomputable def PIE (X:Cx) (nM:List (Addr×Obj)) (σ:St) (tg:Expr) (R:It->Hp->Prop) (Bz:Value) (s2:Shared):Prop :=
 ∃ (it:Addr) (fp:List Addr) (tn:Nat->Heap->Prop) (J:It) (H':Hp),Bz = .ref it/\Inv X nM σ H' s2/\Turn X.prog X.w X.K tg J fp it tn/\tn 0 s2.heap/\(∀ b∈fp,zcl X nM H' b)/\R J H'
noncomputable def PI (X:Cx) (tg iter:Expr) (wi:TI):Prop :=
 ∀ (nM:List (Addr×Obj)) (s:Shared) (σ:St) (H:Hp) (R:It->Hp->Prop),Inv X nM σ H s->wi σ H R ->
  wpAny #[pi] X.A (eval iter X.env) (fun v s1=>wpAny #[pi] X.A (pyIter v) (PIE X nM σ tg R) X.xe s1) X.xe s
theorem zfn {E:Value->Shared->Prop} {u:Value} {o:Obj} {n:String} {vs:Array Value} {Q:Unit->Shared->Prop} (ho:s.heap.get? it=some o) (hc:o.cls = .type n) (hd:o.data = .fields vs)
  (hn:["enumerate","zip","dict_itemiterator","dict_reverseitemiterator","odict_iterator","itertools.zip_longest","itertools.pairwise"].contains n=false) (hQ:Q () s):wpAny M A #[V9] Q E s:=by
 unfold letOwnedTupleGo;cases tg <;> first
  | exact aK hQ
  | (cases u <;> first
    | exact aK hQ
    | (refine aB (wpAny_load ho ?_)
       rw [hc,hd];show wpAny M A (if (["enumerate","zip","dict_itemiterator","dict_reverseitemiterator","odict_iterator","itertools.zip_longest","itertools.pairwise"].contains n && vs[0]? == some (rawInt _))=true then _ else _) Q E s;rw [if_neg (by intro h; rw [hn,Bool.false_and] at h; cases h)];exact aK hQ))
noncomputable def Itl (K:aF) (a:Addr):It :=
 ⟨fun i H=>∃ xs x,nO K H a xs/\xs[i]? = some x,fun i H x H'=>H'=H/\∀ xs,nO K H a xs->xs[i]? = some x,fun i H=>∃ xs,nO K H a xs/\xs.length<=i⟩
noncomputable def Itt (K:aF) (a:Addr):It :=
 ⟨fun i H=>∃ xs x,nS K H a xs/\xs[i]? = some x,fun i H x H'=>H'=H/\∀ xs,nS K H a xs->xs[i]? = some x,fun i H=>∃ xs,nS K H a xs/\xs.length<=i⟩
noncomputable def Itr (lo:Int) (n:Nat):It:=⟨fun i _=>i < n,fun i H x H'=>H'=H/\x = .int (lo+i),fun i _=>n<=i⟩
theorem zgr (a it:Addr):Turn P w K tg #[Vq] [it] it (fun i h=>h.IsListIter it a i) where
 mem:=by simp
 obj:=fun i h st b hb=>by
  have e:b=it:=by simpa using hb
  subst e;obtain⟨o,e,c,d⟩:=st;exact⟨o,e,fun v z=>by rw [d] at z; cases z⟩
 keep:=fun i h h' st k=>st.at fun o e=>k it #[M] o e
 item:=by
  intro X hP hw hK hc i nM s σ H E I hf st hg;subst hP hw hK;obtain⟨xs,x,hq,hx⟩:=hg;obtain⟨nP,rv,p,hz⟩:=I.list hq;obtain⟨u,hu,ru⟩:=rv.get hx;obtain⟨f0,f1,f2,f3,f4,f5⟩:=hf it #[M];refine wpAny_pyNext_list_item st p.isList (x:=u) (by simpa using hu) fun h' nU sb=>?_
  have I1:Inv X nM σ H { s with heap:=h' }:=I.turned (t':=s.toks) (fun b o hb e=>(sb.2 b hb).trans e) f0 f1 f3 f4 f5;obtain⟨o,e,c,d⟩:=id nU;exact⟨u,rfl,zfn (s:={ s with heap:=h' }) e c d #[D] ⟨x,H,I1,ru,⟨rfl,fun ys hy=>by rw [I.KI hy hq]; exact hx⟩,nU,fun b hb=>#[Ur].1⟩⟩
 done:=by
  intro X hP hw hK hc i nM s σ H E I hf st hg;subst hP hw hK;obtain⟨xs,hq,hx⟩:=hg;obtain⟨nP,rv,p,hz⟩:=I.list hq;obtain⟨f0,f1,f2,f3,f4,f5⟩:=hf it #[M];have hl:=rv.length;exact wpAny_pyNext_list_end #[O7] st p.isList (by simp; lia) fun h' eb=>#[ut]
 self:=fun _ _ _ _ _ st h=>wpAny_pyIter_listiter st h
theorem zfo (a it:Addr):Turn P w K tg #[Vp] [it] it (fun i h=>h.IsTupleIter it a i) where
 mem:=by simp
 obj:=fun i h st b hb=>by
  have e:b=it:=by simpa using hb
  subst e;obtain⟨o,e,c,d⟩:=st;exact⟨o,e,fun v z=>by rw [d] at z; cases z⟩
 keep:=fun i h h' st k=>st.at fun o e=>k it #[M] o e
 item:=by
  intro X hP hw hK hc i nM s σ H E I hf st hg;subst hP hw hK;obtain⟨xs,x,hq,hx⟩:=hg;obtain⟨nP,rv,p,hz⟩:=I.tuple hq;obtain⟨u,hu,ru⟩:=rv.get hx;obtain⟨f0,f1,f2,f3,f4,f5⟩:=hf it #[M];refine wpAny_pyNext_tuple_item st (show s.heap.IsTuple a nP.toArray from p) (x:=u) (by simpa using hu) fun h' nU sb=>?_
  have I1:Inv X nM σ H { s with heap:=h' }:=I.turned (t':=s.toks) (fun b o hb e=>(sb.2 b hb).trans e) f0 f1 f3 f4 f5;obtain⟨o,e,c,d⟩:=id nU;exact⟨u,rfl,zfn (s:={ s with heap:=h' }) e c d #[D] ⟨x,H,I1,ru,⟨rfl,fun ys hy=>by rw [I.KU hy hq]; exact hx⟩,nU,fun b hb=>#[Ur].1⟩⟩
 done:=by
  intro X hP hw hK hc i nM s σ H E I hf st hg;subst hP hw hK;obtain⟨xs,hq,hx⟩:=hg;obtain⟨nP,rv,p,hz⟩:=I.tuple hq;obtain⟨f0,f1,f2,f3,f4,f5⟩:=hf it #[M];have hl:=rv.length;exact wpAny_pyNext_tuple_end #[O7] st (show s.heap.IsTuple a nP.toArray from p) (by simp; lia) fun h' eb=>#[ut]
 self:=fun _ _ _ _ _ st h=>wpAny_pyIter_tupleiter st h
theorem zjd (it:Addr) (lo:Int) (n:Nat):Turn P w K tg (Itr lo n) [it] it (fun i h=>IsRangeIter h it (lo+(i:Nat)*1) ((n:Int) - (i:Nat)) 1) where
 mem:=by simp
 obj:=fun i h st b hb=>by
  have e:b=it:=by simpa using hb
  subst e;exact⟨_,st,fun v z=>by
   have z':kq _=Data.cell v:=z;cases z'⟩
 keep:=fun i h h' st k=>k it #[M] _ st
 item:=by
  intro X hP hw hK hc i nM s σ H E I hf st hg;subst hP hw hK;obtain⟨f0,f1,f2,f3,f4,f5⟩:=hf it #[M];have W:=Walks.range (prog:=X.prog) (w:=X.w) #[O7] it lo 1 n;refine W.item i s _ _ hg st fun v h' tk hv nU kk=>?_
  obtain⟨t,rfl⟩:=hv;have I1:Inv X nM σ H { s with heap:=h',toks:=tk }:=I.turned (fun b o hb e=>kk b o (by simpa using hb) e) f0 f1 f3 f4 f5;refine⟨_,rfl,zfn (s:={ s with heap:=h',toks:=tk }) (n:="range_iterator") nU rfl rfl #[D] ⟨.int (lo+i),H,I1,⟨t,?_⟩,⟨rfl,rfl⟩,nU,fun b hb=>#[Ur].1⟩⟩;rw [mE]
 done:=by
  intro X hP hw hK hc i nM s σ H E I hf st hg;subst hP hw hK;obtain⟨f0,f1,f2,f3,f4,f5⟩:=hf it #[M];exact kr #[O7] st (by have:n<=i:=hg; lia) fun h' eb=>#[ut]
 self:=fun _ _ _ _ _ st h=>iN st h
section
variable {X:Cx} {tg:Expr}
noncomputable def zpv (K:aF) (tl:TE):TI:=fun σ H R=>tl σ H fun x H1=>∃ a,x = .ref a/\(∃ xs,nO K H1 a xs)/\R #[Vq] H1
noncomputable def zrb (K:aF) (tl:TE):TI:=fun σ H R=>tl σ H fun x H1=>∃ a,x = .ref a/\(∃ xs,nS K H1 a xs)/\R #[Vp] H1
theorem zad {l:Expr} {tl:TE} (hl:PE X l tl):PI X tg l (zpv X.K tl):=by
 intro nM s σ H R I h;refine thn #[RO] fun v s1 ⟨x,H1,I1,r1,q1⟩=>?_
 obtain⟨a,e,⟨xs,hq⟩,q⟩:=q1;subst e;cases r1;obtain⟨nP,rv,p,hz⟩:=I1.list hq;refine iL p.isList ?_;refine⟨s1.heap.objs.size,[s1.heap.objs.size],_,_,H1,rfl,I1.kept (t':=s1.toks) fun b o e=>aJ _ e,zgr a _,⟨_,aX _ rfl,rfl,rfl⟩,fun b hb=>?_,q⟩;have e:b=s1.heap.objs.size:=by simpa using hb
 subst e;exact I1.Mq (aH _) #[OM]
theorem zcm {l:Expr} {tl:TE} (hl:PE X l tl):PI X tg l (zrb X.K tl):=by
 intro nM s σ H R I h;refine thn #[RO] fun v s1 ⟨x,H1,I1,r1,q1⟩=>?_
 obtain⟨a,e,⟨xs,hq⟩,q⟩:=q1;subst e;cases r1;obtain⟨nP,rv,p,hz⟩:=I1.tuple hq;refine fM (show s1.heap.IsTuple a nP.toArray from p) ?_;refine⟨s1.heap.objs.size,[s1.heap.objs.size],_,_,H1,rfl,I1.kept (t':=s1.toks) fun b o e=>aJ _ e,zfo a _,⟨_,aX _ rfl,rfl,rfl⟩,fun b hb=>?_,q⟩;have e:b=s1.heap.objs.size:=by simpa using hb
 subst e;exact I1.Mq (aH _) #[OM]
theorem zhX {σ:St} {E:Value->Shared->Prop} {lo hi:Int} {t u v:Tok} (I:Inv X nM σ H s) (h1:-(2 ^ 62)<=lo) (h2:lo < 2 ^ 62) (h3:-(2 ^ 62)<=hi) (h4:hi < 2 ^ 62)
  (q:R (Itr lo (hi - lo).toNat) H):wpAny #[pi] X.A (pyIter #[wf]) (PIE X nM σ tg R) E { s with heap:=s.heap.push { cls:=.type "range",data:=.fields #[OK] },toks:=tk }:=by
 refine wpAny_pyIter_range (IsRange.new ..) (small_one h1 h2 h3 h4) ?_;have I1:Inv X nM σ H { s with heap:=s.heap.push { cls:=.type "range",data:=.fields #[OK] },toks:=tk }:=I.kept fun b o e=>aJ _ e
 refine⟨(s.heap.push { cls:=.type "range",data:=.fields #[OK] }).objs.size,[(s.heap.push { cls:=.type "range",data:=.fields #[OK] }).objs.size],_,_,H,rfl,
  I1.kept (t':=tk) fun b o e=>aJ _ e,zjd _ lo (hi - lo).toNat,?_,fun b hb=>?_,q⟩
 ·have e1:lo+((0:Nat):Int)*1=lo:=by simp
  have e2:(((hi - lo).toNat:Nat):Int) - ((0:Nat):Int)=cK lo hi 1:=by rw [rangeSize_one]; split <;> lia
  show IsRangeIter _ _ (lo+((0:Nat):Int)*1) ((((hi - lo).toNat:Nat):Int) - ((0:Nat):Int)) 1;rw [e1,e2];exact aX _ rfl
 ·have e:b=(s.heap.push { cls:=.type "range",data:=.fields #[OK] }).objs.size:=by simpa using hb
  subst e;exact I1.Mq (aH _) #[OM]
noncomputable def zrc (ta:TA):TI:=fun σ H R=>ta σ H fun vs H1=>∃ j:Int,vs = [.int j]/\-(2 ^ 62)<=j/\j < 2 ^ 62/\R (Itr 0 j.toNat) H1
noncomputable def zrd (ta:TA):TI:=fun σ H R=>ta σ H fun vs H1=>∃ i j:Int,vs = [.int i,.int j]/\(-(2 ^ 62)<=i/\i < 2 ^ 62/\-(2 ^ 62)<=j/\j < 2 ^ 62)/\R (Itr i (j - i).toNat) H1
theorem zU {a:Expr} {ta:TA} {p pos:Pos} (hg:Gl X "range") (hm:X.mg "range" = none) (ha:PA X [a] ta) (hs:starEach [a] X.env = [#[FB]]:=by rfl):PI X tg (.Call (.Name "range" p) [a] [] pos) (zrc ta):=by
 intro nM s σ H R I h;refine Call_ (zbk I hg hm kW (bZ (thn #[FM] fun us s1 ⟨vs,H1,I1,r1,q1⟩=>?_) hs rfl));obtain⟨j,e,q1,q2,q⟩:=q1;subst e;cases r1 with
 | cons r rr =>
  cases rr;obtain⟨t,rfl⟩:=r;exact call_range_1 (zhX I1 #[O] #[O] q1 q2 (by simpa using q))
theorem zgs {a b:Expr} {ta:TA} {p pos:Pos} (hg:Gl X "range") (hm:X.mg "range" = none) (ha:PA X [a,b] ta) (hs:starEach [a,b] X.env = [#[FB],#[Fr]]:=by rfl) (pH:starEach [b] X.env = [#[Fr]]:=by rfl) :
  PI X tg (.Call (.Name "range" p) [a,b] [] pos) (zrd ta):=by
 intro nM s σ H R I h;refine Call_ (zbk I hg hm kW (bZ (thn #[FM] fun us s1 ⟨vs,H1,I1,r1,q1⟩=>?_) (by rw [hs,pH]) (by rw [pH]; rfl)));obtain⟨i,j,e,⟨q1,q2,q3,q4⟩,q⟩:=q1;subst e;cases r1 with
 | cons r rr =>
  cases rr with
  | cons r' rr =>
   cases rr;obtain⟨t,rfl⟩:=r;obtain⟨t',rfl⟩:=r';exact call_range_2 (zhX I1 q1 q2 q3 q4 q)
noncomputable def zrV (wi:TI) (g:TG) (tb:TS):TS:=fun D σ H=>wi σ H fun J H1=>∃ W:Nat->Nat->St->Hp->Prop,(∃ m,W 0 m σ H1)/\∀ i m σ H,W i m σ H ->
 (J.stop i H/\D.nx σ H)\/(J.go i H/\∃ N:St->Hp->Prop,(∀ σ' H',N σ' H'->∃ m',m' < m/\W (i+1) m' σ' H')/\∀ x H',J.yld i H x H'->g x σ H' fun σ2 H2=>tb { D with nx:=N,ct:=N,bk:=D.nx } σ2 H2)
noncomputable def zc2 (fp:List Addr) (h:Heap):List (Addr×Obj):=fp.filterMap fun b=>(h.get? b).map fun o=>(b,o)
theorem zcI {b:Addr} {o:Obj} (hb:b∈fp) (e:h.get? b=some o):(b,o)∈zc2 fp h:=lO.mpr ⟨b,hb,by rw [e]; rfl⟩
theorem zgt {p:Addr×Obj} (hp:p∈zc2 fp h):p.1∈fp/\h.get? p.1=some p.2:=by
 obtain⟨b,hb,e⟩:=lO.mp hp;cases q:h.get? b with
 | none=>rw [q] at e; cases e
 | some o =>
  rw [q] at e;have e':(b,o)=p:=bK e;subst e';exact⟨hb,q⟩
theorem Inv.pinned {σ:St} (I:Inv X nM σ H s) (hf:∀ b∈fp,zcl X nM H b) (ho:∀ b∈fp,∃ o,s.heap.get? b=some o/\∀ v,o.data≠.cell v):Inv X (nM++zc2 fp s.heap) σ H s :=
 I.Mc fun p hp=>(bO.mp hp).elim (fun z=>I.pin p (bG _ z)) fun z=>by
  obtain⟨hb,e⟩:=zgt z;obtain⟨f0,f1,f2,_⟩:=hf p.1 hb;obtain⟨o,e',d⟩:=ho p.1 hb;rw [e] at e'; cases e';exact⟨e,f0,f1,f2,d⟩
theorem Inv.Ma {pl:List (Addr×Obj)} {σ:St} (I:Inv X (nM++pl) σ H s):Inv X nM σ H s:=I.Mc fun p hp=>I.pin p (bG _ (bS _ hp))
theorem zah {iter:Expr} {body:List Stmt} {wi:TI} {g:TG} {tb:TS} {pos:Pos} (hp:PassesOwn #[pi] X.A X.env X.xe) (hc:X.calm=true) (hi:PI X tg iter wi) (hg:PG X tg g) (hb:PSs X body tb)
  (hs:∀ x,foldedSetIterable iter X.env x=pure x:=by intro _; rfl):PS X (.For tg iter body [] pos) (zrV wi g tb):=by
 intro nM s σ H D I h;refine wpAny_For (thn #[Tu] fun v s1 h1=>thn h1 fun Bz s2 h2=>?_) hs;obtain⟨it,fp,tn,J,H2,e,I2,T,oI,f2,W,⟨m0,w0⟩,turn⟩:=h2;subst e;have BA:∀ {H':Hp},(∀ b∈fp,H' b=none)->∀ b∈fp,zcl X nM H' b:=fun hn b hb=>⟨hn b hb,(f2 b hb).2⟩
 refine codeAny_forLoop_any (fun n s'=>∃ i σ' H',Inv X nM σ' H' s'/\tn i s'.heap/\(∀ b∈fp,H' b=none)/\W i n σ' H') ?_ m0 ⟨0,σ,H2,I2,oI,fun b hb=>(f2 b hb).1,w0⟩;rintro n s3 ⟨i,σ3,H3,I3,Fo,fr3,w3⟩;rcases turn i n σ3 H3 w3 with ⟨stop,qn⟩ | ⟨go,N,hN,step⟩
 ·refine fR hp (thn (T.done X rfl rfl rfl hc i nM s3 σ3 H3 X.xe I3 (BA fr3) Fo stop) fun r s4 ⟨hr,I4⟩=>?_);subst hr;exact i9 ⟨σ3,H3,I4,qn⟩
 ·refine fR hp (thn (T.item X rfl rfl rfl hc i nM s3 σ3 H3 X.xe I3 (BA fr3) Fo go) fun r s4 ⟨u,hr,h4⟩=>?_);subst hr;refine fR hp (thn h4 fun _ s5 ⟨x,H5,I5,r5,y5,CP,fr5⟩=>?_);have I5':=I5.pinned (BA fr5) (T.obj _ _ CP);refine fR hp (thn (hg _ s5 σ3 H5 x u _ I5' r5 (step x H5 y5)) fun _ s6 ⟨σ6,H6,I6,q6⟩=>?_);refine fR hp (thn (hb _ s6 σ6 H6 _ I6 q6) fun f s7 q7=>?_);have again:∀ {σ7:St} {H7:Hp},Inv X (nM++zc2 fp s5.heap) σ7 H7 s7->N σ7 H7->∃ m,m < n/\∃ i σ' H',Inv X nM σ' H' s7/\tn i s7.heap/\(∀ b∈fp,H' b=none)/\W i m σ' H':=fun {σ7 H7} I7 n7=>by
   obtain⟨m',hm,w7⟩:=hN σ7 H7 n7;refine⟨m',hm,i+1,σ7,H7,I7.Ma,T.keep _ _ _ CP fun b hb o e=>(I7.pin (b,o) #[Q0]).1,fun b hb=>?_,w7⟩;obtain⟨o,e,d⟩:=T.obj _ _ CP b hb;exact (I7.pin (b,o) #[Q0]).2.1
  cases f with
  | next=>obtain⟨σ7,H7,I7,n7⟩:=q7; exact again I7 n7
  | cont=>obtain⟨σ7,H7,I7,n7⟩:=q7; exact again I7 n7
  | brk=>obtain⟨σ7,H7,I7,q7⟩:=q7; exact⟨σ7,H7,I7.Ma,q7⟩
  | ret v=>obtain⟨x7,σ7,H7,I7,r7,q7⟩:=q7; exact⟨x7,σ7,H7,I7.Ma,r7,q7⟩
end
theorem zhY {a:Addr} {xs:List V} {tb:TS} {D:Ends} {σ:St} (Pv:Nat->St->Hp->Prop) (h0:Pv 0 σ H) (hl:∀ i σ H,i<=xs.length->Pv i σ H->nO K H a xs)
  (hs:∀ i x σ H,xs[i]? = some x->Pv i σ H->g x σ H fun σ2 H2=>tb { D with nx:=Pv (i+1),ct:=Pv (i+1),bk:=D.nx } σ2 H2) (hd:∀ σ H,Pv xs.length σ H->D.nx σ H) :
  ∃ W:Nat->Nat->St->Hp->Prop,(∃ m,W 0 m σ H)/\∀ i m σ H,W i m σ H ->
   (#[Vq].stop i H/\D.nx σ H)\/(#[Vq].go i H/\∃ N:St->Hp->Prop,(∀ σ' H',N σ' H'->∃ m',m' < m/\W (i+1) m' σ' H')/\∀ x H',#[Vq].yld i H x H'->g x σ H' fun σ2 H2=>tb { D with nx:=N,ct:=N,bk:=D.nx } σ2 H2):=by
 refine⟨fun i m σ H=>m=xs.length - i/\i<=xs.length/\Pv i σ H,⟨xs.length,#[M],bW _,h0⟩,?_⟩;rintro i m σ H ⟨rfl,hi,p⟩;have q:=hl i σ H hi p;by_cases n6:i < xs.length
 ·refine .inr ⟨⟨xs,xs[i],q,by simp [n6]⟩,Pv (i+1),fun σ' H' p'=>⟨xs.length - (i+1),#[O],rfl,n6,p'⟩,fun x H' y=>?_⟩;obtain⟨e,y⟩:=y;subst e;exact hs i x σ _ (y xs q) p
 ·have e:i=xs.length:=by lia
  subst e;exact .inl ⟨⟨xs,q,aH _⟩,hd σ H p⟩
theorem zol {a:Addr} {xs:List V} {tb:TS} {D:Ends} {σ:St} (Pv:Nat->St->Hp->Prop) (h0:Pv 0 σ H) (hl:∀ i σ H,i<=xs.length->Pv i σ H->nS K H a xs)
  (hs:∀ i x σ H,xs[i]? = some x->Pv i σ H->g x σ H fun σ2 H2=>tb { D with nx:=Pv (i+1),ct:=Pv (i+1),bk:=D.nx } σ2 H2) (hd:∀ σ H,Pv xs.length σ H->D.nx σ H) :
  ∃ W:Nat->Nat->St->Hp->Prop,(∃ m,W 0 m σ H)/\∀ i m σ H,W i m σ H ->
   (#[Vp].stop i H/\D.nx σ H)\/(#[Vp].go i H/\∃ N:St->Hp->Prop,(∀ σ' H',N σ' H'->∃ m',m' < m/\W (i+1) m' σ' H')/\∀ x H',#[Vp].yld i H x H'->g x σ H' fun σ2 H2=>tb { D with nx:=N,ct:=N,bk:=D.nx } σ2 H2):=by
 refine⟨fun i m σ H=>m=xs.length - i/\i<=xs.length/\Pv i σ H,⟨xs.length,#[M],bW _,h0⟩,?_⟩;rintro i m σ H ⟨rfl,hi,p⟩;have q:=hl i σ H hi p;by_cases n6:i < xs.length
 ·refine .inr ⟨⟨xs,xs[i],q,by simp [n6]⟩,Pv (i+1),fun σ' H' p'=>⟨xs.length - (i+1),#[O],rfl,n6,p'⟩,fun x H' y=>?_⟩;obtain⟨e,y⟩:=y;subst e;exact hs i x σ _ (y xs q) p
 ·have e:i=xs.length:=by lia
  subst e;exact .inl ⟨⟨xs,q,aH _⟩,hd σ H p⟩
theorem zgu {lo:Int} {n:Nat} {tb:TS} {D:Ends} {σ:St} (Pv:Nat->St->Hp->Prop) (h0:Pv 0 σ H)
  (hs:∀ i σ H,i < n->Pv i σ H->g (.int (lo+i)) σ H fun σ2 H2=>tb { D with nx:=Pv (i+1),ct:=Pv (i+1),bk:=D.nx } σ2 H2) (hd:∀ σ H,Pv n σ H->D.nx σ H) :
  ∃ W:Nat->Nat->St->Hp->Prop,(∃ m,W 0 m σ H)/\∀ i m σ H,W i m σ H ->
   ((Itr lo n).stop i H/\D.nx σ H)\/((Itr lo n).go i H/\∃ N:St->Hp->Prop,(∀ σ' H',N σ' H'->∃ m',m' < m/\W (i+1) m' σ' H')/\∀ x H',(Itr lo n).yld i H x H'->g x σ H' fun σ2 H2=>tb { D with nx:=N,ct:=N,bk:=D.nx } σ2 H2):=by
 refine⟨fun i m σ H=>m=n - i/\i<=n/\Pv i σ H,#[Rf],?_⟩;rintro i m σ H ⟨rfl,hi,p⟩;by_cases n6:i < n
 ·refine .inr #[SU];obtain⟨e,y⟩:=y;subst e y;exact hs i σ _ n6 p
 ·have e:i=n:=by lia
  subst e;exact .inl ⟨aH _,hd σ H p⟩
theorem zmj {c:TT} {tb:TS} {D:Ends} {σ:St} (Pv:St->Hp->Prop) (μ:St->Hp->Nat) (h0:Pv σ H)
  (hs:∀ σ H,Pv σ H->c σ H fun b H1=>if b=true then tb { D with nx:=fun σ' H'=>Pv σ' H'/\μ σ' H' < μ σ H,ct:=fun σ' H'=>Pv σ' H'/\μ σ' H' < μ σ H,bk:=D.nx } σ H1 else D.nx σ H1)
  (mono:∀ σ H Q Q',(∀ b H1,Q b H1->Q' b H1)->c σ H Q->c σ H Q'):zmi c tb D σ H:=by
 refine⟨fun m σ H=>m=μ σ H/\Pv σ H,⟨_,rfl,h0⟩,?_⟩;rintro m σ H ⟨rfl,p⟩;refine mono σ H _ _ (fun b H1 q=>?_) (hs σ H p);cases b with
 | true=>exact⟨_,fun σ' H' ⟨p',l⟩=>⟨_,l,rfl,p'⟩,q⟩
 | false=>exact q
abbrev R2:=V->V->Hp->VK->Prop
noncomputable def OpR (X:Cx) (f:Value->Value->Sem Value) (r:R2):Prop :=
 ∀ (nM:List (Addr×Obj)) (s:Shared) (σ:St) (H:Hp) (x y:V) (v u:Value) (Q:VK),Inv X nM σ H s->RelV x v->RelV y u->r x y H Q ->
  wpAny #[pi] X.A (f v u) #[Pj] X.xe s
noncomputable def UnR (X:Cx) (f:Value->Sem Value) (r:V->Hp->VK->Prop):Prop :=
 ∀ (nM:List (Addr×Obj)) (s:Shared) (σ:St) (H:Hp) (x:V) (v:Value) (Q:VK),Inv X nM σ H s->RelV x v->r x H Q ->
  wpAny #[pi] X.A (f v) #[Pj] X.xe s
noncomputable def zbv (X:Cx) (f:Value) (r:List V->Hp->VK->Prop):Prop :=
 ∀ (nM:List (Addr×Obj)) (s:Shared) (σ:St) (H:Hp) (xs:List V) (us:List Value) (Q:VK),Inv X nM σ H s->z0 xs us->r xs H Q ->
  wpAny #[pi] X.A (call f us) #[Pj] X.xe s
noncomputable def zrW (X:Cx) (r:V->Hp->(Bool->Hp->Prop)->Prop):Prop :=
 ∀ (nM:List (Addr×Obj)) (s:Shared) (σ:St) (H:Hp) (x:V) (v:Value) (Q:Bool->Hp->Prop),Inv X nM σ H s->RelV x v->r x H Q ->
  wpAny #[pi] X.A (truthy v) #[Uw] X.xe s
noncomputable def tOp (r:R2) (ta tb:TE):TE:=fun σ H Q=>ta σ H fun x H1=>tb σ H1 fun y H2=>r x y H2 Q
noncomputable def tUn (r:V->Hp->VK->Prop) (ta:TE):TE:=fun σ H Q=>ta σ H fun x H1=>r x H1 Q
noncomputable def rI (C:Int->Int->Prop) (g:Int->Int->V):R2:=fun x y H Q=>∃ i j,x = .int i/\y = .int j/\C i j/\Q (g i j) H
noncomputable def rI0 (g:Int->Int->V):R2:=fun x y H Q=>∃ i j,x = .int i/\y = .int j/\Q (g i j) H
noncomputable def rU (g:Int->V):V->Hp->VK->Prop:=fun x H Q=>∃ i,x = .int i/\Q (g i) H
section
variable {X:Cx} {a b c:Expr} {ta tb tc:TE} {pos:Pos}
theorem zp5 (ha:PE X a ta) (hb:PE X b tb) {σ:St} {R:V->V->Hp->Prop} (I:Inv X nM σ H s)
  (h:ta σ H fun x H1=>tb σ H1 fun y H2=>R x y H2) {Q:Value->Shared->Prop} {f:Value->Value->Sem Value}
  (hf:∀ v u s2 x y H2,Inv X nM σ H2 s2->RelV x v->RelV y u->R x y H2->wpAny #[pi] X.A (f v u) Q X.xe s2) :
  wpAny #[pi] X.A (eval a X.env) (fun v s₁=>wpAny #[pi] X.A (eval b X.env) (fun u s₂=>wpAny #[pi] X.A (f v u) Q X.xe s₂) X.xe s₁) X.xe s:=by
 refine thn #[O4] fun v s1 ⟨x,H1,I1,r1,q1⟩=>?_
 refine thn #[Sr] fun u s2 ⟨y,H2,I2,r2,q2⟩=>?_
 exact hf v u s2 x y H2 I2 r1 r2 q2
theorem zh {op:Operator} {r:R2} (ho:OpR X (binaryOp op) r) (ha:PE X a ta) (hb:PE X b tb):PE X (.BinOp a op b pos) #[Vv]:=by
 intro nM s σ H Q I h;exact wpAny_BinOp (zp5 ha hb I h fun v u s2 x y H2 I2 rx ry q=>ho nM s2 σ H2 x y v u Q I2 rx ry q)
theorem zmk {op:UnaryOp} {r:V->Hp->VK->Prop} (ho:UnR X (unaryOp op) r) (ha:PE X a ta):PE X (.UnaryOp op a pos) (tUn r ta):=by
 intro nM s σ H Q I h;exact UnaryOp_ (thn #[O4] fun v s1 ⟨x,H1,I1,r1,q1⟩=>ho nM s1 σ H1 x v Q I1 r1 q1)
theorem opI {f:Value->Value->Sem Value} {C:Int->Int->Prop} {g:Int->Int->Int}
  (rule:∀ (i j:Int) (t u:Tok) (s:Shared) (Q:Value->Shared->Prop) (E:Value->Shared->Prop),C i j->Q (.int (g i j) s.toks) { s with toks:=s.toks+1 }->wpAny #[pi] X.A #[SD] Q E s) :
  OpR X f (rI C fun i j=>.int (g i j)):=by
 intro nM s σ H x y v u Q I rx ry h;obtain⟨i,j,rfl,rfl,hc,q⟩:=h;obtain⟨t,rfl⟩:=rx;obtain⟨t',rfl⟩:=ry;exact rule i j t t' s _ _ hc #[Vi]
theorem zp6 {f:Value->Value->Sem Value} {g:Int->Int->Int}
  (rule:∀ (i j:Int) (t u:Tok) (s:Shared) (Q:Value->Shared->Prop) (E:Value->Shared->Prop),Q (.int (g i j) s.toks) { s with toks:=s.toks+1 }->wpAny #[pi] X.A #[SD] Q E s) :
  OpR X f (rI0 fun i j=>.int (g i j)):=by
 intro nM s σ H x y v u Q I rx ry h;obtain⟨i,j,rfl,rfl,q⟩:=h;obtain⟨t,rfl⟩:=rx;obtain⟨t',rfl⟩:=ry;exact rule i j t t' s _ _ #[Vi]
theorem zom {f:Value->Value->Sem Value} {g:Int->Int->Bool}
  (rule:∀ (i j:Int) (t u:Tok) (s:Shared) (Q:Value->Shared->Prop) (E:Value->Shared->Prop),Q (.bool (g i j)) s->wpAny #[pi] X.A #[SD] Q E s) :
  OpR X f (rI0 fun i j=>.bl (g i j)):=by
 intro nM s σ H x y v u Q I rx ry h;obtain⟨i,j,rfl,rfl,q⟩:=h;obtain⟨t,rfl⟩:=rx;obtain⟨t',rfl⟩:=ry;exact rule i j t t' s _ _ ⟨.bl (g i j),H,I,rfl,q⟩
noncomputable def zre (i j:Int):Prop:=0 < j/\j < 1073741824
noncomputable def zrX (i j:Int):Prop:=0<=j/\j<=1000000/\i.natAbs < 2 ^ 64
noncomputable def zp7 (i j:Int):Prop:=(-(2 ^ 64) < i/\i < 2 ^ 64)\/(-(2 ^ 64) < j/\j < 2 ^ 64)
theorem zp7.ok {i j:Int} (h:zp7 i j):IntMulOk i j:=by
 rcases h with ⟨h1,h2⟩ | ⟨h1,h2⟩
 ·exact .of_left (intBits_le_64 h1 h2)
 ·exact .of_right (intBits_le_64 h1 h2)
theorem zB:OpR X #[Rt] (rI0 fun i j=>.int (i+j)):=zp6 fun _ _ _ _ _ _ _ q=>add_int q
theorem zam:OpR X (binaryOp .Sub) (rI0 fun i j=>.int (i - j)):=zp6 fun _ _ _ _ _ _ _ q=>sub_int q
theorem zQ:OpR X (binaryOp .Mult) (rI zp7 fun i j=>.int (i*j)):=opI fun _ _ _ _ _ _ _ hc q=>mul_int q hc.ok
theorem zbU:OpR X (binaryOp .FloorDiv) (rI zre fun i j=>.int (i / j)):=opI fun i j _ _ _ _ _ hc q=>by
 have h1:(0:Int) < j:=hc.1;have h2:j < 1073741824:=hc.2;exact floordiv_int #[O] (by rw [jA i #[O]]; exact q) (.inl (kt #[O]))
theorem zy:OpR X (binaryOp .Mod) (rI (fun _ j=>0 < j) fun i j=>.int (i % j)):=opI fun i j _ _ _ _ _ hc q=>by
 have h1:(0:Int) < j:=hc;exact mod_int' #[O] (by rw [Int.fmod_eq_emod_of_nonneg i #[O]]; exact q)
theorem zp8:OpR X (binaryOp .Pow) (rI zrX fun i j=>.int (i ^ j.toNat)):=opI fun _ _ _ _ _ _ _ hc q=>pow_int_small hc.1 hc.2.1 hc.2.2 q
theorem zon:OpR X (inplaceOp .Add) (rI0 fun i j=>.int (i+j)):=zp6 fun _ _ _ _ _ _ _ q=>iadd_int q
theorem zml:OpR X (inplaceOp .FloorDiv) (rI zre fun i j=>.int (i / j)):=opI fun i j _ _ _ _ _ hc q=>by
 have h1:(0:Int) < j:=hc.1;have h2:j < 1073741824:=hc.2;exact ifloordiv_int #[O] (by rw [jA i #[O]]; exact q) (.inl (kt #[O]))
theorem unI {f:Value->Sem Value} {g:Int->Int}
  (rule:∀ (i:Int) (t:Tok) (s:Shared) (Q:Value->Shared->Prop) (E:Value->Shared->Prop),Q (.int (g i) s.toks) { s with toks:=s.toks+1 }->wpAny #[pi] X.A (f (.int i t)) Q E s) :
  UnR X f (rU fun i=>.int (g i)):=by
 intro nM s σ H x v Q I rx h;obtain⟨i,rfl,q⟩:=h;obtain⟨t,rfl⟩:=rx;exact rule i t s _ _ ⟨.int (g i),H,I.tok _,⟨_,rfl⟩,q⟩
theorem zje:UnR X (unaryOp .USub) (rU fun i=>.int (-i)):=unI fun _ _ _ _ _ q=>neg_int q
end
noncomputable def zp9:V->V->Bool
 | .non,.non=>true | .non,.int _=>true | .int _,.non=>true | .non,.bl _=>true | .bl _,.non=>true | .non,.str _=>true | .str _,.non=>true
 | .int _,.int _=>true | .bl _,.bl _=>true | .str _,.str _=>true | .byt _,.byt _=>true
 | .int _,.str _=>true | .str _,.int _=>true | .bl _,.str _=>true | .str _,.bl _=>true
 | _,_=>false
noncomputable def rEq:R2:=fun x y H Q=>zp9 x y=true/\Q (.bl (decide (x=y))) H
noncomputable def rNe:R2:=fun x y H Q=>zp9 x y=true/\Q (.bl (!decide (x=y))) H
theorem zj2 {i j:Int}:decide (V.int i=V.int j)=(i == j):=by
 rw [eE];simp
theorem zmm {i j:Bool}:decide (V.bl i=V.bl j)=(i == j):=by
 rw [eE];simp
theorem zj3 {i j:Str}:decide (V.str i=V.str j)=(i == j):=by
 rw [eE];simp
theorem zj4 {i j:Array UInt8}:decide (V.byt i=V.byt j)=(i.toList == j.toList):=by
 rw [eE];cases i;cases j;simp
section
variable {X:Cx} {a b c:Expr} {ta tb tc:TE} {pos:Pos}
theorem zaf {σ:St} {Q:VK} {k k':Bool} (I:Inv X nM σ H s) (q:Q (.bl k) H) (e:k=k'):EP X nM σ Q (.bool k') s:=by
 subst e;exact⟨.bl k,H,I,rfl,q⟩
theorem zcv:OpR X (compareOp .Eq) rEq:=by
 intro nM s σ H x y v u Q I rx ry h;obtain⟨hs,q⟩:=h;cases x with
 | non =>
  cases rx;cases y with
  | non=>cases ry; exact PySem.EqNone.eq_none_none #[GE]
  | bl j=>cases ry; exact PySem.EqNone.eq_none_bool #[GE]
  | int j=>obtain⟨t',rfl⟩:=ry; exact PySem.EqNone.eq_none_int #[GE]
  | str j=>obtain⟨t',rfl⟩:=ry; exact PySem.EqNone.eq_none_str #[GE]
  | _=>exact absurd (show false=true from hs) bH
 | bl i =>
  cases rx;cases y with
  | non=>cases ry; exact PySem.EqNone.eq_bool_none #[GE]
  | bl j=>cases ry; exact eq_bool (zaf I q zmm)
  | str j=>obtain⟨t',rfl⟩:=ry; exact PySem.EqMixed.eq_bool_str #[GE]
  | _=>exact absurd (show false=true from hs) bH
 | int i =>
  obtain⟨t,rfl⟩:=rx;cases y with
  | non=>cases ry; exact PySem.EqNone.eq_int_none #[GE]
  | int j=>obtain⟨t',rfl⟩:=ry; exact eq_int (zaf I q zj2)
  | str j=>obtain⟨t',rfl⟩:=ry; exact PySem.EqMixed.eq_int_str #[GE]
  | _=>exact absurd (show false=true from hs) bH
 | str i =>
  obtain⟨t,rfl⟩:=rx;cases y with
  | non=>cases ry; exact PySem.EqNone.eq_str_none #[GE]
  | bl j=>cases ry; exact PySem.EqMixed.eq_str_bool #[GE]
  | int j=>obtain⟨t',rfl⟩:=ry; exact PySem.EqMixed.eq_str_int #[GE]
  | str j=>obtain⟨t',rfl⟩:=ry; exact eq_str (zaf I q zj3)
  | _=>exact absurd (show false=true from hs) bH
 | byt i =>
  obtain⟨t,rfl⟩:=rx;cases y with
  | byt j=>obtain⟨t',rfl⟩:=ry; exact PySem.W.eq_bytes (zaf I q zj4)
  | _=>exact absurd (show false=true from hs) bH
 | _=>cases y <;> exact absurd (show false=true from hs) bH
theorem zhZ:OpR X (compareOp .NotEq) rNe:=by
 intro nM s σ H x y v u Q I rx ry h;obtain⟨hs,q⟩:=h;cases x with
 | non =>
  cases rx;cases y with
  | non=>cases ry; exact PySem.EqNone.ne_none_none #[GE]
  | bl j=>cases ry; exact PySem.EqNone.ne_none_bool #[GE]
  | int j=>obtain⟨t',rfl⟩:=ry; exact PySem.EqNone.ne_none_int #[GE]
  | str j=>obtain⟨t',rfl⟩:=ry; exact PySem.EqNone.ne_none_str #[GE]
  | _=>exact absurd (show false=true from hs) bH
 | bl i =>
  cases rx;cases y with
  | non=>cases ry; exact PySem.EqNone.ne_bool_none #[GE]
  | bl j=>cases ry; exact ne_bool (zaf I q (congrArg not zmm))
  | str j=>obtain⟨t',rfl⟩:=ry; exact PySem.EqMixed.ne_bool_str #[GE]
  | _=>exact absurd (show false=true from hs) bH
 | int i =>
  obtain⟨t,rfl⟩:=rx;cases y with
  | non=>cases ry; exact PySem.EqNone.ne_int_none #[GE]
  | int j=>obtain⟨t',rfl⟩:=ry; exact ne_int (zaf I q (congrArg not zj2))
  | str j=>obtain⟨t',rfl⟩:=ry; exact PySem.EqMixed.ne_int_str #[GE]
  | _=>exact absurd (show false=true from hs) bH
 | str i =>
  obtain⟨t,rfl⟩:=rx;cases y with
  | non=>cases ry; exact PySem.EqNone.ne_str_none #[GE]
  | bl j=>cases ry; exact PySem.EqMixed.ne_str_bool #[GE]
  | int j=>obtain⟨t',rfl⟩:=ry; exact PySem.EqMixed.ne_str_int #[GE]
  | str j=>obtain⟨t',rfl⟩:=ry; exact ne_str (zaf I q (congrArg not zj3))
  | _=>exact absurd (show false=true from hs) bH
 | byt i =>
  obtain⟨t,rfl⟩:=rx;cases y with
  | byt j=>obtain⟨t',rfl⟩:=ry; exact PySem.W.ne_bytes (zaf I q (congrArg not zj4))
  | _=>exact absurd (show false=true from hs) bH
 | _=>cases y <;> exact absurd (show false=true from hs) bH
theorem zgv:OpR X (compareOp .Lt) (rI0 fun i j=>.bl (decide (i < j))):=zom fun _ _ _ _ _ _ _ q=>lt_int q
theorem zh0:OpR X (compareOp .LtE) (rI0 fun i j=>.bl (decide (i<=j))):=zom fun _ _ _ _ _ _ _ q=>le_int q
theorem zgw:OpR X (compareOp .Gt) (rI0 fun i j=>.bl (decide (j < i))):=zom fun _ _ _ _ _ _ _ q=>gt_int q
theorem zfp:OpR X (compareOp .GtE) (rI0 fun i j=>.bl (decide (j<=i))):=zom fun _ _ _ _ _ _ _ q=>ge_int q
theorem zgZ:OpR X (compareOp .IsNot) (fun x y H Q=>y = .non/\Q (.bl (!decide (x = .non))) H):=by
 intro nM s σ H x y v u Q I rx ry h;obtain⟨rfl,q⟩:=h;cases ry;refine isnot_none_gen (zaf I q ?_);cases x <;> first
  | (cases rx; rfl)
  | (obtain⟨t,rfl⟩:=rx; rfl)
theorem zV (b:Expr) {op:CmpOp} (h:op≠.In:=by decide) (h2:op≠.NotIn:=by decide):behindInMarks op b=false:=by
 have e1:(op == CmpOp.In)=false:=by cases op <;> first | rfl | exact absurd rfl h
 have e2:(op == CmpOp.NotIn)=false:=by cases op <;> first | rfl | exact absurd rfl h2
 cases b <;> simp [behindInMarks,e1,e2]
theorem zj5 {op:CmpOp} {r:R2} (ho:OpR X (compareOp op) r) (ha:PE X a ta) (hb:PE X b tb) (hm:behindInMarks op b=false):PE X (.Compare a [op] [b] pos) #[Vv]:=by
 intro nM s σ H Q I h;exact wpAny_Compare1 (zp5 ha hb I h fun v u s2 x y H2 I2 rx ry q=>ho nM s2 σ H2 x y v u Q I2 rx ry q) hm
noncomputable def zpw (t:TE):TT:=fun σ H Q=>t σ H fun x H'=>∃ k,x = .bl k/\Q k H'
theorem zJ {op:CmpOp} {r:R2} (ho:OpR X (compareOp op) r) (ha:PE X a ta) (hb:PE X b tb) (hm:behindInMarks op b=false):PT X (.Compare a [op] [b] pos) (zpw #[Vv]):=by
 intro nM s σ H Q I h;refine wpAny_isTrue_Compare1 (thn #[O4] fun v s1 ⟨x,H1,I1,r1,q1⟩=>thn #[Sr] fun u s2 ⟨y,H2,I2,r2,q2⟩ =>
  thn #[SS] fun c s3 ⟨z,H3,I3,r3,k,e,q3⟩=>?_) hm
 subst e;cases r3;exact fE ⟨H3,I3,q3⟩
noncomputable def zqa (r r':R2) (ta tb tc:TE):TE:=fun σ H Q=>ta σ H fun x H1=>tb σ H1 fun y H2=>r x y H2 fun z H3=>∃ k,z = .bl k /\
 (if k=true then tc σ H3 fun w' H4=>r' y w' H4 Q else Q #[VR] H3)
theorem zh1 {op Gz:CmpOp} {r r':R2} (ho:OpR X (compareOp op) r) (tV:OpR X (compareOp Gz) r') (ha:PE X a ta) (hb:PE X b tb) (hc:PE X c tc)
  (hm:lastMarks [op,Gz] [b,c]=false:=by with_unfolding_all rfl):PT X (.Compare a [op,Gz] [b,c] pos) (zpw (zqa r r' ta tb tc)):=by
 intro nM s σ H Q I h;refine isTrue_chain (thn #[O4] fun v s1 ⟨x,H1,I1,r1,q1⟩=>test_link (thn #[Sr] fun u s2 ⟨y,H2,I2,r2,q2⟩ =>
  thn #[SS] fun d s3 ⟨z,H3,I3,r3,k,e,q3⟩=>?_)) hm
 subst e;cases r3;refine fE ?_;cases k with
 | false =>
  obtain⟨k',e',q'⟩:=q3;cases e';exact ite_ff ⟨H3,I3,q'⟩
 | true =>
  refine ite_tt (test_last (thn (hc nM s3 σ H3 _ I3 q3) fun w' s4 ⟨z',H4,I4,r4,q4⟩=>thn (tV nM s4 σ H4 y z' u w' _ I4 r2 r4 q4) fun d' s5 ⟨z2,H5,I5,r5,k2,e2,q5⟩=>?_));subst e2;cases r5;exact fE ⟨H5,I5,q5⟩
noncomputable def zrf (K:aF) (x:V) (H:Hp) (k:Bool):Prop :=
 match x with
 | .non=>k=false
 | .bl b=>k=b
 | .int i=>k=(i != 0)
 | .str y=>y.length<=sizeLine/\k=((y.length:Int) != 0)
 | .byt y=>y.size<=sizeLine/\k=((y.size:Int) != 0)
 | .ref p=>(∃ xs,nO K H p xs/\k = !xs.isEmpty)\/(∃ xs,nS K H p xs/\k = !xs.isEmpty)\/∃ nT,H p=some #[U1]/\k = !nT.isEmpty
 | _=>False
theorem zjf {κ:Type} {nT:List (κ×V)} {vs:List (κ×Value)} (r:KV nT vs):(!vs.isEmpty) = !nT.isEmpty:=by
 cases r <;> rfl
theorem zfq {xs:List V} (r:z0 xs nP):(!nP.toArray.isEmpty) = !xs.isEmpty:=by
 cases r <;> simp
theorem zfr:(sizeLine:Nat) < 2 ^ 63:=by rw [bJ]; decide
theorem zqb:zrW X (fun x H Q=>∃ k,zrf X.K x H k/\Q k H):=by
 intro nM s σ H x v Q I rx h;obtain⟨k,e,q⟩:=h;have hl:=zfr;have hs:sizeLine=16777216:=bJ;cases x with
 | non =>
  cases rx;have e':k=false:=e;subst e';exact truthy_none ⟨H,I,q⟩
 | bl b =>
  cases rx;have e':k=b:=e;subst e';exact fE ⟨H,I,q⟩
 | int i =>
  obtain⟨t,rfl⟩:=rx;have e':k=(i != 0):=e;subst e';exact PySem.P.truthy_int ⟨H,I,q⟩
 | str y =>
  obtain⟨t,rfl⟩:=rx;obtain⟨hy,e'⟩:y.length<=sizeLine/\k=((y.length:Int) != 0):=e;subst e';exact PySem.P.truthy_str #[O] ⟨H,I.tok _,q⟩
 | byt y =>
  obtain⟨t,rfl⟩:=rx;obtain⟨hy,e'⟩:y.size<=sizeLine/\k=((y.size:Int) != 0):=e;subst e';exact PySem.W.truthy_bytes #[O] ⟨H,I.tok _,q⟩
 | ref p =>
  cases rx;have e':(∃ xs,nO X.K H p xs/\k = !xs.isEmpty)\/(∃ xs,nS X.K H p xs/\k = !xs.isEmpty)\/∃ nT,H p=some #[U1]/\k = !nT.isEmpty:=e;rcases e' with ⟨xs,hx,e'⟩ | ⟨xs,hx,e'⟩ | ⟨nT,hx,e'⟩
  ·subst e';obtain⟨nP,r,pl,hz⟩:=I.list hx;have nV:=r.length;exact wpAny_truthy_list pl.isList (by simp only [aS]; lia) ⟨H,I.tok _,by rw [zfq r]; exact q⟩
  ·subst e';obtain⟨nP,r,pl,hz⟩:=I.tuple hx;have nV:=r.length;exact truthy_tuple pl (by simp only [aS]; lia) ⟨H,I.tok _,by rw [zfq r]; exact q⟩
  ·subst e';obtain⟨hz,hS,vs,r,m⟩:nT.length<=sizeLine/\(p == sysModules)=false/\∃ vs,KV nT vs/\s.heap.DictOf #[VT] p vs:=I.hok p _ hx;have nV:nT.length=vs.length:=bF r;exact wpAny_truthy_dict hS m #[O] ⟨H,I.tok _,by rw [zjf r]; exact q⟩
 | _=>exact (show False from e).elim
theorem zmn (ha:PE X a ta) (he:∀ whole,isTrue a X.env whole=(do let v <- whole; standAt a.pos; holding [v] (truthy v))) :
  PT X a (fun σ H Q=>ta σ H fun x H'=>∃ k,zrf X.K x H' k/\Q k H'):=by
 intro nM s σ H Q I h;exact isTrue_plain (thn #[O4] fun v s1 ⟨x,H1,I1,r1,q1⟩=>zqb nM s1 σ H1 x v Q I1 r1 q1) (he _)
theorem vals1 {x:V} (r:z0 [x] us):∃ u,us = [u]/\RelV x u:=by
 cases r with
 | cons r1 r2=>cases r2; exact⟨_,rfl,r1⟩
theorem vals2 {x y:V} (r:z0 [x,y] us):∃ u w',us = [u,w']/\RelV x u/\RelV y w':=by
 cases r with
 | cons r1 r2 =>
  cases r2 with
  | cons r3 r4=>cases r4; exact⟨_,_,rfl,r1,r3⟩
theorem zk3 (hc:X.calm=true):zbv X (.builtin "max") (fun xs H Q=>∃ i j,xs = [.int i,.int j]/\Q (.int (if j > i then j else i)) H):=by
 intro nM s σ H xs us Q I r h;obtain⟨i,j,rfl,q⟩:=h;obtain⟨u,w',rfl,⟨t,rfl⟩,⟨t',rfl⟩⟩:=vals2 r;refine max_two_ints #[O7] fun h' tk k=>⟨_,H,I.kept k,?_,q⟩
 by_cases hj:j > i
 ·rw [if_pos hj,if_pos hj]; exact⟨_,rfl⟩
 ·rw [if_neg hj,if_neg hj]; exact⟨_,rfl⟩
theorem zgx (hc:X.calm=true):zbv X (.builtin "min") (fun xs H Q=>∃ i j,xs = [.int i,.int j]/\Q (.int (if j < i then j else i)) H):=by
 intro nM s σ H xs us Q I r h;obtain⟨i,j,rfl,q⟩:=h;obtain⟨u,w',rfl,⟨t,rfl⟩,⟨t',rfl⟩⟩:=vals2 r;refine min_two_ints #[O7] fun h' tk k=>⟨_,H,I.kept k,?_,q⟩
 by_cases hj:j < i
 ·rw [if_pos hj,if_pos hj]; exact⟨_,rfl⟩
 ·rw [if_neg hj,if_neg hj]; exact⟨_,rfl⟩
end
structure Oi (h:Heap) (x dx C:Addr) (mA:Str->Option Value):Prop where
 obj:h.get? x=some (ka C dx)
 ns:h.Ns1 dx mA
 ne:dx≠x
theorem zk4 {dx:Addr} {mA:Str->Option Value} (n:h.Ns1 dx mA):∃ od,h.get? dx=some od/\∀ name,kF name od=some (mA name):=by
 obtain⟨o,es,ep,ho,hd,hk,_,hm⟩:=n;refine⟨o,ho,fun name=>?_⟩;have e:=hm name;unfold nsFind findBy at e;rw [<- Array.find?_toList] at e;unfold kF;rw [hd];dsimp only;split
 ·rename_i y q
  rw [q] at e;exact congrArg some e
 ·rename_i q
  rw [q] at e;have a:es.toList.any (·.refKey)=false:=by
   rw [List.any_eq_false];intro y hy;obtain⟨z,t,qr⟩:=hk y (Array.mem_toList_iff.mp hy);simp [DictEntry.refKey,qr]
  have a':¬ es.toList.any (·.refKey)=true:=by rw [a]; exact bH
  rw [if_neg a'];exact congrArg some e
theorem Oi.look {x dx C:Addr} {mA:Str->Option Value} (I:Oi h x dx C mA):∃ od,PySem.W.InstAt h x (ka C dx) C (some od)/\∀ name,kF name od=some (mA name) :=
 let ⟨od,ho,hl⟩:=zk4 I.ns
 ⟨od,⟨I.obj,rfl,rfl,ho⟩,hl⟩
section
variable {P:Program} {w:World} {H H':Hp} {h h':Heap} {a C dx:Addr} {fs fs':List (Str×V)}
theorem zoo (hok:HOk P w H h) (e:H a=some (.ins C dx fs)):∃ mA,Oi h a dx C mA/\(∀ f,zgV (fs.lookup f) (mA f))/\nH mA (fs.map (·.1))/\fs.length<=1000/\H dx=some (.own a):=by
 obtain⟨d,z,ne,ob,mA,n,r,q⟩:=(show zat P w H h a (.ins C dx fs) from hok a _ e);exact⟨mA,⟨ob,n,ne⟩,r,q,z,d⟩
end
structure Cls (K:aF) (C:Addr):Prop where
 pg:mJ K C Str.empty=true
 hd:PySem.W.hasDictIn K C=true
 po:PySem.W.plainOver K C=true
 sa:ni K (.ref C) "__setattr__" = some (some (.builtin "object.__setattr__"))
theorem Cls.get {C:Addr} (c:Cls K C) (f:Str):mJ K C f=true:=c.pg
section
variable {X:Cx} {nM:List (Addr×Obj)} {σ:St} {H:Hp} {s:Shared} {A:Around} {E:Value->Shared->Prop} {Q:Value->Shared->Prop} {c:Value} {b:Bool}
inductive M6 (K:aF) (H:Hp):V->Value->Prop where
 | non:M6 K H .non (.type "NoneType")
 | bl (x:Bool):M6 K H (.bl x) (.type "bool")
 | int (i:Int):M6 K H (.int i) (.type "int")
 | str (x:Str):M6 K H (.str x) (.type "str")
 | flt (x:UInt64):M6 K H (.flt x) (.type "float")
 | lst {a:Addr} {xs:List V} (e:H a=some #[P9]):M6 K H #[Pn] (.type "list")
 | frz {a:Addr} {o:Obj} {xs:List V} (e:H a=some (.frz o #[P9])):M6 K H #[Pn] (.type "list")
 | tup {a:Addr} {xs:List V} (e:H a=some #[Q9]):M6 K H #[Pn] (.type "tuple")
 | dK {a:Addr} {nT:List (Key×V)} (e:H a=some #[U1]):M6 K H #[Pn] (.type "dict")
 | dT {a:Addr} {nT:List (List Key×V)} (e:H a=some #[SX]):M6 K H #[Pn] (.type "dict")
 | ins {a C dx:Addr} {fs:List (Str×V)} (e:H a=some (.ins C dx fs)) (cl:Cls K C) (ha:ni K (.ref C) "__class__" = some (some (.builtin "object.__class__")))
   (hn:PySem.W.specialIn K (.builtin "object.__class__") "__get__" = some (some (.builtin "getset_descriptor.__get__"))) (GA:PySem.W.takesIn K (.builtin "object.__class__")=some true)
   (hm:li K C (.type "object")=some true):M6 K H #[Pn] (.ref C)
theorem zk5 {x:V} {u t:Value} (I:Inv X nM σ H s) (rx:RelV x u) (ty:M6 X.K H x t) (e:nj X.K t c=some b) (h:∀ tk,Q (.bool b) { s with toks:=tk }) :
  wpAny #[pi] A (call (.builtin "isinstance") [u,c]) Q E s:=by
 cases ty with
 | non=>cases (show u=eh from rx); exact dH PySem.W.kitx_none I.kIn f6 e (fun z=>nomatch z) h
 | bl y=>cases (show u=kT y from rx); exact dH PySem.W.kitx_bool I.kIn f6 e (fun z=>nomatch z) h
 | int i=>obtain⟨t,q⟩:=(show ∃ t,u=ju i t from rx); cases q; exact dH PySem.W.kitx_int I.kIn f6 e (fun z=>nomatch z) h
 | str y=>obtain⟨t,q⟩:=(show ∃ t,u=lL y t from rx); cases q; exact dH PySem.W.kitx_str I.kIn f6 e (fun z=>nomatch z) h
 | flt y=>obtain⟨t,q⟩:=(show ∃ t,u=Value.float y t from rx); cases q; exact dH PySem.W.kitx_float I.kIn f6 e (fun z=>nomatch z) h
 | @lst a xs ea =>
  cases (show u=bP a from rx);obtain⟨_,_,n,_,h1⟩:=(show zat X.prog X.w H s.heap a #[P9] from I.hok a _ ea);exact dH me I.kIn ⟨_,h1,rfl⟩ e (fun z=>nomatch z) h
 | @frz a ob xs ea =>
  cases (show u=bP a from rx);obtain⟨_,_,_,n,_,h1⟩:=(show zat X.prog X.w H s.heap a (.frz ob #[P9]) from I.hok a _ ea);exact dH me I.kIn ⟨_,h1,rfl⟩ e (fun z=>nomatch z) h
 | @tup a xs ea =>
  cases (show u=bP a from rx);obtain⟨_,_,_,p⟩:=(show zat X.prog X.w H s.heap a #[Q9] from I.hok a _ ea);obtain⟨o,h1,h2,_⟩:=p;exact dH PySem.W.kitx_tuple I.kIn ⟨o,h1,h2⟩ e (fun z=>nomatch z) h
 | @dK a nT ea =>
  cases (show u=bP a from rx);obtain⟨_,_,vs,_,p⟩:=(show zat X.prog X.w H s.heap a #[U1] from I.hok a _ ea);obtain⟨o,es,ep,h1,h2,_⟩:=p;exact dH mf I.kIn ⟨o,h1,h2.1⟩ e (fun z=>nomatch z) h
 | @dT a nT ea =>
  cases (show u=bP a from rx);obtain⟨_,_,xs,_,o,es,ep,h1,h2,_⟩:=(show zat X.prog X.w H s.heap a #[SX] from I.hok a _ ea);exact dH mf I.kIn ⟨o,h1,h2.1⟩ e (fun z=>nomatch z) h
 | @ins a C dx fs ea cl ha hn GA hm =>
  cases (show u=bP a from rx);obtain⟨mA,O,_⟩:=zoo I.hok ea;obtain⟨od,J,_⟩:=O.look;exact dH (PySem.W.kitx_own (cl.get _) cl.hd ha hn GA hm) I.kIn J e (fun z=>nomatch z) h
end
structure MM (k:Nat) (A:Around):Prop where
 hd:A.handled=none
 dp:A.depth+3*k+5 < recursionLimit
 un:A.units+16*k+200 < cLine
theorem MM.mono (r:MM k A) (h:j<=k):MM j A:=⟨r.hd,by have:=r.dp; lia,by have:=r.un; lia⟩
theorem MM.deeper (r:MM (k+1) A) (env:Env):MM k (A.deeper env) :=
 ⟨r.hd,by have:=r.dp; show A.depth+1+3*k+5 < _; lia,by have:=r.un; show A.units+3+16*k+200 < _; lia⟩
theorem MM.depth (r:MM k A):A.depth < recursionLimit:=by have:=r.dp; lia
theorem MM.units (r:MM k A):A.units+64 < cLine:=by have:=r.un; lia
noncomputable def zrY:TA:=fun _ H Q=>Q [] H
noncomputable def zpx (ta:TE) (tr:TA):TA:=fun σ H Q=>ta σ H fun x H1=>tr σ H1 fun xs H2=>Q (x :: xs) H2
section
variable {X:Cx} {e:Expr} {es:List Expr} {te:TE} {t:TA} {pos:Pos}
theorem zd:PA X [] zrY:=fun _ _ _ _ H Q I h=>gG ⟨[],H,I,.nil,h⟩
theorem za (ha:PE X e te) (hr:PA X es t) (hs:starEach (e :: es) X.env=#[OR] :: starEach es X.env:=by rfl):PA X (e :: es) (zpx te t):=by
 intro pos nM s σ H Q I h;rw [hs];show wpAny _ _ (spliced (#[OR] :: backTo pos #[Pd])) _ _ s;refine fN (thn #[O4] fun u s1 ⟨x,H1,I1,r1,q1⟩=>?_);exact thn (hr pos nM s1 σ H1 _ I1 q1) fun us s2 ⟨xs,H2,I2,r2,q2⟩=>⟨x :: xs,H2,I2,.cons r1 r2,q2⟩
theorem ya {X:Cx} {e:Expr} {te:TE} (a:PE X e te) (b:starEach [e] X.env=#[OR] :: starEach [] X.env):PA X [e] (zpx te zrY):=za a zd b
noncomputable def zrZ (t:TA):TE:=fun σ H Q=>t σ H fun xs H1=>xs.length<=sizeLine/\∀ p,H1 p=none->Q #[Tg] (nQ H1 p #[Q9])
noncomputable def zop (t:TA):TE:=fun σ H Q=>t σ H fun xs H1=>xs.length<=sizeLine/\∀ p,H1 p=none->Q #[Tg] (nQ H1 p #[P9])
theorem zap {x1} (h:PA X es t):PE X (.Tuple es x1 pos) (zrZ t):=by
 intro nM s σ H Q I hq;refine wpAny_Tuple_spliced (thn (h pos nM s σ H _ I hq) fun us s1 ⟨xs,H1,I1,r,z,q⟩=>⟨by rw [<- r.length]; exact z,?_⟩);have hf:H1 s1.heap.objs.size=none:=I1.hok.fresh (aH _);refine⟨.ref s1.heap.objs.size,nQ H1 s1.heap.objs.size #[Q9],I1.laid (t':=s1.toks) (fun b u e=>aJ _ e) (aH _) ?_,rfl,q _ hf⟩;exact⟨z,us,r,⟨_,aX _ rfl,rfl,_,rfl⟩⟩
theorem z9 (h:PA X es t):PE X (.List es pos) (zop t):=by
 intro nM s σ H Q I hq;refine wpAny_List_spliced (thn (h pos nM s σ H _ I hq) fun us s1 ⟨xs,H1,I1,r,z,q⟩=>⟨by rw [<- r.length]; exact z,?_⟩);have hf:H1 s1.heap.objs.size=none:=I1.hok.fresh (aH _);refine⟨.ref s1.heap.objs.size,nQ H1 s1.heap.objs.size #[P9],I1.laid (t':=s1.toks) (fun b u e=>aJ _ e) (aH _) ?_,rfl,q _ hf⟩;exact⟨z,us,0,r,aX _ rfl⟩
end
abbrev Sp:=List V->Hp->VK->XK->Prop
abbrev CXT:=List Env->Hp->Shared->XK->Value->Shared->Prop
structure N1 (P:Program) (w:World) (K:aF) (mg:Str->Option Value) (base:Heap) (A:Around) (outer:List Env) (s:Shared) (H:Hp):Prop where
 frames:A.frames=some outer
 mod:Mod K mg base
 bs:∀ b o,base.get? b=some o->s.heap.get? b=some o/\H b=none
 bsz:base.objs.size<=s.heap.objs.size
 Nk:s.heap.FunFrames base outer
 frf:∀ b∈frs outer,H b=none
 hok:HOk P w H s.heap
 bare:AllBare s.gens
noncomputable def CE (outer:List Env) (P:Program) (w:World) (H:Hp) (s:Shared) (Q:VK) (u:Value) (s':Shared):Prop :=
 ∃ v H',s'.os=s.os/\AllBare s'.gens/\Un (frs outer) [] H H' s.heap s'.heap/\HOk P w H' s'.heap/\RelV v u/\Q v H'
noncomputable def CR (CX:CXT) (outer:List Env) (P:Program) (w:World) (H:Hp) (s:Shared) (Q:VK) (E:XK) (r:Result) (s':Shared):Prop :=
 match r with
 | .ok (.ret u)=>CE outer P w H s Q u s'
 | .ok _=>False
 | .error e=>CX outer H s E e s'
structure Kn (P:Program) (w:World) (K:aF) (mg:Str->Option Value) (base:Heap) (CX:CXT) (k:Nat) (f:Addr) (fd:FuncData) (ps:List Str) (sp:Sp):Prop where
 len:∀ vs H Q E,sp vs H Q E->vs.length=ps.length
 run:∀ (A:Around) (outer:List Env) (s:Shared) (H:Hp) (args:Args) (us:List Value) (vs:List V) (Q:VK) (E:XK),MM k A->N1 P w K mg base A outer s H->BindsTo s fd args #[VQ]->z0 vs us->sp vs H Q E ->
  codeAny #[Su] A (.call #[U0] args) (CR CX outer P w H s Q E) s
section
variable {X:Cx} {nM:List (Addr×Obj)} {σ:St} {H:Hp} {s s':Shared}
theorem Inv.Oz (I:Inv X nM σ H s):N1 X.prog X.w X.K X.mg X.base X.A X.stack s H :=
 ⟨I.ok.frames,I.ok.mod,I.bs,bX I.ok.bsz I.sz,I.stack,I.M8,I.hok,I.bare⟩
theorem Inv.after {Q:VK} {u:Value} (I:Inv X nM σ H s) (h:CE X.stack X.prog X.w H s Q u s'):EP X nM σ Q u s':=by
 obtain⟨v,H',os,bare,un,hok,r,q⟩:=h;obtain⟨hh,g,d,t,os'⟩:=s';obtain rfl:os'=s.os:=os;exact⟨v,H',I.call (h':=hh) (g':=g) (d':=d) (t':=t) (ch:=[]) un hok bare (fun b z=>absurd z #[M]),r,q⟩
end
noncomputable def zrg (sp:Sp) (AU:List V) (E:XK) (t:TA):TE:=fun σ H Q=>t σ H fun vs H1=>sp (vs++AU) H1 Q E
noncomputable def Binds (K:aF) (fd:FuncData) (ps:List Str) (ds:List Value):Prop :=
 ∀ (s:Shared) (us:List Value),K.In s.heap->(us++ds).length=ps.length->BindsTo s fd ⟨us,[]⟩ (ps.zip (us++ds))
theorem Binds.all {ps:List Str} (h:∀ us:List Value,us.length=ps.length->bindArgs fd ⟨us,[]⟩=pure #[VQ]):Binds K fd ps []:=fun s us _ hl=>by
 rw [cZ] at hl |-;exact .of_eq (h us hl)
noncomputable def zjg (CX:CXT) (X:Cx) (E:XK):Prop:=∀ (nM:List (Addr×Obj)) (σ:St) (H:Hp) (s:Shared) (e:Value) (s':Shared),Inv X nM σ H s->CX X.stack H s E e s'->X.xe e s'
section
variable {X:Cx} {CX:CXT} {k:Nat} {f C:Addr} {fd:FuncData} {ps:List Str} {sp:Sp} {AU:List V} {ds:List Value} {E:XK} {x m:Str} {p pos apos:Pos} {e o:Expr} {es:List Expr} {ta:TE} {t:TA}
theorem zqc {σ:St} {Q:VK} {vs:List V} (F:Kn X.prog X.w X.K X.mg X.base CX k f fd ps sp) (hr:MM k X.A) (hb:Binds X.K fd ps ds) (hd:z0 AU ds) (hx:zjg CX X E)
  (I:Inv X nM σ H s) (r:z0 vs us) (h:sp (vs++AU) H Q E):wpAny #[pi] X.A (call #[U0] us) #[Pj] X.xe s:=by
 have r2:z0 (vs++AU) (us++ds):=r.append hd;have hl:(us++ds).length=ps.length:=by rw [<- r2.length]; exact F.len _ _ _ _ h
 refine wpAny_call (lP (F.run X.A X.stack s H ⟨us,[]⟩ (us++ds) (vs++AU) Q E hr I.Oz (hb s us I.kIn hl) r2 h) fun r s' hq=>?_);cases r with
 | error e=>exact hx nM σ H s e s' I hq
 | ok fl =>
  cases fl with
  | ret u=>exact I.after hq
  | next=>exact fZ hq
  | brk=>exact fZ hq
  | cont=>exact fZ hq
theorem zq (F:Kn X.prog X.w X.K X.mg X.base CX k f fd ps sp) (hr:MM k X.A) (hg:Gl X x) (hm:X.mg x=some #[U0]) (hk:iw X.K #[U0]=true) (hb:Binds X.K fd ps ds) (hd:z0 AU ds) (hx:zjg CX X E)
  (ha:PA X (e :: es) t) (BB:(x == ("__debug__" : Str))=false:=by decide) (he:starEach (e :: es) X.env=#[OR] :: starEach es X.env:=by rfl) (oT:#[SA].any (·.1)=false:=by rfl) :
  PE X (.Call (.Name x p) (e :: es) [] pos) (zrg sp AU E t):=by
 intro nM s σ H Q I h;refine ik (zj1 I hg hm ?_ BB);refine PySem.W.callWith_K (h₀:=X.base) I.ok.mod.kin hk (thn #[FM] fun us s1 ⟨vs,H1,I1,r,q⟩=>⟨I1.kIn,?_⟩) he oT;exact zqc F hr hb hd hx I1 r q
end
structure Kf (N P:List Str) (sc:Scope):Prop where
 kind:sc.kind = .function
 co:sc.isCoroutine=false
 gen:sc.isGenerator=false
 nd:N.Nodup
 pre:N.take P.length=P
 par:∀ x∈P,sc.names.lookup x=some .local\/sc.names.lookup x=some .cell
 NO:∀ y∈sc.names,y.2≠.free
theorem zgy {kindOf:Str->Option NameKind} {x:Str}:∀ {binds:List (Str×Value)} {m:Str->Option Value},(∀ v,(x,v)∉binds)->bindL kindOf binds m x=m x
 | [],_,_=>rfl
 | (n,v) :: r,m,h=>by
  unfold bindL;rw [zgy fun w hw=>h w (aZ _ hw)];split
  ·have:x≠n:=by rintro rfl; exact h v bL
   simp [this]
  ·rfl
theorem zgz {kindOf:Str->Option NameKind} {x:Str}:∀ {binds:List (Str×Value)} {m:Str->Option Value},(∀ v,(x,v)∉binds)->bindC kindOf binds m x=m x
 | [],_,_=>rfl
 | (n,v) :: r,m,h=>by
  unfold bindC;rw [zgz fun w hw=>h w (aZ _ hw)];split
  ·rfl
  ·have:x≠n:=by rintro rfl; exact h v bL
   simp [this]
theorem zgA {kindOf:Str->Option NameKind} {x:Str} {v:Value}:∀ {P:List Str} {vs:List Value} {i:Nat} {m:Str->Option Value},P.Nodup->P[i]? = some x->vs[i]? = some v->kindOf x=some .local ->
  bindL kindOf (P.zip vs) m x=some v
 | [],_,_,_,_,h,_,_=>by simp at h
 | _ :: _,[],_,_,_,_,h,_=>by simp at h
 | p :: P,w :: vs,0,m,nd,h1,h2,hk=>by
  simp at h1 h2; subst h1; subst h2;show bindL kindOf #[Sx] m p=_;unfold bindL;rw [zgy fun v hv=>(fh.mp nd).1 (ja hv).1,if_pos hk];simp
 | p :: P,w :: vs,i+1,m,nd,h1,h2,hk=>by
  show bindL kindOf #[Sx] m x=_;unfold bindL;exact zgA (i:=i) (fh.mp nd).2 (by simpa using h1) (by simpa using h2) hk
theorem zgB {kindOf:Str->Option NameKind} {x:Str} {v:Value}:∀ {P:List Str} {vs:List Value} {i:Nat} {m:Str->Option Value},P.Nodup->P[i]? = some x->vs[i]? = some v->kindOf x≠some .local ->
  bindC kindOf (P.zip vs) m x=some v
 | [],_,_,_,_,h,_,_=>by simp at h
 | _ :: _,[],_,_,_,_,h,_=>by simp at h
 | p :: P,w :: vs,0,m,nd,h1,h2,hk=>by
  simp at h1 h2; subst h1; subst h2;show bindC kindOf #[Sx] m p=_;unfold bindC;rw [zgz fun v hv=>(fh.mp nd).1 (ja hv).1,if_neg hk];simp
 | p :: P,w :: vs,i+1,m,nd,h1,h2,hk=>by
  show bindC kindOf #[Sx] m x=_;unfold bindC;exact zgB (i:=i) (fh.mp nd).2 (by simpa using h1) (by simpa using h2) hk
noncomputable def start (N:List Str) (vs:List V):St:=vs.map some++aP (N.length - vs.length) none
noncomputable def zk6 (CX:CXT) (P:Program) (w:World) (K:aF) (mg:Str->Option Value) (base:Heap) (N:List Str) (qual:Str) (scope:Scope) (f:Addr) (cd:Value) (A:Around) (outer:List Env) (s:Shared) (H:Hp) (E:XK):Cx where
 prog:=P
 w:=w
 K:=K
 mg:=mg
 base:=base
 A:=A.deeper #[LE]
 N:=N
 s₀:=s
 H₀:=H
 env:=envOfC qual scope s.heap.objs.size f cd
 outer:=outer
 stack:=envOfC qual scope s.heap.objs.size f cd :: outer
 ex:=[]
 calm:=true
 fn:=fun _=>true
 pn:=[]
 xe:=fun e s'=>wpAny #[Su] (A.deeper #[LE]) (leaving #[LE] e) (fun _ Dx=>CX outer H s E e Dx) (fun e' Dx=>CX outer H s E e' Dx) s'
theorem zh2 {sc:Scope} {n:Nat} {x:Str} (h:sc.names.lookup x=some .cell):∃ c,(cellsFrom n sc.names []).lookup x=some c:=by
 have q:=ku sc.names n [] (.inl h);exact Option.isSome_iff_exists.mp q
theorem zk7 {base:Heap} {N ps:List Str} {f:Addr} {outer:List Env} {E:XK} {vs:List V}
  (S:Kf N ps scope) (hd:A.handled=none) (e0:N1 P w K mg base A outer s H) (hl:vs.length=ps.length) (r:z0 vs us)
  (x:InCallC s s.heap.objs.size (bindL #[LE].kindOf #[VQ] fun _=>none) (cellsFrom #[Fa] scope.names []) (bindC #[LE].kindOf #[VQ] fun _=>none) s1) :
  Inv #[Ri] [] #[Ut] H s1:=by
 have oT:ps.length<=N.length:=by have:=congrArg gD S.pre; rw [aU] at this; lia
 obtain⟨h1,tk,rfl,hk⟩:=x.done;have BC:∀ b:Addr,b∉#[Ri].ex:=fun b z=>absurd (show b∈([]:List Addr) from z) #[M]
 refine⟨⟨e0.mod,S.kind,rfl,rfl,aH _,fun y z c h1 h2=>?_,fun y hy=>?_,fun y c _ h=>?_,fun _=>hd,Around.frames_deeper e0.frames,.inr ⟨rfl,rfl⟩,fun b z=>absurd z (BC b),e0.bs,e0.bsz,fun b _ _=>BC b,fun b z=>absurd z (BC b),e0.Nk,e0.frf⟩,
  rfl,e0.bare,Un.kept hk,⟨_,x.toInCall.ns,fun i y v h1 h2 h3=>?_⟩,fun y c h=>⟨_,x.cell y c h⟩,e0.hok.fresh (aH _),fun y c h=>?_,fun p hp=>absurd (show p∈([]:List (Addr×Obj)) from hp) #[M],e0.hok.kept hk,?_⟩
 ·exact name_of_addr x.apart (gg h1) (gg h2)
 ·have hy:scope.names.lookup y=some .cell\/scope.names.lookup y=some .free:=hy;rcases hy with hy | hy
  ·exact zh2 hy
  ·exact absurd rfl (S.NO _ (gg hy))
 ·exact jR (x.above y c (gg h))
 ·have hi:i < vs.length:=by
   unfold start at h2;by_cases hi:i < vs.length
   ·exact hi
   ·rw [c8 (by simpa using hi)] at h2;rw [dI] at h2;split at h2 <;> cases h2
  have ha:vs[i]? = some v:=by
   unfold start at h2;rw [fb (by simpa using hi),aD] at h2;cases e:vs[i]? with
   | none=>rw [e] at h2; cases h2
   | some a=>rw [e] at h2; cases h2; rfl
  obtain⟨u,hu,rv⟩:=r.get ha;have hp:ps[i]? = some y:=by
   rw [<- S.pre,df #[O]]; exact h1
  have ndP:ps.Nodup:=by rw [<- S.pre]; exact S.nd.sublist (dC _ _)
  refine⟨u,rv,?_⟩;rcases S.par y (aL hp) with k | k
  ·exact .inl ⟨k,zgA ndP hp hu k⟩
  ·obtain⟨c,e⟩:=zh2 (n:=s.heap.objs.size+1) k;refine .inr ⟨.inl k,c,e,?_⟩;have q:=x.cell y c e;rw [zgB ndP hp hu (by show scope.names.lookup y≠_; rw [k]; decide)] at q;exact q
 ·exact e0.hok.fresh (jR (x.above y c (gg h)))
 ·unfold start;show _=N.length;rw [aO,aA,bU];lia
theorem zrh {base:Heap} {f:Addr} {name:Str} {params:Arguments} {body:List Stmt} {dV kV doc oh:Value} 
  {AV:Array #[R3]} {N ps:List Str} (lk:K.lookup f=some ⟨oc,od,.func #[Rj],AV⟩) (vV:iz K oh qual=true) (S:Kf N ps scope)
  (len:∀ vs H Q E,sp vs H Q E->vs.length=ps.length)
  (xC:∀ (A:Around) (outer:List Env) (s:Shared) (H:Hp) (vs:List V) (Q:VK) (E:XK),MM k (A.deeper (envOfC qual scope s.heap.objs.size f oh))->sp vs H Q E ->
   ∃ t,PSs #[O8] body t/\t { nx:=fun _ H'=>Q .non H',rt:=Q } #[Ut] H) :
  Kn P w K mg base CX (k+1) f #[Rj] ps sp:=by
 refine⟨len,fun A outer s H args us vs Q E hr e0 hb r yG=>?_⟩;have hl:=len _ _ _ _ yG;have KX:K.In s.heap:=e0.mod.kin.keeps fun b o e=>(e0.bs b o e).1
 have lim:s.heap.NoLimit:=e0.mod.nolimit.keeps fun b o e=>(e0.bs b o e).1
 have ub:∀ y∈ps.zip us,scope.names.lookup y.1=some .local\/(scope.names.lookup y.1=some .cell/\((cellsFrom #[Fa] scope.names []).lookup y.1).isSome=true):=fun ⟨n,v⟩ hy=>by
  rcases S.par n (ja hy).1 with q | q
  ·exact .inl q
  ·exact .inr ⟨q,ku _ _ _ (.inl q)⟩
 refine codeAny_call_function hr.depth (KX _ _ lk) rfl S.co S.gen rfl (PySem.W.codeRec_of KX vV) (hb _ _ _ _ ?_);refine wpAny_newFunctionEnv_cells S.kind ub fun env he s1 x=>?_
 subst he;refine⟨lim.keeps x.toInCall.keep,codeAny_func ?_⟩;obtain⟨t,ht,hq⟩:=xC A outer s H vs Q E (hr.deeper _) yG;have I:Inv #[O8] [] #[Ut] H s1:=zk7 S hr.hd e0 hl r x;refine et (ht [] s1 #[Ut] H _ I hq) (fun fl s' hs=>?_) fun e s' hs=>hs
 have fin:∀ {σ':St} {H':Hp} {v:V} {u:Value},Inv #[O8] [] σ' H' s'->RelV v u->Q v H'->CE outer P w H s Q u s' :=
  fun {σ' H' v u} J rv q=>⟨v,H',J.os,J.bare,J.base,J.hok,rv,q⟩
 cases fl with
 | ret u =>
  obtain⟨v,σ',H',J,rv,q⟩:=hs;exact fin J rv q
 | next =>
  obtain⟨σ',H',J,q⟩:=hs;exact fin (v:=V.non) (u:=eh) J rfl q
 | brk =>
  obtain⟨_,_,_,q⟩:=hs;exact fZ q
 | cont =>
  obtain⟨_,_,_,q⟩:=hs;exact fZ q
section
variable {X:Cx} {x:Str} {p pos:Pos} {e:Expr} {es:List Expr} {t:TA} {id T:String} {r:List V->Hp->VK->Prop}
noncomputable def tCB (r:List V->Hp->VK->Prop) (t:TA):TE:=fun σ H Q=>t σ H fun vs H1=>r vs H1 Q
theorem zn (hc:zbv X #[Q6] r) (hg:Gl X x) (hm:X.mg x=none) (hv:bootBuiltins x=some #[Q6]) (ha:PA X (e :: es) t) (hn:x≠"__name__":=by decide) (BB:(x == ("__debug__" : Str))=false:=by decide)
  (he:starEach (e :: es) X.env=#[OR] :: starEach es X.env:=by rfl) (oT:#[SA].any (·.1)=false:=by rfl):PE X (.Call (.Name x p) (e :: es) [] pos) (tCB r t):=by
 intro nM s σ H Q I h;refine ik #[Wi];exact PyProof.Rows.callWith_builtin1 (thn #[FM] fun us s1 ⟨vs,H1,I1,r1,q1⟩=>hc nM s1 σ H1 vs us Q I1 r1 q1) he oT
theorem zW (hc:zbv X (.type T) r) (hg:Gl X x) (hm:X.mg x=none) (hv:bootBuiltins x=some (.type T)) (ha:PA X (e :: es) t) (hn:x≠"__name__":=by decide) (BB:(x == ("__debug__" : Str))=false:=by decide)
  (he:starEach (e :: es) X.env=#[OR] :: starEach es X.env:=by rfl) (oT:#[SA].any (·.1)=false:=by rfl):PE X (.Call (.Name x p) (e :: es) [] pos) (tCB r t):=by
 intro nM s σ H Q I h;refine ik #[Wi];exact bZ (thn #[FM] fun us s1 ⟨vs,H1,I1,r1,q1⟩=>hc nM s1 σ H1 vs us Q I1 r1 q1) he oT
end
end L2
namespace HT
open PySem PyProof.Rows
section
variable {prog:Program} {w:World} {A:Around} {E:Value->Shared->Prop} {s:Shared}
theorem NJ {t b:Addr} {vs ws:List Value} {Q:Value->Shared->Prop} (ht:IsTup s.heap t vs.toArray) (hb:IsTup s.heap b ws.toArray) (hv:vs≠[])
  (h1:ws = []->Q (.ref t) s) (h2:ws≠[]->Q #[wf] { s with heap:=s.heap.push { cls:=.type "tuple",data:=.seq (vs++ws).toArray } })
  (hsz:vs.length+ws.length<=sizeLine):wpAny #[ss] A (binaryOp .Add (.ref t) (.ref b)) Q E s:=by
 obtain⟨⟨cls,dd,data,sl⟩,ho,hc,n,hd⟩:=id ht;obtain⟨⟨GB,Fp,data2,Fq⟩,vF,Dy,n2,hd2⟩:=id hb;simp only at hc hd Dy hd2;subst hc hd Dy hd2;have e:vs.toArray++ws.toArray=(vs++ws).toArray:=by simp
 by_cases hw:ws = []
 ·exact lQ ⟨_,ho,rfl⟩ ⟨_,vF,rfl⟩ jS lj iO iF (il _ _)
   (tuple_addW1 t b vs.toArray ws.toArray n n2 dd Fp sl Fq (by simpa using hv) (by simp [hw])) ⟨ho,vF,h1 hw⟩
 ·refine lQ ⟨_,ho,rfl⟩ ⟨_,vF,rfl⟩ jS lj iO iF (il _ _)
   (tuple_addW2 t b vs.toArray ws.toArray n n2 dd Fp sl Fq (by simpa using hv) (by simpa using hw) (by rw [aS,aS]; exact hsz)) ⟨ho,vF,?_⟩
  rw [e];exact h2 hw
noncomputable def sIx (n d:Nat):Option Int->Nat
 | none=>d
 | some v=>if v < 0 then (v+(n:Int)).toNat else min v.toNat n
theorem KE (n d:Nat):sIx n d none=d:=rfl
theorem KG (n d k:Nat):sIx n d (some (k:Int))=min k n:=by
 show (if (k:Int) < 0 then ((k:Int)+(n:Int)).toNat else min (k:Int).toNat n)=min k n;rw [if_neg #[O],cG]
theorem zqd (n d:Nat) (hd:d<=n) (o:Option Int):sIx n d o<=n:=by
 cases o with
 | none=>exact hd
 | some v =>
  show (if v < 0 then (v+(n:Int)).toNat else min v.toNat n)<=n;by_cases hv:v < 0
  ·rw [if_pos hv]; lia
  ·rw [if_neg hv]; exact Nat.min_le_right _ _
theorem zj6 (v:Int) (n d:Nat):(if v < 0 then max (v+(n:Int)) 0 else min v (n:Int))=((sIx n d (some v):Nat):Int):=by
 show (if v < 0 then max (v+(n:Int)) 0 else min v (n:Int))=(((if v < 0 then (v+(n:Int)).toNat else min v.toNat n):Nat):Int);by_cases hv:v < 0
 ·simp only [if_pos hv]; lia
 ·simp only [if_neg hv]; lia
theorem zjh (lo hi:Option Int) (n:Nat):hU lo hi 1 (n:Int)=(((sIx n 0 lo:Nat):Int),((sIx n n hi:Nat):Int)):=by
 have h1:¬ ((1:Int) < 0):=by lia
 unfold hU;simp only [h1,if_false];refine mK ?_ ?_
 ·cases lo with
  | none=>rfl
  | some v=>exact zj6 v n 0
 ·cases hi with
  | none=>rfl
  | some v=>exact zj6 v n n
theorem zji (i j:Nat):f7 (i:Int) (j:Int) 1=j - i:=by
 unfold f7;have h1:(1:Int) > 0:=by lia
 simp only [h1,if_true,lR];split <;> lia
theorem zfs {v:Value} {o:Option Int} {Q:Option Int->Shared->Prop} (p:IsPart v o) (h:Q o s):wpAny #[ss] A (Builtin.Slice.slicePartIndex v) Q E s:=by
 cases p with
 | none=>exact slicePart_none h
 | int i t=>exact slicePart_int h
theorem zcw {sl:Addr} {vl vu:Value} {lo hi:Option Int} {n:Nat} {Q:Int×Int×Nat->Shared->Prop} (hs:s.heap.IsSliceOf sl vl vu .none) (pl:IsPart vl lo) (pu:IsPart vu hi)
  (h:Q (((sIx n 0 lo:Nat):Int),1,sIx n n hi - sIx n 0 lo) s):wpAny #[ss] A (jB (.ref sl) (pure (n:Int))) Q E s:=by
 obtain⟨os,xD,vW,uN⟩:=id hs;unfold jB Builtin.Slice.sliceFields;refine aB (aB (cF xD uN (x:=vl) rfl (aB (cF xD uN (x:=vu) rfl (aB (cF xD uN (x:=.none) rfl (aK ?_)))))));refine aB (slicePart_none ?_);show wpAny _ _ (if ((1:Int) == 0)=true then _ else _) _ _ s;rw [if_neg #[D]];refine aB (zfs pl (aB (zfs pu (aB (aK ?_)))));show wpAny _ _ (match hU lo hi 1 (n:Int) with | (lo,hi)=>pure (lo,(1:Int),f7 lo hi 1)) _ _ s;rw [zjh lo hi n];show wpAny _ _ (pure (((sIx n 0 lo:Nat):Int),(1:Int),f7 ((sIx n 0 lo:Nat):Int) ((sIx n n hi:Nat):Int) 1)) _ _ s;rw [zji];exact aK h
theorem zmo (xs:Array Value) (i k:Nat):((bM k).filterMap fun (m:Nat)=>xs[((i:Int)+(m:Int)*1).toNat]?).toArray=(#[Qv].take k).toArray:=by
 have e:(fun (m:Nat)=>xs[((i:Int)+(m:Int)*1).toNat]?)=fun m=>xs[i+m]?:=by
  funext m;have:((i:Int)+(m:Int)*1).toNat=i+m:=by lia
  rw [this]
 rw [e];have:=pick_run xs i k;rw [lS] at this;have e2:((fun x=>xs[x]?) ∘ fun x=>i+x)=fun m=>xs[i+m]?:=rfl
 rw [e2] at this;rw [this]
theorem Lr {t sl:Addr} {items:Array Value} {vl vu:Value} {lo hi:Option Int} {Q:Value->Shared->Prop} (ht:IsTup s.heap t items) (hs:s.heap.IsSliceOf sl vl vu .none) (pl:IsPart vl lo) (pu:IsPart vu hi)
  (hw:¬ (sIx items.size 0 lo=0/\sIx items.size items.size hi=items.size))
  (h:Q #[wf] { s with heap:=s.heap.push { cls:=.type "tuple",data:=.seq (#[P7].take #[xz]).toArray } })
  (hsz:items.size<=sizeLine):wpAny #[ss] A (getItem (.ref t) (.ref sl)) Q E s:=by
 have vG:sizeOk (.seq (#[P7].take #[xz]).toArray):=by
  show (#[P7].take #[xz]).toArray.size<=sizeLine;rw [aS,aU,cP,bT];lia
 have hj:sIx items.size items.size hi<=items.size:=zqd _ _ (aH _) hi;obtain⟨os,xD,vW,uN⟩:=id hs;have GC:s.TypeIs (.ref sl) "slice":=⟨os,xD,vW⟩;unfold getItem
 try with_reducible refine cQ ?_
 first | refine aB (aK ?_) | skip
 refine aB #[Td];refine aB (cj (name:=cJ "__getitem__") ht.typeIs ff
  (cI ff ht.typeIs lE ?_ (lT _ _)))
 show wpAny _ _ (jC (.ref t) >>= _) _ _ s;refine aB (tupleItemsOf_ ht ?_);refine aB (im GC ?_);rw [if_pos #[D]];refine aB (zcw hs pl pu ?_);have hno:¬ ((((sIx items.size 0 lo:Nat):Int) == 0 && (1:Int) == 1 && #[xz] == items.size)=true):=by
  intro q;rw [eS,eS] at q;have q1:((sIx items.size 0 lo:Nat):Int)=0:=eq_of_beq q.1.1;have q2:sIx items.size items.size hi - sIx items.size 0 lo=items.size:=eq_of_beq q.2;exact hw #[v6]
 show wpAny _ _ (if (((sIx items.size 0 lo:Nat):Int) == 0 && (1:Int) == 1 && #[xz] == items.size)=true then _ else _) _ _ s;rw [if_neg hno,zmo]
 first
  | exact aB (m:=gb _) (cS #[P0] vG)
  | exact aB (m:=gb _) (cS (aB (aK #[P0])) vG)
  | exact aB (aB (m:=gb _) (cS (aK #[P0]) vG))
  | exact aB (aB (m:=gb _) (cS #[P0] vG))
end
end HT
namespace L2
open PySem PySem.Spec PyProof.Rows
variable {A:Around} {H:Hp} {j t':Nat} {nM:List (Addr×Obj)} {nP us:List Value} {ns:List Int} {s:Shared} {ys:List V}
abbrev TO:=St->Hp->(Option Int->Hp->Prop)->Prop
noncomputable def PO (X:Cx) (e:Option Expr) (t:TO):Prop :=
 ∀ (nM:List (Addr×Obj)) (s:Shared) (σ:St) (H:Hp) (Q:Option Int->Hp->Prop),Inv X nM σ H s->t σ H Q ->
  wpAny #[pi] X.A (evalPart e X.env) (fun u s'=>∃ o H',Inv X nM σ H' s'/\IsPart u o/\Q o H') X.xe s
noncomputable def zoq:TO:=fun _ H Q=>Q none H
noncomputable def zri (t:TE):TO:=fun σ H Q=>t σ H fun x H1=>∃ i,x = .int i/\Q (some i) H1
theorem intsAre_of:∀ {us:List Value},z0 #[Cl] us->IntsAre us ns:=by
 induction ns with
 | nil=>intro us r; rw [jb] at r; cases r; exact .nil
 | cons n ns ih =>
  intro us r;rw [bV] at r;cases r with
  | cons r1 r2 =>
   obtain⟨t,e⟩:=r1;subst e;exact .cons n t (ih r2)
section
variable {X:Cx} {e:Expr} {te:TE} {lo hi:Option Expr} {tl th:TO} {pos p2:Pos}
theorem zbg:PO X none zoq:=by
 intro nM s σ H Q I h;rw [evalPart_none];exact aK ⟨none,H,I,.none,h⟩
theorem zaA (h:PE X e te):PO X (some e) (zri te):=by
 intro nM s σ H Q I hw;rw [evalPart_some];refine thn #[Tv] fun u s1 ⟨x,H1,I1,r1,q1⟩=>?_
 obtain⟨i,rfl,q⟩:=q1;obtain⟨t,rfl⟩:=r1;exact⟨some i,H1,I1,.int i t,q⟩
noncomputable def SlR (X:Cx) (r:V->Option Int->Option Int->Hp->VK->Prop):Prop :=
 ∀ (nM:List (Addr×Obj)) (s:Shared) (σ:St) (H:Hp) (x:V) (v vl vu:Value) (lo hi:Option Int) (sl:Addr) (Q:VK),Inv X nM σ H s->RelV x v->s.heap.IsSliceOf sl vl vu .none->IsPart vl lo->IsPart vu hi->r x lo hi H Q ->
  ∃ T id,typeLookup (.type T) "__getitem__" = pure (some #[Q6])/\s.TypeIs v T/\wpAny #[pi] X.A (getItem v (.ref sl)) #[Pj] X.xe s
noncomputable def tSl (r:V->Option Int->Option Int->Hp->VK->Prop) (te:TE) (tl th:TO):TE:=fun σ H Q=>te σ H fun x H1=>tl σ H1 fun l H2=>th σ H2 fun u H3=>r x l u H3 Q
theorem zay {r:V->Option Int->Option Int->Hp->VK->Prop} (hr:SlR X r) (he:PE X e te) (hl:PO X lo tl) (hu:PO X hi th):PE X (.Subscript e (.Slice lo hi none p2) pos) (tSl r te tl th):=by
 intro nM s σ H Q I h;refine Subscript_ (thn #[PV] fun v s1 ⟨x,H1,I1,r1,q1⟩=>?_);refine wpAny_Slice (thn (hl nM s1 σ H1 _ I1 q1) fun vl s2 ⟨l,H2,I2,pl,q2⟩=>thn (hu nM s2 σ H2 _ I2 q2) fun vu s3 ⟨u,H3,I3,pu,q3⟩=>?_);rw [evalPart_none];refine aK ?_;have I4:Inv X nM σ H3 { s3 with heap:=s3.heap.push { cls:=.type "slice",data:=.fields #[vl,vu,.none] } }:=I3.kept (t':=s3.toks) fun b ob q=>aJ _ q
 obtain⟨T,id,hT,ht,hg⟩:=hr nM { s3 with heap:=s3.heap.push { cls:=.type "slice",data:=.fields #[vl,vu,.none] } } σ H3 x v vl vu l u s3.heap.objs.size Q I4 r1 (Heap.IsSliceOf.new ..) pl pu q3;show wpAny #[pi] X.A (subscriptTail e (.Slice lo hi none p2) v (.ref s3.heap.objs.size)) #[Pj] X.xe { s3 with heap:=s3.heap.push { cls:=.type "slice",data:=.fields #[vl,vu,.none] } };exact tail_any (ops:=[.ref s3.heap.objs.size,v]) ht hT hg (by with_unfolding_all rfl)
noncomputable def za7 (xs:List V) (lo hi:Option Int):List V:=(xs.drop #[SE]).take #[O5]
theorem zeB (xs:List V) (lo hi:Option Int):#[Rb].length<=xs.length:=by
 unfold za7;rw [aU,cP];lia
noncomputable def zr0 (K:aF):V->Option Int->Option Int->Hp->VK->Prop:=fun x lo hi H Q=>∃ a xs,x = .ref a/\nS K H a xs /\
 ¬ (HT.sIx xs.length 0 lo=0/\HT.sIx xs.length xs.length hi=xs.length)/\∀ p,H p=none->Q #[Tg] (nQ H p (.tup #[Rb]))
theorem zmp:SlR X (zr0 X.K):=by
 intro nM s σ H x v vl vu lo hi sl Q I rx hs pl pu h;obtain⟨a,xs,rfl,hx,hw,q⟩:=h;cases rx;obtain⟨nP,r,ht,hz⟩:=I.tuple hx;have nV:nP.toArray.size=xs.length:=by rw [aS]; exact r.length.symm
 refine⟨"tuple",_,PyProof.Rows.slot_tuple_getitem.lookup,ht.typeIs,?_⟩;refine HT.Lr ht hs pl pu (by rw [nV]; exact hw) ?_ (by rw [nV]; exact hz);rw [nV];refine⟨.ref s.heap.objs.size,_,I.laid (t':=s.toks) (o:=.tup #[Rb]) #[T5] (aH _) ?_,rfl,q _ #[QN]⟩;exact⟨bX (zeB xs lo hi) hz,_,(r.drop #[SE]).take #[O5],nC _ _⟩
noncomputable def zrj (K:aF):R2:=fun x y H Q=>∃ a b xs ys,x = .ref a/\y = .ref b/\nS K H a xs/\nS K H b ys/\xs≠[]/\xs.length+ys.length<=sizeLine /\
 (ys = []->Q #[Pn] H)/\(ys≠[]->∀ p,H p=none->Q #[Tg] (nQ H p #[UR]))
theorem z0.Md {xs:List V} (r:z0 xs us):us = []↔xs = []:=by
 cases r with
 | nil=>simp
 | cons _ _=>simp
theorem zj7:OpR X #[Rt] (zrj X.K):=by
 intro nM s σ H x y v u Q I rx ry h;obtain⟨a,b,xs,ys,rfl,rfl,ha,hb,hx,hz,q1,q2⟩:=h;cases rx;cases ry;obtain⟨nP,r1,p1,_⟩:=I.tuple ha;obtain⟨n9,r2,p2,_⟩:=I.tuple hb;refine HT.NJ p1 p2 (fun z=>hx (r1.Md.mp z)) (fun z=>⟨.ref a,H,I,rfl,q1 (r2.Md.mp z)⟩) (fun z=>?_) (by rw [<- r1.length,<- r2.length]; exact hz);refine⟨.ref s.heap.objs.size,_,I.laid (t':=s.toks) (o:=.tup (xs++ys)) #[T5] (aH _) ?_,rfl,q2 (fun w=>z (r2.Md.mpr w)) _ #[QN]⟩;exact⟨by rw [aO]; exact hz,_,r1.append r2,nC _ _⟩
end
noncomputable def ixN (n:Nat) (i:Int):Option Nat:=if 0<=i then (if i < n then some i.toNat else none) else if -(n:Int)<=i then some (i+n).toNat else none
noncomputable def atI {α:Type} (xs:List α) (i:Int):Option α:=(ixN xs.length i).bind fun j=>xs[j]?
theorem zj8 {n:Nat} {i:Int} (h:ixN n i=some j):seqIndex? i n=some j/\j < n/\-(n:Int)<=i/\i < n:=by
 unfold ixN at h;by_cases h0:0<=i
 ·rw [if_pos h0] at h;by_cases h1:i < n
  ·rw [if_pos h1] at h;have e:i.toNat=j:=bK h;exact⟨by rw [jt h0 h1,e],#[O],#[O],h1⟩
  ·rw [if_neg h1] at h; cases h
 ·rw [if_neg h0] at h;by_cases h1:-(n:Int)<=i
  ·rw [if_pos h1] at h;have e:(i+n).toNat=j:=bK h;exact⟨by rw [lU #[O] h1,e],#[O],h1,#[O]⟩
  ·rw [if_neg h1] at h; cases h
theorem zj9 {α:Type} {xs:List α} {i:Int} {v:α} (h:atI xs i=some v):∃ j,seqIndex? i xs.length=some j/\xs[j]? = some v/\j < xs.length/\-(xs.length:Int)<=i/\i < xs.length:=by
 unfold atI at h;cases e:ixN xs.length i with
 | none=>rw [e] at h; cases h
 | some j =>
  rw [e] at h;obtain⟨h1,h2,h3,h4⟩:=zj8 e;exact⟨j,h1,h,h2,h3,h4⟩
theorem zab {α:Type} {xs:List α} {v:α} (h:xs[j]? = some v):atI xs (j:Int)=some v:=by
 have hj:j < xs.length:=(aW.mp h).1;have e:ixN xs.length (j:Int)=some j:=by
  unfold ixN;rw [if_pos #[O],if_pos #[O]]; simp
 unfold atI; rw [e]; exact h
noncomputable def zor (b:Expr):Prop:=∀ o i,subscripted b false o i=operate [o,i] (getItem o i)
noncomputable def IxR (X:Cx) (r:R2):Prop :=
 ∀ (value slice:Expr) (nM:List (Addr×Obj)) (s:Shared) (σ:St) (H:Hp) (x y:V) (v u:Value) (Q:VK),Inv X nM σ H s->RelV x v->RelV y u->r x y H Q ->
  subscripted slice false v u=operate [v,u] (getItem v u)->wpAny #[pi] X.A (subscriptTail value slice v u) #[Pj] X.xe s
noncomputable def MtR (X:Cx) (id:String) (r:V->List V->Hp->VK->Prop):Prop :=
 ∀ (nM:List (Addr×Obj)) (s:Shared) (σ:St) (H:Hp) (x:V) (xs:List V) (v:Value) (us:List Value) (Q:VK),Inv X nM σ H s->RelV x v->z0 xs us->r x xs H Q ->
  wpAny #[pi] X.A (call #[Q6] (v :: us)) #[Pj] X.xe s
section
variable {X:Cx} {a b:Expr} {ta tb:TE} {pos:Pos}
theorem zw {r:R2} (hr:IxR X r) (ha:PE X a ta) (hb:PE X b tb) (hs:zor b):PE X (.Subscript a b pos) #[Vv]:=by
 intro nM s σ H Q I h;exact Subscript_ (zp5 ha hb I h fun v u s2 x y H2 I2 rx ry q=>hr a b nM s2 σ H2 x y v u Q I2 rx ry q (hs _ _))
noncomputable def zrk (K:aF):R2:=fun x y H Q=>∃ p xs i v,x = .ref p/\y = .int i/\nO K H p xs/\atI xs i=some v/\Q v H
noncomputable def zrl (K:aF):R2:=fun x y H Q=>∃ p xs i v,x = .ref p/\y = .int i/\nS K H p xs/\atI xs i=some v/\Q v H
theorem zu:IxR X (zrk X.K):=by
 intro value slice nM s σ H x y v u Q I rx ry h hs;obtain⟨p,xs,i,z,rfl,rfl,hq,he,q⟩:=h;cases rx;obtain⟨t,rfl⟩:=ry;obtain⟨nP,r,pl,hz⟩:=I.list hq;obtain⟨j,h1,h2,h3,h4,h5⟩:=zj9 he;obtain⟨w,ew,qY⟩:=r.get h2;have hl:=r.length;have hn:=zfr;have fin:EP X nM σ Q w s:=⟨z,H,I,qY,q⟩;by_cases h0:0<=i
 ·have hj:i.toNat=j:=by
   rw [jt h0 h5] at h1;exact bK h1
  exact item_listR pl.isList h0 #[O] (by rw [hj]; simpa using ew) fin hs
 ·have hj:(i+(nP.toArray.size:Int)).toNat=j:=by
   rw [lU #[O] h4] at h1;rw [aS,<- hl];exact bK h1
  exact kx (x:=w) pl.isList.typeIs slot_list_getitem.lookup
   (wpAny_getItem_list_neg (Q:=fun r s'=>r=w/\EP X nM σ Q r s') pl.isList #[O] (by rw [aS] <;> lia) #[O] (by rw [hj]; simpa using ew) ⟨rfl,fin⟩) hs
theorem za6:IxR X (zrl X.K):=by
 intro value slice nM s σ H x y v u Q I rx ry h hs;obtain⟨p,xs,i,z,rfl,rfl,hq,he,q⟩:=h;cases rx;obtain⟨t,rfl⟩:=ry;obtain⟨nP,r,pl,hz⟩:=I.tuple hq;obtain⟨j,h1,h2,h3,h4,h5⟩:=zj9 he;obtain⟨w,ew,qY⟩:=r.get h2;have hl:=r.length;have hn:=zfr;have fin:EP X nM σ Q w s:=⟨z,H,I,qY,q⟩;exact kx (x:=w) pl.typeIs slot_tuple_getitem.lookup
  (getItem_tuple (j:=j) (Q:=fun r s'=>r=w/\EP X nM σ Q r s') pl #[O] #[O] (by rw [aS,<- hl]; exact h1) (by simpa using ew) ⟨rfl,fin⟩) hs
theorem zjj (nP:List Value) (n j:Nat) (u:Value):fk (·.setIfInBounds j u) { cls:=.type "list",data:=.seq nP.toArray n } = { cls:=.type "list",data:=.seq (nP.set j u).toArray n }:=by
 simp [fk]
theorem Inv.lst {nM:List (Addr×Obj)} {σ:St} {H:Hp} {s:Shared} {p:Addr} {xs:List V} (I:Inv X nM σ H s) (h:H p=some #[P9]) :
  ∃ (nP:List Value) (n:Nat),z0 xs nP/\s.heap.get? p=some { cls:=.type "list",data:=.seq nP.toArray n }/\xs.length<=sizeLine:=by
 obtain⟨z,nP,n,r,e⟩:=I.hok p _ h;exact⟨nP,n,r,e,z⟩
theorem Inv.NS {σ:St} {p:Addr} {xs:List V} {its':List Value} {n n':Nat} {f:Obj->Obj} (I:Inv X nM σ H s) (h:H p=some #[P9])
  (ho:s.heap.get? p=some { cls:=.type "list",data:=.seq nP.toArray n }) (hf:f { cls:=.type "list",data:=.seq nP.toArray n } = { cls:=.type "list",data:=.seq its'.toArray n' }) (r:z0 ys its') (hz:ys.length<=sizeLine) (t:Nat) :
  Inv X nM σ (nQ H p #[SZ]) { s with heap:=s.heap.update p f,toks:=t }:=by
 have e:(s.heap.update p f).get? p=some { cls:=.type "list",data:=.seq its'.toArray n' }:=by
  rw [dX f ho (by rw [hf] <;> rfl),hf]
 refine I.write (x:=p) (e:=p) (by rw [h]; trivial) #[PD] (fun b u hb q=>(dv _ _ (dW hb)).trans q) ⟨_,e⟩ ?_;exact⟨hz,its',n',r,e⟩
noncomputable def zrm:V->V->V->Hp->(Hp->Prop)->Prop:=fun o i v H Q=>∃ p xs k j,o = .ref p/\i = .int k/\H p=some #[P9]/\ixN xs.length k=some j/\Q (nQ H p (.lst (xs.set j v)))
theorem set_list:zra X zrm:=by
 intro nM s σ H o i v ov iv u Q I ro ri rv h;obtain⟨p,xs,k,j,rfl,rfl,hp,hj,q⟩:=h;cases ro;obtain⟨t,rfl⟩:=ri;obtain⟨nP,n,r,ho,hz⟩:=I.lst hp;obtain⟨h1,h2,h3,h4⟩:=zj8 hj;have hl:=r.length;have hn:=zfr;have I':Inv X nM σ (nQ H p (.lst (xs.set j v))) { s with heap:=s.heap.update p (fk (·.setIfInBounds j u)) } :=
  I.NS hp ho (zjj nP n j u) (r.set rv j) (by rw [fS]; exact hz) s.toks
 by_cases h0:0<=k
 ·have hk:k.toNat=j:=by
   rw [jt h0 h4] at h1;exact bK h1
  exact PySem.W.ki_setAt ho h0 #[O] (by rw [aS,<- hl]; exact h4) (by rw [hk]; exact⟨_,I',q⟩)
 ·have hk:(k+(nP.toArray.size:Int)).toNat=j:=by
   rw [lU #[O] h3] at h1;rw [aS,<- hl];exact bK h1
  exact PySem.W.ki_setBack ho #[O] (by rw [aS,<- hl]; exact h3) #[O] (by rw [hk]; exact⟨_,I',q⟩)
theorem zg0 (lo hi:Option Int) (n:Nat):#[R4].1=((HT.sIx n 0 lo:Nat):Int)/\#[R4].2.1=((HT.sIx n n hi:Nat):Int)/\#[R4].2.2=1:=by
 refine⟨?_,?_,rfl⟩
 ·cases lo with
  | none=>simp [sliceBounds,HT.sIx]
  | some i =>
   simp only [sliceBounds,HT.sIx,mL,show (1:Int) > 0 by decide,if_true];by_cases h:i < 0
   ·simp only [h,if_true] <;> lia
   ·simp only [h,if_false] <;> lia
 ·cases hi with
  | none=>simp [sliceBounds,HT.sIx]
  | some i =>
   simp only [sliceBounds,HT.sIx,mL,show (1:Int) > 0 by decide,if_true];by_cases h:i < 0
   ·simp only [h,if_true] <;> lia
   ·simp only [h,if_false] <;> lia
theorem zge (nP:List Value) (lo hi:Option Int):slicePick nP.toArray lo hi none=((nP.drop (HT.sIx nP.length 0 lo)).take (HT.sIx nP.length nP.length hi - HT.sIx nP.length 0 lo)).toArray:=by
 obtain⟨h1,h2,h3⟩:=zg0 lo hi nP.toArray.size;unfold slicePick;rw [h1,h2,h3];simp only [sliceRange_one,pick_run,aS] <;> rfl
noncomputable def zrn (K:aF):V->Option Int->Option Int->Hp->VK->Prop:=fun x lo hi H Q=>∃ a xs,x = .ref a/\nO K H a xs/\∀ p,H p=none->Q #[Tg] (nQ H p (.lst #[Rb]))
theorem zby:SlR X (zrn X.K):=by
 intro nM s σ H x v vl vu lo hi sl Q I rx hs pl pu h;obtain⟨a,xs,rfl,hx,q⟩:=h;cases rx;obtain⟨nP,r,ht,hz⟩:=I.list hx;have nV:=r.length;refine⟨"list",_,slot_list_getitem.lookup,ht.isList.typeIs,?_⟩;refine wpAny_getItem_list_slice ht.isList hs pl pu .none #[M] ?_ (by rw [aS] <;> lia);rw [zge,<- nV];refine⟨.ref s.heap.objs.size,_,I.laid (t':=s.toks) (o:=.lst #[Rb]) #[T5] (aH _) ?_,rfl,q _ #[QN]⟩;exact⟨bX (zeB xs lo hi) hz,_,0,(r.drop #[SE]).take #[O5],aX _ rfl⟩
noncomputable def zeC:V->Bool
 | .non=>true
 | .bl _=>true
 | .int _=>true
 | .str _=>true
 | _=>false
noncomputable def eqV:V->V->Bool
 | .non,.non=>true
 | .bl a,.bl b=>a == b
 | .bl a,.int b=>(if a then 1 else 0) == b
 | .int a,.bl b=>a == (if b then 1 else 0)
 | .int a,.int b=>a == b
 | .str a,.str b=>a == b
 | _,_=>false
theorem zqe {y x:V} {u v:Value} (ry:RelV y u) (rx:RelV x v) (fy:zeC y=true) (fx:zeC x=true):SeqAt.EqAt A s u v (eqV y x):=by
 cases y with
 | non =>
  cases ry;cases x with
  | non=>cases rx; exact SeqAt.EqAt.same _
  | bl b=>cases rx; exact SeqAt.EqAt.none_bool b
  | int b=>obtain⟨t,rfl⟩:=rx; exact SeqAt.EqAt.none_int b t
  | str b=>obtain⟨t,rfl⟩:=rx; exact SeqAt.EqAt.none_str b t
  | _=>exact absurd (show false=true from fx) bH
 | bl a =>
  cases ry;cases x with
  | non=>cases rx; exact SeqAt.EqAt.bool_none a
  | bl b=>cases rx; exact SeqAt.EqAt.bool_bool a b
  | int b=>obtain⟨t,rfl⟩:=rx; exact SeqAt.EqAt.bool_int a b t
  | str b=>obtain⟨t,rfl⟩:=rx; exact SeqAt.EqAt.bool_str a b t
  | _=>exact absurd (show false=true from fx) bH
 | int a =>
  obtain⟨t',rfl⟩:=ry;cases x with
  | non=>cases rx; exact SeqAt.EqAt.int_none a t'
  | bl b=>cases rx; exact SeqAt.EqAt.int_bool a t' b
  | int b=>obtain⟨t,rfl⟩:=rx; exact SeqAt.EqAt.int_int a t' b t
  | str b=>obtain⟨t,rfl⟩:=rx; exact lM a t' b t
  | _=>exact absurd (show false=true from fx) bH
 | str a =>
  obtain⟨t',rfl⟩:=ry;cases x with
  | non=>cases rx; exact SeqAt.EqAt.str_none a t'
  | bl b=>cases rx; exact SeqAt.EqAt.str_bool a t' b
  | int b=>obtain⟨t,rfl⟩:=rx; exact lN a t' b t
  | str b=>obtain⟨t,rfl⟩:=rx; exact SeqAt.EqAt.str_str a t' b t
  | _=>exact absurd (show false=true from fx) bH
 | _=>exact absurd (show false=true from fy) bH
noncomputable def eqU (x:V) (u:Value):Bool:=match u with
 | .none=>eqV .non x
 | .bool b=>eqV (.bl b) x
 | .int i _=>eqV (.int i) x
 | .str z _=>eqV (.str z) x
 | _=>false
theorem zmq {x y:V} {u:Value} (r:RelV y u) (f:zeC y=true):eqU x u=eqV y x:=by
 cases y with
 | non=>cases r; rfl
 | bl b=>cases r; rfl
 | int i=>obtain⟨t,rfl⟩:=r; rfl
 | str z=>obtain⟨t,rfl⟩:=r; rfl
 | _=>exact absurd (show false=true from f) bH
theorem zg1 {x:V}:∀ {xs:List V} {us:List Value},z0 xs us->xs.all zeC=true->us.any (eqU x)=xs.any fun y=>eqV y x
 | _,_,.nil,_=>rfl
 | y :: xs,u :: us,.cons r t,f=>by
  rw [jD,eS] at f;rw [iT,iT,zmq r f.1,zg1 t f.2]
theorem zft {A:Around} {s:Shared} {x:V} {v:Value} (rx:RelV x v) (fx:zeC x=true):∀ {xs:List V} {us:List Value},z0 xs us->xs.all zeC=true->∀ u∈us,SeqAt.EqAt A s u v (eqU x u)
 | _,_,.nil,_=>fun u hu=>by cases hu
 | y :: xs,u :: us,.cons r t,f=>fun u' hu=>by
  rw [jD,eS] at f;rcases aV.mp hu with rfl | hu
  ·rw [zmq r f.1]; exact zqe r rx f.1 fx
  ·exact zft rx fx t f.2 u' hu
noncomputable def inV (x:V) (xs:List V):Bool:=xs.any fun y=>eqV y x
noncomputable def rIn (K:aF) (neg:Bool):R2:=fun x y H Q=>∃ p xs,y = .ref p/\(nO K H p xs\/nS K H p xs)/\zeC x=true/\xs.all zeC=true/\Q (.bl (if neg then !inV x xs else inV x xs)) H
theorem zg2:OpR X (compareOp .NotIn) (rIn X.K true):=by
 intro nM s σ H x y v u Q I rx ry h;obtain⟨p,xs,rfl,hq,fx,fs,q⟩:=h;cases ry;rcases hq with hq | hq
 ·obtain⟨nP,r,pl,hz⟩:=I.list hq;refine SeqAt.notIn_listAt (eqU x) pl.isList (fun w hw=>zft rx fx r fs w (by simpa using hw)) ⟨.bl _,H,I,rfl,?_⟩;rw [show nP.toArray.any (eqU x)=nP.any (eqU x) by simp,zg1 r fs];exact q
 ·obtain⟨nP,r,pl,hz⟩:=I.tuple hq;refine SeqAt.notIn_tupleAt (eqU x) pl (fun w hw=>zft rx fx r fs w (by simpa using hw)) ⟨.bl _,H,I,rfl,?_⟩;rw [show nP.toArray.any (eqU x)=nP.any (eqU x) by simp,zg1 r fs];exact q
theorem zo:zbv X (.builtin "len") (fun xs H Q=>∃ p ys,xs = [.ref p]/\(nO X.K H p ys\/nS X.K H p ys)/\Q (.int ys.length) H):=by
 intro nM s σ H xs us Q I r h;obtain⟨p,ys,rfl,hq,q⟩:=h;obtain⟨u,rfl,rx⟩:=vals1 r;cases rx;have hn:=zfr;rcases hq with hq | hq
 ·obtain⟨nP,r',pl,hz⟩:=I.list hq;have nV:=r'.length;exact Calls.call_len_list pl.isList (by simp only [aS] <;> lia) ⟨.int ys.length,H,I.tok _,⟨s.toks+1,by rw [aS,nV]⟩,q⟩
 ·obtain⟨nP,r',pl,hz⟩:=I.tuple hq;have nV:=r'.length;exact len_tuple pl (by simp only [aS] <;> lia) ⟨.int ys.length,H,I.tok _,⟨s.toks+1,by rw [aS,nV]⟩,q⟩
theorem za2:zbv X (.type "list") (fun xs H Q=>∃ p ys,xs = [.ref p]/\(nO X.K H p ys\/nS X.K H p ys)/\∀ l,H l=none->Q #[Pm] (nQ H l #[SZ])):=by
 intro nM s σ H xs us Q I r h;obtain⟨p,ys,rfl,hq,q⟩:=h;obtain⟨u,rfl,rx⟩:=vals1 r;cases rx;have fin:∀ (nP:List Value),z0 ys nP->ys.length<=sizeLine->∀ (h':Heap) (c':Nat),(∀ b o',s.heap.get? b=some o'->h'.get? b=some o') ->
   h'.get? s.heap.objs.size=some { cls:=.type "list",dict:=none,data:=.seq nP.toArray c',slots:=#[] }->EP X nM σ Q #[wf] { s with heap:=h' }:=fun nP r' hz h' c' kp e =>
  ⟨.ref s.heap.objs.size,_,I.laid (t':=s.toks) kp (aH _) (show zat X.prog X.w _ h' _ #[SZ] from ⟨hz,nP,c',r',e⟩),rfl,q _ #[QN]⟩
 rcases hq with hq | hq
 ·obtain⟨nP,r',pl,hz⟩:=I.list hq;have nV:=r'.length;obtain⟨o,ho,hc,n,hd⟩:=pl.isList;exact call_list_seq p #[PD] ho hc hd #[SH] (by simp only [aS] <;> lia)
 ·obtain⟨nP,r',pl,hz⟩:=I.tuple hq;have nV:=r'.length;obtain⟨o,ho,hc,n,hd⟩:=pl;exact call_list_seq p (.inr rfl) ho hc hd #[SH] (by simp only [aS] <;> lia)
theorem zai:zbv X (.type "tuple") (fun xs H Q=>∃ p ys,xs = [.ref p]/\((nO X.K H p ys/\∀ l,H l=none->Q #[Pm] (nQ H l #[Vr]))\/(nS X.K H p ys/\Q #[Tg] H))):=by
 intro nM s σ H xs us Q I r h;obtain⟨p,ys,rfl,h⟩:=h;obtain⟨u,rfl,rx⟩:=vals1 r;cases rx;rcases h with ⟨hq,q⟩ | ⟨hq,q⟩
 ·obtain⟨nP,r',pl,hz⟩:=I.list hq;have nV:=r'.length;refine call_tuple_list pl.isList (fun h' kp=>?_) (by simp only [aS] <;> lia);have I1:Inv X nM σ H { s with heap:=h' }:=I.kept (t':=s.toks) kp;have I2:Inv X nM σ (nQ H h'.objs.size #[Vr]) { s with heap:=h'.push { cls:=.type "tuple",data:=.seq nP.toArray } } :=
   I1.laid (t':=s.toks) #[UG] (aH _) (show zat X.prog X.w _ _ _ #[Vr] from ⟨hz,nP,r',nC _ _⟩)
  exact⟨.ref h'.objs.size,_,I2,rfl,q _ #[OM]⟩
 ·obtain⟨nP,r',pl,hz⟩:=I.tuple hq;exact call_tuple_same pl ⟨.ref p,H,I,rfl,q⟩
noncomputable def tyV (K:aF) (T:String) (x:V) (H:Hp):Prop:=match x with
 | .str _=>T = "str"
 | .int _=>T = "int"
 | .ref p=>(T = "list"/\∃ xs,nO K H p xs)\/(T = "tuple"/\∃ o,K.lookup p=some o/\o.cls = .type "tuple"/\o.dict=none) \/
   (T = "dict"/\((∃ nT,H p=some #[U1])\/∃ nT,H p=some #[SX]))\/(T = "set"/\∃ S n,H p=some (.set S n))
 | _=>False
theorem zqf {σ:St} {T:String} {x:V} {v:Value} (I:Inv X nM σ H s) (r:RelV x v) (ty:tyV X.K T x H) :
  s.TypeIs v T/\∀ a,v = .ref a->∃ ob,s.heap.get? a=some ob/\ob.dict=none:=by
 cases x with
 | str z =>
  obtain⟨t,rfl⟩:=r;cases (show T = "str" from ty);exact⟨typeIs_str s z t,fun _ e=>nomatch e⟩
 | int i =>
  obtain⟨t,rfl⟩:=r;cases (show T = "int" from ty);exact⟨mV s i t,fun _ e=>nomatch e⟩
 | ref p =>
  cases r;rcases ty with ⟨rfl,xs,hq⟩ | ⟨rfl,o,hk,hc,hd⟩ | ⟨rfl,hk⟩ | ⟨rfl,S,n,hk⟩
  ·obtain⟨nP,_,pl,_⟩:=I.list hq;refine⟨pl.isList.typeIs,fun a e=>?_⟩;cases e;obtain⟨o,n,e,c,hd,_⟩:=pl;exact⟨o,e,hd⟩
  ·refine⟨⟨o,I.kIn p o hk,hc⟩,fun a e=>?_⟩;cases e;exact⟨o,I.kIn _ o hk,hd⟩
  ·have z:∃ o,s.heap.get? p=some o/\o.ExactDict:=by
    rcases hk with ⟨nT,hk⟩ | ⟨nT,hk⟩
    ·obtain⟨_,_,_,_,o,_,_,e,ex,_⟩:=I.hok p _ hk;exact⟨o,e,ex⟩
    ·obtain⟨_,_,_,_,o,_,_,e,ex,_⟩:=I.hok p _ hk;exact⟨o,e,ex⟩
   obtain⟨o,e,ex⟩:=z;refine⟨⟨o,e,ex.1⟩,fun a e2=>?_⟩;cases e2;exact⟨o,e,ex.2.1⟩
  ·obtain⟨o,_,_,_,e,ex,_⟩:=I.hok p _ hk;refine⟨⟨o,e,ex.1⟩,fun a e2=>?_⟩;cases e2;exact⟨o,e,ex.2.1⟩
 | _=>exact fZ ty
noncomputable def tBM (K:aF) (T:String) (r:V->List V->Hp->VK->Prop) (to:TE) (t:TA):TE:=fun σ H Q=>to σ H fun x H1=>tyV K T x H1/\t σ H1 fun xs H2=>r x xs H2 Q
variable {o e:Expr} {es:List Expr} {to:TE} {t:TA} {name:Str} {apos oU:Pos} {T id:String} {r:V->List V->Hp->VK->Prop}
theorem zfu (pa:PlainAttrs T) (slot:Slot T name id) (GD:typeOf #[Q6]=pure (.type "method_descriptor")) (hm:MtR X id r) (ho:PE X o to) (ha:PA X (e :: es) t)
  (xE:attributeBase o name X.env #[Uu]=eval o X.env:=by rfl)
  (BD:(#[TC].all (fun x=>!x.1) && (backToKw oU (keywordEach [] X.env)).all (fun x=>x.1.isSome)
   && decide ((e :: es).length+([]:List Keyword).length+(if ([]:List Keyword).isEmpty then 0 else 1) < 30))=true:=by rfl)
  (xF:(apos.endLine == oU.line)=true:=by rfl) (hs:starEach (e :: es) X.env=#[OR] :: starEach es X.env:=by rfl) (uY:#[VW].any (·.1)=false:=by rfl) :
  PE X (.Call (.Attribute o name apos) (e :: es) [] oU) (tBM X.K T r to t):=by
 intro nM s σ H Q I h;refine wpAny_Call_method_late xE BD xF rfl (thn #[RN] fun v s1 ⟨x,H1,I1,r1,ty,q1⟩=>?_);obtain⟨h1,h2⟩:=zqf I1 r1 ty;refine⟨T,id,pa,slot,GD,h1,h2,?_⟩;have hA:=ha oU nM s1 σ H1 _ I1 q1;rw [hs] at hA |-;refine kz (by show (false || #[VW].any (·.1))=false; rw [uY] <;> rfl) (kX ?_);exact thn hA fun us s2 ⟨vs,H2,I2,r2,q2⟩=>hm nM s2 σ H2 x vs v us Q I2 r1 r2 q2
end
noncomputable def MtM (X:Cx) (id:String) (r:V->List V->Hp->VK->Prop):Prop :=
 ∀ (nM:List (Addr×Obj)) (s:Shared) (σ:St) (H:Hp) (x:V) (xs:List V) (v:Value) (us:List Value) (Q:VK),Inv X nM σ H s->RelV x v->z0 xs us->r x xs H Q ->
  wpAny #[pi] X.A (call #[Q6] (v :: us)) #[Pj] X.xe s
theorem z0.one:∀ {x:V} {us:List Value},z0 [x] us->∃ u,us = [u]/\RelV x u
 | _,_,.cons r .nil=>⟨_,rfl,r⟩
theorem z0.eraseIdx:∀ {xs:List V} {us:List Value} (i:Nat),z0 xs us->z0 (xs.eraseIdx i) (us.eraseIdx i)
 | _,_,_,.nil=>.nil
 | _,_,0,.cons _ t=>t
 | _,_,i+1,.cons r t=>.cons r (z0.eraseIdx i t)
theorem z0.rep {xs:List V} {us:List Value} (h:z0 xs us):∀ k:Nat,z0 (aP k xs).flatten (aP k us).flatten
 | 0=>.nil
 | k+1=>by
  rw [dB,dB,fW,fW];exact z0.append h (z0.rep h k)
theorem zgC {α:Type}:∀ (l:List α) (i:Nat),(l.eraseIdx i).length<=l.length
 | [],_=>aH _
 | _ :: _,0=>gW _
 | _ :: r,i+1=>iU (zgC r i)
theorem foldl_rep (nP:List Value):∀ (k:Nat) (acc:List Value),
  mW #[Vb] acc.toArray (aP k nP.toArray)=(acc++(aP k nP).flatten).toArray
 | 0,acc=>by simp
 | k+1,acc=>by
  have e:acc.toArray++nP.toArray=(acc++nP).toArray:=by simp
  have e2:(acc++nP)++(aP k nP).flatten=acc++(aP (k+1) nP).flatten:=by
   rw [dB,fW,cH]
  rw [<- e2,<- foldl_rep nP k (acc++nP),<- e,dB,kb]
section
variable {X:Cx} {nM:List (Addr×Obj)} {σ:St} {H:Hp} {s:Shared} {l b:Addr} {xs ys zs:List V}
theorem Inv.NX {its':List Value} {n:Nat} {f:Array Value->Array Value} (I:Inv X nM σ H s) (hH:H l=some #[P9])
  (e:s.heap.get? l=some { cls:=.type "list",data:=.seq nP.toArray n }) (hf:f nP.toArray=its'.toArray) (hv:z0 ys its') (hz:ys.length<=sizeLine) :
  Inv X nM σ (nQ H l #[SZ]) { s with heap:=s.heap.update l (fk f),toks:=t' }:=by
 have q:=mM e f;rw [hf] at q;refine I.write (x:=l) (e:=l) (by rw [hH]; exact trivial) #[PD] (fun b' u hb hu=>(dv s.heap (fk f) (dW hb)).trans hu) ⟨_,q⟩ ?_;exact⟨hz,its',_,hv,q⟩
theorem Inv.Oj (I:Inv X nM σ H s) (hv:z0 ys nP) (hz:ys.length<=sizeLine) :
  Inv X nM σ (nQ H s.heap.objs.size #[SZ]) { s with heap:=s.heap.push { cls:=.type "list",data:=.seq nP.toArray },toks:=t' } :=
 I.laid (fun _ _ q=>aJ _ q) (aH _) ⟨hz,nP,0,hv,aX _ rfl⟩
theorem Inv.fresh (I:Inv X nM σ H s):H s.heap.objs.size=none:=I.hok.fresh (aH _)
theorem Inv.NC (I:Inv X nM σ H s) (hH:H l=some #[P9]):xs.length<=sizeLine/\∃ (nP:List Value) (n:Nat),z0 xs nP/\xs.length=nP.length/\s.heap.get? l=some { cls:=.type "list",data:=.seq nP.toArray n }:=by
 obtain⟨z,nP,n,r,e⟩:=I.hok l _ hH;exact⟨z,nP,n,r,r.length,e⟩
theorem zfv {n:Nat} (h:n<=sizeLine):fm n=false:=by
 unfold fm;exact decide_eq_false #[O]
end
section
variable {X:Cx}
noncomputable def zos:V->List V->Hp->VK->Prop:=fun x vs H Q=>∃ l xs y,x = .ref l/\vs = [y]/\H l=some #[P9]/\xs.length < sizeLine/\Q .non (nQ H l (.lst (xs++[y])))
theorem zcx:MtM X "list.append" zos:=by
 intro nM s σ H x vs v us Q I rx rv h;obtain⟨l,xs,y,rfl,rfl,hH,hz,q⟩:=h;cases rx;obtain⟨u,rfl,ru⟩:=rv.one;obtain⟨z,nP,n,r,hl,e⟩:=I.NC hH;refine gp lV ⟨_,e,rfl⟩ lF (kY _ _) (mh l nP.toArray n u (by rw [aS]; lia)) ⟨e,?_⟩;refine⟨.non,_,I.NX (its':=nP++[u]) hH e #[M] (r.append (.cons ru .nil)) ?_,rfl,q⟩;rw [aO,gJ];lia
noncomputable def zot:V->List V->Hp->VK->Prop:=fun x vs H Q=>∃ l b xs zs,x = .ref l/\vs = [.ref b]/\H l=some #[P9]/\H b=some (.lst zs)/\xs.length+zs.length<=sizeLine/\Q .non (nQ H l (.lst (xs++zs)))
theorem zk8:MtM X "list.extend" zot:=by
 intro nM s σ H x vs v us Q I rx rv h;obtain⟨l,b,xs,zs,rfl,rfl,hH,hB,hz,q⟩:=h;cases rx;obtain⟨u,rfl,ru⟩:=rv.one;cases ru;obtain⟨z,nP,n,r,hl,e⟩:=I.NC hH;obtain⟨z2,n9,n2,r2,qg,e2⟩:=I.NC hB;have hsz:nP.toArray.size+n9.toArray.size<=sizeLine:=by rw [aS,aS]; lia
 have uc:¬ (!nP.toArray.isEmpty && fm #[Um])=true:=by
  rw [zfv hsz,nk];exact bH
 refine gp F.slot_list_extend ⟨_,e,rfl⟩ F.entry_list_extend (F.args_list_extend_2 _ _)
  (AutoSeq1.list_extend_list_list_0 l nP.toArray n b n9.toArray n2 uc (by rw [aS]; lia) #[O]) ⟨e,e2,?_⟩
 refine⟨.non,_,I.NX (its':=nP++n9) hH e #[M] (r.append r2) ?_,rfl,q⟩;rw [aO];lia
noncomputable def zqg:V->List V->Hp->VK->Prop:=fun x vs H Q=>∃ l xs i k y,x = .ref l/\vs = [.int i]/\H l=some #[P9]/\-(2 ^ 63)<=i/\i < 2 ^ 63/\seqIndex? i xs.length=some k/\xs[k]? = some y/\Q y (nQ H l (.lst (xs.eraseIdx k)))
theorem zmr:MtM X "list.pop" zqg:=by
 intro nM s σ H x vs v us Q I rx rv h;obtain⟨l,xs,i,k,y,rfl,rfl,hH,h1,h2,hk,hy,q⟩:=h;cases rx;obtain⟨u,rfl,ru⟩:=rv.one;obtain⟨t,rfl⟩:=ru;obtain⟨z,nP,n,r,hl,e⟩:=I.NC hH;obtain⟨w,hw,qY⟩:=r.get hy;refine gp F.slot_list_pop ⟨_,e,rfl⟩ F.entry_list_pop (F.args_list_pop_2 _ _)
  (MeetsSeq.list_pop_at l nP.toArray n i t k w (fitsIndex_both h1 h2) (by rw [aS,<- hl]; exact hk) (by rw [<- cB]; exact hw) (by rw [aS]; lia)) ⟨e,?_⟩
 refine⟨y,_,I.NX (its':=nP.eraseIdx k) hH e ?_ (r.eraseIdx k) ?_,qY,q⟩
 ·show nP.toArray.eraseIdxIfInBounds k=(nP.eraseIdx k).toArray;rw [List.eraseIdxIfInBounds_toArray]
 ·have:=zgC xs k;lia
noncomputable def zr1:R2:=fun x y H Q=>∃ l b xs zs,x = .ref l/\y = .ref b/\H l=some #[P9]/\H b=some (.lst zs)/\xs.length+zs.length<=sizeLine/\∀ p,H p=none->Q #[Tg] (nQ H p (.lst (xs++zs)))
theorem zcJ:OpR X #[Rt] zr1:=by
 intro nM s σ H x y v u Q I rx ry h;obtain⟨l,b,xs,zs,rfl,rfl,hH,hB,hz,q⟩:=h;cases rx;cases ry;obtain⟨z,nP,n,r,hl,e⟩:=I.NC hH;obtain⟨z2,n9,n2,r2,qg,e2⟩:=I.NC hB;refine PySem.P.add_list e e2 ?_ (by rw [aS,aS]; lia);have ea:nP.toArray++n9.toArray=(nP++n9).toArray:=by simp
 rw [ea];exact⟨.ref _,_,I.Oj (t':=s.toks) (r.append r2) (by rw [aO]; lia),rfl,q _ I.fresh⟩
noncomputable def zqh:R2:=fun x y H Q=>∃ l k xs,x = .ref l/\y = .int k/\H l=some #[P9]/\-(2 ^ 63)<=k/\k < 2 ^ 63/\xs.length*k.toNat<=sizeLine /\
 ∀ p,H p=none->Q #[Tg] (nQ H p (.lst (aP k.toNat xs).flatten))
theorem len_rep {α:Type} (xs:List α) (k:Nat):(aP k xs).flatten.length=k*xs.length:=by
 induction k with
 | zero=>simp
 | succ k ih=>rw [dB,fW,aO,ih,lW,Nat.add_comm]
theorem zc3:OpR X (binaryOp .Mult) zqh:=by
 intro nM s σ H x y v u Q I rx ry h;obtain⟨l,k,xs,rfl,rfl,hH,h1,h2,hz,q⟩:=h;cases rx;obtain⟨t,rfl⟩:=ry;obtain⟨z,nP,n,r,hl,e⟩:=I.NC hH;have nV:nP.toArray.size*k.toNat<=sizeLine:=by rw [aS,<- hl]; exact hz
 have GF:¬ nP.toArray.size*k.toNat > (2 ^ 63 - 1) / 8:=by
  have:(sizeLine:Nat)<=(2 ^ 63 - 1) / 8:=by decide
  lia
 have GG:¬ (!Builtin.List.listFitsIndex k)=true:=by
  rw [fitsIndex_both h1 h2];exact bH
 have uc:¬ fm (nP.toArray.size*k.toNat)=true:=by
  rw [zfv nV];exact bH
 have GH:mW #[Vb] #[] (aP (if nP.toArray.isEmpty=true then 0 else k.toNat) nP.toArray)=(aP k.toNat nP).flatten.toArray:=by
  have f0:∀ m:Nat,mW #[Vb] #[] (aP m nP.toArray)=(aP m nP).flatten.toArray:=fun m=>by
   have:=foldl_rep nP m [];rw [mX] at this;exact this
  rw [f0];cases nP with
  | nil=>simp
  | cons a r'=>rw [if_neg #[M]]
 refine wpAny_binaryOp_repeat_ref (T:="list") (U:="int") #[D] ⟨_,e,rfl⟩ (fun s'=>mV s' k t) noFill_list_mul F.fills_int_mul F.slot_int_rmul repeat_list F.slot_int_index.lookup
  (gp F.slot_int_rmul (mV s k t) F.entry_int_rmul (F.args_int_rmul_2 _ _) (int___rmul___int_list k t l nP.toArray n)
   ⟨e,rfl,⟨_,e,rfl⟩,gp F.slot_list_mul ⟨_,e,rfl⟩ F.entry_list_mul (F.args_list_mul_2 _ _) (AutoListH.list___mul___list_int_3 l nP.toArray n k t GG GF uc) ⟨e,?_⟩⟩)
 rw [GH];exact⟨.ref _,_,I.Oj (t':=s.toks) (r.rep k.toNat) (by rw [len_rep,io]; exact hz),rfl,q _ I.fresh⟩
end
end L2
namespace Att
open PySem PySem.W PySem.Calls PyProof.Rows
theorem zeP {P:Params} {h:Heap}:∀ (ns:List Int) (vs:List Value),WellAll P h vs (ns.map WData.int)->IntsAre vs ns:=by
 intro ns;induction ns with
 | nil =>
  intro vs w;rw [jb] at w;cases w;exact .nil
 | cons n ns ih =>
  intro vs w;rw [bV] at w;cases w with
  | cons a b =>
   cases a;exact .cons _ _ (ih _ b)
theorem zk9 {l:OpenLaw} {n:Nat} (hn:l.most=some n) {P:Params} {h:Heap} {args:List WData} {vals:List Value}
  (yX:l.row.toRowW.claim.pre args=true) (BE:WellAll P h vals args) :
  ∃ a vs ns,vals = [bP a]/\args = [WData.list (ns.map WData.int)]/\h.get? a=some { cls:=.type "list",data:=.seq vs.toArray }/\IntsAre vs ns/\ns.length<=n:=by
 have hsh:WShape.hasAll [] args [.list .int]=true:=(pre_splitW yX).1;have hc:l.pre.holds [] { args:=args }=true:=(pre_splitW yX).2;obtain⟨d,r,rfl,h1,h2⟩:=hasAllW_cons hsh;obtain rfl:=hasAllW_nil h2;obtain⟨xs,rfl,h3⟩:=hasW_list h1;obtain⟨ns,rfl⟩:=items_int h3;have nV:ns.length<=n:=by
  unfold OpenLaw.pre at hc;have h4:(WTm.not (.lt (.lit (.int (n:Int))) (.len (.arg 0)))).holds [] { args:=[.list (ns.map .int)] }=true:=by
   have h4:=(holds_andW hc).1;rw [hn] at h4;exact h4
  have h5:=condW_of h4 (w_not (w_lt w_lit (w_len_list (w_arg rfl))));rw [aA] at h5;refine Nat.le_of_not_lt fun q=>?_
  have q':(n:Int) < ((ns.length:Nat):Int):=by lia
  first
   | (rw [decide_eq_true q'] at h5; exact absurd h5 #[D])
   | (simp at h5; lia)
 cases BE with
 | cons w1 w2 =>
  cases w2;cases w1 with
  | list ho rX=>exact⟨_,_,ns,rfl,rfl,ho,zeP ns _ rX,nV⟩
theorem zla (l:OpenLaw) (args:List WData):l.row.toRowW.claim.post args #[Ra] args=true :=
 postW_of (r:=l.row.toRowW) (X:=(true == true))
  (show WShape.has [] #[Ra] .bool=true by first | rfl | decide | simp [WShape.has,WShape.arms,WShape.armsAll])
  (show (WTm.eq .res (.lit #[Ra])).value [] { args:=args,res:=some #[Ra],after:=args }=some (.bool (true == true)) from w_eq_bool (w_res rfl) w_lit) rfl
theorem MW {l:OpenLaw} {n:Nat} {q:Program} {loose:List Str} {XP:#[UI]->Heap->Prop} {YP:World->Heap->Prop} {d:DefRec}
  (hn:l.most=some n) (Dz:d.params.defaults = [])
  (call:∀ (w:World) (s₀ s₁:Shared) (mg mb:Str->Option Value) (fa:Addr) (o:Obj) (pm cd doc:Value) (a:Addr) (vs:List Value) (ns:List Int),
   Ground q loose [] XP w s₀ mg mb s₁.heap->YP w s₁.heap ->
   s₁.heap.get? fa=some o->o.data = .func (docDef d.name d.params d.body d.scope pm cd doc)->s₁.heap.CodeRec cd d.name->mg d.name=some #[SY] ->
   s₁.heap.get? a=some { cls:=.type "list",data:=.seq vs.toArray }->IntsAre vs ns->ns.length<=n->s₁.gens = #[] ->
   codeAny (model l.prog w) callerA (.call #[SY] ⟨[.ref a],[]⟩) (fun r s'=>r = .ok (.ret #[Ra])/\OldK s₁.heap s'.heap/\s'.os=s₁.os/\AllBare s'.gens) s₁) :
  WalkO q loose XP YP l.row.toRowW d [] #[UF]:=by
 intro w s₀ s₁ mg mb G Y fa o pm cd doc dV kV ho hd vV hD vX hg args vals as yX hlay hrd BE rY;obtain rfl:dV = .none:=Dflts.none hD Dz;obtain rfl:kV = .none:=Dflts.noKw hD;obtain⟨a,vs,ns,rfl,rfl,BF,hints,nV⟩:=zk9 hn yX BE;refine enter_call (lP (call w s₀ s₁ mg mb fa o pm cd doc a vs ns G Y ho (fd_plain hd) vV vX BF hints nV hg) fun r s' hq=>?_);obtain⟨rfl,h2,h3,h4⟩:=hq;exact⟨.inl ⟨.bool true,.bool true,[],rfl,fun _=>rfl,.bool true,zla l _,fun _=>⟨jI,fun _ hm=>(nomatch hm)⟩⟩,h2,h3,h4⟩
end Att
namespace L2
open PySem PySem.Spec PyProof.Rows
variable {CX:CXT} {H H' H1 H2:Hp} {K:aF} {P:Program} {an od:Option Addr} {ct oc pm:Value} {fd:FuncData} {k:Nat} {mg:Str->Option Value} {ns:List Int} {qual:Str} {sp:Sp} {vs:List Value} {w:World}
theorem zgD:∀ {vs:List Value} {ns:List Int},IntsAre vs ns->z0 #[Cl] vs
 | _,_,.nil=>.nil
 | _,_,.cons n t h=>.cons ⟨t,rfl⟩ (zgD h)
noncomputable def zqi (H:Hp):Prop:=∀ b,H b=none\/∃ o xs,H b=some (.frz o #[P9])
theorem zms {mb:Str->Option Value} {fa a:Addr} {x:Str} {s₁:Shared} 
  (KX:K.In s₁.heap) (vH:s₁.heap.Ns mainGlobals mg) (hb:s₁.heap.Ns builtinsNs mb) (hbb:∀ x:Str,x≠"__name__"->mb x=bootBuiltins x) (GI:s₁.heap.NoLimit) (hg:s₁.gens = #[])
  (ha:s₁.heap.get? a=some { cls:=.type "list",data:=.seq vs.toArray }) (hi:IntsAre vs ns) (hl:ns.length<=sizeLine) (hr:MM k callerA)
  (F:∀ base:Heap,K.In base->base.Ns mainGlobals mg->Kn P w K mg base CX k fa fd [x] sp) (DA:∀ (s:Shared) (u:Value),BindsTo s fd ⟨[u],[]⟩ [(x,u)])
  (yG:∀ H:Hp,zqi H->nO K H a #[Cl]->sp [.ref a] H (fun v _=>v = .bl true) fun _ _ _=>False)
  (GJ:∀ H e s',CX [] H s₁ (fun _ _ _=>False) e s'->False) :
  codeAny #[Su] callerA (.call #[SY] ⟨[.ref a],[]⟩) (fun r s'=>r = .ok (.ret #[Ra])/\OldK s₁.heap s'.heap/\s'.os=s₁.os/\AllBare s'.gens) s₁:=by
 have rv:=zgD hi;have GL:=hi.length;have core:∀ H:Hp,zqi H->nO K H a #[Cl]->HOk P w H s₁.heap->(∀ b,H b≠none->b=a)->(H a≠none->K.lookup a=none) ->
   codeAny #[Su] callerA (.call #[SY] ⟨[.ref a],[]⟩) (fun r s'=>r = .ok (.ret #[Ra])/\OldK s₁.heap s'.heap/\s'.os=s₁.os/\AllBare s'.gens) s₁:=by
  intro H hO hS hok hA hK;have vI:∀ {b:Addr} {o:Obj},s₁.heap.get? b=some o->H b=none->#[Rx].get? b=some o:=fun e n=>zmf e n
  have BC:∀ {b:Addr} {o:Obj} {es:Array DictEntry} {ep:Nat},s₁.heap.get? b=some o->o.data = .dict es ep->H b=none:=fun {b o es ep} e d=>by
   cases q:H b with
   | none=>rfl
   | some u =>
    have e':b=a:=hA b (by rw [q]; simp);subst e';rw [ha] at e; cases e;have d':Data.seq vs.toArray _=Data.dict es ep:=d;cases d'
  have Fs:∀ {b:Addr} {m:Str->Option Value},s₁.heap.Ns b m->#[Rx].Ns b m:=fun {b m} ⟨o,es,ep,e,d,r⟩=>⟨o,es,ep,vI e (BC e d),d,r⟩
  have hKb:K.In #[Rx]:=fun b o e=>vI (KX b o e) (by
   cases q:H b with
   | none=>rfl
   | some u =>
    have e':b=a:=hA b (by rw [q]; simp);subst e';rw [hK (by rw [q]; simp)] at e; cases e)
  have hM:Mod K mg #[Rx]:=⟨hKb,Fs vH,⟨mb,Fs hb,hbb⟩,let ⟨mc,h1,h2⟩:=GI; ⟨mc,Fs h1,h2⟩⟩;have e0:N1 P w K mg #[Rx] callerA [] s₁ H:=⟨rfl,hM,fun b o e=>zoi e,Nat.le_of_eq (zk2 _ _),trivial,fun b hb=>absurd (show b∈([]:List Addr) from hb) #[M],hok,.of_eq hg⟩;refine lP ((F _ hKb (Fs vH)).run callerA [] s₁ H ⟨[.ref a],[]⟩ [.ref a] [.ref a] _ _ hr e0 (DA s₁ #[Pn]) (.cons rfl .nil) (yG H hO hS)) fun r s' h=>?_
  cases r with
  | error e=>exact (GJ H e s' h).elim
  | ok fl =>
   cases fl with
   | next=>exact fZ h
   | brk=>exact fZ h
   | cont=>exact fZ h
   | ret u =>
    obtain⟨v,H',os,bare,un,GN,r',q⟩:=h;have q':v = .bl true:=q;subst q';obtain rfl:u=kT true:=r';refine⟨rfl,OldK.of_keep fun b o e=>?_,os,bare⟩;cases q:H b with
    | none=>exact un.keep b o e q (by intro z; exact absurd (show b∈([]:List Addr) from z) #[M]) #[M]
    | some u =>
     rcases hO b with z | ⟨ob,xs,z⟩
     ·rw [q] at z; cases z
     ·have z2:=un.Nl b ob _ z;obtain⟨e1,_⟩:=hok b _ z;obtain⟨e2,_⟩:=GN b _ z2;rw [e] at e1; cases e1;exact e2
 cases hk:K.lookup a with
 | some o =>
  have e:=KX a o hk;rw [ha] at e;cases e;refine core (fun _=>none) (fun _=>.inl rfl) (.inr ⟨_,vs.toArray,_,hk,rfl,rfl,rfl,by rw [aS,GL]; exact hl,by simpa using rv⟩) (fun b u z=>by have z':(none:Option HO)=some u:=z; cases z') (fun b z=>absurd rfl z) fun z=>absurd rfl z
 | none =>
  refine core (fun b=>if b=a then some (.frz { cls:=.type "list",data:=.seq vs.toArray } (.lst #[Cl])) else none) (fun b=>?_) (.inl (.inr ⟨{ cls:=.type "list",data:=.seq vs.toArray },if_pos rfl⟩)) (fun b u z=>?_) (fun b z=>?_) fun _=>hk
  ·by_cases hb:b=a
   ·exact .inr ⟨_,_,if_pos hb⟩
   ·exact .inl (if_neg hb)
  ·by_cases hb:b=a
   ·have z':=(if_pos hb).symm.trans z;cases z';subst hb;exact⟨ha,by rw [aA]; exact hl,vs,_,rv,ha⟩
   ·have z':=(if_neg hb).symm.trans z;cases z'
  ·by_cases hb:b=a
   ·exact hb
   ·exact absurd (if_neg hb) z
theorem zou {l:kd} {n:Nat} {q:Program} {loose:List Str} {XP:#[UI]->Heap->Prop} {YP:World->Heap->Prop} {d:DefRec} {K:Params->aF} {CX:World->CXT} {sp:World->Sp} {x:Str}
  (hn:l.most=some n) (uO:n<=sizeLine) (Dz:d.params.defaults = []) (hr:MM k callerA)
  (hY:∀ (w:World) (h:Heap),YP w h->#[Qt].In h)
  (F:∀ (w:World) (mg:Str->Option Value) (fa:Addr) (h:Heap),#[Qt].In h->h.Ns mainGlobals mg->mg d.name=some #[SY] ->
   ∃ fd:FuncData,(∀ (s:Shared) (u:Value),BindsTo s fd ⟨[u],[]⟩ [(x,u)]) /\
    ∀ base:Heap,#[Qt].In base->base.Ns mainGlobals mg->Kn l.prog w #[Qt] mg base (CX w) k fa fd [x] (sp w))
  (yG:∀ (w:World) (H:Hp) (a:Addr) (ns:List Int),ns.length<=n->zqi H->nO #[Qt] H a #[Cl]->sp w [.ref a] H (fun v _=>v = .bl true) fun _ _ _=>False)
  (GJ:∀ (w:World) (H:Hp) (s:Shared) (e:Value) (s':Shared),CX w [] H s (fun _ _ _=>False) e s'->False) :
  nF q loose XP YP l.row.toRowW d [] #[UF]:=by
 refine Att.MW hn Dz fun w s₀ s₁ mg mb fa o pm cd doc a vs ns G Y ho hd vV vX BF hints nV hg=>?_
 have KX:=hY w _ Y;obtain⟨fd,hb,hF⟩:=F w mg fa _ KX G.T.g vX;exact zms KX G.T.g G.T.b G.T.builtins G.T.nolimit hg BF hints (bX nV uO) hr hF hb (fun H hO hS=>yG w H a ns nV hO hS) fun H e s'=>GJ w H s₁ e s'
noncomputable def zcd (s:Stmt):Arguments:=match s with
 | .FunctionDef _ a _ _ _ _ _ _ _ _=>a
 | _=>{ posonlyargs:=[],args:=[],vararg:=none,kwonlyargs:=[],kw_defaults:=[],kwarg:=none,defaults:=[] }
noncomputable def zbV (s:Stmt):List Stmt:=match s with
 | .FunctionDef _ _ b _ _ _ _ _ _ _=>b
 | _=>[]
noncomputable def zi (s:Stmt):Scope:=match s with
 | .FunctionDef _ _ _ _ _ _ sc _ _ _=>sc
 | _=>{ kind:=.function,names:=[],isGenerator:=false,isCoroutine:=false }
abbrev CX0:CXT:=fun _ _ _ _ _ _=>False
abbrev E0:XK:=fun _ _ _=>False
theorem zK {X:Cx}:zjg CX0 X E0:=fun _ _ _ _ _ _ _ h=>h.elim
structure Fun (K:aF) (x qual:Str) (st:Stmt) (f:Addr) (fd:FuncData):Prop where
 ex:∃ (oc:Value) (od:Option Addr) (kV doc pm:Value) (an:Option Addr) (oh ct:Value) (AV:Array #[R3]),
  fd=fj x qual (zcd st) (zbV st) (zi st) .none kV doc pm an oh ct/\K.lookup f=some ⟨oc,od,.func fd,AV⟩/\iz K oh qual=true
 kp:iw K #[U0]=true
section
variable {P:Program} {w:World} {K:aF} {mg:Str->Option Value} {base:Heap}
theorem Fun.ok {x:Str} {st:Stmt} {f:Addr} {N ps:List Str} (F:Fun K x qual st f fd) (S:Kf N ps (zi st)) (len:∀ vs H Q E,sp vs H Q E->vs.length=ps.length)
  (xC:∀ (oh:Value) (A:Around) (outer:List Env) (s:Shared) (H:Hp) (vs:List V) (Q:VK) (E:XK),MM k (A.deeper (envOfC qual (zi st) s.heap.objs.size f oh))->sp vs H Q E ->
   ∃ t,PSs (zk6 CX0 P w K mg base N qual (zi st) f oh A outer s H E).nox (zbV st) t/\t { nx:=fun _ H'=>Q .non H',rt:=Q } #[Ut] H):Kn P w K mg base CX0 (k+1) f fd ps sp:=by
 obtain⟨oc,od,kV,doc,pm,an,oh,ct,AV,rfl,lk,vV⟩:=F.ex;refine zrh lk vV S len fun A outer s H vs Q E hr yG=>?_
 obtain⟨t,h,q⟩:=xC oh A outer s H vs Q E hr yG;exact⟨t,h.nox,q⟩
theorem Fun.binds {x:Str} {st:Stmt} {f:Addr} {ps:List Str} (F:Fun K x qual st f fd)
  (h:∀ (kV doc pm:Value) (an:Option Addr) (oh ct:Value) (us:List Value),us.length=ps.length->bindArgs #[OU] ⟨us,[]⟩=pure #[VQ]):Binds K fd ps []:=by
 obtain⟨oc,od,kV,doc,pm,an,oh,ct,AV,rfl,lk,vV⟩:=F.ex;exact .all (h kV doc pm an oh ct)
theorem zmt {x:Str} {st:Stmt} {f:Addr} {AV:Array #[R3]} {kV doc oh:Value} (l:K.lookup f=some ⟨oc,od,.func #[OU],AV⟩)
  (c:iz K oh qual=true) (k:iw K #[U0]=true):Fun K x qual st f #[OU]:=⟨⟨oc,od,kV,doc,pm,an,oh,ct,AV,rfl,l,c⟩,k⟩
end
theorem zg3 {A B:Prop} (h:B):if false=true then A else B:=by
 rw [if_neg bH];exact h
theorem zlb {A B:Prop} (h:A):if true=true then A else B:=by
 rw [if_pos rfl];exact h
theorem zaR {c A B:Prop} [Decidable c] (h1:c->A) (h2:¬ c->B):if c then A else B:=by
 by_cases h:c
 ·rw [if_pos h];exact h1 h
 ·rw [if_neg h];exact h2 h
noncomputable def zr (H H':Hp):Prop:=∀ b o,H b=some o->H' b=some o
theorem zr.trans (a:zr H H1) (b:zr H1 H2):zr H H2:=fun c o h=>b c o (a c o h)
theorem zr.free (e:zr H H') {l:Addr} (h:H' l=nK):H l=nK:=by
 cases q:H l with
 | none=>rfl
 | some o =>
  rw [e l o q] at h;cases h
theorem zr.seq {a:Addr} {xs:List V} (e:zr H H') (h:nO K H a xs):nO K H' a xs:=by
 rcases h with (h | ⟨o,h⟩) | h
 ·exact .inl (.inl (e _ _ h))
 ·exact .inl (.inr ⟨o,e _ _ h⟩)
 ·exact .inr h
end L2
section
namespace L2
open PySem
abbrev Ends.n (D:Ends) (N:St->Hp->Prop):Ends:={ D with nx:=N }
section
variable {r1 r2 r3 r4 r5 r6 r7 r8 r9 r10 r11 r12 r13 r14 r15:TS} {D:Ends} {σ:St} {H:Hp}
theorem zlc (h:let N2:=r2 D; r1 (D.n N2) σ H):(zaY r1 r2) D σ H:=h
theorem zep (h:let N3:=r3 D; let N2:=r2 (D.n N3); r1 (D.n N2) σ H):(zaY r1 (zaY r2 r3)) D σ H:=h
theorem zg4 (h:let N4:=r4 D; let N3:=r3 (D.n N4); let N2:=r2 (D.n N3); r1 (D.n N2) σ H):(zaY r1 (zaY r2 (zaY r3 r4))) D σ H:=h
theorem zmu (h:let N5:=r5 D; let N4:=r4 (D.n N5); let N3:=r3 (D.n N4); let N2:=r2 (D.n N3); r1 (D.n N2) σ H):(zaY r1 (zaY r2 (zaY r3 (zaY r4 r5)))) D σ H:=h
theorem zro (h:let N6:=r6 D; let N5:=r5 (D.n N6); let N4:=r4 (D.n N5); let N3:=r3 (D.n N4); let N2:=r2 (D.n N3); r1 (D.n N2) σ H):(zaY r1 (zaY r2 (zaY r3 (zaY r4 (zaY r5 r6))))) D σ H:=h
theorem zrp (h:let N7:=r7 D; let N6:=r6 (D.n N7); let N5:=r5 (D.n N6); let N4:=r4 (D.n N5); let N3:=r3 (D.n N4); let N2:=r2 (D.n N3); r1 (D.n N2) σ H):(zaY r1 (zaY r2 (zaY r3 (zaY r4 (zaY r5 (zaY r6 r7)))))) D σ H:=h
theorem zqj (h:let N8:=r8 D; let N7:=r7 (D.n N8); let N6:=r6 (D.n N7); let N5:=r5 (D.n N6); let N4:=r4 (D.n N5); let N3:=r3 (D.n N4); let N2:=r2 (D.n N3); r1 (D.n N2) σ H):(zaY r1 (zaY r2 (zaY r3 (zaY r4 (zaY r5 (zaY r6 (zaY r7 r8))))))) D σ H:=h
theorem zrq (h:let N11:=r11 D; let N10:=r10 (D.n N11); let N9:=r9 (D.n N10); let N8:=r8 (D.n N9); let N7:=r7 (D.n N8); let N6:=r6 (D.n N7); let N5:=r5 (D.n N6); let N4:=r4 (D.n N5); let N3:=r3 (D.n N4); let N2:=r2 (D.n N3); r1 (D.n N2) σ H):(zaY r1 (zaY r2 (zaY r3 (zaY r4 (zaY r5 (zaY r6 (zaY r7 (zaY r8 (zaY r9 (zaY r10 r11)))))))))) D σ H:=h
theorem zaJ {X0:Cx} {B:List PySem.Stmt} (h:let X:=X0; ∃ t,PSs X B t/\t D σ H):∃ t,PSs X0 B t/\t D σ H:=h
end
end L2
end
section
namespace L2
open PySem PySem.Spec PyProof.Rows
variable {A:Around} {H:Hp} {J:It} {M:Model} {X:Cx} {env:Env} {g:TG} {nM:List (Addr×Obj)} {qual:Str} {s:Shared} {scope:Scope} {te:TE} {ts:TT}
noncomputable def zaB (cs:List (Str×Addr)):List (Str×NameKind)->List (Str×Addr)->List (Str×Addr)
 | [],acc=>acc
 | (n,k) :: r,acc=>if k == .free then zaB cs r ((n,(cs.lookup n).getD 0) :: acc) else zaB cs r acc
theorem zdC (h:∀ y∈scope.names,y.2 = .free->∃ c,env.cells.lookup y.1=some c) :
  closureFor scope env=pure (zaB env.cells scope.names []):=by
 have go:∀ (names:List (Str×NameKind)) (acc:List (Str×Addr)),(∀ y∈names,y.2 = .free->∃ c,env.cells.lookup y.1=some c) ->
   (forIn names acc (fun (x:Str×NameKind) (cs:List (Str×Addr))=>(if (x.2 == dm)=true then do
    let a <- cellOf env x.1
    pure (dP ((x.1,a) :: cs)) else pure (dP cs):Sem (ForInStep (List (Str×Addr))))))=(pure (zaB env.cells names acc):Sem _):=by
  intro names;induction names with
  | nil=>intro acc _; rfl
  | cons y r ih =>
   intro acc hy;obtain⟨n,k⟩:=y;rw [gq];cases hk:(k == dm) with
   | true =>
    obtain⟨c,hc⟩:=hy (n,k) bL (by simpa using hk);have qG:cellOf env n=pure c:=by
     unfold cellOf;have nX:env.cells.lookup n=some c:=hc;rw [nX]
    simp only [hk,if_true,qG];have e:=ih ((n,c) :: acc) fun y yY=>hy y (aZ _ yY)
    have nX:env.cells.lookup n=some c:=hc;simp only [zaB,hk,if_true,nX,gd];exact e
   | false =>
    simp only [hk,ck,if_false];have e:=ih acc fun y yY=>hy y (aZ _ yY)
    simp only [zaB,hk,ck,if_false];exact e
 have e:=go scope.names [] h;unfold closureFor;show (forIn scope.names [] _ >>= fun cs=>pure cs)=_
 first
  | (rw [e]; rfl)
  | (simp only []; rw [e]; rfl)
  | (have e':=e; simp at e' |-; exact e')
theorem zcn {cs:List (Str×Addr)}:∀ (names:List (Str×NameKind)) (acc:List (Str×Addr)),
  (∀ y∈names,y.2 = .free->∃ c,cs.lookup y.1=some c)->(∀ x c,acc.lookup x=some c->cs.lookup x=some c) ->
  ∀ x c,(zaB cs names acc).lookup x=some c->cs.lookup x=some c
 | [],acc,_,h,x,c,e=>h x c e
 | (n,k) :: r,acc,hy,h,x,c,e=>by
  have hr:∀ y∈r,y.2 = .free->∃ c,cs.lookup y.1=some c:=fun y yY=>hy y (aZ _ yY)
  unfold zaB at e;cases hk:(k == dm) with
  | false =>
   rw [hk] at e;exact zcn r acc hr h x c e
  | true =>
   rw [hk] at e;obtain⟨d,hd⟩:=hy (n,k) bL (by simpa using hk);have CN:cs.lookup n=some d:=hd;refine zcn r _ hr (fun x c e'=>?_) x c e;rw [CN,gd,cm] at e';cases hx:(x == n) with
   | true =>
    rw [hx] at e';have:x=n:=by simpa using hx
    subst this;rw [CN];exact e'
   | false =>
    rw [hx] at e';exact h x c e'
theorem zcK {cs:List (Str×Addr)}:∀ (names:List (Str×NameKind)) (acc:List (Str×Addr)) (x:Str),
  ((∃ c,acc.lookup x=some c)\/(x,dm)∈names)->∃ c,(zaB cs names acc).lookup x=some c
 | [],acc,x,h=>by
  rcases h with h | h
  ·exact h
  ·cases h
 | (n,k) :: r,acc,x,h=>by
  unfold zaB;cases hk:(k == dm) with
  | false =>
   refine zcK r acc x ?_;rcases h with h | h
   ·exact .inl h
   ·rcases aV.mp h with h | h
    ·cases h;exact absurd hk #[D]
    ·exact .inr h
  | true =>
   refine zcK r _ x ?_;cases hx:(x == n) with
   | true=>exact .inl ⟨_,by rw [cm,hx]⟩
   | false =>
    rcases h with ⟨c,h⟩ | h
    ·exact .inl ⟨c,by rw [cm,hx]; exact h⟩
    ·rcases aV.mp h with h | h
     ·cases h;simp at hx
     ·exact .inr h
theorem lookup_mem {α:Type}:∀ {l:List (Str×α)} {x:Str} {k:α},l.lookup x=some k->(x,k)∈l
 | [],x,k,h=>by simp at h
 | (n,j) :: r,x,k,h=>by
  rw [cm] at h;cases hx:(x == n) with
  | true =>
   rw [hx] at h;have:x=n:=by simpa using hx
   subst this;cases h;exact bL
  | false =>
   rw [hx] at h;exact aZ _ (lookup_mem h)
theorem zbS {env:Env}:∀ {names:List (Str×NameKind)} {x:Str},names.lookup x=some .free ->
  (names.map fun (n,k)=>if (k == dm && env.scope.kind == .function && env.kindOf n == some .cell) then (n,eL) else (n,k)).lookup x=some .cell \/
  (names.map fun (n,k)=>if (k == dm && env.scope.kind == .function && env.kindOf n == some .cell) then (n,eL) else (n,k)).lookup x=some .free
 | [],_,h=>by simp at h
 | (n,k) :: r,x,h=>by
  have ih:=@zbS env r x;simp only [bV];cases hx:x == n with
  | true =>
   simp only [cm,hx] at h; cases h;by_cases hc:(dm == dm && env.scope.kind == .function && env.kindOf n == some .cell)=true
   ·rw [if_pos hc]; left; simp only [cm,hx]
   ·rw [if_neg hc]; right; simp only [cm,hx]
  | false =>
   simp only [cm,hx] at h; rcases lX ((k == dm && env.scope.kind == .function && env.kindOf n == some .cell)=true) with hc | hc
   ·exact (by rw [if_pos hc]; simp only [cm,hx]; exact ih h)
   ·exact (by rw [if_neg hc]; simp only [cm,hx]; exact ih h)
theorem zdQ {env:Env}:∀ {names:List (Str×NameKind)} {x:Str},
  ((names.map fun (n,k)=>if (k == dm && env.scope.kind == .function && env.kindOf n == some .cell) then (n,eL) else (n,k)).lookup x=some .cell \/
  (names.map fun (n,k)=>if (k == dm && env.scope.kind == .function && env.kindOf n == some .cell) then (n,eL) else (n,k)).lookup x=some .free) ->
  names.lookup x=some .free\/names.lookup x=some .cell
 | [],_,h=>by simp at h
 | (n,k) :: r,x,h=>by
  have ih:=@zdQ env r x;simp only [bV] at h;cases hx:x == n with
  | true =>
   rcases lX ((k == dm && env.scope.kind == .function && env.kindOf n == some .cell)=true) with hc | hc
   ·have hk:k = .free:=by
     simp only [eS] at hc; simpa using hc.1.1
    subst hk;exact .inl (by simp only [cm,hx])
   ·rw [if_neg hc] at h;simp only [cm,hx] at h |-;rcases h with h | h
    ·exact .inr h
    ·exact .inl h
  | false =>
   rcases lX ((k == dm && env.scope.kind == .function && env.kindOf n == some .cell)=true) with hc | hc
   ·rw [if_pos hc] at h;simp only [cm,hx] at h |-;exact ih h
   ·rw [if_neg hc] at h;simp only [cm,hx] at h |-;exact ih h
theorem zg5:∀ (names:List (Str×NameKind)) (n:Nat) (acc:List (Str×Addr)) (x:Str),(x,eL)∉names->(cellsFrom n names acc).lookup x=acc.lookup x
 | [],_,_,_,_=>rfl
 | (y,k) :: r,n,acc,x,h=>by
  have hr:(x,eL)∉r:=fun z=>h (aZ _ z)
  unfold cellsFrom;split
  ·rename_i hk
   have yH:k = .cell:=by simpa using hk
   rw [zg5 r _ _ x hr,cm];cases hx:(x == y) with
   | true =>
    have:x=y:=by simpa using hx
    subst this;subst yH;exact absurd bL h
   | false=>rfl
  ·exact zg5 r _ _ x hr
theorem zg6:∀ (names:List (Str×NameKind)) (n:Nat) (acc:List (Str×Addr)) (x:Str),(x,eL)∈names->∃ c,(cellsFrom n names acc).lookup x=some c/\n<=c
 | (y,k) :: r,n,acc,x,h=>by
  by_cases hr:(x,eL)∈r
  ·unfold cellsFrom;split
   ·obtain⟨c,e,l⟩:=zg6 r (n+1) ((y,n) :: acc) x hr;exact⟨c,e,#[O]⟩
   ·exact zg6 r n acc x hr
  ·rcases aV.mp h with e | e
   ·cases e;unfold cellsFrom;rw [if_pos #[D],zg5 r _ _ _ hr,cm,beq_self_eq_true];exact⟨n,rfl,aH _⟩
   ·exact absurd e hr
structure CO (h:Heap) (lo:Nat) (old cs:List (Str×Addr)):Prop where
 each:∀ x c,cs.lookup x=some c->(h.IsCell c none/\lo<=c)\/(old.lookup x=some c/\c < lo)
 inj:∀ x y c,cs.lookup x=some c->cs.lookup y=some c->x=y
theorem zmv {lo:Nat} {old:List (Str×Addr)}:∀ (names:List (Str×NameKind)) (h:Heap) (acc:List (Str×Addr)),CO h lo old acc->lo<=h.objs.size->CO (pushCells h names) lo old (cellsFrom h.objs.size names acc)
 | [],_,_,a,_=>a
 | (y,k) :: r,h,acc,a,hl=>by
  unfold pushCells cellsFrom;split
  ·have lt:∀ x c,acc.lookup x=some c->c < h.objs.size:=fun x c e=>(a.each x c e).elim (fun z=>z.1.lt) fun z=>cA z.2 hl
   have key:∀ x c,kA x ((y,h.objs.size) :: acc)=some c->(x=y/\c=h.objs.size)\/acc.lookup x=some c:=fun x c e=>by
    rw [cm] at e;cases hx:(x == y) with
    | true =>
     rw [hx] at e;exact .inl ⟨by simpa using hx,(bK e).symm⟩
    | false =>
     rw [hx] at e;exact .inr e
   have:=zmv (lo:=lo) (old:=old) r (h.push { cls:=.type "cell",data:=.cell none }) ((y,h.objs.size) :: acc) ⟨fun x c e=>?_,fun x z c e1 e2=>?_⟩ (by rw [cM]; lia)
   ·rw [cM] at this;exact this
   ·rcases key x c e with ⟨_,rfl⟩ | e
    ·exact .inl ⟨⟨_,aX _ rfl,rfl⟩,hl⟩
    ·rcases a.each x c e with z | z
     ·exact .inl ⟨z.1.keeps fun b o e=>aJ _ e,z.2⟩
     ·exact .inr z
   ·rcases key x c e1 with ⟨p1,q1⟩ | f1 <;> rcases key z c e2 with ⟨p2,q2⟩ | f2
    ·exact p1.trans p2.symm
    ·exact absurd (lt _ _ f2) (by rw [q1]; exact de _)
    ·exact absurd (lt _ _ f1) (by rw [q2]; exact de _)
    ·exact a.inj x z c f1 f2
  ·exact zmv r h acc a hl
theorem zld {E:Value->Shared->Prop} {globals:Addr} {closure:List (Str×Addr)} {Q:Env->Shared->Prop}
  (h:Q (newEnv scope s.heap.objs.size globals (cellsFrom #[Fa] scope.names closure) qual none .none (some env) builtinsNs) { s with heap:=pushCells (s.heap.push { cls:=.type "dict",data:=.dict #[] }) scope.names }) :
  wpAny M A (newFunctionEnv scope globals closure [] qual none .none (some env)) Q E s:=by
 (simp only [newFunctionEnv,lY,if_true])
 (refine aB (wpAny_alloc ?_))
 (refine aB (wpAny_layCells _ (fun name kind cells=>by cases GO:kind == eL <;> simp [GO]) _ _ _ _ ?_))
 rw [show ({ s with heap:=s.heap.push { cls:=.type "dict",data:=.dict #[] } }:Shared).heap.objs.size=s.heap.objs.size+1 from cM ..]
 (exact aB (aK (aK h)))
abbrev zY (X:Cx) (N':List Str) (scope:Scope) (s₃:Shared) (H₃:Hp) (ex:List Addr) (nM:List (Addr×Obj)):Cx :=
 { X with N:=N',s₀:=s₃,H₀:=H₃,env:=compEnvC scope (cellsFrom (s₃.heap.objs.size+1) scope.names (zaB X.env.cells scope.names [])) s₃.heap.objs.size X.env,outer:=X.stack,stack:=X.stack,ex:=ex,fn:=fun x=>scope.names.lookup x == some .cell,pn:=X.pn++nM,xe:=fun _ _=>False }
noncomputable def zjk (ifs:List Expr) (env:Env):Sem Bool :=
 forIn ifs true fun c r=>if r=true then do let ok <- isTrue c env (eval c env); pure (dP ok) else pure (dP r)
noncomputable def zdR (X:Cx) (ifs:List Expr) (t:TT):Prop :=
 ∀ (nM:List (Addr×Obj)) (s:Shared) (σ:St) (H:Hp) (Q:Bool->Hp->Prop),Inv X nM σ H s->t σ H Q->wpAny #[pi] X.A (zjk ifs X.env) #[Uw] X.xe s
noncomputable def zov:TT:=fun _ H Q=>Q true H
theorem zt {X:Cx}:zdR X [] zov:=fun _ _ _ H _ I h=>aK ⟨H,I,h⟩
theorem zb5 {X:Cx} {c:Expr} {t:TT} (h:PT X c t):zdR X [c] t:=by
 intro nM s σ H Q I hw;unfold zjk;rw [gq];simp only [if_true];exact aB (aB (thn #[Tv] fun b s1 q=>aK (aK q)))
structure Kg (X:Cx) (N':List Str) (ix:List #[OE]) (scope:Scope):Prop where
 kind:scope.kind = .function
 cells:∀ y∈scope.names,y.2 = .cell->scope.names.lookup y.1=some .cell
 names:∀ y∈scope.names,y.2 = .local->scope.names.lookup y.1=some .local
 free:∀ y∈scope.names,y.2 = .free->X.env.kindOf y.1=some .cell\/X.env.kindOf y.1=some .free
 len:N'.length=ix.length
 cap:∀ j i:Nat,ix[j]? = some (some i)->∃ x,N'[j]? = some x/\X.N[i]? = some x/\scope.names.lookup x=some .free
noncomputable def zka (CQ:Scope) (oN N':List Str) (ix:List #[OE]) (scope:Scope):Bool :=
 (scope.kind == .function) && (scope.names.all fun y=>y.2 != .cell || scope.names.lookup y.1 == some .cell) && (scope.names.all fun y=>y.2 != .local || scope.names.lookup y.1 == some .local) &&
 (scope.names.all fun y=>y.2 != .free || (CQ.names.lookup y.1 == some .cell || CQ.names.lookup y.1 == some .free)) && (N'.length == ix.length) &&
 ((bM ix.length).all fun j=>match ix[j]? with
  | some (some i)=>(match N'[j]? with
   | some x=>oN[i]? == some x && scope.names.lookup x == some .free
   | none=>false)
  | _=>true)
theorem Kg.of {N':List Str} {ix:List #[OE]} (CQ:Scope) (oN:List Str) (h1:X.env.scope=CQ) (h2:X.N=oN) (hb:zka CQ oN N' ix scope=true):Kg X N' ix scope:=by
 unfold zka at hb;simp only [eS,ge] at hb;obtain⟨⟨⟨⟨⟨a,b⟩,c⟩,d⟩,e⟩,f⟩:=hb;refine⟨?_,fun y hy hl=>?_,fun y hy hl=>?_,fun y hy hf=>?_,by simpa using e,fun j i hj=>?_⟩
 ·revert a
  cases scope.kind <;> first | (intro _; rfl) | (intro h; exact absurd h #[D])
 ·have:=b y hy;rw [hl] at this;simpa using this
 ·have:=c y hy;rw [hl] at this;simpa using this
 ·have:=d y hy;rw [hf] at this;have e1:X.env.kindOf y.1=CQ.names.lookup y.1:=by rw [<- h1]; rfl
  rw [e1];simpa using this
 ·have n6:j < ix.length:=(aW.mp hj).1;have:=f j (cE.mpr n6);rw [hj] at this;cases hN:N'[j]? with
  | none =>
   rw [hN] at this;simp at this
  | some x =>
   rw [hN] at this;refine⟨x,rfl,?_⟩;rw [h2];simpa using this
noncomputable def zdS (ix:List #[OE]) (σ:St):St:=ix.map fun o=>match o with
 | none=>none
 | some i=>(σ[i]?).join
theorem Inv.Nv {σ:St} {D:Addr} {o:HO} (I:Inv X nM σ H s) (hn:H D=none) (hs:X.s₀.heap.objs.size<=D) (hL:X.env.locals≠D)
  (hC:∀ x c,X.env.cells.lookup x=some c->c≠D) (hp:∀ p∈X.pn++nM,p.1≠D) (ok:zat X.prog X.w (nQ H D o) s.heap D o):Inv X nM σ (nQ H D o) s:=by
 have ne:∀ b u,H b=some u->b≠D:=fun b u e=>zH e hn
 refine⟨I.ok,I.os,I.bare,⟨I.base.keep,I.base.slot,fun b u e n hx=>?_,I.base.there,fun b xs e=>?_,fun b u xs e=>?_,fun b ps e=>?_⟩,I.loc,I.cell,?_,fun x c e=>?_,fun p rZ=>?_,fun b u e=>?_,I.len⟩
 ·have:b≠D:=bY (cA (bA e) hs);rw [zp this];exact I.base.free b u e n hx
 ·have:=I.base.Nr b xs e;rw [zp (ne b _ this)];exact this
 ·have:=I.base.Nl b u xs e;rw [zp (ne b _ this)];exact this
 ·obtain⟨more,q⟩:=I.base.Nt b ps e;exact⟨more,by rw [zp (ne b _ q)]; exact q⟩
 ·rw [zp hL];exact I.free
 ·rw [zp (hC x c e)];exact I.Ls x c e
 ·obtain⟨a1,a2,a3⟩:=I.pin p rZ;exact⟨a1,by rw [zp (hp p rZ)]; exact a2,a3⟩
 ·by_cases hb:b=D
  ·subst hb;rw [zc] at e;cases e;exact ok
  ·rw [zp hb] at e;exact #[Vy].MN (fun c v _ q=>q) (fun c q=>by rw [zp (ne c _ q)]; exact q) fun c xs q=>by rw [zp (ne c _ q)]; exact q
noncomputable def cGo (g:TG) (ts:TT) (te:TE) (σ0:St) (J:It) (Q:VK) (H1:Hp):Prop :=
 ∃ W:Nat->Nat->List V->Hp->Prop,(∃ m,W 0 m [] H1)/\∀ i m ys H,W i m ys H ->
  (J.stop i H/\∀ D,H D=none->Q #[Pt] (nQ H D #[SZ])) \/
  (J.go i H/\∃ N:List V->Hp->Prop,(∀ tW H',N tW H'->∃ m',m' < m/\W (i+1) m' tW H')/\∀ x H',J.yld i H x H'->g x σ0 H' fun σ2 H2=>ts σ2 H2 fun b H3 =>
   if b=true then te σ2 H3 fun y H4=>ys.length < sizeLine/\N (ys++[y]) H4 else N ys H3)
noncomputable def zpy (ix:List #[OE]) (wi:TI) (g:TG) (ts:TT) (te:TE):TE:=fun σ H Q=>wi σ H fun J H1=>cGo g ts te #[VN] J Q H1
theorem zaI {n:Nat} {σ0:St} {Q:VK} (Pv:Nat->List V->Hp->Prop) (h0:Pv 0 [] H) (yZ:∀ i ys H,i < n->Pv i ys H->J.go i H) (qp:∀ ys H,Pv n ys H->J.stop n H)
  (hs:∀ i x ys H H',i < n->Pv i ys H->J.yld i H x H'->g x σ0 H' fun σ2 H2=>ts σ2 H2 fun b H3=>if b=true then te σ2 H3 fun y H4=>ys.length < sizeLine/\Pv (i+1) (ys++[y]) H4 else Pv (i+1) ys H3)
  (hd:∀ ys H D,Pv n ys H->H D=none->Q #[Pt] (nQ H D #[SZ])):cGo g ts te σ0 J Q H:=by
 refine⟨fun i m ys H=>m=n - i/\i<=n/\Pv i ys H,#[Rf],?_⟩;rintro i m ys H ⟨rfl,hi,p⟩;by_cases n6:i < n
 ·exact .inr #[Qr]
 ·have e:i=n:=by lia
  subst e;exact .inl ⟨qp ys H p,fun D hD=>hd ys H D p hD⟩
theorem zqk {n:Nat} {tb:TS} {D:Ends} {σ:St} (Pv:Nat->St->Hp->Prop) (h0:Pv 0 σ H) (yZ:∀ i σ H,i < n->Pv i σ H->J.go i H) (qp:∀ σ H,Pv n σ H->J.stop n H)
  (hs:∀ i x σ H H',i < n->Pv i σ H->J.yld i H x H'->g x σ H' fun σ2 H2=>tb { D with nx:=Pv (i+1),ct:=Pv (i+1),bk:=D.nx } σ2 H2) (hd:∀ σ H,Pv n σ H->D.nx σ H) :
  ∃ W:Nat->Nat->St->Hp->Prop,(∃ m,W 0 m σ H)/\∀ i m σ H,W i m σ H ->
   (J.stop i H/\D.nx σ H)\/(J.go i H/\∃ N:St->Hp->Prop,(∀ σ' H',N σ' H'->∃ m',m' < m/\W (i+1) m' σ' H')/\∀ x H',J.yld i H x H'->g x σ H' fun σ2 H2=>tb { D with nx:=N,ct:=N,bk:=D.nx } σ2 H2):=by
 refine⟨fun i m σ H=>m=n - i/\i<=n/\Pv i σ H,#[Rf],?_⟩;rintro i m σ H ⟨rfl,hi,p⟩;by_cases n6:i < n
 ·exact .inr ⟨yZ i σ H n6 p,Pv (i+1),fun σ' H' p'=>#[Pu],fun x H' y=>hs i x σ H H' n6 p y⟩
 ·have e:i=n:=by lia
  subst e;exact .inl ⟨qp σ H p,hd σ H p⟩
end L2
end
section
namespace L2
open PySem
variable {H:Hp} {J:It} {g:TG} {te:TE} {ts:TT}
abbrev Lp (J:It) (g:TG) (tb:TS) (D:Ends) (σ:St) (H:Hp):Prop:=∃ W:Nat->Nat->St->Hp->Prop,(∃ m,W 0 m σ H)/\∀ i m σ H,W i m σ H->(J.stop i H/\D.nx σ H)\/(J.go i H/\∃ N:St->Hp->Prop,(∀ σ' H',N σ' H'->∃ m',m' < m/\W (i+1) m' σ' H')/\∀ x H',J.yld i H x H'->g x σ H' fun σ2 H2=>tb { D with nx:=N,ct:=N,bk:=D.nx } σ2 H2)
abbrev Ends.l (D:Ends) (Pv:Nat->St->Hp->Prop) (i:Nat):Ends:={ D with nx:=Pv (i+1),ct:=Pv (i+1),bk:=D.nx }
section
variable {g:TG} {tb:TS} {D:Ends} {σ:St} {H:Hp} (Pv:Nat->St->Hp->Prop) {n:Nat} {K:aF} {a:Addr} {xs:List V}
theorem zbW (h0:Pv 0 σ H) (yZ:∀ i σ H,i < n->Pv i σ H->J.go i H) (qp:∀ σ H,Pv n σ H->J.stop n H) (hs:let N:=D.l Pv; let T:=tb; ∀ i x σ H H',i < n->Pv i σ H->J.yld i H x H'->g x σ H' (T (N i))) (hd:∀ σ H,Pv n σ H->D.nx σ H):Lp J g tb D σ H:=zqk Pv h0 yZ qp hs hd
theorem zbE (h0:Pv 0 σ H) (hl:∀ i σ H,i<=xs.length->Pv i σ H->nO K H a xs) (hs:let N:=D.l Pv; let T:=tb; ∀ i x σ H,xs[i]? = some x->Pv i σ H->g x σ H (T (N i))) (hd:∀ σ H,Pv xs.length σ H->D.nx σ H):Lp #[Vq] g tb D σ H:=zhY Pv h0 hl hs hd
theorem zh3 (h0:Pv 0 σ H) (hl:∀ i σ H,i<=xs.length->Pv i σ H->nS K H a xs) (hs:let N:=D.l Pv; let T:=tb; ∀ i x σ H,xs[i]? = some x->Pv i σ H->g x σ H (T (N i))) (hd:∀ σ H,Pv xs.length σ H->D.nx σ H):Lp #[Vp] g tb D σ H:=zol Pv h0 hl hs hd
theorem zaq {lo:Int} (h0:Pv 0 σ H) (hs:let N:=D.l Pv; let T:=tb; ∀ i σ H,i < n->Pv i σ H->g (.int (lo+i)) σ H (T (N i))) (hd:∀ σ H,Pv n σ H->D.nx σ H):Lp (Itr lo n) g tb D σ H:=zgu Pv h0 hs hd
end
theorem zao {n:Nat} {σ0:St} {Q:VK} (Pv:Nat->List V->Hp->Prop) (h0:Pv 0 [] H) (yZ:∀ i ys H,i < n->Pv i ys H->J.go i H) (qp:∀ ys H,Pv n ys H->J.stop n H)
  (hs:let S:=σ0; let T:=ts; let E:=te; ∀ i x ys H H',i < n->Pv i ys H->J.yld i H x H'->g x S H' fun σ2 H2=>T σ2 H2 fun b H3=>if b=true then E σ2 H3 fun y H4=>ys.length < sizeLine/\Pv (i+1) (ys++[y]) H4 else Pv (i+1) ys H3)
  (hd:∀ ys H D,Pv n ys H->H D=none->Q #[Pt] (nQ H D #[SZ])):cGo g ts te σ0 J Q H:=zaI Pv h0 yZ qp hs hd
end L2
end
section
namespace L2
theorem nN {α β:Type} {a:β} {f:α->β} {B:α->Prop} {v:α} (h:a=f v) (hb:B v):∃ v,a=f v/\B v:=⟨v,h,hb⟩
theorem nR {α β γ δ:Type} {a:γ} {b:δ} {f:α->γ} {g:β->δ} {B:α->β->Prop} {v:α} {w:β} (h:a=f v) (h':b=g w) (hb:B v w):∃ v w,a=f v/\b=g w/\B v w:=⟨v,w,h,h',hb⟩
theorem ex3 {A0 A1 A2:Type} {P:A0->A1->A2->Prop} (x0:A0) (x1:A1) (x2:A2) (h:P x0 x1 x2):∃ x0 x1 x2,P x0 x1 x2:=⟨x0,x1,x2,h⟩
theorem ex4 {A0 A1 A2 A3:Type} {P:A0->A1->A2->A3->Prop} (x0:A0) (x1:A1) (x2:A2) (x3:A3) (h:P x0 x1 x2 x3):∃ x0 x1 x2 x3,P x0 x1 x2 x3:=⟨x0,x1,x2,x3,h⟩
theorem ex5 {A0 A1 A2 A3 A4:Type} {P:A0->A1->A2->A3->A4->Prop} (x0:A0) (x1:A1) (x2:A2) (x3:A3) (x4:A4) (h:P x0 x1 x2 x3 x4):∃ x0 x1 x2 x3 x4,P x0 x1 x2 x3 x4:=⟨x0,x1,x2,x3,x4,h⟩
theorem ex6 {A0 A1 A2 A3 A4 A5:Type} {P:A0->A1->A2->A3->A4->A5->Prop} (x0:A0) (x1:A1) (x2:A2) (x3:A3) (x4:A4) (x5:A5) (h:P x0 x1 x2 x3 x4 x5):∃ x0 x1 x2 x3 x4 x5,P x0 x1 x2 x3 x4 x5:=⟨x0,x1,x2,x3,x4,x5,h⟩
theorem ex7 {A0 A1 A2 A3 A4 A5 A6:Type} {P:A0->A1->A2->A3->A4->A5->A6->Prop} (x0:A0) (x1:A1) (x2:A2) (x3:A3) (x4:A4) (x5:A5) (x6:A6) (h:P x0 x1 x2 x3 x4 x5 x6):∃ x0 x1 x2 x3 x4 x5 x6,P x0 x1 x2 x3 x4 x5 x6:=⟨x0,x1,x2,x3,x4,x5,x6,h⟩
theorem ex8 {A0 A1 A2 A3 A4 A5 A6 A7:Type} {P:A0->A1->A2->A3->A4->A5->A6->A7->Prop} (x0:A0) (x1:A1) (x2:A2) (x3:A3) (x4:A4) (x5:A5) (x6:A6) (x7:A7) (h:P x0 x1 x2 x3 x4 x5 x6 x7):∃ x0 x1 x2 x3 x4 x5 x6 x7,P x0 x1 x2 x3 x4 x5 x6 x7:=⟨x0,x1,x2,x3,x4,x5,x6,x7,h⟩
theorem ex9 {A0 A1 A2 A3 A4 A5 A6 A7 A8:Type} {P:A0->A1->A2->A3->A4->A5->A6->A7->A8->Prop} (x0:A0) (x1:A1) (x2:A2) (x3:A3) (x4:A4) (x5:A5) (x6:A6) (x7:A7) (x8:A8) (h:P x0 x1 x2 x3 x4 x5 x6 x7 x8):∃ x0 x1 x2 x3 x4 x5 x6 x7 x8,P x0 x1 x2 x3 x4 x5 x6 x7 x8:=⟨x0,x1,x2,x3,x4,x5,x6,x7,x8,h⟩
theorem zr2 {A0 A1 A2 A3 A4 A5 A6 A7 A8 A9 A10 A11:Type} {P:A0->A1->A2->A3->A4->A5->A6->A7->A8->A9->A10->A11->Prop} (x0:A0) (x1:A1) (x2:A2) (x3:A3) (x4:A4) (x5:A5) (x6:A6) (x7:A7) (x8:A8) (x9:A9) (Ft:A10) (Fu:A11) (h:P x0 x1 x2 x3 x4 x5 x6 x7 x8 x9 Ft Fu):∃ x0 x1 x2 x3 x4 x5 x6 x7 x8 x9 Ft Fu,P x0 x1 x2 x3 x4 x5 x6 x7 x8 x9 Ft Fu:=⟨x0,x1,x2,x3,x4,x5,x6,x7,x8,x9,Ft,Fu,h⟩
end L2
end
section
namespace L2
open PySem PySem.Spec PyProof.Rows
variable {A:Around} {H H' H2:Hp} {J:It} {K:aF} {P prog:Program} {X:Cx} {elt i1 t1 tg:Expr} {env:Env} {f1:List Expr} {fp:List Addr} {h:Heap} {it:Addr} {js:List Nat} {k t':Nat} {nM qF:List (Addr×Obj)} {nP:List Value} {pos:Pos} {s s':Shared} {scope:Scope} {te:TE} {w:World} {wi:TI} {ys:List V}
abbrev TM:=List V->St->Hp->(List V->Hp->Prop)->Prop
abbrev zeQ (nP:List Value) (nn:Nat):Obj:={ cls:=.type "list",data:=.seq nP.toArray nn }
structure AccAt (Y:Cx) (nM:List (Addr×Obj)) (H:Hp) (s:Shared) (D:Addr) (ys:List V) (nP:List Value) (nn:Nat):Prop where
 fp:zcl Y nM H D
 here:s.heap.get? D=some (zeQ nP nn)
 vals:z0 ys nP
 len:ys.length<=sizeLine
noncomputable def zg7 (js:List Nat) (σ:St):Prop:=∀ j∈js,∀ v,σ[j]?≠some (some v)
noncomputable def Kp (js:List Nat) (σ σ2:St):Prop:=σ2.length=σ.length/\∀ j,j∉js->σ2[j]? = σ[j]?
theorem Kp.refl {σ:St}:Kp js σ σ:=#[Tq]
theorem Kp.set {σ σ2:St} {i:Nat} {v:Option V} (hi:i∈js) (h:Kp js σ σ2):Kp js σ (σ2.set i v):=by
 refine⟨by rw [fS]; exact h.1,fun j hj=>?_⟩;rw [fY (fun z=>hj (by rw [<- z]; exact hi))];exact h.2 j hj
noncomputable def GS (js:List Nat) (g:TG):Prop:=∀ (σ σ1:St) (x:V) (H:Hp) (Q:St->Hp->Prop),Kp js σ σ1->g x σ1 H Q->g x σ1 H fun σ2 H2=>Kp js σ σ2/\Q σ2 H2
noncomputable def GSs (js:List Nat) (g:TGs):Prop:=∀ (σ σ1:St) (xs:List V) (H:Hp) (Q:St->Hp->Prop),Kp js σ σ1->g xs σ1 H Q->g xs σ1 H fun σ2 H2=>Kp js σ σ2/\Q σ2 H2
theorem ze1 {i:Nat} (hi:i∈js):GS js (zaT i):=fun σ σ1 x H Q hw h=>⟨hw.set hi,h⟩
theorem ze2:GSs js zja:=fun σ σ1 xs H Q hw h=>⟨h.1,hw,h.2⟩
theorem zb6 {i:Nat} {u:TGs} (hi:i∈js) (h2:GSs js u):GSs js (zcu (zaT i) u):=fun σ σ1 xs H Q hw h=>by
 obtain⟨v,r,e,h⟩:=h;exact⟨v,r,e,h2 σ _ r H Q (hw.set hi) h⟩
theorem zg8 {n:Nat} {t:TGs} (h:GSs js t):GS js (zhW K n t):=fun σ σ1 x H Q hw hg=>by
 obtain⟨a,xs,e,hq,hl,hg⟩:=hg;exact⟨a,xs,e,hq,hl,h σ σ1 xs H Q hw hg⟩
theorem Inv.Nm {σ:St} (I:Inv X nM σ H s) (h:∀ p∈qF,p∈nM):Inv X qF σ H s :=
 I.Mc fun p hp=>I.pin p (bG _ (h p hp))
section
variable {Y:Cx} {nM:List (Addr×Obj)} {σ:St} {H:Hp} {s:Shared} {D:Addr} {ys:List V} {nP:List Value} {nn:Nat}
theorem AccAt.pin (a:AccAt Y nM H s D ys nP nn) (I:Inv Y nM σ H s):Inv Y (nM++[#[QK]]) σ H s :=
 I.Mc fun p hp=>by
  rcases (bO.mp hp) with hp | hp
  ·exact I.pin p (bG _ hp)
  ·obtain rfl:p=(D,zeQ nP nn):=by simpa using hp
   obtain⟨a0,a1,a2,_⟩:=a.fp;exact⟨a.here,a0,a1,a2,fun v z=>by cases z⟩
theorem AccAt.back {σ':St} (a:AccAt Y nM H s D ys nP nn) (I:Inv Y qF σ' H' s') (hm:#[QK]∈qF):AccAt Y nM H' s' D ys nP nn:=by
 have p:=I.pin #[QK] (bG _ hm);exact⟨⟨p.2.1,a.fp.2⟩,p.1,a.vals,a.len⟩
end
noncomputable def PM (Y:Cx) (D:Addr) (js:List Nat) (mk:Sem Fin->Sem Fin) (tm:TM):Prop :=
 ∀ (last:Sem Fin) (nM:List (Addr×Obj)) (s:Shared) (σ:St) (H:Hp) (ys:List V) (nP:List Value) (nn:Nat) (Q:List V->Hp->Prop) (Φ:Fin->Shared->Prop),Inv Y nM σ H s->AccAt Y nM H s D ys nP nn->zg7 js σ->tm ys σ H Q ->
  (∀ (s':Shared) (tW:List V) (its':List Value) (BG:Nat) (H':Hp),Inv Y nM σ H' s'->AccAt Y nM H' s' D tW its' BG->Q tW H'->wpAny #[Qw] Y.A last Φ #[QA] s') ->
  wpAny #[Qw] Y.A (mk last) Φ #[QA] s
noncomputable def zgE (elt:Expr) (acc:Value) (env:Env) (last:Sem Fin):Sem Fin:=(eval elt env >>= fun x=>call (.builtin "list.append") [acc,x] >>= fun _=>pure ()) >>= fun _=>last
noncomputable def zkb (e iter:Expr) (d:Nat) (acc:Value) (env:Env) (last:Sem Fin):Sem Fin :=
 eval iter env >>= fun x=>standAt iter.pos >>= fun _=>foldedSetIterable iter env x >>= fun x=>holding [x] (pyIter x) >>= fun Bz=>runOwn (.compStart e d Bz acc env) env >>= fun _=>last
noncomputable def zkc (te:TE):TM:=fun ys σ H Q=>te σ H fun y H4=>ys.length < sizeLine/\Q (ys++[y]) H4
noncomputable def cIn (g:TG) (ts:TT) (tm:TM) (σ:St) (J:It) (Q:List V->Hp->Prop) (ys:List V) (H1:Hp):Prop :=
 ∃ W:Nat->Nat->List V->Hp->Prop,(∃ m,W 0 m ys H1)/\∀ i m ys H,W i m ys H ->
  (J.stop i H/\Q ys H) \/
  (J.go i H/\∃ N:List V->Hp->Prop,(∀ tW H',N tW H'->∃ m',m' < m/\W (i+1) m' tW H')/\∀ x H',J.yld i H x H'->g x σ H' fun σ2 H2=>ts σ2 H2 fun b H3 =>
   if b=true then tm ys σ2 H3 N else N ys H3)
noncomputable def zkd (wi:TI) (g:TG) (ts:TT) (tm:TM):TM:=fun ys σ H Q=>wi σ H fun J H1=>cIn g ts tm σ J Q ys H1
noncomputable def zg9 (ix:List #[OE]) (wi:TI) (g:TG) (ts:TT) (tm:TM):TE:=fun σ H Q=>wi σ H fun J H1=>cIn g ts tm #[VN] J (fun ys H'=>∀ D,H' D=none->Q #[Pt] #[QZ]) [] H1
theorem thx {α:Type} {m:Sem α} {P Q:α->Shared->Prop} {E:Value->Shared->Prop} (hx:X.xe=fun _ _=>False) (h:wpAny #[pi] X.A m P X.xe s) (k:∀ a s',P a s'->Q a s'):wpAny #[pi] X.A m Q E s :=
 et h k fun _ _ z=>by rw [hx] at z; exact z.elim
theorem zjl {Y:Cx} {D:Addr} (hx:Y.xe=fun _ _=>False) (he:PE Y elt te):PM Y D [] (zgE elt #[Pt] Y.env) (zkc te):=by
 intro last nM s σ H ys nP nn Q Φ I a no h k;unfold zgE;refine aB (aB (thx hx (he (nM++[#[QK]]) s σ H _ (a.pin I) h) fun yv s1 ⟨y,H1,I1,r1,hz,q1⟩=>aB ?_));have a1:=a.back I1 (bG _ bL);have J1:Inv Y nM σ H1 s1:=I1.Nm fun p hp=>bS _ hp
 have qH:=a1.vals.length;refine gp lV ⟨_,a1.here,rfl⟩ lF (kY _ _) (mh D nP.toArray nn yv (by rw [aS]; lia)) ⟨a1.here,?_⟩;refine aK ?_;have q:=mM a1.here (·.push yv);have k10:∀ b o,b≠D->s1.heap.get? b=some o->(s1.heap.update D (fk (·.push yv))).get? b=some o:=fun b o hb e=>(dv s1.heap (fk (·.push yv)) (dW hb)).trans e
 obtain⟨b0,b1,b2,b3,b4,b5⟩:=a1.fp;have I11:Inv Y nM σ H1 { s1 with heap:=s1.heap.update D (fk (·.push yv)) }:=J1.turned (t':=s1.toks) k10 b0 b1 b3 b4 b5;have e1:nP.toArray.push yv=(nP++[yv]).toArray:=by simp
 rw [e1] at q;refine k _ (ys++[y]) (nP++[yv]) _ H1 I11 ⟨a1.fp,q,a1.vals.append (.cons r1 .nil),?_⟩ q1;rw [aO,gJ];lia
section
variable {Y:Cx} {D:Addr} {js js':List Nat} {elt:Expr} {gens:List Comprehension} {scope:Scope} {pos:Pos} {d:Nat} {tg:Expr} {ifs:List Expr} {p:Pos} {mk:Sem Fin->Sem Fin} {g:TG} {ts:TT} {tm:TM}
noncomputable def zcL (tg:Expr) (ifs:List Expr) (p:Pos) (mk:Sem Fin->Sem Fin) (c:Code) (it:Value) (env:Env):Sem Fin :=
 standAt p >>= fun _=>pyNext it >>= fun r=>match r with
  | none=>pure (.done .next)
  | some v=>letOwnedTupleGo tg it v >>= fun _=>assign tg env v >>= fun _=>zjk ifs env >>= fun ok=>if ok=true then mk (again c) else again c
theorem zke (hc:Y.calm=true) (hx:Y.xe=fun _ _=>False) (y4:GS js g) (qt:∀ j∈js,j∉js') (hg:PG Y tg g) (ht:zdR Y ifs ts) (hm:PM Y D js' mk tm)
  (qh:∀ it,compTurn #[wP] d it #[Pt] Y.env=zcL tg ifs p mk #[UO] it Y.env)
  {σ:St} {s2:Shared} {tn:Nat->Heap->Prop} {Q:List V->Hp->Prop} {R:Result->Shared->Prop} {nn:Nat}
  (I2:Inv Y nM σ H2 s2) (a2:AccAt Y nM H2 s2 D ys nP nn) (no:zg7 (js++js') σ) (T:Turn Y.prog Y.w Y.K tg J fp it tn) (oI:tn 0 s2.heap) (f2:∀ b∈fp,zcl Y nM H2 b) (fD:∀ b∈fp,b≠D) (q:cIn g ts tm σ J Q ys H2)
  (hR:∀ (s':Shared) (tW:List V) (its':List Value) (BG:Nat) (H':Hp),Inv Y nM σ H' s'->AccAt Y nM H' s' D tW its' BG->Q tW H'->R (.ok .next) s') :
  codeAny #[Qw] Y.A #[Up] R s2:=by
 obtain⟨W,⟨m0,w0⟩,turn⟩:=q;have CS:∀ {H':Hp} {nP:List Value} {nn:Nat},(∀ b∈fp,H' b=none)->∀ b∈fp,zcl Y (nM++[#[QK]]) H' b:=fun {H' nP nn} hn b hb=>by
  obtain⟨_,a1,a2,a3,a4,a5⟩:=f2 b hb;refine⟨hn b hb,a1,a2,a3,a4,fun p hp=>?_⟩;rcases (bO.mp hp) with hp | hp
  ·exact a5 p (bS _ hp)
  ·rcases (bO.mp hp) with hp | hp
   ·exact a5 p (bG _ hp)
   ·obtain rfl:p=(D,zeQ nP nn):=by simpa using hp
    exact (fD b hb).symm
 refine codeAny_loop rfl (fun n s'=>∃ i ys H' nP nn,Inv Y nM σ H' s'/\tn i s'.heap/\(∀ b∈fp,H' b=none)/\AccAt Y nM H' s' D ys nP nn/\W i n ys H') ?_ m0
  ⟨0,ys,H2,nP,nn,I2,oI,fun b hb=>(f2 b hb).1,a2,w0⟩
 rintro n s5 ⟨i,ys,H5,nP,nn,I5,CP,fr5,a5,w5⟩;show wpAny _ Y.A ((compTurn #[wP] d #[PJ] #[Pt] Y.env).onRaise (fun x=>do noteFrame x Y.env; theTreesLotGoes x)) _ _ s5;refine wpAny_noted ?_;rw [qh];unfold zcL;have I5p:=a5.pin I5
 (refine aB (gS (aB ?_)))
 rcases turn i n ys H5 w5 with ⟨stop,qn⟩ | ⟨go,N,hN,step⟩
 ·refine et (T.done Y rfl rfl rfl hc i _ s5 _ H5 #[QA] I5p (CS fr5) CP stop) (fun r s6 ⟨hr,I6⟩=>?_) fun _ _ z=>z.elim
  subst hr;exact aK (hR s6 ys nP nn H5 (I6.Nm fun p hp=>bS _ hp) (a5.back I6 (bG _ bL)) qn)
 ·refine et (T.item Y rfl rfl rfl hc i _ s5 _ H5 #[QA] I5p (CS fr5) CP go) (fun r s6 ⟨u,hr,h6⟩=>?_) fun _ _ z=>z.elim
  subst hr;refine aB (et h6 (fun _ s7 ⟨x,H7,I7,r7,y7,GP,fr7⟩=>?_) fun _ _ z=>z.elim);have I7':=I7.pinned (CS fr7) (T.obj _ _ GP);refine aB (thx hx (hg _ s7 _ H7 x u _ I7' r7 (y4 σ σ x H7 _ Kp.refl (step x H7 y7))) fun _ s8 ⟨σ8,H8,I8,kp,q8⟩=>?_);refine aB (thx hx (ht _ s8 σ8 H8 _ I8 q8) fun ok s9 ⟨H9,I9,q9⟩=>?_);have mD:#[QK]∈(nM++[#[QK]])++zc2 fp s7.heap:=bS _ (bG _ bL);have a9:=a5.back I9 mD;have K9:Inv Y #[T4] σ8 H9 s9:=I9.Nm fun p hp=>(bO.mp hp).elim (fun z=>bS _ (bS _ z)) fun z=>bG _ z
  have wk:∀ (j:Nat) v,σ[j]? = some (some v)->σ8[j]? = some (some v):=fun j v e=>by
   have hj:j∉js:=fun z=>no j (bS _ z) v e
   rw [kp.2 j hj];exact e
  have back:∀ {H':Hp} {s':Shared},Inv Y #[T4] σ8 H' s'->Inv Y nM σ H' s'/\tn (i+1) s'.heap/\∀ b∈fp,H' b=none:=fun {H' s'} I'=>by
   refine⟨(I'.Nm fun p hp=>bS _ hp).weak kp.1.symm wk,T.keep _ _ _ GP fun b hb o e=>(I'.pin (b,o) #[Q0]).1,fun b hb=>?_⟩;obtain⟨o,e,d⟩:=T.obj _ _ GP b hb;exact (I'.pin (b,o) #[Q0]).2.1
  cases ok with
  | false =>
   rw [if_neg bH] at q9 |-;obtain⟨m',GQ,w9⟩:=hN _ _ q9;obtain⟨b1,b2,b3⟩:=back K9;exact aK ⟨rfl,m',GQ,i+1,ys,H9,nP,nn,b1,b2,b3,a9,w9⟩
  | true =>
   rw [if_pos rfl] at q9 |-;have a9':AccAt Y #[T4] H9 s9 D ys nP nn:=by
    obtain⟨b0,b1,b2,b3,b4,b5⟩:=a9.fp;refine⟨⟨b0,b1,b2,b3,b4,fun p hp=>?_⟩,a9.here,a9.vals,a9.len⟩;rcases (bO.mp hp) with hp | hp
    ·exact b5 p (bS _ hp)
    ·rcases (bO.mp hp) with hp | hp
     ·exact b5 p (bG _ hp)
     ·exact fD _ (zgt hp).1
   have no':zg7 js' σ8:=fun j hj v e=>by
    have qu:j∉js:=fun z=>qt j z hj
    rw [kp.2 j qu] at e;exact no j (bG _ hj) v e
   refine et (hm (again _) _ s9 σ8 H9 ys nP nn N (fun fin s'=>match fin with | .done f=>R (.ok f) s' | .again c'=>c'=_/\∃ m,m < n/\_) K9 a9' no' q9 fun s' tW its' BG H' I' a' n'=>?_) (fun _ _ z=>z) fun _ _ z=>z.elim
   obtain⟨m',GQ,w'⟩:=hN _ _ n';obtain⟨b1,b2,b3⟩:=back I';obtain⟨c0,c1,c2,c3,c4,c5⟩:=a'.fp;refine aK ⟨rfl,m',GQ,i+1,tW,H',its',BG,b1,b2,b3,⟨⟨c0,c1,c2,c3,c4,fun p hp=>?_⟩,a'.here,a'.vals,a'.len⟩,w'⟩;rcases (bO.mp hp) with hp | hp
   ·exact c5 p (bS _ hp)
   ·exact c5 p (bG _ (bS _ hp))
theorem zh4 {R:Result->Shared->Prop} {iter:Expr} {it acc:Value} (hd:gens[d]? = some ⟨tg,iter,ifs,0⟩)
  (h0:codeAny #[ss] A (.compLoop #[wP] d it acc env) R s)
  (h:wpAny #[ss] A (pyIter it) (fun GR s'=>codeAny #[ss] A (.compLoop #[wP] d GR acc env) R s') #[QA] s) :
  codeAny #[ss] A (.compStart #[wP] d it acc env) R s:=by
 refine codeAny_of_tree ?_;show wpAny _ _ ((compStart #[wP] d it acc env).onRaise (fun x=>do noteFrame x env; standAt theWindowsPlace)) _ _ s;refine wpAny_notedAt ?_;unfold compStart;have e1:(clausesOf #[wP])[d]? = some ⟨tg,iter,ifs,0⟩:=hd;rw [e1]
 (show wpAny _ _ (ask >>= _) _ _ s)
 (refine aB (wpAny_askSetting (wpAny_ite ?_)))
 split
 ·first
   | (exact aB (aK (aK ⟨rfl,h0⟩)))
   | (exact aK ⟨rfl,h0⟩)
 ·first
   | exact aB (c9 (aB (gS (aB (et h #[TK] fun _ _ x=>x.elim)))))
   | (refine aB (c9 ?_); show wpAny _ _ (standAt iter.pos >>= _) _ _ s; exact aB (gS (aB (et h #[TK] fun _ _ x=>x.elim))))
theorem zql {iter:Expr} (hc:Y.calm=true) (hx:Y.xe=fun _ _=>False) (y4:GS js g) (qt:∀ j∈js,j∉js') (hi:PI Y tg iter wi) (hg:PG Y tg g) (ht:zdR Y ifs ts) (hm:PM Y D js' mk tm) (hd:gens[d]? = some ⟨tg,iter,ifs,0⟩)
  (qh:∀ it,compTurn #[wP] d it #[Pt] Y.env=zcL tg ifs p mk #[UO] it Y.env)
  (hs:∀ x,foldedSetIterable iter Y.env x=pure x:=by intro _; rfl) :
  PM Y D (js++js') (zkb #[wP] iter d #[Pt] Y.env) (zkd wi g ts tm):=by
 intro last nM s σ H ys nP nn Q Φ I a no h k;unfold zkb;refine aB (thx hx (hi (nM++[#[QK]]) s σ H _ (a.pin I) h) fun v s1 h1=>aB (gS (aB ?_)));rw [hs v];refine aK (aB (cQ (thx hx h1 fun Bz s2 h2=>?_)));obtain⟨it,fp,tn,J,H2,e,I2,T,oI,f2,q⟩:=h2;subst e;have a2:=a.back I2 (bG _ bL);have J2:Inv Y nM σ H2 s2:=I2.Nm fun p hp=>bS _ hp
 have GU:∀ b∈fp,zcl Y nM H2 b:=fun b hb=>by
  obtain⟨c0,c1,c2,c3,c4,c5⟩:=f2 b hb;refine⟨c0,c1,c2,c3,c4,fun p hp=>?_⟩;rcases (bO.mp hp) with hp | hp
  ·exact c5 p (bS _ hp)
  ·exact c5 p (bG _ (bS _ hp))
 have fD:∀ b∈fp,b≠D:=fun b hb=>((f2 b hb).2.2.2.2.2 #[QK] (bG _ (bG _ bL))).symm
 have loop:codeAny #[Qw] Y.A #[Up] (fun r s'=>match r with | .ok f=>wpAny #[Qw] Y.A last Φ #[QA] s' | .error e=>cameBackBy #[Qw] Y.A Y.env #[QA] e s') s2 :=
  zke hc hx y4 qt hg ht hm qh J2 a2 no T oI GU fD q fun s' tW its' BG H' I' a' q'=>k s' tW its' BG H' I' a' q'
 exact aB (wpAny_runOwn (zh4 hd loop (T.self _ 0 _ _ _ oI loop)))
end
section
variable {X:Cx} {elt tg iter:Expr} {ifs:List Expr} {gs:List Comprehension} {scope:Scope} {pos:Pos} {N':List Str} {ix:List #[OE]} {js js':List Nat} {g:TG} {ts:TT} {tm:TM} {mk:Addr->Env->Sem Fin->Sem Fin}
theorem zeD {σ:St} {s2:Shared} {tn:Nat->Heap->Prop} {Q:VK} {E:Value->Shared->Prop} {RR:Value->Addr->Result->Shared->Prop}
  (SC:Kg X N' ix scope) (hc:X.calm=true) (y4:GS js g) (qt:∀ j∈js,j∉js') (uZ:∀ j∈js++js',ix[j]? = some none)
  (hg:∀ s₃ H₃ ex nM,PG #[o0] tg g) (ht:∀ s₃ H₃ ex nM,zdR #[o0] ifs ts) (hm:∀ s₃ H₃ ex nM D,PM #[o0] D js' (mk D #[o0].env) tm)
  (qh:∀ it D env,compTurn #[ul] 0 it #[Pt] env=zcL tg ifs iter.pos (mk D env) #[Rg] it env)
  (I2:Inv X nM σ H2 s2) (T:Turn X.prog X.w X.K tg J fp it tn) (oI:tn 0 s2.heap) (f2:∀ b∈fp,zcl X nM H2 b) (q:cIn g ts tm #[VN] J (fun ys H'=>∀ D,H' D=none->Q #[Pt] #[QZ]) [] H2)
  (hRR:∀ (D C:Addr) (s':Shared) (ys:List V) (H':Hp) (m:Str->Option Value),Inv X nM σ #[QZ] s'->zcl X nM #[QZ] C->s'.heap.Ns C m->Q #[Pt] #[QZ]->RR #[Pt] C (.ok .next) s') :
  wpAny #[pi] X.A (newList []) (fun acc s₃=>wpAny #[pi] X.A (newFunctionEnv scope X.env.globals (zaB X.env.cells scope.names []) [] X.env.qual none .none (some X.env)) (fun DB s₄ =>
   codeAny #[pi] X.A (.compStart #[ul] 0 #[PJ] acc { DB with scope:=relabel scope X.env }) (RR acc DB.locals) s₄) E s₃) E s2:=by
 have xG:∀ y∈scope.names,y.2 = .free->∃ c,X.env.cells.lookup y.1=some c:=fun y hy hf=>I2.ok.has y.1 #[Vc]
 have uP:∀ x c,(zaB X.env.cells scope.names []).lookup x=some c->X.env.cells.lookup x=some c:=zcn scope.names [] xG (fun x c e=>by simp at e);refine cS (zld ?_);have I3:Inv X nM σ H2 { s2 with heap:=s2.heap.push { cls:=.type "list",dict:=none,data:=.seq ([]:List Value).toArray } }:=I2.kept (t':=s2.toks) fun b o e=>aJ _ e
 have yI:(s2.heap.push { cls:=.type "list",dict:=none,data:=.seq ([]:List Value).toArray }).get? s2.heap.objs.size=some { cls:=.type "list",dict:=none,data:=.seq ([]:List Value).toArray }:=aX _ rfl;have DC:tn 0 (s2.heap.push { cls:=.type "list",dict:=none,data:=.seq ([]:List Value).toArray }):=T.keep _ _ _ oI fun b hb o e=>aJ _ e
 have DD:(s2.heap.push { cls:=.type "list",dict:=none,data:=.seq ([]:List Value).toArray }).objs.size=s2.heap.objs.size+1:=cM _ _;generalize hh3:s2.heap.push { cls:=.type "list",dict:=none,data:=.seq ([]:List Value).toArray }=h3 at *;have GV:=T.obj _ _ oI;have AW:∀ b∈fp,b < s2.heap.objs.size:=fun b hb=>by obtain⟨o,e,_⟩:=GV b hb; exact bA e
 have stk:∀ b∈frs X.stack,b=X.env.locals\/b∈X.fs:=fun b hb=>aV.mp (I2.M7 b hb)
 have DE:zcl X nM H2 s2.heap.objs.size:=I2.Mq (aH _) I2.fresh;have vY:∀ b∈s2.heap.objs.size :: fp,zcl X nM H2 b:=fun b hb=>by
  rcases (aV.mp hb) with e | hb
  ·rw [e]; exact DE
  ·exact f2 b hb
 have BH:∀ b∈s2.heap.objs.size :: fp,b < h3.objs.size:=fun b hb=>by
  rw [DD];rcases (aV.mp hb) with e | hb; · rw [e]; exact jT _
  ·exact fF (AW b hb)
 have AX:∀ b∈s2.heap.objs.size :: fp,b∉frs X.stack:=fun b hb z=>by
  obtain⟨_,a1,a2,_⟩:=vY b hb;rcases stk b z with e | e
  ·exact a1 e
  ·exact a2 e
 have hns₁:(pushCells (h3.push { cls:=.type "dict",data:=.dict #[] }) scope.names).Ns h3.objs.size (fun _=>none):=(Heap.Ns.new h3 (.type "dict")).keeps (pushCells_keeps _ _);have old:∀ b o,h3.get? b=some o->(pushCells (h3.push { cls:=.type "dict",data:=.dict #[] }) scope.names).get? b=some o:=fun b o e=>pushCells_keeps _ _ b o (aJ _ e)
 have GW:∀ x c,X.env.cells.lookup x=some c->c < h3.objs.size:=fun x c e=>by
  obtain⟨v,q⟩:=I3.cell x c e;exact q.lt
 have co:CO (pushCells (h3.push { cls:=.type "dict",data:=.dict #[] }) scope.names) #[P4] (zaB X.env.cells scope.names []) (cellsFrom #[P4] scope.names (zaB X.env.cells scope.names [])):=by
  have:=zmv (lo:=h3.objs.size+1) (old:=zaB X.env.cells scope.names []) scope.names (h3.push { cls:=.type "dict",data:=.dict #[] }) (zaB X.env.cells scope.names [])
   ⟨fun x c e=>.inr ⟨e,fF (GW x c (uP x c e))⟩,fun x y c e1 e2=>I2.ok.inj x y c (uP x c e1) (uP y c e2)⟩ (by rw [cM]; exact aH _)
  rw [cM] at this;exact this
 generalize pushCells (h3.push { cls:=.type "dict",data:=.dict #[] }) scope.names=h₁ at hns₁ old co |-;have GX:∀ {x c},(cellsFrom #[P4] scope.names (zaB X.env.cells scope.names [])).lookup x=some c->(h₁.IsCell c none/\h3.objs.size+1<=c)\/X.env.cells.lookup x=some c:=fun {x c} e=>(co.each x c e).elim .inl fun z=>.inr (uP x c z.1)
 have cfr:∀ x,scope.names.lookup x=some .free->(cellsFrom #[P4] scope.names (zaB X.env.cells scope.names [])).lookup x=(zaB X.env.cells scope.names []).lookup x:=fun x hx=>zg5 _ _ _ _ fun z=>by
  have:=SC.cells _ z rfl;rw [hx] at this;cases this
 let s3:Shared:={ s2 with heap:=h3 }
 let Y:Cx:=zY X N' scope s3 H2 (s2.heap.objs.size :: fp) nM
 have xk:Inv X nM σ H2 s3:=I3;have okY:Y.Ok:=by
  refine⟨I2.ok.mod,SC.kind,I2.ok.glob,I2.ok.blt,aH _,co.inj,fun x hx=>?_,fun x c z e=>?_,I2.ok.hd,I2.ok.frames,.inl rfl,fun b hb=>?_,fun b o e=>xk.bs b o e,?_,fun b o e hb=>?_,AX,xk.stack,xk.M8⟩
  ·have vJ:=zdQ (env:=X.env) (names:=scope.names) (x:=x) hx;rcases vJ with vJ | vJ
   ·obtain⟨c,e⟩:=zcK (cs:=X.env.cells) scope.names [] x (.inr (lookup_mem vJ));exact⟨c,(cfr x vJ).trans e⟩
   ·obtain⟨c,e,_⟩:=zg6 scope.names #[P4] (zaB X.env.cells scope.names []) x (lookup_mem vJ);exact⟨c,e⟩
  ·obtain⟨c',e',l'⟩:=zg6 scope.names #[P4] (zaB X.env.cells scope.names []) x (lookup_mem (by have z':(scope.names.lookup x == some eL)=true:=z; simpa using z'));have e2:(cellsFrom #[P4] scope.names (zaB X.env.cells scope.names [])).lookup x=some c:=e;rw [e'] at e2;cases e2;exact jJ l'
  ·refine⟨bY (BH b hb),fun x c e=>(GX e).elim (fun z y=>?_) fun z=>(vY b hb).2.2.2.2.1 x c z⟩;subst y;exact de _ (cA (BH _ hb) (jJ z.2))
  ·exact bX I2.ok.bsz xk.sz
  ·obtain⟨_,_,_,a3,_⟩:=vY b hb;rcases a3 with z | z
   ·exact I2.ok.NP b o e z
   ·have:=(I2.ok.bs b o e).1;exact absurd (cA (bA this) z) (de _)
 have GY:Inv Y [] #[VN] H2 { s3 with heap:=h₁ }:=by
  refine⟨okY,rfl,I2.bare,Un.kept old,⟨_,hns₁,fun j x v e1 e2 e3=>?_⟩,fun x c e=>?_,xk.fresh,fun x c e=>(GX e).elim (fun z=>xk.hok.fresh (jJ z.2)) fun z=>I2.Ls x c z,fun p hp=>?_,xk.hok.kept old,?_⟩
  ·unfold zdS at e2;rw [aD] at e2;cases hj:ix[j]? with
   | none=>rw [hj] at e2; simp at e2
   | some oi =>
    rw [hj] at e2;cases oi with
    | none=>simp at e2
    | some i =>
     obtain⟨y,h1,h2,Fv⟩:=SC.cap j i hj;have hxy:y=x:=by
      have e1':N'[j]? = some x:=e1;rw [h1] at e1';exact bK e1'
     subst hxy;have DF:(σ[i]?).join=some v:=by simpa using e2
     have GZ:σ[i]? = some (some v):=by
      cases hs:σ[i]? with
      | none=>rw [hs] at DF; simp at DF
      | some w=>rw [hs] at DF; simp at DF; rw [DF]
     obtain⟨m,hn,hl⟩:=xk.loc;have hk:=SC.free (y,.free) (lookup_mem Fv) rfl;have G1:Vis X.env.scope y:=hk.elim (fun z=>.inr (.inl z)) fun z=>.inr (.inr z)
     obtain⟨u,r,l⟩:=hl i y v h2 GZ G1;refine⟨u,r,.inr ⟨zbS Fv,?_⟩⟩;obtain⟨c,oS⟩:=zcK (cs:=X.env.cells) scope.names [] y (.inr (lookup_mem Fv));refine⟨c,(cfr y Fv).trans oS,?_⟩;rcases l with ⟨yH,_⟩ | ⟨_,c',nX,qG⟩
     ·rcases hk with hk | hk
      ·have ud:X.env.kindOf y=some .cell:=hk;rw [ud] at yH; cases yH
      ·have ud:X.env.kindOf y=some .free:=hk;rw [ud] at yH; cases yH
     ·have:=uP y c oS;rw [nX] at this;cases this;obtain⟨o,ho,hd⟩:=qG;exact⟨o,old _ _ ho,hd⟩
  ·rcases GX e with z | z
   ·exact⟨_,z.1⟩
   ·obtain⟨v,o,ho,hd⟩:=xk.cell x c z;exact⟨v,o,old _ _ ho,hd⟩
  ·have rZ:p∈X.pn++nM:=by
    have:p∈(X.pn++nM)++([]:List (Addr×Obj)):=hp;simpa using this
   obtain⟨a1,a2,a3,a4,a5⟩:=xk.pin p rZ;exact⟨old _ _ a1,a2,bY (bA a1),fun z=>(stk _ z).elim a3 a4,a5⟩
  ·unfold zdS;rw [aA];exact SC.len.symm
 have CS:∀ {H':Hp},(∀ b∈s2.heap.objs.size :: fp,H' b=none)->∀ b∈s2.heap.objs.size :: fp,zcl Y [] H' b:=fun {H'} hn b hb=>by
  obtain⟨_,a1,a2,a3,a4,a5⟩:=vY b hb;refine⟨hn b hb,bY (BH b hb),AX b hb,.inl hb,(okY.exf b hb).2,fun p hp=>?_⟩;have:p∈(X.pn++nM)++([]:List (Addr×Obj)):=hp;exact a5 p (by simpa using this)
 have nn2:∀ b∈s2.heap.objs.size :: fp,H2 b=none:=fun b hb=>(vY b hb).1
 have BC:zg7 (js++js') #[VN]:=fun j hj v e=>by
  unfold zdS at e;rw [aD,uZ j hj] at e;simp at e
 have loop:∀ s₅:Shared,s₅ = { s2 with heap:=h₁ } ->
   codeAny #[pi] X.A (.compLoop #[ul] 0 #[PJ] (.ref s2.heap.objs.size) (compEnvC scope (cellsFrom #[P4] scope.names (zaB X.env.cells scope.names [])) h3.objs.size X.env)) (RR (.ref s2.heap.objs.size) h3.objs.size) s₅:=by
  rintro s₅ rfl;refine zke (Y:=Y) (nM:=[]) (σ:=zdS ix σ) (nP:=[]) (nn:=0) hc rfl y4 qt (hg s3 H2 _ nM) (ht s3 H2 _ nM) (hm s3 H2 _ nM s2.heap.objs.size) (fun it=>qh it _ _) GY ⟨CS nn2 _ bL,old _ _ yI,.nil,bW _⟩ BC T (T.keep _ _ _ DC fun b hb o e=>old b o e)
   (fun b hb=>CS nn2 b (aZ _ hb)) (fun b hb=>bY (AW b hb)) q fun s6 ys nP nn H5 I6 a6 qn=>?_
  have dn5:H5 s2.heap.objs.size=none:=a6.fp.1;have I7:Inv X nM σ H5 s6:=by
   refine xk.Og (s':=s6) (ch:=s2.heap.objs.size :: fp) I6.os I6.base I6.hok I6.bare fun b hb=>?_
   obtain⟨_,a1,a2,a3,a4,a5⟩:=vY b hb;exact⟨a3,a1,a4,a5⟩
  have I8:Inv X nM σ (nQ H5 s2.heap.objs.size #[SZ]) s6:=by
   obtain⟨_,a1,a2,a3,a4,a5⟩:=DE;exact I7.Nv dn5 I2.sz (dW a1) a4 a5 ⟨a6.len,nP,nn,a6.vals,a6.here⟩
  obtain⟨mm,hmm,_⟩:=I6.loc;have dne:h3.objs.size≠s2.heap.objs.size:=by rw [DD]; exact iV _
  refine hRR _ _ s6 ys H5 mm I8 (xk.Mq (H':=nQ H5 s2.heap.objs.size #[SZ]) (aH _) ?_) hmm (qn _ dn5);show nQ H5 s2.heap.objs.size #[SZ] h3.objs.size=none;rw [zp dne];exact I6.free
 exact zh4 rfl (loop _ rfl) (T.self _ 0 _ _ _ (T.keep _ _ _ DC fun b hb o e=>old b o e) (loop _ rfl))
theorem zh5 (SC:Kg X N' ix scope) (hc:X.calm=true) (y4:GS js g) (qt:∀ j∈js,j∉js') (uZ:∀ j∈js++js',ix[j]? = some none) (hi:PI X tg iter wi)
  (hg:∀ s₃ H₃ ex nM,PG #[o0] tg g) (ht:∀ s₃ H₃ ex nM,zdR #[o0] ifs ts) (hm:∀ s₃ H₃ ex nM D,PM #[o0] D js' (mk D #[o0].env) tm)
  (qh:∀ it D env,compTurn #[ul] 0 it #[Pt] env=zcL tg ifs iter.pos (mk D env) #[Rg] it env)
  (hs:∀ x,foldedSetIterable iter X.env x=pure x:=by intro _; rfl):PE X #[ul] (zg9 ix wi g ts tm):=by
 intro nM s σ H Q I h;rw [eval_ListComp];have xG:∀ y∈scope.names,y.2 = .free->∃ c,X.env.cells.lookup y.1=some c:=fun y hy hf=>I.ok.has y.1 #[Vc]
 refine jU (use:=none) rfl hs (zdC xG) SC.kind SC.names (thn #[Tu] fun v s1 h1=>thn h1 fun Bz s2 h2=>?_);obtain⟨it,fp,tn,J,H2,e,I2,T,oI,f2,q⟩:=h2;subst e;refine zeD (RR:=fun acc C=>compPost #[pi] X.A X.xe none #[Pj] acc C) SC hc y4 qt uZ hg ht hm qh I2 T oI f2 q ?_;intro D C s' ys H' m I' G2 hm q';refine⟨m,hm,fun xl o8=>⟨.ref D,_,?_,rfl,q'⟩⟩;obtain⟨f0,f1,GU,f3,f4,f5⟩:=G2;exact I'.turned (t':=s'.toks) (fun b o hb e=>o8.extBut b o hb e) f0 f1 f3 f4 f5
theorem zeE {i:Nat} {x:Str} {pos' qZ:Pos} (hN:X.N.Nodup) (y6:X.N[i]? = some x) (hx:Loc X.env.scope x) (SC:Kg X N' ix scope) (hc:X.calm=true) (y4:GS js g) (qt:∀ j∈js,j∉js') (uZ:∀ j∈js++js',ix[j]? = some none) (hi:PI X tg iter wi)
  (hg:∀ s₃ H₃ ex nM,PG #[o0] tg g) (ht:∀ s₃ H₃ ex nM,zdR #[o0] ifs ts) (hm:∀ s₃ H₃ ex nM D,PM #[o0] D js' (mk D #[o0].env) tm)
  (qh:∀ it D env,compTurn #[ul] 0 it #[Pt] env=zcL tg ifs iter.pos (mk D env) #[Rg] it env)
  (DG:swapsWith #[ul] (some #[Qg]) qZ.line X.env=pure true:=by rfl)
  (hs:∀ x,foldedSetIterable iter X.env x=pure x:=by intro _; rfl) (hf:X.fn x=true\/X.env.scope.names.lookup x=some .local:=by first | exact .inl rfl | exact .inr rfl | assumption) :
  PS X (.Assign [.Name x pos'] #[ul] qZ) (zjb (zg9 ix wi g ts tm) (zaT i)):=by
 intro nM s σ H D I h;have xG:∀ y∈scope.names,y.2 = .free->∃ c,X.env.cells.lookup y.1=some c:=fun y hy hf=>I.ok.has y.1 #[Vc]
 rw [exec_Assign_Name_used _ _ _ _ DG]; refine aB (gS (aB ?_));show wpAny _ X.A (do let _ <- comprehension #[ul] scope X.env _ (newList []) false (eval iter X.env) (some #[T6])) _ _ s;refine aB (et (jU (use:=some #[T6]) (Q:=fun _ s'=>SP X nM D .next s') rfl hs (zdC xG) SC.kind SC.names
  (thn #[Tu] fun v s1 h1=>thn h1 fun Bz s2 h2=>?_)) (fun _ s' hq=>aK (aK hq)) fun _ _ e=>e)
 obtain⟨it,fp,tn,J,H2,e,I2,T,oI,f2,q⟩:=h2;subst e;refine zeD (Q:=fun x H1=>zaT i x σ H1 D.nx) (RR:=fun acc C=>compPost #[pi] X.A X.xe (some #[T6]) (fun _ s'=>SP X nM D .next s') acc C) SC hc y4 qt uZ hg ht hm qh I2 T oI f2 q ?_;intro Da C s' ys H' m I' G2 hm q';show wpAny _ X.A (assign #[Qg] X.env (.ref Da)) _ _ _;refine wpAny_assign_Name (zgp I' hN y6 hx (show RelV (.ref Da) (.ref Da) from rfl) (fun Dx I'' ⟨a,pI,ha⟩=>?_) hf);obtain⟨f0,f1,GU,f3,f4,f5⟩:=G2;have hCa:C≠a:=by
  rcases ha with e | e
  ·rw [e]; exact f1
  ·exact dW (f4 x a e)
 refine⟨m,hm.sameBut pI hCa,fun h₃ hs₃=>⟨_,_,?_,q'⟩⟩;exact I''.turned (t':=Dx.toks) (fun b o hb e=>hs₃.extBut b o hb e) f0 f1 f3 f4 f5
end
theorem zmw {t2 i2:Expr} {f2:List Expr} (it:Value) (D:Addr) (env:Env):compTurn (.ListComp elt [⟨t1,i1,f1,0⟩,⟨t2,i2,f2,0⟩] scope pos) 0 it #[Pt] env =
  zcL t1 f1 i1.pos (zkb (.ListComp elt [⟨t1,i1,f1,0⟩,⟨t2,i2,f2,0⟩] scope pos) i2 1 #[Pt] env) (.compLoop (.ListComp elt [⟨t1,i1,f1,0⟩,⟨t2,i2,f2,0⟩] scope pos) 0 it #[Pt] env) it env:=by rfl
theorem zqm {t2 i2:Expr} {f2:List Expr} (it:Value) (D:Addr) (env:Env):compTurn (.ListComp elt [⟨t1,i1,f1,0⟩,⟨t2,i2,f2,0⟩] scope pos) 1 it #[Pt] env =
  zcL t2 f2 i2.pos (zgE elt #[Pt] env) (.compLoop (.ListComp elt [⟨t1,i1,f1,0⟩,⟨t2,i2,f2,0⟩] scope pos) 1 it #[Pt] env) it env:=by rfl
noncomputable def zeq (ix:List #[OE]):List Nat:=(bM ix.length).filter fun j=>ix[j]? == some none
theorem zcM {ix:List #[OE]} {i:Nat}:i∈zeq ix↔ix[i]? = some none:=by
 unfold zeq;rw [dn,cE,beq_iff_eq];exact⟨fun h=>h.2,fun h=>⟨(aW.mp h).1,h⟩⟩
noncomputable def GK (ix:List #[OE]) (g:TG):Prop:=GS (zeq ix) g
noncomputable def GKs (ix:List #[OE]) (g:TGs):Prop:=GSs (zeq ix) g
theorem zZ {ix:List #[OE]} {i:Nat} (hi:ix[i]? = some none):GK ix (zaT i):=ze1 (zcM.2 hi)
theorem zav {ix:List #[OE]}:GKs ix zja:=ze2
theorem zz {ix:List #[OE]} {i:Nat} {u:TGs} (hi:ix[i]? = some none) (h2:GKs ix u):GKs ix (zcu (zaT i) u):=zb6 (zcM.2 hi) h2
theorem zaU {ix:List #[OE]} {K:aF} {n:Nat} {t:TGs} (h:GKs ix t):GK ix (zhW K n t):=zg8 h
theorem zle {ix:List #[OE]} {g:TG} {u:TGs} (h1:GK ix g) (h2:GKs ix u) (mono:∀ (x:V) (σ:St) (H:Hp) (Q Q':St->Hp->Prop),(∀ σ' H',Q σ' H'->Q' σ' H')->g x σ H Q->g x σ H Q'):GKs ix (zcu g u):=fun σ σ1 xs H Q hw h=>by
 obtain⟨v,r,e,h⟩:=h;refine⟨v,r,e,mono v σ1 H _ _ (fun σ' H' q=>?_) (h1 σ σ1 v H _ hw h)⟩;exact h2 σ σ' r H' Q q.1 q.2
theorem zpz (it:Value) (D:Addr) (env:Env):compTurn (.ListComp elt [⟨t1,i1,f1,0⟩] scope pos) 0 it #[Pt] env =
  zcL t1 f1 i1.pos (zgE elt #[Pt] env) (.compLoop (.ListComp elt [⟨t1,i1,f1,0⟩] scope pos) 0 it #[Pt] env) it env:=by rfl
section
variable {X:Cx} {elt tg iter:Expr} {ifs:List Expr} {scope:Scope} {pos:Pos} {N':List Str} {ix:List #[OE]} {g:TG} {ts:TT} {te:TE}
theorem zI {wi:TI} (SC:Kg X N' ix scope) (hc:X.calm=true) (hk:GK ix g) (hi:PI X tg iter wi)
  (hg:∀ s₃ H₃ ex nM,PG #[o0] tg g) (ht:∀ s₃ H₃ ex nM,zdR #[o0] ifs ts) (he:∀ s₃ H₃ ex nM,PE #[o0] elt te)
  (hs:∀ x,foldedSetIterable iter X.env x=pure x:=by intro _; rfl):PE X (.ListComp elt [⟨tg,iter,ifs,0⟩] scope pos) (zpy ix wi g ts te) :=
 zh5 (mk:=fun D env=>zgE elt #[Pt] env) (js:=zeq ix) (js':=[]) SC hc hk (fun _ _ h=>nomatch h) (fun j h=>zcM.1 (by simpa using h)) hi hg ht #[RG] (fun _ _ _=>zpz _ _ _) hs
theorem za8 {wi:TI} {i:Nat} {x:Str} {pos' qZ:Pos} (hN:X.N.Nodup) (y6:X.N[i]? = some x) (hx:Loc X.env.scope x) (SC:Kg X N' ix scope) (hc:X.calm=true) (hk:GK ix g) (hi:PI X tg iter wi)
  (hg:∀ s₃ H₃ ex nM,PG #[o0] tg g) (ht:∀ s₃ H₃ ex nM,zdR #[o0] ifs ts) (he:∀ s₃ H₃ ex nM,PE #[o0] elt te)
  (DG:swapsWith (.ListComp elt [⟨tg,iter,ifs,0⟩] scope pos) (some #[Qg]) qZ.line X.env=pure true:=by rfl)
  (hs:∀ x,foldedSetIterable iter X.env x=pure x:=by intro _; rfl) (hf:X.fn x=true\/X.env.scope.names.lookup x=some .local:=by first | exact .inl rfl | exact .inr rfl | assumption) :
  PS X (.Assign [.Name x pos'] (.ListComp elt [⟨tg,iter,ifs,0⟩] scope pos) qZ) (zjb (zpy ix wi g ts te) (zaT i)) :=
 zeE (mk:=fun D env=>zgE elt #[Pt] env) (js:=zeq ix) (js':=[]) hN y6 hx SC hc hk (fun _ _ h=>nomatch h) (fun j h=>zcM.1 (by simpa using h)) hi hg ht #[RG] (fun _ _ _=>zpz _ _ _) DG hs hf
end
section
variable {X:Cx} {nM:List (Addr×Obj)} {σ:St} {H:Hp} {s:Shared} {h':Heap}
theorem Inv.Lo {ch:List Addr} (I:Inv X nM σ H s) (k:∀ b o,b∉ch->s.heap.get? b=some o->h'.get? b=some o) (hf:∀ b∈ch,zcl X nM H b)
  (th:∀ b∈ch,∃ o,h'.get? b=some o):Inv X nM σ H { s with heap:=h',toks:=t' }:=by
 have ua:∀ b u,H b=some u->b∉ch:=fun b u e z=>by rw [(hf b z).1] at e; cases e
 refine I.step (g':=s.gens) (d':=s.drawn) (ch:=ch) (fun b hb=>?_) (fun b o _ _ hc e _=>k b o hc e) (fun b o _ _ hc e _=>⟨o.slots,k b o hc e⟩) #[QB]
  (fun b o hc e=>⟨o,k b o hc e⟩) #[OV] #[Re] (fun b ps e=>⟨#[],by rw [e]; simp⟩) #[Sa] (fun b u e=>?_) I.bare
 ·obtain⟨_,a1,_,a3,a4,a5⟩:=hf b hb;exact⟨a3,a1,a4,a5⟩
 ·obtain⟨o,es,ep,ho,r⟩:=hm;exact⟨o,es,ep,k _ o (fun z=>(hf _ z).2.1 rfl) ho,r⟩
 ·refine #[Vy].MN (fun c v hc q=>k c v ?_ q) #[RY] fun _ _ q=>q
  rcases hc with z | z
  ·rw [z]; exact ua b u e
  ·exact ua c _ z
theorem Inv.KS {ch:List Addr} {T:Addr} {o:HO} (I:Inv X nM σ H s) (k:∀ b o,b∉ch->s.heap.get? b=some o->h'.get? b=some o) (hf:∀ b∈ch,zcl X nM H b)
  (th:∀ b∈ch,∃ o,h'.get? b=some o) (hT:s.heap.objs.size<=T) (ok:zat X.prog X.w (nQ H T o) h' T o):Inv X nM σ (nQ H T o) { s with heap:=h',toks:=t' }:=by
 have I1:Inv X nM σ H { s with heap:=h',toks:=t' }:=I.Lo k hf th;have hn:H T=none:=I.hok.fresh hT;obtain⟨_,a1,a2,a3,a4,a5⟩:=I.Mq (H':=H) hT hn;exact I1.Nv hn (bX I.sz hT) (dW a1) a4 a5 ok
end
noncomputable def zmx (Sq:Hp->Addr->List V->Prop) (a:Addr):It :=
 ⟨fun i H=>∃ xs x,Sq H a xs/\xs[i]? = some x,fun i H x H'=>∃ T v,H T=none/\x = .ref T/\H'=nQ H T (.tup [.int i,v])/\∀ xs,Sq H a xs->xs[i]? = some v,fun i H=>∃ xs,Sq H a xs/\xs.length<=i⟩
theorem zbF {T:Addr} {a b:Value} (e:h.get? T=some { cls:=.type "tuple",data:=.seq #[a,b] }):IsTup h T ([a,b]:List Value).toArray:=⟨_,e,rfl,_,rfl⟩
theorem za0:2<=sizeLine:=by rw [bJ]; decide
theorem zjm {es:List Expr} (a it e:Addr) (CT:e≠it):Turn P w K #[Qb] (zmx (nO K) a) [e,it] e (fun i h=>(∃ old,IsEnum h e it i old)/\h.IsListIter it a i) where
 mem:=by simp
 obj:=fun i h st b hb=>by
  obtain⟨⟨old,he⟩,o,ho,hc,hd⟩:=st;rcases aV.mp hb with z | z
  ·subst z;exact⟨_,he,fun v z=>by cases z⟩
  ·have z:b=it:=by simpa using z
   subst z;exact⟨o,ho,fun v z=>by rw [hd] at z; cases z⟩
 keep:=fun i h h' st kk=>⟨st.1.imp fun old he=>kk e #[M] _ he,st.2.at fun o eo=>kk it #[M] o eo⟩
 item:=by
  intro X hP hw hK hc i nM s σ H E I hf st hg;subst hP hw hK;obtain⟨xs,x,hq,hx⟩:=hg;obtain⟨⟨old,he⟩,hit⟩:=st;obtain⟨nP,rv,p,hz⟩:=I.list hq;obtain⟨u,hu,ru⟩:=rv.get hx;have vZ:e < s.heap.objs.size:=bA he;have hits:it < s.heap.objs.size:=by obtain⟨o,ho,_⟩:=hit; exact bA ho
  refine wpAny_pyNext_enum_item he hit p.isList (x:=u) (by simpa using hu) CT fun h' tV sd hT hsz kk=>?_
  have k1:∀ b o,b∉[e,it]->s.heap.get? b=some o->h'.get? b=some o:=fun b o hb eo=>kk b o (fun z=>hb (by simp [z])) (fun z=>hb (by simp [z])) eo
  have y8:∀ b∈[e,it],∃ o,h'.get? b=some o:=fun b hb=>by
   rcases aV.mp hb with z | z
   ·subst z; exact⟨_,tV⟩
   ·have z:b=it:=by simpa using z
    subst z;obtain⟨o,eo,_⟩:=sd;exact⟨o,eo⟩
  have I1:Inv X nM σ (nQ H s.heap.objs.size (.tup [.int i,x])) { s with heap:=h',toks:=s.toks+1 } :=
   I.KS k1 hf y8 (aH _) ⟨za0,_,.cons ⟨s.toks,rfl⟩ (.cons ru .nil),zbF hT⟩
  refine⟨_,rfl,gT tV fun xl ue o8=>?_⟩;have fr:∀ b∈[e,it],nQ H s.heap.objs.size (.tup [.int i,x]) b=none:=fun b hb=>by
   have n6:b < s.heap.objs.size:=by
    rcases aV.mp hb with z | z
    ·subst z; exact vZ
    ·have z:b=it:=by simpa using z
     subst z; exact hits
   rw [zp (bY n6)];exact #[Ur].1
  have I2:Inv X nM σ (nQ H s.heap.objs.size (.tup [.int i,x])) { s with heap:=xl,toks:=s.toks+1 } :=
   Inv.Lo (s:={ s with heap:=h',toks:=s.toks+1 }) (ch:=[e]) (t':=s.toks+1) I1 (fun b o hb eo=>o8.extBut b o (by simpa using hb) eo) (fun b hb=>by
    have z:b=e:=by simpa using hb
    subst z;exact⟨fr b #[M],(hf b #[M]).2⟩) (fun b hb=>by
    have z:b=e:=by simpa using hb
    subst z;exact⟨_,ue⟩)
  refine⟨.ref s.heap.objs.size,_,I2,rfl,⟨_,x,I.fresh,rfl,rfl,fun ys hy=>by rw [I.KI hy hq]; exact hx⟩,⟨⟨_,by simpa using ue⟩,sd.extBut o8.extBut (dW CT)⟩,fr⟩
 done:=by
  intro X hP hw hK hc i nM s σ H E I hf st hg;subst hP hw hK;obtain⟨xs,hq,hx⟩:=hg;obtain⟨⟨old,he⟩,hit⟩:=st;obtain⟨nP,rv,p,hz⟩:=I.list hq;have hl:=rv.length;obtain⟨f0,f1,f2,f3,f4,f5⟩:=hf it #[M];exact wpAny_pyNext_enum_end #[O7] he hit p.isList (by simp; lia) fun h' eb=>#[ut]
 self:=fun _ _ _ _ _ st h=>by
  obtain⟨⟨old,he⟩,_⟩:=st;exact fX he h
noncomputable def iEn (Sq:Hp->Addr->List V->Prop) (ta:TA):TI:=fun σ H R=>ta σ H fun vs H1=>∃ a xs,vs = [.ref a]/\Sq H1 a xs/\R (zmx Sq a) H1
theorem zcy {X:Cx} {es:List Expr} {k:Nat} {o9 p pos:Pos} {a:Expr} {ta:TA} (hg:Gl X "enumerate") (hm:X.mg "enumerate" = none) (ha:PA X [a] ta) (hs:starEach [a] X.env = [#[FB]]:=by rfl) :
  PI X #[Pg] (.Call (.Name "enumerate" p) [a] [] pos) (iEn #[Uq] ta):=by
 intro nM s σ H R I h;refine Call_ (zbk I hg hm kG (bZ (thn #[FM] fun us s1 ⟨vs,H1,I1,r1,q1⟩=>?_) hs rfl));obtain⟨l,xs,e,hq,q⟩:=q1;subst e;cases r1 with
 | cons r rr =>
  cases rr;cases r;obtain⟨nP,rv,pl,hz⟩:=I1.list hq;refine call_enumerate_list pl.isList fun h' he hi hsz kk=>?_
  have I2:Inv X nM σ H1 { s1 with heap:=h' }:=I1.kept (t':=s1.toks) kk;refine fX he ?_; refine⟨_,[s1.heap.objs.size+1,s1.heap.objs.size],_,zmx #[Uq] l,H1,rfl,I2,zjm l s1.heap.objs.size (s1.heap.objs.size+1) (iV _),⟨⟨_,he⟩,hi⟩,fun b hb=>?_,q⟩;have hle:s1.heap.objs.size<=b:=by
   rcases aV.mp hb with z | z
   ·rw [z]; exact gW _
   ·have z:b=s1.heap.objs.size:=by simpa using z
    rw [z]; exact aH _
  exact I1.Mq hle #[Qx]
noncomputable def zlf (sO sP:Hp->Addr->List V->Prop) (a b:Addr):It :=
 ⟨fun i H=>∃ xs ys x y,sO H a xs/\sP H b ys/\xs[i]? = some x/\ys[i]? = some y,
  fun i H x H'=>∃ T u v,H T=none/\x = .ref T/\H'=nQ H T (.tup [u,v])/\(∀ xs,sO H a xs->xs[i]? = some u)/\∀ ys,sP H b ys->ys[i]? = some v,
  fun i H=>∃ xs ys,sO H a xs/\sP H b ys/\(xs.length<=i\/ys.length<=i)⟩
theorem zlg {es:List Expr} (a b:Addr) (n:Nat) (ha:a < n) (hb:b < n):Turn P w K #[Qb] (zlf (nO K) (nO K) a b) [n+4,n+2,n+3,n,n+1] (n+4)
  (fun i h=>IsZip h (n+4) (n+2) (n+3) .none/\IsPair h (n+2) (.ref n) #[TU]/\(∃ u v,IsPair h (n+3) u v)/\h.IsListIter n a i/\h.IsListIter (n+1) b i) where
 mem:=by simp
 obj:=fun i h st c hc=>by
  obtain⟨h1,h2,⟨u,v,h3⟩,⟨o4,e4,_,d4⟩,⟨o5,e5,_,d5⟩⟩:=st;simp only [aV,bQ,or_false] at hc;rcases hc with z | z | z | z | z <;> subst z
  ·exact⟨_,h1,fun v z=>by cases z⟩
  ·exact⟨_,h2,fun v z=>by cases z⟩
  ·exact⟨_,h3,fun v z=>by cases z⟩
  ·exact⟨_,e4,fun v z=>by rw [d4] at z; cases z⟩
  ·exact⟨_,e5,fun v z=>by rw [d5] at z; cases z⟩
 keep:=fun i h h' st kk=>by
  obtain⟨h1,h2,⟨u,v,h3⟩,h4,h5⟩:=st;exact⟨kk _ #[M] _ h1,kk _ #[M] _ h2,#[S6],h4.at fun o eo=>kk _ #[M] o eo,h5.at fun o eo=>kk _ #[M] o eo⟩
 item:=by
  intro X hP hw hK hc i nM s σ H E I hf st hg;subst hP hw hK;obtain⟨xs,ys,x,y,qv,pz,hx,hy⟩:=hg;obtain⟨h1,h2,⟨u0,v0,h3⟩,h4,h5⟩:=st;obtain⟨oB,sQ,p1,tX⟩:=I.list qv;obtain⟨n9,tG,p2,xm⟩:=I.list pz;obtain⟨u,hu,ru⟩:=sQ.get hx;obtain⟨v,hv,rv⟩:=tG.get hy;have hzs:n+4 < s.heap.objs.size:=bA h1;refine wpAny_pyNext_zip_item #[Sh] h1 h2 h3 h4 h5 p1.isList p2.isList (x:=u) (y:=v) (by simpa using hu) (by simpa using hv) fun h' a1 a2 a3 a4 a5 a6 kk=>?_
  have k1:∀ c o,c∉[n+4,n+3,n,n+1]->s.heap.get? c=some o->h'.get? c=some o:=fun c o nX eo =>
   kk c o (fun z=>nX (by simp [z])) (fun z=>nX (by simp [z])) (fun z=>nX (by simp [z])) (fun z=>nX (by simp [z])) eo
  have sub:∀ c∈[n+4,n+3,n,n+1],c∈[n+4,n+2,n+3,n,n+1]:=fun c nX=>by
   simp only [aV,bQ,or_false] at nX |-;rcases nX with z | z | z | z <;> subst z <;> simp
  have y8:∀ c∈[n+4,n+3,n,n+1],∃ o,h'.get? c=some o:=fun c nX=>by
   simp only [aV,bQ,or_false] at nX;rcases nX with z | z | z | z <;> subst z
   ·exact⟨_,a1⟩
   ·exact⟨_,a2⟩
   ·obtain⟨o,e,_⟩:=a3; exact⟨o,e⟩
   ·obtain⟨o,e,_⟩:=a4; exact⟨o,e⟩
  have I1:Inv X nM σ (nQ H s.heap.objs.size (.tup [x,y])) { s with heap:=h' } :=
   I.KS (t':=s.toks) k1 (fun c nX=>hf c (sub c nX)) y8 (aH _) ⟨za0,_,.cons ru (.cons rv .nil),zbF a5⟩
  refine⟨_,rfl,wpAny_letOwnedTupleGo_zip a1 fun xl xH o8=>?_⟩;have fr:∀ c∈[n+4,n+2,n+3,n,n+1],nQ H s.heap.objs.size (.tup [x,y]) c=none:=fun c nX=>by
   have n6:c < s.heap.objs.size:=by
    simp only [aV,bQ,or_false] at nX;rcases nX with z | z | z | z | z <;> subst z <;> lia
   rw [zp (bY n6)];exact (hf c nX).1
  have I2:Inv X nM σ (nQ H s.heap.objs.size (.tup [x,y])) { s with heap:=xl } :=
   Inv.Lo (s:={ s with heap:=h' }) (ch:=[n+4]) (t':=s.toks) I1 (fun c o nX eo=>o8.extBut c o (by simpa using nX) eo) (fun c nX=>by
    have z:c=n+4:=by simpa using nX
    subst z;exact⟨fr _ #[M],(hf _ #[M]).2⟩) (fun c nX=>by
    have z:c=n+4:=by simpa using nX
    subst z;exact⟨_,xH⟩)
  refine⟨.ref s.heap.objs.size,_,I2,rfl,⟨_,x,y,I.fresh,rfl,rfl,fun zs hz=>by rw [I.KI hz qv]; exact hx,fun zs hz=>by rw [I.KI hz pz]; exact hy⟩,
   ⟨xH,o8.extBut _ _ #[Sh].TIz (kk _ _ #[Sh].TIz #[Sh].TITO #[Sh].TIi1 #[Sh].TIi2 h2),⟨_,_,o8.extBut _ _ #[Sh].TOz a2⟩,a3.extBut o8.extBut #[Sh].i1z,a4.extBut o8.extBut #[Sh].i2z⟩,fr⟩
 done:=by
  intro X hP hw hK hc i nM s σ H E I hf st hg;subst hP hw hK;obtain⟨xs,ys,qv,pz,hx⟩:=hg;obtain⟨h1,h2,⟨u0,v0,h3⟩,h4,h5⟩:=st;obtain⟨oB,sQ,p1,tX⟩:=I.list qv;obtain⟨n9,tG,p2,xm⟩:=I.list pz;have u5:=sQ.length;have qg:=tG.length;refine wpAny_pyNext_zip_end #[O7] #[Sh] h1 h2 h3 h4 h5 p1.isList p2.isList ?_ fun h' kk=>#[U3]
  ·rcases hx with z | z
   ·exact .inl (by simp; lia)
   ·exact .inr (by simp; lia)
  ·have hth:∀ c∈[n+4,n+3,n,n+1],c∈[n+4,n+2,n+3,n,n+1]:=fun c nX=>by
    simp only [aV,bQ,or_false] at nX |-;rcases nX with z | z | z | z <;> subst z <;> simp
   refine I.step (g':=s.gens) (d':=s.drawn) (t':=s.toks) (ch:=[n+4,n+3,n,n+1]) #[U6] (fun c o _ _ oS e _=>kk c o (fun z=>oS (by simp [z])) (fun z=>oS (by simp [z])) (fun z=>oS (by simp [z])) (fun z=>oS (by simp [z])) e)
    (fun c o _ _ oS e _=>⟨o.slots,kk c o (fun z=>oS (by simp [z])) (fun z=>oS (by simp [z])) (fun z=>oS (by simp [z])) (fun z=>oS (by simp [z])) e⟩) #[QB]
    (fun c o oS e=>⟨o,kk c o (fun z=>oS (by simp [z])) (fun z=>oS (by simp [z])) (fun z=>oS (by simp [z])) (fun z=>oS (by simp [z])) e⟩) #[OV] #[Re] (fun c ps e=>⟨#[],by rw [e]; simp⟩) #[Sa] #[Ul] I.bare
   ·obtain⟨_,a1,_,a3,a4,a5⟩:=hf c (hth c nX);exact⟨a3,a1,a4,a5⟩
   ·obtain⟨o,xj,ep,ho,r⟩:=hm;have ne:∀ c∈[n+4,n+2,n+3,n,n+1],X.env.locals≠c:=fun c nX=>dW (hf c nX).2.1
    exact⟨o,xj,ep,kk _ o (ne _ #[M]) (ne _ #[M]) (ne _ #[M]) (ne _ #[M]) ho,r⟩
   ·have ua:∀ d u',H d=some u'->∀ c∈[n+4,n+2,n+3,n,n+1],d≠c:=fun d u' e' c nX z=>by rw [z,(hf c nX).1] at e'; cases e'
    refine #[Vx].MN (fun d v' hd q=>kk d v' ?_ ?_ ?_ ?_ q) #[RY] fun _ _ q=>q
    all_goals
     rcases hd with z | z
     ·rw [z]; exact ua c u e _ #[M]
     ·exact ua d _ z _ #[M]
 self:=fun _ _ _ _ _ st h=>iW st.1 h
noncomputable def iZp (sO sP:Hp->Addr->List V->Prop) (ta:TA):TI:=fun σ H R=>ta σ H fun vs H1=>∃ a b xs ys,vs = [.ref a,.ref b]/\sO H1 a xs/\sP H1 b ys/\R (zlf sO sP a b) H1
theorem zdT {X:Cx} {es:List Expr} {k:Nat} {o9 p pos:Pos} {a b:Expr} {ta:TA} (hg:Gl X "zip") (hm:X.mg "zip" = none) (ha:PA X [a,b] ta) (hs:starEach [a,b] X.env = [#[FB],#[Fr]]:=by rfl) (pH:starEach [b] X.env = [#[Fr]]:=by rfl) :
  PI X #[Pg] (.Call (.Name "zip" p) [a,b] [] pos) (iZp #[Uq] #[Uq] ta):=by
 intro nM s σ H R I h;refine Call_ (zbk I hg hm mO (bZ (thn #[FM] fun us s1 ⟨vs,H1,I1,r1,q1⟩=>?_) (by rw [hs,pH]) (by rw [pH]; rfl)));obtain⟨l1,l2,xs,ys,e,qv,pz,q⟩:=q1;subst e;cases r1 with
 | cons r rr =>
  cases rr with
  | cons r' rr =>
   cases rr;cases r;cases r';obtain⟨oB,sQ,xI,tX⟩:=I1.list qv;obtain⟨n9,tG,yJ,xm⟩:=I1.list pz;have qO:l1 < s1.heap.objs.size:=by obtain⟨_,_,e,_⟩:=xI; exact bA e
   have qP:l2 < s1.heap.objs.size:=by obtain⟨_,_,e,_⟩:=yJ; exact bA e
   refine call_zip_2 xI.isList yJ.isList fun h' b1 b2 b3 b4 b5 b6 kk=>?_
   have I2:Inv X nM σ H1 { s1 with heap:=h' }:=I1.kept (t':=s1.toks) kk;refine iW b1 ?_;refine⟨_,_,_,zlf #[Uq] #[Uq] l1 l2,H1,rfl,I2,zlg l1 l2 s1.heap.objs.size qO qP,⟨b1,b2,⟨_,_,b3⟩,b4,b5⟩,fun c hc=>?_,q⟩;have hle:s1.heap.objs.size<=c:=by
    simp only [aV,bQ,or_false] at hc;rcases hc with z | z | z | z | z <;> subst z <;> lia
   exact I1.Mq hle #[Qx]
noncomputable def zh6 (Sq:Hp->Addr->List V->Prop) (a:Addr) (n:Nat):It :=
 ⟨fun i H=>i < n/\∃ xs,Sq H a xs/\xs.length=n,fun i H x H'=>H'=H/\∀ xs,Sq H a xs->xs[n - 1 - i]? = some x,fun i H=>n<=i⟩
theorem zlh (a it:Addr) (n:Nat):Turn P w K tg (zh6 (nO K) a n) [it] it (fun i h=>i<=n/\h.IsRevIter it a ((n:Int) - 1 - (i:Int))) where
 mem:=by simp
 obj:=fun i h st b hb=>by
  have z:b=it:=by simpa using hb
  subst z;obtain⟨_,o,e,c,d⟩:=st;exact⟨o,e,fun v z=>by rw [d] at z; cases z⟩
 keep:=fun i h h' st k=>⟨st.1,st.2.at fun o e=>k it #[M] o e⟩
 item:=by
  intro X hP hw hK hc i nM s σ H E I hf st hg;subst hP hw hK;obtain⟨vK,xs,hq,hl⟩:=hg;obtain⟨nP,rv,p,hz⟩:=I.list hq;have nV:=rv.length;obtain⟨x,hx⟩:∃ x,xs[n - 1 - i]? = some x:=⟨xs[n - 1 - i]'#[O],#[M]⟩;obtain⟨u,hu,ru⟩:=rv.get hx;obtain⟨f0,f1,f2,f3,f4,f5⟩:=hf it #[M];have e:(n:Int) - 1 - (i:Int)=((n - 1 - i:Nat):Int):=by lia
  have hit:=st.2;rw [e] at hit;refine wpAny_pyNext_rev_item hit p.isList (x:=u) (by simpa using hu) fun h' nU sb=>?_
  have I1:Inv X nM σ H { s with heap:=h' }:=I.turned (t':=s.toks) (fun b o hb e=>(sb.2 b hb).trans e) f0 f1 f3 f4 f5;have e2:((n - 1 - i:Nat):Int) - 1=(n:Int) - 1 - ((i+1:Nat):Int):=by lia
  rw [e2] at nU;obtain⟨o,eo,c,d⟩:=id nU;exact⟨u,rfl,zfn (s:={ s with heap:=h' }) eo c d #[D] ⟨x,H,I1,ru,⟨rfl,fun ys hy=>by rw [I.KI hy hq]; exact hx⟩,⟨vK,nU⟩,fun b hb=>#[Ur].1⟩⟩
 done:=by
  intro X hP hw hK hc i nM s σ H E I hf st hg;subst hP hw hK;obtain⟨f0,f1,f2,f3,f4,f5⟩:=hf it #[M];have vK:n<=i:=hg;have e:(n:Int) - 1 - (i:Int) = -1:=by have:=st.1; lia
  have hit:=st.2;rw [e] at hit;exact wpAny_pyNext_rev_end #[O7] hit fun h' eb=>#[ut]
 self:=fun _ _ _ _ _ st h=>kZ st.2 h
end L2
end
section
namespace PySem
namespace F
theorem zgF:Manifest.owners.lookup (String.ofList ['d','e','s','r','e','v','e','r'].reverse)=some Manifest.sig_reversed:=by kernel_rfl
theorem Kk:Slot "reversed" "__next__" "reversed.__next__" :=
 .of (owner:="reversed") (n:="__next__") (by rw [fT,dY]; kernel_rfl) #[N] #[N] #[N] (by first | exact .inl #[N] | exact .inr #[N]) (by rw [iA]; kernel_rfl)
theorem Ld:entryFor table "reversed.__next__" = some Builtin.«reversed.__next__»:=entryFor_of_tree (by kernel_rfl)
theorem K3 (a:Value):argsOk "reversed.__next__" ⟨[a],[]⟩:=by
 unfold argsOk; rw [signature?_of (id:="reversed.__next__") (n:=['_','_','t','x','e','n','_','_']) (o:=['d','e','s','r','e','v','e','r']) (by kernel_rfl) zgF]; kernel_rfl
theorem Lk:Slot "reversed" "__iter__" "reversed.__iter__" :=
 .of (owner:="reversed") (n:="__iter__") (by rw [fT,dY]; kernel_rfl) #[N] #[N] #[N] (by first | exact .inl #[N] | exact .inr #[N]) (by rw [iA]; kernel_rfl)
theorem LY (a:Value):argsOk "reversed.__iter__" ⟨[a],[]⟩:=by
 unfold argsOk; rw [signature?_of (id:="reversed.__iter__") (n:=['_','_','r','e','t','i','_','_']) (o:=['d','e','s','r','e','v','e','r']) (by kernel_rfl) zgF]; kernel_rfl
theorem L4:entryFor table "reversed.__iter__" = some Builtin.«dict_keyiterator.__iter__»:=entryFor_alias (id':="dict_keyiterator.__iter__") (by kernel_rfl) (by first | rfl | decide +kernel | (unfold String.splitOn; simp +decide [String.splitOnAux])) #[N] (by kernel_rfl)
theorem zgf:Slot "reversed" "__init__" "object.__init__":=.of (owner:="object") (n:="__init__") (by rw [fT,dY]; kernel_rfl) #[N] #[N] #[N] (by first | exact .inl #[N] | exact .inr #[N]) (by rw [iA]; kernel_rfl)
theorem M5:TypeCalled "reversed" "reversed.__new__" "object.__init__" :=
 ⟨#[N],#[N],⟨_,_,mro_reversed⟩,made_reversed,#[N],by rw [iA]; kernel_rfl,zgf⟩
theorem MO:typeLookup (.type "tuple") "__reversed__" = pure none:=by rw [fT,dY]; kernel_rfl
end F
noncomputable def zha (l:Addr) (i:Int):Obj:={ cls:=.type "reversed",data:=.fields #[.ref l,rawInt i] }
noncomputable def Heap.LZ (h:Heap) (a l:Addr) (i:Int):Prop:=∃ o,h.get? a=some o/\o.cls = .type "reversed"/\o.data = .fields #[.ref l,rawInt i]
theorem Heap.LZ.typeIs {s:Shared} {a l:Addr} {i:Int} (x:s.heap.LZ a l i):s.TypeIs #[Pn] "reversed":=let ⟨o,ho,hc,_⟩:=x; ⟨o,ho,hc⟩
theorem Heap.LZ.at {h h':Heap} {a l:Addr} {i:Int} (x:h.LZ a l i) (e:∀ o,h.get? a=some o->h'.get? a=some o):h'.LZ a l i:=let ⟨o,ho,r⟩:=x; ⟨o,e _ ho,r⟩
open PyProof.Rows in
theorem zgg (l:Addr) (items:Array Value) :
  Meets (Builtin.«reversed.__new__» ⟨[.type "reversed",.ref l],[]⟩) (fun _ R s=>IsTup s.heap l items/\(items.size:Int) < 2 ^ 63 /\
   R (.ok (.ret #[wf])) { s with heap:=s.heap.push (zha l ((items.size:Int) - 1)),toks:=s.toks+1+1 }) :=
 .of_wp fun prog w A R s h=>by
  obtain⟨hl,hsz,h⟩:=h;unfold Builtin.«reversed.__new__»; refine aB #[VD]
  try dsimp only
  iterate 2 refine aB (dk (a:=()) (by first | rfl | kernel_rfl) ?_)
  try dsimp only
  refine aB (jc hl.typeIs F.MO ?_)
  try dsimp only
  refine aB (aB (m:=isInstance #[Pm] (.type "dict")) (gf hl.typeIs F.sub_tuple_dict ?_));simp only [ck,if_false]; refine aB (m:=specialOf #[Pm] "__getitem__") #[Sc];refine aK ?_
  try dsimp only
  try simp only [Bool.not_true,ck,if_false]
  refine aB (len_tuple hl hsz ?_);refine aB (m:=asInt? _) (dk (a:=some (items.size:Int)) rfl ?_)
  try dsimp only
  refine aB (m:=np _ _) ?_;show wpAny _ _ (newObj (.type "reversed") (.fields #[.ref l,rawInt ((items.size:Int) - 1)]) none) _ _ _;refine cS ?_;exact aK ⟨_,rfl,h⟩
section
variable {prog:Program} {w:World} {A:Around} {E:Value->Shared->Prop} {s:Shared}
open PyProof.Rows
theorem zfw {l:Addr} {items:Array Value} {Q:Value->Shared->Prop} (hl:IsTup s.heap l items) (hsz:(items.size:Int) < 2 ^ 63)
  (h:Q #[wf] { s with heap:=s.heap.push (zha l ((items.size:Int) - 1)),toks:=s.toks+1+1 }):wpAny #[ss] A (call (.type "reversed") [.ref l]) Q E s:=by
 refine jV F.M5 #[D] (kH _) (k6 _) #[UE] k7 (zgg l items) ⟨hl,hsz,?_⟩; exact⟨⟨_,aX _ rfl,rfl⟩,h⟩
theorem zc0 {it l:Addr} {i:Nat} {items:Array Value} {x:Value} {Q:Option Value->Shared->Prop} (hit:s.heap.LZ it l (i:Int)) (hl:IsTup s.heap l items) (hx:items[i]? = some x) (hi:(i:Int) < 2 ^ 62)
  (hQ:∀ h',h'.LZ it l ((i:Int) - 1)->cC it s.heap h'->Q (some x) { s with heap:=h',toks:=s.toks+1 }):wpAny #[ss] A #[R9] Q E s:=by
 obtain⟨o,ho,hc,hd⟩:=id hit; unfold pyNext;refine aB (d8 (cj (name:=cJ "__next__") hit.typeIs F.Kk
  (cI F.Kk hit.typeIs F.Ld ?_ (F.K3 _))))
 unfold Builtin.«reversed.__next__»;refine aB (dk (a:=(bP it,[])) rfl ?_); try dsimp only
 refine aB #[Wo]; refine aB (cF ho hd (x:=rawInt (i:Int)) rfl ?_);show wpAny _ _ (if (i:Int) < 0 then _ else _) _ _ s; rw [if_neg #[O]];refine aB #[Sc]
 try simp only [Option.isNone_some,ck,if_false]
 refine aB (wpAny_mkInt ?_); have n6:i < items.size:=by
  obtain⟨h1,_⟩:=eP.mp hx;exact h1
 refine aB (d8 (getItem_tuple (j:=i) hl #[O] #[O] (by rw [jt #[O] #[O]]; simp) hx ?_))
 try dsimp only
 refine aB (cF (s:={ s with toks:=s.toks+1 }) ho hd (x:=rawInt (i:Int)) rfl ?_);show wpAny _ _ (setField #[PJ] 1 (rawInt ((i:Int) - 1)) >>= _) _ _ _;refine aB (f' (s:={ s with toks:=s.toks+1 }) ho hd #[M] (aK ⟨x,rfl,aK (hQ _ ?_ (eI ..))⟩));exact⟨_,dX _ ho (gK (eU hd _)),(jK ..).trans hc,by rw [eU hd]; simp⟩
theorem zc4 {it l:Addr} {Q:Option Value->Shared->Prop} (hh:A.handled=none) (hit:s.heap.LZ it l (-1)) (hQ:∀ h',mF it s.heap h'->Q none { s with heap:=h' }):wpAny #[ss] A #[R9] Q E s:=by
 obtain⟨o,ho,hc,hd⟩:=id hit; unfold pyNext;refine aB (d8 (cj (name:=cJ "__next__") hit.typeIs F.Kk
  (cI F.Kk hit.typeIs F.Ld ?_ (F.K3 _))))
 unfold Builtin.«reversed.__next__»;refine aB (dk (a:=(bP it,[])) rfl ?_); try dsimp only
 refine aB #[Wo]; refine aB (cF ho hd (x:=rawInt (-1)) rfl ?_);show wpAny _ _ (if (-1:Int) < 0 then _ else _) _ _ s; rw [if_pos #[D]];refine aB (c9 ?_);refine aB (aB (m:=setField #[PJ] 1 (rawInt (-1))) #[Sz]);have hd2:=eU hd (·.setIfInBounds 1 (rawInt (-1)));have vF:=dX (jE (·.setIfInBounds 1 (rawInt (-1)))) ho (gK hd2);refine f' vF hd2 #[M] ?_
 try dsimp only
 refine aB ?_; show wpAny _ _ (newExc (.type "StopIteration") [] >>= _) _ _ _;refine aB ?_;simp only [newExc,newTuple];refine aB (cS ?_ (by size_fits)); refine aB (m:=firstArgMember _ _) (dk (a:=eh) (by first | rfl | (simp only [firstArgMember]; rfl)) ?_);refine cS ?_ (by size_fits); simp only [raiseNew];refine aB (lq ?_); first | rw [show A.in1.handled=none from hh] | rw [hh]
 refine aB (aK (mG ?_)); refine aB (gf (T:="StopIteration") (b:=true) ⟨_,aX _ rfl,rfl⟩ iB ?_);exact aK (hQ _ ((((eI ..).extBut.trans (eI ..).extBut).push _).push _))
theorem zcz {it l:Addr} {i:Int} {Q:Value->Shared->Prop} (hit:s.heap.LZ it l i) (h:Q #[PJ] s):wpAny #[ss] A (pyIter #[PJ]) Q E s:=by
 refine jL hit.typeIs F.Lk (cI F.Lk hit.typeIs F.L4 ?_ (F.LY _));show wpAny _ _ (ret #[PJ]) _ _ s; exact aK ⟨_,rfl,"reversed",_,hit.typeIs,F.Kk.lookup,h⟩
end
section
variable {prog:Program} {w:World} {A:Around} {E:Value->Shared->Prop} {s:Shared}
theorem zh7 {it t:Addr} {i:Nat} {items:Array Value} {x:Value} {Q:Value->Shared->Prop} (hit:s.heap.IsTupleIter it t i) (ht:s.heap.IsTuple t items) (hx:items[i]? = some x)
  (hQ:∀ h',h'.IsTupleIter it t (i+1)->cC it s.heap h'->Q x { s with heap:=h' }):wpAny #[ss] A (ci #[PJ]) Q E s:=by
 obtain⟨o,ho,hc,hd⟩:=id hit; obtain⟨ot,G3,_,nt,G4⟩:=ht;unfold ci; refine aB (cj (name:=cJ "__next__") hit.typeIs fV #[UW]);show wpAny _ _ (field #[PJ] 0 >>= _) _ _ s; refine aB #[Wn]; show wpAny _ _ (if (bP t == eh)=true then _ else _) _ _ _; rw [if_neg (by exact bH)];refine aB #[VF]; refine aB (m:=seqItems? _) (dD G3 G4 ?_); simp only [cG,hx];have hn:=dX (jE (·.setIfInBounds 1 (rawInt ((i+1:Nat):Int)))) ho (gK (eU hd _));refine aB (f' ho hd #[M] (aK ⟨x,rfl,aK (hQ _ ⟨_,hn,(jK ..).trans hc,?_⟩ (eI ..))⟩)); rw [eU hd]; simp [rawInt]
theorem zeF {it t:Addr} {i:Nat} {items:Array Value} {Q:Value->Shared->Prop} (hh:A.handled=none) (hit:s.heap.IsTupleIter it t i) (ht:s.heap.IsTuple t items) (hx:items[i]? = none)
  (hE:∀ h' e,mF it s.heap h'->(∃ o,h'.get? e=some o/\o.cls = .type "StopIteration")->E #[SW] { s with heap:=h' }):wpAny #[ss] A (ci #[PJ]) Q E s:=by
 obtain⟨o,ho,hc,hd⟩:=id hit; obtain⟨ot,G3,_,nt,G4⟩:=ht;unfold ci; refine aB (cj (name:=cJ "__next__") hit.typeIs fV #[UW]);show wpAny _ _ (field #[PJ] 0 >>= _) _ _ s; refine aB #[Wn]; show wpAny _ _ (if (bP t == eh)=true then _ else _) _ _ _; rw [if_neg (by exact bH)];refine aB #[VF]; refine aB (m:=seqItems? _) (dD G3 G4 ?_); simp only [cG,hx];refine aB (c9 (aB #[Sz])); show wpAny _ _ (newExc (.type "StopIteration") [] >>= _) _ _ _; refine aB ?_;simp only [newExc,newTuple]; refine aB (cS ?_ (by size_fits)); refine aB (m:=firstArgMember _ _) (dk (a:=eh) (by first | rfl | (simp only [firstArgMember]; rfl)) ?_);refine cS ?_ (by size_fits); simp only [raiseNew]; refine aB (lq ?_); first | rw [show A.in1.handled=none from hh] | rw [hh]
 refine aB (aK (mG ?_)); exact hE _ _ (((eI ..).extBut.push _).push _) ⟨_,aX _ rfl,rfl⟩
end
theorem Draws.tuple {prog:Program} {w:World} {A:Around} (hh:A.handled=none) (it t:Addr) (oH:t≠it) (items:Array Value):Draws prog w A it [it,t] items.size (fun i v=>items[i]? = some v) (fun i h=>h.IsTupleIter it t i/\h.IsTuple t items) where
 live:=fun i h st=>st.1.imp fun o r=>r.1
 frame:=fun i h h' st kk=>⟨st.1.at fun o=>kk it #[M] o,st.2.at fun o=>kk t #[M] o⟩
 item:=fun i s Q E hi st hQ=>zh7 st.1 st.2 (x:=items[i]) (by simp [hi]) fun h' a b=>hQ _ h' s.toks (by simp [hi]) ⟨a,st.2.extBut b.extBut oH⟩ b
 done:=fun s Q E st hE=>zeF hh st.1 st.2 #[M] hE
noncomputable def zbT (t:Addr):Obj:={ cls:=.type "tuple_iterator",data:=.fields #[.ref t,.int 0 0] }
noncomputable def zhb (it:Addr):Obj:={ cls:=.type "enumerate",data:=.fields #[.none,.bool false,.ref it,rawInt 0,.none,.none] }
open AutoSeq1 (wpAny_loadPart') in
theorem zh8 (l:Addr) (items:Array Value) (n:Nat) (G5:Option Addr) (sl:Array #[R3]) :
  Meets (Builtin.«enumerate.__new__» ⟨[.type "enumerate",.ref l],[]⟩) (fun _ R s=>s.heap.get? l=some { cls:=.type "tuple",dict:=G5,data:=.seq items n,slots:=sl } /\
   R (.ok (.ret (.ref #[RD].objs.size))) { s with heap:=#[RD].push (zhb s.heap.objs.size) }) :=
 .of_wp fun prog w A R s h=>by
  obtain⟨hp,g,d,tk,os⟩:=s; obtain⟨hl,h⟩:=h; have hT:Heap.IsTuple #[UD] l items:=⟨_,hl,rfl,n,rfl⟩;have xJ:=sub_enumerate; wp_walk using gu hl;refine wpAny_stack_any fun st=>aK ?_; split
  ·rename_i c _ _ _ _ _; cases (c == mT "enumerate") <;> (wp_walk using gu hl,fM hT; exact⟨_,rfl,h⟩)
  ·wp_walk using gu hl,fM hT; exact⟨_,rfl,h⟩
theorem zc5 {prog:Program} {w:World} {A:Around} {E:Value->Shared->Prop} {s:Shared} {l:Addr} {items:Array Value} {Q:Value->Shared->Prop} (hL:s.heap.IsTuple l items)
  (h:∀ h',IsEnum h' #[Fa] s.heap.objs.size 0 .none->h'.IsTupleIter s.heap.objs.size l 0->h'.objs.size=s.heap.objs.size+2 ->
   (∀ b o,s.heap.get? b=some o->h'.get? b=some o)->Q (.ref #[Fa]) { s with heap:=h' }):wpAny #[ss] A (call (.type "enumerate") [.ref l]) Q E s:=by
 obtain⟨⟨c,G5,dt,sl⟩,hl,hc,n,hd⟩:=hL; replace hc:c = .type "tuple":=hc; replace hd:dt = .seq items n:=hd; subst hc hd;refine jV lZ #[D] (kC _) (kJ _) #[UE] kK (zh8 l items n G5 sl) ⟨hl,?_⟩;have hz:#[RD].objs.size=s.heap.objs.size+1:=cM ..;have he:=aX #[RD] (o:=zhb s.heap.objs.size) rfl;show _/\_;rw [hz] at he |-;exact⟨⟨_,he,rfl⟩,h _ he ⟨_,aJ _ (aX _ rfl),rfl,rfl⟩ (by rw [cM,hz]) fun b o x=>aJ _ (aJ _ x)⟩
end PySem
namespace L2
open PySem PySem.Spec PyProof.Rows
variable {H1:Hp} {K:aF} {P:Program} {R:It->Hp->Prop} {X:Cx} {k:Nat} {nM:List (Addr×Obj)} {pos:Pos} {s1:Shared} {tg:Expr} {w:World}
theorem zli (a it:Addr) (n:Nat):Turn P w K tg (zh6 (nS K) a n) [it] it (fun i h=>i<=n/\h.LZ it a ((n:Int) - 1 - (i:Int))) where
 mem:=by simp
 obj:=fun i h st b hb=>by
  have z:b=it:=by simpa using hb
  subst z;obtain⟨_,o,e,c,d⟩:=st;exact⟨o,e,fun v z=>by rw [d] at z; cases z⟩
 keep:=fun i h h' st k=>⟨st.1,st.2.at fun o e=>k it #[M] o e⟩
 item:=by
  intro X hP hw hK hc i nM s σ H E I hf st hg;subst hP hw hK;obtain⟨vK,xs,hq,hl⟩:=hg;obtain⟨nP,rv,p,hz⟩:=I.tuple hq;have nV:=rv.length;have pd:=bJ;obtain⟨x,hx⟩:∃ x,xs[n - 1 - i]? = some x:=⟨xs[n - 1 - i]'#[O],#[M]⟩;obtain⟨u,hu,ru⟩:=rv.get hx;obtain⟨f0,f1,f2,f3,f4,f5⟩:=hf it #[M];have e:(n:Int) - 1 - (i:Int)=((n - 1 - i:Nat):Int):=by lia
  have hit:=st.2;rw [e] at hit;refine zc0 hit p (x:=u) (by simpa using hu) #[O] fun h' nU sb=>?_
  have I1:Inv X nM σ H { s with heap:=h',toks:=s.toks+1 }:=I.turned (t':=s.toks+1) (fun b o hb e=>(sb.2 b hb).trans e) f0 f1 f3 f4 f5;have e2:((n - 1 - i:Nat):Int) - 1=(n:Int) - 1 - ((i+1:Nat):Int):=by lia
  rw [e2] at nU;obtain⟨o,eo,c,d⟩:=id nU;exact⟨u,rfl,zfn (s:={ s with heap:=h',toks:=s.toks+1 }) eo c d #[D] ⟨x,H,I1,ru,⟨rfl,fun ys hy=>by rw [I.KU hy hq]; exact hx⟩,⟨vK,nU⟩,fun b hb=>#[Ur].1⟩⟩
 done:=by
  intro X hP hw hK hc i nM s σ H E I hf st hg;subst hP hw hK;obtain⟨f0,f1,f2,f3,f4,f5⟩:=hf it #[M];have vK:n<=i:=hg;have e:(n:Int) - 1 - (i:Int) = -1:=by have:=st.1; lia
  have hit:=st.2;rw [e] at hit;exact zc4 #[O7] hit fun h' eb=>#[ut]
 self:=fun _ _ _ _ _ st h=>zcz st.2 h
theorem zhc {σ:St} {l:Addr} {xs:List V} (I1:Inv X nM σ H1 s1) (hq:nS X.K H1 l xs) (q:R (zh6 #[VG] l xs.length) H1) :
  wpAny #[pi] X.A (call (.type "reversed") [.ref l]) #[QU] X.xe s1:=by
 obtain⟨nP,rv,pl,hz⟩:=I1.tuple hq;have nV:=rv.length;have pd:=bJ;refine zfw pl (by rw [aS]; lia) ?_;have I2:Inv X nM σ H1 { s1 with heap:=s1.heap.push (zha l ((nP.toArray.size:Int) - 1)),toks:=s1.toks+1+1 }:=I1.kept fun b o e=>aJ _ e
 have hr:(s1.heap.push (zha l ((nP.toArray.size:Int) - 1))).LZ s1.heap.objs.size l ((xs.length:Int) - 1 - ((0:Nat):Int)):=by
  refine⟨_,aX _ rfl,rfl,?_⟩;have e1:(nP.toArray.size:Int) - 1=(xs.length:Int) - 1 - ((0:Nat):Int):=by rw [aS,nV]; lia
  show kq #[.ref l,rawInt ((nP.toArray.size:Int) - 1)]=_;rw [e1]
 refine zcz hr ?_;refine⟨_,[s1.heap.objs.size],_,zh6 #[VG] l xs.length,H1,rfl,I2,zli l s1.heap.objs.size xs.length,⟨bW _,hr⟩,fun b hb=>?_,q⟩;have z:b=s1.heap.objs.size:=by simpa using hb
 subst z;exact I1.Mq (aH _) #[OM]
theorem zh9 {σ:St} {l:Addr} {xs:List V} (I1:Inv X nM σ H1 s1) (hq:nO X.K H1 l xs) (q:R (zh6 #[Uq] l xs.length) H1) :
  wpAny #[pi] X.A (call (.type "reversed") [.ref l]) #[QU] X.xe s1:=by
 obtain⟨nP,rv,pl,hz⟩:=I1.list hq;have nV:=rv.length;refine call_reversed_list pl.isList ?_;have I2:Inv X nM σ H1 { s1 with heap:=s1.heap.push (revObj l ((nP.toArray.size:Int) - 1)) }:=I1.kept (t':=s1.toks) fun b o e=>aJ _ e
 have hr:(s1.heap.push (revObj l ((nP.toArray.size:Int) - 1))).IsRevIter s1.heap.objs.size l ((xs.length:Int) - 1 - ((0:Nat):Int)):=by
  refine⟨_,aX _ rfl,rfl,?_⟩;have e1:(nP.toArray.size:Int) - 1=(xs.length:Int) - 1 - ((0:Nat):Int):=by rw [aS,nV]; lia
  show kq #[.ref l,rawInt ((nP.toArray.size:Int) - 1)]=_;rw [e1]
 refine kZ hr ?_;refine⟨_,[s1.heap.objs.size],_,zh6 #[Uq] l xs.length,H1,rfl,I2,zlh l s1.heap.objs.size xs.length,⟨bW _,hr⟩,fun b hb=>?_,q⟩;have z:b=s1.heap.objs.size:=by simpa using hb
 subst z;exact I1.Mq (aH _) #[OM]
noncomputable def zr3 (K:aF) (ta:TA):TI:=fun σ H R=>ta σ H fun vs H1=>∃ a xs,vs = [.ref a]/\((nO K H1 a xs/\R (zh6 (nO K) a xs.length) H1)\/(nS K H1 a xs/\R (zh6 (nS K) a xs.length) H1))
theorem zqn {X:Cx} {tg:Expr} {p pos:Pos} {a:Expr} {ta:TA} (hg:Gl X "reversed") (hm:X.mg "reversed" = none) (ha:PA X [a] ta) (hs:starEach [a] X.env = [#[FB]]:=by rfl) :
  PI X tg (.Call (.Name "reversed" p) [a] [] pos) (zr3 X.K ta):=by
 intro nM s σ H R I h;refine Call_ (zbk I hg hm boot_reversed (bZ (thn #[FM] fun us s1 ⟨vs,H1,I1,r1,q1⟩=>?_) hs rfl));obtain⟨l,xs,e,hq⟩:=q1;subst e;cases r1 with
 | cons r rr =>
  cases rr;cases r;rcases hq with ⟨hq,q⟩ | ⟨hq,q⟩
  ·exact zh9 I1 hq q
  ·exact zhc I1 hq q
theorem zjn {es:List Expr} (a it e:Addr) (CT:e≠it) (G6:a≠it) (hae:a≠e):Turn P w K #[Qb] (zmx (nS K) a) [e,it] e (fun i h=>(∃ old,IsEnum h e it i old)/\h.IsTupleIter it a i) where
 mem:=by simp
 obj:=fun i h st b hb=>by
  obtain⟨⟨old,he⟩,o,ho,hc,hd⟩:=st;rcases aV.mp hb with z | z
  ·subst z;exact⟨_,he,fun v z=>by cases z⟩
  ·have z:b=it:=by simpa using z
   subst z;exact⟨o,ho,fun v z=>by rw [hd] at z; cases z⟩
 keep:=fun i h h' st kk=>⟨st.1.imp fun old he=>kk e #[M] _ he,st.2.at fun o eo=>kk it #[M] o eo⟩
 item:=by
  intro X hP hw hK hc i nM s σ H E I hf st hg;subst hP hw hK;obtain⟨xs,x,hq,hx⟩:=hg;obtain⟨⟨old,he⟩,hit⟩:=st;obtain⟨nP,rv,p,hz⟩:=I.tuple hq;obtain⟨u,hu,ru⟩:=rv.get hx;have vZ:e < s.heap.objs.size:=bA he;have hits:it < s.heap.objs.size:=by obtain⟨o,ho,_⟩:=hit; exact bA ho
  have n6:i < nP.toArray.size:=by
   have:=(aW.mp hu).1;simpa using this
  have hh:X.A.in1.handled=none:=by simp [I.ok.hd hc]
  refine wpAny_pyNext_enum_itemD (Draws.tuple hh it a G6 nP.toArray) he ⟨hit,(show s.heap.IsTuple a nP.toArray from p)⟩ n6 CT (by simp [CT,dW hae]) fun u' h' tk hPu tV v5 hT hsz kk=>?_
  obtain⟨sd,htup'⟩:=v5;have eu:u'=u:=by
   have e1:nP[i]? = some u':=by simpa using hPu
   rw [hu] at e1;exact (bK e1).symm
  subst eu;have k1:∀ b o,b∉[e,it]->s.heap.get? b=some o->h'.get? b=some o:=fun b o hb eo=>kk b o (fun z=>hb (by simp [z])) (fun z=>hb (by simp [z])) eo
  have y8:∀ b∈[e,it],∃ o,h'.get? b=some o:=fun b hb=>by
   rcases aV.mp hb with z | z
   ·subst z; exact⟨_,tV⟩
   ·have z:b=it:=by simpa using z
    subst z;obtain⟨o,eo,_⟩:=sd;exact⟨o,eo⟩
  have I1:Inv X nM σ (nQ H s.heap.objs.size (.tup [.int i,x])) { s with heap:=h',toks:=tk+1 } :=
   I.KS k1 hf y8 (aH _) ⟨za0,_,.cons ⟨tk,rfl⟩ (.cons ru .nil),zbF hT⟩
  refine⟨_,rfl,gT tV fun xl ue o8=>?_⟩;have fr:∀ b∈[e,it],nQ H s.heap.objs.size (.tup [.int i,x]) b=none:=fun b hb=>by
   have n6:b < s.heap.objs.size:=by
    rcases aV.mp hb with z | z
    ·subst z; exact vZ
    ·have z:b=it:=by simpa using z
     subst z; exact hits
   rw [zp (bY n6)];exact #[Ur].1
  have I2:Inv X nM σ (nQ H s.heap.objs.size (.tup [.int i,x])) { s with heap:=xl,toks:=tk+1 } :=
   Inv.Lo (s:={ s with heap:=h',toks:=tk+1 }) (ch:=[e]) (t':=tk+1) I1 (fun b o hb eo=>o8.extBut b o (by simpa using hb) eo) (fun b hb=>by
    have z:b=e:=by simpa using hb
    subst z;exact⟨fr b #[M],(hf b #[M]).2⟩) (fun b hb=>by
    have z:b=e:=by simpa using hb
    subst z;exact⟨_,ue⟩)
  refine⟨.ref s.heap.objs.size,_,I2,rfl,⟨_,x,I.fresh,rfl,rfl,fun ys hy=>by rw [I.KU hy hq]; exact hx⟩,⟨⟨_,by simpa using ue⟩,sd.extBut o8.extBut (dW CT)⟩,fr⟩
 done:=by
  intro X hP hw hK hc i nM s σ H E I hf st hg;subst hP hw hK;obtain⟨xs,hq,hx⟩:=hg;obtain⟨⟨old,he⟩,hit⟩:=st;obtain⟨nP,rv,p,hz⟩:=I.tuple hq;have hl:=rv.length;obtain⟨f0,f1,f2,f3,f4,f5⟩:=hf it #[M];have hT:s.TypeIs #[SW] "enumerate":=⟨_,he,rfl⟩; have hh:X.A.in1.handled=none:=by simp [I.ok.hd hc]
  unfold pyNext; refine aB (d8 (cj (name:=cJ "__next__") hT eX #[SQ]));show wpAny _ _ (field #[SW] 2 >>= _) _ _ _; refine aB (cF he rfl (x:=.ref it) rfl ?_);refine aB (zeF hh hit (show s.heap.IsTuple a nP.toArray from p) (by simp; lia) fun h' x BI vJ=>?_);obtain⟨o,ho,hc⟩:=vJ;refine aB (gf (T:="StopIteration") (b:=true) ⟨o,ho,hc⟩ iB ?_); exact aK ⟨rfl,I.turned (t':=s.toks) (fun b o hb e=>BI b o hb e) f0 f1 f3 f4 f5⟩
 self:=fun _ _ _ _ _ st h=>by
  obtain⟨⟨old,he⟩,_⟩:=st;exact fX he h
theorem zc6 {X:Cx} {es:List Expr} {k:Nat} {o9 p pos:Pos} {a:Expr} {ta:TA} (hg:Gl X "enumerate") (hm:X.mg "enumerate" = none) (ha:PA X [a] ta) (hs:starEach [a] X.env = [#[FB]]:=by rfl) :
  PI X #[Pg] (.Call (.Name "enumerate" p) [a] [] pos) (iEn #[VG] ta):=by
 intro nM s σ H R I h;refine Call_ (zbk I hg hm kG (bZ (thn #[FM] fun us s1 ⟨vs,H1,I1,r1,q1⟩=>?_) hs rfl));obtain⟨l,xs,e,hq,q⟩:=q1;subst e;cases r1 with
 | cons r rr =>
  cases rr;cases r;obtain⟨nP,rv,pl,hz⟩:=I1.tuple hq;have n6:l < s1.heap.objs.size:=by obtain⟨_,e,_⟩:=pl; exact bA e
  refine zc5 (show s1.heap.IsTuple l nP.toArray from pl) fun h' he hi hsz kk=>?_
  have I2:Inv X nM σ H1 { s1 with heap:=h' }:=I1.kept (t':=s1.toks) kk;refine fX he ?_; refine⟨_,[s1.heap.objs.size+1,s1.heap.objs.size],_,zmx #[VG] l,H1,rfl,I2,zjn l s1.heap.objs.size (s1.heap.objs.size+1) (iV _) (bY n6) (bY (fF n6)),⟨⟨_,he⟩,hi⟩,fun b hb=>?_,q⟩;have hle:s1.heap.objs.size<=b:=by
   rcases aV.mp hb with z | z
   ·rw [z]; exact gW _
   ·have z:b=s1.heap.objs.size:=by simpa using z
    rw [z]; exact aH _
  exact I1.Mq hle #[Qx]
theorem zia {X:Cx}:zbv X (.builtin "isinstance") (fun xs H Q=>∃ x t n b,xs = [x,.ty n]/\M6 X.K H x t/\nj X.K t (.type n)=some b/\Q (.bl b) H):=by
 intro nM s σ H xs us Q I r h;obtain⟨x,t,n,b,rfl,ty,hk,q⟩:=h;obtain⟨u,u',rfl,rx,r2⟩:=vals2 r;cases r2;exact zk5 I rx ty hk fun tk=>⟨.bl b,H,I.tok tk,rfl,q⟩
theorem zib {X:Cx}:zbv X (.type "range") (fun xs H Q=>∃ j:Int,xs = [.int j]/\∀ l,H l=none->Q #[Pm] (nQ H l (.rng 0 j))):=by
 intro nM s σ H xs us Q I r h;obtain⟨j,rfl,q⟩:=h;obtain⟨u,rfl,t,rfl⟩:=vals1 r;refine call_range_1 ?_;exact⟨.ref s.heap.objs.size,_,I.laid (o:=.rng 0 j) #[UG] (aH _) ⟨_,_,_,aX _ rfl⟩,rfl,q _ I.fresh⟩
noncomputable def zco (lo:Int) (n:Nat):List Int:=(bM n).map fun (i:Nat)=>lo+(i:Int)
theorem zdD (lo:Int) (n:Nat):(zco lo n).length=n:=by simp [zco]
theorem zgh {acc:Array Value} {lo:Int} {n:Nat} (h:ItemsOf (fun i v=>∃ t,v = .int (lo+(i:Nat)*1) t) acc n):z0 ((zco lo n).map V.int) acc.toList:=by
 obtain⟨hsz,hv⟩:=h;have go:∀ (us:List Value) (k:Nat),(∀ (j:Nat) v,us[j]? = some v->∃ t,v = .int (lo+((k+j:Nat):Int)) t)->z0 (((bM us.length).map fun (i:Nat)=>V.int (lo+((k+i:Nat):Int)))) us:=by
  intro us;induction us with
  | nil=>intro k _; exact .nil
  | cons u us ih =>
   intro k hu;rw [dw,iQ,bV,cN];refine .cons ?_ ?_
   ·obtain⟨t,e⟩:=hu 0 u rfl;exact⟨t,e⟩
   ·have:=ih (k+1) fun j v e=>by
     obtain⟨t,z⟩:=hu (j+1) v (by simpa using e);exact⟨t,by rw [z]; congr 1; lia⟩
    have e2:(fun (i:Nat)=>V.int (lo+((k+1+i:Nat):Int)))=((fun (i:Nat)=>V.int (lo+((k+i:Nat):Int))) ∘ nJ):=by
     funext i;show V.int _=V.int _;congr 2;show ((k+1+i:Nat):Int)=((k+(i+1):Nat):Int);lia
    rw [<- e2];exact this
 have h1:=go acc.toList 0 fun j v e=>by
  obtain⟨t,z⟩:=hv j v (by simpa using e);exact⟨t,by rw [z]; simp⟩
 have e1:acc.toList.length=n:=by simpa using hsz
 rw [e1] at h1;unfold zco;rw [cN];have e2:(V.int ∘ fun (i:Nat)=>lo+(i:Int))=fun (i:Nat)=>V.int (lo+((0+i:Nat):Int)):=by
  funext i;show V.int (lo+(i:Int))=V.int (lo+((0+i:Nat):Int));rw [eJ]
 rw [e2];exact h1
theorem zgi {X:Cx} (hc:X.calm=true):zbv X (.type "list") (fun xs H Q=>∃ p hi,xs = [.ref p]/\H p=some (.rng 0 hi)/\0<=hi/\hi<=1000/\∀ l,H l=none->Q #[Pm] (nQ H l (.lst ((zco 0 hi.toNat).map V.int)))):=by
 intro nM s σ H xs us Q I r h;obtain⟨p,hi,rfl,hp,h0,h1,q⟩:=h;obtain⟨u,rfl,rx⟩:=vals1 r;cases rx;obtain⟨t,u',v,e⟩:=(show zat X.prog X.w H s.heap p (.rng 0 hi) from I.hok p _ hp);have pd:=bJ;refine call_list_range (n:=hi.toNat) #[O7] (show IsRange s.heap p 0 hi 1 t u' v from e) (small_one #[O] #[O] #[O] #[O]) (by rw [rangeSize_one]; split <;> lia) #[O] fun h' tk G7 c' kk ho xK=>?_
 have hv:=zgh (lo:=0) (n:=hi.toNat) xK;refine⟨.ref s.heap.objs.size,_,I.laid kk (aH _) ?_,rfl,q _ I.fresh⟩;exact⟨by rw [aA,zdD]; lia,G7.toList,c',hv,by simpa using ho⟩
noncomputable def zr4 (K:aF) (tl:TE):TI:=fun σ H R=>tl σ H fun x H1=>∃ a,x = .ref a/\(((∃ xs,nO K H1 a xs)/\R #[Vq] H1)\/((∃ xs,nS K H1 a xs)/\R #[Vp] H1))
theorem zmy {X:Cx} {tg l:Expr} {tl:TE} (hl:PE X l tl):PI X tg l (zr4 X.K tl):=by
 intro nM s σ H R I h;refine thn #[RO] fun v s1 ⟨x,H1,I1,r1,q1⟩=>?_
 obtain⟨a,e,q⟩:=q1;subst e;cases r1;rcases q with ⟨⟨xs,hq⟩,q⟩ | ⟨⟨xs,hq⟩,q⟩
 ·obtain⟨nP,rv,p,hz⟩:=I1.list hq;refine iL p.isList ?_;refine⟨s1.heap.objs.size,[s1.heap.objs.size],_,_,H1,rfl,I1.kept (t':=s1.toks) fun b o e=>aJ _ e,zgr a _,⟨_,aX _ rfl,rfl,rfl⟩,fun b hb=>?_,q⟩;have e:b=s1.heap.objs.size:=by simpa using hb
  subst e;exact I1.Mq (aH _) #[OM]
 ·obtain⟨nP,rv,p,hz⟩:=I1.tuple hq;refine fM (show s1.heap.IsTuple a nP.toArray from p) ?_;refine⟨s1.heap.objs.size,[s1.heap.objs.size],_,_,H1,rfl,I1.kept (t':=s1.toks) fun b o e=>aJ _ e,zfo a _,⟨_,aX _ rfl,rfl,rfl⟩,fun b hb=>?_,q⟩;have e:b=s1.heap.objs.size:=by simpa using hb
  subst e;exact I1.Mq (aH _) #[OM]
noncomputable def intsOf:List Expr->Option #[wp]
 | []=>some []
 | .Constant (.int i) _ _ :: r=>(intsOf r).map (i :: ·)
 | _=>none
noncomputable def zgG (ns:List Int):TA:=fun _ H Q=>Q #[Cl] H
theorem zmz:∀ (es:List Expr) (ns:List Int),intsOf es=some ns->PA X es (zgG ns):=by
 intro es;induction es with
 | nil =>
  intro ns h;have e:ns = []:=(bK h).symm;subst e;exact zd
 | cons e r ih =>
  intro ns h;unfold intsOf at h;split at h
  ·rename_i heq
   cases heq
  ·rename_i i j p r' heq
   injection heq with e1 e2
   subst e1 e2;cases hr:intsOf r with
   | none=>rw [hr] at h; cases h
   | some ms =>
    rw [hr] at h;have e:i :: ms=ns:=bK h;subst e;exact za zf (ih ms hr)
  ·cases h
theorem zow {X:Cx} {es:List Expr} {ns:List Int} (h:intsOf es=some ns):PA X es (zgG ns):=zmz es ns h
theorem zdE {X:Cx} {i:Int} {j:Nat} {p:Pos} {es:List Expr} {t:TA} (hr:PA X es t):PA X (.Constant (.int i) j p :: es) (zpx (tC (.int i)) t):=za zf hr
theorem zmA {X:Cx} {i:Nat} {x:Str} {pos' pP qZ:Pos} {rest:List Stmt} {u:TS} {es:List Expr} {ns:List Int} (h:intsOf es=some ns) (hN:X.N.Nodup) (hi:X.N[i]? = some x) (hx:Loc X.env.scope x)
  (hf:X.fn x=true\/X.env.scope.names.lookup x=some .local) (hr:PSs X rest u):PSs X (.Assign [.Name x pos'] (.List es pP) qZ :: rest) (zaY (zjb (zop (zgG ns)) (zaT i)) u):=by
 have h1:PE X (.List es pP) (zop (zgG ns)):=@z9 X es (zgG ns) pP (@zow X es ns h);have h2:PS X (.Assign [.Name x pos'] (.List es pP) qZ) (zjb (zop (zgG ns)) (zaT i)):=zm hN hi hx h1 (by rfl) hf;exact ze h2 hr
section
variable {X:Cx} {K:aF}
theorem za9 (hK:X.K=K):IxR X (zrk K):=by subst hK; exact zu
theorem zhd (hK:X.K=K):IxR X (zrl K):=by subst hK; exact za6
theorem zmB (hK:X.K=K):SlR X (zrn K):=by subst hK; exact zby
noncomputable def zrr (K:aF):List V->Hp->VK->Prop:=fun xs H Q=>∃ p ys,xs = [.ref p]/\(nO K H p ys\/nS K H p ys)/\Q (.int ys.length) H
theorem zaC (hK:X.K=K):zbv X (.builtin "len") (zrr K):=by subst hK; exact zo
theorem zaj {es:List Expr} {k:Nat} {t:TGs} {n:Nat} {pos:Pos} (hK:X.K=K) (hc:X.calm=true) (h:PGs X es t)
  (hn:#[Qz].length=n:=by rfl) (qp:#[Qz].findIdx? (·.1)=none:=by rfl):PG X #[Qb] (zhW K n t):=by subst hK; exact zaw hc h hn qp
theorem zqo {o e:Expr} {es:List Expr} {to:TE} {t:TA} {name:Str} {apos oU:Pos} {T id:String} {r:V->List V->Hp->VK->Prop} (hK:X.K=K) (pa:PlainAttrs T) (slot:Slot T name id) (GD:typeOf #[Q6]=pure (.type "method_descriptor")) (hm:MtR X id r) (ho:PE X o to) (ha:PA X (e :: es) t)
  (xE:attributeBase o name X.env #[Uu]=eval o X.env:=by rfl)
  (BD:(#[TC].all (fun x=>!x.1) && (backToKw oU (keywordEach [] X.env)).all (fun x=>x.1.isSome)
   && decide ((e :: es).length+([]:List Keyword).length+(if ([]:List Keyword).isEmpty then 0 else 1) < 30))=true:=by rfl)
  (xF:(apos.endLine == oU.line)=true:=by rfl) (hs:starEach (e :: es) X.env=#[OR] :: starEach es X.env:=by rfl) (uY:#[VW].any (·.1)=false:=by rfl) :
  PE X (.Call (.Attribute o name apos) (e :: es) [] oU) (tBM K T r to t):=by subst hK; exact zfu pa slot GD hm ho ha xE BD xF hs uY
end
end L2
end
section
namespace My
variable {done nW:List (Int×Int)}
noncomputable def Cg (p a b:Int):Prop:=∃ k,a=b+p*k
theorem Cg.refl (p a:Int):Cg p a a:=⟨0,by grind⟩
theorem Cg.symm {p a b:Int} (h:Cg p a b):Cg p b a:=by obtain⟨k,e⟩:=h; exact⟨-k,by grind⟩
theorem Cg.trans {p a b c:Int} (h:Cg p a b) (h':Cg p b c):Cg p a c:=by
 obtain⟨k,e⟩:=h; obtain⟨l,e'⟩:=h'; exact⟨k+l,by grind⟩
theorem Cg.add {p a b c d:Int} (h:Cg p a b) (h':Cg p c d):Cg p (a+c) (b+d):=by
 obtain⟨k,e⟩:=h; obtain⟨l,e'⟩:=h'; exact⟨k+l,by grind⟩
theorem Cg.sub {p a b c d:Int} (h:Cg p a b) (h':Cg p c d):Cg p (a - c) (b - d):=by
 obtain⟨k,e⟩:=h; obtain⟨l,e'⟩:=h'; exact⟨k - l,by grind⟩
theorem Cg.mul {p a b c d:Int} (h:Cg p a b) (h':Cg p c d):Cg p (a*c) (b*d):=by
 obtain⟨k,e⟩:=h; obtain⟨l,e'⟩:=h';exact⟨k*d+b*l+p*k*l,by subst e e'; grind⟩
theorem Cg.of_eq {p a b:Int} (h:a=b):Cg p a b:=h ▸ Cg.refl p a
theorem Cg.emod (p a:Int):Cg p (a % p) a:=⟨-(a / p),by have:=Int.emod_add_mul_ediv a p; grind⟩
theorem Cg.mod_eq {p a b:Int} (h:Cg p a b):a % p=b % p:=by
 obtain⟨k,e⟩:=h; rw [e,Int.add_mul_emod_self_left]
theorem Cg.M9 {p a b:Int} (h:a % p=b % p):Cg p a b:=(Cg.emod p a).symm.trans (h ▸ Cg.emod p b)
theorem Cg.eq {p a b:Int} (h:Cg p a b) (ha:0<=a) (ha':a < p) (hb:0<=b) (G8:b < p):a=b:=by
 have:=h.mod_eq
 rwa [dN ha ha',dN hb G8] at this
noncomputable def zF (p x:Int):List Int->Int
 | []=>0
 | c :: r=>(c+x*zF p x r) % p
theorem zce {p x:Int} (hp:0 < p):∀ l,0<=zF p x l
 | []=>dz 0
 | _ :: _=>bC _ #[O]
theorem zcf {p x:Int} (hp:0 < p):∀ l,zF p x l < p
 | []=>hp
 | _ :: _=>aR _ hp
theorem zar (p x c:Int) (r:List Int):Cg p (zF p x (c :: r)) (c+x*zF p x r):=Cg.emod _ _
noncomputable def lv (p x:Int):Int->Int->List Int->Int
 | nY,_,[]=>nY
 | nY,power,c :: r=>lv p x ((nY+c*power) % p) (power*x % p) r
theorem zpA {p x:Int}:∀ (l:List Int) (nY power:Int),Cg p (lv p x nY power l) (nY+power*zF p x l)
 | [],nY,power=>Cg.of_eq (by show nY=nY+power*0; grind)
 | c :: r,nY,power=>by
  have h1:=zpA (p:=p) (x:=x) r ((nY+c*power) % p) (power*x % p);refine h1.trans ?_;have h2:Cg p ((nY+c*power) % p+power*x % p*zF p x r) (nY+c*power+power*x*zF p x r):=#[OF].add ((Cg.emod p (power*x)).mul #[On]);refine h2.trans ?_;have h3:Cg p (nY+power*(c+x*zF p x r)) (nY+power*zF p x (c :: r)):=#[On].add (#[On].mul (zar p x c r).symm);refine #[Q5].trans h3;grind
theorem zmC {p x:Int} (hp:0 < p):∀ (l:List Int) (nY power:Int),0<=nY->nY < p->0<=lv p x nY power l/\lv p x nY power l < p
 | [],nY,power,h1,h2=>⟨h1,h2⟩
 | c :: r,nY,power,h1,h2=>zmC hp r _ _ (bC _ #[O]) (aR _ hp)
theorem zkf {p x:Int} (hp:0 < p) (l:List Int):lv p x 0 1 l=zF p x l:=by
 obtain⟨a,b⟩:=zmC (x:=x) hp l 0 1 (dz _) hp;exact ((zpA l 0 1).trans (Cg.of_eq (by grind))).eq a b (zce hp l) (zcf hp l)
noncomputable def zG:List Int:=[5,7,11,13,17,19,23,29,31,37,41,43,47,53,59,61,67,71,73,79,83,89,97]
noncomputable def zdi (p:Int):Nat->Int->Int->Int->Int
 | 0,prod,_,_=>prod
 | n+1,prod,sq,left=>if 0 < left then zdi p n (if left % 2=1 then prod*sq % p else prod) (sq*sq % p) (left / 2) else prod
noncomputable def inv (p h:Int):Int:=zdi p 7 1 (h % p) (p - 2)
noncomputable def zr5:Bool:=zG.all fun p=>(bM p.toNat).all fun h=>h == 0 || (inv p h*h) % p == 1
theorem zlj:zr5=true:=by decide +kernel
theorem zO {p:Int} (hp:p∈zG):5<=p/\p<=97:=by
 have:zG.all (fun p=>decide (5<=p/\p<=97))=true:=by decide +kernel
 have:=ge.mp this p hp;simpa using this
theorem zer {p h:Int} (hp:p∈zG) (h0:0 < h) (h1:h < p):Cg p (inv p h*h) 1:=by
 have e:=ge.mp (ge.mp zlj p hp) h.toNat (cE.mpr #[O]);have hh:((h.toNat:Nat):Int)=h:=by lia
 have:h.toNat≠0:=by lia
 simp only [Bool.or_eq_true,beq_iff_eq,hh,this,false_or] at e;have hr:=zO hp;exact Cg.M9 (by rw [e,dN #[O] #[O]])
theorem zic {p a b:Int} (hp:p∈zG) (h:Cg p (a*b) 0):Cg p a 0\/Cg p b 0:=by
 have hr:=zO hp;by_cases ha:a % p=0
 ·exact .inl (Cg.M9 (by rw [ha]; simp))
 ·right;have h0:0 < a % p:=by have:=bC a (show p≠0 by lia); lia
  have hi:=zer hp h0 (aR a #[O]);have h1:Cg p (inv p (a % p)*(a*b)) 0:=(#[On].mul h).trans (Cg.of_eq (by grind));have h2:Cg p (inv p (a % p)*(a % p)*b) (1*b):=hi.mul (Cg.refl p b);have h3:Cg p (inv p (a % p)*(a*b)) (inv p (a % p)*(a % p)*b):=by
   have:=((Cg.refl p (inv p (a % p))).mul (Cg.emod p a).symm).mul (Cg.refl p b);exact (Cg.of_eq (by grind)).trans this
  exact ((Cg.of_eq (by grind)).trans (h2.symm.trans (h3.symm.trans h1)))
noncomputable def trF (p r:Int) (high low:Int):Int:=(high - r*low) % p
noncomputable def zcA (p r:Int) (v:List Int):List Int:=cn (trF p r) (0 :: v) (v++[0])
theorem zpB {p r z:Int}:∀ (v:List Int) (h:Int),Cg p (zF p z (cn (trF p r) (h :: v) (v++[0]))) (h+(z - r)*zF p z v)
 | [],h=>by
  show Cg p ((trF p r h 0+z*0) % p) (h+(z - r)*0);refine #[OF].trans ?_;have:Cg p (trF p r h 0) (h - r*0):=Cg.emod p _;exact (this.add (Cg.refl p (z*0))).trans (Cg.of_eq (by grind))
 | c :: w,h=>by
  show Cg p ((trF p r h c+z*zF p z (cn (trF p r) (c :: w) (w++[0]))) % p) (h+(z - r)*zF p z (c :: w));have ih:=zpB (p:=p) (r:=r) (z:=z) w c;have h1:Cg p (trF p r h c) (h - r*c):=Cg.emod p _;refine #[OF].trans ((h1.add ((Cg.refl p z).mul ih)).trans ?_);have h2:Cg p (h+(z - r)*(c+z*zF p z w)) (h+(z - r)*zF p z (c :: w)):=(Cg.refl p h).add (#[On].mul (zar p z c w).symm);exact (Cg.of_eq (by grind)).trans h2
theorem zox {p r z:Int} (v:List Int):Cg p (zF p z (zcA p r v)) ((z - r)*zF p z v):=(zpB v 0).trans (Cg.of_eq (by grind))
theorem zdj (p r:Int) (v:List Int):(zcA p r v).length=v.length+1:=by simp [zcA]
theorem zfx {α β γ:Type} {f:α->β->γ}:∀ {as:List α} {bs:List β} {c:γ},c∈cn f as bs->∃ a b,c=f a b
 | [],_,c,h=>by simp at h
 | _ :: _,[],c,h=>by simp at h
 | a :: as,b :: bs,c,h=>by
  rcases aV.mp h with e | e
  ·exact⟨a,b,e⟩
  ·exact zfx e
theorem zmD {p r:Int} (hp:0 < p) (v:List Int):∀ c∈zcA p r v,0<=c/\c < p:=by
 intro c hc;obtain⟨a,b,e⟩:=zfx hc;rw [e]; exact⟨bC _ #[O],aR _ hp⟩
noncomputable def ad (p f:Int):List Int->List Int->List Int
 | c :: cs,v :: vs=>(c+f*v) % p :: ad p f cs vs
 | cs,[]=>cs
 | [],_ :: _=>[]
theorem zgH (p f:Int):∀ (cs vs:List Int),#[Uv].length=cs.length
 | _ :: cs,_ :: vs=>by show #[Uv].length+1=_; rw [zgH p f cs vs]; rfl
 | [],[]=>rfl
 | _ :: _,[]=>rfl
 | [],_ :: _=>rfl
theorem zmE {p f:Int} (hp:0 < p):∀ (cs vs:List Int),(∀ c∈cs,0<=c/\c < p)->∀ c∈ad p f cs vs,0<=c/\c < p
 | c :: cs,v :: vs,h,d,hd=>by
  rcases aV.mp hd with e | e
  ·rw [e]; exact⟨bC _ #[O],aR _ hp⟩
  ·exact zmE hp cs vs (fun c hc=>h c (aZ _ hc)) d e
 | [],[],h,d,hd=>h d hd
 | _ :: _,[],h,d,hd=>h d hd
 | [],_ :: _,h,d,hd=>by cases hd
theorem zkg {p f z:Int}:∀ (cs vs:List Int),vs.length<=cs.length->Cg p (zF p z #[Uv]) (zF p z cs+f*zF p z vs)
 | c :: cs,v :: vs,h=>by
  have ih:=zkg (p:=p) (f:=f) (z:=z) cs vs (by simpa using h);show Cg p (((c+f*v) % p+z*zF p z #[Uv]) % p) (zF p z (c :: cs)+f*zF p z (v :: vs));refine #[OF].trans (((Cg.emod p (c+f*v)).add ((Cg.refl p z).mul ih)).trans ?_);have h2:Cg p ((c+z*zF p z cs)+f*(v+z*zF p z vs)) (zF p z (c :: cs)+f*zF p z (v :: vs)):=(zar p z c cs).symm.add ((Cg.refl p f).mul (zar p z v vs).symm);exact (Cg.of_eq (by grind)).trans h2
 | [],[],_=>Cg.of_eq (by show (0:Int)=0+f*0; grind)
 | c :: cs,[],_=>Cg.of_eq (by show zF p z (c :: cs)=zF p z (c :: cs)+f*0; grind)
 | [],_ :: _,h=>by simp at h
noncomputable def zc7 (p:Int) (s:List Int×List Int) (q:Int×Int):List Int×List Int :=
 (ad p ((q.2 - zF p q.1 s.1)*inv p (zF p q.1 s.2) % p) s.1 s.2,zcA p q.1 s.2)
noncomputable def zrs (p:Int) (n:Nat) (nW:List (Int×Int)):List Int×List Int:=nW.foldl (zc7 p) (aP n 0,[1])
noncomputable def thr (p:Int) (nW:List (Int×Int)):List Int:=(zrs p nW.length nW).1
noncomputable def zc8 (z:Int):List (Int×Int)->Int
 | []=>1
 | q :: r=>(z - q.1)*zc8 z r
theorem zfy (z:Int) (q:Int×Int):∀ l,zc8 z (l++[q])=zc8 z l*(z - q.1)
 | []=>by show (z - q.1)*1=1*(z - q.1); grind
 | a :: l=>by show (z - a.1)*zc8 z (l++[q])=(z - a.1)*zc8 z l*(z - q.1); rw [zfy z q l]; grind
theorem zfz {z:Int}:∀ {l:List (Int×Int)},(∃ q∈l,q.1=z)->zc8 z l=0
 | [],h=>by obtain⟨q,hq,_⟩:=h; cases hq
 | a :: l,h=>by
  show (z - a.1)*zc8 z l=0;obtain⟨q,hq,e⟩:=h;rcases aV.mp hq with hq | hq
  ·subst hq; rw [e]; simp
  ·rw [zfz ⟨q,hq,e⟩]; simp
theorem zid {p z:Int} (hp:p∈zG) (hz:0<=z) (CU:z < p):∀ {l:List (Int×Int)},(∀ q∈l,0<=q.1/\q.1 < p/\q.1≠z)->¬ Cg p (zc8 z l) 0
 | [],_,h=>by
  have hr:=zO hp;have:=h.mod_eq;have e1:(zc8 z []:Int)=1:=rfl;rw [e1,dN #[O] #[O]] at this;simp at this
 | a :: l,hl,h=>by
  rcases zic hp (show Cg p ((z - a.1)*zc8 z l) 0 from h) with h | h
  ·obtain⟨h1,h2,h3⟩:=hl a bL;have:Cg p z a.1:=by
    have:=h.add (Cg.refl p a.1);exact (Cg.of_eq (by grind)).trans (this.trans (Cg.of_eq (by grind)))
   exact h3 (this.eq hz CU h1 h2).symm
  ·exact zid hp hz CU (fun q hq=>hl q (aZ _ hq)) h
structure Nw (p:Int) (n:Nat) (done:List (Int×Int)) (s:List Int×List Int):Prop where
 lc:s.1.length=n
 lv:s.2.length=done.length+1
 rc:∀ c∈s.1,0<=c/\c < p
 rv:∀ c∈s.2,0<=c/\c < p
 van:∀ z,Cg p (zF p z s.2) (zc8 z done)
 hit:∀ q∈done,zF p q.1 s.1=q.2
theorem zie {p:Int} (hp:p∈zG) (n:Nat):Nw p n [] (aP n 0,[1]):=by
 have hr:=zO hp;refine⟨#[M],rfl,fun c hc=>?_,fun c hc=>?_,fun z=>?_,fun q hq=>by cases hq⟩
 ·obtain⟨_,e⟩:=List.mem_replicate.mp hc;lia
 ·have:c=1:=by simpa using hc
  lia
 ·show Cg p ((1+z*0) % p) 1;exact #[OF].trans (Cg.of_eq (by grind))
theorem zkh {p:Int} {n:Nat} {s:List Int×List Int} (hp:p∈zG) (h:Nw p n done s) {q:Int×Int} (q0:0<=q.1) (q1:q.1 < p) (hd:∀ a∈done,0<=a.1/\a.1 < p/\a.1≠q.1) :
  0 < zF p q.1 s.2/\zF p q.1 s.2 < p:=by
 have hr:=zO hp;refine⟨?_,zcf #[O] _⟩;have h0:=zce (x:=q.1) (show 0 < p by lia) s.2;by_cases e:zF p q.1 s.2=0
 ·exact absurd ((h.van q.1).symm.trans (Cg.of_eq e)) (zid hp q0 q1 hd)
 ·lia
theorem zlk {p:Int} {n:Nat} {s:List Int×List Int} (hp:p∈zG) (h:Nw p n done s) {q:Int×Int} (q0:0<=q.1) (q1:q.1 < p) (hd:∀ a∈done,0<=a.1/\a.1 < p/\a.1≠q.1) :
  Cg p ((q.2 - zF p q.1 s.1)*inv p (zF p q.1 s.2) % p*zF p q.1 s.2) (q.2 - zF p q.1 s.1):=by
 obtain⟨h0,h1⟩:=zkh hp h q0 q1 hd;have hi:=zer hp h0 h1;refine (#[OF].mul #[On]).trans ?_;have:=(Cg.refl p (q.2 - zF p q.1 s.1)).mul hi;exact (Cg.of_eq (by grind)).trans (this.trans (Cg.of_eq (by grind)))
theorem zki {p:Int} {n:Nat} {s:List Int×List Int} (hp:p∈zG) (h:Nw p n done s) {q:Int×Int} (hn:done.length < n) (q0:0<=q.1) (q1:q.1 < p) (q2:0<=q.2) (q3:q.2 < p)
  (hd:∀ a∈done,0<=a.1/\a.1 < p/\a.1≠q.1/\0<=a.2/\a.2 < p):Nw p n (done++[q]) (zc7 p s q):=by
 have hr:=zO hp;have CN:∀ a∈done,0<=a.1/\a.1 < p/\a.1≠q.1:=fun a ha=>⟨(hd a ha).1,(hd a ha).2.1,(hd a ha).2.2.1⟩
 have hlv:=h.lv;have hlc:=h.lc;have hle:s.2.length<=s.1.length:=by lia
 refine⟨by show (ad _ _ _ _).length=n; rw [zgH,h.lc],by show (zcA _ _ _).length=_; rw [zdj,h.lv,aO,gJ],zmE #[O] _ _ h.rc,zmD #[O] _,fun z=>?_,fun a ha=>?_⟩
 ·rw [zfy];exact (zox s.2).trans ((#[On].mul (h.van z)).trans (Cg.of_eq (by grind)))
 ·have hv:=zkg (p:=p) (f:=(q.2 - zF p q.1 s.1)*inv p (zF p q.1 s.2) % p) (z:=a.1) s.1 s.2 hle; rcases bO.mp ha with ha | ha
  ·obtain⟨b0,b1,b2,b3,b4⟩:=hd a ha;have hz:Cg p (zF p a.1 s.2) 0:=(h.van a.1).trans (Cg.of_eq (zfz ⟨a,ha,rfl⟩));have h2:Cg p (zF p a.1 (ad p ((q.2 - zF p q.1 s.1)*inv p (zF p q.1 s.2) % p) s.1 s.2)) (zF p a.1 s.1):=hv.trans (((Cg.refl p (zF p a.1 s.1)).add (#[On].mul hz)).trans (Cg.of_eq (by rw [fq,dg])));rw [h.hit a ha] at h2;exact h2.eq (zce #[O] _) (zcf #[O] _) b3 b4
  ·have e:a=q:=by simpa using ha
   subst e;have h2:Cg p (zF p a.1 (ad p ((a.2 - zF p a.1 s.1)*inv p (zF p a.1 s.2) % p) s.1 s.2)) a.2:=hv.trans (((Cg.refl p (zF p a.1 s.1)).add (zlk hp h q0 q1 CN)).trans #[OG]);exact h2.eq (zce #[O] _) (zcf #[O] _) q2 q3
structure Pts (p:Int) (nW:List (Int×Int)):Prop where
 nd:(nW.map (·.1)).Nodup
 rg:∀ q∈nW,0<=q.1/\q.1 < p/\0<=q.2/\q.2 < p
theorem Pts.apart {p:Int} {rest:List (Int×Int)} {q:Int×Int} (h:Pts p (done++q :: rest)):∀ a∈done,0<=a.1/\a.1 < p/\a.1≠q.1/\0<=a.2/\a.2 < p:=fun a ha=>by
 obtain⟨r1,r2,r3,r4⟩:=h.rg a (bS _ ha);refine⟨r1,r2,fun e=>?_,r3,r4⟩;have nd:=h.nd;rw [aN,gH] at nd;exact nd.2.2 a.1 (bE.mpr ⟨a,ha,rfl⟩) q.1 #[M] e
theorem zmF {p:Int} (hp:p∈zG) {n:Nat}:∀ (rest done:List (Int×Int)) (s:List Int×List Int),Pts p (done++rest)->(done++rest).length=n->Nw p n done s->Nw p n (done++rest) (rest.foldl (zc7 p) s)
 | [],done,s,_,_,h=>by rw [cZ]; exact h
 | q :: rest,done,s,hP,hn,h=>by
  have yW:done.length < n:=by rw [<- hn]; simp
  obtain⟨a,b,c,d⟩:=hP.rg q #[M];have hs:=zki hp h (q:=q) yW a b c d hP.apart;have e:done++q :: rest=(done++[q])++rest:=by simp
  rw [e] at hP hn |-;exact zmF hp rest (done++[q]) _ hP hn hs
theorem zmG {p:Int} (hp:p∈zG) (hP:Pts p nW):(thr p nW).length=nW.length/\(∀ c∈thr p nW,0<=c/\c < p)/\∀ q∈nW,zF p q.1 (thr p nW)=q.2:=by
 have h:=zmF hp (n:=nW.length) nW [] _ (by simpa using hP) #[M] (zie hp nW.length);exact⟨h.lc,h.rc,h.hit⟩
end My
end
section
namespace My
open PySem L2 PyProof.Rows
variable {H H':Hp} {K:aF} {as cs ns:List Int} {g:TG} {j k:Nat} {te:TE} {ts:TT} {σ0:L2.St}
section
variable {K:aF}
theorem zmH {k:Int} (h0:0<=k) (h1:k < ns.length):∃ c:Int,ns[k.toNat]? = some c/\atI #[Cl] k=some (.int c):=by
 have n6:k.toNat < ns.length:=by lia
 have e:atI #[Cl] ((k.toNat:Nat):Int)=some (.int ns[k.toNat]):=zab (by simp [aD,aG n6]);have hk:((k.toNat:Nat):Int)=k:=by lia
 rw [hk] at e;exact⟨ns[k.toNat],#[M],e⟩
theorem ze3 {k:Int} (h0:0<=k) (h1:k < ns.length):∃ c:Int,atI #[Cl] k=some (.int c):=let ⟨c,_,e⟩:=zmH h0 h1; ⟨c,e⟩
theorem zb {a:Addr} {o:HO} (h:H a=none):zr H #[Us]:=fun b u e=>by rw [zp (zH e h)]; exact e
theorem zac {a:Addr} {o:HO} (s:zr H H') (h:H a=none):zr H (nQ H' a o):=fun b u e=>by rw [zp (zH e h)]; exact s b u e
theorem zax {n:Nat} (h:n<=10000):n < sizeLine:=by rw [bJ]; lia
noncomputable def zll (K:aF):Sp:=fun vs H Q _=>∃ (a:Addr) (ns:List Int) (k:Int),vs = [.ref a,.int k]/\nO K H a #[Cl]/\ns.length<=63/\0<=k/\k<=1000/\∀ c:Int,Q (.int c) H
noncomputable def ze4 (many:Nat) (base:Int) (ds:List Int):Prop:=ds.length=many/\∀ d∈ds,0<=d/\d < base
noncomputable def zjo (K:aF):Sp:=fun vs H Q _=>∃ (a:Addr) (ns:List Int) (k many base:Int),vs = [.ref a,.int k,.int many,.int base]/\nO K H a #[Cl]/\ns.length<=63/\0<=k/\k<=1000/\0<=many/\many<=1000/\0 < base/\base < 1073741824 /\
 ∀ (l:Addr) (ds:List Int) (H':Hp),H l=none->zr H H'->ze4 many.toNat base ds->H' l=some #[Sy]->Q #[Pm] H'
abbrev zoy:List V:=[.int 2147483647,.int 2147483629,.int 2147483587,.int 2147483579,.int 2147483563,.int 2147483549,.int 2147483543,.int 2147483497]
theorem zoz {m:Int} (h0:0<=m) (h1:m < 8):∃ q:Int,atI zoy m=some (.int q)/\0 < q/\q < 2147483648:=by
 have:m=0\/m=1\/m=2\/m=3\/m=4\/m=5\/m=6\/m=7:=by lia
 rcases this with e | e | e | e | e | e | e | e <;> subst e <;> exact⟨_,rfl,#[D],#[D]⟩
theorem zfA (j:Int):∃ q:Int,atI zoy (j % 8)=some (.int q)/\0 < q/\q < 2147483648:=zoz (bC _ #[D]) (aR _ #[D])
theorem gY {i:Nat} {x:V} {σ:L2.St} {A B:L2.St->Hp->Prop} (h:A #[OW] H):zaT i x σ H (fun σ2 H2=>zov σ2 H2 fun b H3=>if b=true then A σ2 H3 else B σ2 H3):=by
 show (if true=true then A #[OW] H else B #[OW] H);rw [if_pos rfl];exact h
structure NV (mk mn p k:Int) (pl:List Int):Prop where
 pr:p∈zG
 k1:1<=k
 kk:k<=mk
 kl:k<=pl.length
 ln:(pl.length:Int)<=mn
 nd:pl.Nodup
 rg:∀ x∈pl,0<=x/\x < p
noncomputable def zlm (K:aF):Sp:=fun vs H Q _=>∃ (a:Addr) (ns:List Int) (at' mk mn:Int),vs = [.ref a,.int at',.int mk,.int mn]/\nO K H a #[Cl]/\ns.length<=63/\0<=at'/\at'<=1000/\1<=mk/\mk<=5/\mk<=mn/\mn<=16 /\
 ∀ (c tt:Addr) (p k:Int) (pl:List Int) (H':Hp),H c=none->zr H H'->NV mk mn p k pl->H' c=some (.tup [.int p,.int k,.ref tt])->H' tt=some (.tup #[QE])->Q #[Sd] H'
theorem zqp {x y m:Int} (h0:0<=m) (h1:m < 2):∃ z:Int,atI [V.int x,V.int y] m=some (.int z)/\(z=x\/z=y):=by
 have:m=0\/m=1:=by lia
 rcases this with e | e <;> subst e
 ·exact⟨x,rfl,.inl rfl⟩
 ·exact⟨y,rfl,.inr rfl⟩
theorem zmI {k:Int} (h0:0<=k) (h1:k < ns.length):∃ c:Int,c∈ns/\atI #[Cl] k=some (.int c):=by
 obtain⟨c,e,h⟩:=zmH h0 h1;exact⟨c,aL e,h⟩
theorem zgI {α β:Type} (f:α->β):∀ (l:List α) (k:Nat),(l.map f).eraseIdx k=(l.eraseIdx k).map f
 | [],_=>rfl
 | _ :: _,0=>rfl
 | a :: l,k+1=>by show f a :: (l.map f).eraseIdx k=f a :: (l.eraseIdx k).map f; rw [zgI f l k]
theorem zfB {α:Type}:∀ {l:List α} {k:Nat} {x:α},l[k]? = some x->(x :: l.eraseIdx k).Perm l
 | [],_,_,h=>by simp at h
 | a :: l,0,x,h=>by
  have e:a=x:=by simpa using h
  subst e;exact List.Perm.refl _
 | a :: l,k+1,x,h=>by
  have ih:=zfB (l:=l) (k:=k) (x:=x) (by simpa using h);exact (List.Perm.swap a x _).trans (ih.cons a)
theorem zoA {p:Int} {xs ls:List Int} {x:Int} (h:ls[k]? = some x) (nd:(xs++ls).Nodup) (rg:∀ y∈xs++ls,0<=y/\y < p):((xs++[x])++ls.eraseIdx k).Nodup/\∀ y∈(xs++[x])++ls.eraseIdx k,0<=y/\y < p:=by
 have hp:((xs++[x])++ls.eraseIdx k).Perm (xs++ls):=by
  rw [cH];exact (zfB h).append_left xs
 exact⟨hp.nodup_iff.mpr nd,fun y hy=>rg y (hp.mem_iff.mp hy)⟩
theorem zln (p:Int):(zco 0 p.toNat).Nodup/\∀ y∈zco 0 p.toNat,0<=y/\y < p:=by
 unfold zco;constructor
 ·rw [eQ,dO];exact (eQ.mp (mP (n:=p.toNat))).imp fun {a b} hab=>by lia
 ·intro y hy;obtain⟨i,hi,e⟩:=bE.mp hy;have:=cE.mp hi;lia
noncomputable def zeG (K:aF):Sp:=fun vs H Q _=>∃ (p x:Int) (a:Addr) (cs:List Int),vs = [.int p,.ref a,.int x]/\(nO K H a #[QG]\/nS K H a #[QG])/\0 < p/\p<=97/\0<=x/\x < p/\Q (.int (zF p x cs)) H
noncomputable def zjp (K:aF):Sp:=zeG K
theorem zgJ {i:Nat} {c:Int} (hi:i < cs.length) (h:cs[cs.length - 1 - i]? = some c):cs.drop (cs.length - (i+1))=c :: cs.drop (cs.length - i):=by
 have e:cs.length - (i+1)=cs.length - 1 - i:=by lia
 have n6:cs.length - 1 - i < cs.length:=by lia
 rw [e,dQ n6];have:cs[cs.length - 1 - i]=c:=by
  rw [aG n6] at h;exact bK h
 rw [this];congr 2;lia
theorem zag {x:V} (h:#[QG][j]? = some x):∃ c,x = .int c/\cs[j]? = some c:=by
 rw [aD] at h;cases e:cs[j]? with
 | none=>rw [e] at h; cases h
 | some c=>rw [e] at h; exact⟨c,(bK h).symm,rfl⟩
theorem zkj {p x nY power c:Int} {i:Nat} (h:cs[i]? = some c):lv p x nY power (cs.drop i)=lv p x ((nY+c*power) % p) (power*x % p) (cs.drop (i+1)):=by
 obtain⟨n6,e⟩:=aW.mp h;rw [dQ n6,e];rfl
noncomputable def zjq (K:aF):Sp:=fun vs H Q _=>∃ (p h:Int),vs = [.int p,.int h]/\p∈zG/\0<=h/\h < p/\Q (.int (inv p h)) H
noncomputable def zqq (σ:L2.St):Nat:=match (σ[4]?:Option (Option V)) with
 | some (some (V.int l))=>l.toNat
 | _=>0
theorem zhe {p prod sq left:Int} {n:Nat} (h0:0 < left) (h1:left < 2 ^ (n+1)):zdi p (n+1) prod sq left=zdi p n (if left % 2=1 then prod*sq % p else prod) (sq*sq % p) (left / 2):=by
 show (if 0 < left then _ else _)=_;rw [if_pos h0]
theorem zif {p prod sq:Int}:∀ n,zdi p n prod sq 0=prod
 | 0=>rfl
 | n+1=>by show (if (0:Int) < 0 then _ else prod)=prod; rw [if_neg #[D]]
theorem gY2 {i:Nat} {T:Addr} {x y:V} {σ:L2.St} {A B:L2.St->Hp->Prop} (hT:nS K H T [x,y]) (h:A (#[OW].set j (some y)) H) :
  zhW K 2 #[Rz] (.ref T) σ H (fun σ2 H2=>zov σ2 H2 fun b H3=>if b=true then A σ2 H3 else B σ2 H3):=by
 refine⟨T,_,rfl,hT,rfl,x,_,rfl,y,_,rfl,rfl,?_⟩;show (if true=true then A (#[OW].set j (some y)) H else B (#[OW].set j (some y)) H);rw [if_pos rfl];exact h
theorem zig {f:Int->Int->Int} {bs:List Int} {i:Nat} {x y:Int} (hx:as[i]? = some x) (hy:bs[i]? = some y):#[S5].take (i+1)=#[S5].take i++[f x y]:=by
 have e:#[S5][i]? = some (f x y):=by rw [kL,hx,hy]
 rw [jM,e,lw]
noncomputable def zpC (K:aF) (H:Hp) (a:Addr) (nW:List (Int×Int)):Prop:=∃ bs:List Addr,nO K H a #[AC]/\bs.length=nW.length/\∀ (i:Nat) (b:Addr) (q:Int×Int),bs[i]? = some b->nW[i]? = some q->H b=some (.tup [.int q.1,.int q.2])
theorem zih (n:Nat):(aP n [V.int 0]).flatten=(aP n (0:Int)).map V.int:=by
 induction n with
 | zero=>rfl
 | succ n ih=>rw [dB,fW,ih,dB]; rfl
theorem zdU {n:Nat} (h:j < n):ixN n (j:Int)=some j:=by
 unfold ixN;rw [if_pos #[O],if_pos #[O]];rfl
theorem zN {bs:List Addr} {i:Nat} {x:V} (h:#[AC][i]? = some x):∃ b,x = .ref b/\bs[i]? = some b:=by
 rw [aD] at h;cases e:bs[i]? with
 | none=>rw [e] at h; cases h
 | some b=>rw [e] at h; exact⟨b,(bK h).symm,rfl⟩
theorem take_snoc {α:Type} {l:List α} {i:Nat} {x:α} (h:l[i]? = some x):l.take (i+1)=l.take i++[x]:=by
 rw [jM,h,lw]
theorem zfC {α:Type} {l:List α} {i:Nat} {x:α} (h:l[i]? = some x):l=l.take i++x :: l.drop (i+1):=by
 obtain⟨hi,e⟩:=aW.mp h; have:=dh i l;rw [dQ hi,e] at this;exact this.symm
theorem zmJ {f:Int->Int->Int} {bs:List Int} {n:Nat} (h1:n<=as.length) (h2:n<=bs.length) (h3:as.length<=n\/bs.length<=n):#[S5].length=n:=by
 rw [gZ];lia
theorem zes {a b:Addr} {bs:List Int} {n:Nat} {f:Int->Int->Int} {Q:VK} (ha:H a=some (.lst #[R1])) (hb:H b=some (.lst #[SM])) (h1:n<=as.length) (h2:n<=bs.length) (h3:as.length<=n\/bs.length<=n) (hn:n<=10000)
  (hs:∀ (i:Nat) (x y:Int) (H1:Hp) (T:Addr) (R:VK) (B:L2.St->Hp->Prop),as[i]? = some x->bs[i]? = some y->zr H H1->H1 T=none->R (.int (f x y)) (nQ H1 T (.tup [.int x,.int y]))->g (.ref T) σ0 (nQ H1 T (.tup [.int x,.int y])) fun σ2 H2=>ts σ2 H2 fun b H3=>if b=true then te σ2 H3 R else B σ2 H3)
  (hd:∀ D H1,zr H H1->H1 D=none->Q #[Pt] (nQ H1 D (.lst (#[S5].map V.int)))):cGo g ts te σ0 (zlf (nO K) (nO K) a b) Q H:=by
 have hl:=zmJ (f:=f) h1 h2 h3;refine zaI (n:=n) (fun i ys H'=>ys=(#[S5].take i).map V.int/\zr H H') ⟨#[M],fun _ _ e=>e⟩ ?_ ?_ ?_ ?_
 ·rintro i ys H3 hi ⟨_,s3⟩;obtain⟨x,hx⟩:∃ x,as[i]? = some x:=⟨as[i]'#[O],#[M]⟩;obtain⟨y,hy⟩:∃ y,bs[i]? = some y:=⟨bs[i]'#[O],#[M]⟩;exact⟨_,_,.int x,.int y,nO.of (s3 _ _ ha),nO.of (s3 _ _ hb),by rw [aD,hx]; rfl,by rw [aD,hy]; rfl⟩
 ·rintro ys H3 ⟨_,s3⟩;exact⟨_,_,nO.of (s3 _ _ ha),nO.of (s3 _ _ hb),by rw [aA,aA]; exact h3⟩
 ·rintro i x ys H3 H4 hi ⟨rfl,s3⟩ ⟨T,u,v,hT,rfl,rfl,hu,hv⟩;obtain⟨x,rfl,hx⟩:=zag (hu _ (nO.of (s3 _ _ ha)));obtain⟨y,rfl,hy⟩:=zag (hv _ (nO.of (s3 _ _ hb)));refine hs i x y H3 T _ _ hx hy s3 hT ⟨zax ?_,?_,s3.trans (zb hT)⟩
  ·rw [aA];exact bX (g7 _ _) #[O]
  ·rw [zig hx hy,aN];rfl
 ·rintro ys H3 D ⟨rfl,s3⟩ hD;rw [aY #[O]];exact hd D H3 s3 hD
theorem zbh {a:Addr} {xs fs:List V} {Q:VK} (ha:nO K H a xs) (hl:fs.length=xs.length) (hn:xs.length<=10000)
  (hs:∀ (i:Nat) (x y:V) (R:VK) (B:L2.St->Hp->Prop),xs[i]? = some x->fs[i]? = some y->R y H->g x σ0 H fun σ2 H2=>ts σ2 H2 fun b H3=>if b=true then te σ2 H3 R else B σ2 H3)
  (hd:∀ D,H D=none->Q #[Pt] (nQ H D (.lst fs))):cGo g ts te σ0 #[Vq] Q H:=by
 refine zaI (n:=xs.length) (fun i ys H'=>ys=fs.take i/\H'=H) ⟨#[M],rfl⟩ ?_ ?_ ?_ ?_
 ·rintro i ys H3 hi ⟨_,rfl⟩;exact⟨_,xs[i],ha,#[M]⟩
 ·rintro ys H3 ⟨_,rfl⟩;exact⟨_,ha,aH _⟩
 ·rintro i x ys H3 H4 hi ⟨rfl,rfl⟩ ⟨rfl,hx⟩;have hy:fs[i]? = some fs[i]:=by simp
  refine hs i x fs[i] _ _ (hx _ ha) hy #[Wg];rw [take_snoc hy]
 ·rintro ys H3 D ⟨rfl,rfl⟩ hD;rw [aY #[O]];exact hd D hD
theorem zb0 {a:Addr} {xs fs:List V} {Q:VK} (ha:nS K H a xs) (hl:fs.length=xs.length) (hn:xs.length<=10000)
  (hs:∀ (i:Nat) (x y:V) (R:VK) (B:L2.St->Hp->Prop),xs[i]? = some x->fs[i]? = some y->R y H->g x σ0 H fun σ2 H2=>ts σ2 H2 fun b H3=>if b=true then te σ2 H3 R else B σ2 H3)
  (hd:∀ D,H D=none->Q #[Pt] (nQ H D (.lst fs))):cGo g ts te σ0 #[Vp] Q H:=by
 refine zaI (n:=xs.length) (fun i ys H'=>ys=fs.take i/\H'=H) ⟨#[M],rfl⟩ ?_ ?_ ?_ ?_
 ·rintro i ys H3 hi ⟨_,rfl⟩;exact⟨_,xs[i],ha,#[M]⟩
 ·rintro ys H3 ⟨_,rfl⟩;exact⟨_,ha,aH _⟩
 ·rintro i x ys H3 H4 hi ⟨rfl,rfl⟩ ⟨rfl,hx⟩;have hy:fs[i]? = some fs[i]:=by simp
  refine hs i x fs[i] _ _ (hx _ ha) hy #[Wg];rw [take_snoc hy]
 ·rintro ys H3 D ⟨rfl,rfl⟩ hD;rw [aY #[O]];exact hd D hD
theorem zii (ds:List Int) (lo hi:Option Int):∃ ms:List Int,za7 #[OL] lo hi=ms.map V.int/\ms.length<=ds.length:=by
 refine⟨(ds.drop (HT.sIx #[OL].length 0 lo)).take (HT.sIx #[OL].length #[OL].length hi - HT.sIx #[OL].length 0 lo),?_,?_⟩
 ·unfold za7; rw [d9,gi]
 ·rw [aU,cP];lia
theorem zij {ms:List Int} {f:Int->V} {i:Nat} {x y:V} (hx:#[Rc][i]? = some x) (hy:(ms.map f)[i]? = some y):∃ c,ms[i]? = some c/\x = .int c/\y=f c:=by
 obtain⟨c,rfl,hc⟩:=zag hx;rw [aD,hc] at hy;exact⟨c,hc,rfl,(bK hy).symm⟩
noncomputable def zhf (K:aF):Sp:=fun vs H Q _=>∃ (a:Addr) (ns:List Int),vs = [.ref a]/\nO K H a #[Cl]/\ns.length<=63/\∀ H',Q (.bl true) H'
end
end My
end
section
namespace PySem
abbrev IsZ (h:Heap) (z TI TO:Addr) (f0 f1:Value):Prop:=h.get? z=some { cls:=.type "zip",dict:=none,data:=.fields #[f0,f1,.bool false,.ref TI,.ref TO],slots:=#[] }
noncomputable def ZF (f0 f1:Value):Prop:=(f0 = .none\/∃ a t,f0 = .int a t)/\∃ b,f1 = .bool b
structure Zap (z TI TO i1 i2:Addr) (rQ rR:List Addr):Prop where
 zTI:TI≠z
 zTO:TO≠z
 z1:i1≠z
 z2:i2≠z
 TT:TI≠TO
 T1:TI≠i1
 T2:TI≠i2
 O1:TO≠i1
 O2:TO≠i2
 ii:i1≠i2
 a1:z∉rQ
 a2:TO∉rQ
 a3:i2∉rQ
 b1:z∉rR
 b2:TO∉rR
 b3:i1∉rR
section
variable {prog:Program} {w:World} {A:Around} {E:Value->Shared->Prop} {s:Shared}
theorem zlo {a:Addr} {Q:Option Obj->Shared->Prop} (h:Q (s.heap.get? a) s):wpAny #[ss] A (loadIfAlive a) Q E s:=fun _ _ _=>h
theorem zmK {z TI TO:Addr} {f0 f1:Value} {Q:Bool->Shared->Prop} (hz:IsZ s.heap z TI TO f0 f1) (hf:ZF f0 f1) (h1:Q true s)
  (h2:∀ h',IsZ h' z TI TO f0 #[Ra]->cC z s.heap h'->Q false { s with heap:=h' }):wpAny #[ss] A (c6 #[QW]) Q E s:=by
 obtain⟨hf,b,rfl⟩:=hf;unfold c6; rcases hf with rfl | ⟨a,t,rfl⟩
 ·exact aB (cF hz rfl (x:=.none) rfl (aK h1))
 ·refine aB (cF hz rfl (x:=.int a t) rfl ?_);refine aB (zlo ?_);cases s.heap.get? a.toNat with
  | none=>exact aK h1
  | some o =>
   refine aB (cF hz rfl (x:=.bool b) rfl ?_);cases b with
   | true=>exact aK (h2 s.heap hz #[Tq])
   | false=>exact aB (cT hz #[M] fun h' a' b'=>aK (h2 h' a' b'))
theorem zkk {z TI TO i1 i2:Addr} {rQ rR:List Addr} {n1 n2 k1 k2:Nat} {P1 P2:Nat->Value->Prop} {S1 S2:Nat->Heap->Prop} {f0 f1 a b:Value} {Q:Value->Shared->Prop} (D1:Draws prog w A i1 rQ n1 P1 S1) (D2:Draws prog w A i2 rR n2 P2 S2) (Z:Zap z TI TO i1 i2 rQ rR)
  (hz:IsZ s.heap z TI TO f0 f1) (hf:ZF f0 f1) (v7:IsPair s.heap TI #[Sf] #[Se]) (xn:IsPair s.heap TO a b) (pS:S1 k1 s.heap) (oI:S2 k2 s.heap) (l1:k1 < n1) (l2:k2 < n2)
  (hQ:∀ x y h' tk g0 g1 a' b',P1 k1 x->P2 k2 y->IsZ h' z TI TO g0 g1->ZF g0 g1->IsPair h' TI #[Sf] #[Se]->IsPair h' TO a' b'->S1 (k1+1) h'->S2 (k2+1) h'->IsPair h' s.heap.objs.size x y->h'.objs.size=s.heap.objs.size+1 ->
   (∀ c o,c≠z->c≠TO->c≠i1->c≠i2->s.heap.get? c=some o->h'.get? c=some o)->Q #[wf] { s with heap:=h',toks:=tk }):wpAny #[ss] A (Builtin.«zip.__next__» ⟨[.ref z],[]⟩) (fun fin s'=>∃ v,fin = .done (.ret v)/\Q v s') E s:=by
 obtain⟨hp,g,d,Fw,os⟩:=s;show wpAny _ _ (field #[QW] 2 >>= _) _ _ _; refine aB #[Uo]; show wpAny _ _ (field #[QW] 3 >>= _) _ _ _;refine aB #[VE]; refine aB (dD v7 rfl ?_);show wpAny _ _ (c6 #[QW] >>= _) _ _ _; refine aB (zmK hz hf ?_ fun h0 CV uQ=>?_)
 ·simp only [if_true];refine aB #[TN];refine aB (cT hz #[M] fun ha AY u9=>?_);replace AY:IsZ ha z TI TO .ellipsis f1:=AY;replace u9:cC z hp ha:=u9;refine aB ?_;simp only [mQ,mZ,gq,jo]; refine aB (aB (jF ?_)); show wpAny _ _ (ci #[Sf] >>= _) _ _ _;refine aB (D1.item k1 _ _ _ l1 (D1.frame _ _ _ pS fun c hc o e=>u9.extBut c o (fun q=>Z.a1 (q ▸ hc)) e) fun x hb DH px DI pI=>aK ?_);replace pI:cC i1 ha hb:=pI;have xM:IsPair hb TO a b:=pI.extBut _ _ Z.O1 (u9.extBut _ _ Z.zTO xn);refine aB (dD xM rfl (aB (je xM fun hc y9 wc=>?_)));replace y9:IsPair hc TO x b:=y9;replace wc:cC TO hb hc:=wc;refine aB (gE (aK (aB (aB (jF ?_))))); show wpAny _ _ (ci #[Se] >>= _) _ _ _;refine aB (D2.item k2 _ _ _ l2 (D2.frame _ _ _ oI fun c qQ o e=>wc.extBut c o (fun q=>Z.b2 (q ▸ qQ)) (pI.extBut c o (fun q=>Z.b3 (q ▸ qQ)) (u9.extBut c o (fun q=>Z.b1 (q ▸ qQ)) e))) fun y hd G9 py Hb sR=>aK ?_);replace sR:cC i2 hc hd:=sR;have Aa:IsPair hd TO x b:=sR.extBut _ _ Z.O2 y9;refine aB (dD Aa rfl (aB (je Aa fun he Ab BJ=>?_)));replace Ab:IsPair he TO x y:=Ab;replace BJ:cC TO hd he:=BJ;refine aB (gE (aK (aK ?_))); refine aB (dD Ab rfl (aB (jp ?_)));have hsz:he.objs.size=hp.objs.size:=by rw [BJ.1,sR.1,wc.1,pI.1,u9.1]
  have hze:IsZ he z TI TO .ellipsis f1:=BJ.extBut _ _ Z.zTO.symm (sR.extBut _ _ Z.z2.symm #[Rk]);have kk:∀ c o,c≠z->c≠TO->c≠i1->c≠i2->hp.get? c=some o->he.get? c=some o:=fun c o c1 c2 c3 c4 e=>BJ.extBut _ _ c2 (sR.extBut _ _ c4 (wc.extBut _ _ c2 (pI.extBut _ _ c3 (u9.extBut _ _ c1 e))))
  have Hc:S1 (k1+1) he:=D1.frame _ _ _ DI fun c qQ o e=>BJ.extBut c o (fun q=>Z.a2 (q ▸ qQ)) (sR.extBut c o (fun q=>Z.a3 (q ▸ qQ)) (wc.extBut c o (fun q=>Z.a2 (q ▸ qQ)) e))
  have Hd:S2 (k2+1) he:=D2.frame _ _ _ Hb fun c qQ o e=>BJ.extBut c o (fun q=>Z.b2 (q ▸ qQ)) e
  have zlt:z < he.objs.size:=bA hze;show wpAny _ _ (dZ #[QW] (.ref he.objs.size) >>= _) _ _ _;refine aB ?_;unfold dZ; have we:IsZ (he.push { cls:=.type "tuple",data:=.seq #[x,y] }) z TI TO .ellipsis f1:=aJ _ hze;refine aB (cT we #[M] fun h7 He AZ=>?_);replace He:IsZ h7 z TI TO (rawInt he.objs.size) f1:=He;refine cT He #[M] fun h8 Fx Hf=>aK ⟨_,rfl,?_⟩
  replace Fx:IsZ h8 z TI TO (rawInt he.objs.size) #[VA]:=Fx;have up:∀ c o,c≠z->he.get? c=some o->h8.get? c=some o:=fun c o c1 e=>Hf.extBut _ _ c1 (AZ.extBut _ _ c1 (aJ _ e))
  have DJ:IsPair h8 he.objs.size x y:=Hf.extBut _ _ (ij zlt) (AZ.extBut _ _ (ij zlt) (aX _ rfl));have xN:h8.objs.size=he.objs.size+1:=by rw [Hf.1,AZ.1,cM]
  show Q (.ref he.objs.size) _;rw [hsz] at Fx DJ xN |-;exact hQ x y h8 G9 _ _ _ _ px py Fx ⟨.inr ⟨_,_,rfl⟩,_,rfl⟩ (up _ _ Z.zTI #[Ub]) (up _ _ Z.zTO Ab) (D1.frame _ _ _ Hc fun c qQ o e=>up c o (fun q=>Z.a1 (q ▸ qQ)) e) (D2.frame _ _ _ Hd fun c qQ o e=>up c o (fun q=>Z.b1 (q ▸ qQ)) e) DJ xN fun c o c1 c2 c3 c4 e=>up c o c1 (kk c o c1 c2 c3 c4 e)
 ·simp only [ck,if_false]; replace uQ:cC z hp h0:=uQ;rw [show (#[bP i1,bP i2]:Array Value) = [bP i1,bP i2].toArray from rfl];simp only [l3,gq,jo];refine aB (aB (aB (cQ ?_))); show wpAny _ _ (ci #[Sf] >>= _) _ _ _;refine aB (D1.item k1 _ _ _ l1 (D1.frame _ _ _ pS fun c hc o e=>uQ.extBut c o (fun q=>Z.a1 (q ▸ hc)) e) fun x hb DH px DI pI=>aK (aK ?_));replace pI:cC i1 h0 hb:=pI;refine aB (aB (cQ ?_)); show wpAny _ _ (ci #[Se] >>= _) _ _ _;refine aB (D2.item k2 _ _ _ l2 (D2.frame _ _ _ oI fun c qQ o e=>pI.extBut c o (fun q=>Z.b3 (q ▸ qQ)) (uQ.extBut c o (fun q=>Z.b1 (q ▸ qQ)) e)) fun y hd G9 py Hb sR=>aK (aK (aK ?_)));replace sR:cC i2 hb hd:=sR;show wpAny _ _ (newTuple [x,y] >>= _) _ _ _;refine aB (jp (aK ⟨_,rfl,?_⟩));have hsz:hd.objs.size=hp.objs.size:=by rw [sR.1,pI.1,uQ.1]
  have kk:∀ c o,c≠z->c≠TO->c≠i1->c≠i2->hp.get? c=some o->hd.get? c=some o:=fun c o c1 c2 c3 c4 e=>sR.extBut _ _ c4 (pI.extBut _ _ c3 (uQ.extBut _ _ c1 e))
  have Fy:IsZ hd z TI TO f0 #[Ra]:=sR.extBut _ _ Z.z2.symm (pI.extBut _ _ Z.z1.symm CV);have Aa:IsPair hd TO a b:=sR.extBut _ _ Z.O2 (pI.extBut _ _ Z.O1 (uQ.extBut _ _ Z.zTO xn));have Hg:S1 (k1+1) hd:=D1.frame _ _ _ DI fun c qQ o e=>sR.extBut c o (fun q=>Z.a3 (q ▸ qQ)) e
  have up:∀ c o,hd.get? c=some o->(hd.push { cls:=.type "tuple",data:=.seq #[x,y] }).get? c=some o:=fun c o e=>aJ _ e
  have DJ:IsPair (hd.push { cls:=.type "tuple",data:=.seq #[x,y] }) hd.objs.size x y:=aX _ rfl;have xN:(hd.push { cls:=.type "tuple",data:=.seq #[x,y] }).objs.size=hd.objs.size+1:=cM ..;show Q (.ref hd.objs.size) _;rw [hsz] at DJ xN |-;exact hQ x y _ G9 _ _ _ _ px py (up _ _ Fy) ⟨hf.1,_,rfl⟩ (up _ _ #[Ub]) (up _ _ Aa) (D1.frame _ _ _ Hg fun c _ o e=>up c o e) (D2.frame _ _ _ Hb fun c _ o e=>up c o e) DJ xN fun c o c1 c2 c3 c4 e=>up c o (kk c o c1 c2 c3 c4 e)
theorem zmL {z TI TO i1 i2:Addr} {rQ rR:List Addr} {n1 n2 k1 k2:Nat} {P1 P2:Nat->Value->Prop} {S1 S2:Nat->Heap->Prop} {f0 f1 a b:Value} {Q:Fin->Shared->Prop} (D1:Draws prog w A i1 rQ n1 P1 S1) (D2:Draws prog w A i2 rR n2 P2 S2) (Z:Zap z TI TO i1 i2 rQ rR)
  (hz:IsZ s.heap z TI TO f0 f1) (hf:ZF f0 f1) (v7:IsPair s.heap TI #[Sf] #[Se]) (xn:IsPair s.heap TO a b) (pS:S1 k1 s.heap) (oI:S2 k2 s.heap) (l1:k1=n1\/(k1 < n1/\k2=n2))
  (hE:∀ h' tk e,(∀ c o,c≠z->c≠TO->c≠i1->c≠i2->s.heap.get? c=some o->h'.get? c=some o)->(∃ o,h'.get? e=some o/\o.cls = .type "StopIteration")->E #[SW] { s with heap:=h',toks:=tk }):wpAny #[ss] A (Builtin.«zip.__next__» ⟨[.ref z],[]⟩) Q E s:=by
 obtain⟨hp,g,d,Fw,os⟩:=s;have nz:∀ {h:Heap} {e:Addr} {o:Obj} {x y:Value},IsZ h z TI TO x y->h.get? e=some o->o.cls = .type "StopIteration"->e≠z:=fun h1 h2 h3 q=>by subst q; rw [h1] at h2; cases h2; simp at h3
 show wpAny _ _ (field #[QW] 2 >>= _) _ _ _; refine aB #[Uo]; show wpAny _ _ (field #[QW] 3 >>= _) _ _ _;refine aB #[VE]; refine aB (dD v7 rfl ?_);show wpAny _ _ (c6 #[QW] >>= _) _ _ _; refine aB (zmK hz hf ?_ fun h0 CV uQ=>?_)
 ·simp only [if_true];refine aB #[TN];refine aB (cT hz #[M] fun ha AY u9=>?_);replace AY:IsZ ha z TI TO .ellipsis f1:=AY;replace u9:cC z hp ha:=u9;refine aB ?_;simp only [mQ,mZ,gq,jo]; refine aB (aB (jF ?_)); show wpAny _ _ (ci #[Sf] >>= _) _ _ _;have xO:S1 k1 ha:=D1.frame _ _ _ pS fun c hc o e=>u9.extBut c o (fun q=>Z.a1 (q ▸ hc)) e
  rcases l1 with rfl | ⟨l1,rfl⟩
  ·refine aB (D1.done _ _ _ xO fun hb e pI ⟨oe,DK,BK⟩=>?_);have hzb:IsZ hb z TI TO .ellipsis f1:=pI _ _ Z.z1.symm AY;exact cT hzb #[M] fun h3 _ uR=>hE h3 Fw e (fun c o c1 _ c3 _ x=>uR.extBut _ _ c1 (pI _ _ c3 (u9.extBut _ _ c1 x))) ⟨oe,uR.extBut _ _ (nz hzb DK BK) DK,BK⟩
  ·refine aB (D1.item k1 _ _ _ l1 xO fun x hb DH px DI pI=>aK ?_);replace pI:cC i1 ha hb:=pI;have xM:IsPair hb TO a b:=pI.extBut _ _ Z.O1 (u9.extBut _ _ Z.zTO xn);refine aB (dD xM rfl (aB (je xM fun hc y9 wc=>?_)));replace wc:cC TO hb hc:=wc;refine aB (gE (aK (aB (aB (jF ?_))))); show wpAny _ _ (ci #[Se] >>= _) _ _ _;refine aB (D2.done _ _ _ (D2.frame _ _ _ oI fun c qQ o e=>wc.extBut c o (fun q=>Z.b2 (q ▸ qQ)) (pI.extBut c o (fun q=>Z.b3 (q ▸ qQ)) (u9.extBut c o (fun q=>Z.b1 (q ▸ qQ)) e))) fun hd e sR ⟨oe,DK,BK⟩=>?_);have Fy:IsZ hd z TI TO .ellipsis f1:=sR _ _ Z.z2.symm #[Rk];exact cT Fy #[M] fun h3 _ uR=>hE h3 DH e (fun c o c1 c2 c3 c4 x=>uR.extBut _ _ c1 (sR _ _ c4 (wc.extBut _ _ c2 (pI.extBut _ _ c3 (u9.extBut _ _ c1 x))))) ⟨oe,uR.extBut _ _ (nz Fy DK BK) DK,BK⟩
 ·simp only [ck,if_false]; replace uQ:cC z hp h0:=uQ;rw [show (#[bP i1,bP i2]:Array Value) = [bP i1,bP i2].toArray from rfl];simp only [l3,gq,jo];refine aB (aB (aB (cQ ?_))); show wpAny _ _ (ci #[Sf] >>= _) _ _ _;have xO:S1 k1 h0:=D1.frame _ _ _ pS fun c hc o e=>uQ.extBut c o (fun q=>Z.a1 (q ▸ hc)) e
  rcases l1 with rfl | ⟨l1,rfl⟩
  ·exact aB (D1.done _ _ _ xO fun hb e pI he=>hE hb Fw e (fun c o c1 _ c3 _ x=>pI _ _ c3 (uQ.extBut _ _ c1 x)) he)
  ·refine aB (D1.item k1 _ _ _ l1 xO fun x hb DH px DI pI=>aK (aK ?_));replace pI:cC i1 h0 hb:=pI;refine aB (aB (cQ ?_)); show wpAny _ _ (ci #[Se] >>= _) _ _ _;exact aB (D2.done _ _ _ (D2.frame _ _ _ oI fun c qQ o e=>pI.extBut c o (fun q=>Z.b3 (q ▸ qQ)) (uQ.extBut c o (fun q=>Z.b1 (q ▸ qQ)) e)) fun hd e sR he=>hE hd DH e (fun c o c1 _ c3 c4 x=>sR _ _ c4 (pI.extBut _ _ c3 (uQ.extBut _ _ c1 x))) he)
theorem zoB {e z TI TO i1 i2:Addr} {rQ rR:List Addr} {n1 n2 i:Nat} {P1 P2:Nat->Value->Prop} {S1 S2:Nat->Heap->Prop} {f0 f1 a b old:Value} {Q:Option Value->Shared->Prop} (D1:Draws prog w A.in1.in1 i1 rQ n1 P1 S1) (D2:Draws prog w A.in1.in1 i2 rR n2 P2 S2) (Z:Zap z TI TO i1 i2 rQ rR)
  (he:IsEnum s.heap e z i old) (ez:e≠z) (eT:e≠TI) (eO:e≠TO) (e1:e≠i1) (e2:e≠i2) (ef1:e∉rQ) (ef2:e∉rR)
  (hz:IsZ s.heap z TI TO f0 f1) (hf:ZF f0 f1) (v7:IsPair s.heap TI #[Sf] #[Se]) (xn:IsPair s.heap TO a b) (pS:S1 i s.heap) (oI:S2 i s.heap) (l1:i < n1) (l2:i < n2)
  (hQ:∀ x y h' tk g0 g1 a' b',P1 i x->P2 i y->IsEnumOut h' e z ((i:Int)+1) #[wf] #[Fa]->IsZ h' z TI TO g0 g1->ZF g0 g1->IsPair h' TI #[Sf] #[Se]->IsPair h' TO a' b'->S1 (i+1) h'->S2 (i+1) h'->IsPair h' s.heap.objs.size x y ->
   IsPair h' #[Fa] (.int i tk) #[wf]->h'.objs.size=s.heap.objs.size+2 ->
   (∀ c o,c≠e->c≠z->c≠TO->c≠i1->c≠i2->s.heap.get? c=some o->h'.get? c=some o)->Q (some (.ref #[Fa])) { s with heap:=h',toks:=tk+1 }):wpAny #[ss] A (pyNext #[SW]) Q E s:=by
 have hT:s.TypeIs #[SW] "enumerate":=⟨_,he,rfl⟩; have wg:s.TypeIs #[QW] "zip":=⟨_,hz,rfl⟩;unfold pyNext;refine aB (d8 (cj (name:=cJ "__next__") hT eX #[SQ]));obtain⟨hp,g,d,Fw,os⟩:=s;show wpAny _ _ (field #[SW] 2 >>= _) _ _ _; refine aB #[UY];unfold ci; refine aB (cj (name:=cJ "__next__") wg ft #[Q8]);refine zkk D1 D2 Z hz hf v7 xn pS oI l1 l2 fun x y h1 tk g0 g1 a' b' px py tX Hh BM BN BO BP va BQ kk=>aK ?_
 have Hi:IsEnum h1 e z i old:=kk _ _ ez eO e1 e2 he;have elt:e < hp.objs.size:=bA he;show wpAny _ _ (field #[SW] 3 >>= _) _ _ ⟨h1,g,d,tk,os⟩; refine aB (cF Hi rfl (x:=rawInt i) rfl ?_);show wpAny _ _ (field #[SW] 4 >>= _) _ _ ⟨h1,g,d,tk,os⟩; refine aB (cF Hi rfl (x:=.none) rfl ?_);show wpAny _ _ (mkInt i >>= _) _ _ ⟨h1,g,d,tk,os⟩; refine aB (wpAny_mkInt ?_);show wpAny _ _ (setField #[SW] 3 (rawInt ((i:Int)+1)) >>= _) _ _ ⟨h1,g,d,tk+1,os⟩; refine aB (cT Hi #[M] fun h2 Hj pH=>?_);replace pH:cC e h1 h2:=pH;replace Hj:IsEnum h2 e z ((i:Int)+1) old:=Hj;show wpAny _ _ (setField #[SW] 4 .none >>= _) _ _ ⟨h2,g,d,tk+1,os⟩; refine aB (cT Hj #[M] fun h3 Hk uR=>?_);replace uR:cC e h2 h3:=uR;replace Hk:IsEnum h3 e z ((i:Int)+1) old:=Hk;show wpAny _ _ (newTuple [.int i tk,.ref hp.objs.size] >>= _) _ _ ⟨h3,g,d,tk+1,os⟩; refine aB (jp ?_);have z3:h3.objs.size=hp.objs.size+1:=by rw [uR.1,pH.1]; exact BQ
 rw [z3];have Fz:IsEnum (h3.push { cls:=.type "tuple",data:=.seq #[Pc] }) e z ((i:Int)+1) old:=aJ _ Hk;have Hl:=aX h3 (o:={ cls:=.type "tuple",data:=.seq #[Pc] }) rfl;rw [z3] at Hl;have k4:∀ c o,c≠e->h1.get? c=some o->(h3.push { cls:=.type "tuple",data:=.seq #[Pc] }).get? c=some o:=fun c o ce x=>aJ _ (uR.extBut c o ce (pH.extBut c o ce x))
 have z4:(h3.push { cls:=.type "tuple",data:=.seq #[Pc] }).objs.size=hp.objs.size+2:=by rw [cM,z3]
 generalize h3.push { cls:=.type "tuple",data:=.seq #[Pc] }=h4 at Fz Hl k4 z4 |-;show wpAny _ _ (c6 #[SW] >>= _) _ _ ⟨h4,g,d,tk+1,os⟩;refine aB ?_;unfold c6; refine aB (cF Fz rfl (x:=.none) rfl (aK ?_));simp only [if_true]; refine aB (c9 (aB (cF Fz rfl (x:=old) rfl ?_)));refine aB (cT Fz #[M] fun h5 Hm FA=>?_);replace FA:cC e h4 h5:=FA;replace Hm:IsEnum h5 e z ((i:Int)+1) #[T9]:=Hm;show wpAny _ _ (dZ #[SW] (.ref (hp.objs.size+1)) >>= _) _ _ ⟨h5,g,d,tk+1,os⟩;refine aB ?_;unfold dZ; refine aB (cT Hm #[M] fun h6 Hn FC=>?_);replace FC:cC e h5 h6:=FC;replace Hn:IsEnumOut h6 e z ((i:Int)+1) #[T9] (hp.objs.size+1):=Hn;refine cT Hn #[M] fun h7 Ho AZ=>?_
 replace AZ:cC e h6 h7:=AZ;replace Ho:IsEnumOut h7 e z ((i:Int)+1) #[T9] (hp.objs.size+1):=Ho;have up:∀ c o,c≠e->h4.get? c=some o->h7.get? c=some o:=fun c o ce x=>AZ.extBut c o ce (FC.extBut c o ce (FA.extBut c o ce x))
 have z7:h7.objs.size=hp.objs.size+2:=by rw [AZ.1,FC.1,FA.1,z4]
 refine aB (gE (aK ⟨_,rfl,aK ?_⟩));exact hQ x y h7 tk g0 g1 a' b' px py Ho (up _ _ ez.symm (k4 _ _ ez.symm tX)) Hh (up _ _ eT.symm (k4 _ _ eT.symm BM)) (up _ _ eO.symm (k4 _ _ eO.symm BN))
  (D1.frame _ _ _ BO fun c hc o x=>up c o (fun q=>ef1 (q ▸ hc)) (k4 c o (fun q=>ef1 (q ▸ hc)) x)) (D2.frame _ _ _ BP fun c hc o x=>up c o (fun q=>ef2 (q ▸ hc)) (k4 c o (fun q=>ef2 (q ▸ hc)) x))
  (up _ _ (ij elt) (k4 _ _ (ij elt) va)) (up _ _ (ij (fF elt)) Hl) z7 fun c o ce cz cO c1 c2 x=>up c o ce (k4 c o ce (kk c o cz cO c1 c2 x))
theorem zqr {e z TI TO i1 i2:Addr} {rQ rR:List Addr} {n1 n2 k:Nat} {i:Int} {P1 P2:Nat->Value->Prop} {S1 S2:Nat->Heap->Prop} {f0 f1 a b old:Value} {Q:Option Value->Shared->Prop} (D1:Draws prog w A.in1.in1 i1 rQ n1 P1 S1) (D2:Draws prog w A.in1.in1 i2 rR n2 P2 S2) (Z:Zap z TI TO i1 i2 rQ rR)
  (he:IsEnum s.heap e z i old) (hz:IsZ s.heap z TI TO f0 f1) (hf:ZF f0 f1) (v7:IsPair s.heap TI #[Sf] #[Se]) (xn:IsPair s.heap TO a b) (pS:S1 k s.heap) (oI:S2 k s.heap) (l1:k=n1\/(k < n1/\k=n2))
  (hQ:∀ h' tk,(∀ c o,c≠z->c≠TO->c≠i1->c≠i2->s.heap.get? c=some o->h'.get? c=some o)->Q none { s with heap:=h',toks:=tk }):wpAny #[ss] A (pyNext #[SW]) Q E s:=by
 have hT:s.TypeIs #[SW] "enumerate":=⟨_,he,rfl⟩; have wg:s.TypeIs #[QW] "zip":=⟨_,hz,rfl⟩;unfold pyNext;refine aB (d8 (cj (name:=cJ "__next__") hT eX #[SQ]));show wpAny _ _ (field #[SW] 2 >>= _) _ _ _; refine aB #[UY];unfold ci; refine aB (cj (name:=cJ "__next__") wg ft #[Q8]);refine zmL D1 D2 Z hz hf v7 xn pS oI l1 fun h' tk x kk ⟨o,ho,hc⟩=>?_
 exact aB (gf (T:="StopIteration") (b:=true) ⟨o,ho,hc⟩ iB (aK (hQ h' tk kk)))
end
noncomputable def zhg (x y:Value):Obj:={ cls:=.type "tuple",data:=.seq #[x,y] }
noncomputable def zrt (a b:Addr):Obj:={ cls:=.type "zip",data:=.fields #[.none,.bool false,.bool false,.ref a,.ref b] }
noncomputable def itO (C:String) (l:Addr):Obj:={ cls:=.type C,data:=.fields #[.ref l,.int 0 0] }
abbrev zt2 (C:String) (h:Heap) (l1 l2:Addr):Heap:=#[VV].push (itO C l2)
abbrev zt4 (C:String) (h:Heap) (l1 l2:Addr):Heap:=((zt2 C h l1 l2).push (zhg (.ref h.objs.size) (.ref #[VV].objs.size))).push (zhg .none .none)
abbrev zt5 (C:String) (h:Heap) (l1 l2:Addr):Heap:=(zt4 C h l1 l2).push (zrt (zt2 C h l1 l2).objs.size ((zt2 C h l1 l2).push (zhg (.ref h.objs.size) (.ref #[VV].objs.size))).objs.size)
noncomputable def ItC (C:String) (h:Heap) (a l:Addr) (i:Nat):Prop:=∃ o,h.get? a=some o/\o.cls = .type C/\o.data = .fields #[.ref l,.int i 0]
structure SkH (C:String) (Is:Heap->Addr->Array Value->Prop):Prop where
 it:∀ {prog:Program} {w:World} {A:Around} {E:Value->Shared->Prop} {s:Shared} {l:Addr} {items:Array Value} {Q:Value->Shared->Prop},Is s.heap l items->Q #[wf] { s with heap:=s.heap.push (itO C l) }->wpAny #[ss] A (pyIter #[Pm]) Q E s
 pu:∀ {h:Heap} {l:Addr} {items:Array Value} (o:Obj),Is h l items->Is (h.push o) l items
 dr:∀ {prog:Program} {w:World} {A:Around},A.handled=none->∀ (it l:Addr),l≠it->∀ (items:Array Value),Draws prog w A it [it,l] items.size (fun i v=>items[i]? = some v) fun i h=>ItC C h it l i/\Is h l items
theorem skL:SkH "list_iterator" Heap.IsList:=⟨fun h q=>iL h q,fun o h=>Heap.IsList.push h o,fun hh it l ne items=>iC hh it l ne items⟩
theorem zik {C:String} {Is:Heap->Addr->Array Value->Prop} (S:SkH C Is) (l1 l2:Addr) (xs ys:Array Value):Meets (Builtin.«zip.__new__» ⟨[.type "zip",.ref l1,.ref l2],[]⟩) (fun _ R s=>s.heap.IsTuple l1 xs/\Is s.heap l2 ys/\R (.ok (.ret (.ref #[Tr].objs.size))) { s with heap:=zt5 C s.heap l1 l2 }) :=
 .of_wp fun prog w A R s h=>by
  obtain⟨hp,g,d,tk,os⟩:=s; obtain⟨u5,qg,h⟩:=h; have xJ:=sub_zip;have xP:Heap.IsTuple #[UD] l1 xs:=u5;have Ba:Is (kB ⟨hp.push { cls:=.type "tuple_iterator",data:=.fields #[.ref l1,.int 0 0] },g,d,tk,os⟩) l2 ys:=S.pu _ qg
  wp_walk using fM xP,S.it Ba
  exact⟨_,rfl,h⟩
section
variable {prog:Program} {w:World} {A:Around} {E:Value->Shared->Prop} {s:Shared}
theorem zfD {C:String} {Is:Heap->Addr->Array Value->Prop} (S:SkH C Is) {l1 l2:Addr} {xs ys:Array Value} {Q:Value->Shared->Prop} (u5:s.heap.IsTuple l1 xs) (qg:Is s.heap l2 ys)
  (h:∀ h' n,n=s.heap.objs.size->IsZ h' (n+4) (n+2) (n+3) .none #[VA]->IsPair h' (n+2) (.ref n) #[TU]->IsPair h' (n+3) .none .none->h'.IsTupleIter n l1 0->ItC C h' (n+1) l2 0->h'.objs.size=n+5 ->
   (∀ c o,s.heap.get? c=some o->h'.get? c=some o)->Q #[TR] { s with heap:=h' }):wpAny #[ss] A (call (.type "zip") [.ref l1,.ref l2]) Q E s:=by
 refine jV F.called_zip #[D] (F.typeCall_zip_2 _ _) (F.newCall_zip_2 _ _) (fun obj=>F.args_object_init_3 obj _ _) F.entry_zip_new (zik S l1 l2 xs ys) ⟨u5,qg,?_⟩;have z1:#[OS].objs.size=s.heap.objs.size+1:=cM ..;have z2:#[O3].objs.size=s.heap.objs.size+2:=by rw [cM,z1]
 have z3:(#[O3].push (zhg #[wf] (.ref #[OS].objs.size))).objs.size=s.heap.objs.size+3:=by rw [cM,z2]
 have z4:#[Tr].objs.size=s.heap.objs.size+4:=by rw [cM,z3]
 have g5:=aX #[Tr] (o:=zrt #[O3].objs.size (#[O3].push (zhg #[wf] (.ref #[OS].objs.size))).objs.size) rfl;have g4:#[O0].get? _=some _:=aJ _ (aX (#[O3].push (zhg #[wf] (.ref #[OS].objs.size))) (o:=zhg .none .none) rfl);have g3:#[O0].get? _=some _:=aJ _ (aJ _ (aX #[O3] (o:=zhg #[wf] (.ref #[OS].objs.size)) rfl));have g2:#[O0].get? _=some _:=aJ _ (aJ _ (aJ _ (aX #[OS] (o:=itO C l2) rfl)));have g1:#[O0].get? s.heap.objs.size=some (zbT l1):=aJ _ (aJ _ (aJ _ (aJ _ (aX _ rfl))));have z5:#[O0].objs.size=s.heap.objs.size+5:=by rw [cM,z4]
 have k5:∀ c o,s.heap.get? c=some o->#[O0].get? c=some o:=fun c o x=>aJ _ (aJ _ (aJ _ (aJ _ (aJ _ x))))
 show _/\_;rw [z4] at g5 |-;rw [z3] at g4;rw [z2] at g3;rw [z1] at g2;refine⟨⟨_,g5,rfl⟩,h _ _ rfl ?_ ?_ g4 ⟨_,g1,rfl,rfl⟩ ⟨_,g2,rfl,rfl⟩ z5 k5⟩
 ·have:IsZ #[O0] (s.heap.objs.size+4) #[O3].objs.size (#[O3].push (zhg #[wf] (.ref #[OS].objs.size))).objs.size .none #[VA]:=g5;rw [z2,z3] at this;exact this
 ·have:IsPair #[O0] (s.heap.objs.size+2) #[wf] (.ref #[OS].objs.size):=g3;rw [z1] at this;exact this
theorem zjr {l1 l2:Addr} {xs ys:Array Value} {Q:Value->Shared->Prop} (u5:s.heap.IsTuple l1 xs) (qg:s.heap.IsList l2 ys)
  (h:∀ h' n,n=s.heap.objs.size->IsZ h' (n+4) (n+2) (n+3) .none #[VA]->IsPair h' (n+2) (.ref n) #[TU]->IsPair h' (n+3) .none .none->h'.IsTupleIter n l1 0->h'.IsListIter (n+1) l2 0->h'.objs.size=n+5 ->
   (∀ c o,s.heap.get? c=some o->h'.get? c=some o)->Q #[TR] { s with heap:=h' }):wpAny #[ss] A (call (.type "zip") [.ref l1,.ref l2]) Q E s:=zfD skL u5 qg h
end
open AutoSeq1 (wpAny_loadPart') in
theorem zil (z TI TO:Addr) (f0:Value):Meets (Builtin.«enumerate.__new__» ⟨[.type "enumerate",.ref z],[]⟩) (fun _ R s=>IsZip s.heap z TI TO f0/\R (.ok (.ret #[wf])) { s with heap:=s.heap.push (zhb z) }) :=
 .of_wp fun prog w A R s h=>by
  obtain⟨hp,g,d,tk,os⟩:=s; obtain⟨hz,h⟩:=h;have hZ:IsZip #[UD] z TI TO f0:=hz;have xJ:=sub_enumerate; wp_walk using gu hz;refine wpAny_stack_any fun st=>aK ?_; split
  ·rename_i c _ _ _ _ _; cases (c == mT "enumerate") <;> (wp_walk using gu hz,iW hZ; exact⟨_,rfl,h⟩)
  ·wp_walk using gu hz,iW hZ; exact⟨_,rfl,h⟩
theorem zjs {prog:Program} {w:World} {A:Around} {E:Value->Shared->Prop} {s:Shared} {z TI TO:Addr} {f0:Value} {Q:Value->Shared->Prop} (hz:IsZip s.heap z TI TO f0)
  (h:∀ h',IsEnum h' s.heap.objs.size z 0 .none->h'.objs.size=s.heap.objs.size+1->(∀ b o,s.heap.get? b=some o->h'.get? b=some o)->Q #[wf] { s with heap:=h' }):wpAny #[ss] A (call (.type "enumerate") [.ref z]) Q E s:=by
 refine jV lZ #[D] (kC _) (kJ _) #[UE] kK (zil z TI TO f0) ⟨hz,?_⟩;have he:=aX s.heap (o:=zhb z) rfl;exact⟨⟨_,he,rfl⟩,h _ he (cM ..) fun b o x=>aJ _ x⟩
end PySem
end
section
namespace L2
open PySem PySem.Spec PyProof.Rows
variable {K:aF} {P:Program} {j k:Nat} {pos:Pos} {w:World}
noncomputable def zoC (sO sP:Hp->Addr->List V->Prop) (a b:Addr):It :=
 ⟨fun i H=>∃ xs ys x y,sO H a xs/\sP H b ys/\xs[i]? = some x/\ys[i]? = some y,
  fun i H x H'=>∃ T1 T2 u v,H T1=none/\H T2=none/\T1≠T2/\x = .ref T2/\H'=nQ (nQ H T1 (.tup [u,v])) T2 (.tup [.int i,.ref T1])/\(∀ xs,sO H a xs->xs[i]? = some u)/\∀ ys,sP H b ys->ys[i]? = some v,
  fun i H=>∃ xs ys,sO H a xs/\sP H b ys/\xs.length=i⟩
abbrev zfE (n:Nat):List Addr:=[n+5,n+4,n+2,n+3,n,n+1]
abbrev zqs (n a b:Nat) (i:Nat) (h:Heap):Prop:=(∃ old,IsEnum h (n+5) (n+4) i old)/\(∃ f0 f1,IsZ h (n+4) (n+2) (n+3) f0 f1/\ZF f0 f1)/\IsPair h (n+2) (.ref n) #[TU]/\(∃ u v,IsPair h (n+3) u v)/\h.IsTupleIter n a i/\h.IsListIter (n+1) b i
theorem nq {x y:Nat} (h:x≠y):@Ne Addr x y:=h
theorem nl {x y:Nat} (h:x < y):@LT.lt Nat _ x y:=h
theorem nm2 {c x y:Nat} (h1:c≠x) (h2:c≠y):¬ @Membership.mem Addr (List Addr) _ [x,y] c:=fun h=>by
 rcases aV.mp h with e | e
 ·exact h1 e
 ·exact h2 (bD.mp e)
theorem zdk {n a b:Nat} (ha:a < n) (hb:b < n):Zap (n+4) (n+2) (n+3) n (n+1) [n,a] [n+1,b] :=
 ⟨nq #[O],nq #[O],nq #[O],nq #[O],nq #[O],nq #[O],nq #[O],nq #[O],nq #[O],nq #[O],nm2 #[O] #[O],nm2 #[O] #[O],nm2 #[O] #[O],nm2 #[O] #[O],nm2 #[O] #[O],nm2 #[O] #[O]⟩
theorem zoD {es:List Expr} (a b n:Nat) (ha:a < n) (hb:b < n):Turn P w K #[Qb] (zoC (nS K) (nO K) a b) (zfE n) (n+5) (zqs n a b) where
 mem:=by simp
 obj:=fun i h st c hc=>by
  obtain⟨⟨old,h0⟩,⟨f0,f1,h1,_⟩,h2,⟨u,v,h3⟩,⟨o4,e4,_,d4⟩,⟨o5,e5,_,d5⟩⟩:=st;simp only [zfE,aV,bQ,or_false] at hc;rcases hc with z | z | z | z | z | z <;> subst z
  ·exact⟨_,h0,fun v z=>by cases z⟩
  ·exact⟨_,h1,fun v z=>by cases z⟩
  ·exact⟨_,h2,fun v z=>by cases z⟩
  ·exact⟨_,h3,fun v z=>by cases z⟩
  ·exact⟨_,e4,fun v z=>by rw [d4] at z; cases z⟩
  ·exact⟨_,e5,fun v z=>by rw [d5] at z; cases z⟩
 keep:=fun i h h' st kk=>by
  obtain⟨⟨old,h0⟩,⟨f0,f1,h1,hf⟩,h2,⟨u,v,h3⟩,h4,h5⟩:=st;exact⟨⟨old,kk _ #[M] _ h0⟩,⟨f0,f1,kk _ #[M] _ h1,hf⟩,kk _ #[M] _ h2,#[S6],h4.at fun o eo=>kk _ #[M] o eo,h5.at fun o eo=>kk _ #[M] o eo⟩
 item:=by
  intro X hP hw hK hc i nM s σ H E I hf st hg;subst hP hw hK;obtain⟨xs,ys,x,y,qv,pz,hx,hy⟩:=hg;obtain⟨⟨old,h0⟩,⟨f0,f1,h1,we⟩,h2,⟨u0,v0,h3⟩,h4,h5⟩:=st;obtain⟨oB,sQ,p1,tX⟩:=I.tuple qv;obtain⟨n9,tG,p2,xm⟩:=I.list pz;obtain⟨u,hu,ru⟩:=sQ.get hx;obtain⟨v,hv,rv⟩:=tG.get hy;have vZ:n+5 < s.heap.objs.size:=bA h0;have hh:X.A.in1.in1.handled=none:=by simp [I.ok.hd hc]
  have qO:i < oB.toArray.size:=by have:=(aW.mp hu).1; simpa using this
  have qP:i < n9.toArray.size:=by have:=(aW.mp hv).1; simpa using this
  refine zoB #[OY] #[Wa] #[Ud] h0 #[Qo] #[Qo] #[Qo] #[Qo] #[Qo] (nm2 #[O] #[O]) (nm2 #[O] #[O]) h1 we h2 h3 ⟨h4,(show s.heap.IsTuple a oB.toArray from p1)⟩ ⟨h5,p2.isList⟩ qO qP
   fun x' y' h' tk g0 g1 a' b' px py eo ez DL e2 e3 t4 t5 pp pe hsz kk=>?_
  have eu:x'=u:=by
   have e1:oB[i]? = some x':=by simpa using px
   rw [hu] at e1; exact (bK e1).symm
  have ev:y'=v:=by
   have e1:n9[i]? = some y':=by simpa using py
   rw [hv] at e1; exact (bK e1).symm
  subst eu ev;have ch:∀ c∈[n+5,n+4,n+3,n,n+1],c∈zfE n:=fun c nX=>by
   simp only [zfE,aV,bQ,or_false] at nX |-;rcases nX with z | z | z | z | z <;> subst z <;> simp
  have k1:∀ c o,c∉[n+5,n+4,n+3,n,n+1]->s.heap.get? c=some o->h'.get? c=some o:=fun c o nX eo=>by
   simp only [aV,bQ,or_false,not_or] at nX;exact kk c o nX.1 nX.2.1 nX.2.2.1 nX.2.2.2.1 nX.2.2.2.2 eo
  have y8:∀ c∈[n+5,n+4,n+3,n,n+1],∃ o,h'.get? c=some o:=fun c nX=>by
   simp only [aV,bQ,or_false] at nX;rcases nX with z | z | z | z | z <;> subst z
   ·exact⟨_,eo⟩
   ·exact⟨_,ez⟩
   ·exact⟨_,e3⟩
   ·obtain⟨o,e,_⟩:=t4.1; exact⟨o,e⟩
   ·obtain⟨o,e,_⟩:=t5.1; exact⟨o,e⟩
  have I1:Inv X nM σ (nQ H s.heap.objs.size (.tup [x,y])) { s with heap:=h',toks:=tk+1 } :=
   I.KS k1 (fun c nX=>hf c (ch c nX)) y8 (aH _) #[Tb]
  have uO:H #[Fa]=none:=I.hok.fresh (gW _);have Hq:nQ H s.heap.objs.size (.tup [x,y]) #[Fa]=none:=by rw [zp (iV _)]; exact uO
  obtain⟨_,a1,a2,a3,a4,a5⟩:=I.Mq (H':=H) (gW s.heap.objs.size) uO;have I1':Inv X nM σ (nQ (nQ H s.heap.objs.size (.tup [x,y])) #[Fa] (.tup [.int i,.ref s.heap.objs.size])) { s with heap:=h',toks:=tk+1 } :=
   I1.Nv Hq (bX I.sz (gW _)) (dW a1) a4 a5 ⟨za0,_,.cons ⟨tk,rfl⟩ (.cons rfl .nil),zbF pe⟩
  refine⟨_,rfl,gT eo fun xl ue o8=>?_⟩;have fr:∀ c∈zfE n,nQ (nQ H s.heap.objs.size (.tup [x,y])) #[Fa] (.tup [.int i,.ref s.heap.objs.size]) c=none:=fun c nX=>by
   have n6:c < s.heap.objs.size:=by
    simp only [zfE,aV,bQ,or_false] at nX;rcases nX with z | z | z | z | z | z <;> subst z <;> exact nl #[O]
   rw [zp (bY (fF n6)),zp (bY n6)];exact (hf c nX).1
  have I2:Inv X nM σ (nQ (nQ H s.heap.objs.size (.tup [x,y])) #[Fa] (.tup [.int i,.ref s.heap.objs.size])) { s with heap:=xl,toks:=tk+1 } :=
   Inv.Lo (s:={ s with heap:=h',toks:=tk+1 }) (ch:=[n+5]) (t':=tk+1) I1' (fun c o nX eo=>o8.extBut c o (by simpa using nX) eo) (fun c nX=>by
    have z:c=n+5:=by simpa using nX
    subst z;exact⟨fr _ #[M],(hf _ #[M]).2⟩) (fun c nX=>by
    have z:c=n+5:=by simpa using nX
    subst z;exact⟨_,ue⟩)
  have up:∀ c o,c≠n+5->h'.get? c=some o->xl.get? c=some o:=fun c o nX e=>o8.extBut c o nX e
  exact⟨.ref #[Fa],_,I2,rfl,⟨_,_,x,y,I.fresh,uO,bY (jT _),rfl,rfl,fun zs hz=>by rw [I.KU hz qv]; exact hx,fun zs hz=>by rw [I.KI hz pz]; exact hy⟩,
   ⟨⟨_,by simpa using ue⟩,⟨g0,g1,up _ _ #[Qo] ez,DL⟩,up _ _ #[Qo] e2,⟨_,_,up _ _ #[Qo] e3⟩,t4.1.at fun o e=>up _ o #[Qo] e,t5.1.at fun o e=>up _ o #[Qo] e⟩,fr⟩
 done:=by
  intro X hP hw hK hc i nM s σ H E I hf st hg;subst hP hw hK;obtain⟨xs,ys,qv,pz,hx⟩:=hg;obtain⟨⟨old,h0⟩,⟨f0,f1,h1,we⟩,h2,⟨u0,v0,h3⟩,h4,h5⟩:=st;obtain⟨oB,sQ,p1,tX⟩:=I.tuple qv;obtain⟨n9,tG,p2,xm⟩:=I.list pz;have hh:X.A.in1.in1.handled=none:=by simp [I.ok.hd hc]
  have u5:=sQ.length;refine zqr #[OY] #[Wa] #[Ud] h0 h1 we h2 h3 ⟨h4,(show s.heap.IsTuple a oB.toArray from p1)⟩ ⟨h5,p2.isList⟩ (.inl (by rw [aS]; lia)) fun h' tk kk=>#[U3]
  have sub:∀ c∈[n+4,n+3,n,n+1],c∈zfE n:=fun c nX=>by
   simp only [zfE,aV,bQ,or_false] at nX |-;rcases nX with z | z | z | z <;> subst z <;> simp
  have k1:∀ c o,c∉[n+4,n+3,n,n+1]->s.heap.get? c=some o->h'.get? c=some o:=fun c o nX e=>by
   simp only [aV,bQ,or_false,not_or] at nX;exact kk c o nX.1 nX.2.1 nX.2.2.1 nX.2.2.2 e
  have ua:∀ d u',H d=some u'->d∉[n+4,n+3,n,n+1]:=fun d u' e' hd=>by rw [(hf d (sub d hd)).1] at e'; cases e'
  refine I.step (g':=s.gens) (d':=s.drawn) (t':=tk) (ch:=[n+4,n+3,n,n+1]) #[U6] #[QS] #[PH] #[QB]
   (fun c o oS e=>⟨o,k1 c o oS e⟩) #[OV] #[Re] (fun c ps e=>⟨#[],by rw [e]; simp⟩) #[Sa] #[Ul] I.bare
  ·obtain⟨_,a1,_,a3,a4,a5⟩:=hf c (sub c nX);exact⟨a3,a1,a4,a5⟩
  ·obtain⟨o,xj,ep,ho,r⟩:=hm;exact⟨o,xj,ep,k1 _ o (fun z=>(hf _ (sub _ z)).2.1 rfl) ho,r⟩
  ·refine #[Vx].MN #[RA] #[RY] fun _ _ q=>q
   rcases hd with z | z
   ·rw [z]; exact ua c u e
   ·exact ua d _ z
 self:=fun _ _ _ _ _ st h=>by
  obtain⟨⟨old,he⟩,_⟩:=st;exact fX he h
noncomputable def iEZ (sO sP:Hp->Addr->List V->Prop) (ta:TA):TI:=fun σ H R=>ta σ H fun vs H1=>∃ a b xs ys,vs = [.ref a,.ref b]/\sO H1 a xs/\sP H1 b ys/\R (zoC sO sP a b) H1
theorem zjt {X:Cx} {es:List Expr} {k:Nat} {o9 p p2 pos pP:Pos} {a b:Expr} {ta:TA} (hg:Gl X "enumerate") (hm:X.mg "enumerate" = none) (Ac:Gl X "zip") (uS:X.mg "zip" = none) (ha:PA X [a,b] ta) (hs:starEach [a,b] X.env = [#[FB],#[Fr]]:=by rfl) (pH:starEach [b] X.env = [#[Fr]]:=by rfl)
  (uR:starEach [.Call (.Name "zip" p2) [a,b] [] pP] X.env = [(false,eval (.Call (.Name "zip" p2) [a,b] [] pP) X.env)]:=by rfl) :
  PI X #[Pg] (.Call (.Name "enumerate" p) [.Call (.Name "zip" p2) [a,b] [] pP] [] pos) (iEZ #[VG] #[Uq] ta):=by
 intro nM s σ H R I h;refine Call_ (zbk I hg hm kG (bZ ?_ uR rfl));rw [uR];show wpAny _ _ (spliced ((false,eval (.Call (.Name "zip" p2) [a,b] [] pP) X.env) :: [])) _ _ s;refine fN ?_;refine Call_ (zbk I Ac uS mO (bZ (thn (ha pP nM s σ H _ I h) fun us s1 ⟨vs,H1,I1,r1,q1⟩=>?_) (by rw [hs,pH]) (by rw [pH]; rfl)));obtain⟨l1,l2,xs,ys,e,qv,pz,q⟩:=q1;subst e;cases r1 with
 | cons r rr =>
  cases rr with
  | cons r' rr =>
   cases rr;cases r;cases r';obtain⟨oB,sQ,xI,tX⟩:=I1.tuple qv;obtain⟨n9,tG,yJ,xm⟩:=I1.list pz;have qO:l1 < s1.heap.objs.size:=by obtain⟨_,e,_⟩:=xI; exact bA e
   have qP:l2 < s1.heap.objs.size:=by obtain⟨_,_,e,_⟩:=yJ; exact bA e
   refine zjr (show s1.heap.IsTuple l1 oB.toArray from xI) yJ.isList fun h' n hn b1 b2 b3 b4 b5 b6 kk=>?_
   refine gG ?_;refine zjs b1 fun h2 he hsz yK=>?_
   have I2:Inv X nM σ H1 { s1 with heap:=h2 }:=I1.kept (t':=s1.toks) fun c o e=>yK c o (kk c o e)
   refine fX he ?_; have e5:h'.objs.size=n+5:=b6;have BI:IsEnum h2 (n+5) (n+4) 0 .none:=by rw [<- e5]; exact he
   refine⟨_,zfE n,zqs n l1 l2,zoC #[VG] #[Uq] l1 l2,H1,rfl,I2,?_,⟨⟨_,BI⟩,⟨_,_,yK _ _ b1,.inl rfl,_,rfl⟩,yK _ _ b2,⟨_,_,yK _ _ b3⟩,b4.at fun o e=>yK _ o e,b5.at fun o e=>yK _ o e⟩,fun c hc=>?_,q⟩
   ·show Turn X.prog X.w X.K #[Pg] (zoC #[VG] #[Uq] l1 l2) (zfE n) h'.objs.size (zqs n l1 l2);rw [e5];exact zoD l1 l2 n (by rw [hn]; exact qO) (by rw [hn]; exact qP)
   ·have hle:s1.heap.objs.size<=c:=by
     simp only [zfE,aV,bQ,or_false] at hc;rw [<- hn];rcases hc with z | z | z | z | z | z <;> subst z
     all_goals first | exact jW _ _ | exact aH _
    exact I1.Mq hle #[Qx]
theorem zdV:∀ (bs:List Bool),(bM bs.length).all (fun i=>bs.getD i false)=bs.all id
 | []=>rfl
 | b :: bs=>by
  rw [dw,iQ,jD,List.all_map,jD];have ih:=zdV bs;have e:((fun i=>(b :: bs).getD i false) ∘ nJ)=fun i=>bs.getD i false:=by funext i; rfl
  rw [e,ih];rfl
theorem zlp {X:Cx} (hc:X.calm=true):zbv X (.builtin "all") (fun xs H Q=>∃ (p:Addr) (bs:List Bool),xs = [.ref p]/\nO X.K H p (bs.map V.bl)/\Q (.bl (bs.all id)) H):=by
 intro nM s σ H xs us Q I r h;obtain⟨p,bs,rfl,hq,q⟩:=h;obtain⟨u,rfl,rx⟩:=vals1 r;cases rx;obtain⟨nP,rv,pl,hz⟩:=I.list hq;have hl:=rv.length;rw [aA] at hl;have n6:p < s.heap.objs.size:=by obtain⟨_,_,e,_⟩:=pl; exact bA e
 refine call_all_walk (iL pl.isList ?_);refine⟨s.heap.objs.size,_,_,nP.toArray.size,_,_,fun i=>bs.getD i false,rfl,Walks.list (by simp [I.ok.hd hc]) s.heap.objs.size p (bY n6) nP.toArray,⟨⟨_,aX _ rfl,rfl,rfl⟩,pl.isList.push _⟩,fun i v s' Q' E' hP hQ=>?_,fun h' tk kk=>?_⟩
 ·have e1:nP[i]? = some v:=by simpa using hP
  obtain⟨hi,_⟩:=aW.mp e1;have pT:i < bs.length:=by lia
  obtain⟨u,hu,ru⟩:=rv.get (i:=i) (x:=V.bl bs[i]) (by rw [aD,aG pT]; rfl);rw [e1] at hu;cases hu;have ru:v=kT bs[i]:=ru;subst ru;have e2:bs.getD i false=bs[i]:=by simp [pT]
  have hQ:Q' (bs.getD i false) s':=hQ;rw [e2] at hQ;exact fE hQ
 ·rw [aS,<- hl,zdV];exact⟨.bl (bs.all id),H,I.kept fun b o e=>kk b o (fun z=>by
   have z:b=s.heap.objs.size:=by simpa using z
   exact absurd (bA e) (by rw [z]; exact de _)) (aJ _ e),rfl,q⟩
theorem zju {i:Nat}:∀ (x:V) (σ:St) (H:Hp) (Q Q':St->Hp->Prop),(∀ σ' H',Q σ' H'->Q' σ' H')->zhW K 2 #[Rz] x σ H Q->zhW K 2 #[Rz] x σ H Q':=fun x σ H Q Q' hq ⟨a,xs,e1,h1,h2,v,r,e3,v2,r2,e4,e5,h⟩=>⟨a,xs,e1,h1,h2,v,r,e3,v2,r2,e4,e5,hq _ _ h⟩
end L2
end
section
namespace My
open PySem L2 PyProof.Rows
variable {H H':Hp} {j:Nat} {pl:List Int} {rw:List #[Op]}
section
variable {K:aF}
noncomputable def zsb (H:Hp):V->Option (List V)
 | .ref a=>match H a with
  | some #[P9]=>some xs
  | _=>none
 | _=>none
noncomputable def zbP (H:Hp) (c tt:Addr) (p k:Int) (pl:List Int):Prop:=H c=some (.tup [.int p,.int k,.ref tt])/\H tt=some (.tup #[QE])
theorem zbP.same {c tt:Addr} {p k:Int} (s:zr H H') (h:zbP H c tt p k pl):zbP H' c tt p k pl:=⟨s _ _ h.1,s _ _ h.2⟩
noncomputable def qW:Option Int->V
 | none=>.non
 | some i=>.int i
noncomputable def zgK (p:Int) (pl:List Int) (rw:List #[Op]) (oC:List Int) (j:Nat):Bool:=match pl[j]?,rw[j]? with
 | some x,some (some i)=>decide (i=zF p x oC)
 | _,_=>false
noncomputable def zfF (p:Int) (pl:List Int) (rw:List #[Op]) (oC:List Int) (n:Nat):List Int:=((bM n).filter (zgK p pl rw oC)).map fun (j:Nat)=>(j:Int)
theorem zgL {p:Int} {oC:List Int} {n:Nat}:zfF p pl rw oC (n+1)=zfF p pl rw oC n++if zgK p pl rw oC n then [(n:Int)] else []:=by
 unfold zfF;rw [dq,fO,aN];congr 1;by_cases h:zgK p pl rw oC n=true
 ·rw [if_pos h]; simp [h]
 ·rw [if_neg h]; simp [h]
theorem zim (p:Int) (pl:List Int) (rw:List #[Op]) (oC:List Int) (n:Nat):(zfF p pl rw oC n).length<=n:=by
 unfold zfF;rw [aA];exact bX (fU _ _) (by rw [bR]; exact aH _)
theorem zhh {x:V} (h:(rw.map qW)[j]? = some x):∃ o,x=qW o/\rw[j]? = some o:=by
 rw [aD] at h;cases e:rw[j]? with
 | none=>rw [e] at h; cases h
 | some c=>rw [e] at h; exact⟨c,(bK h).symm,rfl⟩
noncomputable def hide (H:Hp) (a:Addr):Hp:=fun b=>if b=a then none else H b
theorem zin (H:Hp) (a:Addr):zr (hide H a) H:=fun b o e=>by
 unfold hide at e;split at e
 ·cases e
 ·exact e
theorem zcN {a b:Addr} {o:HO} (h:H b=some o) (oH:b≠a):hide H a b=some o:=by unfold hide; rw [if_neg oH]; exact h
noncomputable def zoE (K:aF):Sp:=fun vs H Q _=>∃ (c tt ra po:Addr) (p k:Int) (pl oC:List Int) (rw:List #[Op]),vs = [.ref c,.ref ra,.ref po]/\zbP H c tt p k pl/\H ra=some #[Pa]/\rw.length=pl.length/\H po=some (.tup (oC.map V.int))/\0 < p/\p<=97/\(∀ x∈pl,0<=x/\x < p)/\pl.length<=100 /\
 ∀ (l:Addr) (H':Hp),H l=none->zr H H'->H' l=some (.lst ((zfF p pl rw oC pl.length).map V.int))->Q #[Pm] H'
theorem zmM (o:Option Int) (z:Int):zp9 (qW o) (.int z)=true:=by cases o <;> rfl
theorem zmN {p:Int} {oC:List Int} {x:Int} {o:Option Int} (hx:pl[j]? = some x) (ho:rw[j]? = some o):zgK p pl rw oC j=decide (qW o = .int (zF p x oC)):=by
 unfold zgK;rw [hx,ho];cases o with
 | none=>rfl
 | some i=>simp [qW]
end
end My
end
section
namespace PySem
section
variable {prog:Program} {w:World} {A:Around} {E:Value->Shared->Prop} {s:Shared}
theorem zkl {z TI TO i1 i2:Addr} {rQ rR:List Addr} {n1 n2 k1 k2:Nat} {P1 P2:Nat->Value->Prop} {S1 S2:Nat->Heap->Prop} {f0 f1 a b:Value} {Q:Option Value->Shared->Prop} (D1:Draws prog w A.in1 i1 rQ n1 P1 S1) (D2:Draws prog w A.in1 i2 rR n2 P2 S2) (Z:Zap z TI TO i1 i2 rQ rR)
  (hz:IsZ s.heap z TI TO f0 f1) (hf:ZF f0 f1) (v7:IsPair s.heap TI #[Sf] #[Se]) (xn:IsPair s.heap TO a b) (pS:S1 k1 s.heap) (oI:S2 k2 s.heap) (l1:k1 < n1) (l2:k2 < n2)
  (hQ:∀ x y h' tk g0 g1 a' b',P1 k1 x->P2 k2 y->IsZ h' z TI TO g0 g1->ZF g0 g1->IsPair h' TI #[Sf] #[Se]->IsPair h' TO a' b'->S1 (k1+1) h'->S2 (k2+1) h'->IsPair h' s.heap.objs.size x y->h'.objs.size=s.heap.objs.size+1 ->
   (∀ c o,c≠z->c≠TO->c≠i1->c≠i2->s.heap.get? c=some o->h'.get? c=some o)->Q (some #[wf]) { s with heap:=h',toks:=tk }):wpAny #[ss] A (pyNext #[QW]) Q E s:=by
 have wg:s.TypeIs #[QW] "zip":=⟨_,hz,rfl⟩;unfold pyNext;refine aB (d8 (cj (name:=cJ "__next__") wg ft #[Q8]));exact zkk D1 D2 Z hz hf v7 xn pS oI l1 l2 fun x y h1 tk g0 g1 a' b' px py tX Hh BM BN BO BP va BQ kk=>aK (hQ x y h1 tk g0 g1 a' b' px py tX Hh BM BN BO BP va BQ kk)
theorem zmO {z TI TO i1 i2:Addr} {rQ rR:List Addr} {n1 n2 k1 k2:Nat} {P1 P2:Nat->Value->Prop} {S1 S2:Nat->Heap->Prop} {f0 f1 a b:Value} {Q:Option Value->Shared->Prop} (D1:Draws prog w A.in1 i1 rQ n1 P1 S1) (D2:Draws prog w A.in1 i2 rR n2 P2 S2) (Z:Zap z TI TO i1 i2 rQ rR)
  (hz:IsZ s.heap z TI TO f0 f1) (hf:ZF f0 f1) (v7:IsPair s.heap TI #[Sf] #[Se]) (xn:IsPair s.heap TO a b) (pS:S1 k1 s.heap) (oI:S2 k2 s.heap) (l1:k1=n1\/(k1 < n1/\k2=n2))
  (hQ:∀ h' tk,(∀ c o,c≠z->c≠TO->c≠i1->c≠i2->s.heap.get? c=some o->h'.get? c=some o)->Q none { s with heap:=h',toks:=tk }):wpAny #[ss] A (pyNext #[QW]) Q E s:=by
 have wg:s.TypeIs #[QW] "zip":=⟨_,hz,rfl⟩;unfold pyNext;refine aB (d8 (cj (name:=cJ "__next__") wg ft #[Q8]));refine zmL D1 D2 Z hz hf v7 xn pS oI l1 fun h' tk x kk ⟨o,ho,hc⟩=>?_
 exact aB (gf (T:="StopIteration") (b:=true) ⟨o,ho,hc⟩ iB (aK (hQ h' tk kk)))
theorem zhi {z TI TO:Addr} {f0 f1:Value} {Q:Value->Shared->Prop} (hz:IsZ s.heap z TI TO f0 f1) (h:Q #[QW] s):wpAny #[ss] A (pyIter #[QW]) Q E s:=by
 have hT:s.TypeIs #[QW] "zip":=⟨_,hz,rfl⟩; refine jL hT F.slot_zip_iter (cI F.slot_zip_iter hT F.entry_zip_iter ?_ (F.args_zip_iter_1 _));show wpAny _ _ (ret #[QW]) _ _ s; exact aK ⟨_,rfl,"zip",_,hT,F.slot_zip_next.lookup,h⟩
theorem zru {elts:List Expr} {x1} {pos:Pos} {z TI TO T:Addr} {f0 f1:Value} {Q:Unit->Shared->Prop} (hz:IsZ s.heap z TI TO f0 f1) (hf:ZF f0 f1)
  (hQ:∀ h' g0,IsZ h' z TI TO g0 f1->ZF g0 f1->cC z s.heap h'->Q () { s with heap:=h' }):wpAny #[ss] A (letOwnedTupleGo (.Tuple elts x1 pos) #[QW] (.ref T)) Q E s:=by
 unfold letOwnedTupleGo; refine aB (wpAny_load hz ?_);show wpAny _ _ (if _ then _ else _) Q E s;split
 ·refine aB (c9 ?_); show wpAny _ _ (setField #[QW] 0 .none) Q E s;exact cT hz #[M] fun h' CU pF=>hQ h' .none CU ⟨.inl rfl,hf.2⟩ pF
 ·exact aK (hQ s.heap f0 hz hf #[Tq])
end
end PySem
namespace L2
open PySem PySem.Spec PyProof.Rows
variable {H H':Hp} {K:aF} {P:Program} {X:Cx} {g:TG} {h':Heap} {k t':Nat} {nM:List (Addr×Obj)} {nT:List (List Key×V)} {o9 pos:Pos} {s:Shared} {tg:Expr} {w:World}
noncomputable def zqt (sO sP:Hp->Addr->List V->Prop) (a b:Addr):It :=
 ⟨(zlf sO sP a b).go,(zlf sO sP a b).yld,fun i H=>∃ xs ys,sO H a xs/\sP H b ys/\(xs.length=i\/(i < xs.length/\ys.length=i))⟩
abbrev zcp (n:Nat):List Addr:=[n+4,n+2,n+3,n,n+1]
abbrev zrv (C:String) (n a b:Nat) (i:Nat) (h:Heap):Prop:=(∃ f0 f1,IsZ h (n+4) (n+2) (n+3) f0 f1/\ZF f0 f1)/\IsPair h (n+2) (.ref n) #[TU]/\(∃ u v,IsPair h (n+3) u v)/\h.IsTupleIter n a i/\ItC C h (n+1) b i
structure Sk (C:String) (Is:Heap->Addr->Array Value->Prop) (Sq:aF->Hp->Addr->List V->Prop):Prop where
 h:SkH C Is
 inv:∀ {X:Cx} {nM:List (Addr×Obj)} {σ:St} {H:Hp} {s:Shared} {a:Addr} {xs:List V},Inv X nM σ H s->Sq X.K H a xs->∃ nP:List Value,z0 xs nP/\Is s.heap a nP.toArray/\a < s.heap.objs.size
 inj:∀ {X:Cx} {nM:List (Addr×Obj)} {σ:St} {H:Hp} {s:Shared} {a:Addr} {xs ys:List V},Inv X nM σ H s->Sq X.K H a xs->Sq X.K H a ys->xs=ys
theorem sqL:Sk "list_iterator" Heap.IsList nO:=⟨skL,fun I h=>let ⟨nP,r,p,_⟩:=I.list h; ⟨nP,r,p.isList,by obtain⟨_,_,e,_⟩:=p; exact bA e⟩,fun I h h'=>I.KI h h'⟩
theorem zmP {C:String} {Is:Heap->Addr->Array Value->Prop} {Sq:aF->Hp->Addr->List V->Prop} (S:Sk C Is Sq) {es:List Expr} (a b n:Nat) (ha:a < n) (hb:b < n):Turn P w K #[Qb] (zqt (nS K) (Sq K) a b) (zcp n) (n+4) (zrv C n a b) where
 mem:=by simp
 obj:=fun i h st c hc=>by
  obtain⟨⟨f0,f1,h1,_⟩,h2,⟨u,v,h3⟩,⟨o4,e4,_,d4⟩,⟨o5,e5,_,d5⟩⟩:=st;simp only [zcp,aV,bQ,or_false] at hc;rcases hc with z | z | z | z | z <;> subst z
  ·exact⟨_,h1,fun v z=>by cases z⟩
  ·exact⟨_,h2,fun v z=>by cases z⟩
  ·exact⟨_,h3,fun v z=>by cases z⟩
  ·exact⟨_,e4,fun v z=>by rw [d4] at z; cases z⟩
  ·exact⟨_,e5,fun v z=>by rw [d5] at z; cases z⟩
 keep:=fun i h h' st kk=>by
  obtain⟨⟨f0,f1,h1,hf⟩,h2,⟨u,v,h3⟩,h4,h5⟩:=st;obtain⟨o5,e5,r5⟩:=h5;exact⟨⟨f0,f1,kk _ #[M] _ h1,hf⟩,kk _ #[M] _ h2,#[S6],h4.at fun o eo=>kk _ #[M] o eo,o5,kk _ #[M] _ e5,r5⟩
 item:=by
  intro X hP hw hK hc i nM s σ H E I hf st hg;subst hP hw hK;obtain⟨xs,ys,x,y,qv,pz,hx,hy⟩:=hg;obtain⟨⟨f0,f1,h1,we⟩,h2,⟨u0,v0,h3⟩,h4,h5⟩:=st;obtain⟨oB,sQ,p1,tX⟩:=I.tuple qv;obtain⟨n9,tG,p2,_⟩:=S.inv I pz;obtain⟨u,hu,ru⟩:=sQ.get hx;obtain⟨v,hv,rv⟩:=tG.get hy;have vZ:n+4 < s.heap.objs.size:=bA h1;have hh:X.A.in1.handled=none:=by simp [I.ok.hd hc]
  have qO:i < oB.toArray.size:=by have:=(aW.mp hu).1; simpa using this
  have qP:i < n9.toArray.size:=by have:=(aW.mp hv).1; simpa using this
  refine zkl #[OY] #[UN] #[Ud] h1 we h2 h3 ⟨h4,(show s.heap.IsTuple a oB.toArray from p1)⟩ ⟨h5,p2⟩ qO qP
   fun x' y' h' tk g0 g1 a' b' px py ez DL e2 e3 t4 t5 pp hsz kk=>?_
  have eu:x'=u:=by
   have e1:oB[i]? = some x':=by simpa using px
   rw [hu] at e1; exact (bK e1).symm
  have ev:y'=v:=by
   have e1:n9[i]? = some y':=by simpa using py
   rw [hv] at e1; exact (bK e1).symm
  subst eu ev;have ch:∀ c∈[n+4,n+3,n,n+1],c∈zcp n:=fun c nX=>by
   simp only [zcp,aV,bQ,or_false] at nX |-;rcases nX with z | z | z | z <;> subst z <;> simp
  have k1:∀ c o,c∉[n+4,n+3,n,n+1]->s.heap.get? c=some o->h'.get? c=some o:=fun c o nX eo=>by
   simp only [aV,bQ,or_false,not_or] at nX;exact kk c o nX.1 nX.2.1 nX.2.2.1 nX.2.2.2 eo
  have y8:∀ c∈[n+4,n+3,n,n+1],∃ o,h'.get? c=some o:=fun c nX=>by
   simp only [aV,bQ,or_false] at nX;rcases nX with z | z | z | z <;> subst z
   ·exact⟨_,ez⟩
   ·exact⟨_,e3⟩
   ·obtain⟨o,e,_⟩:=t4.1; exact⟨o,e⟩
   ·obtain⟨o,e,_⟩:=t5.1; exact⟨o,e⟩
  have I1:Inv X nM σ (nQ H s.heap.objs.size (.tup [x,y])) { s with heap:=h',toks:=tk } :=
   I.KS k1 (fun c nX=>hf c (ch c nX)) y8 (aH _) #[Tb]
  refine⟨_,rfl,zru (s:={ s with heap:=h',toks:=tk }) ez DL fun xl g2 xH DM o8=>?_⟩;have fr:∀ c∈zcp n,nQ H s.heap.objs.size (.tup [x,y]) c=none:=fun c nX=>by
   have n6:c < s.heap.objs.size:=by
    simp only [zcp,aV,bQ,or_false] at nX;rcases nX with z | z | z | z | z <;> subst z <;> exact nl #[O]
   rw [zp (bY n6)];exact (hf c nX).1
  have I2:Inv X nM σ (nQ H s.heap.objs.size (.tup [x,y])) { s with heap:=xl,toks:=tk } :=
   Inv.Lo (s:={ s with heap:=h',toks:=tk }) (ch:=[n+4]) (t':=tk) I1 (fun c o nX eo=>o8.extBut c o (by simpa using nX) eo) (fun c nX=>by
    have z:c=n+4:=by simpa using nX
    subst z;exact⟨fr _ #[M],(hf _ #[M]).2⟩) (fun c nX=>by
    have z:c=n+4:=by simpa using nX
    subst z;exact⟨_,xH⟩)
  have up:∀ c o,c≠n+4->h'.get? c=some o->xl.get? c=some o:=fun c o nX e=>o8.extBut c o nX e
  exact⟨.ref s.heap.objs.size,_,I2,rfl,⟨_,x,y,I.fresh,rfl,rfl,fun zs hz=>by rw [I.KU hz qv]; exact hx,fun zs hz=>by rw [S.inj I hz pz]; exact hy⟩,
   ⟨⟨g2,g1,xH,DM⟩,up _ _ #[Qo] e2,⟨_,_,up _ _ #[Qo] e3⟩,t4.1.at fun o e=>up _ o #[Qo] e,⟨t5.1.choose,up _ _ #[Qo] t5.1.choose_spec.1,t5.1.choose_spec.2⟩⟩,fr⟩
 done:=by
  intro X hP hw hK hc i nM s σ H E I hf st hg;subst hP hw hK;obtain⟨xs,ys,qv,pz,hx⟩:=hg;obtain⟨⟨f0,f1,h1,we⟩,h2,⟨u0,v0,h3⟩,h4,h5⟩:=st;obtain⟨oB,sQ,p1,tX⟩:=I.tuple qv;obtain⟨n9,tG,p2,_⟩:=S.inv I pz;have hh:X.A.in1.handled=none:=by simp [I.ok.hd hc]
  have u5:=sQ.length;have qg:=tG.length;refine zmO #[OY] #[UN] #[Ud] h1 we h2 h3 ⟨h4,(show s.heap.IsTuple a oB.toArray from p1)⟩ ⟨h5,p2⟩ (by rw [aS,aS]; lia) fun h' tk kk=>#[U3]
  have sub:∀ c∈[n+4,n+3,n,n+1],c∈zcp n:=fun c nX=>by
   simp only [zcp,aV,bQ,or_false] at nX |-;rcases nX with z | z | z | z <;> subst z <;> simp
  have k1:∀ c o,c∉[n+4,n+3,n,n+1]->s.heap.get? c=some o->h'.get? c=some o:=fun c o nX e=>by
   simp only [aV,bQ,or_false,not_or] at nX;exact kk c o nX.1 nX.2.1 nX.2.2.1 nX.2.2.2 e
  have ua:∀ d u',H d=some u'->d∉[n+4,n+3,n,n+1]:=fun d u' e' hd=>by rw [(hf d (sub d hd)).1] at e'; cases e'
  refine I.step (g':=s.gens) (d':=s.drawn) (t':=tk) (ch:=[n+4,n+3,n,n+1]) #[U6] #[QS] #[PH] #[QB]
   (fun c o oS e=>⟨o,k1 c o oS e⟩) #[OV] #[Re] (fun c ps e=>⟨#[],by rw [e]; simp⟩) #[Sa] #[Ul] I.bare
  ·obtain⟨_,a1,_,a3,a4,a5⟩:=hf c (sub c nX);exact⟨a3,a1,a4,a5⟩
  ·obtain⟨o,xj,ep,ho,r⟩:=hm;exact⟨o,xj,ep,k1 _ o (fun z=>(hf _ (sub _ z)).2.1 rfl) ho,r⟩
  ·refine #[Vx].MN #[RA] #[RY] fun _ _ q=>q
   rcases hd with z | z
   ·rw [z]; exact ua c u e
   ·exact ua d _ z
 self:=fun _ _ _ _ _ st h=>by
  obtain⟨⟨f0,f1,hz,_⟩,_⟩:=st;exact zhi hz h
noncomputable def iZq (sO sP:Hp->Addr->List V->Prop) (ta:TA):TI:=fun σ H R=>ta σ H fun vs H1=>∃ a b xs ys,vs = [.ref a,.ref b]/\sO H1 a xs/\sP H1 b ys/\R (zqt sO sP a b) H1
theorem zmQ {C:String} {Is:Heap->Addr->Array Value->Prop} {Sq:aF->Hp->Addr->List V->Prop} (S:Sk C Is Sq) {es:List Expr} {p:Pos} {a b:Expr} {ta:TA} (hg:Gl X "zip") (hm:X.mg "zip" = none) (ha:PA X [a,b] ta) (hs:starEach [a,b] X.env = [#[FB],#[Fr]]:=by rfl) (pH:starEach [b] X.env = [#[Fr]]:=by rfl) :
  PI X #[Pg] (.Call (.Name "zip" p) [a,b] [] pos) (iZq #[VG] (Sq X.K) ta):=by
 intro nM s σ H R I h;refine Call_ (zbk I hg hm mO (bZ (thn #[FM] fun us s1 ⟨vs,H1,I1,r1,q1⟩=>?_) (by rw [hs,pH]) (by rw [pH]; rfl)));obtain⟨l1,l2,xs,ys,e,qv,pz,q⟩:=q1;subst e;cases r1 with
 | cons r rr =>
  cases rr with
  | cons r' rr =>
   cases rr;cases r;cases r';obtain⟨oB,sQ,xI,tX⟩:=I1.tuple qv;obtain⟨n9,tG,yJ,qP⟩:=S.inv I1 pz;have qO:l1 < s1.heap.objs.size:=by obtain⟨_,e,_⟩:=xI; exact bA e
   refine zfD S.h (show s1.heap.IsTuple l1 oB.toArray from xI) yJ fun h' n hn b1 b2 b3 b4 b5 b6 kk=>?_
   have I2:Inv X nM σ H1 { s1 with heap:=h' }:=I1.kept (t':=s1.toks) kk;refine zhi b1 ?_;refine⟨_,zcp n,zrv C n l1 l2,zqt #[VG] (Sq X.K) l1 l2,H1,rfl,I2,zmP S l1 l2 n (by rw [hn]; exact qO) (by rw [hn]; exact qP),⟨⟨_,_,b1,.inl rfl,_,rfl⟩,b2,⟨_,_,b3⟩,b4,b5⟩,fun c hc=>?_,q⟩;have hle:s1.heap.objs.size<=c:=by
    simp only [zcp,aV,bQ,or_false] at hc;rw [<- hn];rcases hc with z | z | z | z | z <;> subst z
    all_goals first | exact jW _ _ | exact aH _
   exact I1.Mq hle #[Qx]
theorem zio {X:Cx} {es:List Expr} {k:Nat} {o9 p pos:Pos} {a b:Expr} {ta:TA} (hg:Gl X "zip") (hm:X.mg "zip" = none) (ha:PA X [a,b] ta) (hs:starEach [a,b] X.env = [#[FB],#[Fr]]:=by rfl) (pH:starEach [b] X.env = [#[Fr]]:=by rfl) :
  PI X #[Pg] (.Call (.Name "zip" p) [a,b] [] pos) (iZq #[VG] #[Uq] ta):=zmQ sqL hg hm ha hs pH
section
variable {P:Program} {w:World} {outer:List Env} {H H':Hp} {h h' B:Heap} {e C:Addr}
theorem zqu {o:HO} {a:Addr} (x:zat P w H h a o):∃ ob,h.get? a=some ob:=by
 cases o with
 | lst xs=>obtain⟨_,_,_,_,e⟩:=x; exact⟨_,e⟩
 | tup xs=>obtain⟨_,_,_,o,e,_⟩:=x; exact⟨_,e⟩
 | dK nT=>obtain⟨_,_,_,_,o,_,_,e,_⟩:=x; exact⟨_,e⟩
 | dT nT=>obtain⟨_,_,_,_,o,_,_,e,_⟩:=x; exact⟨_,e⟩
 | set S n=>obtain⟨o,_,_,_,e,_⟩:=x; exact⟨_,e⟩
 | ins C dx fs=>obtain⟨_,_,_,e,_⟩:=x; exact⟨_,e⟩
 | own y=>obtain⟨_,e⟩:=x; exact⟨_,e⟩
 | xd fs=>obtain⟨_,⟨_,_,_,e,_⟩,_⟩:=x; exact⟨_,e⟩
 | rng lo hi=>obtain⟨_,_,_,e⟩:=x; exact⟨_,e⟩
 | frz ob u=>obtain⟨e,_⟩:=x; exact⟨_,e⟩
 | tbl ps=>exact⟨_,(show h.get? a=some _ from x)⟩
 | met f y=>exact⟨_,(show h.get? a=some _ from x)⟩
 | ext φ=>obtain⟨_,⟨_,e⟩,_⟩:=x; exact⟨_,e⟩
end
noncomputable def zlq (hi:Int) (n:Nat):It:=⟨fun i _=>i < n,fun i H x H'=>H'=H/\x = .int (hi - i),fun i _=>n<=i⟩
theorem ziq (it:Addr) (lo:Int) (n:Nat):Turn P w K tg (zlq lo n) [it] it (fun i h=>IsRangeIter h it (lo+(i:Nat)*(-1)) ((n:Int) - (i:Nat)) (-1)) where
 mem:=by simp
 obj:=fun i h st b hb=>by
  have e:b=it:=by simpa using hb
  subst e;exact⟨_,st,fun v z=>by
   have z':kq _=Data.cell v:=z;cases z'⟩
 keep:=fun i h h' st k=>k it #[M] _ st
 item:=by
  intro X hP hw hK hc i nM s σ H E I hf st hg;subst hP hw hK;obtain⟨f0,f1,f2,f3,f4,f5⟩:=hf it #[M];have W:=Walks.range (prog:=X.prog) (w:=X.w) #[O7] it lo (-1) n;refine W.item i s _ _ hg st fun v h' tk hv nU kk=>?_
  obtain⟨t,rfl⟩:=hv;have I1:Inv X nM σ H { s with heap:=h',toks:=tk }:=I.turned (fun b o hb e=>kk b o (by simpa using hb) e) f0 f1 f3 f4 f5;refine⟨_,rfl,zfn (s:={ s with heap:=h',toks:=tk }) (n:="range_iterator") nU rfl rfl #[D] ⟨.int (lo - i),H,I1,⟨t,?_⟩,⟨rfl,rfl⟩,nU,fun b hb=>#[Ur].1⟩⟩;rw [show lo+(i:Int)*(-1)=lo - i by lia]
 done:=by
  intro X hP hw hK hc i nM s σ H E I hf st hg;subst hP hw hK;obtain⟨f0,f1,f2,f3,f4,f5⟩:=hf it #[M];exact kr #[O7] st (by have:n<=i:=hg; lia) fun h' eb=>#[ut]
 self:=fun _ _ _ _ _ st h=>iN st h
section
variable {X:Cx} {tg:Expr}
theorem zjv {hi:Int} {n:Nat} {tb:TS} {D:Ends} {σ:St} (Pv:Nat->St->Hp->Prop) (h0:Pv 0 σ H)
  (hs:∀ i σ H,i < n->Pv i σ H->g (.int (hi - i)) σ H fun σ2 H2=>tb { D with nx:=Pv (i+1),ct:=Pv (i+1),bk:=D.nx } σ2 H2) (hd:∀ σ H,Pv n σ H->D.nx σ H) :
  ∃ W:Nat->Nat->St->Hp->Prop,(∃ m,W 0 m σ H)/\∀ i m σ H,W i m σ H ->
   ((zlq hi n).stop i H/\D.nx σ H)\/((zlq hi n).go i H/\∃ N:St->Hp->Prop,(∀ σ' H',N σ' H'->∃ m',m' < m/\W (i+1) m' σ' H')/\∀ x H',(zlq hi n).yld i H x H'->g x σ H' fun σ2 H2=>tb { D with nx:=N,ct:=N,bk:=D.nx } σ2 H2):=by
 refine⟨fun i m σ H=>m=n - i/\i<=n/\Pv i σ H,#[Rf],?_⟩;rintro i m σ H ⟨rfl,hi,p⟩;by_cases n6:i < n
 ·refine .inr #[SU];obtain⟨e,y⟩:=y;subst e y;exact hs i σ _ n6 p
 ·have e:i=n:=by lia
  subst e;exact .inl ⟨aH _,hd σ H p⟩
end
section
variable {κ:Type} [DecidableEq κ]
noncomputable def zdI (nT:List (κ×V)) (k:κ):Option V:=(nT.find? fun kv=>decide (kv.1=k)).map (·.2)
noncomputable def putK (nT:List (κ×V)) (k:κ) (v:V):List (κ×V) :=
 if (nT.any fun kv=>decide (kv.1=k))=true then nT.map (fun kv=>if kv.1=k then (kv.1,v) else kv) else nT++[(k,v)]
theorem zfG {p:κ×V} {r:List (κ×V)} {k:κ} (e:p.1=k):zdI (p :: r) k=some p.2:=by simp [zdI,gv,e]
theorem zfH {p:κ×V} {r:List (κ×V)} {k:κ} (e:¬ p.1=k):zdI (p :: r) k=zdI r k:=by simp [zdI,gv,e]
theorem zfI (k:κ):∀ nT:List (κ×V),(nT.any fun kv=>decide (kv.1=k))=(zdI nT k).isSome
 | []=>rfl
 | p :: r=>by
  rw [iT];by_cases e:p.1=k
  ·simp only [zfG e,decide_eq_true e,Bool.true_or,lY]
  ·rw [zfH e,decide_eq_false e,Bool.false_or]; exact zfI k r
theorem zc9 (nT:List (κ×V)) (k:κ) (v:V):#[QD].length<=nT.length+1:=by
 unfold putK;split
 ·rw [aA]; lia
 ·rw [aO,dw,kf]; lia
theorem zmR {nT:List (κ×V)} {k:κ} (v:V) (h:zdI nT k=none):putK nT k v=nT++[(k,v)]:=by
 unfold putK;rw [zfI,h];exact if_neg #[D]
theorem zgV.Nj {o:Option V} {u:Option Value} (r:zgV o u):o.isSome=u.isSome:=by
 cases o with
 | none=>cases u with
  | none=>rfl
  | some _=>exact (show False from r).elim
 | some _=>cases u with
  | none=>exact (show False from r).elim
  | some _=>rfl
theorem zgV.getD {o:Option V} {u:Option Value} {d:V} {d':Value} (r:zgV o u) (rd:RelV d d'):RelV (o.getD d) (u.getD d'):=by
 cases o with
 | none=>cases u with
  | none=>exact rd
  | some _=>exact (show False from r).elim
 | some _=>cases u with
  | none=>exact (show False from r).elim
  | some _=>exact r
theorem KV.val {nT:List (κ×V)} {vs:List (κ×Value)} (r:KV nT vs) (k:κ):zgV (zdI nT k) (valueAt vs k):=by
 unfold KV at r;induction r with
 | nil=>exact f6
 | @cons p q ps qs h t ih =>
  obtain⟨h1,h2⟩:=h;by_cases e:p.1=k
  ·have e':q.1=k:=h1.symm.trans e;have b:valueAt (q :: qs) k=some q.2:=by simp [valueAt,gv,e']
   rw [zfG e,b]; exact h2
  ·have e':¬ q.1=k:=fun z=>e (h1.trans z)
   have b:valueAt (q :: qs) k=valueAt qs k:=by simp [valueAt,gv,e']
   rw [zfH e,b]; exact ih
theorem KV.any {nT:List (κ×V)} {vs:List (κ×Value)} (r:KV nT vs) (k:κ):(nT.any fun kv=>decide (kv.1=k))=vs.any fun kv=>decide (kv.1=k):=by
 unfold KV at r;induction r with
 | nil=>rfl
 | cons h t ih=>rw [iT,iT,ih,h.1]
theorem KV.Ob {nT:List (κ×V)} {vs:List (κ×Value)} (r:KV nT vs) (k:κ) {y:V} {u:Value} (ry:RelV y u) :
  KV (nT.map fun kv=>if kv.1=k then (kv.1,y) else kv) (vs.map fun kv=>if kv.1=k then (kv.1,u) else kv):=by
 unfold KV at r |-;induction r with
 | nil=>exact .nil
 | @cons p q ps qs h t ih =>
  rw [bV,bV];refine .cons ?_ ih;obtain⟨h1,h2⟩:=h;by_cases e:p.1=k
  ·rw [if_pos e,if_pos (h1.symm.trans e)]; exact⟨h1,ry⟩
  ·rw [if_neg e,if_neg (fun z=>e (h1.trans z))]; exact⟨h1,h2⟩
theorem KV.put {nT:List (κ×V)} {vs:List (κ×Value)} (r:KV nT vs) (k:κ) {y:V} {u:Value} (ry:RelV y u):KV (putK nT k y) (stored vs k u):=by
 unfold putK stored;rw [r.any k];by_cases e:(vs.any fun kv=>decide (kv.1=k))=true
 ·rw [if_pos e,if_pos e]; exact r.Ob k ry
 ·rw [if_neg e,if_neg e]; exact cL r ⟨rfl,ry⟩
theorem KV.length {nT:List (κ×V)} {vs:List (κ×Value)} (r:KV nT vs):nT.length=vs.length:=bF r
end
theorem zmS {k:Key} {u:Value} (r:RelV (kV k) u):(zaM P w).is k u=true:=by
 cases k with
 | inl i=>obtain⟨t,e⟩:=(show ∃ t,u=ju i t from r); subst e; exact zhT P w i t
 | inr x=>obtain⟨t,e⟩:=(show ∃ t,u=lL x t from r); subst e; exact zhU P w x t
theorem zgM {P:Program} {w:World}:∀ {ks:List Key} {us:List Value},z0 (ks.map kV) us->ItemsAre (zaM P w) ks us
 | [],_,r=>by rw [jb] at r; cases r; exact .nil
 | k :: ks,_,r=>by
  rw [bV] at r;cases r with
  | cons h t=>exact .cons (zmS h) (zgM t)
abbrev KT (H:Hp):List (List Key×V)->List (List Key×Addr×Value)->Prop:=Paired fun p q=>p.1=q.1/\H q.2.1=some (.tup (p.1.map kV))/\RelV p.2 q.2.2
theorem KT.val {xs:List (List Key×Addr×Value)} (r:KT H nT xs) (k:List Key):zgV (zdI nT k) ((atKey xs k).map (·.2)):=by
 induction r with
 | nil=>exact f6
 | @cons p q ps qs h t ih =>
  obtain⟨h1,_,h2⟩:=h;by_cases e:p.1=k
  ·have e':q.1=k:=h1.symm.trans e;have b:atKey (q :: qs) k=some q.2:=by simp [atKey,gv,e']
   rw [zfG e,b]; exact h2
  ·have e':¬ q.1=k:=fun z=>e (h1.trans z)
   have b:atKey (q :: qs) k=atKey qs k:=by simp [atKey,gv,e']
   rw [zfH e,b]; exact ih
theorem KT.Ob {xs:List (List Key×Addr×Value)} (r:KT H nT xs) (k:List Key) {y:V} {u:Value} (ry:RelV y u) :
  KT H (nT.map fun kv=>if kv.1=k then (kv.1,y) else kv) (xs.map (putAt k u)):=by
 induction r with
 | nil=>exact .nil
 | @cons p q ps qs h t ih =>
  rw [bV,bV];refine .cons ?_ ih;obtain⟨h1,h2,h3⟩:=h;unfold putAt;by_cases e:p.1=k
  ·rw [if_pos e,if_pos (h1.symm.trans e)]; exact⟨h1,h2,ry⟩
  ·rw [if_neg e,if_neg (fun z=>e (h1.trans z))]; exact⟨h1,h2,h3⟩
theorem KT.put {xs:List (List Key×Addr×Value)} (r:KT H nT xs) (k:List Key) {b:Addr} {y:V} {u:Value} (hb:H b=some #[PK]) (ry:RelV y u) :
  KT H (putK nT k y) (storedH xs k b u):=by
 have e:(nT.any fun kv=>decide (kv.1=k))=(atKey xs k).isSome:=by
  rw [zfI,(r.val k).Nj,Option.isSome_map]
 unfold putK storedH;rw [e];by_cases q:(atKey xs k).isSome=true
 ·rw [if_pos q,if_pos q]; exact r.Ob k ry
 ·rw [if_neg q,if_neg q]; exact cL r ⟨rfl,hb,ry⟩
theorem KT.keeps {xs:List (List Key×Addr×Value)} (r:KT H nT xs) (ht:∀ b ys,H b=some #[Vr]->H' b=some #[Vr]):KT H' nT xs :=
 Paired.Oe r fun _ _ z=>⟨z.1,ht _ _ z.2.1,z.2.2⟩
section
variable {P:Program} {w:World} {H:Hp} {h:Heap} {a:Addr}
theorem zpD {u:HO} (ok:HOk P w H h) (e:Rd H a u):zat P w H h a u:=e.ok ok
theorem zmT {nT:List (Key×V)} (ok:HOk P w H h) (e:Rd H a #[U1]):nT.length<=sizeLine/\(a == sysModules)=false/\∃ vs,KV nT vs/\h.DictOf (zaM P w) a vs :=
 show zat P w H h a #[U1] from zpD ok e
theorem zrw {nT:List (Key×V)} (ok:HOk P w H h) (e:H a=some #[U1]):nT.length<=sizeLine/\(a == sysModules)=false/\∃ vs,KV nT vs/\h.DictOf (zaM P w) a vs:=zmT ok (.inl e)
theorem zhj {ks:List Key} (ok:HOk P w H h) (e:H a=some (.tup (ks.map kV))):#[PQ].is h ks a:=by
 obtain⟨_,nP,r,o,h1,h2,n,h3⟩:=(show zat P w H h a (.tup (ks.map kV)) from ok a _ e);exact⟨o,nP.toArray,n,h1,h2,h3,by simpa using zgM r⟩
theorem zmU (ok:HOk P w H h) (e:Rd H a #[SX]):nT.length<=sizeLine/\(a == sysModules)=false /\
  ∃ xs,KT H nT xs/\h.DictOfH #[PQ] a xs:=by
 obtain⟨z,y,xs,r,o,es,ep,h1,h2,h3,h4,h5⟩:=(show zat P w H h a #[SX] from zpD ok e);refine⟨z,y,xs,r,o,es,ep,h1,h2,h3,h4,fun x hx=>?_,h5⟩;have all:∀ {l:List (List Key×V)} {m:List (List Key×Addr×Value)},KT H l m->∀ x∈m,#[PQ].is h x.1 x.2.1:=by
  intro l m q;induction q with
  | nil=>intro x hx; exact nomatch hx
  | @cons p q ps qs hq t ih =>
   intro x hx;rcases aV.mp hx with e | hx
   ·subst e;exact zhj ok (by rw [<- hq.1]; exact hq.2.1)
   ·exact ih x hx
 exact all r x hx
theorem zpE (ok:HOk P w H h) (e:H a=some #[SX]):nT.length<=sizeLine/\(a == sysModules)=false /\
  ∃ xs,KT H nT xs/\h.DictOfH #[PQ] a xs:=zmU ok (.inl e)
end
noncomputable def zrx (H:Hp) (a:Addr) (y:V) (r:Option V):Prop :=
 (∃ nT k,Rd H a #[U1]/\y=kV k/\r=zdI nT k)\/∃ nT k b,Rd H a #[SX]/\y = .ref b/\H b=some #[PK]/\r=zdI nT k
noncomputable def zmV (H:Hp) (a:Addr) (y v:V) (H':Hp):Prop :=
 (∃ nT k,H a=some #[U1]/\y=kV k/\nT.length < sizeLine/\H'=nQ H a (.dK #[QD])) \/
 ∃ nT k b,H a=some #[SX]/\y = .ref b/\H b=some #[PK]/\nT.length < sizeLine/\H'=nQ H a (.dT #[QD])
theorem zmV.t {a b:Addr} {k:List Key} {v:V} (e:H a=some #[SX]) (eb:H b=some #[PK]) (hl:nT.length < sizeLine) :
  zmV H a (.ref b) v (nQ H a (.dT #[QD])):=.inr ⟨nT,k,b,e,rfl,eb,hl,rfl⟩
section
variable {X:Cx} {nM:List (Addr×Obj)} {σ:St} {H:Hp} {s:Shared} {a:Addr} {y v:V} {u r:Value} {o:Option V} {A:Around} {E:Value->Shared->Prop}
theorem Inv.big (I:Inv X nM σ H s):sysModules < s.heap.objs.size:=by
 have h:mainGlobals < s.heap.objs.size:=(I.mod.glob.keeps I.bk).lt;exact Nat.lt_trans #[D] h
theorem zhk {ob:HO} (I:Inv X nM σ H s) (mu:Mut (H a)) (hs:cC a s.heap h') (he:∃ q,h'.get? a=some q) (new:zat X.prog X.w (nQ H a ob) h' a ob) :
  Inv X nM σ (nQ H a ob) { s with heap:=h',toks:=t' } :=
 I.write (x:=a) (e:=a) mu #[PD] (fun b q hb z=>(hs.2 b hb).trans z) he new
theorem zqv {nT:List (Key×V)} {vs:List (Key×Value)} (z:nT.length<=sizeLine) (hd:(a == sysModules)=false) (rel:KV nT vs) (dd:h'.DictOf (zaM P w) a vs) :
  zat P w H' h' a #[U1]:=⟨z,hd,vs,rel,dd⟩
theorem zlr {Q:Unit->Shared->Prop} (hu:A.units+1 < cLine) (I:Inv X nM σ H s) (g:zmV H a y v H') (ry:RelV y u) (rv:RelV v r) (h:∀ s',Inv X nM σ H' s'->Q () s') :
  wpAny #[pi] A (setItem #[Pn] u r) Q E s:=by
 rcases g with ⟨nT,k,e,ey,l,eH⟩ | ⟨nT,k,b,e,ey,eb,l,eH⟩
 ·subst ey eH;obtain⟨z,hd,vs,rel,dd⟩:=zrw I.hok e;have hz:vs.length<=sizeLine:=by rw [<- rel.length]; exact z
  have hl:#[QD].length<=sizeLine:=by have:=zc9 nT k v; lia
  refine wpAny_setItem_pairs (hsz:=hz) (zmS ry) dd fun h' CW hs=>h _ ?_
  have he:∃ q,h'.get? a=some q:=let ⟨q,_,_,hq,_⟩:=CW; ⟨q,hq⟩
  exact zhk I (by rw [e]; exact f6) hs he (zqv hl hd (rel.put k rv) CW)
 ·subst ey eH;cases (show u=bP b from ry);obtain⟨z,hd,xs,rel,dd⟩:=zpE I.hok e;have hz:xs.length<=sizeLine:=by rw [<- bF rel]; exact z
  have hl:#[QD].length<=sizeLine:=by have:=zc9 nT k v; lia
  refine wpAny_setItem_heap (hsz:=hz) (jw hu) (zhj I.hok eb) dd fun h' CW hs=>h _ ?_
  obtain⟨q,es,ep,hq,h2,h3,h4,_,h5⟩:=CW;refine zhk I (by rw [e]; exact f6) hs ⟨q,hq⟩ ⟨hl,hd,_,(rel.put k eb rv).keeps fun c ys ec=>?_,q,es,ep,hq,h2,h3,h4,h5⟩;rw [zp (zpu ec e (fun z=>nomatch z))];exact ec
end
noncomputable def zry (td ty tv:TE):TS:=fun D σ H=>tv σ H fun v H1=>td σ H1 fun x H2=>ty σ H2 fun y H3=>∃ a H4,x = .ref a/\zmV H3 a y v H4/\D.nx σ H4
section
variable {X:Cx} {o i e value:Expr} {pos pos' o9:Pos} {td ty tv:TE}
theorem zoF (hu:X.A.units+1 < cLine) (ho:PE X o td) (hi:PE X i ty) (hv:PE X value tv) (hs:swapsWith value (some (.Subscript o i pos')) pos.line X.env=pure false) :
  PS X (.Assign [.Subscript o i pos'] value pos) (zry td ty tv):=by
 intro nM s σ H D I h;refine wpAny_Assign_Subscript (thn (hv nM s σ H _ I h) fun r s1 ⟨v,H1,I1,rv,q1⟩=>thn (ho nM s1 σ H1 _ I1 q1) fun u s2 ⟨x,H2,I2,rx,q2⟩=>thn (hi nM s2 σ H2 _ I2 q2) fun iv s3 ⟨y,H3,I3,ry,a,H4,ex,g,q3⟩=>?_) hs;subst ex;obtain rfl:u=bP a:=rx;exact zlr hu I3 g ry rv fun s4 I4=>⟨σ,H4,I4,q3⟩
end
theorem zir (h:Heap) (hb:sysModules < h.objs.size):zat P w H (h.push { cls:=.type "dict",data:=.dict #[] }) h.objs.size (.dT []) :=
 ⟨bW _,beq_eq_false_iff_ne.mpr (dW (bY hb)),[],.nil,_,#[],0,aX _ rfl,⟨rfl,rfl,rfl⟩,rfl,rfl,nu⟩
noncomputable def zqw:TE:=fun _ H Q=>∀ p,H p=none->Q #[Tg] (nQ H p (.dT []))
section
variable {X:Cx} {pos:Pos}
theorem zmW:PE X (.Dict [] [] pos) zqw:=fun nM s σ H Q I h =>
 wpAny_Dict_empty ⟨.ref s.heap.objs.size,_,I.laid (a:=s.heap.objs.size) (o:=.dT []) (t':=s.toks) (fun _ _ q=>aJ _ q) (aH _) (zir s.heap I.big),rfl,h _ #[QN]⟩
end
structure M2 (X:Cx) (o:Expr) (m:Str) (apos:Pos) (e f:Expr) (oU:Pos):Prop where
 base:attributeBase o m X.env #[Uu]=eval o X.env
 few:((backTo oU (starEach [e,f] X.env)).all (fun x=>!x.1) && (backToKw oU (keywordEach [] X.env)).all (fun x=>x.1.isSome)
  && decide (([e,f]:List Expr).length+([]:List Keyword).length+(if ([]:List Keyword).isEmpty then 0 else 1) < 30))=true
 line:(apos.endLine == oU.line)=true
 trees:backTo oU (starEach [e,f] X.env) = [#[OR],(false,eval f X.env)]
noncomputable def IsD (H:Hp) (a:Addr):Prop:=(∃ nT,Rd H a #[U1])\/∃ nT,Rd H a #[SX]
theorem zqx {σ:St} {a:Addr} (I:Inv X nM σ H s) (d:IsD H a) :
  s.TypeIs #[Pn] "dict"/\(∀ b,bP a = .ref b->∃ ob,s.heap.get? b=some ob/\ob.dict=none)/\(a == sysModules)=false:=by
 rcases d with ⟨nT,e⟩ | ⟨nT,e⟩
 ·obtain⟨_,hd,vs,_,dd⟩:=zmT I.hok e;refine⟨dd.typeIs,fun b q=>?_,hd⟩;cases q;obtain⟨ob,_,_,h1,h2,_⟩:=dd;exact⟨ob,h1,h2.2.1⟩
 ·obtain⟨_,hd,xs,_,dd⟩:=zmU I.hok e;refine⟨dd.typeIs,fun b q=>?_,hd⟩;cases q;obtain⟨ob,_,_,h1,h2,_⟩:=dd;exact⟨ob,h1,h2.2.1⟩
section
variable {X:Cx} {nM:List (Addr×Obj)} {σ:St} {H:Hp} {s:Shared} {a:Addr} {y d:V} {u r:Value} {o:Option V} {A:Around} {E:Value->Shared->Prop}
theorem zqy {Q:Value->Shared->Prop} (hu:A.units+1 < cLine) (I:Inv X nM σ H s) (g:zrx H a y o) (ry:RelV y u) (rd:RelV d r) (h:∀ w' s',Inv X nM σ H s'->RelV (o.getD d) w'->Q w' s') :
  wpAny #[pi] A (call (.builtin "dict.get") [.ref a,u,r]) Q E s:=by
 rcases g with ⟨nT,k,e,ey,l⟩ | ⟨nT,k,b,e,ey,eb,l⟩
 ·subst ey;obtain⟨z,hd,vs,rel,dd⟩:=zmT I.hok e;refine call_meetsIn i6 dd.typeIs kD (j8 _ _ _) (meets_dict_get_default #[VT] a (zmS ry) hd r) ⟨_,dd.mapOf,h _ _ (I.tok _) ?_⟩;rw [l];exact (rel.val k).getD rd
 ·subst ey;cases (show u=bP b from ry);obtain⟨z,hd,xs,rel,dd⟩:=zmU I.hok e;refine call_meetsIn i6 dd.typeIs kD (j8 _ _ _) (meetsH_dict_get_default (tupleKind #[VT]) a b hd r) ⟨jw hu,k,xs,zhj I.hok eb,dd,h _ _ (I.tok _) ?_⟩;rw [l];exact (rel.val k).getD rd
end
noncomputable def zqz (td ty tx:TE):TE:=fun σ H Q=>td σ H fun x H1=>∃ a,x = .ref a/\IsD H1 a/\ty σ H1 fun y H2=>tx σ H2 fun z H3=>∃ o,zrx H3 a y o/\Q (o.getD z) H3
section
variable {X:Cx} {o e f:Expr} {apos oU:Pos} {td ty tx:TE}
theorem zmX (hu:X.A.units+1 < cLine) (ho:PE X o td) (he:PE X e ty) (hf:PE X f tx) (m:M2 X o "get" apos e f oU):PE X (.Call (.Attribute o "get" apos) [e,f] [] oU) (zqz td ty tx):=by
 intro nM s σ H Q I h;refine wpAny_Call_method m.base m.few m.line PySem.F.plainAttrs_dict i6 PySem.F.type_dict_get (thn #[RN] fun u s1 ⟨x,H1,I1,rx,a,ex,d,q1⟩=>?_);subst ex;obtain rfl:u=bP a:=rx;obtain⟨t1,t2,_⟩:=zqx I1 d;refine⟨t1,t2,?_⟩;rw [m.trees];refine kz rfl (kX (fN (thn (he nM s1 σ H1 _ I1 q1) fun iv s2 ⟨y,H2,I2,ry,q2⟩ =>
  fN (thn (hf nM s2 σ H2 _ I2 q2) fun fv s3 ⟨z,H3,I3,rz,ov,g,q3⟩=>gG ?_))))
 exact zqy hu I3 g ry rz fun w' s4 I4 qY=>⟨_,H3,I4,qY,q3⟩
end
theorem zis:∀ {ns:List Int} {us:List Value},z0 #[Cl] us->∃ ps:List (Int×Tok),us=ps.map (fun p=>ju p.1 p.2)/\ps.map (·.1)=ns
 | [],_,r=>by cases r; exact⟨[],rfl,rfl⟩
 | n :: ns,_,r=>by
  cases r with
  | cons r1 r2 =>
   obtain⟨ps,e1,e2⟩:=zis r2;obtain⟨t,rfl⟩:=r1;exact⟨(n,t) :: ps,by rw [e1]; rfl,by rw [<- e2]; rfl⟩
theorem zet {X:Cx} (hc:X.calm=true):zbv X (.builtin "sum") (fun xs H Q=>∃ (p:Addr) (ns:List Int),xs = [.ref p]/\nO X.K H p #[Cl]/\Q (.int ns.sum) H):=by
 intro nM s σ H xs us Q I r h;obtain⟨p,ns,rfl,hq,q⟩:=h;obtain⟨u,rfl,rx⟩:=vals1 r;cases rx;obtain⟨nP,rv,pl,hz⟩:=I.list hq;obtain⟨ps,e1,e2⟩:=zis rv;subst e1 e2;have hl:s.heap.IsList p (intItems ps.toArray):=by
  have:=pl.isList;simpa [intItems] using this
 refine sum_intListG (xs:=ps.toArray) (by simp [I.ok.hd hc]) hl fun h' tk t' kk=>⟨.int (ps.map (·.1)).sum,H,I.kept kk,⟨t',?_⟩,q⟩
 rw [preSum_eq,aY #[M]]
end L2
namespace PySem
open PyProof.Rows
end PySem
namespace L2
open PySem PySem.Spec PyProof.Rows
end L2
namespace My
open PySem L2 PyProof.Rows
section
variable {K:aF}
structure NL (K:aF) (H:Hp) (r:Addr) (n:Nat) (rw:List #[Op]):Prop where
 at':nO K H r (rw.map qW)
 len:rw.length=n
end
end My
end
section
namespace Srt
open PySem PyProof.Rows
variable {arr:Array Keyed} {j n5:Nat} {st₀:SortSt}
noncomputable def Vk (val:Keyed->Int) (xs:Array Keyed) (i:Nat):Int:=match xs[i]? with
 | some p=>val p
 | none=>0
theorem zaz {val:Keyed->Int} {xs ys:Array Keyed} {i:Nat} (h:xs[i]? = ys[j]?):Vk val xs i=Vk val ys j:=by unfold Vk; rw [h]
theorem zae {val:Keyed->Int} {xs:Array Keyed} {i:Nat} {p:Keyed} (h:xs[i]? = some p):Vk val xs i=val p:=by unfold Vk; rw [h]
noncomputable def SIn (val:Keyed->Int) (xs:Array Keyed) (lo hi:Nat):Prop:=∀ i j,lo<=i->i<=j->j < hi->Vk val xs i<=Vk val xs j
noncomputable def DIn (val:Keyed->Int) (xs:Array Keyed) (lo hi:Nat):Prop:=∀ i j,lo<=i->i<=j->j < hi->Vk val xs j<=Vk val xs i
structure SB (κ:SortKind) (a₀:Array Keyed) (st:SortSt):Prop where
 perm:#[wn].Perm a₀
 kind:kindOf st=κ
 failed:failedOf st=none
theorem SB.size {κ:SortKind} {a₀:Array Keyed} {st:SortSt} (h:SB κ a₀ st):#[wn].size=a₀.size:=h.perm.size_eq
theorem SB.mem {κ:SortKind} {a₀:Array Keyed} {st:SortSt} (h:SB κ a₀ st) {i:Nat} (hi:i < a₀.size):∃ p,#[wn][i]? = some p/\p∈a₀.toList:=by
 (have pT:i < #[wn].size:=by rw [h.size]; exact hi)
 exact⟨#[wn][i],getElem?_pos _ i pT,(gU.mp h.perm).mem_iff.mp #[M]⟩
structure SF (κ:SortKind) (a₀:Array Keyed) (lo:Nat) (st₀ st:SortSt):Prop where
 b:SB κ a₀ st
 low:∀ k,k < lo->#[wn][k]? = (arrOf st₀)[k]?
 pend:pendingOf st=pendingOf st₀
theorem SF.refl {κ:SortKind} {a₀:Array Keyed} {lo:Nat} {st:SortSt} (h:SB κ a₀ st):SF κ a₀ lo st st:=⟨h,fun _ _=>rfl,rfl⟩
theorem SF.setArr {κ:SortKind} {a₀:Array Keyed} {lo:Nat} {st₀ st:SortSt} (h:SF κ a₀ lo st₀ st) {xs:Array Keyed} (hp:xs.Perm #[wn]) (hl:∀ k,k < lo->xs[k]? = #[wn][k]?):SF κ a₀ lo st₀ (setArr st xs) :=
 ⟨⟨hp.trans h.b.perm,h.b.kind,h.b.failed⟩,fun k hk=>(hl k hk).trans (h.low k hk),h.pend⟩
section
variable {prog:Program} {w:World} {A:Around} {E:Value->Shared->Prop} {s:Shared} {a₀:Array Keyed} {κ:SortKind} {val:Keyed->Int}
noncomputable def Cmp (prog:Program) (w:World) (A:Around) (s:Shared) (κ:SortKind) (val:Keyed->Int) (a₀:Array Keyed):Prop :=
 ∀ x y,x∈a₀.toList->y∈a₀.toList->∀ (Q:Bool->Shared->Prop) (E:Value->Shared->Prop),Q (decide (val x < val y)) s->wpAny #[ss] A (keyLt' κ x.1 y.1) Q E s
theorem zmY {st:SortSt} {x y:Keyed} {Q:Option Bool->SortSt->Prop} (hC:Cmp prog w A s κ val a₀) (hk:kindOf st=κ) (hx:x∈a₀.toList) (hy:y∈a₀.toList) (h:Q (some (decide (val x < val y))) st) :
  wpS #[ss] A E s (lt' x y) Q st:=by
 rw [lt'_eq];refine aQ (iD ?_);rw [hk];refine aQ (jq (d8 (hC x y hx hy _ _ #[U3])));exact aT h
theorem zaa {st:SortSt} {i:Nat} {p:Keyed} {Q:Keyed->SortSt->Prop} (hi:arr[i]? = some p) (h:Q p st):wpS #[ss] A E s (elem' arr i) Q st:=by
 rw [elem'_eq,hi];exact aT h
theorem zfJ {st:SortSt} {i:Nat} {Q:Option Bool->SortSt->Prop} (hC:Cmp prog w A s κ val a₀) (hB:SB κ a₀ st) (hi:i < a₀.size) (hj:j < a₀.size) (h:Q (some (decide (Vk val #[wn] i < Vk val #[wn] j))) st) :
  (wpS #[ss] A E s (ltAt' i j) Q st):=by
 obtain⟨x,ex,mx⟩:=hB.mem hi;obtain⟨y,ey,my⟩:=hB.mem hj;rw [ltAt'_eq];refine aQ (iD ?_)
 (show wpS _ _ _ _ (do let x <- elem' #[wn] i; let y <- elem' #[wn] j; lt' x y) Q st)
 refine aQ (zaa ex (aQ (zaa ey (zmY hC hB.kind mx my ?_))));rw [zae ex,zae ey] at h;exact h
theorem zkm {st:SortSt} {i:Nat} {Q:Unit->SortSt->Prop} (h:Q () (setArr st (mirror #[wn] i j ((j - i) / 2)))) :
  (wpS #[ss] A E s (reverseSlice' i j) Q st):=by
 ((rw [reverseSlice'_eq]; exact gQ h))
theorem zfK {xs:Array Keyed} {i:Nat} (hj:j<=xs.size) (k:Nat):Vk val (mirror xs i j ((j - i) / 2)) k=if i<=k/\k < j then Vk val xs (i+j - 1 - k) else Vk val xs k:=by
 (have e:=lG (i:=i) hj k)
 by_cases h1:i<=k/\k < j
 ·rw [if_pos h1] at e |-; exact zaz e
 ·rw [if_neg h1] at e |-; exact zaz e
theorem zbJ {xs:Array Keyed} {i:Nat} (hj:j<=xs.size) (heq:∀ k,i<=k->k < j->Vk val xs k=Vk val xs (j - 1)) (k:Nat):Vk val (mirror xs i j ((j - i) / 2)) k=Vk val xs k:=by
 rw [zfK hj];split
 ·(rw [heq _ #[O] #[O],heq k #[O] #[O]])
 ·rfl
theorem zcO {xs:Array Keyed} {lo i:Nat} (hj:j<=xs.size) (hi:lo<=i):∀ k,k < lo->(mirror xs i j ((j - i) / 2))[k]? = xs[k]?:=fun k hk=>by
 rw [lG hj,if_neg #[O]]
theorem zjw {xs:Array Keyed} {lo src d:Nat} (hs:src < xs.size) (hd:d<=src) (hl:lo<=src - d):∀ k,k < lo->(bubble xs src d)[k]? = xs[k]?:=fun k hk=>by
 rw [getElem?_bubble hs d hd,if_neg #[O],if_neg #[O]]
noncomputable def zmZ (lo a n5:Nat):StateT SortSt Sem AscSt :=
 forIn [a:n5] ((none,a):AscSt) fun _ st=>do
  let x <- ltAt' (lo+st.snd) (lo+st.snd - 1)
  match x with
  | some tH=>if tH=true then pure (iE (none,st.snd)) else pure (dP (none,st.snd+1))
  | _=>pure (iE (some none,st.snd))
noncomputable def zit (lo n n5:Nat):StateT SortSt Sem #[OE]:=do
 reverseSlice' lo (lo+n)
 let st <- zmZ lo n n5
 match st.fst with
 | some r=>pure r
 | none=>pure (some st.snd)
noncomputable def zkn (lo n n5:Nat):StateT SortSt Sem DescSt :=
 forIn [n:n5] ((none,n,0):DescSt) fun _ st=>do
  let x <- ltAt' #[Uk] (lo+st.snd.fst - 1)
  match x with
  | some tH =>
   if tH=true then
    if st.snd.snd > 0 then do
     reverseSlice' (lo+st.snd.fst - (st.snd.snd+1)) #[Uk]
     pure (dP (none,st.snd.fst+1,0))
    else pure (dP (none,st.snd.fst+1,0))
   else do
    let x <- ltAt' (lo+st.snd.fst - 1) #[Uk]
    match x with
    | some BR =>
     if BR=true then pure (iE (none,st.snd.fst,st.snd.snd))
     else pure (dP (none,st.snd.fst+1,st.snd.snd+1))
    | _=>pure #[Uc]
  | _=>pure #[Uc]
noncomputable def ziu (lo n n5:Nat):StateT SortSt Sem #[OE]:=do
 liftM (rule "list.sort.descending-run"); let st <- zkn lo (n+1) n5
 match st.fst with
 | some r=>pure r
 | none =>
  if st.snd.snd > 0 then do
   reverseSlice' (lo+st.snd.fst - (st.snd.snd+1)) #[Uk]
   zit lo st.snd.fst n5
  else zit lo st.snd.fst n5
theorem zhl (lo n5:Nat):countRun' lo n5=(do
  let st <- zmZ lo 1 n5
  match st.fst with
  | some r=>pure r
  | none =>
   if (st.snd == n5)=true then pure (some st.snd)
   else if st.snd > 1 then do
    let x <- ltAt' lo (lo+st.snd - 1)
    match x with
    | some DN=>if DN=true then pure (some st.snd) else do
      reverseSlice' lo (lo+st.snd)
      ziu lo st.snd n5
    | _=>pure none
   else ziu lo st.snd n5):=by
 rw [countRun'_eq];unfold ziu zit zkn zmZ;dsimp only;refine congrArg (bind _) ?_;funext c;obtain⟨r,n⟩:=c;cases r with
 | some r=>rfl
 | none =>
  dsimp only;split
  ·rfl
  ·split
   ·congr 1;funext x;cases x with
    | none=>rfl
    | some DN =>
     dsimp only;split
     ·rfl
     ·congr 1;funext _r;congr 1; funext _u; congr 1; congr 1; funext s2; obtain⟨r2,n2,q2⟩:=s2;cases r2 with
      | some r2=>rfl
      | none =>
       dsimp only;split
       ·congr 1; funext _v; congr 1; funext _w; congr 1; funext s3; obtain⟨r3,n3⟩:=s3; cases r3 <;> rfl
       ·congr 1; funext _w; congr 1; funext s3; obtain⟨r3,n3⟩:=s3; cases r3 <;> rfl
   ·congr 1; funext _u; congr 1; congr 1; funext s2; obtain⟨r2,n2,q2⟩:=s2;cases r2 with
    | some r2=>rfl
    | none =>
     dsimp only;split
     ·congr 1; funext _v; congr 1; funext _w; congr 1; funext s3; obtain⟨r3,n3⟩:=s3; cases r3 <;> rfl
     ·congr 1; funext _w; congr 1; funext s3; obtain⟨r3,n3⟩:=s3; cases r3 <;> rfl
theorem zpF {st:SortSt} {lo a:Nat} {Q:AscSt->SortSt->Prop} (hC:Cmp prog w A s κ val a₀) (hn:lo+n5<=a₀.size) (ha:1<=a) (han:a<=n5) (hB:SF κ a₀ lo st₀ st)
  (hs:SIn val #[wn] lo (lo+a))
  (h:∀ n,a<=n->n<=n5->SIn val #[wn] lo (lo+n)->(n=n5\/Vk val #[wn] (lo+n) < Vk val #[wn] (lo+n - 1))->Q (none,n) st) :
  wpS #[ss] A E s (zmZ lo a n5) Q st:=by
 unfold zmZ;refine d6 (I:=fun x c nU=>nU=st/\c=(none,x)/\SIn val #[wn] lo (lo+x)) ?step ?fin ⟨rfl,rfl,hs⟩
 case fin =>
  rintro c nU ⟨rfl,rfl,pF⟩
  (rw [show max a n5=n5 by lia] at pF |-)
  (exact h n5 han (aH _) pF #[PD])
 case step =>
  (rintro x c nU DO FD ⟨rfl,rfl,pF⟩)
  dsimp only;refine aQ (zfJ hC hB.b #[O] #[O] ?_);by_cases oY:Vk val #[Ch] (lo+x) < Vk val #[Ch] (lo+x - 1)
  ·(simp only [oY,decide_true,if_true])
   (exact aT (h x DO #[O] pF (.inr oY)))
  ·(simp only [oY,decide_false,ck,if_false])
   refine aT ⟨rfl,rfl,fun i j uf rf hj=>?_⟩;by_cases DP:j < lo+x
   ·exact pF i j uf rf DP
   ·have qu:j=lo+x:=by lia
    subst qu;by_cases pT:i=lo+x
    ·(subst pT; exact dz _)
    ·exact cW (pF i (lo+x - 1) uf #[O] #[O]) (Int.not_lt.mp oY)
theorem zm0 {st:SortSt} {lo n:Nat} {Q:Option Nat->SortSt->Prop} (hC:Cmp prog w A s κ val a₀) (hn:lo+n5<=a₀.size) (h1:1<=n) (xQ:n<=n5) (hB:SF κ a₀ lo st₀ st)
  (hs:DIn val #[wn] lo (lo+n)) (h:∀ m nU,SF κ a₀ lo st₀ nU->1<=m->m<=n5->SIn val #[Ch] lo (lo+m)->Q (some m) nU) :
  wpS #[ss] A E s (zit lo n n5) Q st:=by
 unfold zit;have hsz:lo+n<=#[wn].size:=by rw [hB.b.size]; lia
 refine aQ (zkm ?_);have p6:=hB.setArr (kE #[wn] lo (lo+n) ((lo+n - lo) / 2)) (zcO hsz (aH _));refine aQ (zpF hC hn h1 xQ p6 ?_ fun m yL uS DQ _=>aT (h m _ p6 #[O] uS DQ));intro i j uf rf hj;show Vk val (mirror #[wn] lo (lo+n) ((lo+n - lo) / 2)) i<=Vk val (mirror #[wn] lo (lo+n) ((lo+n - lo) / 2)) j;rw [zfK hsz,zfK hsz,if_pos #[O],if_pos #[O]];exact hs _ _ #[O] #[O] #[O]
theorem zqA {st:SortSt} {lo n:Nat} {Q:DescSt->SortSt->Prop} (hC:Cmp prog w A s κ val a₀) (hn:lo+n5<=a₀.size) (h1:1<=n) (xQ:n<=n5) (hB:SF κ a₀ lo st₀ st)
  (hs:DIn val #[wn] lo (lo+n))
  (h:∀ m vc nU,SF κ a₀ lo st₀ nU->n<=m->m<=n5->DIn val #[Ch] lo (lo+m)->vc+1<=m->(∀ i,lo+m - (vc+1)<=i->i < lo+m->Vk val #[Ch] i=Vk val #[Ch] (lo+m - 1))->Q (none,m,vc) nU) :
  wpS #[ss] A E s (zkn lo n n5) Q st:=by
 unfold zkn;refine d6 (I:=fun x c nU=>∃ vc,c=(none,x,vc)/\SF κ a₀ lo st₀ nU/\DIn val #[Ch] lo (lo+x)/\vc+1<=x /\
   (∀ i,lo+x - (vc+1)<=i->i < lo+x->Vk val #[Ch] i=Vk val #[Ch] (lo+x - 1))) ?step ?fin ⟨0,rfl,hB,hs,#[O],fun i h1 h2=>by congr 1; lia⟩
 case fin =>
  (rintro c nU ⟨vc,rfl,p6,pF,hq,he⟩)
  (rw [show max n n5=n5 by lia] at pF hq he |-)
  (exact h n5 vc nU p6 xQ (aH _) pF hq he)
 case step =>
  (rintro x c nU DO FD ⟨vc,rfl,p6,pF,hq,he⟩)
  dsimp only;have hsz:lo+x<=#[Ch].size:=by rw [p6.b.size]; lia
  refine aQ (zfJ hC p6.b #[O] #[O] ?_);by_cases oY:Vk val #[Ch] (lo+x) < Vk val #[Ch] (lo+x - 1)
  ·(simp only [oY,decide_true,if_true])
   have step1:∀ xs:Array Keyed,(∀ k,Vk val xs k=Vk val #[Ch] k)->DIn val xs lo (lo+(x+1)):=by
    intro xs hk i j uf rf hj;rw [hk,hk];by_cases DP:j < lo+x
    ·exact pF i j uf rf DP
    ·have qu:j=lo+x:=by lia
     subst qu;by_cases pT:i=lo+x
     ·(subst pT; exact dz _)
     ·exact cW (gL oY) (pF i (lo+x - 1) uf #[O] #[O])
   by_cases xR:vc > 0
   ·rw [if_pos xR];refine aQ (zkm (aT ⟨0,rfl,p6.setArr (kE _ _ _ _) (zcO hsz #[O]),step1 _ (zbJ hsz he),#[O],fun i h1 h2=>by congr 1; lia⟩))
   ·rw [if_neg xR]
    (exact aT ⟨0,rfl,p6,step1 _ (fun _=>rfl),#[O],fun i h1 h2=>by congr 1; lia⟩)
  ·(simp only [oY,decide_false,ck,if_false])
   refine aQ (zfJ hC p6.b #[O] #[O] ?_);by_cases vL:Vk val #[Ch] (lo+x - 1) < Vk val #[Ch] (lo+x)
   ·(simp only [vL,decide_true,if_true])
    (exact aT (h x vc nU p6 DO #[O] pF hq he))
   ·(simp only [vL,decide_false,ck,if_false])
    have DR:Vk val #[Ch] (lo+x)=Vk val #[Ch] (lo+x - 1):=by lia
    refine aT ⟨vc+1,rfl,p6,fun i j uf rf hj=>?_,#[O],fun i h1 h2=>?_⟩
    ·by_cases DP:j < lo+x
     ·exact pF i j uf rf DP
     ·have qu:j=lo+x:=by lia
      subst qu;by_cases pT:i=lo+x
      ·(subst pT; exact dz _)
      ·rw [DR]; exact pF i (lo+x - 1) uf #[O] #[O]
    ·rw [show lo+(x+1) - 1=lo+x by lia];by_cases hix:i=lo+x
     ·subst hix; rfl
     ·(rw [DR]; exact he i #[O] #[O])
theorem zko {st:SortSt} {lo n:Nat} {Q:Option Nat->SortSt->Prop} (hC:Cmp prog w A s κ val a₀) (hn:lo+n5<=a₀.size) (xQ:n+1<=n5) (hB:SF κ a₀ lo st₀ st)
  (hs:DIn val #[wn] lo (lo+(n+1))) (h:∀ m nU,SF κ a₀ lo st₀ nU->1<=m->m<=n5->SIn val #[Ch] lo (lo+m)->Q (some m) nU) :
  wpS #[ss] A E s (ziu lo n n5) Q st:=by
 unfold ziu
 (refine aQ #[PN])
 refine aQ (zqA hC hn #[O] xQ hB hs fun m vc nU p6 yL uS pF hq he=>?_);dsimp only;have hsz:lo+m<=#[Ch].size:=by rw [p6.b.size]; lia
 by_cases xR:vc > 0
 ·rw [if_pos xR];refine aQ (zkm (zm0 hC hn #[O] uS (p6.setArr (kE _ _ _ _) (zcO hsz #[O])) ?_ h));intro i j uf rf hj;show Vk val (mirror #[Ch] _ _ _) j<=Vk val (mirror #[Ch] _ _ _) i;rw [zbJ hsz he,zbJ hsz he];exact pF i j uf rf hj
 ·rw [if_neg xR];exact zm0 hC hn #[O] uS p6 pF h
theorem zoG {st:SortSt} {lo:Nat} {Q:Option Nat->SortSt->Prop} (hC:Cmp prog w A s κ val a₀) (hn:lo+n5<=a₀.size) (h1:1<=n5) (hB:SF κ a₀ lo st₀ st)
  (h:∀ m nU,SF κ a₀ lo st₀ nU->1<=m->m<=n5->SIn val #[Ch] lo (lo+m)->Q (some m) nU) :
  wpS #[ss] A E s (countRun' lo n5) Q st:=by
 rw [zhl];refine aQ (zpF hC hn (aH 1) h1 hB (fun i j uf rf hj=>(by
   have e:i=j:=by lia
   rw [e];exact dz _)) fun n vM uO Ad hor=>?_)
 dsimp only;by_cases xQ:n=n5
 ·(rw [if_pos (by simpa using xQ)])
  (exact aT (h n st hB vM uO Ad))
 ·(rw [if_neg (by simpa using xQ)])
  have n6:Vk val #[wn] (lo+n) < Vk val #[wn] (lo+n - 1):=hor.resolve_left xQ;by_cases hgt:n > 1
  ·rw [if_pos hgt];refine aQ (zfJ hC hB.b #[O] #[O] ?_);by_cases Bb:Vk val #[wn] lo < Vk val #[wn] (lo+n - 1)
   ·(simp only [Bb,decide_true,if_true])
    (exact aT (h n st hB vM uO Ad))
   ·(simp only [Bb,decide_false,ck,if_false])
    have hsz:lo+n<=#[wn].size:=by rw [hB.b.size]; lia
    have rX:∀ k,lo<=k->k < lo+n->Vk val #[wn] k=Vk val #[wn] (lo+n - 1):=by
     intro k xo hk;have a1:=Ad lo k (aH _) xo hk;have a2:=Ad k (lo+n - 1) xo #[O] #[O];lia
    refine aQ (zkm (zko hC hn #[O] (hB.setArr (kE _ _ _ _) (zcO hsz (aH _))) ?_ h));intro i j uf rf hj;show Vk val (mirror #[wn] _ _ _) j<=Vk val (mirror #[wn] _ _ _) i;rw [zbJ hsz rX,zbJ hsz rX];by_cases hjn:j < lo+n
    ·(rw [rX i #[O] #[O],rX j #[O] hjn]; exact dz _)
    ·have qu:j=lo+n:=by lia
     subst qu;by_cases pT:i=lo+n
     ·(subst pT; exact dz _)
     ·(rw [rX i #[O] #[O]]; exact gL n6)
  ·rw [if_neg hgt];have Hr:n=1:=by lia
   subst Hr;refine zko hC hn #[O] hB ?_ h;intro i j uf rf hj;by_cases pT:i=j
   ·(subst pT; exact dz _)
   ·have Hs:i=lo:=by lia
    have BS:j=lo+1:=by lia
    subst Hs; subst BS;exact gL n6
theorem ziv {xs:Array Keyed} {src d:Nat} (hs:src < xs.size) (hd:d<=src) (k:Nat) :
  Vk val (bubble xs src d) k=if k=src - d then Vk val xs src else if src - d < k/\k<=src then Vk val xs (k - 1) else Vk val xs k:=by
 (have e:=getElem?_bubble hs d hd k)
 by_cases h1:k=src - d
 ·rw [if_pos h1] at e |-; exact zaz e
 ·rw [if_neg h1] at e |-
  (by_cases h2:src - d < k/\k<=src)
  ·rw [if_pos h2] at e |-; exact zaz e
  ·rw [if_neg h2] at e |-; exact zaz e
theorem zrz {st:SortSt} {lo n ok:Nat} {Q:Bool->SortSt->Prop} (hC:Cmp prog w A s κ val a₀) (hn:lo+n<=a₀.size) (hok:ok<=n) (hB:SF κ a₀ lo st₀ st) (hs:SIn val #[wn] lo (lo+ok))
  (h:∀ nU,SF κ a₀ lo st₀ nU->SIn val #[Ch] lo (lo+n)->Q true nU):wpS #[ss] A E s (binarySort' lo n ok) Q st:=by
 rw [binarySort'_eq];refine aQ (fI (d6 (I:=fun k c nU=>c=(none,())/\SF κ a₀ lo st₀ nU/\SIn val #[Ch] lo (lo+min k n))
  (Q:=fun c nU=>c=(none,())/\SF κ a₀ lo st₀ nU/\SIn val #[Ch] lo (lo+n)) ?step ?fin ?init) ?post)
 case post =>
  rintro c nU ⟨rfl,p6,pF⟩
  (exact aT (h nU p6 pF))
 case init =>
  refine⟨rfl,hB,fun i j uf rf hj=>?_⟩;by_cases h1:ok=0
  ·have e:i=j:=by lia
   rw [e]; exact dz _
  ·exact hs i j uf rf #[O]
 case fin =>
  rintro c nU ⟨hc,p6,pF⟩;refine⟨hc,p6,?_⟩
  (rwa [show min (max (max ok 1) n) n=n by lia] at pF)
 case step =>
  (rintro k c nU hak FE ⟨rfl,p6,pF⟩)
  (rw [show min k n=k by lia] at pF)
  have hk:lo+k < a₀.size:=#[O]; refine aQ (fI (d6 (I:=fun x c pJ=>pJ=nU/\∃ l r,c=(none,l,r)/\l<=r/\r<=k/\r - l<=k - x /\
    (∀ i,i < l->Vk val #[Ch] (lo+i)<=Vk val #[Ch] (lo+k))/\(∀ i,r<=i->i < k->Vk val #[Ch] (lo+k) < Vk val #[Ch] (lo+i)))
   (Q:=fun c pJ=>pJ=nU/\∃ l r,c=(none,l,r)/\l<=k/\(∀ i,i < l->Vk val #[Ch] (lo+i)<=Vk val #[Ch] (lo+k))/\(∀ i,l<=i->i < k->Vk val #[Ch] (lo+k) < Vk val #[Ch] (lo+i))) ?istep ?ifin ?iinit) ?ipost)
  case iinit=>(exact⟨rfl,0,k,rfl,#[O],#[O],#[O],fun i hi=>by lia,fun i h1 h2=>by lia⟩)
  case ifin =>
   (rintro c pJ ⟨rfl,l,r,rfl,Ae,Ht,hm,rY,Af⟩)
   have:l=r:=by lia
   subst this
   (exact⟨rfl,l,l,rfl,Ht,rY,Af⟩)
  case istep =>
   (rintro x c pJ _ hxk ⟨rfl,l,r,rfl,Ae,Ht,hm,rY,Af⟩)
   dsimp only;by_cases pO:l>=r
   ·rw [if_pos pO];have:l=r:=by lia
    subst this
    (exact aT ⟨rfl,l,l,rfl,Ht,rY,Af⟩)
   ·rw [if_neg pO];refine aQ (zfJ hC p6.b hk #[O] ?_);by_cases oY:Vk val #[SK] (lo+k) < Vk val #[SK] (lo+(l+r) / 2)
    ·(simp only [oY,decide_true,if_true])
     (refine aT ⟨rfl,l,(l+r) / 2,rfl,#[O],#[O],#[O],rY,fun i h1 h2=>?_⟩)
     exact Int.lt_of_lt_of_le oY (pF _ _ #[O] #[O] #[O])
    ·(simp only [oY,decide_false,ck,if_false])
     (refine aT ⟨rfl,(l+r) / 2+1,r,rfl,#[O],#[O],#[O],fun i h1=>?_,Af⟩)
     exact cW (pF (lo+i) (lo+(l+r) / 2) #[O] #[O] #[O]) (Int.not_lt.mp oY)
  case ipost =>
   (rintro c pJ ⟨rfl,l,r,rfl,hlk,rY,Af⟩)
   show wpS _ _ _ _ (do moveDown' (lo+k) (lo+l); pure (dP (none,()))) _ _;rw [moveDown'_eq];have Hu:lo+k < #[SK].size:=by rw [p6.b.size]; exact hk
   refine aQ (gQ (aT ⟨rfl,p6.setArr (bubble_perm _ _ _) (zjw Hu #[O] #[O]),?_⟩))
   (rw [show min (k+1) n=k+1 by lia])
   intro i j uf rf hj;show Vk val (bubble #[SK] (lo+k) (lo+k - (lo+l))) i<=Vk val (bubble #[SK] (lo+k) (lo+k - (lo+l))) j;rw [ziv Hu #[O],ziv Hu #[O],show lo+k - (lo+k - (lo+l))=lo+l by lia];have Hv:∀ i,lo<=i->i < lo+l->Vk val #[SK] i<=Vk val #[SK] (lo+k):=fun i h1 h2=>by
    have:=rY (i - lo) #[O]
    rwa [show lo+(i - lo)=i by lia] at this
   have Hw:∀ i,lo+l<=i->i < lo+k->Vk val #[SK] (lo+k) < Vk val #[SK] i:=fun i h1 h2=>by
    have:=Af (i - lo) #[O] #[O]
    rwa [show lo+(i - lo)=i by lia] at this
   repeat' split
   all_goals first
    | (exfalso; lia)
    | exact dz _
    | exact Hv _ #[O] #[O]
    | exact gL (Hw _ #[O] #[O])
    | exact pF _ _ #[O] #[O] #[O]
end
end Srt
end
section
namespace Srt
open PySem PyProof.Rows
variable {A:Around} {M:Model} {arr:Array Keyed} {j:Nat} {key:Keyed} {s:Shared}
noncomputable def zoH:Bool->Keyed->Array Keyed->Nat->Nat->Nat->StateT SortSt Sem #[OE]:=sortPriv% PySem.Builtin.gallop
noncomputable def zm1:Array Keyed->Array Keyed->StateT SortSt Sem (Array Keyed):=sortPriv% PySem.Builtin.mergeLo
noncomputable def zm2:Array Keyed->Array Keyed->StateT SortSt Sem (Array Keyed):=sortPriv% PySem.Builtin.mergeHi
noncomputable def zdF:Nat->StateT SortSt Sem Unit:=sortPriv% PySem.Builtin.setMinGallop
theorem zhm {E:Value->Shared->Prop} {α:Type} {m:StateT SortSt Sem α} {Q:α->SortSt->Prop} {st:SortSt} (h:wpAny M A (m st) (fun r s'=>s'=s/\Q r.1 r.2) E s):wpS M A E s m Q st:=h
theorem zhn {E:Value->Shared->Prop} {α:Type} {m:StateT SortSt Sem α} {Q:α->SortSt->Prop} {st:SortSt} (h:wpS M A E s m Q st):wpAny M A (m st) (fun r s'=>s'=s/\Q r.1 r.2) E s:=h
section
variable {prog:Program} {w:World} {A:Around} {E:Value->Shared->Prop} {s:Shared} {a₀:Array Keyed} {κ:SortKind} {val:Keyed->Int}
noncomputable def bB (val:Keyed->Int) (left:Bool) (key:Keyed) (arr:Array Keyed) (base i:Nat):Bool:=if left then decide (Vk val arr (base+i) < val key) else !decide (val key < Vk val arr (base+i))
theorem zdW {left:Bool} {base n i:Nat} (hs:SIn val arr base (base+n)) (rf:i<=j) (hj:j < n) (h:bB val left key arr base j=true):bB val left key arr base i=true:=by
 have:=hs (base+i) (base+j) #[O] #[O] #[O];unfold bB at h |-;cases left <;> simp at h |- <;> lia
theorem zda {st:SortSt} {left:Bool} {base i:Nat} {Q:Option Bool->SortSt->Prop} {p:Keyed} (hC:Cmp prog w A s κ val a₀) (hk:kindOf st=κ) (qr:key∈a₀.toList) (he:arr[base+i]? = some p) (hp:p∈a₀.toList)
  (h:Q (some (bB val left key arr base i)) st):wpS #[ss] A E s (do
   let x <- elem' arr (base+i)
   if left then lt' x key else do
    let r <- lt' key x
    return r.map (!·)) Q st:=by
 refine aQ (zaa he ?_);unfold bB at h;rw [zae he] at h;cases left with
 | true=>exact zmY hC hk hp qr h
 | false=>exact aQ (zmY hC hk qr hp (aT h))
abbrev zoI:=Option #[OE]×Nat×Nat
theorem zm3 {st:SortSt} {left:Bool} {base n lo hi:Nat} {f:Nat->zoI->StateT SortSt Sem (ForInStep zoI)} (hs:SIn val arr base (base+n)) (hlh:lo<=hi) (hhn:hi<=n)
  (h1:∀ i,i < lo->bB val left key arr base i=true) (h2:∀ i,hi<=i->i < n->bB val left key arr base i=false)
  (hf:∀ (x l r:Nat) (R:ForInStep zoI->SortSt->Prop),r<=n->(l>=r->R (.done (none,l,r)) st)->(l < r->R (if bB val left key arr base (l+(r - l) / 2)=true then .yield (none,l+(r - l) / 2+1,r) else .yield (none,l,l+(r - l) / 2)) st)->wpS #[ss] A E s (f x (none,l,r)) R st) :
  wpS #[ss] A E s (forIn [0:n] ((none,lo,hi):zoI) f) (fun c nU=>nU=st/\∃ l,c=(none,l,l)/\l<=n/\(∀ i,i < l->bB val left key arr base i=true)/\(∀ i,l<=i->i < n->bB val left key arr base i=false)) st:=by
 refine d6 (I:=fun x c nU=>nU=st/\∃ l r,c=(none,l,r)/\l<=r/\r<=n/\r - l<=n - x/\(∀ i,i < l->bB val left key arr base i=true)/\(∀ i,r<=i->i < n->bB val left key arr base i=false)) ?step ?fin ⟨rfl,lo,hi,rfl,hlh,hhn,#[O],h1,h2⟩
 case fin =>
  rintro c nU ⟨rfl,l,r,rfl,Ae,BU,hm,a1,a2⟩;have:l=r:=by lia
  subst this;exact⟨rfl,l,rfl,BU,a1,a2⟩
 case step =>
  rintro x c nU _ FD ⟨rfl,l,r,rfl,Ae,BU,hm,a1,a2⟩;refine hf x l r _ BU #[U4] #[U5]
  ·have:l=r:=by lia
   subst this;exact⟨rfl,l,rfl,BU,a1,a2⟩
  ·cases hb:bB val left key arr base (l+(r - l) / 2) with
   | true =>
    rw [if_pos rfl];exact⟨rfl,l+(r - l) / 2+1,r,rfl,#[O],BU,#[O],fun i hi=>zdW hs #[O] #[O] hb,a2⟩
   | false =>
    rw [if_neg #[D]];refine⟨rfl,l,l+(r - l) / 2,rfl,#[O],#[O],#[O],a1,fun i hi vK=>?_⟩;cases e:bB val left key arr base i with
    | false=>rfl
    | true=>rw [zdW hs hi vK e] at hb; cases hb
theorem zbK {st:SortSt} {left:Bool} {base n hint:Nat} {Q:Option Nat->SortSt->Prop} (hC:Cmp prog w A s κ val a₀) (hk:kindOf st=κ) (qr:key∈a₀.toList)
  (ha:∀ i,i < n->∃ p,arr[base+i]? = some p/\p∈a₀.toList) (hs:SIn val arr base (base+n)) (hh:hint < n)
  (h:∀ k,k<=n->(∀ i,i < k->bB val left key arr base i=true)->(∀ i,k<=i->i < n->bB val left key arr base i=false)->Q (some k) st) :
  wpS #[ss] A E s (zoH left key arr base n hint) Q st:=by
 refine zhm ?_
 wp_delta
 wp_delta
 refine zhn ?_;dsimp only;obtain⟨p,ep,mp⟩:=ha hint hh;refine aQ #[P6];dsimp only;have up:∀ {i j:Nat},i<=j->j < n->bB val left key arr base i=false->bB val left key arr base j=false:=fun {i j} rf hj h=>by
  cases e:bB val left key arr base j with
  | false=>rfl
  | true=>rw [zdW hs rf hj e] at h; cases h
 cases hr:bB val left key arr base hint with
 | true =>
  simp only [if_true];refine aQ (fI (d6 (I:=fun x c nU=>nU=st/\∃ l o,c=(none,l,o)/\l < o/\x+1<=o/\hint+l < n/\bB val left key arr base (hint+l)=true)
   (Q:=fun c nU=>nU=st/\∃ l o,c=(none,l,o)/\l < o/\hint+l < n/\bB val left key arr base (hint+l)=true/\(hint+o < n->bB val left key arr base (hint+o)=false)) ?step ?fin ⟨rfl,0,1,rfl,#[O],#[O],hh,hr⟩) ?post)
  case fin =>
   rintro c nU ⟨rfl,l,o,rfl,rY,hx,hl,hb⟩;exact⟨rfl,l,o,rfl,rY,hl,hb,fun z=>by lia⟩
  case step =>
   rintro x c nU _ FD ⟨rfl,l,o,rfl,rY,hx,hl,hb⟩;dsimp only;by_cases pO:o>=n - hint
   ·rw [if_pos pO];exact aT ⟨rfl,l,o,rfl,rY,hl,hb,fun z=>by lia⟩
   ·rw [if_neg pO];obtain⟨p,ep,mp⟩:=ha (hint+o) #[O];refine aQ #[P6];dsimp only;cases uU:bB val left key arr base (hint+o) with
    | true =>
     rw [if_neg #[D]];exact aT ⟨rfl,o,2*o+1,rfl,#[O],#[O],#[O],uU⟩
    | false =>
     rw [if_pos #[D]];exact aT ⟨rfl,l,o,rfl,rY,hl,hb,fun _=>uU⟩
  case post =>
   rintro c nU ⟨rfl,l,o,rfl,rY,hl,hb,uU⟩;dsimp only;refine aQ (fI (zm3 (val:=val) (left:=left) (key:=key) (arr:=arr) (base:=base) hs #[O] #[O] (fun i hi=>zdW hs #[O] hl hb) (fun i hi vK=>(by
    by_cases ho:hint+o < n
    ·exact up #[O] vK (uU ho)
    ·lia)) #[We]) ?_)
   ·dsimp only;by_cases pO:l'>=r'
    ·rw [if_pos pO];exact aT (k1 pO)
    ·rw [if_neg pO];obtain⟨p,ep,mp⟩:=ha (l'+(r' - l') / 2) #[O];refine aQ #[P6];have k3:=k2 #[O];dsimp only;cases CY:bB val left key arr base (l'+(r' - l') / 2) with
     | true=>rw [CY] at k3; rw [if_pos rfl] at k3 |-; exact aT k3
     | false=>rw [CY] at k3; rw [if_neg #[D]] at k3 |-; exact aT k3
   ·rintro c pJ ⟨rfl,l,rfl,hl,b1,b2⟩;exact aT (h l hl b1 b2)
 | false =>
  (simp only [ck,if_false])
  refine aQ (fI (d6 (I:=fun x c nU=>nU=st/\∃ l o,c=(none,l,o)/\l < o/\x+1<=o/\l<=hint/\bB val left key arr base (hint - l)=false)
   (Q:=fun c nU=>nU=st/\∃ l o,c=(none,l,o)/\l < o/\l<=hint/\bB val left key arr base (hint - l)=false/\(o<=hint->bB val left key arr base (hint - o)=true)) ?step ?fin ⟨rfl,0,1,rfl,#[O],#[O],#[O],hr⟩) ?post)
  case fin =>
   rintro c nU ⟨rfl,l,o,rfl,rY,hx,hl,hb⟩;exact⟨rfl,l,o,rfl,rY,hl,hb,fun z=>by lia⟩
  case step =>
   rintro x c nU _ FD ⟨rfl,l,o,rfl,rY,hx,hl,hb⟩;dsimp only;by_cases pO:o>=hint+1
   ·rw [if_pos pO];exact aT ⟨rfl,l,o,rfl,rY,hl,hb,fun z=>by lia⟩
   ·rw [if_neg pO];obtain⟨p,ep,mp⟩:=ha (hint - o) #[O];refine aQ #[P6];dsimp only;cases uU:bB val left key arr base (hint - o) with
    | false =>
     rw [if_neg #[D]];exact aT ⟨rfl,o,2*o+1,rfl,#[O],#[O],#[O],uU⟩
    | true =>
     rw [if_pos rfl];exact aT ⟨rfl,l,o,rfl,rY,hl,hb,fun _=>uU⟩
  case post =>
   rintro c nU ⟨rfl,l,o,rfl,rY,hl,hb,uU⟩;dsimp only;refine aQ (fI (zm3 (val:=val) (left:=left) (key:=key) (arr:=arr) (base:=base) hs #[O] #[O] (fun i hi=>(by
    by_cases ho:o<=hint
    ·exact zdW hs #[O] #[O] (uU ho)
    ·lia)) (fun i hi vK=>up hi vK hb) #[We]) ?_)
   ·dsimp only;by_cases pO:l'>=r'
    ·rw [if_pos pO];exact aT (k1 pO)
    ·rw [if_neg pO];obtain⟨p,ep,mp⟩:=ha (l'+(r' - l') / 2) #[O];refine aQ #[P6];have k3:=k2 #[O];dsimp only;cases CY:bB val left key arr base (l'+(r' - l') / 2) with
     | true=>rw [CY] at k3; rw [if_pos rfl] at k3 |-; exact aT k3
     | false=>rw [CY] at k3; rw [if_neg #[D]] at k3 |-; exact aT k3
   ·rintro c pJ ⟨rfl,l,rfl,hl,b1,b2⟩;exact aT (h l hl b1 b2)
end
end Srt
end
section
namespace Srt
open PySem PyProof.Rows
variable {k:Nat}
abbrev zaG (st:SortSt) (g:Nat):SortSt:=m5 (kindOf st) #[wn] #[R0] g (failedOf st)
theorem zeu (g:Nat):zdF g=modify fun s=>zaG s g:=rfl
noncomputable def Le (val:Keyed->Int) (xs ys:List Keyed):Prop:=∀ x∈xs,∀ y∈ys,val x<=val y
noncomputable def Ris (val:Keyed->Int) (xs:List Keyed):Prop:=xs.Pairwise fun x y=>val x<=val y
theorem zaS {val:Keyed->Int} {xs ys:List Keyed}:Ris val (xs++ys)↔Ris val xs/\Ris val ys/\Le val xs ys:=k8
structure MI (val:Keyed->Int) (T o l r:List Keyed):Prop where
 perm:(o++l++r).Perm T
 so:Ris val o
 sl:Ris val l
 sr:Ris val r
 ol:Le val o l
 or':Le val o r
noncomputable def Good (val:Keyed->Int) (T res:List Keyed):Prop:=res.Perm T/\Ris val res
section
variable {val:Keyed->Int} {T o l l1 l2 r r1 r2:List Keyed}
theorem Le.left {xs ys zs:List Keyed} (h:Le val (xs++ys) zs):Le val xs zs:=fun x hx y hy=>h x (bS _ hx) y hy
theorem Le.right {xs ys zs:List Keyed} (h:Le val (xs++ys) zs):Le val ys zs:=fun x hx y hy=>h x (bG _ hx) y hy
theorem Le.app {xs ys zs:List Keyed} (h1:Le val xs zs) (h2:Le val ys zs):Le val (xs++ys) zs:=fun x hx y hy=>by
 rcases bO.mp hx with h | h
 ·exact h1 x h y hy
 ·exact h2 x h y hy
theorem Le.N0 {xs ys zs:List Keyed} (h1:Le val xs ys) (h2:Le val xs zs):Le val xs (ys++zs):=fun x hx y hy=>by
 rcases bO.mp hy with h | h
 ·exact h1 x hx y h
 ·exact h2 x hx y h
theorem Le.sub {xs ys zs:List Keyed} (h1:Le val xs (ys++zs)):Le val xs ys/\Le val xs zs:=⟨fun x hx y hy=>h1 x hx y (bS _ hy),fun x hx y hy=>h1 x hx y (bG _ hy)⟩
theorem MI.Mb (h:MI val T o (l1++l2) r) (hle:Le val l1 r):MI val T (o++l1) l2 r:=by
 obtain⟨a1,a2,a3⟩:=zaS.mp h.sl;obtain⟨b1,b2⟩:=h.ol.sub;exact⟨by have:=h.perm; simpa [cH] using this,zaS.mpr ⟨h.so,a1,b1⟩,a2,h.sr,b2.app a3,h.or'.app hle⟩
theorem MI.LM (h:MI val T o l (r1++r2)) (hle:Le val r1 l):MI val T (o++r1) l r2:=by
 obtain⟨a1,a2,a3⟩:=zaS.mp h.sr;obtain⟨b1,b2⟩:=h.or'.sub;refine⟨?_,zaS.mpr ⟨h.so,a1,b1⟩,h.sl,a2,h.ol.app hle,b2.app a3⟩;refine ic ?_ h.perm;have:(r1++l++r2).Perm (l++r1++r2):=List.perm_append_comm.append_right _;simpa [cH] using this.append_left o
theorem MI.Lz (h:MI val T o l []):Good val T (o++l):=⟨by have:=h.perm; simpa using this,zaS.mpr ⟨h.so,h.sl,h.ol⟩⟩
theorem MI.Ly (h:MI val T o [] r):Good val T (o++r):=⟨by have:=h.perm; simpa using this,zaS.mpr ⟨h.so,h.sr,h.or'⟩⟩
theorem MI.last (h:MI val T o l r) (hle:Le val r l):Good val T (o++r++l):=by
 refine⟨ic ?_ h.perm,?_⟩
 ·rw [cH,cH];exact List.perm_append_comm.append_left o
 ·exact zaS.mpr ⟨zaS.mpr ⟨h.so,h.sr,h.or'⟩,h.sl,h.ol.app hle⟩
end
section
variable {val:Keyed->Int} {T:List Keyed} {a b out:Array Keyed} {ia ib:Nat}
abbrev MA (val:Keyed->Int) (T:List Keyed) (a b out:Array Keyed) (ia ib:Nat):Prop:=MI val T out.toList (a.toList.drop ia) (b.toList.drop ib)
theorem ze5 {xs:Array Keyed} {i:Nat} {p:Keyed} (h:xs[i]? = some p):xs.toList.drop i=p :: xs.toList.drop (i+1):=by
 have hi:i < xs.toList.length:=by
  have:=(eP.mp h).1;simpa using this
 rw [dQ hi];congr 1;have:=(eP.mp h).2;simpa using this
theorem zdX {xs:Array Keyed} (h:SIn val xs 0 xs.size):∀ i,Ris val #[Qv]:=by
 have all:Ris val xs.toList:=by
  unfold Ris
  (rw [dR])
  intro i j hi hj rf
  (have pT:i < xs.size:=by simpa using hi)
  (have qu:j < xs.size:=by simpa using hj)
  have:=h i j (bW _) #[O] qu;rw [zae (getElem?_pos xs i pT),zae (getElem?_pos xs j qu)] at this;simpa using this
 exact fun i=>i7 (List.drop_sublist _ _) all
theorem ze6 {xs:Array Keyed} {i:Nat} {p q:Keyed} (h:SIn val xs 0 xs.size) (hp:xs[i]? = some p) (hq:q∈xs.toList.drop i):val p<=val q:=by
 have:=zdX h i;rw [ze5 hp] at this hq;rcases (aV.mp hq) with rfl | hq
 ·exact dz _
 ·exact List.rel_of_pairwise_cons this hq
theorem MA.ME {y x:Keyed} (h:MA val T a b out ia ib) (sa:SIn val a 0 a.size) (hy:b[ib]? = some y) (hx:a[ia]? = some x) (hle:val y<=val x):MA val T a b (out.push y) ia (ib+1):=by
 unfold MA at h |-;rw [ze5 hy] at h;have:=MI.LM (r1:=[y]) h fun p hp q hq=>by
  rw [bD.mp hp];exact cW hle (ze6 sa hx hq)
 simpa using this
theorem MA.LC {y x:Keyed} (h:MA val T a b out ia ib) (sb:SIn val b 0 b.size) (hy:b[ib]? = some y) (hx:a[ia]? = some x) (hle:val x<=val y):MA val T a b (out.push x) (ia+1) ib:=by
 unfold MA at h |-;rw [ze5 hx] at h;have:=MI.Mb (l1:=[x]) h fun p hp q hq=>by
  rw [bD.mp hp];exact cW hle (ze6 sb hy hq)
 simpa using this
theorem zm4 (xs:Array Keyed) (i k:Nat):xs.toList.drop i=#[UA].toList++xs.toList.drop (i+k):=by
 rw [fu];have:(xs.toList.extract i (i+k))=#[Qv].take k:=by
  simp [fc] <;> lia
 rw [this,<- kM,dh]
theorem ze7 {xs:Array Keyed} {i:Nat} {p:Keyed} (h:p∈#[UA].toList):∃ j,j < k/\xs[i+j]? = some p:=by
 have e0:#[UA].toList=#[Qv].take k:=by
  rw [fu];simp [fc] <;> lia
 rw [e0] at h
 (obtain⟨j,hj,e⟩:=gh h)
 have uV:j < k/\j < #[Qv].length:=by
  rw [aU] at hj;lia
 refine⟨j,uV.1,?_⟩;rw [<- cB,<- ip,aG uV.2,<- e,mi]
theorem MA.Mb {y:Keyed} (h:MA val T a b out ia ib) (sb:SIn val b 0 b.size) (hy:b[ib]? = some y) (hle:∀ i,i < k->Vk val a (ia+i)<=val y):MA val T a b (out++a.extract ia (ia+k)) (ia+k) ib:=by
 unfold MA at h |-;rw [zm4 a ia k] at h;have:=MI.Mb h fun p hp q hq=>by
  obtain⟨j,hj,e⟩:=ze7 hp;have:=hle j hj;rw [zae e] at this;exact cW this (ze6 sb hy hq)
 simpa using this
theorem MA.LM {x:Keyed} (h:MA val T a b out ia ib) (sa:SIn val a 0 a.size) (hx:a[ia]? = some x) (hle:∀ i,i < k->Vk val b (ib+i)<=val x):MA val T a b (out++b.extract ib (ib+k)) ia (ib+k):=by
 unfold MA at h |-;rw [zm4 b ib k] at h;have:=MI.LM h fun p hp q hq=>by
  obtain⟨j,hj,e⟩:=ze7 hp;have:=hle j hj;rw [zae e] at this;exact cW this (ze6 sa hx hq)
 simpa using this
theorem zdl (xs:Array Keyed) (i:Nat):(xs.extract i xs.size).toList=xs.toList.drop i:=by
 rw [fu];simp only [fc]
 (exact aY #[M])
theorem MA.Ly (h:MA val T a b out ia ib) (e:ib=b.size):Good val T (out++a.extract ia a.size++b.extract ib b.size).toList:=by
 unfold MA at h;rw [show b.toList.drop ib = [] from fL (by simp [e])] at h;have:=h.Lz;rw [cU,cU,zdl,zdl,show b.toList.drop ib = [] from fL (by simp [e]),cZ];exact this
theorem MA.Lz (h:MA val T a b out ia ib) (e:ia=a.size):Good val T (out++a.extract ia a.size++b.extract ib b.size).toList:=by
 unfold MA at h;rw [show a.toList.drop ia = [] from fL (by simp [e])] at h;have:=h.Ly;rw [cU,cU,zdl,zdl,show a.toList.drop ia = [] from fL (by simp [e]),cZ];exact this
theorem MA.last (h:MA val T a b out ia ib) (e:ia+1=a.size) (hl:∀ i,i < b.size->Vk val b i<=Vk val a (a.size - 1)):Good val T (out++b.extract ib b.size++a.extract ia a.size).toList:=by
 unfold MA at h;have hx:a[ia]? = some (a[ia]'#[O]):=getElem?_pos a ia #[O];have:=h.last fun p hp q hq=>by
  rw [ze5 hx,show a.toList.drop (ia+1) = [] from fL (by simp [e])] at hq;rw [bD.mp hq];obtain⟨j,hj,ej⟩:=gh (f8 hp);have qu:j < b.size:=by simpa using hj
  have:=hl j qu;rw [zae (getElem?_pos b j qu),show a.size - 1=ia by lia,zae hx] at this;rw [<- ej];simpa using this
 rw [cU,cU,zdl,zdl];exact this
end
end Srt
end
section
namespace Srt
open PySem PyProof.Rows
variable {M:Model} {arr:Array Keyed} {key:Keyed}
section
variable {prog:Program} {w:World} {A:Around} {E:Value->Shared->Prop} {s:Shared} {a₀:Array Keyed} {κ:SortKind} {val:Keyed->Int}
theorem zdY {st:SortSt} {g:Nat} {Q:Unit->SortSt->Prop} (h:Q () (zaG st g)):wpS #[ss] A E s (zdF g) Q st:=by
 rw [zeu];exact gQ h
theorem zaQ {g:Prop} {xs:Array Keyed} {i:Nat} (h:i < xs.size) (k:∀ p,xs[i]? = some p->p∈xs.toList->g):g:=k _ (getElem?_pos xs i h) #[M]
theorem zcP {base i:Nat} (h:bB val true key arr base i=true):Vk val arr (base+i) < val key:=by
 unfold bB at h;simpa using h
theorem zdZ {base i:Nat} (h:bB val false key arr base i=true):Vk val arr (base+i)<=val key:=by
 unfold bB at h;simp at h;lia
theorem zdJ {base i:Nat} (h:bB val true key arr base i=false):val key<=Vk val arr (base+i):=by
 unfold bB at h;simp at h;lia
theorem ze8 {base i:Nat} (h:bB val false key arr base i=false):val key < Vk val arr (base+i):=by
 unfold bB at h;simp at h;exact h
theorem SIn.sub {xs:Array Keyed} {lo hi lo' pT:Nat} (h:SIn val xs lo hi) (h1:lo<=lo') (h2:pT<=hi):SIn val xs lo' pT:=fun i j a b c=>h i j #[O] b #[O]
theorem zL {σ α:Type} {c:Prop} {inst:Decidable c} {x y:StateT σ Sem α} {Q:α->σ->Prop} {st:σ} (h:c) (k:wpS M A E s x Q st):wpS M A E s #[T8] Q st:=by rw [if_pos h]; exact k
theorem zM {σ α:Type} {c:Prop} {inst:Decidable c} {x y:StateT σ Sem α} {Q:α->σ->Prop} {st:σ} (h:¬ c) (k:wpS M A E s y Q st):wpS M A E s #[T8] Q st:=by rw [if_neg h]; exact k
theorem dup {P X:Prop} (h:P->P->X) (k:P):X:=h k k
theorem zr6 {P X:Prop} (h:(Unit->P)->(Unit->P)->X) (k:P):X:=h (fun _=>k) (fun _=>k)
theorem fr5 {σ β A1 A2 A3 A4 A5:Type} {lo hi:Nat} {f:Nat->β->StateT σ Sem (ForInStep β)} {Q:β->σ->Prop} {c:β} {st:σ} (vN:A1->A2->A3->A4->A5->β) (xS:A1->A2->A3->A4->A5->σ) (J:Nat->A1->A2->A3->A4->A5->Prop) (start:∃ a1 a2 a3 a4 a5,st=xS a1 a2 a3 a4 a5/\c=vN a1 a2 a3 a4 a5/\J lo a1 a2 a3 a4 a5) (fin:∀ a1 a2 a3 a4 a5,J (max lo hi) a1 a2 a3 a4 a5->Q #[T3] (xS a1 a2 a3 a4 a5))
  (step:∀ x a1 a2 a3 a4 a5,lo<=x->x < hi->J x a1 a2 a3 a4 a5->wpS M A E s (f x #[T3]) (fun r nU=>match r with | .done c'=>Q c' nU | .yield c'=>∃ a1 a2 a3 a4 a5,nU=xS a1 a2 a3 a4 a5/\c'=vN a1 a2 a3 a4 a5/\J (x+1) a1 a2 a3 a4 a5) (xS a1 a2 a3 a4 a5)):wpS M A E s (forIn [lo:hi] c f) Q st:=by
 refine d6 (I:=fun x c nU=>∃ a1 a2 a3 a4 a5,nU=xS a1 a2 a3 a4 a5/\c=vN a1 a2 a3 a4 a5/\J x a1 a2 a3 a4 a5) ?_ ?_ start
 ·rintro x c nU h1 h2 ⟨a1,a2,a3,a4,a5,rfl,rfl,j⟩;exact step x _ _ _ _ _ h1 h2 j
 ·rintro c nU ⟨a1,a2,a3,a4,a5,rfl,rfl,j⟩;exact fin _ _ _ _ _ j
theorem fr7 {σ β A1 A2 A3 A4 A5 A6 A7:Type} {lo hi:Nat} {f:Nat->β->StateT σ Sem (ForInStep β)} {Q:β->σ->Prop} {c:β} {st:σ} (vN:A1->A2->A3->A4->A5->A6->A7->β) (xS:A1->A2->A3->A4->A5->A6->A7->σ) (J:Nat->A1->A2->A3->A4->A5->A6->A7->Prop) (start:∃ a1 a2 a3 a4 a5 a6 a7,st=xS a1 a2 a3 a4 a5 a6 a7/\c=vN a1 a2 a3 a4 a5 a6 a7/\J lo a1 a2 a3 a4 a5 a6 a7) (fin:∀ a1 a2 a3 a4 a5 a6 a7,J (max lo hi) a1 a2 a3 a4 a5 a6 a7->Q #[Wk] #[Wj])
  (step:∀ x a1 a2 a3 a4 a5 a6 a7,lo<=x->x < hi->J x a1 a2 a3 a4 a5 a6 a7->wpS M A E s (f x #[Wk]) (fun r nU=>match r with | .done c'=>Q c' nU | .yield c'=>∃ a1 a2 a3 a4 a5 a6 a7,nU=xS a1 a2 a3 a4 a5 a6 a7/\c'=vN a1 a2 a3 a4 a5 a6 a7/\J (x+1) a1 a2 a3 a4 a5 a6 a7) #[Wj]):wpS M A E s (forIn [lo:hi] c f) Q st:=by
 refine d6 (I:=fun x c nU=>∃ a1 a2 a3 a4 a5 a6 a7,nU=xS a1 a2 a3 a4 a5 a6 a7/\c=vN a1 a2 a3 a4 a5 a6 a7/\J x a1 a2 a3 a4 a5 a6 a7) ?_ ?_ start
 ·rintro x c nU h1 h2 ⟨a1,a2,a3,a4,a5,a6,a7,rfl,rfl,j⟩;exact step x _ _ _ _ _ _ _ h1 h2 j
 ·rintro c nU ⟨a1,a2,a3,a4,a5,a6,a7,rfl,rfl,j⟩;exact fin _ _ _ _ _ _ _ j
theorem zpG {σ α γ δ A1 A2 A3 A4 A5:Type} {x:StateT σ Sem (Option γ×δ)} {k:Option γ×δ->StateT σ Sem α} {R:α->σ->Prop} {st:σ} (vN:A1->A2->A3->A4->A5->Option γ×δ) (G:γ->Prop) (J:A1->A2->A3->A4->A5->Prop) (Hx:σ) (hx:wpS M A E s x (fun c nU=>nU=Hx/\((∃ r o,c=(some r,o)/\G r)\/∃ a1 a2 a3 a4 a5,c=vN a1 a2 a3 a4 a5/\J a1 a2 a3 a4 a5)) st) (h1:∀ r o,G r->wpS M A E s (k (some r,o)) R Hx) (h:∀ a1 a2 a3 a4 a5,J a1 a2 a3 a4 a5->wpS M A E s (k #[T3]) R Hx):wpS M A E s (x >>= k) R st:=by
 refine aQ (fI hx ?_);rintro c nU ⟨rfl,⟨r,o,rfl,g⟩ | ⟨a1,a2,a3,a4,a5,rfl,j⟩⟩
 ·exact h1 _ _ g
 ·exact h _ _ _ _ _ j
theorem zbp {σ α:Type} {c:Prop} {inst:Decidable c} {x y:StateT σ Sem α} {Q:α->σ->Prop} {st:σ} (h:c->wpS M A E s x Q st) (k:¬ c->wpS M A E s y Q st):wpS M A E s #[T8] Q st:=by
 by_cases hc:c
 ·rw [if_pos hc]; exact h hc
 ·rw [if_neg hc]; exact k hc
theorem zls {st:SortSt} {a b:Array Keyed} {Q:Array Keyed->SortSt->Prop} (hC:Cmp prog w A s κ val a₀) (hk:kindOf st=κ) (ma:∀ p∈a.toList,p∈a₀.toList) (mb:∀ p∈b.toList,p∈a₀.toList)
  (sa:SIn val a 0 a.size) (sb:SIn val b 0 b.size) (h1:1<=a.size) (h2:1<=b.size) (hf:Vk val b 0<=Vk val a 0) (hl:∀ i,i < b.size->Vk val b i<=Vk val a (a.size - 1))
  (h:∀ out g,Good val #[wE] out.toList->Q out (zaG st g)):wpS #[ss] A E s (zm1 a b) Q st:=by
 refine zhm ?_
 wp_delta
 wp_delta
 refine zhn ?_
 (refine aQ #[PN])
 refine zaQ (xs:=b) (i:=0) #[O] fun y0 yM Hy=>?_
 refine zaQ (xs:=a) (i:=0) #[O] fun x0 yN Hz=>?_
 refine aQ (zaa yM ?_);have I0:MA val #[wE] a b #[] 0 0:=⟨#[M],jI,zdX sa 0,zdX sb 0,fun x hx=>by simp at hx,fun x hx=>by simp at hx⟩;have I1:MA val #[wE] a b #[y0] 0 1:=I0.ME sa yM yN (by rw [zae yM,zae yN] at hf; exact hf);dsimp only;by_cases ql:1=b.size
 ·refine zL (by simpa using ql) ?_;exact aT (h _ #[Tl] (I1.Ly ql))
 refine zM (by simpa using ql) ?_;by_cases xp:0+1=a.size
 ·refine zL (by simpa using xp) ?_;exact aT (h _ #[Tl] (I1.last #[O] hl))
 refine zM (by simpa using xp) ?_;refine aQ (iD ?_);refine aQ (fI (fr5 (fun g out ia ib mg=>(none,out,ia,ib,mg)) (fun g out ia ib mg=>zaG st g) (fun x g out ia ib mg=>MA val #[wE] a b out ia ib/\ia+1 < a.size/\ib < b.size/\x+1<=ia+ib)
  (Q:=fun c nU=>∃ g r o,nU=zaG st g/\c=(some r,o)/\Good val #[wE] r.toList) ⟨gallopOf st,#[y0],0,1,gallopOf st,rfl,rfl,I1,#[O],#[O],#[O]⟩ ?fin ?step) ?post)
 case post =>
  rintro c nU ⟨g,r,o,rfl,rfl,hG⟩;exact aT (h _ g hG)
 case fin =>
  rintro g out ia ib mg ⟨hI,b1,b2,b3⟩;lia
 case step =>
  intro x g out ia ib mg HA hx J;have hI:=J.1;have b1:=J.2.1;have b2:=J.2.2.1;have b3:=J.2.2.2;dsimp only;refine zpG #[UU] #[Vl] (fun n8 oZ oV ac bc=>MA val #[wE] a b n8 oZ oV/\oZ+1 < a.size/\oV < b.size/\ia+ib+1<=oZ+oV) (zaG st g) (fr5 #[UU] (fun n8 oZ oV ac bc=>zaG st g) (fun x n8 oZ oV ac bc=>MA val #[wE] a b n8 oZ oV/\oZ+1 < a.size/\oV < b.size/\ia+ib+x<=oZ+oV) ⟨out,ia,ib,0,0,rfl,rfl,hI,b1,b2,#[O]⟩ ?fin1 ?step1) #[Wm] ?post1
  case fin1 =>
   rintro n8 oZ oV ac bc ⟨hI,b1,b2,b3⟩;exact⟨rfl,.inr ⟨n8,oZ,oV,ac,bc,rfl,hI,b1,b2,#[O]⟩⟩
  case step1 =>
   intro x1 n8 oZ oV ac bc HB vd J;have hI:=J.1;have b1:=J.2.1;have b2:=J.2.2.1;have b3:=J.2.2.2;dsimp only;refine zaQ (xs:=b) (i:=oV) #[O] fun y ey my=>?_
   refine zaQ (xs:=a) (i:=oZ) #[O] fun z ez mz=>?_
   refine aQ #[RB];dsimp only;by_cases DS:val y < val z
   ·refine zL (by simpa using DS) ?_;refine aQ #[Ue];have qI:=hI.ME sa ey ez #[O];by_cases e1:oV+1=b.size
    ·refine zL (by simpa using e1) ?_;exact aT ⟨rfl,.inl ⟨_,_,rfl,qI.Ly e1⟩⟩
    refine zM (by simpa using e1) ?_;refine zbp #[BT] #[BT]
    ·exact aT ⟨rfl,.inr ⟨_,_,_,_,_,rfl,qI,b1,#[O],#[O]⟩⟩
    ·exact aT ⟨_,_,_,_,_,rfl,rfl,qI,b1,#[O],#[O]⟩
   ·refine zM (by simpa using DS) ?_;refine aQ #[Rs];have qI:=hI.LC sb ey ez #[O];by_cases e1:oZ+1+1=a.size
    ·refine zL (by simpa using e1) ?_;exact aT ⟨rfl,.inl ⟨_,_,rfl,qI.last e1 hl⟩⟩
    refine zM (by simpa using e1) ?_;refine zbp #[BT] #[BT]
    ·exact aT ⟨rfl,.inr ⟨_,_,_,_,_,rfl,qI,#[O],b2,#[O]⟩⟩
    ·exact aT ⟨_,_,_,_,_,rfl,rfl,qI,#[O],b2,#[O]⟩
  case post1 =>
   intro BV HC HD HE HF J;have HG:=J.1;have c1:=J.2.1;have c2:=J.2.2.1;have c3:=J.2.2.2;dsimp only
   (refine aQ #[PN])
   refine aQ (fI (fr7 (fun g n8 oZ oV mg ac bc=>(none,n8,oZ,oV,mg,ac,bc)) (fun g n8 oZ oV mg ac bc=>zaG st g) (fun x g n8 oZ oV mg ac bc=>MA val #[wE] a b n8 oZ oV/\oZ+1 < a.size/\oV < b.size/\HC+HD<=oZ+oV)
    (Q:=fun c nU=>∃ g,nU=zaG st g/\((∃ r o,c=(some r,o)/\Good val #[wE] r.toList)\/∃ n8 oZ oV mg ac bc,c=(none,n8,oZ,oV,mg,ac,bc)/\MA val #[wE] a b n8 oZ oV/\oZ+1 < a.size/\oV < b.size/\HC+HD<=oZ+oV)) ⟨g,BV,HC,HD,_,HE,HF,rfl,rfl,HG,c1,c2,aH _⟩ ?fin2 ?step2) ?post2)
   case fin2 =>
    rintro g n8 oZ oV mg ac bc ⟨hI,b1,b2,b3⟩;exact⟨g,rfl,.inr ⟨n8,oZ,oV,mg,ac,bc,rfl,hI,b1,b2,b3⟩⟩
   case post2 =>
    rintro c nU ⟨g,rfl,hc⟩;rcases hc with ⟨r,o,rfl,hG⟩ | ⟨BW,ia2,ib2,mg2,ac2,bc2,rfl,qI,d1,d2,d3⟩
    ·exact aT ⟨g,r,_,rfl,rfl,hG⟩
    dsimp only;refine aQ (zdY (aT ⟨_,BW,ia2,ib2,_,rfl,rfl,qI,d1,d2,#[O]⟩))
   case step2 =>
    intro x2 g n8 oZ oV BX ac bc vO wj J;have hI:=J.1;have b1:=J.2.1;have b2:=J.2.2.1;have b3:=J.2.2.2;dsimp only;refine zaQ (xs:=b) (i:=oV) #[O] fun y ey my=>?_
    apply dup
    ·intro k1 k2;by_cases vX:BX > 1
     ·refine zL vX ?_;clear vX;generalize BX - 1=m0
      revert m0
      exact k1
     ·refine zM vX ?_;clear vX;generalize BX=m0
      revert m0
      exact k2
    intro mg0;refine aQ (zdY (aQ (zaa ey (aQ (zbK hC hk (mb y my) (fun i hi=>(by
     refine zaQ (xs:=a) (i:=oZ+i) #[O] fun p ep mp=>?_
     exact⟨p,ep,ma p mp⟩)) (sa.sub #[O] #[O]) #[O] fun k FF ud Bc=>?_)))))
    dsimp only;have qI:=hI.Mb (k:=k) sb ey fun i hi=>zdZ (ud i hi)
    by_cases xo:k > 0
    ·refine zL xo ?_;by_cases e1:oZ+k+1=a.size
     ·refine zL (by simpa using e1) ?_;exact aT ⟨_,rfl,.inl ⟨_,_,rfl,qI.last e1 hl⟩⟩
     refine zM (by simpa using e1) ?_;by_cases e2:oZ+k=a.size
     ·refine zL (by simpa using e2) ?_;exact aT ⟨_,rfl,.inl ⟨_,_,rfl,qI.Lz e2⟩⟩
     refine zM (by simpa using e2) ?_;refine aQ #[Ue];refine zaQ (xs:=a) (i:=oZ+k) #[O] fun z ez mz=>?_
     have ve:=qI.ME sa ey ez (by have:=ze8 (Bc k (aH _) #[O]); rw [zae ez] at this; lia);by_cases e3:oV+1=b.size
     ·refine zL (by simpa using e3) ?_;exact aT ⟨_,rfl,.inl ⟨_,_,rfl,ve.Ly e3⟩⟩
     refine zM (by simpa using e3) ?_;refine aQ (zaa ez (aQ (zbK hC hk (ma z mz) (fun i hi=>(by
      refine zaQ (xs:=b) (i:=oV+1+i) #[O] fun p ep mp=>?_
      exact⟨p,ep,mb p mp⟩)) #[SN] #[O] fun j BS uV Ag=>?_)))
     dsimp only;have wm:=ve.LM (k:=j) sa ez fun i hi=>gL (zcP (uV i hi))
     by_cases vf:j > 0
     ·refine zL vf ?_;by_cases e4:oV+1+j=b.size
      ·refine zL (by simpa using e4) ?_;exact aT ⟨_,rfl,.inl ⟨_,_,rfl,wm.Ly e4⟩⟩
      refine zM (by simpa using e4) ?_;refine zaQ (xs:=b) (i:=oV+1+j) #[O] fun y2 rh Ah=>?_
      refine aQ #[Rs];have p7:=wm.LC sb rh ez (by have:=zdJ (Ag j (aH _) #[O]); rw [zae rh] at this; exact this);by_cases e9:oZ+k+1+1=a.size
      ·refine zL (by simpa using e9) ?_;exact aT ⟨_,rfl,.inl ⟨_,_,rfl,p7.last e9 hl⟩⟩
      refine zM (by simpa using e9) ?_;refine zbp #[BT] #[BT]
      ·exact aT #[ON]
      ·exact aT #[Pl]
     ·refine zM vf ?_;have BY:j=0:=by lia
      subst BY;refine zaQ (xs:=b) (i:=oV+1) #[O] fun y2 rh Ah=>?_
      refine aQ #[Rs];have p7:=ve.LC sb rh ez (by have:=zdJ (Ag 0 (aH _) #[O]); rw [gM,zae rh] at this; exact this);by_cases e9:oZ+k+1+1=a.size
      ·refine zL (by simpa using e9) ?_;exact aT ⟨_,rfl,.inl ⟨_,_,rfl,p7.last e9 hl⟩⟩
      refine zM (by simpa using e9) ?_;refine zbp #[BT] #[BT]
      ·exact aT #[ON]
      ·exact aT #[Pl]
    ·refine zM xo ?_;have HH:k=0:=by lia
     subst HH;refine aQ #[Ue];refine zaQ (xs:=a) (i:=oZ) #[O] fun z ez mz=>?_
     have ve:=hI.ME sa ey ez (by have:=ze8 (Bc 0 (aH _) #[O]); rw [gM,zae ez] at this; lia);by_cases e3:oV+1=b.size
     ·refine zL (by simpa using e3) ?_;exact aT ⟨_,rfl,.inl ⟨_,_,rfl,ve.Ly e3⟩⟩
     refine zM (by simpa using e3) ?_;refine aQ (zaa ez (aQ (zbK hC hk (ma z mz) (fun i hi=>(by
      refine zaQ (xs:=b) (i:=oV+1+i) #[O] fun p ep mp=>?_
      exact⟨p,ep,mb p mp⟩)) #[SN] #[O] fun j BS uV Ag=>?_)))
     dsimp only;have wm:=ve.LM (k:=j) sa ez fun i hi=>gL (zcP (uV i hi))
     by_cases vf:j > 0
     ·refine zL vf ?_;by_cases e4:oV+1+j=b.size
      ·refine zL (by simpa using e4) ?_;exact aT ⟨_,rfl,.inl ⟨_,_,rfl,wm.Ly e4⟩⟩
      refine zM (by simpa using e4) ?_;refine zaQ (xs:=b) (i:=oV+1+j) #[O] fun y2 rh Ah=>?_
      refine aQ #[Rs];have p7:=wm.LC sb rh ez (by have:=zdJ (Ag j (aH _) #[O]); rw [zae rh] at this; exact this);by_cases e9:oZ+1+1=a.size
      ·refine zL (by simpa using e9) ?_;exact aT ⟨_,rfl,.inl ⟨_,_,rfl,p7.last e9 hl⟩⟩
      refine zM (by simpa using e9) ?_;refine zbp #[BT] #[BT]
      ·exact aT #[ON]
      ·exact aT #[Pl]
     ·refine zM vf ?_;have BY:j=0:=by lia
      subst BY;refine zaQ (xs:=b) (i:=oV+1) #[O] fun y2 rh Ah=>?_
      refine aQ #[Rs];have p7:=ve.LC sb rh ez (by have:=zdJ (Ag 0 (aH _) #[O]); rw [gM,zae rh] at this; exact this);by_cases e9:oZ+1+1=a.size
      ·refine zL (by simpa using e9) ?_;exact aT ⟨_,rfl,.inl ⟨_,_,rfl,p7.last e9 hl⟩⟩
      refine zM (by simpa using e9) ?_;refine zbp #[BT] #[BT]
      ·exact aT #[ON]
      ·exact aT #[Pl]
end
end Srt
end
section
namespace Srt
open PySem PyProof.Rows
structure MH (val:Keyed->Int) (T l r o:List Keyed):Prop where
 perm:(l++r++o).Perm T
 so:Ris val o
 sl:Ris val l
 sr:Ris val r
 lo:Le val l o
 ro:Le val r o
section
variable {val:Keyed->Int} {T o l l1 l2 r r1 r2:List Keyed}
theorem MH.Mb (h:MH val T (l1++l2) r o) (hle:Le val r l2):MH val T l1 r (l2++o):=by
 obtain⟨a1,a2,a3⟩:=zaS.mp h.sl;refine⟨?_,zaS.mpr ⟨a2,h.so,h.lo.right⟩,a1,h.sr,a3.N0 h.lo.left,hle.N0 h.ro⟩;refine ic ?_ h.perm;have:(r++l2).Perm (l2++r):=List.perm_append_comm;have:=(this.append_left l1).append_right o;simpa [cH] using this
theorem MH.LM (h:MH val T l (r1++r2) o) (hle:Le val l r2):MH val T l r1 (r2++o):=by
 obtain⟨a1,a2,a3⟩:=zaS.mp h.sr;exact⟨by have:=h.perm; simpa [cH] using this,zaS.mpr ⟨a2,h.so,h.ro.right⟩,h.sl,a1,hle.N0 h.lo,a3.N0 h.ro.left⟩
theorem MH.Lz (h:MH val T [] r o):Good val T (r++o):=⟨by have:=h.perm; simpa using this,zaS.mpr ⟨h.sr,h.so,h.ro⟩⟩
theorem MH.Ly (h:MH val T l [] o):Good val T (l++o):=⟨by have:=h.perm; simpa using this,zaS.mpr ⟨h.sl,h.so,h.lo⟩⟩
theorem MH.first (h:MH val T l r o) (hle:Le val r l):Good val T (r++l++o):=by
 refine⟨ic (List.perm_append_comm.append_right _) h.perm,?_⟩;exact zaS.mpr ⟨zaS.mpr ⟨h.sr,h.sl,hle⟩,h.so,h.ro.app h.lo⟩
end
section
variable {val:Keyed->Int} {T:List Keyed} {a b out:Array Keyed} {na nb:Nat}
abbrev MB (val:Keyed->Int) (T:List Keyed) (a b out:Array Keyed) (na nb:Nat):Prop:=MH val T (a.toList.take na) (b.toList.take nb) out.toList.reverse
theorem zkp {xs:Array Keyed} {n:Nat} {p:Keyed} (h:xs[n]? = some p):xs.toList.take (n+1)=xs.toList.take n++[p]:=by
 rw [List.take_succ,cB,h];rfl
theorem ziw {xs:Array Keyed} (h:SIn val xs 0 xs.size) (i:Nat):Ris val (xs.toList.take i):=by
 have:=zdX h 0;rw [eY] at this;exact i7 (dC _ _) this
theorem zfL {xs:Array Keyed} {n:Nat} {p:Keyed} (h:p∈xs.toList.take n):∃ j,j < n/\j < xs.size/\xs[j]? = some p:=by
 (obtain⟨j,hj,e⟩:=gh h)
 have uV:j < n/\j < xs.toList.length:=by
  rw [aU] at hj;lia
 refine⟨j,uV.1,by simpa using uV.2,?_⟩;rw [<- cB,aG uV.2,<- e,mi]
theorem ze9 {xs:Array Keyed} {n:Nat} {p q:Keyed} (h:SIn val xs 0 xs.size) (hp:xs[n]? = some p) (hq:q∈xs.toList.take (n+1)):val q<=val p:=by
 obtain⟨j,hj,uZ,e⟩:=zfL hq;have hn:=(eP.mp hp).1;have:=h j n (bW _) #[O] hn;rw [zae e,zae hp] at this;exact this
theorem MB.LC {y x:Keyed} (h:MB val T a b out (na+1) nb) (sb:SIn val b 0 b.size) (hn:1<=nb) (hy:b[nb - 1]? = some y) (hx:a[na]? = some x) (hle:val y<=val x):MB val T a b (out.push x) na nb:=by
 unfold MB at h |-;rw [zkp hx] at h;have:=MH.Mb h fun p hp q hq=>by
  rw [bD.mp hq];exact cW (ze9 sb hy (by rw [show nb - 1+1=nb by lia]; exact hp)) hle
 simpa using this
theorem MB.ME {y x:Keyed} (h:MB val T a b out na (nb+1)) (sa:SIn val a 0 a.size) (hn:1<=na) (hy:b[nb]? = some y) (hx:a[na - 1]? = some x) (hle:val x<=val y):MB val T a b (out.push y) na nb:=by
 unfold MB at h |-;rw [zkp hy] at h;have:=MH.LM h fun p hp q hq=>by
  rw [bD.mp hq];exact cW (ze9 sa hx (by rw [show na - 1+1=na by lia]; exact hp)) hle
 simpa using this
theorem zkq (xs:Array Keyed) {i n:Nat} (h:i<=n):xs.toList.take n=xs.toList.take i++(xs.extract i n).toList:=by
 rw [fu];simp only [fc];rw [<- dh i (xs.toList.take n),nA,dU h,List.drop_take]
theorem MB.Mb {y:Keyed} {at':Nat} (h:MB val T a b out na nb) (sb:SIn val b 0 b.size) (oW:at'<=na) (hn:1<=nb) (hy:b[nb - 1]? = some y) (hle:∀ i,at'<=i->i < na->val y<=Vk val a i):MB val T a b (out++(a.extract at' na).reverse) at' nb:=by
 unfold MB at h |-;rw [zkq a oW] at h;have:=MH.Mb h fun p hp q hq=>by
  have pz:q∈(a.extract at' (at'+(na - at'))).toList:=by rw [show at'+(na - at')=na by lia]; exact hq
  obtain⟨j,hj,e⟩:=ze7 pz;have:=hle (at'+j) #[O] #[O];rw [zae e] at this;exact cW (ze9 sb hy (by rw [show nb - 1+1=nb by lia]; exact hp)) this
 simpa using this
theorem MB.LM {x:Keyed} {at':Nat} (h:MB val T a b out na nb) (sa:SIn val a 0 a.size) (oW:at'<=nb) (hn:1<=na) (hx:a[na - 1]? = some x) (hle:∀ i,at'<=i->i < nb->val x<=Vk val b i):MB val T a b (out++(b.extract at' nb).reverse) na at':=by
 unfold MB at h |-;rw [zkq b oW] at h;have:=MH.LM h fun p hp q hq=>by
  have pz:q∈(b.extract at' (at'+(nb - at'))).toList:=by rw [show at'+(nb - at')=nb by lia]; exact hq
  obtain⟨j,hj,e⟩:=ze7 pz;have:=hle (at'+j) #[O] #[O];rw [zae e] at this;exact cW (ze9 sa hx (by rw [show na - 1+1=na by lia]; exact hp)) this
 simpa using this
theorem zcB (xs:Array Keyed) (n:Nat):(xs.extract 0 n).toList=xs.toList.take n:=by
 rw [fu];simp [fc]
theorem MB.Lz (h:MB val T a b out na nb) (e:na=0):Good val T (a.extract 0 na++b.extract 0 nb++out.reverse).toList:=by
 unfold MB at h;subst e;have:=MH.Lz h;rw [cU,cU,zcB,zcB,gN,mX,jf];exact this
theorem MB.Ly (h:MB val T a b out na nb) (e:nb=0):Good val T (a.extract 0 na++b.extract 0 nb++out.reverse).toList:=by
 unfold MB at h;subst e;have:=MH.Ly h;rw [cU,cU,zcB,zcB,gN,cZ,jf];exact this
theorem MB.first (h:MB val T a b out na nb) (e:nb=1) (sa:SIn val a 0 a.size) (h2:1<=b.size) (hf:Vk val b 0<=Vk val a 0):Good val T (b.extract 0 nb++a.extract 0 na++out.reverse).toList:=by
 unfold MB at h;subst e;have:=MH.first h fun p hp q hq=>by
  obtain⟨j,hj,uZ,ej⟩:=zfL hp;have vf:j=0:=by lia
  subst vf;obtain⟨i,hi,his,ei⟩:=zfL hq;have:=sa 0 i (bW _) (bW _) his;rw [zae ei] at this;rw [zae ej] at hf;lia
 rw [cU,cU,zcB,zcB,jf];exact this
end
section
variable {prog:Program} {w:World} {A:Around} {E:Value->Shared->Prop} {s:Shared} {a₀:Array Keyed} {κ:SortKind} {val:Keyed->Int}
theorem zlu {st:SortSt} {a b:Array Keyed} {Q:Array Keyed->SortSt->Prop} (hC:Cmp prog w A s κ val a₀) (hk:kindOf st=κ) (ma:∀ p∈a.toList,p∈a₀.toList) (mb:∀ p∈b.toList,p∈a₀.toList)
  (sa:SIn val a 0 a.size) (sb:SIn val b 0 b.size) (h1:1<=a.size) (h2:1<=b.size) (hf:Vk val b 0<=Vk val a 0) (hl:∀ i,i < b.size->Vk val b i<=Vk val a (a.size - 1))
  (h:∀ out g,Good val #[wE] out.toList->Q out (zaG st g)):wpS #[ss] A E s (zm2 a b) Q st:=by
 refine zhm ?_
 wp_delta
 wp_delta
 refine zhn ?_
 (refine aQ #[PN])
 refine zaQ (xs:=a) (i:=a.size - 1) #[O] fun x0 yN Hz=>?_
 refine zaQ (xs:=b) (i:=b.size - 1) #[O] fun y0 yM Hy=>?_
 refine aQ (zaa yN ?_);have I0:MB val #[wE] a b #[] (a.size - 1+1) b.size:=by
  refine⟨?_,jI,ziw sa _,ziw sb _,fun x _ y hy=>by simp at hy,fun x _ y hy=>by simp at hy⟩;rw [show a.size - 1+1=a.size by lia,aY #[M],aY #[M]];simp
 have I1:MB val #[wE] a b #[x0] (a.size - 1) b.size:=I0.LC sb h2 yM yN (by have:=hl (b.size - 1) #[O]; rw [zae yM,zae yN] at this; exact this);dsimp only;by_cases xp:a.size - 1=0
 ·refine zL (by simpa using xp) ?_;exact aT (h _ #[Tl] (I1.Lz xp))
 refine zM (by simpa using xp) ?_;by_cases ql:b.size=1
 ·refine zL (by simpa using ql) ?_;exact aT (h _ #[Tl] (I1.first ql sa h2 hf))
 refine zM (by simpa using ql) ?_;refine aQ (iD ?_);refine aQ (fI (fr5 (fun g out na nb mg=>(none,na,nb,out,mg)) (fun g out na nb mg=>zaG st g) (fun x g out na nb mg=>MB val #[wE] a b out na nb/\1<=na/\2<=nb/\na<=a.size/\nb<=b.size/\x+na+nb+1<=a.size+b.size)
  (Q:=fun c nU=>∃ g r o,nU=zaG st g/\c=(some r,o)/\Good val #[wE] r.toList) ⟨gallopOf st,#[x0],a.size - 1,b.size,gallopOf st,rfl,rfl,I1,#[O],#[O],#[O],#[O],#[O]⟩ ?fin ?step) ?post)
 case post =>
  rintro c nU ⟨g,r,o,rfl,rfl,hG⟩;exact aT (h _ g hG)
 case fin =>
  rintro g out na nb mg ⟨hI,b1,b2,b3⟩;lia
 case step =>
  intro x g out na nb mg HA hx J;have hI:=J.1;have b1:=J.2.1;have b2:=J.2.2.1;have b4:=J.2.2.2.1;have b5:=J.2.2.2.2.1;have b3:=J.2.2.2.2.2;dsimp only;refine zpG #[UT] #[Vl] (fun n8 pA pB ac bc=>MB val #[wE] a b n8 pA pB/\1<=pA/\2<=pB/\pA<=a.size/\pB<=b.size/\1+pA+pB<=na+nb) (zaG st g) (fr5 #[UT] (fun n8 pA pB ac bc=>zaG st g) (fun x n8 pA pB ac bc=>MB val #[wE] a b n8 pA pB/\1<=pA/\2<=pB/\pA<=a.size/\pB<=b.size/\x+pA+pB<=na+nb) ⟨out,na,nb,0,0,rfl,rfl,hI,b1,b2,b4,b5,#[O]⟩ ?fin1 ?step1) #[Wm] ?post1
  case fin1 =>
   rintro n8 pA pB ac bc ⟨hI,b1,b2,b4,b5,b3⟩;exact⟨rfl,.inr ⟨n8,pA,pB,ac,bc,rfl,hI,b1,b2,b4,b5,#[O]⟩⟩
  case step1 =>
   intro x1 n8 pA pB ac bc HB vd J;have hI:=J.1;have b1:=J.2.1;have b2:=J.2.2.1;have b4:=J.2.2.2.1;have b5:=J.2.2.2.2.1;have b3:=J.2.2.2.2.2;dsimp only;obtain⟨n1,rfl⟩:∃ n1,pA=n1+1:=⟨pA - 1,#[O]⟩;obtain⟨m1,rfl⟩:∃ m1,pB=m1+1:=⟨pB - 1,#[O]⟩;simp only [cX];refine zaQ (xs:=b) (i:=m1) #[O] fun y ey my=>?_
   refine zaQ (xs:=a) (i:=n1) #[O] fun z ez mz=>?_
   refine aQ #[RB];dsimp only;by_cases DS:val y < val z
   ·refine zL (by simpa using DS) ?_;refine aQ #[Rs];have qI:=hI.LC sb #[O] ey ez #[O];by_cases e1:n1=0
    ·refine zL (by simpa using e1) ?_;exact aT ⟨rfl,.inl ⟨_,_,rfl,qI.Lz e1⟩⟩
    refine zM (by simpa using e1) ?_;refine zbp #[BT] #[BT]
    ·exact aT #[VY]
    ·exact aT ⟨_,_,_,_,_,rfl,rfl,qI,#[O],#[O],#[O],#[O],#[O]⟩
   ·refine zM (by simpa using DS) ?_;refine aQ #[Ue];have qI:=hI.ME sa #[O] ey ez #[O];by_cases e1:m1=1
    ·refine zL (by simpa using e1) ?_;exact aT ⟨rfl,.inl ⟨_,_,rfl,qI.first e1 sa h2 hf⟩⟩
    refine zM (by simpa using e1) ?_;refine zbp #[BT] #[BT]
    ·exact aT #[VY]
    ·exact aT ⟨_,_,_,_,_,rfl,rfl,qI,#[O],#[O],#[O],#[O],#[O]⟩
  case post1 =>
   intro BV HI HJ HE HF J;have HG:=J.1;have c1:=J.2.1;have c2:=J.2.2.1;have c4:=J.2.2.2.1;have c5:=J.2.2.2.2.1;have c3:=J.2.2.2.2.2;dsimp only
   (refine aQ #[PN])
   refine aQ (fI (fr7 (fun g n8 pA pB mg ac bc=>(none,pA,pB,n8,mg,ac,bc)) (fun g n8 pA pB mg ac bc=>zaG st g) (fun x g n8 pA pB mg ac bc=>MB val #[wE] a b n8 pA pB/\1<=pA/\2<=pB/\pA<=a.size/\pB<=b.size/\pA+pB<=HI+HJ)
    (Q:=fun c nU=>∃ g,nU=zaG st g/\((∃ r o,c=(some r,o)/\Good val #[wE] r.toList)\/∃ n8 pA pB mg ac bc,c=(none,pA,pB,n8,mg,ac,bc)/\MB val #[wE] a b n8 pA pB/\1<=pA/\2<=pB/\pA<=a.size/\pB<=b.size/\pA+pB<=HI+HJ)) ⟨g,BV,HI,HJ,_,HE,HF,rfl,rfl,HG,c1,c2,c4,c5,aH _⟩ ?fin2 ?step2) ?post2)
   case fin2 =>
    rintro g n8 pA pB mg ac bc ⟨hI,b1,b2,b4,b5,b3⟩;exact⟨g,rfl,.inr ⟨n8,pA,pB,mg,ac,bc,rfl,hI,b1,b2,b4,b5,b3⟩⟩
   case post2 =>
    rintro c nU ⟨g,rfl,hc⟩;rcases hc with ⟨r,o,rfl,hG⟩ | ⟨BW,na2,nb2,mg2,ac2,bc2,rfl,qI,d1,d2,d4,d5,d3⟩
    ·exact aT ⟨g,r,_,rfl,rfl,hG⟩
    dsimp only;refine aQ (zdY (aT ⟨_,BW,na2,nb2,_,rfl,rfl,qI,d1,d2,d4,d5,#[O]⟩))
   case step2 =>
    intro x2 g n8 pA pB BX ac bc vO wj J;have hI:=J.1;have b1:=J.2.1;have b2:=J.2.2.1;have b4:=J.2.2.2.1;have b5:=J.2.2.2.2.1;have b3:=J.2.2.2.2.2;dsimp only;obtain⟨m1,rfl⟩:∃ m1,pB=m1+1:=⟨pB - 1,#[O]⟩;simp only [cX];refine zaQ (xs:=b) (i:=m1) #[O] fun y ey my=>?_
    apply dup
    ·intro k1 k2;by_cases vX:BX > 1
     ·refine zL vX ?_;clear vX;generalize BX - 1=m0
      revert m0
      exact k1
     ·refine zM vX ?_;clear vX;generalize BX=m0
      revert m0
      exact k2
    intro mg0;refine aQ (zdY (aQ (zaa ey (aQ (zbK hC hk (mb y my) (fun i hi=>(by
     refine zaQ (xs:=a) (i:=0+i) #[O] fun p ep mp=>?_
     exact⟨p,ep,ma p mp⟩)) (sa.sub #[O] #[O]) #[O] fun k FF ud Bc=>?_)))))
    dsimp only;have qI:=hI.Mb (at':=k) sb FF #[O] ey fun i h1 h2=>gL (by have:=ze8 (Bc i h1 h2); rwa [eJ] at this)
    by_cases xo:pA - k > 0
    ·refine zL xo ?_;by_cases e1:k=0
     ·refine zL (by simpa using e1) ?_;exact aT ⟨_,rfl,.inl ⟨_,_,rfl,qI.Lz e1⟩⟩
     refine zM (by simpa using e1) ?_;obtain⟨n1,rfl⟩:∃ n1,k=n1+1:=#[TW];simp only [cX];refine aQ #[Ue];refine zaQ (xs:=a) (i:=n1) #[O] fun z ez mz=>?_
     have ve:=qI.ME sa #[O] ey (show a[n1+1 - 1]? = some z by rw [cX]; exact ez) (by have:=zdZ (ud n1 #[O]); rw [eJ,zae ez] at this; exact this);by_cases e3:m1=1
     ·refine zL (by simpa using e3) ?_;exact aT ⟨_,rfl,.inl ⟨_,_,rfl,ve.first e3 sa h2 hf⟩⟩
     refine zM (by simpa using e3) ?_;refine aQ (zaa ez (aQ (zbK hC hk (ma z mz) (fun i hi=>(by
      refine zaQ (xs:=b) (i:=0+i) #[O] fun p ep mp=>?_
      exact⟨p,ep,mb p mp⟩)) #[SN] #[O] fun j BS uV Ag=>?_)))
     dsimp only;have wm:=ve.LM (at':=j) sa BS #[O] (show a[n1+1 - 1]? = some z by rw [cX]; exact ez) fun i h1 h2=>(by have:=zdJ (Ag i h1 h2); rwa [eJ] at this)
     by_cases vf:m1 - j > 0
     ·refine zL vf ?_;by_cases e4:j=1
      ·refine zL (by simpa using e4) ?_;exact aT ⟨_,rfl,.inl ⟨_,_,rfl,wm.first e4 sa h2 hf⟩⟩
      refine zM (by simpa using e4) ?_;by_cases e5:j=0
      ·refine zL (by simpa using e5) ?_;exact aT ⟨_,rfl,.inl ⟨_,_,rfl,wm.Ly e5⟩⟩
      refine zM (by simpa using e5) ?_;refine zaQ (xs:=b) (i:=j - 1) #[O] fun y2 rh Ah=>?_
      refine aQ #[Rs];have p7:=wm.LC sb #[O] rh ez (by have:=zcP #[Ta]; rw [eJ,zae rh] at this; lia);by_cases e9:n1=0
      ·refine zL (by simpa using e9) ?_;exact aT ⟨_,rfl,.inl ⟨_,_,rfl,p7.Lz e9⟩⟩
      refine zM (by simpa using e9) ?_;refine zbp #[BT] #[BT]
      ·exact aT #[No]
      ·exact aT #[OT]
     ·refine zM vf ?_;have HK:j=m1:=by lia
      subst HK;refine zaQ (xs:=b) (i:=j - 1) #[O] fun y2 rh Ah=>?_
      refine aQ #[Rs];have p7:=ve.LC sb #[O] rh ez (by have:=zcP #[Ta]; rw [eJ,zae rh] at this; lia);by_cases e9:n1=0
      ·refine zL (by simpa using e9) ?_;exact aT ⟨_,rfl,.inl ⟨_,_,rfl,p7.Lz e9⟩⟩
      refine zM (by simpa using e9) ?_;refine zbp #[BT] #[BT]
      ·exact aT #[No]
      ·exact aT #[OT]
    ·refine zM xo ?_;have FE:k=pA:=by lia
     subst FE;obtain⟨n1,rfl⟩:∃ n1,k=n1+1:=#[TW];simp only [cX];refine aQ #[Ue];refine zaQ (xs:=a) (i:=n1) #[O] fun z ez mz=>?_
     have ve:=hI.ME sa #[O] ey (show a[n1+1 - 1]? = some z by rw [cX]; exact ez) (by have:=zdZ (ud n1 #[O]); rw [eJ,zae ez] at this; exact this);by_cases e3:m1=1
     ·refine zL (by simpa using e3) ?_;exact aT ⟨_,rfl,.inl ⟨_,_,rfl,ve.first e3 sa h2 hf⟩⟩
     refine zM (by simpa using e3) ?_;refine aQ (zaa ez (aQ (zbK hC hk (ma z mz) (fun i hi=>(by
      refine zaQ (xs:=b) (i:=0+i) #[O] fun p ep mp=>?_
      exact⟨p,ep,mb p mp⟩)) #[SN] #[O] fun j BS uV Ag=>?_)))
     dsimp only;have wm:=ve.LM (at':=j) sa BS #[O] (show a[n1+1 - 1]? = some z by rw [cX]; exact ez) fun i h1 h2=>(by have:=zdJ (Ag i h1 h2); rwa [eJ] at this)
     by_cases vf:m1 - j > 0
     ·refine zL vf ?_;by_cases e4:j=1
      ·refine zL (by simpa using e4) ?_;exact aT ⟨_,rfl,.inl ⟨_,_,rfl,wm.first e4 sa h2 hf⟩⟩
      refine zM (by simpa using e4) ?_;by_cases e5:j=0
      ·refine zL (by simpa using e5) ?_;exact aT ⟨_,rfl,.inl ⟨_,_,rfl,wm.Ly e5⟩⟩
      refine zM (by simpa using e5) ?_;refine zaQ (xs:=b) (i:=j - 1) #[O] fun y2 rh Ah=>?_
      refine aQ #[Rs];have p7:=wm.LC sb #[O] rh ez (by have:=zcP #[Ta]; rw [eJ,zae rh] at this; lia);by_cases e9:n1=0
      ·refine zL (by simpa using e9) ?_;exact aT ⟨_,rfl,.inl ⟨_,_,rfl,p7.Lz e9⟩⟩
      refine zM (by simpa using e9) ?_;refine zbp #[BT] #[BT]
      ·exact aT #[No]
      ·exact aT #[OT]
     ·refine zM vf ?_;have HK:j=m1:=by lia
      subst HK;refine zaQ (xs:=b) (i:=j - 1) #[O] fun y2 rh Ah=>?_
      refine aQ #[Rs];have p7:=ve.LC sb #[O] rh ez (by have:=zcP #[Ta]; rw [eJ,zae rh] at this; lia);by_cases e9:n1=0
      ·refine zL (by simpa using e9) ?_;exact aT ⟨_,rfl,.inl ⟨_,_,rfl,p7.Lz e9⟩⟩
      refine zM (by simpa using e9) ?_;refine zbp #[BT] #[BT]
      ·exact aT #[No]
      ·exact aT #[OT]
end
end Srt
end
section
namespace Srt
open PySem PyProof.Rows
variable {j k sa:Nat}
noncomputable def wb (sa:Nat) (l:List (Keyed×Nat)) (xs:Array Keyed):Array Keyed:=l.foldl (fun a (p,j)=>a.setIfInBounds (sa+j) p) xs
theorem zm5 (sa:Nat):∀ (l:List Keyed) (n:Nat) (xs:Array Keyed) (k:Nat),sa+n+l.length<=xs.size->(wb sa (l.zipIdx n) xs)[k]? = if sa+n<=k/\k < sa+n+l.length then l[k - (sa+n)]? else xs[k]?
 | [],n,xs,k,h=>by
  rw [if_neg (by simp only [kf]; lia)];rfl
 | p :: l,n,xs,k,h=>by
  have hl:(p :: l).length=l.length+1:=rfl;rw [hl] at h |-;show (wb sa (l.zipIdx (n+1)) (xs.setIfInBounds (sa+n) p))[k]? = _;rw [zm5 sa l (n+1) _ k (by rw [Array.size_setIfInBounds]; lia)];by_cases h1:sa+(n+1)<=k/\k < sa+(n+1)+l.length
  ·rw [if_pos h1,if_pos #[O],show k - (sa+n)=k - (sa+(n+1))+1 by lia,eD]
  ·rw [if_neg h1,Array.getElem?_setIfInBounds];by_cases h2:sa+n=k
   ·rw [if_pos h2,if_pos #[O],if_pos #[O],show k - (sa+n)=0 by lia];rfl
   ·rw [if_neg h2,if_neg #[O]]
theorem zoJ {m xs:Array Keyed} (h:sa+m.size<=xs.size):#[V3].toList=xs.toList.take sa++m.toList++xs.toList.drop (sa+m.size):=by
 have hm:m.toList.length=m.size:=by simp
 have hx:xs.toList.length=xs.size:=by simp
 refine gI fun k=>?_
 rw [cB,zm5 sa m.toList 0 xs k (by rw [hm]; lia),hm,gM];by_cases h1:k < sa
 ·rw [if_neg #[O],cH,fb (by rw [aU]; lia),df h1,cB]
 ·by_cases h2:k < sa+m.size
  ·rw [if_pos #[O],cH,c8 (by rw [aU]; lia),aU,hx,show min sa xs.size=sa by lia,fb #[O]]
  ·rw [if_neg #[O],c8 (by rw [aO,aU]; lia),aO,aU,hx,show min sa xs.size=sa by lia,hm,ip,show sa+m.size+(k - (sa+m.size))=k by lia,cB]
theorem zlv (xs:List Keyed) {i:Nat} (h1:i<=j) (h2:j<=k):xs=xs.take i++((xs.drop i).take (j - i)++(xs.drop j).take (k - j))++xs.drop k:=by
 have e1:xs.drop i=(xs.drop i).take (j - i)++xs.drop j:=by
  have:=(dh (j - i) (xs.drop i)).symm
  rwa [kM,show i+(j - i)=j by lia] at this
 have e2:xs.drop j=(xs.drop j).take (k - j)++xs.drop k:=by
  have:=(dh (k - j) (xs.drop j)).symm
  rwa [kM,show j+(k - j)=k by lia] at this
 have e0:=(dh i xs).symm;rw [e1,e2] at e0;rw [cH,cH];exact e0
theorem zd0 (xs:Array Keyed) (i j:Nat):#[QY].toList=#[Qv].take (j - i):=by
 rw [fu]
theorem zoK {sb e:Nat} {m xs:Array Keyed} (h1:sa<=sb) (h2:sb<=e) (h3:e<=xs.size) (hp:m.toList.Perm ((xs.extract sa sb).toList++(xs.extract sb e).toList)):#[V3].Perm xs:=by
 have uW:m.size=e - sa:=by
  have:=hp.length_eq;rw [aO,zd0,zd0,aU,aU,cP,cP] at this;have hx:xs.toList.length=xs.size:=by simp
  have hm:m.toList.length=m.size:=by simp
  lia
 rw [gU,zoJ #[O],show sa+m.size=e by lia];refine ic ((hp.append_left _).append_right _) ?_;rw [zd0,zd0,<- zlv xs.toList h1 h2]
section
variable {prog:Program} {w:World} {A:Around} {E:Value->Shared->Prop} {s:Shared} {a₀:Array Keyed} {κ:SortKind} {val:Keyed->Int}
theorem zdK {xs:Array Keyed} {i:Nat} (h:k < j - i) (hj:j<=xs.size):#[QY][k]? = xs[i+k]?:=by
 rw [<- cB,zd0,df h,ip,cB]
theorem zd1 {xs:Array Keyed} {i:Nat} (hj:j<=xs.size):#[QY].size=j - i:=by rw [Array.size_extract,dU hj]
theorem zkr {xs:Array Keyed} {i:Nat} (hj:j<=xs.size) (h:SIn val xs i j):SIn val #[QY] 0 #[QY].size:=by
 rw [zd1 hj];intro p q _ hpq hq;rw [zaz (zdK #[O] hj),zaz (zdK hq hj)];exact h _ _ #[O] #[O] #[O]
theorem zfa {xs:Array Keyed} {i:Nat} (hj:j<=xs.size) {p:Keyed} (h:p∈#[QY].toList):∃ k,i<=k/\k < j/\xs[k]? = some p:=by
 obtain⟨k,hk,e⟩:=gh h;have yH:k < j - i:=by
  rwa [bT,zd1 hj] at hk
 refine⟨i+k,#[O],#[O],?_⟩;rw [<- zdK yH hj,<- cB,aG hk,e]
theorem zlw {st:SortSt} {i na pw sb nb pw2:Nat} {Q:Bool->SortSt->Prop} (hC:Cmp prog w A s κ val a₀) (hB:SB κ a₀ st) (e1:#[R0][i]? = some (sa,na,pw)) (e2:#[R0][i+1]? = some (sb,nb,pw2))
  (pI:sb=sa+na) (hna:1<=na) (hnb:1<=nb) (hsz:sb+nb<=a₀.size) (sA:SIn val #[wn] sa (sa+na)) (sB:SIn val #[wn] sb (sb+nb))
  (h:∀ nU,SB κ a₀ nU->pendingOf nU=(#[R0].setIfInBounds i (sa,na+nb,pw)).eraseIdxIfInBounds (i+1)->(∀ k,(k < sa\/sb+nb<=k)->#[Ch][k]? = #[wn][k]?)->SIn val #[Ch] sa (sb+nb)->Q true nU) :
  wpS #[ss] A E s (mergeAt' i) Q st:=by
 refine zhm ?_
 wp_delta
 wp_delta
 refine zhn ?_;refine aQ (iD ?_);rw [e1,e2];dsimp only;have DT:=hB.size;obtain⟨y0,yM,Hy⟩:=hB.mem (i:=sb) #[O];generalize BZ:(sortPriv% PySem.Builtin.SortState.mk) (kindOf st) #[wn] ((#[R0].setIfInBounds i (sa,na+nb,pw)).eraseIdxIfInBounds (i+1)) #[Tl] (failedOf st)=pS;have xT:SB κ a₀ pS:=by subst BZ; exact⟨hB.perm,hB.kind,hB.failed⟩
 have va:pendingOf pS=(#[R0].setIfInBounds i (sa,na+nb,pw)).eraseIdxIfInBounds (i+1):=by subst BZ; rfl
 have xp:arrOf pS=arrOf st:=by subst BZ; rfl
 have Ai:∀ n,n < a₀.size->∃ p,#[wn][n]? = some p/\p∈a₀.toList:=fun n hn=>hB.mem hn
 refine aQ (show wpS _ _ _ _ (set pS) _ st from gQ (f:=fun _=>pS) ?_);refine aQ (zaa yM (aQ (zbK (arr:=arrOf st) hC xT.kind Hy (fun j hj=>Ai (sa+j) #[O]) sA #[O] fun k FF ud Bc=>?_)));dsimp only;have DU:∀ j,sa<=j->j < sa+k->Vk val #[wn] j<=Vk val #[wn] sb:=fun j h1 h2=>by
  have:=zdZ (ud (j - sa) #[O])
  rwa [show sa+(j - sa)=j by lia,<- zae (val:=val) yM] at this
 by_cases xo:na - k=0
 ·rw [if_pos (by simpa using xo)];refine aT (h pS xT va (fun _ _=>by rw [xp]) ?_);rw [xp];intro p q h1 h2 h3;by_cases hq:q < sa+na
  ·exact sA p q h1 h2 hq
  ·by_cases hp:p < sa+na
   ·exact cW (DU p h1 #[O]) (sB sb q #[O] #[O] h3)
   ·exact sB p q #[O] h2 h3
 rw [if_neg (by simpa using xo)];have DV:sa+k+(na - k) - 1=sa+na - 1:=by lia
 rw [DV];obtain⟨x0,yN,Hz⟩:=hB.mem (i:=sa+na - 1) #[O];refine aQ (zaa yN (aQ (zbK (arr:=arrOf st) hC xT.kind Hz (fun j hj=>Ai (sb+j) #[O]) sB #[O] fun m yL uS HL=>?_)));dsimp only;have Bd:∀ j,sb+m<=j->j < sb+nb->Vk val #[wn] (sa+na - 1)<=Vk val #[wn] j:=fun j h1 h2=>by
  have:=zdJ (HL (j - sb) #[O] #[O])
  rwa [show sb+(j - sb)=j by lia,<- zae (val:=val) yN] at this
 have HM:∀ j,sb<=j->j < sb+m->Vk val #[wn] j < Vk val #[wn] (sa+na - 1):=fun j h1 h2=>by
  have:=zcP (uS (j - sb) #[O])
  rwa [show sb+(j - sb)=j by lia,<- zae (val:=val) yN] at this
 by_cases hm0:m=0
 ·rw [if_pos (by simpa using hm0)];refine aT (h pS xT va (fun _ _=>by rw [xp]) ?_);rw [xp];intro p q h1 h2 h3;by_cases hq:q < sa+na
  ·exact sA p q h1 h2 hq
  ·by_cases hp:p < sa+na
   ·exact cW (sA p (sa+na - 1) h1 #[O] #[O]) (Bd q #[O] h3)
   ·exact sB p q #[O] h2 h3
 rw [if_neg (by simpa using hm0)];have zx:#[wn].size=a₀.size:=DT;have z1:=zd1 (xs:=arrOf st) (i:=sa+k) (j:=sb) #[O];have z2:=zd1 (xs:=arrOf st) (i:=sb) (j:=sb+m) #[O];have hf:Vk val (#[wn].extract sb (sb+m)) 0<=Vk val (#[wn].extract (sa+k) sb) 0:=by
  rw [zaz (zdK #[O] #[O]),zaz (zdK (xs:=arrOf st) (i:=sa+k) (j:=sb) (k:=0) #[O] #[O])];have:=ze8 (Bc k (aH _) #[O]);rw [<- zae (val:=val) yM] at this;simp only [gM] at this |-;lia
 have hl:∀ j,j < (#[wn].extract sb (sb+m)).size->Vk val (#[wn].extract sb (sb+m)) j<=Vk val (#[wn].extract (sa+k) sb) ((#[wn].extract (sa+k) sb).size - 1):=by
  intro j hj;rw [z2] at hj;rw [z1,zaz (zdK #[O] #[O]),zaz (zdK (xs:=arrOf st) (i:=sa+k) (j:=sb) #[O] #[O])];have:=HM (sb+j) #[O] #[O];rw [show sa+k+(sb - (sa+k) - 1)=sa+na - 1 by lia];lia
 have fin:∀ (out:Array Keyed) (g:Nat),Good val ((#[wn].extract (sa+k) sb).toList++(#[wn].extract sb (sb+m)).toList) out.toList ->
   wpS #[ss] A E s (do
    modify fun s=>setArr s (out.toList.zipIdx.foldl (fun a (p,j)=>a.setIfInBounds (sa+k+j) p) (arrOf s))
    let s' <- get
    pure (failedOf s').isNone) Q (zaG pS g):=by
  intro out g hG;refine aQ (gQ (aQ (iD ?_)));have uW:out.size=sb+m - (sa+k):=by
   have:=hG.1.length_eq;rw [aO] at this;have e1:out.toList.length=out.size:=by simp
   have e2:(#[wn].extract (sa+k) sb).toList.length=sb - (sa+k):=by rw [bT,z1]
   have e3:(#[wn].extract sb (sb+m)).toList.length=sb+m - sb:=by rw [bT,z2]
   lia
  have sS:=zoK (xs:=arrOf st) (sa:=sa+k) (sb:=sb) (e:=sb+m) #[O] #[O] #[O] hG.1;have oW:∀ n,#[Go][n]? = if sa+k<=n/\n < sb+m then out[n - (sa+k)]? else #[wn][n]?:=fun n=>by
   have:=zm5 (sa+k) out.toList 0 #[wn] n (by rw [bT]; lia);rw [bT,gM,uW,show sa+k+(sb+m - (sa+k))=sb+m by lia,cB] at this;exact this
  have Dw:(failedOf (setArr (zaG pS g) #[Go])).isNone=true:=by
   show (failedOf pS).isNone=true;rw [xT.failed];rfl
  have HN:arrOf (zaG pS g)=arrOf st:=xp;show wpS _ _ _ _ (pure (failedOf #[Q4]).isNone) Q #[Q4];rw [HN,Dw];refine aT (h _ ⟨sS.trans hB.perm,xT.kind,xT.failed⟩ va (fun n hn=>?_) ?_)
  ·show #[Go][n]? = _;rw [oW,if_neg #[O]]
  ·show SIn val #[Go] sa (sb+nb);have vK:∀ n,sa+k<=n->n < sb+m->∃ q,sa+k<=q/\q < sb+m/\Vk val #[Go] n=Vk val #[wn] q:=fun n h1 h2=>by
    have ho:n - (sa+k) < out.size:=by lia
    have vF:out[n - (sa+k)]? = some out[n - (sa+k)]:=getElem?_pos out _ ho;have qw:out[n - (sa+k)]∈(#[wn].extract (sa+k) sb).toList++(#[wn].extract sb (sb+m)).toList:=hG.1.mem_iff.mp #[M];have hv:Vk val #[Go] n=val out[n - (sa+k)]:=zae (by rw [oW,if_pos ⟨h1,h2⟩,vF]);rcases bO.mp qw with qw | qw
    ·obtain⟨q,q1,q2,q3⟩:=zfa #[O] qw;exact⟨q,q1,#[O],by rw [hv,zae q3]⟩
    ·obtain⟨q,q1,q2,q3⟩:=zfa #[O] qw;exact⟨q,#[O],q2,by rw [hv,zae q3]⟩
   have qR:∀ n,¬ (sa+k<=n/\n < sb+m)->Vk val #[Go] n=Vk val #[wn] n:=fun n hn=>zaz (by rw [oW,if_neg hn])
   intro p q h1 h2 h3;by_cases hp:p < sa+k
   ·rw [qR p #[O]];by_cases hq:q < sa+k
    ·rw [qR q #[O]];exact sA p q h1 h2 #[O]
    ·have key:∀ q',sa+k<=q'->q' < sb+nb->Vk val #[wn] p<=Vk val #[wn] q':=fun q' a1 a2=>by
      by_cases pC:q' < sb
      ·exact sA p q' h1 #[O] #[O]
      ·exact cW (DU p h1 hp) (sB sb q' #[O] #[O] a2)
     by_cases pz:q < sb+m
     ·obtain⟨q',q1,q2,q3⟩:=vK q #[O] pz;rw [q3];exact key q' q1 #[O]
     ·rw [qR q #[O]];exact key q #[O] h3
   ·by_cases rk:p < sb+m
    ·by_cases pz:q < sb+m
     ·have DW:p - (sa+k) < out.size:=by lia
      have vF:q - (sa+k) < out.size:=by lia
      rw [zae (p:=out[p - (sa+k)]) (by rw [oW,if_pos #[O]]; exact getElem?_pos out _ DW),zae (p:=out[q - (sa+k)]) (by rw [oW,if_pos #[O]]; exact getElem?_pos out _ vF)];by_cases hpq:p=q
      ·subst hpq;exact dz _
      ·have:=dR.mp hG.2 (p - (sa+k)) (q - (sa+k)) (by simpa using DW) (by simpa using vF) #[O];simpa using this
     ·obtain⟨p',p1,p2,p3⟩:=vK p #[O] rk;rw [p3,qR q #[O]];by_cases rZ:p' < sb
      ·exact cW (sA p' (sa+na - 1) #[O] #[O] #[O]) (Bd q #[O] h3)
      ·exact sB p' q #[O] #[O] h3
    ·rw [qR p #[O],qR q #[O]];exact sB p q #[O] h2 h3
 have ma:∀ p∈(#[wn].extract (sa+k) sb).toList,p∈a₀.toList:=fun p hp=>by
  obtain⟨q,q1,q2,q3⟩:=zfa #[O] hp;obtain⟨p',e,m'⟩:=Ai q #[O];rw [q3] at e;cases e;exact m'
 have mb:∀ p∈(#[wn].extract sb (sb+m)).toList,p∈a₀.toList:=fun p hp=>by
  obtain⟨q,q1,q2,q3⟩:=zfa #[O] hp;obtain⟨p',e,m'⟩:=Ai q #[O];rw [q3] at e;cases e;exact m'
 have ss1:=zkr (val:=val) (xs:=arrOf st) (i:=sa+k) (j:=sb) #[O] (sA.sub #[O] #[O]);have ss2:=zkr (val:=val) (xs:=arrOf st) (i:=sb) (j:=sb+m) #[O] (sB.sub #[O] #[O]);by_cases hle:na - k<=m
 ·rw [if_pos hle];exact aQ (zls (a:=#[wn].extract (sa+k) sb) (b:=#[wn].extract sb (sb+m)) hC xT.kind ma mb ss1 ss2 #[O] #[O] hf hl fin)
 ·rw [if_neg hle];exact aQ (zlu (a:=#[wn].extract (sa+k) sb) (b:=#[wn].extract sb (sb+m)) hC xT.kind ma mb ss1 ss2 #[O] #[O] hf hl fin)
end
end Srt
end
section
namespace Srt
open PySem PyProof.Rows
variable {j:Nat}
noncomputable def Runs (val:Keyed->Int) (xs:Array Keyed):List (Nat×Nat×Nat)->Nat->Nat->Prop
 | [],lo,hi=>lo=hi
 | (s,n,_) :: r,lo,hi=>s=lo/\1<=n/\SIn val xs lo (lo+n)/\Runs val xs r (lo+n) hi
section
variable {val:Keyed->Int}
theorem Runs.le {xs:Array Keyed}:∀ {p:List (Nat×Nat×Nat)} {lo hi:Nat},Runs val xs p lo hi->lo+p.length<=hi
 | [],lo,hi,h=>by
  have h:lo=hi:=h;simp only [kf];lia
 | (s,n,w) :: r,lo,hi,h=>by
  obtain⟨_,h1,_,h2⟩:=h;have:=h2.le;simp only [dw];lia
theorem Runs.append {xs:Array Keyed}:∀ {p q:List (Nat×Nat×Nat)} {lo hi:Nat},Runs val xs (p++q) lo hi↔∃ mid,Runs val xs p lo mid/\Runs val xs q mid hi
 | [],q,lo,hi=>⟨fun h=>⟨lo,rfl,h⟩,fun ⟨mid,h1,h2⟩=>by
   have h1:lo=mid:=h1;subst h1;exact h2⟩
 | (s,n,w) :: p,q,lo,hi=>by
  constructor
  ·rintro⟨h1,h2,h3,h4⟩;obtain⟨mid,h5,h6⟩:=Runs.append.mp h4;exact⟨mid,⟨h1,h2,h3,h5⟩,h6⟩
  ·rintro⟨mid,⟨h1,h2,h3,h5⟩,h6⟩;exact⟨h1,h2,h3,Runs.append.mpr ⟨mid,h5,h6⟩⟩
theorem Runs.keep {xs ys:Array Keyed}:∀ {p:List (Nat×Nat×Nat)} {lo hi:Nat},Runs val xs p lo hi->(∀ k,lo<=k->k < hi->ys[k]? = xs[k]?)->Runs val ys p lo hi
 | [],lo,hi,h,_=>h
 | (s,n,w) :: p,lo,hi,h,e=>by
  obtain⟨h1,h2,h3,h4⟩:=h;have:=h4.le;refine⟨h1,h2,fun i j a b c=>?_,h4.keep fun k a b=>e k #[O] b⟩;rw [zaz (e i #[O] #[O]),zaz (e j #[O] #[O])];exact h3 i j a b c
theorem zm6 {α:Type} (p q:List α) (x y v:α):((p++x :: y :: q).toArray.setIfInBounds p.length v).eraseIdxIfInBounds (p.length+1)=(p++v :: q).toArray:=by
 simp [Array.eraseIdxIfInBounds];rw [List.eraseIdx_append_of_length_le #[O],show p.length+1 - p.length=1 by lia];rfl
theorem zm7 {α:Type} (q:List α) (z:α) (f:α->α):(q++[z]).toArray.modify ((q++[z]).toArray.size - 1) f=(q++[f z]).toArray:=by
 apply Array.ext';simp;induction q with
 | nil=>rfl
 | cons a q ih =>
  show (a :: (q++[z])).modify (q.length+1) f=a :: (q++[f z]);rw [List.modify_succ_cons,ih]
theorem zkt {xs:Array Keyed} {p:List (Nat×Nat×Nat)} {n:Nat} (hl:p.length<=1) (hn:1<=n) (h:Runs val xs p 0 n):SIn val xs 0 n:=by
 match p,hl,h with
 | [],_,h =>
  have h:0=n:=h;lia
 | [(a,b,c)],_,h =>
  obtain⟨_,_,h3,h4⟩:=h;have h4:0+b=n:=h4;rw [<- h4];exact h3
 | _ :: _ :: _,hl,_=>simp at hl
theorem zlx {α:Type} {p:List α} (h:j+2<=p.length):∃ pre x y post,p=pre++x :: y :: post/\pre.length=j:=by
 refine⟨p.take j,p[j],p[j+1],p.drop (j+2),?_,by rw [aU]; lia⟩;have e1:=(dh j p).symm;rw [dQ (show j < p.length by lia),dQ (show j+1 < p.length by lia)] at e1;exact e1
end
section
variable {prog:Program} {w:World} {A:Around} {E:Value->Shared->Prop} {s:Shared} {a₀:Array Keyed} {κ:SortKind} {val:Keyed->Int}
theorem zix {st:SortSt} {pre post:List (Nat×Nat×Nat)} {x y:Nat×Nat×Nat} {hi:Nat} {Q:Bool->SortSt->Prop} (hC:Cmp prog w A s κ val a₀) (hB:SB κ a₀ st) (hp:pendingOf st=(pre++x :: y :: post).toArray) (hR:Runs val #[wn] (pre++x :: y :: post) 0 hi) (Af:hi<=a₀.size)
  (h:∀ nU v,SB κ a₀ nU->pendingOf nU=(pre++v :: post).toArray->(∀ k,hi<=k->#[Ch][k]? = #[wn][k]?)->Runs val #[Ch] (pre++v :: post) 0 hi->Q true nU) :
  wpS #[ss] A E s (mergeAt' pre.length) Q st:=by
 obtain⟨sa,na,pw⟩:=x;obtain⟨sb,nb,pw2⟩:=y;obtain⟨mid,r1,r2⟩:=Runs.append.mp hR;obtain⟨rfl,q1,q2,rfl,q4,q5,r3⟩:=r2;have hle:=r3.le;refine zlw (i:=pre.length) (sa:=sa) (na:=na) (pw:=pw) (sb:=sa+na) (nb:=nb) (pw2:=pw2) hC hB (by rw [hp]; simp) (by rw [hp]; simp) rfl q1 q4 #[O] q2 q5 fun nU p6 rZ hk hs=>?_
 refine h nU (sa,na+nb,pw) p6 (by rw [rZ,hp,zm6]) (fun k yH=>hk k #[O]) ?_;refine Runs.append.mpr ⟨sa,r1.keep fun k _ b=>hk k #[O],rfl,#[O],?_,?_⟩
 ·rw [<- Nat.add_assoc];exact hs
 ·rw [<- Nat.add_assoc];exact r3.keep fun k a b=>hk k #[O]
theorem zoL {n:Nat} {c:Prop} [Decidable c] (h:¬ n<=1):(if c then n - 2 - 1 else n - 2)+2<=n:=by
 by_cases hc:c
 ·rw [if_pos hc];lia
 ·rw [if_neg hc];lia
theorem zm8 {st:SortSt} {p:List (Nat×Nat×Nat)} {hi:Nat} {Q:Bool->SortSt->Prop} (hj:j+2<=p.length) (hC:Cmp prog w A s κ val a₀) (hB:SB κ a₀ st) (hp:pendingOf st=p.toArray) (hR:Runs val #[wn] p 0 hi) (Af:hi<=a₀.size)
  (h:∀ nU p',SB κ a₀ nU->pendingOf nU=p'.toArray->Runs val #[Ch] p' 0 hi->p'.length+1=p.length->Q true nU):wpS #[ss] A E s (mergeAt' j) Q st:=by
 obtain⟨pre,x,y,post,rfl,rfl⟩:=zlx hj;exact zix hC hB hp hR Af fun nU v a b _ d=>h nU _ a b d (by simp only [aO,dw]; lia)
theorem zqB {st:SortSt} {Q:Unit->SortSt->Prop} (hC:Cmp prog w A s κ val a₀) (hB:SB κ a₀ st) (hp:pendingOf st = #[]) (h2:1<=a₀.size)
  (h:∀ nU,SB κ a₀ nU->SIn val #[Ch] 0 a₀.size->Q () nU):wpS #[ss] A E s sortRuns' Q st:=by
 rw [sortRuns'_eq];refine aQ (iD ?_);dsimp only;rw [hB.size];generalize minRun' a₀.size a₀.size 0=mr;refine aQ (fI (d6 (I:=fun x c nU=>∃ lo p,c=(none,lo)/\SB κ a₀ nU/\pendingOf nU=p.toArray/\Runs val #[Ch] p 0 lo/\lo<=a₀.size/\min x a₀.size<=lo)
  (Q:=fun c nU=>∃ p,c=(none,a₀.size)/\SB κ a₀ nU/\pendingOf nU=p.toArray/\Runs val #[Ch] p 0 a₀.size) ?step ?fin ⟨0,[],rfl,hB,hp,rfl,#[O],#[O]⟩) ?post)
 case fin =>
  rintro c nU ⟨lo,p,rfl,p6,rZ,hR,rY,hx⟩;have:lo=a₀.size:=by lia
  subst this;exact⟨p,rfl,p6,rZ,hR⟩
 case step =>
  rintro x c nU _ hx ⟨lo,p,rfl,p6,rZ,hR,rY,Be⟩;dsimp only;by_cases pO:lo>=a₀.size
  ·rw [if_pos pO];have:lo=a₀.size:=by lia
   subst this;exact aT ⟨p,rfl,p6,rZ,hR⟩
  rw [if_neg pO];refine aQ (zoG hC #[O] #[O] (SF.refl p6) fun m pS hF1 yL uS hs1=>?_);dsimp only;apply zr6
  ·intro k1 k2;by_cases HP:m < mr
   ·rw [if_pos HP]
    (refine aQ #[PN])
    refine aQ (zrz hC #[O] #[O] hF1 hs1 fun oI Bf pH=>?_);rw [if_neg #[D]];have vM:1<=min #[VX] mr:=by lia
    have uO:lo+min #[VX] mr<=a₀.size:=by lia
    generalize min #[VX] mr=n at pH vM uO |-
    revert uO; revert vM; revert pH; revert Bf; revert oI; revert n
    exact k1 ()
   ·rw [if_neg HP];have uO:lo+m<=a₀.size:=by lia
    clear uS HP
    revert uO; revert yL; revert hs1; revert hF1; revert pS; revert m
    exact k2 ()
  intro n oI Bf pH vM uO;refine aQ (iD ?_);have va:pendingOf oI=p.toArray:=Bf.pend.trans rZ;have CZ:Runs val (arrOf oI) p 0 lo:=hR.keep fun k _ b=>Bf.low k b
  rcases kN p with rfl | ⟨q,z,rfl⟩
  ·rw [va];show wpS _ _ _ _ (do
    modify fun s=>setPending s ((pendingOf s).push (lo,n,0)); pure (dP (none,lo+n))) _ _
   refine aQ (gQ (aT ⟨lo+n,[(lo,n,0)],rfl,⟨Bf.b.perm,Bf.b.kind,Bf.b.failed⟩,?_,?_,#[O],#[O]⟩))
   ·show #[QF].push _=_;rw [va];rfl
   ·have h0:0=lo:=CZ;subst h0;exact⟨rfl,vM,pH,rfl⟩
  obtain⟨s1,n1,w1⟩:=z;rw [va,i8,show ((q++[(s1,n1,w1)]).toArray).back? = some (s1,n1,w1) by simp];rw [i8] at va CZ;dsimp only;generalize power' a₀.size (2*s1+n1) (2*s1+n1+n1+n) a₀.size=pw;refine aQ (fI (d6 (I:=fun _ c nU=>c=(none,())/\∃ q' z,SB κ a₀ nU/\pendingOf nU=(q'++[z]).toArray/\Runs val #[Ch] (q'++[z]) 0 lo/\(∀ k,lo<=k->#[Ch][k]? = (arrOf oI)[k]?))
   (Q:=fun c nU=>c=(none,())/\∃ q' z,SB κ a₀ nU/\pendingOf nU=(q'++[z]).toArray/\Runs val #[Ch] (q'++[z]) 0 lo/\(∀ k,lo<=k->#[Ch][k]? = (arrOf oI)[k]?)) ?_ (fun _ _ hh=>hh) ⟨rfl,q,(s1,n1,w1),Bf.b,va,CZ,fun _ _=>rfl⟩) ?_)
  ·rintro x2 c oI _ wj ⟨rfl,q',z,ug,rk,xU,ud⟩;refine aQ (iD ?_);rcases kN q' with rfl | ⟨q2,y,rfl⟩
   ·rw [rk,if_neg #[M]];exact aT ⟨rfl,[],z,ug,rk,xU,ud⟩
   rw [i8,cH] at rk xU;have FG:#[QF].size - 2=q2.length:=by rw [rk]; simp
   have eel:(if #[QF].size > 1 then #[QF][#[QF].size - 2]? else none)=some y:=by
    rw [if_pos (by rw [rk]; simp),FG,rk];simp
   rw [eel];obtain⟨y1,y2,y3⟩:=y;dsimp only;by_cases ho:y3<=pw
   ·rw [if_pos ho];exact aT ⟨rfl,q2++[(y1,y2,y3)],z,ug,by rw [rk,cH],by rw [cH]; exact xU,ud⟩
   ·rw [if_neg ho,FG];refine aQ (zix hC ug rk xU #[O] fun Fo v HQ yO Bc HR=>?_);rw [if_neg #[D]];exact aT ⟨rfl,q2,v,HQ,yO,HR,fun k hk=>(Bc k hk).trans (ud k hk)⟩
  ·rintro c oI ⟨rfl,q',z,ug,rk,xU,ud⟩;obtain⟨z1,z2,z3⟩:=z;dsimp only;refine aQ (gQ (aQ (gQ (aT ⟨lo+n,q'++[(z1,z2,pw),(lo,n,0)],rfl,⟨ug.perm,ug.kind,ug.failed⟩,?_,?_,#[O],#[O]⟩))))
   ·show (#[QF].modify (#[QF].size - 1) fun x=>(x.fst,x.2.fst,pw)).push (lo,n,0)=_;rw [rk,zm7];simp
   ·show Runs val (arrOf oI) _ _ _;obtain⟨mid,r1,r2⟩:=Runs.append.mp xU;obtain⟨e1,e2,e3,e4⟩:=r2;have e4:mid+z2=lo:=e4;refine Runs.append.mpr ⟨mid,r1,e1,e2,e3,e4.symm,vM,?_,?_⟩
    ·intro i j a1 a2 a3;rw [zaz (ud i #[O]),zaz (ud j #[O])];exact pH i j #[O] a2 #[O]
    ·show mid+z2+n=lo+n;lia
 case post =>
  rintro c pS ⟨p,rfl,xT,va,CZ⟩;dsimp only;have oT:=CZ.le;refine aQ (fI (d6 (I:=fun x c nU=>c=(none,())/\∃ p,SB κ a₀ nU/\pendingOf nU=p.toArray/\Runs val #[Ch] p 0 a₀.size/\p.length<=max 1 (a₀.size - x))
   (Q:=fun c nU=>c=(none,())/\SB κ a₀ nU/\SIn val #[Ch] 0 a₀.size) ?_ ?_ ⟨rfl,p,xT,va,CZ,#[O]⟩) ?_)
  ·rintro x c oI _ hx ⟨rfl,p2,ug,rk,xU,qg⟩;refine aQ (iD ?_);have hsz:#[QF].size=p2.length:=by rw [rk]; simp
   rw [hsz];by_cases hle:p2.length<=1
   ·rw [if_pos hle];exact aT ⟨rfl,ug,zkt hle h2 xU⟩
   rw [if_neg hle];refine aQ (zm8 (p:=p2) (zoL hle) hC ug rk xU (aH _) fun Fo p3 HQ yO HR hl3=>?_);rw [if_neg #[D]];exact aT ⟨rfl,p3,HQ,yO,HR,#[O]⟩
  ·rintro c oI ⟨rfl,p2,ug,rk,xU,qg⟩;exact⟨rfl,ug,zkt #[O] h2 xU⟩
  ·rintro c oI ⟨rfl,ug,hS⟩;exact aT (h oI ug hS)
end
end Srt
end
section
namespace Srt
open PySem PyProof.Rows
noncomputable def num (B:Int):List Int->Int
 | []=>0
 | n :: r=>n*B ^ r.length+num B r
theorem LN {B:Int} (hB:1<=B):∀ {ns:List Int},(∀ n∈ns,0<=n/\n < B)->0<=num B ns/\num B ns < B ^ ns.length
 | [],_=>by simp [num]
 | n :: r,h=>by
  obtain⟨h1,h2⟩:=LN hB (ns:=r) fun m hm=>h m (aZ _ hm)
  obtain⟨a,b⟩:=h n #[M];have hp:0 < B ^ r.length:=Int.pow_pos #[O];have e:B ^ (n :: r).length=B ^ r.length*B:=by rw [dw,fw]
  show 0<=n*B ^ r.length+num B r/\n*B ^ r.length+num B r < _;rw [e];have h3:0<=n*B ^ r.length:=Int.mul_nonneg a #[O];have h4:n*B ^ r.length<=(B - 1)*B ^ r.length:=du #[O] #[O];have h5:(B - 1)*B ^ r.length=B ^ r.length*B - B ^ r.length:=by rw [Int.sub_mul,Int.one_mul,jg]
  lia
noncomputable def ziy:List Int->List Int->Bool
 | [],[]=>false
 | [],_ :: _=>true
 | _ :: _,[]=>false
 | x :: xs,y :: ys=>if x=y then ziy xs ys else decide (x < y)
theorem zdm (x y:Int) (xs ys:List Int):ziy (x :: xs) (y :: ys)=if x=y then ziy xs ys else decide (x < y):=rfl
theorem zku {B:Int} (hB:1<=B):∀ {ms ns:List Int},ms.length=ns.length->(∀ n∈ms,0<=n/\n < B)->(∀ n∈ns,0<=n/\n < B)->ziy ms ns=decide (num B ms < num B ns)
 | [],[],_,_,_=>by simp [ziy,num]
 | [],_ :: _,h,_,_=>by simp at h
 | _ :: _,[],h,_,_=>by simp at h
 | m :: ms,n :: ns,hl,h1,h2=>by
  have yV:ms.length=ns.length:=by simpa using hl
  have ih:=zku hB yV (fun x hx=>h1 x (aZ _ hx)) (fun x hx=>h2 x (aZ _ hx));obtain⟨a1,a2⟩:=LN hB fun x hx=>h1 x (aZ m hx)
  obtain⟨b1,b2⟩:=LN hB fun x hx=>h2 x (aZ n hx)
  rw [zdm];show _=decide (m*B ^ ms.length+num B ms < n*B ^ ns.length+num B ns);rw [yV] at a2 |-;have hp:0 < B ^ ns.length:=Int.pow_pos #[O];by_cases e:m=n
  ·rw [if_pos e,ih,e];rw [eE];simp only [decide_eq_true_eq];lia
  ·rw [if_neg e,eE];simp only [decide_eq_true_eq];have key:∀ x y:Int,x < y->x*B ^ ns.length+B ^ ns.length<=y*B ^ ns.length:=fun x y hxy=>by
    have:=du (show x+1<=y by lia) (show 0<=B ^ ns.length by lia);rw [Int.add_mul,Int.one_mul] at this;exact this
   constructor
   ·intro h;have:=key m n h;lia
   ·intro h;rcases mj m n with h3 | h3 | h3
    ·exact h3
    ·exact absurd h3 e
    ·have:=key n m h3;lia
section
variable {prog:Program} {w:World} {A:Around} {E:Value->Shared->Prop} {s:Shared}
theorem zkv {Q:Bool->Shared->Prop} {fin:Bool}:∀ {xs ys:List Value} {ms ns:List Int} (i:Nat),IntsAre xs ms->IntsAre ys ns->ms.length=ns.length->Q (if ms=ns then fin else ziy ms ns) s->PySem.W.KatLex prog w A true fin Q (xs.zip ys) i s
 | [],[],[],[],i,_,_,_,h=>PySem.W.kat_nil (by simpa using h)
 | _ :: _,_,[],_,_,hx,_,_,_=>by cases hx
 | [],_,_ :: _,_,_,hx,_,_,_=>by cases hx
 | _,[],_,_ :: _,_,_,hy,_,_=>by cases hy
 | _,_ :: _,_,[],_,_,hy,_,_=>by cases hy
 | x :: xs,y :: ys,m :: ms,n :: ns,i,hx,hy,hl,h=>by
  cases hx with
  | cons _ t hx =>
   cases hy with
   | cons _ u hy =>
    refine PySem.W.kat_cons (wpAny_eqBool_int ?_);by_cases e:m=n
    ·rw [show (m == n)=true by simpa using e];refine PySem.W.kat_yes (zkv (i+1) hx hy (by simpa using hl) ?_);subst e;rw [zdm,if_pos rfl] at h;simpa using h
    ·rw [show (m == n)=false by simpa using e];have oH:¬ (m :: ms=n :: ns):=fun z=>e (lx z).1
     rw [if_neg oH,zdm,if_neg e] at h;refine PySem.W.kat_no ?_;by_cases hi:i=0
     ·subst hi;exact oneLt_int h
     ·have hb:(true && i == 0)=false:=by simp [hi]
      rw [hb];exact PySem.W.kat_one _ _ (wpAny_lt_int h)
end
end Srt
end
section
namespace PySem
open PyProof.Rows
noncomputable def zeR (h:Heap) (d:Addr) (es:Array DictEntry) (ep:Nat):Prop:=∃ o,h.get? d=some o/\o.ExactDict/\o.data = .dict es ep
theorem zeR.at' {h h':Heap} {d:Addr} {es:Array DictEntry} {ep:Nat} (x:zeR h d es ep) (e:∀ o,h.get? d=some o->h'.get? d=some o):zeR h' d es ep:=let ⟨o,ho,r⟩:=x; ⟨o,e _ ho,r⟩
theorem zeR.typeIs {s:Shared} {d:Addr} {es:Array DictEntry} {ep:Nat} (x:zeR s.heap d es ep):s.TypeIs (.ref d) "dict":=let ⟨o,ho,hc,_⟩:=x; ⟨o,ho,hc.1⟩
section
variable {prog:Program} {w:World} {A:Around} {E:Value->Shared->Prop} {s:Shared} {it d:Addr} {i ep:Nat} {es:Array DictEntry}
theorem ziz {Q:Value->Shared->Prop} (hd:(d == sysModules)=false) (hm:zeR s.heap d es ep) (hQ:Q #[wf] { s with heap:=s.heap.push { cls:=.type "dict_keyiterator",data:=.fields #[.ref d,.int 0 0,.int es.size 0,.int ep 0] } }):wpAny #[ss] A (pyIter (.ref d)) Q E s:=by
 have hT:=hm.typeIs;obtain⟨o,ho,hc,DX⟩:=id hm;refine jL hT mR (cI mR hT F.entry_dict_iter ?_ (F.args_dict_iter_1 _)); unfold Builtin.«dict.__iter__» Builtin.Dict.dictSlotNone;refine aB (aB (kO hT ?_)); show wpAny _ _ (pure (bP d)) _ _ s;refine aK ?_; show wpAny _ _ (kP d >>= _) _ _ s; unfold kP;rw [if_neg (show ¬ ((d == sysModules)=true) by rw [hd]; decide)];refine aB (aK (aB (jN ho DX (aB (kg ho DX (aB (cS (aK ⟨_,rfl,"dict_keyiterator",_,⟨_,aX _ rfl,rfl⟩,F.slot_dict_keyiterator_next.lookup,?_⟩))))))));simpa [rawInt] using hQ
theorem ziA {e:DictEntry} {Q:Option Value->Shared->Prop} (hit:s.heap.IsKeyIter it d i es.size ep) (hm:zeR s.heap d es ep) (he:es[i]? = some e)
  (hQ:∀ h',h'.IsKeyIter it d (i+1) es.size ep->cC it s.heap h'->Q (some e.key) { s with heap:=h' }):wpAny #[ss] A #[R9] Q E s:=by
 (obtain⟨o,ho,hc,hd⟩:=id hit)
 obtain⟨od,DY,vV,Aj⟩:=id hm;have n6:i < es.size:=(eP.mp he).1;have B0:jr "dict_keyiterator" = false:=by decide +kernel
 unfold pyNext; refine aB (d8 (cj (name:=cJ "__next__") hit.typeIs fJ #[UX]));refine aB #[QV];simp only [B0,ck,if_false]; show wpAny _ _ (if (bP d == eh)=true then _ else _) _ _ s;rw [if_neg (show ¬ ((bP d == eh)=true) from fun z=>bH z)];refine aB (aK (aB (jN DY Aj ?_)));rw [if_neg (show ¬ ((((es.size:Nat):Int) != ((es.size:Nat):Int))=true) by simp)];refine aB (aK (aB (kg DY Aj ?_)));rw [if_neg #[M]]; refine aK ?_;simp only [show ¬ ((i:Int) < 0) by lia,if_false,cG,he];refine aB (aB (fG hit.typeIs (aK (aB (kQ hit.typeIs ?_)))));show wpAny _ _ (setField #[PJ] 1 (rawInt ((i:Int)+1)) >>= _) _ _ s; refine aB #[Sz];have sd:(s.heap.update it (jE (·.setIfInBounds 1 (rawInt ((i:Int)+1))))).IsKeyIter it d (i+1) es.size ep:=⟨_,dX _ ho (gK (eU hd _)),(jK ..).trans hc,by rw [eU hd]; simp [rawInt]⟩;refine aB (cQ (aB (kQ (s:={ s with heap:=s.heap.update it (jE (·.setIfInBounds 1 (rawInt ((i:Int)+1)))) }) sd.typeIs ?_)));show wpAny _ _ (pure e.key) _ _ _; exact aK (aK ⟨_,rfl,aK (hQ _ sd (eI ..))⟩)
theorem zkw {Q:Option Value->Shared->Prop} (hh:A.handled=none) (hit:s.heap.IsKeyIter it d i es.size ep) (hm:zeR s.heap d es ep) (he:es.size<=i) (hQ:∀ h',mF it s.heap h'->Q none { s with heap:=h' }):wpAny #[ss] A #[R9] Q E s:=by
 (obtain⟨o,ho,hc,hd⟩:=id hit)
 obtain⟨od,DY,vV,Aj⟩:=id hm;have B0:jr "dict_keyiterator" = false:=by decide +kernel
 unfold pyNext; refine aB (d8 (cj (name:=cJ "__next__") hit.typeIs fJ #[UX]));refine aB #[QV];simp only [B0,ck,if_false]; show wpAny _ _ (if (bP d == eh)=true then _ else _) _ _ s;rw [if_neg (show ¬ ((bP d == eh)=true) from fun z=>bH z)];refine aB (aK (aB (jN DY Aj ?_)));rw [if_neg (show ¬ ((((es.size:Nat):Int) != ((es.size:Nat):Int))=true) by simp)];refine aB (aK (aB (kg DY Aj ?_)));rw [if_neg #[M]]; refine aK ?_;simp only [show ¬ ((i:Int) < 0) by lia,if_false,cG,Array.getElem?_eq_none he];refine aB (aB (fG hit.typeIs (aK ?_)));show wpAny _ _ (setField #[PJ] 0 .none >>= _) _ _ s; refine aB #[Sz];show wpAny _ _ (newExc (.type "StopIteration") [] >>= _) _ _ _; simp only [newExc,newTuple];refine aB (aB (cS (aB (m:=firstArgMember _ _) (dk (a:=eh) (by first | rfl | (simp only [firstArgMember]; rfl)) (cS ?_ (by size_fits)))) (by size_fits)));simp only [raiseNew]; refine aB (lq ?_); rw [show A.in1.handled=none from hh];refine aB (aK (mG ?_)); refine aB (gf (T:="StopIteration") (b:=true) ⟨_,aX _ rfl,rfl⟩ iB ?_)
 (exact aK (hQ _ (((eI ..).extBut.push _).push _)))
theorem zly (hh:A.handled=none) (I d:Addr) (oH:d≠I) (es:Array DictEntry) (ep:Nat) :
  Walks prog w A I [I,d] [I] es.size (fun i v=>∃ e,es[i]? = some e/\v=e.key) (fun i h=>h.IsKeyIter I d i es.size ep/\zeR h d es ep) where
 sub:=(fun b hb=>by simp at hb; simp [hb])
 frame:=(fun _ _ _ st hk=>⟨st.1.at fun o e=>hk I #[M] o e,st.2.at' fun o e=>hk d #[M] o e⟩)
 item:=fun i s Q E hi st hQ=>ziA st.1 st.2 (getElem?_pos es i hi) fun h' sd pF=>hQ _ h' s.toks ⟨es[i],getElem?_pos es i hi,rfl⟩ ⟨sd,st.2.at' fun o e=>pF.extBut d o oH e⟩ fun b o hb e=>pF.extBut b o (fun h=>hb (by simp [h])) e
 done:=fun s Q E st hQ=>zkw hh st.1 st.2 (aH _) fun h' BI=>hQ h' s.toks fun b o hb e=>BI b o (fun h=>hb (by simp [h])) e
 self:=(fun _ _ _ _ st hQ=>k9 st.1 hQ)
theorem zoM (lo:(d == sysModules)=false):PySem.W.KdlSrc prog w "dict" d d es.size (fun i v=>∃ e,es[i]? = some e/\v=e.key) (fun h=>zeR h d es ep) where
 type:=fun _ hm=>hm.typeIs
 there:=fun _ hm=>let ⟨_,ho,_⟩:=hm; ⟨bA ho,bA ho⟩
 keep:=(fun _ _ hm hk=>hm.at' fun o e=>hk d #[PD] o e)
 notList:=by decide
 notTuple:=by decide
 hint:=fun _ _ _ _ hm hq=>PySem.W.kdl_hint_dict hm.typeIs hq
 iter:=fun _ _ hh hm=>⟨_,_,(fun _ _ hq=>ziz lo hm hq),zly hh _ d (by obtain⟨_,ho,_⟩:=id hm; exact bY (bA ho)) es ep,⟨⟨_,aX _ rfl,rfl,rfl⟩,hm.at' fun o e=>aJ _ e⟩⟩
end
end PySem
end
section
namespace Srt
open PySem PyProof.Rows
variable {vs:List Value}
section
variable {prog:Program} {w:World} {A:Around} {E:Value->Shared->Prop} {s:Shared} {κ:SortKind} {val:Keyed->Int}
theorem zew {p:Keyed} (h:p∈#[Qs].toList):p.1∈vs/\p.2=p.1:=by
 rw [kR] at h;obtain⟨i,hi,e⟩:=gh h;rw [List.getElem_zip] at e;rw [<- e];exact⟨d7 _,rfl⟩
theorem zqC {xs:Array Keyed} (hp:xs.Perm #[Qs]) (hs:SIn val xs 0 #[Qs].size):(xs.map (·.2)).toList.Perm vs/\(xs.map (·.2)).toList.Pairwise fun x y=>val (x,x)<=val (y,y):=by
 (have hl:xs.toList.Perm (vs.zip vs):=by rw [<- kR]; exact gU.mp hp)
 have hm:∀ p∈xs.toList,p=(p.2,p.2):=fun p rZ=>by
  have:=zew (by rw [kR]; exact hl.mem_iff.mp rZ);exact mK this.2.symm rfl
 constructor
 ·rw [mS];refine (hl.map (·.2)).trans ?_;rw [show (vs.zip vs).map (·.2)=vs from List.map_snd_zip (aH _)]
 ·rw [mS,dO,dR];intro i j hi hj rf
  (have pT:i < xs.size:=by simpa using hi)
  (have qu:j < xs.size:=by simpa using hj)
  have h1:=hs i j (bW _) #[O] (by rw [<- hp.size_eq]; exact qu);rw [zae (getElem?_pos xs i pT),zae (getElem?_pos xs j qu)] at h1;have e1:=hm xs.toList[i] (d7 _);have e2:=hm xs.toList[j] (d7 _);rw [<- e1,<- e2];simpa using h1
theorem zlz {a:Addr} {n:Nat} {P:PySem.Fin->Shared->Prop} (ho:s.heap.get? a=some (seqObj "list" vs.toArray n)) (nV:vs.length<=sizeLine)
  (ub:∀ h',(∀ b o,b≠a->s.heap.get? b=some o->h'.get? b=some o)->2<=vs.length->∀ (Q:SortKind->Shared->Prop) (E:Value->Shared->Prop),Q κ { s with heap:=h' }->wpAny #[ss] A (keyKind' vs.toArray) Q E { s with heap:=h' })
  (uh:∀ h',(∀ b o,b≠a->s.heap.get? b=some o->h'.get? b=some o)->Cmp prog w A { s with heap:=h' } κ val #[Qs])
  (h:∀ out:Array Value,out.toList.Perm vs->(out.toList.Pairwise fun x y=>val (x,x)<=val (y,y))->P (.done (.ret .none)) { s with heap:=sortedHeap s.heap a vs out }):wpAny #[ss] A (Builtin.«list.sort» ⟨[.ref a],[]⟩) P E s:=by
 rw [list_sort_plain]
 (have ha:a < s.heap.objs.size:=bA ho)
 have hz:vs.toArray.size=vs.length:=aS;refine aB (listItems_at ho rfl (aB (ly ho rfl ?_ (hsz:=by rw [hz]; exact nV))))
 (obtain⟨e1,DW⟩:∃ e1,(s.heap.update a (fk fun _=>#[])).get? a=some (seqObj "list" #[] e1):=⟨_,get?_update_seq ho (fun _=>#[])⟩)
 refine aB (mH DW rfl (aB (jp (aB (wpAny_newList (cQ ?_))) (hsz:=nV))));have FH:(((s.heap.update a (fk fun _=>#[])).push (seqObj "tuple" vs.toArray 0)).push (seqObj "list" #[] 0)).get? a=some (seqObj "list" #[] e1):=aJ _ (aJ _ DW);have hk6:∀ b o,b≠a->s.heap.get? b=some o->(((s.heap.update a (fk fun _=>#[])).push (seqObj "tuple" vs.toArray 0)).push (seqObj "list" #[] 0)).get? b=some o:=fun b o hb e=>aJ _ (aJ _ ((Heap.get?_update_ne _ _ _ _ hb).trans e))
 (show wpAny #[ss] A _ P E { s with heap:=((s.heap.update a (fk fun _=>#[])).push (seqObj "tuple" vs.toArray 0)).push (seqObj "list" #[] 0) })
 dsimp only;have hcm:=uh _ hk6;have fin:∀ nU:SortSt,SB κ #[Qs] nU\/(arrOf nU=pairsOf vs/\failedOf nU=none)->SIn val #[Ch] 0 #[Qs].size ->
   P (.done (.ret .none)) { s with heap:=sortedHeap s.heap a vs (#[Ch].map (·.2)) }:=fun nU hB hs=>by
  have hp:#[Ch].Perm #[Qs]:=by
   rcases hB with hB | hB
   ·exact hB.perm
   ·rw [hB.1]
  obtain⟨b1,b2⟩:=zqC hp hs;exact h _ b1 b2
 (by_cases h2:vs.toArray.size < 2)
 ·rw [if_pos h2,if_pos h2];refine aB (aK ?_); rw [StateT.run_pure]; refine aB (aK ?_);dsimp only;refine aB (mH FH rfl (aB (ly FH rfl ?_ (hsz2:=by rw [nB]; show #[Qs].size<=_; rw [jX]; lia))))
  (simp only [bne_self_eq_false,ck,if_false])
  refine aK (fin (m5 general' #[VC] #[] 7 none) (.inr ⟨rfl,rfl⟩) fun i j _ rf hj=>?_);have e:i=j:=by rw [jX] at hj; lia
  rw [e];exact dz _
 ·rw [if_neg h2,if_neg h2];refine aB (ub _ hk6 #[O] _ _ ?_);refine aB (et (zqB (a₀:=pairsOf vs) (κ:=κ) (val:=val) (st:=m5 κ #[VC] #[] 7 none) (Q:=fun _ nU=>SB κ #[Qs] nU/\SIn val #[Ch] 0 #[Qs].size)
   hcm ⟨Array.Perm.refl _,rfl,rfl⟩ rfl (by rw [jX]; lia) fun nU a1 a2=>⟨a1,a2⟩) ?_ fun _ _ e=>e)
  rintro⟨⟨⟩,nU⟩ s' ⟨rfl,hB,hs⟩;dsimp only;refine aB (mH FH rfl (aB (ly FH rfl ?_ (hsz2:=bX (Nat.le_of_eq ((nB ..).trans (hB.perm.size_eq.trans (jX _)))) #[O]))));rw [hB.failed]
  (simp only [bne_self_eq_false,ck,if_false])
  exact aK (fin nU (.inl hB) hs)
theorem zlA {v:Value} {Q:Value->Shared->Prop} (nV:vs.length<=sizeLine)
  (HS:∀ R:List Value->Shared->Prop,(∀ (h':Heap) (tk:Nat),(∀ b o,s.heap.get? b=some o->h'.get? b=some o)->R vs { s with heap:=h',toks:=tk })->wpAny #[ss] A.in1 (collect v) R E s)
  (ub:∀ s',(∀ b o,s.heap.get? b=some o->s'.heap.get? b=some o)->2<=vs.length->∀ (A':Around) (Q:SortKind->Shared->Prop) (E:Value->Shared->Prop),Q κ s'->wpAny #[ss] A' (keyKind' vs.toArray) Q E s')
  (uh:∀ s' A',(∀ b o,s.heap.get? b=some o->s'.heap.get? b=some o)->Cmp prog w A' s' κ val #[Qs])
  (h:∀ (h':Heap) (tk:Nat) (out:Array Value) (e:Nat) (D:Addr),(∀ b o,s.heap.get? b=some o->h'.get? b=some o)->(∀ b o,s.heap.get? b=some o->b < D)->h'.get? D=some (seqObj "list" out e)->out.toList.Perm vs->(out.toList.Pairwise fun x y=>val (x,x)<=val (y,y))->Q #[Pt] { s with heap:=h',toks:=tk }) :
  wpAny #[ss] A (call (.builtin "sorted") [v]) Q E s:=by
 refine Calls.call_function_entry kind_sorted plain_sorted entry_sorted (args_sorted1 _) ?_; unfold Builtin.«sorted»;refine aB (m:=checkCount "sorted" 1 1 _) (aK (aB (et (HS (fun us s'=>us=vs/\∃ (h':Heap) (tk:Nat),s' = { s with heap:=h',toks:=tk }/\∀ b o,s.heap.get? b=some o->h'.get? b=some o) fun h' tk k=>⟨rfl,h',tk,rfl,k⟩) ?_ fun _ _ e=>e)));rintro us s' ⟨rfl,h1,tk,rfl,kk⟩;refine aB (wpAny_newList ?_ (hsz:=nV));have Dv:(h1.push (seqObj "list" us.toArray 0)).get? h1.objs.size=some (seqObj "list" us.toArray 0):=aX _ rfl;have kn:∀ b o,s.heap.get? b=some o->b≠h1.objs.size:=fun b o e=>bY (bA (kk b o e))
 refine aB (cQ (cI slot_list_sort ⟨_,Dv,rfl⟩ entry_list_sort (zlz (κ:=κ) (val:=val) Dv nV (fun h' hk h2 Q E hq=>ub _ (fun b o e=>hk b o (kn b o e) (aJ _ (kk b o e))) h2 _ Q E hq) (fun h' hk=>uh _ _ fun b o e=>hk b o (kn b o e) (aJ _ (kk b o e))) fun out a1 a2=>⟨_,rfl,?_⟩) (args_list_sort _)));obtain⟨e,he⟩:=sortedHeap_at (out:=out) Dv;refine aK ⟨_,rfl,h _ tk out e h1.objs.size (fun b o x=>?_) (fun b o x=>bA (kk _ _ x)) he a1 a2⟩;rw [sortedHeap_old (kn b o x) (by rw [cM]; exact fF (bA (kk _ _ x)))];exact aJ _ (kk _ _ x)
end
end Srt
end
section
namespace L2
open PySem PySem.Spec PyProof.Rows PySem.Builtin.Str
variable {H:Hp} {X:Cx} {h':Heap} {nM:List (Addr×Obj)} {s:Shared} {tk:Nat}
theorem Inv.above {σ:St} {D:Addr} {o:HO} (I:Inv X nM σ H s) (k:∀ b o,s.heap.get? b=some o->h'.get? b=some o) (hD:∀ b o,s.heap.get? b=some o->b < D)
  (new:zat X.prog X.w (nQ H D o) h' D o):H D=none/\Inv X nM σ (nQ H D o) { s with heap:=h',toks:=tk }:=by
 have hn:H D=none:=by
  cases e:H D with
  | none=>rfl
  | some u =>
   obtain⟨ob,z⟩:=zqu (I.hok D u e);exact absurd (hD D ob z) (de _)
 have hL:X.env.locals < D:=by
  obtain⟨m,⟨o,es,ep,ho,_⟩,_⟩:=I.loc;exact hD _ _ ho
 have I1:Inv X nM σ H { s with heap:=h',toks:=tk }:=I.kept k;refine⟨hn,I1.Nv hn (jR (jx I.ok.above hL)) (bY hL) (fun x c e z=>?_) (fun p hp z=>?_) new⟩
 ·obtain⟨v,oc,q,_⟩:=I.cell x c e;exact absurd (hD c oc q) (by rw [z]; exact de _)
 ·exact absurd (hD p.1 _ (I.pin p hp).1) (by rw [z]; exact de _)
end L2
end
section
namespace L2
open PySem PySem.Spec PyProof.Rows Srt
variable {H:Hp} {M:Model} {X:Cx} {h:Heap} {nM:List (Addr×Obj)} {nT:List (List Key×V)} {ns:List Int} {s s':Shared}
noncomputable def zm9 (xs:List V):List Int:=xs.filterMap fun x=>match x with
 | .int n=>some n
 | _=>none
theorem zlB (ns:List Int):zm9 #[Cl]=ns:=by
 unfold zm9;rw [lS];induction ns with
 | nil=>rfl
 | cons n ns ih =>
  rw [gX];simp only [Function.comp];rw [ih]
noncomputable def zd2 (H:Hp) (v:Value):List Int:=match v with
 | .ref a=>(match H a with
  | some #[Q9]=>zm9 xs
  | _=>[])
 | _=>[]
theorem zfM {a:Addr} (h:H a=some (.tup #[Cl])):zd2 H #[Pn]=ns:=by
 unfold zd2;simp only [h];exact zlB ns
noncomputable def zoN (H:Hp) (k:Nat) (B:Int) (ps:List (Addr×List Int)):Prop:=∀ q∈ps,H q.1=some (.tup (q.2.map V.int))/\q.2.length=k/\∀ n∈q.2,0<=n/\n < B
theorem zd3:∀ (ps:List (Addr×List Int)),z0 (ps.map fun q=>V.ref q.1) (ps.map fun q=>bP q.1)
 | []=>.nil
 | q :: ps=>.cons rfl (zd3 ps)
section
variable {X:Cx} {nM:List (Addr×Obj)} {σ:St} {H:Hp} {s:Shared} {k:Nat} {B:Int} {ps:List (Addr×List Int)}
theorem zho (I:Inv X nM σ H s) {q:Addr×List Int} (h:H q.1=some (.tup (q.2.map V.int))):∃ o nP n,s.heap.get? q.1=some o/\o.cls = .type "tuple"/\o.data = .seq nP n/\IntsAre nP.toList q.2:=by
 obtain⟨nP,r,⟨o,ho,hc,n,hd⟩,hz⟩:=I.tuple (nS.of h);exact⟨o,nP.toArray,n,ho,hc,hd,by simpa using intsAre_of r⟩
theorem zqD (I:Inv X nM σ H s) (hT:zoN H k B ps) (hk:1<=k) (kk:∀ b o,s.heap.get? b=some o->s'.heap.get? b=some o):∃ fs:List Value,PySem.W.KatTups s'.heap (ps.map fun q=>bP q.1) fs/\fs.length=ps.length/\∀ v∈fs,∃ n t,v=ju n t:=by
 induction ps with
 | nil=>exact⟨[],trivial,rfl,fun v hv=>by cases hv⟩
 | cons q ps ih =>
  obtain⟨fs,h1,h2,h3⟩:=ih fun q' pC=>hT q' (aZ _ pC)
  obtain⟨hq,hl,_⟩:=hT q #[M];obtain⟨o,nP,n,ho,hc,hd,hi⟩:=zho I hq;have nV:=hi.length;obtain⟨m,ms,e⟩:∃ m ms,q.2=m :: ms:=by
   cases e:q.2 with
   | nil=>rw [e] at hl; simp at hl; lia
   | cons m ms=>exact⟨m,ms,rfl⟩
  rw [e] at hi;cases e2:nP.toList with
  | nil=>rw [e2] at hi; cases hi
  | cons f fr =>
   rw [e2] at hi;cases hi with
   | cons _ t hi =>
    refine⟨.int m t :: fs,nL (kk _ _ ho) hc hd ?_ h1,by simp [h2],fun v hv=>?_⟩
    ·rw [<- cB,e2];rfl
    ·rcases (aV.mp hv) with rfl | hv
     ·exact⟨m,t,rfl⟩
     ·exact h3 v hv
theorem zgN:∀ ms:List Int,ziy ms ms=false
 | []=>rfl
 | m :: ms=>by rw [zdm,if_pos rfl,zgN ms]
theorem zqE (I:Inv X nM σ H s) (hT:zoN H k B ps) (hB:1<=B) {A':Around} (kk:∀ b o,s.heap.get? b=some o->s'.heap.get? b=some o) :
  Cmp X.prog X.w A' s' (tuples' true) (fun p=>num B (zd2 H p.1)) (pairsOf (ps.map fun q=>bP q.1)):=by
 intro x y hx hy Q E hQ;obtain⟨qx,mx,ex⟩:=bE.mp (zew hx).1;obtain⟨qy,my,ey⟩:=bE.mp (zew hy).1;obtain⟨vd,wj,DZ⟩:=hT qx mx;obtain⟨hy1,hy2,hy3⟩:=hT qy my;obtain⟨ox,ix,nx,gx,cx,dx,ax⟩:=zho I vd;obtain⟨oy,iy,ny,gy,cy,dy,ay⟩:=zho I hy1;have ev:decide ((fun p:Keyed=>num B (zd2 H p.1)) x < (fun p:Keyed=>num B (zd2 H p.1)) y)=ziy qx.2 qy.2:=by
  rw [zku hB (wj.trans hy2.symm) DZ hy3,<- zfM vd,<- zfM hy1];simp only [ex,ey]
 rw [ev] at hQ;rw [<- ex,<- ey];refine PySem.W.kat_lt (kk _ _ gx) dx (kk _ _ gy) dy (zkv 0 ax ay (wj.trans hy2.symm) ?_);have hsz:decide (ix.size < iy.size)=false:=by
  have e1:=ax.length;have e2:=ay.length;rw [bT] at e1 e2;exact decide_eq_false #[O]
 rw [hsz];by_cases e:qx.2=qy.2
 ·rw [if_pos e];rw [e,zgN] at hQ;exact hQ
 ·rw [if_neg e];exact hQ
theorem zna (hT:zoN H k B ps) {out:Array Value} (hp:out.toList.Perm (ps.map fun q=>bP q.1)) (hs:out.toList.Pairwise fun x y=>num B (zd2 H x)<=num B (zd2 H y)) :
  ∃ tY:List (Addr×List Int),tY.Perm ps/\(tY.Pairwise fun a b=>num B a.2<=num B b.2)/\out.toList=tY.map fun q=>bP q.1:=by
 let g:Value->Addr×List Int:=fun v=>match v with
  | .ref a=>(a,zd2 H #[Pn])
  | _=>(0,[])
 have hg:∀ q∈ps,g (.ref q.1)=q:=fun q hq=>mK rfl (zfM (hT q hq).1)
 have hv:∀ v∈out.toList,∃ q∈ps,v = .ref q.1:=fun v hv=>by
  obtain⟨q,hq,e⟩:=bE.mp (hp.mem_iff.mp hv);exact⟨q,hq,e.symm⟩
 refine⟨out.toList.map g,?_,?_,?_⟩
 ·refine (hp.map g).trans ?_;rw [cN];have:ps.map (g ∘ fun q=>bP q.1)=ps:=by
   conv=>rhs; rw [<- mI ps]
   exact c7 fun q hq=>hg q hq
  rw [this]
 ·rw [dO];refine iq (fun {x y} hx hy h=>?_) hs;obtain⟨q,hq,rfl⟩:=hv x hx;obtain⟨q',pC,rfl⟩:=hv y hy;exact h
 ·rw [cN]
  conv=>lhs; rw [<- mI out.toList]
  refine c7 fun v yP=>?_
  obtain⟨q,hq,rfl⟩:=hv v yP;rfl
end
theorem zlC {n:Int} {t:Tok}:PySem.W.Looks M h (typeOf (.int n t)) (.type "int"):=PySem.W.Looks.of_pure rfl
theorem zoO {σ:St} {d:Addr} {pf:List #[wp]} (I:Inv X nM σ H s) (hd:H d=some #[SX]) (hk:nT.map (·.1)=pf.map (·.map eG)) :
  (d == sysModules)=false/\nT.length<=sizeLine/\∃ (ps:List (Addr×List Int)) (es:Array DictEntry) (ep:Nat),zeR s.heap d es ep/\es.toList.map (·.key)=(ps.map fun q=>bP q.1)/\ps.map (·.2)=pf/\∀ q∈ps,H q.1=some (.tup (q.2.map V.int)):=by
 obtain⟨hz,hs,xs,hp,o,es,ep,ho,hx,he,vZ,pU⟩:=I.hok d _ hd;refine⟨hs,hz,?_⟩;have key:∀ {nT:List (List Key×V)} {xs:List (List Key×Addr×Value)} {pf:List #[wp]},Paired (fun (p:List Key×V) (q:List Key×Addr×Value)=>p.1=q.1/\H q.2.1=some (.tup (p.1.map kV))/\RelV p.2 q.2.2) nT xs->nT.map (·.1)=pf.map (·.map eG) ->
   ∃ ps:List (Addr×List Int),xs.map (fun x=>bP x.2.1)=(ps.map fun q=>bP q.1)/\ps.map (·.2)=pf/\∀ q∈ps,H q.1=some (.tup (q.2.map V.int)):=by
  intro nT xs pf hp;induction hp generalizing pf with
  | nil =>
   intro e;cases pf with
   | nil=>exact⟨[],rfl,rfl,fun q hq=>by cases hq⟩
   | cons m pf=>simp at e
  | @cons x y l1 l2 h1 h2 ih =>
   intro e;cases pf with
   | nil=>simp at e
   | cons m pf =>
    rw [bV,bV] at e;obtain⟨e1,e2⟩:=lx e;obtain⟨ps,a1,a2,a3⟩:=ih e2;obtain⟨_,h12,_⟩:=h1;refine⟨(y.2.1,m) :: ps,by rw [bV,bV,a1],by rw [bV,a2],fun q hq=>?_⟩;rcases (aV.mp hq) with rfl | hq
    ·rw [h12,e1,cN];rfl
    ·exact a3 q hq
 obtain⟨ps,a1,a2,a3⟩:=key hp hk;refine⟨ps,es,ep,⟨o,ho,hx,he⟩,?_,a2,a3⟩;rw [vZ,cN,<- a1];rfl
theorem zhp {X:Cx} (hc:X.calm=true):zbv X (.builtin "sorted") (fun xs H Q=>∃ (d:Addr) (k:Nat) (B:Int) (nT:List (List Key×V)) (pf:List #[wp]),xs = [.ref d]/\H d=some #[SX]/\nT.map (·.1)=pf.map (·.map eG)/\(∀ ms∈pf,ms.length=k/\∀ n∈ms,0<=n/\n < B)/\1<=k/\1<=B /\
  ∀ (l:Addr) (tY:List (Addr×List Int)),H l=none->(tY.map (·.2)).Perm pf->(tY.Pairwise fun a b=>num B a.2<=num B b.2)->(∀ q∈tY,H q.1=some (.tup (q.2.map V.int)))->Q #[Pm] (nQ H l (.lst (tY.map fun q=>V.ref q.1)))):=by
 intro nM s σ H xs us Q I r h;obtain⟨d,k,B,nT,pf,rfl,hd,B1,vg,hk,hB,q⟩:=h;obtain⟨u,rfl,rx⟩:=vals1 r;cases rx;obtain⟨hs,hz,ps,es,ep,xV,hek,oz,hH⟩:=zoO I hd B1;have hT:zoN H k B ps:=fun q' pC=>⟨hH q' pC,vg q'.2 (by rw [<- oz]; exact g8 pC)⟩
 have hlp:ps.length=nT.length:=by
  have e1:=congrArg gD oz;have e2:=congrArg gD B1;rw [aA] at e1;rw [aA,aA] at e2;lia
 have vZ:es.size=ps.length:=by
  have:=congrArg gD hek;rw [aA,aA,bT] at this;exact this
 refine zlA (vs:=ps.map fun q=>bP q.1) (κ:=tuples' true) (val:=fun p=>num B (zd2 H p.1)) (by rw [aA]; lia) (fun R hR=>?_) (fun s' kk h2 A' Q' E' pC=>?_) (fun s' A' kk=>zqE I hT hB kk) fun h' tk out e D kk hD HU hp hs=>?_
 ·refine PySem.W.kdu_collect (zoM (es:=es) (ep:=ep) hs) (by simp [I.ok.hd hc]) xV #[O] fun h' tk acc kk xK=>?_
  have:acc.toList=ps.map fun q=>bP q.1:=by
   rw [<- hek];refine gI fun j=>?_
   by_cases hj:j < es.size
   ·have hja:j < acc.size:=by rw [xK.1]; exact hj
    obtain⟨e',h1,h2⟩:=xK.2 j acc[j] (getElem?_pos acc j hja);rw [cB,getElem?_pos acc j hja,aD,cB,h1,h2];rfl
   ·rw [eZ (by rw [bT,xK.1]; lia),eZ (by rw [aA,bT]; lia)]
  rw [this];exact hR h' tk kk
 ·obtain⟨fs,k1,k2,k3⟩:=zqD I hT hk kk;exact PySem.W.kat_kind (T:=.type "int") k1 (by rw [aA] at h2; lia) (fun v hv=>by obtain⟨n,t,rfl⟩:=k3 v hv; exact zlC) rfl pC
 ·obtain⟨tY,p1,p2,p3⟩:=zna hT hp hs;have hl:=p1.length_eq;obtain⟨hn,I2⟩:=I.above (tk:=tk) (D:=D) (o:=.lst (tY.map fun q=>V.ref q.1)) kk hD ⟨by rw [aA]; lia,tY.map fun q=>bP q.1,e,zd3 tY,by rw [<- p3]; exact HU⟩;exact⟨.ref D,_,I2,rfl,q D tY hn (by rw [<- oz]; exact p1.map _) p2 fun q' pC=>(hT q' (p1.mem_iff.mp pC)).1⟩
end L2
end
section
namespace L2
open PySem PySem.Spec PyProof.Rows
variable {H:Hp} {J:It} {g:TG} {ts:TT} {ys:List V}
section
variable {X:Cx} {elt t1 i1 t2 i2:Expr} {f1 f2:List Expr} {scope:Scope} {pos:Pos} {N':List Str} {ix:List #[OE]} {C0 Ak:List Nat} {g1 g2:TG} {FI C1:TT} {te:TE} {FJ C2:TI}
theorem znb (hc:X.calm=true) (D4:GS Ak g2) (D6:∀ s₃ H₃ ex nM,PI #[o0] t2 i2 C2)
  (Ac:∀ s₃ H₃ ex nM,PG #[o0] t2 g2) (D7:∀ s₃ H₃ ex nM,zdR #[o0] f2 C1) (he:∀ s₃ H₃ ex nM,PE #[o0] elt te)
  (pH:∀ s₃ H₃ ex nM x,foldedSetIterable i2 #[o0].env x=pure x) :
  ∀ s₃ H₃ ex nM D,PM #[o0] D Ak ((fun D env=>zkb (.ListComp elt [⟨t1,i1,f1,0⟩,⟨t2,i2,f2,0⟩] scope pos) i2 1 #[Pt] env) D #[o0].env) #[SO]:=by
 intro s₃ H₃ ex nM D;have h:=zql (Y:=zY X N' scope s₃ H₃ ex nM) (D:=D) (js:=Ak) (js':=[]) (elt:=elt) (gens:=[⟨t1,i1,f1,0⟩,⟨t2,i2,f2,0⟩]) (scope:=scope) (pos:=pos) (d:=1) (p:=i2.pos) hc rfl D4 (fun _ _ z=>by cases z) (D6 s₃ H₃ ex nM) (Ac s₃ H₃ ex nM) (D7 s₃ H₃ ex nM) (zjl rfl (he s₃ H₃ ex nM)) rfl (fun it=>zqm it D _) (pH s₃ H₃ ex nM);rw [cZ] at h;exact h
theorem zkx (SC:Kg X N' ix scope) (hc:X.calm=true) (HV:GS C0 g1) (D4:GS Ak g2) (qt:∀ j∈C0,j∉Ak) (uZ:∀ j∈C0++Ak,ix[j]? = some none) (HW:PI X t1 i1 FJ)
  (C3:∀ s₃ H₃ ex nM,PG #[o0] t1 g1) (HX:∀ s₃ H₃ ex nM,zdR #[o0] f1 FI) (D6:∀ s₃ H₃ ex nM,PI #[o0] t2 i2 C2)
  (Ac:∀ s₃ H₃ ex nM,PG #[o0] t2 g2) (D7:∀ s₃ H₃ ex nM,zdR #[o0] f2 C1) (he:∀ s₃ H₃ ex nM,PE #[o0] elt te)
  (hs:∀ x,foldedSetIterable i1 X.env x=pure x:=by intro _; rfl) (pH:∀ s₃ H₃ ex nM x,foldedSetIterable i2 #[o0].env x=pure x:=by intros; rfl) :
  PE X (.ListComp elt [⟨t1,i1,f1,0⟩,⟨t2,i2,f2,0⟩] scope pos) (zg9 ix FJ g1 FI #[SO]) :=
 zh5 SC hc HV qt uZ HW C3 HX #[V1] #[Wf] hs
theorem zjx {i:Nat} {x:Str} {pos' qZ:Pos} (hN:X.N.Nodup) (y6:X.N[i]? = some x) (hx:Loc X.env.scope x) (SC:Kg X N' ix scope) (hc:X.calm=true) (HV:GS C0 g1) (D4:GS Ak g2) (qt:∀ j∈C0,j∉Ak) (uZ:∀ j∈C0++Ak,ix[j]? = some none) (HW:PI X t1 i1 FJ)
  (C3:∀ s₃ H₃ ex nM,PG #[o0] t1 g1) (HX:∀ s₃ H₃ ex nM,zdR #[o0] f1 FI) (D6:∀ s₃ H₃ ex nM,PI #[o0] t2 i2 C2)
  (Ac:∀ s₃ H₃ ex nM,PG #[o0] t2 g2) (D7:∀ s₃ H₃ ex nM,zdR #[o0] f2 C1) (he:∀ s₃ H₃ ex nM,PE #[o0] elt te)
  (DG:swapsWith (.ListComp elt [⟨t1,i1,f1,0⟩,⟨t2,i2,f2,0⟩] scope pos) (some #[Qg]) qZ.line X.env=pure true:=by rfl)
  (hs:∀ x,foldedSetIterable i1 X.env x=pure x:=by intro _; rfl) (pH:∀ s₃ H₃ ex nM x,foldedSetIterable i2 #[o0].env x=pure x:=by intros; rfl) (hf:X.fn x=true\/X.env.scope.names.lookup x=some .local:=by first | exact .inl rfl | exact .inr rfl | assumption) :
  PS X (.Assign [.Name x pos'] (.ListComp elt [⟨t1,i1,f1,0⟩,⟨t2,i2,f2,0⟩] scope pos) qZ) (zjb (zg9 ix FJ g1 FI #[SO]) (zaT i)) :=
 zeE hN y6 hx SC hc HV qt uZ HW C3 HX #[V1] #[Wf] DG hs hf
end
theorem zeH {n:Nat} {tm:TM} {σ0:St} {Q:List V->Hp->Prop} (Pv:Nat->List V->Hp->Prop) (h0:Pv 0 ys H) (yZ:∀ i ys H,i < n->Pv i ys H->J.go i H) (qp:∀ ys H,Pv n ys H->J.stop n H)
  (hs:∀ i x ys H H',i < n->Pv i ys H->J.yld i H x H'->g x σ0 H' fun σ2 H2=>ts σ2 H2 fun b H3=>if b=true then tm ys σ2 H3 (Pv (i+1)) else Pv (i+1) ys H3)
  (hd:∀ ys H,Pv n ys H->Q ys H):cIn g ts tm σ0 J Q ys H:=by
 refine⟨fun i m ys H=>m=n - i/\i<=n/\Pv i ys H,#[Rf],?_⟩;rintro i m ys H ⟨rfl,hi,p⟩;by_cases n6:i < n
 ·exact .inr #[Qr]
 ·have e:i=n:=by lia
  subst e;exact .inl ⟨qp ys H p,hd ys H p⟩
noncomputable def zqF (sc:Scope) (x:Str):Bool:=match sc.names.lookup x with
 | some .local=>true
 | some .cell=>true
 | some .free=>true
 | _=>false
theorem zoP {sc:Scope} {x:Str} (h:zqF sc x=true):Vis sc x:=by
 unfold zqF at h;unfold Vis;cases e:sc.names.lookup x with
 | none=>rw [e] at h; cases h
 | some k=>cases k <;> simp_all
noncomputable def pvB (N:List Str) (sc:Scope) (i:Nat) (x:Str):Bool:=decide (N[i]? = some x) && zqF sc x && !(x == ("__debug__" : Str)) && !(x == ("__classdict__" : Str))
theorem pvx {X:Cx} (i:Nat) {x:Str} {pos:Pos} (h:pvB X.N X.env.scope i x=true):PE X #[RM] (zq7 i):=by
 unfold pvB at h;simp only [eS,ml,decide_eq_true_eq] at h;exact zp2 h.1.1.1 (zoP h.1.1.2) h.1.2 h.2
end L2
end
section
namespace My
open PySem L2 PyProof.Rows
variable {H H':Hp} {j k:Nat} {nT:List (List Key×V)} {nW pk:List (Int×Int)} {pl q:List Int} {qs:List #[wp]} {rw:List #[Op]}
noncomputable def nxt {α:Type} (xs:List α) (c:Nat×List α):List (Nat×List α):=(bM (xs.length - c.1)).map fun j=>(c.1+j+1,c.2++xs[c.1+j]?.toList)
noncomputable def chs {α:Type} (xs:List α):Nat->List (Nat×List α)
 | 0=>[(0,[])]
 | m+1=>#[Rv].flatMap (nxt xs)
theorem zhq {α:Type} (xs:List α) (c:Nat×List α):(nxt xs c).length=xs.length - c.1:=by unfold nxt; rw [aA,bR]
theorem zoQ {α:Type} {xs:List α} {c:Nat×List α} {x:α} (h:xs[c.1+j]? = some x):(nxt xs c)[j]? = some (c.1+j+1,c.2++[x]):=by
 have hj:j < xs.length - c.1:=by
  have:=(aW.mp h).1;lia
 unfold nxt;rw [aD,cR hj];simp [h]
theorem zky:∀ r:Nat,((bM r).map fun j=>2 ^ (r - j - 1)).sum+1=2 ^ r
 | 0=>rfl
 | r+1=>by
  rw [iQ,bV,gV,cN];have e:((bM r).map ((fun j=>2 ^ (r+1 - j - 1)) ∘ nJ))=(bM r).map fun j=>2 ^ (r - j - 1):=c7 fun j _=>by
   show 2 ^ (r+1 - (j+1) - 1)=2 ^ (r - j - 1);congr 1;lia
  rw [e];have:=zky r;rw [Nat.pow_succ];show 2 ^ (r+1 - 0 - 1)+_+1=_;rw [show r+1 - 0 - 1=r from by lia];lia
noncomputable def pot {α:Type} (n:Nat) (cs:List (Nat×List α)):Nat:=(cs.map fun c=>2 ^ (n - c.1)).sum
theorem zoR {α:Type} (xs:List α) (c:Nat×List α):pot xs.length (nxt xs c)<=2 ^ (xs.length - c.1):=by
 unfold pot nxt;rw [cN];have e:((bM (xs.length - c.1)).map ((fun c:Nat×List α=>2 ^ (xs.length - c.1)) ∘ fun j=>(c.1+j+1,c.2++xs[c.1+j]?.toList)))=(bM (xs.length - c.1)).map fun j=>2 ^ (xs.length - c.1 - j - 1):=c7 fun j _=>by
  show 2 ^ (xs.length - (c.1+j+1))=_;congr 1;lia
 rw [e];have:=zky (xs.length - c.1);lia
theorem ziB {α:Type} (xs:List α):∀ cs:List (Nat×List α),pot xs.length (cs.flatMap (nxt xs))<=pot xs.length cs
 | []=>aH _
 | c :: cs=>by
  have h1:=zoR xs c;have h2:=ziB xs cs;rw [jO];unfold pot at h1 h2 |-;rw [aN,ji,bV,gV];lia
theorem zkz {α:Type} (n:Nat):∀ cs:List (Nat×List α),cs.length<=pot n cs
 | []=>aH _
 | c :: cs=>by
  have h:=zkz n cs;have:0 < 2 ^ (n - c.1):=Nat.pos_of_ne_zero #[M];unfold pot at h |-;rw [bV,gV,dw];lia
theorem zkA {α:Type} (xs:List α):∀ m,pot xs.length #[Rv]<=2 ^ xs.length
 | 0=>by
  unfold chs pot;simp
 | m+1=>bX (ziB xs #[Rv]) (zkA xs m)
theorem zoS {α:Type} (xs:List α) (m:Nat):#[Rv].length<=2 ^ xs.length:=bX (zkz _ _) (zkA xs m)
theorem zex {α:Type} {xs:List α} (m:Nat) (h:xs.length<=16):#[Rv].length<=65536:=bX (zoS xs m) (bX (Nat.pow_le_pow_right #[D] h) #[D])
theorem zlD {α β:Type} {f:α->List β} {l:List α} {i:Nat} {c:α} (hc:l[i]? = some c) (hj:j < (f c).length):((l.take i).flatMap f).length+j < (l.flatMap f).length:=by
 have e:l.flatMap f=(l.take i).flatMap f++(f c++(l.drop (i+1)).flatMap f):=by
  conv=>lhs; rw [zfC hc]
  rw [hJ,jO]
 rw [e,aO,aO];lia
theorem zlE {α β:Type} {f:α->List β} {l:List α} {i:Nat} {c:α} (hc:l[i]? = some c):(l.take (i+1)).flatMap f=(l.take i).flatMap f++f c:=by
 rw [take_snoc hc,hJ,jO,List.flatMap_nil,cZ]
theorem zqG {α:Type} {xs:List α}:∀ {m:Nat} {c:Nat×List α},c∈chs xs m->c.1<=xs.length
 | 0,c,h=>by
  unfold chs at h;rw [bD] at h;subst h;exact bW _
 | m+1,c,h=>by
  unfold chs at h;obtain⟨c',_,hc⟩:=fK.mp h;unfold nxt at hc;obtain⟨j,hj,rfl⟩:=bE.mp hc;have:=cE.mp hj;show c'.1+j+1<=xs.length;lia
theorem ziC {α:Type} {xs:List α}:∀ {m:Nat} {c:Nat×List α},c∈chs xs m->c.2.length<=m
 | 0,c,h=>by
  unfold chs at h;rw [bD] at h;subst h;exact aH _
 | m+1,c,h=>by
  unfold chs at h;obtain⟨c',hm,hc⟩:=fK.mp h;have:=ziC hm;unfold nxt at hc;obtain⟨j,hj,rfl⟩:=bE.mp hc;show (c'.2++xs[c'.1+j]?.toList).length<=m+1;rw [aO];have:xs[c'.1+j]?.toList.length<=1:=by cases xs[c'.1+j]? <;> simp
  lia
theorem Paired.get {α β:Type} {F:α->β->Prop}:∀ {l₁:List α} {l₂:List β},Paired F l₁ l₂->∀ {i:Nat} {a:α},l₁[i]? = some a->∃ b,l₂[i]? = some b/\F a b
 | _,_,.nil,i,a,h=>by simp at h
 | _,_,.cons r t,0,a,h=>by
  (simp only [iH,jP] at h)
  subst h;exact⟨_,rfl,r⟩
 | _,_,.cons r t,i+1,a,h=>by
  rw [eD] at h;obtain⟨b,hb,f⟩:=Paired.get t h;exact⟨b,by rw [eD]; exact hb,f⟩
noncomputable def zoT (H:Hp) (t:Addr) (c:Nat×List V):Prop:=∃ L,H t=some (.tup [.int (c.1:Int),.ref L])/\H L=some (.lst c.2)
theorem zoT.same (s:zr H H') {t:Addr} {c:Nat×List V} (h:zoT H t c):zoT H' t c:=let ⟨L,h1,h2⟩:=h; ⟨L,s _ _ h1,s _ _ h2⟩
noncomputable def zfN (H:Hp):List Addr->List (Nat×List V)->Prop:=Paired (zoT H)
theorem zfN.same (s:zr H H') {ts:List Addr} {cs:List (Nat×List V)} (h:zfN H ts cs):zfN H' ts cs:=fg (fun _ _ z=>z.same s) h
noncomputable def ziD (H:Hp):List Addr->List (List V)->Prop:=Paired fun l pk=>H l=some (.lst pk)
theorem ziD.same (s:zr H H') {ts:List Addr} {cs:List (List V)} (h:ziD H ts cs):ziD H' ts cs:=fg #[QM] h
noncomputable def zjy (K:aF):Sp:=fun vs H Q _=>∃ (a:Addr) (m:Nat) (xs:List V),vs = [.ref a,.int (m:Int)]/\nO K H a xs/\xs.length<=16/\m<=1000 /\
 ∀ (l:Addr) (ls:List Addr) (H':Hp),H l=none->zr H H'->H' l=some #[O9]->ziD H' ls (#[Rv].map (·.2))->Q #[Pm] H'
noncomputable def quo (p r:Int):List Int->List Int
 | []=>[]
 | [_]=>[]
 | _ :: d :: cs=>zF p r (d :: cs) :: quo p r (d :: cs)
theorem zkB (p r:Int):∀ (c:Int) (cs:List Int),(quo p r (c :: cs)).length=cs.length
 | _,[]=>rfl
 | _,d :: cs=>by
  show #[UB].length+1=cs.length+1;rw [zkB p r d cs]
theorem znc {p r x:Int}:∀ d:List Int,Cg p (zF p x d - zF p r d) ((x - r)*zF p x (quo p r d))
 | []=>Cg.of_eq (by show (0:Int) - 0=(x - r)*0; lia)
 | [c]=>by
  have h1:Cg p (zF p x [c]) (c+x*0):=zar p x c [];have h2:Cg p (zF p r [c]) (c+r*0):=zar p r c [];refine (h1.sub h2).trans #[Q5];show c+x*0 - (c+r*0)=(x - r)*0;lia
 | c :: d :: cs=>by
  have h1:=zar p x c (d :: cs);have h2:=zar p r c (d :: cs);have ih:=znc (p:=p) (r:=r) (x:=x) (d :: cs);have h3:Cg p (zF p x (quo p r (c :: d :: cs))) (zF p r (d :: cs)+x*zF p x #[UB]):=zar p x _ _;have h4:=(Cg.refl p (x - r)).mul h3;have h5:=#[To].mul ih;refine (h1.sub h2).trans (Cg.symm (h4.trans ?_));refine (Cg.of_eq (show _=(x - r)*zF p r (d :: cs)+x*((x - r)*zF p x #[UB]) by grind)).trans ?_;refine ((Cg.refl p ((x - r)*zF p r (d :: cs))).add h5.symm).trans (Cg.of_eq (by grind))
theorem ziE {p r:Int}:∀ d:List Int,Cg p (zF p r d) 0->(∀ c∈quo p r d,Cg p c 0)->∀ c∈d,Cg p c 0
 | [],_,_,c,hc=>by cases hc
 | [a],h,_,c,hc=>by
  obtain rfl:c=a:=by simpa using hc
  have h1:Cg p (zF p r [c]) (c+r*0):=zar p r c [];exact (#[OG].trans h1.symm).trans h
 | a :: d :: cs,h,hq,c,hc=>by
  have h0:Cg p (zF p r (d :: cs)) 0:=hq _ bL;rcases (aV.mp hc) with rfl | hc
  ·have h1:=zar p r c (d :: cs);have h2:=(Cg.refl p r).mul h0;have h3:=(h1.symm.trans h).sub h2;exact #[OG].trans (h3.trans #[OG])
  ·exact ziE (d :: cs) h0 (fun c hc=>hq c (aZ _ hc)) c hc
theorem zlF {p a y:Int} (hp:p∈zG) (ha0:a % p≠0) (h:Cg p (a*y) 0):Cg p y 0:=by
 have rp:=zO hp;have g0:=bC a (show p≠0 by lia);have g1:=aR a (show 0 < p by lia);have hi:=zer hp (h:=a % p) #[O] g1;have h1:Cg p (inv p (a % p)*(a % p)*y) (1*y):=hi.mul #[Tn];have h2:Cg p (inv p (a % p)*(a % p)*y) (inv p (a % p)*(a*y)):=by
  have:=((Cg.refl p (inv p (a % p))).mul (Cg.emod p a)).mul #[Tn];exact this.trans (Cg.of_eq (by grind))
 have h3:=(Cg.refl p (inv p (a % p))).mul h;exact #[OG].trans (h1.symm.trans (h2.trans (h3.trans #[OG])))
theorem zfO {p:Int} (hp:p∈zG):∀ (n:Nat) (d xs:List Int),d.length=n->n<=xs.length->xs.Nodup->(∀ x∈xs,0<=x/\x < p)->(∀ x∈xs,Cg p (zF p x d) 0)->∀ c∈d,Cg p c 0
 | 0,d,xs,hd,_,_,_,_,c,hc=>by
  rw [iI] at hd;subst hd;cases hc
 | n+1,d,[],hd,hx,_,_,_,c,hc=>by simp at hx
 | n+1,[],r :: xs,hd,hx,_,_,_,c,hc=>by cases hc
 | n+1,a :: cs,r :: xs,hd,hx,pU,vg,hz,c,hc=>by
  have rp:=zO hp;obtain⟨r0,r1⟩:=vg r bL;have hr:=hz r bL;refine ziE (a :: cs) hr (zfO hp n (quo p r (a :: cs)) xs (by rw [zkB]; simpa using hd) (by simpa using hx) (fh.mp pU).2 (fun x h=>vg x (aZ _ h)) fun x h=>?_) c hc;obtain⟨x0,x1⟩:=vg x (aZ _ h);have oH:x≠r:=fun e=>(fh.mp pU).1 (e ▸ h)
  have he:=znc (p:=p) (r:=r) (x:=x) (a :: cs);have h0:=(hz x (aZ _ h)).sub hr;refine zlF hp (a:=x - r) (fun e=>?_) (he.symm.trans (h0.trans #[OG]));have:Cg p x r:=by
   have h1:Cg p (x - r) 0:=Cg.M9 (by rw [e]; simp);have h2:=h1.add (Cg.refl p r);exact #[OG].trans (h2.trans #[OG])
  exact oH (this.eq x0 x1 r0 r1)
theorem ziF {p x:Int}:∀ {a b:List Int},a.length=b.length->Cg p (zF p x (cn (· - ·) a b)) (zF p x a - zF p x b)
 | [],[],_=>Cg.of_eq rfl
 | c :: a,d :: b,h=>by
  have ih:=ziF (p:=p) (x:=x) (a:=a) (b:=b) (by simpa using h);have h1:=zar p x c a;have h2:=zar p x d b;have h3:Cg p (zF p x (cn (· - ·) (c :: a) (d :: b))) (c - d+x*zF p x (cn (· - ·) a b)):=zar p x (c - d) _;refine h3.trans (((Cg.refl p (c - d)).add (#[To].mul ih)).trans (Cg.symm ((h1.sub h2).trans (Cg.of_eq (by grind)))))
 | [],_ :: _,h=>by simp at h
 | _ :: _,[],h=>by simp at h
theorem ziG {p:Int}:∀ {a b:List Int},a.length=b.length->(∀ c∈a,0<=c/\c < p)->(∀ c∈b,0<=c/\c < p)->(∀ c∈cn (· - ·) a b,Cg p c 0)->a=b
 | [],[],_,_,_,_=>rfl
 | c :: a,d :: b,h,ha,hb,hz=>by
  obtain⟨c0,c1⟩:=ha c bL;obtain⟨d0,d1⟩:=hb d bL;have h1:Cg p (c - d) 0:=hz _ bL;have h2:Cg p c d:=#[OG].trans ((h1.add (Cg.refl p d)).trans #[OG]);rw [h2.eq c0 c1 d0 d1,ziG (by simpa using h) (fun c hc=>ha c (aZ _ hc)) (fun c hc=>hb c (aZ _ hc)) (fun c hc=>hz c (aZ _ hc))]
 | [],_ :: _,h,_,_,_=>by simp at h
 | _ :: _,[],h,_,_,_=>by simp at h
theorem ziH {p:Int} (hp:p∈zG) {a b xs:List Int} (hl:a.length=b.length) (hx:a.length<=xs.length) (pU:xs.Nodup) (vg:∀ x∈xs,0<=x/\x < p) (ha:∀ c∈a,0<=c/\c < p) (hb:∀ c∈b,0<=c/\c < p)
  (he:∀ x∈xs,zF p x a=zF p x b):a=b:=by
 refine ziG hl ha hb (zfO hp a.length _ xs (by rw [gZ]; lia) hx pU vg fun x h=>?_);refine (ziF hl).trans #[Q5];rw [he x h];lia
theorem zqH {p:Int} (hp:p∈zG) (hP:Pts p pk) (hl:q.length=pk.length) (hq:∀ c∈q,0<=c/\c < p) (hh:∀ a∈pk,zF p a.1 q=a.2):q=thr p pk:=by
 obtain⟨h1,h2,h3⟩:=zmG hp hP;refine ziH hp (xs:=pk.map (·.1)) #[O] (by rw [aA]; lia) hP.nd (fun x hx=>?_) hq h2 fun x hx=>?_
 ·obtain⟨a,ha,rfl⟩:=bE.mp hx;exact⟨(hP.rg a ha).1,(hP.rg a ha).2.1⟩
 ·obtain⟨a,ha,rfl⟩:=bE.mp hx;rw [hh a ha,h3 a ha]
theorem Pts.sub {p:Int} (h:Pts p nW) (hs:pk.Sublist nW):Pts p pk:=⟨(hs.map _).nodup h.nd,fun q hq=>h.rg q (hs.subset hq)⟩
theorem zkC {α:Type} {xs:List α}:∀ {m:Nat} {c:Nat×List α},c∈chs xs m->c.2.Sublist (xs.take c.1)/\c.2.length=m/\c.1<=xs.length
 | 0,c,h=>by
  unfold chs at h;rw [bD] at h;subst h;exact⟨jY _,rfl,bW _⟩
 | m+1,c,h=>by
  unfold chs at h;obtain⟨c',hm,hc⟩:=fK.mp h;obtain⟨h1,h2,h3⟩:=zkC hm;unfold nxt at hc;obtain⟨j,hj,rfl⟩:=bE.mp hc
  (have qu:=cE.mp hj)
  have n6:c'.1+j < xs.length:=by lia
  have e:xs[c'.1+j]? = some xs[c'.1+j]:=aG n6;dsimp only;rw [e];refine⟨?_,by rw [aO,h2]; rfl,#[O]⟩;rw [take_snoc e];refine List.Sublist.append (h1.trans ?_) (List.Sublist.refl _);have:xs.take c'.1=(xs.take (c'.1+j)).take c'.1:=by rw [nA]; congr 1; lia
  rw [this];exact dC _ _
theorem sub_one {α:Type} {l:List α} {x:α} (h:l.Sublist [x]):l = []\/l = [x]:=by
 cases h with
 | cons _ h=>exact .inl (jZ.mp h)
 | cons_cons _ h=>exact .inr (by rw [jZ.mp h])
theorem zfb {α:Type} {xs:List α}:∀ {m n:Nat} {pk:List α},pk.Sublist (xs.take n)->pk.length=m->∃ s,s<=n/\(s,pk)∈chs xs m
 | 0,n,pk,h,hl=>by
  rw [iI] at hl;subst hl;exact⟨0,bW _,by unfold chs; exact bD.mpr rfl⟩
 | m+1,0,pk,h,hl=>by
  rw [gN] at h;rw [jZ.mp h] at hl;simp at hl
 | m+1,n+1,pk,h,hl=>by
  cases e:xs[n]? with
  | none =>
   have:xs.take (n+1)=xs.take n:=by
    have:=db.mp e;rw [aY #[O],aY this]
   rw [this] at h;obtain⟨s,h1,h2⟩:=zfb (m:=m+1) (n:=n) h hl;exact⟨s,#[O],h2⟩
  | some x =>
   rw [take_snoc e] at h;obtain⟨l1,l2,rfl,h1,h2⟩:=List.sublist_append_iff.mp h;rcases (sub_one h2) with rfl | rfl
   ·rw [cZ] at hl |-;obtain⟨s,a1,a2⟩:=zfb (m:=m+1) (n:=n) h1 hl;exact⟨s,#[O],a2⟩
   ·obtain⟨s,a1,a2⟩:=zfb (m:=m) (n:=n) h1 (by simpa using hl);refine⟨n+1,aH _,?_⟩;unfold chs;refine fK.mpr ⟨(s,l1),a2,?_⟩;have n6:=(aW.mp e).1;unfold nxt;refine bE.mpr ⟨n - s,cE.mpr (by show n - s < xs.length - s; lia),?_⟩;have es:s+(n - s)=n:=by lia
    dsimp only;rw [es,e];rfl
theorem zhr {α:Type} {xs pk:List α} {m:Nat}:pk∈#[Rv].map (·.2)↔pk.Sublist xs/\pk.length=m:=by
 constructor
 ·intro h;obtain⟨c,hc,rfl⟩:=bE.mp h;obtain⟨h1,h2,h3⟩:=zkC hc;exact⟨h1.trans (dC _ _),h2⟩
 ·rintro⟨h1,h2⟩;obtain⟨s,_,hs⟩:=zfb (xs:=xs) (n:=xs.length) (by rw [dL]; exact h1) h2;exact bE.mpr ⟨_,hs,rfl⟩
noncomputable def hit (p:Int) (q:List Int) (a:Int×Int):Bool:=decide (zF p a.1 q=a.2)
noncomputable def hits (p:Int) (q:List Int) (nW:List (Int×Int)):Nat:=(nW.filter #[TD]).length
noncomputable def IsP (p:Int) (k:Nat) (q:List Int):Prop:=q.length=k/\∀ c∈q,0<=c/\c < p
theorem zjz {p:Int} (hp:p∈zG) (hP:Pts p nW) {t n:Nat} (hq:IsP p k q) (hk:k<=t) (hn:nW.length<=n+(t - k)) (ht:t<=hits p q nW) :
  ∃ pk,pk∈(chs #[S0] k).map (·.2)/\q=thr p pk:=by
 have HY:hits p q nW=(#[S0].filter #[TD]).length+((nW.drop n).filter #[TD]).length:=by
  unfold hits
  conv=>lhs; rw [<- dh n nW]
  rw [fO,aO]
 have hd:=fU #[TD] (nW.drop n);rw [cP] at hd;have yH:k<=(#[S0].filter #[TD]).length:=by lia
 have hs:((#[S0].filter #[TD]).take k).Sublist #[S0]:=(dC _ _).trans (List.filter_sublist);have hl:((#[S0].filter #[TD]).take k).length=k:=by rw [aU]; lia
 refine⟨_,zhr.mpr ⟨hs,hl⟩,zqH hp (hP.sub (hs.trans (dC _ _))) (by rw [hl]; exact hq.1) hq.2 fun a ha=>?_⟩;have:=(dn.mp ((dC _ _).subset ha)).2;simpa [hit] using this
theorem zkD {p:Int} (hp:p∈zG) (hP:Pts p nW) (h:pk∈(chs nW k).map (·.2)):IsP p k (thr p pk):=by
 obtain⟨h1,h2⟩:=zhr.mp h;obtain⟨a,b,_⟩:=zmG hp (hP.sub h1);exact⟨a.trans h2,b⟩
noncomputable def oz:List Int->List #[Op]->List (Int×Int)
 | x :: pl,some y :: rw=>(x,y) :: oz pl rw
 | _ :: pl,none :: rw=>oz pl rw
 | _,_=>[]
theorem zd4:∀ {pl:List Int} {rw:List #[Op]} {i:Nat} {x:Int} {o:Option Int},pl[i]? = some x->rw[i]? = some o->oz (pl.take (i+1)) (rw.take (i+1))=oz #[Ug] (rw.take i)++(match o with | some y=>[(x,y)] | none=>[])
 | [],_,i,x,o,h,_=>by simp at h
 | _ :: _,[],i,x,o,_,h=>by simp at h
 | a :: pl,b :: rw,0,x,o,h1,h2=>by
  simp only [iH,jP] at h1 h2;subst h1 h2;cases b <;> rfl
 | a :: pl,b :: rw,i+1,x,o,h1,h2=>by
  rw [eD] at h1 h2;have ih:=zd4 h1 h2;cases b with
  | none=>exact ih
  | some y =>
   show (a,y) :: oz (pl.take (i+1)) (rw.take (i+1))=(a,y) :: oz #[Ug] (rw.take i)++_;rw [ih];rfl
theorem zbX:∀ (pl:List Int) (rw:List #[Op]),#[IO].length<=pl.length
 | [],rw=>by unfold oz; simp
 | a :: pl,[]=>by unfold oz; simp
 | a :: pl,none :: rw=>by
  have:=zbX pl rw;show #[IO].length<=pl.length+1;lia
 | a :: pl,some y :: rw=>by
  have:=zbX pl rw;show #[IO].length+1<=pl.length+1;lia
theorem zdn:∀ {pl:List Int} {rw:List #[Op]} {a:Int×Int},a∈oz pl rw->a.1∈pl/\some a.2∈rw
 | [],_,a,h=>by unfold oz at h; cases h
 | _ :: _,[],a,h=>by unfold oz at h; cases h
 | x :: pl,none :: rw,a,h=>by
  obtain⟨h1,h2⟩:=zdn (pl:=pl) (rw:=rw) h;exact⟨aZ _ h1,aZ _ h2⟩
 | x :: pl,some y :: rw,a,h=>by
  rcases (aV.mp h) with rfl | h
  ·exact⟨bL,bL⟩
  ·obtain⟨h1,h2⟩:=zdn (pl:=pl) (rw:=rw) h;exact⟨aZ _ h1,aZ _ h2⟩
theorem zhs:∀ (pl:List Int) (rw:List #[Op]),(#[IO].map (·.1)).Sublist pl
 | [],_=>by unfold oz; exact jY _
 | _ :: _,[]=>by unfold oz; exact jY _
 | x :: pl,none :: rw=>(zhs pl rw).cons _
 | x :: pl,some y :: rw=>(zhs pl rw).cons_cons _
theorem zd5 {p:Int} (h1:pl.Nodup) (h2:∀ x∈pl,0<=x/\x < p) (h3:∀ z,some z∈rw->0<=z/\z < p):Pts p #[IO] :=
 ⟨(zhs pl rw).nodup h1,fun q hq=>⟨(h2 _ (zdn hq).1).1,(h2 _ (zdn hq).1).2,(h3 _ (zdn hq).2).1,(h3 _ (zdn hq).2).2⟩⟩
theorem ziI {p:Int} {pl:List Int} {rw:List #[Op]} {q:List Int} (hl:rw.length=pl.length):∀ n,n<=pl.length->(zfF p pl rw q n).length=hits p q (oz (pl.take n) (rw.take n))
 | 0,_=>by simp [zfF,hits,oz]
 | n+1,hn=>by
  have ih:=ziI (p:=p) (q:=q) hl n #[O];have e1:pl[n]? = some pl[n]:=aG #[O];have e2:rw[n]? = some rw[n]:=aG #[O];rw [zgL,aO,ih,zd4 e1 e2];unfold hits;rw [fO,aO];congr 1;unfold zgK;rw [e1,e2];cases rw[n] with
  | none=>rfl
  | some y =>
   show (if decide (y=zF p pl[n] q)=true then [(n:Int)] else []).length=([(pl[n],y)].filter #[TD]).length;by_cases e:y=zF p pl[n] q
   ·rw [iJ (by simp [hit,e])];simp [e]
   ·rw [iK (by simp [hit]; exact fun z=>e z.symm)];simp [e]
theorem zoU {p:Int} (hl:rw.length=pl.length):(zfF p pl rw q pl.length).length=hits p q #[IO]:=by
 have:=ziI (p:=p) (q:=q) hl pl.length (aH _);rw [dL,aY #[O]] at this;exact this
noncomputable def zlG (p:Int) (k:Nat) (qs:List #[wp]):Prop:=(∀ q∈qs,IsP p k q)/\qs.Pairwise fun a b=>Srt.num p a < Srt.num p b
theorem zkE {B:Int} (hB:1<=B):∀ {a b:List Int},a.length=b.length->(∀ n∈a,0<=n/\n < B)->(∀ n∈b,0<=n/\n < B)->Srt.num B a=Srt.num B b->a=b
 | [],[],_,_,_,_=>rfl
 | c :: a,d :: b,h,ha,hb,e=>by
  have h':a.length=b.length:=by simpa using h
  have ra:=Srt.LN hB (ns:=a) fun n hn=>ha n (aZ _ hn)
  have rb:=Srt.LN hB (ns:=b) fun n hn=>hb n (aZ _ hn)
  have e':c*B ^ a.length+Srt.num B a=d*B ^ b.length+Srt.num B b:=e;rw [<- h'] at e' rb;generalize B ^ a.length=M at e' ra rb;have hM:0 < M:=by lia
  have vV:c=d:=by
   have e2:(c - d)*M=Srt.num B b - Srt.num B a:=by
    rw [Int.sub_mul];lia
   rcases (mj c d) with n6 | heq | hgt
   ·have:(c - d)*M<=(-1)*M:=du #[O] #[O];lia
   ·exact heq
   ·have:1*M<=(c - d)*M:=du #[O] #[O];lia
  subst vV;rw [zkE hB h' (fun n hn=>ha n (aZ _ hn)) (fun n hn=>hb n (aZ _ hn)) #[O]]
 | [],_ :: _,h,_,_,_=>by simp at h
 | _ :: _,[],h,_,_,_=>by simp at h
theorem zoV {p:Int} (hp:1<=p) (h1:∀ q∈qs,IsP p k q) (h2:qs.Nodup) (h3:qs.Pairwise fun a b=>Srt.num p a<=Srt.num p b):zlG p k qs:=by
 refine⟨h1,?_⟩;have h4:=h3.and h2;refine iq (fun {a b} ha hb h=>?_) h4;have oH:Srt.num p a≠Srt.num p b:=fun e=>h.2 (zkE hp ((h1 a ha).1.trans (h1 b hb).1.symm) (h1 a ha).2 (h1 b hb).2 e)
 have:=h.1;lia
theorem zlG.filter {p:Int} (f:List Int->Bool) (h:zlG p k qs):zlG p k (qs.filter f):=⟨fun q hq=>h.1 q (dn.mp hq).1,h.2.filter f⟩
noncomputable def sm:Nat->(Nat->Int)->Int
 | 0,_=>0
 | n+1,f=>sm n f+f n
theorem zaH {f g:Nat->Int}:∀ {n:Nat},(∀ i,i < n->f i=g i)->sm n f=sm n g
 | 0,_=>rfl
 | n+1,h=>by
  show sm n f+f n=sm n g+g n;rw [zaH (n:=n) fun i hi=>h i #[O],h n #[O]]
theorem znd {p:Int} {f g:Nat->Int}:∀ {n:Nat},(∀ i,i < n->Cg p (f i) (g i))->Cg p (sm n f) (sm n g)
 | 0,_=>Cg.refl _ _
 | n+1,h=>(znd (n:=n) fun i hi=>h i #[O]).add (h n #[O])
theorem zjA {f g:Nat->Int}:∀ n:Nat,sm n (fun i=>f i+g i)=sm n f+sm n g
 | 0=>rfl
 | n+1=>by
  show sm n (fun i=>f i+g i)+(f n+g n)=sm n f+f n+(sm n g+g n);rw [zjA n];lia
theorem zcq {c:Int} {f:Nat->Int}:∀ n:Nat,sm n (fun i=>c*f i)=c*sm n f
 | 0=>by show (0:Int)=c*0; lia
 | n+1=>by
  show sm n (fun i=>c*f i)+c*f n=c*(sm n f+f n);rw [zcq n,Int.mul_add]
theorem zbq {f:Nat->Int}:∀ {n:Nat},(∀ i,i < n->f i=0)->sm n f=0
 | 0,_=>rfl
 | n+1,h=>by
  show sm n f+f n=0;rw [zbq (n:=n) fun i hi=>h i #[O],h n #[O]];rfl
theorem zbY {f:Nat->Int}:∀ n:Nat,sm (n+1) f=f 0+sm n (fun i=>f (i+1))
 | 0=>by show (0:Int)+f 0=f 0+0; lia
 | n+1=>by
  show sm (n+1) f+f (n+1)=f 0+(sm n (fun i=>f (i+1))+f (n+1));rw [zbY n];lia
theorem zht {f:Nat->Nat->Int} (m:Nat):∀ n:Nat,sm n (fun i=>sm m (fun j=>f i j))=sm m (fun j=>sm n fun i=>f i j)
 | 0=>(zbq fun _ _=>rfl).symm
 | n+1=>by
  show sm n (fun i=>sm m (fun j=>f i j))+sm m (fun j=>f n j)=sm m (fun j=>sm n (fun i=>f i j)+f n j);rw [zht m n,<- zjA]
theorem zd6 {f:Nat->Int} {m:Nat}:∀ {n:Nat},m<=n->(∀ i,m<=i->i < n->f i=0)->sm n f=sm m f
 | 0,h,_=>by rw [show m=0 by lia]
 | n+1,h,hz=>by
  by_cases e:m=n+1
  ·rw [e]
  ·show sm n f+f n=_;rw [zd6 (n:=n) #[O] fun i h1 h2=>hz i h1 #[O],hz n #[O] #[O]];lia
noncomputable def gl (w:List Int) (y:Nat):Int:=w.getD y 0
theorem zba {w:List Int} {y:Nat} {c:Int} (h:w[y]? = some c):gl w y=c:=by
 unfold gl;rw [bI,h];rfl
theorem zbz {w:List Int} {y:Nat} (h:w.length<=y):gl w y=0:=by
 unfold gl;rw [bI,eZ h];rfl
theorem zb7 {w:List Int} {y:Nat} (h:y < w.length):w[y]? = some (gl w y):=by
 rw [aG h,zba (aG h)]
theorem zjB {w:List Int} {p:Int} (hp:0 < p) (h:∀ c∈w,0<=c/\c < p) (y:Nat):0<=gl w y/\gl w y < p:=by
 by_cases hy:y < w.length
 ·exact h _ (aL (zb7 hy))
 ·rw [zbz #[O]];lia
theorem zqI {f:Int->Int} {w:List Int} {y:Nat} (h:y < w.length):gl (w.map f) y=f (gl w y):=zba (by rw [aD,zb7 h]; rfl)
theorem zqJ {f:Int->Int->Int} {v w:List Int} {y:Nat} (h:y < v.length) (h':y < w.length):gl (cn f v w) y=f (gl v y) (gl w y):=zba (by rw [kL,zb7 h,zb7 h'])
theorem zkF {p x:Int}:∀ q:List Int,Cg p (zF p x q) (sm q.length fun i=>gl q i*x ^ i)
 | []=>Cg.refl _ _
 | c :: q=>by
  refine (zar p x c q).trans ?_;rw [dw,zbY];have e:sm q.length (fun i=>gl (c :: q) (i+1)*x ^ (i+1))=x*sm q.length (fun i=>gl q i*x ^ i):=by
   rw [<- zcq];refine zaH fun i _=>?_
   show gl q i*x ^ (i+1)=_;rw [fw];grind
  rw [e];refine Cg.add #[Q5] (#[To].mul (zkF q));show c=c*x ^ 0;rw [Int.pow_zero,mE]
theorem zne {p x:Int} {n:Nat} (h:q.length<=n):Cg p (zF p x q) (sm n fun i=>gl q i*x ^ i):=by
 rw [zd6 h fun i h1 _=>by rw [zbz h1,dE]];exact zkF q
theorem zoW {α β:Type} (f:α->β) (xs:List α) (c:Nat×List α):nxt #[VH] (c.1,c.2.map f)=(nxt xs c).map fun d=>(d.1,d.2.map f):=by
 unfold nxt;rw [cN,aA];refine c7 fun j _=>?_
 show (c.1+j+1,c.2.map f++#[VH][c.1+j]?.toList)=(c.1+j+1,(c.2++xs[c.1+j]?.toList).map f);rw [aD,aN];cases xs[c.1+j]? <;> rfl
theorem zkG {α β:Type} (f:α->β) (xs:List α):∀ m,chs #[VH] m=#[Rv].map fun d=>(d.1,d.2.map f)
 | 0=>rfl
 | m+1=>by
  show (chs #[VH] m).flatMap (nxt #[VH])=(#[Rv].flatMap (nxt xs)).map _;rw [zkG f xs m,List.map_flatMap,List.flatMap_map];congr 1;funext c;exact zoW f xs c
theorem zgO {α β:Type} (f:α->β) (xs:List α) (m:Nat):(chs #[VH] m).map (·.2)=(#[Rv].map (·.2)).map (·.map f):=by
 rw [zkG,cN,cN];rfl
noncomputable def PtB (H:Hp):List Addr->List (Int×Int)->Prop:=Paired fun b q=>H b=some (.tup [.int q.1,.int q.2])
theorem PtB.same (s:zr H H') {bs:List Addr} (h:PtB H bs nW):PtB H' bs nW:=fg #[QM] h
theorem PtB.zs {H:Hp}:∀ {bs:List Addr} {nW:List (Int×Int)},PtB H bs nW->∃ zs:List (Addr×Int×Int),bs=zs.map (·.1)/\nW=zs.map (·.2)/\∀ z∈zs,H z.1=some (.tup [.int z.2.1,.int z.2.2])
 | _,_,.nil=>⟨[],rfl,rfl,#[M]⟩
 | _,_,.cons (a:=b) (b:=q) r t=>by
  obtain⟨zs,h1,h2,h3⟩:=PtB.zs t;refine⟨(b,q) :: zs,by rw [h1]; rfl,by rw [h2]; rfl,fun z hz=>?_⟩;rcases (aV.mp hz) with rfl | hz
  ·exact r
  ·exact h3 z hz
theorem PtB.take {bs:List Addr} (h:PtB H bs nW) (n:Nat):PtB H (bs.take n) #[S0]:=by
 induction h generalizing n with
 | nil=>rw [gk,gk]; exact .nil
 | cons r t ih =>
  cases n with
  | zero=>exact .nil
  | succ n=>exact .cons r (ih n)
noncomputable def zaZ (H:Hp):List Addr->List #[wp]->Prop:=Paired fun r q=>H r=some (.tup (q.map V.int))
theorem zaZ.same (s:zr H H') {rs:List Addr} (h:zaZ H rs qs):zaZ H' rs qs:=fg #[QM] h
theorem zaZ.of {H:Hp}:∀ {ps:List (Addr×List Int)},(∀ q∈ps,H q.1=some (.tup (q.2.map V.int)))->zaZ H (ps.map (·.1)) (ps.map (·.2))
 | [],_=>.nil
 | a :: ps,h=>.cons (h a bL) (zaZ.of fun q hq=>h q (aZ _ hq))
theorem znf {κ:Type} [DecidableEq κ] (nT:List (κ×V)) (k:κ) (v:V):#[QD].map (·.1)=if k∈nT.map (·.1) then nT.map (·.1) else nT.map (·.1)++[k]:=by
 unfold putK;by_cases h:(nT.any fun kv=>decide (kv.1=k))=true
 ·rw [if_pos h];obtain⟨kv,h1,h2⟩:=j2.mp h;have h2:kv.1=k:=by simpa using h2
  rw [if_pos (by rw [<- h2]; exact g8 h1),cN];refine c7 fun a _=>?_
  show (if a.1=k then (a.1,v) else a).1=a.1;split <;> rfl
 ·rw [if_neg h];rw [if_neg (fun hm=>h ?_),aN]
  ·rfl
  ·obtain⟨kv,h1,h2⟩:=bE.mp hm;exact j2.mpr ⟨kv,h1,by simpa using h2⟩
theorem zoX {a b:List Int} (h:(a.map eG:List Key)=b.map eG):a=b:=by
 induction a generalizing b with
 | nil=>cases b with
  | nil=>rfl
  | cons _ _=>simp at h
 | cons x a ih=>cases b with
  | nil=>simp at h
  | cons y b =>
   rw [bV,bV] at h;obtain⟨h1,h2⟩:=lx h;rw [ko h1,ih h2]
noncomputable def KeysAre (nT:List (List Key×V)) (pf:List #[wp]):Prop:=nT.map (·.1)=pf.map (·.map eG)
theorem zng {pf:List #[wp]} (h:KeysAre nT pf) (hn:pf.Nodup) (q:List Int) (v:V):∃ wo,KeysAre (putK nT (q.map eG) v) wo/\wo.Nodup/\wo.length<=pf.length+1/\∀ x,x∈wo↔x∈pf\/x=q:=by
 unfold KeysAre at h |-;rw [znf,h];have hm:(q.map eG:List Key)∈pf.map (·.map eG)↔q∈pf:=by
  constructor
  ·intro hm;obtain⟨x,hx,e⟩:=bE.mp hm;rw [<- zoX e];exact hx
  ·intro hm;exact g8 hm
 by_cases hq:q∈pf
 ·refine⟨pf,by rw [if_pos (hm.mpr hq)],hn,#[O],fun x=>⟨.inl,fun z=>z.elim id fun e=>e ▸ hq⟩⟩
 ·refine⟨pf++[q],by rw [if_neg fun z=>hq (hm.mp z),aN]; rfl,?_,by rw [aO]; exact aH _,fun x=>by rw [bO,bD]⟩;rw [gH];exact⟨hn,#[M],fun a ha b hb e=>hq (by rw [<- bD.mp hb,<- e]; exact ha)⟩
noncomputable def zoY (K:aF):Sp:=fun vs H Q _=>∃ (c tt r:Addr) (p k:Int) (pl:List Int) (rw:List #[Op]),vs = [.ref c,.ref r]/\zbP H c tt p k pl/\NL K H r pl.length rw/\pl.length<=1000 /\
 ∀ (l:Addr) (bs:List Addr) (H':Hp),H l=none->zr H H'->H' l=some #[RZ]->PtB H' bs #[IO]->Q #[Pm] H'
noncomputable def zfP (K:aF):Sp:=fun vs H Q _=>∃ (c tt a:Addr) (p:Int) (k:Nat) (pl:List Int) (bs:List Addr) (nW:List (Int×Int)),vs = [.ref c,.ref a]/\zbP H c tt p k pl/\nO K H a #[AC]/\PtB H bs nW/\nW.length<=16/\p∈zG/\Pts p nW/\1<=k/\k<=100 /\
 ∀ (l:Addr) (rs:List Addr) (qs:List #[wp]) (H':Hp),H l=none->zr H H'->H' l=some (.lst (rs.map V.ref))->zaZ H' rs qs->qs.length<=65536->zlG p k qs->(∀ q,q∈qs↔∃ pk∈(chs nW k).map (·.2),q=thr p pk)->Q #[Pm] H'
end My
end
section
namespace L2
open PySem PySem.Spec PyProof.Rows
variable {H:Hp} {K:aF} {P:Program} {X:Cx} {h:Heap} {nM:List (Addr×Obj)} {nT:List (List Key×V)} {s:Shared} {tg:Expr} {w:World}
noncomputable def Itd (d:Addr) (o:Obj) (nT:List (List Key×V)):It :=
 ⟨fun i H=>H d=some #[Qh]/\i < nT.length,fun i H x H'=>H'=H/\∃ a k,x = .ref a/\(nT.map (·.1))[i]? = some k/\H a=some #[PK],fun i H=>H d=some #[Qh]/\nT.length<=i⟩
theorem znh {d:Addr} {o:Obj} {es:Array DictEntry} {ep:Nat} (hd:o.data = .dict es ep) (x:zat P w H h d #[Qh]) :
  zeR h d es ep/\es.size=nT.length/\∀ (i:Nat) (e:DictEntry),es[i]? = some e->∃ a k,e.key = .ref a/\(nT.map (·.1))[i]? = some k/\H a=some #[PK]:=by
 obtain⟨ho,_,_,xs,hp,o',xj,Fm,tV,hx,he,vZ,pU⟩:=x;have e1:o'=o:=by rw [ho] at tV; exact (bK tV).symm
 subst e1;rw [he] at hd;cases hd;have hl:es.toList.length=nT.length:=by rw [vZ,aA]; exact (bF hp).symm
 refine⟨⟨o',ho,hx,he⟩,by simpa using hl,fun i e h=>?_⟩;have h':es.toList[i]? = some e:=by rw [cB]; exact h
 rw [vZ,aD] at h';cases y6:xs[i]? with
 | none=>rw [y6] at h'; cases h'
 | some x =>
  rw [y6] at h';have BI:e=entryOfKey #[PQ] x:=(bK h').symm;have key:∀ {nT:List (List Key×V)} {xs:List (List Key×Addr×Value)},Paired (fun (p:List Key×V) (q:List Key×Addr×Value)=>p.1=q.1/\H q.2.1=some (.tup (p.1.map kV))/\RelV p.2 q.2.2) nT xs->∀ (i:Nat) x,xs[i]? = some x->∃ p,nT[i]? = some p/\H x.2.1=some (.tup (p.1.map kV)):=by
   intro nT xs hp;induction hp with
   | nil=>intro i x h; simp at h
   | cons h1 _ ih =>
    intro i x h;cases i with
    | zero =>
     (simp only [iH,jP] at h)
     subst h;exact⟨_,rfl,h1.2.1⟩
    | succ i =>
     rw [eD] at h;obtain⟨p,hp,hh⟩:=ih i x h;exact⟨p,by rw [eD]; exact hp,hh⟩
  obtain⟨p,rZ,hh⟩:=key hp i x y6;exact⟨x.2.1,p.1,by rw [BI]; rfl,by rw [aD,rZ]; rfl,hh⟩
theorem zoZ (d it:Addr) (o:Obj) (nT:List (List Key×V)) (es:Array DictEntry) (ep:Nat) (hd:o.data = .dict es ep):Turn P w K tg (Itd d o nT) [it] it (fun i h=>h.IsKeyIter it d i es.size ep) where
 mem:=by simp
 obj:=fun i h st b hb=>by
  have e:b=it:=by simpa using hb
  subst e;obtain⟨o,e,c,d⟩:=st;exact⟨o,e,fun v z=>by rw [d] at z; cases z⟩
 keep:=fun i h h' st k=>st.at fun o e=>k it #[M] o e
 item:=by
  intro X hP hw hK hc i nM s σ H E I hf st hg;subst hP hw hK;obtain⟨hq,hi⟩:=hg;obtain⟨xV,hsz,qr⟩:=znh hd (I.hok d _ hq);have pT:i < es.size:=by lia
  obtain⟨a,k,he,hk,ha⟩:=qr i es[i] (getElem?_pos es i pT);obtain⟨f0,f1,f2,f3,f4,f5⟩:=hf it #[M];refine ziA st xV (getElem?_pos es i pT) fun h' nU sb=>?_
  have I1:Inv X nM σ H { s with heap:=h' }:=I.turned (t':=s.toks) (fun b o hb e=>(sb.2 b hb).trans e) f0 f1 f3 f4 f5;obtain⟨o,e,c,d⟩:=id nU;exact⟨_,rfl,zfn (s:={ s with heap:=h' }) e c d #[D] ⟨.ref a,H,I1,by rw [he]; rfl,⟨rfl,a,k,rfl,hk,ha⟩,nU,fun b hb=>#[Ur].1⟩⟩
 done:=by
  intro X hP hw hK hc i nM s σ H E I hf st hg;subst hP hw hK;obtain⟨hq,hi⟩:=hg;obtain⟨xV,hsz,qr⟩:=znh hd (I.hok d _ hq);obtain⟨f0,f1,f2,f3,f4,f5⟩:=hf it #[M];exact zkw #[O7] st xV #[O] fun h' eb=>#[ut]
 self:=fun _ _ _ _ _ st h=>k9 st h
theorem Inv.Oy {σ:St} {d:Addr} {o:Obj} (I:Inv X nM σ H s) (hd:H d=some #[SX]) (ho:s.heap.get? d=some o):Inv X nM σ (nQ H d #[Qh]) s:=by
 have ne:∀ b u,H b=some u->(∀ k,u≠.dT k)->b≠d:=fun b u e n z=>by subst z; rw [hd] at e; exact n nT (bK e).symm
 have nn:∀ b,H b=none->b≠d:=fun b e z=>by subst z; rw [hd] at e; cases e
 have up:∀ b,H b=none->nQ H d #[Qh] b=none:=fun b e=>by rw [zp (nn b e)]; exact e
 refine⟨I.ok,I.os,I.bare,⟨I.base.keep,I.base.slot,fun b u e n hx=>up b (I.base.free b u e n hx),I.base.there,fun b xs e=>?_,fun b u xs e=>?_,fun b ps e=>?_⟩,I.loc,I.cell,up _ I.free,fun x c e=>up _ (I.Ls x c e),fun p rZ=>?_,fun b u e=>?_,I.len⟩
 ·have:=I.base.Nr b xs e;rw [zp (ne b _ this fun k z=>by cases z)];exact this
 ·have:=I.base.Nl b u xs e;rw [zp (ne b _ this fun k z=>by cases z)];exact this
 ·obtain⟨more,q⟩:=I.base.Nt b ps e;exact⟨more,by rw [zp (ne b _ q fun k z=>by cases z)]; exact q⟩
 ·obtain⟨a1,a2,a3⟩:=I.pin p rZ;exact⟨a1,up _ a2,a3⟩
 ·have MN:∀ {u:HO} {b:Addr},zat X.prog X.w H s.heap b u->zat X.prog X.w (nQ H d #[Qh]) s.heap b u:=fun {u b} x=>x.MN (fun c v _ q=>q) (fun c q=>by rw [zp (ne c _ q fun k z=>by cases z)]; exact q) fun c xs q=>by rw [zp (ne c _ q fun k z=>by cases z)]; exact q
  by_cases hb:b=d
  ·subst hb;rw [zc] at e;cases e;exact⟨ho,MN (I.hok b _ hd)⟩
  ·rw [zp hb] at e;exact MN #[Vy]
noncomputable def iDT (tl:TE):TI:=fun σ H R=>tl σ H fun x H1=>∃ d nT,x = .ref d/\H1 d=some #[SX]/\∀ o,R (Itd d o nT) (nQ H1 d #[Qh])
theorem zrA {X:Cx} {tg l:Expr} {tl:TE} (hl:PE X l tl):PI X tg l (iDT tl):=by
 intro nM s σ H R I h;refine thn #[RO] fun v s1 ⟨x,H1,I1,r1,q1⟩=>?_
 obtain⟨d,nT,e,hd,q⟩:=q1;subst e;cases r1;obtain⟨hz,hs,xs,hp,o,es,ep,ho,hx,he,vZ,pU⟩:=I1.hok d _ hd;have I2:=I1.Oy hd ho;refine ziz (es:=es) (ep:=ep) hs ⟨o,ho,hx,he⟩ ?_;refine⟨s1.heap.objs.size,[s1.heap.objs.size],_,_,_,rfl,I2.kept (t':=s1.toks) fun b o e=>aJ _ e,zoZ d _ o nT es ep he,⟨_,aX _ rfl,rfl,rfl⟩,fun b hb=>?_,q o⟩;have e:b=s1.heap.objs.size:=by simpa using hb
 subst e;exact I2.Mq (aH _) (I2.hok.fresh (aH _))
noncomputable def zqK (K:aF):R2:=fun x y H Q=>∃ a b xs ys,x = .ref a/\y = .ref b/\nS K H a xs/\nS K H b ys/\ys≠[]/\xs.length+ys.length<=sizeLine /\
 (xs = []->Q (.ref b) H)/\(xs≠[]->∀ p,H p=none->Q #[Tg] (nQ H p #[UR]))
theorem zlH (hK:X.K=K):OpR X #[Rt] (zqK K):=by
 subst hK;intro nM s σ H x y v u Q I rx ry h;obtain⟨a,b,xs,ys,rfl,rfl,ha,hb,hy,hz,q1,q2⟩:=h;by_cases hx:xs = []
 ·cases rx;cases ry;obtain⟨nP,r1,p1,_⟩:=I.tuple ha;obtain⟨n9,r2,p2,_⟩:=I.tuple hb;obtain⟨⟨cls,dd,data,sl⟩,ho,hc,n,hd⟩:=id p1;obtain⟨⟨GB,Fp,data2,Fq⟩,vF,Dy,n2,hd2⟩:=id p2;simp only at hc hd Dy hd2;subst hc hd Dy hd2;exact lQ ⟨_,ho,rfl⟩ ⟨_,vF,rfl⟩ jS lj iO iF (il _ _)
   (tuple_addW0 a b nP.toArray n9.toArray n n2 dd Fp sl Fq (by simp [r1.Md.mpr hx])) ⟨ho,vF,⟨.ref b,H,I,rfl,q1 hx⟩⟩
 ·exact zj7 nM s σ H _ _ v u Q I rx ry ⟨a,b,xs,ys,rfl,rfl,ha,hb,hx,hz,fun z=>absurd z hy,fun _=>q2 hx⟩
end L2
end
section
namespace My
open PySem L2 PyProof.Rows
variable {X:Cx}
theorem zni {st:Stmt} {ts:TS} (h:PS X st ts):PS X st (fun D σ H=>∃ Pv:L2.St->Hp->Prop,ts { D with nx:=Pv } σ H/\∀ σ' H',Pv σ' H'->D.nx σ' H'):=by
 intro nM s σ H D I hq;obtain⟨Pv,h1,h2⟩:=hq;refine thn (h nM s σ H _ I h1) fun f s1 q=>?_
 cases f with
 | next =>
  obtain⟨σ',H',I',p⟩:=q;exact⟨σ',H',I',h2 _ _ p⟩
 | ret v=>exact q
 | brk=>exact q
 | cont=>exact q
end My
end
section
namespace L2
open PySem PySem.Spec PyProof.Rows
theorem zkH {X:Cx} {K:aF} {tg l:Expr} {tl:TE} (hK:X.K=K) (hl:PE X l tl):PI X tg l (zrb K tl):=by subst hK; exact zcm hl
end L2
end
section
namespace HT
open PySem PySem.Spec PyProof.Rows
section
variable {prog:Program} {w:World} {A:Around} {E:Value->Shared->Prop} {s:Shared}
theorem Kr {t sl:Addr} {items:Array Value} {vl vu:Value} {lo hi:Option Int} {Q:Value->Shared->Prop} (ht:IsTup s.heap t items) (hs:s.heap.IsSliceOf sl vl vu .none) (pl:IsPart vl lo) (pu:IsPart vu hi)
  (hw:sIx items.size 0 lo=0/\sIx items.size items.size hi=items.size) (h:Q (.ref t) s):wpAny #[ss] A (getItem (.ref t) (.ref sl)) Q E s:=by
 obtain⟨os,xD,vW,uN⟩:=id hs;have GC:s.TypeIs (.ref sl) "slice":=⟨os,xD,vW⟩;unfold getItem
 try with_reducible refine cQ ?_
 first | refine aB (aK ?_) | skip
 refine aB #[Td];refine aB (cj (name:=cJ "__getitem__") ht.typeIs ff
  (cI ff ht.typeIs lE ?_ (lT _ _)))
 show wpAny _ _ (jC (.ref t) >>= _) _ _ s;refine aB (tupleItemsOf_ ht ?_);refine aB (im GC ?_);rw [if_pos #[D]];refine aB (zcw hs pl pu ?_);have HZ:(((sIx items.size 0 lo:Nat):Int) == 0 && (1:Int) == 1 && #[xz] == items.size)=true:=by
  rw [hw.1,hw.2];simp
 show wpAny _ _ (if (((sIx items.size 0 lo:Nat):Int) == 0 && (1:Int) == 1 && #[xz] == items.size)=true then _ else _) _ _ s;rw [if_pos HZ];refine aB (m:=Builtin.Tuple.tupleIsExact _) (aB (im ht.typeIs (aK ?_)));rw [if_pos #[D]]
 first
  | exact aB (c9 #[P0])
  | exact aB (aB (c9 #[P0]))
end
end HT
namespace L2
open PySem PySem.Spec PyProof.Rows
variable {K:aF} {X:Cx}
noncomputable def zrB (K:aF):V->Option Int->Option Int->Hp->VK->Prop:=fun x lo hi H Q=>∃ a xs,x = .ref a/\nS K H a xs/\∀ p H',zr H H'->nS K H' p #[Rb]->Q #[Tg] H'
theorem zo0:SlR X (zrB X.K):=by
 intro nM s σ H x v vl vu lo hi sl Q I rx hs pl pu h;obtain⟨a,xs,rfl,hx,q⟩:=h;by_cases hw:HT.sIx xs.length 0 lo=0/\HT.sIx xs.length xs.length hi=xs.length
 ·have rx':=rx;cases rx;obtain⟨nP,r,ht,hz⟩:=I.tuple hx;have nV:nP.toArray.size=xs.length:=by rw [aS]; exact r.length.symm
  refine⟨"tuple",_,PyProof.Rows.slot_tuple_getitem.lookup,ht.typeIs,?_⟩;refine HT.Kr ht hs pl pu (by rw [nV]; exact hw) #[Wh];have e:za7 xs lo hi=xs:=by
   unfold za7;rw [hw.1,hw.2,eY,eK,dL]
  rw [e];exact hx
 ·exact zmp nM s σ H #[Pn] v vl vu lo hi sl Q I rx hs pl pu ⟨a,xs,rfl,hx,hw,fun p hp=>q p _ (fun b o z=>by rw [zp (fun e=>by rw [e,hp] at z; cases z)]; exact z) #[SJ]⟩
theorem znj (hK:X.K=K):SlR X (zrB K):=by subst hK; exact zo0
theorem znk {X:Cx} {K:aF} {tg l:Expr} {tl:TE} (hK:X.K=K) (hl:PE X l tl):PI X tg l (zpv K tl):=by subst hK; exact zad hl
noncomputable def zr7:V->Option Int->Option Int->Hp->VK->Prop:=fun x lo hi H Q=>∃ a xs,x = .ref a/\H a=some #[Q9]/\∀ p H',zr H H'->H' p=some (.tup #[Rb])->Q #[Tg] H'
theorem zfc:SlR X zr7:=by
 intro nM s σ H x v vl vu lo hi sl Q I rx hs pl pu h;obtain⟨a,xs,rfl,hx,q⟩:=h;have hX:nS X.K H a xs:=nS.of hx;by_cases hw:HT.sIx xs.length 0 lo=0/\HT.sIx xs.length xs.length hi=xs.length
 ·cases rx;obtain⟨nP,r,ht,hz⟩:=I.tuple hX;have nV:nP.toArray.size=xs.length:=by rw [aS]; exact r.length.symm
  refine⟨"tuple",_,PyProof.Rows.slot_tuple_getitem.lookup,ht.typeIs,?_⟩;refine HT.Kr ht hs pl pu (by rw [nV]; exact hw) #[Wh];have e:za7 xs lo hi=xs:=by
   unfold za7;rw [hw.1,hw.2,eY,eK,dL]
  rw [e];exact hx
 ·exact zmp nM s σ H #[Pn] v vl vu lo hi sl Q I rx hs pl pu ⟨a,xs,rfl,hX,hw,fun p hp=>q p _ (fun b o z=>by rw [zp (fun e=>by rw [e,hp] at z; cases z)]; exact z) zc⟩
noncomputable def zrC:R2:=fun x y H Q=>∃ a b xs ys,x = .ref a/\y = .ref b/\H a=some #[Q9]/\H b=some #[Vr]/\xs.length+ys.length<=sizeLine/\ys≠[]/\∀ p H',zr H H'->H' p=some #[UR]->Q #[Tg] H'
theorem zkI {X:Cx}:OpR X #[Rt] zrC:=by
 intro nM s σ H x y v u Q I rx ry h;obtain⟨a,b,xs,ys,rfl,rfl,ha,hb,hz,hy,q⟩:=h;refine zlH rfl nM s σ H _ _ v u Q I rx ry ⟨a,b,xs,ys,rfl,rfl,nS.of ha,nS.of hb,hy,hz,fun e=>?_,fun _ p hp=>q p _ (fun b o z=>by rw [zp (fun e=>by rw [e,hp] at z; cases z)]; exact z) zc⟩;subst e;exact q b H #[OV] hb
end L2
end
section
namespace My
open PySem L2 PyProof.Rows
variable {H H':Hp} {cl:List (Nat×List Int)} {vv:List #[wp]}
noncomputable def md (p:Int) (q:Int×Int):Int×Int:=(q.1,q.2 % p)
theorem ziJ (p:Int) (s:List Int×List Int) (q:Int×Int):zc7 p s (md p q)=zc7 p s q:=by
 unfold zc7 md;have:(q.2 % p - zF p q.1 s.1)*inv p (zF p q.1 s.2) % p=(q.2 - zF p q.1 s.1)*inv p (zF p q.1 s.2) % p:=(((Cg.emod p q.2).sub #[On]).mul #[On]).mod_eq;dsimp only;rw [this]
theorem zkJ (p:Int):∀ (nW:List (Int×Int)) (s:List Int×List Int),#[Uj].foldl (zc7 p) s=nW.foldl (zc7 p) s
 | [],s=>rfl
 | q :: nW,s=>by
  rw [bV,kb,kb,ziJ,zkJ p nW]
theorem zqL (p:Int) (nW:List (Int×Int)):thr p #[Uj]=thr p nW:=by
 unfold thr zrs;rw [zkJ,aA]
noncomputable def ziK (K:aF):Sp:=fun vs H Q _=>∃ (p:Int) (a:Addr) (nW:List (Int×Int)),vs = [.int p,.ref a]/\zpC K H a nW/\nW.length<=100/\p∈zG/\Pts p #[Uj]/\(∀ q∈nW,0<=q.2/\q.2 < 10000) /\
 ∀ (l:Addr) (H':Hp),H l=none->zr H H'->H' l=some (.tup ((thr p #[Uj]).map V.int))->Q #[Pm] H'
noncomputable def zjC (K:aF):Sp:=fun vs H Q _=>∃ (p tm:Int) (a b:Addr) (as bs:List Int),vs = [.int p,.ref a,.int tm,.ref b]/\H a=some (.lst #[R1])/\H b=some (.lst #[SM])/\as.length=bs.length/\as.length<=1000/\0 < p/\0<=tm/\tm < 1000 /\
 ∀ (l:Addr) (H':Hp),H l=none->zr H H'->H' l=some (.lst ((cn (fun x y=>(x - tm*y) % p) as bs).map V.int))->Q #[Pm] H'
noncomputable def LsA (H:Hp):List Addr->List #[wp]->Prop:=Paired fun b v=>H b=some #[P5]
theorem LsA.same (s:zr H H') {bs:List Addr} (h:LsA H bs vv):LsA H' bs vv:=fg #[QM] h
noncomputable def ClA (ca:Addr) (H:Hp):List Addr->List (Nat×List Int)->Prop:=Paired fun b a=>∃ wa,H b=some (.tup [.int (a.1:Int),.ref wa])/\H wa=some (.lst (a.2.map V.int))/\wa≠ca
theorem ClA.same {ca:Addr} (s:zr H H') {bs:List Addr} (h:ClA ca H bs cl):ClA ca H' bs cl:=fg (fun _ _ ⟨wa,z1,z2,z3⟩=>⟨wa,s _ _ z1,s _ _ z2,z3⟩) h
theorem ClA.put {ca:Addr} {bs:List Addr} {xs:List V} {o:HO} (h:ClA ca H bs cl) (hf:H ca=some #[P9]):ClA ca (nQ H ca o) bs cl:=fg (fun b _ ⟨wa,z1,z2,z3⟩=>⟨wa,by
 rw [zp (fun e=>by rw [e,hf] at z1; cases z1)]; exact z1,by rw [zp z3]; exact z2,z3⟩) h
theorem zhu {xs:List V} {a b:Nat} (h:b<=xs.length):za7 xs (some (a:Int)) (some (b:Int))=(xs.drop a).take (b - a):=by
 unfold za7;rw [HT.KG,HT.KG];by_cases ha:a<=xs.length
 ·rw [dU ha,dU h]
 ·rw [show min a xs.length=xs.length by lia,dU h,gF (aH _),gF (show xs.length<=a by lia),gk,gk]
end My
end
section
namespace L2
open PySem PySem.Spec PyProof.Rows
theorem za4 {X:Cx} (hc:X.calm=true):zbv X (.builtin "max") (fun xs H Q=>∃ (p:Addr) (ns:List Int),xs = [.ref p]/\nO X.K H p #[Cl]/\ns≠[]/\∀ M:Int,M∈ns->(∀ a∈ns,a<=M)->Q (.int M) H):=by
 intro nM s σ H xs us Q I r h;obtain⟨p,ns,rfl,hq,hn,q⟩:=h;obtain⟨u,rfl,rx⟩:=vals1 r;cases rx;obtain⟨nP,rv,pl,hz⟩:=I.list hq;have hi:IntsAre nP ns:=by simpa using intsAre_of rv
 (obtain⟨xs,e⟩:=hi.allInts.items)
 have vH:ns=xs.toList.map (·.1):=by rw [<- hi.numsOf,<- lA,<- e]
 have hsz:0 < xs.size:=by
  have h3:=lH.mpr hn;rw [vH,aA,bT] at h3;exact h3
 have hl:=pl.isList;rw [e] at hl;refine max_intList #[O7] hl hsz fun v h' tk hv hk=>?_
 (obtain⟨t,rfl⟩:=iR hv)
 (obtain⟨h1,h2⟩:=m7 #[VI] #[Vt])
 refine⟨.int _,H,I.kept hk,⟨_,rfl⟩,q _ ?_ fun a ha=>?_⟩
 ·(rw [vH,j3]; exact getD_mem (by rw [aA,bT]; lia))
 ·rw [vH] at ha
  (obtain⟨j,hj,rfl⟩:=mem_getD ha)
  (rw [aA,bT] at hj)
  (rw [<- j3]; exact h2 j #[O])
end L2
end
section
namespace PySem
open PyProof.Rows
section
variable {prog:Program} {w:World} {A:Around} {E:Value->Shared->Prop} {s:Shared}
theorem zfQ {id:String} {b:Builtin} {args:List Value} {kw:List (Str×Value)} {Q:Value->Shared->Prop} (hk:builtinKind id=none) (hp:plainId id=true) (hb:entryFor table id=some b) (ha:argsOk id ⟨args,kw⟩)
  (hc:wpAny #[ss] A.in1 (b ⟨args,kw⟩) (fun fin s'=>match fin with
   | .done fl=>(match (Except.ok fl:Result) with | .ok (.ret v)=>Q v s' | .ok _=>False | .error e=>E e s')
   | .again c'=>c'.quiet=true/\codeAny #[ss] A c' (fun r s'=>match r with | .ok (.ret v)=>Q v s' | .ok _=>False | .error e=>E e s') s') E s):wpAny #[ss] A (call #[Q6] args kw) Q E s:=by
 refine (wpAny_call (codeAny_call_builtin hp hb ?_))
 (simp only [checkBuiltinCall,hk])
 cases hs:Manifest.signature? id with
 | none=>exact (aK hc)
 | some sg =>
  have a2:Bind.checkArgs id sg ⟨args,kw⟩=pure ():=by simpa only [argsOk,hs] using ha
  simp only [a2];exact (aK hc)
noncomputable def Mm (nm lp:String) (op:CmpOp):Prop:=(nm = "max"/\lp = "max.loop"/\op = .Gt)\/(nm = "min"/\lp = "min.loop"/\op = .Lt)
theorem znl {nm lp:String} {op:CmpOp} (hb:Mm nm lp op) (x d:Value):argsOk nm ⟨[x],[(cJ "default",d)]⟩:=by rcases hb with ⟨rfl,_,_⟩ | ⟨rfl,_,_⟩ <;> (unfold argsOk; kernel_rfl)
theorem zo1 {nm lp:String} {op:CmpOp} {R:Result->Shared->Prop} {I:Addr} {fp wr:List Addr} {n:Nat} {P:Nat->Value->Prop} {St:Nat->Heap->Prop} {kw:List (Str×Value)} (hb:Mm nm lp op) (W:Walks prog w A.in1 I fp wr n P St) (bt:Nat->Nat->Bool) (uh:CmpOf prog w A.in1 op P bt) (S:Addr) (C4:S∉fp) :
  ∀ (k j:Nat) (s:Shared) (vb:Value) (c:Nat),n - (j+1)=k->j+1<=n->St (j+1) s.heap->P (argBest bt j) vb->s.heap.get? S=some { cls:=.type "list",dict:=none,data:=.seq #[vb,vb] c,slots:=#[] }->(∀ v h' tk,P #[T7] v->(∀ b o,b∉wr->b≠S->s.heap.get? b=some o->h'.get? b=some o)->R (.ok (.ret v)) { s with heap:=h',toks:=tk })->codeAny #[ss] A (.builtin lp ⟨[.ref I,.none,.ref S],kw⟩) R s:=by
 have hw:S∉wr:=fun h=>C4 (W.sub _ h)
 have e1:(toString "max"++toString ".loop" : String) = "max.loop":=by decide
 have e2:(toString "min"++toString ".loop" : String) = "min.loop":=by decide
 intro k;induction k with
 | zero =>
  (intro j s vb c hk hj qp D' hS hR)
  obtain rfl:j+1=n:=by lia
  rcases hb with ⟨rfl,rfl,rfl⟩ | ⟨rfl,rfl,rfl⟩
  case' inl=>(have en:=iY; have pl:=iZ; have ee:=e1)
  case' inr=>(have en:=i3; have pl:=i4; have ee:=e2)
  all_goals
   (refine gz en ?_
    rw [fz pl _];show wpAny _ A.in1 (seqItems? (bP S) >>= _) _ _ s; refine #[UH];show wpAny _ A.in1 (tryCatch #[Ui] _ >>= _) _ _ s; refine (aB (ga (W.done s _ _ qp fun h' tk q=>?_)));show wpAny _ A.in1 (updateSeq S (fun _=>(#[]:Array Value)) >>= _) _ _ _; refine (aB (kh (q S _ hw hS) rfl (aB (gE (aK ?_)))));exact (hR vb _ tk D' fun b o h1 h2 e=>(dv _ _ (dW h2)).trans (q b o h1 e)))
 | succ k ih =>
  (intro j s vb c hk hj qp D' hS hR)
  (have n6:j+1 < n:=by lia)
  rcases hb with ⟨rfl,rfl,rfl⟩ | ⟨rfl,rfl,rfl⟩
  case' inl=>(have en:=iY; have pl:=iZ; have ee:=e1)
  case' inr=>(have en:=i3; have pl:=i4; have ee:=e2)
  all_goals
   (refine gz en ?_
    rw [fz pl _];show wpAny _ A.in1 (seqItems? (bP S) >>= _) _ _ s; refine #[UH];show wpAny _ A.in1 (tryCatch #[Ui] _ >>= _) _ _ s; refine (aB (ga (W.item (j+1) s _ _ n6 qp fun v h' tk hP v5 q=>?_)));have Ia:=q S _ hw hS
    first
     | show wpAny _ A.in1 (tryCatch (holding [v,v] (richCompare CmpOp.Gt v vb >>= _)) _ >>= _) _ _ _; refine #[Ru]
     | show wpAny _ A.in1 (tryCatch (holding [v,v] (richCompare CmpOp.Lt v vb >>= _)) _ >>= _) _ _ _; refine #[Ru]
    refine (aB (cQ (fE (aB (gE (aK ?_))))));cases eb:bt (j+1) (argBest bt j)
    ·(simp only [ck,if_false])
     refine (aB (gE ?_));rw [ee];refine (aK ⟨gm pl _,ih (j+1) _ vb c #[O] n6 v5 (by simp only [argBest,eb,ck,if_false]; exact D') Ia fun v' h2 Ea p2 q2=>?_⟩);exact (hR v' h2 Ea p2 fun b o i1 i2 e=>q2 b o i1 i2 (q b o i1 e))
    ·simp only [if_true];refine (aB (kh Ia rfl (aB (gE ?_))));rw [ee];refine (aK ⟨gm pl _,ih (j+1) _ v _ #[O] n6 (W.frame _ _ _ v5 fun b Ib o e=>?_) (by simp only [argBest,eb,if_true]; exact hP) (dX _ Ia rfl) fun v' h2 Ea p2 q2=>?_⟩)
     ·exact (dv _ _ (fun h:S=b=>C4 (h ▸ Ib))).trans e
     ·exact (hR v' h2 Ea p2 fun b o i1 i2 e=>q2 b o i1 i2 ((dv _ _ (dW i2)).trans (q b o i1 e))))
theorem znm {nm lp:String} {op:CmpOp} {R:Result->Shared->Prop} {I:Addr} {fp wr:List Addr} {n:Nat} {P:Nat->Value->Prop} {St:Nat->Heap->Prop} {ds:Str} {d:Value} (hb:Mm nm lp op) (W:Walks prog w A.in1 I fp wr n P St) (bt:Nat->Nat->Bool) (uh:CmpOf prog w A.in1 op P bt) (S:Addr) (C4:S∉fp) {c:Nat} (qp:St 0 s.heap) (hS:s.heap.get? S=some { cls:=.type "list",dict:=none,data:=.seq #[] c,slots:=#[] })
  (hR:∀ v h' tk,(0 < n->P #[T7] v)->(n=0->v=d)->(∀ b o,b∉wr->b≠S->s.heap.get? b=some o->h'.get? b=some o)->R (.ok (.ret v)) { s with heap:=h',toks:=tk }) :
  codeAny #[ss] A (.builtin lp ⟨[.ref I,.none,.ref S],[(ds,d)]⟩) R s:=by
 have hw:S∉wr:=fun h=>C4 (W.sub _ h)
 have e1:(toString "max"++toString ".loop" : String) = "max.loop":=by decide
 have e2:(toString "min"++toString ".loop" : String) = "min.loop":=by decide
 have L:=@zo1 prog w A nm lp op R I fp wr n P St [(ds,d)] hb W bt uh S C4;rcases hb with ⟨rfl,rfl,rfl⟩ | ⟨rfl,rfl,rfl⟩
 case' inl=>(have en:=iY; have pl:=iZ; have ee:=e1)
 case' inr=>(have en:=i3; have pl:=i4; have ee:=e2)
 all_goals
  (refine gz en ?_
   rw [fz pl _];show wpAny _ A.in1 (seqItems? (bP S) >>= _) _ _ s; refine #[UH];rcases Nat.eq_zero_or_pos n with hn | hn
   ·show wpAny _ A.in1 (tryCatch #[Ui] _ >>= _) _ _ s; refine (aB (ga (W.done s _ _ (hn ▸ qp) fun h' tk q=>?_)));show wpAny _ A.in1 (rule _ >>= fun _=>pure (Fin.done (Flow.ret d))) _ _ _
    (refine aB (c9 (aK ?_)))
    exact hR d h' tk #[O] (fun _=>rfl) fun b o i1 _ e=>q b o i1 e
   ·show wpAny _ A.in1 (tryCatch #[Ui] _ >>= _) _ _ s; refine (aB (ga (W.item 0 s _ _ hn qp fun v h' tk hP v5 q=>?_)));show wpAny _ A.in1 (updateSeq S (fun _=>(#[v,v]:Array Value)) >>= _) _ _ _; refine (aB (kh (q S _ hw hS) rfl ?_));rw [ee];refine (aK ⟨gm pl _,L _ 0 _ v _ rfl hn (W.frame _ _ _ v5 fun b Ib o e=>?_) hP (dX _ (q S _ hw hS) rfl) fun v' h2 Ea p2 q2=>?_⟩)
    ·exact (dv _ _ (fun h:S=b=>C4 (h ▸ Ib))).trans e
    ·exact (hR v' h2 Ea (fun _=>p2) #[O] fun b o i1 i2 e=>q2 b o i1 i2 ((dv _ _ (dW i2)).trans (q b o i1 e))))
theorem znn {nm lp:String} {op:CmpOp} {x d:Value} {Q:Value->Shared->Prop} (hb:Mm nm lp op)
  (h:wpAny #[ss] A.in1 (pyIter x) (fun it s₂=>∃ I fp wr n P St bt,it = .ref I/\Walks prog w A.in1 I fp wr n P St/\St 0 s₂.heap/\(∀ b∈fp,b < s₂.heap.objs.size)/\CmpOf prog w A.in1 op P bt /\
   ∀ v h' tk,(0 < n->P #[T7] v)->(n=0->v=d)->(∀ b o,b∉wr->s₂.heap.get? b=some o->h'.get? b=some o)->Q v { s₂ with heap:=h',toks:=tk }) E s) :
  wpAny #[ss] A (call (.builtin nm) [x] [(cJ "default",d)]) Q E s:=by
 have aa:=znl hb x d;have G8:=hb;have e1:(toString "max"++toString ".loop" : String) = "max.loop":=by decide
 have e2:(toString "min"++toString ".loop" : String) = "min.loop":=by decide
 rcases hb with ⟨rfl,rfl,rfl⟩ | ⟨rfl,rfl,rfl⟩
 case' inl=>(have en:=iY; have pl:=iZ; have ee:=e1)
 case' inr=>(have en:=i3; have pl:=i4; have ee:=e2)
 case' inl =>
  refine zfQ F.kind_max F.plain_max F.entry_max aa ?_;show wpAny _ A.in1 (fP "max" ["key","default"] 0 ⟨[],[(cJ "default",d)]⟩ >>= _) _ _ s;refine aB (dk (show fP "max" ["key","default"] 0 ⟨[],[(cJ "default",d)]⟩=pure [none,some d] by kernel_rfl) ?_)
 case' inr =>
  refine zfQ F.kind_min F.plain_min F.entry_min aa ?_;show wpAny _ A.in1 (fP "min" ["key","default"] 0 ⟨[],[(cJ "default",d)]⟩ >>= _) _ _ s;refine aB (dk (show fP "min" ["key","default"] 0 ⟨[],[(cJ "default",d)]⟩=pure [none,some d] by kernel_rfl) ?_)
 all_goals
  (refine (aB (aK (aB (et h (fun it s₂ h2=>?_) fun _ _ e=>e))))
   obtain⟨I,fp,wr,n,P,St,bt,rfl,W,qp,B2,hc,q⟩:=h2;refine (aB (cS ?_));rw [ee];refine (aK ⟨gm pl _,znm G8 W bt hc s₂.heap.objs.size (fun hm=>de _ (B2 _ hm)) (W.frame _ _ _ qp fun b _ o e=>aJ _ e) (aX _ rfl) fun v h' tk p1 p2 hk=>?_⟩);exact (q v h' tk p1 p2 fun b o i1 e=>hk b o i1 (bY (bA e)) (aJ _ e)))
end
end PySem
namespace L2
open PySem PySem.Spec PyProof.Rows
variable {A:Around} {prog:Program} {w:World}
noncomputable def zr8 (K:aF) (gt:Bool) (d:Int) (td:TE):TE:=fun σ H Q=>td σ H fun x H1=>∃ (p:Addr) (ns:List Int),x = .ref p/\nO K H1 p #[Cl] /\
 ∀ M:Int,(ns = []->M=d)->(ns≠[]->M∈ns/\∀ a∈ns,if gt=true then a<=M else M<=a)->Q (.int M) H1
noncomputable def mmN (gt:Bool):String:=if gt=true then "max" else "min"
theorem zr9 (gt:Bool):Mm (mmN gt) (if gt=true then "max.loop" else "min.loop") (if gt=true then .Gt else .Lt):=by cases gt <;> simp [Mm,mmN]
theorem zrD (gt:Bool) (xs:Array (Int×Tok)):CmpOf prog w A (if gt=true then .Gt else .Lt) (fun i v=>#[Sv][i]? = some v) (fun i j=>if gt=true then decide (numAt xs i > numAt xs j) else decide (numAt xs i < numAt xs j)):=by
 cases gt
 ·exact CmpOf.ints_lt #[VI] (fun _ _=>iR)
 ·exact nG #[VI] (fun _ _=>iR)
theorem zqM (gt:Bool) (f:Nat->Int):∀ n,argBest (fun i j=>if gt=true then decide (f i > f j) else decide (f i < f j)) n<=n/\∀ j,j<=n->if gt=true then f j<=f (argBest (fun i j=>if gt=true then decide (f i > f j) else decide (f i < f j)) n) else f (argBest (fun i j=>if gt=true then decide (f i > f j) else decide (f i < f j)) n)<=f j:=by
 cases gt
 ·exact fun n=>argBest_lt f n
 ·exact fun n=>m7 f n
theorem zjD {X:Cx} (gt:Bool) {x:Str} {elt ev:Expr} {gs:List Comprehension} {sc:Scope} {cp:Pos} {d:Int} {td:TE} {p pos kp:Pos} (hc:X.calm=true) (hx:bootBuiltins x=some (.builtin (mmN gt))) (hg:Gl X x) (hm:X.mg x=none) (hv:PE X ev (tC (.int d))) (ho:PE X (.ListComp elt gs sc cp) td)
  (hn:x≠"__name__":=by decide) (BB:(x == ("__debug__" : Str))=false:=by decide) :
  PE X (.Call (.Name x p) [.ListComp elt gs sc cp] [⟨some "default",ev,kp⟩] pos) (zr8 X.K gt d td):=by
 intro nM s σ H Q I h;refine ik (zbk I hg hm hx ?_ hn BB);refine callWith_kw ?_;show wpAny _ _ (spliced ((false,eval (.ListComp elt gs sc cp) X.env) :: [])) _ _ s;refine fN (thn #[RN] fun v s1 ⟨y,H1,I1,r1,q⟩=>?_);refine gG (kws_cons (thn (hv nM s1 σ H1 (fun z H2=>z = .int d/\H2=H1) I1 ⟨rfl,rfl⟩) fun u s2 ⟨z,H2,I2,r2,e1,e2⟩=>kws_nil ?_));subst e1 e2;obtain⟨a,ns,rfl,hq,q⟩:=q;cases r1;obtain⟨nP,rv,pl,hz⟩:=I2.list hq;have hi:IntsAre nP ns:=by simpa using intsAre_of rv
 obtain⟨xs,ex⟩:=hi.allInts.items;have vH:ns=xs.toList.map (·.1):=by rw [<- hi.numsOf,<- lA,<- ex]
 have hl:=pl.isList;rw [ex] at hl;show wpAny _ _ (call (.builtin (mmN gt)) [.ref a] [(cJ "default",u)]) _ _ _;refine znn (zr9 gt) (iter_intList hl fun s₂ e st B2 hlI=>?_);subst e;refine⟨_,_,_,_,_,_,_,rfl,Walks.list (A:=X.A.in1) (I2.ok.hd hc) _ a hlI #[Sv],st,B2,zrD gt xs,fun v h' tk p1 p2 hk=>?_⟩
 (have hsz:#[Sv].size=xs.size:=by simp [intItems])
 have nV:ns.length=xs.size:=by rw [vH,aA,bT]
 have I3:Inv X nM σ H2 { s2 with heap:=h',toks:=tk }:=I2.kept (old_kept hk);obtain⟨t2,rfl⟩:=r2;by_cases h0:xs.size=0
 ·obtain rfl:=p2 (by rw [hsz]; exact h0);refine⟨.int d,H2,I3,⟨_,rfl⟩,q d (fun _=>rfl) fun oH=>absurd (jl #[O]) oH⟩
 ·have yP:=p1 #[O];rw [hsz] at yP;obtain⟨t,rfl⟩:=iR yP;obtain⟨h1,h2⟩:=zqM gt #[VI] #[Vt];refine⟨.int _,H2,I3,⟨_,rfl⟩,q _ (fun h=>by rw [h] at nV; simp at nV; lia) fun _=>⟨?_,fun b hb=>?_⟩⟩
  ·(rw [vH,j3]; exact getD_mem (by rw [aA,bT]; lia))
  ·rw [vH] at hb;obtain⟨j,hj,rfl⟩:=mem_getD hb
   (rw [aA,bT] at hj)
   (rw [<- j3]; exact h2 j #[O])
end L2
end
section
namespace My
open PySem L2 PyProof.Rows
theorem ziL {f:Nat->Int} (m:Nat):∀ n,sm (m+n) f=sm m f+sm n fun j=>f (m+j)
 | 0=>by show sm m f=sm m f+0; lia
 | n+1=>by
  show sm (m+n) f+f (m+n)=sm m f+(sm n (fun j=>f (m+j))+f (m+n));rw [ziL m n];lia
end My
end
section
namespace L2
open PySem PySem.Spec PyProof.Rows
variable {K:aF} {X:Cx}
theorem zbA (hK:X.K=K):zbv X (.type "tuple") (fun xs H Q=>∃ p ys,xs = [.ref p]/\((nO K H p ys/\∀ l,H l=none->Q #[Pm] (nQ H l #[Vr]))\/(nS K H p ys/\Q #[Tg] H))):=by subst hK; exact zai
noncomputable def zrE:R2:=fun x y H Q=>∃ a b xs ys,x = .ref a/\y = .ref b/\H a=some #[Q9]/\H b=some #[Vr]/\xs≠[]/\xs.length+ys.length<=sizeLine/\∀ p H',zr H H'->H' p=some #[UR]->Q #[Tg] H'
theorem zkK:OpR X #[Rt] zrE:=by
 intro nM s σ H x y v u Q I rx ry h;obtain⟨a,b,xs,ys,rfl,rfl,ha,hb,hx,hz,q⟩:=h;exact zj7 nM s σ H _ _ v u Q I rx ry ⟨a,b,xs,ys,rfl,rfl,nS.of ha,nS.of hb,hx,hz,fun e=>q a H (fun _ _ z=>z) (by rw [e,cZ]; exact ha),fun _ p hp=>q p _ (fun b o z=>by rw [zp (fun e=>by rw [e,hp] at z; cases z)]; exact z) zc⟩
end L2
end
section
namespace PySem
theorem zeS:typeLookup (.type "zip") "__getattr__" = pure none:=by rw [fT,dY]; kernel_rfl
theorem zhv:typeLookup (.type "zip") "keys" = pure none:=by rw [fT,dY]; kernel_rfl
theorem zno:entryFor table "zip.__getattribute__" = some Builtin.«object.__getattribute__»:=entryFor_alias (id':="object.__getattribute__") (by kernel_rfl) #[N] #[N] (by kernel_rfl)
theorem znp (a:Addr) (xs:Array Value) (u:Tok) :
  Meets (Builtin.«object.__getattribute__» ⟨[.ref a,.str "keys" u],[]⟩) (fun A R s=>s.heap.get? a=some { cls:=.type "zip",dict:=none,data:=.fields xs,slots:=#[] }/\raisesAttr #[Pn] "keys" A R s) :=
 Meets.of_wp fun prog w A R s uQ=>by
  (obtain⟨hp,g,d,tk,os⟩:=s)
  obtain⟨hx,hs⟩:=uQ;have hT:(⟨hp,g,d,tk,os⟩:Shared).TypeIs #[Pn] "zip":=⟨_,hx,rfl⟩;have hmiss:=zhv
  (unfold Builtin.«object.__getattribute__»); repeat (any_goals (first | assumption | wp_step))
  exact wpAny_raiseAttrError hs.1 hs.2 (attrMsg_fits #[N] (by rw [bJ]; decide))
theorem zo2 {prog:Program} {w:World} {A:Around} {E:Value->Shared->Prop} {s:Shared} {a:Addr} {xs:Array Value} {Q:Option Value->Shared->Prop}
  (hx:s.heap.get? a=some { cls:=.type "zip",dict:=none,data:=.fields xs,slots:=#[] }) (hA:A.handled=none)
  (h:∀ h' tk,(∀ b o,s.heap.get? b=some o->h'.get? b=some o)->Q none { s with heap:=h',toks:=tk }) :
  wpAny #[ss] A (getAttr? #[Pn] "keys") Q E s:=by
 (obtain⟨hp,g,d,tk,os⟩:=s)
 have hT:∀ tk',(⟨hp,g,d,tk',os⟩:Shared).TypeIs #[Pn] "zip":=fun _=>⟨_,hx,rfl⟩
 have f1:=sub_AttributeError;have f3:=F.slot_zip_getattribute.lookup;have f4:=F.slot_zip_getattribute.bind #[Pn];have f5:=zeS
 (unfold getAttr? getAttrBy? getAttrBy)
 repeat (any_goals (first | assumption | exact hT _ | ((with_reducible show wpAny _ _ (call (lB "zip.__getattribute__") _ _) _ _ _); refine gp F.slot_zip_getattribute (hT _) zno (F.args_zip_getattribute_2 _ _) (znp a xs _) ⟨hx,hA,fun h' tk' e vJ=>?_⟩) | wp_step))
 (obtain⟨t',u',he⟩:=vJ.there)
 (show wpAny _ _ (getattributeRaised _ _ _ _ _ _ _) _ _ _)
 unfold getattributeRaised; repeat (any_goals (first | assumption | wp_step))
 exact h _ _ vJ.keeps
end PySem
end
section
namespace PySem
theorem ziM:entryFor table "dict.update.loop" = some Builtin.«dict.update.loop»:=entryFor_of_tree (by kernel_rfl)
theorem zd7:plainId "dict.update.loop" = true:=by decide +kernel
end PySem
namespace L2
open PySem PySem.Spec PyProof.Rows
variable {A:Around} {H H0:Hp} {X:Cx} {h':Heap} {nM:List (Addr×Obj)} {nT:List (List Key×V)} {pos:Pos} {s:Shared} {tk:Nat} {ys:List V}
abbrev zsa (n a b:Nat) (i:Nat) (h:Heap):Prop:=(∃ f0 f1,IsZ h (n+4) (n+2) (n+3) f0 f1/\ZF f0 f1)/\IsPair h (n+2) (.ref n) #[TU]/\(∃ u v,IsPair h (n+3) u v)/\h.IsListIter n a i/\h.IsListIter (n+1) b i
theorem zlI {κ:Type} [DecidableEq κ] {nT:List (κ×V)} {k:κ} (h:k∉nT.map (·.1)):zdI nT k=none:=by
 unfold zdI;rw [Option.map_eq_none_iff,List.find?_eq_none];intro kv hkv e;have e:kv.1=k:=of_decide_eq_true e;exact h (bE.mpr ⟨kv,hkv,e⟩)
theorem znq {κ:Type} {ks:List κ} {i:Nat} {k:κ} {y:V} (hk:ks[i]? = some k) (hy:ys[i]? = some y):#[RX].take (i+1)=#[RX].take i++[(k,y)]:=by
 have:#[RX][i]? = some (k,y):=by rw [ie]; exact⟨hk,hy⟩
 rw [jM,this,lw]
theorem zo3 {κ:Type} {ks:List κ} {i:Nat} {k:κ} (pU:ks.Nodup) (hk:ks[i]? = some k):k∉(#[RX].take i).map (·.1):=by
 intro h;obtain⟨q,hq,e⟩:=bE.mp h;obtain⟨j,hj⟩:=dF.mp hq;have Al:j < i:=by
  have:=(aW.mp hj).1;rw [aU] at this;lia
 rw [df Al] at hj;have hkj:ks[j]? = some k:=by
  have qu:#[RX][j]? = some (q.1,q.2):=hj;rw [ie] at qu;rw [qu.1,e]
 have h1:=(aW.mp hkj).1;have h2:=(aW.mp hk).1;exact dR.mp pU j i h1 h2 Al (by rw [(aW.mp hkj).2,(aW.mp hk).2])
theorem zo4 {α β:Type} {R:α->β->Prop} {as:List α} {bs:List β} (h:Paired R as bs):∀ {i:Nat} {x:α},as[i]? = some x->∃ y,bs[i]? = some y/\R x y:=by
 induction h with
 | nil=>intro i x e; simp at e
 | cons h1 _ ih =>
  intro i x e;cases i with
  | zero=>cases e; exact⟨_,rfl,h1⟩
  | succ i=>exact ih (by simpa using e)
theorem zch {n c:Nat} (h:c∈[n+4,n+3,n,n+1]):c∈zcp n:=by
 simp only [zcp,aV,bQ,or_false] at h |-;rcases h with z | z | z | z <;> subst z <;> simp
theorem zrF {σ:St} {n:Nat} (I:Inv X nM σ H s) (hf:∀ c∈zcp n,zcl X nM H c) (k1:∀ c o,c∉[n+4,n+3,n,n+1]->s.heap.get? c=some o->h'.get? c=some o):Inv X nM σ H { s with heap:=h',toks:=tk }:=by
 have ua:∀ d u',H d=some u'->d∉[n+4,n+3,n,n+1]:=fun d u' e' hd=>by rw [(hf d (zch hd)).1] at e'; cases e'
 refine I.step (g':=s.gens) (d':=s.drawn) (t':=tk) (ch:=[n+4,n+3,n,n+1]) #[U6] #[QS] #[PH] #[QB]
  (fun c o oS e=>⟨o,k1 c o oS e⟩) #[OV] #[Re] (fun c ps e=>⟨#[],by rw [e]; simp⟩) #[Sa] #[Ul] I.bare
 ·obtain⟨_,a1,_,a3,a4,a5⟩:=hf c (zch nX);exact⟨a3,a1,a4,a5⟩
 ·obtain⟨o,xj,ep,ho,r⟩:=hm;exact⟨o,xj,ep,k1 _ o (fun z=>(hf _ (zch z)).2.1 rfl) ho,r⟩
 ·refine #[Vx].MN #[RA] #[RY] fun _ _ q=>q
  rcases hd with z | z
  ·rw [z]; exact ua c u e
  ·exact ua d _ z
theorem zlJ {σ:St} {a b:Addr} {k:List Key} {v:V} {r:Value} {E:Value->Shared->Prop} {Q:Unit->Shared->Prop} (hu:A.units+1 < cLine) (I:Inv X nM σ H s) (e:H a=some #[SX]) (eb:H b=some #[PK]) (l:nT.length < sizeLine) (rv:RelV v r)
  (h:∀ s',(∀ c o,c≠a->s.heap.get? c=some o->s'.heap.get? c=some o)->Inv X nM σ (nQ H a (.dT #[QD])) s'->Q () s'):wpAny #[pi] A.in1 (dictSet a (.ref b) r) Q E s:=by
 obtain⟨z,hd,xs,rel,dd⟩:=zpE I.hok e;have hz:xs.length<=sizeLine:=by rw [<- bF rel]; exact z
 have hl:#[QD].length<=sizeLine:=by have:=zc9 nT k v; lia
 refine wpAny_dictSet_heap (hsz:=hz) (jw hu) (zhj I.hok eb) dd fun h' CW hs=>h _ (fun c o hc eo=>hs.extBut c o hc eo) ?_
 obtain⟨q,es,ep,hq,h2,h3,h4,_,h5⟩:=CW;refine zhk I (by rw [e]; exact f6) hs ⟨q,hq⟩ ⟨hl,hd,_,(rel.put k eb rv).keeps fun c ys ec=>?_,q,es,ep,hq,h2,h3,h4,h5⟩;rw [zp (zpu ec e (fun z=>nomatch z))];exact ec
noncomputable def KyA (H:Hp):List V->List (List Key)->Prop:=Paired fun x k=>∃ c,x = .ref c/\H c=some #[PK]
theorem zo5 {σ:St} {R:Result->Shared->Prop} {a b n D:Nat} {xs:List V} {ks:List (List Key)} (hh:A.handled=none) (hu:A.units+1 < cLine) (ha:a < n) (hb:b < n)
  (hD:H0 D=none) (hfD:D∉zcp n) (qv:nO X.K H0 a xs) (pz:nO X.K H0 b ys) (hk:KyA H0 xs ks) (pU:ks.Nodup) (hf:∀ c∈zcp n,zcl X nM H0 c)
  (hR:∀ s' H',Inv X nM σ H' s'->zr H0 H'->H' D=some (.dT #[RX])->R (.ok (.ret .none)) s') :
  ∀ (m i:Nat) (t:Tok) (s:Shared) (H:Hp),i+m=min xs.length ys.length->Inv X nM σ H s->zr H0 H->(∀ c∈zcp n,H c=none)->zsa n a b i s.heap->H D=some (.dT (#[RX].take i)) ->
   codeAny #[pi] A (.builtin "dict.update.loop" ⟨[.ref D,.ref (n+4),.int i t,.none],[]⟩) R s:=by
 intro m;induction m with
 | zero =>
  intro i t s H hi I hs hn st Ic;obtain⟨⟨f0,f1,h1,we⟩,h2,⟨u0,v0,h3⟩,h4,h5⟩:=st;obtain⟨oB,sQ,p1,tX⟩:=I.list (hs.seq qv);obtain⟨n9,tG,p2,xm⟩:=I.list (hs.seq pz);have u5:=sQ.length;have qg:=tG.length;refine gz ziM ?_;rw [fz zd7 _];show wpAny _ A.in1 (pyNext #[TR] >>= _) _ _ s;have Eb:A.in1.in1.handled=none:=by simp [hh]
  refine aB (zmO #[Wb] #[Wc] #[Ud] h1 we h2 h3 ⟨h4,p1.isList⟩ ⟨h5,p2.isList⟩ (by rw [aS,aS]; lia) fun h' tk kk=>?_);show wpAny _ A.in1 (Builtin.Dict.addKeywords D [] >>= _) _ _ _
  (refine aB (aK (aK ?_)))
  have I1:Inv X nM σ H { s with heap:=h',toks:=tk }:=zrF I (fun c hc=>⟨hn c hc,(hf c hc).2⟩) fun c o nX e=>by
   simp only [aV,bQ,or_false,not_or] at nX;exact kk c o nX.1 nX.2.1 nX.2.2.1 nX.2.2.2 e
  refine hR _ _ I1 hs ?_;rw [Ic,aY];rw [m8,<- bF hk];lia
 | succ m ih =>
  intro i t s H hi I hs hn st Ic;obtain⟨⟨f0,f1,h1,we⟩,h2,⟨u0,v0,h3⟩,h4,h5⟩:=st;obtain⟨oB,sQ,p1,tX⟩:=I.list (hs.seq qv);obtain⟨n9,tG,p2,xm⟩:=I.list (hs.seq pz);have u5:=sQ.length;have qg:=tG.length;have hx:xs[i]? = some (xs[i]'#[O]):=aG _;have hy:ys[i]? = some (ys[i]'#[O]):=aG _;generalize xs[i]'#[O]=x at hx;generalize ys[i]'#[O]=y at hy;obtain⟨u,huu,ru⟩:=sQ.get hx;obtain⟨v,hv,rv⟩:=tG.get hy;refine gz ziM ?_;rw [fz zd7 _];show wpAny _ A.in1 (pyNext #[TR] >>= _) _ _ s;have Eb:A.in1.in1.handled=none:=by simp [hh]
  refine aB (zkl #[Wb] #[Wc] #[Ud] h1 we h2 h3 ⟨h4,p1.isList⟩ ⟨h5,p2.isList⟩ (by rw [aS]; lia) (by rw [aS]; lia)
   fun x' y' h' tk g0 g1 a' b' px py ez DL e2 e3 t4 t5 pp hsz kk=>?_)
  have eu:x'=u:=by
   have e1:oB[i]? = some x':=by simpa using px
   rw [huu] at e1; exact (bK e1).symm
  have ev:y'=v:=by
   have e1:n9[i]? = some y':=by simpa using py
   rw [hv] at e1; exact (bK e1).symm
  subst eu ev;obtain⟨k,hki,kc,rfl,GO⟩:=zo4 hk hx;cases ru;have hff:∀ c∈zcp n,zcl X nM H c:=fun c hc=>⟨hn c hc,(hf c hc).2⟩
  have vZ:n+4 < s.heap.objs.size:=bA h1;have k1:∀ c o,c∉[n+4,n+3,n,n+1]->s.heap.get? c=some o->h'.get? c=some o:=fun c o nX eo=>by
   simp only [aV,bQ,or_false,not_or] at nX;exact kk c o nX.1 nX.2.1 nX.2.2.1 nX.2.2.2 eo
  have I1:Inv X nM σ H { s with heap:=h',toks:=tk }:=zrF I hff k1;show wpAny _ A.in1 (holding [.ref s.heap.objs.size] _ >>= _) _ _ _
  (refine aB (cQ ?_))
  (refine aB (ga ?_))
  unfold Builtin.Dict.pairItems;have hT:({ s with heap:=h',toks:=tk }:Shared).TypeIs #[wf] "tuple":=⟨_,pp,rfl⟩
  (refine aB (im hT ?_))
  rw [if_pos #[D]];refine aB (dD pp rfl (aK ?_));show wpAny _ A.in1 (holding [.ref kc,y'] (dictSet D (.ref kc) y')) _ _ _;have n6:(#[RX].take i).length < sizeLine:=by
   rw [aU];lia
  refine cQ (zlJ (A:=A) hu I1 Ic (hs _ _ GO) n6 rv fun s2 k2 I2=>?_);rw [zmR _ (zlI (zo3 pU hki)),<- znq hki hy] at I2;have nD:∀ c,c∈zcp n->c≠D:=fun c hc z=>hfD (by rw [<- z]; exact hc)
  refine aK ⟨gm zd7 _,?_⟩;show codeAny _ A (.builtin "dict.update.loop" ⟨[.ref D,.ref (n+4),.int ((i+1:Nat):Int) _,.none],[]⟩) R s2;refine ih (i+1) _ s2 _ #[O] I2 (fun c o e=>?_) (fun c hc=>?_) ?_ zc
  ·rw [zp (zH e hD)];exact hs c o e
  ·rw [zp (nD c hc)];exact hn c hc
  ·exact⟨⟨g0,g1,k2 _ _ (nD _ #[M]) ez,DL⟩,k2 _ _ (nD _ #[M]) e2,⟨_,_,k2 _ _ (nD _ #[M]) e3⟩,t4.1.at fun o e=>k2 _ o (nD _ #[M]) e,t5.1.at fun o e=>k2 _ o (nD _ #[M]) e⟩
noncomputable def tDZ (K:aF) (ta:TA):TE:=fun σ H Q=>ta σ H fun vs H1=>∃ a b xs ys ks,vs = [.ref a,.ref b]/\nO K H1 a xs/\nO K H1 b ys/\KyA H1 xs ks/\ks.Nodup/\∀ D H',H1 D=none->zr H1 H'->H' D=some (.dT #[RX])->Q #[Pt] H'
theorem zjE {p p2 pP:Pos} {a b:Expr} {ta:TA} (hu:X.A.units+2 < cLine) (hc:X.calm=true) (hg:Gl X "dict") (hm:X.mg "dict" = none) (Ac:Gl X "zip") (uS:X.mg "zip" = none) (ha:PA X [a,b] ta) (hs:starEach [a,b] X.env = [#[FB],#[Fr]]:=by rfl) (pH:starEach [b] X.env = [#[Fr]]:=by rfl)
  (uR:starEach [.Call (.Name "zip" p2) [a,b] [] pP] X.env = [(false,eval (.Call (.Name "zip" p2) [a,b] [] pP) X.env)]:=by rfl) :
  PE X (.Call (.Name "dict" p) [.Call (.Name "zip" p2) [a,b] [] pP] [] pos) (tDZ X.K ta):=by
 intro nM s σ H Q I h;refine Call_ (zbk I hg hm boot_dict (bZ ?_ uR rfl));rw [uR];show wpAny _ _ (spliced ((false,eval (.Call (.Name "zip" p2) [a,b] [] pP) X.env) :: [])) _ _ s;refine fN ?_;refine Call_ (zbk I Ac uS mO (bZ (thn (ha pP nM s σ H _ I h) fun us s1 ⟨vs,H1,I1,r1,q1⟩=>?_) (by rw [hs,pH]) (by rw [pH]; rfl)));obtain⟨l1,l2,xs,ys,ks,e,qv,pz,FK,pU,q⟩:=q1;subst e;cases r1 with
 | cons r rr =>
  cases rr with
  | cons r' rr =>
   cases rr;cases r;cases r';obtain⟨oB,sQ,xI,tX⟩:=I1.list qv;obtain⟨n9,tG,yJ,xm⟩:=I1.list pz;have qO:l1 < s1.heap.objs.size:=by obtain⟨_,_,e,_⟩:=xI; exact bA e
   have qP:l2 < s1.heap.objs.size:=by obtain⟨_,_,e,_⟩:=yJ; exact bA e
   refine call_zip_2 xI.isList yJ.isList fun h' b1 b2 b3 b4 b5 b6 kk=>?_
   refine gG ?_;have I2:Inv X nM σ H1 { s1 with heap:=h' }:=I1.kept (t':=s1.toks) kk;have B2:∀ c∈zcp s1.heap.objs.size,zcl X nM H1 c:=fun c hc=>by
    have hle:s1.heap.objs.size<=c:=by
     simp only [zcp,aV,bQ,or_false] at hc;rcases hc with z | z | z | z | z <;> subst z
     all_goals first | exact jW _ _ | exact aH _
    exact I1.Mq hle #[Qx]
   generalize hn:s1.heap.objs.size=n at b1 b2 b3 b4 b5 b6 qO qP B2 |-;refine callType_codes (Q₁:=fun obj s₁=>obj = .ref h'.objs.size/\s₁ = { s1 with heap:=h'.push { cls:=.type "dict",data:=.dict #[] } }) F.kt_called_dict (F.kt_typeCall_dict_1 _) F.entry_dict_init (kt_code_dict_new _ ⟨rfl,rfl⟩) ?_;rintro obj s₁ ⟨rfl,rfl⟩;have Ie:∀ c o,h'.get? c=some o->(h'.push { cls:=.type "dict",data:=.dict #[] }).get? c=some o:=fun c o e=>aJ _ e
   have I3:Inv X nM σ (nQ H1 h'.objs.size (.dT [])) { s1 with heap:=h'.push { cls:=.type "dict",data:=.dict #[] } } :=
    I2.laid (a:=h'.objs.size) (o:=.dT []) (t':=s1.toks) Ie (aH _) (zir h' I2.big)
   have hT:({ s1 with heap:=h'.push { cls:=.type "dict",data:=.dict #[] } }:Shared).TypeIs (.ref h'.objs.size) "dict":=⟨_,aX _ rfl,rfl⟩;refine⟨hT,F.args_dict_init_2 _ _,?_⟩
   (unfold Builtin.«dict.__init__»; refine aB ?_; unfold Builtin.Dict.selfAndRest)
   (refine aB (kO hT ?_))
   show wpAny _ _ (pure (h'.objs.size,[bP (n+4)])) _ _ _;refine (aK ?_);show wpAny _ _ (j9 "dict.__init__" h'.objs.size #[TR] [] .none) _ _ _
   (unfold j9)
   have Ig:=Ie _ _ b1;have wg:({ s1 with heap:=h'.push { cls:=.type "dict",data:=.dict #[] } }:Shared).TypeIs #[TR] "zip":=⟨_,Ig,rfl⟩;refine aB (im wg ?_);rw [if_pos #[D]];have hh:X.A.handled=none:=I.ok.hd hc;refine aB (zo2 Ig (by simp [hh]) fun h2 tk yK=>?_);rw [if_pos (by rfl)];refine aB (c9 ?_);have I4:Inv X nM σ (nQ H1 h'.objs.size (.dT [])) { s1 with heap:=h2,toks:=tk }:=Inv.kept (s:={ s1 with heap:=h'.push { cls:=.type "dict",data:=.dict #[] } }) (t':=tk) I3 yK;refine aB (zhi (yK _ _ Ig) (aK ⟨gm zd7 _,?_⟩));have D0:H1 h'.objs.size=none:=I2.hok.fresh (aH _);have up:∀ c o,h'.get? c=some o->h2.get? c=some o:=fun c o e=>yK c o (Ie c o e)
   refine zo5 (X:=X) (nM:=nM) (σ:=σ) (A:=X.A.in1) (H0:=H1) (a:=l1) (b:=l2) (n:=n) (D:=h'.objs.size) (xs:=xs) (ys:=ys) (ks:=ks) (by simp [hh]) (by simp only [Around.in1_units]; lia) qO qP D0 ?_ qv pz FK pU B2 (fun s' H' I' e1 e2=>?_) (min xs.length ys.length) 0 _ _ _ #[O] I4 (fun c o e=>?_) (fun c hc=>?_) ?_ ?_
   ·rw [b6];simp
   ·exact⟨rfl,.ref h'.objs.size,_,I',rfl,q _ _ D0 e1 e2⟩
   ·rw [zp (zH e D0)];exact e
   ·rw [zp]
    ·exact (B2 c hc).1
    ·rw [b6];simp only [zcp,aV,bQ,or_false] at hc;rcases hc with z | z | z | z | z <;> subst z <;> exact nq #[O]
   ·exact⟨⟨_,_,up _ _ b1,.inl rfl,_,rfl⟩,up _ _ b2,⟨_,_,up _ _ b3⟩,b4.at fun o e=>up _ o e,b5.at fun o e=>up _ o e⟩
   ·rw [gN];exact zc
end L2
end
section
namespace PySem
theorem zd8:typeLookup (.type "list") (dunderI "add")=pure (some (.builtin "list.__iadd__")):=by rw [fT,dY]; kernel_rfl
theorem zgj:seqSlot? (.type "list") (dunderI "add")=pure (some (.builtin "list.__iadd__")):=by
 unfold seqSlot?;rw [zd8]
 kernel_rfl
theorem zhw:fillsInplaceSlot (.type "list") "add" (Operator.Add == .Add)=pure false:=by
 unfold fillsInplaceSlot;show (typeLookup (.type "list") (dunderI "add") >>= fun fi=>pure (fi.isSome && !isSeqSlot fi))=pure false;rw [zd8]
 kernel_rfl
theorem zlK {M:Model} {A:Around} {E:Value->Shared->Prop} {s:Shared} {a b:Value} {Q:Value->Shared->Prop} (ha:s.TypeIs a "list") (hb:s.TypeIs b "list")
  (hc:wpAny M A (call (.builtin "list.__iadd__") [a,b]) Q E s):wpAny M A (inplaceOp .Add a b) Q E s:=by
 (unfold inplaceOp; refine cQ ?_)
 refine aB (im ha (aB (dk zhw ?_)))
 (show wpAny M A (if false=true then _ else _) Q E s)
 rw [if_neg bH];refine aB (wpAny_binaryOp1_none (nm:="add") ha hb noFill_list_add ?_);refine aB (dk zgj ?_);exact (aB (c9 hc))
end PySem
namespace L2
open PySem PySem.Spec PyProof.Rows
variable {K:aF} {X:Cx} {k:Nat} {o9 pos:Pos}
noncomputable def zqN:R2:=fun x y H Q=>∃ l b xs zs,x = .ref l/\y = .ref b/\H l=some #[P9]/\H b=some (.lst zs)/\xs.length+zs.length<=sizeLine/\Q #[Pm] (nQ H l (.lst (xs++zs)))
theorem znr:OpR X (inplaceOp .Add) zqN:=by
 intro nM s σ H x y v u Q I rx ry h;obtain⟨l,b,xs,zs,rfl,rfl,hH,hB,hz,q⟩:=h;cases rx;cases ry;obtain⟨z,nP,n,r,hl,e⟩:=I.NC hH;obtain⟨z2,n9,n2,r2,qg,e2⟩:=I.NC hB;have hsz:nP.toArray.size+n9.toArray.size<=sizeLine:=by rw [aS,aS]; lia
 have uc:¬ (!nP.toArray.isEmpty && fm #[Um])=true:=by
  rw [zfv hsz,nk];exact bH
 refine zlK ⟨_,e,rfl⟩ ⟨_,e2,rfl⟩ (gp F.slot_list_iadd ⟨_,e,rfl⟩ F.entry_list_iadd (F.args_list_iadd_2 _ _)
  (AutoSeq1.list___iadd___list_list_0 l nP.toArray n b n9.toArray n2 uc (by rw [aS]; lia) #[O]) ⟨e,e2,?_⟩)
 refine⟨.ref l,_,I.NX (its':=nP++n9) hH e #[M] (r.append r2) ?_,rfl,q⟩;rw [aO];lia
theorem zlL {es:List Expr} {p:Pos} {a b:Expr} {ta:TA} (hK:X.K=K) (hg:Gl X "zip") (hm:X.mg "zip" = none) (ha:PA X [a,b] ta) (hs:starEach [a,b] X.env = [#[FB],#[Fr]]:=by rfl) (pH:starEach [b] X.env = [#[Fr]]:=by rfl) :
  PI X #[Pg] (.Call (.Name "zip" p) [a,b] [] pos) (iZq (nS K) (nO K) ta):=by subst hK; exact zio hg hm ha hs pH
theorem zjF (hK:X.K=K) (hc:X.calm=true):zbv X (.builtin "sum") (fun xs H Q=>∃ (p:Addr) (ns:List Int),xs = [.ref p]/\nO K H p #[Cl]/\Q (.int ns.sum) H):=by subst hK; exact zet hc
end L2
end
section
namespace My
open PySem L2 PyProof.Rows
variable {F:Nat->Ps} {H H':Hp} {W j k:Nat} {ls:List Addr} {nW:List (Int×Int)} {rows vv:List #[wp]} {x0:Int}
noncomputable def sh (b:Int):Nat->(Nat->Int)->Nat->Int
 | 0,_,_=>0
 | n+1,l,0=>l 0+b*sh b n #[OH] 0
 | n+1,l,j+1=>sh b n #[OH] j+b*sh b n #[OH] (j+1)
theorem zdo {b:Int}:∀ {n:Nat} {l:Nat->Int} {j:Nat},n<=j->sh b n l j=0
 | 0,_,_,_=>by simp [sh]
 | n+1,l,0,h=>by lia
 | n+1,l,j+1,h=>by
  rw [sh,zdo #[O],zdo #[O]]; simp
theorem zfR {b:Int}:∀ {n:Nat} {u v:Nat->Int} {j:Nat},sh b n (fun t=>u t+v t) j=sh b n u j+sh b n v j
 | 0,_,_,_=>by simp [sh]
 | n+1,u,v,0=>by
  have h:=zfR (b:=b) (n:=n) (u:=fun t=>u (t+1)) (v:=fun t=>v (t+1)) (j:=0);simp only [sh,h]; grind
 | n+1,u,v,j+1=>by
  have h:=zfR (b:=b) (n:=n) (u:=fun t=>u (t+1)) (v:=fun t=>v (t+1)) (j:=j);have h':=zfR (b:=b) (n:=n) (u:=fun t=>u (t+1)) (v:=fun t=>v (t+1)) (j:=j+1);simp only [sh,h,h']; grind
theorem zfS {b c:Int}:∀ {n:Nat} {u:Nat->Int} {j:Nat},sh b n (fun t=>c*u t) j=c*sh b n u j
 | 0,_,_=>by simp [sh]
 | n+1,u,0=>by
  have h:=zfS (b:=b) (c:=c) (n:=n) (u:=fun t=>u (t+1)) (j:=0);simp only [sh,h]; grind
 | n+1,u,j+1=>by
  have h:=zfS (b:=b) (c:=c) (n:=n) (u:=fun t=>u (t+1)) (j:=j);have h':=zfS (b:=b) (c:=c) (n:=n) (u:=fun t=>u (t+1)) (j:=j+1);simp only [sh,h,h']; grind
theorem zeI {b:Int}:∀ {n:Nat} {u v:Nat->Int} {j:Nat},(∀ t,t < n->u t=v t)->sh b n u j=sh b n v j
 | 0,_,_,_,_=>by simp [sh]
 | n+1,u,v,0,h=>by
  rw [sh,sh,h 0 #[O],zeI (n:=n) (v:=fun t=>v (t+1)) fun t ht=>h (t+1) #[O]]
 | n+1,u,v,j+1,h=>by
  have e:=fun i=>zeI (b:=b) (n:=n) (u:=fun t=>u (t+1)) (v:=fun t=>v (t+1)) (j:=i) fun t ht=>h (t+1) #[O]
  rw [sh,sh,e j,e (j+1)]
theorem zd9 {p b b':Int} (hb:Cg p b b'):∀ {n:Nat} {u v:Nat->Int} {j:Nat},(∀ t,t < n->Cg p (u t) (v t))->Cg p (sh b n u j) (sh b' n v j)
 | 0,_,_,_,_=>by simp only [sh]; exact Cg.refl _ _
 | n+1,u,v,0,h=>by
  simp only [sh];exact (h 0 #[O]).add (hb.mul (zd9 hb fun t ht=>h (t+1) #[O]))
 | n+1,u,v,j+1,h=>by
  simp only [sh];exact (zd9 hb fun t ht=>h (t+1) #[O]).add (hb.mul (zd9 hb fun t ht=>h (t+1) #[O]))
theorem zhx {b:Int}:∀ {n:Nat} {f:Nat->Int} {j:Nat},f n=0->sh b (n+1) f j=sh b n f j
 | 0,f,0,h=>by simp [sh,h]
 | 0,f,j+1,h=>by simp [sh]
 | n+1,f,0,h=>by
  rw [sh,zhx (n:=n) (f:=fun t=>f (t+1)) h]; simp only [sh]
 | n+1,f,j+1,h=>by
  have e:=fun i=>zhx (b:=b) (n:=n) (f:=fun t=>f (t+1)) (j:=i) h
  rw [sh,e j,e (j+1)]; simp only [sh]
theorem zkL {b:Int} {n:Nat} {f:Nat->Int} :∀ {m:Nat},n<=m->(∀ t,n<=t->t < m->f t=0)->sh b m f j=sh b n f j
 | m,h,z=>by
  induction m with
  | zero =>
   obtain rfl:n=0:=by lia
   rfl
  | succ m ih =>
   by_cases e:n=m+1
   ·rw [e]
   ·rw [zhx (z m #[O] #[O])];exact ih #[O] fun t h1 h2=>z t h1 #[O]
theorem zhy:∀ {n:Nat} {l:Nat->Int} {j:Nat},j < n->sh 0 n l j=l j
 | 0,_,_,h=>by lia
 | n+1,l,0,_=>by simp [sh]
 | n+1,l,j+1,h=>by
  rw [sh,zhy (n:=n) (l:=fun t=>l (t+1)) #[O]]; simp
theorem zns {b b':Int}:∀ {n:Nat} {l:Nat->Int} {j:Nat},sh b' n (sh b n l) j=sh (b+b') n l j
 | 0,_,_=>by simp [sh]
 | n+1,l,j=>by
  have hz:sh b n #[OH] n=0:=zdo (aH _);have ih:=fun i=>zns (b:=b) (b':=b') (n:=n) (l:=fun t=>l (t+1)) (j:=i)
  have e:sh b' (n+1) (sh b (n+1) l) j=sh b' (n+1) (fun t=>(if t=0 then l 0 else sh b n #[OH] (t - 1))+b*sh b n #[OH] t) j:=by
   refine zeI fun t _=>?_
   cases t <;> simp [sh]
  rw [e,zfR,zfS,zhx hz,ih];cases j with
  | zero =>
   simp only [sh,if_true];have e2:sh b' n (fun t=>if t+1=0 then l 0 else sh b n #[OH] (t+1 - 1)) 0=sh (b+b') n #[OH] 0:=by
    rw [<- ih]; exact zeI fun t _=>by simp
   rw [e2]; grind
  | succ j =>
   simp only [sh];have e2:∀ i,sh b' n (fun t=>if t+1=0 then l 0 else sh b n #[OH] (t+1 - 1)) i=sh (b+b') n #[OH] i:=fun i=>by
    rw [<- ih]; exact zeI fun t _=>by simp
   rw [e2,e2]; grind
noncomputable def vl:Nat->(Nat->Int)->Int->Int
 | 0,_,_=>0
 | n+1,l,y=>l 0+y*vl n #[OH] y
noncomputable def ch:Nat->Nat->Int
 | _,0=>1
 | 0,_+1=>0
 | t+1,j+1=>ch t j+ch t (j+1)
theorem zdp:∀ {t j:Nat},t < j->ch t j=0
 | _,0,h=>by lia
 | 0,j+1,_=>rfl
 | t+1,j+1,h=>by rw [ch,zdp #[O],zdp #[O]]; rfl
theorem zcC {b:Int}:∀ {n:Nat} {l:Nat->Int} {j:Nat},sh b n l j=sm n fun t=>ch t j*b ^ (t - j)*l t
 | 0,_,_=>rfl
 | n+1,l,0=>by
  rw [sh,zcC,zbY,<- zcq];congr 1
  ·simp [ch]
  ·exact zaH fun i _=>by simp only [ch,eK]; grind
 | n+1,l,j+1=>by
  rw [sh,zcC,zcC,zbY,<- zcq,<- zjA];have e0:ch 0 (j+1)*b ^ (0 - (j+1))*l 0=0:=by simp [ch]
  rw [e0,cV];refine zaH fun i _=>?_
  have e1:i+1 - (j+1)=i - j:=by lia
  rw [ch,e1];by_cases h:j+1<=i
  ·have e2:i - j=(i - (j+1))+1:=by lia
   rw [e2,fw]; grind
  ·rw [zdp (t:=i) (j:=j+1) #[O]]; simp
theorem zfd:∀ {t j:Nat},((j:Int)+1)*ch t (j+1)=((t:Int) - j)*ch t j
 | 0,0=>by simp [ch]
 | 0,j+1=>by simp [ch]
 | t+1,0=>by
  have h:=zfd (t:=t) (j:=0);simp only [ch] at h |-;push_cast at h |-; grind
 | t+1,j+1=>by
  have h:=zfd (t:=t) (j:=j);have h':=zfd (t:=t) (j:=j+1);simp only [ch] at h h' |-;push_cast at h h' |-; grind
theorem zqO {t:Nat}:ch t j*((t:Int) - j) / ((j:Int)+1)=ch t (j+1):=by
 rw [jg,<- zfd];exact Int.mul_ediv_cancel_left _ #[O]
noncomputable def hs (b:Int):Nat->(Nat->Int)->Nat->Int
 | 0,_,_=>0
 | n+1,l,0=>l 0+b*hs b n #[OH] 0
 | n+1,l,j+1=>hs b n #[OH] j
theorem zcQ {b:Int}:∀ {n:Nat} {l:Nat->Int} {j:Nat},n<=j->hs b n l j=0
 | 0,_,_,_=>by simp [hs]
 | n+1,l,0,h=>by lia
 | n+1,l,j+1,h=>by rw [hs,zcQ #[O]]
theorem zea {b:Int}:∀ {n:Nat} {l:Nat->Int} {j:Nat},j < n->hs b n l j=l j+b*hs b n l (j+1)
 | 0,_,_,h=>by lia
 | n+1,l,0,h=>by simp only [hs]
 | n+1,l,j+1,h=>by
  rw [hs,zea (n:=n) (l:=fun t=>l (t+1)) #[O]]; rfl
theorem zkM {b:Int}:∀ {n:Nat} {l:Nat->Int},sh b (n+1) l 0=hs b (n+1) l 0/\∀ j,sh b (n+1) l (j+1)=sh b n (fun t=>hs b (n+1) l (t+1)) j
 | 0,l=>by simp [sh,hs]
 | n+1,l=>by
  obtain⟨h0,h1⟩:=zkM (b:=b) (n:=n) (l:=fun t=>l (t+1));refine⟨?_,fun j=>?_⟩
  ·rw [sh,h0]; simp only [hs]
  ·rw [sh];have e:sh b (n+1) (fun t=>hs b (n+2) l (t+1)) j=sh b (n+1) (fun t=>hs b (n+1) #[OH] t) j:=zeI fun t _=>by rw [hs]
   rw [e];cases j with
   | zero=>rw [h0,h1 0]; simp only [sh]
   | succ j=>rw [h1 j,h1 (j+1)]; simp only [sh]
noncomputable def qo (b:Int) (n:Nat) (l:Nat->Int):Nat->Nat->Int
 | 0=>l
 | f+1=>fun t=>hs b (n - f) (qo b n l f) (t+1)
theorem zpH {b:Int} {n:Nat} {l:Nat->Int}:∀ {f:Nat},f<=n->∀ j,sh b n l (f+j)=sh b (n - f) (qo b n l f) j
 | 0,_,j=>by rw [eJ]; rfl
 | f+1,h,j=>by
  have ih:=zpH (b:=b) (n:=n) (l:=l) (f:=f) #[O] (j+1);have e:f+1+j=f+(j+1):=by lia
  have e2:n - f=(n - (f+1))+1:=by lia
  rw [e,ih,e2,(zkM).2 j];refine zeI fun t _=>?_
  rw [qo,e2]
theorem znt {b:Int} {n:Nat} {l:Nat->Int} {f:Nat} (h:f < n):sh b n l f=hs b (n - f) (qo b n l f) 0:=by
 have ih:=zpH (b:=b) (n:=n) (l:=l) (f:=f) #[O] 0;have e2:n - f=(n - (f+1))+1:=by lia
 rw [gM] at ih;rw [ih,e2,(zkM).1]
theorem zo6 {a b:Int} {n w:Nat} {g:Nat->Nat->Int} {i:Nat}:sh b n (fun t=>sh a w (fun s=>g t s) i) j=sh a w (fun s=>sh b n (fun t=>g t s) j) i:=by
 rw [zcC,zcC];have e1:(fun t=>ch t j*b ^ (t - j)*sh a w (fun s=>g t s) i)=fun t=>sm w fun s=>(ch t j*b ^ (t - j))*(ch s i*a ^ (s - i)*g t s):=by
  funext t; rw [zcC,<- zcq]
 have e2:(fun s=>ch s i*a ^ (s - i)*sh b n (fun t=>g t s) j)=fun s=>sm n fun t=>(ch t j*b ^ (t - j))*(ch s i*a ^ (s - i)*g t s):=by
  funext s; rw [zcC,<- zcq];exact zaH fun t _=>by grind
 rw [e1,e2,zht]
noncomputable def mv (a b:Int) (n w:Nat) (c:Nat->Nat->Int) (j i:Nat):Int:=sh a w (fun s=>sh b n (fun t=>c t s) j) i
theorem zpI {p a a' b b':Int} {n w:Nat} {c d:Nat->Nat->Int} {i:Nat} (ha:Cg p a a') (hb:Cg p b b') (h:∀ t s,t < n->s < w->Cg p (c t s) (d t s)):Cg p (mv a b n w c j i) (mv a' b' n w d j i) :=
 zd9 ha fun s hs=>zd9 hb fun t ht=>h t s ht hs
theorem zpJ {a b:Int} {n w:Nat} {c:Nat->Nat->Int} {i:Nat}:mv a b n w c j i=sm n fun t=>sm w fun s=>c t s*ch t j*ch s i*a ^ (s - i)*b ^ (t - j):=by
 unfold mv;rw [zcC,<- zht];refine zaH fun s _=>?_
 rw [zcC,<- zcq];exact zaH fun t _=>by grind
theorem zpK {y:Int}:∀ {n:Nat} {l:Nat->Int},vl n l y=sm n fun t=>l t*y ^ t
 | 0,_=>rfl
 | n+1,l=>by
  rw [vl,zpK,zbY,<- zcq];congr 1
  ·simp
  ·exact zaH fun t _=>by rw [fw]; grind
theorem zo7 {p a a' b b':Int} {n w:Nat} {c d:Nat->Nat->Int} (ha:Cg p (a+a') 0) (hb:Cg p (b+b') 0) (hd:∀ t s,t < n->s < w->Cg p (d t s) #[UC]) {i:Nat} (hj:j < n) (hi:i < w):Cg p (mv a' b' n w d j i) (c j i):=by
 refine (zpI #[Tp] #[Tp] hd).trans ?_;have e:mv a' b' n w #[Wl] j i=mv (a+a') (b+b') n w c j i:=by
  unfold mv;have e1:(fun s=>sh b' n (fun t=>sh a w (fun s=>sh b n (fun t=>c t s) t) s) j)=sh a w (fun s=>sh (b+b') n (fun t=>c t s) j):=by
   funext s;rw [zo6];refine zeI fun s _=>?_
   exact zns (b:=b) (b':=b') (l:=fun t=>c t s)
  rw [e1,zns]
 rw [show (mv a b n w c)=#[Wl] from rfl,e];refine (zpI ha hb fun _ _ _ _=>Cg.refl _ _).trans #[Q5];unfold mv;rw [zhy hi,zhy (l:=fun t=>c t i) hj]
theorem zrG {p a b:Int} {n w:Nat} {c:Nat->Nat->Int} {i:Nat} (hj:j < n) (hi:i < w) (hc:¬ Cg p (c j i) 0):∃ t s,t < n/\s < w/\¬ Cg p #[UC] 0:=by
 refine dA fun h=>hc ?_
 have z:∀ t s,t < n->s < w->Cg p (0:Int) #[UC]:=fun t s ht hs=>dA fun q=>h ⟨t,s,ht,hs,fun e=>q e.symm⟩
 have e:=zo7 (p:=p) (a:=a) (a':=-a) (b:=b) (b':=-b) (c:=c) (d:=fun _ _=>0) #[OG] #[OG] z hj hi;refine e.symm.trans #[Q5];rw [zpJ];exact zbq fun t _=>zbq fun s _=>by simp
noncomputable def zau (n w:Nat) (g:Nat->Nat->Int):List #[wp]:=(bM n).map fun j=>(bM w).map fun i=>g j i
theorem zcD {n w:Nat} {g:Nat->Nat->Int} (h:j < n):#[RV][j]? = some ((bM w).map fun i=>g j i):=by
 unfold zau;rw [aD,cR h];rfl
theorem zbL {n w:Nat} {g g':Nat->Nat->Int} (h:∀ j i,j < n->i < w->g j i=g' j i):zau n w g=zau n w g':=by
 unfold zau;refine c7 fun j hj=>c7 fun i hi=>?_
 exact h j i (cE.mp hj) (cE.mp hi)
theorem zlM {n w:Nat} {g:Nat->Nat->Int} {v:Nat->Int}:#[RV].set j ((bM w).map v)=zau n w (fun j' i=>if j'=j then v i else g j' i):=by
 refine gI fun k=>?_
 rw [mo];by_cases hk:k < n
 ·rw [zcD hk,zcD hk];by_cases e:j=k
  ·subst e;have hl:j < #[RV].length:=by unfold zau; rw [aA,bR]; exact hk
   simp [hl]
  ·simp [e,dW e]
 ·have h1:#[RV][k]? = none:=db.mpr (by unfold zau; rw [aA,bR]; lia);have h2:(zau n w (fun j' i=>if j'=j then v i else g j' i))[k]? = none:=db.mpr (by unfold zau; rw [aA,bR]; lia);have h3:#[RV].length=n:=by unfold zau; rw [aA,bR]
  rw [h1,h2,h3];split
  ·rw [if_neg #[O]]
  ·rfl
theorem zlN {w:Nat} {u v:Nat->Int} {f:Int->Int->Int}:cn f ((bM w).map u) ((bM w).map v)=(bM w).map fun i=>f (u i) (v i):=by
 rw [List.zipWith_map,List.zipWith_self]
noncomputable def rst (p b:Int) (n:Nat) (c:Nat->Nat->Int) (f idx j i:Nat):Int :=
 (if j < f then sh b n #[QL] j else if n<=idx+1+j then hs b (n - f) (qo b n #[QL] f) (j - f) else qo b n #[QL] f (j - f)) % p
theorem zlO {p b:Int} {n:Nat} {c:Nat->Nat->Int} {i:Nat} (hj:j < n):rst p b n c 0 0 j i=c j i % p:=by
 unfold rst;rw [if_neg #[O]];split
 ·rw [eK,eK,zea hj,zcQ #[O]];simp [qo]
 ·rfl
theorem znu {p b:Int} {n:Nat} {c:Nat->Nat->Int} {i:Nat} (hj:j < n):rst p b n c n 0 j i=sh b n #[QL] j % p:=by
 unfold rst;rw [if_pos hj]
theorem znv {p b:Int} {n f:Nat} {c:Nat->Nat->Int} {i:Nat} (hf:f < n) (hj:j < n):rst p b n c f (n - 1 - f) j i=rst p b n c (f+1) 0 j i:=by
 unfold rst;by_cases h1:j < f
 ·rw [if_pos h1,if_pos #[O]]
 ·rw [if_neg h1,if_pos #[O]];by_cases h2:j=f
  ·subst h2;rw [if_pos #[O],j4,znt hf]
  ·rw [if_neg #[O]];have e1:j - f=(j - (f+1))+1:=by lia
   have e2:qo b n #[QL] (f+1) (j - (f+1))=hs b (n - f) (qo b n #[QL] f) (j - f):=by rw [e1]; rfl
   split
   ·rw [zea (n:=n - (f+1)) (j:=j - (f+1)) #[O],zcQ (n:=n - (f+1)) (j:=j - (f+1)+1) #[O],e2]; simp
   ·rw [e2]
theorem znw {p b:Int} {n f idx:Nat} {c:Nat->Nat->Int} {i:Nat} (hi:idx < n - 1 - f) (hj:j < n):rst p b n c f (idx+1) j i=if j=n - 2 - idx then (rst p b n c f idx (n - 2 - idx) i+b*rst p b n c f idx (n - 2 - idx+1) i) % p else rst p b n c f idx j i:=by
 by_cases h:j=n - 2 - idx
 ·rw [if_pos h,<- h];unfold rst;rw [if_neg #[O],if_pos #[O],if_neg #[O],if_neg #[O],if_neg #[O],if_pos #[O],zea #[O]];have e:j+1 - f=j - f+1:=by lia
  rw [e];exact (#[OF].symm.add ((Cg.refl p b).mul #[OF].symm)).mod_eq
 ·rw [if_neg h];unfold rst;split
  ·rfl
  ·by_cases h2:n<=idx+1+j
   ·rw [if_pos h2,if_pos #[O]]
   ·rw [if_neg h2,if_neg #[O]]
abbrev Tm:=Nat×Nat
noncomputable def cf (x:Int) (n u:Nat):Int:=ch n u*x ^ (n - u)
structure Co where
 x:Int
 y:Int
 u:Nat
 v:Nat
noncomputable def cv (t:Tm) (c:Co):Int:=cf c.x t.1 c.u*cf c.y t.2 c.v
noncomputable def tz (k:Nat) (t:Tm):Nat:=t.1+(k - 1)*t.2
noncomputable def tms (k s:Nat):List Tm:=(bM (s / (k - 1)+1)).map fun j=>(s - (k - 1)*j,j)
noncomputable def za1 (k s:Nat):List Tm:=(bM s).flatMap (tms k)
theorem zcR (k s:Nat):za1 k (s+1)=za1 k s++tms k s:=by
 unfold za1;rw [dq,hJ];simp
theorem zdq {s:Nat} (hk:2<=k) {t:Tm}:t∈tms k s↔tz k t=s:=by
 unfold tms tz;have k1:0 < k - 1:=by lia
 constructor
 ·intro h;obtain⟨j,hj,rfl⟩:=bE.mp h;have hj:=cE.mp hj;have:(k - 1)*j<=s:=by
   have:=(gO k1).mp (show j<=s / (k - 1) by lia);rw [io]; exact this
  show s - (k - 1)*j+(k - 1)*j=s;lia
 ·intro h;refine bE.mpr ⟨t.2,cE.mpr ?_,?_⟩
  ·have:t.2<=s / (k - 1):=(gO k1).mpr (by rw [io]; lia);lia
  ·have:s - (k - 1)*t.2=t.1:=by lia
   rw [this]
theorem zey {s:Nat} (hk:2<=k) {t:Tm}:t∈za1 k s↔tz k t < s:=by
 unfold za1;rw [fK];constructor
 ·rintro⟨z,hz,h⟩;rw [(zdq hk).mp h];exact cE.mp hz
 ·intro h;exact⟨tz k t,cE.mpr h,(zdq hk).mpr rfl⟩
theorem zlP (k s:Nat):(tms k s).Nodup:=by
 unfold tms;rw [eQ,dO];refine mB ?_ mP;intro a b h e;exact h (congrArg Prod.snd e)
theorem zeJ {k:Nat} (hk:2<=k):∀ s,(za1 k s).Nodup
 | 0=>by simp [za1]
 | s+1=>by
  rw [zcR,gH];refine⟨zeJ hk s,zlP k s,fun a ha b hb e=>?_⟩;subst e;have h1:=(zey hk).mp ha;have h2:=(zdq hk).mp hb;lia
theorem zeb {k:Nat} (hk:2<=k):∀ s,(za1 k s).Pairwise fun a b=>tz k a<=tz k b
 | 0=>by simp [za1]
 | s+1=>by
  rw [zcR,k8];refine⟨zeb hk s,?_,fun a ha b hb=>?_⟩
  ·refine iq (R:=fun _ _=>True) ?_ (List.pairwise_of_forall fun _ _=>trivial);intro a b ha hb _;rw [(zdq hk).mp ha,(zdq hk).mp hb];exact aH _
  ·have h1:=(zey hk).mp ha;have h2:=(zdq hk).mp hb;lia
theorem zgP (k:Nat):∀ s,s<=(za1 k s).length
 | 0=>bW _
 | s+1=>by
  rw [zcR,aO];have:=zgP k s;have h:1<=(tms k s).length:=by unfold tms; rw [aA,bR]; exact nc _ _
  lia
noncomputable def gof (ts:List Tm) (c:List Int) (t:Tm):Int:=(kA t (ts.zip c)).getD 0
theorem znx:∀ {ts:List Tm} {c:List Int} {i:Nat} {t:Tm},ts.Nodup->ts[i]? = some t->gof ts c t=gl c i
 | [],_,_,_,_,h=>(by simp at h)
 | a :: ts,[],i,t,_,_=>by
  show (kA t ([]:List (Tm×Int))).getD 0=_;rw [zbz #[M]];rfl
 | a :: ts,b :: c,0,t,_,h=>by
  cases h;unfold gof;rw [gA,cm,beq_self_eq_true];rfl
 | a :: ts,b :: c,i+1,t,hn,h=>by
  (have yW:=fh.mp hn)
  have h':ts[i]? = some t:=by simpa using h
  have ne:t≠a:=fun e=>yW.1 (by rw [<- e]; exact aL h')
  have:=znx (c:=c) yW.2 h';unfold gof at this |-;rw [gA,cm,show (t == a)=false by simpa using ne,this];unfold gl;simp
theorem zo8 {p:Int} (p0:0 < p) {ts:List Tm} {c:List Int} (hc:∀ z∈c,0<=z/\z < p) (t:Tm):0<=gof ts c t/\gof ts c t < p:=by
 unfold gof;cases h:kA t (ts.zip c) with
 | none=>exact⟨dz _,p0⟩
 | some z =>
  have:(t,z)∈ts.zip c:=by
   clear hc;induction ts generalizing c with
   | nil=>simp at h
   | cons a ts ih =>
    cases c with
    | nil=>simp at h
    | cons b c =>
     rw [gA,cm] at h;cases e:(t == a) with
     | true =>
      rw [e] at h;cases h;rw [show t=a by simpa using e];exact bL
     | false =>
      rw [e] at h;exact aZ _ (ih h)
  exact hc z (ja this).2
theorem zlQ {l:List Tm} (h:l.Pairwise fun a b=>tz k a<=tz k b) {i:Nat} {a b:Tm} (ha:l[i]? = some a) (hb:l[j]? = some b) (rf:i<=j):tz k a<=tz k b:=by
 by_cases e:i=j
 ·subst e;rw [ha] at hb;cases hb;exact aH _
 ·obtain⟨h1,e1⟩:=aW.mp ha;obtain⟨h2,e2⟩:=aW.mp hb;have:=dR.mp h i j h1 h2 #[O];rw [e1,e2] at this;exact this
noncomputable def tri (w:Nat):Nat:=w*(w+1) / 2
noncomputable def zbx (nW:List (Int×Int×Nat)):Nat:=(nW.map fun q=>tri q.2.2).sum
noncomputable def zez (k s:Nat) (g:Tm->Int):List #[wp]:=(bM (s / (k - 1)+1)).map fun j=>(bM (s - (k - 1)*j+1)).map fun i=>g (i,j)
theorem zec (k s:Nat) (g:Tm->Int):#[VM].length=s / (k - 1)+1:=by unfold zez; rw [aA,bR]
theorem zny {s:Nat} {g:Tm->Int} (h:j < s / (k - 1)+1):#[VM][j]? = some ((bM (s - (k - 1)*j+1)).map fun i=>g (i,j)):=by
 unfold zez;rw [aD,cR h];rfl
theorem zhz {a b:Int} (h0:0<=a) (h:a<=b):∀ j:Nat,a ^ j<=b ^ j
 | 0=>by simp
 | j+1=>by
  rw [fw,fw];exact cW (du (zhz h0 h j) h0) (Int.mul_le_mul_of_nonneg_left h (kS #[O]))
theorem znz:∀ (t j:Nat),0<=ch t j
 | 0,0=>by decide
 | _+1,0=>by show (0:Int)<=1; decide
 | 0,j+1=>by show (0:Int)<=0; decide
 | t+1,j+1=>by
  have h1:=znz t j;have h2:=znz t (j+1);show 0<=ch t j+ch t (j+1);lia
theorem znA:∀ (t j:Nat),ch t j<=((t:Int)+1) ^ j
 | t,0=>by cases t <;> simp [ch]
 | 0,j+1=>by
  show (0:Int)<=_;exact kS #[D]
 | t+1,j+1=>by
  have h1:=znA t j;have h2:=znA t (j+1);have h3:((t:Int)+1) ^ j<=((t:Int)+1+1) ^ j:=zhz #[O] #[O] j;have h4:(0:Int)<=((t:Int)+1) ^ j:=kS #[O];have h5:((t:Int)+1) ^ j*((t:Int)+1+1)<=((t:Int)+1+1) ^ j*((t:Int)+1+1):=du h3 #[O];show ch t j+ch t (j+1)<=(((t+1:Nat):Int)+1) ^ (j+1);rw [show (((t+1:Nat):Int)+1)=(t:Int)+1+1 by lia,fw];rw [fw] at h2;have h6:((t:Int)+1) ^ j+((t:Int)+1) ^ j*((t:Int)+1)=((t:Int)+1) ^ j*((t:Int)+1+1):=by grind
  lia
theorem zrH {t:Nat} (ht:t<=200) (hj:j<=3):0<=ch t j/\ch t j < 1073741824:=by
 refine⟨znz t j,jy (znA t j) ?_⟩;have h1:((t:Int)+1) ^ j<=(201:Int) ^ j:=zhz #[O] #[O] j;have h2:(201:Int) ^ j < 1073741824:=by
  have:j=0\/j=1\/j=2\/j=3:=by lia
  rcases this with rfl | rfl | rfl | rfl <;> decide
 lia
section
variable {K:aF}
theorem LsA.off {l:Addr} (h:LsA H ls vv) (hl:H l=some #[O9]):∀ (i:Nat) (b:Addr),ls[i]? = some b->b≠l:=by
 rintro i b hb rfl;obtain⟨v,_,hv⟩:=Paired.get h hb;rw [hl] at hv;cases ls with
 | nil=>simp at hb
 | cons x r =>
  cases v with
  | nil=>simp at hv
  | cons y z=>simp at hv
theorem LsA.setAt {l D:Addr} {v:List Int} (h:LsA H ls vv) (hl:H l=some #[O9]) (hD:H D=some #[P5]) (hn:D≠l) {o:HO}:LsA (nQ H l o) (ls.set j D) (vv.set j v):=by
 have off:=h.off hl;clear hl;induction h generalizing j with
 | nil=>cases j <;> exact .nil
 | @cons b u bs us h1 h2 ih =>
  cases j with
  | zero =>
   refine .cons (by rw [zp hn]; exact hD) ?_;have ih0:LsA (nQ H l o) bs us:=by
    have:=ih (j:=bs.length) fun i b' hb=>off (i+1) b' (by simpa using hb)
    rw [j5 (aH _),j5 (by rw [bF h2]; exact aH _)] at this;exact this
   exact ih0
  | succ j=>exact .cons (by rw [zp (off 0 b #[M])]; exact h1) (ih fun i b' hb=>off (i+1) b' (by simpa using hb))
theorem zeK {many:Nat} {base:Int} {ds:List Int} (h:ze4 many base ds) {i:Int} (h0:0<=i) (h1:i < many):∃ d,atI #[OL] i=some (.int d)/\0<=d/\d < base:=by
 obtain⟨n,rfl⟩:∃ n:Nat,i=n:=⟨i.toNat,#[O]⟩;have hn:n < ds.length:=by rw [h.1]; lia
 refine⟨ds[n]'hn,zab (by rw [aD,aG hn]; rfl),h.2 _ (d7 hn)⟩
theorem znB (h:LsA H ls vv) {D:Addr} (hD:H D=none):D∉ls:=fun hm=>by
 obtain⟨i,hi⟩:=dF.mp hm;obtain⟨v,_,hv⟩:=Paired.get h hi;rw [hD] at hv;cases hv
theorem znC {D:Addr} (hD:D∉ls) (k:∀ b o,b≠D->H b=some o->H' b=some o) (h:LsA H ls vv):LsA H' ls vv:=by
 induction h with
 | nil=>exact .nil
 | cons h1 _ ih=>exact .cons (k _ _ (fun e=>hD (by rw [<- e]; exact bL)) h1) (ih fun z=>hD (aZ _ z))
noncomputable def trm (j:Nat) (r:List Int) (m:Nat):List (Int×Int):=((bM m).filter fun i=>gl r i≠0).map fun i:Nat=>((i:Int),(j:Int))
noncomputable def zaK (rows:List #[wp]) (m:Nat):List (Int×Int):=(bM m).flatMap fun j=>trm j (rows.getD j []) (rows.getD j []).length
theorem zcE (j:Nat) (r:List Int) (m:Nat):trm j r (m+1)=if gl r m≠0 then trm j r m++[((m:Int),(j:Int))] else trm j r m:=by
 unfold trm;rw [dq,fO,aN];by_cases h:gl r m=0 <;> simp [h]
theorem zb1 (rows:List #[wp]) (m:Nat):zaK rows (m+1)=zaK rows m++trm m (rows.getD m []) (rows.getD m []).length:=by
 unfold zaK;rw [dq,hJ];simp
theorem zcS (j:Nat) (r:List Int) (m:Nat):(trm j r m).length<=m:=by
 unfold trm;rw [aA];exact bX (fU _ _) #[M]
noncomputable def szs (k:Int) (ts:List (Int×Int)):List Int:=ts.map fun q=>q.1+(k - 1)*q.2
theorem zfe (k:Int) (ts:List (Int×Int)):(szs k ts).length=ts.length:=by simp [szs]
theorem zkN (k:Int) (l m:List (Int×Int)):szs k (l++m)=szs k l++szs k m:=by simp [szs]
noncomputable def RwA (H:Hp):List Addr->List #[wp]->Prop:=Paired fun b v=>H b=some #[P5]\/H b=some (.tup (v.map V.int))
noncomputable def wd (rows:List #[wp]):Nat:=rows.foldr (fun r m=>max r.length m) 0
theorem zfT {r:List Int} (h:r∈rows):r.length<=wd rows:=by
 induction rows with
 | nil=>cases h
 | cons a l ih =>
  show r.length<=max a.length (wd l);rcases (aV.mp h) with rfl | h
  ·exact ig _ _
  ·exact bX (ih h) (gR _ _)
theorem zdL:∀ {rows:List #[wp]},rows≠[]->∃ r∈rows,r.length=wd rows
 | [],h=>absurd rfl h
 | a :: l,_=>by
  by_cases e:l = []
  ·subst e; exact⟨a,bL,by show _=max a.length 0; lia⟩
  ·obtain⟨r,hr,er⟩:=zdL e;by_cases h:wd l<=a.length
   ·exact⟨a,bL,by show _=max a.length (wd l); lia⟩
   ·exact⟨r,aZ _ hr,by show _=max a.length (wd l); lia⟩
noncomputable def z8 (rows:List #[wp]):List Int:=rows.map fun r=>(r.length:Int)
theorem zdM (rows:List #[wp]):#[RJ].length=rows.length:=by simp [z8]
theorem zpL {M:Int} (h0:z8 rows = []->M=0) (h1:z8 rows≠[]->M∈z8 rows/\∀ a∈z8 rows,if true=true then a<=M else M<=a):M=(wd rows:Int):=by
 by_cases e:rows = []
 ·subst e; exact h0 rfl
 ·obtain⟨m1,m2⟩:=h1 (by simpa [z8] using e);obtain⟨r,hr,rfl⟩:=bE.mp m1;obtain⟨r',oX,e'⟩:=zdL e;have b1:=zfT hr;have b2:=m2 _ (bE.mpr ⟨r',oX,rfl⟩);rw [if_pos rfl] at b2;lia
noncomputable def zdA (p x:Int) (m:Nat):List Int:=(bM m).map fun i=>x ^ i % p
theorem zgQ (p x:Int) (m:Nat):zdA p x (m+1)=zdA p x m++[x ^ m % p]:=by
 unfold zdA;rw [dq,aN];rfl
theorem zed (p x:Int) (m:Nat):(zdA p x m).length=m:=by unfold zdA; rw [aA,bR]
theorem zkO {xs:List V} {v:V}:atI (xs++[v]) (-1)=some v:=by
 unfold atI ixN;rw [if_neg #[D],if_pos (by rw [aO]; show -((xs.length+1:Nat):Int)<=-1; lia)];show (xs++[v])[(-1+((xs++[v]).length:Int)).toNat]? = some v;rw [aO,show (-1+((xs.length + [v].length:Nat):Int)).toNat=xs.length by show (-1+((xs.length+1:Nat):Int)).toNat=_; lia,c8 (aH _),j4];rfl
theorem zgR {B:Nat} {rows:List #[wp]} (h:∀ r∈rows,r.length<=B):∀ m,#[S3].length<=B*m
 | 0=>by simp [zaK]
 | m+1=>by
  have ih:=zgR h m;have hl:(rows.getD m []).length<=B:=by
   cases e:rows[m]? with
   | none=>simp [f9,e]
   | some r=>simp only [f9,e,gd]; exact h r (aL e)
  have h2:=zcS m (rows.getD m []) (rows.getD m []).length;rw [zb1,aO,fQ];lia
end
abbrev Ps:=Nat->Int
structure Add (B:Ps->Ps):Prop where
 a:∀ u v,B #[TZ]=fun i=>B u i+B v i
noncomputable def shO (B:Ps->Ps):Nat->(Nat->Ps)->Nat->Ps
 | 0,_,_=>fun _=>0
 | n+1,F,0=>fun i=>F 0 i+B (shO B n #[OI] 0) i
 | n+1,F,j+1=>fun i=>shO B n #[OI] j i+B (shO B n #[OI] (j+1)) i
theorem Add.z {B:Ps->Ps} (h:Add B):B (fun _=>0)=fun _=>0:=by
 have:=h.a (fun _=>0) (fun _=>0);funext i;have e:=congrFun this i;have e2:(fun _:Nat=>(0:Int)+0)=fun _=>0:=by funext i; rfl
 rw [e2] at e;lia
theorem zfU {B:Ps->Ps} (h:Add B):∀ {n:Nat} {F:Nat->Ps} {j:Nat},n<=j->shO B n F j=fun _=>0
 | 0,_,_,_=>by simp [shO]
 | n+1,F,0,hj=>by lia
 | n+1,F,j+1,hj=>by
  rw [shO,zfU h #[O],zfU h #[O],h.z];funext i;simp
theorem zhA {B:Ps->Ps} (h:Add B):∀ {n:Nat} {F G:Nat->Ps} {j:Nat},shO B n (fun t i=>F t i+G t i) j=fun i=>shO B n F j i+shO B n G j i
 | 0,_,_,_=>by simp [shO]
 | n+1,F,G,0=>by
  have e:=zhA h (n:=n) (F:=fun t=>F (t+1)) (G:=fun t=>G (t+1)) (j:=0);simp only [shO];rw [e,h.a];funext i;dsimp only;lia
 | n+1,F,G,j+1=>by
  have e:=fun j=>zhA h (n:=n) (F:=fun t=>F (t+1)) (G:=fun t=>G (t+1)) (j:=j)
  simp only [shO];rw [e,e,h.a];funext i;dsimp only;lia
theorem zhB {B C:Ps->Ps} (hC:Add C) (hc:∀ l,C (B l)=B (C l)):∀ {n:Nat} {F:Nat->Ps} {j:Nat},shO B n (fun t=>C (F t)) j=C (shO B n F j)
 | 0,_,_=>by simp [shO,hC.z]
 | n+1,F,0=>by
  have e:=zhB hC hc (n:=n) (F:=fun t=>F (t+1)) (j:=0);simp only [shO];rw [e,<- hc,<- hC.a]
 | n+1,F,j+1=>by
  have e:=fun j=>zhB hC hc (n:=n) (F:=fun t=>F (t+1)) (j:=j)
  simp only [shO];rw [e,e,<- hc,<- hC.a]
theorem zff {B:Ps->Ps} (h:Add B):∀ {n:Nat} {F:Nat->Ps} {j:Nat},F n=(fun _=>0)->shO B (n+1) F j=shO B n F j
 | 0,F,0,e=>by simp [shO,e,h.z]
 | 0,F,j+1,e=>by simp [shO,h.z]
 | n+1,F,0,e=>by
  rw [shO,zff h (n:=n) (F:=fun t=>F (t+1)) e]; simp only [shO]
 | n+1,F,j+1,e=>by
  have g:=fun i=>zff h (n:=n) (F:=fun t=>F (t+1)) (j:=i) e
  rw [shO,g j,g (j+1)]; simp only [shO]
theorem znD {B:Ps->Ps} {n:Nat} {G:Nat->Ps} (h:∀ t,F t=G t):shO B n F j=shO B n G j:=by
 rw [funext h]
theorem zkP {B B':Ps->Ps} (h:Add B) (h':Add B') (hc:∀ l,B (B' l)=B' (B l)):∀ {n:Nat} {F:Nat->Ps} {j:Nat},shO B' n (shO B n F) j=shO (fun l i=>B l i+B' l i) n F j
 | 0,_,_=>by simp [shO]
 | n+1,F,j=>by
  have hz:shO B n #[OI] n=fun _=>0:=zfU h (aH _)
  have ih:=fun i=>zkP h h' hc (n:=n) (F:=fun t=>F (t+1)) (j:=i)
  have e:shO B' (n+1) (shO B (n+1) F) j=shO B' (n+1) (fun t i=>(if t=0 then F 0 else shO B n #[OI] (t - 1)) i+B (shO B n #[OI] t) i) j:=by
   refine znD fun t=>?_
   cases t <;> simp [shO]
  rw [e,zhA h',zhB h hc (F:=shO B n #[OI]),zff h' hz,ih];have e2:∀ i,shO B' n (fun t=>if t+1=0 then F 0 else shO B n #[OI] (t+1 - 1)) i=shO (fun l i=>B l i+B' l i) n #[OI] i:=fun i=>by
   rw [<- ih]; exact znD fun t=>by simp
  cases j with
  | zero =>
   simp only [shO,if_true];rw [e2];funext i;lia
  | succ j =>
   simp only [shO];rw [e2,e2];funext i;lia
noncomputable def Xl (l:Ps):Ps:=fun i=>if i=0 then 0 else l (i - 1)
noncomputable def mq (a:Int):Nat->Ps->Ps->Ps
 | 0,_,_=>fun _=>0
 | n+1,b,l=>fun i=>b 0*l i+(Xl (mq a n #[Ev] l) i+a*mq a n #[Ev] l i)
theorem znE (u v:Ps):Xl #[TZ]=fun i=>Xl u i+Xl v i:=by
 funext i;unfold Xl;split
 ·rfl
 ·rfl
theorem znF (c:Int) (u:Ps):Xl (fun i=>c*u i)=fun i=>c*Xl u i:=by
 funext i;unfold Xl;split
 ·lia
 ·rfl
theorem zcr (a:Int):∀ (n:Nat) (b:Ps),Add (mq a n b)
 | 0,_=>⟨fun _ _=>by funext i; simp [mq]⟩
 | n+1,b=>⟨fun u v=>by
  have ih:=(zcr a n #[Ev]).a u v;funext i;simp only [mq];rw [ih,znE];grind⟩
theorem zjG (a c:Int):∀ (n:Nat) (b l:Ps),mq a n b (fun i=>c*l i)=fun i=>c*mq a n b l i
 | 0,_,_=>by funext i; simp [mq]
 | n+1,b,l=>by
  have ih:=zjG a c n #[Ev] l;funext i;simp only [mq];rw [ih,znF];grind
noncomputable def Dg (l:Ps) (w:Nat):Prop:=∀ i,w<=i->l i=0
theorem Dg.le {l:Ps} {w w':Nat} (h:Dg l w) (hw:w<=w'):Dg l w':=fun i hi=>h i #[O]
theorem zhC:∀ {n:Nat} {b l:Ps} {w:Nat},Dg l w->Dg #[S4] (w+(n - 1))
 | 0,_,_,_,_=>fun i _=>by simp [mq]
 | n+1,b,l,w,h=>fun i hi=>by
  have ih:=zhC (n:=n) (b:=fun t=>b (t+1)) h;simp only [mq,dE,dg];rw [h i #[O],fq,cV];unfold Xl;split
  ·rfl
  ·cases n with
   | zero=>simp [mq]
   | succ n=>exact ih _ #[O]
theorem zpM {a:Int}:∀ {w:Nat} {l:Ps},sh a (w+1) (Xl l)=fun i=>Xl (sh a w l) i+a*sh a w l i
 | w,l=>by
  funext i;have e:(fun t=>Xl l (t+1))=l:=by funext t; simp [Xl]
  cases i with
  | zero=>simp only [sh,e]; simp [Xl]
  | succ i=>simp only [sh,e]; simp [Xl]
theorem zkQ {a c:Int} {w:Nat} {l:Ps}:sh a w (fun i=>c*l i)=fun i=>c*sh a w l i:=funext fun _=>zfS
theorem zfg {a:Int} {w:Nat} {u v:Ps}:sh a w #[TZ]=fun i=>sh a w u i+sh a w v i:=funext fun _=>zfR
theorem zfh {a:Int} {w w':Nat} {l:Ps} (h:Dg l w) (hw:w<=w'):sh a w' l=sh a w l:=funext fun _=>zkL hw fun t h1 _=>h t h1
theorem zpN {a:Int}:∀ {n:Nat} {b l:Ps} {w W:Nat},Dg l w->w+n<=W->sh a W #[S4]=mq a n b (sh a W l)
 | 0,_,_,_,_,_,_=>by
  funext i;simp only [mq];rw [zcC];exact zbq fun t _=>by simp
 | n+1,b,l,w,W,h,hW=>by
  have ih:=zpN (a:=a) (n:=n) (b:=fun t=>b (t+1)) (w:=w) (W:=W) h #[O];have hd:Dg #[P3] (W - 1):=(zhC h).le #[O];have e1:sh a W (Xl #[P3])=fun i=>Xl (sh a W #[P3]) i+a*sh a W #[P3] i:=by
   have:=zpM (a:=a) (w:=W - 1) (l:=mq 0 n #[Ev] l);rw [show W - 1+1=W by lia] at this;rw [this,zfh hd (show W - 1<=W by lia)]
  have e2:mq 0 (n+1) b l=fun i=>b 0*l i+Xl #[P3] i:=by
   funext i;simp only [mq,dE,dg]
  rw [e2,zfg,zkQ,e1,ih];rfl
noncomputable def Od (p:Int) (l:Ps) (r:Nat):Prop:=∀ i,i < r->Cg p (l i) 0
theorem Od.le {p:Int} {l:Ps} {r r':Nat} (h:Od p l r) (hr:r'<=r):Od p l r':=fun i hi=>h i #[O]
theorem Od.add {p:Int} {u v:Ps} {r:Nat} (h:Od p u r) (h':Od p v r):Od p #[TZ] r:=fun i hi=>((h i hi).add (h' i hi)).trans #[Qp]
theorem Od.mul {p:Int} {u:Ps} {r:Nat} (c:Int) (h:Od p u r):Od p (fun i=>c*u i) r:=fun i hi=>((Cg.refl p c).mul (h i hi)).trans #[Qp]
theorem Od.Xl {p:Int} {u:Ps} {r:Nat} (h:Od p u r):Od p (Xl u) (r+1):=fun i hi=>by
 unfold My.Xl;split
 ·exact Cg.refl _ _
 ·exact h _ #[O]
theorem Od.mq {p a:Int}:∀ {n:Nat} {b l:Ps} {r:Nat},Od p l r->Od p (mq a n b l) r
 | 0,_,_,_,_=>fun i _=>by simp only [My.mq]; exact Cg.refl _ _
 | n+1,b,l,r,h=>by
  have ih:=Od.mq (a:=a) (n:=n) (b:=fun t=>b (t+1)) h;exact (h.mul (b 0)).add ((ih.Xl.le (gW _)).add (ih.mul a))
theorem Od.less {p a:Int}:∀ {n:Nat} {b l:Ps} {r:Nat},Od p l r->Od p (fun i=>My.mq a n b l i + -(vl n b a)*l i) (r+1)
 | 0,b,l,r,_=>fun i _=>by simp only [My.mq,vl]; exact Cg.of_eq #[M]
 | n+1,b,l,r,h=>by
  have ih:=Od.less (a:=a) (n:=n) (b:=fun t=>b (t+1)) h;have e:(fun i=>My.mq a (n+1) b l i + -(vl (n+1) b a)*l i)=fun i=>My.Xl (My.mq a n #[Ev] l) i+a*(My.mq a n #[Ev] l i + -(vl n #[Ev] a)*l i):=by
   funext i;simp only [My.mq,vl];grind
  rw [e];exact (Od.mq (a:=a) h).Xl.add (ih.mul a)
theorem zjH {p:Int} {B:Ps->Ps} (hB:∀ l r,Od p l r->Od p (B l) (r+1)):∀ {n:Nat} {F:Nat->Ps} {m v:Nat},(∀ t,Od p (F t) (m - t))->Od p (shO B n F v) (m - v)
 | 0,_,_,_,_=>fun i _=>by simp only [shO]; exact Cg.refl _ _
 | n+1,F,m,0,h=>by
  have ih:=zjH hB (n:=n) (F:=fun t=>F (t+1)) (m:=m - 1) (v:=0) fun t=>(h (t+1)).le #[O]
  exact (h 0).add ((hB _ _ ih).le #[O])
 | n+1,F,m,v+1,h=>by
  have ih:=fun v=>zjH hB (n:=n) (F:=fun t=>F (t+1)) (m:=m - 1) (v:=v) fun t=>(h (t+1)).le #[O]
  exact ((ih v).le #[O]).add ((hB _ _ (ih (v+1))).le #[O])
theorem zee {k1:Nat} {b:Ps}:∀ {n:Nat} {F:Nat->Ps} {S v:Nat},(∀ t,Dg (F t) (S - k1*t))->Dg (shO (mq 0 (k1+1) b) n F v) (S - k1*v)
 | 0,_,_,_,_=>fun i _=>by simp [shO]
 | n+1,F,S,v,h=>by
  have h':∀ t,Dg (F (t+1)) (S - k1 - k1*t):=fun t=>(h (t+1)).le (by rw [fQ]; lia)
  have ih:=fun v=>zee (k1:=k1) (b:=b) (n:=n) (F:=fun t=>F (t+1)) (S:=S - k1) (v:=v) h'
  have hz:∀ v,S<=k1*(v+1)->#[P8]=fun _=>0:=fun v hv=>by
   funext i;exact ih v i (by rw [fQ] at hv; lia)
  have hb:∀ v,Dg (mq 0 (k1+1) b #[P8]) (S - k1*v):=fun v=>by
   by_cases hv:S<=k1*(v+1)
   ·rw [hz v hv,(zcr 0 (k1+1) b).z];exact fun i _=>rfl
   ·exact (zhC (ih v)).le (by rw [fQ] at hv; lia)
  cases v with
  | zero =>
   intro i hi;simp only [shO];rw [h 0 i hi,hb 0 i hi];rfl
  | succ v =>
   intro i hi;simp only [shO];rw [ih v i (by rw [fQ] at hi; lia),hb (v+1) i hi];rfl
theorem znG {a:Int} {k1 W:Nat} {b:Ps}:∀ {n:Nat} {F:Nat->Ps} {S v:Nat},(∀ t,Dg (F t) (S - k1*t))->S+(k1+1)<=W->sh a W (shO (mq 0 (k1+1) b) n F v)=shO (mq a (k1+1) b) n (fun t=>sh a W (F t)) v
 | 0,F,_,_,_,_=>by
  funext i;simp only [shO];rw [zcC];exact zbq fun t _=>by simp
 | n+1,F,S,v,h,hW=>by
  have h':∀ t,Dg (F (t+1)) (S - k1 - k1*t):=fun t=>(h (t+1)).le (by rw [fQ]; lia)
  have ih:=fun v=>znG (a:=a) (k1:=k1) (W:=W) (b:=b) (n:=n) (F:=fun t=>F (t+1)) (S:=S - k1) (v:=v) h' #[O]
  have hm:∀ v,sh a W (mq 0 (k1+1) b #[P8])=mq a (k1+1) b (sh a W #[P8]):=fun v =>
   zpN (w:=S) ((zee (k1:=k1) (b:=b) (n:=n) (F:=fun t=>F (t+1)) (S:=S - k1) (v:=v) h').le #[O]) hW
  cases v with
  | zero =>
   simp only [shO];rw [zfg,hm,ih]
  | succ v =>
   simp only [shO];rw [zfg,hm,ih,ih]
theorem zkR {c:Int}:∀ {n:Nat} {F:Nat->Ps} {v i:Nat},shO (fun l i=>c*l i) n F v i=sh c n (fun t=>F t i) v
 | 0,_,_,_=>by simp [shO,sh]
 | n+1,F,0,i=>by simp only [shO,sh]; rw [zkR]
 | n+1,F,v+1,i=>by simp only [shO,sh]; rw [zkR,zkR]
theorem zqP {s:Nat} {G:Tm->Int} {X y:Int} {u v:Nat}:(sm (s+1) fun j=>sm (s+1) fun i=>G (i,j)*cv (i,j) ⟨X,y,u,v⟩)=sh y (s+1) (fun j=>sh X (s+1) (fun i=>G (i,j)) u) v:=by
 rw [zcC];refine zaH fun j _=>?_
 rw [zcC,<- zcq];refine zaH fun i _=>?_
 unfold cv cf;grind
noncomputable def qx (x0:Int) (n:Nat) (A:Ps):Ps:=fun j=>hs x0 n A (j+1)
theorem zpO {n:Nat} {A:Ps}:Dg #[KB] n:=fun i hi=>zcQ #[O]
theorem zpP {n:Nat} {A:Ps} (hA:Dg A n) (i:Nat):A i=Xl (qx x0 n A) i + -x0*qx x0 n A i+(if i=0 then hs x0 n A 0 else 0):=by
 by_cases h:i < n
 ·have e:=zea (b:=x0) (l:=A) h;unfold qx Xl;cases i with
  | zero=>simp only [if_true]; grind
  | succ i=>simp only [cX]; rw [if_neg #[O],if_neg #[O]]; grind
 ·rw [hA i #[O]];unfold qx Xl;rw [zcQ (j:=i+1) #[O]];cases i with
  | zero=>simp only [if_true]; rw [zcQ #[O]]; simp
  | succ i=>simp only [cX]; rw [if_neg #[O],if_neg #[O],zcQ #[O]]; simp
theorem zlR {a:Int} {n:Nat} {A:Ps}:sh a (n+1) A 0=hs a (n+1) A 0:=(zkM).1
theorem znH {p x1:Int} {n:Nat} {A:Ps} (hA:Dg A (n+1)) (hW:n+1<=W) (h0:Cg p (hs x0 (n+1) A 0) 0) (i:Nat):Cg p (sh x1 W A i) (Xl (sh x1 W #[KB]) i+(x1 - x0)*sh x1 W #[KB] i):=by
 have hd:Dg #[KB] (W - 1):=(zpO (x0:=x0) (n:=n) (A:=A)).le #[O];have e1:sh x1 W (Xl #[KB])=fun i=>Xl (sh x1 W #[KB]) i+x1*sh x1 W #[KB] i:=by
  have:=zpM (a:=x1) (w:=W - 1) (l:=qx x0 (n+1) A);rw [show W - 1+1=W by lia] at this;rw [this,zfh hd (show W - 1<=W by lia)]
 have e2:Cg p (sh x1 W A i) (sh x1 W (fun i=>Xl #[KB] i + -x0*qx x0 (n+1) A i) i):=by
  refine zd9 #[Tp] fun t _=>?_
  rw [zpP (x0:=x0) hA t];by_cases ht:t=0
  ·rw [if_pos ht];exact (#[On].add h0).trans #[OG]
  ·rw [if_neg ht];exact Cg.of_eq #[O]
 refine e2.trans #[Q5];rw [zfg,zkQ,e1];grind
theorem zo9 {p:Int} {n m:Nat} {A:Ps} (hA:Dg A (n+1)) (hW:n+1<=W) (h0:Cg p (hs x0 (n+1) A 0) 0) (h:Od p (sh x0 W A) (m+1)):Od p (sh x0 W #[KB]) m:=fun i hi=>by
 have e:=(znH (x1:=x0) hA hW h0 (i+1)).symm.trans (h (i+1) #[O]);unfold Xl at e;rw [if_neg #[O],cX] at e;exact (Cg.of_eq (by grind)).trans e
theorem znI {p x1 c:Int} {n m:Nat} {A:Ps} (hA:Dg A (n+1)) (hW:n+1<=W) (h0:Cg p (hs x0 (n+1) A 0) 0) (hc:Cg p (c*(x1 - x0)) 1) (h:Od p (sh x1 W A) m):Od p (sh x1 W #[KB]) m:=by
 have key:∀ i,i < m->Cg p (sh x1 W #[KB] i) 0:=by
  intro i;induction i with
  | zero =>
   intro hi;have e:=(znH (x1:=x1) hA hW h0 0).symm.trans (h 0 hi);unfold Xl at e;rw [if_pos rfl,cV] at e;have e1:Cg p (c*((x1 - x0)*sh x1 W #[KB] 0)) (c*0):=(Cg.refl p c).mul e;have e2:Cg p (c*(x1 - x0)*sh x1 W #[KB] 0) (1*sh x1 W #[KB] 0):=hc.mul #[Tp];exact #[Qp].trans (e2.symm.trans ((Cg.of_eq (by grind)).trans (e1.trans #[Qp])))
  | succ i ih =>
   intro hi;have Hs:=ih #[O];have e:=(znH (x1:=x1) hA hW h0 (i+1)).symm.trans (h (i+1) hi);unfold Xl at e;rw [if_neg #[O],cX] at e;have e0:Cg p ((x1 - x0)*sh x1 W #[KB] (i+1)) 0:=by
    have:=e.sub Hs;exact (Cg.of_eq (by grind)).trans (this.trans #[Qp])
   have e1:Cg p (c*((x1 - x0)*sh x1 W #[KB] (i+1))) (c*0):=(Cg.refl p c).mul e0;have e2:Cg p (c*(x1 - x0)*sh x1 W #[KB] (i+1)) (1*sh x1 W #[KB] (i+1)):=hc.mul #[Tp];exact #[Qp].trans (e2.symm.trans ((Cg.of_eq (by grind)).trans (e1.trans #[Qp])))
 exact key
theorem zlS {p:Int} (hp:p∈zG) {x y:Int} (hx:0<=x/\x < p) (hy:0<=y/\y < p) (oH:x≠y):∃ c,Cg p (c*(x - y)) 1:=by
 have rp:=zO hp;by_cases h:y < x
 ·exact⟨inv p (x - y),zer hp #[O] #[O]⟩
 ·refine⟨inv p (x - y+p),?_⟩;have:=zer hp (h:=x - y+p) #[O] #[O];refine Cg.trans ?_ this;exact #[On].mul (show Cg p (x - y) (x - y+p) from ⟨-1,#[O]⟩)
noncomputable def wsum:List (Int×Nat)->Nat
 | []=>0
 | q :: r=>q.2+wsum r
theorem zfV {p:Int} (hp:p∈zG) {W:Nat}:∀ (L:List (Int×Nat)) (n:Nat) (A:Ps),Dg A n->n<=W->L.Pairwise (fun a b=>a.1≠b.1)->(∀ q∈L,0<=q.1/\q.1 < p)->n<=wsum L->(∀ q∈L,Od p (sh q.1 W A) q.2)->∀ i,Cg p (A i) 0
 | [],n,A,hA,hW,hn,hr,pF,ho=>fun i=>by
  rw [hA i (by simp only [wsum] at pF; lia)]; exact Cg.refl _ _
 | (x,m) :: r,n,A,hA,hW,hn,hr,pF,ho=>by
  have hx:=hr (x,m) (.head _);simp only at hx;cases hn with
  | cons hd hn =>
  have oX:∀ q∈r,0<=q.1/\q.1 < p:=fun q hq=>hr q (.tail _ hq)
  induction m generalizing n A with
  | zero=>exact zfV hp r n A hA hW hn oX (by simp only [wsum] at pF; lia) fun q hq=>ho q (.tail _ hq)
  | succ m ih =>
   cases n with
   | zero=>intro i; rw [hA i #[O]]; exact Cg.refl _ _
   | succ n =>
    have h0:Cg p (hs x (n+1) A 0) 0:=by
     have:=ho (x,m+1) (.head _) 0 #[M];simp only at this;rw [zfh hA hW,zlR] at this;exact this
    have hq:=ih (n:=n) (A:=qx x (n+1) A) zpO #[O] (hr:=fun q hq=>by
      cases hq with
      | head=>exact hx
      | tail _ hq=>exact oX q hq) (by simp only [wsum] at pF |-; lia) (fun q hq=>by
      cases hq with
      | head=>exact zo9 hA hW h0 (ho (x,m+1) (.head _))
      | tail _ hq =>
       obtain⟨c,hc⟩:=zlS hp (oX q hq) hx (dW (hd q hq));exact znI hA hW h0 hc (ho q (.tail _ hq))) hd
    intro i;rw [zpP (x0:=x) hA i];have e1:Cg p (Xl (qx x (n+1) A) i) 0:=by
     unfold Xl;split
     ·exact Cg.refl _ _
     ·exact hq _
    have e2:Cg p (-x*qx x (n+1) A i) (-x*0):=(Cg.refl p (-x)).mul (hq i);have e3:Cg p (if i=0 then hs x (n+1) A 0 else 0) 0:=by
     split
     ·exact h0
     ·exact Cg.refl _ _
    exact ((e1.add e2).add e3).trans #[Qp]
theorem ziN {m:Nat}:∀ (l:List (Int×Int)),wsum (l.map fun q=>(q.1,m))=m*l.length
 | []=>rfl
 | q :: r=>by
  simp only [bV,wsum,dw,fQ];rw [ziN r];lia
theorem zhD {p:Int} (hp:p∈zG) {k1 s m:Nat} {g:Tm->Int} {f:Ps} (qR:∀ t,s < tz (k1+1) t->g t=0) (hx:nW.Pairwise fun a b=>a.1≠b.1) (hr:∀ q∈nW,0<=q.1/\q.1 < p) (hf:∀ q∈nW,Cg p (vl (k1+1) f q.1) q.2) (hw:∀ q∈nW,∀ u v,u+v < m->Cg p (sh q.2 (s+1) (fun j=>sh q.1 (s+1) (fun i=>g (i,j)) u) v) 0) (hs:s < m*nW.length) (i:Nat):Cg p (shO (mq 0 (k1+1) f) (s+1) (fun t i=>g (i,t)) 0 i) 0:=by
 obtain⟨F,eF⟩:∃ F:Nat->Ps,F=fun t i=>g (i,t):=⟨_,rfl⟩
 rw [<- eF];have etz:∀ i j,tz (k1+1) (i,j)=i+k1*j:=fun i j=>rfl
 have hF:∀ t,Dg (F t) (s+1 - k1*t):=fun t i hi=>by
  rw [eF];exact qR (i,t) (by rw [etz]; lia)
 obtain⟨W,eW⟩:∃ W,W=s+1+(k1+1):=⟨_,rfl⟩;refine zfV hp (W:=W) (nW.map fun q=>(q.1,m)) (s+1) _ (zee (v:=0) hF |>.le #[O]) #[O] (dO.mpr hx) (fun q hq=>?_) (by rw [ziN]; lia) (fun q hq=>?_) i
 ·obtain⟨q',pC,rfl⟩:=bE.mp hq;exact hr q' pC
 ·obtain⟨⟨x0,y0⟩,pC,rfl⟩:=bE.mp hq;have hf:=hf _ pC;have hw:=hw _ pC;dsimp only at hf hw |-;rw [znG (S:=s+1) hF #[O]];have aC:∀ d:Int,Add (fun (l:Ps) i=>d*l i):=fun d=>⟨fun u v=>by funext i; exact Int.mul_add _ _ _⟩
  have aM:=zcr x0 (k1+1) f;have aE:Add (fun (l:Ps) i=>mq x0 (k1+1) f l i + -#[TY]*l i):=⟨fun u v=>by
   rw [aM.a];funext i;grind⟩
  obtain⟨z,ez⟩:∃ z,z=vl (k1+1) f x0:=⟨_,rfl⟩;have e6:mq x0 (k1+1) f=fun (l:Ps) i=>(fun (l:Ps) i=>z*l i) l i+(fun (l:Ps) i=>mq x0 (k1+1) f l i + -#[TY]*l i) l i:=by
   funext l i;rw [ez];grind
  have e7:shO (mq x0 (k1+1) f) (s+1) #[Tw] 0=shO (fun (l:Ps) i=>mq x0 (k1+1) f l i + -#[TY]*l i) (s+1) (shO (fun (l:Ps) i=>z*l i) (s+1) #[Tw]) 0:=by
   rw [zkP (aC z) aE fun l=>by
    funext i;have:=congrFun (zjG x0 z (k1+1) f l) i;dsimp only at this |-;rw [this];grind]
   rw [<- e6]
  rw [e7];have:=zjH (p:=p) (m:=m) (v:=0) (n:=s+1) (B:=fun (l:Ps) i=>mq x0 (k1+1) f l i + -#[TY]*l i) (F:=shO (fun (l:Ps) i=>z*l i) (s+1) #[Tw]) (fun l r hl=>Od.less hl) (fun t i hi=>?_)
  ·exact this
  rw [zkR];have e8:(fun j=>sh x0 W (F j) i)=fun j=>sh x0 (s+1) (fun i=>g (i,j)) i:=by
   funext j;rw [zfh (w:=s+1) ((hF j).le #[O]) #[O],eF]
  rw [e8];exact (zd9 (by rw [ez]; exact hf) fun _ _=>Cg.refl _ _).trans (hw i t #[O])
noncomputable def AL (k:Nat) (f:Ps) (n:Nat) (F:Nat->Ps):Ps:=shO (mq 0 k f) n F 0
noncomputable def Zr (p:Int) (l:Ps):Prop:=∀ i,Cg p (l i) 0
theorem zpQ:∀ (n:Nat) (b l:Ps),Xl #[S4]=mq 0 n b (Xl l)
 | 0,b,l=>by
  funext i;unfold Xl mq;split <;> rfl
 | n+1,b,l=>by
  have ih:=zpQ n #[Ev] l;have e:mq 0 (n+1) b l=fun i=>b 0*l i+Xl #[P3] i:=by
   funext i;simp only [mq,dE,dg]
  have e2:mq 0 (n+1) b (Xl l)=fun i=>b 0*Xl l i+Xl (mq 0 n #[Ev] (Xl l)) i:=by
   funext i;simp only [mq,dE,dg]
  rw [e,e2,znE,znF,ih]
noncomputable def Xp:Nat->Ps->Ps
 | 0,l=>l
 | s+1,l=>Xl (Xp s l)
theorem ziO:∀ (s:Nat) (l:Ps) (i:Nat),Xp s l i=if i < s then 0 else l (i - s)
 | 0,l,i=>by rw [if_neg #[O]]; rfl
 | s+1,l,i=>by
  show Xl (Xp s l) i=_;unfold Xl;split
  ·next h=>rw [h,if_pos #[O]]
  ·next h =>
   rw [ziO s l (i - 1)];by_cases h1:i - 1 < s
   ·rw [if_pos h1,if_pos #[O]]
   ·rw [if_neg h1,if_neg #[O],show i - 1 - s=i - (s+1) by lia]
theorem zpR {p:Int} {n:Nat} {b l l':Ps} (h:∀ i,Cg p (l i) (l' i)) (i:Nat):Cg p (mq 0 n b l i) (mq 0 n b l' i):=by
 induction n generalizing b i with
 | zero=>exact Cg.refl _ _
 | succ n ih =>
  simp only [mq,dE,dg];refine (#[On].mul (h i)).add ?_;unfold Xl;split
  ·exact Cg.refl _ _
  ·exact ih _
theorem znJ (n w:Nat) (g:Nat->Nat->Int):#[RV].length=n:=by unfold zau; rw [aA,bR]
end My
end
section
namespace My
end My
end
section
namespace My
open PySem L2 PyProof.Rows
variable {F:Nat->Ps} {W k:Nat}
theorem zfi (n:Nat) (b l:Ps):mq 0 (n+1) b l=fun i=>b 0*l i+Xl #[P3] i:=by
 funext i;simp only [mq,dE,dg]
theorem zhE:∀ (n:Nat) (b:Ps) (m:Nat) (c l:Ps),mq 0 n b (mq 0 m c l)=mq 0 m c #[S4]
 | 0,b,m,c,l=>by
  have:mq 0 0 b l=fun _=>0:=rfl
  rw [this,(zcr 0 m c).z];rfl
 | n+1,b,m,c,l=>by
  rw [zfi,zfi,(zcr 0 m c).a,zjG,<- zpQ,zhE n _ m c l]
noncomputable def zef:Ps:=fun i=>if i=0 then 1 else 0
theorem zkS:∀ (n:Nat) (b:Ps) (i:Nat),mq 0 n b zef i=if i < n then b i else 0
 | 0,b,i=>by rw [if_neg #[O]]; rfl
 | n+1,b,i=>by
  rw [zfi];show b 0*zef i+Xl (mq 0 n #[Ev] zef) i=_;unfold Xl zef;by_cases h:i=0
  ·subst h;rw [if_pos rfl,if_pos rfl,if_pos #[O]];lia
  ·rw [if_neg h,if_neg h];have:=zkS n #[Ev] (i - 1);unfold zef at this;rw [this];by_cases h2:i < n+1
   ·rw [if_pos #[O],if_pos h2,show i - 1+1=i by lia];lia
   ·rw [if_neg #[O],if_neg h2];lia
theorem zfj {n:Nat} {b:Ps} (h:Dg b n):mq 0 n b zef=b:=by
 funext i;rw [zkS];split
 ·rfl
 ·rw [h i #[O]]
theorem zkT {n m:Nat} {b c:Ps} (hb:Dg b n) (hc:Dg c m):mq 0 n b c=mq 0 m c b:=by
 rw [<- zfj hc,zhE,zfj hb,zfj hc]
theorem zpS:∀ (n:Nat) (b l:Ps) (x:Nat),mq 0 n b l x=sm n fun t=>b t*Xp t l x
 | 0,b,l,x=>rfl
 | n+1,b,l,x=>by
  rw [zfi,zbY];show b 0*l x+Xl #[P3] x=b 0*l x+_;congr 1;unfold Xl;by_cases h:x=0
  ·rw [if_pos h];refine (zbq fun i _=>?_).symm;rw [ziO,if_pos #[O],fq]
  ·rw [if_neg h,zpS n _ l (x - 1)];refine zaH fun i _=>?_
   rw [ziO,ziO];by_cases h2:x - 1 < i
   ·rw [if_pos h2,if_pos #[O]]
   ·rw [if_neg h2,if_neg #[O],show x - 1 - i=x - (i+1) by lia]
noncomputable def itq (k:Nat) (f:Ps):Nat->Ps->Ps
 | 0,l=>l
 | t+1,l=>mq 0 k f (itq k f t l)
theorem ziP (k:Nat) (f:Ps) (n:Nat) (b:Ps):∀ (t:Nat) (l:Ps),mq 0 n b (itq k f t l)=itq k f t #[S4]
 | 0,_=>rfl
 | t+1,l=>by
  show mq 0 n b (mq 0 k f (itq k f t l))=mq 0 k f (itq k f t #[S4]);rw [zhE,ziP k f n b t l]
theorem znK (k:Nat) (f:Ps):∀ (n:Nat) (G:Nat->Ps) (x:Nat),mq 0 k f (fun y=>sm n fun t=>G t y) x=sm n fun t=>mq 0 k f (G t) x
 | 0,G,x=>by
  have:(fun y=>sm 0 fun t=>G t y)=fun _=>(0:Int):=rfl
  rw [this,(zcr 0 k f).z];rfl
 | n+1,G,x=>by
  have e:(fun y=>sm (n+1) fun t=>G t y)=fun y=>(fun y=>G 0 y) y+(fun y=>sm n fun t=>G (t+1) y) y:=by
   funext y;rw [zbY]
  rw [e,(zcr 0 k f).a,zbY];show mq 0 k f (fun y=>G 0 y) x+mq 0 k f (fun y=>sm n fun t=>G (t+1) y) x=_;rw [znK k f n]
theorem znL {k:Nat} {f:Ps}:∀ (n:Nat) (F:Nat->Ps) (x:Nat),AL k f n F x=sm n fun t=>itq k f t (F t) x
 | 0,F,x=>rfl
 | n+1,F,x=>by
  have ih:AL k f n #[OI]=fun y=>sm n fun t=>itq k f t (F (t+1)) y:=funext fun y=>znL n _ y
  show F 0 x+mq 0 k f (AL k f n fun t=>F (t+1)) x=_;rw [ih,znK,zbY];rfl
theorem znM {n:Nat} {f:Ps} :∀ {m:Nat},n<=m->(∀ t,n<=t->F t=fun _=>0)->AL k f m F=AL k f n F:=fun {m} hm h=>by
 obtain⟨d,rfl⟩:∃ d,m=n+d:=⟨m - n,#[O]⟩;induction d with
 | zero=>rfl
 | succ d ih =>
  have e:AL k f (n+d+1) F=AL k f (n+d) F:=zff (zcr 0 k f) (h (n+d) #[O]);rw [show n+(d+1)=n+d+1 by lia,e];exact ih #[O]
noncomputable def wr (k:Nat) (f:Ps) (F:Nat->Ps):Nat->Ps
 | 0=>fun i=>0 + -1*mq 0 k f (F 0) i
 | j+1=>fun i=>F j i + -1*mq 0 k f (F (j+1)) i
theorem zrI {n:Nat} {f:Ps} (hk:1<=k) (hF:∀ t,t < n->Dg (F t) W) (hz:∀ t,n<=t->F t=fun _=>0):Dg (AL k f n F) (W+n*k):=by
 obtain⟨k1,rfl⟩:∃ k1,k=k1+1:=#[TW];have h:Dg (AL (k1+1) f n F) (W+k1*n - k1*0):=zee fun t=>by
  by_cases ht:t < n
  ·refine (hF t ht).le ?_;have:k1*t<=k1*n:=lI _ #[O];lia
  ·rw [hz t #[O]];exact fun _ _=>rfl
 refine h.le ?_;rw [Nat.mul_zero,fQ,io k1 n];lia
end My
end
section
namespace My
open PySem PySem.Spec L2 PyProof.Rows
noncomputable def isAt (H:Hp) (q:List Int) (u:Value):Bool:=@decide (∃ b,u = .ref b/\H b=some (.tup (q.map V.int))) (fH _)
end My
end
section
namespace PySem
open PyProof.Rows
theorem zeT:isSubtype (.type "range_iterator") (.type "reversed")=pure false:=by rw [iA]; kernel_rfl
abbrev ziQ (a b:Int):Obj:={ cls:=.type "range_iterator",data:=.fields #[rawInt (a+(cK a b 1 - 1)*1),rawInt (cK a b 1),rawInt (-1)] }
theorem znN (r:Addr) (a b:Int) (t u v:Tok) (hs:(cg a && cg b && cg 1 && cg (-1) && cg (a - 1) && cg (cK a b 1))=true) :
  Meets (Builtin.«range.__reversed__» ⟨[.ref r],[]⟩) (fun _ R s=>s.heap.get? r=some { cls:=.type "range",dict:=none,data:=.fields #[.int a t,.int b u,.int 1 v],slots:=#[] }/\R (.ok (.ret (bP s.heap.objs.size))) { s with heap:=s.heap.push (ziQ a b) }) :=
 .of_wp fun prog w A R s h=>by
  (obtain⟨hp,g,d,tk,os⟩:=s)
  obtain⟨hl,h⟩:=h
  wp_walk
  rw [hs];exact⟨_,rfl,h⟩
section
variable {prog:Program} {w:World} {A:Around} {E:Value->Shared->Prop} {s:Shared}
theorem zpa {r:Addr} {a b:Int} {t u v:Tok} {Q:Value->Shared->Prop} (hr:IsRange s.heap r a b 1 t u v) (ha:-1000000<=a/\a < 1000000/\-1000000<=b/\b < 1000000)
  (h:Q #[wf] { s with heap:=s.heap.push (ziQ a b) }):wpAny #[ss] A (call (.type "reversed") [.ref r]) Q E s:=by
 have hs:(cg a && cg b && cg 1 && cg (-1) && cg (a - 1) && cg (cK a b 1))=true:=by
  have hz:0<=cK a b 1/\cK a b 1<=2000000:=by
   (unfold cK)
   rw [if_pos #[D],lR];split <;> lia
  generalize cK a b 1=z at hz |-;unfold cg
  (simp only [eS,decide_eq_true_eq])
  lia
 (have hT:s.TypeIs #[Tf] "range":=⟨_,hr,rfl⟩)
 refine callType_other (U:="range_iterator") (Q₁:=fun obj s₁=>obj = .ref s.heap.objs.size/\s₁ = { s with heap:=s.heap.push (ziQ a b) }) #[N] F.create_reversed ⟨_,_,F.mro_reversed⟩ F.made_reversed zeT (kH _) ?_ ?_
 ·refine codeAny_of_tree ?_;show wpAny _ A.in1.in1 (do checkBuiltinCall "reversed.__new__" ⟨[.type "reversed",.ref r],[]⟩; again (.builtin "reversed.__new__" ⟨[.type "reversed",.ref r],[]⟩)) _ _ s;refine (aB (dk (k6 _) (aK ⟨gm lg _,gz k7 ?_⟩)))
  (rw [fz lg _])
  (unfold Builtin.«reversed.__new__»)
  refine (aB #[VD])
  try dsimp only
  refine (aB (dk (a:=()) (by first | rfl | kernel_rfl) (aB (dk (a:=()) (by first | rfl | kernel_rfl) ?_))))
  try dsimp only
  refine (aB (jc hT F.slot_range_reversed.lookup ?_))
  try dsimp only
  refine (aB (dk (F.slot_range_reversed.bind _) ?_))
  try dsimp only
  show wpAny _ _ (if (lB "range.__reversed__" == eh)=true then _ else _) _ _ _;rw [if_neg (show ¬ ((lB "range.__reversed__" == eh)=true) from bH)];refine (aB (c9 ?_));refine aB (m:=runValue (.call (.builtin "range.__reversed__") ⟨[.ref r],[]⟩)) (show wpAny _ _ (call (.builtin "range.__reversed__") [.ref r]) _ _ _ from gp F.slot_range_reversed hT F.entry_range_reversed (F.args_range_reversed_1 _) (znN r a b t u v hs) ⟨hr,?_⟩)
  first
  | exact aK ⟨rfl,rfl⟩
  | exact aB (aK (aK ⟨rfl,rfl⟩))
 ·rintro obj s₁ ⟨rfl,rfl⟩
  (exact⟨⟨_,aX _ rfl,rfl⟩,h⟩)
end
end PySem
namespace L2
open PySem PySem.Spec PyProof.Rows
theorem ziR {X:Cx}:zbv X (.type "range") (fun xs H Q=>∃ i j:Int,xs = [.int i,.int j]/\∀ l,H l=none->Q #[Pm] (nQ H l (.rng i j))):=by
 intro nM s σ H xs us Q I r h;obtain⟨i,j,rfl,q⟩:=h;cases r with
 | cons r1 r =>
  cases r with
  | cons r2 r =>
   cases r;obtain⟨t,rfl⟩:=r1;obtain⟨t',rfl⟩:=r2;refine call_range_2 ?_;exact⟨.ref s.heap.objs.size,_,I.laid (o:=.rng i j) #[UG] (aH _) ⟨_,_,_,aX _ rfl⟩,rfl,q _ I.fresh⟩
noncomputable def zrJ (ta:TA):TI:=fun σ H R=>ta σ H fun vs H1=>∃ (a:Addr) (i j:Int),vs = [.ref a]/\H1 a=some (.rng i j)/\(-1000000<=i/\i < 1000000/\-1000000<=j/\j < 1000000)/\R (zlq (i+((j - i).toNat:Int) - 1) (j - i).toNat) H1
theorem zpb {X:Cx} {tg:Expr} {p pos:Pos} {a:Expr} {ta:TA} (hg:Gl X "reversed") (hm:X.mg "reversed" = none) (ha:PA X [a] ta) (hs:starEach [a] X.env = [#[FB]]:=by rfl) :
  PI X tg (.Call (.Name "reversed" p) [a] [] pos) (zrJ ta):=by
 intro nM s σ H R I h;refine Call_ (zbk I hg hm boot_reversed (bZ (thn #[FM] fun us s1 ⟨vs,H1,I1,r1,q1⟩=>?_) hs rfl));obtain⟨l,i,j,e,hq,hb,q⟩:=q1;subst e;cases r1 with
 | cons r rr =>
  cases rr;cases r;obtain⟨t,u,v,hr⟩:=(show zat X.prog X.w H1 s1.heap l (.rng i j) from I1.hok l _ hq);refine zpa hr hb ?_;have hsz:cK i j 1=((j - i).toNat:Int):=by
   (unfold cK)
   rw [if_pos #[D],lR];split <;> lia
  have I2:Inv X nM σ H1 { s1 with heap:=s1.heap.push (ziQ i j) }:=I1.kept (t':=s1.toks) fun b o e=>aJ _ e
  have hit:IsRangeIter (s1.heap.push (ziQ i j)) s1.heap.objs.size ((i+((j - i).toNat:Int) - 1)+((0:Nat):Int)*(-1)) ((((j - i).toNat:Nat):Int) - ((0:Nat):Int)) (-1):=by
   have e1:(i+((j - i).toNat:Int) - 1)+((0:Nat):Int)*(-1)=i+(cK i j 1 - 1)*1:=by rw [hsz]; lia
   have e2:(((j - i).toNat:Nat):Int) - ((0:Nat):Int)=cK i j 1:=by rw [hsz]; lia
   rw [e1,e2];exact aX _ rfl
  refine iN hit ?_;refine⟨_,[s1.heap.objs.size],_,zlq (i+((j - i).toNat:Int) - 1) (j - i).toNat,H1,rfl,I2,ziq _ _ _,hit,fun b hb=>?_,q⟩;have z:b=s1.heap.objs.size:=by simpa using hb
  subst z;exact I1.Mq (aH _) #[OM]
end L2
end
section
namespace My
open PySem L2 PyProof.Rows
variable {F:Nat->Ps} {G:Nat->Nat->Int} {H H' H0:Hp} {K:aF} {L N W j k:Nat} {X:Cx} {as cs q:List Int} {cl:List (Nat×List Int)} {fd:FuncData} {g:TG} {ls:List Addr} {nW:List (Int×Int)} {o9 pos:Pos} {rows vv:List #[wp]} {rw:List #[Op]} {te:TE} {ys:List V} {σ0:L2.St}
noncomputable def top (i:Nat):Stmt:=PySem.Challenge.pw_slipcurve_k18_whole_papers_judged.main.body.getD i (.Pass ⟨0,0,0,0⟩)
abbrev zcT:Stmt:=top 5
abbrev zdr:Stmt:=top 6
abbrev zbB:Stmt:=top 7
abbrev zfW:Stmt:=top 8
abbrev zds:Stmt:=top 9
abbrev zbC:Stmt:=top 11
abbrev za3:Stmt:=top 12
abbrev zbi:Stmt:=top 13
abbrev zcF:Stmt:=top 14
abbrev zaF:Stmt:=top 15
abbrev zbM:Stmt:=top 16
abbrev zbb:Stmt:=top 18
abbrev zfX:Stmt:=top 19
abbrev zb8:Stmt:=top 21
abbrev zdb:Stmt:=top 22
abbrev zb9:Stmt:=top 23
abbrev zdc:Stmt:=top 24
abbrev zdd:Stmt:=top 25
abbrev zcG:Stmt:=top 26
abbrev zeg:Stmt:=top 27
abbrev zbN:Stmt:=top 28
abbrev zbm:Stmt:=top 29
abbrev zaD:Stmt:=top 30
abbrev zbD:Stmt:=top 31
abbrev zbO:Stmt:=top 32
abbrev zbn:Stmt:=top 35
abbrev zb2:Stmt:=top 37
abbrev zbo:Stmt:=top 38
abbrev zca:Stmt:=top 39
abbrev zeh:Stmt:=top 41
abbrev zdt:Stmt:=top 42
abbrev zde:Stmt:=top 43
abbrev zdu:Stmt:=top 44
abbrev zbc:Stmt:=top 45
abbrev zei:Stmt:=top 46
abbrev zcU:Stmt:=top 47
abbrev zcV:Stmt:=top 48
abbrev zbd:Stmt:=top 49
abbrev zdv:Stmt:=top 50
abbrev zcH:Stmt:=top 51
abbrev zaP:Stmt:=top 52
abbrev zb3:Stmt:=top 53
abbrev zdf:Stmt:=top 54
abbrev zdg:Stmt:=top 55
abbrev zb4:Stmt:=top 56
abbrev zdG:Stmt:=top 57
structure Adr where
 ML:Addr
 NT:Addr
 NM:Addr
 LG:Addr
 inverse:Addr
 K5:Addr
 NZ:Addr
 through:Addr
 Kt:Addr
 K6:Addr
 K4:Addr
 without:Addr
 Kl:Addr
 KY:Addr
 Kv:Addr
 fits:Addr
 LF:Addr
 filled:Addr
 LH:Addr
 turned:Addr
 raised:Addr
 size_of:Addr
 moved:Addr
 Lj:Addr
 KL:Addr
 Kq:Addr
 Kx:Addr
 Ln:Addr
 KH:Addr
 MC:Addr
 Ks:Addr
 LL:Addr
 M1:Addr
 Mo:Addr
 M0:Addr
 Mj:Addr
 Ku:Addr
 ND:Addr
 LI:Addr
 LK:Addr
 LJ:Addr
 Mk:Addr
 Mp:Addr
 KJ:Addr
 Ml:Addr
 M3:Addr
 MZ:Addr
 Mn:Addr
 law:Addr
abbrev FbQ (K:aF) (x:Str) (s:Stmt) (a:Addr) (p:List Str):Prop:=∃ fd,Fun K x x s a fd/\Binds K fd p []
structure Txt (K:aF) (mg:Str->Option Value) (t:Adr):Prop where
 KD:mg "len" = none
 Ki:mg "range" = none
 MK:mg "list" = none
 KC:mg "tuple" = none
 Oc:mg "min" = none
 MP:mg "max" = none
 OB:mg "int" = none
 Oh:mg "bool" = none
 MT:mg "isinstance" = none
 OA:mg "all" = none
 Nu:mg "zip" = none
 Kh:mg "enumerate" = none
 Oa:mg "sum" = none
 Of:mg "dict" = none
 MD:mg "reversed" = none
 NG:mg "sorted" = none
 NK:mg "ValueError" = none
 Lf:∃ q,mg "MOST_PAPER_WEIGHT" = some (.int 4 q)
 NF:mg "SlipError" = some (.ref t.ML)
 NW:mg "TooFew" = some (.ref t.NT)
 NN:mg "NoCurve" = some (.ref t.NM)
 sb:li K t.ML (.type "BaseException")=some true
 Lq:mg "value_at" = some (.ref t.LG)
 MJ:mg "inverse" = some (.ref t.inverse)
 LB:mg "times_root" = some (.ref t.K5)
 NR:mg "bent" = some (.ref t.NZ)
 Nb:mg "through" = some (.ref t.through)
 Lb:mg "moved_powers" = some (.ref t.Kt)
 MG:mg "numbers_at" = some (.ref t.K6)
 MF:mg "vectors_of" = some (.ref t.K4)
 Na:mg "without" = some (.ref t.without)
 LD:mg "first_relation" = some (.ref t.Kl)
 MR:mg "first_sum" = some (.ref t.KY)
 Ky:mg "heard_points" = some (.ref t.Kv)
 NQ:mg "fits" = some (.ref t.fits)
 L5:mg "width_of" = some (.ref t.LF)
 NB:mg "filled" = some (.ref t.filled)
 L6:mg "terms_of" = some (.ref t.LH)
 MX:mg "turned" = some (.ref t.turned)
 MY:mg "raised" = some (.ref t.raised)
 Nc:mg "size_of" = some (.ref t.size_of)
 NH:mg "moved" = some (.ref t.moved)
 MQ:mg "weight_at" = some (.ref t.Lj)
 Mh:mg "first_terms" = some (.ref t.KL)
 Mf:mg "least_curve" = some (.ref t.Kq)
 Lc:mg "check_curves" = some (.ref t.Kx)
 MS:mg "curve_for" = some (.ref t.Ln)
 Me:mg "paper_holds" = some (.ref t.KH)
 Ni:mg "choices" = some (.ref t.MC)
 Mi:mg "all_through" = some (.ref t.Ks)
 L9:mg "all_near" = some (.ref t.LL)
 Nz:mg "_law_cell" = some (.ref t.M1)
 KW:mg "_law_draws" = some (.ref t.Mo)
 Ny:mg "_law_code" = some (.ref t.M0)
 Nd:mg "_law_value" = some (.ref t.Mj)
 L3:mg "_law_polynomial" = some (.ref t.Ku)
 NI:mg "_law_row" = some (.ref t.ND)
 L7:mg "_law_powers" = some (.ref t.LI)
 L8:mg "_law_choose" = some (.ref t.LK)
 M4:mg "_law_passes" = some (.ref t.LJ)
 Ll:mg "_law_times" = some (.ref t.Mk)
 Nh:mg "_law_along" = some (.ref t.Mp)
 Mg:mg "_law_with_root" = some (.ref t.KJ)
 Nf:mg "_law_paper" = some (.ref t.Ml)
 NA:mg "_law_bent" = some (.ref t.M3)
 Nx:mg "_law_size" = some (.ref t.MZ)
 Ng:mg "_law_holds" = some (.ref t.Mn)
 K8:FbQ K "value_at" zcT t.LG ["p","polynomial","x"]
 Lm:FbQ K "inverse" zdr t.inverse ["p","number"]
 Kw:FbQ K "times_root" zbB t.K5 ["p","polynomial","root"]
 Np:FbQ K "bent" zfW t.NZ ["p","polynomial","vanishing","point"]
 LP:FbQ K "through" zds t.through ["p","points"]
 Kz:FbQ K "moved_powers" zbC t.Kt ["p","by","most","kept"]
 K0:FbQ K "numbers_at" za3 t.K6 ["p","terms","point"]
 KZ:FbQ K "vectors_of" zbi t.K4 ["p","terms","points"]
 LO:FbQ K "without" zcF t.without ["p","vector","times","other"]
 Ko:FbQ K "first_relation" zaF t.Kl ["p","vectors"]
 Lh:FbQ K "first_sum" zbM t.KY ["p","terms","points"]
 Kj:FbQ K "heard_points" zbb t.Kv ["code","row"]
 Nn:FbQ K "fits" zfX t.fits ["code","row","polynomial"]
 K7:FbQ K "width_of" zb8 t.LF ["curve"]
 Mz:FbQ K "filled" zdb t.filled ["p","curve"]
 La:FbQ K "terms_of" zb9 t.LH ["curve"]
 Mr:FbQ K "turned" zdc t.turned ["lines","width"]
 Ms:FbQ K "raised" zdd t.raised ["p","lines","by"]
 LQ:FbQ K "size_of" zcG t.size_of ["k","curve"]
 MU:FbQ K "moved" zeg t.moved ["p","curve","point"]
 Lg:FbQ K "weight_at" zbN t.Lj ["p","curve","point"]
 KQ:FbQ K "first_terms" zbm t.KL ["k","many"]
 KO:FbQ K "least_curve" zaD t.Kq ["p","k","points"]
 Km:FbQ K "check_curves" zbD t.Kx ["k"]
 Li:FbQ K "curve_for" zbO t.Ln ["code","row","m"]
 KN:FbQ K "paper_holds" zbn t.KH ["code","row","t","paper"]
 LX:FbQ K "choices" zb2 t.MC ["things","many"]
 KR:FbQ K "all_through" zbo t.Ks ["code","points"]
 Lx:FbQ K "all_near" zca t.LL ["code","row","t"]
 Mv:FbQ K "_law_cell" zeh t.M1 ["script","k"]
 K2:FbQ K "_law_draws" zdt t.Mo ["script","k","many","base"]
 Mu:FbQ K "_law_code" zde t.M0 ["script","at","most_k","most_n"]
 LR:FbQ K "_law_value" zdu t.Mj ["p","polynomial","x"]
 KA:FbQ K "_law_polynomial" zbc t.Ku ["draws","p","k"]
 MV:FbQ K "_law_row" zei t.ND ["script","at","code"]
 Lu:FbQ K "_law_powers" zcU t.LI ["p","x","many"]
 Lw:FbQ K "_law_choose" zcV t.LK ["many","few"]
 Lv:FbQ K "_law_passes" zbd t.LJ ["p","curve","point","m"]
 K1:FbQ K "_law_times" zdv t.Mk ["p","one","other"]
 LW:FbQ K "_law_along" zcH t.Mp ["p","curve","polynomial"]
 KP:FbQ K "_law_with_root" zaP t.KJ ["p","curve","polynomial"]
 LU:FbQ K "_law_paper" zb3 t.Ml ["plan","code","row","near"]
 Mw:FbQ K "_law_bent" zdf t.M3 ["paper","draws","p"]
 Mt:FbQ K "_law_size" zdg t.MZ ["k","curve"]
 LV:FbQ K "_law_holds" zb4 t.Mn ["code","row","t","paper"]
section
variable {P:Program} {w:World} {K:aF} {mg:Str->Option Value} {base:Heap} {t:Adr}
theorem zlT:Kf ["script","k"] ["script","k"] (zi zeh):=#[S]
theorem zlU (T:Txt K mg t) (F:Fun K "_law_cell" "_law_cell" zeh t.M1 fd):Kn P w K mg base CX0 1 t.M1 fd ["script","k"] (zll K):=by
 refine F.ok zlT #[sn] #[mt]
 ·obtain⟨a,ns,k,rfl,_⟩:=h; rfl
 ·obtain⟨a,ns,k,rfl,hS,nV,k0,k1,q⟩:=h;refine zaJ ?_; intro zX;refine⟨_,#[ze,#[zbj,#[zJ,#[zgv],#[Id],#[Ua],(zV _)],#[zl,#[zC,#[zw,#[zu],#[AT],#[Id]]]],#[zan]],#[ze,#[zbj,#[zJ,#[zcv],#[Ua],#[zf],(zV _)],#[zl,#[zC,#[zh,#[zB],#[Ve],#[zf]]]],#[zan]],#[zl,#[zC,#[zh,#[zB],#[zh,#[zy],#[zw,#[zu],#[AT],#[zh,#[zy],#[Id],#[Ua]]],#[zf]],#[Ve]]]]]],?_⟩;refine zep ?_; intro pQ pG;refine (nN rfl (nN rfl ⟨a,(nN rfl ⟨.inl hS,#[ww]⟩)⟩)); rw [aA];refine zaR #[UP] #[UP]
  ·have h:k < (ns.length:Int):=by simpa using h
   obtain⟨c,hc⟩:=ze3 k0 h;exact (nN rfl (nN rfl (ex4 a _ k _ ⟨rfl,rfl,hS,hc,q c⟩)))
  ·have h:¬ k < (ns.length:Int):=by simpa using h
   refine (nN rfl ⟨a,(nN rfl ⟨.inl hS,rfl,#[Pp]⟩)⟩);rw [aA];refine zaR (fun h2=>?_) (fun h2=>?_)
   ·exact #[R7]
   ·have h2:¬ V.int (ns.length:Int)=V.int 0:=by simpa using h2
    have Ec:0 < (ns.length:Int):=by
     have:(ns.length:Int)≠0:=fun z=>h2 (by rw [z])
     lia
    have m0:=bC k (show (ns.length:Int)≠0 by lia);have m1:=aR k Ec;obtain⟨c,hc⟩:=ze3 m0 m1;refine (nN rfl (nN rfl (nN rfl ⟨a,(nN rfl ⟨.inl hS,(nR rfl rfl ⟨by rw [aA]; exact Ec,a,_,_,_,rfl,rfl,hS,by rw [aA]; exact hc,(nR rfl rfl ⟨(by show (0:Int) < 1000003; decide),?_⟩)⟩)⟩)⟩)));exact #[R7]
theorem zas:Kf ["script","k","many","base","primes","cell","rest","row","j","mash"] ["script","k","many","base"] (zi zdt):=#[S]
theorem zdN (T:Txt K mg t) (F:Fun K "_law_draws" "_law_draws" zdt t.Mo fd):Kn P w K mg base CX0 2 t.Mo fd ["script","k","many","base"] (zjo K):=by
 obtain⟨C5,ui,xW⟩:=T.Mv;have xX:=zlU (P:=P) (w:=w) (base:=base) T ui;refine F.ok zas #[sn] #[mt]
 ·obtain⟨a,ns,k,many,base,rfl,_⟩:=h;rfl
 ·obtain⟨a,ns,k,many,bs,rfl,hS,nV,k0,k1,m0,m1,b0,b1,q⟩:=h;refine zaJ ?_; intro zX;refine⟨_,#[ze,#[zm,4,zas.nd,#[A],#[zap,#[zdE,#[zdE,#[zdE,#[zdE,#[zdE,#[Sm]]]]]]]],#[ze,#[zm,5,zas.nd,#[A],#[zq,xX,#[sK],T.Nz,ui.kp,xW,#[zK],#[PZ]]],#[ze,#[zm,6,zas.nd,#[A],#[zf]],#[ze,#[zbj,#[zJ,#[zfp],#[Pf],#[zh,(@zp8 _),#[zf],#[zf]],(zV _)],#[zl,#[zm,6,zas.nd,#[A],#[Pf]]],#[zan]],#[ze,#[zm,7,zas.nd,#[A],#[Si]],#[ze,#[zah,bN,#[Ux],#[zg,8,zas.nd,#[A]],#[ze,#[zm,9,zas.nd,#[A],#[zh,#[zQ],#[zh,#[zy],#[Pf],#[zw,#[za6],#[OD],#[zh,#[zy],#[RH],#[zf]]]],#[zh,#[zB],#[zf],#[zh,#[zQ],#[zh,#[zQ],#[zf],#[RH]],#[RH]]]]],#[ze,#[zm,9,zas.nd,#[A],#[zh,#[zB],#[zh,#[zB],#[SI],#[zh,#[zQ],#[zh,#[zQ],#[zf],#[Vf]],#[Vf]]],#[Ve]]],#[ze,#[zm,9,zas.nd,#[A],#[zh,#[zy],#[SI],#[zw,#[za6],#[OD],#[zh,#[zy],#[zh,#[zB],#[zh,#[zQ],#[zf],#[RH]],#[Id]],#[zf]]]]],#[ze,#[zm,9,zas.nd,#[A],#[zh,#[zy],#[zh,#[zQ],#[zh,#[zQ],#[SI],#[SI]],#[SI]],#[zw,#[za6],#[OD],#[zh,#[zy],#[Vf],#[zf]]]]],#[ze,#[zbj,#[zJ,#[zgw],#[R8],#[zf],(zV _)],#[zl,#[zm,9,zas.nd,#[A],#[R8]]],#[zan]],#[ze,#[zcc,#[zfu,dJ,fA,fB,#[zcx],#[Rl],#[ya,#[zh,#[zy],#[SI],#[NE]]]]],#[zl,#[zm,6,zas.nd,#[A],#[zh,#[zbU],#[R8],#[NE]]]]]]]]]]],#[zl,#[zC,#[Rl]]]]]]]]],?_⟩;refine zrp ?_; intro Ed B3 xq rS pQ pG;refine⟨by show 8<=sizeLine; rw [bJ]; decide,fun tp ht=>?_⟩;have s1:zr H (nQ H tp (.tup zoy)):=zb ht;refine (nN rfl (nN rfl (ex3 a ns k ⟨rfl,s1.seq hS,nV,k0,k1,fun c=>?_⟩)));refine (nN rfl (nR rfl rfl ⟨⟨#[D],#[D],#[D]⟩,#[ww]⟩));refine zaR (fun _=>#[Pp]) #[BT]
  all_goals
   refine⟨bW _,fun l hl=>?_⟩;have Ee:H l=none:=zr.free s1 hl;have qJ:tp≠l:=zH zc hl;refine⟨_,rfl,many,rfl,#[O],#[O],zaq (lo:=0) (n:=many.toNat) (fun i σ H'=>∃ (r:Int) (v8 v9:Option V) (ds:List Int),σ = [some #[Pn],some (.int k),some (.int many),some (.int bs),some (.ref tp),some (.int c),some (.int r),some #[Pm],v8,v9]/\ze4 i bs ds/\zr H H'/\H' tp=some (.tup zoy)/\H' l=some #[Sy])
    ⟨_,none,none,[],rfl,⟨rfl,#[M]⟩,zac s1 Ee,by rw [zp qJ]; exact zc,zc⟩ ?_ ?_⟩
   ·rintro zD zT i σ H2 hi ⟨r,v8,v9,ds,rfl,hd,s2,Ef,se⟩;obtain⟨q1,e1,q1p,q1l⟩:=zfA (0+(i:Int));obtain⟨q2,e2,q2p,q2l⟩:=zfA (3*(0+(i:Int))+k);obtain⟨q3,e3,q3p,q3l⟩:=zfA (0+(i:Int)+5);have c1:=bC c (show q1≠0 by lia);have c2:=aR c q1p;have pT:(i:Int) < 1000:=by lia
    refine (nN rfl (nN rfl (nN rfl (nR rfl rfl ⟨(by show (0:Int) < 8; decide),tp,_,_,_,rfl,rfl,nS.of Ef,e1,(nR rfl rfl ⟨q1p,(nN rfl (nR rfl rfl ⟨.inl #[OP],(nN rfl (nR rfl rfl ⟨.inl #[v6],(nR rfl rfl (nR rfl rfl ⟨.inl #[v6],?_⟩))⟩))⟩))⟩)⟩))));refine (nN rfl (nN rfl (nR rfl rfl (nR rfl rfl ⟨.inl #[OP],(nN rfl (nR rfl rfl (nR rfl rfl ⟨.inl #[v6],(nR rfl rfl (nN rfl (nR rfl rfl ⟨.inl #[OP],#[IR]⟩)))⟩)))⟩))));refine (nN rfl (nN rfl (nN rfl (nR rfl rfl ⟨.inl #[OP],(nN rfl (nR rfl rfl (nR rfl rfl ⟨(by show (0:Int) < 8; decide),tp,_,_,_,rfl,rfl,nS.of Ef,e2,(nR rfl rfl ⟨q2p,?_⟩)⟩)))⟩))));generalize c % q1*(48271+2*(0+(i:Int))*(0+(i:Int)))+7919*(0+(i:Int)+1)*(0+(i:Int)+1)+104729*k=ms;have d1:=bC ms (show q2≠0 by lia);have d2:=aR ms q2p;refine (nN rfl (nN rfl (nR rfl rfl ⟨.inl #[v6],(nN rfl (nR rfl rfl ⟨.inr #[v6],(nN rfl (nN rfl (nR rfl rfl (nR rfl rfl ⟨(by show (0:Int) < 8; decide),tp,_,_,_,rfl,rfl,nS.of Ef,e3,(nR rfl rfl ⟨q3p,?_⟩)⟩))))⟩))⟩)));refine #[Po];have B4:=hd.1;refine zaR (fun _=>#[Pp]) #[BT]
    all_goals
     refine⟨_,rfl,.inl ⟨rfl,_,nO.of se⟩,_,rfl,_,rfl,_,_,rfl,rfl,b0,l,_,_,rfl,rfl,se,zax (by rw [aA]; lia),?_⟩;refine (nN rfl (nN rfl (nR rfl rfl ⟨⟨b0,b1⟩,?_⟩)));refine (ex4 _ _ _ (ds++[_]) ⟨rfl,⟨by rw [aO,B4]; rfl,fun d hm=>?_⟩,zac s2 Ee,by rw [zp qJ]; exact Ef,by rw [zc,aN]; rfl⟩); rcases bO.mp hm with hm | hm
     ·exact hd.2 d hm
     ·have e:=bD.mp hm;rw [e];exact⟨bC _ #[O],aR _ b0⟩
   ·rintro σ H2 ⟨r,v8,v9,ds,rfl,hd,s2,Ef,se⟩;exact (nN rfl (q l ds H2 Ee s2 hd se))
theorem zbG:Kf ["script","at","most_k","most_n","plan","primes","p","k","many","left"] ["script","at","most_k","most_n"] (zi zde):=#[S]
theorem zlV (T:Txt K mg t) (F:Fun K "_law_code" "_law_code" zde t.M0 fd):Kn P w K mg base CX0 3 t.M0 fd ["script","at","most_k","most_n"] (zlm K):=by
 obtain⟨rm,og,oD⟩:=T.K2;have oE:=zdN (P:=P) (w:=w) (base:=base) T og;refine F.ok zbG #[sn] #[mt]
 ·obtain⟨a,ns,at',mk,mn,rfl,_⟩:=h;rfl
 ·obtain⟨a,ns,at',mk,mn,rfl,hS,nV,a0,a1,k1,k5,kn,Eg,q⟩:=h;refine zaJ ?_; intro zX;refine⟨_,#[ze,#[zm,4,zbG.nd,#[PU],#[zq,oE,#[sK],T.KW,og.kp,oD,#[zK],#[za,#[AT],by exact #[za,#[Id],#[KM]]]]],(by exact (@zmA _ 5 _ _ _ _ _ _ _ [5,7,11,13,17,19,23,29,31,37,41,43,47,53,59,61,67,71,73,79,83,89,97] #[N] zbG.nd rfl #[A] (by first | exact .inl rfl | exact .inr rfl) (by exact #[ze,#[zm,6,zbG.nd,#[A],#[zw,#[zu],#[z9,#[za,#[zw,#[zu],#[Pf],#[Vd]],#[ya,#[zw,#[zu],#[Pf],#[Vd]]]]],#[Vd]]],#[ze,#[zm,7,zbG.nd,#[A],#[zh,#[zB],#[zf],#[zh,#[zy],#[QH],#[zn,#[zgx],T.Oc,boot_min,#[za,#[GT],#[Qa]]]]]],#[ze,#[zm,8,zbG.nd,#[A],#[zh,#[zB],#[Rl],#[zh,#[zy],#[QH],#[zh,#[zB],#[zh,#[zam],#[zn,#[zgx],T.Oc,boot_min,#[za,#[NE],#[Qa]]],#[Rl]],#[zf]]]]],#[ze,#[zm,9,zbG.nd,#[PU],#[zW,(@zgi _ rfl),T.MK,ir,#[ya,#[zW,(@zib _),T.Ki,kW,#[Qa]]]]],#[zl,#[zC,#[zap,#[za,#[R8],#[za,#[Rl],#[ya,#[zW,#[zai],T.KC,eR,#[ya,#[zI,(Kg.of (N':=["j","left","plan"]) (ix:=[none,some 9,some 4]) (zi zde) _ rfl rfl rfl),#[zZ],#[zU,T.Ki,#[Vs]],#[pc],#[re],(fun _ _ _ _=>(@zqo _ (K) _ _ _ _ _ _ _ _ _ _ _ rfl dJ PySem.F.slot_list_pop PySem.F.type_list_pop (@zmr _) #[Id] #[ya,#[zh,#[zy],#[zw,#[Sg],#[GT],#[zh,#[zB],#[zf],#[AT]]],#[zn,#[zaC,(K)],T.KD,cq,#[xL]]]] (by rfl) (by rfl) (by rfl) (by rfl) (by rfl)))]]]]]]]]]]]]])))],?_⟩;refine zrp ?_; intro Ed B3 xq rS pQ pG;refine (nN rfl (nN rfl (ex5 a ns at' 20 27720 ⟨rfl,hS,nV,a0,a1,#[D],#[D],#[D],#[D],fun l ds H1 hl s1 hd oT=>?_⟩)));have B4:ds.length=20:=hd.1;have dat:∀ m:Int,0<=m->m < 20->∃ c:Int,atI #[OL] m=some (.int c):=fun m h0 h1=>ze3 h0 #[O]
  refine⟨by show 23<=sizeLine; rw [bJ]; decide,fun pr Eh=>?_⟩;have Ih:l≠pr:=zH oT Eh;obtain⟨d0,FN⟩:=dat 0 #[D] #[D];obtain⟨d1,Ii⟩:=dat 1 #[D] #[D];obtain⟨d2,Ij⟩:=dat 2 #[D] #[D];obtain⟨d3,Ik⟩:=dat 3 #[D] #[D];have rk:#[PP] l=some #[Sy]:=by rw [zp Ih]; exact oT
  obtain⟨p1,mp1,ep1⟩:=zmI (ns:=zG) (k:=d0 % 23) (bC _ #[D]) (aR _ #[D]);obtain⟨p2,mp2,ep2⟩:=zmI (ns:=zG) (k:=d0 % 3) (bC _ #[D]) (by have:=aR d0 (show (0:Int) < 3 by decide); have e:(zG.length:Int)=23:=rfl; lia);obtain⟨p,ep,hpp⟩:=zqp (x:=p1) (y:=p2) (m:=d1 % 2) (bC _ #[D]) (aR _ #[D]);have mp:p∈zG:=by rcases hpp with e | e <;> rw [e] <;> assumption
  have rp:=zO mp;refine⟨_,rfl,_,rfl,l,_,_,_,rfl,rfl,nO.of rk,FN,_,_,rfl,rfl,(by show (0:Int) < 23; decide),pr,_,_,_,rfl,rfl,nO.of zc,ep1,
   _,rfl,_,rfl,l,_,_,_,rfl,rfl,nO.of rk,FN,_,_,rfl,rfl,(by show (0:Int) < 3; decide),pr,_,_,_,rfl,rfl,nO.of zc,ep2,za0,fun l2 qg=>?_⟩
  have Il:l≠l2:=zH rk qg;have yO:(nQ #[PP] l2 (.lst [.int p1,.int p2])) l=some #[Sy]:=by rw [zp Il]; exact rk
  refine (nN rfl (ex4 l _ _ _ ⟨rfl,rfl,nO.of yO,Ii,(nR rfl rfl ⟨(by show (0:Int) < 2; decide),l2,_,_,_,rfl,rfl,nO.of zc,ep,?_⟩)⟩));have yL:(0:Int) < (if p < mk then p else mk):=by split <;> lia
  have uS:(if p < mk then p else mk)<=mk:=by split <;> lia
  have HL:(if p < mk then p else mk)<=p:=by split <;> lia
  refine⟨_,rfl,l,_,_,_,rfl,rfl,nO.of yO,Ij,_,rfl,_,rfl,_,_,rfl,_,_,rfl,rfl,yL,_,_,rfl,rfl,?_⟩;generalize (if p < mk then p else mk)=mm at yL uS HL |-;have xo:=bC d2 (show mm≠0 by lia);have FF:=aR d2 yL;have vM:(if p < mn then p else mn)<=mn:=by split <;> lia
  have uO:(if p < mn then p else mn)<=p:=by split <;> lia
  have Im:mm<=(if p < mn then p else mn):=by split <;> lia
  refine (nN rfl (nN rfl (ex4 l _ _ _ ⟨rfl,rfl,nO.of yO,Ik,(nN rfl (nN rfl ⟨_,_,rfl,(nN rfl (nR rfl rfl (nR rfl rfl #[Qq])))⟩))⟩)));generalize (if p < mn then p else mn)=nn at vM uO Im |-;have hq0:=bC d3 (show nn - (1+d2 % mm)+1≠0 by lia);have qv:=aR d3 (show 0 < nn - (1+d2 % mm)+1 by lia);refine (nN rfl ⟨p,rfl,fun r vO=>⟨r,p,rfl,zc,#[O],#[O],fun lf Io=>?_⟩⟩);have Ae:l≠r:=zH yO vO;have Ei:l≠lf:=by
   refine zH (H:=nQ (nQ #[PP] l2 (.lst [.int p1,.int p2])) r (.rng 0 p)) (o:=.lst #[OL]) ?_ Io;rw [zp Ae]; exact yO
  have sA:zr H (nQ #[PP] l2 (.lst [.int p1,.int p2])):=(s1.trans (zb Eh)).trans (zb qg);have sB:=#[V5].trans (zb (o:=.lst ((zco 0 p.toNat).map V.int)) Io);have Ip:H lf=none:=#[V5].free Io;obtain⟨nd0,rg0⟩:=zln p;refine⟨_,rfl,_,rfl,_,rfl,_,rfl,#[O],#[O],zaI (n:=(1+d2 % mm+d3 % (nn - (1+d2 % mm)+1)).toNat) (fun i ys H'=>∃ xs ls:List Int,ys=xs.map V.int/\xs.length=i/\zr H H'/\H' l=some #[Sy]/\H' lf=some (.lst (ls.map V.int))/\ls.length+i=p.toNat/\(xs++ls).Nodup/\∀ y∈xs++ls,0<=y/\y < p)
   ⟨[],zco 0 p.toNat,rfl,rfl,sB,by rw [zp Ei,zp Ae]; exact yO,zc,by rw [zdD]; rfl,by simpa using nd0,by simpa using rg0⟩ #[Pb] #[OC] ?_ ?_⟩
  ·rintro i x ys H4 H5 hi ⟨xs,ls,rfl,Be,s4,B5,Am,xr,nd,rg⟩ ⟨rfl,rfl⟩;refine gY ?_;obtain⟨c,ec⟩:=dat (4+(0+(i:Int))) #[O] #[O];have lpos:0 < ls.length:=by lia
   have lm:((ls.map V.int).length:Int)=(ls.length:Int):=by rw [aA]
   have c0:=bC c (show (ls.length:Int)≠0 by lia);have c1:=aR c (show (0:Int) < ls.length by lia);have pd:=bJ;obtain⟨y,ey⟩:∃ y,ls[(c % (ls.length:Int)).toNat]? = some y:=⟨ls[(c % (ls.length:Int)).toNat]'#[O],#[M]⟩;refine (nN rfl ⟨.inl ⟨rfl,_,nO.of Am⟩,(nN rfl (nN rfl (nR rfl rfl (ex4 l _ _ _ ⟨rfl,rfl,nO.of B5,ec,(nN rfl ⟨lf,(nN rfl ⟨.inl (nO.of Am),(nR rfl rfl ⟨(by rw [lm]; lia),lf,_,_,(c % (ls.length:Int)).toNat,.int y,rfl,rfl,Am,?_⟩)⟩)⟩)⟩))))⟩);rw [lm];refine⟨#[O],#[O],by rw [aA]; exact jt c0 c1,by rw [aD,ey]; rfl,zax (by rw [aA]; lia),xs++[y],ls.eraseIdx (c % (ls.length:Int)).toNat,by rw [aN]; rfl,by rw [aO,Be]; rfl,zac s4 Ip,by rw [zp Ei]; exact B5,by rw [zc,zgI],?_,zoA ey nd rg⟩;rw [List.length_eraseIdx];split <;> lia
  ·rintro ys H4 D ⟨xs,ls,rfl,Be,s4,B5,Am,xr,nd,rg⟩ hD;refine⟨D,(nN rfl (.inl ⟨nO.of zc,fun tt C6=>⟨by show 3<=sizeLine; rw [bJ]; decide,fun c hc=>?_⟩⟩))⟩;have s5:=(s4.trans (zb (o:=.lst (xs.map V.int)) hD)).trans (zb (o:=.tup (xs.map V.int)) C6);refine q c tt p _ xs _ (s5.free hc) (s5.trans (zb hc)) ⟨mp,#[O],#[O],#[O],#[O],(gH.mp nd).1,fun y hy=>rg y (bS _ hy)⟩ zc ?_;rw [zp (zH zc hc)];exact zc
theorem zbH:Kf ["p","polynomial","x","total","power","number"] ["p","polynomial","x"] (zi zdu):=#[S]
theorem zjI (T:Txt K mg t) (F:Fun K "_law_value" "_law_value" zdu t.Mj fd):Kn P w K mg base CX0 1 t.Mj fd ["p","polynomial","x"] (zjp K):=by
 refine F.ok zbH #[sn] #[mt]
 ·obtain⟨p,x,a,cs,rfl,_⟩:=h;rfl
 ·obtain⟨p,x,a,cs,rfl,hS,p0,p1,x0,x1,q⟩:=h;refine zaJ ?_; intro zX;refine⟨_,#[ze,#[zm,3,zbH.nd,#[A],#[zf]],#[ze,#[zm,4,zbH.nd,#[A],#[zf]],#[ze,#[zah,bN,#[zmy,#[Id]],#[zg,5,zbH.nd,#[A]],#[ze,#[zm,3,zbH.nd,#[A],#[zh,#[zy],#[zh,#[zB],#[NE],#[zh,#[zQ],#[Pf],#[OD]]],#[AT]]],#[zl,#[zm,4,zbH.nd,#[A],#[zh,#[zy],#[zh,#[zQ],#[OD],#[GT]],#[AT]]]]]],#[Sl]]]],?_⟩;refine zg4 ?_; intro rS pQ pG;refine (nN rfl ⟨a,rfl,?_⟩);rcases hS with hS | hS
  ·refine .inl ⟨⟨_,hS⟩,zbE (K:=K) (a:=a) (xs:=cs.map V.int) (fun i σ H'=>H'=H/\∃ (nY power:Int) (nb:Option V),σ = [some #[PC],some #[Pn],some (.int x),some (.int nY),some (.int power),nb]/\0<=power/\power<=97/\lv p x nY power (cs.drop i)=lv p x 0 1 cs)
    ⟨rfl,0,1,none,rfl,#[D],#[D],rfl⟩ (fun i σ H' _ ⟨e,_⟩=>by rw [e]; exact hS) ?_ ?_⟩
   ·rintro zD zT i y σ H1 hy ⟨rfl,nY,power,nb,rfl,w0,w1,hl⟩;obtain⟨c,rfl,hc⟩:=zag hy;have m0:=bC (power*x) (show p≠0 by lia);have m1:=aR (power*x) p0;refine #[QQ];refine (nN rfl (nN rfl #[Q3]));exact⟨rfl,_,_,_,rfl,m0,#[O],(zkj hc).symm.trans hl⟩
   ·rintro σ H1 ⟨rfl,nY,power,nb,rfl,w0,w1,hl⟩;rw [aA,i5] at hl;have hl:nY=lv p x 0 1 cs:=hl;rw [zkf p0] at hl;rw [<- hl] at q;exact #[VJ]
  ·refine .inr ⟨⟨_,hS⟩,zh3 (K:=K) (a:=a) (xs:=cs.map V.int) (fun i σ H'=>H'=H/\∃ (nY power:Int) (nb:Option V),σ = [some #[PC],some #[Pn],some (.int x),some (.int nY),some (.int power),nb]/\0<=power/\power<=97/\lv p x nY power (cs.drop i)=lv p x 0 1 cs)
    ⟨rfl,0,1,none,rfl,#[D],#[D],rfl⟩ (fun i σ H' _ ⟨e,_⟩=>by rw [e]; exact hS) ?_ ?_⟩
   ·rintro zD zT i y σ H1 hy ⟨rfl,nY,power,nb,rfl,w0,w1,hl⟩;obtain⟨c,rfl,hc⟩:=zag hy;have m0:=bC (power*x) (show p≠0 by lia);have m1:=aR (power*x) p0;refine #[QQ];refine (nN rfl (nN rfl #[Q3]));exact⟨rfl,_,_,_,rfl,m0,#[O],(zkj hc).symm.trans hl⟩
   ·rintro σ H1 ⟨rfl,nY,power,nb,rfl,w0,w1,hl⟩;rw [aA,i5] at hl;have hl:nY=lv p x 0 1 cs:=hl;rw [zkf p0] at hl;rw [<- hl] at q;exact #[VJ]
theorem znO (xs:List V) (j:Nat):za7 xs none (some (j:Int))=xs.take j:=by
 unfold za7;rw [HT.KG,HT.KE,eK,eY];by_cases h:j<=xs.length
 ·rw [dU h]
 ·rw [show min j xs.length=xs.length by lia,aY (aH _),aY (show xs.length<=j by lia)]
noncomputable def zlW (K:aF):Sp:=fun vs H Q _=>∃ (a:Addr) (ds:List Int) (p k:Int),vs = [.ref a,.int p,.int k]/\nO K H a #[OL]/\ds.length<=1000/\0 < p /\
 ∀ (l:Addr) (oC:List Int) (H':Hp),H l=none->zr H H'->(oC.length<=ds.length/\∀ x∈oC,0<=x/\x < p)->H' l=some (.tup (oC.map V.int))->(∀ n:Nat,k=(n:Int)->n<=ds.length->oC.length=n)->Q #[Pm] H'
theorem zeU:Kf ["draws","p","k"] ["draws","p","k"] (zi zbc):=#[S]
theorem zeV (T:Txt K mg t) (F:Fun K "_law_polynomial" "_law_polynomial" zbc t.Ku fd):Kn P w K mg base CX0 1 t.Ku fd ["draws","p","k"] (zlW K):=by
 refine F.ok zeU #[sn] #[mt]
 ·obtain⟨a,ds,p,k,rfl,_⟩:=h;rfl
 ·obtain⟨a,ds,p,k,rfl,ha,hn,p0,q⟩:=h;refine zaJ ?_; intro zX;refine⟨_,#[zl,#[zC,#[zW,#[zai],T.KC,eR,#[ya,#[zI,(Kg.of (N':=["draw","p"]) (ix:=[none,some 1]) (zi zbc) _ rfl rfl rfl),#[zZ],#[zad,#[zay,zby,#[AT],#[zbg],#[zaA,#[GT]]]],#[pc],#[re],#[Px]]]]]],?_⟩;obtain⟨ms,FO,lms⟩:=zii ds none (some k);refine (nN rfl (nN rfl (nN rfl ⟨a,(nN rfl ⟨ha,fun z hz=>?_⟩)⟩)));rw [FO];have s4:=zb (o:=.lst #[Rc]) hz;refine⟨z,rfl,⟨_,nO.of zc⟩,zbh (K:=K) (xs:=ms.map V.int) (fs:=ms.map fun d=>V.int (d % p)) (nO.of zc) (by rw [aA,aA]) (by rw [aA]; lia) ?_ ?_⟩
  ·intro j x y R B hx hy hR;obtain⟨c,_,rfl,rfl⟩:=zij hx hy;refine gY ?_;exact (nN rfl #[PL])
  intro D hD;have Iq:(ms.map fun d=>V.int (d % p))=(ms.map (· % p)).map V.int:=by rw [cN]; rfl
  rw [Iq];refine⟨D,(nN rfl (.inl ⟨nO.of zc,fun po Ej=>?_⟩))⟩;have s5:=s4.trans (zb (o:=.lst ((ms.map (· % p)).map V.int)) hD);refine q po _ _ (s5.free Ej) (s5.trans (zb Ej)) ⟨by rw [aA]; exact lms,fun x hx=>?_⟩ zc (fun n FE hle=>?_)
  ·obtain⟨d,_,rfl⟩:=bE.mp hx;exact#[S7]
  ·have h1:=congrArg gD FO;rw [FE,znO,aU,aA,aA] at h1;rw [aA];lia
noncomputable def znP (K:aF):Sp:=fun vs H Q _=>∃ (a c tt:Addr) (ns:List Int) (at' p k:Int) (pl:List Int),vs = [.ref a,.int at',.ref c]/\nO K H a #[Cl]/\ns.length<=63/\0<=at'/\at'<=900/\zbP H c tt p k pl/\0 < p/\p<=97/\(∀ x∈pl,0<=x/\x < p)/\pl.length<=16 /\
 ∀ (l:Addr) (rw:List #[Op]) (H':Hp),H l=none->zr H H'->rw.length=pl.length->(∀ z,some z∈rw->0<=z/\z < p)->H' l=some #[Pa]->Q #[Pm] H'
theorem zqQ {a b m:Int} (h0:0<=m) (h1:m < 6) (a0:0<=a) (a1:a < 3) (b0:0<=b) (b1:b < 3):∃ z:Int,atI [V.int 0,.int 0,.int a,.int b,.int 0,.int 0] m=some (.int z)/\0<=z/\z < 3:=by
 have:m=0\/m=1\/m=2\/m=3\/m=4\/m=5:=by lia
 rcases this with e | e | e | e | e | e <;> subst e
 ·exact#[Sw]
 ·exact#[Sw]
 ·exact⟨a,rfl,a0,a1⟩
 ·exact⟨b,rfl,b0,b1⟩
 ·exact#[Sw]
 ·exact#[Sw]
theorem zpc {m:Int} (h0:0<=m) (h1:m < 6):∃ z:Int,atI [V.int 4,.int 9,.int 9,.int 9,.int 2,.int 1] m=some (.int z)/\0 < z:=by
 have:m=0\/m=1\/m=2\/m=3\/m=4\/m=5:=by lia
 rcases this with e | e | e | e | e | e <;> subst e <;> exact⟨_,rfl,#[D]⟩
theorem zpd {m:Int} (h0:0<=m) (h1:m < 2):∃ z:Int,atI [V.int 9,.int 3] m=some (.int z)/\0 < z:=by
 have:m=0\/m=1:=by lia
 rcases this with e | e <;> subst e <;> exact⟨_,rfl,#[D]⟩
theorem zrK (n:Nat):(aP n [V.non]).flatten=(aP n (none:Option Int)).map qW:=by
 induction n with
 | zero=>rfl
 | succ n ih=>rw [dB,fW,ih,dB]; rfl
noncomputable def zhF (H:Hp) (on:Addr):Prop:=∃ os:List Addr,os.length=3/\H on=some #[Tz]/\∀ o∈os,∃ ms:List Int,H o=some (.tup #[Rc])
theorem zhF.same {on:Addr} (s:zr H H') (h:zhF H on):zhF H' on:=by
 obtain⟨os,h1,h2,h3⟩:=h;exact⟨os,h1,s _ _ h2,fun o ho=>let ⟨ms,e⟩:=h3 o ho; ⟨ms,s _ _ e⟩⟩
theorem znQ {p:Int} (h:∀ z,some z∈rw->0<=z/\z < p):∀ z,some z∈rw++[none]->0<=z/\z < p:=by
 intro z hz;rcases bO.mp hz with m | m
 ·exact h z m
 ·cases bD.mp m
theorem ziS {p i:Int} (h:∀ z,some z∈rw->0<=z/\z < p) (hi:0<=i/\i < p):∀ z,some z∈rw++[some i]->0<=z/\z < p:=by
 intro z hz;rcases bO.mp hz with m | m
 ·exact h z m
 ·cases bD.mp m;exact hi
theorem ziT {p x:Int} (hp:0 < p):0<=zF p x cs/\zF p x cs < p:=⟨zce hp cs,zcf hp cs⟩
theorem zaN:Kf ["script","at","code","p","k","places","plan","ones","slips","way","row","number","which","entry"] ["script","at","code"] (zi zei):=#[S]
theorem znR (T:Txt K mg t) (F:Fun K "_law_row" "_law_row" zei t.ND fd):Kn P w K mg base CX0 3 t.ND fd ["script","at","code"] (znP K):=by
 obtain⟨rm,og,oD⟩:=T.K2;have oE:=zdN (P:=P) (w:=w) (base:=base) T og;obtain⟨xt,pK,rn⟩:=T.KA;have rq:=zeV (P:=P) (w:=w) (base:=base) T pK;obtain⟨B6,sU,wq⟩:=T.LR;have wu:=zjI (P:=P) (w:=w) (base:=base) T sU;refine F.ok zaN #[sn] #[mt]
 ·obtain⟨a,c,tt,ns,at',p,k,pl,rfl,_⟩:=h;rfl
 ·obtain⟨a,c,tt,ns,at',p,k,pl,rfl,hS,nV,a0,a1,hc,p0,p1,oT,hn,q⟩:=h;refine zaJ ?_; intro zX;refine⟨_,#[ze,#[zaO,#[GT],#[zaw,#[zj,#[zg,3,zaN.nd,#[PU]],#[zj,#[zg,4,zaN.nd,#[PU]],#[zj,#[zg,5,zaN.nd,#[A]],#[zA]]]]]],#[ze,#[zm,6,zaN.nd,#[PU],#[zq,oE,#[sK],T.KW,og.kp,oD,#[zK],#[za,#[AT],by exact #[za,#[Id],#[KM]]]]],#[ze,#[za8,7,zaN.nd,#[A],(Kg.of (N':=["j","plan","p","k"]) (ix:=[none,some 6,some 3,some 4]) (zi zei) _ rfl rfl rfl),#[zZ],#[zU,T.Ki,#[ya,#[zf]]],#[pc],#[re],(fun _ _ _ _=>#[zq,rq,#[sK],T.L3,pK.kp,rn,#[zK],#[za,#[zay,(zmB (K:=K) rfl),#[Id],#[zaA,#[zh,#[zQ],#[zf],#[AT]]],#[zbg]],#[za,#[GT],#[Sj]]]])],#[ze,#[zm,8,zaN.nd,#[A],#[zq,oE,#[sK],T.KW,og.kp,oD,#[zK],#[za,#[AT],by exact #[za,#[zh,#[zB],#[Id],#[zf]],#[KM]]]]],#[ze,#[zm,9,zaN.nd,#[A],#[Pk]],#[ze,#[zm,10,zaN.nd,#[A],#[Si]],#[ze,#[zah,bN,#[zU,T.Ki,#[ya,#[zn,#[zo],T.KD,cq,#[QT]]]],#[zg,11,zaN.nd,#[A]],#[ze,#[zm,12,zaN.nd,#[A],#[zw,#[zu],#[z9,#[zdE,#[zdE,#[za,#[zh,#[zy],#[Pw],#[zf]],by exact #[za,#[zh,#[zy],#[Pw],#[zf]],#[KM]]]]]],#[SI]]],#[ze,#[zm,13,zaN.nd,#[A],#[zq,wu,#[sK],T.Nd,sU.kp,wq,#[zK],#[za,#[NE],#[za,#[zw,#[zu],#[Rl],#[pvx,12]],#[ya,#[zw,#[za6],#[Pf],#[pvx,11]]]]]]],#[ze,#[zbj,#[zJ,#[zcv],#[zh,#[zy],#[UK],#[zw,#[zu],#[z9,#[zdE,#[zdE,#[zdE,#[Sm]]]]],#[SI]]],#[zf],(zV _)],#[zl,#[zm,13,zaN.nd,#[A],#[zh,#[zy],#[UK],#[NE]]]],#[zan]],#[ze,#[zbj,(@PW.pt _ _ _ #[zgX,#[zJ,#[zcv],#[zh,#[zy],#[UK],#[zw,#[zu],#[z9,#[KM]],#[Pk]]],#[zf],(zV _)],#[ze0,#[zJ,#[zgw],#[Pk],#[zf],(zV _)]]]),#[zl,#[zm,13,zaN.nd,#[A],#[zen]]],#[zan]],#[zl,#[zcc,#[zfu,dJ,fA,fB,#[zcx],#[U2],#[ya,#[pvx,13]]]]]]]]]],#[zl,#[zC,#[zct,#[zJ,#[zcv],#[Pk],#[zf],(zV _)],#[zh,#[zc3],#[z9,#[ya,#[zen]]],#[zn,#[zo],T.KD,cq,#[ya,#[U2]]]],#[U2]]]]]]]]]]],?_⟩;refine zqj ?_; intro Ir Ed B3 xq rS pQ pG;have pd:=bJ;refine⟨_,rfl,c,_,rfl,nS.of hc.1,rfl,_,_,rfl,_,_,rfl,_,_,rfl,rfl,?_⟩;refine (nN rfl (nN rfl (ex5 a ns at' 16 27720 ⟨rfl,hS,nV,a0,#[O],#[D],#[D],#[D],#[D],fun l ds H1 hl s1 hd qS=>?_⟩)));have B4:ds.length=16:=hd.1;refine⟨3,rfl,#[D],#[D],zaI (n:=3) (fun i ys H'=>zr H1 H'/\∃ os:List Addr,os.length=i/\ys=os.map V.ref/\∀ o∈os,∃ ms:List Int,H' o=some (.tup #[Rc])) ⟨fun _ _ e=>e,[],rfl,rfl,#[M]⟩ #[Pb] #[OC] ?_ ?_⟩
  ·rintro i xx ys H4 H5 hi ⟨s4,os,ho,rfl,xD⟩ ⟨rfl,rfl⟩;refine gY ?_;refine (nN rfl (nN rfl (nR rfl rfl ⟨.inl #[OP],(nN rfl ⟨l,(nN rfl ⟨nO.of (s4 _ _ qS),fun z hz=>?_⟩)⟩)⟩)));obtain⟨ms,FO,lms⟩:=zii ds (some (3*(0+(i:Int)))) none;rw [FO];refine (nN rfl (nN rfl (ex4 z ms p k ⟨rfl,nO.of zc,#[O],p0,fun po oC H6 Ej s6 _ h6 _=>?_⟩)));have s5:=(zb (o:=.lst #[Rc]) hz).trans s6;refine⟨zax (by rw [aA]; lia),s4.trans s5,os++[po],by rw [aO,ho]; rfl,by rw [aN]; rfl,fun o hm=>?_⟩;rcases (bO.mp hm) with hm | hm
   ·obtain⟨m2,e⟩:=xD o hm;exact⟨m2,s5 _ _ e⟩
   ·rw [bD.mp hm]; exact⟨oC,h6⟩
  ·rintro ys H4 on ⟨s4,os,ho,rfl,xD⟩ FP;have s5:=s1.trans (s4.trans (zb (o:=.lst (os.map V.ref)) FP));have Bg:zhF (nQ H4 on #[Tz]) on:=⟨os,ho,zc,fun o hm=>let ⟨ms,e⟩:=xD o hm; ⟨ms,(zb FP) _ _ e⟩⟩;generalize nQ H4 on #[Tz]=H5 at s5 Bg |-;refine (nN rfl (nN rfl (nR rfl rfl (ex5 a ns (at'+1) 20 27720 ⟨rfl,s5.seq hS,nV,#[O],#[O],#[D],#[D],#[D],#[D],fun sl es H6 hsl6 s6 he Iu=>?_⟩))));have hel:es.length=20:=he.1;have her:=he.2;have Ek:∀ m:Int,0<=m->m < 20->∃ c:Int,atI (es.map V.int) m=some (.int c):=fun m h0 h1=>ze3 h0 #[O]
   obtain⟨Iv,e16⟩:=Ek 16 #[D] #[D];obtain⟨d17,e17⟩:=Ek 17 #[D] #[D];obtain⟨d18,e18⟩:=Ek 18 #[D] #[D];obtain⟨d19,e19⟩:=Ek 19 #[D] #[D];have w0:=bC Iv (show (6:Int)≠0 by decide);have w1:=aR Iv (show (0:Int) < 6 by decide);refine (nN rfl (ex4 sl _ _ _ ⟨rfl,rfl,nO.of Iu,e16,(nR rfl rfl ⟨(by show (0:Int) < 6; decide),?_⟩)⟩));obtain⟨way,El⟩:∃ way,Iv % 6=way:=⟨_,rfl⟩;rw [El] at w0 w1;refine⟨bW _,fun ro Em=>?_⟩;have vP:sl≠ro:=zH Iu Em;have Iw:H ro=none:=#[Vw].free Em;have B7:H5 ro=none:=s6.free Em;refine (nN rfl ⟨tt,(nN rfl ⟨.inr (nS.of (((#[Vw].trans (zb Em))) _ _ hc.2)),(nN rfl ⟨by rw [aA]; lia,by rw [aA]; lia,?_⟩)⟩)⟩);rw [aA,cG];refine zaq (lo:=0) (n:=pl.length) (fun i σ H'=>∃ (rw:List #[Op]) (v11 C7 C8:Option V),σ = [some #[Pn],some (.int at'),some #[Sd],some #[PC],some (.int k),some #[Rq],some #[Pm],some (.ref on),some (.ref sl),some (.int way),some (.ref ro),v11,C7,C8] /\
    rw.length=i/\zr H5 H'/\H' ro=some #[Pa]/\H' sl=some (.lst (es.map V.int))/\∀ z,some z∈rw->0<=z/\z < p)
    ⟨[],none,none,none,by subst El; rfl,rfl,s6.trans (zb Em),zc,by rw [zp vP]; exact Iu,fun z hz=>by simp at hz⟩ ?_ ?_
   ·rintro zD zT i σ H7 hi ⟨rw,v11,C7,C8,rfl,pD,s7,An,En,vg⟩;obtain⟨di,ei⟩:=Ek (0+(i:Int)) #[O] #[O];obtain⟨x,hx⟩:∃ x,pl[i]? = some x:=⟨pl[i]'hi,#[M]⟩;obtain⟨x0,x1⟩:=oT x (aL hx);have Iy:atI #[QE] (0+(i:Int))=some (.int x):=by rw [cV]; exact zab (by rw [aD,hx]; rfl)
    have m20:=bC di (show (2:Int)≠0 by decide);have m21:=aR di (show (0:Int) < 2 by decide);have m30:=bC di (show (3:Int)≠0 by decide);have m31:=aR di (show (0:Int) < 3 by decide);obtain⟨wh,ewh,wh0,wh1⟩:=zqQ w0 w1 m20 #[O] m30 m31;refine (nN rfl (nN rfl (ex4 sl _ _ _ ⟨rfl,rfl,nO.of En,ei,(nR rfl rfl ⟨(by show (0:Int) < 2; decide),(nN rfl (nN rfl (ex4 sl _ _ _ ⟨rfl,rfl,nO.of En,ei,(nR rfl rfl ⟨(by show (0:Int) < 3; decide),by show 6<=sizeLine; lia,fun l6 uX=>?_⟩)⟩)))⟩)⟩)));refine (nN rfl (ex4 l6 _ _ _ ⟨rfl,rfl,nO.of zc,ewh,?_⟩));have s8:=s7.trans (zb (o:=.lst [.int 0,.int 0,.int (di % 2),.int (di % 3),.int 0,.int 0]) uX);have Ao:=(zb (o:=.lst [.int 0,.int 0,.int (di % 2),.int (di % 3),.int 0,.int 0]) uX) _ _ An;have Iz:=(zb (o:=.lst [.int 0,.int 0,.int (di % 2),.int (di % 3),.int 0,.int 0]) uX) _ _ En;obtain⟨H8,hH8⟩:∃ H8,H8=nQ H7 l6 (.lst [.int 0,.int 0,.int (di % 2),.int (di % 3),.int 0,.int 0]):=⟨_,rfl⟩;rw [<- hH8] at s8 Ao Iz |-;have B8:=hc.same (s5.trans s8);obtain⟨IA,o1,o2,o3⟩:=Bg.same s8;obtain⟨ow,how⟩:∃ ow,IA[wh.toNat]? = some ow:=⟨IA[wh.toNat]'#[O],#[M]⟩;obtain⟨mw,hmw⟩:=o3 ow (aL how);have IB:atI (IA.map V.ref) wh=some (.ref ow):=by
     have e:((wh.toNat:Nat):Int)=wh:=by lia
     rw [<- e];exact zab (by rw [aD,how]; rfl)
    refine (nN rfl (nN rfl (nN rfl (ex4 on _ _ _ ⟨rfl,rfl,nO.of o2,IB,(nN rfl (nN rfl (ex4 tt _ _ _ ⟨rfl,rfl,nS.of B8.2,Iy,p,x,ow,mw,rfl,.inr (nS.of hmw),p0,p1,x0,x1,?_⟩)))⟩))));obtain⟨z6,ez6,z60⟩:=zpc w0 w1;refine (nN rfl (nN rfl (ex4 sl _ _ _ ⟨rfl,rfl,nO.of Iz,ei,(nR rfl rfl ⟨#[OP],by show 6<=sizeLine; lia,fun l7 B9=>?_⟩)⟩)));have u7:=zb (o:=.lst [.int 4,.int 9,.int 9,.int 9,.int 2,.int 1]) B9;refine (nN rfl (ex4 l7 _ _ _ ⟨rfl,rfl,nO.of zc,ez6,(nR rfl rfl ⟨z60,rfl,#[Pp]⟩)⟩));have s9:=s8.trans u7;have yQ:=u7 _ _ Ao;have FQ:=u7 _ _ Iz;generalize nQ H8 l7 (.lst [.int 4,.int 9,.int 9,.int 9,.int 2,.int 1])=H9 at s9 yQ FQ |-;have t0:=bC d17 (show (2:Int)≠0 by decide);have t1:=aR d17 (show (0:Int) < 2 by decide);obtain⟨z2,ez2,z20⟩:=zpd t0 t1;refine zaR (fun _=>(nN rfl (nN rfl (ex4 sl _ _ _ ⟨rfl,rfl,nO.of FQ,ei,(nR rfl rfl ⟨#[OP],#[EQ]⟩)⟩)))) #[BT]
    all_goals
     refine (nN rfl (nN rfl (ex4 sl _ _ _ ⟨rfl,rfl,nO.of FQ,ei,(nR rfl rfl ⟨#[OP],za0,fun l8 Eo=>?_⟩)⟩)));have u8:=zb (o:=.lst [.int 9,.int 3]) Eo;have sX:=s9.trans u8;have C9:=u8 _ _ yQ;have Ep:=u8 _ _ FQ;refine (nN rfl (ex4 sl _ _ _ ⟨rfl,rfl,nO.of Ep,e17,(nR rfl rfl ⟨(by show (0:Int) < 2; decide),l8,_,_,_,rfl,rfl,nO.of zc,ez2,(nR rfl rfl ⟨z20,rfl,#[Pp]⟩)⟩)⟩)); refine zaR #[BT] #[BT]
     ·refine (nN rfl (ex4 sl _ _ _ ⟨rfl,rfl,nO.of Ep,e18,(nR rfl rfl ⟨(by show (0:Int) < 3; decide),#[ww]⟩)⟩)); refine zaR #[BT] #[BT]
      ·exact (nN rfl ⟨.inl ⟨rfl,_,nO.of C9⟩,(nN rfl (ex3 ro _ _ ⟨rfl,rfl,C9,zax (by rw [aA]; lia),rw++[none],_,_,_,rfl,by rw [aO,pD]; rfl,zac sX B7,by rw [zc,aN]; rfl,by rw [zp vP]; exact Ep,znQ vg⟩))⟩)
      ·exact (nN rfl ⟨.inl ⟨rfl,_,nO.of C9⟩,(nN rfl (ex3 ro _ _ ⟨rfl,rfl,C9,zax (by rw [aA]; lia),rw++[some _],_,_,_,rfl,by rw [aO,pD]; rfl,zac sX B7,by rw [zc,aN]; rfl,by rw [zp vP]; exact Ep,ziS vg (by first | exact#[S7] | exact ziT p0)⟩))⟩)
     ·refine zg3 ?_;exact (nN rfl ⟨.inl ⟨rfl,_,nO.of C9⟩,(nN rfl (ex3 ro _ _ ⟨rfl,rfl,C9,zax (by rw [aA]; lia),rw++[some _],_,_,_,rfl,by rw [aO,pD]; rfl,zac sX B7,by rw [zc,aN]; rfl,by rw [zp vP]; exact Ep,ziS vg (by first | exact#[S7] | exact ziT p0)⟩))⟩)
   ·rintro σ H7 ⟨rw,v11,C7,C8,rfl,pD,s7,An,En,vg⟩;refine (nN rfl (ex4 sl _ _ _ ⟨rfl,rfl,nO.of En,e19,(nR rfl rfl ⟨(by show (0:Int) < 30; decide),rfl,#[Pp]⟩)⟩));refine zaR #[BT] (fun _=>(nN rfl (q ro rw H7 Iw (s5.trans s7) pD vg An)));refine⟨by show 1<=sizeLine; lia,fun z hz=>(nN rfl ⟨ro,(nN rfl ⟨.inl (nO.of ((zb hz) _ _ An)),z,_,[.non],rfl,rfl,zc,by rw [aA]; lia,by rw [aA]; lia,by rw [aA]; show 1*_<=sizeLine; lia,fun y hy=>?_⟩)⟩)⟩;have s8:=(s5.trans s7).trans (zb (o:=.lst [.non]) hz);refine q y (aP pl.length none) _ (s8.free hy) (s8.trans (zb hy)) (by rw [bU]) (fun z hz=>by cases dG hz) ?_;rw [zc,aA,zrK,pD,cG]
theorem zcg:Kf ["p","polynomial","x","value","number"] ["p","polynomial","x"] (zi zcT):=#[S]
theorem zeL (T:Txt K mg t) (F:Fun K "value_at" "value_at" zcT t.LG fd):Kn P w K mg base CX0 1 t.LG fd ["p","polynomial","x"] (zeG K):=by
 refine F.ok zcg #[sn] #[mt]
 ·obtain⟨p,x,a,cs,rfl,_⟩:=h;rfl
 ·obtain⟨p,x,a,cs,rfl,hS,p0,p1,x0,x1,q⟩:=h;refine zaJ ?_; intro zX;refine⟨_,#[ze,#[zm,3,zcg.nd,#[A],#[zf]],#[ze,#[zah,bN,(@zqn _ _ _ _ _ _ rfl T.MD #[xL] (by rfl)),#[zg,4,zcg.nd,#[A]],#[zl,#[zm,3,zcg.nd,#[A],#[zh,#[zy],#[zh,#[zB],#[zh,#[zQ],#[NE],#[GT]],#[OD]],#[AT]]]]],#[Sl]]],?_⟩;refine zep ?_; intro pQ pG;refine (nN rfl ⟨a,cs.map V.int,rfl,?_⟩);rcases hS with hS | hS
  ·refine .inl ⟨hS,?_⟩;rw [aA];refine zbW (n:=cs.length) (fun i σ H'=>H'=H/\∃ nb,σ = [some #[PC],some #[Pn],some (.int x),some (.int (zF p x #[Os])),nb]) ⟨rfl,none,by rw [eK,i5]; rfl⟩
    (fun i σ H' hi ⟨e,_⟩=>⟨hi,cs.map V.int,by rw [e]; exact hS,by rw [aA]⟩) (fun σ H' _=>aH _) ?_ ?_
   ·rintro zD zT i y σ H1 H2 hi ⟨rfl,nb,rfl⟩ ⟨rfl,hy⟩;obtain⟨c,rfl,hc⟩:=zag (hy _ hS);have v0:=zce (x:=x) p0 #[Os];have v1:=zcf (x:=x) p0 #[Os];refine #[QP];refine⟨rfl,some (.int c),?_⟩;rw [zgJ hi hc];show _ = [some (V.int p),_,_,some (V.int ((c+x*zF p x #[Os]) % p)),_];rw [Int.add_comm c,jg x];rfl
   ·rintro σ H1 ⟨rfl,nb,rfl⟩;rw [j4,eY];exact #[VJ]
  ·refine .inr ⟨hS,?_⟩;rw [aA];refine zbW (n:=cs.length) (fun i σ H'=>H'=H/\∃ nb,σ = [some #[PC],some #[Pn],some (.int x),some (.int (zF p x #[Os])),nb]) ⟨rfl,none,by rw [eK,i5]; rfl⟩
    (fun i σ H' hi ⟨e,_⟩=>⟨hi,cs.map V.int,by rw [e]; exact hS,by rw [aA]⟩) (fun σ H' _=>aH _) ?_ ?_
   ·rintro zD zT i y σ H1 H2 hi ⟨rfl,nb,rfl⟩ ⟨rfl,hy⟩;obtain⟨c,rfl,hc⟩:=zag (hy _ hS);have v0:=zce (x:=x) p0 #[Os];have v1:=zcf (x:=x) p0 #[Os];refine #[QP];refine⟨rfl,some (.int c),?_⟩;rw [zgJ hi hc];show _ = [some (V.int p),_,_,some (V.int ((c+x*zF p x #[Os]) % p)),_];rw [Int.add_comm c,jg x];rfl
   ·rintro σ H1 ⟨rfl,nb,rfl⟩;rw [j4,eY];exact #[VJ]
theorem zbs:Kf ["p","number","product","square","left"] ["p","number"] (zi zdr):=#[S]
theorem zfY (T:Txt K mg t) (F:Fun K "inverse" "inverse" zdr t.inverse fd):Kn P w K mg base CX0 1 t.inverse fd ["p","number"] (zjq K):=by
 refine F.ok zbs #[sn] #[mt]
 ·obtain⟨p,h,rfl,_⟩:=h;rfl
 ·obtain⟨p,hh,rfl,mp,h0,h1,q⟩:=h;refine zaJ ?_; intro zX;refine⟨_,#[ze,#[zm,2,zbs.nd,#[A],#[zf]],#[ze,#[zm,3,zbs.nd,#[A],#[zh,#[zy],#[Id],#[AT]]],#[ze,#[zm,4,zbs.nd,#[A],#[zh,#[zam],#[AT],#[zf]]],#[ze,#[zfm,bN,#[zJ,#[zgw],#[OD],#[zf],(zV _)],#[ze,#[zbj,#[zJ,#[zcv],#[zh,#[zy],#[OD],#[zf]],#[zf],(zV _)],#[zl,#[zm,2,zbs.nd,#[A],#[zh,#[zy],#[zh,#[zQ],#[GT],#[NE]],#[AT]]]],#[zan]],#[ze,#[zm,3,zbs.nd,#[A],#[zh,#[zy],#[zh,#[zQ],#[NE],#[NE]],#[AT]]],#[zl,#[zjc,4,zbs.nd,#[A],#[zf],zml]]]]],#[zl,#[zC,#[GT]]]]]]],?_⟩;refine zmu ?_; intro xq rS pQ pG;have rp:=zO mp;have e0:=bC hh (show p≠0 by lia);have e1:=aR hh (show 0 < p by lia);refine (nN rfl (nN rfl (nR rfl rfl ⟨(by show 0 < p; lia),(nN rfl #[IR])⟩)));refine zmj (fun σ H'=>H'=H/\∃ (prod sq left:Int) (n:Nat),σ = [some #[PC],some (.int hh),some (.int prod),some (.int sq),some (.int left)]/\0<=prod/\prod < p/\0<=sq/\sq < p/\0<=left/\left < 2 ^ n/\zdi p n prod sq left=inv p hh) (fun σ _=>zqq σ)
   ⟨rfl,1,hh % p,p - 2,7,rfl,#[O],#[O],e0,e1,#[O],#[O],rfl⟩ ?_ ?_
  ·rintro σ H1 ⟨rfl,prod,sq,left,n,rfl,b0,b1,s0,s1,l0,l1,hi⟩;refine #[Po];refine zaR (fun hl=>?_) (fun hl=>?_)
   ·have hl:0 < left:=by simpa using hl
    obtain⟨m,rfl⟩:∃ m,n=m+1:=by
     cases n with
     | zero=>lia
     | succ m=>exact⟨m,rfl⟩
    rw [zhe hl l1] at hi;have l2:left / 2 < 2 ^ m:=by
     have:(2:Int) ^ (m+1)=2 ^ m*2:=fw ..;lia
    have m0:=bC (prod*sq) (show p≠0 by lia);have m1:=aR (prod*sq) (show 0 < p by lia);have n0:=bC (sq*sq) (show p≠0 by lia);have n1:=aR (sq*sq) (show 0 < p by lia);refine (nN rfl (nR rfl rfl ⟨(by show (0:Int) < 2; decide),rfl,#[Pp]⟩)); refine zaR (fun ho=>?_) (fun ho=>?_)
    ·have ho:left % 2=1:=by simpa using ho
     rw [if_pos ho] at hi;refine (nN rfl (nN rfl (nR rfl rfl ⟨.inl #[v6],(nN rfl (nR rfl rfl ⟨(by show 0 < p; lia),?_⟩))⟩)));refine (nN rfl (nN rfl (nR rfl rfl ⟨.inl #[v6],(nN rfl (nR rfl rfl ⟨(by show 0 < p; lia),?_⟩))⟩)));refine (nN rfl (nR rfl rfl ⟨#[OP],⟨rfl,_,_,_,m,rfl,m0,m1,n0,n1,#[O],l2,hi⟩,?_⟩));show (left / 2).toNat < left.toNat;lia
    ·have ho:¬ left % 2=1:=by simpa using ho
     rw [if_neg ho] at hi;refine (nN rfl (nN rfl (nR rfl rfl ⟨.inl #[v6],(nN rfl (nR rfl rfl ⟨(by show 0 < p; lia),?_⟩))⟩)));refine (nN rfl (nR rfl rfl ⟨#[OP],⟨rfl,_,_,_,m,rfl,b0,b1,n0,n1,#[O],l2,hi⟩,?_⟩));show (left / 2).toNat < left.toNat;lia
   ·have hl:¬ 0 < left:=by simpa using hl
    have el:left=0:=by lia
    subst el;rw [zif] at hi;rw [<- hi] at q;exact #[VJ]
  ·rintro σ H1 Q1 Q2 hq ⟨v,e,i,j,e1,e2,k,e3,q⟩;exact⟨v,e,i,j,e1,e2,k,e3,hq _ _ q⟩
noncomputable def zfZ (K:aF):Sp:=fun vs H Q _=>∃ (p r:Int) (a:Addr) (cs:List Int),vs = [.int p,.ref a,.int r]/\H a=some (.lst #[QG])/\cs.length<=1000/\0 < p/\-97<=r/\r<=97 /\
 ∀ (l:Addr) (H':Hp),H l=none->zr H H'->H' l=some (.lst ((zcA p r cs).map V.int))->Q #[Pm] H'
theorem zcs:Kf ["p","polynomial","root","raised","kept"] ["p","polynomial","root"] (zi zbB):=#[S]
theorem zdH (T:Txt K mg t) (F:Fun K "times_root" "times_root" zbB t.K5 fd):Kn P w K mg base CX0 1 t.K5 fd ["p","polynomial","root"] (zfZ K):=by
 refine F.ok zcs #[sn] #[mt]
 ·obtain⟨p,r,a,cs,rfl,_⟩:=h;rfl
 ·obtain⟨p,r,a,cs,rfl,ha,nV,p0,r0,r1,q⟩:=h;refine zaJ ?_; intro zX;refine⟨_,#[ze,#[zm,3,zcs.nd,#[A],#[zh,#[zcJ],#[OJ],#[Id]]],#[ze,#[zm,4,zcs.nd,#[A],#[zh,#[zcJ],#[Id],#[OJ]]],#[zl,#[zC,#[zI,(Kg.of (N':=["high","low","root","p"]) (ix:=[none,none,some 2,some 0]) (zi zbB) _ rfl rfl rfl),#[wv],#[zdT,T.Nu,#[za,#[NE],#[RS]]],#[or],#[re],#[UV]]]]]],?_⟩;refine zep ?_; intro pQ pG;have pd:=bJ;refine⟨by show 1<=sizeLine; lia,fun z hz=>(nN rfl (ex4 z a ([.int 0]) #[QG] ⟨rfl,rfl,zc,by rw [zp (zH ha hz)]; exact ha,by rw [aA]; show 1+cs.length<=sizeLine; lia,fun ra qT=>?_⟩))⟩;have s1:zr H (nQ (nQ H z (.lst [.int 0])) ra (.lst ([.int 0]++cs.map V.int))):=(zb hz).trans (zb qT);refine (nN rfl ⟨by show 1<=sizeLine; lia,fun z2 xm=>(ex4 a z2 #[QG] ([.int 0]) ⟨rfl,rfl,by rw [zp (zH #[Qd] xm)]; exact s1 _ _ ha,zc,by rw [aA]; show cs.length+1<=sizeLine; lia,fun ke hke=>?_⟩)⟩);have s2:=s1.trans ((zb (o:=.lst [.int 0]) xm).trans (zb (o:=.lst (cs.map V.int++[.int 0])) hke));have xY:nQ (nQ (nQ (nQ H z (.lst [.int 0])) ra (.lst ([.int 0]++cs.map V.int))) z2 (.lst [.int 0])) ke (.lst (cs.map V.int++[.int 0])) ra=some (.lst ((0 :: cs).map V.int)) :=
   ((zb (o:=.lst [.int 0]) xm).trans (zb (o:=.lst (cs.map V.int++[.int 0])) hke)) _ _ zc
  have xZ:nQ (nQ (nQ (nQ H z (.lst [.int 0])) ra (.lst ([.int 0]++cs.map V.int))) z2 (.lst [.int 0])) ke (.lst (cs.map V.int++[.int 0])) ke=some (.lst ((cs++[0]).map V.int)):=by rw [zc,aN]; rfl
  generalize nQ (nQ (nQ (nQ H z (.lst [.int 0])) ra (.lst ([.int 0]++cs.map V.int))) z2 (.lst [.int 0])) ke (.lst (cs.map V.int++[.int 0]))=H2 at s2 xY xZ |-;refine (nN rfl (nN rfl (ex4 ra ke _ _ ⟨rfl,nO.of xY,nO.of xZ,zaI (n:=cs.length+1) (fun i ys H'=>ys=((zcA p r cs).take i).map V.int/\zr H2 H') ⟨#[M],fun _ _ e=>e⟩ ?_ ?_ ?_ ?_⟩)))
  ·rintro i ys H3 hi ⟨_,s3⟩;obtain⟨x,hx⟩:∃ x,(0 :: cs)[i]? = some x:=⟨(0 :: cs)[i]'(by simpa using hi),#[M]⟩;obtain⟨y,hy⟩:∃ y,(cs++[0])[i]? = some y:=⟨(cs++[0])[i]'(by simpa using hi),#[M]⟩;exact⟨_,_,.int x,.int y,nO.of (s3 _ _ xY),nO.of (s3 _ _ xZ),by rw [aD,hx]; rfl,by rw [aD,hy]; rfl⟩
  ·rintro ys H3 ⟨_,s3⟩;exact⟨_,_,nO.of (s3 _ _ xY),nO.of (s3 _ _ xZ),.inl #[M]⟩
  ·rintro i x ys H3 H4 hi ⟨rfl,s3⟩ ⟨T,u,v,hT,rfl,rfl,hu,hv⟩;obtain⟨x,rfl,hx⟩:=zag (hu _ (nO.of (s3 _ _ xY)));obtain⟨y,rfl,hy⟩:=zag (hv _ (nO.of (s3 _ _ xZ)));refine gY2 #[SJ] ?_;refine (nN rfl (nN rfl (nN rfl (nR rfl rfl ⟨.inl #[v6],(nR rfl rfl (nN rfl (nR rfl rfl ⟨p0,zax ?_,?_,s3.trans (zb hT)⟩)))⟩))))
   ·rw [aA];exact bX (g7 _ _) #[O]
   ·show _=(List.take (i+1) (cn (trF p r) (0 :: cs) (cs++[0]))).map V.int;rw [zig hx hy,aN];rfl
  ·rintro ys H3 D ⟨rfl,s3⟩ hD;refine q D _ ((s2.trans s3).free hD) ((s2.trans s3).trans (zb hD)) ?_;rw [zc,aY (by rw [zdj]; exact aH _)]
theorem znS {p f:Int}:∀ (cs vs:List Int),vs.length<=cs.length->ad p f cs vs=cn (fun number other=>(number+f*other) % p) cs vs++cs.drop vs.length
 | [],[],_=>rfl
 | _ :: _,[],_=>rfl
 | [],_ :: _,h=>by simp at h
 | c :: cs,v :: vs,h=>by
  show (c+f*v) % p :: ad p f cs vs=(c+f*v) % p :: (cn _ cs vs++cs.drop vs.length);rw [znS cs vs (by simpa using h)]
theorem znT {xs:List V} (h:k<=xs.length):za7 xs (some (k:Int)) none=xs.drop k:=by
 have e1:HT.sIx xs.length 0 (some (k:Int))=k:=by
  unfold HT.sIx;simp;split <;> lia
 have e2:HT.sIx xs.length xs.length none=xs.length:=rfl;unfold za7;rw [e1,e2];exact aY (by rw [cP]; exact aH _)
noncomputable def zpe (K:aF):Sp:=fun vs H Q _=>∃ (p x y:Int) (c v b:Addr) (cs ws:List Int),vs = [.int p,.ref c,.ref v,.ref b]/\H c=some (.lst #[QG])/\H v=some (.lst (ws.map V.int))/\H b=some (.tup [.int x,.int y])/\p∈zG/\0<=x/\x < p/\0<=y/\y < 10000/\0 < zF p x ws/\zF p x ws < p/\ws.length<=cs.length/\cs.length<=1000 /\
 ∀ (l:Addr) (H':Hp),H l=none->zr H H'->H' l=some (.lst ((ad p (#[TH]*inv p (zF p x ws) % p) cs ws).map V.int))->Q #[Pm] H'
theorem zdw:Kf ["p","polynomial","vanishing","point","x","y","missing","factor","added"] ["p","polynomial","vanishing","point"] (zi zfW):=#[S]
theorem zpf (T:Txt K mg t) (F:Fun K "bent" "bent" zfW t.NZ fd):Kn P w K mg base CX0 2 t.NZ fd ["p","polynomial","vanishing","point"] (zpe K):=by
 obtain⟨uj,oF,ph⟩:=T.K8;have pj:=zeL (P:=P) (w:=w) (base:=base) T oF;obtain⟨vh,o6,qz⟩:=T.Lm;have qA:=zfY (P:=P) (w:=w) (base:=base) T o6;refine F.ok zdw #[sn] #[mt]
 ·obtain⟨p,x,y,c,v,b,cs,ws,rfl,_⟩:=h;rfl
 ·obtain⟨p,x,y,c,v,b,cs,ws,rfl,hc,hv,hb,mp,x0,x1,y0,y1,g0,g1,hle,nV,q⟩:=h;refine zaJ ?_; intro zX;refine⟨_,#[ze,#[zaO,#[NE],#[zaw,#[zj,#[zg,4,zdw.nd,#[A]],#[zj,#[zg,5,zdw.nd,#[A]],#[zA]]]]],#[ze,#[zm,6,zdw.nd,#[A],#[zh,#[zam],#[Pf],#[zq,pj,#[sK],T.Lq,oF.kp,ph,#[zK],#[za,#[AT],#[za,#[Id],#[RS]]]]]],#[ze,#[zm,7,zdw.nd,#[PU],#[zh,#[zy],#[zh,#[zQ],#[R8],#[zq,qA,#[sK],T.MJ,o6.kp,qz,#[zK],#[za,#[AT],#[ya,#[zq,pj,#[sK],T.Lq,oF.kp,ph,#[zK],#[za,#[AT],#[za,#[GT],#[RS]]]]]]]],#[AT]]],#[ze,#[za8,8,zdw.nd,#[A],(Kg.of (N':=["number","other","factor","p"]) (ix:=[none,none,some 7,some 0]) (zi zfW) _ rfl rfl rfl),#[wv],#[zdT,T.Nu,#[za,#[Id],#[OX]]],#[or],#[re],#[Vm]],#[zl,#[zC,#[zh,#[zcJ],#[RH],#[zay,zby,#[Id],#[zaA,#[zn,#[zo],T.KD,cq,#[Vs]]],#[zbg]]]]]]]]],?_⟩;refine zmu ?_; intro xq rS pQ pG;have pd:=bJ;have rp:=zO mp;have p0:0 < p:=by lia
  have v0:=zce (x:=x) p0 cs;have v1:=zcf (x:=x) p0 cs;refine⟨_,rfl,b,_,rfl,nS.of hb,rfl,_,_,rfl,_,_,rfl,rfl,?_⟩;refine (nN rfl (nN rfl (nN rfl (nN rfl (ex4 p x c cs ⟨rfl,.inl (nO.of hc),p0,#[O],x0,x1,#[IR]⟩)))));refine (nN rfl (nN rfl (nN rfl (nN rfl (nN rfl (ex4 p x v ws ⟨rfl,.inl (nO.of hv),p0,#[O],x0,x1,p,(nN rfl ⟨mp,#[O],#[O],#[Q3]⟩)⟩))))));have f0:=bC (#[TH]*inv p (zF p x ws)) (show p≠0 by lia);have f1:=aR (#[TH]*inv p (zF p x ws)) p0;refine (nN rfl (nN rfl (ex4 c v _ _ ⟨rfl,nO.of hc,nO.of hv,zes (n:=ws.length) (f:=fun number other=>(number+(#[TH]*inv p (zF p x ws) % p)*other) % p) hc hv hle (aH _) (.inr (aH _)) #[O] ?_ ?_⟩)))
  ·intro j u w H6 T R B hu hv s6 hT hR;refine gY2 #[SJ] ?_;exact #[QR]
  ·intro D H6 s6 hD;obtain⟨f,hf⟩:∃ f,(y - zF p x cs)*inv p (zF p x ws) % p=f:=⟨_,rfl⟩;rw [hf] at q |-;have lz:(cn (fun number other=>(number+f*other) % p) cs ws).length=ws.length:=by rw [gZ]; lia
   have s7:=s6.trans (zb (o:=.lst ((cn (fun number other=>(number+f*other) % p) cs ws).map V.int)) hD);have Ap:nQ H6 D (.lst ((cn (fun number other=>(number+f*other) % p) cs ws).map V.int)) D=some (.lst ((cn (fun number other=>(number+f*other) % p) cs ws).map V.int)):=zc;generalize nQ H6 D (.lst ((cn (fun number other=>(number+f*other) % p) cs ws).map V.int))=H7 at s7 Ap |-;have Ca:=s7 _ _ hc;refine (nN rfl (nN rfl (nN rfl ⟨D,(nN rfl ⟨.inl (nO.of Ap),?_⟩)⟩)));refine (nN rfl ⟨c,(nN rfl ⟨nO.of Ca,fun z hz=>?_⟩)⟩);have ec:za7 #[QG] (some ((((cn (fun number other=>(number+f*other) % p) cs ws).map V.int).length:Nat):Int)) none=(cs.drop ws.length).map V.int:=by
    rw [aA,lz,znT (by rw [aA]; exact hle),gi]
   rw [ec];have s8:=zb (o:=.lst ((cs.drop ws.length).map V.int)) hz;refine (ex4 D z _ _ ⟨rfl,rfl,s8 _ _ Ap,zc,by rw [aA,aA,lz,cP]; lia,fun l hl=>q l _ (((s7.trans s8).free hl)) ((s7.trans s8).trans (zb hl)) ?_⟩);rw [zc,znS cs ws hle,aN]
theorem zbt:Kf ["p","points","polynomial","vanishing","x","y"] ["p","points"] (zi zds):=#[S]
theorem zjJ (T:Txt K mg t) (F:Fun K "through" "through" zds t.through fd):Kn P w K mg base CX0 3 t.through fd ["p","points"] (ziK K):=by
 obtain⟨FR,yb,Cb⟩:=T.Np;have Cc:=zpf (P:=P) (w:=w) (base:=base) T yb;obtain⟨si,oA,pq⟩:=T.Kw;have pv:=zdH (P:=P) (w:=w) (base:=base) T oA;refine F.ok zbt #[sn] #[mt]
 ·obtain⟨p,a,nW,rfl,_⟩:=h;rfl
 ·obtain⟨p,a,nW,rfl,hP,nV,mp,hp,hyr,q⟩:=h;refine zaJ ?_; intro zX;refine⟨_,#[ze,#[zm,2,zbt.nd,#[A],#[zh,#[zc3],#[OJ],#[IN]]],#[ze,#[zm,3,zbt.nd,#[A],#[OJ]],#[ze,#[zah,bN,#[VS],#[zaw,#[zj,#[zg,4,zbt.nd,#[A]],#[zj,#[zg,5,zbt.nd,#[A]],#[zA]]]],#[ze,#[zm,2,zbt.nd,#[A],#[zq,Cc,#[sK],T.NR,yb.kp,Cb,#[zK],#[za,#[AT],by exact #[za,#[GT],#[za,#[NE],#[ya,#[zap,#[za,#[OD],#[QT]]]]]]]]],#[zl,#[zm,3,zbt.nd,#[A],#[zq,pv,#[sK],T.LB,oA.kp,pq,#[zK],#[za,#[AT],#[za,#[NE],#[RS]]]]]]]],#[zl,#[zC,#[zW,#[zai],T.KC,eR,#[OX]]]]]]],?_⟩;refine zg4 ?_; intro rS pQ pG;have pd:=bJ;have rp:=zO mp;have p0:0 < p:=by lia
  obtain⟨bs,hS,uk,hb⟩:=id hP;refine⟨by show 1<=sizeLine; lia,fun z hz=>(nN rfl ⟨a,(nN rfl ⟨.inl ((zb hz).seq hS),z,_,[.int 0],rfl,rfl,zc,by rw [aA]; lia,by rw [aA]; lia,by rw [aA]; show 1*_<=sizeLine; lia,fun c hc=>?_⟩)⟩)⟩;have s0:=zb (o:=.lst [.int 0]) hz;have hcH:H c=none:=s0.free hc;refine⟨by show 1<=sizeLine; lia,fun v hv=>?_⟩;have hcv:c≠v:=zH zc hv;rw [aA,zih,uk,cG] at hv |-;have s2:zr H (nQ (nQ (nQ H z (.lst [.int 0])) c (.lst ((aP nW.length 0).map V.int))) v (.lst [.int 1])):=(s0.trans (zb hc)).trans (zb hv);refine⟨_,rfl,a,rfl,⟨_,s2.seq hS⟩,zbE (K:=K) (a:=a) (xs:=bs.map V.ref) (fun i σ H'=>∃ (c v:Addr) (s:List Int×List Int) (e4 e5:Option V),σ = [some #[PC],some #[Pn],some #[Sd],some (.ref v),e4,e5] /\
   s=#[Uh].foldl (zc7 p) (aP nW.length 0,[1])/\Nw p nW.length (#[Uh].map (md p)) s/\zr H H'/\H' c=some (.lst (s.1.map V.int))/\H' v=some (.lst (s.2.map V.int)))
   ⟨c,v,_,none,none,rfl,rfl,by rw [gN]; exact zie mp _,s2,by rw [zp hcv]; exact zc,zc⟩ (fun i σ H' _ ⟨_,_,_,_,_,_,_,_,s3,_⟩=>s3.seq hS) ?_ ?_⟩
  ·rintro zD zT i y σ H1 hy ⟨c,v,s,e4,e5,rfl,hs,nw,s1,tJ,IC⟩;obtain⟨b,rfl,um⟩:=zN hy;obtain⟨hi,_⟩:=aW.mp um;obtain⟨⟨x,y⟩,hq⟩:∃ q,nW[i]? = some q:=⟨nW[i]'#[O],#[M]⟩;have hbq:=s1 _ _ (hb i b _ um hq);have yG:=zfC hq;have rZ:=hp;rw [yG,aN,bV] at rZ;have FT:=rZ.apart;obtain⟨x0,x1,m0,m1⟩:=hp.rg _ (bE.mpr ⟨_,aL hq,rfl⟩);obtain⟨y0,y1⟩:=hyr _ (aL hq);dsimp only [md] at x0 x1 m0 m1 y0 y1;have hil:i < nW.length:=by lia
   have qJ:#[Uh].length=i:=by rw [aU]; lia
   have ID:=zki mp nw (q:=md p (x,y)) (by rw [aA,qJ]; exact hil) x0 x1 m0 m1 FT;rw [ziJ] at ID;obtain⟨FU,C3⟩:=zkh mp nw (q:=(x,y)) x0 x1 (fun a ha=>⟨(FT a ha).1,(FT a ha).2.1,(FT a ha).2.2.1⟩);dsimp only at FU C3;have qp:zc7 p s (x,y)=(ad p ((y - zF p x s.1)*inv p (zF p x s.2) % p) s.1 s.2,zcA p x s.2):=rfl;rw [qp] at ID;have l1:=nw.lc;have l2:=nw.lv;rw [aA,qJ] at l2;refine⟨b,_,rfl,nS.of hbq,rfl,_,_,rfl,_,_,rfl,rfl,?_⟩;refine (nN rfl (nN rfl (nN rfl (nN rfl (nN rfl ⟨by show 2<=sizeLine; lia,fun tt ht=>?_⟩)))));have t1:=zb (o:=.tup [.int x,.int y]) ht;refine (ex8 p x y c v tt s.1 s.2 ⟨rfl,t1 _ _ tJ,t1 _ _ IC,zc,mp,x0,x1,y0,y1,FU,C3,#[O],#[O],fun l H3 hl s3 C'=>?_⟩);have s4:=t1.trans s3;refine (nN rfl (nN rfl (nN rfl (ex4 p x v s.2 ⟨rfl,s4 _ _ IC,#[O],p0,#[O],#[O],fun l2 H4 qg s5 h4l=>?_⟩))));refine (ex5 l l2 (zc7 p s (x,y)) _ _ ⟨rfl,?_,?_,(s1.trans s4).trans s5,?_,?_⟩)
   ·rw [take_snoc hq,List.foldl_append,<- hs];rfl
   ·rw [take_snoc hq,qp,aN];exact ID
   ·rw [qp];exact s5 _ _ C'
   ·rw [qp];exact h4l
  ·rintro σ H1 ⟨c,v,s,e4,e5,rfl,hs,nw,s1,tJ,IC⟩;rw [aA,uk,dL] at hs;refine (nN rfl ⟨c,(nN rfl (.inl ⟨nO.of tJ,fun l hl=>q l _ (s1.free hl) (s1.trans (zb hl)) ?_⟩))⟩);rw [zc,hs,zqL];rfl
theorem zbr:Kf ["code","row","p","k","places"] ["code","row"] (zi zbb):=#[S]
theorem zbQ (T:Txt K mg t) (F:Fun K "heard_points" "heard_points" zbb t.Kv fd):Kn P w K mg base CX0 1 t.Kv fd ["code","row"] (zoY K):=by
 refine F.ok zbr #[sn] #[mt]
 ·obtain⟨c,tt,r,p,k,pl,rw,rfl,_⟩:=h;rfl
 ·obtain⟨c,tt,r,p,k,pl,rw,rfl,hc,oX,hn,q⟩:=h;refine zaJ ?_; intro zX;refine⟨_,#[ze,#[zaO,#[AT],#[zaw,#[zj,#[zg,2,zbr.nd,#[A]],#[zj,#[zg,3,zbr.nd,#[A]],#[zj,#[zg,4,zbr.nd,#[A]],#[zA]]]]]],#[zl,#[zC,#[zI,(Kg.of (N':=["place","entry"]) (ix:=[none,none]) (zi zbb) _ rfl rfl rfl),#[wv],(@zio _ _ _ _ _ _ _ _ _ rfl T.Nu #[za,#[OD],#[xL]] (by rfl) (by rfl)),#[or],#[UM],(fun _ _ _ _=>#[zap,#[PZ]])]]]],?_⟩;refine zlc ?_; intro pG;have pd:=bJ;have hl:=oX.len;refine⟨_,rfl,c,_,rfl,nS.of hc.1,rfl,_,_,rfl,_,_,rfl,_,_,rfl,rfl,?_⟩;refine (nN rfl (nN rfl (ex4 tt r _ _ ⟨rfl,nS.of hc.2,oX.at',zaI (n:=pl.length) (fun i ys H'=>zr H H'/\∃ us:List Addr,ys=us.map V.ref/\PtB H' us (oz #[Ug] (rw.take i))) ⟨fun _ _ e=>e,[],rfl,.nil⟩ ?_ ?_ ?_ ?_⟩)))
  ·rintro i ys H3 hi ⟨s3,_⟩;obtain⟨o,ho⟩:∃ o,rw[i]? = some o:=⟨rw[i]'#[O],#[M]⟩;exact⟨_,_,.int pl[i],qW o,nS.of (s3 _ _ hc.2),s3.seq oX.at',by rw [aD,aG hi]; rfl,by rw [aD,ho]; rfl⟩
  ·rintro ys H3 ⟨s3,_⟩;exact⟨_,_,nS.of (s3 _ _ hc.2),s3.seq oX.at',.inl (by rw [aA])⟩
  ·rintro i xx ys H3 H4 hi ⟨s3,us,rfl,n4⟩ ⟨T,u,v,hT,rfl,rfl,hu,hv⟩;obtain⟨x,rfl,hx⟩:=zag (hu _ (nS.of (s3 _ _ hc.2)));obtain⟨o,rfl,ho⟩:=zhh (hv _ (s3.seq oX.at'));have v4:=zb (o:=.tup [.int x,qW o]) hT;have s4:=s3.trans v4;have hs:=zd4 hx ho;have uo:=n4.length;have hb:=zbX #[Ug] (rw.take i);rw [aU] at hb;refine#[Db];refine (nN rfl #[RT]);cases o with
   | none =>
    refine zg3 ⟨s4,us,rfl,?_⟩;rw [hs,cZ];exact n4.same v4
   | some z =>
    refine zlb (nN rfl (nN rfl ⟨by show 2<=sizeLine; lia,fun T2 vi=>⟨by rw [aA]; lia,s4.trans (zb vi),us++[T2],by rw [aN]; rfl,?_⟩⟩));rw [hs];exact cL (n4.same (v4.trans (zb vi))) zc
  ·rintro ys H3 D ⟨s3,us,rfl,n4⟩ hD;rw [dL,aY #[O]] at n4;exact q D us _ (s3.free hD) (s3.trans (zb hD)) zc #[O6]
theorem zjK:Kf ["p","vector","times","other"] ["p","vector","times","other"] (zi zcF):=#[S]
theorem zjL (T:Txt K mg t) (F:Fun K "without" "without" zcF t.without fd):Kn P w K mg base CX0 1 t.without fd ["p","vector","times","other"] (zjC K):=by
 refine F.ok zjK #[sn] #[mt]
 ·obtain⟨p,tm,a,b,as,bs,rfl,_⟩:=h;rfl
 ·obtain⟨p,tm,a,b,as,bs,rfl,ha,hb,hl,hn,p0,t0,t1,q⟩:=h;refine zaJ ?_; intro zX;refine⟨_,#[zl,#[zC,#[zI,(Kg.of (N':=["number","less","times","p"]) (ix:=[none,none,some 2,some 0]) (zi zcF) _ rfl rfl rfl),#[wv],#[zdT,T.Nu,#[za,#[Id],#[Sj]]],#[or],#[re],#[UV]]]],?_⟩;have pd:=bJ;refine (nN rfl (nN rfl (ex4 a b _ _ ⟨rfl,nO.of ha,nO.of hb,zes (n:=as.length) (f:=fun x y=>(x - tm*y) % p) ha hb (aH _) #[O] (.inl (aH _)) #[O] ?_ ?_⟩)))
  ·intro j u w H6 T R B hu hv s6 hT hR;refine gY2 #[SJ] ?_;exact #[QR]
  ·intro D H6 s6 hD;exact q D _ (s6.free hD) (s6.trans (zb hD)) zc
noncomputable def zci (p:Int) (L:Nat) (vv:List #[wp]):Prop:=∀ v∈vv,v.length=L/\∀ c∈v,0<=c/\c < p
theorem zci.snoc {p:Int} {v:List Int} (h:zci p L vv) (h1:v.length=L) (h2:∀ c∈v,0<=c/\c < p):zci p L (vv++[v]):=fun x hx=>by
 rcases (bO.mp hx) with hx | hx
 ·exact h x hx
 ·rw [bD.mp hx];exact⟨h1,h2⟩
structure NU (p:Int) (L N m:Nat) (cl:List (Nat×List Int)):Prop where
 ln:cl.length=m
 one:∀ (j:Nat) (a:Nat×List Int),cl[j]? = some a->a.1 < L/\a.2.length=L+N/\gl a.2 a.1=1/\∀ i,j < i->i < N->gl a.2 (L+i)=0
 up:∀ (j j':Nat) (a a':Nat×List Int),cl[j]? = some a->cl[j']? = some a'->j < j'->gl a'.2 a.1=0
structure WhW (p:Int) (L N m:Nat) (cl:List (Nat×List Int)) (w:List Int):Prop where
 ln:w.length=L+N
 rg:∀ c∈w,0<=c/\c < p
 top:gl w (L+m)=1
 up:∀ j,m < j->j < N->gl w (L+j)=0
 z:∀ a∈cl,gl w a.1=0
theorem zlX {p:Int} (hp:1 < p) {m:Nat} {v:List Int} (hm:m < N) (hl:v.length=L) (hr:∀ c∈v,0<=c/\c < p):WhW p L N m [] ((v++aP N 0).set (L+m) 1):=by
 refine⟨by rw [fS,aO,bU,hl],fun c hc=>?_,zba (by
  rw [gC (by rw [aO,bU]; lia)]),fun j h1 h2=>zba (by
  rw [fY #[O],c8 #[O],dI];rw [if_pos #[O]]),fun a ha=>by cases ha⟩
 rcases fe hc with h | rfl
 ·rcases (bO.mp h) with h | h
  ·exact hr c h
  ·rw [dG h]; lia
 ·lia
theorem znU {p:Int} (hp:1 < p) {m i:Nat} {w:List Int} {a:Nat×List Int} (E:NU p L N m cl) (hm:m < N) (ha:cl[i]? = some a) (W:WhW p L N m (cl.take i) w) :
  WhW p L N m (cl.take (i+1)) (cn (fun x y=>(x - gl w a.1*y) % p) w a.2):=by
 obtain⟨a1,a2,a5,a6⟩:=E.one i a ha;have him:i < m:=by rw [<- E.ln]; exact (aW.mp ha).1
 have hg:∀ y,y < L+N->gl (cn (fun x y=>(x - gl w a.1*y) % p) w a.2) y=(gl w y - gl w a.1*gl a.2 y) % p:=fun y hy=>zqJ (by rw [W.ln]; exact hy) #[O]
 refine⟨by rw [gZ,W.ln,a2,Nat.min_self],fun c hc=>?_,?_,fun j h1 h2=>?_,fun b hb=>?_⟩
 ·obtain⟨x,y,rfl⟩:=zfx hc;exact#[Pi]
 ·rw [hg _ #[O],W.top,a6 m him hm,fq,Int.sub_zero];exact dN #[O] #[O]
 ·rw [hg _ #[O],W.up j h1 h2,a6 j #[O] h2,fq];rfl
 ·rw [take_snoc ha] at hb;rcases (bO.mp hb) with hb | hb
  ·obtain⟨j,hj⟩:=lh hb;have Al:j < i:=by
    have:=(aW.mp hj).1;rw [aU] at this;lia
   have qu:cl[j]? = some b:=by rw [df Al] at hj; exact hj
   have ql:=(E.one j b qu).1;rw [hg _ #[O],W.z b hb,E.up j i b a qu ha Al,fq];rfl
  ·rw [bD.mp hb,hg _ #[O],a5,mE,Int.sub_self];rfl
theorem zlY {p:Int} (hp:p∈zG) {m:Nat} {w:List Int} {ld:Nat} (E:NU p L N m cl) (W:WhW p L N m cl w) (IE:ld < L) (h0:gl w ld≠0) :
  NU p L N (m+1) (cl++[(ld,w.map fun x=>x*inv p #[RK] % p)]):=by
 have rp:=zO hp;obtain⟨g0,g1⟩:=zjB (show 0 < p by lia) W.rg ld;have hi:=zer hp (h:=gl w ld) #[O] g1;have hg:∀ y,y < L+N->gl (w.map fun x=>x*inv p #[RK] % p) y=gl w y*inv p #[RK] % p:=fun y hy=>zqI (f:=fun x=>x*inv p #[RK] % p) (by rw [W.ln]; exact hy)
 have oW:∀ j a,(cl++[(ld,w.map fun x=>x*inv p #[RK] % p)])[j]? = some a->(j < m/\cl[j]? = some a)\/(j=m/\a=(ld,w.map fun x=>x*inv p #[RK] % p)):=fun j a h=>by
  by_cases hj:j < m
  ·rw [fb (by rw [E.ln]; exact hj)] at h;exact .inl ⟨hj,h⟩
  ·rw [c8 (by rw [E.ln]; lia),E.ln] at h;have vf:j - m=0:=by
    have:=(aW.mp h).1;simp at this;lia
   rw [vf] at h;exact .inr ⟨#[O],(by simpa using h.symm)⟩
 refine⟨by rw [aO,E.ln]; rfl,fun j a h=>?_,fun j j' a a' h h' n6=>?_⟩
 ·rcases oW j a h with ⟨_,h⟩ | ⟨rfl,rfl⟩
  ·exact E.one j a h
  ·refine⟨IE,by rw [aA,W.ln],?_,fun i h1 h2=>?_⟩
   ·show gl (w.map fun x=>x*inv p #[RK] % p) ld=1;rw [hg _ #[O],jg,hi.mod_eq];exact dN #[O] #[O]
   ·show gl (w.map fun x=>x*inv p #[RK] % p) (L+i)=0;rw [hg _ #[O],W.up i h1 h2,dE];rfl
 ·rcases oW j' a' h' with ⟨_,h'⟩ | ⟨rfl,rfl⟩
  ·rcases oW j a h with ⟨_,h⟩ | ⟨rfl,rfl⟩
   ·exact E.up j j' a a' h h' n6
   ·lia
  ·rcases oW j a h with ⟨_,h⟩ | ⟨rfl,rfl⟩
   ·have:=(E.one j a h).1;show gl (w.map fun x=>x*inv p #[RK] % p) a.1=0;rw [hg _ #[O],W.z a (aL h),dE];rfl
   ·lia
theorem zpg {p:Int} {m:Nat} (E:NU p L N m cl):m<=L:=by
 have nd:(cl.map (·.1)).Nodup:=by
  rw [eQ,dO,dR];intro i j hi hj rf e;have h1:=aG hi;have h2:=aG hj;have a:=E.up i j _ _ h1 h2 rf;rw [e,(E.one j _ h2).2.2.1] at a;cases a
 have:=List.Nodup.length_le_of_subset nd (l₂:=bM L) fun x hx=>by
  obtain⟨a,ha,rfl⟩:=bE.mp hx;obtain⟨j,hj⟩:=lh ha;exact cE.mpr (E.one j a hj).1
 rw [aA,bR,E.ln] at this;exact this
theorem zph {p:Int} {m:Nat} {w:List Int} (W:WhW p L N m cl w) (hm:m < N):IsP p (m+1) ((w.drop L).take (m+1))/\gl ((w.drop L).take (m+1)) m=1:=by
 refine⟨⟨by rw [aU,cP,W.ln]; lia,fun c hc=>W.rg c (f8 (eC hc))⟩,?_⟩;rw [<- W.top];exact zba (by
  rw [df #[O],ip];exact zb7 (by rw [W.ln]; lia))
noncomputable def zdO (K:aF):Sp:=fun vs H Q _=>∃ (p:Int) (a:Addr) (ls:List Addr) (vv:List #[wp]) (L:Nat),vs = [.int p,.ref a]/\H a=some #[O9]/\LsA H ls vv/\vv.length<=200/\L < vv.length/\zci p L vv/\p∈zG /\
 ∀ (l:Addr) (c:List Int) (m:Nat) (H':Hp),H l=none->zr H H'->H' l=some (.lst #[Ql])->IsP p (m+1) c->m < vv.length->gl c m=1->Q #[Pm] H'
theorem zR:Kf ["p","vectors","length","cleared","count","vector","whole","lead","other","leads","factor"] ["p","vectors"] (zi zaF):=#[S]
theorem zej (T:Txt K mg t) (F:Fun K "first_relation" "first_relation" zaF t.Kl fd):Kn P w K mg base CX0 2 t.Kl fd ["p","vectors"] (zdO K):=by
 obtain⟨Cd,tf,wx⟩:=T.LO;have wy:=zjL (P:=P) (w:=w) (base:=base) T tf;obtain⟨vh,o6,qz⟩:=T.Lm;have qA:=zfY (P:=P) (w:=w) (base:=base) T o6;refine F.ok zR #[sn] #[mt]
 ·obtain⟨p,a,ls,vv,L,rfl,_⟩:=h;rfl
 ·obtain⟨p,a,ls,vv,L,rfl,ha,oG,hN,hL,hvv,hp,qs⟩:=h;refine zaJ ?_; intro zX;refine⟨_,#[ze,#[zm,2,zR.nd,#[A],#[zn,#[zo],T.KD,cq,#[ya,#[PR]]]],#[ze,#[zm,3,zR.nd,#[A],#[Si]],#[ze,#[zah,bN,#[zcy,T.Kh,#[xL]],#[zaw,#[zj,#[zg,4,zR.nd,#[A]],#[zj,#[zg,5,zR.nd,#[A]],#[zA]]]],#[ze,#[zm,6,zR.nd,#[PU],#[zh,#[zcJ],#[Pf],#[zh,#[zc3],#[OJ],#[IN]]]],#[ze,#[zaO,#[zf],#[zeo,#[R8],#[zh,#[zB],#[GT],#[OD]],set_list]],#[ze,#[zah,bN,#[zad,#[NE]],#[zaw,#[zj,#[zg,7,zR.nd,#[A]],#[zj,#[zg,8,zR.nd,#[A]],#[zA]]]],#[zl,#[zm,6,zR.nd,#[PU],#[zq,wy,#[sK],T.Na,tf.kp,wx,#[zK],#[za,#[AT],by exact #[za,#[R8],#[za,#[zw,#[zu],#[R8],#[Rl]],#[Vs]]]]]]]],#[ze,#[za8,9,zR.nd,#[A],(Kg.of (N':=["at","whole"]) (ix:=[none,some 6]) (zi zaF) _ rfl rfl rfl),#[zZ],#[Ux],#[pc],(fun _ _ _ _=>#[zb5,#[zJ,#[zhZ],#[zw,#[Sg],#[Id],#[AT]],#[zf],(zV _)]]),#[Sb]],#[ze,#[zbj,#[zgY,(@zmn _ _ _ #[SI] (fun _=>rfl))],#[zl,#[zC,#[zay,zby,#[R8],#[zaA,#[GT]],#[zaA,#[zh,#[zB],#[zh,#[zB],#[GT],#[OD]],#[zf]]]]]],#[zan]],#[ze,#[zm,10,zR.nd,#[PU],#[zq,qA,#[sK],T.MJ,o6.kp,qz,#[zK],#[za,#[AT],#[ya,#[zw,#[zu],#[R8],#[zw,#[zu],#[SI],#[zf]]]]]]],#[zl,#[zcc,#[zfu,dJ,fA,fB,#[zcx],#[NE],#[ya,#[zap,#[za,#[zw,#[zu],#[SI],#[zf]],#[ya,#[zI,(Kg.of (N':=["number","factor","p"]) (ix:=[none,some 10,some 0]) (zi zaF) _ rfl rfl rfl),#[zZ],#[zad,#[R8]],#[pc],#[re],(fun _ _ _ _=>#[zh,#[zy],#[zh,#[zQ],#[AT],#[Id]],#[GT]])]]]]]]]]]]]]]]],#[zl,#[zC,#[zen]]]]]],?_⟩;refine zg4 ?_; intro rS pQ pG;have pd:=bJ;have rp:=zO hp;have p0:0 < p:=by lia
  have xr:=oG.length;have hN0:0 < vv.length:=by lia
  obtain⟨l0,IF⟩:∃ l0,ls[0]? = some l0:=⟨ls[0]'#[O],#[M]⟩;obtain⟨v0,hv0,IG⟩:=Paired.get oG IF;have IH:=(hvv v0 (aL hv0)).1;refine (nN rfl (ex4 a _ _ (.ref l0) ⟨rfl,rfl,nO.of ha,zab (j:=0) (by rw [aD,IF]; rfl),l0,(nN rfl ⟨.inl (nO.of IG),?_⟩)⟩));rw [aA,IH];refine⟨by show 0<=sizeLine; lia,fun ca vj=>?_⟩;have u1:=zb (o:=.lst []) vj;refine⟨_,rfl,a,_,rfl,nO.of (u1 _ _ ha),zbW (n:=vv.length) (fun i σ H'=>∃ (cs:List Addr) (cl:List (Nat×List Int)) (e4 e5 e6 e7 e8 e9 qi:Option V),σ = [some #[PC],some #[Pn],some (.int (L:Int)),some (.ref ca),e4,e5,e6,e7,e8,e9,qi]/\zr H H'/\H' ca=some #[RF]/\ClA ca H' cs cl/\NU p L vv.length i cl)
   ⟨[],[],none,none,none,none,none,none,none,rfl,u1,zc,.nil,⟨rfl,fun _ _ h=>by simp at h,fun _ _ _ _ h=>by simp at h⟩⟩ ?_ ?_ ?_ ?_⟩
  ·rintro i σ H1 hi ⟨cs,cl,e4,e5,e6,e7,e8,e9,qi,rfl,s1,_⟩;exact⟨_,.ref (ls[i]'#[O]),nO.of #[Qd],by rw [aD,aG #[O]]; rfl⟩
  ·rintro σ H1 ⟨cs,cl,e4,e5,e6,e7,e8,e9,qi,rfl,s1,_⟩;exact⟨_,nO.of #[Qd],by rw [aA]; lia⟩
  ·rintro zD zT i x σ H1 H2 hi ⟨cs,cl,e4,e5,e6,e7,e8,e9,qi,rfl,s1,tJ,uP,E⟩ ⟨T,v,hT,rfl,rfl,hv⟩;obtain⟨lv,rfl,hlv⟩:=zN (hv _ (nO.of #[Qd]));obtain⟨vec,II,hva⟩:=Paired.get oG hlv;obtain⟨qH,IJ⟩:=hvv vec (aL II);have t2:=zb (o:=.tup [.int (i:Int),.ref lv]) hT;refine#[Db];have s2:=s1.trans t2;have IK:=t2 _ _ tJ;have Ce:=uP.same t2;generalize nQ H1 T (.tup [.int (i:Int),.ref lv])=H2 at t2 s2 IK Ce |-;refine (nN rfl ⟨by show 1<=sizeLine; lia,fun z hz=>(nN rfl ⟨a,(nN rfl ⟨.inl (nO.of ((s2.trans (zb hz)) _ _ ha)),z,_,[.int 0],rfl,rfl,zc,by rw [aA]; lia,by rw [aA]; lia,by rw [aA]; show 1*_<=sizeLine; lia,fun y hy=>?_⟩)⟩)⟩);rw [aA,zih,xr,cG];have t3:=(zb (o:=.lst [.int 0]) hz).trans (zb (o:=.lst ((aP vv.length (0:Int)).map V.int)) hy);have h3y:nQ (nQ H2 z (.lst [.int 0])) y (.lst ((aP vv.length (0:Int)).map V.int)) y=some (.lst ((aP vv.length (0:Int)).map V.int)):=zc;generalize nQ (nQ H2 z (.lst [.int 0])) y (.lst ((aP vv.length (0:Int)).map V.int))=H3 at t3 h3y |-;refine (ex4 lv y _ _ ⟨rfl,rfl,(s2.trans t3) _ _ hva,h3y,by rw [aA,aA,bU]; lia,fun wl BE=>?_⟩);rw [<- aN];have t4:=zb (o:=.lst ((vec++aP vv.length (0:Int)).map V.int)) BE;refine (nN rfl (nN rfl (nN rfl (nR rfl rfl (ex4 wl _ _ (L+i) ⟨rfl,rfl,zc,?_,?_⟩)))))
   ·rw [<- ki];exact zdU (by rw [aA,aO,bU]; lia)
   have ew:((vec++aP vv.length (0:Int)).map V.int).set (L+i) (.int 1)=((vec++aP vv.length (0:Int)).set (L+i) 1).map V.int:=by rw [iu]
   rw [ew,zoh];have t4:=t3.trans (zb (o:=.lst (((vec++aP vv.length (0:Int)).set (L+i) 1).map V.int)) BE);have IL:nQ H3 wl (.lst (((vec++aP vv.length (0:Int)).set (L+i) 1).map V.int)) wl=some (.lst (((vec++aP vv.length (0:Int)).set (L+i) 1).map V.int)):=zc;have W0:=zlX (show 1 < p by lia) (N:=vv.length) hi qH IJ;have hwc:wl≠ca:=fun e=>by
    have:=t3 _ _ IK;rw [<- e,BE] at this;cases this
   generalize nQ H3 wl (.lst (((vec++aP vv.length (0:Int)).set (L+i) 1).map V.int))=H4 at t4 IL |-;generalize (vec++aP vv.length (0:Int)).set (L+i) 1=w0 at W0 IL |-;have s4:=s2.trans t4;have FV:=t4 _ _ IK;have Cf:=Ce.same t4;have Er:=Cf.length;refine⟨_,rfl,ca,rfl,⟨_,nO.of FV⟩,zbE (K:=K) (a:=ca) (xs:=cs.map V.ref) (fun j σ H'=>∃ (wa:Addr) (w:List Int) (e7 e8:Option V),σ = [some #[PC],some #[Pn],some (.int (L:Int)),some (.ref ca),some (.int (i:Int)),some (.ref lv),some (.ref wa),e7,e8,e9,qi]/\zr H4 H'/\H' wa=some (.lst (w.map V.int))/\wa≠ca/\WhW p L vv.length i (cl.take j) w)
    ⟨wl,w0,_,_,rfl,fun _ _ e=>e,IL,hwc,W0⟩ (fun j σ H' _ ⟨_,_,_,_,_,s5,_⟩=>nO.of (s5 _ _ FV)) ?_ ?_⟩
   ·rintro zD zT j y σ H5 hy ⟨wa,w,e7,e8,rfl,s5,Es,hwa,W⟩;obtain⟨b,rfl,hb⟩:=zN hy;obtain⟨aa,haa,oa,ql,uU,CY⟩:=Paired.get Cf hb;obtain⟨o1,o2,_⟩:=E.one j aa haa;refine⟨b,_,rfl,nS.of (s5 _ _ ql),rfl,_,_,rfl,_,_,rfl,rfl,?_⟩;have hg:=zjB p0 W.rg aa.1;refine (nN rfl (nN rfl (nN rfl (nN rfl (ex4 wa _ _ (.int (gl w aa.1)) ⟨rfl,rfl,nO.of Es,zab (by rw [aD,zb7 (by rw [W.ln]; lia)]; rfl),(nN rfl (ex6 p (gl w aa.1) wa oa w aa.2 ⟨rfl,Es,s5 _ _ uU,by rw [W.ln,o2],by rw [W.ln]; lia,p0,hg.1,#[O],fun l H6 hl s6 Et=>?_⟩))⟩)))));refine (ex4 l _ _ _ ⟨rfl,s5.trans s6,Et,fun e=>?_,znU #[O] E hi haa W⟩);have:=s5 _ _ FV;rw [<- e,hl] at this;cases this
   ·rintro σ H5 ⟨wa,w,e7,e8,rfl,s5,Es,hwa,W⟩;rw [aA,Er,dL] at W;have Ci:=s5 _ _ FV;have IM:=Cf.same s5;have Bh:=s4.trans s5;refine #[PB];rw [cG];refine zao (n:=L) (fun j ys H'=>H'=H5/\ys=(((bM j).filter fun m=>decide (gl w m≠0)).map fun m:Nat=>(m:Int)).map V.int) ⟨rfl,rfl⟩ (fun j ys H' hj _=>hj) #[OC] ?_ ?_
    ·rintro zS zT zE j xx ys H6 H7 hj ⟨rfl,rfl⟩ ⟨rfl,rfl⟩;have hgj:(w.map V.int)[j]? = some (.int (gl w j)):=by rw [aD,zb7 (by rw [W.ln]; lia)]; rfl
     refine (nN rfl (nN rfl (ex4 wa _ _ (.int (gl w j)) ⟨rfl,rfl,nO.of Es,by rw [cV]; exact zab hgj,rfl,#[Pp]⟩)));have xu:=fU (fun m=>decide (gl w m≠0)) (bM j);rw [bR] at xu;rw [dq,fO,aN,aN];by_cases h0:gl w j=0
     ·refine zaR (fun h=>absurd h (by rw [h0]; simp)) (fun _=>#[U3]);rw [iK (by simpa using h0),kj,jb,jb,cZ]
     ·refine zaR (fun _=>(nN rfl ⟨zax (by rw [aA,aA]; lia),rfl,?_⟩)) (fun h=>absurd (by simpa using h0) h);rw [iJ (by simpa using h0),kj,cV];rfl
    ·rintro ys H6 D ⟨rfl,rfl⟩ hD;have t7:=zb (o:=.lst ((((bM L).filter fun m=>decide (gl w m≠0)).map fun m:Nat=>(m:Int)).map V.int)) hD;have Ap:nQ H6 D (.lst ((((bM L).filter fun m=>decide (gl w m≠0)).map fun m:Nat=>(m:Int)).map V.int)) D=_:=zc;generalize nQ H6 D (.lst ((((bM L).filter fun m=>decide (gl w m≠0)).map fun m:Nat=>(m:Int)).map V.int))=H7 at t7 Ap |-;have s7:=Bh.trans t7;have FW:=t7 _ _ Es;have Ca:=t7 _ _ Ci;have IP:=IM.same t7;refine (nN rfl ⟨_,.inl ⟨_,nO.of Ap,rfl⟩,?_⟩);cases Eu:(bM L).filter fun m=>decide (gl w m≠0) with
     | nil =>
      refine zaR #[BT] (fun h=>absurd rfl h);refine (nN rfl (nN rfl (nN rfl (nN rfl (nN rfl (nR rfl rfl (nR rfl rfl (nN rfl ⟨wa,(nN rfl ⟨nO.of FW,fun l hl=>?_⟩)⟩))))))));have ec:za7 (w.map V.int) (some (L:Int)) (some ((L:Int)+(i:Int)+1))=((w.drop L).take (i+1)).map V.int:=by
       rw [show (L:Int)+(i:Int)+1=((L+i+1:Nat):Int) by lia,zhu (by rw [aA,W.ln]; lia),<- gi,<- d9,show L+i+1 - L=i+1 by lia]
      rw [ec];obtain⟨d1,d2⟩:=zph W hi;exact qs l _ i _ (s7.free hl) (s7.trans (zb hl)) zc d1 hi d2
     | cons ld lds =>
      refine zaR (fun h=>absurd h #[M]) #[BT];have hm:ld∈(bM L).filter fun m=>decide (gl w m≠0):=by rw [Eu]; exact bL
      (obtain⟨yL,uS⟩:=dn.mp hm)
      have IE:ld < L:=cE.mp yL;have FU:gl w ld≠0:=by simpa using uS
      obtain⟨g0,g1⟩:=zjB p0 W.rg ld;rw [Eu] at Ap;have Ew:atI ((((ld :: lds).map fun m:Nat=>(m:Int))).map V.int) 0=some (.int (ld:Int)):=zab (j:=0) rfl;refine (nN rfl (nN rfl (nN rfl (ex4 D _ _ (.int (ld:Int)) ⟨rfl,rfl,nO.of Ap,Ew,wa,_,_,.int #[RK],rfl,rfl,nO.of FW,zab (by rw [aD,zb7 (by rw [W.ln]; lia)]; rfl),p,gl w ld,rfl,hp,g0,g1,?_⟩))));refine (nN rfl ⟨.inl ⟨rfl,_,nO.of Ca⟩,(nN rfl (ex4 D _ _ (.int (ld:Int)) ⟨rfl,rfl,nO.of Ap,Ew,(nN rfl ⟨wa,rfl,⟨_,nO.of FW⟩,zbh (fs:=(w.map fun x=>x*inv p #[RK] % p).map V.int) (nO.of FW) (by rw [aA,aA,aA]) (by rw [aA,W.ln]; lia) ?_ ?_⟩)⟩))⟩)
      ·intro j x y R B hx hy hR;obtain⟨n,rfl,hn⟩:=zag hx;obtain⟨n',rfl,yW⟩:=zag hy;rw [aD,hn] at yW;cases yW;have hnr:=W.rg n (aL hn);exact gY (nN rfl (nN rfl (nR rfl rfl ⟨.inl #[v6],#[PL]⟩)))
      ·intro D2 Aq;have t8:=zb (o:=.lst ((w.map fun x=>x*inv p #[RK] % p).map V.int)) Aq;have h8D:nQ H7 D2 (.lst ((w.map fun x=>x*inv p #[RK] % p).map V.int)) D2=some (.lst ((w.map fun x=>x*inv p #[RK] % p).map V.int)):=zc;have hDc:D2≠ca:=fun e=>by rw [e,Ca] at Aq; cases Aq
       generalize nQ H7 D2 (.lst ((w.map fun x=>x*inv p #[RK] % p).map V.int))=H8 at t8 h8D |-;refine⟨by show 2<=sizeLine; lia,fun tb htb=>?_⟩;have t9:=zb (o:=.tup [.int (ld:Int),.ref D2]) htb;have FX:nQ H8 tb (.tup [.int (ld:Int),.ref D2]) tb=some (.tup [.int (ld:Int),.ref D2]):=zc;have Bi:=t9 _ _ (t8 _ _ Ca);have s9:=(s7.trans t8).trans t9;have Ex:=(IP.same t8).same t9;have h9D:=t9 _ _ h8D;generalize nQ H8 tb (.tup [.int (ld:Int),.ref D2])=H9 at t9 FX Bi s9 Ex h9D |-;have Ee:=E.ln;refine (ex3 ca _ _ ⟨rfl,rfl,Bi,by rw [aA,Er,Ee]; lia,cs++[tb],_,_,_,_,_,_,_,_,rfl,zac s9 vj,by rw [zc,aN]; rfl,cL (Ex.put Bi) ⟨D2,?_,?_,hDc⟩,zlY hp E W IE FU⟩)
       ·rw [zp (fun e=>by rw [e,Bi] at FX; cases FX)];exact FX
       ·rw [zp hDc];exact h9D
  ·rintro σ H1 ⟨cs,cl,e4,e5,e6,e7,e8,e9,qi,rfl,s1,tJ,uP,E⟩;have:=zpg E;lia
noncomputable def zeW (K:aF):Sp:=fun vs H Q _=>∃ (p x:Int) (most kept:Nat),vs = [.int p,.int x,.int (most:Int),.int (kept:Int)]/\5<=p/\p<=97/\0<=x/\x < p/\most<=500/\1<=kept/\kept<=100 /\
 ∀ (l:Addr) (ls:List Addr) (H':Hp),H l=none->zr H H'->H' l=some #[O9]->∀ vv:List #[wp],LsA H' ls vv->vv.length=most+1->zci p kept vv->Q #[Pm] H'
theorem zbR:Kf ["p","by","most","kept","powers","power"] ["p","by","most","kept"] (zi zbC):=#[S]
theorem zeX (T:Txt K mg t) (F:Fun K "moved_powers" "moved_powers" zbC t.Kt fd):Kn P w K mg base CX0 2 t.Kt fd ["p","by","most","kept"] (zeW K):=by
 obtain⟨si,oA,pq⟩:=T.Kw;have pv:=zdH (P:=P) (w:=w) (base:=base) T oA;refine F.ok zbR #[sn] #[mt]
 ·obtain⟨p,x,most,kept,rfl,_⟩:=h;rfl
 ·obtain⟨p,x,most,kept,rfl,p5,qX,x0,x1,hm,k1,k2,q⟩:=h;refine zaJ ?_; intro zX;refine⟨_,#[ze,#[zm,4,zbR.nd,#[A],#[z9,#[ya,#[zh,#[zcJ],#[OJ],#[zh,#[zc3],#[OJ],#[zh,#[zam],#[NE],#[zf]]]]]]],#[ze,#[zah,bN,#[Ux],#[zg,5,zbR.nd,#[A]],#[zl,#[zcc,#[zfu,dJ,fA,fB,#[zcx],#[OD],#[ya,#[zay,zby,#[zq,pv,#[sK],T.LB,oA.kp,pq,#[zK],#[za,#[AT],#[za,#[zw,#[zu],#[OD],#[zmk,zje,#[zf]]],#[ya,#[zmk,zje,#[Id]]]]]],#[zbg],#[zaA,#[NE]]]]]]]],#[zl,#[zC,#[OD]]]]],?_⟩;refine zep ?_; intro pQ pG;have pd:=bJ;refine⟨by show 1<=sizeLine; lia,fun A1 hA1=>?_⟩;have u1:=zb (o:=.lst [V.int 1]) hA1;have v1:nQ H A1 (.lst [V.int 1]) A1=some (.lst [V.int 1]):=zc;generalize nQ H A1 (.lst [V.int 1])=H1 at u1 v1 |-;refine⟨by show 1<=sizeLine; lia,fun A2 hA2=>?_⟩;have u2:=u1.trans (zb (o:=.lst [V.int 0]) hA2);have C7:=(zb (o:=.lst [V.int 0]) hA2) _ _ v1;have v2:nQ H1 A2 (.lst [V.int 0]) A2=some (.lst [V.int 0]):=zc;generalize nQ H1 A2 (.lst [V.int 0])=H2 at u2 C7 v2 |-;have ek:((kept:Int) - 1).toNat=kept - 1:=by lia
  refine (nN rfl (nR rfl rfl (ex3 A2 _ _ ⟨rfl,rfl,v2,#[O],#[O],by rw [ek]; show 1*#[VL]<=sizeLine; lia,fun A3 hA3=>?_⟩)));rw [ek,dM];have w3:=zb (o:=.lst #[QO]) hA3;have C8:=w3 _ _ C7;have v3:nQ H2 A3 (.lst #[QO]) A3=some (.lst #[QO]):=zc;have u3:=u2.trans w3;generalize nQ H2 A3 (.lst #[QO])=H3 at u3 C8 v3 |-;refine (ex4 A1 A3 _ _ ⟨rfl,rfl,C8,v3,by rw [bU]; show 1+#[VL]<=sizeLine; lia,fun A4 hA4=>?_⟩);have ez:[V.int 1]++aP #[VL] #[TF]=((1:Int) :: aP #[VL] 0).map V.int:=by rw [bV,gB]; rfl
  have hz:zci p kept [(1:Int) :: aP #[VL] 0]:=fun v hv=>by
   rw [bD.mp hv];refine⟨by rw [dw,bU]; lia,fun c hc=>?_⟩;rcases (aV.mp hc) with rfl | hc
   ·lia
   ·rw [dG hc]; lia
  rw [ez];generalize (1:Int) :: aP #[VL] 0=w0 at hz |-;have u4:=u3.trans (zb (o:=.lst (w0.map V.int)) hA4);have v4:nQ H3 A4 #[Tx] A4=some #[Tx]:=zc;generalize nQ H3 A4 #[Tx]=H4 at u4 v4 |-;refine⟨by show 1<=sizeLine; lia,fun PW IQ=>?_⟩;have sw:=zb (o:=.lst [V.ref A4]) IQ;have emt:((most:Int)).toNat=most:=by lia
  refine (nN rfl (nN rfl ⟨#[O],#[O],zaq (lo:=0) (n:=((most:Int)).toNat) (fun i σ H'=>∃ (e5:Option V),σ = [some #[PC],some (.int x),some (.int (most:Int)),some (.int (kept:Int)),some (.ref PW),e5]/\zr H H'/\∃ (ls:List Addr) (vv:List #[wp]),H' PW=some #[O9]/\LsA H' ls vv/\vv.length=i+1/\zci p kept vv) ⟨none,rfl,u4.trans sw,[A4],[w0],zc,.cons (sw _ _ v4) .nil,rfl,hz⟩ ?_ ?_⟩))
  ·rintro zD zT i σ H5 hi ⟨e5,rfl,s5,ls,vv,h5,oG,qH,tL⟩;have xr:ls.length=i+1:=by rw [bF oG,qH]
   obtain⟨Dc,b,rfl⟩:∃ Dc b,ls=Dc++[b]:=⟨_,_,(List.dropLast_concat_getLast (l:=ls) (fun e=>by rw [e] at xr; simp at xr)).symm⟩;have hb:(Dc++[b])[i]? = some b:=by
    rw [aO,gJ] at xr;rw [c8 #[O],show i - Dc.length=0 by lia];rfl
   obtain⟨v,hv,hB⟩:=Paired.get oG hb;obtain⟨vl,vr⟩:=tL v (aL hv);have oW:atI ((Dc++[b]).map V.ref) (-1)=some (.ref b):=by rw [aN]; exact zkO
   refine (nN rfl ⟨.inl ⟨rfl,_,nO.of h5⟩,(nN rfl (nN rfl (nN rfl (ex4 PW _ _ _ ⟨rfl,rfl,nO.of h5,oW,(nN rfl (nN rfl (ex4 p (-x) b _ ⟨rfl,hB,#[O],#[O],#[O],#[O],fun l H6 hl s6 h6=>?_⟩)))⟩))))⟩);refine (nN rfl (nN rfl ⟨l,(nN rfl ⟨nO.of h6,fun z hz=>?_⟩)⟩));have ec:za7 ((zcA p (-x) v).map V.int) none (some (kept:Int))=((zcA p (-x) v).take kept).map V.int:=by
    unfold za7;rw [HT.KG,HT.KE,eY,eK,aA,zdj,dU #[O],<- d9]
   rw [ec];have sz:=zb (o:=.lst (((zcA p (-x) v).take kept).map V.int)) hz;have h6P:=s6 _ _ h5;have h7P:=sz _ _ h6P;have zP:z≠PW:=(zH h6P hz).symm;refine (ex3 PW _ _ ⟨rfl,rfl,h7P,by rw [aA,xr]; lia,?_⟩);refine (nN rfl ⟨zac (#[Vw].trans sz) (u4.free IQ),(Dc++[b])++[z],vv++[(zcA p (-x) v).take kept],by rw [zc]; simp,?_,by rw [aO,qH]; rfl,tL.snoc (by rw [aU,zdj]; lia) fun c hc=>zmD #[O] v c (eC hc)⟩);refine cL (znC (D:=PW) (fun hm=>?_) (fun c o hc e=>by rw [zp hc]; exact e) (LsA.same (s6.trans sz) oG)) (by rw [zp zP]; exact zc);obtain⟨j,hj⟩:=dF.mp hm;exact LsA.off oG h5 j PW hj rfl
  ·rintro σ H5 ⟨e5,rfl,s5,ls,vv,h5,oG,qH,tL⟩;rw [emt] at qH;exact (nN rfl (q PW ls _ (u4.free IQ) s5 h5 vv oG qH tL))
noncomputable def tI (t:Tm):Int×Int:=((t.1:Int),(t.2:Int))
theorem zkU {ns:List Nat} {M:Int} (hM:M∈ns.map fun n:Nat=>(n:Int)) (yd:∀ a∈ns.map (fun n:Nat=>(n:Int)),a<=M):∃ m:Nat,M=m/\m∈ns/\∀ n∈ns,n<=m:=by
 obtain⟨m,hm,rfl⟩:=bE.mp hM;refine⟨m,rfl,hm,fun n hn=>?_⟩;have:=yd _ (bE.mpr ⟨n,hn,rfl⟩);lia
theorem zkV {tl:Addr} {bs:List Addr} {ts:List Tm} (qJ:H tl=some #[RZ]) (qm:PtB H bs #[VO]) (nV:ts.length<=200) {tt:TT} {Q:VK} (f:Tm->Int)
  (hs:∀ (T:Addr) (t:Tm) (R:VK) (B:L2.St->Hp->Prop),t∈ts->nS K H T [.int (t.1:Int),.int (t.2:Int)]->R (.int (f t)) H->g (.ref T) σ0 H fun σ2 H2=>tt σ2 H2 fun b H3=>if b=true then te σ2 H3 R else B σ2 H3)
  (hd:∀ D,H D=none->Q #[Pt] (nQ H D (.lst ((ts.map f).map V.int)))):cGo g tt te σ0 (Itl K tl) Q H:=by
 have uk:bs.length=ts.length:=by rw [bF qm,aA]
 refine zbh (fs:=(ts.map f).map V.int) (nO.of qJ) (by rw [aA,aA,aA,uk]) (by rw [aA]; lia) #[FS] hd;obtain⟨b,rfl,um⟩:=zN hx;obtain⟨q,hq,hT⟩:=Paired.get qm um;rw [aD] at hq;obtain⟨t,ht,rfl⟩:=iS.mp hq;rw [aD,aD,ht] at hy;have hy:V.int (f t)=y:=by simpa using hy
 subst hy;exact hs b t R B (aL ht) (nS.of hT) hR
noncomputable def lu (w:Nat):Nat->Nat
 | 0=>0
 | m+1=>lu w m+(w - m)
theorem zpT (w:Nat):∀ m,lu w m<=w*m
 | 0=>bW _
 | m+1=>by
  have:=zpT w m;show lu w m+(w - m)<=w*(m+1);rw [fQ];lia
theorem zqR {w:Nat} (h:w<=9):lu w w=tri w:=by
 have:∀ w,w < 10->lu w w=tri w:=by decide
 exact this w #[O]
noncomputable def Rw (p:Int) (n:Nat) (ys:List V):Prop:=∃ vs:List Int,ys=vs.map V.int/\vs.length=n/\∀ c∈vs,0<=c/\c < p
theorem Rw.snoc {p c:Int} {n:Nat} (h:Rw p n ys) (h0:0<=c) (h1:c < p):Rw p (n+1) (ys++[.int c]):=by
 obtain⟨vs,rfl,e,hr⟩:=h;refine⟨vs++[c],#[M],by simp [e],fun x hx=>?_⟩;rcases (bO.mp hx) with hx | hx
 ·exact hr x hx
 ·rw [bD.mp hx]; lia
theorem Rw.len {p:Int} {n:Nat} (h:Rw p n ys):ys.length=n:=by
 obtain⟨vs,rfl,e,_⟩:=h;rw [aA,e]
theorem zpU {p:Int} {w n i u:Nat} (h:LsA H ls vv) (hn:vv.length=n) (hg:zci p w vv) (hi:i < n) (hu:u < w):∃ (b:Addr) (v:List Int) (c:Int),atI #[At] (i:Int)=some (.ref b)/\H b=some #[P5]/\atI (v.map V.int) (u:Int)=some (.int c)/\0<=c/\c < p:=by
 have hl:ls.length=n:=by rw [bF h,hn]
 have hb:ls[i]? = some (ls[i]'#[O]):=aG #[O];obtain⟨v,hv,hvb⟩:=Paired.get h hb;obtain⟨l1,l2⟩:=hg v (aL hv);have hc:=zb7 (w:=v) (y:=u) #[O];exact⟨_,v,gl v u,zab (by rw [aD,hb]; rfl),hvb,zab (by rw [aD,hc]; rfl),l2 _ (aL hc)⟩
noncomputable def zgk (K:aF):Sp:=fun vs H Q _=>∃ (p:Int) (tl pt:Addr) (x y:Int) (w:Nat) (bs:List Addr) (ts:List Tm),vs = [.int p,.ref tl,.ref pt]/\5<=p/\p<=97/\0<=x/\x < p/\0<=y/\y < p/\1<=w/\w<=9/\H tl=some #[RZ]/\PtB H bs #[VO]/\ts≠[]/\ts.length<=200/\(∀ t∈ts,t.1<=400/\t.2<=400)/\H pt=some (.tup [.int x,.int y,.int (w:Int)]) /\
 ∀ (l:Addr) (ls:List Addr) (vv:List #[wp]) (H':Hp),H l=none->zr H H'->H' l=some #[O9]->LsA H' ls vv->vv.length=ts.length->zci p (tri w) vv->Q #[Pm] H'
theorem za5:Kf ["p","terms","point","x","y","weight","by_x","by_y"] ["p","terms","point"] (zi za3):=#[S]
theorem zgl (T:Txt K mg t) (F:Fun K "numbers_at" "numbers_at" za3 t.K6 fd):Kn P w K mg base CX0 3 t.K6 fd ["p","terms","point"] (zgk K):=by
 obtain⟨xv,oM,pL⟩:=T.Kz;have pM:=zeX (P:=P) (w:=w) (base:=base) T oM;refine F.ok za5 #[sn] #[mt]
 ·obtain⟨p,tl,pt,x,y,wt,bs,ts,rfl,_⟩:=h;rfl
 ·obtain⟨p,tl,pt,x,y,wt,bs,ts,rfl,p5,qX,x0,x1,y0,y1,w1,w9,qJ,qm,oH,nV,Ar,hp,q⟩:=h;refine zaJ ?_; intro zX;refine⟨_,#[ze,#[zaO,#[GT],#[zaw,#[zj,#[zg,3,za5.nd,#[A]],#[zj,#[zg,4,za5.nd,#[A]],#[zj,#[zg,5,za5.nd,#[PU]],#[zA]]]]]],#[ze,#[zm,6,za5.nd,#[PU],#[zq,pM,#[sK],T.Lb,oM.kp,pL,#[zK],#[za,#[AT],by exact #[za,#[NE],#[za,#[zn,#[za4],T.MP,fC,#[ya,#[zI,(Kg.of (N':=["i","j"]) (ix:=[none,none]) (zi za3) _ rfl rfl rfl),#[wv],#[VS],#[or],#[re],#[Sb]]]],#[QT]]]]]],#[ze,#[zm,7,za5.nd,#[PU],#[zq,pM,#[sK],T.Lb,oM.kp,pL,#[zK],#[za,#[AT],by exact #[za,#[OD],#[za,#[zn,#[za4],T.MP,fC,#[ya,#[zI,(Kg.of (N':=["i","j"]) (ix:=[none,none]) (zi za3) _ rfl rfl rfl),#[wv],#[VS],#[or],#[re],(fun _ _ _ _=>#[Id])]]],#[QT]]]]]],#[zl,#[zC,#[zI,(Kg.of (N':=["i","j","weight","by_x","by_y","p"]) (ix:=[none,none,some 5,some 6,some 7,some 0]) (zi za3) _ rfl rfl rfl),#[wv],#[VS],(fun _ _ _ _=>#[zaj,(K),2,#[zj,#[zg,0,#[Y],#[PU]],#[zj,#[zg,1,#[Y],#[PU]],#[zA]]]]),#[re],(fun _ _ _ _=>#[zkx,(Kg.of (N':=["u","v","by_x","i","by_y","j","p","weight"]) (ix:=[none,none,some 3,some 0,some 4,some 1,some 5,some 2]) ({ kind:=.function,names:=[(".0",.local),("i",.cell),("j",.cell),("range",.globalImplicit),("by_x",.cell),("by_y",.cell),("p",.cell),("weight",.cell)],isGenerator:=false,isCoroutine:=false }) _ (by with_unfolding_all rfl) rfl rfl),(ze1 (js:=[0]) (i:=0) #[D]),(ze1 (js:=[1]) (i:=1) #[D]),#[Ux],#[pc],#[re],(fun _ _ _ _=>#[zU,T.Ki,#[ya,#[zh,#[zam],#[Rl],#[AT]]]]),(fun _ _ _ _=>#[zg,1,#[Y],#[A]]),#[re],(fun _ _ _ _=>#[zh,#[zy],#[zh,#[zQ],#[zw,#[Sg],#[zw,#[Sg],#[GT],#[NE]],#[AT]],#[zw,#[Sg],#[zw,#[Sg],#[OD],#[Pf]],#[Id]]],#[R8]]),(by intros; rfl)])]]]]]],?_⟩;refine zg4 ?_; intro rS pQ pG;have pd:=bJ;have uk:bs.length=ts.length:=by rw [bF qm,aA]
  refine⟨_,rfl,pt,_,rfl,nS.of hp,rfl,_,_,rfl,_,_,rfl,_,_,rfl,rfl,?_⟩;refine⟨_,rfl,_,rfl,_,rfl,tl,rfl,⟨_,nO.of qJ⟩,zkV qJ qm nV (fun t=>(t.1:Int)) #[SV] fun D hD=>?_⟩;refine⟨D,ts.map fun t=>(t.1:Int),rfl,nO.of zc,by simpa using oH,fun M hM yd=>?_⟩;obtain⟨mx,rfl,mx1,mx2⟩:=zkU (ns:=ts.map (·.1)) (by rw [cN]; exact hM) (by rw [cN]; exact yd);have mx4:mx<=400:=by obtain⟨t,ht,rfl⟩:=bE.mp mx1; exact (Ar t ht).1
  have s0:=zb (o:=.lst ((ts.map fun t:Tm=>(t.1:Int)).map V.int)) hD;generalize nQ H D (.lst ((ts.map fun t:Tm=>(t.1:Int)).map V.int))=H0 at s0 |-;refine (nN rfl (ex4 p x mx wt ⟨rfl,p5,qX,x0,x1,#[O],w1,#[O],fun l1 ls1 H1 u5 s1 h1 vx g1 gx1 gx2=>?_⟩));have vm:=s0.trans s1;refine⟨_,rfl,_,rfl,_,rfl,tl,rfl,⟨_,nO.of (vm _ _ qJ)⟩,zkV (vm _ _ qJ) (qm.same vm) nV (fun t=>(t.2:Int)) #[SV] fun D2 Aq=>?_⟩;refine⟨D2,ts.map fun t=>(t.2:Int),rfl,nO.of zc,by simpa using oH,fun M hM yd=>?_⟩;obtain⟨my,rfl,my1,Ah⟩:=zkU (ns:=ts.map (·.2)) (by rw [cN]; exact hM) (by rw [cN]; exact yd);have my4:my<=400:=by obtain⟨t,ht,rfl⟩:=bE.mp my1; exact (Ar t ht).2
  have s2:=zb (o:=.lst ((ts.map fun t:Tm=>(t.2:Int)).map V.int)) Aq;generalize nQ H1 D2 (.lst ((ts.map fun t:Tm=>(t.2:Int)).map V.int))=H2 at s2 |-;refine (nN rfl (ex4 p y my wt ⟨rfl,p5,qX,y0,y1,#[O],w1,#[O],fun l2 FY H3 qg s3 h3 vy g3 gy1 gy2=>?_⟩));have Bj:=s2.trans s3;have sA:=vm.trans Bj;have h1:=Bj _ _ h1;have g1:=g1.same Bj;refine (nN rfl ⟨tl,rfl,⟨_,nO.of (sA _ _ qJ)⟩,zao (n:=ts.length) (fun m ys H'=>zr H3 H'/\∃ (us:List Addr) (vv:List #[wp]),ys=us.map V.ref/\LsA H' us vv/\vv.length=m/\zci p (tri wt) vv) ⟨fun _ _ e=>e,[],[],rfl,.nil,rfl,fun v hv=>by cases hv⟩ ?_ ?_ ?_ ?_⟩)
  ·rintro m ys H4 hm ⟨s4,_⟩;exact⟨_,.ref (bs[m]'#[O]),nO.of ((sA.trans s4) _ _ qJ),by rw [aD,aG #[O]]; rfl⟩
  ·rintro ys H4 ⟨s4,_⟩;exact⟨_,nO.of ((sA.trans s4) _ _ qJ),by rw [aA]; lia⟩
  ·rintro zS zT zE m z ys H4 H5 hm ⟨s4,us,vv,rfl,n4,qH,tL⟩ ⟨rfl,hx⟩;have sA4:=sA.trans s4;obtain⟨b,rfl,qB⟩:=zN (hx _ (nO.of (sA4 _ _ qJ)));obtain⟨q',pC,hT⟩:=Paired.get (qm.same sA4) qB;rw [aD] at pC;obtain⟨t,ht,rfl⟩:=iS.mp pC;have Dd:=aL ht;have hz:us.length=m:=by rw [bF n4,qH]
   have t1:t.1 < mx+1:=mC (mx2 _ (bE.mpr ⟨t,Dd,rfl⟩));have t2:t.2 < my+1:=mC (Ah _ (bE.mpr ⟨t,Dd,rfl⟩));have h4x:=s4 _ _ h1;have h4y:=s4 _ _ h3;have g4x:=g1.same s4;have g4y:=g3.same s4;refine gY2 (nS.of hT) ?_;have ew:((wt:Int)).toNat=wt:=by lia
   refine #[PB];rw [ew];refine zeH (n:=wt) (fun u ys H'=>H'=H5/\Rw p (lu wt u) ys) ⟨rfl,[],rfl,rfl,fun c hc=>by cases hc⟩ #[Pb] #[OC] ?_ ?_
   ·rintro u xx ys H6 H7 hu ⟨rfl,hy⟩ ⟨rfl,rfl⟩;rw [show ((0:Int)+(u:Int))=(u:Int) from cV _];refine gY ?_;have ewu:((wt:Int) - (u:Int)).toNat=wt - u:=by lia
    refine (nN rfl (nN rfl (nR rfl rfl (nN rfl ⟨#[O],#[O],?_⟩))));rw [ewu];refine zeH (n:=wt - u) (fun v ys H'=>H'=H7/\Rw p (lu wt u+v) ys) ⟨rfl,hy⟩ #[Pb] #[OC] ?_ ?_
    ·rintro v yy ys H8 H9 hv ⟨rfl,hy⟩ ⟨rfl,rfl⟩;rw [show ((0:Int)+(v:Int))=(v:Int) from cV _];obtain⟨bx,xs,xc,ax1,ax2,ax3,r0,r1⟩:=zpU g4x gx1 gx2 t1 hu;obtain⟨b2,tW,yc,ay1,ay2,ay3,_⟩:=zpU g4y gy1 gy2 t2 (show v < wt by lia);have nl:=zpT wt u;have nm:wt*u<=9*9:=gP #[O] #[O];refine gY ?_;refine (nN rfl (nN rfl (ex4 l1 _ _ _ ⟨rfl,rfl,nO.of h4x,ax1,(nN rfl (ex4 bx _ _ _ ⟨rfl,rfl,nO.of ax2,ax3,(nN rfl (nN rfl (ex4 l2 _ _ _ ⟨rfl,rfl,nO.of h4y,ay1,(nN rfl (ex4 b2 _ _ _ ⟨rfl,rfl,nO.of ay2,ay3,(nR rfl rfl ⟨.inl #[v6],#[GM]⟩)⟩))⟩)))⟩))⟩)));exact⟨by rw [hy.len]; lia,rfl,hy.snoc (bC _ #[O]) (aR _ #[O])⟩
    ·rintro ys H8 ⟨rfl,hy⟩;exact⟨rfl,hy⟩
   ·rintro ys H6 ⟨rfl,vs,rfl,As,IJ⟩ D3 yI;rw [zqR w9] at As;refine⟨by rw [aA]; lia,s4.trans (zb yI),us++[D3],vv++[vs],#[M],cL (n4.same (zb yI)) zc,by rw [aO,qH]; rfl,tL.snoc As IJ⟩
  ·rintro ys H4 D3 ⟨s4,us,vv,rfl,n4,qH,tL⟩ yI;have sf:=sA.trans s4;exact q D3 us vv _ (sf.free yI) (sf.trans (zb yI)) zc (n4.same (zb yI)) qH tL
noncomputable def W3 (H:Hp):List Addr->List (Int×Int×Nat)->Prop:=Paired fun b q=>H b=some (.tup [.int q.1,.int q.2.1,.int (q.2.2:Int)])
theorem W3.same (s:zr H H') {bs:List Addr} {nW:List (Int×Int×Nat)} (h:W3 H bs nW):W3 H' bs nW:=fg #[QM] h
noncomputable def znV (p:Int) (nW:List (Int×Int×Nat)):Prop:=∀ q∈nW,0<=q.1/\q.1 < p/\0<=q.2.1/\q.2.1 < p/\1<=q.2.2/\q.2.2<=9
theorem znW {nW:List (Int×Int×Nat)} {q:Int×Int×Nat} {i:Nat} (h:nW[i]? = some q):zbx (nW.take (i+1))=zbx #[Uh]+tri q.2.2:=by
 unfold zbx;rw [take_snoc h,aN,ji];simp
theorem zqS (nW:List (Int×Int×Nat)) (i:Nat):zbx #[Uh]<=zbx nW:=by
 conv=>rhs; rw [<- dh i nW]
 unfold zbx;rw [aN,ji];lia
noncomputable def zgm (K:aF):Sp:=fun vs H Q _=>∃ (p:Int) (tl pl:Addr) (bs cs:List Addr) (ts:List Tm) (nW:List (Int×Int×Nat)),vs = [.int p,.ref tl,.ref pl]/\5<=p/\p<=97/\H tl=some #[RZ]/\PtB H bs #[VO]/\ts≠[]/\ts.length<=200/\(∀ t∈ts,t.1<=400/\t.2<=400)/\H pl=some #[RF]/\W3 H cs nW/\znV p nW/\zbx nW<=199/\nW.length<=1000 /\
 ∀ (l:Addr) (ls:List Addr) (vv:List #[wp]) (H':Hp),H l=none->zr H H'->H' l=some #[O9]->LsA H' ls vv->vv.length=ts.length->zci p (zbx nW) vv->Q #[Pm] H'
theorem zbI:Kf ["p","terms","points","vectors","point"] ["p","terms","points"] (zi zbi):=#[S]
theorem zgn (T:Txt K mg t) (F:Fun K "vectors_of" "vectors_of" zbi t.K4 fd):Kn P w K mg base CX0 4 t.K4 fd ["p","terms","points"] (zgm K):=by
 obtain⟨yR,qj,tM⟩:=T.K0;have tN:=zgl (P:=P) (w:=w) (base:=base) T qj;refine F.ok zbI #[sn] #[mt]
 ·obtain⟨p,tl,pl,bs,cs,ts,nW,rfl,_⟩:=h;rfl
 ·obtain⟨p,tl,pl,bs,cs,ts,nW,rfl,p5,qX,qJ,qm,oH,nV,Ar,oT,vW,hg,hL,hn,q⟩:=h;refine zaJ ?_; intro zX;refine⟨_,#[ze,#[za8,3,zbI.nd,#[A],(Kg.of (N':=["term"]) (ix:=[none]) (zi zbi) _ rfl rfl rfl),#[zZ],#[VS],#[pc],#[re],(fun _ _ _ _=>#[Si])],#[ze,#[zah,bN,#[zad,#[GT]],#[zg,4,zbI.nd,#[A]],#[zl,#[za8,3,zbI.nd,#[A],(Kg.of (N':=["vector","numbers"]) (ix:=[none,none]) (zi zbi) _ rfl rfl rfl),#[wv],#[zdT,T.Nu,#[za,#[NE],#[ya,#[zq,tN,#[sK],T.MG,qj.kp,tM,#[zK],#[za,#[AT],#[za,#[Id],#[RS]]]]]]],#[or],#[re],(fun _ _ _ _=>#[zh,#[zcJ],#[AT],#[Id]])]]],#[Sl]]],?_⟩;refine zep ?_; intro pQ pG;have pd:=bJ;have uk:bs.length=ts.length:=by rw [bF qm,aA]
  have uP:=bF vW;refine (nN rfl ⟨tl,rfl,⟨_,nO.of qJ⟩,zao (n:=ts.length) (fun m ys H'=>zr H H'/\∃ (us:List Addr) (vv:List #[wp]),ys=us.map V.ref/\LsA H' us vv/\vv.length=m/\zci p 0 vv) ⟨fun _ _ e=>e,[],[],rfl,.nil,rfl,fun v hv=>by cases hv⟩ ?_ ?_ ?_ ?_⟩)
  ·rintro m ys H4 hm ⟨s4,_⟩;exact⟨_,.ref (bs[m]'#[O]),nO.of (s4 _ _ qJ),by rw [aD,aG #[O]]; rfl⟩
  ·rintro ys H4 ⟨s4,_⟩;exact⟨_,nO.of (s4 _ _ qJ),by rw [aA]; lia⟩
  ·rintro zS zT zE m z ys H4 H5 hm ⟨s4,us,vv,rfl,n4,qH,tL⟩ ⟨rfl,hx⟩;have hz:us.length=m:=by rw [bF n4,qH]
   refine gY ?_;exact⟨bW _,fun D hD=>⟨by rw [aA]; lia,s4.trans (zb hD),us++[D],vv++[[]],#[M],cL #[O6] zc,by rw [aO,qH]; rfl,tL.snoc rfl fun c hc=>by cases hc⟩⟩
  ·rintro ys H4 V0 ⟨s4,us,vv,rfl,n4,qH,tL⟩ hV;have sV:=s4.trans (zb (o:=.lst #[KK]) hV);refine (nN rfl ⟨pl,rfl,⟨_,nO.of (sV _ _ oT)⟩,zbE (K:=K) (a:=pl) (xs:=cs.map V.ref) (fun i σ H'=>∃ (vl:Addr) (ls:List Addr) (vv:List #[wp]) (e4:Option V),σ = [some #[PC],some (.ref tl),some (.ref pl),some (.ref vl),e4]/\zr H H'/\H vl=none/\H' vl=some #[O9]/\LsA H' ls vv/\vv.length=ts.length/\zci p (zbx #[Uh]) vv) (ex4 V0 us vv none ⟨rfl,sV,s4.free hV,zc,n4.same (zb hV),qH,tL⟩) ?_ ?_ ?_⟩)
   ·rintro i σ H' _ ⟨vl,ls,vv,e4,rfl,s,_⟩;exact nO.of (s _ _ oT)
   ·rintro zD zT i x σ H5 hx ⟨vl,ls,vv,e4,rfl,s5,qH,h5,oG,Ey,tL⟩;obtain⟨b,rfl,hb⟩:=zN hx;obtain⟨⟨px,py,pw⟩,hq,Cj⟩:=Paired.get vW hb;obtain⟨g1,g2,g3,g4,g5,g6⟩:=hg _ (aL hq);refine (nN rfl (nN rfl (nN rfl (nN rfl (ex8 p tl b px py pw bs ts ⟨rfl,p5,qX,g1,g2,g3,g4,g5,g6,s5 _ _ qJ,qm.same s5,oH,nV,Ar,s5 _ _ Cj,fun nl nls nv H6 FZ s6 h6 g6' xQ hgn=>?_⟩)))));have F0:=s6 _ _ h5;have IS:=oG.same s6;have l1:ls.length=ts.length:=by rw [bF oG,Ey]
    have l2:nls.length=ts.length:=by rw [bF g6',xQ]
    refine (ex4 vl nl _ _ ⟨rfl,nO.of F0,nO.of h6,zao (n:=ts.length) (fun m ys H'=>zr H6 H'/\∃ (us:List Addr) (vv:List #[wp]),ys=us.map V.ref/\LsA H' us vv/\vv.length=m/\zci p (zbx (nW.take (i+1))) vv) ⟨fun _ _ e=>e,[],[],rfl,.nil,rfl,fun v hv=>by cases hv⟩ ?_ ?_ ?_ ?_⟩)
    ·rintro m ys H7 hm ⟨s7,_⟩;exact⟨_,_,.ref (ls[m]'#[O]),.ref (nls[m]'#[O]),nO.of (s7 _ _ F0),nO.of #[Uf],by rw [aD,aG #[O]]; rfl,by rw [aD,aG #[O]]; rfl⟩
    ·rintro ys H7 ⟨s7,_⟩;exact⟨_,_,nO.of (s7 _ _ F0),nO.of #[Uf],by rw [aA,aA]; lia⟩
    ·rintro zS zT zE m z ys H7 H8 hm ⟨s7,us,IT,rfl,n4,Au,Ck⟩ ⟨T,u,v,hT,rfl,rfl,hu,hv⟩;obtain⟨b1,rfl,ql⟩:=zN (hu _ (nO.of (s7 _ _ F0)));obtain⟨b2,rfl,uU⟩:=zN (hv _ (nO.of #[Uf]));obtain⟨w1,hw1,IU⟩:=Paired.get IS ql;obtain⟨w2,hw2,IV⟩:=Paired.get g6' uU;obtain⟨a1,a2⟩:=tL w1 (aL hw1);obtain⟨F1,F2⟩:=hgn w2 (aL hw2);have hz:us.length=m:=by rw [bF n4,Au]
     refine gY2 #[SJ] ?_;have sT:=s7.trans (zb (o:=.tup [.ref b1,.ref b2]) hT);have Ez:=n4.same (zb (o:=.tup [.ref b1,.ref b2]) hT);generalize nQ H7 T (.tup [.ref b1,.ref b2])=H8 at sT Ez |-;have lv:=zqS nW (i+1);have ev:=znW hq;have lz:(w1++w2).length=zbx (nW.take (i+1)):=by rw [aO,ev,a1,F1]
     refine (nN rfl (nN rfl (ex4 b1 b2 _ _ ⟨rfl,rfl,sT _ _ IU,sT _ _ IV,(by rw [aO] at lz; rw [aA,aA]; lia),fun D hD=>⟨by rw [aA]; lia,sT.trans (zb hD),us++[D],IT++[w1++w2],#[M],cL (Ez.same (zb hD)) (by rw [zc,aN]),by rw [aO,Au]; rfl,Ck.snoc lz fun c hc=>(bO.mp hc).elim (a2 c) (F2 c)⟩⟩)))
    ·rintro ys H7 D ⟨s7,us,IT,rfl,n4,Au,Ck⟩ hD;have s57:=s6.trans s7;exact (ex4 D us IT _ ⟨rfl,(s5.trans s57).trans (zb hD),(s5.trans s57).free hD,zc,n4.same (zb hD),Au,Ck⟩)
   ·rintro σ H5 ⟨vl,ls,vv,e4,rfl,s5,qH,h5,oG,Ey,tL⟩;rw [aA,uP,aY (aH _)] at tL;exact (nN rfl (q vl ls vv _ qH s5 h5 oG Ey tL))
noncomputable def tK (t:Tm):List Key:=[eG (t.1:Int),eG (t.2:Int)]
theorem znX {t u:Tm} (h:tK t=tK u):t=u:=by
 unfold tK at h;injection h with h1 h2
 injection h2 with h2 _
 have e1:(t.1:Int)=u.1:=ko h1;have e2:(t.2:Int)=u.2:=ko h2;exact mK #[O] #[O]
theorem znY {ts:List Tm} (h:ts.Nodup):#[QX].Nodup:=by
 rw [eQ,dO];exact mB (fun oH e=>oH (znX e)) h
theorem zqT {bs:List Addr} {ts:List Tm} (h:PtB H bs #[VO]):KyA H #[AC] #[QX]:=by
 induction ts generalizing bs with
 | nil=>cases h; exact .nil
 | cons t ts ih =>
  cases h with
  | cons h1 h2=>exact .cons ⟨_,rfl,h1⟩ (ih h2)
noncomputable def zhG (K:aF):Sp:=fun vs H Q _=>∃ (p:Int) (tl pl:Addr) (bs cs:List Addr) (ts:List Tm) (nW:List (Int×Int×Nat)),vs = [.int p,.ref tl,.ref pl]/\p∈zG/\H tl=some #[RZ]/\PtB H bs #[VO]/\ts.Nodup/\ts.length=zbx nW+1/\ts.length<=200/\(∀ t∈ts,t.1<=400/\t.2<=400)/\H pl=some #[RF]/\W3 H cs nW/\znV p nW/\nW.length<=1000 /\
 ∀ (D:Addr) (c:List Int) (m:Nat) (H':Hp),H D=none->zr H H'->H' D=some (.dT (#[QX].zip #[Ql]))->IsP p (m+1) c->m < ts.length->gl c m=1->Q #[Pt] H'
theorem zek:Kf ["p","terms","points","relation"] ["p","terms","points"] (zi zbM):=#[S]
theorem zhH (T:Txt K mg t) (F:Fun K "first_sum" "first_sum" zbM t.KY fd):Kn P w K mg base CX0 5 t.KY fd ["p","terms","points"] (zhG K):=by
 obtain⟨vQ,o7,qC⟩:=T.Ko;have qD:=zej (P:=P) (w:=w) (base:=base) T o7;obtain⟨yS,qk,tO⟩:=T.KZ;have tP:=zgn (P:=P) (w:=w) (base:=base) T qk;refine F.ok zek #[sn] #[mt]
 ·obtain⟨p,tl,pl,bs,cs,ts,nW,rfl,_⟩:=h;rfl
 ·obtain⟨p,tl,pl,bs,cs,ts,nW,rfl,hp,qJ,qm,pU,nV,qg,Ar,oT,vW,hg,hn,q⟩:=h;have hu:(A.deeper (envOfC (cJ "first_sum") (zi zbM) s.heap.objs.size t.KY oh)).units+20 < cLine:=by have:=hr.units; lia
  refine zaJ ?_; intro zX;refine⟨_,#[ze,#[zm,3,zek.nd,#[A],#[zq,qD,#[sK],T.LD,o7.kp,qC,#[zK],#[za,#[AT],#[ya,#[zq,tP,#[sK],T.MF,qk.kp,tO,#[zK],#[S8]]]]]],#[zl,#[zC,(zjE (jx (lJ (show 2<=20 by decide) _) hu) rfl rfl T.Of rfl T.Nu #[za,#[Id],#[Sj]])]]],?_⟩;refine zlc ?_; intro pG;have pd:=bJ;have rp:=zO hp;have oH:ts≠[]:=fun e=>by rw [e] at nV; simp at nV
  refine (nN rfl (nN rfl (nN rfl (nN rfl (ex7 p tl pl bs cs ts nW ⟨rfl,#[O],#[O],qJ,qm,oH,qg,Ar,oT,vW,hg,#[O],hn,fun vl vls vv H1 qH s1 h1 g1 Ey tL=>?_⟩)))));refine (ex5 p vl vls vv (zbx nW) ⟨rfl,h1,g1,#[O],#[O],tL,hp,fun l c m H2 hl s2 h2 hc hm EA=>?_⟩);rw [Ey] at hm;have wA:=s1.trans s2;exact (nN rfl (nN rfl (ex5 tl l _ _ _ ⟨rfl,nO.of (wA _ _ qJ),nO.of h2,zqT (qm.same wA),znY pU,fun D H3 yI s3 h3=>q D c m H3 (wA.free yI) (wA.trans s3) h3 hc hm EA⟩)))
noncomputable def zf0 (K:aF):Sp:=fun vs H Q _=>∃ (k many:Nat),vs = [.int (k:Int),.int (many:Int)]/\2<=k/\k<=100/\many<=300 /\
 ∀ (l:Addr) (us:List Addr) (S:Nat) (H':Hp),H l=none->zr H H'->H' l=some #[Tj]->PtB H' us ((#[RI].take many).map tI)->S<=many->many<=#[RI].length->Q #[Pm] H'
theorem zhI (k s:Nat):(tms k s).length=s / (k - 1)+1:=by unfold tms; rw [aA,bR]
theorem zpi {us:List Addr} {q:List (Int×Int)} (h:PtB H us q) (m:Nat):PtB H (us.take m) (q.take m):=by
 induction h generalizing m with
 | nil=>simp; exact .nil
 | cons h1 _ ih =>
  cases m with
  | zero=>exact .nil
  | succ m=>exact .cons h1 (ih m)
theorem znZ {F:Addr} {xs:List V} {o:HO} {us:List Addr} {q:List (Int×Int)} (h:PtB H us q) (hF:H F=some #[P9]):PtB (nQ H F o) us q:=fg (fun b v z=>by rw [zp (fun e=>by rw [e,hF] at z; cases z)]; exact z) h
theorem zqU {us vs:List Addr} {q r:List (Int×Int)} (h1:PtB H us q) (h2:PtB H vs r):PtB H (us++vs) (q++r):=by
 induction h1 with
 | nil=>exact h2
 | cons a _ ih=>exact .cons a ih
theorem zbe:Kf ["k","many","terms","size"] ["k","many"] (zi zbm):=#[S]
theorem zf1 (T:Txt K mg t) (F:Fun K "first_terms" "first_terms" zbm t.KL fd):Kn P w K mg base CX0 1 t.KL fd ["k","many"] (zf0 K):=by
 refine F.ok zbe #[sn] #[mt]
 ·obtain⟨k,many,rfl,_⟩:=h;rfl
 ·obtain⟨k,many,rfl,k2,Av,hm,q⟩:=h;refine zaJ ?_; intro zX;refine⟨_,#[ze,#[zm,2,zbe.nd,#[A],#[Si]],#[ze,#[zm,3,zbe.nd,#[PU],#[zf]],#[ze,#[zfm,bN,#[zJ,#[zgv],#[Qi],#[Id],(zV _)],#[ze,#[zjc,2,zbe.nd,#[A],#[zI,(Kg.of (N':=["j","size","k"]) (ix:=[none,some 3,some 0]) (zi zbm) _ rfl rfl rfl),#[zZ],#[zU,T.Ki,#[ya,#[zh,#[zB],#[zh,#[zbU],#[NE],#[zh,#[zam],#[AT],#[zf]]],#[zf]]]],#[pc],#[re],(fun _ _ _ _=>#[zap,#[za,#[zh,#[zam],#[Id],#[zh,#[zQ],#[Pz],#[AT]]],#[QC]]])],znr],#[zl,#[zjc,3,zbe.nd,#[PU],#[zf],zon]]]],#[zl,#[zC,#[zay,zby,#[GT],#[zbg],#[zaA,#[Id]]]]]]]],?_⟩;refine zg4 ?_; intro rS pQ pG;have pd:=bJ;refine⟨bW _,fun TL hTL=>?_⟩;refine⟨fun μ σ H'=>∃ (S:Nat) (us:List Addr),μ=many+1 - S/\S<=many/\σ = [some (.int (k:Int)),some (.int (many:Int)),some (.ref TL),some (.int (S:Int))]/\zr H H'/\H' TL=some #[Tj]/\PtB H' us (#[RI].map tI),(ex3 (many+1) 0 ([]) ⟨rfl,bW _,rfl,zb hTL,zc,.nil⟩),?_⟩;rintro μ σ H1 ⟨S,us,rfl,hS,rfl,s1,h1,n4⟩;have uo:us.length=#[RI].length:=by rw [bF n4,aA]
  have hSl:=zgP k S;refine (nN rfl ⟨TL,#[Vj]⟩);rw [aA,uo];refine zaR #[U5] #[U4]
  ·have n6:=of_decide_eq_true n6;have n6:#[RI].length < many:=by lia
   refine⟨fun σ' H'=>∃ m',m' < many+1 - S/\∃ (S:Nat) (us:List Addr),m'=many+1 - S/\S<=many/\σ' = [some (.int (k:Int)),some (.int (many:Int)),some (.ref TL),some (.int (S:Int))]/\zr H H'/\H' TL=some #[Tj]/\PtB H' us (#[RI].map tI),fun _ _ z=>z,?_⟩;have k1:0 < k - 1:=by lia
   have ek:((k:Int) - 1)=((k - 1:Nat):Int):=by lia
   have eN:((S:Int) / ((k:Int) - 1)+1)=((S / (k - 1)+1:Nat):Int):=by
    rw [ek];exact congrArg (· + 1) (j6 S (k - 1)).symm
   have hq:S / (k - 1)<=S:=km _ _;refine (nN rfl #[RU]);refine⟨(S:Int) / ((k:Int) - 1)+1,rfl,by rw [eN]; exact cW #[D] (l9 _),by rw [eN]; exact jy (Int.ofNat_le.mpr (show S / (k - 1)+1<=301 from iU (bX hq #[O]))) #[D],?_⟩;rw [eN,cG];refine zao (n:=S / (k - 1)+1) (fun m ys H'=>zr H1 H'/\∃ vs:List Addr,ys=vs.map V.ref/\PtB H' vs (((tms k S).take m).map tI)) ⟨fun _ _ e=>e,[],rfl,.nil⟩ #[Pb] #[OC] ?_ ?_
   ·rintro zS zT zE j x ys H2 H3 hj ⟨s2,vs,rfl,As⟩ ⟨rfl,rfl⟩;rw [show ((0:Int)+(j:Int))=(j:Int) from cV _];have uZ:(k - 1)*j<=S:=by
     have:=(gO k1).mp (show j<=S / (k - 1) by lia);rw [io]; exact this
    have qH:vs.length=j:=by rw [bF As,aA,aU,zhI]; lia
    have eV:(S:Int) - ((k:Int) - 1)*(j:Int)=((S - (k - 1)*j:Nat):Int):=by
     rw [ek,ng uZ,jj]
    refine gY ?_;refine (nN rfl (nN rfl (nR rfl rfl (nN rfl (nR rfl rfl ⟨.inl #[v6],(nR rfl rfl (nN rfl ⟨by show 2<=sizeLine; lia,fun T hT=>?_⟩))⟩)))));have Dd:(tms k S)[j]? = some (S - (k - 1)*j,j):=by unfold tms; rw [aD,cR hj]; rfl
    refine⟨by rw [aA]; lia,s2.trans (zb hT),vs++[T],#[M],?_⟩;rw [take_snoc Dd,aN];refine cL (As.same (zb hT)) ?_;rw [zc];show some (HO.tup [V.int ((S:Int) - ((k:Int) - 1)*(j:Int)),V.int (j:Int)])=_;rw [eV];rfl
   ·rintro ys H2 D ⟨s2,vs,rfl,As⟩ hD;rw [aY (by rw [zhI]; exact aH _)] at As;have sD:=s2.trans #[V2];have qH:vs.length=S / (k - 1)+1:=by rw [bF As,aA,zhI]
    refine (ex4 TL D _ _ ⟨rfl,rfl,sD _ _ h1,zc,by rw [aA,aA]; lia,?_⟩);refine (nN rfl #[IR]);refine⟨many+1 - (S+1),#[O],S+1,us++vs,rfl,#[O],rfl,zac (s1.trans sD) hTL,by rw [zc,aN],?_⟩;rw [zcR,aN];have a1:=znZ (o:=.lst #[V4]) (n4.same sD) (sD _ _ h1);have a2:=znZ (o:=.lst #[V4]) (As.same #[V2]) (sD _ _ h1);exact zqU a1 a2
  ·have pO:¬ ((#[RI].length:Int) < (many:Int)):=fun h=>pO #[Sn]
   refine (nN rfl (nN rfl (nN rfl ⟨TL,#[UL]⟩)));have ec:za7 #[KK] none (some (many:Int))=(us.take many).map V.ref:=by
    unfold za7;rw [HT.KG,HT.KE,eY,eK,aA,dU #[O],d9]
   rw [ec];refine q z (us.take many) S _ (s1.free hz) #[U7] zc ?_ hS #[O];have:=(zpi n4 many).same (zb (o:=.lst ((us.take many).map V.ref)) hz);rw [<- d9] at this;exact this
structure Gcv (p:Int) (k size:Nat) (g:Tm->Int):Prop where
 rg:∀ t,0<=g t/\g t < p
 top:∃ t,tz k t=size/\g t≠0
theorem gY3 {i l:Nat} {T:Addr} {x y z:V} {σ:L2.St} {A B:L2.St->Hp->Prop} (hT:nS K H T [x,y,z]) (h:A ((#[OW].set j (some y)).set l (some z)) H) :
  zhW K 3 (zcu (zaT i) (zcu (zaT j) (zcu (zaT l) zja))) (.ref T) σ H (fun σ2 H2=>zov σ2 H2 fun b H3=>if b=true then A σ2 H3 else B σ2 H3):=by
 refine⟨T,_,rfl,hT,rfl,x,_,rfl,y,_,rfl,z,_,rfl,rfl,?_⟩;show (if true=true then A ((#[OW].set j (some y)).set l (some z)) H else B ((#[OW].set j (some y)).set l (some z)) H);rw [if_pos rfl];exact h
theorem zn0 (w:Nat):(w:Int)*((w:Int)+1) / 2=(tri w:Int):=by
 unfold tri;rw [show ((w:Int)*((w:Int)+1))=((w*(w+1):Nat):Int) by rw [jj]; rfl];exact (j6 _ 2).symm
theorem ziU {α:Type} (f:α->Nat):∀ l:List α,(l.map fun q=>(f q:Int)).sum=((l.map f).sum:Int)
 | []=>rfl
 | a :: l=>by
  rw [bV,gV,bV,gV,ziU f l];lia
theorem zkW:∀ {ts:List Tm} {c:List Int} {t:Tm},(zdI (#[QX].zip #[Ql]) (tK t)).getD (.int 0) = .int (gof ts c t)
 | [],_,_=>rfl
 | _ :: _,[],_=>rfl
 | a :: ts,b :: c,t=>by
  have ih:=zkW (ts:=ts) (c:=c) (t:=t);unfold zdI gof at ih |-;rw [bV,bV,gA,gA,cm];by_cases e:t=a
  ·subst e;rw [List.find?_cons_of_pos #[M],beq_self_eq_true];rfl
  ·rw [List.find?_cons_of_neg (by simp; exact fun h=>e (znX h).symm),show (t == a)=false by simpa using e];exact ih
theorem zpj (hk:2<=k) (t:Tm):(t.1:Int)+((k:Int) - 1)*(t.2:Int)=(tz k t:Int):=by
 unfold tz;rw [show ((k:Int) - 1)=((k - 1:Nat):Int) by lia,ki,jj]
theorem zlZ {s:Nat} {g:Tm->Int} (h:j < s / (k - 1)+1):#[VM].take (j+1)=#[VM].take j++[(bM (s - (k - 1)*j+1)).map fun i=>g (i,j)]:=take_snoc (zny h)
noncomputable def zf2 (K:aF):Sp:=fun vs H Q _=>∃ (p:Int) (k:Nat) (pl:Addr) (cs:List Addr) (nW:List (Int×Int×Nat)),vs = [.int p,.int (k:Int),.ref pl]/\p∈zG/\2<=k/\k<=100/\H pl=some #[RF]/\W3 H cs nW/\znV p nW/\zbx nW<=199/\nW.length<=1000 /\
 ∀ (z r:Addr) (ls:List Addr) (size:Nat) (g:Tm->Int) (H':Hp),H z=none->zr H H'->H' z=some (.tup [.int (size:Int),.ref r])->H' r=some #[Ti]->zaZ H' ls (zez k size g)->Gcv p k size g->size<=zbx nW->Q #[QW] H'
theorem zbf:Kf ["p","k","points","asked","found","size","lines"] ["p","k","points"] (zi zaD):=#[S]
theorem zf3 (T:Txt K mg t) (F:Fun K "least_curve" "least_curve" zaD t.Kq fd):Kn P w K mg base CX0 6 t.Kq fd ["p","k","points"] (zf2 K):=by
 obtain⟨Aw,qK,uq⟩:=T.Lh;have ur:=zhH (P:=P) (w:=w) (base:=base) T qK;obtain⟨ye,pV,sj⟩:=T.KQ;have sk:=zf1 (P:=P) (w:=w) (base:=base) T pV;refine F.ok zbf #[sn] #[mt]
 ·obtain⟨p,k,pl,cs,nW,rfl,_⟩:=h;rfl
 ·obtain⟨p,k,pl,cs,nW,rfl,hp,k2,Av,oT,vW,hg,hL,hn,q⟩:=h;have hu:(A.deeper (envOfC (cJ "least_curve") (zi zaD) s.heap.objs.size t.Kq oh)).units+20 < cLine:=by have:=hr.units; lia
  refine zaJ ?_; intro zX;refine⟨_,#[ze,#[zm,3,zbf.nd,#[A],#[zn,#[zet],T.Oa,boot_sum,#[ya,#[zI,(Kg.of (N':=["x","y","weight"]) (ix:=[none,none,none]) (zi zaD) _ rfl rfl rfl),#[zaU,#[zz,#[zz,#[zz,#[zav]]]]],#[zad,#[GT]],(fun _ _ _ _=>#[zaj,(K),3,#[zj,#[zg,0,#[Y],#[A]],#[zj,#[zg,1,#[Y],#[A]],#[zj,#[US],#[zA]]]]]),#[re],(fun _ _ _ _=>#[zh,#[zbU],#[zh,#[zQ],#[GT],#[zh,#[zB],#[GT],#[zf]]],#[zf]])]]]],#[ze,#[zm,4,zbf.nd,#[PU],#[zq,ur,#[sK],T.MR,qK.kp,uq,#[zK],#[za,#[AT],#[za,#[zq,sk,#[sK],T.Mh,pV.kp,sj,#[zK],#[za,#[Id],#[ya,#[zh,#[zB],#[NE],#[zf]]]]],#[OX]]]]],#[ze,#[zm,5,zbf.nd,#[PU],#[zn,#[za4],T.MP,fC,#[ya,#[zI,(Kg.of (N':=["i","j","k"]) (ix:=[none,none,some 1]) (zi zaD) _ rfl rfl rfl),#[wv],(@zrA _ _ _ _ #[OD]),#[or],#[re],#[Vn]]]]],#[ze,#[za8,6,zbf.nd,#[A],(Kg.of (N':=["j","size","k","found"]) (ix:=[none,some 5,some 1,some 4]) (zi zaD) _ rfl rfl rfl),#[zZ],#[zU,T.Ki,#[ya,#[zh,#[zB],#[zh,#[zbU],#[Pf],#[zh,#[zam],#[Id],#[zf]]],#[zf]]]],(fun _ _ _ _=>#[zg,0,#[Y],#[PU]]),#[re],(fun _ _ _ _=>#[zW,#[TX],T.KC,eR,#[ya,#[zI,(Kg.of (N':=["i","found","j"]) (ix:=[none,some 3,some 0]) ({ kind:=.function,names:=[(".0",.local),("j",.cell),("tuple",.globalImplicit),("range",.globalImplicit),("found",.cell),("k",.cell),("size",.cell)],isGenerator:=false,isCoroutine:=false }) _ (by with_unfolding_all rfl) rfl rfl),#[zZ],#[zU,T.Ki,#[ya,#[zh,#[zB],#[zh,#[zam],#[Id],#[zh,#[zQ],#[Pz],#[AT]]],#[zf]]]],#[pc],#[re],(fun _ _ _ _=>(@zmX _ _ _ _ _ _ _ _ _ (jx (lJ (show 1<=20 by decide) _) hu) #[Id] #[zap,#[za,#[AT],#[OX]]] #[zf] ⟨rfl,rfl,rfl,rfl⟩))]]])],#[zl,#[zC,#[zap,#[za,#[Pf],#[ya,#[zW,#[zai],T.KC,eR,#[Qa]]]]]]]]]]],?_⟩;refine zmu ?_; intro xq rS pQ pG;have pd:=bJ;have rp:=zO hp;have uP:=bF vW;refine (nN rfl ⟨pl,rfl,⟨_,nO.of oT⟩,zbh (fs:=(nW.map fun q=>(tri q.2.2:Int)).map V.int) (nO.of oT) (by rw [aA,aA,aA,uP]) (by rw [aA]; lia) #[FS] (fun D0 EB=>?_)⟩)
  ·obtain⟨b,rfl,hb⟩:=zN hx;obtain⟨⟨px,py,pw⟩,hq,Cj⟩:=Paired.get vW hb;have hw9:=(hg _ (aL hq)).2.2.2.2.2;rw [aD,aD,hq] at hy;have hy:V.int (tri pw:Int)=y:=by simpa using hy
   subst hy;refine gY3 (nS.of Cj) ?_;have hw9:pw<=9:=hw9;refine (nN rfl (nN rfl (nR rfl rfl (nR rfl rfl ⟨.inl #[v6],(nR rfl rfl ⟨#[OP],?_⟩)⟩))));show R (.int ((pw:Int)*((pw:Int)+1) / 2)) _;rw [zn0];exact hR
  refine⟨D0,nW.map fun q=>(tri q.2.2:Int),rfl,nO.of zc,?_⟩;rw [ziU,show (nW.map fun q=>tri q.2.2).sum=zbx nW from rfl];have s0:=zb (o:=.lst ((nW.map fun q=>(tri q.2.2:Int)).map V.int)) EB;generalize nQ H D0 (.lst ((nW.map fun q=>(tri q.2.2:Int)).map V.int))=H0 at s0 |-;refine (nN rfl (nN rfl (nN rfl (nR rfl rfl ⟨k,zbx nW+1,rfl,k2,Av,#[O],fun tl us S H1 qJ s1 h1 qm hS1 hS2=>?_⟩))));have vm:=s0.trans s1;have IW:∀ t∈#[RI].take #[TQ],tz k t < S:=fun t ht=>(zey k2).mp (eC ht)
  have tle:∀ t:Tm,t.1<=tz k t/\t.2<=tz k t:=fun t=>⟨by unfold tz; lia,by
   unfold tz;have:1*t.2<=(k - 1)*t.2:=Nat.mul_le_mul_right _ #[O];lia⟩
  have pU:(#[RI].take #[TQ]).Nodup:=List.Sublist.nodup (dC _ _) (zeJ k2 S);have nV:(#[RI].take #[TQ]).length=zbx nW+1:=by rw [aU]; lia
  refine (nN rfl (ex7 p tl pl us cs (#[RI].take #[TQ]) nW ⟨rfl,hp,h1,qm,pU,nV,#[O],fun t ht=>?_,vm _ _ oT,vW.same vm,hg,hn,fun D c m H2 hD s2 h2 hc hm EA=>?_⟩))
  ·have:=IW t ht;have:=tle t;lia
  rw [nV] at hm;have wC:=vm.trans s2;have hDn:H D=none:=vm.free hD;obtain⟨top,Ax⟩:∃ top,((za1 k S).take (zbx nW+1))[m]? = some top:=⟨(#[RI].take #[TQ])[m]'#[O],aG _⟩;have LS:Gcv p k (tz k top) (gof (#[RI].take #[TQ]) c):=⟨zo8 #[O] hc.2,top,rfl,by rw [znx pU Ax,EA]; decide⟩;have hso:(#[RI].take #[TQ]).Pairwise fun a b=>tz k a<=tz k b:=i7 (dC _ _) (zeb k2 S)
  have EC:=IW top (aL Ax);generalize #[RI].take #[TQ]=ts at *;have Ce:c.length=m+1:=hc.1;have IX:(#[QX].zip #[Ql]).length=m+1:=by rw [m8,aA,aA]; lia
  refine (nN rfl ⟨D,(nN rfl ⟨h2,fun o=>?_⟩)⟩);have s3:zr H (nQ H2 D (.frz o (.dT (#[QX].zip #[Ql])))):=zac wC hDn;have h3:nQ H2 D (.frz o (.dT (#[QX].zip #[Ql]))) D=some (.frz o (.dT (#[QX].zip #[Ql]))):=zc;generalize nQ H2 D (.frz o (.dT (#[QX].zip #[Ql])))=H3 at s3 h3 |-;refine zao (n:=m+1) (fun i ys H'=>H'=H3/\ys=((ts.take i).map fun t=>(tz k t:Int)).map V.int) ⟨rfl,rfl⟩ ?_ ?_ ?_ ?_
  ·rintro i ys H' hi ⟨rfl,_⟩;exact⟨h3,#[O]⟩
  ·rintro ys H' ⟨rfl,_⟩;exact⟨h3,#[O]⟩
  ·rintro zS zT zE i x ys H' H4 hi ⟨rfl,rfl⟩ ⟨rfl,a,ky,rfl,FK,ha⟩;have F3:ts[i]? = some (ts[i]'#[O]):=aG #[O];have ek:ky=tK (ts[i]'#[O]):=by
    rw [aD] at FK;obtain⟨q',pC,rfl⟩:=iS.mp FK;have pz:(#[QX].zip #[Ql])[i]? = some (q'.1,q'.2):=pC;rw [ie,aD,F3] at pz;exact (bK pz.1).symm
   subst ek;generalize ts[i]'#[O]=tt at F3 ha;have C6:tz k tt < S:=IW tt (aL F3);have:=tle tt;refine gY2 (nS.of (xs:=[.int (tt.1:Int),.int (tt.2:Int)]) ha) ?_;refine (nN rfl (nN rfl (nR rfl rfl (nN rfl (nR rfl rfl ⟨.inl #[v6],#[IR]⟩)))));refine⟨by rw [aA,aA,aU]; lia,rfl,?_⟩;show _++[V.int ((tt.1:Int)+((k:Int) - 1)*(tt.2:Int))]=_;rw [zpj k2,take_snoc F3,aN,aN];rfl
  rintro ys H' D2 ⟨rfl,rfl⟩ Aq;refine⟨D2,#[UQ].map fun t=>(tz k t:Int),rfl,nO.of zc,fun e=>?_,fun M hM yd=>?_⟩
  ·have:#[UQ].length=0:=by rw [<- aA (f:=fun t=>(tz k t:Int)),e]; rfl
   rw [aU] at this;lia
  have eM:M=(tz k top:Int):=by
   obtain⟨t',IY,rfl⟩:=bE.mp hM;obtain⟨i',pT⟩:=dF.mp IY;have IZ:i' < m+1:=by have:=(aW.mp pT).1; rw [aU] at this; lia
   rw [df IZ] at pT;have b1:=zlQ hso pT Ax #[O];have b2:=yd (tz k top:Int) (bE.mpr ⟨top,dF.mpr ⟨m,by rw [df #[O]]; exact Ax⟩,rfl⟩);lia
  subst eM;have w4:=zb (o:=.lst ((#[UQ].map fun t=>(tz k t:Int)).map V.int)) Aq;have s4:=s3.trans w4;have h4:=w4 _ _ h3;generalize nQ H' D2 (.lst ((#[UQ].map fun t=>(tz k t:Int)).map V.int))=H4 at s4 h4 |-;have k1:0 < k - 1:=by lia
  have ek1:((k:Int) - 1)=((k - 1:Nat):Int):=by lia
  obtain⟨sz,FG⟩:∃ sz,tz k top=sz:=⟨_,rfl⟩;rw [FG] at LS EC |-;have eN:((sz:Int) / ((k:Int) - 1)+1)=((sz / (k - 1)+1:Nat):Int):=by
   rw [ek1];exact congrArg (· + 1) (j6 sz (k - 1)).symm
  have hqs:sz / (k - 1)<=sz:=km _ _;have Ja:=fun t=>zkW (ts:=ts) (c:=c) (t:=t)
  generalize #[QX].zip #[Ql]=nT at *;generalize gof ts c=g at *;refine #[RU];refine⟨(sz:Int) / ((k:Int) - 1)+1,rfl,by rw [eN]; exact cW #[D] (l9 _),by rw [eN]; exact jy (Int.ofNat_le.mpr (show sz / (k - 1)+1<=301 from iU (bX hqs #[O]))) #[D],?_⟩;rw [eN,cG];refine zao (n:=sz / (k - 1)+1) (fun j ys H'=>zr H4 H'/\∃ us:List Addr,ys=us.map V.ref/\zaZ H' us ((zez k sz g).take j)) ⟨fun _ _ e=>e,[],rfl,.nil⟩ #[Pb] #[OC] ?_ ?_
  ·rintro zS zT zE j x ys H5 H6 hj ⟨s5,us,rfl,n4⟩ ⟨rfl,rfl⟩;rw [show ((0:Int)+(j:Int))=(j:Int) from cV _];have uZ:(k - 1)*j<=sz:=by
    have:=(gO k1).mp (show j<=sz / (k - 1) by lia);rw [io]; exact this
   have uo:us.length=j:=by rw [bF n4,aU,zec]; lia
   have eV:(sz:Int) - ((k:Int) - 1)*(j:Int)+1=((sz - (k - 1)*j+1:Nat):Int):=by
    rw [ek1,ki,ng uZ,jj];rfl
   refine gY ?_;refine (nN rfl (nN rfl (nR rfl rfl (nN rfl (nR rfl rfl ⟨.inl #[v6],#[U9]⟩)))));refine⟨(sz:Int) - ((k:Int) - 1)*(j:Int)+1,rfl,by rw [eV]; lia,by rw [eV]; lia,?_⟩;rw [eV,cG];refine zao (n:=sz - (k - 1)*j+1) (fun i ys H'=>zr H6 H'/\ys=((bM i).map fun i=>g (i,j)).map V.int) #[Qy] #[Pb] #[OC] ?_ ?_
   ·rintro zS zT zE i x ys H7 H8 hi ⟨s7,rfl⟩ ⟨rfl,rfl⟩;rw [show ((0:Int)+(i:Int))=(i:Int) from cV _];have h7:=(s5.trans s7) _ _ h4;refine gY ?_;refine (nN rfl ⟨D,rfl,.inr ⟨nT,.inr ⟨o,h7⟩⟩,(nN rfl (nN rfl ⟨by show 2<=sizeLine; lia,fun T hT=>?_⟩))⟩);have wT:=zb (o:=.tup [.int (i:Int),.int (j:Int)]) hT;refine⟨_,.inr ⟨nT,tK (i,j),T,.inr ⟨o,wT _ _ h7⟩,rfl,zc,rfl⟩,?_⟩;rw [Ja];refine⟨by rw [aA,aA,bR]; lia,s7.trans wT,?_⟩;rw [dq,aN,aN];rfl
   ·rintro ys H7 D5 ⟨s7,rfl⟩ hD5;refine⟨D5,#[Qc]⟩;have w7:=(s7.trans (zb (o:=.lst (((bM (sz - (k - 1)*j+1)).map fun i=>g (i,j)).map V.int)) hD5)).trans (zb (o:=.tup (((bM (sz - (k - 1)*j+1)).map fun i=>g (i,j)).map V.int)) hl);refine⟨by rw [aA]; lia,s5.trans w7,us++[l],#[M],?_⟩;rw [zlZ hj];exact cL (n4.same w7) zc
  ·rintro ys H5 L1 ⟨s5,us,rfl,n4⟩ xP;rw [aY (by rw [zec]; exact aH _)] at n4;have w5:=s5.trans (zb (o:=.lst #[KK]) xP);have Jb:=n4.same (zb (o:=.lst #[KK]) xP);refine (nN rfl (nN rfl ⟨L1,(nN rfl (.inl ⟨nO.of zc,fun r hr=>?_⟩))⟩));have w6:=w5.trans (zb (o:=.tup #[KK]) hr);have Jc:=Jb.same (zb (o:=.tup #[KK]) hr);refine⟨by show 2<=sizeLine; lia,fun z hz=>?_⟩;have sf:=s4.trans w6;have wz:=zb (o:=.tup [.int (sz:Int),.ref r]) hz;exact q z r us sz g _ (sf.free hz) (sf.trans wz) zc (wz _ _ zc) (Jc.same wz) LS #[O]
noncomputable def zeY (K:aF):Sp:=fun vs H Q _=>∃ (k:Nat),vs = [.int (k:Int)]/\2<=k/\Q .non H
theorem zeZ:Kf ["k"] ["k"] (zi zbD):=#[S]
theorem zcZ (T:Txt K mg t) (F:Fun K "check_curves" "check_curves" zbD t.Kx fd):Kn P w K mg base CX0 1 t.Kx fd ["k"] (zeY K):=by
 refine F.ok zeZ #[sn] #[mt]
 ·obtain⟨k,rfl,_⟩:=h;rfl
 ·obtain⟨k,rfl,h1,q⟩:=h;refine zaJ ?_; intro zX;refine⟨_,#[zl,#[zbj,#[zJ,#[zgv],#[AT],#[zf],(zV _)],#[zgq],#[zan]]],?_⟩;refine #[Po];exact zaR #[S9] (fun _=>q)
noncomputable def wpt (m:Nat) (l:List (Int×Int)):List (Int×Int×Nat):=l.map fun q=>(q.1,q.2,m)
theorem zf4 (m:Nat):∀ l,zbx (wpt m l)=l.length*tri m
 | []=>by simp [zbx,wpt]
 | a :: l=>by
  have ih:=zf4 m l;unfold zbx wpt at ih |-
  (simp only [bV,gV,dw])
  rw [ih,Nat.add_mul];lia
noncomputable def zhJ (K:aF):Sp:=fun vs H Q _=>∃ (c tt r:Addr) (p:Int) (k m:Nat) (pl:List Int) (rw:List #[Op]),vs = [.ref c,.ref r,.int (m:Int)]/\zbP H c tt p k pl/\H r=some #[Pa]/\rw.length=pl.length/\pl.length<=16/\p∈zG/\pl.Nodup/\(∀ x∈pl,0<=x/\x < p)/\(∀ z,some z∈rw->0<=z/\z < p)/\2<=k/\k<=100/\1<=m/\m<=9/\#[IO].length*tri m<=199 /\
 ∀ (z r:Addr) (ls:List Addr) (size:Nat) (g:Tm->Int) (H':Hp),H z=none->zr H H'->H' z=some (.tup [.int (size:Int),.ref r])->H' r=some #[Ti]->zaZ H' ls (zez k size g)->Gcv p k size g->size<=#[IO].length*tri m->Q #[QW] H'
theorem zbZ:Kf ["code","row","m","p","k","places"] ["code","row","m"] (zi zbO):=#[S]
theorem zhK (T:Txt K mg t) (F:Fun K "curve_for" "curve_for" zbO t.Ln fd):Kn P w K mg base CX0 7 t.Ln fd ["code","row","m"] (zhJ K):=by
 obtain⟨qU,oj,oO⟩:=T.Km;have oP:=zcZ (P:=P) (w:=w) (base:=base) T oj;obtain⟨yf,pW,su⟩:=T.KO;have sv:=zf3 (P:=P) (w:=w) (base:=base) T pW;obtain⟨pE,nZ,om⟩:=T.Kj;have oo:=zbQ (P:=P) (w:=w) (base:=base) T nZ;refine F.ok zbZ #[sn] #[mt]
 ·obtain⟨c,tt,r,p,k,m,pl,rw,rfl,_⟩:=h;rfl
 ·obtain⟨c,tt,r,p,k,m,pl,rw,rfl,hc,qT,pD,hn,hp,pU,oT,rA,h1,k1,m1,m9,hA,q⟩:=h;refine zaJ ?_; intro zX;refine⟨_,#[ze,#[zaO,#[AT],#[zaw,#[zj,#[zg,3,zbZ.nd,#[A]],#[zj,#[zg,4,zbZ.nd,#[A]],#[zj,#[zg,5,zbZ.nd,#[A]],#[zA]]]]]],#[ze,#[zcc,#[zq,oP,#[sK],T.Lc,oj.kp,oO,#[zK],#[RS]]],#[zl,#[zC,#[zq,sv,#[sK],T.Mf,pW.kp,su,#[zK],#[za,#[NE],#[za,#[OD],#[ya,#[zI,(Kg.of (N':=["place","entry","m"]) (ix:=[none,none,some 2]) (zi zbO) _ rfl rfl rfl),#[wv],#[zad,#[Rh]],#[or],#[re],(fun _ _ _ _=>#[zap,#[S8]])]]]]]]]]],?_⟩;refine zep ?_; intro pQ pG;have pd:=bJ;have rp:=zO hp;have hR:NL K H r pl.length rw:=⟨nO.of qT,pD⟩;have hP:=zd5 pU oT rA;have F4:=zbX pl rw;refine⟨_,rfl,c,_,rfl,nS.of hc.1,rfl,_,_,rfl,_,_,rfl,_,_,rfl,rfl,?_⟩;refine (nN rfl ⟨k,rfl,h1,?_⟩);refine (nN rfl (nN rfl #[Qe]));have uk:bs.length=#[IO].length:=hB.length;refine⟨l,rfl,⟨_,nO.of qS⟩,zao (n:=bs.length) (fun i ys H'=>zr H1 H'/\∃ us:List Addr,ys=us.map V.ref/\W3 H' us (wpt m (#[IO].take i))) ⟨fun _ _ e=>e,[],rfl,.nil⟩ ?_ ?_ ?_ ?_⟩
  ·rintro i ys H4 hi ⟨s4,_⟩;exact⟨_,.ref (bs[i]'#[O]),nO.of (s4 _ _ qS),by rw [aD,aG #[O]]; rfl⟩
  ·rintro ys H4 ⟨s4,_⟩;exact⟨_,nO.of (s4 _ _ qS),by rw [aA]; exact aH _⟩
  ·rintro zS zT zE i z ys H4 H5 hi ⟨s4,us,rfl,n4⟩ ⟨rfl,hx⟩;obtain⟨b,rfl,qB⟩:=zN (hx _ (nO.of (s4 _ _ qS)));obtain⟨q',pC,hT⟩:=Paired.get (hB.same s4) qB;have hz:us.length=i:=by rw [bF n4]; unfold wpt; rw [aA,aU]; lia
   refine gY2 (nS.of hT) ?_;refine (nN rfl (nN rfl (nN rfl ⟨by show 3<=sizeLine; lia,fun T xw=>⟨by rw [aA]; lia,s4.trans (zb xw),us++[T],#[M],?_⟩⟩)));rw [take_snoc pC];unfold wpt;rw [aN];exact cL (n4.same (zb xw)) zc
  ·rintro ys H4 D ⟨s4,us,rfl,n4⟩ hD;rw [aY #[O]] at n4;have w4:=s4.trans #[Ts];refine (ex5 p k D us (wpt m #[IO]) ⟨rfl,hp,h1,k1,zc,n4.same (zb hD),fun q' pC=>?_,by rw [zf4]; exact hA,by unfold wpt; rw [aA]; lia,fun z r' ls size g H5 hz s5 h5 h6 h7 hL hs=>?_⟩)
   ·obtain⟨a,ha,rfl⟩:=bE.mp pC;obtain⟨g1,g2,g3,g4⟩:=hP.rg a ha;exact⟨g1,g2,g3,g4,m1,m9⟩
   ·have tQ:=s1.trans w4;rw [zf4] at hs;exact q z r' ls size g H5 (tQ.free hz) (tQ.trans s5) h5 h6 h7 hL hs
noncomputable def ziV (K:aF):Sp:=fun vs H Q _=>∃ (a:Addr) (bs:List Addr) (rows:List #[wp]),vs = [.ref a]/\(nO K H a #[AC]\/nS K H a #[AC])/\RwA H bs rows/\rows.length<=1000 /\
 ∀ H',zr H H'->Q (.int #[PY]) H'
theorem ziW:Kf ["curve"] ["curve"] (zi zb8):=#[S]
theorem zeM (T:Txt K mg t) (F:Fun K "width_of" "width_of" zb8 t.LF fd):Kn P w K mg base CX0 1 t.LF fd ["curve"] (ziV K):=by
 refine F.ok ziW #[sn] #[mt]
 ·obtain⟨a,bs,rows,rfl,_⟩:=h;rfl
 ·obtain⟨a,bs,rows,rfl,ha,hb,hn,q⟩:=h;refine zaJ ?_; intro zX;refine⟨_,#[zl,#[zC,#[zjD,true,fC,T.MP,#[zf],#[zI,(Kg.of (N':=["line"]) (ix:=[none]) (zi zb8) _ rfl rfl rfl),#[zZ],#[zmy,#[AT]],#[pc],#[re],#[OQ]]]]],?_⟩;have nV:=bF hb;have el:∀ (i:Nat) (x y:V),#[AC][i]? = some x->(#[RJ].map V.int)[i]? = some y->∃ (b:Addr) (r:List Int),x = .ref b/\y = .int r.length/\(H b=some (.lst #[RL])\/H b=some (.tup #[RL])):=by
   intro i x y hx hy;obtain⟨b,rfl,um⟩:=zN hx;unfold z8 at hy;rw [aD,aD] at hy;cases e:rows[i]? with
   | none=>rw [e] at hy; simp at hy
   | some r =>
    rw [e] at hy;obtain⟨v,hv,hr⟩:=Paired.get hb um;rw [e] at hv;cases hv;exact⟨b,r,rfl,by simpa using hy.symm,hr⟩
  have fin:∀ D,H D=none->∃ (p:Addr) (ns:List Int),V.ref D = .ref p/\nO K (nQ H D (.lst (#[RJ].map V.int))) p #[Cl]/\∀ M:Int,(ns = []->M=0)->(ns≠[]->M∈ns/\∀ a∈ns,if true=true then a<=M else M<=a)->Q (.int M) (nQ H D (.lst (#[RJ].map V.int))):=fun D hD =>
   ⟨D,_,rfl,nO.of zc,fun M h0 h1=>by rw [zpL h0 h1]; exact q _ (zb hD)⟩
  rcases ha with ha | ha
  ·refine (nN rfl ⟨a,rfl,.inl ⟨⟨_,ha⟩,zbh (fs:=#[RJ].map V.int) ha (by simp [nV,zdM]) (by simp; lia) #[FS] fin⟩⟩);obtain⟨b,r,rfl,rfl,hr⟩:=el i x y hx hy;exact (nN rfl ⟨b,(nN rfl ⟨hr.imp nO.of nS.of,by rw [aA]; exact hR⟩)⟩)
  ·refine (nN rfl ⟨a,rfl,.inr ⟨⟨_,ha⟩,zb0 (fs:=#[RJ].map V.int) ha (by simp [nV,zdM]) (by simp; lia) #[FS] fin⟩⟩);obtain⟨b,r,rfl,rfl,hr⟩:=el i x y hx hy;exact (nN rfl ⟨b,(nN rfl ⟨hr.imp nO.of nS.of,by rw [aA]; exact hR⟩)⟩)
noncomputable def zl0 (K:aF):Sp:=fun vs H Q _=>∃ (p b:Int) (a:Addr) (bs:List Addr) (n w:Nat) (c:Nat->Nat->Int),vs = [.int p,.ref a,.int b]/\H a=some #[RZ]/\LsA H bs (zau n w c)/\n<=1000/\w<=1000/\5<=p/\p<=97/\0<=b/\b < p/\(∀ j i,j < n->i < w->0<=c j i/\c j i < p) /\
 ∀ (l:Addr) (ls:List Addr) (H':Hp),H l=none->zr H H'->H' l=some #[O9]->LsA H' ls (zau n w fun j i=>sh b n #[QL] j % p)->Q #[Pm] H'
theorem zaV (n w:Nat) (g:Nat->Nat->Int):#[RV].length=n:=by unfold zau; rw [aA,bR]
theorem zdx:Kf ["p","lines","by","first","at"] ["p","lines","by"] (zi zdd):=#[S]
theorem zl1 (T:Txt K mg t) (F:Fun K "raised" "raised" zdd t.raised fd):Kn P w K mg base CX0 1 t.raised fd ["p","lines","by"] (zl0 K):=by
 refine F.ok zdx #[sn] #[mt]
 ·obtain⟨p,b,a,bs,n,w',c,rfl,_⟩:=h;rfl
 ·obtain⟨p,b,a,bs,n,wi,c,rfl,ha,hb,hn,hw,p5,qX,b0,b1,hc,q⟩:=h;refine zaJ ?_; intro zX;refine⟨_,#[ze,#[zm,1,zdx.nd,#[A],#[zW,#[za2],T.MK,ir,#[xL]]],#[ze,#[zah,bN,#[zU,T.Ki,#[ya,#[IN]]],#[zg,3,zdx.nd,#[A]],#[zl,#[zah,bN,(@zpb _ _ _ _ _ _ rfl T.MD #[ya,#[zW,(@ziR _),T.Ki,kW,#[za,#[NE],#[ya,#[zh,#[zam],#[IN],#[zf]]]]]] (by rfl)),#[zg,4,zdx.nd,#[A]],#[zl,#[zaO,#[zI,(Kg.of (N':=["low","high","by","p"]) (ix:=[none,none,some 2,some 0]) (zi zdd) _ rfl rfl rfl),#[wv],#[zdT,T.Nu,#[za,#[zw,#[zu],#[Id],#[OD]],#[ya,#[zw,#[zu],#[Id],#[zh,#[zB],#[OD],#[zf]]]]]],#[or],#[re],#[Vm]],#[zeo,#[Id],#[OD],set_list]]]]]],#[zl,#[zC,#[Id]]]]],?_⟩;refine zep ?_; intro pQ pG;have pd:=bJ;have hz:∀ {H':Hp} {ls:List Addr} {g:Nat->Nat->Int},LsA H' ls (zau n wi g)->(#[At].length:Int)=(n:Int):=fun h=>by rw [aA,bF h,zaV]
  refine (nN rfl ⟨a,(nN rfl ⟨.inl (nO.of ha),fun l hl=>?_⟩)⟩);refine (nN rfl ⟨l,(nN rfl ⟨.inl (nO.of zc),#[Pp]⟩)⟩);rw [hz hb];refine⟨#[O],#[O],zaq (lo:=0) (n:=(n:Int).toNat) (fun f σ H'=>∃ (ls:List Addr) (e3 e4:Option V),σ = [some #[PC],some #[Pm],some (.int b),e3,e4]/\zr H H'/\H' l=some #[O9]/\LsA H' ls (zau n wi (rst p b n c f 0))) (ex3 bs none none ⟨rfl,zb hl,zc,?_⟩) ?_ ?_⟩
  ·rw [zbL (g':=c) fun j i hj hi=>by rw [zlO hj]; exact dN (hc j i hj hi).1 (hc j i hj hi).2];exact hb.same (zb hl)
  ·rintro zD zT f σ H1 hf ⟨ls,e3,e4,rfl,s1,qS,oG⟩;have hf:f < n:=by lia
   refine (nN rfl (nN rfl ⟨l,(nN rfl ⟨.inl (nO.of qS),#[IR]⟩)⟩));rw [hz oG];refine⟨0+(f:Int),(n:Int) - 1,rfl,fun r hr=>(ex3 r (0+(f:Int)) ((n:Int) - 1) ⟨rfl,zc,#[Uy],?_⟩)⟩;have e0:(0+(f:Int))+((((n:Int) - 1 - (0+(f:Int))).toNat:Nat):Int) - 1=(n:Int) - 2:=by lia
   have e1:((n:Int) - 1 - (0+(f:Int))).toNat=n - 1 - f:=by lia
   rw [e0,e1];have rl:r≠l:=(zH qS hr).symm;refine zjv (hi:=(n:Int) - 2) (n:=n - 1 - f) (fun idx σ H'=>∃ (ls:List Addr) (e4:Option V),σ = [some #[PC],some #[Pm],some (.int b),some (.int (0+(f:Int))),e4]/\zr H H'/\H' l=some #[O9]/\LsA H' ls (zau n wi (rst p b n c f idx))) ⟨ls,e4,rfl,s1.trans (zb hr),by rw [zp rl.symm]; exact qS,oG.same (zb hr)⟩ ?_ ?_
   ·rintro idx σ H2 hi ⟨ls,e4,rfl,s2,yT,oG⟩;have nV:ls.length=n:=by rw [bF oG,zaV]
    obtain⟨F1,ql⟩:∃ b',ls[n - 2 - idx]? = some b':=⟨ls[n - 2 - idx]'#[O],#[M]⟩;obtain⟨F2,uU⟩:∃ b',ls[n - 2 - idx+1]? = some b':=⟨ls[n - 2 - idx+1]'#[O],#[M]⟩;obtain⟨v1,g1,h1⟩:=Paired.get oG ql;obtain⟨v2,g2,h2⟩:=Paired.get oG uU;rw [zcD #[O]] at g1 g2;cases g1;cases g2;have at1:atI #[At] ((n:Int) - 2 - (idx:Int))=some (.ref F1):=by
     have e:(n:Int) - 2 - (idx:Int)=((n - 2 - idx:Nat):Int):=by lia
     rw [e]; exact zab (by rw [aD,ql]; rfl)
    have at2:atI #[At] ((n:Int) - 2 - (idx:Int)+1)=some (.ref F2):=by
     have e:(n:Int) - 2 - (idx:Int)+1=((n - 2 - idx+1:Nat):Int):=by lia
     rw [e]; exact zab (by rw [aD,uU]; rfl)
    refine (nN rfl (nN rfl (ex4 l _ _ _ ⟨rfl,rfl,nO.of yT,at1,(nN rfl (nN rfl (nR rfl rfl (ex4 l _ _ _ ⟨rfl,rfl,nO.of yT,at2,F1,F2,_,_,rfl,nO.of h1,nO.of h2,zes (n:=wi) (f:=fun x y=>(x+b*y) % p) h1 h2 #[M] #[M] (.inl #[M]) #[O] ?_ ?_⟩))))⟩)))
    ·intro j u w H6 T R B hu hv s6 hT hR;refine gY2 #[SJ] ?_;exact (nN rfl (nN rfl (nN rfl (nR rfl rfl ⟨.inl #[v6],(nR rfl rfl #[Py])⟩))))
    ·intro D H6 s6 hD;rw [zlN];have Et:=s6 _ _ yT;have dl:D≠l:=(zH Et hD).symm;have hj:ixN #[At].length ((n:Int) - 2 - (idx:Int))=some (n - 2 - idx):=by
      unfold ixN;rw [aA,nV,if_pos #[O],if_pos #[O]];congr 1;lia
     refine (nN rfl (nN rfl (ex4 l _ _ _ ⟨rfl,rfl,by rw [zp dl.symm]; exact Et,hj,ls.set (n - 2 - idx) D,(nN rfl ⟨?_,?_,?_⟩)⟩)))
     ·exact zac ((s2.trans s6).trans (zb hD)) hl
     ·rw [zc,iu]
     ·rw [zbL (g':=fun j i=>if j=n - 2 - idx then (rst p b n c f idx (n - 2 - idx) i+b*rst p b n c f idx (n - 2 - idx+1) i) % p else rst p b n c f idx j i) fun j i hj _=>znw hi hj,<- zlM];exact LsA.setAt (oG.same (s6.trans (zb hD))) (by rw [zp dl.symm]; exact Et) zc dl
   ·rintro σ H2 ⟨ls,e4,rfl,s2,yT,oG⟩;rw [zbL (g':=rst p b n c (f+1) 0) fun j i hj _=>znv hf hj] at oG;exact (ex3 ls _ _ ⟨rfl,s2,yT,oG⟩)
  ·rintro σ H1 ⟨ls,e3,e4,rfl,s1,qS,oG⟩;have e1:(n:Int).toNat=n:=by lia
   rw [e1,zbL (g':=fun j i=>sh b n #[QL] j % p) fun j i hj hi=>znu hj] at oG;exact (nN rfl (q l ls _ hl s1 qS oG))
noncomputable def tnd (rows:List #[wp]) (w:Nat):List #[wp]:=(bM w).map fun i=>rows.map fun r=>gl r i
theorem zn1 (rows:List #[wp]) (w:Nat):tnd rows (w+1)=tnd rows w++[rows.map fun r=>gl r w]:=by
 unfold tnd;rw [dq,aN];rfl
noncomputable def zl2 (K:aF):Sp:=fun vs H Q _=>∃ (a:Addr) (bs:List Addr) (rows:List #[wp]) (w:Nat),vs = [.ref a,.int (w:Int)]/\H a=some #[RZ]/\LsA H bs rows/\(∀ r∈rows,w<=r.length)/\rows.length<=1000/\w<=1000 /\
 ∀ (l:Addr) (ls:List Addr) (H':Hp),H l=none->zr H H'->H' l=some #[O9]->LsA H' ls (tnd rows w)->Q #[Pm] H'
theorem zl3:Kf ["lines","width"] ["lines","width"] (zi zdc):=#[S]
theorem zl4 (T:Txt K mg t) (F:Fun K "turned" "turned" zdc t.turned fd):Kn P w K mg base CX0 1 t.turned fd ["lines","width"] (zl2 K):=by
 refine F.ok zl3 #[sn] #[mt]
 ·obtain⟨a,bs,rows,wi,rfl,_⟩:=h;rfl
 ·obtain⟨a,bs,rows,wi,rfl,ha,hb,hw,hn,hwn,q⟩:=h;refine zaJ ?_; intro zX;refine⟨_,#[zl,#[zC,#[zI,(Kg.of (N':=["at","lines"]) (ix:=[none,some 0]) (zi zdc) _ rfl rfl rfl),#[zZ],#[zU,T.Ki,#[xL]],(fun _ _ _ _=>#[zg,0,#[Y],#[PU]]),#[re],(fun _ _ _ _=>#[zI,(Kg.of (N':=["line","at"]) (ix:=[none,some 0]) ({ kind:=.function,names:=[(".0",.local),("at",.cell),("lines",.cell)],isGenerator:=false,isCoroutine:=false }) _ (by with_unfolding_all rfl) rfl rfl),#[zZ],(@znk _ (K) _ _ _ rfl #[Id]),#[pc],#[re],(fun _ _ _ _=>#[zw,#[Sg],#[AT],#[Id]])])]]],?_⟩;have pd:=bJ;have nV:=bF hb;refine (nN rfl ⟨(wi:Int),rfl,#[O],#[O],zaI (n:=wi) (fun m ys H'=>zr H H'/\∃ ls:List Addr,ys=ls.map V.ref/\LsA H' ls (tnd rows m)) ⟨fun _ _ e=>e,[],rfl,.nil⟩ (fun m ys H' hm _=>by show m < (wi:Int).toNat; lia) (fun ys H' _=>by show (wi:Int).toNat<=wi; lia) ?_ ?_⟩)
  ·rintro i x ys H1 H2 hi ⟨s1,ls,rfl,oG⟩ ⟨rfl,rfl⟩;have hz:ls.length=i:=by rw [bF oG]; unfold tnd; rw [aA,bR]
   have h1a:=s1 _ _ ha;have h1b:=hb.same s1;refine (nN rfl ⟨a,rfl,⟨_,nO.of h1a⟩,zbh (fs:=(rows.map fun r:List Int=>gl r i).map V.int) (nO.of h1a) (by simp [nV]) (by simp; lia) (fun j x y R B hx hy hR=>?_) #[Rm]⟩)
   ·obtain⟨b,rfl,um⟩:=zN hx;obtain⟨r,hr,qL⟩:=Paired.get h1b um;rw [aD,aD,hr] at hy;have hy:V.int (gl r i)=y:=by simpa using hy
    subst hy;have hwr:=hw r (aL hr);have oW:atI #[RL] (0+(i:Int))=some (.int (gl r i)):=by
     rw [cV];refine zab ?_;rw [aD,aG #[O],zba (aG #[O])];rfl
    exact (nN rfl (nN rfl (ex4 b _ _ _ ⟨rfl,rfl,nO.of qL,oW,hR⟩)))
   ·refine⟨by rw [aA]; lia,s1.trans (zb hD),ls++[D],#[M],?_⟩;rw [zn1];exact cL #[VU] zc
  ·rintro ys H1 D ⟨s1,ls,rfl,oG⟩ hD;exact q D ls _ (s1.free hD) #[Rn] zc #[VU]
theorem zqV {bs:List Addr} (h:zaZ H bs rows):RwA H bs rows:=fg (fun _ _ z=>.inr z) h
noncomputable def zl5 (p:Int) (w:Nat) (r:List Int):List Int:=r.map (· % p)++aP (w - r.length) 0
theorem zpk {p:Int} {w:Nat} {r:List Int} (h:r.length<=w):zl5 p w r=(bM w).map fun i=>gl r i % p:=by
 unfold zl5;refine gI fun i=>?_
 by_cases h1:i < r.length
 ·rw [fb (by rw [aA]; exact h1),aD,aD,cR #[O],aG h1];show some (r[i] % p)=some (gl r i % p);rw [zba (aG h1)]
 ·rw [c8 (by rw [aA]; lia),aA,aD];by_cases h2:i < w
  ·rw [cR h2,dI,if_pos #[O]];show some (0:Int)=some (gl r i % p);have:gl r i=0:=by unfold gl; rw [f9,db.mpr #[O]]; rfl
   rw [this,lC]
  ·rw [db.mpr (by rw [bU]; lia),db.mpr (by rw [bR]; lia)];rfl
theorem zn2 {p:Int} {w:Nat} (h:∀ r∈rows,r.length<=w):rows.map (zl5 p w)=zau rows.length w fun j i=>gl (rows.getD j []) i % p:=by
 refine gI fun j=>?_
 by_cases hj:j < rows.length
 ·rw [zcD hj,aD,aG hj];show some (zl5 p w rows[j])=_;rw [zpk (h _ (d7 hj))];have:rows.getD j []=rows[j]:=by simp [f9,hj]
  rw [this]
 ·rw [db.mpr (by rw [aA]; lia),db.mpr (by rw [zaV]; lia)]
noncomputable def zl6 (K:aF):Sp:=fun vs H Q _=>∃ (p:Int) (a:Addr) (bs:List Addr) (rows:List #[wp]),vs = [.int p,.ref a]/\5<=p/\p<=97/\H a=some #[Qf]/\zaZ H bs rows/\rows.length<=100/\(∀ r∈rows,r.length<=100) /\
 ∀ (l:Addr) (ls:List Addr) (H':Hp),H l=none->zr H H'->H' l=some #[O9]->LsA H' ls (zau rows.length #[PY] fun j i=>gl (rows.getD j []) i % p)->Q #[Pm] H'
theorem zgS:Kf ["p","curve","width"] ["p","curve"] (zi zdb):=#[S]
theorem zl7 (T:Txt K mg t) (F:Fun K "filled" "filled" zdb t.filled fd):Kn P w K mg base CX0 2 t.filled fd ["p","curve"] (zl6 K):=by
 obtain⟨uu,oQ,p8⟩:=T.K7;have p9:=zeM (P:=P) (w:=w) (base:=base) T oQ;refine F.ok zgS #[sn] #[mt]
 ·obtain⟨p,a,bs,rows,rfl,_⟩:=h;rfl
 ·obtain⟨p,a,bs,rows,rfl,p5,qX,ha,hb,hn,hw,q⟩:=h;refine zaJ ?_; intro zX;refine⟨_,#[ze,#[zm,2,zgS.nd,#[PU],#[zq,p9,#[sK],T.L5,oQ.kp,p8,#[zK],#[xL]]],#[zl,#[zC,#[zI,(Kg.of (N':=["line","p","width"]) (ix:=[none,some 0,some 2]) (zi zdb) _ rfl rfl rfl),#[zZ],#[TV],#[pc],#[re],(fun _ _ _ _=>#[zh,#[zcJ],#[zI,(Kg.of (N':=["number","p"]) (ix:=[none,some 1]) ({ kind:=.function,names:=[(".0",.local),("line",.local),("len",.globalImplicit),("p",.cell),("width",.cell)],isGenerator:=false,isCoroutine:=false }) _ (by with_unfolding_all rfl) rfl rfl),#[zZ],#[zkH,(K),#[AT]],#[pc],#[re],#[Px]],#[zh,#[zc3],#[OJ],#[zh,#[zam],#[GT],#[zn,#[zaC,(K)],T.KD,cq,#[QC]]]]])]]]],?_⟩;refine zlc ?_; intro pG;have pd:=bJ;have nV:=bF hb;have wdl:wd rows<=100:=by
   by_cases e:rows = []
   ·subst e; exact bW _
   ·obtain⟨r,hr,er⟩:=zdL e;rw [<- er]; exact hw r hr
  refine (nN rfl (ex3 a bs rows ⟨rfl,.inr (nS.of ha),zqV hb,#[O],fun H1 s1=>?_⟩));refine (nN rfl ⟨a,rfl,⟨_,nS.of #[Qd]⟩,zaI (n:=rows.length) (fun m ys H'=>zr H H'/\∃ ls:List Addr,ys=ls.map V.ref/\LsA H' ls ((rows.take m).map (zl5 p #[PY]))) ⟨s1,[],rfl,.nil⟩ ?_ ?_ ?_ ?_⟩)
  ·rintro m ys H2 hm ⟨s2,_⟩;exact⟨_,.ref (bs[m]'#[O]),nS.of (s2 _ _ ha),by rw [aD,aG #[O]]; rfl⟩
  ·rintro ys H2 ⟨s2,_⟩;exact⟨_,nS.of (s2 _ _ ha),by rw [aA]; lia⟩
  ·rintro m x ys H2 H3 hm ⟨s2,ls,rfl,oG⟩ ⟨rfl,hx⟩;obtain⟨b,rfl,qB⟩:=zN (hx _ (nS.of (s2 _ _ ha)));obtain⟨r,hr,qL⟩:=Paired.get hb qB;have tZ:=s2 _ _ qL;have pD:=hw r (aL hr);have rA:=zfT (aL hr);refine gY ?_;refine (nN rfl ⟨b,rfl,⟨_,nS.of tZ⟩,zb0 (fs:=(r.map (· % p)).map V.int) (nS.of tZ) #[M] (by rw [aA]; lia) #[FS] #[Rm]⟩)
   ·obtain⟨c,rfl,hc⟩:=zag hx;rw [aD,aD,hc] at hy;have hy:V.int (c % p)=y:=by simpa using hy
    subst hy;refine gY ?_;exact (nN rfl #[Py])
   ·have sD:=zb (o:=.lst ((r.map (· % p)).map V.int)) hD;refine⟨by show 1<=sizeLine; lia,fun Z hZ=>?_⟩;have sZ:=zb (o:=.lst [V.int 0]) hZ;refine (nN rfl (nN rfl ⟨b,(nN rfl ⟨.inr (nS.of ((sD.trans sZ) _ _ tZ)),#[IR]⟩)⟩));have el:#[RL].length=r.length:=aA ..;rw [el];have ek:((wd rows:Int) - (r.length:Int)).toNat=wd rows - r.length:=by lia
    refine (ex3 Z _ _ ⟨rfl,rfl,zc,#[O],#[O],by rw [ek]; show 1*#[Tt]<=sizeLine; lia,fun Y hY=>?_⟩);rw [ek,dM];have sY:=zb (o:=.lst (aP #[Tt] #[TF])) hY;refine (ex4 D Y _ _ ⟨rfl,rfl,(sZ.trans sY) _ _ zc,zc,by rw [aA,aA,bU]; lia,fun W hW=>?_⟩);have sW:=((sD.trans sZ).trans sY).trans (zb (o:=.lst ((r.map (· % p)).map V.int++aP #[Tt] #[TF])) hW);have xr:ls.length=m:=by rw [bF oG,aA,aU]; lia
    refine⟨by rw [aA]; lia,s2.trans sW,ls++[W],by rw [aN]; rfl,?_⟩;rw [take_snoc hr,aN];refine cL (oG.same sW) ?_;rw [zc];unfold zl5;rw [aN,gB]
  ·rintro ys H2 D ⟨s2,ls,rfl,oG⟩ hD;rw [aY (aH _),zn2 fun r hr=>zfT hr] at oG;exact q D ls _ (s2.free hD) (s2.trans (zb hD)) zc #[VU]
theorem ziX {es:List Expr} {p:Pos} {a:Expr} {ta:TA} (hg:Gl X "enumerate") (hm:X.mg "enumerate" = none) (ha:PA X [a] ta) (hs:starEach [a] X.env = [#[FB]]:=by rfl) :
  PI X #[Pg] (.Call (.Name "enumerate" p) [a] [] pos) (fun σ H R=>iEn #[Uq] ta σ H R\/iEn #[VG] ta σ H R):=fun nM s σ H R I h=>h.elim (zcy hg hm ha hs nM s σ H R I) (zc6 hg hm ha hs nM s σ H R I)
theorem zl8 {es:List Expr} {p:Pos} {a:Expr} {ta:TA} (hK:X.K=K) (hg:Gl X "enumerate") (hm:X.mg "enumerate" = none) (ha:PA X [a] ta) (hs:starEach [a] X.env = [#[FB]]:=by rfl) :
  PI X #[Pg] (.Call (.Name "enumerate" p) [a] [] pos) (fun σ H R=>iEn (nO K) ta σ H R\/iEn (nS K) ta σ H R):=by subst hK; exact ziX hg hm ha hs
theorem zel {rows:List #[wp]} (h:∀ r∈rows,r.length<=100):∀ m,#[S3].length<=100*m
 | 0=>by simp [zaK]
 | m+1=>by
  have ih:=zel h m;have hl:(rows.getD m []).length<=100:=by
   cases e:rows[m]? with
   | none=>simp [f9,e]
   | some r=>simp only [f9,e,gd]; exact h r (aL e)
  have h2:=zcS m (rows.getD m []) (rows.getD m []).length;rw [zb1,aO];lia
theorem zgT {rows:List #[wp]} (h:∀ r∈rows,r.length<=1000):∀ m,#[S3].length<=1000*m
 | 0=>by simp [zaK]
 | m+1=>by
  have ih:=zgT h m;have hl:(rows.getD m []).length<=1000:=by
   cases e:rows[m]? with
   | none=>simp [f9,e]
   | some r=>simp only [f9,e,gd]; exact h r (aL e)
  have h2:=zcS m (rows.getD m []) (rows.getD m []).length;rw [zb1,aO];lia
noncomputable def zhL (K:aF):Sp:=fun vs H Q _=>∃ (a:Addr) (bs:List Addr) (rows:List #[wp]),vs = [.ref a]/\H a=some #[Qf]/\zaZ H bs rows/\rows.length<=100/\(∀ r∈rows,r.length<=100) /\
 ∀ (l:Addr) (ts:List Addr) (H':Hp),H l=none->zr H H'->H' l=some #[Ty]->PtB H' ts #[Ix]->Q #[Pm] H'
noncomputable def zhM (K:aF):Sp:=fun vs H Q _=>∃ (a:Addr) (bs:List Addr) (rows:List #[wp]),vs = [.ref a]/\H a=some #[RZ]/\LsA H bs rows/\rows.length<=100/\(∀ r∈rows,r.length<=1000) /\
 ∀ (l:Addr) (ts:List Addr) (H':Hp),H l=none->zr H H'->H' l=some #[Ty]->PtB H' ts #[Ix]->Q #[Pm] H'
noncomputable def ziY (K:aF):Sp:=fun vs H Q E=>zhL K vs H Q E\/zhM K vs H Q E
theorem ziZ:Kf ["curve"] ["curve"] (zi zb9):=#[S]
theorem zeN (T:Txt K mg t) (F:Fun K "terms_of" "terms_of" zb9 t.LH fd):Kn P w K mg base CX0 1 t.LH fd ["curve"] (ziY K):=by
 refine F.ok ziZ #[sn] #[mt]
 ·rcases h with ⟨a,bs,rows,rfl,_⟩ | ⟨a,bs,rows,rfl,_⟩ <;> rfl
 ·skip
  refine zaJ ?_; intro zX;refine⟨_,#[zl,#[zC,#[zkx,(Kg.of (N':=["j","line","i","number"]) (ix:=[none,none,none,none]) (zi zb9) _ rfl rfl rfl),(zg8 (js:=[0,1]) (zb6 (js:=[0,1]) (i:=0) #[D] (zb6 (js:=[0,1]) (i:=1) #[D] (ze2 (js:=[0,1]))))),(zg8 (js:=[2,3]) (zb6 (js:=[2,3]) (i:=2) #[D] (zb6 (js:=[2,3]) (i:=3) #[D] (ze2 (js:=[2,3]))))),(ziX rfl T.Kh #[QC]),#[or],#[re],(fun _ _ _ _=>(zl8 (K:=K) rfl rfl T.Kh #[xL])),(fun _ _ _ _=>#[zaj,(K),2,#[zj,#[US],#[zj,#[zg,3,#[Y],#[A]],#[zA]]]]),(fun _ _ _ _=>#[zb5,#[zJ,#[zhZ],#[NE],#[zf],(zV _)]]),(fun _ _ _ _=>#[zap,#[za,#[GT],#[QC]]]),(by intros; rfl)]]],?_⟩;rcases h with ⟨a,bs,rows,rfl,ha,hb,hn,hw,q⟩ | ⟨a,bs,rows,rfl,ha,hb,hn,hw,q⟩
  ·skip
   have pd:=bJ;have nV:=bF hb;refine .inr (nN rfl ⟨a,(nN rfl ⟨nS.of ha,zeH (n:=rows.length) (fun m ys H'=>∃ us:List Addr,ys=us.map V.ref/\zr H H'/\PtB H' us #[S3]) ⟨[],rfl,fun _ _ e=>e,.nil⟩ ?_ ?_ ?_ ?_⟩)⟩)
   ·rintro m ys H1 hm ⟨us,rfl,s1,n4⟩;exact⟨_,.ref (bs[m]'#[O]),nS.of #[Qd],by rw [aD,aG #[O]]; rfl⟩
   ·rintro ys H1 ⟨us,rfl,s1,n4⟩;exact⟨_,nS.of #[Qd],by rw [aA]; lia⟩
   ·rintro m y ys H1 H2 hm ⟨us,rfl,s1,n4⟩ ⟨T,v,hT,rfl,rfl,hv⟩;obtain⟨b,rfl,qB⟩:=zN (hv _ (nS.of #[Qd]));obtain⟨r,hr,qL⟩:=Paired.get hb qB;have pD:=hw r (aL hr);have er:rows.getD m []=r:=by simp [f9,hr]
    refine gY2 #[SJ] ?_;have sT:=s1.trans (zb (o:=.tup [.int m,.ref b]) hT);have ED:=n4.same (zb (o:=.tup [.int m,.ref b]) hT);generalize nQ H1 T (.tup [.int m,.ref b])=H2 at sT ED |-;have tZ:=sT _ _ qL;refine .inr (nN rfl ⟨b,(nN rfl ⟨nS.of tZ,zeH (n:=r.length) (fun j ys H'=>∃ us:List Addr,ys=us.map V.ref/\zr H2 H'/\PtB H' us #[Q7]) ⟨us,rfl,fun _ _ e=>e,by simpa [trm] using ED⟩ ?_ ?_ ?_ ?_⟩)⟩)
    ·rintro j ys H3 hj ⟨us,rfl,s3,_⟩;exact⟨_,.int (r[j]'hj),nS.of #[RW],by rw [aD,aG hj]; rfl⟩
    ·rintro ys H3 ⟨us,rfl,s3,_⟩;exact⟨_,nS.of #[RW],by rw [aA]; lia⟩
    ·rintro j z ys H3 H4 hj ⟨us,rfl,s3,tR⟩ ⟨T',v',xw,rfl,rfl,yP⟩;obtain⟨x,rfl,hx⟩:=zag (yP _ (nS.of #[RW]));have Bk:gl r j=x:=zba hx;have yg:=s3.trans (zb (o:=.tup [.int j,.int x]) xw);have Cm:=tR.same (zb (o:=.tup [.int j,.int x]) xw);have uo:us.length=#[Q7].length:=bF tR;have l1:=zel hw m;have l2:=zcS m r j;rw [aO] at uo;refine#[Qj];generalize nQ H3 T' (.tup [.int j,.int x])=H4 at yg Cm |-;refine #[Pp];refine#[RT];refine zaR #[Th] #[Th]
     ·have qV:x≠0:=by simpa using qV
      refine (nN rfl (nN rfl ⟨by show 2<=sizeLine; lia,fun D hD=>⟨by rw [aA]; lia,us++[D],by rw [aN]; rfl,yg.trans (zb hD),?_⟩⟩));rw [zcE,if_pos (by rw [Bk]; exact qV),<- cH];exact cL (Cm.same (zb hD)) zc
     ·have qV:x=0:=by simpa using qV
      refine⟨us,rfl,yg,?_⟩;rw [zcE,if_neg (by rw [Bk,qV]; simp)];exact Cm
    ·rintro ys H3 ⟨us,rfl,s3,tR⟩;refine⟨us,rfl,sT.trans s3,?_⟩;rw [zb1,er];exact tR
   ·rintro ys H1 ⟨us,rfl,s1,n4⟩ D hD;exact q D us _ (s1.free hD) #[Rn] zc #[O6]
  ·skip
   have pd:=bJ;have nV:=bF hb;refine .inl (nN rfl ⟨a,(nN rfl ⟨nO.of ha,zeH (n:=rows.length) (fun m ys H'=>∃ us:List Addr,ys=us.map V.ref/\zr H H'/\PtB H' us #[S3]) ⟨[],rfl,fun _ _ e=>e,.nil⟩ ?_ ?_ ?_ ?_⟩)⟩)
   ·rintro m ys H1 hm ⟨us,rfl,s1,n4⟩;exact⟨_,.ref (bs[m]'#[O]),nO.of #[Qd],by rw [aD,aG #[O]]; rfl⟩
   ·rintro ys H1 ⟨us,rfl,s1,n4⟩;exact⟨_,nO.of #[Qd],by rw [aA]; lia⟩
   ·rintro m y ys H1 H2 hm ⟨us,rfl,s1,n4⟩ ⟨T,v,hT,rfl,rfl,hv⟩;obtain⟨b,rfl,qB⟩:=zN (hv _ (nO.of #[Qd]));obtain⟨r,hr,qL⟩:=Paired.get hb qB;have pD:=hw r (aL hr);have er:rows.getD m []=r:=by simp [f9,hr]
    refine gY2 #[SJ] ?_;have sT:=s1.trans (zb (o:=.tup [.int m,.ref b]) hT);have ED:=n4.same (zb (o:=.tup [.int m,.ref b]) hT);generalize nQ H1 T (.tup [.int m,.ref b])=H2 at sT ED |-;have tZ:=sT _ _ qL;refine .inl (nN rfl ⟨b,(nN rfl ⟨nO.of tZ,zeH (n:=r.length) (fun j ys H'=>∃ us:List Addr,ys=us.map V.ref/\zr H2 H'/\PtB H' us #[Q7]) ⟨us,rfl,fun _ _ e=>e,by simpa [trm] using ED⟩ ?_ ?_ ?_ ?_⟩)⟩)
    ·rintro j ys H3 hj ⟨us,rfl,s3,_⟩;exact⟨_,.int (r[j]'hj),nO.of #[RW],by rw [aD,aG hj]; rfl⟩
    ·rintro ys H3 ⟨us,rfl,s3,_⟩;exact⟨_,nO.of #[RW],by rw [aA]; lia⟩
    ·rintro j z ys H3 H4 hj ⟨us,rfl,s3,tR⟩ ⟨T',v',xw,rfl,rfl,yP⟩;obtain⟨x,rfl,hx⟩:=zag (yP _ (nO.of #[RW]));have Bk:gl r j=x:=zba hx;have yg:=s3.trans (zb (o:=.tup [.int j,.int x]) xw);have Cm:=tR.same (zb (o:=.tup [.int j,.int x]) xw);have uo:us.length=#[Q7].length:=bF tR;have l1:=zgT hw m;have l2:=zcS m r j;rw [aO] at uo;refine#[Qj];generalize nQ H3 T' (.tup [.int j,.int x])=H4 at yg Cm |-;refine #[Pp];refine#[RT];refine zaR #[Th] #[Th]
     ·have qV:x≠0:=by simpa using qV
      refine (nN rfl (nN rfl ⟨by show 2<=sizeLine; lia,fun D hD=>⟨by rw [aA]; lia,us++[D],by rw [aN]; rfl,yg.trans (zb hD),?_⟩⟩));rw [zcE,if_pos (by rw [Bk]; exact qV),<- cH];exact cL (Cm.same (zb hD)) zc
     ·have qV:x=0:=by simpa using qV
      refine⟨us,rfl,yg,?_⟩;rw [zcE,if_neg (by rw [Bk,qV]; simp)];exact Cm
    ·rintro ys H3 ⟨us,rfl,s3,tR⟩;refine⟨us,rfl,sT.trans s3,?_⟩;rw [zb1,er];exact tR
   ·rintro ys H1 ⟨us,rfl,s1,n4⟩ D hD;exact q D us _ (s1.free hD) #[Rn] zc #[O6]
noncomputable def zjM (K:aF):Sp:=fun vs H Q _=>∃ (k:Int) (a:Addr) (bs:List Addr) (rows:List #[wp]),vs = [.int k,.ref a]/\0<=k/\k<=1000/\H a=some #[Qf]/\zaZ H bs rows/\rows.length<=100/\(∀ r∈rows,r.length<=100) /\
 ∀ (M:Int) (H':Hp),zr H H'->(szs k #[Ix] = []->M=0)->(szs k #[Ix]≠[]->M∈szs k #[Ix]/\∀ x∈szs k #[Ix],x<=M)->Q (.int M) H'
theorem zjN:Kf ["k","curve"] ["k","curve"] (zi zcG):=#[S]
theorem zjO (T:Txt K mg t) (F:Fun K "size_of" "size_of" zcG t.size_of fd):Kn P w K mg base CX0 2 t.size_of fd ["k","curve"] (zjM K):=by
 obtain⟨uv,oR,qb⟩:=T.La;have qc:=zeN (P:=P) (w:=w) (base:=base) T oR;refine F.ok zjN #[sn] #[mt]
 ·obtain⟨k,a,bs,rows,rfl,_⟩:=h;rfl
 ·obtain⟨k,a,bs,rows,rfl,k0,k1,ha,hb,hn,hw,q⟩:=h;refine zaJ ?_; intro zX;refine⟨_,#[zl,#[zC,#[zjD,true,fC,T.MP,#[zf],#[zI,(Kg.of (N':=["i","j","k"]) (ix:=[none,none,some 0]) (zi zcG) _ rfl rfl rfl),#[wv],#[zad,#[zq,qc,#[sK],T.L6,oR.kp,qb,#[zK],#[xL]]],#[or],#[re],#[Vn]]]]],?_⟩;have pd:=bJ;refine (nN rfl (.inl (ex3 a bs rows ⟨rfl,ha,hb,hn,hw,fun l ts H1 hl s1 qS qm=>?_⟩)));have nV:=bF qm;have qg:=zel hw rows.length;refine⟨l,rfl,⟨_,nO.of qS⟩,zbh (fs:=(szs k #[Ix]).map V.int) (nO.of qS) (by rw [aA,aA,zfe,nV]) (by rw [aA]; lia) #[FS] #[Rm]⟩
  ·obtain⟨b,rfl,um⟩:=zN hx;obtain⟨⟨u,v⟩,hq,hT⟩:=Paired.get qm um;unfold szs at hy;rw [aD,aD,hq] at hy;have hy:V.int (u+(k - 1)*v)=y:=by simpa using hy
   subst hy;refine gY2 (nS.of hT) ?_;exact (nN rfl (nN rfl (nR rfl rfl (nN rfl (nR rfl rfl ⟨.inl #[v6],(nR rfl rfl hR)⟩)))))
  ·exact⟨D,(nN rfl ⟨nO.of zc,fun M h0 h1=>q M _ #[Rn] h0 fun oH=>⟨(h1 oH).1,fun x hx=>by have:=(h1 oH).2 x hx; rwa [if_pos rfl] at this⟩⟩)⟩
theorem zi0 {n w:Nat} {g:Nat->Nat->Int}:tnd #[RV] w=zau w n fun i j=>g j i:=by
 unfold tnd zau;refine c7 fun i hi=>?_
 rw [cN];refine c7 fun j hj=>?_
 show gl ((bM w).map fun i=>g j i) i=g j i;exact zba (by rw [aD,cR (cE.mp hi)]; rfl)
theorem zcW {n w:Nat} {g:Nat->Nat->Int}:∀ r∈zau n w g,r.length=w:=fun r hr=>by
 unfold zau at hr;obtain⟨j,_,rfl⟩:=bE.mp hr;rw [aA,bR]
theorem zpl {n w:Nat} {g:Nat->Nat->Int} (h:n=0->w=0):wd #[RV]=w:=by
 by_cases e:zau n w g = []
 ·have:n=0:=by rw [<- zaV n w g,e]; rfl
  rw [e,h this]; rfl
 ·obtain⟨r,hr,er⟩:=zdL e;rw [<- er,zcW r hr]
noncomputable def cu (rows:List #[wp]) (j i:Nat):Int:=gl (rows.getD j []) i
theorem zqW {p x y:Int} {n w:Nat} {c:Nat->Nat->Int} {i:Nat}:sh x w (fun s=>sh y n (fun t=>c t s % p) j % p) i % p=mv x y n w c j i % p:=by
 refine Cg.mod_eq (zd9 #[To] fun s _=>#[OF].trans (zd9 #[Tn] fun t _=>Cg.emod p _))
noncomputable def mvd (p x y:Int) (rows:List #[wp]):List #[wp]:=zau rows.length #[PY] fun j i=>mv x y rows.length #[PY] (cu rows) j i % p
theorem zn3 {m:Nat} (h:∀ r∈rows,r.length<=m):wd rows<=m:=by
 by_cases e:rows = []
 ·subst e; exact bW _
 ·obtain⟨r,hr,er⟩:=zdL e;rw [<- er]; exact h r hr
theorem zqX {bs:List Addr} (h:LsA H bs rows):RwA H bs rows:=fg (fun _ _ z=>.inl z) h
noncomputable def zn4 (K:aF):Sp:=fun vs H Q _=>∃ (p:Int) (a pt:Addr) (x y:Int) (bs:List Addr) (rows:List #[wp]),vs = [.int p,.ref a,.ref pt]/\5<=p/\p<=97/\0<=x/\x < p/\0<=y/\y < p/\H a=some #[Qf]/\zaZ H bs rows/\H pt=some (.tup [.int x,.int y])/\rows.length<=100/\(∀ r∈rows,r.length<=100) /\
 ∀ (l:Addr) (ls:List Addr) (H':Hp),H l=none->zr H H'->H' l=some #[Ti]->zaZ H' ls #[Do]->Q #[Pm] H'
theorem zdh:Kf ["p","curve","point","a","b","lines","columns"] ["p","curve","point"] (zi zeg):=#[S]
theorem zn5 (T:Txt K mg t) (F:Fun K "moved" "moved" zeg t.moved fd):Kn P w K mg base CX0 3 t.moved fd ["p","curve","point"] (zn4 K):=by
 obtain⟨De,rB,uw⟩:=T.Ms;have ux:=zl1 (P:=P) (w:=w) (base:=base) T rB;obtain⟨Df,uy,yh⟩:=T.Mz;have yi:=zl7 (P:=P) (w:=w) (base:=base) T uy;obtain⟨Dh,rC,uz⟩:=T.Mr;have uA:=zl4 (P:=P) (w:=w) (base:=base) T rC;obtain⟨uu,oQ,p8⟩:=T.K7;have p9:=zeM (P:=P) (w:=w) (base:=base) T oQ;refine F.ok zdh #[sn] #[mt]
 ·obtain⟨p,a,pt,x,y,bs,rows,rfl,_⟩:=h;rfl
 ·obtain⟨p,a,pt,x,y,bs,rows,rfl,p5,qX,x0,x1,y0,y1,ha,hb,qm,hn,hw,q⟩:=h;refine zaJ ?_; intro zX;refine⟨_,#[ze,#[zaO,#[GT],#[zaw,#[zj,#[zg,3,zdh.nd,#[A]],#[zj,#[zg,4,zdh.nd,#[A]],#[zA]]]]],#[ze,#[zm,5,zdh.nd,#[A],#[zq,ux,#[sK],T.MY,rB.kp,uw,#[zK],#[za,#[AT],#[za,#[zq,yi,#[sK],T.NB,uy.kp,yh,#[zK],#[PZ]],#[RS]]]]],#[ze,#[zm,6,zdh.nd,#[A],#[zq,ux,#[sK],T.MY,rB.kp,uw,#[zK],#[za,#[AT],#[za,#[zq,uA,#[sK],T.MX,rC.kp,uz,#[zK],#[za,#[Pf],#[ya,#[zq,p9,#[sK],T.L5,oQ.kp,p8,#[zK],#[QT]]]]],#[Sj]]]]],#[zl,#[zC,#[zW,#[zai],T.KC,eR,#[ya,#[zI,(Kg.of (N':=["line"]) (ix:=[none]) (zi zeg) _ rfl rfl rfl),#[zZ],#[zad,#[zq,uA,#[sK],T.MX,rC.kp,uz,#[zK],#[za,#[R8],#[ya,#[zn,#[zo],T.KD,cq,#[QT]]]]]],#[pc],#[re],(fun _ _ _ _=>#[zW,#[TX],T.KC,eR,#[QC]])]]]]]]]],?_⟩;refine zg4 ?_; intro rS pQ pG;have pd:=bJ;have wdl:=zn3 hw;have er:∀ z:Int,0<=z % p/\z % p < p:=fun z=>#[Pi]
  refine#[Vh];refine (nN rfl (nN rfl (nN rfl (ex4 p a bs rows ⟨rfl,p5,qX,ha,hb,hn,hw,fun l1 ls1 H1 u5 s1 h1 g1=>?_⟩))));refine (nN rfl (ex7 p y l1 ls1 rows.length #[PY] _ ⟨rfl,h1,g1,#[O],#[O],p5,qX,y0,y1,fun j i _ _=>er _,fun l2 FY H2 qg s2 h2 g2=>?_⟩));have wz:rows.length=0->wd rows=0:=fun e=>by rw [iI.mp e]; rfl
  refine (nN rfl (nN rfl (nN rfl (ex3 l2 FY _ ⟨rfl,.inl (nO.of h2),zqX g2,by rw [zaV]; lia,fun H3 s3=>?_⟩))));rw [zpl wz];refine (ex4 l2 FY _ #[PY] ⟨rfl,s3 _ _ h2,g2.same s3,fun r hr=>by rw [zcW r hr]; exact aH _,by rw [zaV]; lia,#[O],fun l4 ls4 H4 vn s4 h4 g4=>?_⟩);rw [zi0] at g4;refine (nN rfl (ex7 p x l4 ls4 #[PY] rows.length _ ⟨rfl,h4,g4,#[O],#[O],p5,qX,x0,x1,fun j i _ _=>er _,fun l5 ls5 H5 F5 s5 h5 g5=>?_⟩));have s25:=(s3.trans s4).trans s5;have e2:((FY.map V.ref).length:Int)=(rows.length:Int):=by rw [aA,bF g2,zaV]
  refine (nN rfl (nN rfl ⟨l2,(nN rfl ⟨.inl (nO.of (s25 _ _ h2)),?_⟩)⟩));rw [e2];refine (ex4 l5 ls5 _ rows.length ⟨rfl,h5,g5,fun r hr=>by rw [zcW r hr]; exact aH _,by rw [zaV]; lia,#[O],fun l6 ls6 H6 uX s6 h6 g6=>?_⟩);have eg:tnd (zau #[PY] rows.length fun j i=>sh x #[PY] (fun t=>sh y rows.length (fun t_1=>gl (rows.getD t_1 []) t % p) i % p) j % p) rows.length=mvd p x y rows:=by
   rw [zi0];exact zbL fun j i _ _=>zqW
  rw [eg] at g6;have eml:#[Do].length=rows.length:=zaV _ _ _;have nV:=bF g6;refine⟨l6,rfl,⟨_,nO.of h6⟩,zaI (n:=rows.length) (fun m ys H'=>zr H6 H'/\∃ us:List Addr,ys=us.map V.ref/\zaZ H' us (#[Do].take m)) ⟨fun _ _ e=>e,[],rfl,.nil⟩ ?_ ?_ ?_ ?_⟩
  ·rintro m ys H7 hm ⟨s7,_⟩;exact⟨_,.ref (ls6[m]'#[O]),nO.of #[Uf],by rw [aD,aG #[O]]; rfl⟩
  ·rintro ys H7 ⟨s7,_⟩;exact⟨_,nO.of #[Uf],by rw [aA]; lia⟩
  ·rintro m z ys H7 H8 hm ⟨s7,us,rfl,n4⟩ ⟨rfl,hx⟩;obtain⟨b,rfl,qB⟩:=zN (hx _ (nO.of #[Uf]));obtain⟨r,hr,qL⟩:=Paired.get g6 qB;have hz:us.length=m:=by rw [bF n4,aU]; lia
   refine gY ?_;refine (nN rfl ⟨b,(nN rfl (.inl ⟨nO.of (s7 _ _ qL),fun D hD=>⟨by rw [aA]; lia,s7.trans (zb hD),us++[D],#[M],?_⟩⟩))⟩);rw [take_snoc hr];exact cL #[O6] zc
  ·rintro ys H7 D ⟨s7,us,rfl,n4⟩ hD;rw [aY #[O]] at n4;refine⟨D,#[Qc]⟩;have sf:=(((((s1.trans s2).trans s25).trans s6).trans s7).trans #[Ts]);exact q l us _ (sf.free hl) (sf.trans (zb hl)) zc (#[O6].same (zb hl))
noncomputable def wts (ts:List (Int×Int)):List Int:=ts.map fun q=>q.1+q.2
theorem zpm (ts:List (Int×Int)):(wts ts).length=ts.length:=by simp [wts]
noncomputable def zhN (K:aF):Sp:=fun vs H Q _=>∃ (p:Int) (a pt:Addr) (x y:Int) (bs:List Addr) (rows:List #[wp]),vs = [.int p,.ref a,.ref pt]/\5<=p/\p<=97/\0<=x/\x < p/\0<=y/\y < p/\H a=some #[Qf]/\zaZ H bs rows/\H pt=some (.tup [.int x,.int y])/\rows.length<=100/\(∀ r∈rows,r.length<=100) /\
 ∀ (M:Int) (H':Hp),zr H H'->(wts #[OZ] = []->M=0)->(wts #[OZ]≠[]->M∈wts #[OZ]/\∀ z∈wts #[OZ],M<=z)->Q (.int M) H'
theorem zhO:Kf ["p","curve","point"] ["p","curve","point"] (zi zbN):=#[S]
theorem zhP (T:Txt K mg t) (F:Fun K "weight_at" "weight_at" zbN t.Lj fd):Kn P w K mg base CX0 4 t.Lj fd ["p","curve","point"] (zhN K):=by
 obtain⟨uv,oR,qb⟩:=T.La;have qc:=zeN (P:=P) (w:=w) (base:=base) T oR;obtain⟨EE,vR,Ay⟩:=T.MU;have Az:=zn5 (P:=P) (w:=w) (base:=base) T vR;refine F.ok zhO #[sn] #[mt]
 ·obtain⟨p,a,pt,x,y,bs,rows,rfl,_⟩:=h;rfl
 ·obtain⟨p,a,pt,x,y,bs,rows,rfl,p5,qX,x0,x1,y0,y1,ha,hb,qm,hn,hw,q⟩:=h;refine zaJ ?_; intro zX;refine⟨_,#[zl,#[zC,#[zjD,false,boot_min,T.Oc,#[zf],#[zI,(Kg.of (N':=["i","j"]) (ix:=[none,none]) (zi zbN) _ rfl rfl rfl),#[wv],#[zad,#[zq,qc,#[sK],T.L6,oR.kp,qb,#[zK],#[ya,#[zq,Az,#[sK],T.NH,vR.kp,Ay,#[zK],#[S8]]]]],#[or],#[re],(fun _ _ _ _=>#[zh,#[zB],#[AT],#[Id]])]]]],?_⟩;have pd:=bJ;have el:#[Do].length=rows.length:=zaV _ _ _;have ew:∀ r∈mvd p x y rows,r.length<=100:=fun r hr=>by rw [zcW r hr]; exact zn3 hw
  refine (nN rfl (nN rfl (nN rfl (ex7 p a pt x y bs rows ⟨rfl,p5,qX,x0,x1,y0,y1,ha,hb,qm,hn,hw,fun l0 ls0 H0 IF s0 h0 g0=>?_⟩))));refine .inl (ex3 l0 ls0 #[Do] ⟨rfl,h0,g0,#[O],ew,fun l ts H1 hl s1 qS qm=>?_⟩);rw [el] at qm;have nV:=bF qm;have qg:=zel ew rows.length;refine⟨l,rfl,⟨_,nO.of qS⟩,zbh (fs:=(wts #[OZ]).map V.int) (nO.of qS) (by rw [aA,aA,zpm,nV]) (by rw [aA]; lia) #[FS] #[Rm]⟩
  ·obtain⟨b,rfl,um⟩:=zN hx;obtain⟨⟨u,v⟩,hq,hT⟩:=Paired.get qm um;unfold wts at hy;rw [aD,aD,hq] at hy;have hy:V.int (u+v)=y:=by simpa using hy
   subst hy;refine gY2 (nS.of hT) ?_;exact (nN rfl (nN rfl (nR rfl rfl hR)))
  ·exact⟨D,(nN rfl ⟨nO.of zc,fun M h0 h1=>q M _ (#[Tk].trans (zb hD)) h0 fun oH=>⟨(h1 oH).1,fun x hx=>by have:=(h1 oH).2 x hx; rwa [if_neg #[D]] at this⟩⟩)⟩
noncomputable def zjP (K:aF):Sp:=fun vs H Q _=>∃ (p:Int) (a b:Addr) (as bs:List Int),vs = [.int p,.ref a,.ref b]/\H a=some (.lst #[R1])/\H b=some (.lst #[SM])/\1<=as.length/\as.length<=1000/\1<=bs.length/\bs.length<=1000/\5<=p/\p<=97/\(∀ c∈as,0<=c/\c < p) /\
 ∀ (l:Addr) (rs:List Int) (H':Hp),H l=none->zr H H'->H' l=some #[RE]->rs.length=as.length+bs.length - 1->(∀ c∈rs,0<=c/\c < p)->(∀ x,Cg p (gl rs x) (mq 0 as.length (gl as) (gl bs) x))->Q #[Pm] H'
noncomputable def psm (as bs:List Int) (j i x:Nat):Int:=(sm j fun t=>gl as t*Xp t (gl bs) x)+if j<=x/\x < j+i then gl as j*gl bs (x - j) else 0
theorem zpn (as bs:List Int) (j x:Nat):psm as bs j bs.length x=psm as bs (j+1) 0 x:=by
 unfold psm;rw [if_neg (show ¬ (j+1<=x/\x < j+1+0) by lia),dg];show _=(sm j fun t=>gl as t*Xp t (gl bs) x)+gl as j*Xp j (gl bs) x;congr 1;rw [ziO];by_cases h1:x < j
 ·rw [if_neg #[O],if_pos h1,fq]
 ·rw [if_neg h1];by_cases h2:x < j+bs.length
  ·rw [if_pos ⟨#[O],h2⟩]
  ·rw [if_neg #[O],zbz (w:=bs) (y:=x - j) #[O],fq]
theorem zjQ {rs:List Int} {i x:Nat} {v:Int} (hi:i < rs.length):gl (rs.set i v) x=if x=i then v else gl rs x:=by
 unfold gl;rw [bI,bI];by_cases h:x=i
 ·subst h;rw [if_pos rfl,gC hi];rfl
 ·rw [if_neg h,fY (fun e=>h e.symm)]
theorem zgU (h:j < as.length):atI #[R1] (j:Int)=some (.int (gl as j)):=zab (by rw [aD,zb7 h]; rfl)
theorem zcX:Kf ["p","one","other","found","j","i"] ["p","one","other"] (zi zdv):=#[S]
theorem zdP (T:Txt K mg t) (F:Fun K "_law_times" "_law_times" zdv t.Mk fd):Kn P w K mg base CX0 1 t.Mk fd ["p","one","other"] (zjP K):=by
 refine F.ok zcX #[sn] #[mt]
 ·obtain⟨p,a,b,as,bs,rfl,_⟩:=h;rfl
 ·obtain⟨p,a,b,as,bs,rfl,ha,hb,a1,a2,b1,b2,p5,qX,F6,q⟩:=h;refine zaJ ?_; intro zX;refine⟨_,#[ze,#[zm,3,zcX.nd,#[A],#[zh,#[zc3],#[OJ],#[zh,#[zam],#[zh,#[zB],#[IN],#[Qi]],#[zf]]]],#[ze,#[zah,bN,#[zU,T.Ki,#[ya,#[IN]]],#[zg,4,zcX.nd,#[A]],#[zl,#[zah,bN,#[zU,T.Ki,#[ya,#[Qi]]],#[zg,5,zcX.nd,#[A]],#[zl,#[zaO,#[zh,#[zy],#[zh,#[zB],#[zw,#[zu],#[NE],#[zh,#[zB],#[OD],#[Pf]]],#[zh,#[zQ],#[zw,#[zu],#[Id],#[OD]],#[zw,#[zu],#[GT],#[Pf]]]],#[AT]],#[zeo,#[NE],#[zh,#[zB],#[OD],#[Pf]],set_list]]]]]],#[Sl]]],?_⟩;refine zep ?_; intro pQ pG;have pd:=bJ;refine⟨by show 1<=sizeLine; lia,fun z hz=>?_⟩;have u0:=zb (o:=.lst [.int 0]) hz;have eN:((#[R1].length:Nat):Int)+((#[SM].length:Nat):Int) - 1=((as.length+bs.length - 1:Nat):Int):=by rw [aA,aA]; lia
  have eT:(((as.length+bs.length - 1:Nat):Int)).toNat=as.length+bs.length - 1:=by lia
  refine (nN rfl ⟨a,(nN rfl ⟨.inl (nO.of (u0 _ _ ha)),(nN rfl ⟨b,(nN rfl ⟨.inl (nO.of (u0 _ _ hb)),#[U9]⟩)⟩)⟩)⟩);show zqh #[QW] (.int (((#[R1].length:Nat):Int)+((#[SM].length:Nat):Int) - 1)) _ _;rw [eN];refine (ex3 z _ ([.int 0]) ⟨rfl,rfl,zc,#[O],#[O],by rw [eT]; show 1*_<=sizeLine; lia,fun fa yj=>?_⟩);rw [eT,dM];have yk:=u0.free yj;have u1:=u0.trans (zb (o:=.lst (aP (as.length+bs.length - 1) #[TF])) yj);have f1:nQ (nQ H z (.lst [.int 0])) fa (.lst (aP (as.length+bs.length - 1) #[TF])) fa=some (.lst ((aP (as.length+bs.length - 1) (0:Int)).map V.int)):=by rw [zc,gB]
  generalize nQ (nQ H z (.lst [.int 0])) fa (.lst (aP (as.length+bs.length - 1) #[TF]))=H1 at u1 f1 |-;have CV:∀ x,gl (aP (as.length+bs.length - 1) (0:Int)) x=0:=fun x=>by
   by_cases h:x < as.length+bs.length - 1
   ·exact zba (by rw [dI,if_pos h])
   ·exact zbz (by rw [bU]; lia)
  refine (nN rfl ⟨a,(nN rfl ⟨.inl (nO.of (u1 _ _ ha)),(nN rfl ⟨by rw [aA]; lia,by rw [aA]; lia,?_⟩)⟩)⟩);rw [aA,cG];refine zaq (lo:=0) (n:=as.length) (fun j σ H'=>∃ (rs:List Int) (e4 e5:Option V),σ = [some #[PC],some #[Pn],some (.ref b),some #[SY],e4,e5]/\zr H H'/\H' fa=some #[RE]/\rs.length=as.length+bs.length - 1/\(∀ c∈rs,0<=c/\c < p)/\∀ x,Cg p (gl rs x) (psm as bs j 0 x))
   ⟨_,none,none,rfl,u1,f1,bU,fun c hc=>by rw [dG hc]; lia,fun x=>by rw [CV]; unfold psm; rw [if_neg #[O]]; exact Cg.refl _ _⟩ ?_ ?_
  ·rintro zD zT j σ H2 hj ⟨rs,e4,e5,rfl,s2,h2,pD,rT,xy⟩;rw [show ((0:Int)+(j:Int))=(j:Int) from cV _];refine (nN rfl ⟨b,(nN rfl ⟨.inl (nO.of (s2 _ _ hb)),(nN rfl ⟨by rw [aA]; lia,by rw [aA]; lia,?_⟩)⟩)⟩);rw [aA,cG];refine zaq (lo:=0) (n:=bs.length) (fun i σ H'=>∃ (rs:List Int) (e5:Option V),σ = [some #[PC],some #[Pn],some (.ref b),some #[SY],some (.int (j:Int)),e5]/\zr H H'/\H' fa=some #[RE]/\rs.length=as.length+bs.length - 1/\(∀ c∈rs,0<=c/\c < p)/\∀ x,Cg p (gl rs x) (psm as bs j i x))
    ⟨rs,e5,rfl,s2,h2,pD,rT,xy⟩ ?_ ?_
   ·rintro zD zT i σ H3 hi ⟨rs,e5,rfl,s3,h3,pD,rT,xy⟩;rw [show ((0:Int)+(i:Int))=(i:Int) from cV _];have eji:(j:Int)+(i:Int)=((j+i:Nat):Int):=by lia
    have Al:j+i < rs.length:=by lia
    obtain⟨g0,g1⟩:=F6 _ (aL (zb7 hj));refine (nN rfl (nN rfl (nN rfl (nR rfl rfl (ex4 fa _ _ _ ⟨rfl,rfl,nO.of h3,(by rw [eji]; exact zgU Al),(nN rfl (nN rfl (ex4 a _ _ _ ⟨rfl,rfl,nO.of (s3 _ _ ha),zgU hj,(nN rfl (nN rfl (ex4 b _ _ _ ⟨rfl,rfl,nO.of (s3 _ _ hb),zgU hi,(nR rfl rfl ⟨.inl #[v6],#[Va]⟩)⟩)))⟩)))⟩)))));refine (nN rfl (nN rfl (nN rfl (nR rfl rfl (ex4 fa _ _ (j+i) ⟨rfl,rfl,h3,by rw [eji]; exact zdU (by rw [aA]; exact Al),?_⟩)))));refine⟨rs.set (j+i) ((gl rs (j+i)+gl as j*gl bs i) % p),(nN rfl ⟨zac s3 yk,by rw [zc,iu],by rw [fS]; exact pD,fun c hc=>?_,fun x=>?_⟩)⟩
    ·rcases fe hc with h | h
     ·exact rT c h
     ·rw [h];exact#[Pi]
    ·rw [zjQ Al];by_cases h:x=j+i
     ·subst h;rw [if_pos rfl];refine #[OF].trans ?_;have h1:=xy (j+i);unfold psm at h1 |-;rw [if_neg #[O],dg] at h1;rw [if_pos #[O],Nat.add_sub_cancel_left];exact h1.add #[On]
     ·rw [if_neg h];have h1:=xy x;unfold psm at h1 |-;by_cases h2:j<=x/\x < j+i
      ·rw [if_pos h2] at h1;rw [if_pos #[O]];exact h1
      ·rw [if_neg h2] at h1;rw [if_neg #[O]];exact h1
   ·rintro σ H3 ⟨rs,e5,rfl,s3,h3,pD,rT,xy⟩;exact (ex3 rs _ _ ⟨rfl,s3,h3,pD,rT,fun x=>by rw [<- zpn]; exact xy x⟩)
  ·rintro σ H2 ⟨rs,e4,e5,rfl,s2,h2,pD,rT,xy⟩;refine (nN rfl (q fa rs H2 yk s2 h2 pD rT fun x=>?_));have h1:=xy x;unfold psm at h1;rw [if_neg #[O],dg,<- zpS] at h1;exact h1
noncomputable def zjR (K:aF):Sp:=fun vs H Q _=>∃ (p:Int) (k:Nat) (ca qa:Addr) (bs:List Addr) (rows:List #[wp]) (f:List Int),vs = [.int p,.ref ca,.ref qa]/\H ca=some #[Qf]/\zaZ H bs rows/\1<=rows.length/\rows.length<=100/\(∀ r∈rows,1<=r.length/\r.length<=100/\∀ c∈r,0<=c/\c < p)/\H qa=some (.tup #[Qk])/\IsP p k f/\1<=k/\k<=5/\5<=p/\p<=97 /\
 ∀ (l:Addr) (fs:List Int) (H':Hp),H l=none->zr H H'->H' l=some #[TB]->fs≠[]->(∀ c∈fs,0<=c/\c < p)->(∀ x,Cg p (gl fs x) (AL k (gl f) rows.length (fun j i=>gl (rows.getD j []) i) x))->Q #[Pm] H'
theorem zf5 (r:List Int):Dg (gl r) r.length:=fun i hi=>zbz hi
theorem zbu:Kf ["p","curve","polynomial","found","power","line","i","number"] ["p","curve","polynomial"] (zi zcH):=#[S]
theorem zjS (T:Txt K mg t) (F:Fun K "_law_along" "_law_along" zcH t.Mp fd):Kn P w K mg base CX0 2 t.Mp fd ["p","curve","polynomial"] (zjR K):=by
 obtain⟨rD,ou,oJ⟩:=T.K1;have oK:=zdP (P:=P) (w:=w) (base:=base) T ou;refine F.ok zbu #[sn] #[mt]
 ·obtain⟨p,k,ca,qa,bs,rows,f,rfl,_⟩:=h;rfl
 ·obtain⟨p,k,ca,qa,bs,rows,f,rfl,vj,hb,n1,hn,rA,EF,hf,k1,k5,p5,qX,q⟩:=h;refine zaJ ?_; intro zX;refine⟨_,#[ze,#[zm,3,zbu.nd,#[A],#[zh,#[zc3],#[OJ],#[zh,#[zB],#[zn,#[za4],T.MP,fC,#[ya,#[zI,(Kg.of (N':=["line"]) (ix:=[none]) (zi zcH) _ rfl rfl rfl),#[zZ],#[TV],#[pc],#[re],#[OQ]]]],#[zh,#[zQ],#[IN],#[Qi]]]]],#[ze,#[zm,4,zbu.nd,#[A],#[OJ]],#[ze,#[zah,bN,#[TV],#[zg,5,zbu.nd,#[A]],#[ze,#[zah,bN,#[zcy,T.Kh,#[ya,#[zq,oK,#[sK],T.Ll,ou.kp,oJ,#[zK],#[za,#[AT],#[za,#[zW,#[za2],T.MK,ir,#[QT]],#[RS]]]]]],#[zaw,#[zj,#[zg,6,zbu.nd,#[A]],#[zj,#[zg,7,zbu.nd,#[A]],#[zA]]]],#[zl,#[zaO,#[zh,#[zy],#[zh,#[zB],#[zw,#[zu],#[NE],#[R8]],#[Rl]],#[AT]],#[zeo,#[NE],#[R8],set_list]]]],#[zl,#[zm,4,zbu.nd,#[A],#[zq,oK,#[sK],T.Ll,ou.kp,oJ,#[zK],#[za,#[AT],#[za,#[OD],#[ya,#[zW,#[za2],T.MK,ir,#[OX]]]]]]]]]],#[Sl]]]],?_⟩;refine zg4 ?_; intro rS pQ pG;have pd:=bJ;have uk:=hb.length;have xu:f.length=k:=hf.1;refine⟨by show 1<=sizeLine; lia,fun z hz=>?_⟩;have u0:=zb (o:=.lst [.int 0]) hz;have f0:nQ H z (.lst [.int 0]) z=some (.lst [.int 0]):=zc;generalize nQ H z (.lst [.int 0])=H0 at u0 f0 |-;have EG:=u0 _ _ vj;have hb0:=hb.same u0;refine (nN rfl ⟨ca,rfl,⟨_,nS.of EG⟩,zb0 (K:=K) (xs:=bs.map V.ref) (fs:=#[RJ].map V.int) (nS.of EG) (by unfold z8; rw [aA,aA,aA]; lia) (by rw [aA]; lia) ?_ ?_⟩)
  ·intro j x y R B hx hy hR;obtain⟨b,rfl,Jd⟩:=zN hx;obtain⟨r,oX,oW⟩:=Paired.get hb0 Jd;have yY:y = .int (r.length:Int):=by
    unfold z8 at hy;rw [aD,aD,oX] at hy;exact (bK hy).symm
   subst yY;refine gY #[SR];rw [aA];exact hR
  intro D hD;have u1:=zb (o:=.lst (#[RJ].map V.int)) hD;have oH:z8 rows≠[]:=fun e=>by
   have:=congrArg gD e;unfold z8 at this;rw [aA] at this;have:rows.length=0:=this;lia
  refine#[Tc];obtain⟨W,rfl,hW⟩:∃ W:Nat,M=(W:Int)/\∀ r∈rows,r.length<=W:=by
   obtain⟨r,oX,e⟩:=bE.mp vS;refine⟨r.length,e.symm,fun r2 h2=>?_⟩;have:=yU _ (bE.mpr ⟨r2,h2,rfl⟩);lia
  have hW1:1<=W/\W<=100:=by
   obtain⟨r,oX,e⟩:=bE.mp vS;have:=rA r oX;lia
  have vm:=u0.trans u1;generalize nQ H0 D (.lst (#[RJ].map V.int))=H1 at u1 vm |-;have hnk:rows.length*k<=500:=bX (gP hn k5) #[D];have eN:(W:Int)+((#[AC].length:Nat):Int)*((#[Qk].length:Nat):Int)=((W+rows.length*k:Nat):Int):=by rw [aA,aA,xu,uk]; push_cast; rfl
  have eT:(((W+rows.length*k:Nat):Int)).toNat=W+rows.length*k:=by lia
  refine (nN rfl ⟨ca,(nN rfl ⟨.inr (nS.of (vm _ _ vj)),(nN rfl ⟨qa,(nN rfl ⟨.inr (nS.of (vm _ _ EF)),(nR rfl rfl ⟨.inl ⟨by rw [aA]; lia,by rw [aA]; lia⟩,#[IR]⟩)⟩)⟩)⟩)⟩);show zqh #[QW] (.int ((W:Int)+((#[AC].length:Nat):Int)*((#[Qk].length:Nat):Int))) _ _;rw [eN];refine (ex3 z _ ([.int 0]) ⟨rfl,rfl,u1 _ _ f0,#[O],#[O],by rw [eT]; show 1*_<=sizeLine; lia,fun fa yj=>?_⟩);rw [eT,dM];obtain⟨N,hN⟩:∃ N,W+rows.length*k=N:=⟨_,rfl⟩;rw [hN];have yk:=vm.free yj;have wC:=vm.trans (zb (o:=.lst (aP N #[TF])) yj);have f2:nQ H1 fa (.lst (aP N #[TF])) fa=some (.lst ((aP N (0:Int)).map V.int)):=by rw [zc,gB]
  generalize nQ H1 fa (.lst (aP N #[TF]))=H2 at wC f2 |-;have CV:∀ x,gl (aP N (0:Int)) x=0:=fun x=>by
   by_cases h:x < N
   ·exact zba (by rw [dI,if_pos h])
   ·exact zbz (by rw [bU]; lia)
  refine⟨by show 1<=sizeLine; lia,fun pa xA=>?_⟩;have u3:=zb (o:=.lst [.int 1]) xA;have F7:pa≠fa:=fun e=>by rw [e,f2] at xA; cases xA
  refine⟨_,rfl,ca,rfl,⟨_,nS.of ((wC.trans u3) _ _ vj)⟩,zh3 (K:=K) (a:=ca) (xs:=bs.map V.ref) (fun t σ H'=>∃ (pa:Addr) (fs pw:List Int) (e5 e6 e7:Option V),σ = [some #[PC],some (.ref ca),some (.ref qa),some #[SY],some #[Rr],e5,e6,e7]/\zr H H'/\H' fa=some #[TB]/\H' pa=some (.lst (pw.map V.int))/\pa≠fa/\(fs.length=N/\∀ c∈fs,0<=c/\c < p)/\(pw.length=1+t*(k - 1)/\∀ c∈pw,0<=c/\c < p)/\(∀ x,x < N->Cg p (gl fs x) (sm t fun u=>itq k (gl f) u (gl (rows.getD u [])) x))/\∀ x,Cg p (gl pw x) (itq k (gl f) t zef x))
   ⟨pa,_,[1],none,none,none,rfl,wC.trans u3,u3 _ _ f2,zc,F7,⟨bU,fun c hc=>by rw [dG hc]; lia⟩,⟨by rw [Nat.zero_mul]; rfl,fun c hc=>by rw [bD.mp hc]; lia⟩,fun x _=>by rw [CV]; exact Cg.refl _ _,fun x=>by
    show Cg p (gl [1] x) (zef x);unfold zef;cases x with
    | zero=>exact Cg.refl _ _
    | succ x=>exact Cg.refl _ _⟩ (fun t σ H' _ ⟨_,_,_,_,_,_,_,s',_⟩=>nS.of (s' _ _ vj)) ?_ ?_⟩
  ·rintro zD zT t x σ H4 hx ⟨pa,fs,pw,e5,e6,e7,rfl,s4,F8,Je,F7,⟨AA,xG⟩,⟨oT,Eh⟩,EH,Jf⟩;obtain⟨lb,rfl,EI⟩:=zN hx;obtain⟨r,oX,oW⟩:=Paired.get hb EI;obtain⟨r1,EJ,rT⟩:=rA r (aL oX);have hrW:=hW r (aL oX);have htn:=(aW.mp oX).1;have er:rows.getD t []=r:=by rw [bI,oX]; rfl
   have GA:t*(k - 1)<=100*4:=gP #[O] #[O];have Jg:(t+1)*(k - 1)<=rows.length*k:=gP #[O] #[O];rw [lW] at Jg;refine (nN rfl (nN rfl ⟨lb,(nN rfl ⟨.inr (nS.of (s4 _ _ oW)),fun x1 vd=>?_⟩)⟩));have w1:=zb (o:=.lst #[RL]) vd;refine (nN rfl (ex5 p x1 pa r pw ⟨rfl,zc,w1 _ _ Je,#[O],#[O],#[O],#[O],p5,qX,rT,fun ra rs H5 qT w2 h5r pD Jh xy=>?_⟩));have Ji:=w1.trans w2;have hrf:ra≠fa:=fun e=>by
    have:=w1 _ _ F8;rw [<- e,qT] at this;cases this
   have h5f:=Ji _ _ F8;have yl:∀ x,Cg p (gl rs x) (itq k (gl f) t (gl r) x):=fun x=>by
    refine (xy x).trans ((zpR Jf x).trans #[Q5]);rw [ziP,zfj (zf5 r)]
   have s5:zr H (hide H5 fa):=fun a o e=>zcN ((s4.trans Ji) _ _ e) (fun z=>by rw [z,yk] at e; cases e)
   have Cn:=zcN h5r hrf;have Jj:=zcN (Ji _ _ Je) F7;have hhf:hide H5 fa fa=none:=by unfold hide; rw [if_pos rfl]
   refine⟨ra,_,rfl,nO.of h5r,zbW (n:=rs.length) (fun i σ H'=>∃ (fs:List Int) (e6 e7:Option V),σ = [some #[PC],some (.ref ca),some (.ref qa),some #[SY],some #[Rr],some (.ref lb),e6,e7]/\zr (hide H5 fa) H'/\H' fa=some #[TB]/\(fs.length=N/\∀ c∈fs,0<=c/\c < p)/\∀ x,x < N->Cg p (gl fs x) ((sm t fun u=>itq k (gl f) u (gl (rows.getD u [])) x)+if x < i then gl rs x else 0))
    ⟨fs,_,_,rfl,zin _ _,h5f,⟨AA,xG⟩,fun x hx=>by rw [if_neg #[O],dg]; exact EH x hx⟩ ?_ ?_ ?_ ?_⟩
   ·rintro i σ H6 hi ⟨fs,e6,e7,rfl,s6,_⟩;exact⟨_,.int rs[i],nO.of (s6 _ _ Cn),by rw [aD,aG hi]; rfl⟩
   ·rintro σ H6 ⟨fs,e6,e7,rfl,s6,_⟩;exact⟨_,nO.of (s6 _ _ Cn),by rw [aA]; exact aH _⟩
   ·rintro zD zT i x σ H6 H7 hi ⟨fs,e6,e7,rfl,s6,F9,⟨Cp,Cq⟩,Cr⟩ ⟨T,v,hT,rfl,rfl,hv⟩;obtain⟨y,rfl,hy⟩:=zag (hv _ (nO.of (s6 _ _ Cn)));have EK:gl rs i=y:=zba hy;have uT:=zb (o:=.tup [.int (i:Int),.int y]) hT;refine#[Db];have s7:=s6.trans uT;have Jk:=uT _ _ F9;generalize nQ H6 T (.tup [.int (i:Int),.int y])=H7 at uT s7 Jk |-;have Jl:i < fs.length:=by lia
    refine (nN rfl (nN rfl (ex4 fa _ _ _ ⟨rfl,rfl,nO.of Jk,zgU Jl,(nN rfl #[Va])⟩)));refine (nN rfl (nN rfl (ex4 fa _ _ i ⟨rfl,rfl,Jk,zdU (by rw [aA]; exact Jl),?_⟩)));refine (ex3 (fs.set i ((gl fs i+y) % p)) _ _ ⟨rfl,zac s7 hhf,by rw [zc,iu],⟨by rw [fS]; exact Cp,fun c hc=>?_⟩,fun x hx=>?_⟩)
    ·rcases fe hc with h | h
     ·exact Cq c h
     ·rw [h];exact#[Pi]
    ·rw [zjQ Jl];have h1:=Cr x hx;by_cases h:x=i
     ·subst h;rw [if_neg #[O],dg] at h1;rw [if_pos rfl,if_pos #[O],EK];exact #[OF].trans (h1.add #[On])
     ·rw [if_neg h];by_cases h2:x < i
      ·rw [if_pos h2] at h1;rw [if_pos #[O]];exact h1
      ·rw [if_neg h2] at h1;rw [if_neg #[O]];exact h1
   ·rintro σ H6 ⟨fs,e6,e7,rfl,s6,F9,⟨Cp,Cq⟩,Cr⟩;have Jm:=#[Vw] _ _ EF;refine (nN rfl (nN rfl (nN rfl ⟨qa,(nN rfl ⟨.inr (nS.of Jm),fun x2 wj=>?_⟩)⟩)));have w3:=zb (o:=.lst #[Qk]) wj;refine (ex5 p pa x2 pw f ⟨rfl,w3 _ _ (s6 _ _ Jj),zc,#[O],#[O],#[O],#[O],p5,qX,Eh,fun pb rs2 H8 hpb w4 h8 Eo hr8 B8=>?_⟩);have w34:=w3.trans w4;have Jn:pb≠fa:=fun e=>by
     have:=w3 _ _ F9;rw [<- e,hpb] at this;cases this
    refine (ex6 pb fs rs2 _ _ _ ⟨rfl,s5.trans (s6.trans w34),w34 _ _ F9,h8,Jn,⟨Cp,Cq⟩,⟨by rw [Eo,oT,xu,lW]; lia,hr8⟩,fun x hx=>?_,fun x=>?_⟩)
    ·refine (Cr x hx).trans ?_;show Cg p _ ((sm t fun u=>itq k (gl f) u (gl (rows.getD u [])) x)+itq k (gl f) t (gl (rows.getD t [])) x);refine #[On].add ?_;rw [er];by_cases h:x < rs.length
     ·rw [if_pos h];exact yl x
     ·rw [if_neg h];have:=yl x;rw [zbz (w:=rs) (y:=x) #[O]] at this;exact this
    ·refine (B8 x).trans ?_;have e1:mq 0 pw.length (gl pw) (gl f)=mq 0 k (gl f) (gl pw):=by
      have:=zkT (zf5 pw) (zf5 f);rw [xu] at this;exact this
     rw [e1];exact zpR Jf x
  ·rintro σ H4 ⟨pa,fs,pw,e5,e6,e7,rfl,s4,F8,Je,F7,⟨AA,xG⟩,⟨oT,Eh⟩,EH,Jf⟩;refine (nN rfl (q fa fs H4 yk s4 F8 (fun e=>by rw [e] at AA; simp at AA; lia) xG fun x=>?_));by_cases hx:x < N
   ·rw [znL];have:=EH x hx;rw [aA,uk] at this;exact this
   ·rw [zbz #[O],zrI k1 (W:=W) (fun t ht=>?_) (fun t ht=>?_) x #[O]]
    ·exact Cg.refl _ _
    ·have hm:rows.getD t []∈rows:=by rw [bI,aG ht]; exact d7 ht
     exact (zf5 _).le (hW _ hm)
    ·funext i;show gl (rows.getD t []) i=0;rw [bI,eZ ht];rfl
noncomputable def dcd (P:Prop):Bool:=@decide P (fH P)
theorem zn6 {P:Prop} (h:P):dcd P=true:=@decide_eq_true P (fH P) h
theorem zn7 {P:Prop} (h:¬ P):dcd P=false:=@decide_eq_false P (fH P) h
theorem zdy {P:Prop}:dcd P=true↔P:=@decide_eq_true_iff P (fH P)
noncomputable def zi1 (K:aF):Sp:=fun vs H Q _=>∃ (p x:Int) (m:Nat),vs = [.int p,.int x,.int (m:Int)]/\5<=p/\p<=97/\0<=x/\x < p/\1<=m/\m<=1000 /\
 ∀ (l:Addr) (H':Hp),H l=none->zr H H'->H' l=some (.lst ((zdA p x m).map V.int))->Q #[Pm] H'
theorem zeO:Kf ["p","x","many","found"] ["p","x","many"] (zi zcU):=#[S]
theorem zi2 (T:Txt K mg t) (F:Fun K "_law_powers" "_law_powers" zcU t.LI fd):Kn P w K mg base CX0 1 t.LI fd ["p","x","many"] (zi1 K):=by
 refine F.ok zeO #[sn] #[mt]
 ·obtain⟨p,x,m,rfl,_⟩:=h;rfl
 ·obtain⟨p,x,m,rfl,p5,qX,x0,x1,m1,m2,q⟩:=h;refine zaJ ?_; intro zX;refine⟨_,#[ze,#[zm,3,zeO.nd,#[A],#[OJ]],#[ze,#[zfm,bN,#[zJ,#[zgv],#[zn,#[zo],T.KD,cq,#[Sj]],#[GT],(zV _)],#[zl,#[zcc,#[zfu,dJ,fA,fB,#[zcx],#[NE],#[ya,#[zh,#[zy],#[zh,#[zQ],#[zw,#[zu],#[NE],#[zmk,zje,#[zf]]],#[Id]],#[AT]]]]]]],#[zl,#[zC,#[zay,zby,#[NE],#[zbg],#[zaA,#[GT]]]]]]],?_⟩;refine zep ?_; intro pQ pG;have pd:=bJ;refine⟨by show 1<=sizeLine; lia,fun l hl=>?_⟩;have e1:(zdA p x 1).map V.int = [V.int 1]:=by
   show [V.int (x ^ 0 % p)] = [V.int 1];rw [Int.pow_zero,dN #[O] #[O]]
  refine⟨fun μ σ H'=>∃ n:Nat,μ=m - n/\1<=n/\n<=m/\σ = [some #[PC],some (.int x),some (.int (m:Int)),some #[Pm]]/\zr H H'/\H' l=some (.lst ((zdA p x n).map V.int)),⟨m - 1,1,rfl,aH _,m1,rfl,zb hl,by rw [e1]; exact zc⟩,?_⟩;rintro μ σ H1 ⟨n,rfl,n1,nm,rfl,s1,h1⟩;refine (nN rfl ⟨l,#[Vj]⟩);rw [aA,zed];refine zaR #[U5] #[U4]
  ·have n6:=of_decide_eq_true n6;have n6:n < m:=by lia
   obtain⟨n',rfl⟩:∃ n',n=n'+1:=⟨n - 1,#[O]⟩;have g0:=bC (x ^ n') (show p≠0 by lia);have g1:=aR (x ^ n') (show 0 < p by lia);refine⟨fun σ' H'=>∃ m',m' < m - (n'+1)/\∃ n:Nat,m'=m - n/\1<=n/\n<=m/\σ' = [some #[PC],some (.int x),some (.int (m:Int)),some #[Pm]]/\zr H H'/\H' l=some (.lst ((zdA p x n).map V.int)),fun _ _ z=>z,?_⟩;have oW:atI ((zdA p x (n'+1)).map V.int) (-1)=some (.int (x ^ n' % p)):=by
    rw [zgQ,aN];exact zkO
   refine (nN rfl ⟨.inl ⟨rfl,_,nO.of h1⟩,(nN rfl (nN rfl (ex4 l _ _ (.int (x ^ n' % p)) ⟨rfl,rfl,nO.of h1,oW,(nN rfl (nR rfl rfl ⟨.inl #[v6],(nN rfl (nR rfl rfl ⟨#[O],l,(nR rfl rfl ⟨h1,by rw [aA,zed]; lia,?_⟩)⟩))⟩))⟩)))⟩);refine⟨m - (n'+2),#[O],n'+2,rfl,#[O],#[O],rfl,zac s1 hl,?_⟩;rw [zc,zgQ p x (n'+1),aN];have:x ^ n' % p*x % p=x ^ (n'+1) % p:=by
    rw [fw];exact (#[OF].mul #[To]).mod_eq
   show some (HO.lst (_++[V.int (x ^ n' % p*x % p)]))=_;rw [this];rfl
  ·have pO:¬ ((n:Int) < (m:Int)):=fun h=>pO #[Sn]
   have hnm:n=m:=by lia
   subst hnm;refine (nN rfl (nN rfl (nN rfl ⟨l,#[UL]⟩)));have ec:za7 ((zdA p x n).map V.int) none (some (n:Int))=(zdA p x n).map V.int:=by
    unfold za7;rw [HT.KG,HT.KE,eY,eK,aA,zed,Nat.min_self,aY (by rw [aA,zed]; exact aH _)]
   rw [ec];exact q z _ (s1.free hz) #[U7] zc
theorem ch0 (t:Nat):ch t 0=1:=by cases t <;> rfl
noncomputable def zi3 (K:aF):Sp:=fun vs H Q _=>∃ (m f:Nat),vs = [.int (m:Int),.int (f:Int)]/\m<=1000/\f<=1000/\Q (.int (ch m f)) H
theorem zcj:Kf ["many","few","found","k"] ["many","few"] (zi zcV):=#[S]
theorem zi4 (T:Txt K mg t) (F:Fun K "_law_choose" "_law_choose" zcV t.LK fd):Kn P w K mg base CX0 1 t.LK fd ["many","few"] (zi3 K):=by
 refine F.ok zcj #[sn] #[mt]
 ·obtain⟨m,f,rfl,_⟩:=h;rfl
 ·obtain⟨m,f,rfl,hm,hf,q⟩:=h;refine zaJ ?_; intro zX;refine⟨_,#[ze,#[zm,2,zcj.nd,#[A],#[zf]],#[ze,#[zah,bN,#[zU,T.Ki,#[xL]],#[zg,3,zcj.nd,#[A]],#[zl,#[zm,2,zcj.nd,#[A],#[zh,#[zbU],#[zh,#[zQ],#[GT],#[zh,#[zam],#[AT],#[NE]]],#[zh,#[zB],#[NE],#[zf]]]]]],#[zl,#[zC,#[GT]]]]],?_⟩;refine zep ?_; intro pQ pG;refine (nN rfl ⟨(f:Int),rfl,#[O],#[O],zaq (lo:=0) (n:=(f:Int).toNat) (fun i σ H'=>H'=H/\∃ e:Option V,σ = [some (.int (m:Int)),some (.int (f:Int)),some (.int (ch m i)),e]) ⟨rfl,none,by rw [ch0]; rfl⟩ ?_ ?_⟩)
  ·rintro zD zT i σ H1 hi ⟨rfl,e,rfl⟩;refine (nN rfl (nN rfl (nN rfl (nR rfl rfl (nR rfl rfl ⟨.inr #[v6],(nN rfl (nR rfl rfl (nR rfl rfl ⟨#[v6],?_⟩)))⟩)))));have e1:ch m i*((m:Int) - (0+(i:Int))) / ((0+(i:Int))+1)=ch m (i+1):=by rw [cV]; exact zqO
   refine⟨rfl,some (.int (0+(i:Int))),?_⟩;rw [<- e1];rfl
  ·rintro σ H1 ⟨rfl,e,rfl⟩;have e1:(f:Int).toNat=f:=by lia
   rw [e1];exact #[VJ]
noncomputable def zl9 (K:aF):Sp:=fun vs H Q _=>∃ (k:Int) (a:Addr) (bs:List Addr) (rows:List #[wp]),vs = [.int k,.ref a]/\0<=k/\k<=1000/\H a=some #[Qf]/\zaZ H bs rows/\rows.length<=250/\(∀ r∈rows,r.length<=250)/\zaK rows rows.length≠[] /\
 ∀ (M:Int) (H':Hp),zr H H'->M∈szs k #[Ix]->(∀ x∈szs k #[Ix],x<=M)->Q (.int M) H'
theorem zdz:Kf ["k","curve","sizes","j","line"] ["k","curve"] (zi zdg):=#[S]
theorem zma (T:Txt K mg t) (F:Fun K "_law_size" "_law_size" zdg t.MZ fd):Kn P w K mg base CX0 1 t.MZ fd ["k","curve"] (zl9 K):=by
 refine F.ok zdz #[sn] #[mt]
 ·obtain⟨k,a,bs,rows,rfl,_⟩:=h;rfl
 ·obtain⟨k,a,bs,rows,rfl,k0,k1,ha,hb,hn,hw,oH,q⟩:=h;refine zaJ ?_; intro zX;refine⟨_,#[ze,#[zm,2,zdz.nd,#[A],#[Si]],#[ze,#[zah,bN,#[zc6,T.Kh,#[xL]],#[zaw,#[zj,#[zg,3,zdz.nd,#[PU]],#[zj,#[zg,4,zdz.nd,#[A]],#[zA]]]],#[zl,#[zcc,#[zfu,dJ,PySem.F.slot_list_extend,PySem.F.type_list_extend,(@zk8 _),#[GT],#[ya,#[zI,(Kg.of (N':=["i","number","k","j"]) (ix:=[none,none,some 0,some 3]) (zi zdg) _ rfl rfl rfl),#[wv],#[zc6,T.Kh,#[RS]],#[or],(fun _ _ _ _=>#[zb5,#[zJ,#[zhZ],#[Id],#[zf],(zV _)]]),(fun _ _ _ _=>#[zh,#[zB],#[AT],#[zh,#[zQ],#[Pz],#[NE]]])]]]]]],#[zl,#[zC,#[zn,#[za4],T.MP,fC,#[OX]]]]]],?_⟩;refine zep ?_; intro pQ pG;have pd:=bJ;have nV:=bF hb;refine⟨bW _,fun S hS=>?_⟩;refine (nN rfl ⟨a,(nN rfl ⟨nS.of ((zb hS) _ _ ha),zbW (n:=rows.length) (fun m σ H'=>∃ e3 e4:Option V,σ = [some (.int k),some #[Pn],some (.ref S),e3,e4]/\zr H H'/\H' S=some (.lst ((szs k #[S3]).map V.int))) ⟨none,none,rfl,zb hS,zc⟩ ?_ ?_ ?_ ?_⟩)⟩)
  ·rintro m σ H1 hm ⟨e3,e4,rfl,s1,h1⟩;exact⟨_,.ref (bs[m]'#[O]),nS.of #[Qd],by rw [aD,aG #[O]]; rfl⟩
  ·rintro σ H1 ⟨e3,e4,rfl,s1,h1⟩;exact⟨_,nS.of #[Qd],by rw [aA]; lia⟩
  ·rintro zD zT m y σ H1 H2 hm ⟨e3,e4,rfl,s1,h1⟩ ⟨T,v,hT,rfl,rfl,hv⟩;obtain⟨b,rfl,qB⟩:=zN (hv _ (nS.of #[Qd]));obtain⟨r,hr,qL⟩:=Paired.get hb qB;have pD:=hw r (aL hr);have er:rows.getD m []=r:=by simp [f9,hr]
   refine#[Db];have sT:=s1.trans (zb (o:=.tup [.int m,.ref b]) hT);have h2:=(zb (o:=.tup [.int m,.ref b]) hT) _ _ h1;generalize nQ H1 T (.tup [.int m,.ref b])=H2 at sT h2 |-;have tZ:=sT _ _ qL;refine (nN rfl ⟨.inl ⟨rfl,_,nO.of h2⟩,(nN rfl ⟨b,(nN rfl ⟨nS.of tZ,zaI (n:=r.length) (fun j ys H'=>ys=(szs k (trm m r j)).map V.int/\zr H2 H') #[Ry] ?_ ?_ ?_ ?_⟩)⟩)⟩)
   ·rintro j ys H3 hj ⟨rfl,s3⟩;exact⟨_,.int (r[j]'hj),nS.of #[RW],by rw [aD,aG hj]; rfl⟩
   ·rintro ys H3 ⟨rfl,s3⟩;exact⟨_,nS.of #[RW],by rw [aA]; lia⟩
   ·rintro j z ys H3 H4 hj ⟨rfl,s3⟩ ⟨T',v',xw,rfl,rfl,yP⟩;obtain⟨x,rfl,hx⟩:=zag (yP _ (nS.of #[RW]));have Bk:gl r j=x:=zba hx;have yg:=s3.trans (zb (o:=.tup [.int j,.int x]) xw);have l2:=zcS m r j;refine#[Qj];generalize nQ H3 T' (.tup [.int j,.int x])=H4 at yg |-;refine (nN rfl #[RT]);refine zaR #[Th] #[Th]
    ·have qV:x≠0:=by simpa using qV
     refine (nN rfl (nN rfl (nR rfl rfl (nN rfl (nR rfl rfl ⟨.inl #[v6],(nR rfl rfl ⟨by rw [aA,zfe]; lia,?_,yg⟩)⟩)))));rw [zcE,if_pos (by rw [Bk]; exact qV),zkN,aN];rfl
    ·have qV:x=0:=by simpa using qV
     refine⟨?_,yg⟩;rw [zcE,if_neg (by rw [Bk,qV]; simp)]
   ·rintro ys H3 D ⟨rfl,s3⟩ hD;have h3S:=s3 _ _ h2;have dS:D≠S:=(zH h3S hD).symm;have l1:=zgR hw m;have l2:=zcS m r r.length;refine (ex4 S D _ _ ⟨rfl,rfl,by rw [zp dS.symm]; exact h3S,zc,by rw [aA,aA,zfe,zfe]; lia,?_⟩);refine⟨_,_,rfl,zac ((sT.trans s3).trans (zb hD)) hS,?_⟩;rw [zc,zb1,er,zkN,aN]
  ·rintro σ H1 ⟨e3,e4,rfl,s1,h1⟩;exact (nN rfl ⟨S,(nN rfl ⟨nO.of h1,by unfold szs; simpa using oH,fun M hM yd=>q M _ s1 hM yd⟩)⟩)
noncomputable def zc1 (rows:List #[wp]) (x y:Int) (u v:Nat):Int:=sm rows.length fun t=>sm (rows.getD t []).length fun s=>gl (rows.getD t []) s*cv (s,t) ⟨x,y,u,v⟩
noncomputable def byv (p x:Int) (u s:Nat):Int:=if u<=s then ch s u*(x ^ (s - u) % p) else 0
noncomputable def byL (p x:Int) (u n:Nat):List Int:=(bM n).map (byv p x u)
theorem zqY (p x:Int) (u s:Nat):Cg p (byv p x u s) (cf x s u):=by
 unfold byv cf;by_cases h:u<=s
 ·rw [if_pos h];exact #[On].mul #[OF]
 ·rw [if_neg h,zdp #[O],dE];exact Cg.refl p 0
noncomputable def sms (p x:Int) (u:Nat) (r:List Int):Int:=sm r.length fun s=>gl r s*byv p x u s
theorem zeA {f:Nat->Int}:∀ n,((bM n).map f).sum=sm n f
 | 0=>rfl
 | n+1=>by
  rw [dq,aN,ji,zeA n];show _+(f n+0)=_+f n;lia
noncomputable def tot (p x y:Int) (rows:List #[wp]) (u v m:Nat):Int:=sm m fun k=>sms p x u (rows.getD (v+k) [])*ch (v+k) v*(y ^ (v+k - v) % p)
theorem zn8 {p x y:Int} {u v:Nat}:Cg p (tot p x y rows u v #[U8]) #[Qu]:=by
 unfold tot zc1;by_cases h:v<=rows.length
 ·have e1:rows.length=v+#[U8]:=by lia
  have:sm rows.length (fun t=>sm (rows.getD t []).length fun s=>gl (rows.getD t []) s*cv (s,t) ⟨x,y,u,v⟩)=sm #[U8] fun k=>sm (rows.getD (v+k) []).length fun s=>gl (rows.getD (v+k) []) s*cv (s,v+k) ⟨x,y,u,v⟩:=by
   conv=>lhs; rw [e1]
   rw [ziL,zbq (n:=v),cV];intro t ht;refine zbq fun s _=>?_
   unfold cv cf;rw [zdp ht];simp
  rw [this];refine znd fun k _=>?_
  unfold sms;have e2:sm (rows.getD (v+k) []).length (fun s=>gl (rows.getD (v+k) []) s*cv (s,v+k) ⟨x,y,u,v⟩)=sm (rows.getD (v+k) []).length (fun s=>gl (rows.getD (v+k) []) s*cf x s u)*ch (v+k) v*y ^ (v+k - v):=by
   rw [show sm (rows.getD (v+k) []).length (fun s=>gl (rows.getD (v+k) []) s*cv (s,v+k) ⟨x,y,u,v⟩)=sm (rows.getD (v+k) []).length (fun s=>(ch (v+k) v*y ^ (v+k - v))*(gl (rows.getD (v+k) []) s*cf x s u)) from zaH fun s _=>by unfold cv cf; grind,zcq];grind
  rw [e2];exact ((znd fun s _=>#[On].mul (zqY p x u s)).mul #[On]).mul #[OF]
 ·rw [show rows.length - v=0 by lia];refine Cg.of_eq (Eq.symm (zbq fun t ht=>zbq fun s _=>?_));unfold cv cf;have IY:t < v:=by lia
  rw [zdp IY];simp
noncomputable def zi5 (K:aF):Sp:=fun vs H Q _=>∃ (p:Int) (a pt:Addr) (x y:Int) (m:Nat) (bs:List Addr) (rows:List #[wp]),vs = [.int p,.ref a,.ref pt,.int (m:Int)]/\5<=p/\p<=97/\0<=x/\x < p/\0<=y/\y < p/\m<=4/\H a=some #[Qf]/\zaZ H bs rows/\H pt=some (.tup [.int x,.int y])/\1<=rows.length/\rows.length<=201/\(∀ r∈rows,1<=r.length/\r.length<=201/\∀ v∈r,0<=v/\v < p) /\
 ∀ H',zr H H'->Q (.bl (dcd (∀ u v,u+v < m->Cg p #[Qu] 0))) H'
theorem zaE:Kf ["p","curve","point","m","a","b","wide","right","up","i","by","sums","j"] ["p","curve","point","m"] (zi zbd):=#[S]
theorem zi6 (T:Txt K mg t) (F:Fun K "_law_passes" "_law_passes" zbd t.LJ fd):Kn P w K mg base CX0 2 t.LJ fd ["p","curve","point","m"] (zi5 K):=by
 obtain⟨Bl,qd,rE⟩:=T.Lu;have rF:=zi2 (P:=P) (w:=w) (base:=base) T qd;obtain⟨Bm,qe,rG⟩:=T.Lw;have rH:=zi4 (P:=P) (w:=w) (base:=base) T qe;refine F.ok zaE #[sn] #[mt]
 ·obtain⟨p,a,pt,x,y,m,bs,rows,rfl,_⟩:=h;rfl
 ·obtain⟨p,a,pt,x,y,m,bs,rows,rfl,p5,qX,x0,x1,y0,y1,m4,ha,hb,qm,vM,hn,hw,q⟩:=h;have no:∀ H',zr H H'->¬ (∀ u v,u+v < m->Cg p #[Qu] 0)->Q #[VR] H':=fun H' s' h=>by
   have:=q H' s';rw [zn7 h] at this;exact this
  refine zaJ ?_; intro zX;refine⟨_,#[ze,#[zaO,#[GT],#[zaw,#[zj,#[zg,4,zaE.nd,#[A]],#[zj,#[zg,5,zaE.nd,#[A]],#[zA]]]]],#[ze,#[zm,6,zaE.nd,#[A],#[zn,#[za4],T.MP,fC,#[ya,#[zI,(Kg.of (N':=["line"]) (ix:=[none]) (zi zbd) _ rfl rfl rfl),#[zZ],#[TV],#[pc],#[re],#[OQ]]]]],#[ze,#[zm,7,zaE.nd,#[PU],#[zq,rF,#[sK],T.L7,qd.kp,rE,#[zK],#[za,#[AT],#[za,#[OD],#[Qa]]]]],#[ze,#[zm,8,zaE.nd,#[PU],#[zq,rF,#[sK],T.L7,qd.kp,rE,#[zK],#[za,#[AT],#[za,#[Pf],#[ya,#[IN]]]]]],#[ze,#[zah,bN,#[zU,T.Ki,#[Sj]],#[zg,9,zaE.nd,#[PU]],#[ze,#[zm,10,zaE.nd,#[PU],#[zI,(Kg.of (N':=["s","i","right"]) (ix:=[none,some 9,some 7]) (zi zbd) _ rfl rfl rfl),#[zZ],#[zU,T.Ki,#[Qa]],#[pc],#[re],(fun _ _ _ _=>#[zct,#[zJ,#[zfp],#[AT],#[Id],(zV _)],#[zh,#[zQ],#[zq,rH,#[sK],T.L8,qe.kp,rG,#[zK],#[PZ]],#[zw,#[Sg],#[GT],#[zh,#[zam],#[AT],#[Id]]]],#[zf]])]],#[ze,#[zm,11,zaE.nd,#[PU],#[zI,(Kg.of (N':=["line","by"]) (ix:=[none,some 10]) (zi zbd) _ rfl rfl rfl),#[zZ],#[TV],#[pc],#[re],(fun _ _ _ _=>#[zn,(zjF (K:=K) rfl rfl),T.Oa,boot_sum,#[ya,#[zI,(Kg.of (N':=["number","one"]) (ix:=[none,none]) ({ kind:=.function,names:=[(".0",.local),("line",.local),("sum",.globalImplicit),("zip",.globalImplicit),("by",.cell)],isGenerator:=false,isCoroutine:=false }) _ (by with_unfolding_all rfl) rfl rfl),#[wv],(zlL (K:=K) rfl rfl T.Nu #[PZ]),#[or],#[re],(fun _ _ _ _=>#[zh,#[zQ],#[AT],#[Id]])]]])]],#[zl,#[zah,bN,#[zU,T.Ki,#[ya,#[zh,#[zam],#[NE],#[SI]]]],#[zg,12,zaE.nd,#[PU]],#[zl,#[zbj,#[zJ,#[zhZ],#[zh,#[zy],#[zn,#[zet],T.Oa,boot_sum,#[ya,#[zI,(Kg.of (N':=["t","sums","j","up"]) (ix:=[none,some 11,some 12,some 8]) (zi zbd) _ rfl rfl rfl),#[zZ],#[zgs,T.Ki,#[za,#[pvx,12],#[ya,#[IN]]]],#[pc],#[re],(fun _ _ _ _=>#[zh,#[zQ],#[zh,#[zQ],#[zw,#[Sg],#[Id],#[AT]],#[zq,rH,#[sK],T.L8,qe.kp,rG,#[zK],#[za,#[AT],#[OX]]]],#[zw,#[Sg],#[NE],#[zh,#[zam],#[AT],#[GT]]]])]]],#[AT]],#[zf],(zV _)],#[PF],#[zan]]]]]]]],#[PF]]]]]],?_⟩;refine zro ?_; intro B3 xq rS pQ pG;have pd:=bJ;have nV:=bF hb;have ne:rows≠[]:=fun e=>by rw [e] at vM; simp at vM
  have wdl:wd rows<=201:=by
   obtain⟨r,hr,er⟩:=zdL ne;rw [<- er]; exact (hw r hr).2.1
  have wd1:1<=wd rows:=by
   obtain⟨r,hr,er⟩:=zdL ne;rw [<- er]; exact (hw r hr).1
  have EL:(#[AC].length:Int)=(rows.length:Int):=by rw [aA,nV]
  refine#[Vh];refine (nN rfl ⟨a,rfl,⟨_,nS.of ha⟩,zb0 (fs:=#[RJ].map V.int) (nS.of ha) (by simp [nV,zdM]) (by rw [aA]; lia) (fun i u v R B hu hv hR=>?_) #[Rm]⟩)
  ·obtain⟨b,rfl,um⟩:=zN hu;obtain⟨r,hr,qL⟩:=Paired.get hb um;unfold z8 at hv;rw [aD,aD,hr] at hv;have hv:V.int (r.length:Int)=v:=by simpa using hv
   subst hv;refine gY ?_;refine (nN rfl ⟨b,(nN rfl ⟨.inr (nS.of qL),?_⟩)⟩);rw [aA];exact hR
  refine⟨D,z8 rows,rfl,nO.of zc,by unfold z8; simpa using ne,fun M hM yd=>?_⟩;have eM:M=(wd rows:Int):=zpL (fun e=>absurd e (by unfold z8; simpa using ne)) fun _=>⟨hM,fun a ha=>by rw [if_pos rfl]; exact yd a ha⟩
  subst eM;have s0:=zb (o:=.lst (#[RJ].map V.int)) hD;generalize nQ H D (.lst (#[RJ].map V.int))=H0 at s0 |-;refine (nN rfl (nN rfl (nN rfl (ex3 p x #[PY] ⟨rfl,p5,qX,x0,x1,wd1,#[O],fun l1 H1 u5 s1 h1=>?_⟩))));refine (nN rfl (nN rfl (nN rfl ⟨a,(nN rfl ⟨.inr (nS.of (#[Tk] _ _ ha)),?_⟩)⟩)));rw [EL];refine (ex3 p y rows.length ⟨rfl,p5,qX,y0,y1,vM,#[O],fun l2 H2 qg s2 h2=>?_⟩);have h1:=s2 _ _ h1;have wC:=#[Tk].trans s2;have emt:((m:Int)).toNat=m:=by lia
  refine (nN rfl (nN rfl ⟨#[O],#[O],zaq (lo:=0) (n:=((m:Int)).toNat) (fun i σ H'=>∃ (e9 qi Cs rV:Option V),σ = [some #[PC],some #[Pn],some (.ref pt),some (.int (m:Int)),some (.int x),some (.int y),some (.int (wd rows:Int)),some (.ref l1),some (.ref l2),e9,qi,Cs,rV]/\zr H2 H'/\∀ u v,u < i->u+v < m->Cg p #[Qu] 0) (ex4 none none none none ⟨rfl,fun _ _ e=>e,fun u v h=>absurd h (nh _)⟩) ?_ ?_⟩))
  ·rintro zD zT i σ H3 hi ⟨e9,qi,Cs,rV,rfl,s3,Jo⟩;have hi:i < m:=by lia
   rw [show ((0:Int)+(i:Int))=(i:Int) from cV _];have Di:=wC.trans s3;have Jp:=s3 _ _ h1;have h3l2:=s3 _ _ h2;have ewd:((wd rows:Int)).toNat=wd rows:=by lia
   refine #[PB];rw [ewd];refine zaI (n:=wd rows) (fun n ys H'=>H'=H3/\ys=(byL p x i n).map V.int) ⟨rfl,rfl⟩ (fun n ys H' hn _=>hn) #[OC] ?_ ?_
   ·rintro s' xx ys H4 H5 hs ⟨rfl,rfl⟩ ⟨rfl,rfl⟩;rw [show ((0:Int)+(s':Int))=(s':Int) from cV _];have fin:∀ v:Int,v=byv p x i s'->((byL p x i s').map V.int).length < sizeLine/\H5=H5/\(byL p x i s').map V.int++[V.int v]=(byL p x i (s'+1)).map V.int:=fun v e=>by
     refine⟨by unfold byL; rw [aA,aA,bR]; lia,rfl,?_⟩;unfold byL;rw [dq,aN,aN,e];rfl
    refine gY ?_;refine (nN rfl #[Po]);refine zaR #[U4] #[U5]
    ·have pO:=of_decide_eq_true pO;have pO:i<=s':=by lia
     have oW:atI ((zdA p x #[PY]).map V.int) ((s':Int) - (i:Int))=some (.int (x ^ (s' - i) % p)):=by
      rw [show ((s':Int) - (i:Int))=((s' - i:Nat):Int) by lia];refine zab ?_;unfold zdA;rw [aD,aD,cR #[O]];rfl
     have g0:=bC (x ^ (s' - i)) (show p≠0 by lia);have g1:=aR (x ^ (s' - i)) (show 0 < p by lia);refine (nN rfl (nN rfl ⟨s',i,rfl,#[O],#[O],(nN rfl (nN rfl (nN rfl (nR rfl rfl (ex4 l1 _ _ _ ⟨rfl,rfl,nO.of Jp,oW,#[V6]⟩)))))⟩));exact fin _ (by unfold byv; rw [if_pos pO])
    ·have n6:¬ ((i:Int)<=(s':Int)):=fun h=>n6 #[Sn]
     exact fin _ (by unfold byv; rw [if_neg #[O]])
   rintro ys H4 BL ⟨rfl,rfl⟩ hBL;have wB:=zb (o:=.lst (#[ST].map V.int)) hBL;have hB:nQ H4 BL (.lst (#[ST].map V.int)) BL=some (.lst (#[ST].map V.int)):=zc;have s4:=s3.trans wB;generalize nQ H4 BL (.lst (#[ST].map V.int))=H5 at wB hB s4 |-;have EM:=wC.trans s4;have F':=EM _ _ ha;refine (nN rfl ⟨a,rfl,⟨_,nS.of F'⟩,zaI (n:=rows.length) (fun t' ys H'=>zr H5 H'/\ys=((rows.take t').map (sms p x i)).map V.int) #[Qy] ?_ ?_ ?_ ?_⟩)
   ·rintro t' ys H6 ht ⟨s6,_⟩;exact⟨_,.ref (bs[t']'#[O]),nS.of (s6 _ _ F'),by rw [aD,aG #[O]]; rfl⟩
   ·rintro ys H6 ⟨s6,_⟩;exact⟨_,nS.of (s6 _ _ F'),by rw [aA]; lia⟩
   ·rintro t' xx ys H6 H7 ht ⟨s6,rfl⟩ ⟨rfl,hx⟩;obtain⟨b,rfl,qB⟩:=zN (hx _ (nS.of (s6 _ _ F')));obtain⟨r,hr,qL⟩:=Paired.get hb qB;have rA:=zfT (aL hr);have vg:=hw r (aL hr);have An:=(EM.trans s6) _ _ qL;have Ga:=s6 _ _ hB;refine gY ?_;refine (nN rfl (nN rfl (ex4 b BL _ _ ⟨rfl,nS.of An,nO.of Ga,zaI (n:=r.length) (fun s' ys H'=>zr H7 H'/\ys=((bM s').map fun s'=>gl r s'*byv p x i s').map V.int) #[Qy] ?_ ?_ ?_ ?_⟩)))
    ·rintro s' ys H8 hs ⟨s8,_⟩;refine⟨_,_,.int (r[s']'hs),.int (byv p x i s'),nS.of (s8 _ _ An),nO.of (s8 _ _ Ga),by rw [aD,aG hs]; rfl,?_⟩;unfold byL;rw [aD,aD,cR #[O]];rfl
    ·rintro ys H8 ⟨s8,_⟩;exact⟨_,_,nS.of (s8 _ _ An),nO.of (s8 _ _ Ga),by unfold byL; rw [aA,aA,aA,bR]; lia⟩
    ·rintro s' xx ys H8 H9 hs ⟨s8,rfl⟩ ⟨T,u,v,hT,rfl,rfl,hu,hv⟩;obtain⟨c,rfl,hc⟩:=zag (hu _ (nS.of (s8 _ _ An)));obtain⟨d,rfl,hd⟩:=zag (hv _ (nO.of (s8 _ _ Ga)));have ed:d=byv p x i s':=by
      unfold byL at hd;rw [aD,cR #[O]] at hd;exact (bK hd).symm
     subst ed;have ec:gl r s'=c:=zba hc;have cr:=vg.2.2 c (aL hc);refine gY2 #[SJ] ?_;refine (nN rfl (nN rfl (nR rfl rfl ⟨.inl #[v6],by rw [aA,aA,bR]; lia,s8.trans (zb hT),?_⟩)));rw [dq,aN,aN];show _++[V.int (c*byv p x i s')]=_++[V.int (gl r s'*byv p x i s')];rw [ec]
    ·rintro ys H8 D8 ⟨s8,rfl⟩ hD8;refine⟨D8,#[So]⟩;rw [zeA];refine⟨by rw [aA,aA,aU]; lia,s6.trans (s8.trans (zb hD8)),?_⟩;rw [take_snoc hr,aN,aN];rfl
   rintro ys H6 SL ⟨s6,rfl⟩ hSL;rw [aY (aH _)];have wS:=s6.trans (zb (o:=.lst (#[Qm].map V.int)) hSL);have hSs:nQ H6 SL (.lst (#[Qm].map V.int)) SL=some (.lst (#[Qm].map V.int)):=zc;have s7:=s4.trans wS;generalize nQ H6 SL (.lst (#[Qm].map V.int))=H7 at wS hSs s7 |-;have Jq:=wC.trans s7;have Jr:=s7 _ _ h2;have emi:((m:Int) - (i:Int)).toNat=m - i:=by lia
   refine (nN rfl (nN rfl (nR rfl rfl (nN rfl ⟨#[O],#[O],zaq (lo:=0) (n:=((m:Int) - (i:Int)).toNat) (fun j σ H'=>∃ (rV:Option V),σ = [some #[PC],some #[Pn],some (.ref pt),some (.int (m:Int)),some (.int x),some (.int y),some (.int (wd rows:Int)),some (.ref l1),some (.ref l2),some (.int (i:Int)),some (.ref BL),some (.ref SL),rV]/\zr H7 H'/\∀ v,v < j->Cg p (zc1 rows x y i v) 0) ⟨rV,rfl,fun _ _ e=>e,fun v h=>absurd h (nh _)⟩ ?_ ?_⟩))))
   ·rintro zD zT j σ H8 hj ⟨rV,rfl,s8,Js⟩;have hj:j < m - i:=by lia
    rw [show ((0:Int)+(j:Int))=(j:Int) from cV _];have EN:=Jq.trans s8;have h8S:=s8 _ _ hSs;have Jt:=s8 _ _ Jr;refine (nN rfl (nN rfl ⟨a,(nN rfl ⟨.inr (nS.of (EN _ _ ha)),?_⟩)⟩));rw [EL];have enj:((rows.length:Int) - (j:Int)).toNat=rows.length - j:=by lia
    refine⟨(j:Int),(rows.length:Int),rfl,#[Uy],?_⟩;rw [enj];refine zaI (n:=rows.length - j) (fun k ys H'=>H'=H8/\ys=((bM k).map fun k=>sms p x i (rows.getD (j+k) [])*ch (j+k) j*(y ^ (j+k - j) % p)).map V.int) ⟨rfl,rfl⟩ (fun n ys H' hn _=>hn) #[OC] ?_ ?_
    ·rintro k xx ys H9 wF hk ⟨rfl,rfl⟩ ⟨rfl,rfl⟩;rw [show ((j:Int)+(k:Int))=((j+k:Nat):Int) by lia];have hjk:j+k < rows.length:=by lia
     have oW:atI (#[Qm].map V.int) ((j+k:Nat):Int)=some (.int (sms p x i (rows.getD (j+k) []))):=by
      refine zab ?_;rw [aD,aD,bI,aG hjk];rfl
     have vo:atI ((zdA p y rows.length).map V.int) (((j+k:Nat):Int) - (j:Int))=some (.int (y ^ (j+k - j) % p)):=by
      rw [show (((j+k:Nat):Int) - (j:Int))=((j+k - j:Nat):Int) by lia];refine zab ?_;unfold zdA;rw [aD,aD,cR #[O]];rfl
     have g0:=bC (y ^ (j+k - j)) (show p≠0 by lia);have g1:=aR (y ^ (j+k - j)) (show 0 < p by lia);have cs:=zrH (t:=j+k) (j:=j) #[O] #[O];refine gY ?_;refine (nN rfl (nN rfl (ex4 SL _ _ _ ⟨rfl,rfl,nO.of h8S,oW,(nN rfl (nN rfl ⟨j+k,j,rfl,#[O],#[O],(nR rfl rfl ⟨.inr #[v6],(nN rfl (nN rfl (nN rfl (nR rfl rfl (ex4 l2 _ _ _ ⟨rfl,rfl,nO.of Jt,vo,#[V6]⟩)))))⟩)⟩))⟩)));refine⟨by rw [aA,aA,bR]; lia,rfl,?_⟩;rw [dq,aN,aN];rfl
    ·rintro ys H9 D9 ⟨rfl,rfl⟩ hD9;refine⟨D9,#[So]⟩;rw [zeA];have Gb:tot p x y rows i j (rows.length - j) % p=0↔Cg p (zc1 rows x y i j) 0:=by
      constructor
      ·intro h;exact zn8.symm.trans (#[OF].symm.trans (Cg.of_eq h))
      ·intro h;rw [(zn8.trans h).mod_eq,lC]
     unfold tot at Gb;generalize (sm (rows.length - j) fun k=>sms p x i (rows.getD (j+k) [])*ch (j+k) j*(y ^ (j+k - j) % p))=T0 at Gb |-;refine #[GM];refine#[RT];refine zaR (fun hc=>?_) (fun hc=>?_)
     ·refine no _ (EN.trans (zb hD9)) fun h=>?_
      have hc:(!decide (V.int (T0 % p)=V.int 0))=true:=hc;rw [Gb.mpr (h i j #[O])] at hc;simp at hc
     ·have Gc:T0 % p=0:=by
       refine dA fun hn=>hc ?_
       simp [hn]
      refine (nN rfl ⟨s8.trans (zb hD9),fun v hv=>?_⟩);by_cases e:v=j
      ·rw [e]; exact Gb.mp Gc
      ·exact Js v #[O]
   ·rintro σ H8 ⟨rV,rfl,s8,Js⟩;refine (ex4 _ _ _ _ ⟨rfl,s7.trans s8,fun u v hu Bn=>?_⟩);by_cases e:u=i
    ·rw [e]; exact Js v #[O]
    ·exact Jo u v #[O] Bn
  ·rintro σ H3 ⟨e9,qi,Cs,rV,rfl,s3,Jo⟩;have:=q _ (wC.trans s3);rw [zn6 fun u v Bn=>Jo u v #[O] Bn] at this;exact this
theorem zcY:Kf ["things","many","chosen","step"] ["things","many"] (zi zb2):=#[S]
theorem zjT (T:Txt K mg t) (F:Fun K "choices" "choices" zb2 t.MC fd):Kn P w K mg base CX0 1 t.MC fd ["things","many"] (zjy K):=by
 refine F.ok zcY #[sn] #[mt]
 ·obtain⟨a,m,xs,rfl,_⟩:=h;rfl
 ·obtain⟨a,m,xs,rfl,hS,hx,hm,q⟩:=h;refine zaJ ?_; intro zX;refine⟨_,#[ze,#[zm,2,zcY.nd,#[A],#[z9,#[ya,#[zap,#[za,#[zf],#[ya,#[Si]]]]]]],#[ze,#[zah,bN,#[zU,T.Ki,#[xL]],#[zg,3,zcY.nd,#[A]],#[zl,(@zjx _ _ _ _ _ _ _ _ _ _ _ _ _ _ _ _ _ _ _ _ _ (2) _ _ _ zcY.nd rfl #[A] (Kg.of (N':=["start","picked","at","things"]) (ix:=[none,none,none,some 0]) (zi zb2) _ rfl rfl rfl) rfl (zg8 (js:=[0,1]) (zb6 (js:=[0,1]) (i:=0) #[D] (zb6 (js:=[0,1]) (i:=1) #[D] (ze2 (js:=[0,1]))))) (ze1 (js:=[2]) (i:=2) #[D]) #[D] #[D] #[zad,#[GT]] #[or] #[re] (fun _ _ _ _=>#[zgs,T.Ki,#[za,#[AT],#[ya,#[zn,#[zaC,(K)],T.KD,cq,#[Sj]]]]]) (fun _ _ _ _=>#[US]) #[re] (fun _ _ _ _=>#[zap,#[za,#[zh,#[zB],#[GT],#[zf]],#[ya,#[zh,#[zcJ],#[Id],#[z9,#[ya,#[zw,#[Sg],#[NE],#[GT]]]]]]]]) (by rfl) (by intro _; rfl) (by intros; rfl) (by trivial))]],#[zl,#[zC,#[zI,(Kg.of (N':=["start","picked"]) (ix:=[none,none]) (zi zb2) _ rfl rfl rfl),#[wv],#[zad,#[GT]],#[or],#[re],(fun _ _ _ _=>#[Id])]]]]],?_⟩;refine zep ?_; intro pQ pG;have pd:=bJ;refine⟨bW _,fun L0 hL0=>⟨by show 2<=sizeLine; lia,fun T0 Ju=>⟨by show 1<=sizeLine; lia,fun c hc=>?_⟩⟩⟩;have u0:=zb (o:=.lst []) hL0;have u1:=zb (o:=.tup [.int 0,.ref L0]) Ju;have u2:=zb (o:=.lst [.ref T0]) hc;have EO:zfN (nQ (nQ (nQ H L0 (.lst [])) T0 (.tup [.int 0,.ref L0])) c (.lst [.ref T0])) [T0] (chs xs 0):=.cons ⟨L0,u2 _ _ zc,(u1.trans u2) _ _ zc⟩ .nil;have Gc:nQ (nQ (nQ H L0 (.lst [])) T0 (.tup [.int 0,.ref L0])) c (.lst [.ref T0]) c=some (.lst ([T0].map V.ref)):=zc;have s0:=(u0.trans u1).trans u2;generalize nQ (nQ (nQ H L0 (.lst [])) T0 (.tup [.int 0,.ref L0])) c (.lst [.ref T0])=H0 at EO Gc s0 |-;refine #[PB];rw [cG];refine zaq (lo:=0) (n:=m) (fun i σ H'=>∃ (c:Addr) (ts:List Addr) (e3:Option V),σ = [some #[Pn],some (.int m),some #[Sd],e3]/\zr H H'/\H' c=some #[Ty]/\zfN H' ts (chs xs i)) (ex3 c ([T0]) none ⟨rfl,s0,Gc,EO⟩) ?_ ?_
  ·rintro zD zT i σ H1 hi ⟨c,ts,e3,rfl,s1,tJ,uM⟩;have uP:=uM.length;have DQ:=zex (xs:=xs) (i+1) hx;have xu:((chs xs i).flatMap (nxt xs)).length<=65536:=DQ;refine (nN rfl ⟨c,rfl,⟨_,nO.of tJ⟩,zeH (n:=ts.length) (fun i' ys H'=>∃ us:List Addr,ys=us.map V.ref/\zr H1 H'/\zfN H' us (((chs xs i).take i').flatMap (nxt xs))) ⟨[],rfl,fun _ _ e=>e,.nil⟩ ?_ ?_ ?_ ?_⟩)
   ·rintro i' ys H2 pT ⟨us,_,s2,_⟩;exact⟨_,.ref ts[i'],nO.of (s2 _ _ tJ),by rw [aD,aG pT]; rfl⟩
   ·rintro ys H2 ⟨us,_,s2,_⟩;exact⟨_,nO.of (s2 _ _ tJ),by rw [aA]; exact aH _⟩
   ·rintro i' y ys H2 H3 pT ⟨us,rfl,s2,n4⟩ ⟨rfl,hy⟩;obtain⟨tt,rfl,C6⟩:=zN (hy _ (nO.of (s2 _ _ tJ)));obtain⟨cc,oS,oW⟩:=Paired.get uM C6;obtain⟨L,xP,Ba⟩:=oW.same s2;have hle:=zqG (aL oS);have oT:=ziC (aL oS);obtain⟨st,pk⟩:=cc;dsimp only at xP Ba hle oT;refine gY2 (nS.of xP) ?_;refine (nN rfl (nN rfl ⟨a,xs,rfl,.inl ((s1.trans s2).seq hS),_,_,rfl,#[Uy],?_⟩));have en:((xs.length:Int) - (st:Int)).toNat=xs.length - st:=by lia
    rw [en];refine zeH (n:=xs.length - st) (fun j ys H'=>∃ us:List Addr,ys=us.map V.ref/\zr H3 H'/\zfN H' us (((chs xs i).take i').flatMap (nxt xs)++(nxt xs (st,pk)).take j)) ⟨us,rfl,fun _ _ e=>e,by rw [gN,cZ]; exact n4⟩ (fun j ys H' hj _=>hj) #[OC] ?_ ?_
    ·rintro j z ys H4 H5 hj ⟨us,rfl,s4,n4⟩ ⟨rfl,rfl⟩;obtain⟨x,vJ⟩:∃ x,xs[st+j]? = some x:=⟨xs[st+j]'#[O],#[M]⟩;have oW:atI xs ((st:Int)+(j:Int))=some x:=by
      have e:((st+j:Nat):Int)=(st:Int)+j:=by lia
      rw [<- e];exact zab vJ
     have hng:=zoQ (c:=(st,pk)) vJ;have uo:=n4.length;have hpart:=zlD (f:=nxt xs) oS (show j < (nxt xs (st,pk)).length by rw [zhq]; exact hj);have FZ:=zhq xs (st,pk);refine gY ?_;refine (nN rfl (nR rfl rfl (nN rfl (nN rfl (nN rfl (ex4 a xs _ x ⟨rfl,rfl,((s1.trans s2).trans s4).seq hS,oW,by show 1<=sizeLine; lia,fun b hb=>?_⟩))))));have v1:=zb (o:=.lst [x]) hb;refine (ex4 L b pk ([x]) ⟨rfl,rfl,(s4.trans v1) _ _ Ba,zc,by show pk.length+1<=sizeLine; lia,fun L2 ER=>⟨by show 2<=sizeLine; lia,fun T2 vi=>⟨?_,us++[T2],by rw [aN]; rfl,?_,?_⟩⟩⟩)
     ·rw [aA,uo,aO,aU];lia
     ·exact s4.trans (v1.trans ((zb ER).trans (zb vi)))
     ·rw [take_snoc hng,<- cH];refine cL (n4.same (v1.trans ((zb ER).trans (zb vi)))) ⟨L2,?_,(zb vi) _ _ zc⟩;rw [zc];show some (HO.tup [.int ((st:Int)+(j:Int)+1),.ref L2])=some (HO.tup [.int ((st+j+1:Nat):Int),.ref L2]);have e:((st+j+1:Nat):Int)=(st:Int)+j+1:=by lia
      rw [e]
    ·rintro ys H4 ⟨us,rfl,s4,n4⟩;rw [aY (l:=nxt xs (st,pk)) (by rw [zhq]; exact aH _)] at n4;exact⟨us,rfl,s2.trans s4,by rw [zlE oS]; exact n4⟩
   ·rintro ys H2 ⟨us,rfl,s2,n4⟩ D hD;rw [uP,aY (aH _)] at n4;exact (ex3 D us _ ⟨rfl,s1.trans (s2.trans (zb hD)),zc,n4.same (zb hD)⟩)
  ·rintro σ H1 ⟨c,ts,e3,rfl,s1,tJ,uM⟩;have uP:=uM.length;have DQ:=zex (xs:=xs) m hx;refine (nN rfl ⟨c,rfl,⟨_,nO.of tJ⟩,zao (n:=ts.length) (fun i ys H'=>H'=H1/\∃ us:List Addr,ys=us.map V.ref/\ziD H1 us ((#[Rv].map (·.2)).take i)) ⟨rfl,[],rfl,.nil⟩ ?_ ?_ ?_ ?_⟩)
   ·rintro i ys H2 hi ⟨rfl,_⟩;exact⟨_,.ref ts[i],nO.of tJ,by rw [aD,aG hi]; rfl⟩
   ·rintro ys H2 ⟨rfl,_⟩;exact⟨_,nO.of tJ,by rw [aA]; exact aH _⟩
   ·rintro zS zT zE i y ys H2 H3 hi ⟨rfl,us,rfl,n4⟩ ⟨rfl,hy⟩;obtain⟨tt,rfl,C6⟩:=zN (hy _ (nO.of tJ));obtain⟨cc,oS,L,xP,Ba⟩:=Paired.get uM C6;have uo:=n4.length;refine gY2 (nS.of xP) ⟨_,rfl,?_,rfl,us++[L],by rw [aN]; rfl,?_⟩
    ·rw [aA,uo,aU,aA];lia
    ·have Jv:(#[Rv].map (·.2))[i]? = some cc.2:=by rw [aD,oS]; rfl
     rw [take_snoc Jv];exact cL n4 Ba
   ·rintro ys H2 D ⟨rfl,us,rfl,n4⟩ hD;rw [aY (by rw [aA,uP]; exact aH _)] at n4;exact q D us _ (s1.free hD) #[Rn] zc #[O6]
theorem zfk:Kf ["code","row","polynomial","p","k","places"] ["code","row","polynomial"] (zi zfX):=#[S]
theorem zpo (T:Txt K mg t) (F:Fun K "fits" "fits" zfX t.fits fd):Kn P w K mg base CX0 2 t.fits fd ["code","row","polynomial"] (zoE K):=by
 obtain⟨uj,oF,ph⟩:=T.K8;have pj:=zeL (P:=P) (w:=w) (base:=base) T oF;refine F.ok zfk #[sn] #[mt]
 ·obtain⟨c,tt,ra,po,p,k,pl,oC,rw,rfl,_⟩:=h;rfl
 ·obtain⟨c,tt,ra,po,p,k,pl,oC,rw,rfl,hc,qT,pD,Ej,p0,p1,oT,hn,q⟩:=h;refine zaJ ?_; intro zX;refine⟨_,#[ze,#[zaO,#[AT],#[zaw,#[zj,#[zg,3,zfk.nd,#[PU]],#[zj,#[zg,4,zfk.nd,#[A]],#[zj,#[zg,5,zfk.nd,#[A]],#[zA]]]]]],#[zl,#[zC,#[zI,(Kg.of (N':=["at","place","entry","p","polynomial"]) (ix:=[none,none,none,some 3,some 2]) (zi zfX) _ rfl rfl rfl),#[zaU,#[zz,(@zle _ _ _ #[wv] #[zav] zju)]],(@zjt _ _ _ _ _ _ _ _ _ _ _ rfl T.Kh rfl T.Nu #[za,#[Pf],#[xL]] (by rfl) (by rfl) (by rfl)),(fun _ _ _ _=>#[zaj,(K),2,#[zj,#[zg,0,#[Y],#[A]],#[zj,#[zaj,(K),2,#[zj,#[zg,1,#[Y],#[A]],#[zj,#[US],#[zA]]]],#[zA]]]]),(fun _ _ _ _=>#[zb5,#[zJ,#[zcv],#[GT],#[zq,pj,#[sK],T.Lq,oF.kp,ph,#[zK],#[za,#[NE],#[za,#[OD],#[xL]]]],(zV _)]]),#[Sb]]]]],?_⟩;refine zlc ?_; intro pG;refine⟨_,rfl,c,_,rfl,nS.of hc.1,rfl,_,_,rfl,_,_,rfl,_,_,rfl,rfl,?_⟩;refine (nN rfl (nN rfl (ex4 tt ra _ _ ⟨rfl,nS.of hc.2,nO.of qT,zao (n:=pl.length) (fun i ys H'=>ys=(zfF p pl rw oC i).map V.int/\zr H H') #[Ry] ?_ ?_ ?_ ?_⟩)))
  ·rintro i ys H3 hi ⟨_,s3⟩;obtain⟨o,ho⟩:∃ o,rw[i]? = some o:=⟨rw[i]'#[O],#[M]⟩;exact⟨_,_,.int pl[i],qW o,nS.of (s3 _ _ hc.2),nO.of (s3 _ _ qT),by rw [aD,aG hi]; rfl,by rw [aD,ho]; rfl⟩
  ·rintro ys H3 ⟨_,s3⟩;exact⟨_,_,nS.of (s3 _ _ hc.2),nO.of (s3 _ _ qT),by rw [aA]⟩
  ·rintro zS zT zE i xx ys H3 H4 hi ⟨rfl,s3⟩ ⟨T1,T2,u,v,ES,vi,oH,rfl,rfl,hu,hv⟩;obtain⟨x,rfl,hx⟩:=zag (hu _ (nS.of (s3 _ _ hc.2)));obtain⟨o,rfl,ho⟩:=zhh (hv _ (nO.of (s3 _ _ qT)));obtain⟨x0,x1⟩:=oT x (aL hx);have s4:zr H3 (nQ (nQ H3 T1 (.tup [.int x,qW o])) T2 (.tup [.int i,.ref T1])):=zac (zb ES) vi;refine⟨T2,_,rfl,nS.of zc,rfl,_,_,rfl,_,_,rfl,T1,_,rfl,nS.of (by rw [zp oH]; exact zc),rfl,_,_,rfl,_,_,rfl,rfl,rfl,?_⟩;refine (nN rfl (nN rfl (nN rfl (nN rfl (ex4 p x po oC ⟨rfl,.inr (nS.of ((s3.trans s4) _ _ Ej)),p0,p1,x0,x1,zmM o _,#[Pp]⟩)))));rw [zgL,zmN hx ho,aN];have nV:=zim p pl rw oC i;refine zaR (fun h1=>(nN rfl ⟨zax (by rw [aA]; lia),?_,s3.trans s4⟩)) (fun h1=>⟨?_,s3.trans s4⟩)
   ·rw [if_pos h1];rfl
   ·rw [if_neg h1];simp
  ·rintro ys H3 D ⟨rfl,s3⟩ hD;exact q D _ (s3.free hD) (s3.trans (zb hD)) zc
theorem zpV {p:Int} (hP:Pts p nW):nW.map (md p)=nW:=by
 refine (c7 fun q hq=>?_).trans (mI _);obtain⟨_,_,h1,h2⟩:=hP.rg q hq;show (q.1,q.2 % p)=q;rw [dN h1 h2]
theorem zaW:Kf ["code","points","p","k","places","found","picked"] ["code","points"] (zi zbo):=#[S]
theorem zf6 (T:Txt K mg t) (F:Fun K "all_through" "all_through" zbo t.Ks fd):Kn P w K mg base CX0 4 t.Ks fd ["code","points"] (zfP K):=by
 obtain⟨Ct,tj,wG⟩:=T.LX;have wH:=zjT (P:=P) (w:=w) (base:=base) T tj;obtain⟨Cu,tq,wI⟩:=T.LP;have wJ:=zjJ (P:=P) (w:=w) (base:=base) T tq;refine F.ok zaW #[sn] #[mt]
 ·obtain⟨c,tt,a,p,k,pl,bs,nW,rfl,_⟩:=h;rfl
 ·obtain⟨c,tt,a,p,k,pl,bs,nW,rfl,hc,hS,hB,hn,hp,hP,k0,k1,q⟩:=h;have hu:(A.deeper (envOfC (cJ "all_through") (zi zbo) s.heap.objs.size t.Ks oh)).units+1 < cLine:=by have:=hr.units; lia
  refine zaJ ?_; intro zX;refine⟨_,#[ze,#[zaO,#[AT],#[zaw,#[zj,#[zg,2,zaW.nd,#[A]],#[zj,#[zg,3,zaW.nd,#[A]],#[zj,#[zg,4,zaW.nd,#[A]],#[zA]]]]]],#[ze,#[zm,5,zaW.nd,#[A],(@zmW _ _)],#[ze,#[zah,bN,#[zad,#[zq,wH,#[sK],T.Ni,tj.kp,wG,#[zK],#[za,#[Id],#[Sj]]]],#[zg,6,zaW.nd,#[A]],#[zl,(@zoF _ _ _ _ _ _ _ _ _ hu #[Pf] #[zq,wJ,#[sK],T.Nb,tq.kp,wI,#[zK],#[za,#[GT],#[Qa]]] #[zdB] rfl)]],#[zl,#[zC,#[zn,(@zhp _ rfl),T.NG,boot_sorted,#[QT]]]]]]],?_⟩;refine zg4 ?_; intro rS pQ pG;have pd:=bJ;have rp:=zO hp;obtain⟨zs,rfl,rfl,hz⟩:=hB.zs;rw [aA] at hn;refine⟨_,rfl,c,_,rfl,nS.of hc.1,rfl,_,_,rfl,_,_,rfl,_,_,rfl,rfl,fun D hD=>?_⟩;have s0:=zb (o:=.dT []) hD;have EB:nQ H D (.dT []) D=some (.dT []):=zc;generalize nQ H D (.dT [])=H0 at s0 EB |-;refine (nN rfl (nN rfl (ex3 a k _ ⟨rfl,s0.seq hS,by rw [aA,aA]; lia,#[O],fun l ls H1 hl s1 qS Ge=>?_⟩)));have hlD:l≠D:=fun e=>by rw [e,EB] at hl; cases hl
  rw [cN,zgO (V.ref ∘ fun z:Addr×Int×Int=>z.1) zs k] at Ge;have oT:=Ge.length;rw [aA,aA] at oT;have DQ:=zex (xs:=zs) k hn;obtain⟨Dj,AB⟩:∃ Dj,(chs zs k).map (·.2)=Dj:=⟨_,rfl⟩;rw [AB] at Ge;have IX:ls.length=Dj.length:=by rw [oT,<- AB,aA]
  have ET:H1 D=some (.dT []):=s1 _ _ EB;have hid:=zin H1 D;refine⟨l,rfl,⟨_,nO.of qS⟩,zbE (K:=K) (a:=l) (xs:=ls.map V.ref) (fun i σ H'=>∃ (nT:List (List Key×V)) (pf:List #[wp]) (e6:Option V),σ = [some #[Sd],some #[Pn],some #[PC],some (.int k),some #[Rq],some #[Pt],e6] /\
   zr (hide H1 D) H'/\H' D=some #[SX]/\KeysAre nT pf/\pf.Nodup/\pf.length<=i/\∀ x,x∈pf↔∃ zk∈Dj.take i,x=thr p (zk.map (·.2)))
   ⟨[],[],none,rfl,hid,ET,rfl,#[M],aH _,fun x=>by simp⟩ (fun i σ H' _ ⟨_,_,_,_,s3,_⟩=>nO.of (s3 _ _ (zcN qS hlD))) ?_ ?_⟩
  ·rintro zD zT i y σ H2 hy ⟨nT,pf,e6,rfl,s2,Jw,B1,pU,wK,qw⟩;obtain⟨b,rfl,um⟩:=zN hy;obtain⟨hi,_⟩:=aW.mp um;obtain⟨vk,EU,ql⟩:=Paired.get Ge um;obtain⟨zk,hzk,rfl⟩:∃ zk,Dj[i]? = some zk/\vk=zk.map (V.ref ∘ fun z:Addr×Int×Int=>z.1):=by
    rw [aD] at EU;cases e:Dj[i]? with
    | none=>rw [e] at EU; cases EU
    | some zk=>rw [e] at EU; exact⟨zk,rfl,(bK EU).symm⟩
   have hbD:b≠D:=fun e=>by rw [e,ET] at ql; cases ql
   obtain⟨xJ,nV⟩:=zhr.mp (by rw [AB]; exact aL hzk:zk∈(chs zs k).map (·.2));have Gf:Pts p (zk.map (·.2)):=hP.sub (xJ.map _);have Jx:zpC K H2 b (zk.map (·.2)):=by
    refine⟨zk.map (·.1),?_,by rw [aA,aA],fun j b' q' h1 h2=>?_⟩
    ·have:=s2 _ _ (zcN ql hbD);rw [cN];exact nO.of this
    ·rw [aD] at h1 h2;cases e:zk[j]? with
     | none=>rw [e] at h1; cases h1
     | some z =>
      rw [e] at h1 h2;cases h1;cases h2;have tX:=hz z (xJ.subset (aL e));have hzD:z.1≠D:=zH tX hD;exact s2 _ _ (zcN (#[Tk] _ _ tX) hzD)
   have hmf:nT.length=pf.length:=by
    have:=congrArg gD B1;rw [aA,aA] at this;exact this
   refine (nN rfl (nN rfl (nN rfl (ex3 p b _ ⟨rfl,Jx,by rw [aA]; lia,hp,(by rw [zpV Gf]; exact Gf),(fun q hq=>by have:=Gf.rg q hq; lia),fun tl H3 qJ s3 h3=>?_⟩))));rw [zpV Gf] at h3;have h3D:=s3 _ _ Jw;refine⟨D,(nN rfl ⟨zmV.t (k:=(thr p (zk.map (·.2))).map eG) h3D (by rw [h3,cN]; rfl) #[O],?_⟩)⟩;obtain⟨wo,m1,m2,m3,m4⟩:=zng B1 pU (thr p (zk.map (·.2))) (.bl true);refine (ex3 _ wo _ ⟨rfl,?_,zc,m1,m2,#[O],fun x=>?_⟩)
   ·refine zac (s2.trans s3) ?_;unfold hide;rw [if_pos rfl]
   ·rw [m4 x,qw x,take_snoc hzk];constructor
    ·rintro (⟨Jy,h1,h2⟩ | e)
     ·exact⟨Jy,bS _ h1,h2⟩
     ·exact⟨zk,bG _ (bD.mpr rfl),e⟩
    ·rintro⟨Jy,h1,h2⟩;rcases (bO.mp h1) with h1 | h1
     ·exact .inl ⟨Jy,h1,h2⟩
     ·rw [bD.mp h1] at h2;exact .inr h2
  ·rintro σ H2 ⟨nT,pf,e6,rfl,s2,Jw,B1,pU,wK,qw⟩;rw [aA,IX] at qw wK;rw [dL] at qw;rw [<- IX,oT] at wK;have rX:∀ x,x∈pf↔∃ pk∈(chs (zs.map (·.2)) k).map (·.2),x=thr p pk:=fun x=>by
    rw [qw x,zgO,AB];constructor
    ·rintro⟨zk,h1,h2⟩;exact⟨_,g8 h1,h2⟩
    ·rintro⟨pk,h1,h2⟩;obtain⟨zk,h3,rfl⟩:=bE.mp h1;exact⟨zk,h3,h2⟩
   have EV:∀ x∈pf,IsP p k x:=fun x hx=>by
    obtain⟨pk,h1,rfl⟩:=(rX x).mp hx;exact zkD hp hP h1
   refine (nN rfl (ex5 D k p nT pf ⟨rfl,Jw,B1,fun ms hm=>EV ms hm,k0,#[O],fun r tY oX sS EW hH=>?_⟩));have hHs:zr H H2:=fun x u e=>s2 _ _ (zcN (#[Tk] _ _ e) (zH e hD))
   have e1:tY.map (fun q=>V.ref q.1)=(tY.map (·.1)).map V.ref:=by rw [cN]; rfl
   rw [e1];refine q r (tY.map (·.1)) (tY.map (·.2)) _ (hHs.free oX) (hHs.trans (zb oX)) zc ((zaZ.of hH).same (zb oX)) (by rw [sS.length_eq]; lia) (zoV #[O] (fun x hx=>EV x (sS.mem_iff.mp hx)) (sS.nodup_iff.mpr pU) ?_) fun x=>?_
   ·rw [dO];exact EW
   ·rw [sS.mem_iff];exact rX x
noncomputable def zhQ (K:aF):Sp:=fun vs H Q _=>∃ (c tt r:Addr) (p:Int) (k:Nat) (T:Int) (pl:List Int) (rw:List #[Op]),vs = [.ref c,.ref r,.int T]/\zbP H c tt p k pl/\H r=some #[Pa]/\rw.length=pl.length/\pl.length<=16/\p∈zG/\pl.Nodup/\(∀ x∈pl,0<=x/\x < p)/\(∀ z,some z∈rw->0<=z/\z < p)/\1<=k/\k<=100/\(k:Int)<=T /\
 ∀ (l:Addr) (rs:List Addr) (qs:List #[wp]) (H':Hp),H l=none->zr H H'->H' l=some (.lst (rs.map V.ref))->zaZ H' rs qs->zlG p k qs->(∀ q,q∈qs↔IsP p k q/\T<=(hits p q #[IO]:Int))->Q #[Pm] H'
theorem zck:Kf ["code","row","t","k","points","first"] ["code","row","t"] (zi zca):=#[S]
theorem zi7 (T:Txt K mg t) (F:Fun K "all_near" "all_near" zca t.LL fd):Kn P w K mg base CX0 5 t.LL fd ["code","row","t"] (zhQ K):=by
 obtain⟨pE,nZ,om⟩:=T.Kj;have oo:=zbQ (P:=P) (w:=w) (base:=base) T nZ;obtain⟨Gg,ym,Cv⟩:=T.Nn;have Cw:=zpo (P:=P) (w:=w) (base:=base) T ym;obtain⟨yn,pX,sy⟩:=T.KR;have sC:=zf6 (P:=P) (w:=w) (base:=base) T pX;refine F.ok zck #[sn] #[mt]
 ·obtain⟨c,tt,r,p,k,T',pl,rw,rfl,_⟩:=h;rfl
 ·obtain⟨c,tt,r,p,k,T',pl,rw,rfl,hc,qT,pD,hn,hp,pU,oT,rA,k0,k1,h1,q⟩:=h;refine zaJ ?_; intro zX;refine⟨_,#[ze,#[zm,3,zck.nd,#[A],#[zw,#[za6],#[AT],#[zf]]],#[ze,#[zbj,#[zJ,#[zgv],#[GT],#[NE],(zV _)],#[zgq],#[zan]],#[ze,#[zm,4,zck.nd,#[A],#[Rh]],#[ze,#[zbj,#[zJ,#[zgw],#[GT],#[Pq],(zV _)],#[zl,#[zC,#[Si]]],#[zan]],#[ze,#[zm,5,zck.nd,#[A],#[zay,zby,#[OD],#[zbg],#[zaA,#[zh,#[zB],#[zh,#[zam],#[Pq],#[GT]],#[NE]]]]],#[zl,#[zC,#[zI,(Kg.of (N':=["polynomial","code","row","t"]) (ix:=[none,some 0,some 1,some 2]) (zi zca) _ rfl rfl rfl),#[zZ],#[zad,#[zq,sC,#[sK],T.Mi,pX.kp,sy,#[zK],#[za,#[AT],#[QT]]]],#[pc],(fun _ _ _ _=>#[zb5,#[zJ,#[zfp],#[zn,#[zaC,(K)],T.KD,cq,#[ya,#[zq,Cw,#[sK],T.NQ,ym.kp,Cv,#[zK],#[za,#[Id],#[za,#[GT],#[QC]]]]]],#[NE],(zV _)]]),#[Sb]]]]]]]]],?_⟩;refine zro ?_; intro B3 xq rS pQ pG;have pd:=bJ;have rp:=zO hp;have hR:NL K H r pl.length rw:=⟨nO.of qT,pD⟩;have hP:=zd5 pU oT rA;have F4:=zbX pl rw;refine (nN rfl (ex4 c _ _ _ ⟨rfl,rfl,nS.of hc.1,rfl,?_⟩));refine (nN rfl #[Po])
  ·refine zaR #[S9] #[BT];refine #[Qe];have uk:bs.length=#[IO].length:=hB.length;refine (nN rfl (nN rfl ⟨l,(nN rfl ⟨.inl (nO.of qS),#[ww]⟩)⟩));rw [aA];refine zaR #[U5] #[U4]
   ·have n6:=of_decide_eq_true n6;refine⟨bW _,fun z hz=>q z [] [] _ (s1.free hz) #[U7] zc .nil ⟨#[M],.nil⟩ fun x=>?_⟩;have:=fU (hit p x) #[IO];constructor
    ·intro h; cases h
    ·rintro⟨_,h⟩;unfold hits at h;lia
   ·have pO:¬ T' > (bs.length:Int):=fun h=>pO #[Sn]
    obtain⟨tn,rfl⟩:∃ tn:Nat,T'=tn:=⟨T'.toNat,#[O]⟩;refine (nN rfl (nN rfl ⟨l,(nN rfl ⟨.inl (nO.of qS),(nN rfl (nR rfl rfl (nN rfl (nR rfl rfl (nN rfl ⟨l,(nN rfl ⟨nO.of qS,fun z hz=>?_⟩)⟩)))))⟩)⟩));have Jz:(#[AC].length:Int) - (tn:Int)+(k:Int)=((bs.length - tn+k:Nat):Int):=by rw [aA]; lia
    rw [Jz,znO,<- d9];have v1:=zb (o:=.lst ((bs.take (bs.length - tn+k)).map V.ref)) hz;have hzz:nQ H1 z (.lst ((bs.take (bs.length - tn+k)).map V.ref)) z=some (.lst ((bs.take (bs.length - tn+k)).map V.ref)):=zc;have s2:=s1.trans v1;have ug:=(hB.same v1).take (bs.length - tn+k);generalize nQ H1 z (.lst ((bs.take (bs.length - tn+k)).map V.ref))=H2 at v1 hzz s2 ug |-;have hPt:Pts p (#[IO].take (bs.length - tn+k)):=hP.sub (dC _ _);refine (nN rfl (nN rfl (ex8 c tt z p k pl _ _ ⟨rfl,hc.same s2,nO.of hzz,ug,by rw [aU]; lia,hp,hPt,k0,k1,fun l2 rs qs H3 qg s3 C' hT hql EX qw=>?_⟩)));have hrq:=hT.length;have Bj:=s2.trans s3;refine⟨l2,rfl,⟨_,nO.of C'⟩,zao (n:=rs.length) (fun i ys H'=>zr H3 H'/\∃ us:List Addr,ys=us.map V.ref/\us.length<=i/\zaZ H' us ((qs.take i).filter fun x=>decide ((tn:Int)<=(hits p x #[IO]:Int)))) ⟨fun _ _ e=>e,[],rfl,aH _,.nil⟩ ?_ ?_ ?_ ?_⟩
    ·rintro i ys H4 hi ⟨s4,_⟩;exact⟨_,.ref rs[i],nO.of (s4 _ _ C'),by rw [aD,aG hi]; rfl⟩
    ·rintro ys H4 ⟨s4,_⟩;exact⟨_,nO.of (s4 _ _ C'),by rw [aA]; exact aH _⟩
    ·rintro zS zT zE i y ys H4 H5 hi ⟨s4,us,rfl,uo,n4⟩ ⟨rfl,hy⟩;obtain⟨rb,rfl,qL⟩:=zN (hy _ (nO.of (s4 _ _ C')));obtain⟨qq,hqq,oW⟩:=Paired.get hT qL;have tQ:=Bj.trans s4;refine (nN rfl (nN rfl (nN rfl (ex9 c tt r rb p k pl qq rw ⟨rfl,hc.same tQ,tQ _ _ qT,pD,s4 _ _ oW,#[O],#[O],oT,#[O],fun fl H6 xu s6 h6=>?_⟩))));refine⟨fl,(nN rfl ⟨.inl (nO.of h6),#[Po]⟩)⟩;have ef:((zfF p pl rw qq pl.length).map V.int).length=hits p qq #[IO]:=by rw [aA]; exact zoU pD
     rw [ef];have Ad:(qs.take (i+1)).filter (fun x=>decide ((tn:Int)<=(hits p x #[IO]:Int)))=(qs.take i).filter (fun x=>decide ((tn:Int)<=(hits p x #[IO]:Int)))++[qq].filter (fun x=>decide ((tn:Int)<=(hits p x #[IO]:Int))):=by rw [take_snoc hqq,fO]
     refine zaR (fun h=>(nN rfl ⟨?_,s4.trans s6,us++[rb],by rw [aN]; rfl,by rw [aO]; exact iU uo,?_⟩)) (fun h=>⟨s4.trans s6,us,rfl,#[O],?_⟩)
     ·rw [aA]; lia
     ·rw [Ad,iJ (p:=fun x=>decide ((tn:Int)<=(hits p x #[IO]:Int))) h];exact cL (n4.same s6) ((s4.trans s6) _ _ oW)
     ·rw [Ad,iK (p:=fun x=>decide ((tn:Int)<=(hits p x #[IO]:Int))) h,kj,cZ];exact n4.same s6
    ·rintro ys H4 D ⟨s4,us,rfl,uo,n4⟩ hD;rw [hrq,dL] at n4;have tQ:=Bj.trans s4;refine q D us _ _ (tQ.free hD) (tQ.trans (zb hD)) zc #[O6] (EX.filter _) fun x=>?_
     rw [dn,qw x,decide_eq_true_iff];constructor
     ·rintro⟨⟨pk,h1,rfl⟩,h2⟩;exact⟨zkD hp hPt h1,h2⟩
     ·rintro⟨EA,h2⟩;exact⟨zjz hp hP EA (t:=tn) #[O] #[O] #[O],h2⟩
noncomputable def zem (p:Int) (wide:Nat) (r:List Int):Prop:=1<=r.length/\r.length<=wide/\∀ v∈r,0<=v/\v < p
theorem zf7 {i:Nat} (hj:j < rows.length) (hi:i < (rows.getD j []).length) (h:gl (rows.getD j []) i≠0):((i:Int),(j:Int))∈zaK rows rows.length:=by
 unfold zaK;rw [fK];refine⟨j,cE.mpr hj,?_⟩;unfold trm;exact bE.mpr ⟨i,dn.mpr ⟨cE.mpr hi,by simpa using h⟩,rfl⟩
theorem zpW (h:∃ r∈rows,∃ v∈r,v≠0):∃ j i,j < rows.length/\i < (rows.getD j []).length/\cu rows j i≠0/\cu rows j i∈rows.getD j []/\rows.getD j []∈rows:=by
 obtain⟨r,hr,v,hv,oH⟩:=h;obtain⟨j,hj⟩:=dF.mp hr;obtain⟨i,hi⟩:=dF.mp hv;have e:rows.getD j []=r:=by rw [bI,hj]; rfl
 have e2:cu rows j i=v:=by unfold cu; rw [e]; exact zba hi
 exact⟨j,i,(aW.mp hj).1,by rw [e]; exact (aW.mp hi).1,by rw [e2]; exact oH,by rw [e2,e]; exact hv,by rw [e]; exact hr⟩
theorem zhR {p x y:Int} (hj:j < rows.length):#[Do].getD j []=(bM #[PY]).map fun i=>mv x y rows.length #[PY] (cu rows) j i % p:=by
 rw [bI,show #[Do][j]? = _ from zcD hj];rfl
theorem zn9 {p x y:Int} {i:Nat} (hj:j < rows.length) (hi:i < wd rows):cu #[Do] j i=mv x y rows.length #[PY] (cu rows) j i % p:=by
 unfold cu;rw [zhR hj];exact zba (by rw [aD,cR hi]; rfl)
theorem zqZ {p x y:Int} {w:Nat} (hg:∀ r∈rows,zem p w r) (h:∃ r∈rows,∃ v∈r,v≠0):zaK #[Do] rows.length≠[]:=by
 obtain⟨j,i,h1,h2,h3,h4,h5⟩:=zpW h;have hr:=(hg _ h5).2.2 _ h4;have n6:=zfT h5;obtain⟨t,s,ht,hs,oH⟩:=zrG (p:=p) (a:=x) (b:=y) (n:=rows.length) (w:=wd rows) (c:=cu rows) (j:=j) (i:=i) h1 #[O] fun e=>h3 (by
  have e0:Cg p (cu rows j i) 0:=e;exact e0.eq hr.1 hr.2 #[D] #[O])
 have el:#[Do].length=rows.length:=zaV _ _ _;have:=zf7 (rows:=mvd p x y rows) (j:=t) (i:=s) #[O] (by rw [zhR ht,aA,bR]; exact hs) (by
  show cu #[Do] t s≠0;rw [zn9 ht hs];exact fun e=>oH (#[OF].symm.trans (Cg.of_eq e)))
 rw [el] at this;exact fun e=>by rw [e] at this; cases this
theorem zoa {s:Nat} {g:Tm->Int} {r:List Int} (h:r∈zez k s g):∃ j,j < s / (k - 1)+1/\r=(bM (s - (k - 1)*j+1)).map fun i=>g (i,j):=by
 unfold zez at h;obtain⟨j,hj,rfl⟩:=bE.mp h;exact⟨j,cE.mp hj,rfl⟩
theorem zpp {p:Int} {s:Nat} {g:Tm->Int} (hg:∀ t,0<=g t/\g t < p):∀ r∈zez k s g,1<=r.length/\r.length<=s+1/\∀ v∈r,0<=v/\v < p:=fun r hr=>by
 obtain⟨j,_,rfl⟩:=zoa hr;rw [aA,bR];refine⟨#[O],#[O],fun v hv=>?_⟩;obtain⟨i,_,rfl⟩:=bE.mp hv;exact hg _
theorem zkX {x y:Int} {i:Nat}:mv x y rows.length #[PY] (cu rows) j i=zc1 rows x y i j:=by
 rw [zpJ];unfold zc1;refine zaH fun t ht=>?_
 have hl:(rows.getD t []).length<=wd rows:=zfT (by rw [bI,aG ht]; exact d7 ht);rw [zd6 hl fun s h1 _=>by
  have:cu rows t s=0:=zbz h1;rw [this];simp]
 refine zaH fun s _=>?_
 show cu rows t s*ch t j*ch s i*x ^ (s - i)*y ^ (t - j)=gl (rows.getD t []) s*(ch s i*x ^ (s - i)*(ch t j*y ^ (t - j)));unfold cu;grind
theorem zpq {p x y:Int} {m:Nat} (h:∀ u v,u+v < m->Cg p #[Qu] 0):∀ z∈wts #[OZ],(m:Int)<=z:=fun z hz=>by
 obtain⟨q,hq,rfl⟩:=bE.mp hz;unfold zaK at hq;obtain⟨j,hj,hq⟩:=fK.mp hq;have hj:=cE.mp hj;rw [zhR hj,aA,bR] at hq;unfold trm at hq;obtain⟨i,hi,rfl⟩:=bE.mp hq;obtain⟨hi,oH⟩:=dn.mp hi;have hi:=cE.mp hi;show (m:Int)<=(i:Int)+(j:Int);refine dA fun n6=>?_
 have h0:=h i j #[O];rw [<- zkX] at h0;have e:gl ((bM #[PY]).map fun i=>mv x y rows.length #[PY] (cu rows) j i % p) i=mv x y rows.length #[PY] (cu rows) j i % p:=zba (by rw [aD,cR hi]; rfl);rw [e,h0.mod_eq,lC] at oH;simp at oH
theorem zkY {n:Nat} {w:Nat->Nat} (hn:n<=N) (hw:∀ j,j < n->w j<=N) (h1:∀ j i,n<=j->G j i=0) (h2:∀ j i,j < n->w j<=i->G j i=0):(sm n fun j=>sm (w j) (G j))=sm N fun j=>sm N (G j):=by
 rw [zd6 (m:=n) (n:=N) hn (fun j hj _=>zbq fun i _=>h1 j i hj)];exact zaH fun j hj=>(zd6 (hw j hj) fun i hi _=>h2 j i hj hi).symm
noncomputable def Ph (p:Int) (k:Nat) (rows:List #[wp]) (nW:List (Int×Int)) (m T:Int):Prop :=
 (1<=m/\m<=4)/\(∀ x∈szs (k:Int) #[Ix],x < m*T)/\∀ q∈nW,∀ z∈wts (zaK (mvd p q.1 q.2 rows) rows.length),m<=z
theorem zhS {i:Nat} (h:¬ (j < rows.length/\i < (rows.getD j []).length)):cu rows j i=0:=by
 unfold cu;by_cases hj:j < rows.length
 ·exact zbz (by have:¬ i < (rows.getD j []).length:=fun z=>h ⟨hj,z⟩; lia)
 ·have:rows.getD j [] = []:=by rw [bI,eZ #[O]]; rfl
  rw [this];rfl
theorem zpX {i:Nat} (h:cu rows j i≠0):((i:Int),(j:Int))∈zaK rows rows.length:=by
 by_cases hb:j < rows.length/\i < (rows.getD j []).length
 ·exact zf7 hb.1 hb.2 h
 ·exact absurd (zhS hb) h
theorem zi8 {p x y:Int} {m:Nat} (h:∀ z∈wts #[OZ],(m:Int)<=z) {u v:Nat} (Bn:u+v < m):Cg p #[Qu] 0:=by
 rw [<- zkX];by_cases hb:v < rows.length/\u < wd rows
 ·refine dA fun hn=>?_
  have e:=zn9 (p:=p) (x:=x) (y:=y) hb.1 hb.2;have oH:cu #[Do] v u≠0:=fun z=>hn (by
   rw [e] at z;exact #[OF].symm.trans (Cg.of_eq z))
  have hl:#[Do].length=rows.length:=by unfold mvd; exact znJ _ _ _
  have hm:=zpX oH;rw [hl] at hm;have:=h _ (bE.mpr ⟨_,hm,rfl⟩);have:(m:Int)<=(u:Int)+(v:Int):=this;lia
 ·refine Cg.of_eq ?_;unfold mv;by_cases hu:u < wd rows
  ·have hz:(fun s=>sh y rows.length (fun t=>cu rows t s) v)=fun _=>0:=by
    funext s;exact zdo (by have:¬ v < rows.length:=fun z=>hb ⟨z,hu⟩; lia)
   rw [hz];exact (zkL (n:=0) (bW _) fun _ _ _=>rfl).trans (zdo (bW _))
  ·exact zdo #[O]
theorem zpr {p:Int} (hp:p∈zG) {d m T:Nat} (hd:1<=d) {l:List (Int×Int)} (hP:Pts p l) (h:Ph p (d+1) rows l (m:Int) (T:Int)) (hT:1<=T) (hq:IsP p (d+1) q) (hh:T<=hits p q l):Zr p (AL (d+1) (gl q) rows.length fun j i=>gl (rows.getD j []) i):=by
 have rp:=zO hp;obtain⟨⟨m1,m4⟩,hsz,hwt⟩:=h;have hmT:1<=m*T:=gP (show 1<=m by lia) hT;obtain⟨s,es⟩:∃ s,s+1=m*T:=⟨m*T - 1,#[O]⟩;have qR:∀ t:Tm,s < tz (d+1) t->cu rows t.2 t.1=0:=fun t ht=>by
  (refine dA fun hn=>?_)
  have:=hsz _ (bE.mpr ⟨_,zpX hn,rfl⟩);have this:(t.1:Int)+(((d+1:Nat):Int) - 1)*(t.2:Int) < (m:Int)*(T:Int):=this;have e:((t.1+d*t.2:Nat):Int)=(t.1:Int)+(((d+1:Nat):Int) - 1)*(t.2:Int):=by
   push_cast;rw [show ((d:Int)+1 - 1)=(d:Int) by lia]
  have ht:s < t.1+d*t.2:=ht;have e2:((m*T:Nat):Int)=(m:Int)*(T:Int):=by push_cast; rfl
  lia
 have hz:∀ j,s < j->∀ i,cu rows j i=0:=fun j hj i=>qR (i,j) (by
  show s < i+d*j;have:j<=d*j:=Nat.le_mul_of_pos_left _ #[O];lia)
 have h1:=zhD hp (k1:=d) (s:=s) (m:=m) (g:=fun t=>cu rows t.2 t.1) (f:=gl q) qR (nW:=l.filter #[TD]) (List.Pairwise.filter _ (dO.mp hP.nd)) (fun a ha=>?_) (fun a ha=>?_) (fun a ha u v Bn=>?_) (by
  have:m*T<=m*hits p q l:=lI _ hh;have e:hits p q l=(l.filter #[TD]).length:=rfl;rw [<- e];lia)
 ·intro i;have h2:Cg p (AL (d+1) (gl q) (s+1) #[Qn] i) 0:=h1 i;have eA:AL (d+1) (gl q) (max (s+1) rows.length) #[Qn]=AL (d+1) (gl q) (s+1) #[Qn]:=znM (ig _ _) fun t ht=>funext fun i=>hz t #[O] i
  have eB:AL (d+1) (gl q) (max (s+1) rows.length) #[Qn]=AL (d+1) (gl q) rows.length #[Qn]:=znM (gR _ _) fun t ht=>funext fun i=>zhS #[O]
  rw [<- eA,eB] at h2;exact h2
 ·obtain⟨a1,_⟩:=dn.mp ha;obtain⟨x0,x1,_⟩:=hP.rg a a1;exact⟨x0,x1⟩
 ·obtain⟨_,a2⟩:=dn.mp ha;have a2:zF p a.1 q=a.2:=of_decide_eq_true a2;rw [<- a2,zpK];exact (zne (by rw [hq.1]; exact aH _)).symm
 ·have oz:=zi8 (hwt a (dn.mp ha).1) Bn;have hwd:∀ j,j < rows.length->(rows.getD j []).length<=max (s+1) (max rows.length #[PY]):=fun j hj=>bX (zfT (by rw [bI,aG hj]; exact d7 hj)) (bX (gR _ _) (gR _ _))
  have e1:zc1 rows a.1 a.2 u v=sm #[Pe] fun j=>sm #[Pe] fun i=>cu rows j i*cv (i,j) ⟨a.1,a.2,u,v⟩:=by
   unfold zc1;exact zkY (G:=fun j i=>cu rows j i*cv (i,j) ⟨a.1,a.2,u,v⟩) (w:=fun j=>(rows.getD j []).length) (bX (ig _ _) (gR _ _)) hwd (fun j i hj=>by rw [zhS #[O],dE]) (fun j i _ hi=>by rw [zhS #[O],dE])
  have e2:=zqP (s:=s) (G:=fun t=>cu rows t.2 t.1) (X:=a.1) (y:=a.2) (u:=u) (v:=v);have e3:(sm (s+1) fun j=>sm (s+1) fun i=>cu rows j i*cv (i,j) ⟨a.1,a.2,u,v⟩)=sm #[Pe] fun j=>sm #[Pe] fun i=>cu rows j i*cv (i,j) ⟨a.1,a.2,u,v⟩ :=
   zkY (G:=fun j i=>cu rows j i*cv (i,j) ⟨a.1,a.2,u,v⟩) (w:=fun _=>s+1) (ig _ _) (fun j _=>ig _ _) (fun j i hj=>by rw [hz j #[O],dE]) (fun j i _ hi=>by
    have:cu rows j i=0:=qR (i,j) (by show s < i+d*j; lia);rw [this,dE])
  rw [<- e2];show Cg p (sm (s+1) fun j=>sm (s+1) fun i=>cu rows j i*cv (i,j) ⟨a.1,a.2,u,v⟩) 0;rw [e3,<- e1];exact oz
noncomputable def zq0 (p T m:Int) (k:Nat) (rw:List #[Op]) (pl:List Int) (rows:List #[wp]) (vs:List V) (H:Hp):Prop:=∃ (c tt r z r':Addr) (ls:List Addr),vs = [.ref c,.ref r,.int T,.ref z]/\zbP H c tt p k pl/\H r=some #[Pa]/\rw.length=pl.length/\pl.length<=16/\p∈zG/\pl.Nodup/\(∀ x∈pl,0<=x/\x < p)/\(∀ z,some z∈rw->0<=z/\z < p)/\1<=k/\k<=100/\0<=T/\T<=1000/\H z=some (.tup [.int m,.ref r'])/\H r'=some #[Ti]/\zaZ H ls rows/\rows.length<=100/\(∀ r∈rows,zem p 100 r)/\(∃ r∈rows,∃ v∈r,v≠0)/\0<=m/\m<=1000
noncomputable def zf8 (K:aF):Sp:=fun vs H Q _=>∃ (p T m:Int) (k:Nat) (rw:List #[Op]) (pl:List Int) (rows:List #[wp]),zq0 p T m k rw pl rows vs H/\2<=k/\∀ H',zr H H'->Q #[UZ] H'
theorem zob {p:Int} {k:Int} (h:∃ r∈rows,∃ v∈r,v≠0):szs k #[Ix]≠[]:=by
 obtain⟨j,i,hj,hi,oH,_⟩:=zpW h;have:=zf7 hj hi oH;intro e;unfold szs at e;rw [lK] at e;rw [e] at this;cases this
theorem zaX:Kf ["code","row","t","paper","p","k","places","m","curve"] ["code","row","t","paper"] (zi zbn):=#[S]
theorem zf9 (T:Txt K mg t) (F:Fun K "paper_holds" "paper_holds" zbn t.KH fd):Kn P w K mg base CX0 8 t.KH fd ["code","row","t","paper"] (zf8 K):=by
 obtain⟨qU,oj,oO⟩:=T.Km;have oP:=zcZ (P:=P) (w:=w) (base:=base) T oj;obtain⟨Cy,tu,wL⟩:=T.LQ;have wM:=zjO (P:=P) (w:=w) (base:=base) T tu;obtain⟨pE,nZ,om⟩:=T.Kj;have oo:=zbQ (P:=P) (w:=w) (base:=base) T nZ;obtain⟨AD,qM,uB⟩:=T.Lg;have uC:=zhP (P:=P) (w:=w) (base:=base) T qM;refine F.ok zaX #[sn] #[mt]
 ·obtain⟨p,T',m,k,rw,pl,rows,⟨c,tt,r,z,r',ls,rfl,_⟩,_⟩:=h;rfl
 ·obtain⟨p,T',m,k,rw,pl,rows,⟨c,tt,r,z,r',ls,rfl,hc,qT,pD,hn,hp,pU,oT,rA,k1,Av,t0,t1,hz,oX,hT,JA,xB,Cz,m0,EY⟩,k2,q⟩:=h;apply zaJ; intro zX;refine⟨_,#[ze,#[zaO,#[AT],#[zaw,#[zj,#[zg,4,zaX.nd,#[PU]],#[zj,#[zg,5,zaX.nd,#[A]],#[zj,#[zg,6,zaX.nd,#[A]],#[zA]]]]]],#[ze,#[zcc,#[zq,oP,#[sK],T.Lc,oj.kp,oO,#[zK],#[QT]]],#[ze,#[zaO,#[NE],#[zaw,#[zj,#[zg,7,zaX.nd,#[PU]],#[zj,#[zg,8,zaX.nd,#[PU]],#[zA]]]]],#[ze,#[zbj,(@PW.pt _ _ _ #[zmh,#[zgY,#[zh1,#[zh0],#[zh0],#[zf],#[Rl],(@zoj _ _ (.int 4) _ _ rfl T.Lf.choose_spec ⟨_,rfl⟩ #[D]),(by with_unfolding_all rfl)]],#[zi9,#[zJ,#[zfp],#[zq,wM,#[sK],T.Nc,tu.kp,wL,#[zK],#[za,#[Pf],#[Vs]]],#[zh,#[zQ],#[Rl],#[GT]],(zV _)]]]),#[PF],#[zan]],#[zl,#[zC,#[zn,(@zlp _ rfl),T.OA,boot_all,#[ya,#[zI,(Kg.of (N':=["point","p","curve","m"]) (ix:=[none,some 4,some 8,some 7]) (zi zbn) _ rfl rfl rfl),#[zZ],#[zad,#[Rh]],#[pc],#[re],(fun _ _ _ _=>#[zj5,#[zfp],#[zq,uC,#[sK],T.MQ,qM.kp,uB,#[zK],#[za,#[Id],#[za,#[GT],#[QC]]]],#[NE],(zV _)])]]]]]]]]],?_⟩;apply zmu; intro xq rS pQ pG;have pd:=bJ;have rp:=zO hp;have hP:=zd5 pU oT rA;have F4:=zbX pl rw;have Gh:∀ r∈rows,r.length<=100:=fun r hr=>(xB r hr).2.1
  refine⟨_,rfl,c,_,rfl,nS.of hc.1,rfl,_,_,rfl,_,_,rfl,_,_,rfl,rfl,?_⟩;refine (nN rfl ⟨k,rfl,k2,?_⟩);refine#[VB];have no:∀ H',zr H H'->¬ Ph p k rows #[IO] m T'->Q #[VR] H':=fun H' s' h=>by
   have:=q H' s';rw [zn7 h] at this;exact this
  by_cases AE:1<=m;rotate_left
  ·refine #[Po];rw [decide_eq_false AE];exact zg3 (nN rfl (no H #[OV] fun h=>AE h.1.1))
  refine #[Po];rw [decide_eq_true AE];refine zlb #[ww];by_cases AF:m<=4;rotate_left
  ·rw [decide_eq_false AF];exact zlb (no H #[OV] fun h=>AF h.1.2)
  rw [decide_eq_true AF];refine zg3 ?_;refine (nN rfl (nN rfl (ex4 (k:Int) r' ls rows ⟨rfl,#[O],#[O],oX,hT,JA,Gh,fun M H1 s1 _ z1=>?_⟩)));have z1:=z1 (zob (p:=p) Cz);refine #[PX]
  ·have h:m*T'<=M:=of_decide_eq_true h;exact no H1 s1 fun g=>by have:=g.2.1 M z1.1; lia
  have n6:M < m*T':=by
   have:¬ (m*T'<=M):=fun z=>n6 (decide_eq_true z)
   lia
  refine (nN rfl (nN rfl (ex7 c tt r p k pl rw ⟨rfl,hc.same s1,⟨nO.of (s1 _ _ qT),pD⟩,#[O],fun l bs H2 qg s2 yT hB=>?_⟩)));have uk:bs.length=#[IO].length:=hB.length;have wA:=s1.trans s2;refine⟨l,rfl,⟨_,nO.of yT⟩,zao (n:=bs.length) (fun i ys H'=>zr H2 H'/\ys=((#[IO].take i).map fun q'=>dcd (∀ z∈wts (zaK (mvd p q'.1 q'.2 rows) rows.length),m<=z)).map V.bl) #[Qy] ?_ ?_ ?_ ?_⟩
  ·rintro i ys H4 hi ⟨s4,_⟩;exact⟨_,.ref (bs[i]'#[O]),nO.of (s4 _ _ yT),by rw [aD,aG #[O]]; rfl⟩
  ·rintro ys H4 ⟨s4,_⟩;exact⟨_,nO.of (s4 _ _ yT),by rw [aA]; exact aH _⟩
  ·rintro zS zT zE i x ys H4 H5 hi ⟨s4,rfl⟩ ⟨rfl,hx⟩;obtain⟨b,rfl,qB⟩:=zN (hx _ (nO.of (s4 _ _ yT)));obtain⟨q',pC,Cj⟩:=Paired.get (hB.same s4) qB;have hqm:=aL pC;obtain⟨g1,g2,g3,g4⟩:=hP.rg q' hqm;have tQ:=wA.trans s4;refine gY ?_;refine (nN rfl (nN rfl (nN rfl (ex7 p r' b q'.1 q'.2 ls rows ⟨rfl,#[O],#[O],g1,g2,g3,g4,tQ _ _ oX,hT.same tQ,Cj,JA,Gh,fun M2 H6 s6 _ z2=>?_⟩))));have wnz:wts (zaK (mvd p q'.1 q'.2 rows) rows.length)≠[]:=by
    intro e;unfold wts at e;rw [lK] at e;exact zqZ (w:=100) xB Cz e
   have z2:=z2 wnz;have eM:decide (m<=M2)=dcd (∀ z∈wts (zaK (mvd p q'.1 q'.2 rows) rows.length),m<=z):=by
    rw [eE,decide_eq_true_iff,zdy];exact⟨fun h z hz=>by have:=z2.2 z hz; lia,fun h=>h M2 z2.1⟩
   refine (nN rfl #[IR]);refine⟨by rw [aA,aA,aU]; lia,s4.trans s6,?_⟩;show _++[V.bl (decide (m<=M2))]=_;rw [eM,take_snoc pC,aN,aN];rfl
  ·rintro ys H4 D ⟨s4,rfl⟩ hD;refine⟨D,#[So]⟩;rw [aY #[O]];have e:(#[IO].map fun q'=>dcd (∀ z∈wts (zaK (mvd p q'.1 q'.2 rows) rows.length),m<=z)).all id=dcd (Ph p k rows #[IO] m T'):=by
    rw [eE,zdy,List.all_map,ge];constructor
    ·intro h;refine⟨⟨AE,AF⟩,fun x hx=>by have:=z1.2 x hx; lia,fun q' pC=>?_⟩;have h2:dcd (∀ z∈wts (zaK (mvd p q'.1 q'.2 rows) rows.length),m<=z)=true:=h q' pC;exact zdy.mp h2
    ·intro h q' pC;have h2:=h.2.2 q' pC;exact zn6 h2
   rw [e];exact q _ ((wA.trans s4).trans (zb hD))
theorem zq1 (bs:List Bool):inV #[VR] (bs.map V.bl)=true↔false∈bs:=by
 unfold inV;rw [j2];constructor
 ·rintro⟨y,hy,e⟩
  (obtain⟨b,hb,rfl⟩:=bE.mp hy)
  have:b=false:=by simpa [eqV] using e
  rw [<- this];exact hb
 ·intro h;exact⟨.bl false,bE.mpr ⟨false,h,rfl⟩,by simp [eqV]⟩
noncomputable def zjU (K:aF):Sp:=fun vs H Q _=>∃ (p T m:Int) (k:Nat) (rw:List #[Op]) (pl:List Int) (rows:List #[wp]),zq0 p T m k rw pl rows vs H/\2<=k/\∀ H',zr H H'->Q #[UZ] H'
theorem zcb:Kf ["code","row","t","paper","m","curve","k","points"] ["code","row","t","paper"] (zi zb4):=#[S]
theorem zjV (T:Txt K mg t) (F:Fun K "_law_holds" "_law_holds" zb4 t.Mn fd):Kn P w K mg base CX0 3 t.Mn fd ["code","row","t","paper"] (zjU K):=by
 obtain⟨Dk,uD,yo⟩:=T.Mt;have yp:=zma (P:=P) (w:=w) (base:=base) T uD;obtain⟨Bo,rJ,vp⟩:=T.Lv;have vq:=zi6 (P:=P) (w:=w) (base:=base) T rJ;refine F.ok zcb #[sn] #[mt]
 ·obtain⟨p,T',m,k,rw,pl,rows,⟨c,tt,r,z,r',ls,rfl,_⟩,_⟩:=h;rfl
 ·obtain⟨p,T',m,k,rw,pl,rows,⟨c,tt,r,z,r',ls,rfl,hc,qT,pD,hn,hp,pU,oT,rA,k1,Av,t0,t1,hz,oX,hT,JA,xB,Cz,m0,EY⟩,k2,q⟩:=h;apply zaJ; intro zX;refine⟨_,#[ze,#[zaO,#[NE],#[zaw,#[zj,#[zg,4,zcb.nd,#[PU]],#[zj,#[zg,5,zcb.nd,#[PU]],#[zA]]]]],#[ze,#[zm,6,zcb.nd,#[A],#[zw,#[za6],#[AT],#[zf]]],#[ze,#[zbj,(@PW.pt _ _ _ #[zmh,#[zgY,#[zh1,#[zh0],#[zh0],#[zf],#[OD],#[zf],(by with_unfolding_all rfl)]],#[zi9,#[zJ,#[zfp],#[zq,yp,#[sK],T.Nx,uD.kp,yo,#[zK],#[za,#[R8],#[QT]]],#[zh,#[zQ],#[OD],#[GT]],(zV _)]]]),#[PF],#[zan]],#[ze,#[za8,7,zcb.nd,#[A],(Kg.of (N':=["number","entry","code"]) (ix:=[none,none,some 0]) (zi zb4) _ rfl rfl rfl),#[wv],#[zcy,T.Kh,#[xL]],#[or],#[UM],(fun _ _ _ _=>#[zap,#[za,#[zw,#[zhd,(K)],#[zw,#[zhd,(K)],#[GT],#[zf]],#[AT]],#[xL]]])],#[zl,#[zC,#[zj5,(@zg2 _),#[zdB],#[zI,(Kg.of (N':=["point","code","curve","m"]) (ix:=[none,some 0,some 5,some 4]) (zi zb4) _ rfl rfl rfl),#[zZ],#[zad,#[Rl]],#[pc],#[re],(fun _ _ _ _=>#[zq,vq,#[sK],T.M4,rJ.kp,vp,#[zK],#[za,#[zw,#[zhd,(K)],#[Id],#[zf]],by exact #[za,#[GT],#[za,#[AT],#[Sj]]]]])],(by with_unfolding_all rfl)]]]]]]],?_⟩;apply zmu; intro xq rS pQ pG;have pd:=bJ;have rp:=zO hp;have hP:=zd5 pU oT rA;have F4:=zbX pl rw;have Gh:∀ r∈rows,r.length<=250:=fun r hr=>bX (xB r hr).2.1 #[D]
  have no:∀ H',zr H H'->¬ Ph p k rows #[IO] m T'->Q #[VR] H':=fun H' s' h=>by
   have:=q H' s';rw [zn7 h] at this;exact this
  refine#[VB];refine (nN rfl (ex4 c _ _ _ ⟨rfl,rfl,nS.of hc.1,rfl,?_⟩));by_cases AE:1<=m;rotate_left
  ·refine #[Po];rw [decide_eq_false AE];exact zg3 (nN rfl (no H #[OV] fun h=>AE h.1.1))
  refine #[Po];rw [decide_eq_true AE];refine zlb #[ww];by_cases AF:m<=4;rotate_left
  ·rw [decide_eq_false AF];exact zlb (no H #[OV] fun h=>AF h.1.2)
  rw [decide_eq_true AF];refine zg3 ?_;have Ad:=zob (p:=p) (k:=(k:Int)) Cz;refine (nN rfl (nN rfl (ex4 (k:Int) r' ls rows ⟨rfl,#[O],#[O],oX,hT,#[O],Gh,fun e=>Ad (by unfold szs; rw [e]; rfl),fun M H1 s1 z1 z1'=>?_⟩)));refine #[PX]
  ·have h:m*T'<=M:=of_decide_eq_true h;exact no H1 s1 fun g=>by have:=g.2.1 M z1; lia
  have n6:M < m*T':=by
   have:¬ (m*T'<=M):=fun z=>n6 (decide_eq_true z)
   lia
  have hc1:=hc.same s1;have Gi:=s1 _ _ qT;refine (nN rfl ⟨r,(nN rfl ⟨nO.of Gi,zao (n:=pl.length) (fun i ys H'=>zr H1 H'/\∃ us:List Addr,ys=us.map V.ref/\PtB H' us (oz #[Ug] (rw.take i))) ⟨fun _ _ e=>e,[],rfl,.nil⟩ ?_ ?_ ?_ ?_⟩)⟩)
  ·rintro i ys H3 hi ⟨s3,_⟩;exact⟨_,qW (rw[i]'#[O]),nO.of (s3 _ _ Gi),by rw [aD,aG #[O]]; rfl⟩
  ·rintro ys H3 ⟨s3,_⟩;exact⟨_,nO.of (s3 _ _ Gi),by rw [aA]; lia⟩
  ·rintro zS zT zE i xx ys H3 H4 hi ⟨s3,us,rfl,n4⟩ ⟨T,v,ES,rfl,rfl,hv⟩;obtain⟨o,rfl,ho⟩:=zhh (hv _ (nO.of (s3 _ _ Gi)));obtain⟨x,hx⟩:∃ x,pl[i]? = some x:=⟨pl[i]'(hi),aG hi⟩;have v4:=zb (o:=.tup [.int (i:Int),qW o]) ES;have s4:=s3.trans v4;have hs:=zd4 hx ho;have uo:=n4.length;have hb:=zbX #[Ug] (rw.take i);rw [aU] at hb;have hc4:=hc1.same s4;refine#[Db];refine (nN rfl #[RT]);cases o with
   | none =>
    refine zg3 ⟨s4,us,rfl,?_⟩;rw [hs,cZ];exact n4.same v4
   | some z =>
    refine zlb (nN rfl (ex4 c _ _ _ ⟨rfl,rfl,nS.of hc4.1,rfl,(nN rfl (ex4 tt _ _ _ ⟨rfl,rfl,nS.of hc4.2,zab (by rw [aD,hx]; rfl),(nN rfl ⟨by show 2<=sizeLine; lia,fun T2 vi=>⟨by rw [aA]; lia,s4.trans (zb vi),us++[T2],by rw [aN]; rfl,?_⟩⟩)⟩))⟩));rw [hs];exact cL (n4.same (v4.trans (zb vi))) zc
  rintro ys H3 D ⟨s3,us,rfl,n4⟩ hD;rw [dL,aY #[O]] at n4;have u4:=zb (o:=.lst #[KK]) hD;have EZ:nQ H3 D #[Tj] D=some #[Tj]:=zc;have CA:=n4.same u4;have tQ:=s1.trans (s3.trans u4);generalize nQ H3 D #[Tj]=H4 at u4 EZ CA tQ |-;obtain⟨mN,rfl⟩:∃ mN:Nat,m=mN:=⟨m.toNat,#[O]⟩;have uo:=CA.length;have HB:1<=rows.length:=by obtain⟨r,hr,_⟩:=Cz; exact List.length_pos_of_mem hr
  refine (nN rfl ⟨D,rfl,⟨_,nO.of EZ⟩,zao (n:=us.length) (fun i ys H'=>zr H4 H'/\ys=((#[IO].take i).map fun q'=>dcd (∀ u v,u+v < mN->Cg p (zc1 rows q'.1 q'.2 u v) 0)).map V.bl) #[Qy] ?_ ?_ ?_ ?_⟩)
  ·rintro i ys H5 hi ⟨s5,_⟩;exact⟨_,.ref (us[i]'#[O]),nO.of (s5 _ _ EZ),by rw [aD,aG #[O]]; rfl⟩
  ·rintro ys H5 ⟨s5,_⟩;exact⟨_,nO.of (s5 _ _ EZ),by rw [aA]; exact aH _⟩
  ·rintro zS zT zE i x ys H5 H6 hi ⟨s5,rfl⟩ ⟨rfl,hx⟩;obtain⟨b,rfl,qB⟩:=zN (hx _ (nO.of (s5 _ _ EZ)));obtain⟨q',pC,Cj⟩:=Paired.get (CA.same s5) qB;obtain⟨g1,g2,g3,g4⟩:=hP.rg q' (aL pC);have Bh:=tQ.trans s5;refine gY ?_;refine (nN rfl (ex4 c _ _ _ ⟨rfl,rfl,nS.of (hc.same Bh).1,rfl,(nN rfl (nN rfl (nN rfl (ex8 p r' b q'.1 q'.2 mN ls rows ⟨rfl,#[O],#[O],g1,g2,g3,g4,#[O],Bh _ _ oX,hT.same Bh,Cj,HB,#[O],fun r hr=>⟨(xB r hr).1,bX (xB r hr).2.1 #[D],(xB r hr).2.2⟩,fun H7 s7=>?_⟩))))⟩));refine⟨by rw [aA,aA,aU]; lia,s5.trans s7,?_⟩;rw [take_snoc pC,aN,aN];rfl
  rintro ys H5 D2 ⟨s5,rfl⟩ Aq;rw [aY #[O]];have u6:=zb (o:=.lst ((#[IO].map fun q'=>dcd (∀ u v,u+v < mN->Cg p (zc1 rows q'.1 q'.2 u v) 0)).map V.bl)) Aq;refine⟨D2,(nN rfl ⟨.inl (nO.of zc),rfl,?_,?_⟩)⟩
  ·rw [ge];intro y hy;obtain⟨b,_,rfl⟩:=bE.mp hy;rfl
  have e:(if true=true then !inV (V.bl false) ((#[IO].map fun q'=>dcd (∀ u v,u+v < mN->Cg p (zc1 rows q'.1 q'.2 u v) 0)).map V.bl) else inV (V.bl false) ((#[IO].map fun q'=>dcd (∀ u v,u+v < mN->Cg p (zc1 rows q'.1 q'.2 u v) 0)).map V.bl))=dcd (Ph p k rows #[IO] (mN:Int) T'):=by
   rw [if_pos rfl,eE,zdy,ml,<- Bool.not_eq_true,zq1];constructor
   ·intro h;refine⟨⟨AE,AF⟩,fun x hx=>by have:=z1' x hx; lia,fun q' pC=>zpq ?_⟩;refine zdy.mp (dA fun hn=>h (bE.mpr ⟨q',pC,?_⟩));simpa using hn
   ·intro h hm;obtain⟨q',pC,e'⟩:=bE.mp hm;have h2:∀ u v,u+v < mN->Cg p (zc1 rows q'.1 q'.2 u v) 0:=fun u v Bn=>zi8 (h.2.2 q' pC) Bn
    rw [zn6 h2] at e';cases e'
  rw [e];exact q _ ((tQ.trans s5).trans u6)
theorem zq2 {b:Addr} {v:List Int} (h:LsA H ls vv) (nd:ls.Nodup) (hj:ls[j]? = some b):LsA (nQ H b #[P5]) ls (vv.set j v):=by
 induction h generalizing j with
 | nil=>cases hj
 | @cons a c as cs h1 ht ih =>
  obtain⟨hn,nd'⟩:=fh.mp nd;cases j with
  | zero =>
   obtain rfl:a=b:=by simpa using hj
   exact .cons zc (znC hn (fun c o hc e=>by rw [zp hc]; exact e) ht)
  | succ j =>
   have hj:as[j]? = some b:=by simpa using hj
   refine .cons ?_ (ih nd' hj);rw [zp (fun e:a=b=>hn (by rw [e]; exact aL hj))];exact h1
structure Lin (H0 H:Hp) (L:Addr) (ls:List Addr) (vv:List #[wp]):Prop where
 s:zr H0 H
 l:H L=some #[O9]
 a:LsA H ls vv
 nd:ls.Nodup
 nl:L∉ls
 fr:∀ b∈ls,H0 b=none
theorem Lin.same {L:Addr} (h:Lin H0 H L ls vv) (s:zr H H'):Lin H0 H' L ls vv:=⟨h.s.trans s,s _ _ h.l,h.a.same s,h.nd,h.nl,h.fr⟩
theorem Lin.set {L b:Addr} {v:List Int} (h:Lin H0 H L ls vv) (hj:ls[j]? = some b):Lin H0 (nQ H b #[P5]) L ls (vv.set j v):=by
 have hb:=aL hj;refine⟨zac h.s (h.fr b hb),?_,zq2 h.a h.nd hj,h.nd,h.nl,h.fr⟩;rw [zp (fun e:L=b=>h.nl (by rw [e]; exact hb))];exact h.l
structure Gd (p:Int) (n W:Nat) (vv:List #[wp]) (G:Nat->Nat->Int):Prop where
 gn:vv.length=n
 gw:∀ r∈vv,r.length=W/\∀ c∈r,0<=c/\c < p
 gc:∀ j x,j < n->x < W->Cg p (gl (vv.getD j []) x) (G j x)
theorem getD_mem {α:Type} {l:List (List α)} (h:j < l.length):l.getD j []∈l:=by rw [bI,aG h]; exact d7 h
theorem zga {α:Type} {l:List (List α)} (h:l.length<=j):l.getD j [] = []:=by rw [bI,eZ h]; rfl
theorem Gd.set {p:Int} {n:Nat} {G':Nat->Nat->Int} (h:Gd p n W vv G) {j0 i0:Nat} {v:Int} (hj:j0 < n) (hi:i0 < W) (v0:0<=v) (v1:v < p) (hv:Cg p v (G' j0 i0)) (hG:∀ j x,¬ (j=j0/\x=i0)->G' j x=G j x):Gd p n W (vv.set j0 ((vv.getD j0 []).set i0 v)) G':=by
 have hjl:j0 < vv.length:=by rw [h.gn]; exact hj
 have hr:=h.gw _ (getD_mem hjl);refine⟨by rw [fS]; exact h.gn,fun r oX=>?_,fun j x qu hx=>?_⟩
 ·rcases fe oX with z | rfl
  ·exact h.gw r z
  ·refine⟨by rw [fS]; exact hr.1,fun c hc=>?_⟩;rcases fe hc with z | rfl
   ·exact hr.2 c z
   ·exact⟨v0,v1⟩
 ·have e:(vv.set j0 ((vv.getD j0 []).set i0 v)).getD j []=if j=j0 then (vv.getD j0 []).set i0 v else vv.getD j []:=by
   rw [bI,mo];by_cases z:j0=j
   ·rw [if_pos z,if_pos z.symm,if_pos hjl]; rfl
   ·rw [if_neg z,if_neg (fun q=>z q.symm),bI]
  rw [e];by_cases z:j=j0
  ·rw [if_pos z,zjQ (by rw [hr.1]; exact hi)];by_cases y:x=i0
   ·rw [if_pos y,z,y]; exact hv
   ·rw [if_neg y,hG j x (fun q=>y q.2),z]; exact h.gc j0 x hj hx
  ·rw [if_neg z,hG j x (fun q=>z q.1)];exact h.gc j x qu hx
theorem Gd.eq {p:Int} {n:Nat} {G':Nat->Nat->Int} (h:Gd p n W vv G) (e:∀ j x,j < n->x < W->Cg p (G j x) (G' j x)):Gd p n W vv G':=⟨h.gn,h.gw,fun j x hj hx=>(h.gc j x hj hx).trans (e j x hj hx)⟩
noncomputable def wt (k:Nat) (f:Ps) (F:Nat->Ps) (t:Nat) (j x:Nat):Int:=(if 0 < j/\j<=t then F (j - 1) x else 0) + -1*(if j < t then mq 0 k f (F j) x else 0)
theorem zps (k:Nat) (f:Ps) (F:Nat->Ps) (j x:Nat):wt k f F 0 j x=0:=by
 unfold wt;rw [if_neg #[O],if_neg #[O]];rfl
theorem zpt (k:Nat) (f:Ps) (F:Nat->Ps) (t j x:Nat):wt k f F (t+1) j x=wt k f F t j x+(if j=t+1 then F t x else 0) + -1*(if j=t then mq 0 k f (F t) x else 0):=by
 unfold wt;by_cases h1:j=t+1
 ·subst h1;rw [if_pos #[O],if_neg #[O],if_neg #[O],if_neg #[O],if_pos rfl,if_neg #[O]];simp
 ·by_cases h2:j=t
  ·subst h2;rw [if_neg h1,if_pos (show j < j+1 by lia),if_neg (show ¬ j < j by lia),if_pos rfl];by_cases h3:0 < j
   ·rw [if_pos #[O],if_pos #[O]]; lia
   ·rw [if_neg #[O],if_neg #[O]]; lia
  ·rw [if_neg h1,if_neg h2];by_cases h3:j < t
   ·rw [if_pos (show j < t+1 by lia),if_pos h3];by_cases h4:0 < j
    ·rw [if_pos #[O],if_pos #[O]]; lia
    ·rw [if_neg #[O],if_neg #[O]]; lia
   ·rw [if_neg (show ¬ j < t+1 by lia),if_neg h3,if_neg #[O],if_neg #[O]]; rfl
theorem zq3 {n:Nat} {f:Ps} (hF:∀ t,n<=t->F t=fun _=>0) (j x:Nat) (hj:j < n+1):wt k f F n j x=wr k f F j x:=by
 have hz:∀ x,mq 0 k f (fun _=>0) x=0:=fun x=>by rw [(zcr 0 k f).z]
 unfold wt;cases j with
 | zero =>
  show _=0 + -1*mq 0 k f (F 0) x;rw [if_neg #[O]];by_cases h:0 < n
  ·rw [if_pos h]
  ·rw [if_neg h,hF 0 #[O],hz]
 | succ j =>
  show _=F j x + -1*mq 0 k f (F (j+1)) x;rw [if_pos #[O]];by_cases h:j+1 < n
  ·rw [if_pos h]; rfl
  ·rw [if_neg h,hF (j+1) #[O],hz]; rfl
theorem zq4 {f:Ps} (hk:1<=k) (hF:∀ t,Dg (F t) W) {x:Nat} (hx:W+k - 1<=x):wr k f F j x=0:=by
 have h:∀ t,mq 0 k f (F t) x=0:=fun t=>zhC (hF t) x #[O]
 cases j with
 | zero=>show 0 + -1*mq 0 k f (F 0) x=0; rw [h]; rfl
 | succ j=>show F j x + -1*mq 0 k f (F (j+1)) x=0; rw [h,hF j x #[O]]; rfl
noncomputable def zgb (K:aF):Sp:=fun vs H Q _=>∃ (p:Int) (k:Nat) (ca qa:Addr) (bs:List Addr) (rows:List #[wp]) (f:List Int),vs = [.int p,.ref ca,.ref qa]/\H ca=some #[Qf]/\zaZ H bs rows/\1<=rows.length/\rows.length<=50/\(∀ r∈rows,1<=r.length/\r.length<=90/\∀ c∈r,0<=c/\c < p)/\H qa=some (.tup #[Qk])/\IsP p k f/\1<=k/\k<=5/\5<=p/\p<=97 /\
 ∀ (l:Addr) (us:List Addr) (vT:List #[wp]) (W:Nat) (H':Hp),H l=none->zr H H'->H' l=some (.tup #[KK])->zaZ H' us vT->vT.length=rows.length+1->(∀ r∈rows,r.length<=W)->(∃ r∈rows,r.length=W)->(∀ r∈vT,r.length=W+k - 1/\∀ c∈r,0<=c/\c < p)->(∀ j x,Cg p (gl (vT.getD j []) x) (wr k (gl f) (fun j i=>gl (rows.getD j []) i) j x))->Q #[Pm] H'
theorem zak:Kf ["p","curve","polynomial","wide","lines","j","line","i","number"] ["p","curve","polynomial"] (zi zaP):=#[S]
theorem zgc (T:Txt K mg t) (F:Fun K "_law_with_root" "_law_with_root" zaP t.KJ fd):Kn P w K mg base CX0 2 t.KJ fd ["p","curve","polynomial"] (zgb K):=by
 obtain⟨rD,ou,oJ⟩:=T.K1;have oK:=zdP (P:=P) (w:=w) (base:=base) T ou;refine F.ok zak #[sn] #[mt]
 ·obtain⟨p,k,ca,qa,bs,rows,f,rfl,_⟩:=h;rfl
 ·obtain⟨p,k,ca,qa,bs,rows,f,rfl,vj,hb,n1,hn,rA,EF,hf,k1,k5,p5,qX,q⟩:=h;apply zaJ; intro zX;refine⟨_,#[ze,#[zm,3,zak.nd,#[PU],#[zh,#[zam],#[zh,#[zB],#[zn,#[za4],T.MP,fC,#[ya,#[zI,(Kg.of (N':=["line"]) (ix:=[none]) (zi zaP) _ rfl rfl rfl),#[zZ],#[TV],#[pc],#[re],#[OQ]]]],#[Qi]],#[zf]]],#[ze,#[za8,4,zak.nd,#[A],(Kg.of (N':=["j","wide"]) (ix:=[none,some 3]) (zi zaP) _ rfl rfl rfl),#[zZ],#[zU,T.Ki,#[ya,#[zh,#[zB],#[IN],#[zf]]]],#[pc],#[re],(fun _ _ _ _=>#[zh,#[zc3],#[OJ],#[Id]])],#[ze,#[zah,bN,#[zc6,T.Kh,#[xL]],#[zaw,#[zj,#[zg,5,zak.nd,#[A]],#[zj,#[zg,6,zak.nd,#[A]],#[zA]]]],#[ze,#[zah,bN,#[zc6,T.Kh,#[Qa]],#[Vo],#[zl,#[zaO,#[zh,#[zy],#[zh,#[zB],#[zw,#[zu],#[zw,#[zu],#[OD],#[Vg]],#[Rl]],#[RH]],#[AT]],#[zeo,#[zw,#[zu],#[OD],#[Vg]],#[Rl],set_list]]]],#[zl,#[zah,bN,#[zcy,T.Kh,#[ya,#[zq,oK,#[sK],T.Ll,ou.kp,oJ,#[zK],#[za,#[AT],#[za,#[zW,#[za2],T.MK,ir,#[Qa]],#[ya,#[zW,#[za2],T.MK,ir,#[OX]]]]]]]],#[Vo],#[zl,#[zaO,#[zh,#[zy],#[zh,#[zam],#[zw,#[zu],#[zw,#[zu],#[OD],#[Pf]],#[Rl]],#[RH]],#[AT]],#[zeo,#[zw,#[zu],#[OD],#[Pf]],#[Rl],set_list]]]]]]],#[zl,#[zC,#[zW,#[zai],T.KC,eR,#[ya,#[zI,(Kg.of (N':=["line"]) (ix:=[none]) (zi zaP) _ rfl rfl rfl),#[zZ],#[zad,#[OD]],#[pc],#[re],(fun _ _ _ _=>#[zW,#[TX],T.KC,eR,#[QC]])]]]]]]]],?_⟩;apply zg4; intro rS pQ pG;have pd:=bJ;have uk:=hb.length;have xu:f.length=k:=hf.1;refine (nN rfl ⟨ca,rfl,⟨_,nS.of vj⟩,zb0 (K:=K) (xs:=bs.map V.ref) (fs:=#[RJ].map V.int) (nS.of vj) (by unfold z8; rw [aA,aA,aA]; lia) (by rw [aA]; lia) ?_ ?_⟩)
  ·intro j x y R B hx hy hR;obtain⟨b,rfl,Jd⟩:=zN hx;obtain⟨r,oX,oW⟩:=Paired.get hb Jd;have yY:y = .int (r.length:Int):=by
    unfold z8 at hy;rw [aD,aD,oX] at hy;exact (bK hy).symm
   subst yY;refine gY #[SR];rw [aA];exact hR
  intro D hD;have u1:=zb (o:=.lst (#[RJ].map V.int)) hD;have oH:z8 rows≠[]:=fun e=>by
   have:=congrArg gD e;unfold z8 at this;rw [aA] at this;have:rows.length=0:=this;lia
  refine#[Tc];obtain⟨W,rfl,hW,Gj⟩:∃ W:Nat,M=(W:Int)/\(∀ r∈rows,r.length<=W)/\∃ r∈rows,r.length=W:=by
   obtain⟨r,oX,e⟩:=bE.mp vS;refine⟨r.length,e.symm,fun r2 h2=>?_,r,oX,rfl⟩;have:=yU _ (bE.mpr ⟨r2,h2,rfl⟩);lia
  have hW1:1<=W/\W<=90:=by
   obtain⟨r,oX,e⟩:=Gj;have:=rA r oX;lia
  generalize nQ H D (.lst (#[RJ].map V.int))=H1 at u1 |-;have hWk:((W:Int)+((#[Qk].length:Nat):Int) - 1)=((W+k - 1:Nat):Int):=by rw [aA,xu]; lia
  refine (nN rfl ⟨qa,(nN rfl ⟨.inr (nS.of (u1 _ _ EF)),#[U9]⟩)⟩);show zaT 3 (.int ((W:Int)+((#[Qk].length:Nat):Int) - 1)) _ _ _;rw [hWk];obtain⟨Wd,hWd⟩:∃ Wd,W+k - 1=Wd:=⟨_,rfl⟩;rw [hWd];have hWd1:1<=Wd/\Wd<=94:=by lia
  have eN:(((#[AC].length:Nat):Int)+1)=((rows.length+1:Nat):Int):=by rw [aA,uk]; rfl
  refine (nN rfl ⟨ca,(nN rfl ⟨.inr (nS.of (u1 _ _ vj)),(nR rfl rfl (nN rfl ⟨by rw [eN]; lia,by rw [eN]; lia,?_⟩))⟩)⟩);show cGo _ _ _ _ (Itr 0 (((#[AC].length:Nat):Int)+1).toNat) _ _;rw [eN];refine zaI (n:=rows.length+1) (fun m ys H'=>zr H1 H'/\∃ ls:List Addr,ys=ls.map V.ref/\LsA H' ls (aP m (aP Wd (0:Int)))/\ls.Nodup/\∀ b∈ls,H b=none) ⟨fun _ _ e=>e,[],rfl,.nil,nu,fun b hb=>by cases hb⟩ (fun m ys H' hm _=>by show m < ((rows.length+1:Nat):Int).toNat; lia) (fun ys H' _=>by show ((rows.length+1:Nat):Int).toNat<=rows.length+1; lia) ?_ ?_
  ·rintro m x ys H2 H3 hm ⟨s2,ls,rfl,oG,nd,fr⟩ ⟨rfl,rfl⟩;have hz:ls.length=m:=by rw [bF oG,bU]
   refine⟨by show 1<=sizeLine; lia,fun z hz=>(nN rfl (ex3 z _ ([.int 0]) ⟨rfl,rfl,zc,#[O],#[O],by show 1*(Wd:Int).toNat<=sizeLine; lia,fun y hy=>?_⟩))⟩;rw [show (Wd:Int).toNat=Wd by lia,dM];have v1:=(zb (o:=.lst [.int 0]) hz).trans (zb (o:=.lst (aP Wd #[TF])) hy);have hyH:H3 y=none:=(zb (o:=.lst [.int 0]) hz).free hy;refine⟨by rw [aA]; lia,s2.trans v1,ls++[y],#[M],?_,?_,?_⟩
   ·rw [List.replicate_succ'];exact cL (oG.same v1) (by rw [zc,gB])
   ·exact gH.mpr ⟨nd,#[M],fun a ha b hb e=>by
     obtain rfl:=bD.mp hb;subst e;exact znB oG hyH ha⟩
   ·intro b hb;rcases (bO.mp hb) with hb | hb
    ·exact fr b hb
    ·(rw [bD.mp hb])
     exact (u1.trans s2).free hyH
  rintro ys H2 L ⟨s2,ls,rfl,oG,nd,fr⟩ hL;have xr:ls.length=rows.length+1:=by rw [bF oG,bU]
  have v2:=zb (o:=.lst #[At]) hL;have CB:Lin H (nQ H2 L #[O9]) L ls (aP #[RC] (aP Wd (0:Int))):=⟨(u1.trans s2).trans v2,zc,oG.same v2,nd,znB oG hL,fr⟩;generalize nQ H2 L #[O9]=H3 at CB |-;have hG0:Gd p #[RC] Wd (aP #[RC] (aP Wd (0:Int))) (wt k (gl f) (fun j i=>gl (rows.getD j []) i) 0):=⟨bU,fun r hr=>by
    rw [dG hr];exact⟨bU,fun c hc=>by rw [dG hc]; lia⟩,fun j x hj hx=>by
    rw [zps,bI,dI,if_pos hj];exact Cg.of_eq (zba (by rw [gd,dI,if_pos hx]))⟩
  refine⟨_,rfl,ca,_,rfl,nS.of (CB.s _ _ vj),zbW (n:=rows.length) (fun t σ H'=>∃ (vv:List #[wp]) (e5 e6 e7 e8:Option V),σ = [some #[PC],some (.ref ca),some (.ref qa),some (.int (Wd:Int)),some (.ref L),e5,e6,e7,e8]/\Lin H H' L ls vv/\Gd p #[RC] Wd vv (wt k (gl f) (fun j i=>gl (rows.getD j []) i) t))
   ⟨_,none,none,none,none,rfl,CB,hG0⟩ ?_ ?_ ?_ ?_⟩
  ·rintro i σ H4 hi ⟨vv,e5,e6,e7,e8,rfl,vn,Bp⟩;exact⟨_,.ref (bs[i]'#[O]),nS.of (vn.s _ _ vj),by rw [aD,aG #[O]]; rfl⟩
  ·rintro σ H4 ⟨vv,e5,e6,e7,e8,rfl,vn,Bp⟩;exact⟨_,nS.of (vn.s _ _ vj),by rw [aA]; lia⟩
  ·rintro zD zT j x σ H4 H5 hj ⟨vv,e5,e6,e7,e8,rfl,vn,Bp⟩ ⟨T1,v,ES,rfl,rfl,hv⟩;obtain⟨lb,rfl,EI⟩:=zN (hv _ (nS.of (vn.s _ _ vj)));obtain⟨r,oX,oW⟩:=Paired.get hb EI;obtain⟨r1,r90,rT⟩:=rA r (aL oX);have hrW:=hW r (aL oX);have er:rows.getD j []=r:=by rw [bI,oX]; rfl
   have F5:=vn.same (zb (o:=.tup [.int (j:Int),.ref lb]) ES);refine⟨T1,_,rfl,nS.of zc,rfl,_,_,rfl,_,_,rfl,rfl,?_⟩;generalize nQ H4 T1 (.tup [.int (j:Int),.ref lb])=H5 at F5 |-;apply zlc; intro zM2;have hF:∀ x,gl (rows.getD j []) x=gl r x:=fun x=>by rw [er]
   refine⟨_,rfl,lb,_,rfl,nS.of (F5.s _ _ oW),zbW (n:=r.length) (fun i σ H'=>∃ (vv:List #[wp]) (e7 e8:Option V),σ = [some #[PC],some (.ref ca),some (.ref qa),some (.int (Wd:Int)),some (.ref L),some (.int (j:Int)),some (.ref lb),e7,e8]/\Lin H H' L ls vv/\Gd p #[RC] Wd vv (fun a x=>wt k (gl f) (fun j i=>gl (rows.getD j []) i) j a x+if a=j+1/\x < i then gl r x else 0))
    ⟨vv,_,_,rfl,F5,Bp.eq fun a x _ _=>Cg.of_eq (by rw [if_neg #[O],dg])⟩ ?_ ?_ ?_ ?_⟩
   ·rintro i σ H6 hi ⟨E1,e7,e8,rfl,uX,CC⟩;exact⟨_,.int (r[i]'(hi)),nS.of #[Vu],by rw [aD,aG hi]; rfl⟩
   ·rintro σ H6 ⟨E1,e7,e8,rfl,uX,CC⟩;exact⟨_,nS.of #[Vu],by rw [aA]; exact aH _⟩
   ·rintro E2 Gk i x σ H6 H7 hi ⟨E1,e7,e8,rfl,uX,CC⟩ ⟨T2,v2,vi,rfl,rfl,JB⟩;obtain⟨y,rfl,hy⟩:=zag (JB _ (nS.of #[Vu]));have EK:gl r i=y:=zba hy;have B9:=uX.same (zb (o:=.tup [.int (i:Int),.int y]) vi);refine#[VZ];generalize nQ H6 T2 (.tup [.int (i:Int),.int y])=H7 at B9 |-;obtain⟨b,ql⟩:∃ b,ls[j+1]? = some b:=⟨ls[j+1]'#[O],aG #[O]⟩;obtain⟨row,se,hB⟩:=Paired.get B9.a ql;have E3:E1.getD (j+1) []=row:=by rw [bI,se]; rfl
    have pD:=(CC.gw row (aL se)).1;have E4:i < row.length:=by lia
    have vo:atI #[At] ((j:Int)+1)=some (.ref b):=zab (j:=j+1) (by rw [aD,ql]; rfl);refine (nN rfl (nN rfl (nR rfl rfl (ex4 L _ _ _ ⟨rfl,rfl,nO.of B9.l,vo,#[QJ]⟩))));refine (nN rfl (nN rfl (nR rfl rfl (ex4 L _ _ _ ⟨rfl,rfl,nO.of B9.l,vo,(nN rfl (ex4 b _ _ i ⟨rfl,rfl,hB,zdU (by rw [aA]; exact E4),?_⟩))⟩))));have e1:(row.map V.int).set i (.int ((gl row i+y) % p))=(row.set i ((gl row i+y) % p)).map V.int:=by rw [iu]
    rw [e1];have hc:=CC.gc (j+1) i #[O] #[O];rw [E3,if_neg #[O],dg] at hc;have hs:=CC.set (G':=fun a x=>wt k (gl f) (fun j i=>gl (rows.getD j []) i) j a x+if a=j+1/\x < i+1 then gl r x else 0) (j0:=j+1) (i0:=i) (v:=(gl row i+y) % p) #[O] #[O] (bC _ #[O]) (aR _ #[O]) (by
     rw [if_pos #[O],EK];exact #[OF].trans (hc.add #[Tn])) (fun a x DO=>by
     by_cases h1:a=j+1/\x < i
     ·rw [if_pos h1,if_pos #[O]]
     ·rw [if_neg h1,if_neg #[O]])
    rw [E3] at hs;exact (ex3 _ _ _ ⟨rfl,B9.set ql,hs⟩)
   ·rintro σ H6 ⟨E1,e7,e8,rfl,uX,CC⟩;refine (nN rfl (nN rfl ⟨lb,(nN rfl ⟨.inr (nS.of #[Vu]),fun x1 vd=>?_⟩)⟩));have w1:=zb (o:=.lst #[RL]) vd;refine (nN rfl ⟨qa,(nN rfl ⟨.inr (nS.of ((uX.same w1).s _ _ EF)),fun x2 wj=>?_⟩)⟩);have w2:=zb (o:=.lst #[Qk]) wj;refine (ex5 p x1 x2 r f ⟨rfl,w2 _ _ zc,zc,#[O],#[O],#[O],#[O],p5,qX,rT,fun ra rs H8 qT w3 Ao pD Jh xy=>?_⟩);have Eo:=((uX.same w1).same w2).same w3;have JC:ra∉ls:=znB ((uX.same w1).same w2).a qT;have yl:∀ x,Cg p (gl rs x) (mq 0 k (gl f) (gl (rows.getD j [])) x):=fun x=>by
     have e:=zkT (zf5 r) (zf5 f);rw [xu] at e;rw [er,<- e];exact xy x
    refine⟨ra,_,rfl,nO.of Ao,zbW (n:=rs.length) (fun i σ H'=>∃ (vv:List #[wp]) (e7 e8:Option V),σ = [some #[PC],some (.ref ca),some (.ref qa),some (.int (Wd:Int)),some (.ref L),some (.int (j:Int)),some (.ref lb),e7,e8]/\H' ra=some #[RE]/\Lin H H' L ls vv/\Gd p #[RC] Wd vv (fun a x=>wt k (gl f) (fun j i=>gl (rows.getD j []) i) j a x+(if a=j+1 then gl r x else 0) + -1*if a=j/\x < i then gl rs x else 0))
     ⟨E1,_,_,rfl,Ao,Eo,CC.eq fun a x _ _=>Cg.of_eq (by
      rw [if_neg (show ¬ (a=j/\x < 0) by lia),fq,dg];by_cases h1:a=j+1
      ·rw [if_pos h1];by_cases h2:x < r.length
       ·rw [if_pos ⟨h1,h2⟩]
       ·rw [if_neg (fun z=>h2 z.2),zbz (w:=r) #[O]]
      ·rw [if_neg h1,if_neg (fun z=>h1 z.1)])⟩ ?_ ?_ ?_ ?_⟩
    ·rintro i σ H9 hi ⟨E5,e7,e8,rfl,yQ,E6,CD⟩;exact⟨_,.int (rs[i]'(hi)),nO.of yQ,by rw [aD,aG hi]; rfl⟩
    ·rintro σ H9 ⟨E5,e7,e8,rfl,yQ,E6,CD⟩;exact⟨_,nO.of yQ,by rw [aA]; exact aH _⟩
    ·rintro E2 Gk i x σ H9 Ha hi ⟨E5,e7,e8,rfl,yQ,E6,CD⟩ ⟨T2,v2,vi,rfl,rfl,JB⟩;obtain⟨y,rfl,hy⟩:=zag (JB _ (nO.of yQ));have EK:gl rs i=y:=zba hy;have wT:=zb (o:=.tup [.int (i:Int),.int y]) vi;have Bq:=E6.same wT;have F6:=wT _ _ yQ;refine#[VZ];generalize nQ H9 T2 (.tup [.int (i:Int),.int y])=Ha at wT Bq F6 |-;obtain⟨b,ql⟩:∃ b,ls[j]? = some b:=⟨ls[j]'#[O],aG #[O]⟩;have JD:ra≠b:=fun e=>JC (by rw [e]; exact aL ql)
     obtain⟨row,se,hB⟩:=Paired.get Bq.a ql;have E3:E5.getD j []=row:=by rw [bI,se]; rfl
     have hrwl:=(CD.gw row (aL se)).1;have E4:i < row.length:=by lia
     have vo:atI #[At] (j:Int)=some (.ref b):=zab (j:=j) (by rw [aD,ql]; rfl);refine (nN rfl (nN rfl (ex4 L _ _ _ ⟨rfl,rfl,nO.of Bq.l,vo,#[QJ]⟩)));refine (nN rfl (nN rfl (ex4 L _ _ _ ⟨rfl,rfl,nO.of Bq.l,vo,(nN rfl (ex4 b _ _ i ⟨rfl,rfl,hB,zdU (by rw [aA]; exact E4),?_⟩))⟩)));have e1:(row.map V.int).set i (.int ((gl row i - y) % p))=(row.set i ((gl row i - y) % p)).map V.int:=by rw [iu]
     rw [e1];have hc:=CD.gc j i #[O] #[O];rw [E3,if_neg (show ¬ (j=j/\i < i) by lia),fq,dg] at hc;have hs:=CD.set (G':=fun a x=>wt k (gl f) (fun j i=>gl (rows.getD j []) i) j a x+(if a=j+1 then gl r x else 0) + -1*if a=j/\x < i+1 then gl rs x else 0) (j0:=j) (i0:=i) (v:=(gl row i - y) % p) #[O] #[O] (bC _ #[O]) (aR _ #[O]) (by
      rw [if_pos (show j=j/\i < i+1 by lia),EK];exact #[OF].trans ((hc.sub #[Tn]).trans #[OG])) (fun a x DO=>by
      by_cases h1:a=j/\x < i
      ·rw [if_pos h1,if_pos (show a=j/\x < i+1 by lia)]
      ·rw [if_neg h1,if_neg (show ¬ (a=j/\x < i+1) by lia)])
     rw [E3] at hs;exact (ex3 _ _ _ ⟨rfl,by rw [zp JD]; exact F6,Bq.set ql,hs⟩)
    ·rintro σ H9 ⟨E5,e7,e8,rfl,yQ,E6,CD⟩;refine (ex5 E5 _ _ _ _ ⟨rfl,E6,CD.eq fun a x _ _=>?_⟩);rw [zpt,hF];refine (#[On]).add ((Cg.refl p (-1)).mul ?_);by_cases h1:a=j
     ·rw [if_pos h1];by_cases h2:x < rs.length
      ·rw [if_pos ⟨h1,h2⟩];exact yl x
      ·rw [if_neg (fun z=>h2 z.2)];have:=yl x;rw [zbz (w:=rs) #[O]] at this;exact this
     ·rw [if_neg h1,if_neg (fun z=>h1 z.1)];exact Cg.refl _ _
  ·rintro σ H4 ⟨vv,e5,e6,e7,e8,rfl,vn,Bp⟩;have qH:=Bp.gn;have hlsv:=bF vn.a;refine (nN rfl ⟨L,rfl,⟨_,nO.of vn.l⟩,zaI (n:=rows.length+1) (fun m ys H'=>zr H4 H'/\∃ us:List Addr,ys=us.map V.ref/\zaZ H' us (vv.take m)) ⟨fun _ _ e=>e,[],rfl,.nil⟩ ?_ ?_ ?_ ?_⟩)
   ·rintro m ys H7 hm ⟨s7,_⟩;exact⟨_,.ref (ls[m]'#[O]),nO.of (s7 _ _ vn.l),by rw [aD,aG #[O]]; rfl⟩
   ·rintro ys H7 ⟨s7,_⟩;exact⟨_,nO.of (s7 _ _ vn.l),by rw [aA]; lia⟩
   ·rintro m z ys H7 H8 hm ⟨s7,us,rfl,n4⟩ ⟨rfl,hx⟩;obtain⟨b,rfl,qB⟩:=zN (hx _ (nO.of (s7 _ _ vn.l)));obtain⟨r,hr,qL⟩:=Paired.get vn.a qB;have hz:us.length=m:=by rw [bF n4,aU]; lia
    refine gY ?_;refine (nN rfl ⟨b,(nN rfl (.inl ⟨nO.of (s7 _ _ qL),fun D hD=>⟨by rw [aA]; lia,s7.trans (zb hD),us++[D],#[M],?_⟩⟩))⟩);rw [take_snoc hr];exact cL #[O6] zc
   ·rintro ys H7 D ⟨s7,us,rfl,n4⟩ hD;rw [aY #[O]] at n4;refine⟨D,#[Qc]⟩;have sf:=(vn.s.trans s7).trans #[Ts];refine q l us vv W _ (sf.free hl) (sf.trans (zb hl)) zc (#[O6].same (zb hl)) qH hW Gj (by rw [hWd]; exact Bp.gw) fun j x=>?_
    have JE:∀ t,rows.length<=t->(fun j i=>gl (rows.getD j []) i) t=fun _=>0:=fun t ht=>by
     funext i;show gl (rows.getD t []) i=0;rw [zga ht];rfl
    by_cases hj:j < rows.length+1
    ·by_cases hx:x < Wd
     ·exact (Bp.gc j x hj hx).trans (Cg.of_eq (zq3 JE j x hj))
     ·rw [zbz (by rw [(Bp.gw _ (getD_mem #[O])).1]; lia)];refine Cg.of_eq (zq4 k1 (W:=W) (fun t=>?_) #[O]).symm;by_cases ht:t < rows.length
      ·exact (zf5 _).le (hW _ (getD_mem ht))
      ·intro i _;rw [zga #[O]];rfl
    ·rw [zga #[O]];refine Cg.of_eq ?_;obtain⟨j',rfl⟩:∃ j',j=j'+1:=⟨j - 1,#[O]⟩;show 0=(fun j i=>gl (rows.getD j []) i) j' x + -1*mq 0 k (gl f) ((fun j i=>gl (rows.getD j []) i) (j'+1)) x;rw [JE j' #[O],JE (j'+1) #[O],(zcr 0 k (gl f)).z];rfl
noncomputable def Rws (p:Int) (rows:List #[wp]):Prop:=1<=rows.length/\rows.length<=100/\∀ r∈rows,zem p 100 r
structure Grw (p:Int) (rows:List #[wp]):Prop where
 l1:1<=rows.length
 l8:rows.length<=8
 w:∀ r∈rows,1<=r.length/\r.length<=13+4*rows.length/\∀ c∈r,0<=c/\c < p
theorem zoc {p:Int} {s:Nat} (hk:2<=k) {g:Tm->Int} (hg:∀ t,0<=g t/\g t < p) (hs:s<=99):Rws p #[VM]:=by
 have hq:s / (k - 1)<=s:=km _ _;refine⟨by rw [zec]; exact nc 1 _,by rw [zec]; lia,fun r hr=>?_⟩;obtain⟨a1,a2,a3⟩:=zpp (k:=k) (s:=s) hg r hr;exact⟨a1,#[O],a3⟩
theorem zod {xs:List V} (h:xs.length<=60):za7 xs none (some 60)=xs:=by
 unfold za7;rw [show (60:Int)=((60:Nat):Int) from rfl,HT.KG,HT.KE,j7 h];simp
noncomputable def zjW (K:aF):Sp:=fun vs H Q _=>∃ (pa c tt r nr:Addr) (ds:List Int) (p:Int) (k:Nat) (pl:List Int) (rw:List #[Op]) (na:List Addr) (nq:List #[wp]),vs = [.ref pa,.ref c,.ref r,.ref nr]/\H pa=some #[Sy]/\ze4 16 27720 ds/\zbP H c tt p k pl/\H r=some #[Pa]/\rw.length=pl.length/\pl.length<=16/\p∈zG/\pl.Nodup/\(∀ x∈pl,0<=x/\x < p)/\(∀ z,some z∈rw->0<=z/\z < p)/\2<=k/\k<=5/\H nr=some (.lst (na.map V.ref))/\zaZ H na nq/\(∀ q∈nq,IsP p k q)/\nq.length<=3 /\
 ∀ (z r':Addr) (ls:List Addr) (m:Int) (rows:List #[wp]) (H':Hp),zr H H'->H' z=some (.tup [.int m,.ref r'])->H' r'=some #[Ti]->zaZ H' ls rows->1<=m->m<=3->Rws p rows->Q #[QW] H'
theorem zal:Kf ["plan","code","row","near","p","k","places","m","curve","number","entry","ones","j","step"] ["plan","code","row","near"] (zi zb3):=#[S]
theorem zjX (T:Txt K mg t) (F:Fun K "_law_paper" "_law_paper" zb3 t.Ml fd):Kn P w K mg base CX0 8 t.Ml fd ["plan","code","row","near"] (zjW K):=by
 obtain⟨AG,qN,uE⟩:=T.Li;have uF:=zhK (P:=P) (w:=w) (base:=base) T qN;obtain⟨rD,ou,oJ⟩:=T.K1;have oK:=zdP (P:=P) (w:=w) (base:=base) T ou;obtain⟨yq,pY,sE⟩:=T.KP;have sF:=zgc (P:=P) (w:=w) (base:=base) T pY;refine F.ok zal #[sn] #[mt]
 ·obtain⟨pa,c,tt,r,nr,ds,p,k,pl,rw,na,nq,rfl,_⟩:=h;rfl
 ·obtain⟨pa,c,tt,r,nr,ds,p,k,pl,rw,na,nq,rfl,xA,uN,hc,qT,pD,hn,hp,pU,oT,rA,k2,k5,hna,hnq,hnP,Im,q⟩:=h;apply zaJ; intro zX;refine⟨_,#[ze,#[zaO,#[Id],#[zaw,#[zj,#[zg,4,zal.nd,#[PU]],#[zj,#[zg,5,zal.nd,#[A]],#[zj,#[zg,6,zal.nd,#[A]],#[zA]]]]]],#[ze,#[zm,7,zal.nd,#[A],#[zh,#[zB],#[zf],#[OO]]],#[ze,#[zbj,(@PW.pt _ _ _ #[zgX,#[SG],#[ze0,#[zJ,#[zh0],#[zh,#[zQ],#[zh,#[zQ],#[zn,#[zo],T.KD,cq,#[Qa]],#[Rl]],#[zh,#[zB],#[Rl],#[zf]]],#[zf],(zV _)]]]),#[zl,#[zC,#[zap,#[za,#[Rl],#[ya,#[zw,#[za6],#[zq,uF,#[sK],T.MS,qN.kp,uE,#[zK],#[za,#[Id],#[za,#[GT],#[ya,#[Rl]]]]],#[zf]]]]]]],#[zan]],#[ze,#[zm,8,zal.nd,#[A],#[zap,#[ya,#[zap,#[za,#[zf],#[ya,#[zh,#[zy],#[zw,#[zu],#[AT],#[zf]],#[OD]]]]]]]],#[ze,(zni #[zbj,#[SG],#[ze,#[zm,8,zal.nd,#[A],#[zap,#[ya,#[zap,#[ya,#[zf]]]]]],#[zl,#[zah,bN,#[zcy,T.Kh,#[OX]],#[zaw,#[zj,#[zg,9,zal.nd,#[A]],#[zj,#[zg,10,zal.nd,#[A]],#[zA]]]],#[zl,#[zbj,(@PW.pt _ _ _ #[zgX,#[zJ,#[zgZ],#[U2],#[zen],(zV _)],#[ze0,#[SG]]]),#[zl,#[zm,8,zal.nd,#[A],#[zap,#[ya,#[zW,#[zai],T.KC,eR,#[ya,#[zq,oK,#[sK],T.Ll,ou.kp,oJ,#[zK],#[za,#[OD],#[za,#[zW,#[za2],T.MK,ir,#[ya,#[UJ]]],#[ya,#[z9,#[za,#[zh,#[zam],#[zf],#[zw,#[za6],#[R8],#[SI]]],#[ya,#[zf]]]]]]]]]]]]]],#[zan]]]]]],#[zan]]),#[ze,#[zm,11,zal.nd,#[A],#[zh,#[zcJ],#[NE],#[z9,#[ya,#[zW,#[zai],T.KC,eR,#[ya,#[zI,(Kg.of (N':=["draw","p"]) (ix:=[none,some 4]) (zi zb3) _ rfl rfl rfl),#[zZ],#[zad,#[zay,zby,#[AT],#[zaA,#[zf]],#[zaA,#[zh,#[zB],#[zf],#[Pf]]]]],#[pc],#[re],#[Px]]]]]]]],#[ze,#[zah,bN,#[zU,T.Ki,#[ya,#[zh,#[zB],#[zf],#[OO]]]],#[zg,12,zal.nd,#[A]],#[zl,#[zah,bN,#[zU,T.Ki,#[ya,#[zct,#[zJ,#[zgv],#[zh,#[zB],#[zn,#[zo],T.KD,cq,#[Vs]],#[Rl]],#[zf],(zV _)],#[Rl],#[zf]]]],#[zg,13,zal.nd,#[A]],#[zl,#[zm,8,zal.nd,#[A],#[zq,sF,#[sK],T.Mg,pY.kp,sE,#[zK],#[za,#[OD],#[za,#[RH],#[ya,#[zw,#[zu],#[pvx,11],#[zh,#[zy],#[zh,#[zB],#[zw,#[zu],#[AT],#[zf]],#[pvx,12]],#[zn,#[zo],T.KD,cq,#[ya,#[pvx,11]]]]]]]]]]]]]],#[zl,#[zC,#[zap,#[za,#[Rl],#[ya,#[zW,#[zai],T.KC,eR,#[ya,#[zI,(Kg.of (N':=["line","p"]) (ix:=[none,some 4]) (zi zb3) _ rfl rfl rfl),#[zZ],#[zcm,#[RH]],#[pc],#[re],(fun _ _ _ _=>#[zW,#[TX],T.KC,eR,#[ya,#[zI,(Kg.of (N':=["number","p"]) (ix:=[none,some 1]) ({ kind:=.function,names:=[(".0",.local),("line",.local),("tuple",.globalImplicit),("p",.cell)],isGenerator:=false,isCoroutine:=false }) _ (by with_unfolding_all rfl) rfl rfl),#[zZ],#[zkH,(K),#[zay,(znj (K:=K) rfl),#[AT],#[zbg],#[zaA,#[zf]]]],#[pc],#[re],#[Px]]]])]]]]]]]]]]]]]]],?_⟩;apply zqj; intro Ir Ed B3 xq rS pQ pG;have pd:=bJ;have rp:=zO hp;have F4:=zbX pl rw;obtain⟨d0,FN,d00,_⟩:=zeK uN (i:=0) #[D] #[D];obtain⟨d1,Ii,_,_⟩:=zeK uN (i:=1) #[D] #[D];refine⟨_,rfl,c,_,rfl,nS.of hc.1,rfl,_,_,rfl,_,_,rfl,_,_,rfl,rfl,?_⟩;refine (nN rfl (ex4 pa _ _ _ ⟨rfl,rfl,nO.of xA,FN,#[Qq]⟩));obtain⟨m,em,m1,m3⟩:∃ m:Nat,1+d0 % 3=(m:Int)/\1<=m/\m<=3:=⟨(1+d0 % 3).toNat,#[O],#[O],#[O]⟩;show zaT 7 (V.int (1+d0 % 3)) _ _ _;rw [em];obtain⟨d2,Ij,_,_⟩:=zeK uN (i:=2) #[D] #[D];obtain⟨d3,Ik,_,_⟩:=zeK uN (i:=3) #[D] #[D];obtain⟨d4,ed4,_,_⟩:=zeK uN (i:=4) #[D] #[D];have cont:(({ nx:=fun _ H'=>Q V.non H',rt:=Q }:Ends).n rS).nx [some #[Rr],some #[Sd],some #[Tf],some #[R5],some #[PC],some (.int (k:Int)),some #[Rq],some (.int (m:Int)),none,none,none,none,none,none] H:=by
   refine (nN rfl (ex4 pa _ _ _ ⟨rfl,rfl,nO.of xA,Ij,(nN rfl (nR rfl rfl ⟨#[O],by show 2<=sizeLine; lia,fun x1 vd=>⟨by show 1<=sizeLine; lia,fun x2 wj=>?_⟩⟩))⟩));have u1:=zb (o:=.tup [.int 1,.int (d2 % p)]) vd;have u2:=zb (o:=.tup [.ref x1]) wj;have s2:=u1.trans u2;have g1:=u2 _ _ (show nQ H x1 (.tup [.int 1,.int (d2 % p)]) x1=_ from zc);have g2:nQ (nQ H x1 (.tup [.int 1,.int (d2 % p)])) x2 (.tup [.ref x1]) x2=some (.tup ([x1].map V.ref)):=zc;generalize nQ (nQ H x1 (.tup [.int 1,.int (d2 % p)])) x2 (.tup [.ref x1])=H2 at s2 g1 g2 |-;have r0:=bC d2 (show p≠0 by lia);have r1:=aR d2 (show 0 < p by lia);have G0:Grw p [[1,d2 % p]]:=⟨#[M],#[M],fun r hr=>by
    rw [bD.mp hr];refine⟨#[M],#[M],fun c hc=>?_⟩;rcases (aV.mp hc) with rfl | hc
    ·lia
    ·rw [bD.mp hc]; lia⟩
   refine⟨fun σ H'=>∃ (cw:Addr) (bs:List Addr) (rws:List #[wp]) (e9 qi:Option V),σ = [some #[Rr],some #[Sd],some #[Tf],some #[R5],some #[PC],some (.int (k:Int)),some #[Rq],some (.int (m:Int)),some (.ref cw),e9,qi,none,none,none]/\zr H H'/\H' cw=some #[Qf]/\zaZ H' bs rws/\Grw p rws,?_,?_⟩
   ·refine (nN rfl (ex4 pa _ _ _ ⟨rfl,rfl,nO.of (s2 _ _ xA),Ik,(nR rfl rfl ⟨#[O],rfl,(nN rfl (zaR #[BT] (fun _=>(ex5 x2 ([x1]) ([[1,d2 % p]]) none none ⟨rfl,s2,g2,.cons g1 .nil,G0⟩))))⟩)⟩));refine⟨by show 1<=sizeLine; lia,fun x3 DZ=>⟨by show 1<=sizeLine; lia,fun x4 hx4=>?_⟩⟩;have u3:=zb (o:=.tup [.int 1]) DZ;have u4:=zb (o:=.tup [.ref x3]) hx4;have s4:=s2.trans (u3.trans u4);have g3:=u4 _ _ (show nQ H2 x3 (.tup [.int 1]) x3=some (.tup ([(1:Int)].map V.int)) from zc);have g4:nQ (nQ H2 x3 (.tup [.int 1])) x4 (.tup [.ref x3]) x4=some (.tup ([x3].map V.ref)):=zc;generalize nQ (nQ H2 x3 (.tup [.int 1])) x4 (.tup [.ref x3])=H4 at s4 g3 g4 |-;refine⟨_,rfl,r,_,rfl,nO.of (s4 _ _ qT),zbW (n:=pl.length) (fun i σ H'=>∃ (cw x:Addr) (l:List Int) (e9 qi:Option V),σ = [some #[Rr],some #[Sd],some #[Tf],some #[R5],some #[PC],some (.int (k:Int)),some #[Rq],some (.int (m:Int)),some (.ref cw),e9,qi,none,none,none]/\zr H H'/\H' cw=some (.tup [.ref x])/\H' x=some (.tup (l.map V.int))/\1<=l.length/\l.length<=1+i/\∀ c∈l,0<=c/\c < p)
     ⟨x4,x3,[1],none,none,rfl,s4,g4,g3,#[D],#[D],fun c hc=>by rw [bD.mp hc]; lia⟩ ?_ ?_ ?_ ?_⟩
    ·rintro i σ H5 hi ⟨cw,x,l,e9,qi,rfl,s5,_⟩;exact⟨_,qW (rw[i]'#[O]),nO.of (s5 _ _ qT),by rw [aD,aG #[O]]; rfl⟩
    ·rintro σ H5 ⟨cw,x,l,e9,qi,rfl,s5,_⟩;exact⟨_,nO.of (s5 _ _ qT),by rw [aA]; lia⟩
    ·rintro zD zT i z σ H5 H6 hi ⟨cw,x,l,e9,qi,rfl,s5,Ci,JF,l1,l2,lr⟩ ⟨T,v,hT,rfl,rfl,hv⟩;have hv:=hv _ (nO.of (s5 _ _ qT));have t6:=zb (o:=.tup [.int (i:Int),v]) hT;refine#[Db];have s6:=s5.trans t6;have JG:=t6 _ _ Ci;have JH:=t6 _ _ JF;generalize nQ H5 T (.tup [.int (i:Int),v])=H6 at t6 s6 JG JH |-;have skip:(zD i).nx [some #[Rr],some #[Sd],some #[Tf],some #[R5],some #[PC],some (.int (k:Int)),some #[Rq],some (.int (m:Int)),some (.ref cw),some (.int (i:Int)),some v,none,none,none] H6:=⟨cw,x,l,_,_,rfl,s6,JG,JH,l1,#[O],lr⟩;refine (nN rfl ⟨rfl,#[V7]⟩);refine (nN rfl (ex4 pa _ _ _ ⟨rfl,rfl,nO.of (s6 _ _ xA),ed4,(nR rfl rfl ⟨#[O],rfl,#[V7]⟩)⟩));have hpi:#[QE][i]? = some (.int (pl[i]'(hi))):=by rw [aD,aG hi]; rfl
     refine (nN rfl (nN rfl (ex4 cw _ _ (.ref x) ⟨rfl,rfl,nS.of JG,rfl,x,(nN rfl ⟨.inr (nS.of JH),fun la Bq=>?_⟩)⟩)));have t7:=zb (o:=.lst (l.map V.int)) Bq;have s7:=s6.trans t7;refine (nN rfl (nN rfl (ex4 tt _ _ _ ⟨rfl,rfl,nS.of (s7 _ _ hc.2),zab hpi,(nR rfl rfl ⟨by show 2<=sizeLine; lia,fun lb EI=>?_⟩)⟩)));have t8:=zb (o:=.lst [.int (0 - pl[i]'(hi)),.int 1]) EI;have s8:=s7.trans t8;refine (ex5 p la lb l ([0 - pl[i]'(hi),1]) ⟨rfl,t8 _ _ zc,zc,l1,#[O],#[M],#[M],#[O],#[O],lr,fun lc rs H9 hlc s9 h9 JI rT _=>?_⟩);refine⟨lc,(nN rfl (.inl ⟨nO.of h9,fun tx JJ=>⟨by show 1<=sizeLine; lia,fun tc htc=>?_⟩⟩))⟩;have t9:=zb (o:=.tup (rs.map V.int)) JJ;have t10:=zb (o:=.tup [.ref tx]) htc;have qg:rs.length=l.length+1:=by rw [JI]; simp
     exact (ex5 tc tx rs _ _ ⟨rfl,s8.trans (s9.trans (t9.trans t10)),zc,t10 _ _ zc,#[O],#[O],rT⟩)
    ·rintro σ H5 ⟨cw,x,l,e9,qi,rfl,s5,Ci,JF,l1,l2,lr⟩;exact (ex5 cw ([x]) ([l]) e9 qi ⟨rfl,s5,Ci,.cons JF .nil,#[M],#[M],fun r hr=>by rw [bD.mp hr]; exact⟨l1,by show l.length<=17; lia,lr⟩⟩)
   rintro σ H5 ⟨cw,bs,rws,e9,qi,rfl,s5,Ci,h5b,G⟩;have h5p:=s5 _ _ xA;refine (nN rfl (nN rfl ⟨5,rfl,(nN rfl (nR rfl rfl (nN rfl ⟨pa,(nN rfl ⟨nO.of h5p,fun z hz=>?_⟩)⟩)))⟩));have B4:ds.length=16:=uN.1;rw [show (5:Int)+(k:Int)=((5+k:Nat):Int) by lia,show (5:Int)=((5:Nat):Int) from rfl,zhu (by rw [aA]; lia),show 5+k - 5=k by lia,<- gi,<- d9];have E7:((ds.drop 5).take k).length=k:=by rw [aU,cP]; lia
   generalize (ds.drop 5).take k=os at E7 |-;have w1:=zb (o:=.lst (os.map V.int)) hz;refine⟨z,rfl,⟨_,nO.of zc⟩,zbh (fs:=(os.map fun c=>c % p).map V.int) (nO.of zc) #[M] (by rw [aA]; lia) #[FS] #[Rm]⟩
   ·obtain⟨c,rfl,hc⟩:=zag hx;rw [aD,aD,hc] at hy;have hy:V.int (c % p)=y:=by simpa using hy
    subst hy;exact (nN rfl #[Py])
   have Gm:IsP p k (os.map fun c=>c % p):=⟨by rw [aA]; exact E7,fun c hc=>by
    obtain⟨c',_,rfl⟩:=bE.mp hc;exact#[Pi]⟩
   generalize (os.map fun c=>c % p)=f at Gm hD |-;refine⟨D,(nN rfl (.inl ⟨nO.of zc,fun fa yj=>⟨by show 1<=sizeLine; lia,fun fl xu=>?_⟩⟩))⟩;have w2:=w1.trans (zb (o:=.lst #[Qk]) hD);have w3:=zb (o:=.tup #[Qk]) yj;have w4:=zb (o:=.lst [.ref fa]) xu;have s6:=s5.trans (w2.trans (w3.trans w4));have t6:=w2.trans (w3.trans w4);refine (ex4 nr fl _ _ ⟨rfl,rfl,s6 _ _ hna,zc,?_,fun on FP=>?_⟩)
   ·have:=hnq.length;rw [aA];show na.length+1<=sizeLine;lia
   have w5:=zb (o:=.lst (na.map V.ref++[.ref fa])) FP;have g5:nQ (nQ #[KF] fl (.lst [.ref fa])) on (.lst (na.map V.ref++[.ref fa])) on=some (.lst ((na++[fa]).map V.ref)):=by rw [zc,aN]; rfl
   have E8:zaZ (nQ (nQ #[KF] fl (.lst [.ref fa])) on (.lst (na.map V.ref++[.ref fa]))) (na++[fa]) (nq++[f]):=cL ((hnq.same s6).same w5) (w5 _ _ (w4 _ _ zc));have s7:=s6.trans w5;have t7:=t6.trans w5;generalize nQ (nQ #[KF] fl (.lst [.ref fa])) on (.lst (na.map V.ref++[.ref fa]))=H7 at g5 E8 s7 t7 |-;have E9:∀ q∈nq++[f],IsP p k q:=fun q hq=>by
    rcases (bO.mp hq) with hq | hq
    ·exact hnP q hq
    ·rw [bD.mp hq]; exact Gm
   have Fb:(na++[fa]).length=(nq++[f]).length:=E8.length;have JK:0 < (nq++[f]).length:=by rw [aO]; exact Nat.succ_pos _
   have JL:(nq++[f]).length<=4:=by simpa using Im
   generalize na++[fa]=oa at g5 E8 Fb;generalize nq++[f]=oq at E8 E9 Fb JK JL;have Ca:=t7 _ _ Ci;have h7b:=h5b.same t7;have h7p:=s7 _ _ xA;obtain⟨d11,JM,d110,d111⟩:=zeK uN (i:=11) #[D] #[D];obtain⟨JN,JO,d120,d121⟩:=zeK uN (i:=12) #[D] #[D];obtain⟨n1,en1,n1a⟩:∃ n:Nat,1+d11 % 3=(n:Int)/\n<=3:=⟨(1+d11 % 3).toNat,#[O],#[O]⟩;refine (nN rfl (ex4 pa _ _ _ ⟨rfl,rfl,nO.of h7p,JM,#[Qq]⟩));refine⟨(n1:Int),by rw [<- en1],#[O],#[O],?_⟩;rw [cG];refine zaq (lo:=0) (n:=n1) (fun j σ H'=>∃ (cw:Addr) (bs:List Addr) (rws:List #[wp]) (rV rW:Option V),σ = [some #[Rr],some #[Sd],some #[Tf],some #[R5],some #[PC],some (.int (k:Int)),some #[Rq],some (.int (m:Int)),some (.ref cw),e9,qi,some (.ref on),rV,rW]/\zr H7 H'/\H' cw=some #[Qf]/\zaZ H' bs rws/\Grw p rws) (ex5 cw bs rws none none ⟨rfl,fun _ _ e=>e,Ca,h7b,G⟩) ?_ ?_
   ·rintro zD zT j σ H8 hj ⟨cw,bs,rws,rV,rW,rfl,s8,Br,Dl,G⟩;have uk:=Dl.length;have l1:=G.l1;have l8:=G.l8;refine (nN rfl ⟨cw,(nN rfl ⟨.inr (nS.of Br),(nN rfl (nR rfl rfl (nR rfl rfl (nN rfl (zaR #[UP] #[BT])))))⟩)⟩)
    ·have h:((#[AC].length:Nat):Int)+(m:Int) < 9:=of_decide_eq_true h;rw [aA,uk] at h;refine (nN rfl ⟨(m:Int),rfl,#[O],#[O],?_⟩);rw [cG];refine zaq (lo:=0) (n:=m) (fun i σ H'=>∃ (cw:Addr) (bs:List Addr) (qY:List #[wp]) (rW:Option V),σ = [some #[Rr],some #[Sd],some #[Tf],some #[R5],some #[PC],some (.int (k:Int)),some #[Rq],some (.int (m:Int)),some (.ref cw),e9,qi,some (.ref on),some (.int (0+(j:Int))),rW]/\zr H7 H'/\H' cw=some #[Qf]/\zaZ H' bs qY/\Grw p qY/\qY.length=rws.length+i) (ex4 cw bs rws rW ⟨rfl,s8,Br,Dl,G,rfl⟩) ?_ ?_
     ·rintro E2 Gk i σ H9 hi ⟨cw,bs,qY,rW,rfl,s9,Bi,JP,G',yV⟩;have g9:=s9 _ _ g5;have h9q:=E8.same s9;have qV:=bC (JN+(0+(j:Int))) (show ((oa.length:Nat):Int)≠0 by lia);have vd:=aR (JN+(0+(j:Int))) (show 0 < ((oa.length:Nat):Int) by lia);obtain⟨x,hx⟩:∃ x:Nat,(JN+(0+(j:Int))) % ((oa.length:Nat):Int)=(x:Int):=⟨_,(jm qV).symm⟩;have Be:x < oa.length:=by lia
      obtain⟨f,hf,yj⟩:=Paired.get h9q (aG Be);have Gm:=E9 f (aL hf);have l1':=G'.l1;have l8':=G'.l8;refine (nN rfl (nN rfl (nN rfl (nN rfl (ex4 pa _ _ _ ⟨rfl,rfl,nO.of (s9 _ _ h7p),JO,(nN rfl (nR rfl rfl (nN rfl ⟨on,(nN rfl ⟨.inl (nO.of g9),(nR rfl rfl ⟨by rw [aA]; lia,on,_,_,.ref (oa[x]'(Be)),rfl,rfl,nO.of g9,?_,p,k,cw,oa[x]'(Be),bs,qY,f,rfl,Bi,JP,l1',#[O],fun r hr=>⟨(G'.w r hr).1,by have:=(G'.w r hr).2.1; lia,(G'.w r hr).2.2⟩,yj,Gm,#[O],#[O],#[O],#[O],fun l us JQ W wF hl Gn AH n4 qg hW Gj hw' _=>?_⟩)⟩)⟩)))⟩)))))
      ·rw [aA,hx];exact zab (by rw [aD,aG Be]; rfl)
      obtain⟨r0,HA,er0⟩:=Gj;have b0:=(G'.w r0 HA);refine (ex4 l us JQ _ ⟨rfl,s9.trans Gn,AH,n4,⟨#[O],#[O],fun r hr=>?_⟩,#[O]⟩);obtain⟨a1,a2⟩:=hw' r hr;exact⟨#[O],by rw [qg]; lia,a2⟩
     ·rintro σ H9 ⟨cw,bs,qY,rW,rfl,s9,Bi,JP,G',yV⟩;exact (ex5 cw bs qY _ _ ⟨rfl,s9,Bi,JP,G'⟩)
    ·refine⟨0,rfl,#[D],#[D],zgu (lo:=0) (n:=0) (fun i σ H'=>∃ (rW:Option V),σ = [some #[Rr],some #[Sd],some #[Tf],some #[R5],some #[PC],some (.int (k:Int)),some #[Rq],some (.int (m:Int)),some (.ref cw),e9,qi,some (.ref on),some (.int (0+(j:Int))),rW]/\H'=H8) ⟨rW,rfl,rfl⟩ (fun i σ H9 hi _=>absurd hi #[O]) ?_⟩;rintro σ H9 ⟨rW,rfl,rfl⟩;exact (ex5 cw bs rws _ _ ⟨rfl,s8,Br,Dl,G⟩)
   ·rintro σ H8 ⟨cw,bs,rws,rV,rW,rfl,s8,Br,Dl,G⟩;have uk:=Dl.length;have l1:=G.l1;have l8:=G.l8;refine (nN rfl (nN rfl ⟨cw,rfl,⟨_,nS.of Br⟩,zao (n:=rws.length) (fun i ys H'=>zr H8 H'/\∃ (us:List Addr) (qY:List #[wp]),ys=us.map V.ref/\zaZ H' us qY/\qY.length=i/\∀ r∈qY,zem p 100 r) ⟨fun _ _ e=>e,[],[],rfl,.nil,rfl,fun r hr=>by cases hr⟩ ?_ ?_ ?_ ?_⟩))
    ·rintro i ys H9 hi ⟨s9,_⟩;exact⟨_,.ref (bs[i]'#[O]),nS.of (s9 _ _ Br),by rw [aD,aG #[O]]; rfl⟩
    ·rintro ys H9 ⟨s9,_⟩;exact⟨_,nS.of (s9 _ _ Br),by rw [aA]; lia⟩
    ·rintro zS zT zE i z ys H9 wF hi ⟨s9,us,qY,rfl,n4,yV,Ck⟩ ⟨rfl,hx⟩;obtain⟨b,rfl,qB⟩:=zN (hx _ (nS.of (s9 _ _ Br)));obtain⟨r,hr,qL⟩:=Paired.get (Dl.same s9) qB;have JR:=G.w r (aL hr);have uo:=n4.length;refine gY ?_;refine (nN rfl (nN rfl ⟨b,(nN rfl ⟨nS.of qL,fun p' H11 Gp JS=>?_⟩)⟩));have e60:za7 #[RL] none (some 60)=r.map V.int:=by
      have e:=zod (xs:=r.map V.int) (by rw [aA]; lia);exact e
     rw [e60] at JS;refine⟨p',rfl,⟨_,JS⟩,zb0 (K:=K) (xs:=r.map V.int) (fs:=(r.map fun c=>c % p).map V.int) JS #[M] (by rw [aA]; lia) #[FS] #[Rm]⟩
     ·obtain⟨c,rfl,hc⟩:=zag hx;rw [aD,aD,hc] at hy;have hy:V.int (c % p)=y:=by simpa using hy
      subst hy;exact (nN rfl #[Py])
     refine⟨D,(nN rfl (.inl ⟨nO.of zc,fun tx JJ=>?_⟩))⟩;have v:=Gp.trans ((zb (o:=.lst ((r.map fun c=>c % p).map V.int)) hD).trans (zb (o:=.tup ((r.map fun c=>c % p).map V.int)) JJ));refine⟨by rw [aA]; lia,s9.trans v,us++[tx],qY++[r.map fun c=>c % p],by rw [aN]; rfl,cL (n4.same v) zc,by rw [aO,yV]; rfl,fun r2 vO=>?_⟩;rcases bO.mp vO with vO | vO
     ·exact Ck r2 vO
     ·rw [bD.mp vO];refine⟨by rw [aA]; exact JR.1,by rw [aA]; lia,fun c hc=>?_⟩;obtain⟨c',_,rfl⟩:=bE.mp hc;exact#[Pi]
    rintro ys H9 D ⟨s9,us,qY,rfl,n4,yV,Ck⟩ hD;refine⟨D,(nN rfl (.inl ⟨nO.of zc,fun ce BK=>⟨by show 2<=sizeLine; lia,fun z hz=>?_⟩⟩))⟩;have w1:=zb (o:=.lst #[KK]) hD;have w2:=zb (o:=.tup #[KK]) BK;have w3:=zb (o:=.tup [.int (m:Int),.ref ce]) hz;have w:=w1.trans (w2.trans w3);exact q z ce us m qY _ (s7.trans (s8.trans (s9.trans w))) zc (w3 _ _ zc) (n4.same w) #[O] #[O] ⟨#[O],#[O],Ck⟩
  refine (nN rfl (ex4 pa _ _ _ ⟨rfl,rfl,nO.of xA,Ii,(nR rfl rfl ⟨#[O],rfl,#[V8]⟩)⟩));refine (nN rfl ⟨tt,(nN rfl ⟨.inr (nS.of hc.2),(nN rfl (nR rfl rfl ⟨.inr #[v6],(nN rfl (nR rfl rfl (nR rfl rfl ⟨.inr #[v6],(nR rfl rfl #[V8])⟩)))⟩))⟩)⟩);have Dd:tri m<=6:=by
   have:m=1\/m=2\/m=3:=by lia
   rcases this with rfl | rfl | rfl <;> decide
  have hA:=gP (show #[IO].length<=16 by lia) Dd;refine (nN rfl (nN rfl (nN rfl (nN rfl (ex8 c tt r p k m pl rw ⟨rfl,hc,qT,pD,hn,hp,pU,oT,rA,k2,#[O],m1,#[O],#[O],fun z r' ls size g H' hz s' h1 h2 ht hG hs=>(ex4 z _ _ _ ⟨rfl,rfl,nS.of h1,rfl,by show 2<=sizeLine; lia,fun z' CU=>?_⟩)⟩)))));have w:=zb (o:=.tup [.int (m:Int),.ref r']) CU;exact q z' r' ls m _ _ (s'.trans w) zc (w _ _ h2) (ht.same w) #[O] #[O] (zoc k2 hG.rg #[O])
end
end My
end
section
namespace L2
open PySem PySem.Spec PyProof.Rows
variable {A:Around} {K:aF} {X:Cx} {prog:Program} {s:Shared} {w:World}
theorem zjY {E:Value->Shared->Prop} {l:Addr} {xs:Array (Int×Tok)} {Q:Value->Shared->Prop} (hh:A.handled=none) (hl:s.heap.IsTuple l #[Sv]) (oH:0 < xs.size) (h:∀ v h' tk,#[Sv][argBest (fun i j=>decide (numAt xs i > numAt xs j)) #[Vt]]? = some v->(∀ b o,s.heap.get? b=some o->h'.get? b=some o)->Q v { s with heap:=h',toks:=tk }):wpAny #[ss] A (call (.builtin "max") [.ref l]) Q E s:=by
 have n6:l < s.heap.objs.size:=by (obtain⟨_,e,_⟩:=hl; exact bA e)
 refine call_max_walk (fM hl ?_);refine⟨_,[s.heap.objs.size,l],[s.heap.objs.size],_,_,_,_,rfl,Walks.tuple (A:=A.in1) hh _ l (bY n6) #[Sv],⟨⟨_,aX _ rfl,rfl,rfl⟩,hl.push _⟩,fun c hc=>?_,by simpa [intItems] using oH,nG #[VI] (fun _ _=>iR),fun v h' tk hP hk=>?_⟩
 ·show c < (s.heap.push _).objs.size;rw [cM];rcases (aV.mp hc) with e | hc
  ·(rw [e]; exact jT _)
  ·rw [bD.mp hc]; exact fF n6
 ·refine h v h' tk (by simpa [intItems] using hP) fun b o e=>hk b o (fun hm=>?_) (aJ _ e)
  have:=bA e;rw [bD.mp hm] at this;exact de _ this
theorem zmb (hc:X.calm=true):zbv X (.builtin "max") (fun xs H Q=>∃ (p:Addr) (ns:List Int),xs = [.ref p]/\nS X.K H p #[Cl]/\ns≠[]/\∀ M:Int,M∈ns->(∀ a∈ns,a<=M)->Q (.int M) H):=by
 intro nM s σ H xs us Q I r h;obtain⟨p,ns,rfl,hq,hn,q⟩:=h;obtain⟨u,rfl,rx⟩:=vals1 r;cases rx;obtain⟨nP,rv,pl,hz⟩:=I.tuple hq;have hi:IntsAre nP ns:=by simpa using intsAre_of rv
 (obtain⟨xs,e⟩:=hi.allInts.items)
 have vH:ns=xs.toList.map (·.1):=by rw [<- hi.numsOf,<- lA,<- e]
 have hsz:0 < xs.size:=by
  have h3:=lH.mpr hn;rw [vH,aA,bT] at h3;exact h3
 have hl:s.heap.IsTuple p nP.toArray:=pl;rw [e] at hl;refine zjY #[O7] hl hsz fun v h' tk hv hk=>?_
 (obtain⟨t,rfl⟩:=iR hv)
 (obtain⟨h1,h2⟩:=m7 #[VI] #[Vt])
 refine⟨.int _,H,I.kept hk,⟨_,rfl⟩,q _ ?_ fun a ha=>?_⟩
 ·(rw [vH,j3]; exact getD_mem (by rw [aA,bT]; lia))
 ·rw [vH] at ha
  (obtain⟨j,hj,rfl⟩:=mem_getD ha)
  (rw [aA,bT] at hj)
  (rw [<- j3]; exact h2 j #[O])
theorem zgd (hK:X.K=K) (hc:X.calm=true):zbv X (.builtin "max") (fun xs H Q=>∃ (p:Addr) (ns:List Int),xs = [.ref p]/\nS K H p #[Cl]/\ns≠[]/\∀ M:Int,M∈ns->(∀ a∈ns,a<=M)->Q (.int M) H):=by subst hK; exact zmb hc
end L2
end
section
namespace My
open PySem L2 PyProof.Rows
variable {H H':Hp} {K:aF} {an od:Option Addr} {cd ct oc pm:Value} {fd:FuncData} {h:Heap} {k:Nat} {mg:Str->Option Value} {q:List Int} {rows:List #[wp]} {us:List Value} {w:World}
section
variable {P:Program} {w:World} {K:aF} {mg:Str->Option Value} {base:Heap} {t:Adr}
noncomputable def Pap (p:Int) (H:Hp) (x:Addr):Prop:=∃ (m:Int) (rr:Addr) (ls:List Addr) (rows:List #[wp]),H x=some (.tup [.int m,.ref rr])/\H rr=some #[Ti]/\zaZ H ls rows/\Rws p rows/\(∃ r∈rows,∃ v∈r,v≠0)/\0<=m/\m<=6
theorem Pap.same {p:Int} {x:Addr} (s:zr H H') (h:Pap p H x):Pap p H' x:=by
 obtain⟨m,rr,ls,rows,a,b,c,d⟩:=h;exact⟨m,rr,ls,rows,s _ _ a,s _ _ b,c.same s,d⟩
theorem zjZ (xs:List V) (j:Nat):za7 xs none (some (j:Int))=xs.take j:=by
 unfold za7;rw [HT.KG,HT.KE];by_cases h:j<=xs.length
 ·rw [dU h];simp
 ·rw [j7 #[O]];simp;exact (aY #[O]).symm
theorem zoe (xs:List V) (j:Nat):za7 xs (some (j:Int)) none=xs.drop j:=by
 unfold za7;rw [HT.KG,HT.KE];by_cases h:j<=xs.length
 ·rw [dU h];exact aY (by rw [cP]; exact aH _)
 ·rw [j7 #[O],gF (aH _),gF #[O],gk]
theorem zof {H:Hp} {b:Addr} {nl:List Int}:∀ {ls:List Addr} {rows:List #[wp]} {j:Nat},zaZ H ls rows->j < ls.length->H b=some (.tup (nl.map V.int))->zaZ H (ls.take j++[b]++ls.drop (j+1)) (rows.take j++[nl]++rows.drop (j+1))
 | _,_,_,.nil,hj,_=>by simp at hj
 | _,_,0,.cons _ t,_,h=>.cons h t
 | _,_,j+1,.cons a t,hj,h=>.cons a (zof t (by simpa using hj) h)
noncomputable def Mx (ms:List Int) (rows:List #[wp]):Prop:=Paired (fun m r=>m∈r/\∀ a∈r,a<=m) ms rows
theorem zog:∀ {ms:List Int} {rows:List #[wp]} {M:Int},Mx ms rows->M∈ms->∃ r,r∈rows/\M∈r/\∀ a∈r,a<=M
 | _,_,_,.nil,h=>by cases h
 | _,_,_,.cons a t,h=>by
  rcases (aV.mp h) with rfl | h
  ·exact⟨_,bL ..,a⟩
  ·obtain⟨r,hr,z⟩:=zog t h;exact⟨r,aZ _ hr,z⟩
noncomputable def zmc (K:aF):Sp:=fun vs H Q _=>∃ (x da:Addr) (ds:List Int) (p:Int),vs = [.ref x,.ref da,.int p]/\Pap p H x/\H da=some #[Sy]/\ds.length=4/\(∀ d∈ds,0<=d)/\5<=p/\p<=97/\∀ (z:Addr) (H':Hp),zr H H'->Pap p H' z->Q #[QW] H'
theorem zbw:Kf ["paper","draws","p","m","curve","j","i","number","line","bent_v"] ["paper","draws","p"] (zi zdf):=#[S]
theorem zmd (T:Txt K mg t) (F:Fun K "_law_bent" "_law_bent" zdf t.M3 fd):Kn P w K mg base CX0 1 t.M3 fd ["paper","draws","p"] (zmc K):=by
 refine F.ok zbw #[sn] #[mt]
 ·obtain⟨x,da,ds,p,rfl,_⟩:=h;rfl
 ·obtain⟨x,da,ds,p,rfl,hX,Dm,B4,JT,p5,qX,q⟩:=h;obtain⟨m,rr,ls,rows,hx,rT,oG,hR,Cz,m0,m6⟩:=id hX;apply zaJ; intro zX;refine⟨_,#[ze,#[zaO,#[AT],#[zaw,#[zj,#[zg,3,zbw.nd,#[A]],#[zj,#[zg,4,zbw.nd,#[A]],#[zA]]]]],#[ze,#[zbj,#[zJ,#[zcv],#[zh,#[zy],#[PR],#[zf]],#[zf],(zV _)],#[zl,#[zC,#[zap,#[za,#[zh,#[zy],#[PR],#[zf]],#[RS]]]]],#[zan]],#[ze,#[zm,5,zbw.nd,#[A],#[zh,#[zy],#[PR],#[Pq]]],#[ze,#[zm,6,zbw.nd,#[A],#[zh,#[zy],#[PR],#[zn,#[zo],T.KD,cq,#[ya,#[RP]]]]],#[ze,#[zm,7,zbw.nd,#[A],#[zh,#[zy],#[zh,#[zB],#[zh,#[zB],#[zw,#[za6],#[RP],#[R8]],#[zf]],#[zh,#[zy],#[PR],#[Pz]]],#[GT]]],#[ze,#[zm,8,zbw.nd,#[A],#[zh,zkK,#[zh,#[zkI],#[zay,zfc,#[RP],#[zbg],#[zaA,#[R8]]],#[zap,#[ya,#[Rl]]]],#[zay,zfc,#[RP],#[zaA,#[zh,#[zB],#[R8],#[zf]]],#[zbg]]]],#[ze,#[zm,9,zbw.nd,#[A],#[zh,zkK,#[zh,#[zkI],#[zay,zfc,#[OD],#[zbg],#[zaA,#[Pf]]],#[zap,#[Vs]]],#[zay,zfc,#[OD],#[zaA,#[Vg]],#[zbg]]]],#[zl,#[zC,#[zct,#[zJ,#[zgw],#[zn,#[za4],T.MP,fC,#[ya,#[zI,(Kg.of (N':=["line"]) (ix:=[none]) (zi zdf) _ rfl rfl rfl),#[zZ],#[zcm,#[SI]],#[pc],#[re],#[Te]]]],#[zf],(zV _)],#[zap,#[za,#[NE],#[ya,#[SI]]]],#[AT]]]]]]]]]]],?_⟩;apply zqj; intro Ir Ed B3 xq rS pQ pG;have pd:=bJ;obtain⟨r1,EJ,xB⟩:=hR;have xr:=oG.length;obtain⟨d0,d1,d2,d3,rfl⟩:∃ d0 d1 d2 d3,ds = [d0,d1,d2,d3]:=by
   match ds,B4 with
   | [a,b,c,d],_=>exact⟨a,b,c,d,rfl⟩
  have n1:=JT d1 #[M];have n2:=JT d2 #[M];have n3:=JT d3 #[M];refine⟨_,rfl,x,_,rfl,nS.of hx,rfl,_,_,rfl,_,_,rfl,rfl,?_⟩;refine (nN rfl (ex4 da _ _ _ ⟨rfl,rfl,nO.of Dm,(rfl:atI ([d0,d1,d2,d3].map V.int) 0=some (.int d0)),(nR rfl rfl ⟨#[O],rfl,(nN rfl (zaR #[BT] #[BT]))⟩)⟩))
  ·refine (nN rfl (ex4 da _ _ _ ⟨rfl,rfl,nO.of Dm,(rfl:atI ([d0,d1,d2,d3].map V.int) 1=some (.int d1)),(nR rfl rfl ⟨#[O],(nN rfl ⟨by show 2<=sizeLine; lia,fun z hz=>?_⟩)⟩)⟩));have w:=zb (o:=.tup [.int (d1 % 7),.ref rr]) hz;exact q z _ w ⟨d1 % 7,rr,ls,rows,zc,w _ _ rT,oG.same w,⟨r1,EJ,xB⟩,Cz,#[O],#[O]⟩
  have Ae:0 < rows.length:=r1;have j0:=bC d1 (show ((rows.length:Nat):Int)≠0 by lia);have j1:=aR d1 (show 0 < ((rows.length:Nat):Int) by lia);obtain⟨j,ej⟩:∃ j:Nat,d1 % ((rows.length:Nat):Int)=(j:Int):=⟨_,(jm j0).symm⟩;have hj:j < ls.length:=by lia
  obtain⟨rj,hrj,qL⟩:=Paired.get oG (aG hj);have gj:=xB rj (aL hrj);have hjr:j < rows.length:=by lia
  have i0:=bC d2 (show ((rj.length:Nat):Int)≠0 by have:=gj.1; lia);have i1:=aR d2 (show 0 < ((rj.length:Nat):Int) by have:=gj.1; lia);obtain⟨i,ei⟩:∃ i:Nat,d2 % ((rj.length:Nat):Int)=(i:Int):=⟨_,(jm i0).symm⟩;have hi:i < rj.length:=by lia
  have Gq:atI #[At] (j:Int)=some (.ref (ls[j]'(hj))):=zab (by rw [aD,aG hj]; rfl);have G6:atI (rj.map V.int) (i:Int)=some (.int (rj[i]'(hi))):=zab (by rw [aD,aG hi]; rfl);refine (nN rfl (ex4 da _ _ _ ⟨rfl,rfl,nO.of Dm,(rfl:atI ([d0,d1,d2,d3].map V.int) 1=some (.int d1)),(nN rfl ⟨rr,(nN rfl ⟨.inr (nS.of rT),(nR rfl rfl ⟨by rw [aA]; lia,?_⟩)⟩)⟩)⟩));rw [aA,xr];show zaT 5 (V.int (d1 % ((rows.length:Nat):Int))) _ _ _;rw [ej];refine (nN rfl (ex4 da _ _ _ ⟨rfl,rfl,nO.of Dm,(rfl:atI ([d0,d1,d2,d3].map V.int) 2=some (.int d2)),(nN rfl (nN rfl (ex4 rr _ _ _ ⟨rfl,rfl,nS.of rT,Gq,ls[j]'(hj),(nN rfl ⟨.inr (nS.of qL),(nR rfl rfl ⟨by rw [aA]; have:=gj.1; lia,?_⟩)⟩)⟩)))⟩));rw [aA];show zaT 6 (V.int (d2 % ((rj.length:Nat):Int))) _ _ _;rw [ei];refine (nN rfl (nN rfl (ex4 rr _ _ _ ⟨rfl,rfl,nS.of rT,Gq,(nN rfl (ex4 (ls[j]'(hj)) _ _ _ ⟨rfl,rfl,nS.of qL,G6,(nR rfl rfl (nN rfl (ex4 da _ _ _ ⟨rfl,rfl,nO.of Dm,(rfl:atI ([d0,d1,d2,d3].map V.int) 3=some (.int d3)),(nN rfl (nR rfl rfl (nR rfl rfl ⟨#[O],#[Va]⟩)))⟩)))⟩))⟩)));show zaT 7 (V.int ((rj[i]'(hi)+1+d3 % (p - 1)) % p)) _ _ _;have v0:=bC (rj[i]'(hi)+1+d3 % (p - 1)) (show p≠0 by lia);have v1:=aR (rj[i]'(hi)+1+d3 % (p - 1)) (show 0 < p by lia);generalize (rj[i]'(hi)+1+d3 % (p - 1)) % p=v at v0 v1 |-;have hg100:=gj.2.1;refine (nN rfl (nN rfl (ex4 rr _ _ _ ⟨rfl,rfl,nS.of rT,Gq,(nN rfl (nN rfl ⟨ls[j]'(hj),(nN rfl ⟨qL,fun p1 H1 s1 h1=>?_⟩)⟩))⟩)));rw [zjZ] at h1;refine (nN rfl ⟨by show 1<=sizeLine; lia,fun p2 rk=>?_⟩);have w2:=zb (o:=.tup [.int v]) rk;refine (ex4 p1 p2 _ _ ⟨rfl,rfl,w2 _ _ h1,zc,by rw [aU,aA]; show _+1<=sizeLine; lia,#[M],fun p3 H3 s3 h3=>?_⟩);have Di:=s1.trans (w2.trans s3);refine (nN rfl (nN rfl (ex4 rr _ _ _ ⟨rfl,rfl,nS.of (Di _ _ rT),Gq,(nN rfl (nR rfl rfl (nN rfl ⟨ls[j]'(hj),(nN rfl ⟨Di _ _ qL,fun p4 H4 s4 h4=>?_⟩)⟩)))⟩)));rw [show (i:Int)+1=((i+1:Nat):Int) by lia,zoe] at h4;refine (ex4 p3 p4 _ _ ⟨rfl,rfl,s4 _ _ h3,h4,#[M],by rw [aO,aU,cP,aA]; show _+1+_<=sizeLine; lia,fun p5 H5 s5 h5=>?_⟩);have EM:=Di.trans (s4.trans s5);have e5:(rj.map V.int).take i++[V.int v]++(rj.map V.int).drop (i+1)=(rj.take i++[v]++rj.drop (i+1)).map V.int:=by
   rw [aN,aN,d9,gi];rfl
  rw [e5] at h5;have FZ:zem p 100 (rj.take i++[v]++rj.drop (i+1)):=by
   refine⟨by rw [aO,aO]; show 1<=_+1+_; lia,by rw [aO,aO,aU,cP]; show _+1+_<=100; lia,fun c hc=>?_⟩;rcases (bO.mp hc) with hc | hc
   ·rcases bO.mp hc with hc | hc
    ·exact gj.2.2 c (eC hc)
    ·rw [bD.mp hc]; exact⟨v0,v1⟩
   ·exact gj.2.2 c (f8 hc)
  generalize rj.take i++[v]++rj.drop (i+1)=nl at h5 FZ;refine (nN rfl (nN rfl (nN rfl ⟨rr,(nN rfl ⟨EM _ _ rT,fun q1 H6 s6 h6=>?_⟩)⟩)));rw [zjZ] at h6;refine (nN rfl ⟨by show 1<=sizeLine; lia,fun q2 pz=>?_⟩);have w7:=zb (o:=.tup [.ref p5]) pz;refine (ex4 q1 q2 _ _ ⟨rfl,rfl,w7 _ _ h6,zc,by rw [aU,aA]; show _+1<=sizeLine; lia,#[M],fun q3 H8 s8 h8=>?_⟩);have s58:=s6.trans (w7.trans s8);have EN:=EM.trans s58;refine (nN rfl (nN rfl (nR rfl rfl (nN rfl ⟨rr,(nN rfl ⟨EN _ _ rT,fun q4 H9 s9 h9=>?_⟩)⟩))));rw [show (j:Int)+1=((j+1:Nat):Int) by lia,zoe] at h9;refine (ex4 q3 q4 _ _ ⟨rfl,rfl,s9 _ _ h8,h9,#[M],by rw [aO,aU,cP,aA]; show _+1+_<=sizeLine; lia,fun bv wF Bs AH=>?_⟩);have AI:=EN.trans (s9.trans Bs);have JU:=s58.trans (s9.trans Bs);have qi:#[At].take j++[V.ref p5]++#[At].drop (j+1)=(ls.take j++[p5]++ls.drop (j+1)).map V.ref:=by
   rw [aN,aN,d9,gi];rfl
  rw [qi] at AH;have hT:=zof (oG.same AI) hj (JU _ _ h5);have Fc:Rws p (rows.take j++[nl]++rows.drop (j+1)):=by
   have nV:(rows.take j++[nl]++rows.drop (j+1)).length=rows.length:=by
    rw [aO,aO,aU,cP];show _+1+_=_;lia
   refine⟨#[O],#[O],fun r hr=>?_⟩;rcases bO.mp hr with hr | hr
   ·rcases bO.mp hr with hr | hr
    ·exact xB r (eC hr)
    ·rw [bD.mp hr]; exact FZ
   ·exact xB r (f8 hr)
  generalize ls.take j++[p5]++ls.drop (j+1)=bs at AH hT;generalize rows.take j++[nl]++rows.drop (j+1)=rws at hT Fc;have hTl:=hT.length;have l1:=Fc.1;have l2:=Fc.2.1;refine (nN rfl ⟨bv,rfl,⟨_,nS.of AH⟩,zao (n:=rws.length) (fun i ys H'=>H'=wF/\∃ ms:List Int,ys=ms.map V.int/\Mx ms (rws.take i)) ⟨rfl,[],rfl,.nil⟩ ?_ ?_ ?_ ?_⟩)
  ·rintro i ys H' hi ⟨rfl,_⟩;exact⟨_,.ref (bs[i]'#[O]),nS.of AH,by rw [aD,aG #[O]]; rfl⟩
  ·rintro ys H' ⟨rfl,_⟩;exact⟨_,nS.of AH,by rw [aA]; lia⟩
  ·rintro zS zT zE i z ys H' H'' hi ⟨rfl,ms,rfl,uW⟩ ⟨rfl,hx⟩;obtain⟨b,rfl,qB⟩:=zN (hx _ (nS.of AH));obtain⟨r,hr,CF⟩:=Paired.get hT qB;have gr:=Fc.2.2 r (aL hr);have wK:=uW.length;rw [aU] at wK;refine gY ?_;refine (nN rfl ⟨b,r,rfl,nS.of CF,fun e=>?_,fun M vS yU=>⟨by rw [aA]; lia,rfl,ms++[M],by rw [aN]; rfl,?_⟩⟩)
   ·have:=gr.1;rw [e] at this;cases this
   ·rw [take_snoc hr];exact cL uW ⟨vS,yU⟩
  rintro ys H' D ⟨rfl,ms,rfl,uW⟩ hD;rw [aY (aH _)] at uW;have wK:=uW.length;have wD:=zb (o:=.lst #[Rc]) hD;refine⟨D,ms,rfl,nO.of zc,fun e=>?_,fun M vS yU=>(nR rfl rfl (nN rfl (zaR #[UP] (fun _=>(nN rfl (q x _ (AI.trans wD) (hX.same (AI.trans wD))))))))⟩
  ·rw [e] at wK;simp at wK;lia
  have h:0 < M:=of_decide_eq_true h;refine (nN rfl (nN rfl ⟨by show 2<=sizeLine; lia,fun z hz=>?_⟩));have w:=wD.trans (zb (o:=.tup [.int m,.ref bv]) hz);obtain⟨r,hr,JV⟩:=zog uW vS;exact q z _ (AI.trans w) ⟨m,bv,bs,rws,zc,w _ _ AH,hT.same w,Fc,⟨r,hr,M,JV.1,#[O]⟩,m0,m6⟩
theorem zkZ {H:Hp}:∀ {ls:List Addr} {rows:List #[wp]},zaZ H ls rows->∀ m,zaZ H (ls.take m) (rows.take m)
 | _,_,.nil,m=>by rw [gk,gk]; exact .nil
 | _,_,.cons _ _,0=>.nil
 | _,_,.cons a t,m+1=>.cons a (zkZ t m)
theorem zme {p:Int} (hp:p∈zG) {T:Nat} {m:Int} (hk:2<=k) {l:List (Int×Int)} (hP:Pts p l) (m0:0<=m) (h:Ph p k rows l m (T:Int)) (hT:1<=T) (hq:IsP p k q) (hh:T<=hits p q l):Zr p (AL k (gl q) rows.length fun j i=>gl (rows.getD j []) i):=by
 obtain⟨d,rfl⟩:∃ d,k=d+1:=#[TW];obtain⟨n,rfl⟩:∃ n:Nat,m=(n:Int):=⟨m.toNat,#[O]⟩;exact zpr hp #[O] hP h hT hq hh
theorem zj0 {p:Int} {fl:List Int} {L:Ps} (hr:∀ c∈fl,0<=c/\c < p) (hc:∀ x,Cg p (gl fl x) (L x)) (hz:Zr p L) (M:Int) (hM:M∈fl):M=0:=by
 obtain⟨x,hx⟩:=dF.mp hM;have h:=(hc x).trans (hz x);rw [zba hx] at h;obtain⟨m0,m1⟩:=hr M hM;exact h.eq m0 m1 (dz _) #[O]
theorem zbl:Kf ["script","code","p","k","places","row","plan","near","paper","draws","j","some","t","found","one"] ["script"] (zi zdG):=#[S]
theorem zq5 (T:Txt K mg t) (F:Fun K "law" "law" zdG t.law fd):Kn P w K mg base CX0 9 t.law fd ["script"] (zhf K):=by
 obtain⟨Dp,uG,yr⟩:=T.Mu;have yt:=zlV (P:=P) (w:=w) (base:=base) T uG;obtain⟨Fd,vU,AJ⟩:=T.MV;have AK:=znR (P:=P) (w:=w) (base:=base) T vU;obtain⟨rm,og,oD⟩:=T.K2;have oE:=zdN (P:=P) (w:=w) (base:=base) T og;obtain⟨Bt,qf,rK⟩:=T.Lx;have rL:=zi7 (P:=P) (w:=w) (base:=base) T qf;obtain⟨CG,tw,wN⟩:=T.LU;have wO:=zjX (P:=P) (w:=w) (base:=base) T tw;obtain⟨Dq,uH,yu⟩:=T.Mw;have yw:=zmd (P:=P) (w:=w) (base:=base) T uH;obtain⟨yx,pZ,sG⟩:=T.KN;have sH:=zf9 (P:=P) (w:=w) (base:=base) T pZ;obtain⟨CH,tD,wQ⟩:=T.LV;have wR:=zjV (P:=P) (w:=w) (base:=base) T tD;obtain⟨CI,tE,wU⟩:=T.LW;have wV:=zjS (P:=P) (w:=w) (base:=base) T tE;refine F.ok zbl #[sn] #[mt]
 ·obtain⟨a,ns,rfl,_⟩:=h;rfl
 ·obtain⟨a,ns,rfl,hS,nV,q⟩:=h;apply zaJ; intro zX;refine⟨_,#[ze,#[zm,1,zbl.nd,#[A],#[zq,yt,#[sK],T.Ny,uG.kp,yr,#[zK],#[za,#[AT],by exact #[Sm]]]],#[ze,#[zaO,#[Id],#[zaw,#[zj,#[zg,2,zbl.nd,#[A]],#[zj,#[zg,3,zbl.nd,#[A]],#[zj,#[zg,4,zbl.nd,#[A]],#[zA]]]]]],#[ze,#[zbj,#[zJ,#[zcv],#[NE],#[zf],(zV _)],#[PF],#[zan]],#[ze,#[zm,5,zbl.nd,#[A],#[zq,AK,#[sK],T.NI,vU.kp,AJ,#[zK],#[za,#[AT],#[za,#[zf],#[xL]]]]],#[ze,#[zm,6,zbl.nd,#[A],#[zq,oE,#[sK],T.KW,og.kp,oD,#[zK],#[za,#[AT],by exact #[Sm]]]],#[ze,#[zm,7,zbl.nd,#[A],#[zay,zby,#[zq,rL,#[sK],T.L9,qf.kp,rK,#[zK],#[za,#[Id],#[za,#[Pf],#[ya,#[zn,(@zk3 _ rfl),T.MP,fC,#[za,#[NE],#[ya,#[zh,#[zbU],#[Pq],#[zf]]]]]]]]],#[zbg],#[zaA,#[zf]]]],#[ze,#[zm,8,zbl.nd,#[A],#[zq,wO,#[sK],T.Nf,tw.kp,wN,#[zK],#[za,#[R8],by exact #[za,#[Id],#[za,#[Pf],#[ya,#[Rl]]]]]]],#[ze,(zni #[zbj,#[zJ,#[zcv],#[zn,#[za4],T.MP,fC,#[ya,#[zI,(Kg.of (N':=["line"]) (ix:=[none]) (zi zdG) _ rfl rfl rfl),#[zZ],#[zcm,#[UJ]],#[pc],#[re],#[Te]]]],#[zf],(zV _)],#[zl,#[zm,8,zbl.nd,#[A],#[zap,#[za,#[UJ],#[ya,#[zap,#[ya,#[zap,#[ya,#[zf]]]]]]]]]],#[zan]]),#[ze,#[zm,9,zbl.nd,#[A],#[zq,oE,#[sK],T.KW,og.kp,oD,#[zK],#[za,#[AT],by exact #[Sm]]]],#[ze,#[zah,bN,#[zU,T.Ki,#[ya,#[zf]]],#[zg,10,zbl.nd,#[A]],#[ze,#[zm,11,zbl.nd,#[A],#[zct,#[zJ,#[zcv],#[U2],#[zf],(zV _)],#[RH],#[zq,yw,#[sK],T.NA,uH.kp,yu,#[zK],#[za,#[RH],#[za,#[zay,zby,#[SI],#[zaA,#[zh,#[zQ],#[zf],#[U2]]],#[zaA,#[zh,#[zB],#[zh,#[zQ],#[zf],#[U2]],#[zf]]]],#[OX]]]]]],#[zl,#[zah,bN,#[zad,#[z9,#[za,#[zh,#[zB],#[zf],#[zh,#[zy],#[zw,#[zu],#[SI],#[U2]],#[zf]]],#[za,#[zh,#[zB],#[NE],#[zh,#[zy],#[zw,#[zu],#[SI],#[U2]],#[zf]]],#[ya,#[Pq]]]]]],#[zg,12,zbl.nd,#[A]],#[ze,#[zm,13,zbl.nd,#[A],#[zq,sH,#[sK],T.Me,pZ.kp,sG,#[zK],#[za,#[Id],by exact #[za,#[zW,#[za2],T.MK,ir,#[QT]],#[za,#[pvx,12],#[ya,#[pvx,11]]]]]]],#[ze,#[zbj,(@PW.pt _ _ _ #[zmh,#[zgY,#[zmg,#[zn,(@zia _),T.MT,boot_isinstance,#[za,#[pvx,13],#[ya,(@zok _ _ (.ty "bool") _ _ rfl T.Oh boot_bool rfl #[D] #[D])]]]]],#[zi9,#[zJ,#[zhZ],#[pvx,13],#[zq,wR,#[sK],T.Ng,tD.kp,wQ,#[zK],#[za,#[Id],by exact #[za,#[Pf],#[za,#[pvx,12],#[ya,#[pvx,11]]]]]],(zV _)]]]),#[PF],#[zan]],#[zl,#[zah,bN,#[zad,#[zct,(@PW.pt _ _ _ #[zgX,#[zmg,#[pvx,13]],#[ze0,#[zJ,#[zfp],#[pvx,12],#[NE],(zV _)]]]),#[zq,rL,#[sK],T.L9,qf.kp,rK,#[zK],#[za,#[Id],#[za,#[Pf],#[ya,#[pvx,12]]]]],#[Si]]],#[zg,14,zbl.nd,#[A]],#[zl,#[zbj,#[zJ,#[zgw],#[zn,#[za4],T.MP,fC,#[ya,#[zq,wV,#[sK],T.Nh,tE.kp,wU,#[zK],#[za,#[GT],#[za,#[zw,#[za6],#[pvx,11],#[zf]],#[ya,#[pvx,14]]]]]]],#[zf],(zV _)],#[PF],#[zan]]]]]]]]]]],#[PF]]]]]]]]]]],?_⟩;apply zrq; intro zN11 zN10 zN9 Ir Ed B3 xq rS pQ pG;have pd:=bJ;refine (nN rfl (ex5 a ns 0 5 16 ⟨rfl,hS,nV,#[O],#[O],#[D],#[D],#[D],#[D],fun c tt p kI pl H1 hc1 s1 co tJ h1t=>?_⟩));have rp:=zO co.pr;have k1:=co.k1;have kk:=co.kk;have kn:=co.kl;have ln:=co.ln;have p0:0 < p:=by lia
  have Eg:pl.length<=16:=by lia
  have hp:=co.pr;obtain⟨k,rfl⟩:∃ k:Nat,kI=k:=⟨kI.toNat,#[O]⟩;have Fe:zbP H1 c tt p k pl:=⟨tJ,h1t⟩;refine⟨_,rfl,c,_,rfl,nS.of tJ,rfl,_,_,rfl,_,_,rfl,_,_,rfl,rfl,?_⟩;refine (nN rfl ⟨rfl,(nN rfl (zaR (fun _=>q _) (fun hk=>?_)))⟩);have k2:2<=k:=by
   have:¬ (k:Int)=1:=fun e=>hk (decide_eq_true (by rw [e]))
   lia
  refine (nN rfl (nN rfl (ex8 a c tt ns 1 p k pl ⟨rfl,s1.seq hS,nV,#[O],#[O],Fe,#[O],#[O],co.rg,#[O],fun r rw H2 vO s2 pD rA h2r=>?_⟩)));have wC:=s1.trans s2;refine (nN rfl (ex5 a ns 3 16 27720 ⟨rfl,wC.seq hS,nV,#[O],#[O],#[D],#[D],#[D],#[D],fun pa ds H3 xA s3 uN h3p=>?_⟩));have Di:=wC.trans s3;have Gr:=(Fe.same s2).same s3;have JW:=s3 _ _ h2r;have hP:=zd5 co.nd co.rg rA;refine (nN rfl (nN rfl (nN rfl (nN rfl ⟨tt,(nN rfl ⟨.inr (nS.of Gr.2),(nR rfl rfl ⟨#[OP],?_⟩)⟩)⟩))));refine⟨_,_,rfl,?_⟩;obtain⟨T0,eT,Ju⟩:∃ T0:Int,(if (((pl.map V.int).length:Nat):Int) / 2 > (k:Int) then ((#[QE].length:Nat):Int) / 2 else (k:Int))=T0/\(k:Int)<=T0:=⟨_,rfl,by split <;> lia⟩;rw [eT];refine (ex8 c tt r p k T0 pl rw ⟨rfl,Gr,JW,pD,Eg,hp,co.nd,co.rg,rA,#[O],#[O],Ju,fun l rs qs H4 hl s4 h4 hq4 hR4 hm4=>?_⟩);refine⟨3,rfl,l,(nN rfl ⟨nO.of h4,fun nr hnr=>?_⟩)⟩;rw [show (3:Int)=((3:Nat):Int) from rfl,zjZ,<- d9];have w5:=zb (o:=.lst (#[VP].map V.ref)) hnr;have Dr:=s4.trans w5;have h5n:nQ H4 nr (.lst (#[VP].map V.ref)) nr=some (.lst (#[VP].map V.ref)):=zc;have hq5:=zkZ (hq4.same w5) 3;generalize nQ H4 nr (.lst (#[VP].map V.ref))=H5 at w5 Dr h5n hq5 |-;have hc5:=Gr.same Dr;refine (nN rfl (nN rfl (nN rfl (nN rfl (zr2 pa c tt r nr ds p k pl rw #[VP] (qs.take 3) ⟨rfl,Dr _ _ h3p,uN,hc5,Dr _ _ JW,pD,Eg,hp,co.nd,co.rg,rA,k2,#[O],h5n,hq5,fun q hq=>((hm4 q).mp (eC hq)).1,by rw [aU]; lia,fun z r' ls m rows H6 s6 JX Ff JY m1 m3 Gs=>?_⟩)))));refine⟨fun σ H'=>∃ x:Addr,σ = [some #[Pn],some #[Sd],some #[PC],some (.int (k:Int)),some #[Rq],some #[Tf],some #[Rr],some #[R5],some (.ref x),none,none,none,none,none,none]/\zr H5 H'/\Pap p H' x,?_,?_⟩
  ·have hTl:=JY.length;have l1:=Gs.1;have l2:=Gs.2.1;refine (nN rfl (ex4 z _ _ _ ⟨rfl,rfl,nS.of JX,rfl,r',rfl,⟨_,nS.of Ff⟩,zao (n:=rows.length) (fun i ys H'=>H'=H6/\∃ ms:List Int,ys=ms.map V.int/\Mx ms (rows.take i)) ⟨rfl,[],rfl,.nil⟩ ?_ ?_ ?_ ?_⟩))
   ·rintro i ys H' hi ⟨rfl,_⟩;exact⟨_,.ref (ls[i]'#[O]),nS.of Ff,by rw [aD,aG #[O]]; rfl⟩
   ·rintro ys H' ⟨rfl,_⟩;exact⟨_,nS.of Ff,by rw [aA]; lia⟩
   ·rintro zS zT zE i z ys H' H'' hi ⟨rfl,ms,rfl,uW⟩ ⟨rfl,hx⟩;obtain⟨b,rfl,qB⟩:=zN (hx _ (nS.of Ff));obtain⟨r,hr,CF⟩:=Paired.get JY qB;have gr:=Gs.2.2 r (aL hr);have wK:=uW.length;rw [aU] at wK;refine gY ?_;refine (nN rfl ⟨b,r,rfl,nS.of CF,fun e=>?_,fun M vS yU=>⟨by rw [aA]; lia,rfl,ms++[M],by rw [aN]; rfl,?_⟩⟩)
    ·have:=gr.1;rw [e] at this;cases this
    ·rw [take_snoc hr];exact cL uW ⟨vS,yU⟩
   rintro ys H' D ⟨rfl,ms,rfl,uW⟩ hD;rw [aY (aH _)] at uW;have wK:=uW.length;have wD:=zb (o:=.lst #[Rc]) hD;refine⟨D,ms,rfl,nO.of zc,fun e=>?_,fun M vS yU=>⟨rfl,(nN rfl (zaR #[UP] #[UP]))⟩⟩
   ·rw [e] at wK;simp at wK;lia
   ·refine (nN rfl (ex4 z _ _ _ ⟨rfl,rfl,nS.of (wD _ _ JX),rfl,by show 1<=sizeLine; lia,fun x1 vd=>⟨by show 1<=sizeLine; lia,fun x2 wj=>⟨by show 2<=sizeLine; lia,fun x3 DZ=>?_⟩⟩⟩));have w1:=zb (o:=.tup [.int 1]) vd;have w2:=zb (o:=.tup [.ref x1]) wj;have w3:=zb (o:=.tup [.int m,.ref x2]) DZ;refine⟨x3,rfl,s6.trans (wD.trans (w1.trans (w2.trans w3))),m,x2,[x1],[[1]],zc,w3 _ _ zc,.cons ((w2.trans w3) _ _ zc) .nil,⟨#[D],#[D],fun r hr=>?_⟩,⟨[1],#[M],1,#[M],#[D]⟩,#[O],#[O]⟩;rw [bD.mp hr];exact⟨#[D],#[D],fun v hv=>by rw [bD.mp hv]; lia⟩
   ·obtain⟨r2,vO,JV⟩:=zog uW vS;exact⟨z,rfl,s6.trans wD,m,r',ls,rows,wD _ _ JX,wD _ _ Ff,JY.same wD,Gs,⟨r2,vO,M,JV.1,fun e=>h (decide_eq_true (by rw [e]))⟩,#[O],#[O]⟩
  rintro σ H7 ⟨x,rfl,s7,hX⟩;have Jq:=Di.trans (Dr.trans s7);refine (nN rfl (ex5 a ns 4 24 27720 ⟨rfl,Jq.seq hS,nV,#[O],#[O],#[D],#[D],#[D],#[D],fun da dd H8 Dm s8 Aj h8d=>?_⟩));have hX8:=hX.same s8;have s38:=Dr.trans (s7.trans s8);have B8:=Gr.same s38;have Ao:=s38 _ _ JW;refine⟨5,rfl,#[D],#[D],zaq (lo:=0) (n:=5) (fun j σ H'=>∃ qi Cs rV rW vt:Option V,σ = [some #[Pn],some #[Sd],some #[PC],some (.int (k:Int)),some #[Rq],some #[Tf],some #[Rr],some #[R5],some (.ref x),some (.ref da),qi,Cs,rV,rW,vt]/\zr H8 H') (ex5 none none none none none #[Ry]) ?_ ?_⟩;rotate_left
  ·rintro σ H9 ⟨qi,Cs,rV,rW,vt,rfl,s9⟩;exact q _
  rintro zD zT j σ H9 hj ⟨qi,Cs,rV,rW,vt,rfl,s9⟩;show zT (zD j) _ H9;apply zlc; intro zK2;obtain⟨dj,edj,dj0,dj1⟩:=zeK Aj (i:=0+(j:Int)) #[O] #[O];have rest:∀ (y:Addr) (wF:Hp),zr H8 wF->Pap p wF y->((zD j).n zK2).nx [some #[Pn],some #[Sd],some #[PC],some (.int (k:Int)),some #[Rq],some #[Tf],some #[Rr],some #[R5],some (.ref x),some (.ref da),some (.int (0+(j:Int))),some (.ref y),rV,rW,vt] wF:=by
   intro y wF Bs hY;have Fg:=Bs _ _ h8d;refine (nN rfl (nN rfl (ex4 da _ _ _ ⟨rfl,rfl,nO.of Fg,edj,#[Qq]⟩)));refine (nN rfl (nN rfl (nN rfl (ex4 da _ _ _ ⟨rfl,rfl,nO.of Fg,edj,(nR rfl rfl ⟨#[O],(nR rfl rfl (nN rfl ⟨tt,(nN rfl ⟨.inr (nS.of ((B8.same Bs).2)),by show 3<=sizeLine; lia,fun L1 xP=>?_⟩)⟩))⟩)⟩))));have JZ:=zb (o:=.lst [.int (1+dj % 16),.int ((k:Int)+dj % 3),.int ((#[QE].length:Nat):Int)]) xP;have J0:nQ wF L1 (.lst [.int (1+dj % 16),.int ((k:Int)+dj % 3),.int ((#[QE].length:Nat):Int)]) L1=some (.lst ([(1+dj % 16).toNat,((k:Int)+dj % 3).toNat,pl.length].map fun n:Nat=>V.int (n:Int))):=by
    rw [zc,aA];show some (HO.lst [_,_,_])=some (HO.lst [V.int (((1+dj % 16).toNat:Nat):Int),V.int ((((k:Int)+dj % 3).toNat:Nat):Int),V.int (pl.length:Int)]);rw [show (((1+dj % 16).toNat:Nat):Int)=1+dj % 16 by lia,show ((((k:Int)+dj % 3).toNat:Nat):Int)=(k:Int)+dj % 3 by lia]
   have Ar:∀ T∈[(1+dj % 16).toNat,((k:Int)+dj % 3).toNat,pl.length],1<=T/\T<=1000:=fun T hT=>by
    rcases (aV.mp hT) with rfl | hT
    ·lia
    rcases (aV.mp hT) with rfl | hT
    ·lia
    rw [bD.mp hT];lia
   generalize [(1+dj % 16).toNat,((k:Int)+dj % 3).toNat,pl.length]=ts at J0 Ar;refine⟨L1,rfl,⟨_,nO.of zc⟩,?_⟩;generalize nQ wF L1 (.lst [.int (1+dj % 16),.int ((k:Int)+dj % 3),.int ((#[QE].length:Nat):Int)])=H11 at JZ J0 |-;have Gp:=Bs.trans JZ;have J3:=hY.same JZ;refine zbE (K:=K) (a:=L1) (xs:=ts.map fun n:Nat=>V.int (n:Int)) (fun i σ H'=>∃ rV rW vt:Option V,σ = [some #[Pn],some #[Sd],some #[PC],some (.int (k:Int)),some #[Rq],some #[Tf],some #[Rr],some #[R5],some (.ref x),some (.ref da),some (.int (0+(j:Int))),some (.ref y),rV,rW,vt]/\zr H11 H') (ex3 rV rW vt #[Ry]) (fun i σ H' _ ⟨_,_,_,_,s'⟩=>nO.of (s' _ _ J0)) ?_ ?_;rotate_left
   ·rintro σ J4 ⟨rV,rW,vt,rfl,wA⟩;exact (ex5 _ _ _ _ _ ⟨rfl,Gp.trans wA⟩)
   rintro E2 Gk i x0 σ J4 hx ⟨rV,rW,vt,rfl,wA⟩;obtain⟨T',rfl,xw⟩:∃ T':Nat,x0=V.int (T':Int)/\ts[i]? = some T':=by
    rw [aD] at hx;cases h:ts[i]? with
    | none=>rw [h] at hx; cases hx
    | some k=>rw [h] at hx; exact⟨k,(bK hx).symm,rfl⟩
   obtain⟨t1,t1000⟩:=Ar T' (aL xw);show Gk (E2 i) _ J4;apply zep; intro zJ3 zJ2;have AM:=Gp.trans wA;have J5:=J3.same wA;refine (nN rfl (nN rfl ⟨r,(nN rfl ⟨.inl (nO.of (AM _ _ Ao)),fun lr Ae=>?_⟩)⟩));have J6:=zb (o:=.lst (rw.map qW)) Ae;have Bj:=AM.trans J6;obtain⟨m,rr,ls,rows,g1,g2,g3,g4,g5,m0,m6⟩:=J5.same J6;have hIn:∀ (H':Hp) (rx:Addr),zr (nQ J4 lr #[Pa]) H'->H' rx=some #[Pa]->zq0 p (T':Int) m k rw pl rows [.ref c,.ref rx,.int (T':Int),.ref y] H':=fun H' rx s' hr=>⟨c,tt,rx,y,rr,ls,rfl,(B8.same Bj).same s',hr,pD,Eg,hp,co.nd,co.rg,rA,#[O],#[O],#[O],#[O],s' _ _ g1,s' _ _ g2,g3.same s',g4.2.1,g4.2.2,g5,m0,#[O]⟩
   refine (nN rfl (nN rfl ⟨p,(T':Int),m,k,rw,pl,rows,hIn _ lr #[OV] zc,k2,fun H14 tQ=>?_⟩));have Bu:=J6.trans tQ;have J7:=AM.trans Bu;refine (nN rfl (ex4 _ _ _ _ ⟨rfl,.bl _,rfl,true,rfl,zg3 (nN rfl (nN rfl (nN rfl (nN rfl (nN rfl ⟨p,(T':Int),m,k,rw,pl,rows,hIn H14 r tQ (J7 _ _ Ao),k2,fun H15 Bh=>⟨rfl,(nN rfl (zaR (fun h=>absurd h #[M]) #[BT]))⟩⟩)))))⟩));have Bv:=Bu.trans Bh;have Fh:=AM.trans Bv;have fin:∀ (H':Hp) (e:Option V),zr H15 H'->(E2 i).nx [some #[Pn],some #[Sd],some #[PC],some (.int (k:Int)),some #[Rq],some #[Tf],some #[Rr],some #[R5],some (.ref x),some (.ref da),some (.int (0+(j:Int))),some (.ref y),some (.int (T':Int)),some (.bl (dcd (Ph p k rows #[IO] m (T':Int)))),e] H':=fun H' e s'=>⟨_,_,_,rfl,wA.trans (Bv.trans s')⟩
   refine (nN rfl (nN rfl (zaR (fun J8=>(nN rfl (nN rfl (nR rfl rfl (nN rfl (zaR (fun hT=>?_) #[BT])))))) #[BT])))
   ·have J8:=zdy.mp J8;have hT:(k:Int)<=(T':Int):=of_decide_eq_true hT;refine (nN rfl (nN rfl (nN rfl (ex8 c tt r p k (T':Int) pl rw ⟨rfl,B8.same Fh,Fh _ _ Ao,pD,Eg,hp,co.nd,co.rg,rA,#[O],#[O],hT,fun l rs qs H16 hl s16 h16 J9 hR16 J'=>⟨l,rfl,⟨_,nO.of h16⟩,zbE (K:=K) (a:=l) (xs:=rs.map V.ref) (fun i' σ H'=>∃ vt:Option V,σ = [some #[Pn],some #[Sd],some #[PC],some (.int (k:Int)),some #[Rq],some #[Tf],some #[Rr],some #[R5],some (.ref x),some (.ref da),some (.int (0+(j:Int))),some (.ref y),some (.int (T':Int)),some (.bl (dcd (Ph p k rows #[IO] m (T':Int)))),vt]/\zr H16 H') ⟨vt,rfl,fun _ _ e=>e⟩ (fun _ σ H' _ ⟨_,_,s'⟩=>nO.of (s' _ _ h16)) ?_ ?_⟩⟩))))
    ·rintro zD3 zT3 i' x1 σ Ka vd ⟨vt,rfl,Fi⟩;obtain⟨b,rfl,hb⟩:=zN vd;obtain⟨f,hf,hfb⟩:=Paired.get J9 hb;have Kb:=(J' f).mp (aL hf);have sx:=tQ.trans (Bh.trans (s16.trans Fi));refine (nN rfl (nN rfl (ex4 y _ _ _ ⟨rfl,rfl,nS.of (sx _ _ g1),rfl,(nN rfl (ex7 p k rr b ls rows f ⟨rfl,sx _ _ g2,g3.same sx,g4.1,g4.2.1,g4.2.2,Fi _ _ hfb,Kb.1,#[O],#[O],#[O],#[O],fun la fl H18 Bq s18 h18 oH xG EH=>⟨la,fl,rfl,nO.of h18,oH,fun M vS yU=>?_⟩⟩))⟩)));have hz:=zme hp k2 hP m0 J8 t1 Kb.1 (by have:=Kb.2; lia);have hM0:M=0:=zj0 xG EH hz M vS;subst hM0;exact (nR rfl rfl (nN rfl (zg3 (nN rfl (Fi.trans s18)))))
    ·rintro σ Ka ⟨vt,rfl,Fi⟩;exact fin Ka _ (s16.trans Fi)
   all_goals
    refine⟨bW _,fun L2 Ba=>?_⟩;have w16:=zb (o:=.lst []) Ba;refine⟨L2,rfl,⟨_,nO.of zc⟩,zhY (K:=K) (a:=L2) (xs:=[]) (fun i' σ H'=>σ = [some #[Pn],some #[Sd],some #[PC],some (.int (k:Int)),some #[Rq],some #[Tf],some #[Rr],some #[R5],some (.ref x),some (.ref da),some (.int (0+(j:Int))),some (.ref y),some (.int (T':Int)),some (.bl (dcd (Ph p k rows #[IO] m (T':Int)))),vt]/\H'=nQ H15 L2 (.lst [])) ⟨rfl,rfl⟩ (fun _ σ H' _ ⟨_,e⟩=>by rw [e]; exact nO.of zc) (fun i' x1 σ H' h=>by cases h) ?_⟩;rintro σ Ka ⟨rfl,rfl⟩;exact fin _ _ w16
  refine (nN rfl ⟨rfl,(nN rfl (zaR (fun _=>(nN rfl (rest x H9 s9 (hX8.same s9)))) #[BT]))⟩);refine (nN rfl (nN rfl (nN rfl (nR rfl rfl ⟨.inl #[v6],(nN rfl (nN rfl (nR rfl rfl ⟨.inl #[v6],(nR rfl rfl (nN rfl ⟨da,(nN rfl ⟨nO.of (s9 _ _ h8d),fun z hz=>?_⟩)⟩))⟩)))⟩))));have B4:dd.length=24:=Aj.1;rw [show (4:Int)*(0+(j:Int))=((4*j:Nat):Int) by lia,show ((4*j:Nat):Int)+4=((4*j+4:Nat):Int) by lia,zhu (by rw [aA]; lia),show 4*j+4 - 4*j=4 by lia,<- gi,<- d9];have Gn:=zb (o:=.lst (((dd.drop (4*j)).take 4).map V.int)) hz;refine (nN rfl (ex4 x z ((dd.drop (4*j)).take 4) p ⟨rfl,(hX8.same s9).same Gn,zc,by rw [aU,cP]; lia,fun d hd=>(Aj.2 d (f8 (eC hd))).1,#[O],#[O],fun y wF Bs hY=>?_⟩));exact rest y wF (s9.trans (Gn.trans Bs)) hY
end
structure Dn (K:aF) (x:Str) (st:Stmt) (f:Addr) (fd:FuncData):Prop where
 a:cD K mainGlobals x=some (some #[U0])
 f:Fun K x x st f fd
theorem zrL {x:Str} {i:Int} {u:Value} (y:cD K mainGlobals x=some (some u)) (r:RelV (.int i) u):∃ u,cD K mainGlobals x=some (some u)/\RelV (.int i) u:=⟨u,y,r⟩
theorem zrM {x:Str} {st:Stmt} {f:Addr} {sl:Array #[R3]} {kV dc:Value} (a:cD K mainGlobals x=some (some #[U0])) (l:K.lookup f=some ⟨oc,od,.func #[Rp],sl⟩) (c:iz K cd x=true) (k:iw K #[U0]=true):Dn K x st f #[Rp]:=⟨a,zmt l c k⟩
theorem el0 {n:Nat} (e:us.length=n+1):∃ a v,us=a :: v/\v.length=n:=by
 cases us with
 | nil=>cases e
 | cons a v=>exact⟨a,v,rfl,Nat.succ.inj e⟩
theorem el1 (e:us.length=1):∃ a,us = [a]:=by
 obtain⟨a,v,rfl,h⟩:=el0 e;exact⟨a,by rw [jl h]⟩
theorem el2 (e:us.length=2):∃ a b,us = [a,b]:=by
 obtain⟨a,v,rfl,h⟩:=el0 e;obtain⟨b,rfl⟩:=el1 h;exact⟨a,b,rfl⟩
theorem el3 (e:us.length=3):∃ a b c,us = [a,b,c]:=by
 obtain⟨a,v,rfl,h⟩:=el0 e;obtain⟨b,c,rfl⟩:=el2 h;exact⟨a,b,c,rfl⟩
theorem el4 (e:us.length=4):∃ a b c d,us = [a,b,c,d]:=by
 obtain⟨a,v,rfl,h⟩:=el0 e;obtain⟨b,c,d,rfl⟩:=el3 h;exact⟨a,b,c,d,rfl⟩
theorem zq6 {l:kd} {fa fl pN uI tF:Addr} (X:K.In h) (G:h.Ns mainGlobals mg) (yj:mg "law" = some #[SY])
  {sl:Array #[R3]} {kV dc:Value} (Bw:cD K mainGlobals "SlipError" = some (some (.ref pN))) (Fj:cD K mainGlobals "TooFew" = some (some (.ref uI))) (Ds:cD K mainGlobals "NoCurve" = some (some (.ref tF))) (vw:∃ f fd,Dn K "value_at" zcT f fd) (wW:∃ f fd,Dn K "inverse" zdr f fd) (tS:∃ f fd,Dn K "times_root" zbB f fd) (CJ:∃ f fd,Dn K "bent" zfW f fd) (wX:∃ f fd,Dn K "through" zds f fd) (rM:∃ f fd,Dn K "moved_powers" zbC f fd) (tT:∃ f fd,Dn K "numbers_at" za3 f fd) (tU:∃ f fd,Dn K "vectors_of" zbi f fd) (wY:∃ f fd,Dn K "without" zcF f fd) (qE:∃ f fd,Dn K "first_relation" zaF f fd) (uJ:∃ f fd,Dn K "first_sum" zbM f fd) (rN:∃ f fd,Dn K "heard_points" zbb f fd) (CK:∃ f fd,Dn K "fits" zfX f fd) (vz:∃ f fd,Dn K "width_of" zb8 f fd) (yz:∃ f fd,Dn K "filled" zdb f fd) (vA:∃ f fd,Dn K "terms_of" zb9 f fd) (yA:∃ f fd,Dn K "turned" zdc f fd) (yB:∃ f fd,Dn K "raised" zdd f fd) (wZ:∃ f fd,Dn K "size_of" zcG f fd) (AN:∃ f fd,Dn K "moved" zeg f fd) (uK:∃ f fd,Dn K "weight_at" zbN f fd) (sI:∃ f fd,Dn K "first_terms" zbm f fd) (sJ:∃ f fd,Dn K "least_curve" zaD f fd) (rO:∃ f fd,Dn K "check_curves" zbD f fd) (uL:∃ f fd,Dn K "curve_for" zbO f fd) (sL:∃ f fd,Dn K "paper_holds" zbn f fd) (w8:∃ f fd,Dn K "choices" zb2 f fd) (sM:∃ f fd,Dn K "all_through" zbo f fd) (vB:∃ f fd,Dn K "all_near" zca f fd) (yC:∃ f fd,Dn K "_law_cell" zeh f fd) (xa:∃ f fd,Dn K "_law_draws" zdt f fd) (yD:∃ f fd,Dn K "_law_code" zde f fd) (xb:∃ f fd,Dn K "_law_value" zdu f fd) (rP:∃ f fd,Dn K "_law_polynomial" zbc f fd) (AO:∃ f fd,Dn K "_law_row" zei f fd) (vC:∃ f fd,Dn K "_law_powers" zcU f fd) (vD:∃ f fd,Dn K "_law_choose" zcV f fd) (vE:∃ f fd,Dn K "_law_passes" zbd f fd) (xf:∃ f fd,Dn K "_law_times" zdv f fd) (xg:∃ f fd,Dn K "_law_along" zcH f fd) (sN:∃ f fd,Dn K "_law_with_root" zaP f fd) (xh:∃ f fd,Dn K "_law_paper" zb3 f fd) (yE:∃ f fd,Dn K "_law_bent" zdf f fd) (yF:∃ f fd,Dn K "_law_size" zdg f fd) (xi:∃ f fd,Dn K "_law_holds" zb4 f fd)   (sb:li K pN (.type "BaseException")=some true)
  (al:cD K mainGlobals "law" = some (some (.ref fl))) (ll:K.lookup fl=some ⟨oc,od,.func (fj "law" "law" (zcd zdG) (zbV zdG) (zi zdG) .none kV dc pm an cd ct),sl⟩) (cl:iz K cd "law" = true) (kl:iw K (.ref fl)=true) (Ot:cD K mainGlobals "len" = some none) (Gu:cD K mainGlobals "range" = some none) (Kc:cD K mainGlobals "list" = some none) (Gv:cD K mainGlobals "tuple" = some none) (Oo:cD K mainGlobals "min" = some none) (Oq:cD K mainGlobals "max" = some none) (Ou:cD K mainGlobals "int" = some none) (Kd:cD K mainGlobals "bool" = some none) (AQ:cD K mainGlobals "isinstance" = some none) (Ov:cD K mainGlobals "all" = some none) (Ol:cD K mainGlobals "zip" = some none) (Bx:cD K mainGlobals "enumerate" = some none) (Om:cD K mainGlobals "sum" = some none) (Ke:cD K mainGlobals "dict" = some none) (CL:cD K mainGlobals "reversed" = some none) (Fk:cD K mainGlobals "sorted" = some none) (AR:cD K mainGlobals "ValueError" = some none) (pR:∃ u,cD K mainGlobals "MOST_PAPER_WEIGHT" = some (some u)/\RelV (.int 4) u) :
  ∃ fd:FuncData,(∀ (s:Shared) (v:Value),BindsTo s fd ⟨[v],[]⟩ [("script",v)])/\∀ base:Heap,K.In base->base.Ns mainGlobals mg->Kn l.prog w K mg base CX0 9 fa fd ["script"] (zhf K):=by
 cases yj.symm.trans (jG X G al);obtain⟨K8,_,_⟩:=vw;obtain⟨Lm,_,_⟩:=wW;obtain⟨Kw,_,_⟩:=tS;obtain⟨Np,_,_⟩:=CJ;obtain⟨LP,_,_⟩:=wX;obtain⟨Kz,_,_⟩:=rM;obtain⟨K0,_,_⟩:=tT;obtain⟨KZ,_,_⟩:=tU;obtain⟨LO,_,_⟩:=wY;obtain⟨Ko,_,_⟩:=qE;obtain⟨Lh,_,_⟩:=uJ;obtain⟨Kj,_,_⟩:=rN;obtain⟨Nn,_,_⟩:=CK;obtain⟨K7,_,_⟩:=vz;obtain⟨Mz,_,_⟩:=yz;obtain⟨La,_,_⟩:=vA;obtain⟨Mr,_,_⟩:=yA;obtain⟨Ms,_,_⟩:=yB;obtain⟨LQ,_,_⟩:=wZ;obtain⟨MU,_,_⟩:=AN;obtain⟨Lg,_,_⟩:=uK;obtain⟨KQ,_,_⟩:=sI;obtain⟨KO,_,_⟩:=sJ;obtain⟨Km,_,_⟩:=rO;obtain⟨Li,_,_⟩:=uL;obtain⟨KN,_,_⟩:=sL;obtain⟨LX,_,_⟩:=w8;obtain⟨KR,_,_⟩:=sM;obtain⟨Lx,_,_⟩:=vB;obtain⟨Mv,_,_⟩:=yC;obtain⟨K2,_,_⟩:=xa;obtain⟨Mu,_,_⟩:=yD;obtain⟨LR,_,_⟩:=xb;obtain⟨KA,_,_⟩:=rP;obtain⟨MV,_,_⟩:=AO;obtain⟨Lu,_,_⟩:=vC;obtain⟨Lw,_,_⟩:=vD;obtain⟨Lv,_,_⟩:=vE;obtain⟨K1,_,_⟩:=xf;obtain⟨LW,_,_⟩:=xg;obtain⟨KP,_,_⟩:=sN;obtain⟨LU,_,_⟩:=xh;obtain⟨Mw,_,_⟩:=yE;obtain⟨Mt,_,_⟩:=yF;obtain⟨LV,_,_⟩:=xi
 let t:Adr:=⟨pN,uI,tF,K8,Lm,Kw,Np,LP,Kz,K0,KZ,LO,Ko,Lh,Kj,Nn,K7,Mz,La,Mr,Ms,LQ,MU,Lg,KQ,KO,Km,Li,KN,LX,KR,Lx,Mv,K2,Mu,LR,KA,MV,Lu,Lw,Lv,K1,LW,KP,LU,Mw,Mt,LV,fa⟩
 have T:Txt K mg t:=by constructor <;> first | assumption | exact PySem.W.mg_none_of X G ‹_› | exact jG X G ‹_› | exact jG X G (Dn.a ‹_›) | exact⟨_,Dn.f ‹_›,(Dn.f ‹_›).binds fun _ _ _ _ _ _ _ h=>by first | (obtain⟨_,rfl⟩:=el1 h; exact rfl) | (obtain⟨_,_,rfl⟩:=el2 h; exact rfl) | (obtain⟨_,_,_,rfl⟩:=el3 h; exact rfl) | (obtain⟨_,_,_,_,rfl⟩:=el4 h; exact rfl) | (obtain⟨_,_,_,_,_,rfl⟩:=el5 h; exact rfl)⟩ | exact (by obtain⟨u,e,q,r⟩:=pR; subst r; exact⟨q,jG X G e⟩) | exact⟨‹_›,‹_›,‹_›,‹_›,‹_›,‹_›,‹_›,‹_›,‹_›,‹_›,‹_›,⟨‹_›,‹_›,‹_›,‹_›,‹_›,‹_›⟩,‹_›⟩
 have FL:=zmt (st:=zdG) ll cl kl;exact⟨fj "law" "law" (zcd zdG) (zbV zdG) (zi zdG) .none kV dc pm an cd ct,fun s v=>.of_eq rfl,fun base _ _=>zq5 (t:=t) T FL⟩
theorem walk {l:kd} {q:Program} {loose:List Str} {XP:#[UI]->Heap->Prop} {YP:World->Heap->Prop} {d:DefRec} {K:Params->aF} (hn:l.most=some 63) (Dz:d.params.defaults = []) (hY:∀ (w:World) (h:Heap),YP w h->#[Qt].In h)
  (F:∀ (w:World) (mg:Str->Option Value) (fa:Addr) (h:Heap),#[Qt].In h->h.Ns mainGlobals mg->mg d.name=some #[SY]->∃ fd:FuncData,(∀ (s:Shared) (u:Value),BindsTo s fd ⟨[u],[]⟩ [("script",u)])/\∀ base:Heap,#[Qt].In base->base.Ns mainGlobals mg->Kn l.prog w #[Qt] mg base CX0 9 fa fd ["script"] (zhf #[Qt])):nF q loose XP YP l.row.toRowW d [] #[UF] :=
 L2.zou (n:=63) (k:=9) (x:="script") (CX:=fun _=>CX0) (sp:=fun w=>zhf #[Qt]) hn #[D] Dz ⟨rfl,#[D],#[D]⟩ hY F (fun _ _ a ns hl _ hS=>⟨a,ns,rfl,hS,hl,fun _=>rfl⟩) fun _ _ _ _ _ z=>z
end My
namespace PySem.W.Fast
def tw5582263315186418475:=0
def tw9190728262112600499:=0
def tw821175887077234342:=0
def tw6989151322400275927:=0
def tw7670233696708533260:=0
def tw12403961464983484395:=0
def tw6763742292437267116:=0
def tw2932638602870642680:=0
def tw9108983323654954435:=0
def tw7542703168766852656:=0
def tw9201638885472238703:=0
def tw1800294881974218734:=0
def tw18049032320289410973:=0
def tw7062208999851919122:=0
def tw11007412781029684098:=0
def tw15823403883487636983:=0
def tw8527429295153078838:=0
def tw4756770191318581128:=0
def tw12828405540221582859:=0
def tw8629489419278442400:=0
def tw16772543908670689696:=0
def tw7461591215601689436:=0
def tw17841947199185705801:=0
def tw13085994637438079990:=0
def tw13248730564536350894:=0
def tw16901363685088735759:=0
def tw14951532096377967270:=0
def tw7193799046714699678:=0
def tw4426790182412143118:=0
def tw12329219690110851611:=0
def tw14270181830929122484:=0
def tw5622407908345319166:=0
def tw4145980291900307782:=0
def tw11121393782445638071:=0
def tw9851047130124855785:=0
def tw14352070125135861099:=0
def tw14581198182554367537:=0
def tw5521411958602598710:=0
def tw14639253498794338055:=0
def tw14394460900152059941:=0
def tw13505422516296504374:=0
def tw2970705063202269772:=0
def tw17174482828828059572:=0
def tw9695460170318187283:=0
def tw1020205264523665595:=0
def tw5461643544156488936:=0
def tw18304197333138753522:=0
def tw8914489549365802599:=0
def tw10401821698814860771:=0
def tw3138418241760212877:=0
def tw7849721297507990268:=0
def tw6646653246148482381:=0
def tw5311506110577825456:=0
def tw13887212220545274348:=0
def tw13319765983183099831:=0
def tw935079742252027241:=0
def tw547913025345258799:=0
def tw4591122368913373349:=0
def tw9188040536625946420:=0
def tw4463679486597598524:=0
def tw13359151423094286666:=0
def tw9461039270592955760:=0
def tw15959016601942573725:=0
def tw3662919140799431838:=0
def tw4038027401917269511:=0
def tw9814772821297522871:=0
def tw15865989819671324188:=0
def tw9821994916311300912:=0
def tw10440665630738845189:=0
def tw1856531239347462846:=0
def tw10863948997685062793:=0
def tw6211895482143726605:=0
def tw12299726776450184639:=0
def tw5708762488361397768:=0
def tw10011510539012109599:=0
def tw4806293720336854730:=0
def tw10758487128302176785:=0
def tw12849552930832685097:=0
def tw4225938709657782628:=0
def tw13961417687160721105:=0
def tw3091338568847592334:=0
def tw5945766498442838239:=0
def tw3661815933687396381:=0
def tw2118485927268004799:=0
def tw2593711657966138112:=0
def tw5310014517973093986:=0
def tw18305033917639796287:=0
def tw12050379972363274083:=0
def tw17083015777537642439:=0
def tw12441777730460143587:=0
def tw1153037839422778300:=0
def tw16658203870147794464:=0
def tw2186305454337875282:=0
def tw5997879520304893256:=0
def tw7917033392201104093:=0
def tw15163976918286634604:=0
def tw15315386019588302667:=0
def tw1716750867118478434:=0
def tw6383043350006494689:=0
def tw3892376751635264648:=0
def tw15870134533826318082:=0
def tw2386634476656250983:=0
def tw2150578029357223726:=0
def tw13558699589603736552:=0
def tw11422991238432704519:=0
def tw13334682769591538575:=0
def tw9238684445146267266:=0
def tw9652597333118652994:=0
def tw8380306151475447927:=0
def tw16139788914626167475:=0
def tw13314261860639106592:=0
def tw12803516513505727606:=0
def tw14458688567011935515:=0
def tw6385534288240025900:=0
def tw14562473259209876805:=0
def tw4238480629546404014:=0
def tw15267044407099090140:=0
def tw1328395431113065303:=0
def tw12588843342040921155:=0
def tw3801466800006576117:=0
def tw12740136838166608648:=0
def tw12979055490046944175:=0
def tw6108193995974494090:=0
def tw1952720342307164230:=0
def tw18109440870733196527:=0
def tw1010136262549302872:=0
def tw2322828282995978994:=0
def tw130718386544826921:=0
def tw326419070002088514:=0
def tw3843266727658168047:=0
def tw13106823530628722351:=0
def tw12358728959596268653:=0
def tw13380606469977390352:=0
def tw13995113737818023643:=0
def tw7232314874540061876:=0
def tw1620550361106333911:=0
def tw17808166146053586385:=0
def tw7811807890777336767:=0
def tw10529739246216303637:=0
def tw9586273700433125619:=0
def tw17827795381758770229:=0
def tw7987996975765572552:=0
def tw17739588075280263999:=0
def tw15859297174082911391:=0
def tw11848626108745656149:=0
def tw3775915776005235390:=0
def tw651342459710125914:=0
def tw14414654287502131067:=0
def tw6887485797770828128:=0
def tw13178938467911232278:=0
def tw2897928602728858257:=0
def tw15632413567437725889:=0
def tw4804752027963293275:=0
def tw16113769781666243512:=0
def tw3164546853639931464:=0
def tw12013677209669913325:=0
def tw13471126160351141293:=0
def tw1165851827678989187:=0
def tw18318988823582549575:=0
def tw2971385985058373261:=0
def tw5043226262485922848:=0
def tw14036671197531074268:=0
def tw17854929046876048555:=0
def tw7414476333944080840:=0
def tw8608157938110182539:=0
def tw13899163908998277988:=0
def tw12117534150148319258:=0
def tw14453272619442843894:=0
def tw4993190169070503471:=0
def tw6329926736276512476:=0
def tw11627710989510163138:=0
def tw10498691483656659796:=0
def tw16813095416196565539:=0
def tw2062948797784111684:=0
def tw14866433261016775187:=0
def tw8714179130303205204:=0
def tw11855158297263177464:=0
def tw9299397780262422434:=0
def tw12211635086163099019:=0
def tw4741417286577816446:=0
def tw8178747609009742021:=0
def tw14095155342915850212:=0
def tw1572101177125106676:=0
def tw8506477943987022228:=0
def tw13270421939364263078:=0
def tw10321355604369389822:=0
def tw3253098043390839781:=0
def tw6875984441727030313:=0
def tw5893237803288565875:=0
def tw12770361752459479291:=0
def tw14429360871936341598:=0
def tw3086172273281166233:=0
def tw7316238023109714902:=0
def tw7014854822301068523:=0
def tw10830033515415829113:=0
def tw2075161061926607905:=0
def tw17011489135532472619:=0
def tw14916725488060736695:=0
def tw8604792600866002374:=0
def tw4611183577866890885:=0
def tw18373480963668606333:=0
def tw4565888880412942049:=0
def tw17320699379647184741:=0
def tw6767901415021236599:=0
def tw7476984029814734705:=0
def tw9783396974180512427:=0
def tw5077353789461855715:=0
def tw16877906998053955277:=0
def tw15671286389726991865:=0
def tw17125825445971186301:=0
def tw7873180000726015991:=0
def tw16322451020149852792:=0
def tw14093583653530147649:=0
def tw850221852320469136:=0
def tw9676341299636170598:=0
def tw10576083844930375197:=0
def tw14890521792873993277:=0
def tw17325712478179005945:=0
def tw733704198941315458:=0
def tw13773284089537270619:=0
def tw11899364931759041461:=0
def tw4808795190600732086:=0
def tw12489782577182826905:=0
def tw3745294407540438879:=0
def tw17048328528048562371:=0
def tw3638807611380134676:=0
def tw388859833440814257:=0
def tw8745366089213377111:=0
def tw2200915677631982185:=0
def tw15510553010965411003:=0
end PySem.W.Fast
open PySem PySem.W
open PyProof.Rows
set_option maxHeartbeats 0 in
theorem PySem.Challenge.cw_slipcurve_k18_whole_papers_judged_holds : PySem.Challenge.rw_slipcurve_k18_whole_papers_judged.Holds := by
 w_on; o_law; k_head; (case hw=>w_witness2)
 k_fill
 refine My.walk (l:=PySem.Challenge.rw_slipcurve_k18_whole_papers_judged) rfl rfl (fun w h Y=>PySem.W.kIn_of Y) ?F
 case F =>
  intro w mg fa h KX G hmg;refine' My.zq6 KX G hmg ?aa ?ab ?ac ?ad ?ae ?af ?ag ?ah ?ai ?aj ?ak ?al ?am ?an ?ao ?ap ?aq ?ar ?as ?au ?av ?aw ?ax ?ay ?az ?a0 ?a1 ?a2 ?a3 ?a4 ?a5 ?a6 ?a7 ?a8 ?a9 ?ba ?bb ?bc ?bd ?be ?bf ?bg ?bh ?bi ?bj ?bk ?bl ?bm ?bn ?bo ?bp ?bq ?br ?bs ?bt ?bu ?bv ?bw ?bx ?bz ?b0 ?b1 ?b2 ?b3 ?b4 ?b5 ?b6 ?b7 ?b8 ?b9 (My.zrL ?ca ?cb)
  (case aa|ab|ac=>k_is)
  (case ad|ae|af|ag|ah|ai|aj|ak|al|am|an|ao|ap|aq|ar|as|au|av|aw|ax|ay|az|a0|a1|a2|a3|a4|a5|a6|a7|a8|a9|ba|bb|bc|bd|be|bf|bg|bh|bi|bj|bk|bl|bm=>(refine' ⟨_,_,My.zrM ?a ?b ?c ?d⟩; case a|b|c|d=>k_is))
  (case bn|bo|bp|bq|br|bs|bt|bu|bv|bw|bx|bz|b0|b1|b2|b3|b4|b5|b6|b7|b8|b9|ca=>k_is)
  (case cb=>exact⟨_,rfl⟩)
#print axioms PySem.Challenge.cw_slipcurve_k18_whole_papers_judged_holds
end