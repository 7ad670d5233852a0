import PyProof.Rows.All
import Wide.All
import OpenK.AllK
import Wide.FinOn
import PyProof.EqAt
import PyProof.EqKinds
import PyProof.TupleCall
import Lean
import PySem.Challenge.RW_twinriddles_k45_whole_spans_and_stays
set_option Elab.async false
set_option linter.all false
set_option maxRecDepth 100000
set_option maxHeartbeats 8000000
set_option compiler.extract_closed false
set_option backward.eqns.nonrecursive false
noncomputable section
open List renaming length->Ls
namespace RfL
theorem r{a:α}:a=a:=rfl
end RfL
open RfL renaming r->H,r->K3
open Option renaming some->Y,some->J4,none->I,none->KE
open Bool renaming true->J,true->K0,false->C,false->K2
open And renaming intro->eh
open Array renaming length_toList->kL,getElem?_toList->lK,getElem?_eq_getElem->qk,getElem?_eq_some_iff->R7,getD_eq_getD_getElem?->wC,getElem?_setIfInBounds->El,getElem?_eq_none->Ek,forIn_toList->Ei,getElem?_eq_none_iff->VW,append_assoc->II,getElem?_replicate->Nv,mem_toList_iff->YO,toList_eq_nil_iff->YN,toArray_toList->Nd,toList_append->M9,toList_push->eu,replicate->eP,getD->fm,size_zip->l7,size_map->mi,toList->n5,ext->u6
open Bool renaming false_eq_true->jy,false_ne_true->ku,and_eq_true->kU,not_true->qO,or_eq_true->yZ,true_and->yV,eq_iff_iff->yQ,not_eq_true'->c4,not_false->dR,false_and->dU,and_false->fx,and_assoc->fy,and_self->fK,eq_false_iff->ka,noConfusion->k4,decide_and->l5,or_false->n1,false_or->n3,true_or->p0
open False renaming elim->aK
open ForInStep renaming yield->bw
open Function renaming comp_def->sQ,comp->aX
open Int renaming toNat_natCast->tQ,mul_one->Bf,emod_lt_of_pos->HP,emod_nonneg->HN,fdiv_eq_ediv_of_nonneg->NQ,natCast_inj->mL,add_comm->sB,neg_neg->u0,mul_neg->u5
open LawfulBEq renaming eq_of_beq->vZ
open LawfulMonad renaming bind_assoc->tN,pure_bind->sx
open List renaming mem_map->lg,map_cons->jG,mem_cons_self->jc,length_map->jf,getElem?_eq_getElem->jg,mem_cons_of_mem->ji,size_toArray->jq,all_eq_true->kf,map_map->jx,mem_cons->mz,mem_filter->qg,getElem?_map->kl,mem_append->qh,length_cons->kO,getElem?_eq_some_iff->wa,getD_eq_getElem?_getD->lO,mem_of_getElem?->mq,pairwise_map->mT,getElem?_set_ne->mD,length_append->mX,mem_singleton->AO,map_congr_left->mW,nodup_nil->nH,pairwise_append->tu,mem_append_right->oU,append_assoc->oT,lookup_cons->oS,pairwise_cons->Dr,mem_map_of_mem->oR,mem_range->wx,getElem?_append_right->pB,getElem?_append_left->pA,not_mem_nil->ql,map_append->qj,getElem?_of_mem->sP,map_id->sM,getElem?_set_self->tU,nodup_cons->Am,length_take->tR,length_set->vY,nodup_iff_pairwise_ne->Dq,filterMap_cons->xM,append_nil->xH,foldl_cons->rP,length_eq_zero_iff->M4,length_nil->rK,mem_flatMap->vN,length_filter_le->rJ,replicate_succ->ui,map_nil->uh,exists_cons_of_length_pos->tZ,mem_of_mem_take->tY,any_map->wR,ext_getElem?->wQ,take_append_drop->wM,length_pos_iff->R8,zip_cons_cons->wK,getElem?_cons_succ->wD,isEmpty_nil->wA,any_eq_true->EM,any_cons->wz,nil_append->wy,take_sublist->zj,flatten_cons->zi,getElem?_set->zg,all_cons->zf,all_map->ze,drop_eq_getElem_cons->zd,pairwise_reverse->IK,getElem_mem->yU,find?_cons->yS,nodup_append->AA,mem_append_left->Bh,length_singleton->Bb,getElem?_zip_eq_some->F6,ext_getElem->A9,getElem_map->A8,drop_eq_nil_of_le->A7,range'_succ->A4,reverse_perm->A0,eq_nil_of_length_eq_zero->AZ,eq_nil_or_concat->AY,concat_eq_append->AX,take_of_length_le->AW,filter_congr->AR,getElem_inj->EL,getElem?_replicate->EH,perm_middle->R6,getElem_of_mem->Es,extract_eq_take_drop->Er,mem_of_mem_drop->Ep,mem_erase_of_ne->Em,length_eraseIdx->Eh,perm_ext_iff_of_nodup->Ee,of_mem_zip->IC,getElem?_take_of_lt->IB,length_replicate->IA,length_dropLast->Im,forIn_cons->Il,getElem?_zipIdx->Ii,pairwise_iff_getElem->Sd,drop_sublist->HX,take_succ->HW,pairwise_lt_range->Sb,map_take->HM,getElem?_eq_none_iff->YG,perm_cons_erase->HB,dropLast_concat_getLast->HA,filter_eq_self->YF,filter_map->Hz,flatMap_cons->Hw,filter_cons_of_neg->Hv,eraseIdxIfInBounds_toArray->NG,length_reverse->NA,pairwise_singleton->Nz,length_eq_one_iff->YQ,perm_append_comm->U2,length_erase_of_mem->Ny,filterMap_append->Nx,perm_append_singleton->Nw,dropLast_eq_take->Nc,dropLast_subset->M8,length_pos_of_mem->M7,replicate->ah,range->am,range'->bu,getElem?_drop->cX,filter_append->cY,mem_reverse->c5,length_drop->c6,getElem?_cons_zero->c7,filter_cons_of_pos->c8,cons_append->c9,range_succ_eq_map->dk,Nodup->dq,length->dQ,replicate_zero->ee,mem_filterMap->em,foldl->en,take_take->fv,map->fw,getLastD_eq_getLast?->fD,eraseIdx_cons_succ->fO,getElem?_eq_none->gc,contains_eq_mem->gi,zip_nil_right->gX,getElem_range->g8,filterMap_map->hC,length_range->j4,foldl_append->j5,any_eq_false->j7,map_fst_zip->kS,getLast_mem->kT,set_append->lV,map_id'->pC
open List.Pairwise renaming imp_of_mem->AQ,nil->cx,sublist->sm,of_map->sn,and->ss
open List.Perm renaming refl->wI,of_eq->Hy,append_left->Nt,trans->gj,swap->gl,cons->gm,eq_of_pairwise->Fa
open List.cons renaming inj->wL,injEq->yT
open Nat renaming le_refl->jM,ne_of_lt->kd,le_trans->kW,zero_le->lP,lt_of_lt_of_le->oq,lt_irrefl->qP,ne_of_gt->sV,pow_succ->vT,lt_succ_of_lt->rO,mul_assoc->rL,le_of_lt->uk,zero_add->uc,mul_add->wH,mul_comm->wG,pow_le_pow_right->wF,add_assoc->zc,mul_one->yY,mod_lt->yX,le_succ->Bc,min_eq_left->AV,lt_trans->ED,lt_succ_self->EB,not_lt->VX,add_sub_cancel_left->Et,mul_left_comm->En,lt_asymm->Ik,one_mul->HR,mul_zero->HQ,lt_of_le_of_lt->HC,add_mul->d0,sub_add_cancel->j1,lt_or_eq_of_le->j2,add_sub_cancel->j3,le_succ_of_le->kA,le_of_not_lt->lA,two_pow_pos->mo,mul_add_mod->ms,le_antisymm->mu,div_add_mod->mA,lt_or_ge->rs,le_of_eq->r0,add_zero->r6,add_comm->sa,add_mod->uu
open Ne renaming symm->tX
open Option renaming bind_some->ju,isSome_iff_exists->NT,isSome_map->HH,map_eq_some_iff->fI,isSome_some->gg,getD_some->gO,getD_none->gV,map->px
open Option.some renaming inj->kz
open Or renaming inl->aW,inr->bB
open Ordering renaming swap->eR
open Prod.mk renaming inj->tM
open PyProof.Rows renaming SortSt->tJ,listUpdate_at->wJ,slot_tuple_getitem->CY,get?_update_seq->za,seqEpoch_at->AU,boot_range->EK,callWith_type1->IE,listItems_at->HV,entry_tuple_getitem->NN,subscriptTail_builtinR->NM,envOfC->aT,seqObj->bf,IntsAre->dY,AllBare->dZ,Keyed->d9,arrOf->eO,failedOf->fj,SortKind->lv,IsTup->lw,args_tuple_getitem->n0,wpAny_notIn_heap->rp,lt_int->tv,le_int->tz,gt_int->tV,ge_int->t0,entry_list_sort->t6,callWith_type0->ul,callWith_builtin1->ut,slot_list_sort->ww,slicePart_none->wE,oneType'->wP,keyLt'->wS,tupleItemsOf_->At,subscriptTail->AC,reverseSlice'->AT,tuples'->Db,plain_sorted->Do,isTrue_plain->D0,entry_sorted->Ev,call_abs_int->EQ,kind_sorted->J0
open PyProof.Rows.F renaming plain_set_update_loop->HI,entry_set_update_loop->Np
open PyProof.Rows.IsTup renaming new->EF
open PySem renaming Shared->ie,Program->iL,Around->iE,World->iD,SetTable->mB,Value->ir,Comprehension->oj,FuncData->mS,Heap->iK,Addr->hJ,wpAny_bind->hV,wpAny_pure->iw,sizeLine_eq->jT,wpAny_holding->lz,wpAny_mono->nI,wpAny_call_entry->oo,wpAny_newObj_type->om,codeAny_mono->qm,mem_of_lookup->sU,codeAny_builtin->sO,wpAny_field->tP,wpAny_setState_of->tL,wpAny_of_eq->vV,wpAny_truthy_bool->xK,wpAny_standAt->xJ,wpAny_Call_Name_kw->xG,wpAny_callSpecial?_slot->xF,wpAny_askSetting->ug,wpAny_rule->uf,codeAny_of_tree->ue,wpAny_attempt->ud,wpAny_passesOwn->wV,wpAny_typeOf->wU,plainId_quiet->wO,wpAny_setField->wN,wpAny_specialOf->wB,wpAny_call->zk,call_meets->zh,wpAny_forIn_list->zb,wpAny_load->Bg,wpAny_pyIter_list->Be,wpAny_alloc->Ba,wpAny_setField_rec->A6,wpAny_isInstance->A5,tupleKind_room_in1->AS,concat_meets->EG,wpAny_seqItems->Ez,codeAny_call_builtin->Eu,wpAny_newList->Eo,wpAny_isSame_ref_self->Ej,wpAny_typeNameOfWhole_keyiter->Ef,wpAny_pyHash_int->IJ,wpAny_execs_nil->IH,wpAny_execs_cons->IG,wpAny_pyIter_tuple->IF,noFill_tuple_add->Iz,seq_tuple_add->Iy,seqIndex_of->Ir,seqIndex_neg->Iq,wpAny_comprehension_free->Ij,wpAny_runValue->Ih,wpAny_handled->Ig,wpAny_throw->Ie,wpAny_newTuple->Ic,isSubtype_stop->Ib,weight_type_call_type->HZ,wpAny_collect_seq->HS,isSubtype_type->HL,wpAny_pyIter_slot->HK,wpAny_setEntries_of->HJ,wpAny_dictEntries->HG,wpAny_dictEpoch->HF,codeAny_call_function->NO,wpAny_Call_method_late->NK,builtinLookup_eq_fast->Nu,wpAny_isOneOf_keyiter->Nh,wpAny->af,starEach->ag,model->aj,mainGlobals->ap,foldedSetIterable->aw,Str->ay,compareOp->aA,backTo->aF,bootBuiltins->aH,assignEach->aI,eval->aQ,cLine->aS,binaryOp->aU,Stmt->aV,Builtin->bb,Arguments->bi,cellsFrom->bo,Pos->bq,sysModules->br,keywordEach->bM,holding->bV,clausesOf->bY,attributeBase->b3,standAt->b4,assign->b5,codeAny->b8,pyNext->b9,firstArgMember->cn,backToKw->cq,CmpOp->cB,swapsWith->cH,checkBuiltinCall->cI,behindInMarks->cO,Keyword->cP,sliceBounds->cQ,NameKind->cS,pyIter->c1,Sem->da,Env->db,ofAClassStatement->dc,rawInt->dA,IsPart->dG,tupleKind->dH,codeAmong->dL,DictEntry->dM,IsEnum->dW,letOwnedTupleGo->d1,bindArgs->et,getItem->ew,PassesOwn->ey,Obj->eE,swapsWithSole->eF,swappedStores->eG,collect->eV,callerA->eX,GenState->fe,BindsTo->fg,pickOrder->fB,hashByValue->fF,valueAt->fP,setsByText->fU,newFunctionEnv->f3,builtinsNs->f4,argsOk->f5,Model->ga,comprehension->gk,scanBound->gn,list_append->gu,compStart->gA,bindL->gC,bindC->gD,atKey->gE,TriplesOk->gH,IsEnumOut->gM,truthy->hD,spliced->hE,setItem->hH,relabel->hW,newExc->hZ,intKind->h9,Result->i5,ItemsOf->j0,wants->k5,unsupported->k6,slotArgs->k7,setField->k8,newTuple->k9,entryFor->la,compTurn->lb,wpAny_Name->m4,typeOf->m8,typeLookup->m9,typeIs_int->na,setAdd->nf,closureFor->nw,wpAny_storeSet_of->n6,wpAny_sequenceKey->n7,wpAny_pyIter_enum->n9,wpAny_Return_some->oC,slot_list_getitem->oO,searchCouldBeSeen->o4,newList->o8,field->pc,Tok->pw,seqIndex?->p4,noteFrame->p5,eqIsQuiet->p6,call->p9,beq_builtin_none->qs,wpAny_updateSeq->sK,wpAny_loadPart'->s8,typeLookup_type->s9,theWindowsPlace->ta,size_of_entries->tc,pushCells_keeps->te,Fin->th,wpAny_notIn_of->u8,wpAny_fieldsOf->vl,table->vr,raiseNew->vu,newSet->v6,fitsIndex_both->v7,entryFor_alias->v9,contains->wf,compPost->wl,cellOf->wn,Walks->wr,wpAny_notedAt->wT,wpAny_in_heap->w5,setSearchFrom->w6,rangeSize_one->xc,intBits_le_64->xf,evalPart_none->xl,checkTypeCall->xn,call_list_seq->xt,assignInOrder->xx,unaryOp->A1,sub_set_self->A2,setAddHashed->Bn,release->B0,name_of_addr->B1,codeAny_func->B2,call_range_2->B4,callAny->Ch,IsRange->CL,wpAny_letGo->Fk,wpAny_in_of->FM,subscripted->F0,setContains->F2,interactive->Gc,Moved->IR,Meets->IX,IsRangeIter->I8
open PySem.Around renaming under_plainId->rM,under_plain->H9,frames_deeper->NP
open PySem.Builtin renaming bitAnd->bW
open PySem.Builtin.Frozenset renaming addrOf->bO,oneOther->cb,newClass->dN,withSetAsKey->lf,updateFrom->li,slot0->lm,sizeOf->lr
open PySem.Builtin.List renaming listTooLong->cG,listExtendWith->el,listSameRef->eA,listLengthHint->tp,listFitsIndex->ts
open PySem.Builtin.Range renaming rangeSize->ez,small->ro
open PySem.Builtin.Slice renaming slicePlaces->bR,sliceAdjust->cu,sliceApplied->ek,slicePartIndex->rc,sliceFields->re
open PySem.Builtin.SmallTypes renaming fitsIndex->bg,nextOf->bN,ownedTupleHandOut->cW,ownedTupleIsFree->c3
open PySem.Builtin.Tuple renaming tupleHashOf->aY,tupleExact->bc,tupleItemsOf->ck,tupleIsExact->ej,tupleCompareSizes->q7
open PySem.Calls renaming spliced_cons->EJ,spliced_nil->ID,callWith_builtin->Io,Name_function_global->NS,evalArgs_plain->NJ
open PySem.Code renaming quiet_builtin->Ia
open PySem.Expr renaming Name->eL
open PySem.F renaming called_set->F4,slot_tuple_hash->J6,slot_dict_keyiterator_next->Ds,slot_enumerate_next->Ew,plain_set_new->Eg,slot_tuple_add->Iw,entry_tuple_add->Iv,args_tuple_add_2->Iu,called_tuple->Se,slot_set_contains->M3,plainAttrs_list->HE,slot_set_add->HD,entry_list_append->NI,args_list_append_2->NH,entry_object_init->NF,slot_tuple_iterator_next->ND,entry_enumerate_next->NC,args_enumerate_next_1->NB,slot_set_iter->Nr,plain_list_iadd->Nq,entry_set_new->Nn,entry_type_call->Nm,entry_set_init->Nl,slot_dict_iter->Nk,entry_dict_keyiterator_next->Nj,args_dict_keyiterator_next_1->Ni,slot_list_pop->Ng,type_list_pop->Nf,entry_set_add->Nb,args_set_add_2->Na
open PySem.Heap renaming lt_size->jW,get?_push_of_some->jU,get?_push_size->km,size_push->vX,get?_update_self->uj,get?_update_other->EE,get?_update_ne->HU,SameBut->aM,ExtBut->dP
open PySem.Heap.SameBut renaming update->sN,refl->EC
open PySem.NameKind renaming free->aJ,cell->cg
open PySem.Obj renaming data_mapFields->vU,isFreed_of_fields->Ey,cls_mapFields->Ex,mapSeq->aO,mapFields->fL,putSet->jp
open PySem.Paired renaming length->um
open PySem.SeqAt.EqAt renaming str_int->fG,int_str->fH,same->fQ,str_str->xz,str_none->x0,str_bool->x8,none_str->x9,none_int->yA,none_bool->y4,int_none->y9,int_int->zn,int_bool->zx,bool_str->z0,bool_none->z7,bool_int->z8,bool_bool->z9
open PySem.SetTable renaming below->au,insertAt->ax,runEnd->aE,bits->aL,turns->bT,leap->ce,Probe->cA,sizeAbove->dO,grown->eJ,layClean->f9,tooFull->gf,fresh->gJ,slot->ij,laid->io,fits->i3,fill->i4,put->kv,sameMemory->Go,relaid->Is,has->Ix,gaveWay->IN,advance->ad7
open PySem.SetTable.layClean renaming free->bI
open PySem.SetTable.probe renaming go->dg
open PySem.Str renaming ofString->bn
open PySem.Value renaming none->av,ref->bj,type->ci,bool->e9,str->ia,int->ib,isStrOf->mj,builtin->mm,isInt->pp
open PySem.W renaming Frag->iJ,mg_none_of->oQ,kia_one->rN,cellsFrom_some->EI,nsIn->aP,fnOf->bD,keepIn->ca,codeIn->cN,kitOne->dD,methodObj->ei,callWith_K->f8,mg_of->kb
open PySem.Walks renaming list->EA
open StateT renaming run_pure->HY
open Sum renaming inr->eC,inl->eD
open True renaming intro->bv
open PySem PySem.Spec PyProof.Rows
section
abbrev iY:=ir->ie->Prop
abbrev iX:=List<|hJ×eE
abbrev iC:=List<|List Int
abbrev ig:=List Int
abbrev jr:=List ir
abbrev lN:=ay->Option ir
abbrev jw:=List Nat
abbrev vM:=Array<|Int×ir
abbrev oA:=Array ir
abbrev iI:=List ay
abbrev kj:=List Expr
abbrev vS:=Bool->ie->Prop
abbrev J5:=Option ir->ie->Prop
abbrev zW:=ir->ir->da ir
abbrev xE:=Array<|Option Nat
abbrev AN:=Array<|Option ir
abbrev jQ:=List<|ay×hJ
abbrev pv:=List oj
abbrev Dp:=Array d9
abbrev jK:=Nat->Prop
abbrev ki:=List hJ
abbrev jb:=Scope
abbrev iq:=Expr
end
section
open PySem.SeqAt
theorem iz:type_of% @if_pos:=@if_pos
theorem iG:type_of% @if_neg:=@if_neg
theorem jS:type_of% @if_false:=@if_false
theorem kI:type_of% @if_true:=@if_true
theorem lh:type_of% @decide_eq_true:=@decide_eq_true
def mr:=@decide_eq_false
def mC:=@congrArg
theorem pz:type_of% @decide_eq_true_eq:=@decide_eq_true_eq
theorem vW:type_of% @bne_self_eq_false:=@bne_self_eq_false
theorem CZ:type_of% @beq_eq_false_iff_ne:=@beq_eq_false_iff_ne
def yW:=@of_decide_eq_true
theorem yR:type_of% @decide_true:=@decide_true
def Hx:=@forall_congr'
end
namespace TT
noncomputable def MN(mask:Nat)(p:cA):SetTable.Probe:=
 if p.more>0 then {p with j:=p.j+1,more:=p.more-1} else
 {p with j:=(ce mask p.i p.perturb).1,more:=aE mask (ce mask p.i p.perturb).1-(ce mask p.i p.perturb).1,i:=(ce mask p.i p.perturb).1,perturb:=(ce mask p.i p.perturb).2}
noncomputable def SS(mask:Nat)(h:Int):SetTable.Probe:={j:=aL h%(mask+1),more:=aE mask (aL h%(mask+1))-aL h%(mask+1),i:=aL h%(mask+1),perturb:=aL h,dummy:=I}
def pr(mask:Nat)(h:Int):Nat->cA
 |0=>SS mask h
 |n+1=>MN mask<|pr mask h n
structure Av(hs:ig)(t:mB):Prop where
 pow: ∃k,3<=k/\k<=11/\t.mask+1=2^k
 dum:t.dummies= #[]
 len:t.place.size=Ls hs
 room:5*(Ls hs)<3*t.mask
 ris:t.place.toList.Pairwise (· < ·)
 bd: ∀j∈t.place.toList,j<=t.mask
 road: ∀(i:Nat) (h:Int) (j:Nat),hs[i]?=J4 h->t.place[i]?=J4 j-> ∃n,(pr t.mask h n).j=j/\ ∀m,m<n->(pr t.mask h m).j∈t.place.toList
end TT
namespace L2
abbrev Key:=Sum Int ay
noncomputable def BX:Key->ir->Bool
 | .inl k,v=>pp k v
 | .inr x,v=>mj x v
noncomputable def aci(w:iD):Key->Int
 | .inl k=>hashInt k
 | .inr x=>hashStr w x
def kM: ∀{k:Key} {v:ir},BX k v=J->(∃i t,k=eD i/\v=ib i t)\/(∃x t,k=eC x/\v=ia x t)
 | .inl i,v,h=>by obtain⟨t,e⟩:=Value.isInt_shape (k:=i) (v:=v) h;exact .inl ⟨i,t,rfl,e⟩
 | .inr x,v,h=>by obtain⟨t,e⟩:=Value.isStrOf_shape (x:=x) (v:=v) h;exact .inr ⟨x,t,rfl,e⟩
def afK(i:Int)(t:pw):BX (.inl i) (.int i t)=J:=by simp[BX,pp]
def afJ(x:ay)(t:pw):BX (.inr x) (.str x t)=J:=by simp[BX,mj]
def Qx(a b:Int):decide ((eD a:Key)=eD b)=(a==b):=by
 by_cases e:a=b
 .subst e;simp
 .have h: ¬(eD a:Key)=eD b:=λq=>e<|Sum.inl.inj q;rw[mr h];exact(CZ.mpr e).symm
def Qu(a b:ay):decide ((eC a:Key)=eC b)=decide (a=b):=by
 by_cases e:a=b
 .subst e;simp
 .have h: ¬(eC a:Key)=eC b:=λq=>e<|Sum.inr.inj q;rw[mr h,mr e]
def Qw(a:Int)(b:ay):decide ((eD a:Key)=eC b)=C:=mr (λq=>nomatch q)
def Qv(a:ay)(b:Int):decide ((eC a:Key)=eD b)=C:=mr (λq=>nomatch q)
def kY(d:iL)(w:iD):PySem.KeyKind d w Key where
 is:=BX
 hash:=aci w
 inj:=λv a b g f=>by
  rcases kM g with⟨i,t,rfl,rfl⟩|⟨x,t,rfl,rfl⟩
  .rcases kM f with⟨j,u,rfl,e⟩|⟨y,u,rfl,e⟩
   .injection e with c _;rw[c]
   .exact nomatch e
  .rcases kM f with⟨j,u,rfl,e⟩|⟨y,u,rfl,e⟩
   .exact nomatch e
   .injection e with c _;rw[c]
 byValue:=λk v h=>by rcases kM h with⟨i,t,rfl,rfl⟩|⟨x,t,rfl,rfl⟩<;>rfl
 pyHash:=λhv h=>by
  rcases kM hv with⟨i,t,rfl,rfl⟩|⟨x,t,rfl,rfl⟩
  .exact IJ h
  .exact wpAny_pyHash_str h
 eqBool:=λl hv h=>by
  rcases kM l with⟨i,t,rfl,rfl⟩|⟨x,t,rfl,rfl⟩
  .rcases kM hv with⟨j,u,rfl,rfl⟩|⟨y,u,rfl,rfl⟩
   .rw[Qx] at h;exact wpAny_eqBool_int h
   .rw[Qw] at h;exact fH i t y u _ _ _ _ h
  .rcases kM hv with⟨j,u,rfl,rfl⟩|⟨y,u,rfl,rfl⟩
   .rw[Qv] at h;exact fG x t j u _ _ _ _ h
   .rw[Qu] at h;exact wpAny_eqBool_str h
 «strs»:=λk x t v h=>by
  rcases kM h with⟨i,u,rfl,e⟩|⟨y,u,rfl,e⟩
  .exact nomatch e
  .injection e with c _
   subst c;cases v<;>rfl
def adW(a:iL)(w:iD)(i:Int)(t:pw):(kY a w).is (.inl i) (.int i t)=J:=afK i t
def adV(a:iL)(w:iD)(x:ay)(t:pw):(kY a w).is (.inr x) (.str x t)=J:=afJ x t
inductive V where
 |T1|bl(b:Bool)|int(i:Int)|str(x:ay)|byt(b:Array UInt8)|flt(b:UInt64)|ref(a:hJ)|ty(n:String)
 deriving DecidableEq
def RelV:V->ir->Prop
 | .T1,u=>u=av
 | .bl b,u=>u=e9 b
 | .int i,u=> ∃t,u=ib i t
 | .str x,u=> ∃t,u=ia x t
 | .byt b,u=> ∃t,u=Value.bytes b t
 | .flt b,u=> ∃t,u=Value.float b t
 | .ref a,u=>u=bj a
 | .ty n,u=>u=ci n
abbrev Vals:List V->List ir->Prop:=Paired RelV
def Vals.length{xs:List V}{a:jr}(r:Vals xs a):(Ls xs)=(Ls a):=um r
def Vals.get{b:List V}{a:jr}{i:Nat}{x:V}(h:Vals b a)(e:b[i]?=Y x): ∃u,a[i]?=Y u/\RelV x u:=by
 induction h generalizing i with
 |nil=>simp at e
 |cons r t c=>
  cases i with
  |zero=>simp at e;subst e;exact⟨_,rfl,r⟩
  |succ i=>simpa using c (by simpa using e)
theorem Vals.set{x:V}{u:ir}(r:RelV x u): ∀{xs:List V} {a:jr} (i:Nat),Vals xs a->Vals (xs.set i x) (a.set i u)
 |_,_,_,.nil=> .nil
 |_,_,0,.cons _ t=> .cons r t
 |_,_,i+1,.cons q t=> .cons q (Vals.set r i t)
def Vals.append{c d:List V}{a b:jr}(h:Vals c a)(s:Vals d b):Vals (c++d) (a++b):=by
 induction h with
 |nil=>exact s
 |cons r t e=>exact .cons r e
theorem Vals.take: ∀{b:List V} {a:jr} (n:Nat),Vals b a->Vals (b.take n) (a.take n)
 |_,_,0,_=> .nil
 |_,_,_+1,.nil=> .nil
 |_,_,n+1,.cons r t=> .cons r (Vals.take n t)
theorem Vals.drop: ∀{b:List V} {a:jr} (n:Nat),Vals b a->Vals (b.drop n) (a.drop n)
 |_,_,0,r=>r
 |_,_,_+1,.nil=> .nil
 |_,_,n+1,.cons _ t=>Vals.drop n t
def L4:Option V->Option ir->Prop
 |some v,Y u=>RelV v u
 |none,I=>True
 |_,_=>False
def KV{a:Type}:List (a×V)->List (a×ir)->Prop:=Paired λ(p:a×V) (q:a×ir)=>p.1=q.1/\RelV p.2 q.2
noncomputable def kV:Key->V
 | .inl i=> .int i
 | .inr x=> .str x
inductive HO where
 |lst(xs:List V)
 |tup(xs:List V)
 |dK(kvs:List (Key×V))|dT(kvs:List (List Key×V))
 |set (S:Int->Bool) (n:Nat)
 |SS (zs:List (Int×V))
 |ins (C dx:hJ) (fs:List (ay×V))
 |own (x:hJ)
 |xd (fs:List (ay×V))
 |met (f x:hJ)
 |rng (lo hi:Int)
 |C7 (o:eE) (u:HO)
 |tbl (ps:oA)
 |ext (φ:iK->Prop)
abbrev Hp:=hJ->Option HO
noncomputable def upd(U:Hp)(a:hJ)(o:HO):Hp:=λb=>if b=a then Y o else U b
def iQ{U:Hp}{a:hJ}{o:HO}:upd U a o a=Y o:=by unfold upd;rw[iz H]
def iW{U:Hp}{a b:hJ}{o:HO}(h:b≠a):upd U a o b=U b:=by unfold upd;rw[iG h]
def Ke{U:Hp}{a:hJ}{o u:HO}:upd (upd U a o) a u=upd U a u:=by funext b;unfold upd;split<;>rfl
def Vr{U:Hp}{a b:hJ}{o u:HO}(h:U a=Y o)(c:U b=Y u)(d:o≠u):a≠b:=by intro e;subst e;rw[h] at c;exact d<|kz c
def lT{U:Hp}{a b:hJ}{o:HO}(h:U a=Y o)(c:U b=I):a≠b:=by intro e;subst e;rw[h] at c;cases c
section
variable(P:iL)(w:iD)
def T2(T:Hp)(h:iK)(a:hJ):HO->Prop
 | .lst g=>Ls g<=sizeLine/\ ∃(b:jr) (n:Nat),Vals g b/\h.get? a=Y {cls:= .type "list",data:= .seq b.toArray n}
 | .tup g=>Ls g<=sizeLine/\ ∃b:List ir,Vals g b/\lw h a b.toArray
 | .dK d=>Ls d<=sizeLine/\(a==br)=C/\ ∃k,KV d k/\h.DictOf (kY P w) a k
 | .dT d=>Ls d<=sizeLine/\(a==br)=C/\ ∃g:List (List Key×hJ×ir),
   Paired (λ(p:List Key×V) (q:List Key×hJ×ir)=>p.1=q.1/\T q.2.1=Y (.tup<|p.1.map kV)/\RelV p.2 q.2.2) d g/\
   ∃o j Q,h.get? a=Y o/\o.ExactDict/\o.data= .dict j Q/\j.toList=g.map (entryOfKey<|dH<|kY P w)/\(g.map (·.1)).Nodup
 | .set S n=>h.SetOf (h9 P w) a S n
 | .SS E=> ∃(j:vM) (n:Nat) (t:mB),h.get? a=Y {cls:= .type "set",data:= .set j n t}/\Paired (λ(z:Int×V) (e:Int×ir)=>z.1=e.1/\RelV z.2 e.2) E j.toList/\
   TT.Av (E.map (·.1)) t/\t.plain=J/\t.led=!w.params.followText "set-order"
 | .ins U l fs=>T l=Y (.own a)/\(Ls fs)<=1000/\l≠a/\h.get? a=Y (PySem.W.instObj U l)/\
   ∃i,h.Ns1 l i/\(∀f,L4 (fs.lookup f)<|i f)/\PySem.Within i (fs.map (·.1))
 | .own _=> ∃o,h.get? a=Y o
 | .xd fs=> ∃i,h.Ns1 a i/\ ∀f,L4 (fs.lookup f)<|i f
 | .rng lo L=> ∃t u v,h.get? a=Y {cls:= .type "range",data:= .fields #[.int lo t,.int L u,.int 1 v]}
 | .C7 o u=>h.get? a=Y o/\T2 T h a u
 | .tbl O=> ∃q t r,O[0]?=Y (.str q t)/\h.get? a=Y {cls:= .none,data:= .fields r}/\gH r.toList/\ ∀m y,dL m r.toList=Y y-> ∃c B u k t,y= .ref c/\T c=Y (.C7 B u)/\B.data= .fields k/\k[1]?=Y (.str q t)
 | .met f x=>h.get? a=Y (ei (.ref f)<|.ref x)
 | .ext s=>s h/\(∃o,h.get? a=Y o)/\ ∀h1 A:iK,s h1->(∀o,h1.get? a=Y o->A.get? a=Y o)->s A
def Fc(U:Hp)(h:iK):Prop:= ∀a o,U a=Y o->T2 P w U h a o
end
section
variable {P:iL}{w:iD}{H g:Hp}{h h':iK}{a:hJ}{o:HO}
def T2.lt(x:T2 P w H h a o):a<h.objs.size:=by
 cases o with
 |lst c=>obtain⟨_,_,_,_,e⟩:=x;exact jW e
 |tup c=>obtain⟨_,_,_,p⟩:=x;exact p.lt
 |dK b=>obtain⟨_,_,_,_,o,_,_,e,_⟩:=x;exact jW e
 |dT b=>obtain⟨_,_,_,_,o,_,_,e,_⟩:=x;exact jW e
 |set S n=>obtain⟨o,_,_,_,e,_⟩:=x;exact jW e
 |SS l=>obtain⟨_,_,_,e,_⟩:=x;exact jW e
 |ins U d fs=>obtain⟨_,_,_,e,_⟩:=x;exact jW e
 |own y=>obtain⟨_,e⟩:=x;exact jW e
 |xd fs=>obtain⟨_,⟨_,_,_,e,_⟩,_⟩:=x;exact jW e
 |rng lo i=>obtain⟨_,_,_,e⟩:=x;exact jW e
 |C7 j u=>obtain⟨e,_⟩:=x;exact jW e
 |tbl k=>obtain⟨_,_,_,_,e,_⟩:=x;exact jW e
 |met f y=>exact jW (show h.get? a=Y _ from x)
 |ext m=>obtain⟨_,⟨_,e⟩,_⟩:=x;exact jW e
def Paired.OV{e i:Type}{F G:e->i->Prop}{c:List e}{d:List i}(h:Paired F c d)(f: ∀a b,F a b->G a b):Paired G c d:=by
 induction h with
 |nil=>exact .nil
 |cons r t j=>exact .cons (f _ _ r) j
def T2.Aw(x:T2 P w H h a o)(k: ∀b u,(b=a\/H b=J4 (.own a))->h.get? b=J4 u->h'.get? b=J4 u)
  (N: ∀b,H b=J4 (.own a)->g b=J4 (.own a))(U: ∀b A,H b=J4 (.tup A)->g b=J4 (.tup A))(Y: ∀b i u,H b=J4 (.C7 i u)->g b=J4 (.C7 i u):=by exact λ_ _ _ q=>q):T2 P w g h' a o:=by
 induction o with
 |lst A=>obtain⟨z,s,n,r,e⟩:=x;exact⟨z,s,n,r,k _ _ (.inl K3) e⟩
 |tup A=>obtain⟨z,s,r,i,e,c⟩:=x;exact⟨z,s,r,i,k _ _ (.inl K3) e,c⟩
 |dK B=>obtain⟨z,y,O,r,i,j,l,e,c⟩:=x;exact⟨z,y,O,r,i,j,l,k _ _ (.inl K3) e,c⟩
 |dT B=>obtain⟨z,y,A,r,i,j,l,e,c⟩:=x;exact⟨z,y,A,Paired.OV r λp q z=>⟨z.1,U _ _ z.2.1,z.2.2⟩,i,j,l,k _ _ (.inl K3) e,c⟩
 |set S n=>obtain⟨i,j,l,t,e,c⟩:=x;exact⟨i,j,l,t,k _ _ (.inl K3) e,c⟩
 |SS zs=>obtain⟨j,n,t,e,c⟩:=x;exact⟨j,n,t,k _ _ (.inl K3) e,c⟩
 |ins C' dx fs=>obtain⟨d,z,ne,e,E,⟨I,j,l,G,c⟩,r⟩:=x;exact⟨N _ d,z,ne,k _ _ (.inl K3) e,E,⟨I,j,l,k _ _ (.inr d) G,c⟩,r⟩
 |own y=>obtain⟨i,e⟩:=x;exact⟨i,k _ _ (.inl K3) e⟩
 |xd fs=>obtain⟨E,⟨I,j,l,e,c⟩,r⟩:=x;exact⟨E,⟨I,j,l,k _ _ (.inl K3) e,c⟩,r⟩
 |rng lo hi=>obtain⟨t,u,v,e⟩:=x;exact⟨t,u,v,k _ _ (.inl K3) e⟩
 |C7 i u ih=>obtain⟨e,q⟩:=x;exact⟨k _ _ (.inl K3) e,ih q⟩
 |tbl ps=>obtain⟨q,t,D,T,e,F,m⟩:=x;exact⟨q,t,D,T,k _ _ (.inl K3) e,F,λL Q z=>let⟨c,i,u,O,t,h1,J',M⟩:=m L Q z;⟨c,i,u,O,t,h1,Y _ _ _ J',M⟩⟩
 |met f y=>have e:h.get? a=J4 (ei (.ref f)<|.ref y):=x;show h'.get? a=J4 (ei (.ref f)<|.ref y);exact k a _ (.inl K3) e
 |ext φ=>obtain⟨p,⟨o,e⟩,st⟩:=x;exact⟨st _ _ p λo q=>k _ _ (.inl K3) q,⟨o,k _ _ (.inl K3) e⟩,st⟩
def Fc.lt(x:Fc P w H h)(e:H a=Y o):a<h.objs.size:=(x a o e).lt
def Fc.fresh(x:Fc P w H h)(e:h.objs.size<=a):H a=I:=by
 cases q:H a with
 |none=>rfl
 |some u=>exact absurd (oq (x.lt q) e)<|qP _
def Fc.kept(x:Fc P w H h)(k: ∀b u,h.get? b=Y u->h'.get? b=Y u):Fc P w H h':=λa o e=>(x a o e).Aw (λb u _ q=>k b u q) (λ_ q=>q) λ_ _ q=>q
def Fc.laid(x:Fc P w H h)(k: ∀b u,h.get? b=Y u->h'.get? b=Y u)(i:h.objs.size<=a)(new:T2 P w (upd H a o) h' a o):Fc P w (upd H a o) h':=λb u e=>by
 have d:=x.fresh i;by_cases f:b=a
 .subst f;rw[iQ] at e;cases e;exact new
 .rw[iW f] at e;exact(x b u e).Aw (λc v _ q=>k c v q) (λc q=>by rw[iW<|lT q d];exact q) (λc j q=>by rw[iW<|lT q d];exact q) λc _ _ q=>by rw[iW<|lT q d];exact q
end
def Rd(U:Hp)(a:hJ)(u:HO):Prop:=U a=Y u\/ ∃o,U a=Y (.C7 o u)
def Rd.ok{P:iL}{w:iD}{U:Hp}{h:iK}{a:hJ}{u:HO}(r:Rd U a u)(x:Fc P w U h):T2 P w U h a u:=by
 rcases r with r|⟨o,r⟩
 .exact x a u r
 .obtain⟨_,q⟩:=x a _ r;exact q
def Oo:Option HO->Prop
 |some (.lst _)=>True
 |some (.dK _)=>True
 |some (.dT _)=>True
 |some (.set _ _)=>True
 |some (.SS _)=>True
 |some (.ins _ _ _)=>True
 |some (.ext _)=>True
 |_=>False
section
variable {P:iL}{w:iD}{H:Hp}{h a:iK}{x e:hJ}{d:HO}
def Fc.write(ok:Fc P w H h)(g:Oo (H x))(o:e=x\/H e=Y (.own x))(k: ∀b u,b≠e->h.get? b=Y u->a.get? b=Y u)(s: ∃u,a.get? e=Y u)
  (new:T2 P w (upd H x d) a x d):Fc P w (upd H x d) a:=λb u q=>by
 have f: ∀c y,H c=Y (.own y)->c≠x:=λc y r z=>by subst z;rw[r] at g;exact g
 have i: ∀c n,H c=Y (.tup n)->c≠x:=λc n r z=>by subst z;rw[r] at g;exact g
 by_cases l:b=x
 .subst l;rw[iQ] at q;cases q;exact new
 .rw[iW l] at q;by_cases j:b=e
  .have p:H b=Y (.own x):=by
    rcases o with z|z
    .exact absurd (j.trans z) l
    .rw[j];exact z
   rw[q] at p;cases p;obtain⟨v,hv⟩:=s;exact⟨v,by rw[j];exact hv⟩
  .refine(ok b u q).Aw (λc v m r=>k c v ?_ r) (λc r=>by rw[iW<|f c b r];exact r) (λc n r=>by rw[iW<|i c n r];exact r) λc _ _ r=>by rw[iW λz=>by subst z;rw[r] at g;exact g];exact r
   rcases m with rfl|m
   .exact j
   .rintro rfl;rcases o with z|z
    .exact f c b m z
    .rw[m] at z;cases z;exact l K3
end
structure Un(fs ex:ki)(H H':Hp)(h h':iK):Prop where
 keep: ∀b o,h.get? b=J4 o->H b=KE->b∉fs->b∉ex->h'.get? b=J4 o
 slot: ∀b o,h.get? b=J4 o->H b=KE->b∈fs->b∉ex-> ∃sl,h'.get? b=J4 {o with slots:=sl}
 free: ∀b o,h.get? b=J4 o->H b=KE->b∉ex->H' b=KE
 there: ∀b o,h.get? b=J4 o->b∉ex-> ∃o',h'.get? b=J4 o'
 tups: ∀b xs,H b=J4 (.tup xs)->H' b=J4 (.tup xs)
 frzs: ∀b o u,H b=J4 (.C7 o u)->H' b=J4 (.C7 o u)
 tbls: ∀b ps,H b=J4 (.tbl ps)-> ∃more,H' b=J4 (.tbl<|ps++more)
section
variable {fs c ex d:ki}{H f i:Hp}{h h1 g h':iK}{a x e:hJ}{o:HO}
def Un.any(u:Un fs ex H f h h1){b:hJ}{j:eE}(q:h.get? b=Y j)(n:H b=I)(l:b∉ex): ∃m,h1.get? b=Y {j with slots:=m}:=by
 by_cases k:b∈fs
 .exact u.slot b j q n k l
 .exact⟨j.slots,u.keep b j q n k l⟩
def Un.kept(k: ∀b u,h.get? b=Y u->h'.get? b=Y u):Un fs ex H H h h':=
 ⟨λb j q _ _ _=>k b j q,λb j q _ _ _=>⟨j.slots,k b j q⟩,λ_ _ _ n _=>n,λb j q _=>⟨j,k b j q⟩,λ_ _ q=>q,λ_ _ _ q=>q,λ_ l q=>⟨#[],by rw[q];simp⟩⟩
def Un.refl:Un fs ex H H h h:=Un.kept λ_ _ q=>q
def Un.laid(k: ∀b u,h.get? b=Y u->h'.get? b=Y u)(r:h.objs.size<=a)(j:H a=I):Un fs ex H (upd H a o) h h' where
 keep:=λb u q _ _ _=>k b u q
 slot:=λb u q _ _ _=>⟨u.slots,k b u q⟩
 free:=λb u q n _=>by rw[iW<|kd<|oq (jW q) r];exact n
 there:=λb u q _=>⟨u,k b u q⟩
 tups:=λb s q=>by rw[iW<|lT q j];exact q
 frzs:=λb u s q=>by rw[iW<|lT q j];exact q
 tbls:=λb t q=>⟨#[],by rw[iW<|lT q j,q];simp⟩
def Un.write(j:Oo (H x))(v:e=x\/H e=Y (.own x))(k: ∀b u,b≠e->h.get? b=Y u->h'.get? b=Y u)(t: ∃u,h'.get? e=Y u):Un fs ex H (upd H x o) h h':=by
 have s: ∀b,H b=I->b≠x:=λb n z=>by subst z;rw[n] at j;exact j
 have p: ∀b,H b=I->b≠e:=λb n z=>by
  subst z;rcases v with r|r
  .exact s b n r
  .rw[n] at r;cases r
 have l: ∀b u,H b=Y u-> ¬Oo (Y u)->b≠x:=λb u q w z=>by subst z;rw[q] at j;exact w j
 refine⟨λb u q n _ _=>k b u (p b n) q,λb u q n _ _=>⟨u.slots,k b u (p b n) q⟩,λb u q n _=>by rw[iW<|s b n];exact n,λb u q _=>?_,
  λb y q=>by rw[iW<|l b _ q λz=>z];exact q,λb u y q=>by rw[iW<|l b _ q λz=>z];exact q,λb A q=>⟨#[],by rw[iW<|l b _ q λz=>z,q];simp⟩⟩
 by_cases m:b=e
 .subst m;exact t
 .exact⟨u,k b u m q⟩
end
noncomputable def Oy(h:iK)(U:Hp):List Addr:=(am h.objs.size).filter λa=>(U a).isSome
def Dc(h:iK)(U:Hp):Heap:=PySem.W.hideAll h<|Oy h U
def ae6(h:iK)(U:Hp):(Dc h U).objs.size=h.objs.size:=PySem.W.hideAll_size _ _
def QN{h:iK}{U:Hp}{b:hJ}{o:eE}(e:h.get? b=Y o)(n:U b=I):(Dc h U).get? b=Y o:=
 PySem.W.hideAll_get _ e λa=>by have q:(U b).isSome=J:=(qg.mp a).2;rw[n] at q;simp at q
def T6{h:iK}{U:Hp}{b:hJ}{o:eE}(e:(Dc h U).get? b=Y o):h.get? b=Y o/\U b=I:=by
 have a:h.get? b=Y o:=PySem.W.of_hideAll (Oy h U) e;refine⟨a,?_⟩
 cases q:U b with
 |none=>rfl
 |some x=>have c:b∈Oy h U:=qg.mpr ⟨wx.mpr<|jW a,by simp[q]⟩;have z:(Dc h U).get? b=I:=PySem.W.hideAll_none (Oy h U) c;rw[z] at e;cases e
noncomputable def UT(g h:iK)(L:hJ):List (hJ×eE):=(am h.objs.size).filterMap λa=>if a=L\/(g.get? a).isSome=J then I else(h.get? a).map λo=>(a,o)
def jl(g h:iK)(L d:hJ):List (hJ×eE):=(UT g h L).filter λp=>decide<|p.1≠d
structure Mod(K:iJ)(mg:lN)(base:iK):Prop where
 kin:K.In base
 glob:base.Ns ap mg
 blt: ∃mb,base.Ns f4 mb/\ ∀x:ay,x≠"__name__"->mb x=aH x
 nolimit:base.NoLimit
structure Cx where
 prog:iL
 w:iD
 K:iJ
 mg:ay->Option ir
 base:iK
 A:iE
 N:List ay
 s₀:ie
 H₀:Hp
 env:db
 outer:List db
 stack:List db
 ex:List hJ
 fn:ay->Bool
 calm:Bool
 pn:List (hJ×eE)
 xe:ir->ie->Prop
noncomputable def Jh(l:List db):List Addr:=l.filterMap (·.frame)
abbrev Cx.fs(X:Cx):List Addr:=Jh X.outer
def JU(a:jb)(x:ay):Prop:=a.names.lookup x=Y .local\/a.names.lookup x=Y .cell\/a.names.lookup x=Y .free
def Loc(a:jb)(x:ay):Prop:=a.names.lookup x=Y .local\/a.names.lookup x=Y .cell
def acD(a:db)(h:iK)(m:lN)(x:ay)(u:ir):Prop:=
 (a.kindOf x=Y .local/\m x=Y u)\/((a.kindOf x=Y .cell\/a.kindOf x=Y .free)/\ ∃c,a.cells.lookup x=Y c/\h.IsCell c (Y u))
structure Cx.Ok(X:Cx):Prop where
 mod:Mod X.K X.mg X.base
 kind:X.env.scope.kind= .function
 glob:X.env.globals=ap
 blt:X.env.builtins=f4
 above:X.s₀.heap.objs.size<=X.env.locals
 inj: ∀x y c,X.env.cells.lookup x=J4 c->X.env.cells.lookup y=J4 c->x=y
 has: ∀x,(X.env.kindOf x=J4 .cell\/X.env.kindOf x=J4 .free)-> ∃c,X.env.cells.lookup x=J4 c
 cab: ∀x c,X.fn x=K0->X.env.cells.lookup x=J4 c->X.s₀.heap.objs.size<=c
 hd:X.calm=K0->X.A.handled=KE
 frames:X.A.frames=J4 X.stack
 stk:X.stack=X.outer\/(X.stack=X.env::X.outer/\X.env.frame=J4 X.env.locals)
 exf: ∀b∈X.ex,b≠X.env.locals/\ ∀x c,X.env.cells.lookup x=J4 c->c≠b
 bs: ∀b o,X.base.get? b=J4 o->X.s₀.heap.get? b=J4 o/\X.H₀ b=KE
 bsz:X.base.objs.size<=X.s₀.heap.objs.size
 noex: ∀b o,X.base.get? b=J4 o->b∉X.ex
 exfs: ∀b∈X.ex,b∉X.fs
 Fe:X.s₀.heap.FunFrames X.base X.outer
 frf: ∀b∈X.fs,X.H₀ b=KE
structure Inv(X:Cx)(pins:iX)(σ:List (Option V))(H:Hp)(s:ie):Prop where
 ok:X.Ok
 os:s.os=X.s₀.os
 bare:dZ s.gens
 base:Un X.fs X.ex X.H₀ H X.s₀.heap s.heap
 loc: ∃m,s.heap.Ns X.env.locals m/\ ∀(i:Nat) (x:ay) (v:V),X.N[i]?=J4 x->σ[i]?=J4 (J4 v)->JU X.env.scope x-> ∃u,RelV v u/\acD X.env s.heap m x u
 cell: ∀x c,X.env.cells.lookup x=J4 c-> ∃v,s.heap.IsCell c v
 free:H X.env.locals=KE
 freeC: ∀x c,X.env.cells.lookup x=J4 c->H c=KE
 pin: ∀p∈X.pn++pins,s.heap.get? p.1=J4 p.2/\H p.1=KE/\p.1≠X.env.locals/\p.1∉X.fs/\ ∀v,p.2.data≠ .cell v
 hok:Fc X.prog X.w H s.heap
 len:(Ls σ)=X.N.length
section
variable {X:Cx}{f:iX}{g:List (Option V)}{H H':Hp}{s:ie}{h':iK}
def Cx.Ok.nofr(ok:X.Ok){b:hJ}{o:eE}(e:X.base.get? b=Y o):b∉X.fs:=λa=>by have:=(ok.Fe.mem a).1;rw[e] at this;cases this
def Inv.bs(U:Inv X f g H s): ∀b o,X.base.get? b=Y o->s.heap.get? b=Y o/\H b=I:=λb o e=>⟨U.base.keep b o (U.ok.bs b o e).1 (U.ok.bs b o e).2 (U.ok.nofr e)<|U.ok.noex b o e,U.base.free b o (U.ok.bs b o e).1 (U.ok.bs b o e).2<|U.ok.noex b o e⟩
def Inv.bk(U:Inv X f g H s): ∀b o,X.base.get? b=Y o->s.heap.get? b=Y o:=λb o e=>(U.bs b o e).1
def Inv.mod(U:Inv X f g H s):Mod X.K X.mg X.base:=U.ok.mod
def Inv.J2(U:Inv X f g H s):X.K.In s.heap:=U.ok.mod.kin.keeps U.bk
def Inv.lt(U:Inv X f g H s):X.env.locals<s.heap.objs.size:=let⟨_,a,_⟩:=U.loc;a.lt
def Inv.sz(U:Inv X f g H s):X.s₀.heap.objs.size<=s.heap.objs.size:=kW U.ok.above<|uk U.lt
def Inv.OM(U:Inv X f g H s){a:hJ}(h:s.heap.objs.size<=a):a∉X.fs:=λb=>by obtain⟨_,o,c,_⟩:=U.ok.Fe.mem b;exact absurd (oq (jW c)<|kW U.sz h)<|qP _
def Inv.Mb(U:Inv X f g H s): ∀x c,X.env.cells.lookup x=Y c->c≠X.env.locals:=λx c e z=>by obtain⟨v,o,a,hd⟩:=U.cell x c e;obtain⟨m,⟨j,i,h,b,d,_⟩,_⟩:=U.loc;rw[z,b] at a;cases a;rw[d] at hd;cases hd
def Inv.Fe(U:Inv X f g H s):s.heap.FunFrames X.base X.outer:=by
 have all: ∀(l:List db),(∀b∈Jh l,b∈X.fs)->X.s₀.heap.FunFrames X.base l->s.heap.FunFrames X.base l:=by
  intro l
  induction l with
  |nil=>intro _ _;trivial
  |cons i r p=>intro h j;obtain⟨hk,⟨L,o,d,k,m,hd⟩,n⟩:=j;have a:L∈X.fs:=h L (by unfold Jh;rw[xM,d];exact jc);obtain⟨q,e⟩:=U.base.slot L o m (U.ok.frf L a) a λz=>U.ok.exfs L z a;exact⟨hk,⟨L,_,d,k,e,hd⟩,p (λb c=>h b<|by unfold Jh;rw[xM,d];exact ji _ c) n⟩
 exact all X.outer (λ_ c=>c) U.ok.Fe
def Inv.stack(U:Inv X f g H s):s.heap.FunFrames X.base X.stack:=by
 rcases U.ok.stk with e|⟨e,hf⟩
 .rw[e];exact U.Fe
 .rw[e];obtain⟨m,a,_⟩:=U.loc;refine .cons (by rw[U.ok.kind];decide) hf a ?_ U.Fe;exact Heap.get?_none_of_le<|kW U.ok.bsz U.ok.above
def Inv.GQ(U:Inv X f g H s): ∀b∈Jh X.stack,b∈X.env.locals::X.fs:=λb a=>by
 rcases U.ok.stk with e|⟨e,hf⟩
 .rw[e] at a;exact ji _ a
 .rw[e] at a;unfold Jh at a;rw[xM,hf] at a;exact a
def Inv.Jq(U:Inv X f g H s): ∀b∈Jh X.stack,H b=I:=λb a=>by
 rcases mz.mp (U.GQ b a) with e|a
 .rw[e];exact U.free
 .obtain⟨_,o,c,_⟩:=U.ok.Fe.mem a;exact U.base.free b o c (U.ok.frf b a) λz=>U.ok.exfs b z a
def Inv.step{g':Array fe}{t':Nat}{d':Drawn}{ch:ki}(I:Inv X f g H s)
  (C: ∀b∈ch,(b∈X.ex\/X.s₀.heap.objs.size<=b)/\b≠X.env.locals/\(∀x c,X.env.cells.lookup x=J4 c->c≠b)/\ ∀p∈X.pn++f,p.1≠b)
  (keep: ∀b o,b≠X.env.locals->b∉X.fs->b∉ch->s.heap.get? b=J4 o->H b=KE->h'.get? b=J4 o)
  (slot: ∀b o,b≠X.env.locals->b∈X.fs->b∉ch->s.heap.get? b=J4 o->H b=KE-> ∃U,h'.get? b=J4 {o with slots:=U})(free: ∀b o,b∉ch->s.heap.get? b=J4 o->H b=KE->H' b=KE)
  (there: ∀b o,b∉ch->s.heap.get? b=J4 o-> ∃Q,h'.get? b=J4 Q)
  (G: ∀b t,H b=J4 (.tup t)->H' b=J4 (.tup t))(L: ∀b o u,H b=J4 (.C7 o u)->H' b=J4 (.C7 o u))(T: ∀b M,H b=J4 (.tbl M)-> ∃more,H' b=J4 (.tbl<|M++more))
  (ns: ∀m,s.heap.Ns X.env.locals m->h'.Ns X.env.locals m)(N:Fc X.prog X.w H' h')(hg:dZ g'):
  Inv X f g H' {s with heap:=h',gens:=g',drawn:=d',toks:=t'}:=by
 have O: ∀b o,X.s₀.heap.get? b=J4 o->b≠X.env.locals:=λb o e=>kd<|oq (jW e) I.ok.above
 have J: ∀b o,X.s₀.heap.get? b=J4 o->b∉X.ex->b∉ch:=λb o e a y=>by
  rcases(C b y).1 with z|z
  .exact a z
  .exact absurd (oq (jW e) z) (qP _)
 have h: ∀x c,X.env.cells.lookup x=J4 c-> ∀v,s.heap.IsCell c v->h'.IsCell c v:=λx c e v a'=>by
  obtain⟨o,A,hd⟩:=a'
  have B:c∉ch:=λz=>(C c z).2.2.1 x c e K3;by_cases D:c∈X.fs
  .obtain⟨U,q⟩:=slot c o (I.Mb x c e) D B A<|I.freeC x c e;exact⟨_,q,hd⟩
  .exact⟨o,keep c o (I.Mb x c e) D B A<|I.freeC x c e,hd⟩
 refine⟨I.ok,I.os,hg,⟨λb o e n y a=>?_,λb o e n y a=>?_,λb o e n a=>?_,λb o e a=>?_,λb t e=>G b t<|I.base.tups b t e,λb o t e=>L b o t<|I.base.frzs b o t e,λb M e=>?_⟩,?_,λx c e=>?_,?_,λx c e=>?_,λp F=>?_,N,I.len⟩
 .exact keep b o (O b o e) y (J b o e a) (I.base.keep b o e n y a) (I.base.free b o e n a)
 .obtain⟨U,j⟩:=I.base.slot b o e n y a;obtain⟨Y,E⟩:=slot b _ (O b o e) y (J b o e a) j (I.base.free b o e n a);exact⟨Y,E⟩
 .obtain⟨Q,j⟩:=I.base.there b o e a;exact free b Q (J b o e a) j<|I.base.free b o e n a
 .obtain⟨Q,j⟩:=I.base.there b o e a;exact there b Q (J b o e a) j
 .obtain⟨V,j⟩:=I.base.tbls b M e;obtain⟨W,E⟩:=T b _ j;exact⟨V++W,by rw[E,II]⟩
 .obtain⟨m,S,R⟩:=I.loc;refine⟨m,ns m S,λi x v j E P=>?_⟩;obtain⟨u,r,l⟩:=R i x v j E P;refine⟨u,r,?_⟩;rcases l with l|⟨k,c,e,z⟩
  .exact .inl l
  .exact .inr ⟨k,c,e,h x c e _ z⟩
 .obtain⟨v,z⟩:=I.cell x c e;exact⟨v,h x c e v z⟩
 .obtain⟨m,⟨o,_,_,A,_⟩,_⟩:=I.loc;exact free _ o (λz=>(C _ z).2.1 K3) A I.free
 .obtain⟨v,o,A,hd⟩:=I.cell x c e;exact free c o (λz=>(C c z).2.2.1 x c e K3) A<|I.freeC x c e
 .obtain⟨e,n,ne,K,d⟩:=I.pin p F;have B:p.1∉ch:=λz=>(C p.1 z).2.2.2 p F K3;exact⟨keep p.1 p.2 ne K B e n,free p.1 p.2 B e n,ne,K,d⟩
def Inv.un{t':Nat}(U:Inv X f g H s)(u:Un X.fs [] H H' s.heap h')(d:Fc X.prog X.w H' h'):Inv X f g H' {s with heap:=h',toks:=t'}:=by
 obtain⟨m,⟨o,t,q,i,r⟩,_⟩:=id U.loc;obtain⟨y,k⟩:=u.any i U.free (by simp)
 exact U.step (g':=s.gens) (d':=s.drawn) (ch:=[]) (λ_ z=>nomatch z) (λb o _ c _ e n=>u.keep b o e n c<|by simp) (λb o _ c _ e n=>u.slot b o e n c<|by simp) (λb o _ e n=>u.free b o e n<|by simp) (λb o _ e=>u.there b o e<|by simp) u.tups u.frzs u.tbls (λv l=>by obtain⟨x,a,j,h,p⟩:=l;rw[i] at h;cases h;exact⟨_,a,j,k,p⟩) d U.bare
def Inv.call{g':Array fe}{t':Nat}{d':Drawn}{ch:ki}(T:Inv X f g H s)(u:Un (Jh X.stack) ch H H' s.heap h')(i:Fc X.prog X.w H' h')(v:dZ g')
  (k: ∀b∈ch,(b∈X.ex\/X.s₀.heap.objs.size<=b)/\b≠X.env.locals/\(∀x c,X.env.cells.lookup x=Y c->c≠b)/\ ∀p∈X.pn++f,p.1≠b):
  Inv X f g H' {s with heap:=h',gens:=g',drawn:=d',toks:=t'}:=by
 obtain⟨m,⟨o,U,B,l,r⟩,_⟩:=id T.loc;obtain⟨O,h⟩:=u.any l T.free λz=>(k _ z).2.1 K3
 exact T.step (ch:=ch) k (λb o h t a e n=>u.keep b o e n (λz=>(mz.mp<|T.GQ b z).elim h t) a) (λb o _ _ a e n=>u.any e n a) (λb o a e n=>u.free b o e n a) (λb o a e=>u.there b o e a) u.tups u.frzs u.tbls (λE y=>by obtain⟨L,d,q,j,A⟩:=y;rw[l] at j;cases j;exact⟨_,d,q,h,A⟩) i v
def Inv.turned{t':Nat}{it:hJ}(T:Inv X f g H s)(k: ∀b o,b≠it->s.heap.get? b=Y o->h'.get? b=Y o)(A:H it=I)(h:it≠X.env.locals)
  (h1:it∈X.ex\/X.s₀.heap.objs.size<=it)(l: ∀x c,X.env.cells.lookup x=Y c->c≠it)(t: ∀p∈X.pn++f,p.1≠it):Inv X f g H {s with heap:=h',toks:=t'}:=by
 have d: ∀b u,H b=Y u->b≠it:=λb u e z=>by rw[z,A] at e;cases e
 refine T.step (g':=s.gens) (d':=s.drawn) (ch:=[it]) (λb w=>?_) (λb o _ _ a e _=>k b o (λz=>a<|by simp[z]) e) (λb o _ _ a e _=>⟨o.slots,k b o (λz=>a<|by simp[z]) e⟩) (λ_ _ _ _ n=>n)
  (λb o a e=>⟨o,k b o (λz=>a<|by simp[z]) e⟩) (λ_ _ e=>e) (λ_ _ _ e=>e) (λb U e=>⟨#[],by rw[e];simp⟩) (λm y=>?_) (λb u e=>?_) T.bare
 .have e:b=it:=by simpa using w
  subst e;exact⟨h1,h,l,t⟩
 .obtain⟨o,j,i,B,r⟩:=y;exact⟨o,j,i,k _ o (tX h) B,r⟩
 .refine(T.hok b u e).Aw (λc v a q=>k c v ?_ q) (λ_ q=>q) λ_ _ q=>q;rcases a with z|z
  .rw[z];exact d b u e
  .exact d c _ z
def Inv.tok(U:Inv X f g H s)(t:Nat):Inv X f g H {s with toks:=t}:=U.un (h':=s.heap) (t':=t) Un.refl U.hok
def Inv.kept{t':Nat}(U:Inv X f g H s)(k: ∀b u,s.heap.get? b=Y u->h'.get? b=Y u):Inv X f g H {s with heap:=h',toks:=t'}:=U.un (Un.kept k)<|U.hok.kept k
def Inv.laid{a:hJ}{o:HO}{t':Nat}(U:Inv X f g H s)(k: ∀b u,s.heap.get? b=Y u->h'.get? b=Y u)(c:s.heap.objs.size<=a)(new:T2 X.prog X.w (upd H a o) h' a o):
  Inv X f g (upd H a o) {s with heap:=h',toks:=t'}:=U.un (Un.laid k c<|U.hok.fresh c)<|U.hok.laid k c new
def Inv.write{x e:hJ}{o:HO}{h:Nat}(U:Inv X f g H s)(d:Oo (H x))(c:e=x\/H e=Y (.own x))(k: ∀b u,b≠e->s.heap.get? b=Y u->h'.get? b=Y u)(a: ∃u,h'.get? e=Y u)
  (new:T2 X.prog X.w (upd H x o) h' x o):Inv X f g (upd H x o) {s with heap:=h',toks:=h}:=U.un (Un.write d c k a)<|U.hok.write d c k a new
def Inv.GJ{a:iX}(U:Inv X f g H s)(h: ∀p∈a,s.heap.get? p.1=Y p.2/\H p.1=I/\p.1≠X.env.locals/\p.1∉X.fs/\ ∀v,p.2.data≠ .cell v):Inv X a g H s:=
 ⟨U.ok,U.os,U.bare,U.base,U.loc,U.cell,U.free,U.freeC,λp b=>(qh.mp b).elim (λz=>U.pin p<|Bh _ z)<|h p,U.hok,U.len⟩
def GN{N:iI}(e:N.Nodup){i j:Nat}{x:ay}(a:N[i]?=Y x)(b:N[j]?=Y x):i=j:=by obtain⟨h1,c⟩:=wa.mp a;obtain⟨h,d⟩:=wa.mp b;exact(EL e).mp (c.trans d.symm)
def Dx{M:ga}{A:iE}{E:iY}{i:Nat}{x:ay}{v:V}{u:ir}{Q:Unit->ie->Prop}(I:Inv X f g H s)(hN:X.N.Nodup)(hi:X.N[i]?=J4 x)(L:Loc X.env.scope x)(r:RelV v u)
  (h: ∀s',Inv X f (g.set i<|J4 v) H s'->(∃a,aM a s.heap s'.heap/\(a=X.env.locals\/X.env.cells.lookup x=J4 a))->Q () s')(hf:X.fn x=K0\/X.env.scope.names.lookup x=J4 .local:=by first|exact .inl rfl|exact .inr rfl|assumption):af M A (storeName X.env x u) Q E s:=by
 obtain⟨m,S,hl⟩:=id I.loc;have Y:(X.env.scope.kind== .class||(X.env.scope.kind== .module&&X.env.locals !=X.env.globals))=K2:=by rw[I.ok.kind];rfl
 have T:i<(Ls g):=by rw[I.len];exact(wa.mp hi).1
 have Mb:=I.Mb
 have B: ∀{a:hJ} {h':iK},(∃o,s.heap.get? a=J4 o/\H a=KE)->aM a s.heap h'->Fc X.prog X.w H h':=λ{a h'} ha l b ob e=>by
  obtain⟨_,_,l8⟩:=ha;refine(I.hok b ob e).Aw (λc K C q=>(l.2 c ?_).trans q) (λ_ q=>q) λ_ _ q=>q;rintro rfl;rcases C with rfl|C
  .rw[l8] at e;cases e
  .rw[l8] at C;cases C
 rcases L with hk|hk
 .refine wpAny_storeName_local hk S (λh' dv l=>?_) Y;obtain⟨oL,_,_,eI,_⟩:=id S;refine h _ ⟨I.ok,I.os,I.bare,⟨λb o e n G L=>?_,λb o e n G L=>?_,I.base.free,λb o e L=>?_,I.base.tups,I.base.frzs,I.base.tbls⟩,⟨_,dv,λj y v' t O R=>?_⟩,λy c e=>?_,I.free,I.freeC,λp W=>?_,B ⟨oL,eI,I.free⟩ l,by simpa using I.len⟩ ⟨_,l,.inl K3⟩
  .exact(l.2 b<|kd<|oq (jW e) I.ok.above).trans (I.base.keep b o e n G L)
  .obtain⟨sl,t⟩:=I.base.slot b o e n G L;exact⟨sl,(l.2 b<|kd<|oq (jW e) I.ok.above).trans t⟩
  .obtain⟨o',t⟩:=I.base.there b o e L;exact⟨o',(l.2 b<|kd<|oq (jW e) I.ok.above).trans t⟩
  .by_cases J:j=i
   .subst J;rw[hi] at t;cases t;rw[tU T] at O;cases O;exact⟨u,r,.inl ⟨hk,by simp⟩⟩
   .rw[mD<|tX J] at O;obtain⟨u',r',q⟩:=hl j y v' t O R;refine⟨u',r',?_⟩;rcases q with⟨k,e⟩|⟨k,c,e,z⟩
    .refine .inl ⟨k,?_⟩;have:y≠x:=λe=>J<|GN hN t<|e▸hi;simp[this,e]
    .exact .inr ⟨k,c,e,z.sameBut l<|Mb y c e⟩
  .obtain⟨K,z⟩:=I.cell y c e;exact⟨K,z.sameBut l<|Mb y c e⟩
  .obtain⟨e,n,ne,Z,d⟩:=I.pin p W;exact⟨(l.2 p.1 ne).trans e,n,ne,Z,d⟩
 .have P:X.fn x=K0:=by
   rcases hf with z|z
   .exact z
   .rw[z] at hk;cases hk
  obtain⟨c,C⟩:=I.ok.has x<|.inl hk;obtain⟨K,z⟩:=I.cell x c C;refine wpAny_storeName_cell I.ok.kind hk C z λh' bp l=>?_;obtain⟨oc,dr,D⟩:=id z;refine h {s with heap:=h'} ⟨I.ok,I.os,I.bare,⟨λb o e n G L=>?_,λb o e n G L=>?_,I.base.free,λb o e L=>?_,I.base.tups,I.base.frzs,I.base.tbls⟩,⟨m,S.sameBut l<|tX<|Mb x c C,λj y v' t O R=>?_⟩,λy F e=>?_,I.free,I.freeC,λp W=>?_,B ⟨oc,dr,I.freeC x c C⟩ l,by simpa using I.len⟩ ⟨c,l,.inr C⟩
  .exact(l.2 b<|kd<|oq (jW e)<|I.ok.cab x c P C).trans (I.base.keep b o e n G L)
  .obtain⟨sl,t⟩:=I.base.slot b o e n G L;exact⟨sl,(l.2 b<|kd<|oq (jW e)<|I.ok.cab x c P C).trans t⟩
  .obtain⟨o',t⟩:=I.base.there b o e L;exact⟨o',(l.2 b<|kd<|oq (jW e)<|I.ok.cab x c P C).trans t⟩
  .by_cases J:j=i
   .subst J;rw[hi] at t;cases t;rw[tU T] at O;cases O;exact⟨u,r,.inr ⟨.inl hk,c,C,bp⟩⟩
   .rw[mD<|tX J] at O;obtain⟨u',r',q⟩:=hl j y v' t O R;refine⟨u',r',?_⟩;rcases q with q|⟨k,F,e,z'⟩
    .exact .inl q
    .refine .inr ⟨k,F,e,z'.sameBut l ?_⟩;rintro rfl;exact J<|GN hN t<|I.ok.inj _ _ _ e C▸hi
  .by_cases U:F=c
   .subst U;exact⟨_,bp⟩
   .obtain⟨w2,z2⟩:=I.cell y F e;exact⟨w2,z2.sameBut l U⟩
  .obtain⟨e,n,ne,Z,d⟩:=I.pin p W;refine⟨(l.2 p.1 ?_).trans e,n,ne,Z,d⟩;intro q;rw[q,dr] at e;have q':oc=p.2:=kz e;exact d K (by rw[<-q'];exact D)
def Gk{M:ga}{A:iE}{E:iY}{i:Nat}{x:ay}{v:V}{u:ir}{Q:Unit->ie->Prop}(U:Inv X f g H s)(c:X.N.Nodup)(e:X.N[i]?=Y x)(j:Loc X.env.scope x)(r:RelV v u)
  (h: ∀a,Inv X f (g.set i<|Y v) H a->Q () a)(d:X.fn x=J\/X.env.scope.names.lookup x=Y .local:=by first|exact .inl rfl|exact .inr rfl|assumption):af M A (storeName X.env x u) Q E s:=
 Dx U c e j r (λa b _=>h a b) d
def Inv.Og{s':ie}{ch:ki}(U:Inv X f g H s)(i:s'.os=s.os)(u:Un (Jh X.stack) ch H H' s.heap s'.heap)(a:Fc X.prog X.w H' s'.heap)(h:dZ s'.gens)
  (d: ∀b∈ch,(b∈X.ex\/X.s₀.heap.objs.size<=b)/\b≠X.env.locals/\(∀x c,X.env.cells.lookup x=Y c->c≠b)/\ ∀p∈X.pn++f,p.1≠b):Inv X f g H' s':=by
 obtain⟨h',g',d',t',j⟩:=s';have e:j=s.os:=i;subst e;exact U.call (g':=g') (t':=t') (d':=d') u a h d
end
abbrev XK:=ir->Option hJ->Hp->Prop
abbrev St:=List<|Option V
abbrev VK:=V->Hp->Prop
abbrev TE:=St->Hp->VK->Prop
abbrev TT:=St->Hp->(Bool->Hp->Prop)->Prop
abbrev TA:=St->Hp->(List V->Hp->Prop)->Prop
structure Ends where
 nx:St->Hp->Prop
 rt:VK
 bk:St->Hp->Prop:=λ_ _=>False
 ct:St->Hp->Prop:=λ_ _=>False
abbrev TS:=Ends->St->Hp->Prop
def EP(X:Cx)(a:iX)(d:St)(Q:VK)(u:ir)(c:ie):Prop:= ∃v b,Inv X a d b c/\RelV v u/\Q v b
def TP(X:Cx)(a:iX)(e:St)(Q:Bool->Hp->Prop)(b:Bool)(d:ie):Prop:= ∃c,Inv X a e c d/\Q b c
def ab2(X:Cx)(a:iX)(f:St)(Q:List V->Hp->Prop)(e:jr)(d:ie):Prop:= ∃c b,Inv X a f b d/\Vals c e/\Q c b
def SP(X:Cx)(b:iX)(D:Ends)(f:Flow)(d:ie):Prop:=
 match f with
 | .next=> ∃a c,Inv X b a c d/\D.nx a c
 | .brk=> ∃a c,Inv X b a c d/\D.bk a c
 | .cont=> ∃a c,Inv X b a c d/\D.ct a c
 | .ret u=> ∃v a c,Inv X b a c d/\RelV v u/\D.rt v c
def PE(X:Cx)(e:iq)(t:TE):Prop:=
 ∀(a:iX) (s:ie) (b:St) (U:Hp) (Q:VK),Inv X a b U s->t b U Q->af (aj X.prog X.w) X.A (aQ e X.env) (EP X a b Q) X.xe s
def PT(X:Cx)(e:iq)(t:TT):Prop:=
 ∀(a:iX) (s:ie) (b:St) (U:Hp) (Q:Bool->Hp->Prop),Inv X a b U s->t b U Q->af (aj X.prog X.w) X.A (isTrue e X.env<|aQ e X.env) (TP X a b Q) X.xe s
def PW(X:Cx)(e:iq)(t:TT):Prop:=
 ∀(b:da ir) (a:iX) (s:ie) (c:St) (U:Hp) (Q:Bool->Hp->Prop),Inv X a c U s->t c U Q->af (aj X.prog X.w) X.A (isTrue e X.env b) (TP X a c Q) X.xe s
def PW.pt{X:Cx}{e:iq}{t:TT}(h:PW X e t):PT X e t:=h _
def PA(X:Cx)(d:kj)(t:TA):Prop:=
 ∀(b:bq) (a:iX) (s:ie) (c:St) (U:Hp) (Q:List V->Hp->Prop),Inv X a c U s->t c U Q->af (aj X.prog X.w) X.A (hE<|aF b<|ag d X.env) (ab2 X a c Q) X.xe s
def PS(X:Cx)(st:aV)(t:TS):Prop:=
 ∀(a:iX) (s:ie) (b:St) (U:Hp) (D:Ends),Inv X a b U s->t D b U->af (aj X.prog X.w) X.A (exec st X.env) (SP X a D) X.xe s
def Hg(X:Cx)(st:List aV)(t:TS):Prop:=
 ∀(a:iX) (s:ie) (b:St) (U:Hp) (D:Ends),Inv X a b U s->t D b U->af (aj X.prog X.w) X.A (execs st X.env) (SP X a D) X.xe s
def NL{c:Type}{t:da c}{Q b:c->ie->Prop}{M:ga}{A:iE}{E:iY}{s:ie}(h:af M A t Q E s)(d: ∀a s,Q a s->b a s):af M A t b E s:=nI h d λ_ _ x=>x
section
variable {X:Cx}
def abk(i:Nat):TE:=λa U Q=> ∃v,a[i]?=Y (Y v)/\Q v U
noncomputable def tC(v:V):TE:=λ_ U Q=>Q v U
def xj{i:Nat}{x:ay}{f:bq}(g:X.N[i]?=Y x)(hv:JU X.env.scope x)(hd:(x==("__debug__":ay))=C:=by decide)(n:(x==("__classdict__":ay))=C:=by decide):PE X (.Name x f) (abk i):=by
 intro a s o U Q T h;obtain⟨v,e,h⟩:=h;obtain⟨m,k,j⟩:=T.loc;obtain⟨u,r,l⟩:=j i x v g e hv;have fin:EP X a o Q u s:=⟨v,U,T,r,h⟩
 rcases l with⟨hk,hm⟩|⟨hk,c,b,d⟩
 .exact m4 (wpAny_loadName_local T.ok.kind hk k hm fin) hd
 .rcases hk with hk|hk
  .exact m4 (wpAny_loadName_cell T.ok.kind hk b d fin) hd
  .exact m4 (wpAny_loadName_free T.ok.kind hk b d fin n) hd
def Pw{i j f}:PE X (.Constant (.int i) j f) (tC<|.int i):=λ_ _ _ U _ T h=>wpAny_Constant_int ⟨.int i,U,T.tok _,⟨_,rfl⟩,h⟩
def aab{b j f}:PE X (.Constant (.bool b) j f) (tC<|.bl b):=λ_ _ _ U _ T h=>Constant_bool ⟨.bl b,U,T,rfl,h⟩
def Xg{j f}:PE X (.Constant .none j f) (tC .T1):=λ_ _ _ U _ T h=>Constant_none ⟨.T1,U,T,rfl,h⟩
def Xd{x j f}:PE X (.Constant (.str x) j f) (tC<|.str x):=λ_ _ _ U _ T h=>Calls.Constant_str ⟨.str x,U,T.tok _,⟨_,rfl⟩,h⟩
def Gl(X:Cx)(x:ay):Prop:=X.env.kindOf x=Y .globalImplicit
def AI{E:iY}{a:iX}{s:ie}{d:St}{U:Hp}{x:ay}{u:ir}{f:bq}{Q:iY}(T:Inv X a d U s)(b:Gl X x)(c:X.mg x=Y u)(h:Q u s)
  (hd:(x==("__debug__":ay))=C:=by decide):af (aj X.prog X.w) X.A (aQ (.Name x f) X.env) Q E s:=
 NS T.ok.kind b (Calls.loadGlobal_global (by rw[T.ok.glob];exact T.mod.glob.keeps T.bk) c h) hd
def si{E:iY}{a:iX}{s:ie}{g:St}{U:Hp}{x:ay}{u:ir}{f:bq}{Q:iY}(T:Inv X a g U s)(c:Gl X x)(d:X.mg x=I)(hv:aH x=Y u)(h:Q u s)
  (e:x≠"__name__":=by decide)(hd:(x==("__debug__":ay))=C:=by decide):af (aj X.prog X.w) X.A (aQ (.Name x f) X.env) Q E s:=by
 obtain⟨i,h1,b⟩:=T.mod.blt;exact NS T.ok.kind c (Calls.loadGlobal_builtin (by rw[T.ok.glob];exact T.mod.glob.keeps T.bk) d (by rw[T.ok.blt];exact h1.keeps T.bk) ((b x e).trans hv) h) hd
def Kz{x:ay}{v:V}{u:ir}{f:bq}(a:Gl X x)(b:X.mg x=Y u)(r:RelV v u)(hd:(x==("__debug__":ay))=C:=by decide):PE X (.Name x f) (tC v):=
 λ_ _ _ U _ T h=>AI T a b ⟨v,U,T,r,h⟩ hd
def TH{x:ay}{v:V}{u:ir}{f:bq}(a:Gl X x)(b:X.mg x=I)(hv:aH x=Y u)(r:RelV v u)(c:x≠"__name__":=by decide)(hd:(x==("__debug__":ay))=C:=by decide):PE X (.Name x f) (tC v):=
 λ_ _ _ U _ T h=>si T a b hv ⟨v,U,T,r,h⟩ c hd
def t2I(g tb:TE)(k:Int->Int->Hp->Prop):St->Hp->Prop:=λa U=>g a U λx b=>tb a b λy c=> ∃i j,x= .int i/\y= .int j/\k i j c
variable {a b:iq}{g tb:TE}{f:bq}
noncomputable def Au(p:Int->Int->Bool)(g tb:TE):TE:=λd U Q=>t2I g tb (λi j c=>Q (.bl<|p i j) c) d U
noncomputable def tB(t:TE):TT:=λe U Q=>t e U λx d=> ∃c,x= .bl c/\Q c d
def W4{e:iq}{t:TE}(h:PE X e t)(l: ∀c,isTrue e X.env c=(do let v <-c;b4 e.pos;bV [v] (hD v)):=by intro _;rfl):PT X e (tB t):=by intro i s p U Q T m;refine D0 (NL (h i s p U _ T m) λv s1 O=>?_)<|l _;obtain⟨x,j,k,o,n⟩:=O;obtain⟨d,rfl,q⟩:=n;cases o;exact xK ⟨j,k,q⟩
variable {tA n:TT}{jl:kj}
noncomputable def abw(t u:TT):TT:=λe U Q=>t e U λc d=>if c=J then u e d Q else Q C d
noncomputable def tOr(t u:TT):TT:=λe U Q=>t e U λc d=>if c=J then Q J d else u e d Q
noncomputable def IT(t:TT):TT:=λe U Q=>t e U λc d=>Q (!c) d
def Th(i:PT X a tA):PW X (.BoolOp .And [a] f) tA:=by
 intro wh d s j U Q T h;refine isTrue_and<|NL (i d s j U Q T h) λc s1 e=>?_
 cases c with
 |true=>exact isTrue_and_nil e
 |false=>exact e
def WY(i:PT X a tA):PW X (.BoolOp .Or [a] f) tA:=by
 intro wh d s j U Q T h;refine isTrue_or<|NL (i d s j U Q T h) λc s1 e=>?_
 cases c with
 |false=>exact isTrue_or_nil e
 |true=>exact e
def WZ(l:PT X a tA)(m:PW X (.BoolOp .And (b::jl) f) n):PW X (.BoolOp .And (a::b::jl) f) (abw tA n):=by
 intro wh d s k U Q T h;refine isTrue_and<|NL (l d s k U _ T h) λc s1 O=>?_;obtain⟨e,i,j⟩:=O
 cases c with
 |true=>exact m wh d s1 k e Q i j
 |false=>exact⟨e,i,j⟩
def Z6(l:PT X a tA)(m:PW X (.BoolOp .Or (b::jl) f) n):PW X (.BoolOp .Or (a::b::jl) f) (tOr tA n):=by
 intro wh d s k U Q T h;refine isTrue_or<|NL (l d s k U _ T h) λc s1 O=>?_;obtain⟨e,i,j⟩:=O
 cases c with
 |true=>exact⟨e,i,j⟩
 |false=>exact m wh d s1 k e Q i j
def W5(i:PT X a tA):PT X (.UnaryOp .Not a f) (IT tA):=by intro d s j U Q T h;exact isTrue_not<|i d s j U (λc e=>Q (!c) e) T h
def ZO(g tb:TE):TE:=λe U Q=>g e U λx d=> ∃c,x= .bl c/\if c=J then tb e d Q else Q (.bl C) d
def ZH(g:TE):TE:=λe U Q=>g e U λx d=> ∃c,x= .bl c/\Q (.bl (!c)) d
def Xe{op}{t:TE}(h:PE X a t):PE X (.BoolOp op [a] f) t:=λc s e U Q T d=>BoolOp_one<|h c s e U Q T d
def Xk(l:PE X a g)(m:PE X (.BoolOp .And (b::jl) f) tb):PE X (.BoolOp .And (a::b::jl) f) (ZO g tb):=by
 intro d s k U Q T h;refine BoolOp_and<|NL (l d s k U _ T h) λv s1 O=>?_;obtain⟨x,i,j,o,e⟩:=O;obtain⟨c,rfl,e⟩:=e;cases o;refine xK ?_
 cases c with
 |true=>exact m d s1 k i Q j e
 |false=>exact⟨.bl C,i,j,rfl,e⟩
def Xf(k:PE X a g):PE X (.UnaryOp .Not a f) (ZH g):=by intro d s m U Q T h;refine UnaryOp_<|NL (k d s m U _ T h) λv s1 O=>?_;obtain⟨x,i,j,l,e⟩:=O;obtain⟨c,rfl,e⟩:=e;cases l;exact not_of<|xK ⟨.bl (!c),i,j,rfl,e⟩
noncomputable def tIf(t:TT)(g tb:TE):TE:=λd U Q=>t d U λc e=>if c=J then g d e Q else tb d e Q
def Px{c:iq}(p:PT X c tA)(m:PE X a g)(o:PE X b tb):PE X (.IfExp c a b f) (tIf tA g tb):=by
 intro e s i U Q T h;refine wpAny_IfExp<|NL (p e s i U _ T h) λd s1 O=>?_;obtain⟨j,k,l⟩:=O
 cases d with
 |true=>exact m e s1 i j Q k l
 |false=>exact o e s1 i j Q k l
end
def FV(K:iJ)(U:Hp)(a:hJ)(xs:List V):Prop:=
 Rd U a (.lst xs)\/
  ∃(o:eE) (b:oA) (n:Nat),K.lookup a=Y o/\o.cls= .type "list"/\o.dict=I/\o.data= .seq b n/\b.size<=sizeLine/\Vals xs b.toList
def Ff(K:iJ)(U:Hp)(a:hJ)(c:List V):Prop:=
 Rd U a (.tup c)\/
  ∃(o:eE) (b:oA) (n:Nat),K.lookup a=Y o/\o.cls= .type "tuple"/\o.data= .seq b n/\b.size<=sizeLine/\Vals c b.toList
noncomputable def acz:ir->Option V
 | .none=>Y .T1
 | .bool b=>Y<|.bl b
 | .int i _=>Y<|.int i
 | .str x _=>Y<|.str x
 | .bytes b _=>Y<|.byt b
 | .float b _=>Y<|.flt b
 | .ref a=>Y<|.ref a
 | .type n=>Y<|.ty n
 |_=>I
def RelV.abs{x:V}{u:ir}(r:RelV x u):acz u=Y x:=by
 cases x with
 |T1=>cases r;rfl
 |bl _=>cases r;rfl
 |int _=>obtain⟨t,rfl⟩:=r;rfl
 |str _=>obtain⟨t,rfl⟩:=r;rfl
 |byt _=>obtain⟨t,rfl⟩:=r;rfl
 |flt _=>obtain⟨t,rfl⟩:=r;rfl
 |ref _=>cases r;rfl
 |ty _=>cases r;rfl
def RelV.inj{x y:V}{u:ir}(r:RelV x u)(q:RelV y u):x=y:=kz<|r.abs.symm.trans q.abs
def Vals.inj{c a:List V}{b:jr}(h:Vals c b)(q:Vals a b):c=a:=by
 induction h generalizing a with
 |nil=>cases q;rfl
 |cons r t d=>obtain _|⟨e,f⟩:=q;rw[r.inj e,d f]
section
variable {X:Cx}{b:iX}{f:St}{H:Hp}{s:ie}{a:hJ}{c g:List V}
def FV.of{K:iJ}(h:H a=Y (.lst c)):FV K H a c:= .inl (.inl h)
def Inv.list(U:Inv X b f H s)(h:FV X.K H a c): ∃d:List ir,Vals c d/\PlainL s.heap a d.toArray/\c.length<=sizeLine:=by
 rcases h with h|⟨o,d,n,hk,i,hd,j,k,r⟩
 .obtain⟨z,d,n,r,e⟩:=h.ok U.hok;exact⟨d,r,⟨_,n,e,rfl,rfl,rfl⟩,z⟩
 .refine⟨d.toList,r,⟨o,n,U.J2 a o hk,i,hd,by simpa using j⟩,?_⟩;have e:=r.length;simp only[kL] at e
  lia
def Inv.tuple(U:Inv X b f H s)(h:Ff X.K H a c): ∃d:List ir,Vals c d/\lw s.heap a d.toArray/\c.length<=sizeLine:=by
 rcases h with h|⟨o,d,n,hk,i,j,k,r⟩
 .obtain⟨z,d,r,p⟩:=h.ok U.hok;exact⟨d,r,p,z⟩
 .refine⟨d.toList,r,⟨o,U.J2 a o hk,i,n,by simpa using j⟩,?_⟩;have e:=r.length;simp only[kL] at e
  lia
def Inv.Ge(U:Inv X b f H s)(h:FV X.K H a c)(p:FV X.K H a g):c=g:=by
 obtain⟨j,r,⟨o,n,e,_,_,d⟩,_⟩:=U.list h;obtain⟨i,q,⟨u,t,l,_,_,k⟩,_⟩:=U.list p;rw[e] at l;cases l;rw[d] at k;injection k with m _
 have:j=i:=by simpa using mC n5 m
 subst this;exact r.inj q
def Inv.Dl(U:Inv X b f H s)(h:Ff X.K H a c)(p:Ff X.K H a g):c=g:=by
 obtain⟨j,r,⟨o,e,_,n,d⟩,_⟩:=U.tuple h;obtain⟨i,q,⟨u,l,_,t,k⟩,_⟩:=U.tuple p;rw[e] at l;cases l;rw[d] at k;injection k with m _
 have:j=i:=by simpa using mC n5 m
 subst this;exact r.inj q
end
noncomputable abbrev Cx.IP(X:Cx)(E:iY):Cx:={X with xe:=E}
noncomputable abbrev Cx.JQ(X:Cx):Cx:=X.IP λ_ _=>False
def Cx.Ok.IP{X:Cx}(ok:X.Ok)(E:iY):(X.IP E).Ok:=
 ⟨ok.mod,ok.kind,ok.glob,ok.blt,ok.above,ok.inj,ok.has,ok.cab,ok.hd,ok.frames,ok.stk,ok.exf,ok.bs,ok.bsz,ok.noex,ok.exfs,ok.Fe,ok.frf⟩
def Cx.Ok.Dh{X:Cx}{E:iY}(ok:(X.IP E).Ok):X.Ok:=
 ⟨ok.mod,ok.kind,ok.glob,ok.blt,ok.above,ok.inj,ok.has,ok.cab,ok.hd,ok.frames,ok.stk,ok.exf,ok.bs,ok.bsz,ok.noex,ok.exfs,ok.Fe,ok.frf⟩
section
variable {X:Cx}{a:iX}{b:St}{H:Hp}{s:ie}{E:iY}
def Inv.IP(U:Inv X a b H s)(E:iY):Inv (X.IP E) a b H s:=⟨U.ok.IP E,U.os,U.bare,U.base,U.loc,U.cell,U.free,U.freeC,U.pin,U.hok,U.len⟩
def Inv.Dh(U:Inv (X.IP E) a b H s):Inv X a b H s:=⟨U.ok.Dh,U.os,U.bare,U.base,U.loc,U.cell,U.free,U.freeC,U.pin,U.hok,U.len⟩
def SP.Dh{D:Ends}{f:Flow}{e:ie}(h:SP (X.IP E) a D f e):SP X a D f e:=by
 cases f with
 |next=>obtain⟨c,d,U,q⟩:=h;exact⟨c,d,U.Dh,q⟩
 |brk=>obtain⟨c,d,U,q⟩:=h;exact⟨c,d,U.Dh,q⟩
 |cont=>obtain⟨c,d,U,q⟩:=h;exact⟨c,d,U.Dh,q⟩
 |ret u=>obtain⟨v,c,d,U,r,q⟩:=h;exact⟨v,c,d,U.Dh,r,q⟩
def Hg.JQ{st:List aV}{t:TS}(h:Hg X.JQ st t):Hg X st t:=λa s b H D U c=>nI (h a s b H D (U.IP _) c) (λ_ _ q=>q.Dh) λ_ _ z=>aK z
end
section
variable {X:Cx}{st:aV}{jl:List aV}{t u:TS}{e:iq}{i:TE}{g:bq}
noncomputable def ZI:TS:=λD a U=>D.nx a U
noncomputable def abm(t u:TS):TS:=λD a U=>t {D with nx:=u D} a U
def Tp:Hg X [] ZI:=λ_ _ a U _ T h=>IH ⟨a,U,T,h⟩
def af0(h1:PS X st t)(j:Hg X jl u):Hg X (st::jl) (abm t u):=by
 intro a s k U D T h;refine IG<|NL (h1 a s k U {D with nx:=u D} T h) λf s1 q=>?_
 cases f with
 |next=>obtain⟨b,c,d,q⟩:=q;exact j a s1 b c D d q
 |ret v=>exact q
 |brk=>exact q
 |cont=>exact q
def Inv.quiet{a:iX}{b:St}{U:Hp}{s:ie}(T:Inv X a b U s):Gc X.env=C:=by simp[Gc,T.ok.kind]
noncomputable def ZK(i:TE):TS:=λD a U=>i a U λ_ b=>D.nx a b
def Tq(f:PE X e i)(j:cH e I g.line X.env=pure C:=by rfl):PS X (.Expr e g) (ZK i):=by intro a s b U D T h;exact wpAny_Expr_any (NL (f a s b U _ T h) λv s1 Q=>by obtain⟨x,c,d,l,k⟩:=Q;exact ⟨b,c,d,k⟩) T.quiet j
noncomputable def abn(i:TE):TS:=λD a U=>i a U D.rt
def Pa(f:PE X e i):PS X (.Return (Y e) g) (abn i):=by intro a s b U D T h;exact oC (NL (f a s b U _ T h) λv s1 Q=>by obtain⟨x,c,d,k,j⟩:=Q;exact ⟨x,b,c,d,k,j⟩)
noncomputable def abq(c:TT)(t u:TS):TS:=λD a U=>c a U λb d=>if b=J then t D a d else u D a d
def Z7{c:iq}{a b:List aV}{n:TT}(q:PT X c n)(o:Hg X a t)(p:Hg X b u):PS X (.If c a b g) (abq n t u):=by
 intro f s j U D T h;refine wpAny_If<|NL (q f s j U _ T h) λd s1 Q=>?_;obtain⟨k,l,m⟩:=Q
 cases d with
 |true=>exact o f s1 j k D l m
 |false=>exact p f s1 j k D l m
end
abbrev TG:=V->St->Hp->(St->Hp->Prop)->Prop
abbrev MO:=List V->St->Hp->(St->Hp->Prop)->Prop
def PG(X:Cx)(a:iq)(t:TG):Prop:=
 ∀(b:iX) (s:ie) (e:St) (U:Hp) (v:V) (u:ir) (Q:St->Hp->Prop),Inv X b e U s->RelV v u->t v e U Q->
  af (aj X.prog X.w) X.A (b5 a X.env u) (λ_ f=> ∃c d,Inv X b c d f/\Q c d) X.xe s
def Jx(X:Cx)(h:kj)(t:MO):Prop:=
 ∀(a:iX) (s:ie) (f:St) (U:Hp) (e:List V) (d:jr) (Q:St->Hp->Prop),Inv X a f U s->Vals e d->t e f U Q->
  af (aj X.prog X.w) X.A (xx ((aI h X.env).map (·.2)) d) (λ_ g=> ∃b c,Inv X a b c g/\Q b c) X.xe s
abbrev UZ:=V->V->V->Hp->(Hp->Prop)->Prop
def YE(X:Cx)(t:UZ):Prop:=
 ∀(a:iX) (s:ie) (e:St) (U:Hp) (o i v:V) (d c u:ir) (Q:Hp->Prop),Inv X a e U s->RelV o d->RelV i c->RelV v u->t o i v U Q->
  af (aj X.prog X.w) X.A (hH d c u) (λ_ f=> ∃b,Inv X a e b f/\Q b) X.xe s
section
variable {X:Cx}{d:bq}
noncomputable def G8(i:Nat):TG:=λv a U Q=>Q (a.set i<|Y v) U
def Kx{i:Nat}{x:ay}(c:X.N.Nodup)(f:X.N[i]?=Y x)(g:Loc X.env.scope x)(e:X.fn x=J\/X.env.scope.names.lookup x=Y .local:=by first|exact .inl rfl|exact .inr rfl|assumption):PG X (.Name x d) (G8 i):=by intro a s k U v u Q T r h;exact wpAny_assign_Name<|Gk T c f g r (λj b=>⟨_,U,b,h⟩) e
noncomputable def acr:MO:=λa b U Q=>a=[]/\Q b U
def aaB(t:TG)(u:MO):MO:=λc e U Q=> ∃v r,c=v::r/\t v e U λa b=>u r a b Q
def TC:Jx X [] acr:=by intro a s b U f c Q T r h;obtain⟨e,h⟩:=h;subst e;cases r;exact assignInOrder_nil ⟨b,U,T,h⟩
def Pn{e:iq}{b:kj}{t:TG}{u:MO}(h1:PG X e t)(j:Jx X b u)
  (k:(aI (e::b) X.env).map (·.2)=b5 e X.env::(aI b X.env).map (·.2):=by rfl):Jx X (e::b) (aaB t u):=by
 intro a s n U q o Q T r h;obtain⟨v,p,i,h⟩:=h;subst i
 cases r with
 |cons r m=>rw[k];refine assignInOrder_cons<|NL (h1 a s n U _ _ _ T r h) λ_ s1 O=>?_;obtain⟨c,f,g,l⟩:=O;exact j a s1 c f _ _ Q g m l
def acq(K:iJ)(n:Nat)(t:MO):TG:=λv c U Q=> ∃a b,v= .ref a/\Ff K U a b/\(Ls b)=n/\t b c U Q
def Xb{f:kj}{k:Nat}{t:MO}{n:Nat}(q:X.calm=J)(h:Jx X f t)
  (x:(aI f X.env).length=n:=by rfl)(U:(aI f X.env).findIdx? (·.1)=I:=by rfl):PG X (.Tuple f k d) (acq X.K n t):=by
 intro c s j T v u Q O r g;obtain⟨a,E,m,y,w,g⟩:=g;subst m;cases r;obtain⟨B,i,z,L⟩:=O.tuple y;refine assign_Tuple_tuple (O.ok.hd q) z (by simp[x,<-w,i.length]) U λp A=>?_;have l:Inv X c j T {s with heap:=p}:=O.kept (t':=s.toks) λb o e=>A b o (kd<|jW e) e;exact h c _ j T E _ Q l (by simpa using i) g
noncomputable def JA(to f:TE)(t:UZ):TG:=λv a U Q=>to a U λo b=>f a b λi c=>t o i v c λe=>Q a e
def Po{o i:iq}{to f:TE}{t:UZ}(w:PE X o to)(q:PE X i f)(z:YE X t)
  (p: ∀v,b5 (.Subscript o i d) X.env v=(do
   let b <-bV [v] (aQ o X.env)
   let c <-bV [v,b] (aQ i X.env)
   b4 d
   bV [v,b,c] (hH b c v)
   B0 [v,b,c] []):=by intro _;rfl):PG X (.Subscript o i d) (JA to f t):=by
 intro a s e N v u Q M r h;rw[p];refine hV<|lz<|NL (w a s e N _ M h) λb s1 G=>?_;obtain⟨x,g,l,E,A⟩:=G;refine hV<|lz<|NL (q a s1 e g _ l A) λc O G=>?_;obtain⟨y,j,m,L,B⟩:=G;refine hV<|xJ<|hV<|lz<|NL (z a O e j x y v b c u _ m E L r B) λ_ T G=>?_;obtain⟨k,n,U⟩:=G;exact wpAny_release ⟨e,k,n,U⟩
noncomputable def Wv(c:TE)(g:TG):TS:=λD a U=>c a U λx b=>g x a b D.nx
def Ji{b e:iq}{c:TE}{g:TG}(k:PE X e c)(l:PG X b g)(m:eF [b] e d.line X.env=pure C:=by rfl)(n:eG [b] e X.env=pure I:=by rfl)
  (h1:(aI [b] X.env).map (·.2)=[b5 b X.env]:=by rfl):PS X (.Assign [b] e d) (Wv c g):=by
 intro a s f U D T h;refine wpAny_Assign_stores (NL (k a s f U _ T h) λv s1 Q=>?_) m n;obtain⟨x,i,j,p,o⟩:=Q;rw[h1];exact NL (l a s1 f i x v _ j p o) λ_ r q=>q
def OZ{i:Nat}{x:ay}{e:iq}{c:TE}{a:bq}(k:X.N.Nodup)(n:X.N[i]?=Y x)(p:Loc X.env.scope x)(l:PE X e c)(o:cH e (Y<|.Name x a) d.line X.env=pure C:=by rfl)(m:X.fn x=J\/X.env.scope.names.lookup x=Y .local:=by first|exact .inl rfl|exact .inr rfl|assumption):
  PS X (.Assign [.Name x a] e d) (Wv c<|G8 i):=by
 intro b s t U D T h;refine wpAny_Assign_Name (NL (l b s t U _ T h) λv s1 Q=>?_) o;obtain⟨y,f,g,r,q⟩:=Q;exact Gk g k n p r (λu j=>⟨_,f,j,q⟩) m
def Ws(c:TT)(tb:TS):TS:=λD a U=> ∃W:Nat->St->Hp->Prop,(∃m,W m a U)/\ ∀m a U,W m a U->
 c a U λb g=>if b=J then ∃N:St->Hp->Prop,(∀e f,N e f-> ∃h,h<m/\W h e f)/\tb {D with nx:=N,ct:=N,bk:=D.nx} a g else D.nx a g
def af1{c:iq}{i:List aV}{C:TT}{tb:TS}(B:ey (aj X.prog X.w) X.A X.env X.xe)(O:PT X c C)(L:Hg X i tb):PS X (.While c i [] d) (Ws C tb):=by
 intro a s U H D I h;obtain⟨W,⟨Q,J⟩,turn⟩:=h;refine wpAny_While<|codeAny_whileLoop (λn T=> ∃k u,Inv X a k u T/\W n k u) ?_ Q ⟨U,H,I,J⟩;rintro n s1 ⟨g,H1,E,M⟩;refine wV B<|NL (O a s1 g H1 _ E (turn n g H1 M)) λb G a'=>?_;obtain⟨x,y,l⟩:=a'
 cases b with
 |true=>
  obtain⟨N,z,l⟩:=l;rw[iz K3];refine wV B<|NL (L a G g x _ y l) λf Y m=>?_
  cases f with
  |next=>obtain⟨e,j,o,r⟩:=m;obtain⟨q,p,t⟩:=z e j r;exact⟨q,p,e,j,o,t⟩
  |cont=>obtain⟨e,j,o,r⟩:=m;obtain⟨q,p,t⟩:=z e j r;exact⟨q,p,e,j,o,t⟩
  |brk=>exact m
  |ret v=>exact m
 |false=>rw[iG ku];exact IH ⟨g,x,y,l⟩
end
structure It where
 go:Nat->Hp->Prop
 yld:Nat->Hp->V->Hp->Prop
 stop:Nat->Hp->Prop
def vR(X:Cx)(a:iX)(U:Hp)(b:hJ):Prop:=
 U b=I/\b≠X.env.locals/\b∉X.fs/\(b∈X.ex\/X.s₀.heap.objs.size<=b)/\(∀x c,X.env.cells.lookup x=Y c->c≠b)/\ ∀p∈X.pn++a,p.1≠b
def Inv.LQ{X:Cx}{a:iX}{i:St}{U f:Hp}{s:ie}{b:hJ}(T:Inv X a i U s)(d:s.heap.objs.size<=b)(g:f b=I):vR X a f b:=by
 refine⟨g,sV<|oq T.lt d,T.OM d,.inr<|kW T.sz d,λx c e z=>?_,λp h z=>?_⟩
 .obtain⟨v,q⟩:=T.cell x c e;exact absurd (oq q.lt<|by rw[z];exact d)<|qP _
 .exact absurd (oq (jW (T.pin p h).1)<|by rw[z];exact d) (qP _)
structure Turn(P:iL)(w:iD)(K:iJ)(tg:iq)(J:It)(fp:ki)(it:hJ)(tn:Nat->iK->Prop):Prop where
 mem:it∈fp
 obj: ∀i h,tn i h-> ∀b∈fp,∃o,h.get? b=J4 o/\ ∀v,o.data≠ .cell v
 keep: ∀i h h',tn i h->(∀b∈fp,∀o,h.get? b=J4 o->h'.get? b=J4 o)->tn i h'
 item: ∀(X:Cx),X.prog=P->X.w=w->X.K=K->X.calm=K0-> ∀(i:Nat) (pins:iX) (s:ie) (σ:St) (H:Hp) (E:iY),Inv X pins σ H s->(∀b∈fp,vR X pins H b)->tn i s.heap->J.go i H->
  af (aj P w) X.A (b9<|.ref it) (λr s1=> ∃u,r=J4 u/\
   af (aj P w) X.A (d1 tg (.ref it) u) (λ_ s2=> ∃x H',Inv X pins σ H' s2/\RelV x u/\J.yld i H x H'/\tn (i+1) s2.heap/\ ∀b∈fp,H' b=KE) E s1) E s
 done: ∀(X:Cx),X.prog=P->X.w=w->X.K=K->X.calm=K0-> ∀(i:Nat) (pins:iX) (s:ie) (σ:St) (H:Hp) (E:iY),Inv X pins σ H s->(∀b∈fp,vR X pins H b)->tn i s.heap->J.stop i H->
  af (aj P w) X.A (b9<|.ref it) (λr s1=>r=KE/\Inv X pins σ H s1) E s
 self: ∀(A:iE) (i:Nat) (s:ie) (Q:iY) (E:iY),tn i s.heap->Q (.ref it) s->af (aj P w) A (c1<|.ref it) Q E s
abbrev TI:=St->Hp->(It->Hp->Prop)->Prop
def PIE(X:Cx)(a:iX)(i:St)(h:iq)(R:It->Hp->Prop)(g:ir)(e:ie):Prop:=
 ∃(it:hJ) (d:ki) (f:Nat->iK->Prop) (U:It) (c:Hp),g= .ref it/\Inv X a i c e/\Turn X.prog X.w X.K h U d it f/\f 0 e.heap/\(∀b∈d,vR X a c b)/\R U c
def PI(X:Cx)(tg iter:iq)(c:TI):Prop:=
 ∀(a:iX) (s:ie) (b:St) (U:Hp) (R:It->Hp->Prop),Inv X a b U s->c b U R->
  af (aj X.prog X.w) X.A (aQ iter X.env) (λv s1=>af (aj X.prog X.w) X.A (c1 v) (PIE X a b tg R) X.xe s1) X.xe s
def QU{M:ga}{A:iE}{E:iY}{s:ie}{b:iq}{it:hJ}{u:ir}{o:eE}{n:String}{c:oA}{Q:Unit->ie->Prop}(f:s.heap.get? it=Y o)(d:o.cls= .type n)(hd:o.data= .fields c)
  (e:["enumerate","zip","dict_itemiterator","dict_reverseitemiterator","odict_iterator","itertools.zip_longest","itertools.pairwise"].contains n=C)(a:Q () s):af M A (d1 b (.ref it) u) Q E s:=by
 unfold d1
 cases b<;>first
  |exact iw a
  |(cases u<;>first
    |exact iw a
    |(
      refine hV<|Bg f ?_;rw[d,hd];show af M A (if(["enumerate","zip","dict_itemiterator","dict_reverseitemiterator","odict_iterator","itertools.zip_longest","itertools.pairwise"].contains n&&c[0]?==Y (dA _))=J then _ else _) Q E s;rw[iG (by intro h;rw[e,dU] at h;cases h)];exact iw a))
noncomputable def Itl(K:iJ)(a:hJ):It:=
 ⟨λi U=> ∃b x,FV K U a b/\b[i]?=Y x,λi U x c=>c=U/\ ∀b,FV K U a b->b[i]?=Y x,λi U=> ∃b,FV K U a b/\(Ls b)<=i⟩
noncomputable def Itt(K:iJ)(a:hJ):It:=
 ⟨λi U=> ∃b x,Ff K U a b/\b[i]?=Y x,λi U x c=>c=U/\ ∀b,Ff K U a b->b[i]?=Y x,λi U=> ∃b,Ff K U a b/\(Ls b)<=i⟩
noncomputable def Ot(lo:Int)(n:Nat):It:=⟨λi _=>i<n,λi U x a=>a=U/\x= .int (lo+i),λi _=>n<=i⟩
def aeY{P:iL}{w:iD}{K:iJ}{tg:iq}(a it:hJ):Turn P w K tg (Itl K a) [it] it (λi h=>h.IsListIter it a i) where
 mem:=by simp
 obj:=λi h st b g=>by
  have e:b=it:=by simpa using g
  subst e;obtain⟨o,e,c,d⟩:=st;exact⟨o,e,λv z=>by rw[d] at z;cases z⟩
 keep:=λi h j st k=>st.at λo e=>k it (by simp) o e
 item:=by intro X y B t T i f s G H E I l st A;subst y B t;obtain⟨S,x,m,C⟩:=A;obtain⟨L,O,p,D⟩:=I.list m;obtain⟨u,U,F⟩:=O.get C;obtain⟨f0,f1,N,n,q,r⟩:=l it (by simp);refine wpAny_pyNext_list_item st p.isList (x:=u) (by simpa using U) λj Q R=>?_;have J:Inv X f G H {s with heap:=j}:=I.turned (t':=s.toks) (λb o g e=>(R.2 b g).trans e) f0 f1 n q r;obtain⟨o,e,c,d⟩:=id Q;exact⟨u,rfl,QU (s:={s with heap:=j}) e c d (by decide) ⟨x,H,J,F,⟨rfl,λW Y=>by rw[I.Ge Y m];exact C⟩,Q,λb g=>(l b g).1⟩⟩
 done:=by intro X y B t T i f s G H E I l st A;subst y B t;obtain⟨S,m,C⟩:=A;obtain⟨L,O,p,D⟩:=I.list m;obtain⟨f0,f1,N,n,q,r⟩:=l it (by simp);have V:=O.length;exact wpAny_pyNext_list_end (I.ok.hd T) st p.isList (by simp;lia) λj M=>⟨rfl,I.turned (t':=s.toks) (λb o g e=>M b o g e) f0 f1 n q r⟩
 self:=λ_ _ _ _ _ st h=>wpAny_pyIter_listiter st h
def ad9{P:iL}{w:iD}{K:iJ}{tg:iq}(a it:hJ):Turn P w K tg (Itt K a) [it] it (λi h=>h.IsTupleIter it a i) where
 mem:=by simp
 obj:=λi h st b g=>by
  have e:b=it:=by simpa using g
  subst e;obtain⟨o,e,c,d⟩:=st;exact⟨o,e,λv z=>by rw[d] at z;cases z⟩
 keep:=λi h l st k=>st.at λo e=>k it (by simp) o e
 item:=by intro X A C y T i f s G H E I m st B;subst A C y;obtain⟨S,x,n,L⟩:=B;obtain⟨j,O,p,D⟩:=I.tuple n;obtain⟨u,U,F⟩:=O.get L;obtain⟨f0,f1,N,q,r,t⟩:=m it (by simp);refine wpAny_pyNext_tuple_item st (show s.heap.IsTuple a j.toArray from p) (x:=u) (by simpa using U) λl Q R=>?_;have J:Inv X f G H {s with heap:=l}:=I.turned (t':=s.toks) (λb o g e=>(R.2 b g).trans e) f0 f1 q r t;obtain⟨o,e,c,d⟩:=id Q;exact⟨u,rfl,QU (s:={s with heap:=l}) e c d (by decide) ⟨x,H,J,F,⟨rfl,λW Y=>by rw[I.Dl Y n];exact L⟩,Q,λb g=>(m b g).1⟩⟩
 done:=by intro X A C y T i f s G H E I m st B;subst A C y;obtain⟨S,n,L⟩:=B;obtain⟨j,O,p,D⟩:=I.tuple n;obtain⟨f0,f1,N,q,r,t⟩:=m it (by simp);have V:=O.length;exact wpAny_pyNext_tuple_end (I.ok.hd T) st (show s.heap.IsTuple a j.toArray from p) (by simp;lia) λl M=>⟨rfl,I.turned (t':=s.toks) (λb o g e=>M b o g e) f0 f1 q r t⟩
 self:=λ_ _ _ _ _ st h=>wpAny_pyIter_tupleiter st h
def aea{P:iL}{w:iD}{K:iJ}{Q:iq}(it:hJ)(lo:Int)(n:Nat):Turn P w K Q (Ot lo n) [it] it (λi h=>I8 h it (lo+(i:Nat)*1) ((n:Int)-(i:Nat)) 1) where
 mem:=by simp
 obj:=λi h st b c=>by
  have e:b=it:=by simpa using c
  subst e
  exact⟨_,st,λv z=>by have T:Data.fields _=Data.cell v:=z;cases T⟩
 keep:=λi h d st k=>k it (by simp) _ st
 item:=by intro X p u m q i a s A N E M f st r;subst p u m;obtain⟨f0,f1,L,g,j,l⟩:=f it (by simp);have W:=Walks.range (prog:=X.prog) (w:=X.w) (M.ok.hd q) it lo 1 n;refine W.item i s _ _ r st λv d y hv x O=>?_;obtain⟨t,rfl⟩:=hv;have B:Inv X a A N {s with heap:=d,toks:=y}:=M.turned (λb o c e=>O b o (by simpa using c) e) f0 f1 g j l;refine⟨_,rfl,QU (s:={s with heap:=d,toks:=y}) (n:="range_iterator") x H H (by decide) ⟨.int<|lo+i,N,B,⟨t,?_⟩,⟨rfl,rfl⟩,x,λb c=>(f b c).1⟩⟩;rw[Bf]
 done:=by intro X p u m q i a s A N E M f st r;subst p u m;obtain⟨f0,f1,L,g,j,l⟩:=f it (by simp);exact wpAny_pyNext_range_end (M.ok.hd q) st (by have:n<=i:=r;lia) λd U=>⟨rfl,M.turned (t':=s.toks) (λb o c e=>U b o c e) f0 f1 g j l⟩
 self:=λ_ _ _ _ _ st h=>wpAny_pyIter_rangeiter st h
section
variable {X:Cx}{tg:iq}
def aay(K:iJ)(c:TE):TI:=λe U R=>c e U λx b=> ∃a,x= .ref a/\(∃d,FV K b a d)/\R (Itl K a) b
def aco(K:iJ)(c:TE):TI:=λe U R=>c e U λx b=> ∃a,x= .ref a/\(∃d,Ff K b a d)/\R (Itt K a) b
def Tw{l:iq}{f:TE}(j:PE X l f):PI X tg l (aay X.K f):=by
 intro c s t U R T h;refine NL (j c s t U _ T h) λv s1 Q=>?_;obtain⟨x,g,d,r,n⟩:=Q;obtain⟨a,e,⟨y,k⟩,q⟩:=n;subst e;cases r;obtain⟨m,w,p,u⟩:=d.list k;refine Be p.isList ?_;refine⟨s1.heap.objs.size,[s1.heap.objs.size],_,_,g,rfl,d.kept (t':=s1.toks) λb o e=>jU _ e,aeY a _,⟨_,km _ rfl,rfl,rfl⟩,λb i=>?_,q⟩;have e:b=s1.heap.objs.size:=by simpa using i
 subst e;exact d.LQ (jM _)<|d.hok.fresh<|jM _
def Xa{l:iq}{g:TE}(k:PE X l g):PI X tg l (aco X.K g):=by
 intro c s t U R T h;refine NL (k c s t U _ T h) λv s1 Q=>?_;obtain⟨x,i,d,r,n⟩:=Q;obtain⟨a,e,⟨y,m⟩,q⟩:=n;subst e;cases r;obtain⟨f,w,p,u⟩:=d.tuple m;refine IF (show s1.heap.IsTuple a f.toArray from p) ?_;refine⟨s1.heap.objs.size,[s1.heap.objs.size],_,_,i,rfl,d.kept (t':=s1.toks) λb o e=>jU _ e,ad9 a _,⟨_,km _ rfl,rfl,rfl⟩,λb j=>?_,q⟩;have e:b=s1.heap.objs.size:=by simpa using j
 subst e;exact d.LQ (jM _)<|d.hok.fresh<|jM _
def GA{c:iX}{g:St}{U:Hp}{s:ie}{R:It->Hp->Prop}{E:iY}{lo a:Int}{t u v:pw}{f:Nat}(T:Inv X c g U s)(h1: -(2^62)<=lo)(j:lo<2^62)(k: -(2^62)<=a)(l:a<2^62)
  (q:R (Ot lo (a-lo).toNat) U):af (aj X.prog X.w) X.A (c1<|.ref s.heap.objs.size) (PIE X c g tg R) E {s with heap:=s.heap.push {cls:= .type "range",data:= .fields #[.int lo t,.int a u,.int 1 v]},toks:=f}:=by
 refine wpAny_pyIter_range (IsRange.new ..) (small_one h1 j k l) ?_;have d:Inv X c g U {s with heap:=s.heap.push {cls:= .type "range",data:= .fields #[.int lo t,.int a u,.int 1 v]},toks:=f}:=T.kept λb o e=>jU _ e
 refine⟨(s.heap.push {cls:= .type "range",data:= .fields #[.int lo t,.int a u,.int 1 v]}).objs.size,[(s.heap.push {cls:= .type "range",data:= .fields #[.int lo t,.int a u,.int 1 v]}).objs.size],_,_,U,rfl,
  d.kept (t':=f) λb o e=>jU _ e,aea _ lo (a-lo).toNat,?_,λb m=>?_,q⟩
 .have h:lo+((0:Nat):Int)*1=lo:=by simp
  have i:(((a-lo).toNat:Nat):Int)-((0:Nat):Int)=ez lo a 1:=by rw[xc];split<;>lia
  show I8 _ _ (lo+((0:Nat):Int)*1) ((((a-lo).toNat:Nat):Int)-((0:Nat):Int)) 1;rw[h,i];exact km _ rfl
 .have e:b=(s.heap.push {cls:= .type "range",data:= .fields #[.int lo t,.int a u,.int 1 v]}).objs.size:=by simpa using m
  subst e;exact d.LQ (jM _)<|d.hok.fresh<|jM _
def aax(b:TA):TI:=λd U R=>b d U λc a=> ∃j:Int,c=[.int j]/\ -(2^62)<=j/\j<2^62/\R (Ot 0 j.toNat) a
def aaw(b:TA):TI:=λd U R=>b d U λc a=> ∃i j:Int,c=[.int i,.int j]/\(-(2^62)<=i/\i<2^62/\ -(2^62)<=j/\j<2^62)/\R (Ot i (j-i).toNat) a
def afw{a:iq}{f:TA}{p c:bq}(k:Gl X "range")(l:X.mg "range"=I)(i:PA X [a] f)(m:ag [a] X.env=[(C,aQ a X.env)]:=by rfl):PI X tg (.Call (.Name "range" p) [a] [] c) (aax f):=by
 intro b s v U R T h;refine Call_<|si T k l EK<|IE (NL (i c b s v U _ T h) λx s1 Q=>?_) m H;obtain⟨y,w,g,o,d⟩:=Q;obtain⟨j,e,d,n,q⟩:=d;subst e
 cases o with
 |cons r u=>
  cases u;obtain⟨t,rfl⟩:=r;exact call_range_1<|GA g (by lia) (by lia) d n (by simpa using q)
def afv{a b:iq}{l:TA}{p d:bq}(o:Gl X "range")(u:X.mg "range"=I)(n:PA X [a,b] l)(v:ag [a,b] X.env=[(C,aQ a X.env),(C,aQ b X.env)]:=by rfl)(k:ag [b] X.env=[(C,aQ b X.env)]:=by rfl):
  PI X tg (.Call (.Name "range" p) [a,b] [] d) (aaw l):=by
 intro c s B T R Q h;refine Call_<|si Q o u EK<|IE (NL (n d c s B T _ Q h) λL s1 N=>?_) (by rw[v,k]) (by rw[k];rfl);obtain⟨O,U,m,A,f⟩:=N;obtain⟨i,j,e,⟨f,w,x,y⟩,q⟩:=f;subst e
 cases A with
 |cons r g=>
  cases g with
  |cons z g=>
   cases g;obtain⟨t,rfl⟩:=r;obtain⟨E,rfl⟩:=z;exact B4<|GA m f w x y q
def abr(j:TI)(g:TG)(tb:TS):TS:=λD a U=>j a U λT f=> ∃W:Nat->Nat->St->Hp->Prop,(∃m,W 0 m a f)/\ ∀i m a U,W i m a U->
 (T.stop i U/\D.nx a U)\/(T.go i U/\ ∃N:St->Hp->Prop,(∀c b,N c b-> ∃e,e<m/\W (i+1) e c b)/\ ∀x b,T.yld i U x b->g x a b λd h=>tb {D with nx:=N,ct:=N,bk:=D.nx} d h)
noncomputable def BC(a:ki)(h:iK):List (hJ×eE):=a.filterMap λb=>(h.get? b).map λo=>(b,o)
def sf{a:ki}{h:iK}{b:hJ}{o:eE}(c:b∈a)(e:h.get? b=Y o):(b,o)∈BC a h:=em.mpr ⟨b,c,by rw[e];rfl⟩
def afC{a:ki}{h:iK}{p:hJ×eE}(f:p∈BC a h):p.1∈a/\h.get? p.1=Y p.2:=by
 obtain⟨b,d,e⟩:=em.mp f
 cases q:h.get? b with
 |none=>rw[q] at e;cases e
 |some o=>rw[q] at e;have c:(b,o)=p:=kz e;subst c;exact⟨d,q⟩
def Inv.pinned{a:iX}{h:St}{U:Hp}{s:ie}{c:ki}(T:Inv X a h U s)(j: ∀b∈c,vR X a U b)(k: ∀b∈c,∃o,s.heap.get? b=Y o/\ ∀v,o.data≠ .cell v):Inv X (a++BC c s.heap) h U s:=
 T.GJ λp l=>(qh.mp l).elim (λz=>T.pin p<|oU _ z) λz=>by obtain⟨g,e⟩:=afC z;obtain⟨f0,f1,i,_⟩:=j p.1 g;obtain⟨o,f,d⟩:=k p.1 g;rw[e] at f;cases f;exact⟨e,f0,f1,i,d⟩
def Inv.CT{a d:iX}{b:St}{U:Hp}{s:ie}(T:Inv X (a++d) b U s):Inv X a b U s:=T.GJ λp c=>T.pin p<|oU _ (Bh _ c)
def W7{iter:iq}{y:List aV}{wi:TI}{g:TG}{tb:TS}{G:bq}(C:ey (aj X.prog X.w) X.A X.env X.xe)(hc:X.calm=K0)(hi:PI X tg iter wi)(hg:PG X tg g)(l:Hg X y tb)
  (hs: ∀x,aw iter X.env x=pure x:=by intro _;rfl):PS X (.For tg iter y [] G) (abr wi g tb):=by
 intro a s R H D I h;refine wpAny_For (NL (hi a s R H _ I h) λv s1 h1=>NL h1 λcJ s2 h2=>?_) hs;obtain⟨it,B,P,J,S,e,V,T,u7,F,W,⟨m0,w0⟩,turn⟩:=h2;subst e;have U: ∀{t:Hp},(∀b∈B,t b=KE)-> ∀b∈B,vR X a t b:=λhn b l=>⟨hn b l,(F b l).2⟩
 refine codeAny_forLoop_any (λn K=> ∃i p t,Inv X a p t K/\P i K.heap/\(∀b∈B,t b=KE)/\W i n p t) ?_ m0 ⟨0,R,S,V,u7,λb l=>(F b l).1,w0⟩;rintro n s3 ⟨i,q,L,I3,cZ,cU,w3⟩;rcases turn i n q L w3 with⟨stop,qn⟩|⟨go,N,hN,step⟩
 .refine wV C (NL (T.done X K3 K3 K3 hc i a s3 q L X.xe I3 (U cU) cZ stop) λr s4 a'=>?_);obtain⟨Q,I4⟩:=a';subst Q;exact IH ⟨q,L,I4,qn⟩
 .refine wV C (NL (T.item X K3 K3 K3 hc i a s3 q L X.xe I3 (U cU) cZ go) λr s4 a'=>?_);obtain⟨u,Q,h4⟩:=a';subst Q;refine wV C<|NL h4 λ_ s5 a'=>?_;obtain⟨x,H5,I5,r5,y5,O,gK⟩:=a';have Z:=I5.pinned (U gK)<|T.obj _ _ O;refine wV C<|NL (hg _ s5 q H5 x u _ Z r5 (step x H5 y5)) λ_ s6 a'=>?_;obtain⟨Y',H6,I6,q6⟩:=a';refine wV C (NL (l _ s6 Y' H6 _ I6 q6) λf M z=>?_)
  have again: ∀{c:St} {j:Hp},Inv X (a++BC B s5.heap) c j M->N c j-> ∃m,m<n/\ ∃i p t,Inv X a p t M/\P i M.heap/\(∀b∈B,t b=KE)/\W i m p t:=λ{c j} k E=>by obtain⟨m',hm,w7⟩:=hN c j E;refine⟨m',hm,i+1,c,j,k.CT,T.keep _ _ _ O λb l o e=>(k.pin (b,o)<|oU _ (oU _ (sf l e))).1,λb l=>?_,w7⟩;obtain⟨o,e,d⟩:=T.obj _ _ O b l;exact(k.pin (b,o)<|oU _ (oU _ (sf l e))).2.1
  cases f with
  |next=>obtain⟨c,j,k,E⟩:=z;exact again k E
  |cont=>obtain⟨c,j,k,E⟩:=z;exact again k E
  |brk=>obtain⟨c,j,k,z⟩:=z;exact⟨c,j,k.CT,z⟩
  |ret v=>obtain⟨x7,c,j,k,r7,z⟩:=z;exact⟨x7,c,j,k.CT,r7,z⟩
end
abbrev R2:=V->V->Hp->VK->Prop
def BO(X:Cx)(f:zW)(r:R2):Prop:=
 ∀(a:iX) (s:ie) (b:St) (U:Hp) (x y:V) (v u:ir) (Q:VK),Inv X a b U s->RelV x v->RelV y u->r x y U Q->
  af (aj X.prog X.w) X.A (f v u) (EP X a b Q) X.xe s
def PN(X:Cx)(f:ir->da ir)(r:V->Hp->VK->Prop):Prop:=
 ∀(a:iX) (s:ie) (b:St) (U:Hp) (x:V) (v:ir) (Q:VK),Inv X a b U s->RelV x v->r x U Q->
  af (aj X.prog X.w) X.A (f v) (EP X a b Q) X.xe s
def kG(X:Cx)(f:ir)(r:List V->Hp->VK->Prop):Prop:=
 ∀(a:iX) (s:ie) (d:St) (U:Hp) (c:List V) (b:jr) (Q:VK),Inv X a d U s->Vals c b->r c U Q->
  af (aj X.prog X.w) X.A (call f b) (EP X a d Q) X.xe s
def acA(X:Cx)(r:V->Hp->(Bool->Hp->Prop)->Prop):Prop:=
 ∀(a:iX) (s:ie) (b:St) (U:Hp) (x:V) (v:ir) (Q:Bool->Hp->Prop),Inv X a b U s->RelV x v->r x U Q->
  af (aj X.prog X.w) X.A (hD v) (TP X a b Q) X.xe s
noncomputable def Mi(r:R2)(d tb:TE):TE:=λa U Q=>d a U λx b=>tb a b λy c=>r x y c Q
def tUn(r:V->Hp->VK->Prop)(b:TE):TE:=λc U Q=>b c U λx a=>r x a Q
def rI(U:Int->Int->Prop)(g:Int->Int->V):R2:=λx y T Q=> ∃i j,x= .int i/\y= .int j/\U i j/\Q (g i j) T
def Jy(g:Int->Int->V):R2:=λx y U Q=> ∃i j,x= .int i/\y= .int j/\Q (g i j) U
def rU(g:Int->V):V->Hp->VK->Prop:=λx U Q=> ∃i,x= .int i/\Q (g i) U
section
variable {X:Cx}{a b c:iq}{l tb o:TE}{n:bq}
def Yz(r:PE X a l)(t:PE X b tb){d:iX}{s:ie}{g:St}{T:Hp}{R:V->V->Hp->Prop}(O:Inv X d g T s)
  (h:l g T λx m=>tb g m λy e=>R x y e){Q:iY}{f:zW}
  (z: ∀v u k x y e,Inv X d g e k->RelV x v->RelV y u->R x y e->af (aj X.prog X.w) X.A (f v u) Q X.xe k):
  af (aj X.prog X.w) X.A (aQ a X.env) (λv i=>af (aj X.prog X.w) X.A (aQ b X.env) (λu j=>af (aj X.prog X.w) X.A (f v u) Q X.xe j) X.xe i) X.xe s:=by
 refine NL (r d s g T _ O h) λv s1 N=>?_;obtain⟨x,m,p,E,B⟩:=N;refine NL (t d s1 g m _ p B) λu k N=>?_;obtain⟨y,e,q,L,U⟩:=N;exact z v u k x y e q E L U
def Z9{e:Operator}{r:R2}(k:BO X (aU e) r)(i:PE X a l)(j:PE X b tb):PE X (.BinOp a e b n) (Mi r l tb):=by intro d s w U Q T h;exact wpAny_BinOp<|Yz i j T h λv u t x y f g m p q=>k d t w f x y v u Q g m p q
def Z8{e:UnaryOp}{r:V->Hp->VK->Prop}(k:PN X (A1 e) r)(j:PE X a l):PE X (.UnaryOp e a n) (tUn r l):=by intro d s f U Q T h;exact UnaryOp_ (NL (j d s f U _ T h) λv s1 O=>by obtain⟨x,g,i,p,m⟩:=O;exact k d s1 f g x v Q i p m)
def Mu{f:zW}{U:Int->Int->Prop}{g:Int->Int->Int}
  (rule: ∀(i j:Int) (t u:pw) (s:ie) (Q:iY) (E:iY),U i j->Q (.int (g i j) s.toks) {s with toks:=s.toks+1}->af (aj X.prog X.w) X.A (f (.int i t)<|.int j u) Q E s):
  BO X f (rI U λi j=> .int (g i j)):=by
 intro d s r T x y v u Q O k m h;obtain⟨i,j,rfl,rfl,e,q⟩:=h;obtain⟨t,rfl⟩:=k;obtain⟨p,rfl⟩:=m;exact rule i j t p s _ _ e ⟨.int<|g i j,T,O.tok _,⟨_,rfl⟩,q⟩
def Xx{f:zW}{g:Int->Int->Int}
  (rule: ∀(i j:Int) (t u:pw) (s:ie) (Q:iY) (E:iY),Q (.int (g i j) s.toks) {s with toks:=s.toks+1}->af (aj X.prog X.w) X.A (f (.int i t)<|.int j u) Q E s):
  BO X f (Jy λi j=> .int (g i j)):=by
 intro d s p U x y v u Q T e k h;obtain⟨i,j,rfl,rfl,q⟩:=h;obtain⟨t,rfl⟩:=e;obtain⟨m,rfl⟩:=k;exact rule i j t m s _ _ ⟨.int<|g i j,U,T.tok _,⟨_,rfl⟩,q⟩
def TY{f:zW}{g:Int->Int->Bool}
  (rule: ∀(i j:Int) (t u:pw) (s:ie) (Q:iY) (E:iY),Q (.bool<|g i j) s->af (aj X.prog X.w) X.A (f (.int i t)<|.int j u) Q E s):
  BO X f (Jy λi j=> .bl (g i j)):=by
 intro d s p U x y v u Q T e k h;obtain⟨i,j,rfl,rfl,q⟩:=h;obtain⟨t,rfl⟩:=e;obtain⟨m,rfl⟩:=k;exact rule i j t m s _ _ ⟨.bl<|g i j,U,T,rfl,q⟩
def M1(i j:Int):Prop:=0<j/\j<1073741824
def yP(i j:Int):Prop:=0<=j/\j<=1000000/\i.natAbs<2^64
def Dk(i j:Int):Prop:=(-(2^64)<i/\i<2^64)\/(-(2^64)<j/\j<2^64)
def Dk.ok{i j:Int}(h:Dk i j):IntMulOk i j:=by
 rcases h with⟨h1,d⟩|⟨h1,d⟩
 .exact .of_left (xf h1 d)
 .exact .of_right (xf h1 d)
def ad8(k:Nat):(0:Int)<=2^k:=by rw[two_pow_cast];exact Int.natCast_nonneg _
def Xw:BO X (aU .Add) (Jy λi j=> .int (i+j)):=Xx λ_ _ _ _ _ _ _ q=>add_int q
def Xm:BO X (aU .Sub) (Jy λi j=> .int (i-j)):=Xx λ_ _ _ _ _ _ _ q=>sub_int q
def Xr:BO X (aU .Mult) (rI Dk λi j=> .int (i*j)):=Mu λ_ _ _ _ _ _ _ d q=>mul_int q d.ok
def TV:BO X (aU .FloorDiv) (rI M1 λi j=> .int (i / j)):=Mu λi j _ _ _ _ _ d q=>by have h1:(0:Int)<j:=d.1;have e:j<1073741824:=d.2;exact floordiv_int (by lia) (by rw[NQ i<|by lia];exact q)<|.inl<|PyProof.noPylong_small (by lia)
def Xs:BO X (aU .Mod) (rI (λ_ j=>0<j) λi j=> .int (i%j)):=Mu λi j _ _ _ _ _ d q=>by have h1:(0:Int)<j:=d;exact mod_int' (by lia) (by rw[Int.fmod_eq_emod_of_nonneg i<|by lia];exact q)
def Xp:BO X (aU .Pow) (rI yP λi j=> .int (i^j.toNat)):=Mu λ_ _ _ _ _ _ _ d q=>pow_int_small d.1 d.2.1 d.2.2 q
def Xo:BO X (aU .LShift) (rI yP λi j=> .int (i*2^j.toNat)):=Mu λ_ _ _ _ _ _ _ d q=>lshift_int_small d.1 d.2.1 d.2.2 q
def Xn:BO X (aU .RShift) (rI (λ_ j=>0<=j) λi j=> .int (i / 2^j.toNat)):=Mu λi j _ _ _ _ _ d q=>rshift_int d (by rw[NQ i<|ad8 _];exact q)
def Xv:BO X (aU .BitAnd) (Jy λi j=> .int (bW i j)):=Xx λ_ _ _ _ _ _ _ q=>and_int q
def unI{f:ir->da ir}{g:Int->Int}
  (rule: ∀(i:Int) (t:pw) (s:ie) (Q:iY) (E:iY),Q (.int (g i) s.toks) {s with toks:=s.toks+1}->af (aj X.prog X.w) X.A (f<|.int i t) Q E s):
  PN X f (rU λi=> .int (g i)):=by
 intro d s j U x v Q T e h;obtain⟨i,rfl,q⟩:=h;obtain⟨t,rfl⟩:=e;exact rule i t s _ _ ⟨.int<|g i,U,T.tok _,⟨_,rfl⟩,q⟩
def Wn:PN X (A1 .USub) (rU λi=> .int (-i)):=unI λ_ _ _ _ _ q=>neg_int q
def aad:BO X (aA .Lt) (Jy λi j=> .bl (decide<|i<j)):=TY λ_ _ _ _ _ _ _ q=>lt_int q
def aae:BO X (aA .LtE) (Jy λi j=> .bl (decide<|i<=j)):=TY λ_ _ _ _ _ _ _ q=>le_int q
def aaf:BO X (aA .Gt) (Jy λi j=> .bl (decide<|j<i)):=TY λ_ _ _ _ _ _ _ q=>gt_int q
def aag:BO X (aA .GtE) (Jy λi j=> .bl (decide<|j<=i)):=TY λ_ _ _ _ _ _ _ q=>ge_int q
def P9(b:iq){d:cB}(h:d≠ .In:=by decide)(g:d≠ .NotIn:=by decide):cO d b=C:=by
 have e:(d==cB.In)=C:=by cases d<;>first|rfl|exact absurd H h
 have f:(d==CmpOp.NotIn)=C:=by cases d<;>first|rfl|exact absurd H g
 cases b<;>simp[cO,e,f]
def TF{e:cB}{r:R2}(m:BO X (aA e) r)(i:PE X a l)(j:PE X b tb)(k:cO e b=C):PE X (.Compare a [e] [b] n) (Mi r l tb):=by intro d s z U Q T h;exact wpAny_Compare1 (Yz i j T h λv u w x y f g p t q=>m d w z f x y v u Q g p t q) k
def ZF(t:TE):TT:=λe U Q=>t e U λx d=> ∃k,x= .bl k/\Q k d
def Tj{g:cB}{r:R2}(E:BO X (aA g) r)(A:PE X a l)(B:PE X b tb)(C:cO g b=K2):PT X (.Compare a [g] [b] n) (ZF<|Mi r l tb):=by intro d s i H Q I h;refine wpAny_isTrue_Compare1 (NL (A d s i H _ I h) λv s1 f=>?_) C;obtain⟨x,j,q,G,L⟩:=f;refine NL (B d s1 i j _ q L) λu N f=>?_;obtain⟨y,m,t,J,O⟩:=f;refine NL (E d N i m x y v u _ t G J O) λc U f=>?_;obtain⟨z,p,w,M,k,e,T⟩:=f;subst e;cases M;exact xK ⟨p,w,T⟩
def Of(r i:R2)(l tb o:TE):TE:=λd U Q=>l d U λx f=>tb d f λy g=>r x y g λz e=> ∃k,z= .bl k/\
 (if k=J then o d e λj h=>i y j h Q else Q (.bl C) e)
def Pz{j m:cB}{r w:R2}(Y:BO X (aA j) r)(G:BO X (aA m) w)(J:PE X a l)(M:PE X b tb)(N:PE X c o)
  (U:lastMarks [j,m] [b,c]=K2:=by with_unfolding_all rfl):PE X (.Compare a [j,m] [b,c] n) (Of r w l tb o):=by
 intro f s i H Q I h;refine Compare_chain (NL (J f s i H _ I h) λv s1 g=>?_) U;obtain⟨x,B,L,K,D⟩:=g;refine chain_link<|NL (M f s1 i B _ L D) λu R g=>?_;obtain⟨y,C,O,A,F⟩:=g;refine NL (Y f R i C x y v u _ O K A F) λd S g=>?_;obtain⟨z,p,q,P,k,e,t⟩:=g;subst e;cases P;refine xK ?_
 cases k with
 |false=>exact ite_ff ⟨.bl K2,p,q,rfl,t⟩
 |true=>exact ite_tt<|chain_last (NL (N f S i p _ q t) λw' s4 a'=>by obtain⟨z',E,T,r4,q4⟩:=a';exact G f s4 i E y z' u w' Q T A r4 q4)
def aaX(K:iJ)(x:V)(U:Hp)(k:Bool):Prop:=
 match x with
 | .T1=>k=C
 | .bl b=>k=b
 | .int i=>k=(i !=0)
 | .str y=>y.length<=sizeLine/\k=((y.length:Int) !=0)
 | .byt y=>y.size<=sizeLine/\k=((y.size:Int) !=0)
 | .ref p=>(∃e,FV K U p e/\k=!e.isEmpty)\/(∃e,Ff K U p e/\k=!e.isEmpty)\/ ∃d,U p=Y (.dK d)/\k=!d.isEmpty
 |_=>False
def aee{f:Type}{d:List (f×V)}{e:List (f×ir)}(r:KV d e):(!e.isEmpty)=!d.isEmpty:=by
 cases r<;>rfl
def B8{e:List V}{d:jr}(r:Vals e d):(!d.toArray.isEmpty)=!e.isEmpty:=by
 cases r<;>simp
def BV:(sizeLine:Nat)<2^63:=by rw[jT];decide
def Wo:acA X (λx N Q=> ∃k,aaX X.K x N k/\Q k N):=by
 intro L s M N x v Q I u h;obtain⟨k,e,q⟩:=h;have G:=BV;have J:sizeLine=16777216:=jT
 cases x with
 |T1=>
  cases u;have d:k=C:=e;subst d;exact truthy_none ⟨N,I,q⟩
 |bl b=>
  cases u;have d:k=b:=e;subst d;exact xK ⟨N,I,q⟩
 |int i=>obtain⟨t,rfl⟩:=u;have d:k=(i !=0):=e;subst d;exact PySem.P.truthy_int ⟨N,I,q⟩
 |str y=>obtain⟨t,rfl⟩:=u;obtain⟨T,d⟩:y.length<=sizeLine/\k=((y.length:Int) !=0):=e;subst d;exact PySem.P.truthy_str (by lia) ⟨N,I.tok _,q⟩
 |byt y=>obtain⟨t,rfl⟩:=u;obtain⟨T,d⟩:y.size<=sizeLine/\k=((y.size:Int) !=0):=e;subst d;exact PySem.W.truthy_bytes (by lia) ⟨N,I.tok _,q⟩
 |ref p=>
  cases u;have d:(∃j,FV X.K N p j/\k=!j.isEmpty)\/(∃j,Ff X.K N p j/\k=!j.isEmpty)\/ ∃f,N p=Y (.dK f)/\k=!f.isEmpty:=e;rcases d with⟨j,z,d⟩|⟨j,z,d⟩|⟨f,z,d⟩
  .subst d;obtain⟨B,r,U,E⟩:=I.list z;have g:=r.length;exact wpAny_truthy_list U.isList (by simp only[jq];lia) ⟨N,I.tok _,by rw[B8 r];exact q⟩
  .subst d;obtain⟨B,r,U,E⟩:=I.tuple z;have g:=r.length;exact truthy_tuple U (by simp only[jq];lia) ⟨N,I.tok _,by rw[B8 r];exact q⟩
  .subst d;obtain⟨E,O,A,r,m⟩:f.length<=sizeLine/\(p==br)=C/\ ∃A,KV f A/\s.heap.DictOf (kY X.prog X.w) p A:=I.hok p _ z;have g:f.length=A.length:=um r;exact wpAny_truthy_dict O m (by lia) ⟨N,I.tok _,by rw[aee r];exact q⟩
 |_=>exact(show False from e).elim
def afX(m:PE X a l)(p: ∀d,isTrue a X.env d=(do let v <-d;b4 a.pos;bV [v] (hD v))):
  PT X a (λf U Q=>l f U λx g=> ∃k,aaX X.K x g k/\Q k g):=by
 intro e s f U Q T h;exact D0 (NL (m e s f U _ T h) λv s1 O=>by obtain⟨x,i,j,r,q⟩:=O;exact Wo e s1 f i x v Q j r q)<|p _
def aeF:BO X (aU .Add) (λx y U Q=> ∃i j,x= .str i/\y= .str j/\i.length+j.length<=sizeLine/\Q (.str<|i++j) U):=by intro d s m U x y v u Q T f g h;obtain⟨i,j,rfl,rfl,e,q⟩:=h;obtain⟨t,rfl⟩:=f;obtain⟨t',rfl⟩:=g;exact add_str (λt' k=>⟨.str<|i++j,U,T.tok _,⟨_,rfl⟩,q⟩) e
def qQ{x:V}{d:jr}(r:Vals [x] d): ∃u,d=[u]/\RelV x u:=by
 cases r with
 |cons e f=>cases f;exact⟨_,rfl,e⟩
def Kd{x y:V}{d:jr}(r:Vals [x,y] d): ∃u e,d=[u,e]/\RelV x u/\RelV y e:=by
 cases r with
 |cons f g=>
  cases g with
  |cons h i=>cases i;exact⟨_,_,rfl,f,h⟩
def RD:kG X (.builtin "abs") (λe U Q=> ∃i,e=[.int i]/\Q (.int (if i<0 then -i else i)) U):=by intro d s j U e g Q T r h;obtain⟨i,rfl,q⟩:=h;obtain⟨u,rfl,t,rfl⟩:=qQ r;exact EQ λu f=>⟨.int (if i<0 then -i else i),U,T.tok _,⟨_,rfl⟩,q⟩
def afk(g:X.calm=J):kG X (.builtin "max") (λf U Q=> ∃i j,f=[.int i,.int j]/\Q (.int (if j>i then j else i)) U):=by
 intro e s y U f w Q T r h;obtain⟨i,j,rfl,q⟩:=h;obtain⟨u,x,rfl,⟨t,rfl⟩,⟨p,rfl⟩⟩:=Kd r;refine max_two_ints (T.ok.hd g) λm v k=>⟨_,U,T.kept k,?_,q⟩
 by_cases d:j>i
 .rw[iz d,iz d];exact⟨_,rfl⟩
 .rw[iG d,iG d];exact⟨_,rfl⟩
def afj(g:X.calm=J):kG X (.builtin "min") (λf U Q=> ∃i j,f=[.int i,.int j]/\Q (.int (if j<i then j else i)) U):=by
 intro e s y U f w Q T r h;obtain⟨i,j,rfl,q⟩:=h;obtain⟨u,x,rfl,⟨t,rfl⟩,⟨p,rfl⟩⟩:=Kd r;refine min_two_ints (T.ok.hd g) λm v k=>⟨_,U,T.kept k,?_,q⟩
 by_cases d:j<i
 .rw[iz d,iz d];exact⟨_,rfl⟩
 .rw[iG d,iG d];exact⟨_,rfl⟩
def D2:kG X (.type "int") (λd U Q=>(∃i,d=[.int i]/\Q (.int i) U)\/ ∃k,d=[.bl k]/\Q (.int (if k then 1 else 0)) U):=by
 intro e s j U d g Q T r h;rcases h with⟨i,rfl,q⟩|⟨k,rfl,q⟩
 .obtain⟨u,rfl,t,rfl⟩:=qQ r;exact call_int_int ⟨.int i,U,T,⟨_,rfl⟩,q⟩
 .obtain⟨u,rfl,f⟩:=qQ r;cases f;exact call_int_bool ⟨.int (if k then 1 else 0),U,T.tok _,⟨_,rfl⟩,q⟩
end
section
variable {a:iL}{w:iD}{A:iE}{E:iY}{s:ie}{K:iJ}{x d C f:hJ}{c:lN}{b:ay}{v:ir}
end
section
variable {P:iL}{w:iD}{H e:Hp}{h c:iK}{a C d:hJ}{fs b:List (ay×V)}
end
section
variable {X:Cx}{b:iX}{c:St}{H:Hp}{s:ie}{a C d:hJ}{fs:List (ay×V)}{f:ay}{v:V}{A:iE}{E:iY}
end
section
variable {X:Cx}{o e a:iq}{f:ay}{c b d:bq}{h g:TE}
end
section
variable {X:Cx}{a:iX}{d:St}{H:Hp}{s:ie}{A:iE}{E:iY}{Q:iY}{c:ir}{b:Bool}
end
structure AP(k:Nat)(A:iE):Prop where
 hd:A.handled=KE
 dp:A.depth+3*k+5<recursionLimit
 un:A.units+16*k+200<aS
 gd:A.guards=J4 []:=by rfl
def AP.mono{j k:Nat}{A:iE}(r:AP k A)(h:j<=k):AP j A:=⟨r.hd,by have:=r.dp;lia,by have:=r.un;lia,r.gd⟩
def AP.deeper{k:Nat}{A:iE}(r:AP (k+1) A)(a:db):AP k (A.deeper a):=
 ⟨r.hd,by have:=r.dp;show A.depth+1+3*k+5<_;lia,by have:=r.un;show A.units+3+16*k+200<_;lia,r.gd⟩
def AP.depth{k:Nat}{A:iE}(r:AP k A):A.depth<recursionLimit:=by have:=r.dp;lia
noncomputable def abo:TA:=λ_ U Q=>Q [] U
noncomputable def ZL(d:TE)(e:TA):TA:=λa U Q=>d a U λx b=>e a b λf c=>Q (x::f) c
section
variable {X:Cx}{e:iq}{c:kj}{d:TE}{t:TA}{a:bq}
def uy:PA X [] abo:=λ_ _ _ _ U Q T h=>ID ⟨[],U,T,.nil,h⟩
def oY(l:PE X e d)(m:PA X c t)(n:ag (e::c) X.env=(C,aQ e X.env)::ag c X.env:=by rfl):PA X (e::c) (ZL d t):=by intro a b s f U Q T h;rw[n];show af _ _ (hE ((C,aQ e X.env)::aF a (ag c X.env))) _ _ s;refine EJ<|NL (l b s f U _ T h) λu s1 O=>?_;obtain⟨x,g,j,q,o⟩:=O;exact NL (m a b s1 f g _ j o) λy w ⟨v,i,k,r,p⟩=>⟨x::v,i,k,.cons q r,p⟩
def abl(t:TA):TE:=λg U Q=>t g U λf b=>Ls f<=sizeLine/\ ∀p,b p=I->Q (.ref p) (upd b p<|.tup f)
def abp(t:TA):TE:=λg U Q=>t g U λf b=>Ls f<=sizeLine/\ ∀p,b p=I->Q (.ref p) (upd b p<|.lst f)
def Xc{x1}(h:PA X c t):PE X (.Tuple c x1 a) (abl t):=by intro f s n U Q T k;refine wpAny_Tuple_spliced<|NL (h a f s n U _ T k) λl s1 ⟨m,g,i,r,z,q⟩=>⟨by rw[<-r.length];exact z,?_⟩;have j:g s1.heap.objs.size=I:=i.hok.fresh<|jM _;refine⟨.ref s1.heap.objs.size,upd g s1.heap.objs.size<|.tup m,i.laid (t':=s1.toks) (λb u e=>jU _ e) (jM _) ?_,rfl,q _ j⟩;exact⟨z,l,r,⟨_,km _ rfl,rfl,_,rfl⟩⟩
def Xh(h:PA X c t):PE X (.List c a) (abp t):=by intro f s n U Q T k;refine wpAny_List_spliced<|NL (h a f s n U _ T k) λl s1 ⟨m,g,i,r,z,q⟩=>⟨by rw[<-r.length];exact z,?_⟩;have j:g s1.heap.objs.size=I:=i.hok.fresh<|jM _;refine⟨.ref s1.heap.objs.size,upd g s1.heap.objs.size<|.lst m,i.laid (t':=s1.toks) (λb u e=>jU _ e) (jM _) ?_,rfl,q _ j⟩;exact⟨z,l,0,r,km _ rfl⟩
end
abbrev Sp:=List V->Hp->VK->XK->Prop
abbrev Jp:=List db->Hp->ie->XK->ir->ie->Prop
structure Jo(P:iL)(w:iD)(K:iJ)(mg:lN)(base:iK)(A:iE)(outer:List db)(s:ie)(H:Hp):Prop where
 frames:A.frames=J4 outer
 mod:Mod K mg base
 bs: ∀b o,base.get? b=J4 o->s.heap.get? b=J4 o/\H b=KE
 bsz:base.objs.size<=s.heap.objs.size
 Fe:s.heap.FunFrames base outer
 frf: ∀b∈Jh outer,H b=KE
 hok:Fc P w H s.heap
 bare:dZ s.gens
def CE(a:List db)(P:iL)(w:iD)(U:Hp)(s:ie)(Q:VK)(u:ir)(b:ie):Prop:=
 ∃v c,b.os=s.os/\dZ b.gens/\Un (Jh a) [] U c s.heap b.heap/\Fc P w c b.heap/\RelV v u/\Q v c
def CR(CX:Jp)(a:List db)(P:iL)(w:iD)(U:Hp)(s:ie)(Q:VK)(E:XK)(r:i5)(b:ie):Prop:=
 match r with
 | .ok (.ret u)=>CE a P w U s Q u b
 | .ok _=>False
 | .error e=>CX a U s E e b
structure Df(P:iL)(w:iD)(K:iJ)(mg:lN)(base:iK)(CX:Jp)(k:Nat)(f:hJ)(fd:mS)(ps:iI)(sp:Sp):Prop where
 len: ∀vs H Q E,sp vs H Q E->Ls vs=Ls ps
 run: ∀(A:iE) (outer:List db) (s:ie) (H:Hp) (args:Args) (us:jr) (vs:List V) (Q:VK) (E:XK),AP k A->Jo P w K mg base A outer s H->fg s fd args (ps.zip us)->Vals vs us->sp vs H Q E->
  b8 (aj P w) A (.call (.ref f) args) (CR CX outer P w H s Q E) s
def Df.mono{P:iL}{w:iD}{K:iJ}{e:lN}{base:iK}{c:Jp}{j k:Nat}{f:hJ}{d:mS}{g:iI}{i:Sp}(F:Df P w K e base c j f d g i)(h:j<=k):
  Df P w K e base c k f d g i:=⟨F.len,λA a s U b m n Q E l=>F.run A a s U b m n Q E<|l.mono h⟩
section
variable {X:Cx}{a:iX}{c:St}{H:Hp}{s e:ie}
def Inv.Mr(U:Inv X a c H s):Jo X.prog X.w X.K X.mg X.base X.A X.stack s H:=
 ⟨U.ok.frames,U.ok.mod,U.bs,kW U.ok.bsz U.sz,U.stack,U.Jq,U.hok,U.bare⟩
def Inv.after{Q:VK}{u:ir}(U:Inv X a c H s)(h:CE X.stack X.prog X.w H s Q u e):EP X a c Q u e:=by obtain⟨v,j,os,f,un,i,r,q⟩:=h;obtain⟨l,g,d,t,k⟩:=e;obtain rfl:k=s.os:=os;exact⟨v,j,U.call (h':=l) (g':=g) (d':=d) (t':=t) (ch:=[]) un i f λb z=>absurd z<|by simp,r,q⟩
end
noncomputable def Va(c:Sp)(b:List V)(E:XK)(t:TA):TE:=λe U Q=>t e U λd a=>c (d++b) a Q E
def Binds(K:iJ)(d:mS)(c:iI)(b:jr):Prop:=
 ∀(s:ie) (a:jr),K.In s.heap->(a++b).length=Ls c->fg s d ⟨a,[]⟩ (c.zip<|a++b)
def Binds.all{K:iJ}{c:mS}{b:iI}(h: ∀a:List ir,Ls a=Ls b->et c ⟨a,[]⟩=pure (b.zip a)):Binds K c b []:=λs a _ d=>by rw[xH] at d ⊢;exact .of_eq<|h a d
def J3(c:Jp)(X:Cx)(E:XK):Prop:= ∀(a:iX) (d:St) (U:Hp) (s:ie) (e:ir) (b:ie),Inv X a d U s->c X.stack U s E e b->X.xe e b
section
variable {X:Cx}{l:Jp}{k:Nat}{f C:hJ}{j:mS}{d:iI}{i:Sp}{c:List V}{b:jr}{E:XK}{x m:ay}{p a n:bq}{e o:iq}{g:kj}{v:TE}{t:TA}
def OF{q:iX}{L:St}{H:Hp}{s:ie}{Q:VK}{y:jr}{B:List V}(F:Df X.prog X.w X.K X.mg X.base l k f j d i)(M:AP k X.A)(G:Binds X.K j d b)(hd:Vals c b)(N:J3 l X E)
  (I:Inv X q L H s)(r:Vals B y)(h:i (B++c) H Q E):af (aj X.prog X.w) X.A (call (.ref f) y) (EP X q L Q) X.xe s:=by
 have O:Vals (B++c) (y++b):=r.append hd;have J:(y++b).length=d.length:=by rw[<-O.length];exact F.len _ _ _ _ h
 refine zk<|qm (F.run X.A X.stack s H ⟨y,[]⟩ (y++b) (B++c) Q E M I.Mr (G s y I.J2 J) O h) λr U z=>?_
 cases r with
 |error e=>exact N q L H s e U I z
 |ok T=>
  cases T with
  |ret u=>exact I.after z
  |next=>exact aK z
  |brk=>exact aK z
  |cont=>exact aK z
def KA(F:Df X.prog X.w X.K X.mg X.base l k f j d i)(J:AP k X.A)(T:Gl X x)(G:X.mg x=Y (.ref f))(hk:ca X.K (.ref f)=K0)(L:Binds X.K j d b)(hd:Vals c b)(M:J3 l X E)
  (B:PA X (e::g) t)(N:(x==("__debug__":ay))=K2:=by decide)(O:ag (e::g) X.env=(K2,aQ e X.env)::ag g X.env:=by rfl)(z:(aF a<|ag g X.env).any (·.1)=K2:=by rfl):
  PE X (.Call (.Name x p) (e::g) [] a) (Va i c E t):=by
 intro u s U H Q I h;refine xG<|AI I T G ?_ N;refine f8 (h₀:=X.base) I.ok.mod.kin hk (NL (B a u s U H _ I h) λus s1 ⟨vs,Y',y,r,q⟩=>⟨y.J2,?_⟩) O z;exact OF F J L hd M y r q
end
section
variable {X:Cx}{w:Jp}{k:Nat}{f C:hJ}{s:mS}{l q:iI}{j:Sp}{E:XK}{x m:ay}{p c b a:bq}{e o:iq}{u:kj}{v:List cP}{h i:TE}{t d:TA}{n:Option ay}
variable {g:List ir->List ir->List ir}{r:List V->List V->List V}
end
structure X0(N P:iI)(sc:jb):Prop where
 kind:sc.kind= .function
 co:sc.isCoroutine=K2
 gen:sc.isGenerator=K2
 nd:N.Nodup
 pre:N.take P.length=P
 par: ∀x∈P,sc.names.lookup x=J4 .local\/sc.names.lookup x=J4 .cell
 nofree: ∀y∈sc.names,y.2≠ .free
theorem D5{kindOf:ay->Option cS}{x:ay}: ∀{binds:List (ay×ir)} {m:lN},(∀v,(x,v)∉binds)->gC kindOf binds m x=m x
 |[],_,_=>rfl
 |(n,v)::r,m,h=>by
  unfold gC;rw[D5 λw a=>h w<|ji _ a];split
  .have:x≠n:=by rintro rfl;exact h v jc
   simp[this]
  .rfl
theorem D7{kindOf:ay->Option cS}{x:ay}: ∀{binds:List (ay×ir)} {m:lN},(∀v,(x,v)∉binds)->gD kindOf binds m x=m x
 |[],_,_=>rfl
 |(n,v)::r,m,h=>by
  unfold gD;rw[D7 λw a=>h w<|ji _ a];split
  .rfl
  .have:x≠n:=by rintro rfl;exact h v jc
   simp[this]
theorem D6{kindOf:ay->Option cS}{x:ay}{v:ir}: ∀{P:iI} {a:jr} {i:Nat} {m:lN},P.Nodup->P[i]?=Y x->a[i]?=Y v->kindOf x=Y .local->
  gC kindOf (P.zip a) m x=Y v
 |[],_,_,_,_,h,_,_=>by simp at h
 |_::_,[],_,_,_,_,h,_=>by simp at h
 |p::P,w::a,0,m,c,h1,b,hk=>by simp at h1 b;subst h1;subst b;show gC kindOf ((p,w)::P.zip a) m p=_;unfold gC;rw[D5 λv hv=>(Am.mp c).1 (IC hv).1,iz hk];simp
 |p::P,w::a,i+1,m,c,h1,b,hk=>by show gC kindOf ((p,w)::P.zip a) m x=_;unfold gC;exact D6 (i:=i) (Am.mp c).2 (by simpa using h1) (by simpa using b) hk
theorem D8{kindOf:ay->Option cS}{x:ay}{v:ir}: ∀{P:iI} {a:jr} {i:Nat} {m:lN},P.Nodup->P[i]?=Y x->a[i]?=Y v->kindOf x≠Y .local->
  gD kindOf (P.zip a) m x=Y v
 |[],_,_,_,_,h,_,_=>by simp at h
 |_::_,[],_,_,_,_,h,_=>by simp at h
 |p::P,w::a,0,m,c,h1,b,hk=>by simp at h1 b;subst h1;subst b;show gD kindOf ((p,w)::P.zip a) m p=_;unfold gD;rw[D7 λv hv=>(Am.mp c).1 (IC hv).1,iG hk];simp
 |p::P,w::a,i+1,m,c,h1,b,hk=>by show gD kindOf ((p,w)::P.zip a) m x=_;unfold gD;exact D8 (i:=i) (Am.mp c).2 (by simpa using h1) (by simpa using b) hk
noncomputable def qo(N:iI)(vs:List V):St:=vs.map Y++ah (Ls N-Ls vs) I
noncomputable def rG(CX:Jp)(P:iL)(w:iD)(K:iJ)(c:lN)(base:iK)(N:iI)(qual:ay)(scope:jb)(f:hJ)(cd:ir)(A:iE)(a:List db)(s:ie)(U:Hp)(E:XK):Cx where
 prog:=P
 w:=w
 K:=K
 mg:=c
 base:=base
 A:=A.deeper<|aT qual scope s.heap.objs.size f cd
 N:=N
 s₀:=s
 H₀:=U
 env:=aT qual scope s.heap.objs.size f cd
 outer:=a
 stack:=aT qual scope s.heap.objs.size f cd::a
 ex:=[]
 calm:=J
 fn:=λ_=>J
 pn:=[]
 xe:=λe h=>af (aj P w) (A.deeper<|aT qual scope s.heap.objs.size f cd) (leaving (aT qual scope s.heap.objs.size f cd) e) (λ_ b=>CX a U s E e b) (λg b=>CX a U s E g b) h
def Hk{a:jb}{n:Nat}{x:ay}(h:a.names.lookup x=Y .cell): ∃c,(bo n a.names []).lookup x=Y c:=by have q:=EI a.names n []<|.inl h;exact NT.mp q
def ae3{Q:Jp}{P:iL}{w:iD}{K:iJ}{L:lN}{base:iK}{N m:iI}{qual:ay}{scope:jb}{f:hJ}{cd:ir}{A:iE}{d:List db}{s s1:ie}{H:Hp}{E:XK}{O:jr}{o:List V}
  (S:X0 N m scope)(hd:A.handled=KE)(j:Jo P w K L base A d s H)(Y:(Ls o)=Ls m)(r:Vals o O)
  (x:InCallC s s.heap.objs.size (gC (aT qual scope s.heap.objs.size f cd).kindOf (m.zip O) λ_=>KE) (bo (s.heap.objs.size+1) scope.names []) (gD (aT qual scope s.heap.objs.size f cd).kindOf (m.zip O) λ_=>KE) s1):
  Inv (rG Q P w K L base N qual scope f cd A d s H E) [] (qo N o) H s1:=by
 have M:(Ls m)<=(Ls N):=by have:=mC dQ S.pre;rw[tR] at this;lia
 obtain⟨h1,D,rfl,hk⟩:=x.done;have I: ∀b:hJ,b∉(rG Q P w K L base N qual scope f cd A d s H E).ex:=λb z=>absurd (show b∈([]:List hJ) from z) (by simp)
 refine⟨⟨j.mod,S.kind,rfl,rfl,jM _,λy z c h1 g=>?_,λy l=>?_,λy c _ h=>?_,λ_=>hd,NP j.frames,.inr ⟨rfl,rfl⟩,λb z=>absurd z<|I b,j.bs,j.bsz,λb _ _=>I b,λb z=>absurd z<|I b,j.Fe,j.frf⟩,
  rfl,j.bare,Un.kept hk,⟨_,x.toInCall.ns,λi y v h1 g U=>?_⟩,λy c h=>⟨_,x.cell y c h⟩,j.hok.fresh<|jM _,λy c h=>?_,λp t=>absurd (show p∈([]:List (hJ×eE)) from t)<|by simp,j.hok.kept hk,?_⟩
 .exact B1 x.apart (sU h1) (sU g)
 .have l:scope.names.lookup y=J4 .cell\/scope.names.lookup y=J4 .free:=l;rcases l with l|l
  .exact Hk l
  .exact absurd K3 (S.nofree _ (sU l))
 .exact uk (x.above y c<|sU h)
 .have C:i<(Ls o):=by
   unfold qo at g;by_cases C:i<Ls o
   .exact C
   .rw[pB<|by simpa using C] at g;rw[EH] at g;split at g<;>cases g
  have G:o[i]?=J4 v:=by
   unfold qo at g;rw[pA<|by simpa using C,kl] at g
   cases e:o[i]? with
   |none=>rw[e] at g;cases g
   |some a=>rw[e] at g;cases g;rfl
  obtain⟨u,T,J⟩:=r.get G
  have t:m[i]?=J4 y:=by rw[<-S.pre,IB<|by lia];exact h1
  have B:m.Nodup:=by rw[<-S.pre];exact S.nd.sublist<|zj _ _
  refine⟨u,J,?_⟩;rcases S.par y (mq t) with k|k
  .exact .inl ⟨k,D6 B t T k⟩
  .obtain⟨c,e⟩:=Hk (n:=s.heap.objs.size+1) k;refine .inr ⟨.inl k,c,e,?_⟩;have q:=x.cell y c e;rw[D8 B t T (by show scope.names.lookup y≠_;rw[k];decide)] at q;exact q
 .exact j.hok.fresh (uk<|x.above y c<|sU h)
 .unfold qo;show _=Ls N;rw[mX,jf,IA]
  lia
def VE{CX:Jp}{P:iL}{w:iD}{K:iJ}{C:lN}{base:iK}{k:Nat}{f:hJ}{j qual:ay}{c:bi}{d:List aV}{scope:jb}{dV kV z pm l ct oc:ir}{an od:Option hJ}
  {t7:AN}{N L:iI}{A:iE}{a:List db}{s:ie}{H:Hp}{i:Args}{U:jr}{vs:List V}{Q:VK}{E:XK}(lk:K.lookup f=J4 ⟨oc,od,.func<|bD j qual c d scope dV kV z pm an l ct,t7⟩)(n8:cN K l qual=K0)(S:X0 N L scope)
  (O:AP (k+1) A)(B:Jo P w K C base A a s H)(hb:fg s (bD j qual c d scope dV kV z pm an l ct) i (L.zip U))(r:Vals vs U)(hl:(Ls vs)=Ls L)
  (o5:AP k (A.deeper<|aT qual scope s.heap.objs.size f l)-> ∃t,Hg (rG CX P w K C base N qual scope f l A a s H E) d t/\t {nx:=λ_ h=>Q .T1 h,rt:=Q} (qo N vs) H):
  b8 (aj P w) A (.call (.ref f) i) (CR CX a P w H s Q E) s:=by
 have Y:K.In s.heap:=B.mod.kin.keeps λb o e=>(B.bs b o e).1;have T:s.heap.NoLimit:=B.mod.nolimit.keeps λb o e=>(B.bs b o e).1
 have m: ∀y∈L.zip U,scope.names.lookup y.1=J4 .local\/(scope.names.lookup y.1=J4 .cell/\((bo (s.heap.objs.size+1) scope.names []).lookup y.1).isSome=K0):=λ⟨n,v⟩ hy=>by
  rcases S.par n (IC hy).1 with q|q
  .exact .inl q
  .exact .inr ⟨q,EI _ _ _ (.inl q)⟩
 refine NO O.depth (Y _ _ lk) K3 S.co S.gen K3 (PySem.W.codeRec_of Y n8)<|hb _ _ _ _ ?_;refine wpAny_newFunctionEnv_cells S.kind m λD F s1 x=>?_;subst F;refine⟨T.keeps x.toInCall.keep,B2 ?_⟩;obtain⟨t,X,R⟩:=o5<|O.deeper _;have I:Inv (rG CX P w K C base N qual scope f l A a s H E) [] (qo N vs) H s1:=ae3 S O.hd B hl r x;refine nI (X [] s1 (qo N vs) H _ I R) (λfl M p=>?_) λe M p=>p
 have fin: ∀{g:St} {h:Hp} {v:V} {u:ir},Inv (rG CX P w K C base N qual scope f l A a s H E) [] g h M->RelV v u->Q v h->CE a P w H s Q u M:=
  λ{g h v u} J G q=>⟨v,h,J.os,J.bare,J.base,J.hok,G,q⟩
 cases fl with
 |ret u=>obtain⟨v,g,h,J,G,q⟩:=p;exact fin J G q
 |next=>obtain⟨g,h,J,q⟩:=p;exact fin (v:=V.T1) (u:=av) J K3 q
 |brk=>obtain⟨_,_,_,q⟩:=p;exact aK q
 |cont=>obtain⟨_,_,_,q⟩:=p;exact aK q
def VD{l:Jp}{P:iL}{w:iD}{K:iJ}{o:lN}{base:iK}{k:Nat}{f:hJ}{d qual:ay}{b:bi}{c:List aV}{scope:jb}{n kV h p g ct U:ir}{an O:Option hJ}
  {L:AN}{N i:iI}{j:Sp}(lk:K.lookup f=Y ⟨U,O,.func<|bD d qual b c scope n kV h p an g ct,L⟩)(z:cN K g qual=J)(S:X0 N i scope)
  (len: ∀e T Q E,j e T Q E->Ls e=Ls i)
  (B: ∀(A:iE) (a:List db) (s:ie) (T:Hp) (e:List V) (Q:VK) (E:XK),AP k (A.deeper<|aT qual scope s.heap.objs.size f g)->j e T Q E->
   ∃t,Hg (rG l P w K o base N qual scope f g A a s T E) c t/\t {nx:=λ_ u=>Q .T1 u,rt:=Q} (qo N e) T):
  Df P w K o base l (k+1) f (bD d qual b c scope n kV h p an g ct) i j:=
 ⟨len,λA a s T _ _ e Q E y v x r m=>VE lk z S y v x r (len _ _ _ _ m) λq=>B A a s T e Q E q m⟩
section
variable {X:Cx}{x:ay}{p a:bq}{e:iq}{b:kj}{t:TA}{id T:String}{r:List V->Hp->VK->Prop}
def OG(r:List V->Hp->VK->Prop)(t:TA):TE:=λf U Q=>t f U λd c=>r d c Q
def BE(k:kG X (.builtin id) r)(m:Gl X x)(n:X.mg x=I)(hv:aH x=Y (.builtin id))(j:PA X (e::b) t)(o:x≠"__name__":=by decide)(q:(x==("__debug__":ay))=C:=by decide)
  (l:ag (e::b) X.env=(C,aQ e X.env)::ag b X.env:=by rfl)(i:(aF a<|ag b X.env).any (·.1)=C:=by rfl):PE X (.Call (.Name x p) (e::b) [] a) (OG r t):=by
 intro c s d U Q O h;refine xG<|si O m n hv ?_ o q;exact ut (NL (j a c s d U _ O h) λw s1 N=>by obtain⟨y,f,g,v,u⟩:=N;exact k c s1 d f y w Q g v u) l i
def qZ(k:kG X (.type T) r)(m:Gl X x)(n:X.mg x=I)(hv:aH x=Y (.type T))(j:PA X (e::b) t)(o:x≠"__name__":=by decide)(q:(x==("__debug__":ay))=C:=by decide)
  (l:ag (e::b) X.env=(C,aQ e X.env)::ag b X.env:=by rfl)(i:(aF a<|ag b X.env).any (·.1)=C:=by rfl):PE X (.Call (.Name x p) (e::b) [] a) (OG r t):=by
 intro c s d U Q O h;refine xG<|si O m n hv ?_ o q;exact IE (NL (j a c s d U _ O h) λw s1 N=>by obtain⟨y,f,g,v,u⟩:=N;exact k c s1 d f y w Q g v u) l i
end
end L2
namespace HT
section
open PySem.SeqAt
open PySem.AutoSeq1 (wpAny_loadPart')
open PySem.MeetsSeq PySem.MeetsSeq2 PySem.MeetsSeq3
end
section
variable {a:iL}{w:iD}{A:iE}{E:iY}{s:ie}
def aaS{t b:hJ}{d c:jr}{Q:iY}(y:lw s.heap t d.toArray)(x:lw s.heap b c.toArray)(hv:d≠[])
  (h1:c=[]->Q (.ref t) s)(v:c≠[]->Q (.ref s.heap.objs.size) {s with heap:=s.heap.push {cls:= .type "tuple",data:= .seq (d++c).toArray}})
  (l:(Ls d)+Ls c<=sizeLine):af (aj a w) A (aU .Add (.ref t)<|.ref b) Q E s:=by
 obtain⟨⟨k,dd,f,u⟩,h,q,n,hd⟩:=id y;obtain⟨⟨z,p,data2,o⟩,j,m,r,g⟩:=id x;simp only at q hd m g;subst q hd m g;have e:d.toArray++c.toArray=(d++c).toArray:=by simp
 by_cases i:c=[]
 .exact EG ⟨_,h,rfl⟩ ⟨_,j,rfl⟩ Iz Iy Iw Iv (Iu _ _)
   (tuple_addW1 t b d.toArray c.toArray n r dd p u o (by simpa using hv)<|by simp[i]) ⟨h,j,h1 i⟩
 .refine EG ⟨_,h,rfl⟩ ⟨_,j,rfl⟩ Iz Iy Iw Iv (Iu _ _)
   (tuple_addW2 t b d.toArray c.toArray n r dd p u o (by simpa using hv) (by simpa using i)<|by rw[jq,jq];exact l) ⟨h,j,?_⟩
  rw[e];exact v i
noncomputable def As(n d:Nat):Option Int->Nat
 |none=>d
 |some v=>if v<0 then(v+(n:Int)).toNat else min v.toNat n
theorem YI(n d:Nat):As n d I=d:=rfl
def ZS(n d k:Nat):As n d (Y (k:Int))=min k n:=by show(if(k:Int)<0 then((k:Int)+(n:Int)).toNat else min (k:Int).toNat n)=min k n;rw[iG<|by lia,tQ]
def WA(n d:Nat)(hd:d<=n)(o:Option Int):As n d o<=n:=by
 cases o with
 |none=>exact hd
 |some v=>
  show(if v<0 then(v+(n:Int)).toNat else min v.toNat n)<=n;by_cases hv:v<0
  .rw[iz hv];lia
  .rw[iG hv];exact Nat.min_le_right _ _
def LA(v:Int)(n d:Nat):(if v<0 then max (v+(n:Int)) 0 else min v (n:Int))=((As n d (Y v):Nat):Int):=by
 show(if v<0 then max (v+(n:Int)) 0 else min v (n:Int))=(((if v<0 then(v+(n:Int)).toNat else min v.toNat n):Nat):Int)
 by_cases hv:v<0
 .simp only[iz hv];lia
 .simp only[iG hv];lia
def aec(lo b:Option Int)(n:Nat):cu lo b 1 (n:Int)=(((As n 0 lo:Nat):Int),((As n n b:Nat):Int)):=by
 have h1: ¬((1:Int)<0):=by lia
 unfold cu;simp only[h1,jS];refine Prod.ext ?_ ?_
 .cases lo with
  |none=>rfl
  |some v=>exact LA v n 0
 .cases b with
  |none=>rfl
  |some v=>exact LA v n n
def aez(i j:Nat):bR (i:Int) (j:Int) 1=j-i:=by
 unfold bR;have h1:(1:Int)>0:=by lia
 simp only[h1,kI,Int.ediv_one];split<;>lia
def Br{v:ir}{o:Option Int}{Q:Option Int->ie->Prop}(p:dG v o)(h:Q o s):af (aj a w) A (rc v) Q E s:=by
 cases p with
 |none=>exact wE h
 |int i t=>exact slicePart_int h
def qY{g:hJ}{e f:ir}{lo b:Option Int}{n:Nat}{Q:Int×Int×Nat->ie->Prop}(i:s.heap.IsSliceOf g e f .none)(j:dG e lo)(k:dG f b)
  (h:Q (((As n 0 lo:Nat):Int),1,As n n b-As n 0 lo) s):af (aj a w) A (ek (.ref g)<|pure (n:Int)) Q E s:=by
 obtain⟨os,c,l,d⟩:=id i;unfold ek re;refine hV<|hV<|tP c d (x:=e) H<|hV<|tP c d (x:=f) H<|hV<|tP c d (x:= .none) H<|iw ?_;refine hV<|wE ?_;show af _ _ (if((1:Int)==0)=J then _ else _) _ _ s;rw[iG<|by decide];refine hV<|Br j<|hV<|Br k<|hV<|iw ?_;show af _ _ (match cu lo b 1 (n:Int) with|(lo,b)=>pure (lo,(1:Int),bR lo b 1)) _ _ s;rw[aec lo b n];show af _ _ (pure (((As n 0 lo:Nat):Int),(1:Int),bR ((As n 0 lo:Nat):Int) ((As n n b:Nat):Int) 1)) _ _ s;rw[aez];exact iw h
def Pl(b:oA)(i k:Nat):((am k).filterMap λ(m:Nat)=>b[((i:Int)+(m:Int)*1).toNat]?).toArray=((b.toList.drop i).take k).toArray:=by
 have e:(λ(m:Nat)=>b[((i:Int)+(m:Int)*1).toNat]?)=λm=>b[i+m]?:=by
  funext m;have:((i:Int)+(m:Int)*1).toNat=i+m:=by lia
  rw[this]
 rw[e];have:=pick_run b i k;rw[hC] at this;have c:((λx=>b[x]?)∘λx=>i+x)=λm=>b[i+m]?:=rfl;rw[c] at this;rw[this]
def aef{t e:hJ}{items:oA}{g i:ir}{lo b:Option Int}{Q:iY}(c:lw s.heap t items)(f:s.heap.IsSliceOf e g i .none)(r:dG g lo)(u:dG i b)
  (p: ¬(As items.size 0 lo=0/\As items.size items.size b=items.size))
  (h:Q (.ref s.heap.objs.size) {s with heap:=s.heap.push {cls:= .type "tuple",data:= .seq ((items.toList.drop<|As items.size 0 lo).take<|As items.size items.size b-As items.size 0 lo).toArray}})
  (o:items.size<=sizeLine):af (aj a w) A (ew (.ref t)<|.ref e) Q E s:=by
 have d:sizeOk (.seq ((items.toList.drop<|As items.size 0 lo).take<|As items.size items.size b-As items.size 0 lo).toArray):=by show((items.toList.drop<|As items.size 0 lo).take<|As items.size items.size b-As items.size 0 lo).toArray.size<=sizeLine;rw[jq,tR,c6,kL];omega
 have x:As items.size items.size b<=items.size:=WA _ _ (jM _) b;obtain⟨os,l,k,v⟩:=id f;have n:s.TypeIs (.ref e) "slice":=⟨os,l,k⟩
 unfold ew
 try with_reducible refine lz ?_
 first|refine hV (iw ?_)|skip
 refine hV<|n7 c.typeIs (by decide) ?_
 refine hV (xF (name:=bn "__getitem__") c.typeIs CY
  (oo CY c.typeIs NN ?_<|n0 _ _))
 show af _ _ (ck (.ref t)>>=_) _ _ s;refine hV<|At c ?_;refine hV<|wU n ?_;rw[iz<|by decide];refine hV<|qY f r u ?_
 have j: ¬((((As items.size 0 lo:Nat):Int)==0&&(1:Int)==1&&(As items.size items.size b-As items.size 0 lo)==items.size)=J):=by intro q;rw[kU,kU] at q;have y:((As items.size 0 lo:Nat):Int)=0:=vZ q.1.1;have z:As items.size items.size b-As items.size 0 lo=items.size:=vZ q.2;exact p ⟨by omega,by omega⟩
 show af _ _ (if(((As items.size 0 lo:Nat):Int)==0&&(1:Int)==1&&(As items.size items.size b-As items.size 0 lo)==items.size)=J then _ else _) _ _ s;rw[iG j,Pl]
 first
  |exact hV (m:=bc _)<|om (iw ⟨_,rfl,iw h⟩) d
  |exact hV (m:=bc _)<|om (hV<|iw<|iw ⟨_,rfl,iw h⟩) d
  |exact hV<|hV (m:=bc _)<|om (iw<|iw ⟨_,rfl,iw h⟩) d
  |exact hV<|hV (m:=bc _)<|om (iw ⟨_,rfl,iw h⟩) d
end
end HT
namespace L2
abbrev TO:=St->Hp->(Option Int->Hp->Prop)->Prop
def PO(X:Cx)(e:Option Expr)(t:TO):Prop:=
 ∀(a:iX) (s:ie) (b:St) (U:Hp) (Q:Option Int->Hp->Prop),Inv X a b U s->t b U Q->
  af (aj X.prog X.w) X.A (evalPart e X.env) (λu c=> ∃o H',Inv X a b H' c/\dG u o/\Q o H') X.xe s
noncomputable def Sx:TO:=λ_ U Q=>Q I U
def ZG(t:TE):TO:=λb U Q=>t b U λx a=> ∃i,x= .int i/\Q (Y i) a
section
variable {X:Cx}{e:iq}{d:TE}{lo c:Option Expr}{f g:TO}{k j:bq}
def Tt:PO X I Sx:=by intro a s b U Q T h;rw[xl];exact iw ⟨I,U,T,.none,h⟩
def Tr(h:PE X e d):PO X (Y e) (ZG d):=by intro a s p U Q T m;rw[evalPart_some];refine NL (h a s p U _ T m) λu s1 O=>?_;obtain⟨x,b,l,o,n⟩:=O;obtain⟨i,rfl,q⟩:=n;obtain⟨t,rfl⟩:=o;exact⟨Y i,b,l,.int i t,q⟩
def PR(X:Cx)(r:V->Option Int->Option Int->Hp->VK->Prop):Prop:=
 ∀(a:iX) (s:ie) (l:St) (U:Hp) (x:V) (v h i:ir) (lo c:Option Int) (b:hJ) (Q:VK),Inv X a l U s->RelV x v->s.heap.IsSliceOf b h i .none->dG h lo->dG i c->r x lo c U Q->
  ∃T id,m9 (.type T) "__getitem__"=pure (Y<|.builtin id)/\s.TypeIs v T/\af (aj X.prog X.w) X.A (ew v<|.ref b) (EP X a l Q) X.xe s
def tSl(r:V->Option Int->Option Int->Hp->VK->Prop)(d:TE)(f g:TO):TE:=λa U Q=>d a U λx b=>f a b λl h=>g a h λu i=>r x l u i Q
def Pr{r:V->Option Int->Option Int->Hp->VK->Prop}(M:PR X r)(O:PE X e d)(J:PO X lo f)(U:PO X c g):PE X (.Subscript e (.Slice lo c KE j) k) (tSl r d f g):=by intro a s m H Q I h;refine Subscript_<|NL (O a s m H _ I h) λv s1 a'=>?_;obtain⟨x,t,z,r1,q1⟩:=a';refine wpAny_Slice<|NL (J a s1 m t _ z q1) λn s2 ⟨l,y,B,Y',q2⟩=>NL (U a s2 m y _ B q2) λo i a'=>?_;obtain⟨u,p,C',pu,q3⟩:=a';rw[xl];refine iw ?_;have E:Inv X a m p {i with heap:=i.heap.push {cls:= .type "slice",data:= .fields #[n,o,.none]}}:=C'.kept (t':=i.toks) λb D q=>jU _ q;obtain⟨T,id,L,N,G⟩:=M a {i with heap:=i.heap.push {cls:= .type "slice",data:= .fields #[n,o,.none]}} m p x v n o l u i.heap.objs.size Q E r1 (Heap.IsSliceOf.new ..) Y' pu q3;show af (aj X.prog X.w) X.A (AC e (.Slice lo c KE j) v<|.ref i.heap.objs.size) (EP X a m Q) X.xe {i with heap:=i.heap.push {cls:= .type "slice",data:= .fields #[n,o,.none]}};exact tail_any (ops:=[.ref i.heap.objs.size,v]) N L G (by with_unfolding_all rfl)
noncomputable def Hh(a:List V)(lo c:Option Int):List V:=(a.drop<|HT.As (Ls a) 0 lo).take<|HT.As (Ls a) (Ls a) c-HT.As (Ls a) 0 lo
def Aj(a:List V)(lo c:Option Int):(Hh a lo c).length<=(Ls a):=by
 unfold Hh;rw[tR,c6]
 lia
def ab8(K:iJ):V->Option Int->Option Int->Hp->VK->Prop:=λx lo c U Q=> ∃a b,x= .ref a/\Ff K U a b/\
 ¬(HT.As (Ls b) 0 lo=0/\HT.As (Ls b) (Ls b) c=Ls b)/\ ∀p,U p=I->Q (.ref p) (upd U p<|.tup<|Hh b lo c)
def Wx:PR X (ab8 X.K):=by
 intro t s T N x v L O lo c E Q M B u z A h;obtain⟨a,l,rfl,y,w,q⟩:=h;cases B;obtain⟨m,r,n,p⟩:=M.tuple y;have i:m.toArray.size=(Ls l):=by rw[jq];exact r.length.symm
 refine⟨"tuple",_,CY.lookup,n.typeIs,?_⟩;refine HT.aef n u z A (by rw[i];exact w) ?_ (by rw[i];exact p);rw[i];refine⟨.ref s.heap.objs.size,_,M.laid (t':=s.toks) (o:= .tup (Hh l lo c)) (λb U q=>jU _ q) (jM _) ?_,rfl,q _ (M.hok.fresh<|jM _)⟩;exact⟨kW (Aj l lo c) p,_,(r.drop<|HT.As (Ls l) 0 lo).take<|HT.As (Ls l) (Ls l) c-HT.As (Ls l) 0 lo,EF _ _⟩
def Z4(K:iJ):R2:=λx y U Q=> ∃a b i h,x= .ref a/\y= .ref b/\Ff K U a i/\Ff K U b h/\i≠[]/\(Ls i)+Ls h<=sizeLine/\
 (h=[]->Q (.ref a) U)/\(h≠[]-> ∀p,U p=I->Q (.ref p) (upd U p<|.tup<|i++h))
def Vals.JR{b:List V}{a:jr}(r:Vals b a):a=[]↔b=[]:=by
 cases r with
 |nil=>simp
 |cons _ _=>simp
def TX:BO X (aU .Add) (Z4 X.K):=by intro n s N H x y v u Q I L O h;obtain⟨a,b,T,G,rfl,rfl,p,r,t,m,U,E⟩:=h;cases L;cases O;obtain⟨A,l,B,_⟩:=I.tuple p;obtain⟨J,i,j,_⟩:=I.tuple r;refine HT.aaS B j (λz=>t<|l.JR.mp z) (λz=>⟨.ref a,H,I,rfl,U<|i.JR.mp z⟩) (λz=>?_) (by rw[<-l.length,<-i.length];exact m);refine⟨.ref s.heap.objs.size,_,I.laid (t':=s.toks) (o:= .tup (T++G)) (λb M q=>jU _ q) (jM _) ?_,rfl,E (λw=>z<|i.JR.mpr w) _ (I.hok.fresh<|jM _)⟩;exact⟨by rw[mX];exact m,_,l.append i,EF _ _⟩
end
noncomputable def Gf(n:Nat)(i:Int):Option Nat:=if 0<=i then(if i<n then Y i.toNat else I) else if -(n:Int)<=i then Y (i+n).toNat else I
def JT{b:Type}(a:List b)(i:Int):Option b:=(Gf (Ls a) i).bind λj=>a[j]?
def Fm{n:Nat}{i:Int}{j:Nat}(h:Gf n i=Y j):p4 i n=Y j/\j<n/\ -(n:Int)<=i/\i<n:=by
 unfold Gf at h;by_cases a:0<=i
 .rw[iz a] at h;by_cases h1:i<n
  .rw[iz h1] at h;have e:i.toNat=j:=kz h;exact⟨by rw[Ir a h1,e],by lia,by lia,h1⟩
  .rw[iG h1] at h;cases h
 .rw[iG a] at h;by_cases h1: -(n:Int)<=i
  .rw[iz h1] at h;have e:(i+n).toNat=j:=kz h;exact⟨by rw[Iq (by lia) h1,e],by lia,h1,by lia⟩
  .rw[iG h1] at h;cases h
def LI{b:Type}{a:List b}{i:Int}{v:b}(h:JT a i=Y v): ∃j,p4 i (Ls a)=Y j/\a[j]?=Y v/\j<Ls a/\ -((Ls a):Int)<=i/\i<(Ls a):=by
 unfold JT at h
 cases e:Gf (Ls a) i with
 |none=>rw[e] at h;cases h
 |some j=>rw[e] at h;obtain⟨h1,c,d,f⟩:=Fm e;exact⟨j,h1,h,c,d,f⟩
def LO(b:iq):Prop:= ∀o i,F0 b C o i=operate [o,i] (ew o i)
def PY(X:Cx)(r:R2):Prop:=
 ∀(c a:iq) (b:iX) (s:ie) (d:St) (U:Hp) (x y:V) (v u:ir) (Q:VK),Inv X b d U s->RelV x v->RelV y u->r x y U Q->
  F0 a C v u=operate [v,u] (ew v u)->af (aj X.prog X.w) X.A (AC c a v u) (EP X b d Q) X.xe s
def MtR(X:Cx)(id:String)(r:V->List V->Hp->VK->Prop):Prop:=
 ∀(a:iX) (s:ie) (d:St) (U:Hp) (x:V) (c:List V) (v:ir) (b:jr) (Q:VK),Inv X a d U s->RelV x v->Vals c b->r x c U Q->
  af (aj X.prog X.w) X.A (call (.builtin id) (v::b)) (EP X a d Q) X.xe s
section
variable {X:Cx}{a b:iq}{E tb:TE}{C:bq}
def aaa{r:R2}(i:PY X r)(f:PE X a E)(g:PE X b tb)(j:LO b):PE X (.Subscript a b C) (Mi r E tb):=by intro c s n U Q T h;exact Subscript_<|Yz f g T h λv u m x y d e k l q=>i a b c m n d x y v u Q e k l q<|j _ _
def ace(K:iJ):R2:=λx y U Q=> ∃p c i v,x= .ref p/\y= .int i/\FV K U p c/\JT c i=Y v/\Q v U
def acd(K:iJ):R2:=λx y U Q=> ∃p c i v,x= .ref p/\y= .int i/\Ff K U p c/\JT c i=Y v/\Q v U
def Um:PY X (ace X.K):=by
 intro k g c s o H x y v u Q I M N h n;obtain⟨p,P,i,z,rfl,rfl,J,T,q⟩:=h;cases M;obtain⟨t,rfl⟩:=N;obtain⟨e,r,f,F⟩:=I.list J;obtain⟨j,h1,B,Y,L,O⟩:=LI T;obtain⟨w,l,A⟩:=r.get B;have G:=r.length;have D:=BV;have fin:EP X c o Q w s:=⟨z,H,I,A,q⟩
 by_cases m:0<=i
 .have d:i.toNat=j:=by rw[Ir m O] at h1;exact kz h1
  exact item_listR f.isList m (by lia) (by rw[d];simpa using l) fin n
 .have d:(i+(e.toArray.size:Int)).toNat=j:=by rw[Iq (by lia) L] at h1;rw[jq,<-G];exact kz h1
  exact NM (x:=w) f.isList.typeIs oO.lookup
   (wpAny_getItem_list_neg (Q:=λr U=>r=w/\EP X c o Q r U) f.isList (by lia) (by rw[jq]<;>lia) (by lia) (by rw[d];simpa using l) ⟨rfl,fin⟩) n
def XX:PY X (acd X.K):=by
 intro e d c s g H x y v u Q I O T h B;obtain⟨p,D,i,z,rfl,rfl,A,n,q⟩:=h;cases O;obtain⟨t,rfl⟩:=T;obtain⟨L,r,f,Y⟩:=I.tuple A;obtain⟨j,h1,m,J,M,N⟩:=LI n;obtain⟨w,l,k⟩:=r.get m;have o:=r.length;have U:=BV;have fin:EP X c g Q w s:=⟨z,H,I,k,q⟩
 exact NM (x:=w) f.typeIs CY.lookup
  (getItem_tuple (j:=j) (Q:=λr G=>r=w/\EP X c g Q r G) f (by lia) (by lia) (by rw[jq,<-o];exact h1) (by simpa using l) ⟨rfl,fin⟩) B
def aeM(c:jr)(n j:Nat)(u:ir):aO (·.setIfInBounds j u) {cls:= .type "list",data:= .seq c.toArray n}={cls:= .type "list",data:= .seq (c.set j u).toArray n}:=by simp[aO]
def Inv.lst{d:iX}{f:St}{U:Hp}{s:ie}{p:hJ}{xs:List V}(T:Inv X d f U s)(h:U p=Y (.lst xs)):
  ∃(c:jr) (n:Nat),Vals xs c/\s.heap.get? p=Y {cls:= .type "list",data:= .seq c.toArray n}/\(Ls xs)<=sizeLine:=by
 obtain⟨z,c,n,r,e⟩:=T.hok p _ h;exact⟨c,n,r,e,z⟩
def Inv.Mm{d:iX}{l:St}{U:Hp}{s:ie}{p:hJ}{w j:List V}{g c:jr}{n i:Nat}{f:eE->eE}(T:Inv X d l U s)(h:U p=Y (.lst w))
  (o:s.heap.get? p=Y {cls:= .type "list",data:= .seq g.toArray n})(k:f {cls:= .type "list",data:= .seq g.toArray n}={cls:= .type "list",data:= .seq c.toArray i})(r:Vals j c)(v:(Ls j)<=sizeLine)(t:Nat):
  Inv X d l (upd U p<|.lst j) {s with heap:=s.heap.update p f,toks:=t}:=by
 have e:(s.heap.update p f).get? p=Y {cls:= .type "list",data:= .seq c.toArray i}:=by rw[uj f o<|by rw[k]<;>rfl,k]
 refine T.write (x:=p) (e:=p) (by rw[h];trivial) (.inl H) (λb u m q=>(EE _ _ (tX m)).trans q) ⟨_,e⟩ ?_;exact⟨v,c,i,r,e⟩
def Z1:V->V->V->Hp->(Hp->Prop)->Prop:=λo i v U Q=> ∃p c k j,o= .ref p/\i= .int k/\U p=Y (.lst c)/\Gf (Ls c) k=Y j/\Q (upd U p<|.lst<|c.set j v)
def agb:YE X Z1:=by
 intro d s T H o i v N M u Q I B A L h;obtain⟨p,O,k,j,rfl,rfl,x,y,q⟩:=h;cases B;obtain⟨t,rfl⟩:=A;obtain⟨c,n,r,f,z⟩:=I.lst x;obtain⟨h1,G,m,w⟩:=Fm y;have e:=r.length;have U:=BV
 have g:Inv X d T (upd H p<|.lst<|O.set j v) {s with heap:=s.heap.update p (aO (·.setIfInBounds j u))}:=
  I.Mm x f (aeM c n j u) (r.set L j) (by rw[vY];exact z) s.toks
 by_cases l:0<=k
 .have hk:k.toNat=j:=by rw[Ir l w] at h1;exact kz h1
  exact PySem.W.ki_setAt f l (by lia) (by rw[jq,<-e];exact w) (by rw[hk];exact⟨_,g,q⟩)
 .have hk:(k+(c.toArray.size:Int)).toNat=j:=by rw[Iq (by lia) m] at h1;rw[jq,<-e];exact kz h1
  exact PySem.W.ki_setBack f (by lia) (by rw[jq,<-e];exact m) (by lia) (by rw[hk];exact⟨_,g,q⟩)
def adD(lo c:Option Int)(n:Nat):(cQ lo c I n).1=((HT.As n 0 lo:Nat):Int)/\(cQ lo c I n).2.1=((HT.As n n c:Nat):Int)/\(cQ lo c I n).2.2=1:=by
 refine⟨?_,?_,rfl⟩
 .cases lo with
  |none=>simp[cQ,HT.As]
  |some i=>
   simp only[cQ,HT.As,gV,show(1:Int)>0 by decide,kI];by_cases h:i<0
   .simp only[h,kI]<;>lia
   .simp only[h,jS]<;>lia
 .cases c with
  |none=>simp[cQ,HT.As]
  |some i=>
   simp only[cQ,HT.As,gV,show(1:Int)>0 by decide,kI];by_cases h:i<0
   .simp only[h,kI]<;>lia
   .simp only[h,jS]<;>lia
def ada(c:jr)(lo d:Option Int):slicePick c.toArray lo d I=((c.drop<|HT.As (Ls c) 0 lo).take<|HT.As (Ls c) (Ls c) d-HT.As (Ls c) 0 lo).toArray:=by obtain⟨h1,e,f⟩:=adD lo d c.toArray.size;unfold slicePick;rw[h1,e,f];simp only[sliceRange_one,pick_run,jq]<;>rfl
def ab9(K:iJ):V->Option Int->Option Int->Hp->VK->Prop:=λx lo d U Q=> ∃a c,x= .ref a/\FV K U a c/\ ∀p,U p=I->Q (.ref p) (upd U p<|.lst<|Hh c lo d)
def SF:PR X (ab9 X.K):=by intro g s z U x v w y lo e u Q T p i m n h;obtain⟨a,c,rfl,j,q⟩:=h;cases p;obtain⟨l,r,f,k⟩:=T.list j;have d:=r.length;refine⟨"list",_,oO.lookup,f.isList.typeIs,?_⟩;refine wpAny_getItem_list_slice f.isList i m n .none (by simp) ?_ (by rw[jq]<;>lia);rw[ada,<-d];refine⟨.ref s.heap.objs.size,_,T.laid (t':=s.toks) (o:= .lst (Hh c lo e)) (λb t q=>jU _ q) (jM _) ?_,rfl,q _ (T.hok.fresh<|jM _)⟩;exact⟨kW (Aj c lo e) k,_,0,(r.drop<|HT.As c.length 0 lo).take<|HT.As c.length c.length e-HT.As c.length 0 lo,km _ rfl⟩
noncomputable def VF:V->Bool
 | .T1=>J
 | .bl _=>J
 | .int _=>J
 | .str _=>J
 |_=>K2
noncomputable def eqV:V->V->Bool
 | .T1,.T1=>J
 | .bl a,.bl b=>a==b
 | .bl a,.int b=>(if a then 1 else 0)==b
 | .int a,.bl b=>a==(if b then 1 else 0)
 | .int a,.int b=>a==b
 | .str a,.str b=>a==b
 |_,_=>K2
def my{A:iE}{s:ie}{y x:V}{u v:ir}(f:RelV y u)(c:RelV x v)(g:VF y=J)(e:VF x=J):SeqAt.EqAt A s u v (eqV y x):=by
 cases y with
 |T1=>
  cases f
  cases x with
  |T1=>cases c;exact fQ _
  |bl b=>cases c;exact y4 b
  |int b=>obtain⟨t,rfl⟩:=c;exact yA b t
  |str b=>obtain⟨t,rfl⟩:=c;exact x9 b t
  |_=>exact absurd (show K2=J from e) ku
 |bl a=>
  cases f
  cases x with
  |T1=>cases c;exact z7 a
  |bl b=>cases c;exact z9 a b
  |int b=>obtain⟨t,rfl⟩:=c;exact z8 a b t
  |str b=>obtain⟨t,rfl⟩:=c;exact z0 a b t
  |_=>exact absurd (show K2=J from e) ku
 |int a=>
  obtain⟨d,rfl⟩:=f
  cases x with
  |T1=>cases c;exact y9 a d
  |bl b=>cases c;exact zx a d b
  |int b=>obtain⟨t,rfl⟩:=c;exact zn a d b t
  |str b=>obtain⟨t,rfl⟩:=c;exact fH a d b t
  |_=>exact absurd (show K2=J from e) ku
 |str a=>
  obtain⟨d,rfl⟩:=f
  cases x with
  |T1=>cases c;exact x0 a d
  |bl b=>cases c;exact x8 a d b
  |int b=>obtain⟨t,rfl⟩:=c;exact fG a d b t
  |str b=>obtain⟨t,rfl⟩:=c;exact xz a d b t
  |_=>exact absurd (show K2=J from e) ku
 |_=>exact absurd (show K2=J from g) ku
def yI:kG X (.builtin "len") (λk U Q=> ∃p d,k=[.ref p]/\(FV X.K U p d\/Ff X.K U p d)/\Q (.int d.length) U):=by
 intro j s t U k o Q T r h;obtain⟨p,d,rfl,e,q⟩:=h;obtain⟨u,rfl,m⟩:=qQ r;cases m;have n:=BV;rcases e with e|e
 .obtain⟨f,i,g,l⟩:=T.list e;have c:=i.length;exact Calls.call_len_list g.isList (by simp only[jq]<;>lia) ⟨.int d.length,U,T.tok _,⟨s.toks+1,by rw[jq,c]⟩,q⟩
 .obtain⟨f,i,g,l⟩:=T.tuple e;have c:=i.length;exact len_tuple g (by simp only[jq]<;>lia) ⟨.int d.length,U,T.tok _,⟨s.toks+1,by rw[jq,c]⟩,q⟩
def yH:kG X (.type "list") (λA U Q=> ∃p i,A=[.ref p]/\(FV X.K U p i\/Ff X.K U p i)/\ ∀l,U l=I->Q (.ref l) (upd U l<|.lst i)):=by
 intro t s L U A O Q T r h;obtain⟨p,i,rfl,k,q⟩:=h;obtain⟨u,rfl,B⟩:=qQ r;cases B
 have fin: ∀(c:jr),Vals i c->i.length<=sizeLine-> ∀(d:iK) (f:Nat),(∀b z,s.heap.get? b=Y z->d.get? b=Y z)->
   d.get? s.heap.objs.size=Y {cls:= .type "list",dict:=I,data:= .seq c.toArray f,slots:= #[]}->EP X t L Q (.ref s.heap.objs.size) {s with heap:=d}:=λc g m d f kp e=>
  ⟨.ref s.heap.objs.size,_,T.laid (t':=s.toks) kp (jM _) (show T2 X.prog X.w _ d _ (.lst i) from⟨m,c,f,g,e⟩),rfl,q _ (T.hok.fresh<|jM _)⟩
 rcases k with k|k
 .obtain⟨c,g,y,m⟩:=T.list k;have j:=g.length;obtain⟨o,x,v,n,hd⟩:=y.isList;exact xt p (.inl H) x v hd (λd f kp e=>fin c g m d f kp e) (by simp only[jq]<;>omega)
 .obtain⟨c,g,y,m⟩:=T.tuple k;have j:=g.length;obtain⟨o,x,v,n,hd⟩:=y;exact xt p (.inr H) x v hd (λd f kp e=>fin c g m d f kp e) (by simp only[jq]<;>omega)
def wt:kG X (.type "tuple") (λv U Q=> ∃p f,v=[.ref p]/\((FV X.K U p f/\ ∀l,U l=I->Q (.ref l) (upd U l<|.tup f))\/(Ff X.K U p f/\Q (.ref p) U))):=by
 intro c s x U v A Q T r h;obtain⟨p,f,rfl,h⟩:=h;obtain⟨u,rfl,z⟩:=qQ r;cases z;rcases h with⟨i,q⟩|⟨i,q⟩
 .obtain⟨d,k,j,t⟩:=T.list i;have n:=k.length;refine call_tuple_list j.isList (λg kp=>?_) (by simp only[jq]<;>lia);have m:Inv X c x U {s with heap:=g}:=T.kept (t':=s.toks) kp
  have y:Inv X c x (upd U g.objs.size<|.tup f) {s with heap:=g.push {cls:= .type "tuple",data:= .seq d.toArray}}:=
   m.laid (t':=s.toks) (λb o e=>jU _ e) (jM _) (show T2 X.prog X.w _ _ _ (.tup f) from⟨t,d,k,EF _ _⟩)
  exact⟨.ref g.objs.size,_,y,rfl,q _ (m.hok.fresh<|jM _)⟩
 .obtain⟨d,k,j,t⟩:=T.tuple i;exact call_tuple_same j ⟨.ref p,U,T,rfl,q⟩
def tyV(K:iJ)(T:String)(x:V)(U:Hp):Prop:=match x with
 | .str _=>T="str"
 | .int _=>T="int"
 | .ref p=>(T="list"/\ ∃d,FV K U p d)\/(T="tuple"/\ ∃o,K.lookup p=Y o/\o.cls= .type "tuple"/\o.dict=I)\/
   (T="dict"/\((∃c,U p=Y (.dK c))\/ ∃c,U p=Y (.dT c)))\/(T="set"/\ ∃S n,U p=Y (.set S n))
 |_=>False
def Oa{d:iX}{q:St}{U:Hp}{s:ie}{T:String}{x:V}{v:ir}(Q:Inv X d q U s)(r:RelV x v)(ty:tyV X.K T x U):
  s.TypeIs v T/\ ∀a,v= .ref a-> ∃h,s.heap.get? a=Y h/\h.dict=I:=by
 cases x with
 |str z=>obtain⟨t,rfl⟩:=r;cases(show T="str" from ty);exact⟨typeIs_str s z t,λ_ e=>nomatch e⟩
 |int i=>obtain⟨t,rfl⟩:=r;cases(show T="int" from ty);exact⟨na s i t,λ_ e=>nomatch e⟩
 |ref p=>
  cases r;rcases ty with⟨rfl,u,l⟩|⟨rfl,o,hk,k,hd⟩|⟨rfl,hk⟩|⟨rfl,S,n,hk⟩
  .obtain⟨m,_,j,_⟩:=Q.list l;refine⟨j.isList.typeIs,λa e=>?_⟩;cases e;obtain⟨o,n,e,c,hd,_⟩:=j;exact⟨o,e,hd⟩
  .refine⟨⟨o,Q.J2 p o hk,k⟩,λa e=>?_⟩;cases e;exact⟨o,Q.J2 _ o hk,hd⟩
  .have z: ∃o,s.heap.get? p=Y o/\o.ExactDict:=by
    rcases hk with⟨g,hk⟩|⟨g,hk⟩
    .obtain⟨_,_,_,_,o,_,_,e,ex,_⟩:=Q.hok p _ hk;exact⟨o,e,ex⟩
    .obtain⟨_,_,_,_,o,_,_,e,ex,_⟩:=Q.hok p _ hk;exact⟨o,e,ex⟩
   obtain⟨o,e,ex⟩:=z;refine⟨⟨o,e,ex.1⟩,λa f=>?_⟩;cases f;exact⟨o,e,ex.2.1⟩
  .obtain⟨o,_,_,_,e,ex,_⟩:=Q.hok p _ hk;refine⟨⟨o,e,ex.1⟩,λa f=>?_⟩;cases f;exact⟨o,e,ex.2.1⟩
 |_=>exact aK ty
def abv(K:iJ)(T:String)(r:V->List V->Hp->VK->Prop)(to:TE):TE:=λd U Q=>to d U λx c=>tyV K T x c/\r x [] c Q
def tBM(K:iJ)(T:String)(r:V->List V->Hp->VK->Prop)(to:TE)(t:TA):TE:=λd U Q=>to d U λx c=>tyV K T x c/\t d c λf e=>r x f e Q
variable {o e:iq}{B:kj}{to:TE}{t:TA}{d:ay}{g m:bq}{T id:String}{r:V->List V->Hp->VK->Prop}
def Xj(y:PlainAttrs T)(slot:Slot T d id)(l:m8 (.builtin id)=pure (.type "method_descriptor"))(p:MtR X id r)(q:PE X o to)
  (w:b3 o d X.env (aQ o X.env)=aQ o X.env:=by rfl)(u:(g.endLine==m.line)=J:=by rfl):PE X (.Call (.Attribute o d g) [] [] m) (abv X.K T r to):=by
 intro c s j U Q O h;refine wpAny_Call_method0_late w u<|NL (q c s j U _ O h) λv s1 N=>?_;obtain⟨x,k,f,i,ty,z⟩:=N;obtain⟨h1,n⟩:=Oa f i ty;exact⟨T,id,y,slot,l,h1,n,Io H<|PySem.evalArgs_none<|p c s1 j k x [] v [] Q f i .nil z⟩
def Vo(J:PlainAttrs T)(slot:Slot T d id)(u:m8 (.builtin id)=pure (.type "method_descriptor"))(z:MtR X id r)(A:PE X o to)(y:PA X (e::B) t)
  (G:b3 o d X.env (aQ o X.env)=aQ o X.env:=by rfl)
  (Y:((aF m<|ag (e::B) X.env).all (λx=>!x.1)&&(cq m<|bM [] X.env).all (λx=>x.1.isSome)
   &&decide ((e::B).length+([]:List cP).length+(if([]:List cP).isEmpty then 0 else 1)<30))=K0:=by rfl)
  (O:(g.endLine==m.line)=K0:=by rfl)(L:ag (e::B) X.env=(K2,aQ e X.env)::ag B X.env:=by rfl)(q:(aF m<|ag B X.env).any (·.1)=K2:=by rfl):
  PE X (.Call (.Attribute o d g) (e::B) [] m) (tBM X.K T r to t):=by
 intro c s f H Q I h;refine NK G Y O K3<|NL (A c s f H _ I h) λv s1 a'=>?_;obtain⟨x,l,i,k,ty,M⟩:=a';obtain⟨h1,w⟩:=Oa i k ty;refine⟨T,id,J,slot,u,h1,w,?_⟩;have j:=y m c s1 f l _ i M;rw[L] at j ⊢;refine Io (by show(K2||(aF m<|ag B X.env).any (·.1))=K2;rw[q]<;>rfl)<|NJ ?_;exact NL j λus s2 ⟨vs,n,p,U,N⟩=>z c s2 f n x vs v us Q p k U N
end
def MtM(X:Cx)(id:String)(r:V->List V->Hp->VK->Prop):Prop:=
 ∀(a:iX) (s:ie) (d:St) (U:Hp) (x:V) (c:List V) (v:ir) (b:jr) (Q:VK),Inv X a d U s->RelV x v->Vals c b->r x c U Q->
  af (aj X.prog X.w) X.A (call (.builtin id) (v::b)) (EP X a d Q) X.xe s
def Vals.one{x:V}{a:jr}:Vals [x] a-> ∃u,a=[u]/\RelV x u:=qQ
def Vals.zero: ∀{a:jr},Vals [] a->a=[]
 |_,.nil=>rfl
def Vals.dropLast{b:List V}{a:jr}(h:Vals b a):Vals b.dropLast a.dropLast:=by
 induction h with
 |nil=>exact .nil
 |cons r t c=>
  cases t with
  |nil=>exact .nil
  |cons q d=>exact .cons r c
theorem Vals.eraseIdx: ∀{b:List V} {a:jr} (i:Nat),Vals b a->Vals (b.eraseIdx i) (a.eraseIdx i)
 |_,_,_,.nil=> .nil
 |_,_,0,.cons _ t=>t
 |_,_,i+1,.cons r t=> .cons r (Vals.eraseIdx i t)
theorem Vals.rep{b:List V}{a:jr}(h:Vals b a): ∀k:Nat,Vals (ah k b).flatten (ah k a).flatten
 |0=> .nil
 |k+1=>by rw[ui,ui,zi,zi];exact Vals.append h<|Vals.rep h k
def ael{d:Type}(l:List d):l.eraseIdx (Ls l-1)=l.dropLast:=by
 induction l with
 |nil=>rfl
 |cons a r c=>
  cases r with
  |nil=>rfl
  |cons b r=>
   have e:(a::b::r).length-1=((b::r).length-1)+1:=by
    have h1:(a::b::r).length=Ls r+2:=rfl;have f:(b::r).length=Ls r+1:=rfl
    lia
   rw[e,fO,c]
   all_goals rfl
theorem DM{a:Type}: ∀(l:List a) (i:Nat),(l.eraseIdx i).length<=Ls l
 |[],_=>jM _
 |_::_,0=>Bc _
 |_::r,i+1=>Nat.succ_le_succ<|DM r i
theorem DU(b:jr): ∀(k:Nat) (a:jr),
  en (λx1 x2=>x1++x2) a.toArray (ah k b.toArray)=(a++(ah k b).flatten).toArray
 |0,a=>by simp
 |k+1,a=>by
  have e:a.toArray++b.toArray=(a++b).toArray:=by simp
  have c:(a++b)++(ah k b).flatten=a++(ah (k+1) b).flatten:=by rw[ui,zi,oT]
  rw[<-c,<-DU b k (a++b),<-e,ui,rP]
section
variable {X:Cx}{a:iX}{c:St}{H:Hp}{s:ie}{l b:hJ}{g d i:List V}
def Inv.MK{h its':jr}{n:Nat}{f:Array ir->Array ir}{r:Nat}(U:Inv X a c H s)(j:H l=Y (.lst g))
  (e:s.heap.get? l=Y {cls:= .type "list",data:= .seq h.toArray n})(m:f h.toArray=its'.toArray)(hv:Vals d its')(p:(Ls d)<=sizeLine):
  Inv X a c (upd H l<|.lst d) {s with heap:=s.heap.update l<|aO f,toks:=r}:=by
 have q:=PySem.IsL.update e f;rw[m] at q;refine U.write (x:=l) (e:=l) (by rw[j];exact trivial) (.inl K3) (λt u k o=>(EE s.heap (aO f)<|tX k).trans o) ⟨_,q⟩ ?_;exact⟨p,its',_,hv,q⟩
def Inv.ML{e:jr}{t':Nat}(U:Inv X a c H s)(hv:Vals d e)(f:(Ls d)<=sizeLine):
  Inv X a c (upd H s.heap.objs.size<|.lst d) {s with heap:=s.heap.push {cls:= .type "list",data:= .seq e.toArray},toks:=t'}:=
 U.laid (λ_ _ q=>jU _ q) (jM _) ⟨f,e,0,hv,km _ rfl⟩
def Inv.fresh(U:Inv X a c H s):H s.heap.objs.size=I:=U.hok.fresh<|jM _
def Inv.MJ(U:Inv X a c H s)(h:H l=Y (.lst g)):g.length<=sizeLine/\ ∃(f:jr) (n:Nat),Vals g f/\g.length=f.length/\s.heap.get? l=Y {cls:= .type "list",data:= .seq f.toArray n}:=by obtain⟨z,f,n,r,e⟩:=U.hok l _ h;exact⟨z,f,n,r,r.length,e⟩
def agf{n:Nat}(h:n<=sizeLine):cG n=C:=by unfold cG;exact mr (by lia)
end
section
variable {X:Cx}
def SV:V->List V->Hp->VK->Prop:=λx b U Q=> ∃l a y,x= .ref l/\b=[y]/\U l=Y (.lst a)/\(Ls a)<sizeLine/\Q .T1 (upd U l<|.lst<|a++[y])
def afG:MtM X "list.append" SV:=by
 intro c s p U x m v k Q T g f h;obtain⟨l,o,y,rfl,rfl,b,j,q⟩:=h;cases g;obtain⟨u,rfl,d⟩:=f.one;obtain⟨z,a,n,r,i,e⟩:=T.MJ b;refine zh F.slot_list_append ⟨_,e,rfl⟩ NI (NH _ _) (gu l a.toArray n u<|by rw[jq];lia) ⟨e,?_⟩;refine⟨.T1,_,T.MK (its':=a++[u]) b e (by simp) (r.append<|.cons d .nil) ?_,rfl,q⟩;rw[mX,Bb]
 lia
def acb:V->List V->Hp->VK->Prop:=λx b U Q=> ∃l a y,x= .ref l/\b=[]/\U l=Y (.lst a)/\a[Ls a-1]?=Y y/\Q y (upd U l<|.lst a.dropLast)
def XC:MtM X "list.pop" acb:=by
 intro f s A U x t v p Q T o m h;obtain⟨l,w,y,rfl,rfl,d,j,q⟩:=h;cases o;have b:=m.zero;subst b;obtain⟨z,a,n,r,g,e⟩:=T.MJ d;obtain⟨u,i,k⟩:=r.get j
 have c:a.toArray[a.toArray.size-1]?=Y u:=by show a.toArray[Ls a-1]?=Y u;rw[<-lK,<-g];exact i
 refine zh F.slot_list_pop ⟨_,e,rfl⟩ F.entry_list_pop (F.args_list_pop_1 _) (MeetsSeq.list_pop_last l a.toArray n u c<|by rw[jq];lia) ⟨e,?_⟩;refine⟨y,_,T.MK (its':=a.dropLast) d e ?_ r.dropLast ?_,k,q⟩
 .show a.toArray.eraseIdxIfInBounds (a.toArray.size-1)=a.dropLast.toArray;rw[jq,NG,ael]
 .rw[Im]
  lia
def WO:V->List V->Hp->VK->Prop:=λx b U Q=> ∃l a i k y,x= .ref l/\b=[.int i]/\U l=Y (.lst a)/\ -(2^63)<=i/\i<2^63/\p4 i (Ls a)=Y k/\a[k]?=Y y/\Q y (upd U l<|.lst<|a.eraseIdx k)
def Qd:MtM X "list.pop" WO:=by
 intro c s L T x E v U Q O A p h;obtain⟨l,B,i,k,y,rfl,rfl,b,h1,f,hk,m,q⟩:=h;cases A;obtain⟨u,rfl,o⟩:=p.one;obtain⟨t,rfl⟩:=o;obtain⟨z,a,n,r,g,e⟩:=O.MJ b;obtain⟨w,j,d⟩:=r.get m
 refine zh F.slot_list_pop ⟨_,e,rfl⟩ F.entry_list_pop (F.args_list_pop_2 _ _)
  (MeetsSeq.list_pop_at l a.toArray n i t k w (v7 h1 f) (by rw[jq,<-g];exact hk) (by rw[<-lK];exact j)<|by rw[jq];lia) ⟨e,?_⟩
 refine⟨y,_,O.MK (its':=a.eraseIdx k) b e ?_ (r.eraseIdx k) ?_,d,q⟩
 .show a.toArray.eraseIdxIfInBounds k=(a.eraseIdx k).toArray;rw[NG]
 .have:=DM B k
  lia
def Uc{c:Type}(a:List c)(k:Nat):(ah k a).flatten.length=k*(Ls a):=by
 induction k with
 |zero=>simp
 |succ k b=>rw[ui,zi,mX,b,Nat.succ_mul,sa]
end
section
variable {a:iL}{w:iD}{A:iE}{E:iY}{s:ie}
end
section
variable {X:Cx}
end
end L2
namespace Att
open PySem.W PySem.Calls
def acY{P:Params}{h:iK}: ∀(c:ig) (d:jr),WellAll P h d (c.map WData.int)->dY d c:=by
 intro c
 induction c with
 |nil=>intro d w;rw[uh] at w;cases w;exact .nil
 |cons n c e=>
  intro d w;rw[jG] at w
  cases w with
  |cons a b=>
   cases a;exact .cons _ _ (e _ b)
def aeR{l:OpenLaw}{n:Nat}(v:l.most=Y n){P:Params}{h:iK}{b:List WData}{e:jr}
  (m:l.row.toRowW.claim.pre b=J)(s:WellAll P h e b):
  ∃a k c,e=[bj a]/\b=[WData.list<|c.map WData.int]/\h.get? a=Y {cls:= .type "list",data:= .seq k.toArray}/\dY k c/\(Ls c)<=n:=by
 have p:WShape.hasAll [] b [.list .int]=J:=(pre_splitW m).1;have j:l.pre.holds [] {args:=b}=J:=(pre_splitW m).2;obtain⟨d,r,rfl,h1,t⟩:=hasAllW_cons p;obtain rfl:=hasAllW_nil t;obtain⟨A,rfl,u⟩:=hasW_list h1;obtain⟨c,rfl⟩:=items_int u
 have f:(Ls c)<=n:=by
  unfold OpenLaw.pre at j
  have g:(WTm.not<|.lt (.lit<|.int (n:Int))<|.len<|.arg 0).holds [] {args:=[.list<|c.map .int]}=J:=by have g:=(holds_andW j).1;rw[v] at g;exact g
  have i:=condW_of g<|w_not<|w_lt w_lit<|w_len_list<|w_arg H;rw[jf] at i;refine lA λq=>?_;have x:(n:Int)<(((Ls c):Nat):Int):=by omega
  first
   |(rw[lh x] at i;exact absurd i<|by decide)
   |(simp at i;omega)
 cases s with
 |cons y z=>
  cases z
  cases y with
  |list w o=>exact⟨_,_,c,rfl,rfl,w,acY c _ o,f⟩
def aft(l:OpenLaw)(a:List WData):l.row.toRowW.claim.post a (.bool J) a=J:=
 postW_of (r:=l.row.toRowW) (X:=J==J)
  (show WShape.has [] (.bool J) .bool=J by first|rfl|decide|simp[WShape.has,WShape.arms,WShape.armsAll])
  (show(WTm.eq .res<|.lit<|.bool J).value [] {args:=a,res:=Y<|.bool J,after:=a}=Y (.bool<|J==J) from w_eq_bool (w_res H) w_lit) rfl
def UO{l:OpenLaw}{n:Nat}{q:iL}{c:iI}{x:(ay->Option ir)->iK->Prop}{y:iD->iK->Prop}{d:DefRec}
  (U:l.most=J4 n)(H:d.params.defaults=[])
  (call: ∀(w:iD) (e b:ie) (m u:lN) (j:hJ) (o:eE) (v cd g:ir) (a:hJ) (i:jr) (p:ig),
   Ground q c [] x w e m u b.heap->y w b.heap->
   b.heap.get? j=J4 o->o.data= .func (docDef d.name d.params d.body d.scope v cd g)->b.heap.CodeRec cd d.name->m d.name=J4 (.ref j)->
   b.heap.get? a=J4 {cls:= .type "list",data:= .seq i.toArray}->dY i p->Ls p<=n->b.gens= #[]->
   b8 (aj l.prog w) eX (.call (.ref j) ⟨[.ref a],[]⟩) (λr s=>r= .ok (.ret<|.bool K0)/\OldK b.heap s.heap/\s.os=b.os/\dZ s.gens) b):
  WalkO q c x y l.row.toRowW d [] (λf i=>p9 f i):=by
 intro w e b m u G Y j o v cd g I kV D hd P A t J z C as R B K L M;obtain rfl:I= .none:=Dflts.none A H;obtain rfl:kV= .none:=Dflts.noKw A;obtain⟨a,i,p,rfl,rfl,E,h,k⟩:=aeR U R L;refine enter_call<|qm (call w e b m u j o v cd g a i p G Y D (fd_plain hd) P t E h k J) λr s F=>?_;obtain⟨rfl,O,Q,T⟩:=F;exact⟨.inl ⟨.bool K0,.bool K0,[],rfl,λ_=>rfl,.bool K0,aft l _,λ_=>⟨cx,λ_ N=>(nomatch N)⟩⟩,O,Q,T⟩
section
variable {a:iL}{w:iD}{A:iE}{E:iY}{s:ie}{K:Frag}
end
end Att
namespace L2
def aeV{b:jr}{a:ig}(h:dY b a):Vals (a.map V.int) b:=by
 induction h with
 |nil=>exact .nil
 |cons n t h c=>exact .cons ⟨t,rfl⟩ c
noncomputable def sH(s:aV):Arguments:=match s with
 | .FunctionDef _ a _ _ _ _ _ _ _ _=>a
 |_=>{posonlyargs:=[],args:=[],vararg:=I,kwonlyargs:=[],kw_defaults:=[],kwarg:=I,defaults:=[]}
noncomputable def lu(s:aV):List Stmt:=match s with
 | .FunctionDef _ _ b _ _ _ _ _ _ _=>b
 |_=>[]
noncomputable def hU(s:aV):Scope:=match s with
 | .FunctionDef _ _ _ _ _ _ a _ _ _=>a
 |_=>{kind:= .function,names:=[],isGenerator:=C,isCoroutine:=C}
abbrev FK:Jp:=λ_ _ _ _ _ _=>False
abbrev E0:XK:=λ_ _ _=>False
def PF{X:Cx}:J3 FK X E0:=λ_ _ _ _ _ _ _ h=>h.elim
structure Jn(K:iJ)(x qual:ay)(st:aV)(f:hJ)(fd:mS):Prop where
 ex: ∃(oc:ir) (od:Option hJ) (kV doc pm:ir) (an:Option hJ) (b7 ct:ir) (t7:AN),
  fd=bD x qual (sH st) (lu st) (hU st) .none kV doc pm an b7 ct/\K.lookup f=J4 ⟨oc,od,.func fd,t7⟩/\cN K b7 qual=K0
 kp:ca K (.ref f)=K0
section
variable {P:iL}{w:iD}{K:iJ}{a:lN}{base:iK}
def Jn.ok{x qual:ay}{st:aV}{f:hJ}{g:mS}{N d:iI}{k:Nat}{e:Sp}(F:Jn K x qual st f g)(S:X0 N d (hU st))(len: ∀vs U Q E,e vs U Q E->Ls vs=Ls d)
  (o: ∀(c:ir) (A:iE) (b:List db) (s:ie) (U:Hp) (vs:List V) (Q:VK) (E:XK),AP k (A.deeper<|aT qual (hU st) s.heap.objs.size f c)->e vs U Q E->
   ∃t,Hg (rG FK P w K a base N qual (hU st) f c A b s U E).JQ (lu st) t/\t {nx:=λ_ i=>Q .T1 i,rt:=Q} (qo N vs) U):Df P w K a base FK (k+1) f g d e:=by
 obtain⟨p,r,kV,l,u,an,c,ct,v,rfl,lk,n⟩:=F.ex;refine VD lk n S len λA b s U vs Q E m j=>?_;obtain⟨t,h,q⟩:=o c A b s U vs Q E m j;exact⟨t,h.JQ,q⟩
def Jn.binds{x qual:ay}{st:aV}{f:hJ}{i:mS}{e:iI}(F:Jn K x qual st f i)
  (h: ∀(kV b d:ir) (an:Option hJ) (c ct:ir) (g:jr),Ls g=Ls e->et (bD x qual (sH st) (lu st) (hU st) .none kV b d an c ct) ⟨g,[]⟩=pure (e.zip g)):Binds K i e []:=by
 obtain⟨k,l,kV,b,d,an,c,ct,m,rfl,lk,j⟩:=F.ex;exact .all<|h kV b d an c ct
def Q5{x qual:ay}{st:aV}{f:hJ}{g:ir}{h an:Option hJ}{i:AN}{kV b e d ct:ir}(l:K.lookup f=Y ⟨g,h,.func<|bD x qual (sH st) (lu st) (hU st) .none kV b e an d ct,i⟩)
  (c:cN K d qual=J)(k:ca K (.ref f)=J):Jn K x qual st f (bD x qual (sH st) (lu st) (hU st) .none kV b e an d ct):=⟨⟨g,h,kV,b,e,an,d,ct,i,rfl,l,c⟩,k⟩
end
section
variable {X:Cx}
end
def aav{A B:Prop}(h:B):if C=J then A else B:=by rw[iG ku];exact h
def aau{A B:Prop}(h:A):if J=J then A else B:=by rw[iz H];exact h
theorem xy(b:db): ∀(l:List (ay×cS)) (g:jQ),(∀x∈l,x.2= .free-> ∃c,b.cells.lookup x.1=Y c)->(∀x c,g.lookup x=Y c->b.cells.lookup x=Y c)->
  ∃cl,(forIn l g λx r=>if x.2==aJ then do let a <-wn b x.1;pure (bw ((x.1,a)::r)) else pure (bw r))=(pure cl:da (List<|ay×hJ))/\
   (∀x c,cl.lookup x=Y c->b.cells.lookup x=Y c)/\(∀x,(x,aJ)∈l-> ∃c,cl.lookup x=Y c)/\ ∀x c,g.lookup x=Y c-> ∃c,cl.lookup x=Y c
 |[],g,_,m=>⟨g,rfl,m,λx h=>by simp at h,λx c h=>⟨c,h⟩⟩
 |(n,k)::l,g,h,m=>by
  by_cases hk:k= .free
  .subst hk;obtain⟨c,e⟩:=h (n,.free) jc H;have q:b.cells.lookup n=Y c:=e
   obtain⟨cl,h1,o,p,j⟩:=xy b l ((n,c)::g) (λx f=>h x<|ji _ f) (λx d f=>by
    rw[oS] at f
    cases i:x==n with
    |true=>rw[i] at f;have:=vZ i;subst this;cases f;exact q
    |false=>rw[i] at f;exact m x d f)
   refine⟨cl,?_,o,λx f=>?_,λx d f=>?_⟩
   .rw[Il];have:wn b n=pure c:=by unfold wn;rw[q]
    simp -iota only[this,sx,beq_self_eq_true,kI];exact h1
   .rcases mz.mp f with z|z
    .cases z;exact j n c (by simp[oS])
    .exact p x z
   .cases i:x==n with
    |true=>have:=vZ i;subst this;exact j x c (by simp[oS])
    |false=>exact j x d (by rw[oS,i];exact f)
  .obtain⟨cl,h1,o,p,j⟩:=xy b l g (λx f=>h x<|ji _ f) m;have i:(k==aJ)=C:=by simpa using hk
   refine⟨cl,?_,o,λx f=>?_,j⟩
   .rw[Il];simp -iota only[i,jy,jS,sx];exact h1
   .rcases mz.mp f with z|z
    .cases z;exact absurd H hk
    .exact p x z
def sJ(b:db)(scope:jb)(h: ∀x∈scope.names,x.2= .free-> ∃c,b.cells.lookup x.1=Y c):
  ∃cl,nw scope b=pure cl/\(∀x c,cl.lookup x=Y c->b.cells.lookup x=Y c)/\ ∀x,(x,aJ)∈scope.names-> ∃c,cl.lookup x=Y c:=by
 obtain⟨cl,h1,d,e,_⟩:=xy b scope.names [] h (λx c f=>by simp at f);refine⟨cl,?_,d,e⟩;unfold nw;have:(forIn scope.names ([]:List (ay×hJ)) λx r=>if x.2==aJ then do let a <-wn b x.1;pure (bw ((x.1,a)::r)) else pure (bw r))=(pure cl:da (List<|ay×hJ)):=h1
 first
  |exact(mC (· >>=λr=>pure r) this).trans (sx _ _)
  |(simp -iota only[bind_pure];exact this)
  |exact this
theorem mH: ∀(b:List (ay×cS)) (n:Nat) (a:jQ),bo n b a=bo n b []++a
 |[],_,_=>rfl
 |(x,k)::r,n,a=>by
  unfold bo;split
  .rw[mH r (n+1) ((x,n)::a),mH r (n+1) [(x,n)],oT];rfl
  .exact mH r n a
theorem qN{x:ay}{c:hJ}: ∀(a:List (ay×cS)) (n:Nat),(x,c)∈bo n a []->(x,cg)∈a
 |[],_,h=>by simp[bo] at h
 |(y,k)::r,n,h=>by
  unfold bo at h;split at h
  .rename_i hk;rw[mH] at h;rcases qh.mp h with z|z
   .exact ji _ (qN r _ z)
   .cases AO.mp z;rw[vZ hk];exact jc
  .exact ji _ (qN r _ h)
structure Ou(cells:jQ)(scope:jb)(C:hJ)(h:iK)(cl:jQ):Prop where
 one: ∀x c,cl.lookup x=J4 c->(cells.lookup x=J4 c/\scope.names.lookup x≠J4 .cell)\/(C<c/\scope.names.lookup x=J4 .cell/\h.IsCell c KE)
 all: ∀x,(x,aJ)∈scope.names\/(x,cg)∈scope.names-> ∃c,cl.lookup x=J4 c
 inj: ∀x y c,C<c->cl.lookup x=J4 c->cl.lookup y=J4 c->(∀z d,cells.lookup z=J4 d->d<C)->x=y
 ex: ∀x c,cl.lookup x=J4 c->cells.lookup x=J4 c\/C<c
def T9{M:ga}{A:iE}{E:iY}{s:ie}{scope:jb}{globals:hJ}{a:db}{cl:jQ}{qual:ay}{Q:db->ie->Prop}(u: ∀y∈scope.names,y.2= .cell->scope.names.lookup y.1=Y .cell)
  (m: ∀x c,cl.lookup x=Y c->a.cells.lookup x=Y c)(O: ∀x,(x,aJ)∈scope.names-> ∃c,cl.lookup x=Y c)
  (B: ∀k r,k.Ns s.heap.objs.size (λ_=>I)->(∀b o,s.heap.get? b=Y o->k.get? b=Y o)->Ou a.cells scope s.heap.objs.size k r->
   Q {scope,locals:=s.heap.objs.size,globals,cells:=r,qual,func:=I,code:=a.code,frame:=a.frame,builtins:=a.builtins} {s with heap:=k}):
  af M A (f3 scope globals cl [] qual I .none<|Y a) Q E s:=by
 simp -iota only[f3,gg,kI];refine hV<|Ba ?_;refine hV<|wpAny_layCells _ (λv j i=>by cases n:j==cg<;>simp[n]) _ _ _ _ ?_;have ok:=cellsFrom_ok scope.names (s.heap.push {cls:= .type "dict",data:= .dict #[]}) (s.heap.objs.size+1) [] ⟨λ_ _ U=>(nomatch U),cx⟩ (by rw[vX];exact jM _);rw[vX] at ok;rw[show({s with heap:=s.heap.push {cls:= .type "dict",data:= .dict #[]}}:ie).heap.objs.size=s.heap.objs.size+1 from vX ..];simp -iota only[List.forIn_nil];have g: ∀x,(bo (s.heap.objs.size+1) scope.names cl).lookup x=((bo (s.heap.objs.size+1) scope.names []).lookup x).or (cl.lookup x):=λx=>by rw[mH,List.lookup_append]
 have f: ∀x c,(bo (s.heap.objs.size+1) scope.names cl).lookup x=Y c->(cl.lookup x=Y c/\(bo (s.heap.objs.size+1) scope.names []).lookup x=I)\/(x,c)∈bo (s.heap.objs.size+1) scope.names []:=λx c h=>by
  rw[g] at h
  cases p:(bo (s.heap.objs.size+1) scope.names []).lookup x with
  |none=>rw[p] at h;exact .inl ⟨h,rfl⟩
  |some d=>rw[p] at h;cases h;exact .inr<|sU p
 have lo: ∀{x:ay} {c:hJ},(x,c)∈bo (s.heap.objs.size+1) scope.names []->s.heap.objs.size<c:=λ{x c} h=>(ok.empty x c h).2;refine hV<|iw<|iw<|B _ _ ((Heap.Ns.new s.heap<|.type "dict").keeps<|te _ _) (λb o e=>te _ _ b o (jU _ e)) ⟨λx c h=>?_,λx h=>?_,λx y c l h1 w t=>?_,λx c h=>?_⟩
 .rcases f x c h with⟨z,T⟩|z
  .refine .inl ⟨m x c z,λe=>?_⟩;have:=EI scope.names (s.heap.objs.size+1) []<|.inl e;rw[T] at this;cases this
  .exact .inr ⟨lo z,u _ (qN _ _ z) rfl,(ok.empty x c z).1⟩
 .rcases h with h|h
  .obtain⟨c,l⟩:=O x h;rw[g,l];cases(bo (s.heap.objs.size+1) scope.names []).lookup x<;>exact⟨_,rfl⟩
  .have:=EI scope.names (s.heap.objs.size+1) cl<|.inl<|u _ h rfl;exact NT.mp this
 .rcases f x c h1 with⟨z,_⟩|z
  .exact absurd (t x c<|m x c z) (Ik l)
  .rcases f y c w with⟨q,_⟩|q
   .exact absurd (t y c<|m y c q) (Ik l)
   .exact B1 ok.apart z q
 .rcases f x c h with⟨z,_⟩|z
  .exact .inl (m x c z)
  .exact .inr (lo z)
noncomputable def Cx.comp(X:Cx)(d:iI)(scope:jb)(cl:jQ)(U:hJ)(f:ie)(c:Hp)(e:ki)(a:iX):Cx:=
 {X with N:=d,s₀:=f,H₀:=c,env:=compEnvC scope cl U X.env,outer:=X.stack,stack:=X.stack,ex:=e,fn:=λx=>scope.names.lookup x==Y .cell,pn:=X.pn++a,xe:=λ_ _=>False}
abbrev TB:=St->Hp->(St->Hp->Prop)->Prop
def PB(X:Cx)(code:da Unit)(t:TB):Prop:=
 ∀(a:iX) (s:ie) (c:St) (U:Hp) (N:St->Hp->Prop),Inv X a c U s->t c U N->
  af (aj X.prog X.w) X.A code (λ_ d=> ∃b H',Inv X a b H' d/\N b H') X.xe s
def Jv(X:Cx)(b:kj)(t:TT):Prop:=
 ∀(a:iX) (s:ie) (d:St) (U:Hp) (Q:Bool->Hp->Prop),Inv X a d U s->t d U Q->
  af (aj X.prog X.w) X.A (forIn b J λc r=>if r=J then do let ok <-isTrue c X.env (aQ c X.env);pure (bw ok) else pure (bw r)) (TP X a d Q) X.xe s
noncomputable def ZE:TT:=λ_ U Q=>Q J U
section
variable {X:Cx}
def Tv:Jv X [] ZE:=λa s b U Q T h=>wpAny_tests_nil ⟨U,T,h⟩
def Tu{c:iq}{t:TT}(h:PT X c t):Jv X [c] t:=λa s d U Q T b=>wpAny_tests_one<|h a s d U Q T b
noncomputable def je(e:iq)(depth:Nat)(acc:ir)(a:db):da Unit:=
 match(bY e)[depth+1]? with
 |some c=>do
  let x <-aQ c.iter a
  b4 c.iter.pos
  let x <-aw c.iter a x
  let _ <-runOwn (.compStart e (depth+1) (<-bV [x] (c1 x)) acc a) a
 |none=>match e with
  | .ListComp b _ _ _=>do let _ <-call (.builtin "list.append") [acc,<-aQ b a]
  | .SetComp b _ _ _=>do let v <-aQ b a;b4 b.pos;let _ <-call (.builtin "set.add") [acc,v]
  |_=>k6 "no"
def Ki(T:It)(g:TG)(l:TT)(tb:TB):TB:=λd U N=> ∃W:Nat->Nat->St->Hp->Prop,(∃m,W 0 m d U)/\ ∀i m d U,W i m d U->
 (T.stop i U/\N d U)\/(T.go i U/\ ∀x f,T.yld i U x f->g x d f λa j=>l a j λb h=>if b=J then tb a h λe k=> ∃c,c<m/\W (i+1) c e k else ∃c,c<m/\W (i+1) c a h)
def adH(e:iq)(depth:Nat)(it f:ir)(b:db)(g:oj)(o:(∃d a i p,e= .ListComp d a i p)\/(∃d a i p,e= .SetComp d a i p))
  (j:(bY e)[depth]?=Y g)(n:g.is_async=0)(k: ∀h,(bY e)[depth+1]?=Y h->h.is_async=0):
  lb e depth it f b=(do
   b4 g.iter.pos
   match <-b9 it with
   |none=>pure<|.done .next
   |some v=>
    d1 g.target it v
    b5 g.target b v
    let ok <-forIn g.ifs J λc r=>if r=J then do let ok <-isTrue c b (aQ c b);pure (bw ok) else pure (bw r)
    if ok=J then je e depth f b
    again (.compLoop e depth it f b)):=by
 rcases o with⟨d,a,i,p,rfl⟩|⟨d,a,i,p,rfl⟩
 .have l:a[depth]?=Y g:=j;unfold lb je;simp only[clausesOf.eq_def] at j k ⊢;rw[l];simp only[n]
  cases m:a[depth+1]? with
  |none=>rfl
  |some h=>
   have:=k h m;simp only[this,vW,jy,jS]
   congr 1;funext _;congr 1;funext r
   cases r with
   |none=>rfl
   |some v=>
    dsimp only
    congr 1;funext _;congr 1;funext _;congr 1;funext ok
    cases ok with
    |false=>rfl
    |true=>simp only[kI,tN];rfl
 .have l:a[depth]?=Y g:=j;unfold lb je;simp only[clausesOf.eq_def] at j k ⊢;rw[l];simp only[n]
  cases m:a[depth+1]? with
  |none=>rfl
  |some h=>
   have:=k h m;simp only[this,vW,jy,jS]
   congr 1;funext _;congr 1;funext r
   cases r with
   |none=>rfl
   |some v=>
    dsimp only
    congr 1;funext _;congr 1;funext _;congr 1;funext ok
    cases ok with
    |false=>rfl
    |true=>simp only[kI,tN];rfl
def Rw 
  (d:(∃b a c p,e= .ListComp b a c p)\/(∃b a c p,e= .SetComp b a c p))
  (h:af (aj prog w) A ((lb e depth it acc env).onRaise (λx=>do p5 x env;theTreesLotGoes x)) Q E s):
  af (aj prog w) (A.under<|.compLoop e depth it acc env) ((aj prog w).den<|.compLoop e depth it acc env) Q E s:=by
 rcases d with⟨b,a,c,p,rfl⟩|⟨b,a,c,p,rfl⟩
 .exact h
 .exact h
def KY{e:iq}{depth:Nat}{acc:ir}{c:oj}{g:TG}{ti:TT}{tb:TB}{J:It}{y:ki}{it:hJ}{tn:Nat->iK->Prop}(cc:X.xe=λ_ _=>False)(hc:X.calm=K0)
  (hl:(∃B k sc p,e= .ListComp B k sc p)\/(∃B k sc p,e= .SetComp B k sc p))(hg:(bY e)[depth]?=Y c)(ha:c.is_async=0)(l4: ∀g',(bY e)[depth+1]?=Y g'->g'.is_async=0)
  (T:Turn X.prog X.w X.K c.target J y it tn)(pg:PG X c.target g)(bt:Jv X c.ifs ti)(pb:PB X (je e depth acc X.env) tb)
  {a:iX}{s:ie}{σ:St}{H:Hp}{N:St->Hp->Prop}(I:Inv X a σ H s)(f2: ∀b∈y,vR X a H b)(st:tn 0 s.heap)(h:Ki J g ti tb σ H N):
  b8 (aj X.prog X.w) X.A (.compLoop e depth (.ref it) acc X.env) (λr s'=>r= .ok .next/\ ∃f j,Inv X a f j s'/\(∀b∈y,j b=KE)/\N f j) s:=by
 obtain⟨W,⟨m0,w0⟩,turn⟩:=h;have P: ∀{j:Hp},(∀b∈y,j b=KE)-> ∀b∈y,vR X a j b:=λhn b v=>⟨hn b v,(f2 b v).2⟩
 have D: ∀{Z:Type} {t:da Z} {Q:Z->ie->Prop} {E:iY} {s:ie},af (aj X.prog X.w) X.A t Q X.xe s->af (aj X.prog X.w) X.A t Q E s:=λh=>nI h (λ_ _ x=>x) λ_ _ z=>by rw[cc] at z;exact z.elim
 refine codeAny_loop K3 (λn s'=> ∃i f j,Inv X a f j s'/\tn i s'.heap/\(∀b∈y,j b=KE)/\W i n f j) (λn V hI=>?_) m0 ⟨0,σ,H,I,st,λb v=>(f2 b v).1,w0⟩;refine Rw hl ?_;refine wpAny_noted ?_;rw[adH e depth (.ref it) acc X.env c hl hg ha l4];obtain⟨i,l,M,R,S,F,w3⟩:=hI;refine hV<|xJ ?_;rcases turn i n l M w3 with⟨stop,qn⟩|⟨go,step⟩
 .refine hV (NL (T.done X K3 K3 K3 hc i a V l M _ R (P F) S stop) λr s4 a'=>?_);obtain⟨hr,I4⟩:=a';subst hr;exact iw ⟨rfl,l,M,I4,F,qn⟩
 .refine hV (NL (T.item X K3 K3 K3 hc i a V l M _ R (P F) S go) λr s4 a'=>?_);obtain⟨u,hr,h4⟩:=a';subst hr;refine hV<|NL h4 λ_ s5 a'=>?_;obtain⟨x,H5,I5,r5,y5,bU,gK⟩:=a';have gZ:=I5.pinned (P gK)<|T.obj _ _ bU;refine hV<|NL (D<|pg _ s5 l H5 x u _ gZ r5 (step x H5 y5)) λ_ s6 a'=>?_;obtain⟨G,H6,I6,q6⟩:=a';refine hV<|NL (D<|bt _ s6 G H6 _ I6 q6) λok s7 a'=>?_;obtain⟨H7,I7,Y'⟩:=a'
  have again: ∀{O:ie} {q:St} {C':Hp},Inv X (a++BC y s5.heap) q C' O->(∃U,U<n/\W (i+1) U q C')-> ∃m,m<n/\ ∃i f j,Inv X a f j O/\tn i O.heap/\(∀b∈y,j b=KE)/\W i m f j:=λ{O q C'} L a'=>by
   obtain⟨U,hm,w8⟩:=a'
   refine⟨U,hm,i+1,q,C',L.CT,T.keep _ _ _ bU λb v o e=>(L.pin (b,o)<|oU _ (oU _ (sf v e))).1,λb v=>?_,w8⟩;obtain⟨o,e,d⟩:=T.obj _ _ bU b v;exact(L.pin (b,o)<|oU _ (oU _ (sf v e))).2.1
  cases ok with
  |false=>rw[iG ku] at Y';exact iw ⟨rfl,again I7 Y'⟩
  |true=>rw[iz K3] at Y';simp -iota only[kI];refine hV<|NL (D<|pb _ s7 G H7 _ I7 Y') λ_ O a'=>?_;obtain⟨q,C',L,q8⟩:=a';exact iw ⟨rfl,again L q8⟩
def ZJ(d:hJ)(e:TE):TB:=λc U N=>e c U λy b=> ∃a,b d=Y (.lst a)/\(Ls a)<sizeLine/\N c (upd b d<|.lst<|a++[y])
def TK{b:iq}{a:pv}{i:jb}{p:bq}{depth:Nat}{d:hJ}{j:TE}(o:a[depth+1]?=I)(m:PE X b j):PB X (je (.ListComp b a i p) depth (.ref d) X.env) (ZJ d j):=by
 intro f s k U N T h
 have l:je (.ListComp b a i p) depth (.ref d) X.env=(do let _ <-call (.builtin "list.append") [.ref d,<-aQ b X.env]):=by unfold je;simp -iota only[clausesOf.eq_def];rw[o]
 rw[l];refine hV<|NL (m f s k U _ T h) λu s1 Q=>?_;obtain⟨y,v,g,t,A,hd,x,q⟩:=Q;obtain⟨z,c,n,r,w,e⟩:=g.MJ hd;refine hV<|zh F.slot_list_append ⟨_,e,rfl⟩ NI (NH _ _) (gu d c.toArray n u<|by rw[jq];lia) ⟨e,?_⟩;refine iw ⟨k,_,g.MK (its':=c++[u]) hd e (by simp) (r.append<|.cons t .nil) ?_,q⟩;rw[mX,Bb]
 lia
def Gn{b:iL}{w:iD}{A:iE}{e:iq}{depth:Nat}{it acc:ir}{d:db}{R:i5->ie->Prop}{s:ie}{c:oj}
  (q:(∃g a i p,e= .ListComp g a i p)\/(∃g a i p,e= .SetComp g a i p))(o:(bY e)[depth]?=Y c)(n:c.is_async=0)
  (l:b8 (aj b w) A (.compLoop e depth it acc d) R s)
  (j: ∀(Q:iY) (E:iY),Q it s->af (aj b w) A (c1 it) Q E s):
  b8 (aj b w) A (.compStart e depth it acc d) R s:=by
 have h:af (aj b w) A (gA e depth it acc d) (λfin k=>match fin with| .done f=>R (.ok f) k| .again m=>m.quiet=J/\b8 (aj b w) A m R k) (notedBy (aj b w) A d λx k=>R (.error x) k) s:=by
  unfold gA;rw[o];simp only[Option.elim,n,vW,jy,jS];refine hV<|ug<|wpAny_ite ?_;split
  .first
    |exact hV<|iw<|iw<|eh H l
    |exact iw<|eh H l
  .exact hV (uf<|hV<|xJ<|hV<|j _ _ (iw<|eh H l))
 rcases q with⟨g,a,i,p,rfl⟩|⟨g,a,i,p,rfl⟩
 .refine ue ?_;show af _ A ((gA (.ListComp g a i p) depth it acc d).onRaise (λx=>do p5 x d;b4 ta)) _ _ s;exact wT h
 .refine ue ?_;show af _ A ((gA (.SetComp g a i p) depth it acc d).onRaise (λx=>do p5 x d;b4 ta)) _ _ s;exact wT h
noncomputable def af3(d:TI)(g:TG)(c:TT)(tb:TB):TB:=λa U N=>d a U λT b=>Ki T g c tb a b N
def Xl{e:iq}{depth:Nat}{b:ir}{c:oj}{u:TI}{g:TG}{o:TT}{tb:TB}(C:X.xe=λ_ _=>False)(M:X.calm=K0)
  (n:(∃d a j p,e= .ListComp d a j p)\/(∃d a j p,e= .SetComp d a j p))(i:(bY e)[depth+1]?=J4 c)(m:c.is_async=0)(l4: ∀l,(bY e)[depth+1+1]?=J4 l->l.is_async=0)
  (hs: ∀x,aw c.iter X.env x=pure x)(pi:PI X c.target c.iter u)(pg:PG X c.target g)(B:Jv X c.ifs o)(pb:PB X (je e (depth+1) b X.env) tb):
  PB X (je e depth b X.env) (af3 u g o tb):=by
 intro f s K H N I h
 have L:je e depth b X.env=(do
  let x <-aQ c.iter X.env
  b4 c.iter.pos
  let x <-aw c.iter X.env x
  let _ <-runOwn (.compStart e (depth+1) (<-bV [x] (c1 x)) b X.env) X.env):=by
  unfold je;rw[i]
 rw[L];refine hV<|NL (pi f s K H _ I h) λv s1 h1=>hV<|xJ<|hV<|vV (hs v)<|hV<|lz<|NL h1 λR F G=>?_;obtain⟨it,S,W,J,P,rfl,y,T,t,O,D⟩:=G;refine hV<|wpAny_runOwn ?_;refine Gn n i m ?_ λQ E U=>T.self X.A 0 F Q E t U;refine qm (KY C M n i m l4 T pg B pb y O t D) λr V Y=>?_;obtain⟨rfl,k,w,z,_,q⟩:=Y;exact iw ⟨k,w,z,q⟩
end
theorem oV{a:db}: ∀{b:List (ay×cS)} {x:ay},b.lookup x=Y .free->
  (b.map λ(n,k)=>if(k==aJ&&a.scope.kind== .function&&a.kindOf n==Y .cell) then(n,cg) else(n,k)).lookup x=Y .cell\/
  (b.map λ(n,k)=>if(k==aJ&&a.scope.kind== .function&&a.kindOf n==Y .cell) then(n,cg) else(n,k)).lookup x=Y .free
 |[],_,h=>by simp at h
 |(n,k)::r,x,h=>by
  have e:= @oV a r x;rw[jG]
  cases c:x==n with
  |true=>
   simp only[oS,c] at h;cases h;by_cases d:(aJ==aJ&&a.scope.kind== .function&&a.kindOf n==Y .cell)=J
   .left;simp only[d,kI,oS,c]
   .right;simp only[d,jS,oS,c,jy]
  |false=>
   simp only[oS,c] at h;by_cases d:(k==aJ&&a.scope.kind== .function&&a.kindOf n==Y .cell)=J
   .simp only[d,kI,oS,c];exact e h
   .simp only[d,jS,oS,c,jy];exact e h
theorem lj{a:db}: ∀{b:List (ay×cS)} {x:ay} {g:cS},
  (b.map λ(n,k)=>if(k==aJ&&a.scope.kind== .function&&a.kindOf n==Y .cell) then(n,cg) else(n,k)).lookup x=Y g-> ∃k,(x,k)∈b/\(k=g\/k= .free)
 |[],_,_,h=>by simp at h
 |(n,k)::r,x,g,h=>by
  rw[jG] at h
  cases d:x==n with
  |true=>
   have e:=vZ d;subst e;by_cases c:(k==aJ&&a.scope.kind== .function&&a.kindOf x==Y .cell)=J
   .refine⟨k,jc,.inr ?_⟩
    have h1:(k==aJ)=J:=by
     cases hk:(k==aJ) with
     |true=>rfl
     |false=>rw[hk] at c;simp at c
    exact vZ h1
   .simp only[c,jS,oS,d,jy] at h;exact⟨k,jc,.inl<|by simpa using h⟩
  |false=>
   by_cases c:(k==aJ&&a.scope.kind== .function&&a.kindOf n==Y .cell)=J
   .simp only[c,kI,oS,d] at h;obtain⟨i,h1,f⟩:=lj h;exact⟨i,ji _ h1,f⟩
   .simp only[c,jS,oS,d,jy] at h;obtain⟨i,h1,f⟩:=lj h;exact⟨i,ji _ h1,f⟩
structure C2(X:Cx)(N':iI)(scope:jb)(pre:St->St):Prop where
 cell: ∀y∈scope.names,y.2= .cell->scope.names.lookup y.1=J4 .cell
 kind:scope.kind= .function
 names: ∀y∈scope.names,y.2= .local->scope.names.lookup y.1=J4 .local
 free: ∀y∈scope.names,y.2= .free->X.env.scope.names.lookup y.1=J4 .cell\/X.env.scope.names.lookup y.1=J4 .free
 len: ∀σ:St,(pre σ).length=Ls N'
 pre: ∀(σ:St) (i:Nat) (v:V) (x:ay),(pre σ)[i]?=J4 (J4 v)->N'[i]?=J4 x->scope.names.lookup x=J4 .free/\ ∃j:Nat,X.N[j]?=J4 x/\σ[j]?=J4 (J4 v)
section
variable {X:Cx}
def UB{H:iI}{scope:jb}{pre:St->St}(S:C2 X H scope pre){d:iX}{f:ie}{E:St}{t:Hp}{A:ki}{cl:jQ}{C:iK}{t':Nat}(I:Inv X d E t f)
  (B:Ou X.env.cells scope f.heap.objs.size C cl)
  (w: ∀b∈A,vR X d t b)(Q: ∀b∈A,b<f.heap.objs.size)
  (J:C.Ns f.heap.objs.size (λ_=>KE))(hk: ∀b o,f.heap.get? b=J4 o->C.get? b=J4 o):
  Inv (X.comp H scope cl f.heap.objs.size f t A d) [] (pre E) t {f with heap:=C,toks:=t'}:=by
 have D: ∀b∈Jh X.stack,t b=KE:=I.Jq;have O: ∀b,b≠X.env.locals->b∉X.fs->b∉Jh X.stack:=λb h1 a z=>(mz.mp<|I.GQ b z).elim h1 a;have old: ∀x c,X.env.cells.lookup x=J4 c->c<f.heap.objs.size:=λx c e=>(I.cell x c e).elim λ_ z=>z.lt
 refine⟨⟨I.ok.mod,?_,I.ok.glob,I.ok.blt,jM _,λx y c h1 a=>?_,λx h=>?_,λx c q e=>?_,I.ok.hd,I.ok.frames,.inl K3,λb g=>?_,
  I.bs,kW I.ok.bsz I.sz,λb o e g=>?_,λb g=>O b (w b g).2.1 (w b g).2.2.1,I.stack,D⟩,rfl,I.bare,Un.kept hk,⟨_,J,λi x v h1 a T=>?_⟩,λx c h=>?_,I.hok.fresh<|jM _,λx c h=>?_,λp R=>?_,I.hok.kept hk,S.len E⟩
 .show(hW scope X.env).kind= .function;simp[hW,S.kind]
 .rcases B.ex x c h1 with z|z
  .rcases B.ex y c a with s|s
   .exact I.ok.inj x y c z s
   .exact absurd (old x c z) (Ik s)
  .exact B.inj x y c z h1 a old
 ·
  have N:(hW scope X.env).names.lookup x=J4 .cell\/(hW scope X.env).names.lookup x=J4 .free:=h;refine B.all x ?_;rcases N with z|z
  .obtain⟨k,h1,a⟩:=lj z;rcases a with a|a<;>subst a
   .exact .inr h1
   .exact .inl h1
  .obtain⟨k,h1,a⟩:=lj z;rcases a with a|a<;>(subst a;exact .inl h1)
 .rcases B.one x c e with⟨_,z⟩|⟨z,_⟩
  .exact absurd (vZ q) z
  .exact uk z
 .refine⟨kd<|Q b g,λx c h=>?_⟩;rcases B.ex x c h with z|z
  .exact(w b g).2.2.2.2.1 x c z
  .exact sV (ED (Q b g) z)
 ·
  have W:b∈A:=g;rcases(w b W).2.2.2.1 with z|z
  .exact I.ok.noex b o e z
  .exact absurd (oq (jW e)<|kW I.ok.bsz z) (qP _)
 .obtain⟨q,j,K,hv⟩:=S.pre E i v x a h1;obtain⟨m,Z,P⟩:=I.loc;have G:=S.free (x,.free) (sU q) K3;obtain⟨u,r,l⟩:=P j x v K hv (by rcases G with z|z;exact .inr<|.inl z;exact .inr<|.inr z);refine⟨u,r,.inr ⟨oV q,?_⟩⟩;rcases l with⟨dy,_⟩|⟨_,c,F,V⟩
  .have M:X.env.scope.names.lookup x=J4 .local:=dy;rcases G with z|z<;>(have s:X.env.scope.names.lookup x=_:=z;rw[M] at s;cases s)
  .obtain⟨U,L⟩:=B.all x<|.inl<|sU q;rcases B.one x U L with⟨this,_⟩|⟨_,z,_⟩
   .rw[F] at this;cases this;exact⟨c,L,V.keeps hk⟩
   .rw[q] at z;cases z
 .rcases B.one x c h with⟨z,_⟩|⟨_,_,z⟩
  .obtain⟨v,hv⟩:=I.cell x c z;exact⟨v,hv.keeps hk⟩
  .exact⟨_,z⟩
 .rcases B.ex x c h with z|z
  .exact I.freeC x c z
  .exact I.hok.fresh (uk z)
 .have Y:p∈X.pn++d:=by simpa[Cx.comp] using R
  obtain⟨e,n,h1,a,T⟩:=I.pin p Y;exact⟨hk _ _ e,n,kd<|jW e,O _ h1 a,T⟩
def Cz{q:iI}{scope:jb}{a:iX}{f g:ie}{n k:St}{i l:Hp}{j:ki}{cl:jQ}{m:iK}(U:Inv X a n i f)(h: ∀b∈j,vR X a i b)
  (T:Inv (X.comp q scope cl f.heap.objs.size f i j a) [] k l g)(s:aM f.heap.objs.size g.heap m):Inv X a n l {g with heap:=m}:=by
 have K:=U.Og (s':=g) (ch:=j) T.os T.base T.hok T.bare λb d=>⟨(h b d).2.2.2.1,(h b d).2.1,(h b d).2.2.2.2.1,(h b d).2.2.2.2.2⟩
 have Jg:X.env.locals<f.heap.objs.size:=U.lt;refine K.turned (it:=f.heap.objs.size) (t':=g.toks) (λb o d e=>by rw[s.2 b d];exact e) T.free (sV Jg) (.inr U.sz) (λx c t z=>?_) λp r z=>?_
 .obtain⟨v,o,e,_⟩:=U.cell x c t;exact absurd (jW e) (by rw[z];exact qP _)
 .obtain⟨e,_⟩:=U.pin p r;exact absurd (jW e) (by rw[z];exact qP _)
def Gj(o:HO)(T:It)(g:TG)(b:TT)(tb:hJ->TB)(pre:St->St)(c:St)(U:Hp)(Q:VK):Prop:=
 ∀d,U d=I->Ki T g b (tb d) (pre c) (upd U d o) λ_ a=>Q (.ref d) a
def abt(T:It)(g:TG)(a:TT)(tb:hJ->TB)(pre:St->St)(b:St)(U:Hp)(Q:VK):Prop:=Gj (.lst []) T g a tb pre b U Q
def zS{e:iq}{o:HO}{l:eE}{c:oj}{jl:pv}{scope:jb}{u:iI}{pre:St->St}{g:TG}{ti:TT}{tb:hJ->TB}{M:jQ}{J:It}{i:ki}{it:hJ}{tn:Nat->iK->Prop}
  (hl:(∃N k sc p,e= .ListComp N k sc p)\/ ∃N k sc p,e= .SetComp N k sc p)(hg:bY e=c::jl)
  (S:C2 X u scope pre)(hc:X.calm=K0)(ha:c.is_async=0)(l4: ∀I',jl[0]?=J4 I'->I'.is_async=0)
  (o7: ∀(cl:jQ) (C:hJ) (s:ie) (t:Hp) (i:ki) (a:iX),let H':=X.comp u scope cl C s t i a
   PG H' c.target g/\Jv H' c.ifs ti/\ ∀d,PB H' (je e 0 (.ref d) H'.env)<|tb d)
  (j8: ∀x c,M.lookup x=J4 c->X.env.cells.lookup x=J4 c)(l3: ∀x,(x,aJ)∈scope.names-> ∃c,M.lookup x=J4 c)
  {a:iX}{f:ie}{L:St}{m:Hp}{Q:VK}{E:iY}{RR:ir->hJ->i5->ie->Prop}(I2:Inv X a L m f)(T:Turn X.prog X.w X.K c.target J i it tn)(u7:tn 0 f.heap)(f2: ∀b∈i,vR X a m b)
  (G:Inv X a L (upd m f.heap.objs.size o) {f with heap:=f.heap.push l})
  (h:Gj o J g ti tb pre L m Q)
  (hRR: ∀(d:hJ) (cl:jQ) (s:ie) (t O:Hp) (σ':St) (s4:ie),Inv X a L t s->(∀b∈i,vR X a t b)->Inv (X.comp u scope cl s.heap.objs.size s t i a) [] σ' O s4->Q (.ref d) O->RR (.ref d) s.heap.objs.size (.ok .next) s4):
  af (aj X.prog X.w) X.A (f3 scope X.env.globals M [] X.env.qual I .none<|J4 X.env) (λn y=>
   b8 (aj X.prog X.w) X.A (.compStart e 0 (.ref it) (.ref f.heap.objs.size) {n with scope:=hW scope X.env}) (RR (.ref f.heap.objs.size) n.locals) y) E {f with heap:=f.heap.push l}:=by
 have F: ∀b∈i,b<f.heap.objs.size:=λb j=>by obtain⟨o,e,_⟩:=T.obj _ _ u7 b j;exact jW e
 have U: ∀b∈i,vR X a (upd m f.heap.objs.size o) b:=λb j=>⟨by rw[iW<|kd<|F b j];exact(f2 b j).1,(f2 b j).2⟩
 refine T9 S.cell j8 l3 λh1 cl aq cK B=>?_;have hk: ∀b o,(f.heap.push l).get? b=J4 o->h1.get? b=J4 o:=cK;have D: ∀b∈i,b<(f.heap.push l).objs.size:=λb j=>by rw[vX];exact rO<|F b j
 have Z:=UB (t':=f.toks) S G B U D aq hk;obtain⟨pg,bt,pb⟩:=o7 cl (f.heap.push l).objs.size {f with heap:=f.heap.push l} (upd m f.heap.objs.size o) i a;have v:tn 0 h1:=T.keep _ _ _ u7 λb j o e=>hk b o<|jU _ e;have hw:=h f.heap.objs.size<|I2.hok.fresh<|jM _
 have Y: ∀b∈i,vR (X.comp u scope cl (f.heap.push l).objs.size {f with heap:=f.heap.push l} (upd m f.heap.objs.size o) i a) []
   (upd m f.heap.objs.size o) b:=λb j=>by
  obtain⟨z1,z2,z3,z4,z5,z6⟩:=U b j;refine⟨z1,kd<|D b j,λz=>(mz.mp<|G.GQ b z).elim z2 z3,.inl j,λx c hx=>(B.ex x c hx).elim (z5 x c) λz=>sV<|ED (D b j) z,λp hp=>z6 p<|by simpa[Cx.comp] using hp⟩
 have P:(bY e)[0]?=J4 c:=by rw[hg];rfl
 refine Gn hl P ha ?_ λQ' V hq=>T.self X.A 0 _ Q' V v hq
 refine qm (KY (X:=X.comp u scope cl (f.heap.push l).objs.size {f with heap:=f.heap.push l} (upd m f.heap.objs.size o) i a)
  (depth:=0) (acc:= .ref f.heap.objs.size) rfl hc hl P ha (λI' R=>l4 I'<|by rw[hg] at R;exact R) T pg bt (pb _) Z Y v hw) λr s4 hr=>?_
 obtain⟨rfl,σ4,O,W,_,q⟩:=hr;exact hRR _ _ _ _ _ _ _ G U W q
def Oe(d:TI)(g:TG)(c:TT)(tb:hJ->TB)(pre:St->St):TE:=λa U Q=>d a U λT b=>abt T g c tb pre a b Q
def Pu{b:iq}{c:oj}{jl:pv}{scope:jb}{e:bq}{o:iI}{pre:St->St}{y:TI}{g:TG}{ti:TT}{tb:hJ->TB}
  (S:C2 X o scope pre)(Y:X.calm=K0)(U:c.is_async=0)(l4: ∀t,jl[0]?=J4 t->t.is_async=0)
  (hs: ∀x,aw c.iter X.env x=pure x)(pi:PI X c.target c.iter y)
  (o7: ∀(cl:jQ) (C:hJ) (u:ie) (k:Hp) (r:ki) (a:iX),let f:=X.comp o scope cl C u k r a
   PG f c.target g/\Jv f c.ifs ti/\ ∀d,PB f (je (.ListComp b (c::jl) scope e) 0 (.ref d) f.env)<|tb d):
  PE X (.ListComp b (c::jl) scope e) (Oe y g ti tb pre):=by
 intro a s z H Q I h;obtain⟨tg,p,j,L⟩:=c;obtain rfl:L=0:=U;obtain⟨cl,W,R,V⟩:=sJ X.env scope λx P D=>I.ok.has x.1<|S.free x P D;rw[eval_ListComp];show af _ X.A (gk _ scope X.env _ (o8 []) K2 (aQ p X.env)) _ _ s;refine Ij (use:=KE) (g:=⟨tg,p,j,0⟩) (gs:=jl) K3 hs W S.kind S.names<|NL (pi a s z H _ I h) λv s1 h1=>NL h1 λcJ Z N=>?_;obtain⟨it,r,tn,J,H2,rfl,l,T,u7,G,K⟩:=N;refine om<|zS (RR:=λi C=>wl (aj X.prog X.w) X.A X.xe KE (EP X a z Q) i C) (.inl ⟨_,_,_,_,rfl⟩) K3 S Y K3 l4 o7 R V l T u7 G (l.ML (t':=Z.toks) .nil<|by simp) K λd O u k B σ' s4 E M n q=>?_;obtain⟨m,F,_⟩:=id n.loc;exact⟨m,F,λh' t8=>⟨.ref d,B,Cz E M n t8,rfl,q⟩⟩
def Pb{f:iq}{c:oj}{jl:pv}{scope:jb}{j i7 k:bq}{N':iI}{pre:St->St}{wi:TI}{g:TG}{ti:TT}{tb:hJ->TB}{y:ay}{i:Nat}
  (dn:cH (.ListComp f (c::jl) scope j) (J4<|.Name y k) i7.line X.env=pure K0)
  (S:C2 X N' scope pre)(hc:X.calm=K0)(ha:c.is_async=0)(l4: ∀g',jl[0]?=J4 g'->g'.is_async=0)
  (hs: ∀x,aw c.iter X.env x=pure x)(pi:PI X c.target c.iter wi)(fq:PG X (.Name y k) (G8 i))
  (o7: ∀(cl:jQ) (C:hJ) (l:ie) (H3:Hp) (fp:ki) (a:iX),let u:=X.comp N' scope cl C l H3 fp a
   PG u c.target g/\Jv u c.ifs ti/\ ∀d,PB u (je (.ListComp f (c::jl) scope j) 0 (.ref d) u.env)<|tb d):
  PS X (.Assign [.Name y k] (.ListComp f (c::jl) scope j) i7) (Wv (Oe wi g ti tb pre)<|G8 i):=by
 intro a s E H D I h;obtain⟨W,M,t,az⟩:=c;obtain rfl:az=0:=ha;obtain⟨cl,l9,j8,l3⟩:=sJ X.env scope λx Y hf=>I.ok.has x.1<|S.free x Y hf;rw[exec_Assign_Name_used _ _ _ _ dn];refine hV<|xJ<|hV ?_;show af _ X.A (do let _ <-gk (.ListComp f (⟨W,M,t,0⟩::jl) scope j) scope X.env _ (o8 []) K2 (aQ M X.env) (J4<|b5 (.Name y k) X.env)) _ _ s
 refine hV (nI (Ij (use:=J4<|b5 (.Name y k) X.env) (g:=⟨W,M,t,0⟩) (gs:=jl) (Q:=λ_ B=>SP X a D .next B) K3 hs l9 S.kind S.names
  (NL (pi a s E H _ I h) λv s1 h1=>NL h1 λcJ s2 h2=>?_)) (λ_ B hq=>iw<|iw hq) λ_ _ e=>e)
 obtain⟨it,fp,tn,J,H2,rfl,P,T,u7,f2,hw⟩:=h2;refine om<|zS (RR:=λG C=>wl (aj X.prog X.w) X.A X.xe (J4<|b5 (.Name y k) X.env) (λ_ B=>SP X a D .next B) G C) (.inl ⟨_,_,_,_,rfl⟩) K3 S hc K3 l4 o7 j8 l3 P T u7 f2 (P.ML (t':=s2.toks) .nil<|by simp) hw λd cl' l H3 L σ' K n ff O q=>?_;obtain⟨m,hn,_⟩:=id O.loc;obtain⟨F,es,ep,ho,hd,hr⟩:=id hn;have R:Inv X a E L K:=Cz n ff O (EC ..);have r:l.heap.objs.size≠X.env.locals:=sV n.lt;have N:l.heap.objs.size∉X.fs:=λz=>n.OM (jM _) z
 have Z:Inv X (a++[(l.heap.objs.size,F)]) E L K:=R.GJ λp U=>by
  rcases qh.mp U with z|z
  .exact R.pin p (oU _ z)
  .rcases AO.mp z with rfl
   exact⟨ho,O.free,r,N,λv z=>by rw[hd] at z;cases z⟩
 show af _ X.A (b5 (.Name y k) X.env<|.ref d) _ _ _;refine NL (fq _ K E L (.ref d) (.ref d) _ Z rfl q) λ_ s5 a'=>?_;obtain⟨σ5,H5,I5,q5⟩:=a';have V:=I5.pin (l.heap.objs.size,F) (by simp);refine⟨m,⟨F,es,ep,V.1,hd,hr⟩,λh' t8=>⟨σ5,H5,?_,q5⟩⟩;refine I5.CT.turned (it:=l.heap.objs.size) (t':=s5.toks) (λb o hb e=>by rw[t8.2 b hb];exact e) V.2.1 r (.inr n.sz) (λx c Y z=>?_) λp U z=>?_
 .obtain⟨v,o,e,_⟩:=n.cell x c Y;exact absurd (jW e) (by rw[z];exact qP _)
 .obtain⟨e,_⟩:=n.pin p U;exact absurd (jW e) (by rw[z];exact qP _)
end
end L2
namespace PX
open L2
inductive OK where
 |dct|set|fn(i:Nat)|exc(c:Nat)
 deriving DecidableEq
inductive D where
 |T1|bl(b:Bool)|int(i:Int)|str(x:ay)|tup(l:List D)|lst(l:List D)|R1(k:OK)(ks vs:List D)
mutual
noncomputable def D.hash:D->Int
 | .int i=>hashInt i
 | .tup l=>reduceHash<|aY<|D.Fd l
 |_=>0
noncomputable def D.Fd:List D->List Int
 |[]=>[]
 |d::l=>D.hash d::D.Fd l
end
noncomputable def ke:Key->D
 | .inl i=> .int i
 | .inr x=> .str x
def acE(K:iJ)(o:eE)(U:Nat):Prop:=o.cls= .ref U/\(∀a:hJ,PySem.W.KitX K (.ref a) (.ref U) λh=>h.get? a=Y o)/\ ∀n∈["int","bool","str","tuple","list","dict"],dD K (.ref U) (.type n)=Y C
def C8(K:iJ)(h:Option HO)(k:OK)(a c:List D)(b:List V):Prop:=
 match k with
 | .dct=>(∃kvs:List (Key×V),h=Y (.dK kvs)/\a=kvs.map (λp=>ke p.1)/\b=kvs.map (·.2))\/
   (∃kvs:List (List Key×V),h=Y (.dT kvs)/\a=kvs.map (λp=> .tup (p.1.map ke))/\b=kvs.map (·.2))
 | .set=>a=[]/\ ∃d:List (Int×V),h=Y (.SS d)/\d.Perm ((D.Fd c).zip b)
 | .exc U=>(a=[]/\c=[]/\b=[])/\ ∃o,h=Y (.C7 o<|.own 0)/\acE K o U
 |_=>False
def C8.ex{K h k a vs us}(x:C8 K h k a vs us): ∃o,h=Y o:=by
 cases k with
 |dct=>rcases x with⟨_,e,_⟩|⟨_,e,_⟩<;>exact⟨_,e⟩
 |set=>obtain⟨_,_,e,_⟩:=x;exact⟨_,e⟩
 |exc U=>obtain⟨_,_,e,_⟩:=x;exact⟨_,e⟩
 |_=>exact x.elim
def C8.keep{K k a b us}(x:C8 K h k a b us)(kp: ∀o,h=Y o->h'=Y o):C8 K h' k a b us:=by obtain⟨o,e⟩:=x.ex;rw[kp o e,<-e];exact x
abbrev SI:=hJ->Prop
def KT(K:iJ)(a:hJ)(c:List V):Prop:= ∃(o:eE) (b:oA) (n:Nat),K.lookup a=Y o/\o.cls= .type "tuple"/\o.data= .seq b n/\b.size<=sizeLine/\Vals c b.toList
def aeN(K:iJ)(a:hJ)(c:List V):Prop:= ∃(o:eE) (b:oA) (n:Nat),K.lookup a=Y o/\o.cls= .type "list"/\o.dict=I/\o.data= .seq b n/\b.size<=sizeLine/\Vals c b.toList
def Gq(K:iJ)(U:Hp)(O:SI)(a:hJ)(b:List V):Prop:=U a=Y (.tup b)/\ ¬O a
def Hb(K:iJ)(U:Hp)(O:SI)(a:hJ)(b:List V):Prop:=(Rd U a (.lst b)/\ ¬O a)\/aeN K a b
def Gq.sq{K U O a xs}(h:Gq K U O a xs):Ff K U a xs:= .inl (.inl h.1)
def Hb.sq{K U O a xs}(h:Hb K U O a xs):FV K U a xs:=h.elim (λz=> .inl z.1) .inr
def Rd.mono{a u}(h:Rd U a u)(k: ∀o,U a=Y o->H' a=Y o):Rd H' a u:=by
 rcases h with h|⟨o,h⟩
 .exact .inl (k _ h)
 .exact .inr ⟨o,k _ h⟩
def Gq.mono{K U H'}{a xs}(h:Gq K U O a xs)(k: ∀b o,U b=Y o-> ¬O b->H' b=Y o)(c: ∀b,U b≠I->O' b->O b):Gq K H' O' a xs:=
 ⟨k a _ h.1 h.2,λz=>h.2<|c a (by rw[h.1];simp) z⟩
def Hb.mono{K U H'}{a xs}(h:Hb K U O a xs)(k: ∀b o,U b=Y o-> ¬O b->H' b=Y o)(c: ∀b,U b≠I->O' b->O b):Hb K H' O' a xs:=by
 rcases h with⟨r,n⟩|h
 .refine .inl ⟨Rd.mono r λo e=>k a o e n,λz=>n<|c a ?_ z⟩;rcases r with r|⟨_,r⟩<;>(rw[r];simp)
 .exact .inr h
mutual
def Rep(K:iJ)(U:Hp)(O:SI):D->V->Prop
 | .T1,v=>v= .T1
 | .bl b,v=>v= .bl b
 | .int i,v=>v= .int i
 | .str x,v=>v= .str x
 | .tup l,v=> ∃a xs,v= .ref a/\Gq K U O a xs/\YP K U O l xs
 | .lst l,v=> ∃a xs,v= .ref a/\Hb K U O a xs/\YP K U O l xs
 | .R1 k e d,v=> ∃a c,v= .ref a/\(¬O a/\C8 K (U a) k e d c)/\YP K U O d c
def YP(K:iJ)(U:Hp)(O:SI):List D->List V->Prop
 |[],a=>a=[]
 |d::l,a=> ∃v r,a=v::r/\Rep K U O d v/\YP K U O l r
end
mutual
theorem Rep.mono{K U H'}{O O':SI}(k: ∀b o,U b=Y o-> ¬O b->H' b=Y o)(c: ∀b,U b≠I->O' b->O b): ∀{d:D} {v:V},Rep K U O d v->Rep K H' O' d v
 | .T1,_,h=>h
 | .bl _,_,h=>h
 | .int _,_,h=>h
 | .str _,_,h=>h
 | .tup l,_,h=>by rw[Rep] at h ⊢;obtain⟨a,f,e,s,r⟩:=h;exact⟨a,f,e,s.mono k c,YP.mono k c r⟩
 | .lst l,_,h=>by rw[Rep] at h ⊢;obtain⟨a,f,e,s,r⟩:=h;exact⟨a,f,e,s.mono k c,YP.mono k c r⟩
 | .R1 i j m,_,h=>by rw[Rep] at h ⊢;obtain⟨a,g,e,s,r⟩:=h;exact⟨a,g,e,⟨λz=>s.1<|c a (by obtain⟨o,q⟩:=s.2.ex;rw[q];simp) z,s.2.keep λo q=>k a o q s.1⟩,YP.mono k c r⟩
theorem YP.mono{K U H'}{O O':SI}(k: ∀b o,U b=Y o-> ¬O b->H' b=Y o)(a: ∀b,U b≠I->O' b->O b): ∀{l:List D} {c:List V},YP K U O l c->YP K H' O' l c
 |[],_,h=>h
 |d::l,_,h=>by rw[YP] at h ⊢;obtain⟨v,r,e,h1,f⟩:=h;exact⟨v,r,e,Rep.mono k a h1,YP.mono k a f⟩
end
def Rep.mkInt{K U O i}:Rep K U O (.int i) (.int i):=by rw[Rep]
def Rep.Jl{K U O i}:Rep K U O (.bl i) (.bl i):=by rw[Rep]
def Rep.GZ{K U O}:Rep K U O .T1 .T1:=by rw[Rep]
def Rep.mkStr{K U O i}:Rep K U O (.str i) (.str i):=by rw[Rep]
def Rep.int{K U O i v}(h:Rep K U O (.int i) v):v= .int i:=by rwa [Rep] at h
def Rep.bl{K U O i v}(h:Rep K U O (.bl i) v):v= .bl i:=by rwa [Rep] at h
def Rep.T1{K U O v}(h:Rep K U O .T1 v):v= .T1:=by rwa [Rep] at h
def Rep.str{K U O i v}(h:Rep K U O (.str i) v):v= .str i:=by rwa [Rep] at h
def Rep.tup{K U O l v}(h:Rep K U O (.tup l) v): ∃a b,v= .ref a/\Gq K U O a b/\YP K U O l b:=by rwa [Rep] at h
def Rep.lst{K U O l v}(h:Rep K U O (.lst l) v): ∃a xs,v= .ref a/\Hb K U O a xs/\YP K U O l xs:=by rwa [Rep] at h
def Rep.R1{K U O k c b v}(h:Rep K U O (.R1 k c b) v): ∃a d,v= .ref a/\(¬O a/\C8 K (U a) k c b d)/\YP K U O b d:=by rwa [Rep] at h
def Rep.OS{K U O k c b a us}(n: ¬O a)(h:C8 K (U a) k c b us)(r:YP K U O b us):Rep K U O (.R1 k c b) (.ref a):=by rw[Rep];exact⟨a,us,rfl,⟨n,h⟩,r⟩
def Rep.JZ{K U O l a xs}(h:Gq K U O a xs)(r:YP K U O l xs):Rep K U O (.tup l) (.ref a):=by rw[Rep];exact⟨a,xs,rfl,h,r⟩
def Rep.OU{K U O l a xs}(h:Hb K U O a xs)(r:YP K U O l xs):Rep K U O (.lst l) (.ref a):=by rw[Rep];exact⟨a,xs,rfl,h,r⟩
theorem YP.length{K U O}: ∀{l:List D} {vs:List V},YP K U O l vs->Ls vs=Ls l
 |[],vs,h=>by rw[YP] at h;rw[h];rfl
 |d::l,vs,h=>by rw[YP] at h;obtain⟨v,r,rfl,_,a⟩:=h;simp[YP.length a]
theorem YP.get{K U O}: ∀{l:List D} {a:List V} {i:Nat} {d:D},YP K U O l a->l[i]?=Y d-> ∃v,a[i]?=Y v/\Rep K U O d v
 |[],_,_,_,_,e=>by simp at e
 |d::l,a,0,b,h,e=>by rw[YP] at h;obtain⟨v,r,rfl,h1,_⟩:=h;simp at e;subst e;exact⟨v,rfl,h1⟩
 |d::l,a,i+1,b,h,e=>by rw[YP] at h;obtain⟨v,r,rfl,_,c⟩:=h;obtain⟨w,f,g⟩:=YP.get (i:=i) c (by simpa using e);exact⟨w,by simpa using f,g⟩
def YP.append{K U O}: ∀{l m:List D} {a c:List V},YP K U O l a->YP K U O m c->YP K U O (l++m) (a++c):=by
 intro g
 induction g with
 |nil=>intro _ a _ h b;rw[YP] at h;subst h;exact b
 |cons d l f=>intro _ a _ h b;rw[YP] at h;obtain⟨v,r,rfl,h1,e⟩:=h;show YP K U O (d::(l++_)) _;rw[YP];exact⟨v,_,rfl,h1,f e b⟩
def YP.one{K U O}{d:D}{v:V}(h:Rep K U O d v):YP K U O [d] [v]:=by rw[YP];exact⟨v,[],rfl,h,by rw[YP]⟩
def YP.nil{K U O}:YP K U O [] []:=by rw[YP]
def YP.cons{K U O}{l vs}(h:Rep K U O d v)(h':YP K U O l vs):YP K U O (d::l) (v::vs):=by rw[YP];exact⟨v,vs,rfl,h,h'⟩
theorem YP.take{K U O}: ∀{l:List D} {vs:List V} (n:Nat),YP K U O l vs->YP K U O (l.take n) (vs.take n)
 |_,_,0,_=>by simp[YP]
 |[],vs,n+1,h=>by rw[YP] at h;subst h;simp[YP]
 |d::l,vs,n+1,h=>by rw[YP] at h;obtain⟨v,r,rfl,h1,a⟩:=h;exact YP.cons h1<|YP.take n a
theorem YP.drop{K U O}: ∀{l:List D} {a:List V} (n:Nat),YP K U O l a->YP K U O (l.drop n) (a.drop n)
 |_,_,0,h=>h
 |[],a,n+1,h=>by rw[YP] at h;subst h;simp[YP]
 |d::l,a,n+1,h=>by rw[YP] at h;obtain⟨v,r,rfl,h1,b⟩:=h;exact YP.drop n b
theorem YP.set{K U O}{d:D}{v:V}(hv:Rep K U O d v): ∀{l:List D} {vs:List V} (i:Nat),YP K U O l vs->YP K U O (l.set i d) (vs.set i v)
 |[],vs,i,h=>by rw[YP] at h;subst h;simp[YP]
 |e::l,vs,0,h=>by rw[YP] at h;obtain⟨w,r,rfl,h1,a⟩:=h;exact YP.cons hv a
 |e::l,vs,i+1,h=>by rw[YP] at h;obtain⟨w,r,rfl,h1,a⟩:=h;exact YP.cons h1<|YP.set hv i a
abbrev Sl:=Option<|D×Bool
abbrev Dn:=List Sl
def W3(b:L2.St)(δ:Dn)(a:hJ):Prop:= ∃(i:Nat) (d:D),δ[i]?=Y (Y (d,J))/\b[i]?=Y (Y<|V.ref a)
def C5(K:iJ)(U:Hp)(O:SI):D->hJ->Prop
 | .lst l,a=> ∃d,U a=Y (.lst d)/\YP K U O l d
 | .R1 k e c,a=> ∃b,C8 K (U a) k e c b/\YP K U O c b
 |_,_=>False
def C5.mono{K U H'}(h:C5 K U O d a)(k: ∀b o,U b=Y o-> ¬O b->H' b=Y o)(c: ∀b,U b≠I->O' b->O b)(f: ∀o,U a=Y o->H' a=Y o):C5 K H' O' d a:=by
 cases d with
 |lst l=>obtain⟨i,e,r⟩:=h;exact⟨i,f _ e,YP.mono k c r⟩
 |R1 j m n=>obtain⟨g,e,r⟩:=h;exact⟨g,e.keep f,YP.mono k c r⟩
 |_=>exact h
def C5.rep{K U}(h:C5 K U O d a)(f: ¬O' a)(c: ∀b,U b≠I->O' b->O b):Rep K U O' d (.ref a):=by
 cases d with
 |lst l=>obtain⟨g,e,r⟩:=h;rw[Rep];exact⟨a,g,rfl,.inl ⟨.inl e,f⟩,YP.mono (λb o e _=>e) c r⟩
 |R1 i j m=>obtain⟨k,e,r⟩:=h;exact Rep.OS f e<|YP.mono (λb o e _=>e) c r
 |_=>exact h.elim
def Ow:Option HO->Prop
 |none=>False
 |some (.tup _)=>False
 |_=>True
def Ow.ne{o:Option HO}(h:Ow o):o≠I:=λe=>by rw[e] at h;exact h
def Ow.up{o a:Option HO}(h:Ow o)(k: ∀x,o=Y x->a=Y x):Ow a:=by
 cases o with
 |none=>exact h.elim
 |some x=>rw[k x H];exact h
def OP{o:Option HO}(h:o=I): ¬Ow o:=λz=>z.ne h
def Ow.nt{o:Option HO}(h:Ow o)(a:List V):o≠Y (.tup a):=λe=>by rw[e] at h;exact h
def C5.ow{K T}{O:SI}{d:D}{a:hJ}(h:C5 K T O d a):Ow (T a):=by
 cases d with
 |lst l=>obtain⟨g,e,_⟩:=h;rw[e];trivial
 |R1 k b f=>
  obtain⟨c,e,_⟩:=h
  cases k with
  |dct=>rcases e with⟨_,e,_⟩|⟨_,e,_⟩<;>(rw[e];trivial)
  |set=>obtain⟨_,_,e,_⟩:=e;rw[e];trivial
  |exc U=>obtain⟨_,_,e,_⟩:=e;rw[e];trivial
  |_=>exact e.elim
 |_=>exact h.elim
structure ER(K:iJ)(H:Hp)(T:SI)(σ:L2.St)(δ:Dn):Prop where
 len:(Ls σ)=Ls δ
 val: ∀(i:Nat) (d:D),δ[i]?=J4 (J4 (d,K2))-> ∃v,σ[i]?=J4 (J4 v)/\Rep K H (λa=>W3 σ δ a\/T a) d v
 own: ∀(i:Nat) (d:D),δ[i]?=J4 (J4 (d,K0))-> ∃a,σ[i]?=J4 (J4<|V.ref a)/\C5 K H (λa=>W3 σ δ a\/T a) d a
 inj: ∀(i j:Nat) (d e:D) (a:hJ),δ[i]?=J4 (J4 (d,K0))->δ[j]?=J4 (J4 (e,K0))->σ[i]?=J4 (J4<|V.ref a)->σ[j]?=J4 (J4<|V.ref a)->i=j
 nT: ∀a,W3 σ δ a-> ¬T a
 dom: ∀a,T a->Ow (H a)
def ER.JY{K U T σ e}(E:ER K U T σ e)(h:W3 σ e a):Ow (U a):=by obtain⟨i,d,h1,f⟩:=h;obtain⟨b,c,g⟩:=E.own i d h1;rw[f] at c;cases c;exact g.ow
def ER.JO{K U T σ δ}(E:ER K U T σ δ)(h:W3 σ δ a):U a≠I:=(E.JY h).ne
def ER.mono{K U H' σ δ}(E:ER K U T σ δ)(k: ∀b o,U b=Y o-> ¬T b->H' b=Y o)(f: ∀b,U b≠I->T' b->T b)(hd: ∀a,T' a->Ow (H' a)):ER K H' T' σ δ where
 len:=E.len
 val:=λi d h=>by obtain⟨v,h1,c⟩:=E.val i d h;exact⟨v,h1,Rep.mono (λb o e n=>k b o e λz=>n<|.inr z) (λb g z=>z.elim .inl λz=> .inr (f b g z)) c⟩
 own:=λi d h=>by obtain⟨a,h1,c⟩:=E.own i d h;exact⟨a,h1,c.mono (λb o e n=>k b o e λz=>n<|.inr z) (λb g z=>z.elim .inl λz=> .inr (f b g z)) λo e=>k a o e<|E.nT a ⟨i,d,h,h1⟩⟩
 inj:=E.inj
 nT:=λa h z=>E.nT a h<|f a (E.JO h) z
 dom:=hd
def W3.set(h:W3 σ (δ.set i<|Y (d,C)) a):W3 σ δ a:=by
 obtain⟨j,e,h1,b⟩:=h;rw[zg] at h1;split at h1
 .split at h1<;>simp at h1
 .exact⟨j,e,h1,b⟩
def ER.freeze{K U T σ m}(E:ER K U T σ m){i:Nat}{d:D}{b:Bool}(h:m[i]?=Y (Y (d,b))):ER K U T σ (m.set i<|Y (d,C))/\ ∃v,σ[i]?=Y (Y v)/\Rep K U (λa=>W3 σ (m.set i<|Y (d,C)) a\/T a) d v:=by
 have o:i<(Ls m):=(wa.mp h).1
 have me: ∃v,σ[i]?=Y (Y v)/\Rep K U (λa=>W3 σ (m.set i<|Y (d,C)) a\/T a) d v:=by
  cases b with
  |false=>obtain⟨v,h1,l⟩:=E.val i d h;exact⟨v,h1,Rep.mono (λ_ _ e _=>e) (λb _ z=>z.elim (λz=> .inl z.set) .inr) l⟩
  |true=>
   obtain⟨a,h1,l⟩:=E.own i d h;refine⟨.ref a,h1,l.rep (λz=>?_) λb _ z=>z.elim (λz=> .inl z.set) .inr⟩;rcases z with⟨j,e,n,p⟩|z
   .rw[zg] at n;split at n
    .first
      |(split at n<;>simp at n)
      |simp at n
    .rename_i q;exact q<|E.inj i j d e a h n h1 p
   .exact E.nT a ⟨i,d,h,h1⟩ z
 refine⟨⟨by rw[vY];exact E.len,λj e c=>?_,λj e c=>?_,λj k e f a c hk h1 l=>?_,λa z=>E.nT a z.set,E.dom⟩,me⟩
 .by_cases g:i=j
  .subst g;rw[tU o] at c;cases c;exact me
  .rw[mD g] at c;obtain⟨v,h1,l⟩:=E.val j e c;exact⟨v,h1,Rep.mono (λ_ _ e _=>e) (λb _ z=>z.elim (λz=> .inl z.set) .inr) l⟩
 .by_cases g:i=j
  .subst g;rw[tU o] at c;cases c
  .rw[mD g] at c;obtain⟨a,h1,l⟩:=E.own j e c;exact⟨a,h1,l.mono (λ_ _ e _=>e) (λb _ z=>z.elim (λz=> .inl z.set) .inr) λ_ e=>e⟩
 .have g1:m[j]?=Y (Y (e,J)):=by
   by_cases g:i=j
   .subst g;rw[tU o] at c;cases c
   .rwa [mD g] at c
  have g2:m[k]?=Y (Y (f,J)):=by
   by_cases g:i=k
   .subst g;rw[tU o] at hk;cases hk
   .rwa [mD g] at hk
  exact E.inj j k e f a g1 g2 h1 l
def NR(b:L2.St)(δ:Dn)(i:Nat)(a:hJ):Prop:= ∃d:D,δ[i]?=Y (Y (d,J))/\b[i]?=Y (Y<|V.ref a)
structure Ar(σ:L2.St)(δ:Dn)(H:Hp)(δ':Dn)(H':Hp):Prop where
 kp: ∀a o,H a=J4 o-> ¬W3 σ δ a->H' a=J4 o
 owi: ∀i a,NR σ δ' i a->NR σ δ i a
 dm: ∀a,H a≠KE->H' a≠KE
def Ar.ow{σ c U b f}(k:Ar σ c U b f)(a:hJ)(h:W3 σ b a):W3 σ c a:=by obtain⟨i,d,h1,g⟩:=h;obtain⟨e,j,l⟩:=k.owi i a ⟨d,h1,g⟩;exact⟨i,e,j,l⟩
def Ar.refl{σ a U}:Ar σ a U a U:=⟨λ_ _ e _=>e,λ_ _ z=>z,λ_ z=>z⟩
def Ar.trans{σ δ δ1 δ2 U H1 b}(x:Ar σ δ U δ1 H1)(y:Ar σ δ1 H1 δ2 b):Ar σ δ U δ2 b:=
 ⟨λa o e n=>y.kp a o (x.kp a o e n) λz=>n<|x.ow a z,λi a z=>x.owi i a<|y.owi i a z,λa z=>y.dm a<|x.dm a z⟩
def Ar.ext{σ b U H1}(k: ∀a o,U a=Y o->H1 a=Y o):Ar σ b U b H1:=⟨λa o e _=>k a o e,λ_ _ z=>z,λa z=>by
 cases h:U a with
 |none=>exact absurd h z
 |some o=>rw[k a o h];simp⟩
def NR.set(h:NR σ (δ.set i<|Y (d,C)) j a):NR σ δ j a:=by
 obtain⟨e,h1,b⟩:=h;rw[zg] at h1;split at h1
 .split at h1<;>simp at h1
 .exact⟨e,h1,b⟩
def Ar.set{σ δ U i d}:Ar σ δ U (δ.set i<|Y (d,C)) U:=⟨λ_ _ e _=>e,λ_ _ z=>z.set,λ_ z=>z⟩
def Ms(K:iJ)(T:SI)(c:L2.St)(e:Dn)(U:Hp)(r:D×Bool)(b:Dn)(v:V)(H':Hp):Prop:=
 Ar c e U b H'/\
 match r with
 |(d,C)=>ER K H' T c b/\Rep K H' (λa=>W3 c b a\/T a) d v
 |(d,J)=> ∃p,v= .ref p/\U p=I/\ER K H' (λa=>T a\/a=p) c b/\C5 K H' (λa=>W3 c b a\/T a\/a=p) d p
abbrev F:=Dn->Option ((D×Bool)×Dn)
def tF(K:iJ)(f:F):TE:=λd U Q=> ∃b T r a,ER K U T d b/\f b=Y (r,a)/\ ∀v c,Ms K T d b U r a v c->Q v c
def PX(X:Cx)(e:iq)(f:F):Prop:=PE X e<|tF X.K f
noncomputable def Mc(T:SI)(r:D×Bool)(v:V):SI:=λa=>T a\/(r.2=J/\v= .ref a)
section
variable {K:iJ}{T:SI}{c:L2.St}{δ δ1 δ2:Dn}{H f g:Hp}{x y:D×Bool}{v u:V}
def Ms.er(E:ER K H T c δ)(P:Ms K T c δ H x δ1 v f):ER K f (Mc T x v) c δ1:=by
 obtain⟨d,b⟩:=x
 cases b with
 |false=>
  refine P.2.1.mono (λ_ _ e _=>e) (λb _ z=>z.elim id λz=>absurd z.1<|by simp) λa z=>?_;rcases z with z|z
  .exact P.2.1.dom a z
  .exact absurd z.1 (by simp)
 |true=>
  obtain⟨p,rfl,i,h,j⟩:=P.2;refine h.mono (λ_ _ e _=>e) (λb _ z=>z.elim .inl λz=> .inr (by have:=z.2;cases this;rfl)) λa z=>?_;rcases z with z|z
  .exact h.dom a (.inl z)
  .have:=z.2;cases this;exact h.dom _ (.inr K3)
def Ms.rep(E:ER K H T c δ)(P:Ms K T c δ H x δ1 v f):ER K f T c δ1/\Rep K f (λa=>W3 c δ1 a\/T a) x.1 v:=by
 obtain⟨d,b⟩:=x
 cases b with
 |false=>exact P.2
 |true=>
  obtain⟨p,rfl,i,h,j⟩:=P.2;refine⟨h.mono (λ_ _ e _=>e) (λb _ z=> .inl z) λa z=>h.dom a<|.inl z,j.rep (λz=>?_) λb _ z=>z.elim .inl λz=> .inr (.inl z)⟩;rcases z with z|z
  .exact h.nT p z (.inr K3)
  .exact(E.dom p z).ne i
def Ms.val(k:Ar c δ H δ2 g)(E:ER K g T c δ2)(r:Rep K g (λa=>W3 c δ2 a\/T a) d w):Ms K T c δ H (d,C) δ2 w g:=⟨k,E,r⟩
end
def iP{e f:Type}{a c:e}{b d:f}(h:Y (a,b)=Y (c,d)):a=c/\b=d:=by cases h;exact⟨rfl,rfl⟩
noncomputable def fC(d:D):F:=λa=>Y ((d,C),a)
noncomputable def jX(i:Nat):F:=λδ=>match δ[i]? with
 |some (Y (d,_))=>Y ((d,C),δ.set i<|Y (d,C))
 |_=>I
section
variable {X:Cx}{a b c:iq}{d:bq}{m l g:F}
def PX.imp(h:PE X e t)(k: ∀j U Q,tF X.K f j U Q->t j U Q):PX X e f:=λi s j U Q T n=>h i s j U Q T<|k j U Q n
def Z5{i j}:PX X (.Constant (.bool i) j d) (fC<|.bl i):=PX.imp aab λo U Q h=>by obtain⟨n,T,r,f,E,e,k⟩:=h;cases e;exact k _ _ (Ms.val .refl E (by first|exact Rep.mkInt|exact Rep.Jl|exact Rep.GZ|exact Rep.mkStr))
end
inductive Ax where
 |val(r:D×Bool)|slot(i:Nat)
noncomputable def res(a:Dn):Ax->Option D
 | .val r=>Y r.1
 | .slot i=>match a[i]? with
  |some (Y (d,_))=>Y d
  |_=>I
def ky(K:iJ)(U:Hp)(O:SI)(d:D)(v:V):Prop:=Rep K U O d v\/ ∃a,v= .ref a/\C5 K U O d a
abbrev FO:=Dn->Option (Ax×Dn)
def EW(K:iJ)(T:SI)(b:L2.St)(c:Dn)(U:Hp)(o:Ax)(a:Dn)(v:V)(H':Hp):Prop:=
 match o with
 | .val r=>Ms K T b c U r a v H'
 | .slot i=>Ar b c U a H'/\ER K H' T b a/\b[i]?=Y (Y v)
def F1(T:SI)(o:Ax)(v:V):SI:=match o with
 | .val r=>Mc T r v
 | .slot _=>T
def tO(K:iJ)(f:FO):TE:=λd U Q=> ∃b T o a,ER K U T d b/\f b=Y (o,a)/\ ∀v c,EW K T d b U o a v c->Q v c
def PO(X:Cx)(e:iq)(f:FO):Prop:=PE X e<|tO X.K f
noncomputable def iu(f:F):FO:=λδ=>(f δ).bind λp=>Y (.val p.1,p.2)
noncomputable def hX(i:Nat):FO:=λδ=>match δ[i]? with
 |some (Y _)=>Y (.slot i,δ)
 |_=>I
def PE.imp'(h:PE X e t)(k: ∀b U Q,d b U Q->t b U Q):PE X e d:=λa s b U Q T c=>h a s b U Q T<|k b U Q c
section
variable {X:Cx}{a:bq}
def PX.po(h:PX X e f):PO X e (iu f):=PE.imp' h λj U Q g=>by
 obtain⟨c,T,o,i,E,e,k⟩:=g;unfold iu at e
 cases h1:f c with
 |none=>rw[h1] at e;cases e
 |some p=>obtain⟨r,b⟩:=p;rw[h1] at e;obtain⟨rfl,rfl⟩:=iP e;exact⟨c,T,r,b,E,h1,λv d P=>k v d P⟩
end
structure Ops(K:iJ)(T:SI)(σ:L2.St)(δ:Dn)(H:Hp)(os:List Ax)(vs:List V)(δ':Dn)(H':Hp)(T':SI):Prop where
 len:os.length=Ls vs
 keep:Ar σ δ H δ' H'
 er:ER K H' T' σ δ'
 tt: ∀a,T a->T' a
 val: ∀(j:Nat) (d:D) (v:V),os[j]?=J4 (.val (d,K2))->vs[j]?=J4 v->Rep K H' (λa=>W3 σ δ' a\/T a) d v
 tmp: ∀(j:Nat) (d:D) (v:V),os[j]?=J4 (.val (d,K0))->vs[j]?=J4 v-> ∃p,v= .ref p/\T' p/\H p=KE/\C5 K H' (λa=>W3 σ δ' a\/T a) d p
 slt: ∀(j i:Nat) (v:V),os[j]?=J4 (.slot i)->vs[j]?=J4 v->σ[i]?=J4 (J4 v)
section
variable {K:iJ}{T T':SI}{b:L2.St}{δ a c:Dn}{H H' e:Hp}{os:List Ax}{vs:List V}{o:Ax}{v:V}
def Ops.nil(E:ER K H T b δ):Ops K T b δ H [] [] δ H T:=⟨rfl,.refl,E,λ_ z=>z,λj d v h=>by simp at h,λj d v h=>by simp at h,λj i v h=>by simp at h⟩
def EW.keep(P:EW K T b δ H o a v H'):Ar b δ H a H':=by
 cases o with
 |val r=>exact P.1
 |slot i=>exact P.1
def EW.er(E:ER K H T b δ)(P:EW K T b δ H o a v H'):ER K H' (F1 T o v) b a:=by
 cases o with
 |val r=>exact Ms.er E P
 |slot i=>exact P.2.1
end
def Gen(K:iJ)(U:Hp)(O:SI)(z:D×Bool)(Q:VK):Prop:=
 match z with
 |(d,C)=> ∀w b,(∀a o,U a=Y o->b a=Y o)->Rep K b O d w->Q w b
 |(d,J)=> ∀p b,U p=I->(∀a o,U a=Y o->b a=Y o)->C5 K b (λa=>O a\/a=p) d p->Q (.ref p) b
section
variable {K:iJ}{T h:SI}{c:L2.St}{δ δ1 δ' δ2:Dn}{H m H' f:Hp}{os:List Ax}{vs:List V}{o:Ax}{v:V}{z:D×Bool}{Q:VK}
def Ops.cons(E:ER K H T c δ)(P:EW K T c δ H o δ1 v m)(B:Ops K (F1 T o v) c δ1 m os vs δ2 f h):Ops K T c δ H (o::os) (v::vs) δ2 f h:=by
 have y:=P.er E;have u:=B.keep.kp;have x:=B.keep.ow
 have s: ∀a,T a->F1 T o v a:=λa z=>by
  cases o with
  |val r=>exact .inl z
  |slot i=>exact z
 refine⟨by simp[B.len],P.keep.trans B.keep,B.er,λa z=>B.tt a<|s a z,λj d w h1 g=>?_,λj d w h1 g=>?_,λj i w h1 g=>?_⟩
 .cases j with
  |zero=>simp at h1 g;subst h1;subst g;have q:Ms K T c δ H (d,C) δ1 v m:=P;exact Rep.mono (λb k e n=>u b k e λz=>n<|.inl z) (λb _ z=>z.elim (λz=>aW<|x b z) bB) (q.rep E).2
  |succ j=>exact Rep.mono (λ_ _ e _=>e) (λb _ z=>z.elim aW λz=>bB<|s b z)<|B.val j d w (by simpa using h1) (by simpa using g)
 .cases j with
  |zero=>simp at h1 g;subst h1;subst g;have q:Ms K T c δ H (d,J) δ1 v m:=P;obtain⟨p,rfl,t,U,ok⟩:=q.2;have l:F1 T (.val (d,J)) (V.ref p) p:= .inr ⟨rfl,rfl⟩;refine⟨p,rfl,B.tt p l,t,ok.mono (λb k e n=>u b k e λz=>n<|.inl z) (λb _ z=>z.elim (λz=>aW<|x b z) λz=>bB<|aW z) λk e=>u p k e λz=>y.nT p z l⟩
  |succ j=>
   obtain⟨p,rfl,l,t,ok⟩:=B.tmp j d w (by simpa using h1) (by simpa using g);refine⟨p,rfl,l,?_,ok.mono (λ_ _ e _=>e) (λb _ z=>z.elim aW λz=>bB<|s b z) λ_ e=>e⟩
   cases A:H p with
   |none=>rfl
   |some k=>exact absurd t<|P.keep.dm p (by rw[A];simp)
 .cases j with
  |zero=>simp at h1 g;subst h1;subst g;exact P.2.2
  |succ j=>exact B.slt j i w (by simpa using h1) (by simpa using g)
def Ops.view(B:Ops K T c δ H os vs δ' H' h){j:Nat}{d:D}(h1:os[j]?=Y o)(n:vs[j]?=Y v)(g:res δ' o=Y d):ky K H' (λa=>W3 c δ' a\/T a) d v:=by
 cases o with
 |val r=>
  obtain⟨e,b⟩:=r;have hd:e=d:=kz g;subst hd
  cases b with
  |false=>exact .inl<|B.val j e v h1 n
  |true=>obtain⟨p,rfl,_,_,ok⟩:=B.tmp j e v h1 n;exact .inr ⟨p,rfl,ok⟩
 |slot i=>
  have t:=B.slt j i v h1 n;unfold res at g;dsimp only at g
  cases l:δ'[i]? with
  |none=>rw[l] at g;cases g
  |some q=>
   cases q with
   |none=>rw[l] at g;cases g
   |some p=>
    obtain⟨e,b⟩:=p;rw[l] at g;have hd:e=d:=kz g;subst hd
    cases b with
    |false=>obtain⟨w,k,s⟩:=B.er.val i e l;rw[t] at k;cases k;exact .inl<|Rep.mono (λ_ _ e _=>e) (λb _ z=>z.elim aW λz=>bB<|B.tt b z) s
    |true=>obtain⟨a,k,s⟩:=B.er.own i e l;rw[t] at k;cases k;exact .inr ⟨a,rfl,s.mono (λ_ _ e _=>e) (λb _ z=>z.elim aW λz=>bB<|B.tt b z) λ_ e=>e⟩
def Ops.done(B:Ops K T c δ H os vs δ' H' h)(k: ∀v f,Ms K T c δ H z δ' v f->Q v f):Gen K H' (λa=>W3 c δ' a\/T a) z Q:=by
 obtain⟨d,b⟩:=z;have i: ∀{f:Hp},(∀a o,H' a=Y o->f a=Y o)-> ∀a,T a->Ow (f a):=λ{f} g a z=>(B.er.dom a<|B.tt a z).up<|g a
 cases b with
 |false=>intro w f g r;exact k w f ⟨B.keep.trans<|.ext g,B.er.mono (λb o e _=>g b o e) (λb _ z=>B.tt b z)<|i g,r⟩
 |true=>
  intro p f l g ok
  have j:H p=I:=by
   cases n:H p with
   |none=>rfl
   |some s=>exact absurd l<|B.keep.dm p (by rw[n];simp)
  refine k (.ref p) f ⟨B.keep.trans<|.ext g,p,rfl,j,B.er.mono (λb o e _=>g b o e) (λb q z=>z.elim (B.tt b) λz=>absurd (z▸l) q) λa z=>?_,ok.mono (λ_ _ e _=>e) (λb _ z=>?_) λ_ e=>e⟩
  .rcases z with z|z
   .exact i g a z
   .subst z;exact ok.ow
  .rcases z with z|z|z
   .exact aW (aW z)
   .exact aW (bB z)
   .exact bB z
def Gen.int(g:Gen K H O (.int i,C) Q):Q (.int i) H:=g _ H (λ_ _ e=>e) Rep.mkInt
def Gen.bl(g:Gen K H O (.bl i,C) Q):Q (.bl i) H:=g _ H (λ_ _ e=>e) Rep.Jl
def lL{H:Hp}{p:hJ}{o:HO}(b:H p=I): ∀a u,H a=Y u->upd H p o a=Y u:=λa u e=>by rw[iW (by intro z;subst z;rw[e] at b;cases b)];exact e
def Gen.lst{O:SI}{l:List D}{xs:List V}{p:hJ}(g:Gen K H O (.lst l,J) Q)(a:H p=I)(r:YP K H O l xs):Q (.ref p) (upd H p<|.lst xs):=
 g p _ a (lL a) ⟨xs,iQ,YP.mono (λb o e _=>lL a b o e) (λb d z=>z.elim id λz=>absurd (z▸a) d) r⟩
def Gen.tup(g:Gen K H O (.tup l,C) Q)(a:H p=I)(np: ¬O p)(r:YP K H O l xs):Q (.ref p) (upd H p<|.tup xs):=
 g _ _ (lL a) (Rep.JZ ⟨iQ,np⟩<|YP.mono (λb o e _=>lL a b o e) (λb d z=>z) r)
def Ops.np(B:Ops K T c δ H os vs δ' H' h)(a: ¬Ow (H' p)): ¬(W3 c δ' p\/T p):=λz=>a<|z.elim (λz=>B.er.JY z) λz=>B.er.dom p<|B.tt p z
end
def sy(g:D->Option (D×Bool))(a:FO):F:=λδ=>(a δ).bind λp=>(res p.2 p.1).bind λx=>(g x).bind λz=>Y (z,p.2)
def iF(g:D->D->Option (D×Bool))(a fb:FO):F:=λδ=>(a δ).bind λp=>(fb p.2).bind λq=>(res q.2 p.1).bind λx=>(res q.2 q.1).bind λy=>(g x y).bind λz=>Y (z,q.2)
noncomputable def kx:List FO->Dn->Option (List Ax×Dn)
 |[],a=>Y ([],a)
 |f::fs,a=>(f a).bind λp=>(kx fs p.2).bind λq=>Y (p.1::q.1,q.2)
def vO(a:Dn):List Ax->Option (List D)
 |[]=>Y []
 |o::os=>(res a o).bind λd=>(vO a os).bind λl=>Y (d::l)
def iO(g:List D->Option (D×Bool))(fs:List FO):F:=λδ=>(kx fs δ).bind λp=>(vO p.2 p.1).bind λds=>(g ds).bind λz=>Y (z,p.2)
def tA(K:iJ)(fs:List FO):TA:=λe U Q=> ∃b T os a,ER K U T e b/\kx fs b=Y (os,a)/\ ∀d c f,Ops K T e b U os d a c f->Q d c
section
variable {X:Cx}{e a b:iq}{m:kj}{i n:FO}{fs:List FO}{c:bq}
def hG{d g:Type}{x:Option d}{f:d->Option g}{b:g}(h:x.bind f=Y b): ∃a,x=Y a/\f a=Y b:=by
 cases x with
 |none=>cases h
 |some a=>exact⟨a,rfl,h⟩
def acC(K:iJ)(r:V->Hp->VK->Prop)(g:D->Option (D×Bool)):Prop:=
 ∀x z v U (O:SI) (Q:VK),(∀p,¬Ow (U p)-> ¬O p)->ky K U O x v->g x=Y z->Gen K U O z Q->r v U Q
def YD(K:iJ)(r:R2)(g:D->D->Option (D×Bool)):Prop:=
 ∀x y z v u U (O:SI) (Q:VK),(∀p,¬Ow (U p)-> ¬O p)->ky K U O x v->ky K U O y u->g x y=Y z->Gen K U O z Q->r v u U Q
def acB(K:iJ)(r:List V->Hp->VK->Prop)(g:List D->Option (D×Bool)):Prop:=
 ∀ds z f U (O:SI) (Q:VK),(∀p,¬Ow (U p)-> ¬O p)->Ls ds=Ls f->(∀(j:Nat) d v,ds[j]?=Y d->f[j]?=Y v->ky K U O d v)->g ds=Y z->Gen K U O z Q->r f U Q
def WV{r:V->Hp->VK->Prop}{g:D->Option (D×Bool)}(h:PE X e (tUn r<|tO X.K i))(u:acC X.K r g):PX X e (sy g i):=PX.imp h λN O Q w=>by obtain⟨y,T,U,A,E,e,k⟩:=w;obtain⟨⟨o,d⟩,h1,e⟩:=hG e;obtain⟨x,q,e⟩:=hG e;obtain⟨z,s,e⟩:=hG e;obtain⟨rfl,rfl⟩:=iP e;refine⟨y,T,o,d,E,h1,λv l f=>?_⟩;have B:=Ops.cons E f<|Ops.nil<|f.er E;exact u x z v l _ Q (λp t=>B.np t) (B.view (j:=0) H H q) s (B.done k)
def WU{r:R2}{g:D->D->Option (D×Bool)}(h:PE X e (Mi r (tO X.K i)<|tO X.K n))(L:YD X.K r g):PX X e (iF g i n):=PX.imp h λY H Q O=>by obtain⟨J,T,U,M,E,e,k⟩:=O;obtain⟨⟨o,d⟩,h1,e⟩:=hG e;obtain⟨⟨G,l⟩,t,e⟩:=hG e;obtain⟨x,w,e⟩:=hG e;obtain⟨y,A,e⟩:=hG e;obtain⟨z,C,e⟩:=hG e;obtain⟨rfl,rfl⟩:=iP e;refine⟨J,T,o,d,E,h1,λv N f=>⟨d,F1 T o v,G,l,f.er E,t,λu s q=>?_⟩⟩;have B:=Ops.cons E f<|Ops.cons (f.er E) q<|Ops.nil<|q.er<|f.er E;exact L x y z v u s _ Q (λp I=>B.np I) (B.view (j:=0) K3 K3 w) (B.view (j:=1) K3 K3 A) C (B.done k)
def Fb:PA X [] (tA X.K []):=λc d s g U Q O h=>by obtain⟨j,T,os,f,E,e,k⟩:=h;obtain⟨rfl,rfl⟩:=iP e;exact uy c d s g U Q O<|k [] U T<|Ops.nil E
def BG(t:PO X e i)(u:PA X m (tA X.K fs))(w:ag (e::m) X.env=(C,aQ e X.env)::ag m X.env):PA X (e::m) (tA X.K (i::fs)):=λc d s z O Q N h=>by obtain⟨x,T,os,y,E,e,k⟩:=h;unfold kx at e;obtain⟨⟨o,f⟩,h1,e⟩:=hG e;obtain⟨⟨g,j⟩,r,e⟩:=hG e;obtain⟨rfl,rfl⟩:=iP e;exact oY t u w c d s z O Q N ⟨x,T,o,f,E,h1,λv A l=>⟨f,F1 T o v,g,j,l.er E,r,λU p q B=>k _ p q (Ops.cons E l B)⟩⟩
def pP{k:Dn}: ∀{os:List Ax} {f:List D},vO k os=Y f->Ls f=os.length/\ ∀(j:Nat) d,f[j]?=Y d-> ∃o,os[j]?=Y o/\res k o=Y d:=by
 intro t
 induction t with
 |nil=>intro f h;cases h;exact⟨rfl,λj d h=>by simp at h⟩
 |cons o os s=>
  intro f h;unfold vO at h;obtain⟨d,h1,h⟩:=hG h;obtain⟨l,p,h⟩:=hG h;cases h;obtain⟨q,r⟩:=s p;refine⟨by simp[q],λj e g=>?_⟩
  cases j with
  |zero=>simp at g;subst g;exact⟨o,rfl,h1⟩
  |succ j=>obtain⟨u,v,w⟩:=r j e (by simpa using g);exact⟨u,by simpa using v,w⟩
def Te{r:List V->Hp->VK->Prop}{g:List D->Option (D×Bool)}(h:PE X e (OG r<|tA X.K fs))(U:acB X.K r g):PX X e (iO g fs):=PX.imp h λN H Q I=>by obtain⟨O,T,M,G,E,e,k⟩:=I;obtain⟨⟨os,l⟩,h1,e⟩:=hG e;obtain⟨s,t,e⟩:=hG e;obtain⟨z,u,e⟩:=hG e;obtain⟨rfl,rfl⟩:=iP e;obtain⟨w,x⟩:=pP t;refine⟨O,T,os,l,E,h1,λL q J B=>?_⟩;refine U s z L q _ Q (λp A=>B.np A) (w.trans B.len) (λj d v hd hv=>?_) u (B.done k);obtain⟨o,y,f⟩:=x j d hd;exact B.view y hv f
end
open PySem.SeqAt
mutual
noncomputable def D.O1:D->D->Bool
 | .T1,.T1=>J
 | .bl a,.bl b=>a==b
 | .bl a,.int b=>(if a then 1 else 0)==b
 | .int a,.bl b=>a==(if b then 1 else 0)
 | .int a,.int b=>a==b
 | .str a,.str b=>a==b
 | .tup l,.tup m=>D.BD l m
 | .lst l,.lst m=>D.BD l m
 | .R1 _ _ _,.R1 _ _ _=>J
 |_,_=>C
noncomputable def D.BD:List D->List D->Bool
 |[],[]=>J
 |a::l,b::m=>D.O1 a b&&D.BD l m
 |_,_=>C
end
mutual
noncomputable def D.dep:D->Nat
 | .tup l=>D.OO l+1
 | .lst l=>D.OO l+1
 | .R1 _ _ _=>20000
 |_=>0
noncomputable def D.OO:List D->Nat
 |[]=>0
 |d::l=>max (D.dep d)<|D.OO l
end
mutual
theorem D.C3: ∀d:D,D.O1 d d=J
 | .T1=>rfl
 | .bl a=>by simp[D.O1]
 | .int a=>by simp[D.O1]
 | .str a=>by simp[D.O1]
 | .tup l=>by rw[D.O1];exact D.Fo l
 | .lst l=>by rw[D.O1];exact D.Fo l
 | .R1 _ _ _=>by rw[D.O1]
theorem D.Fo: ∀l:List D,D.BD l l=J
 |[]=>rfl
 |d::l=>by rw[D.BD,D.C3 d,D.Fo l];rfl
end
theorem D.C9{d:D}: ∀{l:List D} {j:Nat},l[j]?=Y d->d.dep<=D.OO l
 |[],j,h=>by simp at h
 |e::l,0,h=>by simp at h;subst h;rw[D.OO];exact Nat.le_max_left _ _
 |e::l,j+1,h=>by rw[D.OO];exact kW (D.C9<|by simpa using h)<|Nat.le_max_right _ _
def uT(l m:List D)(j:Nat):Bool:=match l[j]?,m[j]? with
 |some d,Y e=>D.O1 d e
 |_,_=>J
theorem rF: ∀l m:List D,((am<|min (Ls l)<|Ls m).all (uT l m)&&(Ls l)==Ls m)=D.BD l m
 |[],[]=>rfl
 |[],e::m=>by simp[D.BD]
 |d::l,[]=>by simp[D.BD]
 |d::l,e::m=>by
  rw[D.BD,<-rF l m];simp only[kO,Nat.succ_min_succ,dk,zf,ze,sQ];have a:uT (d::l) (e::m) 0=D.O1 d e:=rfl;have h1:(λx=>uT (d::l) (e::m)<|Nat.succ x)=uT l m:=by funext x;simp[uT]
  rw[a];simp only[h1,fy]
  congr 2
  simp
section
variable {X:Cx}{pins:iX}{σ:L2.St}{H:Hp}{s:ie}
def lE(h:ky X.K H O (.tup l) v): ∃a b,v= .ref a/\Ff X.K H a b/\YP X.K H O l b:=by
 rcases h with h|⟨a,rfl,h⟩
 .obtain⟨a,b,e,q,r⟩:=h.tup;exact⟨a,b,e,q.sq,r⟩
 .exact h.elim
def kD(h:ky X.K H O (.lst l) v): ∃a b,v= .ref a/\FV X.K H a b/\YP X.K H O l b:=by
 rcases h with h|⟨a,rfl,h⟩
 .obtain⟨a,b,e,q,r⟩:=h.lst;exact⟨a,b,e,q.sq,r⟩
 .obtain⟨b,e,r⟩:=h;exact⟨a,b,rfl,.inl<|.inl e,r⟩
def YP.views{O:SI}{l:List D}{b:List V}(r:YP X.K H O l b){j:Nat}{d:D}{v:V}(h1:l[j]?=Y d)(c:b[j]?=Y v):Rep X.K H O d v:=by obtain⟨w,a,e⟩:=r.get h1;rw[c] at a;cases a;exact e
def PM(T:Inv X pins σ H s)(h:C8 X.K (H a) k l i us): ∃o,s.heap.get? a=Y o/\(o.cls= .type "dict"\/o.cls= .type "set"\/ ∃U,o.cls= .ref U):=by
 cases k with
 |dct=>
  rcases h with⟨b,e,_⟩|⟨b,e,_⟩
  .obtain⟨_,_,i,_,o,d,g,h1,c,_⟩:=(show T2 X.prog X.w H s.heap a (.dK b) from T.hok a _ e)
   exact⟨o,h1,.inl c.1⟩
  .obtain⟨_,_,m,_,o,d,g,h1,c,_⟩:=(show T2 X.prog X.w H s.heap a (.dT b) from T.hok a _ e)
   exact⟨o,h1,.inl c.1⟩
 |set=>
  obtain⟨_,j,e,_⟩:=h;obtain⟨d,n,t,h1,_⟩:=(show T2 X.prog X.w H s.heap a (.SS j) from T.hok a _ e)
  exact⟨_,h1,.inr<|.inl K3⟩
 |exc U=>
  obtain⟨_,o,e,h1,_⟩:=h;obtain⟨f,_⟩:=(show T2 X.prog X.w H s.heap a (.C7 o<|.own 0) from T.hok a _ e)
  exact⟨o,f,.inr<|.inr ⟨U,h1⟩⟩
 |_=>exact h.elim
def Gp(U:Inv X pins σ H s)(h1:Ff X.K H a xs)(f:FV X.K H a k):False:=by obtain⟨g,_,⟨o,e,c,_⟩,_⟩:=U.tuple h1;obtain⟨h,_,⟨j,i,d,b,_⟩,_⟩:=U.list f;rw[e] at d;cases d;rw[c] at b;exact absurd b (by simp)
def TL(T:Inv X pins σ H s)(h1:Ff X.K H a xs)(f:C8 X.K (H a) k h j us):False:=by obtain⟨g,_,⟨o,e,c,_⟩,_⟩:=T.tuple h1;obtain⟨i,d,b⟩:=PM T f;rw[e] at d;cases d;rw[c] at b;rcases b with b|b|⟨U,b⟩<;>exact absurd b (by simp)
def TM(T:Inv X pins σ H s)(h1:FV X.K H a xs)(f:C8 X.K (H a) k h j us):False:=by obtain⟨g,_,⟨o,n,e,c,_⟩,_⟩:=T.list h1;obtain⟨i,d,b⟩:=PM T f;rw[e] at d;cases d;rw[c] at b;rcases b with b|b|⟨U,b⟩<;>exact absurd b (by simp)
mutual
theorem Rep.inj(U:Inv X pins σ H s): ∀{d e:D} {v:V},d.dep<20000->Rep X.K H O d v->Rep X.K H u e v->d=e
 | .T1,e,v,i,h,c=>by
  have:=h.T1;subst this
  cases e with
  |T1=>rfl
  |bl b=>have:=c.bl;cases this
  |int b=>have:=c.int;cases this
  |str b=>have:=c.str;cases this
  |tup m=>obtain⟨a,f,z,_⟩:=c.tup;cases z
  |lst m=>obtain⟨a,f,z,_⟩:=c.lst;cases z
  |R1 m n o=>obtain⟨a,f,z,_⟩:=c.R1;cases z
 | .bl b,e,v,i,h,c=>by
  have:=h.bl;subst this
  cases e with
  |T1=>have:=c.T1;cases this
  |bl b=>have:=c.bl;cases this;rfl
  |int b=>have:=c.int;cases this
  |str b=>have:=c.str;cases this
  |tup m=>obtain⟨a,f,z,_⟩:=c.tup;cases z
  |lst m=>obtain⟨a,f,z,_⟩:=c.lst;cases z
  |R1 m n o=>obtain⟨a,f,z,_⟩:=c.R1;cases z
 | .int b,e,v,i,h,c=>by
  have:=h.int;subst this
  cases e with
  |T1=>have:=c.T1;cases this
  |bl b=>have:=c.bl;cases this
  |int b=>have:=c.int;cases this;rfl
  |str b=>have:=c.str;cases this
  |tup m=>obtain⟨a,f,z,_⟩:=c.tup;cases z
  |lst m=>obtain⟨a,f,z,_⟩:=c.lst;cases z
  |R1 m n o=>obtain⟨a,f,z,_⟩:=c.R1;cases z
 | .str b,e,v,i,h,c=>by
  have:=h.str;subst this
  cases e with
  |T1=>have:=c.T1;cases this
  |bl b=>have:=c.bl;cases this
  |int b=>have:=c.int;cases this
  |str b=>have:=c.str;cases this;rfl
  |tup m=>obtain⟨a,f,z,_⟩:=c.tup;cases z
  |lst m=>obtain⟨a,f,z,_⟩:=c.lst;cases z
  |R1 m n o=>obtain⟨a,f,z,_⟩:=c.R1;cases z
 | .tup l,e,v,i,h,c=>by
  rw[D.dep] at i;obtain⟨a,f,rfl,q,r⟩:=h.tup
  cases e with
  |T1=>have:=c.T1;cases this
  |bl b=>have:=c.bl;cases this
  |int b=>have:=c.int;cases this
  |str b=>have:=c.str;cases this
  |tup m=>obtain⟨k,p,z,g,j⟩:=c.tup;cases z;have:=U.Dl q.sq g.sq;subst this;rw[YP.inj U (by lia) r j]
  |lst m=>obtain⟨k,p,z,g,j⟩:=c.lst;cases z;exact(Gp U q.sq g.sq).elim
  |R1 m n o=>obtain⟨k,t,z,g,j⟩:=c.R1;cases z;exact(TL U q.sq g.2).elim
 | .lst l,e,v,i,h,c=>by
  rw[D.dep] at i;obtain⟨a,f,rfl,q,r⟩:=h.lst
  cases e with
  |T1=>have:=c.T1;cases this
  |bl b=>have:=c.bl;cases this
  |int b=>have:=c.int;cases this
  |str b=>have:=c.str;cases this
  |tup m=>obtain⟨k,p,z,g,j⟩:=c.tup;cases z;exact(Gp U g.sq q.sq).elim
  |lst m=>obtain⟨k,p,z,g,j⟩:=c.lst;cases z;have:=U.Ge q.sq g.sq;subst this;rw[YP.inj U (by lia) r j]
  |R1 m n o=>obtain⟨k,t,z,g,j⟩:=c.R1;cases z;exact(TM U q.sq g.2).elim
 | .R1 _ _ _,e,v,i,h,c=>by rw[D.dep] at i;lia
theorem YP.inj(U:Inv X pins σ H s){O b:SI}: ∀{l m:List D} {vs:List V},D.OO l<20000->YP X.K H O l vs->YP X.K H b m vs->l=m
 |[],m,vs,_,h,a=>by
  rw[YP] at h;subst h
  cases m with
  |nil=>rfl
  |cons e m=>rw[YP] at a;obtain⟨_,_,z,_⟩:=a;cases z
 |d::l,m,vs,i,h,a=>by
  rw[D.OO] at i;rw[YP] at h;obtain⟨v,r,rfl,h1,c⟩:=h
  cases m with
  |nil=>rw[YP] at a;cases a
  |cons e m=>rw[YP] at a;obtain⟨k,j,z,f,g⟩:=a;cases z;rw[Rep.inj U (by lia) h1 f,YP.inj U (by lia) c g]
end
def yw(h:ky X.K H O d v)(hd:d.dep=0)(nt: ∀l,d≠ .tup l)(b: ∀l,d≠ .lst l):Rep X.K H O d v:=by
 rcases h with h|⟨a,rfl,h⟩
 .exact h
 .cases d with
  |lst l=>exact absurd K3<|b l
  |R1 _ _ _=>rw[D.dep] at hd;lia
  |_=>exact h.elim
inductive Sh(X:Cx)(H:Hp)(s:ie)(O:SI):D->V->ir->Prop
 |T1:Sh X H s O .T1 .T1 .none
 |bl (b:Bool):Sh X H s O (.bl b) (.bl b) (.bool b)
 |int (i:Int) (t:pw):Sh X H s O (.int i) (.int i) (.int i t)
 |str (x:ay) (t:pw):Sh X H s O (.str x) (.str x) (.str x t)
 |tup {l:List D} {p:hJ} {xs:List V} {its:jr} (q:Ff X.K H p xs) (r:YP X.K H O l xs) (v:Vals xs its) (pl:lw s.heap p its.toArray):Sh X H s O (.tup l) (.ref p) (.ref p)
 |lst {l:List D} {p:hJ} {xs:List V} {its:jr} (q:FV X.K H p xs) (r:YP X.K H O l xs) (v:Vals xs its) (pl:s.heap.IsList p its.toArray):Sh X H s O (.lst l) (.ref p) (.ref p)
def AB(U:Inv X pins σ H s)(h:ky X.K H O d v)(b:RelV v a)(i:d.dep<20000):Sh X H s O d v a:=by
 cases d with
 |R1 m k n=>rw[D.dep] at i;omega
 |tup l=>obtain⟨p,j,rfl,q,r⟩:=lE h;cases b;obtain⟨e,g,f,_⟩:=U.tuple q;exact .tup q r g f
 |lst l=>obtain⟨p,j,rfl,q,r⟩:=kD h;cases b;obtain⟨e,g,f,_⟩:=U.list q;exact .lst q r g f.isList
 |T1=>have:=(yw h K3 (by simp)<|by simp).T1;subst this;cases b;exact .T1
 |bl c=>have:=(yw h K3 (by simp)<|by simp).bl;subst this;cases b;exact .bl c
 |int c=>have:=(yw h K3 (by simp)<|by simp).int;subst this;obtain⟨t,rfl⟩:=b;exact .int c t
 |str c=>have:=(yw h K3 (by simp)<|by simp).str;subst this;obtain⟨t,rfl⟩:=b;exact .str c t
def DY(I:Inv X pins σ H s)(n:Nat)
  (ih: ∀(d e:D) (v u:V) (a b:ir) (O Y:SI) (A:iE),ky X.K H O d v->ky X.K H Y e u->RelV v a->RelV u b->d.dep+1<=n->e.dep<20000->A.units+n<aS+1->EqAt A s a b (D.O1 d e)):
  ∀(d e:D) (v u:V) (a b:ir) (O Y:SI) (A:iE),ky X.K H O d v->ky X.K H Y e u->RelV v a->RelV u b->d.dep<=n->e.dep<20000->A.units+n<aS->EqAt A s a b (D.O1 d e):=by
 intro d e v u a b O Y A hd he o t M t9 hA;have h:A.units<cLine:=by lia
 have l9:aS=9900:=rfl
 have items: ∀(l m:List D) (Q T:List V) (c C':jr) (R S:SI),D.OO l+1<=n->D.OO m<20000->YP X.K H R l Q->YP X.K H S m T->Vals Q c->Vals T C'->
   ∀j (h1:j<c.toArray.size) (L:j<C'.toArray.size),EqAt A.in1 s c.toArray[j] C'.toArray[j] (uT l m j):=λl m Q T c C' R S F P r1 i J' k j h1 L=>by
  have e1:=J'.length;have e2:=k.length;have e3:=r1.length;have e4:=i.length;simp only[jq] at h1 L;have hx:Q[j]?=J4 Q[j]:=jg (by lia);have hy:T[j]?=J4 T[j]:=jg (by lia);have Z:l[j]?=J4 l[j]:=jg (by lia);have W:m[j]?=J4 m[j]:=jg (by lia);obtain⟨w,w1,w2⟩:=J'.get hx;obtain⟨w',w3,w4⟩:=k.get hy
  have i1:c.toArray[j]=w:=by have:c[j]?=J4 c[j]:=jg (by lia);rw[this] at w1;simpa using w1
  have i2:C'.toArray[j]=w':=by have:C'[j]?=J4 C'[j]:=jg (by lia);rw[this] at w3;simpa using w3
  rw[i1,i2];have hj:uT l m j=D.O1 l[j] m[j]:=by unfold uT;rw[Z,W]
  rw[hj];have ae:=D.C9 Z;have hdep2:=D.C9 W;exact ih _ _ _ _ _ _ R S A.in1 (.inl<|r1.views Z hx) (.inl<|i.views W hy) w2 w4 (by lia) (by lia) (by show A.units+1+n<aS+1;lia)
 have h1:=AB I hd o (by lia);have L:=AB I he t t9
 cases h1 with
 |T1=>
  cases L with
  |T1=>exact my o t K3 K3
  |bl g=>exact my o t K3 K3
  |int g x=>exact my o t K3 K3
  |str g x=>exact my o t K3 K3
  |tup B i k f=>exact EqAt.none_tuple f h
  |lst B i k f=>exact EqAt.none_list f h
 |bl G=>
  cases L with
  |T1=>exact my o t K3 K3
  |bl g=>exact my o t K3 K3
  |int g x=>exact my o t K3 K3
  |str g x=>exact my o t K3 K3
  |tup B i k f=>exact EqAt.bool_tuple G f h
  |lst B i k f=>exact EqAt.bool_list G f h
 |int G U=>
  cases L with
  |T1=>exact my o t K3 K3
  |bl g=>exact my o t K3 K3
  |int g x=>exact my o t K3 K3
  |str g x=>exact my o t K3 K3
  |tup B i k f=>exact EqAt.int_tuple G U f h
  |lst B i k f=>exact EqAt.int_list G U f h
 |str G U=>
  cases L with
  |T1=>exact my o t K3 K3
  |bl g=>exact my o t K3 K3
  |int g x=>exact my o t K3 K3
  |str g x=>exact my o t K3 K3
  |tup B i k f=>exact EqAt.str_tuple G U f h
  |lst B i k f=>exact EqAt.str_list G U f h
 | @tup l p Q c q r J' y=>
  cases L with
  |T1=>exact EqAt.tuple_none y h
  |bl g=>exact EqAt.tuple_bool g y h
  |int g x=>exact EqAt.tuple_int g x y h
  |str g x=>exact EqAt.tuple_str g x y h
  | @tup m p2 T C' B i k f=>
   by_cases N:p=p2
   .subst N;have:=I.Dl q B;subst this;rw[YP.inj I (by rw[D.dep] at M;lia) r i,D.C3];exact fQ _
   .refine .of_refs N ?_;have F:D.OO l+1<=n:=by rw[D.dep] at M;exact M
    have P:D.OO m<20000:=by rw[D.dep] at t9;lia
    have z:=RcAt.tuples y f h<|items l m Q T c C' _ _ F P r i J' k;have e1:=J'.length;have e2:=k.length;have e3:=r.length;have e4:=i.length;simp only[jq] at z;rw[show c.length=l.length by lia,show C'.length=m.length by lia,rF] at z;rw[D.O1];exact z
  |lst B i k f=>exact EqAt.tuple_list y f h
 | @lst l p Q c q r J' y=>
  cases L with
  |T1=>exact EqAt.list_none y h
  |bl g=>exact EqAt.list_bool g y h
  |int g x=>exact EqAt.list_int g x y h
  |str g x=>exact EqAt.list_str g x y h
  |tup B i k f=>exact EqAt.list_tuple y f h
  | @lst m p2 T C' B i k f=>
   by_cases N:p=p2
   .subst N;have:=I.Ge q B;subst this;rw[YP.inj I (by rw[D.dep] at M;lia) r i,D.C3];exact fQ _
   .refine .of_refs N ?_;have F:D.OO l+1<=n:=by rw[D.dep] at M;exact M
    have P:D.OO m<20000:=by rw[D.dep] at t9;lia
    have e1:=J'.length;have e2:=k.length;have e3:=r.length;have e4:=i.length;have al:=rF l m;by_cases E:l.length=m.length
    .have z:=RcAt.lists y f (by simp only[jq];lia) h<|items l m Q T c C' _ _ F P r i J' k;simp only[jq] at z;rw[show c.length=min l.length m.length by lia] at z;rw[D.O1,<-al,E];rw[E] at z;simpa using z
    .have z:=RcAt.lists_lengths y f (by simp only[jq,bne_iff_ne,ne_eq];lia) h;rw[D.O1,<-al];rw[show(l.length==m.length)=C by simpa using E];simpa using z
def Cr(U:Inv X pins σ H s): ∀(n:Nat) (d e:D) (v u:V) (a b:ir) (O c:SI) (A:iE),ky X.K H O d v->ky X.K H c e u->RelV v a->RelV u b->d.dep<=n->e.dep<20000->A.units+n<aS->EqAt A s a b (D.O1 d e):=by
 intro n
 induction n with
 |zero=>intro d e v u a b O c A hd f h i g j k;exact DY U 0 (λd e v u a b O c A hd f h i g j k=>absurd g<|by lia) d e v u a b O c A hd f h i g j k
 |succ n l=>intro d e v u a b O c A hd f h i g j k;exact DY U (n+1) (λd e v u a b O c A hd f h i g j k=>l d e v u a b O c A hd f h i (by lia) j<|by lia) d e v u a b O c A hd f h i g j k
end
section
variable {X:Cx}{c:iX}{f:L2.St}{H:Hp}{s:ie}
def Rk(I:Inv X c f H s){A:iE}{n:Nat}(U:A.units+n<aS): ∀(l m:List D) (d e:List V) (a b:jr) (g h:SI),D.OO l+1<=n->D.OO m<20000->YP X.K H g l d->YP X.K H h m e->Vals d a->Vals e b->
   ∀j (h1:j<a.toArray.size) (p:j<b.toArray.size),EqAt A.in1 s a.toArray[j] b.toArray[j] (uT l m j):=λl m d e a b g h Y F t u v x j h1 p=>by
 have G:=v.length;have J:=x.length;have M:=t.length;have N:=u.length;simp only[jq] at h1 p;have q:d[j]?=J4 d[j]:=jg (by omega);have r:e[j]?=J4 e[j]:=jg (by omega);have k:l[j]?=J4 l[j]:=jg (by omega);have i:m[j]?=J4 m[j]:=jg (by omega);obtain⟨w,y,O⟩:=v.get q;obtain⟨L,z,Q⟩:=x.get r
 have C:a.toArray[j]=w:=by have:a[j]?=J4 a[j]:=jg (by omega);rw[this] at y;simpa using y
 have E:b.toArray[j]=L:=by have:b[j]?=J4 b[j]:=jg (by omega);rw[this] at z;simpa using z
 rw[C,E];have B:uT l m j=D.O1 l[j] m[j]:=by unfold uT;rw[k,i]
 rw[B];have T:=D.C9 k;have o:=D.C9 i;exact Cr I (n-1) _ _ _ _ _ _ g h A.in1 (.inl<|t.views k q) (.inl<|u.views i r) O Q (by omega) (by omega) (by show A.units+1+(n-1)<aS;omega)
def Vg(I:Inv X c f H s)(hd:ky X.K H O d v)(he:ky X.K H O' e u)(ra:RelV v a)(rb:RelV u b)(G:d.dep<=n)(N:e.dep<20000)(hA:A.units+n<aS):RcAt A s a b (D.O1 d e)/\RcNeAt A s a b (!D.O1 d e):=by
 have h:A.units<cLine:=by lia
 have items:=Rk I hA;have W:aS=9900:=rfl;have h1:=AB I hd ra (by lia);have Q:=AB I he rb N
 cases h1 with
 |T1=>
  cases Q with
  |T1=>exact⟨RcAt.none_none,RcNeAt.none_none⟩
  |bl g=>exact⟨RcAt.none_bool g,RcNeAt.none_bool g⟩
  |int g k=>exact⟨RcAt.none_int g k,RcNeAt.none_int g k⟩
  |str g k=>exact⟨RcAt.none_str g k,RcNeAt.none_str g k⟩
  |tup E y B j=>exact⟨RcAt.none_tuple j h,RcNeAt.none_tuple j h⟩
  |lst E y B j=>exact⟨RcAt.none_list j h,RcNeAt.none_list j h⟩
 |bl i=>
  cases Q with
  |T1=>exact⟨RcAt.bool_none i,RcNeAt.bool_none i⟩
  |bl g=>exact⟨RcAt.bool_bool i g,RcNeAt.bool_bool i g⟩
  |int g k=>exact⟨RcAt.bool_int i g k,RcNeAt.bool_int i g k⟩
  |str g k=>exact⟨RcAt.bool_str i g k,RcNeAt.bool_str i g k⟩
  |tup E y B j=>exact⟨RcAt.bool_tuple i j h,RcNeAt.bool_tuple i j h⟩
  |lst E y B j=>exact⟨RcAt.bool_list i j h,RcNeAt.bool_list i j h⟩
 |int i t=>
  cases Q with
  |T1=>exact⟨RcAt.int_none i t,RcNeAt.int_none i t⟩
  |bl g=>exact⟨RcAt.int_bool i t g,RcNeAt.int_bool i t g⟩
  |int g k=>exact⟨RcAt.int_int i t g k,RcNeAt.int_int i t g k⟩
  |str g k=>exact⟨RcAt.int_str i t g k,RcNeAt.int_str i t g k⟩
  |tup E y B j=>exact⟨RcAt.int_tuple i t j h,RcNeAt.int_tuple i t j h⟩
  |lst E y B j=>exact⟨RcAt.int_list i t j h,RcNeAt.int_list i t j h⟩
 |str i t=>
  cases Q with
  |T1=>exact⟨RcAt.str_none i t,RcNeAt.str_none i t⟩
  |bl g=>exact⟨RcAt.str_bool i t g,RcNeAt.str_bool i t g⟩
  |int g k=>exact⟨RcAt.str_int i t g k,RcNeAt.str_int i t g k⟩
  |str g k=>exact⟨RcAt.str_str i t g k,RcNeAt.str_str i t g k⟩
  |tup E y B j=>exact⟨RcAt.str_tuple i t j h,RcNeAt.str_tuple i t j h⟩
  |lst E y B j=>exact⟨RcAt.str_list i t j h,RcNeAt.str_list i t j h⟩
 | @tup l p U x q r T o=>
  cases Q with
  |T1=>exact⟨RcAt.tuple_none o h,RcNeAt.tuple_none o h⟩
  |bl g=>exact⟨RcAt.tuple_bool g o h,RcNeAt.tuple_bool g o h⟩
  |int g k=>exact⟨RcAt.tuple_int g k o h,RcNeAt.tuple_int g k o h⟩
  |str g k=>exact⟨RcAt.tuple_str g k o h,RcNeAt.tuple_str g k o h⟩
  | @tup m p2 Y' L E y B j=>
   have J:D.OO l+1<=n:=by rw[D.dep] at G;exact G
   have M:D.OO m<20000:=by rw[D.dep] at N;lia
   have P:=T.length;have R:=B.length;have S:=r.length;have V:=y.length;have w:=items l m U Y' x L _ _ J M r y T B;have z:=eh (RcAt.tuples o j h w)<|RcNeAt.tuples o j h w;simp only[jq] at z;rw[show x.length=l.length by lia,show L.length=m.length by lia,rF] at z;rw[D.O1];exact z
  |lst E y B j=>exact⟨RcAt.tuple_list o j h,RcNeAt.tuple_list o j h⟩
 | @lst l p U x q r T o=>
  cases Q with
  |T1=>exact⟨RcAt.list_none o h,RcNeAt.list_none o h⟩
  |bl g=>exact⟨RcAt.list_bool g o h,RcNeAt.list_bool g o h⟩
  |int g k=>exact⟨RcAt.list_int g k o h,RcNeAt.list_int g k o h⟩
  |str g k=>exact⟨RcAt.list_str g k o h,RcNeAt.list_str g k o h⟩
  |tup E y B j=>exact⟨RcAt.list_tuple o j h,RcNeAt.list_tuple o j h⟩
  | @lst m p2 Y' L E y B j=>
   have J:D.OO l+1<=n:=by rw[D.dep] at G;exact G
   have M:D.OO m<20000:=by rw[D.dep] at N;lia
   have P:=T.length;have R:=B.length;have S:=r.length;have V:=y.length;have F:=rF l m;by_cases C:l.length=m.length
   .have w:=items l m U Y' x L _ _ J M r y T B;have q:x.toArray.size=L.toArray.size:=by simp only[jq];lia
    have z:=eh (RcAt.lists o j q h w)<|RcNeAt.lists o j q h w;simp only[jq] at z;rw[show x.length=min l.length m.length by lia] at z;rw[D.O1,<-F,C];rw[C] at z;simpa using z
   .have q:(x.toArray.size !=L.toArray.size)=K0:=by simp only[jq,bne_iff_ne,ne_eq];lia
    have z:=eh (RcAt.lists_lengths o j q h)<|RcNeAt.lists_lengths o j q h;rw[D.O1,<-F];rw[show(l.length==m.length)=K2 by simpa using C];simpa using z
def Xu(j:X.A.units+60<aS):BO X (aA .Eq) (λx y H Q=> ∃O d e,ky X.K H O d x/\ky X.K H O e y/\(d.dep<=50/\e.dep<=50)/\Q (.bl<|D.O1 d e) H):=by intro c s f H x y v u Q U g i h;obtain⟨O,d,e,h1,a,b,q⟩:=h;exact(Vg (A:=X.A) U h1 a g i b.1 (by lia)<|by lia).1 _ _ _ _ ⟨.bl _,H,U,rfl,q⟩
def Xq(j:X.A.units+60<aS):BO X (aA .NotEq) (λx y H Q=> ∃O d e,ky X.K H O d x/\ky X.K H O e y/\(d.dep<=50/\e.dep<=50)/\Q (.bl (!D.O1 d e)) H):=by intro c s f H x y v u Q U g i h;obtain⟨O,d,e,h1,a,b,q⟩:=h;exact(Vg (A:=X.A) U h1 a g i b.1 (by lia)<|by lia).2 _ _ _ _ ⟨.bl _,H,U,rfl,q⟩
end
def iR{e:Type}{c:Prop}[Decidable c]{a b:e}(h:(if c then Y a else I)=Y b):c/\a=b:=by
 split at h
 .rename_i d;exact⟨d,kz h⟩
 .cases h
section
variable {X:Cx}{c:iX}{f:L2.St}{H:Hp}{s:ie}
def Fq(I:Inv X c f H s){A:iE}{l:List D}{o:List V}{a:jr}{O C:SI}{b:D}{Q:V}{x:ir}(r:YP X.K H O l o)(v:Vals o a)(hx:ky X.K H C b Q)(rx:RelV Q x)(hn:D.OO l<=50)(hxn:b.dep<=50)(hA:A.units+60<aS):
  ∃e:ir->Bool,(∀y∈a,EqAt A.in1 s y x<|e y)/\a.any e=l.any λd=>D.O1 d b:=by
 let e:ir->Bool:=λy=>match(a.zip l).find? (λp=>p.1==y) with
  |some p=>D.O1 p.2 b
  |none=>K2
 have S:=v.length;have W:=r.length
 have key: ∀(j:Nat) (g:j<a.length) (h:j<l.length),e a[j]=D.O1 l[j] b:=λj g h=>by
  show(match(a.zip l).find? (λp=>p.1==a[j]) with|some p=>D.O1 p.2 b|none=>K2)=_
  cases t:(a.zip l).find? (λp=>p.1==a[j]) with
  |none=>
   have:=List.find?_eq_none.mp t (a[j],l[j]) (by
    have:(a.zip l)[j]?=J4 (a[j],l[j]):=by simp[F6,jg g,jg h]
    exact mq this)
   simp at this
  |some p=>
   have Y:=List.find?_some t;have U:=List.mem_of_find?_eq_some t;obtain⟨i,L⟩:=sP U;obtain⟨P,p2⟩:=p;rw[F6] at L;have J:P=a[j]:=vZ Y;obtain⟨h1,k⟩:=L;have E:i<o.length:=by have:=(wa.mp h1).1;lia
   obtain⟨w,n,B⟩:=v.get<|jg E;have q:j<o.length:=by lia
   obtain⟨w',T,R⟩:=v.get<|jg q;rw[h1] at n;cases n;rw[jg g] at T;cases T;subst J;have hv:=B.inj R;have a1:=r.views k<|jg E;have G:=r.views (jg h)<|jg q;rw[hv] at a1;have Z:=D.C9 k;have:=Rep.inj I (by lia) a1 G;exact mC (λz=>D.O1 z b) this
 refine⟨e,λy F=>?_,?_⟩
 .obtain⟨j,g⟩:=sP F;have u:=(wa.mp g).1;have q:=(wa.mp g).2;have h:j<l.length:=by lia
  have m:j<o.length:=by lia
  obtain⟨w,n,B⟩:=v.get<|jg m;rw[g] at n;cases n;have hk:=key j u h;rw[q] at hk;rw[hk];have hd:=D.C9<|jg h;exact Cr I 50 _ _ _ _ _ _ O C A.in1 (.inl<|r.views (jg h)<|jg m) hx B rx (by lia) (by lia) (by show A.units+1+50<aS;lia)
 .have:a.map e=l.map λd=>D.O1 d b:=by
   apply A9
   .simp;lia
   .intro j h1 k;simp only[jf] at h1 k;simp only[A8];exact key j h1 k
  have M:a.any e=(a.map e).any id:=by rw[wR];rfl
  have N:(l.any λd=>D.O1 d b)=(l.map λd=>D.O1 d b).any id:=by rw[wR];rfl
  rw[M,N,this]
def inD(x:D):D->Option Bool
 | .tup l=>if D.OO l<=50/\x.dep<=50 then Y (l.any λd=>D.O1 d x) else I
 | .lst l=>if D.OO l<=50/\x.dep<=50 then Y (l.any λd=>D.O1 d x) else I
 |_=>I
def Xt(B:X.A.units+60<aS):BO X (aA .In) (λx y H Q=> ∃O d e b,ky X.K H O d x/\ky X.K H O e y/\inD d e=Y b/\Q (.bl b) H):=by
 intro c s f H x y v u Q T U E h;obtain⟨O,d,e,b,h1,z,j,q⟩:=h
 cases e with
 |tup l=>
  obtain⟨i,rfl⟩:=iR j
  .skip
   obtain⟨a,L,rfl,n,r⟩:=lE z;cases E;obtain⟨g,t,p,_⟩:=T.tuple n;obtain⟨e,m,k⟩:=Fq (A:=X.A) T r t h1 U i.1 i.2 B;refine in_tupleAt e p (λw o=>m w<|by simpa using o) ⟨.bl _,H,T,rfl,?_⟩;rw[show g.toArray.any e=g.any e by simp,k];exact q
 |lst l=>
  obtain⟨i,rfl⟩:=iR j
  .skip
   obtain⟨a,L,rfl,n,r⟩:=kD z;cases E;obtain⟨g,t,p,_⟩:=T.list n;obtain⟨e,m,k⟩:=Fq (A:=X.A) T r t h1 U i.1 i.2 B;refine in_listAt e p.isList (λw o=>m w<|by simpa using o) ⟨.bl _,H,T,rfl,?_⟩;rw[show g.toArray.any e=g.any e by simp,k];exact q
 |_=>cases j
def DG(B:X.A.units+60<aS):BO X (aA .NotIn) (λx y H Q=> ∃O d e b,ky X.K H O d x/\ky X.K H O e y/\inD d e=Y b/\Q (.bl (!b)) H):=by
 intro c s f H x y v u Q T U E h;obtain⟨O,d,e,b,h1,z,j,q⟩:=h
 cases e with
 |tup l=>
  obtain⟨i,rfl⟩:=iR j
  .skip
   obtain⟨a,L,rfl,n,r⟩:=lE z;cases E;obtain⟨g,t,p,_⟩:=T.tuple n;obtain⟨e,m,k⟩:=Fq (A:=X.A) T r t h1 U i.1 i.2 B;refine notIn_tupleAt e p (λw o=>m w<|by simpa using o) ⟨.bl _,H,T,rfl,?_⟩;rw[show g.toArray.any e=g.any e by simp,k];exact q
 |lst l=>
  obtain⟨i,rfl⟩:=iR j
  .skip
   obtain⟨a,L,rfl,n,r⟩:=kD z;cases E;obtain⟨g,t,p,_⟩:=T.list n;obtain⟨e,m,k⟩:=Fq (A:=X.A) T r t h1 U i.1 i.2 B;refine notIn_listAt e p.isList (λw o=>m w<|by simpa using o) ⟨.bl _,H,T,rfl,?_⟩;rw[show g.toArray.any e=g.any e by simp,k];exact q
 |_=>cases j
end
def rD1(K:iJ)(g:D->Option (D×Bool)):V->Hp->VK->Prop:=λx U Q=> ∃(O:SI) (d:D) (z:D×Bool),(∀p,¬Ow (U p)-> ¬O p)/\ky K U O d x/\g d=Y z/\Gen K U O z Q
def rD(K:iJ)(g:D->D->Option (D×Bool)):R2:=λx y U Q=> ∃(O:SI) (d e:D) (z:D×Bool),(∀p,¬Ow (U p)-> ¬O p)/\ky K U O d x/\ky K U O e y/\g d e=Y z/\Gen K U O z Q
def GR(K:iJ)(g:List D->Option (D×Bool)):List V->Hp->VK->Prop:=λb U Q=> ∃(O:SI) (a:List D) (z:D×Bool),(∀p,¬Ow (U p)-> ¬O p)/\(Ls a)=Ls b/\(∀(j:Nat) d v,a[j]?=Y d->b[j]?=Y v->ky K U O d v)/\g a=Y z/\Gen K U O z Q
section
variable {X:Cx}{e a b:iq}{c fb:FO}{fs:List FO}{k:bq}
def px1(h:PE X e (tUn (rD1 X.K g)<|tO X.K c)):PX X e (sy g c):=WV h λx z v U O Q np f d G=>⟨O,x,z,np,f,d,G⟩
def px2(h:PE X e (Mi (rD X.K g) (tO X.K c)<|tO X.K fb)):PX X e (iF g c fb):=WU h λx y z v u U O Q np f i d G=>⟨O,x,y,z,np,f,i,d,G⟩
def pxn(h:PE X e (OG (GR X.K g)<|tA X.K fs)):PX X e (iO g fs):=Te h λd z j U O Q np i hv f G=>⟨O,d,z,np,i,hv,f,G⟩
def jd{K U}{O:SI}{i:Int}{v:V}(h:ky K U O (.int i) v):v= .int i:=h.elim (λh=>h.int) λ⟨_,_,h⟩=>h.elim
def Kc{K U}(h:ky K U O (.bl i) v):v= .bl i:=h.elim (λh=>h.bl) λ⟨_,_,h⟩=>h.elim
def Bo{K U}(h:ky K U O (.str i) v):v= .str i:=h.elim (λh=>h.str) λ⟨_,_,h⟩=>h.elim
def afO{K U}(h:ky K U O .T1 v):v= .T1:=h.elim (λh=>h.T1) λ⟨_,_,h⟩=>h.elim
def Gen.str{K U}(g:Gen K U O (.str i,C) Q):Q (.str i) U:=g _ U (λ_ _ e=>e) Rep.mkStr
noncomputable def gI(f:Int->Int->Option D):D->D->Option (D×Bool)
 | .int i,.int j=>(f i j).map λz=>(z,C)
 |_,_=>I
def AJ{f:Int->Int->Option D}{d e:D}{z:D×Bool}(h:gI f d e=Y z): ∃i j y,d= .int i/\e= .int j/\f i j=Y y/\z=(y,C):=by
 cases d with
 |int i=>
  cases e with
  |int j=>
   cases g:f i j with
   |none=>simp only[gI,g] at h;cases h
   |some y=>simp only[gI,g] at h;cases h;exact⟨i,j,y,rfl,rfl,g,rfl⟩
  |_=>cases h
 |_=>cases h
def vp{f:zW}{U:Int->Int->Prop}[∀i j,Decidable<|U i j]{g:Int->Int->Int}(q:BO X f (rI U λi j=> .int (g i j))):BO X f (rD X.K (gI λi j=>if U i j then Y (.int<|g i j) else I)):=by intro l s A T x y v u Q N r t h;obtain⟨O,d,e,z,np,h1,m,p,G⟩:=h;obtain⟨i,j,w,rfl,rfl,o,rfl⟩:=AJ p;obtain⟨n,rfl⟩:=iR o;exact q l s A T x y v u Q N r t ⟨i,j,jd h1,jd m,n,G.int⟩
def GF{f:zW}{g:Int->Int->Int}(p:BO X f (Jy λi j=> .int (g i j))):BO X f (rD X.K<|gI λi j=>Y<|.int<|g i j):=by intro l s t U x y v u Q T q r h;obtain⟨O,d,e,z,np,h1,m,o,G⟩:=h;obtain⟨i,j,w,rfl,rfl,n,rfl⟩:=AJ o;cases n;exact p l s t U x y v u Q T q r ⟨i,j,jd h1,jd m,G.int⟩
instance(i j:Int):Decidable (Dk i j):=by unfold Dk;exact inferInstance
instance(i j:Int):Decidable (M1 i j):=by unfold M1;exact inferInstance
instance(i j:Int):Decidable (yP i j):=by unfold yP;exact inferInstance
def JA:=gI λi j=>Y<|.int<|i-j
def oJ:=gI λi j=>if Dk i j then Y (.int<|i*j) else I
def Q3:=gI λi j=>if M1 i j then Y (.int<|i / j) else I
def Dd:=gI λi j=>if 0<j then Y (.int<|i%j) else I
def QV:=gI λi j=>if yP i j then Y (.int<|i^j.toNat) else I
def qt:BO X (aU .Sub) (rD X.K JA):=GF Xm
def ni:BO X (aU .Mult) (rD X.K oJ):=vp Xr
def KG:BO X (aU .FloorDiv) (rD X.K Q3):=vp TV
def vo:BO X (aU .Mod) (rD X.K Dd):=vp Xs
def KD:BO X (aU .Pow) (rD X.K QV):=vp Xp
noncomputable def uK:D->D->Option (D×Bool)
 | .int i,.int j=>Y (.int<|i+j,C)
 | .str i,.str j=>if i.length+j.length<=sizeLine then Y (.str<|i++j,C) else I
 | .tup l,.tup m=>if l.length+m.length<=sizeLine then Y (.tup<|l++m,C) else I
 | .lst l,.lst m=>if l.length+m.length<=sizeLine then Y (.lst<|l++m,J) else I
 |_,_=>I
def ma:BO X (aU .Add) (rD X.K uK):=by
 intro o s σ H x y v u Q I T J h;obtain⟨O,d,e,z,np,h1,N,q,G⟩:=h
 cases d with
 |int i=>
  cases e with
  |int j=>cases q;exact Xw o s σ H x y v u Q I T J ⟨i,j,jd h1,jd N,G.int⟩
  |_=>cases q
 |str i=>
  cases e with
  |str j=>obtain⟨hc,rfl⟩:=iR q;exact aeF o s σ H x y v u Q I T J ⟨i,j,Bo h1,Bo N,hc,G.str⟩
  |_=>cases q
 |tup l=>
  cases e with
  |tup m=>
   obtain⟨hc,rfl⟩:=iR q;have k1:Rep X.K H O (.tup l) x:=h1.elim id λ⟨_,_,z⟩=>z.elim;have k2:Rep X.K H O (.tup m) y:=N.elim id λ⟨_,_,z⟩=>z.elim;obtain⟨U,xs,rfl,Y,E⟩:=k1.tup;obtain⟨C,ys,rfl,D,L⟩:=k2.tup;have l1:=E.length;have l2:=L.length;by_cases hx:xs=[]
   .subst hx;have:l=[]:=by simpa using l1.symm
    subst this;cases T;cases J;obtain⟨g,P,W,_⟩:=I.tuple Y.sq;obtain⟨r,v2,Z,_⟩:=I.tuple D.sq;have e1:g=[]:=by have:=P.length;simpa using this.symm
    subst e1;obtain⟨⟨V,dd,t,sl⟩,w,B,n,hd⟩:=id W;obtain⟨⟨cC,S,data2,R⟩,M,A,n2,f⟩:=id Z;simp only at B hd A f;subst B hd A f
    refine EG ⟨_,w,rfl⟩ ⟨_,M,rfl⟩ Iz Iy Iw Iv (Iu _ _)
     (tuple_addW0 U C #[] r.toArray n n2 dd S sl R (by simp)) ⟨w,M,⟨.ref C,H,I,rfl,?_⟩⟩
    exact G _ H (λ_ _ e=>e) (by simpa using k2)
   .refine TX o s σ H _ _ v u Q I T J ⟨U,C,xs,ys,rfl,rfl,Y.sq,D.sq,hx,by lia,λhy=>?_,λhy p hp=>?_⟩
    .subst hy;have:m=[]:=by simpa using l2.symm
     subst this;exact G _ H (λ_ _ e=>e) (by simpa using k1)
    .exact G.tup hp (np p<|OP hp) (E.append L)
  |_=>cases q
 |lst l=>
  cases e with
  |lst m=>
   obtain⟨hc,rfl⟩:=iR q;obtain⟨U,xs,rfl,Y,E⟩:=kD h1;obtain⟨C,ys,rfl,D,L⟩:=kD N;have l1:=E.length;have l2:=L.length;cases T;cases J;obtain⟨g,P,W,_⟩:=I.list Y;obtain⟨r,v2,Z,_⟩:=I.list D;have e1:=P.length;have e2:=v2.length;obtain⟨⟨V,dd,t,sl⟩,w,B,n,hd⟩:=id W.isList;obtain⟨⟨cC,S,data2,R⟩,M,A,n2,f⟩:=id Z.isList;simp only at B hd A f;subst B hd A f
   refine EG ⟨_,w,rfl⟩ ⟨_,M,rfl⟩ noFill_list_add seq_list_add PySem.F.slot_list_add PySem.F.entry_list_add (PySem.F.args_list_add_2 _ _)
    (list_addW U C g.toArray r.toArray n n2 dd S sl R<|by simp only[jq];lia) ⟨w,M,?_⟩
   rw[show g.toArray++r.toArray=(g++r).toArray by simp];exact⟨.ref _,_,I.ML (t':=s.toks) (P.append v2)<|by rw[mX];lia,rfl,G.lst I.fresh<|E.append L⟩
  |_=>cases q
 |_=>cases q
def EV(d e:D):Option (D×Bool):=if d.dep<=50/\e.dep<=50 then Y (.bl<|D.O1 d e,C) else I
def JE(d e:D):Option (D×Bool):=if d.dep<=50/\e.dep<=50 then Y (.bl (!D.O1 d e),C) else I
def MZ(d e:D):Option (D×Bool):=(inD d e).map λb=>(.bl b,C)
def mP(d e:D):Option (D×Bool):=(inD d e).map λb=>(.bl (!b),C)
def oH(l:X.A.units+60<aS):BO X (aA .Eq) (rD X.K EV):=by intro f s o U x y v u Q T m n h;obtain⟨O,d,e,z,np,h1,g,j,G⟩:=h;obtain⟨i,rfl⟩:=iR j;exact Xu l f s o U x y v u Q T m n ⟨O,d,e,h1,g,i,G.bl⟩
def uz(l:X.A.units+60<aS):BO X (aA .NotEq) (rD X.K JE):=by intro f s o U x y v u Q T m n h;obtain⟨O,d,e,z,np,h1,g,j,G⟩:=h;obtain⟨i,rfl⟩:=iR j;exact Xq l f s o U x y v u Q T m n ⟨O,d,e,h1,g,i,G.bl⟩
def ja{d g:Type}{x:Option d}{f:d->g}{b:g}(h:x.map f=Y b): ∃a,x=Y a/\f a=b:=by
 cases x with
 |none=>cases h
 |some a=>exact⟨a,rfl,kz h⟩
def PQ(l:X.A.units+60<aS):BO X (aA .In) (rD X.K MZ):=by intro f s o U x y v u Q T m n h;obtain⟨O,d,e,z,np,h1,g,j,G⟩:=h;obtain⟨b,i,rfl⟩:=ja j;exact Xt l f s o U x y v u Q T m n ⟨O,d,e,b,h1,g,i,G.bl⟩
def nM(l:X.A.units+60<aS):BO X (aA .NotIn) (rD X.K mP):=by intro f s o U x y v u Q T m n h;obtain⟨O,d,e,z,np,h1,g,j,G⟩:=h;obtain⟨b,i,rfl⟩:=ja j;exact DG l f s o U x y v u Q T m n ⟨O,d,e,b,h1,g,i,G.bl⟩
noncomputable def B9:D->Option (D×Bool)
 | .int i=>Y (.int (-i),C)
 |_=>I
def Su:PN X (A1 .USub) (rD1 X.K B9):=by
 intro f s l U x v Q T j h;obtain⟨O,d,z,np,h1,g,G⟩:=h
 cases d with
 |int i=>cases g;exact Wn f s l U x v Q T j ⟨i,jd h1,G.int⟩
 |_=>cases g
def Ct:D->D->Option (D×Bool)
 | .tup l,.int i=>(JT l i).map λd=>(d,C)
 | .lst l,.int i=>(JT l i).map λd=>(d,C)
 |_,_=>I
def LH{K U}{O:SI}{l:List D}{f:List V}{i:Int}{d:D}(r:YP K U O l f)(h:JT l i=Y d): ∃v,JT f i=Y v/\Rep K U O d v:=by unfold JT at h ⊢;rw[r.length];obtain⟨j,h1,g⟩:=hG h;rw[h1];exact r.get g
def aat:PY X (rD X.K Ct):=by
 intro g f j s T N x y v u Q M E L h U;obtain⟨O,d,e,z,np,h1,B,m,G⟩:=h
 cases d with
 |tup l=>
  cases e with
  |int i=>obtain⟨w,o,rfl⟩:=ja m;obtain⟨p,A,rfl,q,r⟩:=lE h1;obtain⟨t,hv,n⟩:=LH r o;exact XX g f j s T N _ _ v u Q M E L ⟨p,A,i,t,rfl,jd B,q,hv,G _ N (λ_ _ e=>e) n⟩ U
  |_=>cases m
 |lst l=>
  cases e with
  |int i=>obtain⟨w,o,rfl⟩:=ja m;obtain⟨p,A,rfl,q,r⟩:=kD h1;obtain⟨t,hv,n⟩:=LH r o;exact Um g f j s T N _ _ v u Q M E L ⟨p,A,i,t,rfl,jd B,q,hv,G _ N (λ_ _ e=>e) n⟩ U
  |_=>cases m
 |_=>cases m
end
noncomputable def qC:List Ax->Option (List D)
 |[]=>Y []
 | .val r::os=>(qC os).map (r.1:: ·)
 | .slot _::_=>I
def yx(fs:List F):F:=λb=>(kx (fs.map iu) b).bind λp=>(qC p.1).bind λa=>if (Ls a)<=sizeLine then Y ((.tup a,C),p.2) else I
def nG(fs:List F):F:=λδ=>(kx (fs.map iu) δ).bind λp=>(qC p.1).bind λds=>if (Ls ds)<=sizeLine then Y ((.lst ds,J),p.2) else I
section
variable {K:iJ}{T m:SI}{f:L2.St}{g e:Dn}{H H':Hp}{os:List Ax}{c:List V}
def Ops.rep(E:ER K H T f g)(B:Ops K T f g H os c e H' m){j:Nat}{r:D×Bool}{v:V}(h1:os[j]?=Y (.val r))(h:c[j]?=Y v):Rep K H' (λa=>W3 f e a\/T a) r.1 v:=by
 obtain⟨d,b⟩:=r
 cases b with
 |false=>exact B.val j d v h1 h
 |true=>
  obtain⟨p,rfl,k,i,ok⟩:=B.tmp j d v h1 h;refine ok.rep (λz=>?_) λb _ z=>z;rcases z with z|z
  .exact B.er.nT p z k
  .exact(E.dom p z).ne i
theorem wX{O:SI}: ∀{os:List Ax} {c:List V} {d:List D},qC os=Y d->os.length=Ls c->(∀(j:Nat) (r:D×Bool) (v:V),os[j]?=Y (.val r)->c[j]?=Y v->Rep K H' O r.1 v)->YP K H' O d c
 |[],c,d,h,n,_=>by
  cases h;have:c=[]:=by simpa using n.symm
  subst this;exact YP.nil
 | .slot i::os,c,d,h,_,_=>by cases h
 | .val r::os,c,d,h,n,k=>by
  obtain⟨l,h1,rfl⟩:=ja h
  cases c with
  |nil=>simp at n
  |cons v c=>exact YP.cons (k 0 r v K3 K3)<|wX h1 (by simpa using n) λj o p a b=>k (j+1) o p (by simpa using a) (by simpa using b)
end
section
variable {X:Cx}{e a b:iq}{m:kj}{n fb:FO}{fs:List F}{c:bq}
def WQ{x1}(h:PA X m (tA X.K<|fs.map iu)):PX X (.Tuple m x1 c) (yx fs):=PX.imp (Xc h) λy U Q l=>by obtain⟨o,T,w,q,E,e,k⟩:=l;obtain⟨⟨os,d⟩,h1,e⟩:=hG e;obtain⟨u,g,e⟩:=hG e;obtain⟨i,e⟩:=iR e;obtain⟨rfl,rfl⟩:=tM e;refine⟨o,T,os,d,E,h1,λx s t B=>?_⟩;have r:=wX g B.len λj r v a b=>B.rep E a b;exact⟨by rw[r.length];exact i,λp f=>(B.done k).tup f (B.np<|OP f) r⟩
def WW(h:PA X m (tA X.K<|fs.map iu)):PX X (.List m c) (nG fs):=PX.imp (Xh h) λy U Q l=>by obtain⟨o,T,w,q,E,e,k⟩:=l;obtain⟨⟨os,d⟩,h1,e⟩:=hG e;obtain⟨u,f,e⟩:=hG e;obtain⟨g,e⟩:=iR e;obtain⟨rfl,rfl⟩:=tM e;refine⟨o,T,os,d,E,h1,λx s t B=>?_⟩;have r:=wX f B.len λj r v a b=>B.rep E a b;exact⟨by rw[r.length];exact g,λp i=>(B.done k).lst i r⟩
def KI{g:List D}{f:List V}{d:D}(h:(Ls g)=Ls f)(hd:g=[d]): ∃v,f=[v]:=by
 subst hd
 cases f with
 |nil=>simp at h
 |cons v r=>
  cases r with
  |nil=>exact⟨v,rfl⟩
  |cons _ _=>simp at h
noncomputable def g1(g:D->Option (D×Bool)):List D->Option (D×Bool)
 |[d]=>g d
 |_=>I
noncomputable def g2(g:D->D->Option (D×Bool)):List D->Option (D×Bool)
 |[d,e]=>g d e
 |_=>I
def nW{f:ir}{g:D->Option (D×Bool)}(h: ∀(i:iX) (s:ie) (j:L2.St) (U:Hp) (x:V) (u:ir) (Q:VK) (O:SI) (d:D) (z:D×Bool),Inv X i j U s->RelV x u->(∀p,¬Ow (U p)-> ¬O p)->ky X.K U O d x->g d=Y z->Gen X.K U O z Q->
  af (aj X.prog X.w) X.A (call f [u]) (EP X i j Q) X.xe s):kG X f (GR X.K<|g1 g):=by
 intro i s j U B y Q T r q;obtain⟨O,l,z,np,o,hv,k,G⟩:=q
 match l,k with
 |[d],k=>obtain⟨v,rfl⟩:=KI o H;obtain⟨u,rfl,t⟩:=qQ r;exact h i s j U v u Q O d z T t np (hv 0 d v H H) k G
def RC{f:ir}{g:D->D->Option (D×Bool)}(h: ∀(i:iX) (s:ie) (k:L2.St) (U:Hp) (x y:V) (j:jr) (Q:VK) (O:SI) (d e:D) (z:D×Bool),Inv X i k U s->Vals [x,y] j->(∀p,¬Ow (U p)-> ¬O p)->ky X.K U O d x->ky X.K U O e y->g d e=Y z->Gen X.K U O z Q->
  af (aj X.prog X.w) X.A (call f j) (EP X i k Q) X.xe s):kG X f (GR X.K<|g2 g):=by
 intro i s k U u j Q T r t;obtain⟨O,o,z,np,q,hv,l,G⟩:=t;rcases o with _|⟨d,_|⟨e,_|⟨_,_⟩⟩⟩<;>try cases l
 rcases u with _|⟨x,_|⟨y,_|⟨_,_⟩⟩⟩<;>try cases q
 exact h i s k U x y j Q O d e z T r np (hv 0 d x H H) (hv 1 e y H H) l G
noncomputable def uI:D->Option (D×Bool)
 | .tup l=>Y (.int<|Ls l,C)
 | .lst l=>Y (.int<|Ls l,C)
 |_=>I
def kr:kG X (.builtin "len") (GR X.K<|g1 uI):=nW λf s j U x u Q O d z T i np hd g G=>by
 cases d with
 |tup l=>
  cases g;obtain⟨p,h,rfl,q,r⟩:=lE hd;refine yI f s j U [_] [u] Q T (.cons i .nil) ⟨p,h,rfl,.inr q,?_⟩;rw[r.length];exact G.int
 |lst l=>
  cases g;obtain⟨p,h,rfl,q,r⟩:=kD hd;refine yI f s j U [_] [u] Q T (.cons i .nil) ⟨p,h,rfl,.inl q,?_⟩;rw[r.length];exact G.int
 |_=>cases g
noncomputable def De:D->Option (D×Bool)
 | .int i=>Y (.int (if i<0 then -i else i),C)
 |_=>I
def nX:kG X (.builtin "abs") (GR X.K<|g1 De):=nW λf s j U x u Q O d z T h np hd g G=>by
 cases d with
 |int i=>cases g;exact RD f s j U [x] [u] Q T (.cons h .nil) ⟨i,by rw[jd hd],G.int⟩
 |_=>cases g
noncomputable def Ut:D->Option (D×Bool)
 | .int i=>Y (.int i,C)
 | .bl b=>Y (.int (if b then 1 else 0),C)
 |_=>I
def afm:kG X (.type "int") (GR X.K<|g1 Ut):=nW λf s j U x u Q O d z T h np hd g G=>by
 cases d with
 |int i=>cases g;exact D2 f s j U [x] [u] Q T (.cons h .nil)<|.inl ⟨i,by rw[jd hd],G.int⟩
 |bl i=>
  cases g;refine D2 f s j U [x] [u] Q T (.cons h .nil)<|.inr ⟨i,by rw[Kc hd],?_⟩;have:=G.int;cases i<;>exact this
 |_=>cases g
noncomputable def lJ:D->Option (D×Bool)
 | .tup l=>Y (.tup l,C)
 | .lst l=>Y (.tup l,C)
 |_=>I
def jL:kG X (.type "tuple") (GR X.K<|g1 lJ):=nW λf s o U x u Q O d z T k np hd g G=>by
 cases d with
 |tup l=>
  cases g;have j:Rep X.K U O (.tup l) x:=hd.elim id λ⟨_,_,z⟩=>z.elim;obtain⟨p,h,rfl,q,r⟩:=j.tup;exact wt f s o U [_] [u] Q T (.cons k .nil) ⟨p,h,rfl,.inr ⟨q.sq,G _ U (λ_ _ e=>e) j⟩⟩
 |lst l=>
  cases g;obtain⟨p,h,rfl,q,r⟩:=kD hd;exact wt f s o U [_] [u] Q T (.cons k .nil) ⟨p,h,rfl,.inl ⟨q,λt i=>G.tup i (np t<|OP i) r⟩⟩
 |_=>cases g
noncomputable def Ca:D->Option (D×Bool)
 | .tup l=>Y (.lst l,J)
 | .lst l=>Y (.lst l,J)
 |_=>I
def CF:kG X (.type "list") (GR X.K<|g1 Ca):=nW λf s k U x u Q O d z T j np hd g G=>by
 cases d with
 |tup l=>
  cases g;obtain⟨p,i,rfl,q,r⟩:=lE hd;exact yH f s k U [_] [u] Q T (.cons j .nil) ⟨p,i,rfl,.inr q,λt h=>G.lst h r⟩
 |lst l=>
  cases g;obtain⟨p,i,rfl,q,r⟩:=kD hd;exact yH f s k U [_] [u] Q T (.cons j .nil) ⟨p,i,rfl,.inl q,λt h=>G.lst h r⟩
 |_=>cases g
end
abbrev FT:=Dn->Option (Bool×Dn)
def tT(K:iJ)(f:FT):TT:=λe U Q=> ∃d T b a,ER K U T e d/\f d=Y (b,a)/\ ∀c,Ar e d U a c->ER K c T e a->Q b c
def PU(X:Cx)(e:iq)(f:FT):Prop:=PT X e<|tT X.K f
def PWX(X:Cx)(e:iq)(f:FT):Prop:=PW X e<|tT X.K f
noncomputable def MD:(D×Bool)×Dn->Option (Bool×Dn)
 |((.bl b,_),a)=>Y (b,a)
 |_=>I
def fT(f:F):FT:=λδ=>(f δ).bind MD
def CN(h:MD p=Y q): ∃o,p=((.bl q.1,o),q.2):=by
 obtain⟨⟨d,o⟩,a⟩:=p
 cases d with
 |bl b=>cases h;exact⟨o,rfl⟩
 |_=>cases h
def U9{K:iJ}{f:F}{a:L2.St}{U:Hp}{Q:Bool->Hp->Prop}(h:tT K (fT f) a U Q):tF K f a U λx i=> ∃c,x= .bl c/\Q c i:=by obtain⟨l,T,b,m,E,e,k⟩:=h;obtain⟨p,h1,j⟩:=hG e;obtain⟨o,rfl⟩:=CN j;refine⟨l,T,_,_,E,h1,λv g P=>?_⟩;obtain⟨d,r⟩:=P.rep E;exact⟨b,r.bl,k g P.1 d⟩
section
variable {X:Cx}{e a b c:iq}{w:kj}{i fb:FO}{f g:F}{n m:FT}{l:bq}
def PT.imp'(h:PT X e t)(k: ∀j U Q,p j U Q->t j U Q):PT X e p:=λd s j U Q T o=>h d s j U Q T<|k j U Q o
def PW.imp'(h:PW X e t)(k: ∀j U Q,p j U Q->t j U Q):PW X e p:=λwh d s j U Q T o=>h wh d s j U Q T<|k j U Q o
def TZ{r:R2}{g:D->D->Option (D×Bool)}(J:YD X.K r g){t:L2.St}{H:Hp}{Q:VK}(M:tF X.K (iF g i fb) t H Q):Mi r (tO X.K i) (tO X.K fb) t H Q:=by obtain⟨U,T,P,Y,E,e,k⟩:=M;obtain⟨⟨o,d⟩,h1,e⟩:=hG e;obtain⟨⟨N,q⟩,C,e⟩:=hG e;obtain⟨x,I,e⟩:=hG e;obtain⟨y,L,e⟩:=hG e;obtain⟨z,O,e⟩:=hG e;obtain⟨rfl,rfl⟩:=iP e;refine⟨U,T,o,d,E,h1,λv F h=>⟨d,F1 T o v,N,q,h.er E,C,λu A s=>?_⟩⟩;have B:=Ops.cons E h<|Ops.cons (h.er E) s<|Ops.nil<|s.er<|h.er E;exact J x y z v u A _ Q (λp G=>B.np G) (B.view (j:=0) K3 K3 I) (B.view (j:=1) K3 K3 L) O (B.done k)
def Z3{K:iJ}{g:D->D->Option (D×Bool)}:YD K (rD K g) g:=λx y z v u U O Q np h j d G=>⟨O,x,y,z,np,h,j,d,G⟩
noncomputable def Ah(f g:FT):FT:=λd=>(f d).bind λp=>if p.1=J then g p.2 else Y (C,p.2)
noncomputable def Di(f g:FT):FT:=λd=>(f d).bind λp=>if p.1=J then Y (J,p.2) else g p.2
noncomputable def rA(f:FT):FT:=λd=>(f d).bind λp=>Y (!p.1,p.2)
def zQ(f g:F):F:=λδ=>(f δ).bind λp=>(MD p).bind λq=>if q.1=J then g q.2 else Y ((.bl C,C),q.2)
def fOr(f g:F):F:=λd=>(f d).bind λp=>(MD p).bind λq=>if q.1=J then Y ((.bl J,C),q.2) else g q.2
def Yk(f:F):F:=λd=>(f d).bind λp=>(MD p).bind λq=>Y ((.bl (!q.1),C),q.2)
def Ms.pre{K:iJ}{T:SI}{h:L2.St}{δ δ1 δ2:Dn}{U j q:Hp}{r:D×Bool}{v:V}(k:Ar h δ U δ1 j)(P:Ms K T h δ1 j r δ2 v q):Ms K T h δ U r δ2 v q:=by
 refine⟨k.trans P.1,?_⟩;obtain⟨d,o⟩:=r
 cases o with
 |false=>exact P.2
 |true=>
  obtain⟨p,h1,s,t⟩:=P.2;refine⟨p,h1,?_,t⟩
  cases u:U p with
  |none=>rfl
  |some x=>exact absurd s<|k.dm p (by rw[u];simp)
noncomputable def MC(t:FT)(f g:F):F:=λd=>(t d).bind λp=>if p.1=J then f p.2 else g p.2
end
inductive Out where
 |nx(δ:Dn)|rt(r:D×Bool)(δ:Dn)|bk(δ:Dn)|ct(δ:Dn)
abbrev FS:=Dn->Option Out
structure SK(A:jK)(σ:L2.St)(δ:Dn)(H:Hp)(σ':L2.St)(δ':Dn)(H':Hp):Prop where
 kp: ∀a o,H a=J4 o-> ¬W3 σ δ a->H' a=J4 o
 owi: ∀i a,NR σ' δ' i a->NR σ δ i a\/H a=KE\/(A i/\ ∃j,A j/\NR σ δ j a)
 dm: ∀a,H a≠KE->H' a≠KE
 as: ∀i,¬A i->σ'[i]?=σ[i]?
structure LL where
 p:Nat->Prop
 st:Option L2.St
structure FI(A:jK)(L:LL)(H0:Hp)(σ:L2.St)(δ:Dn)(H:Hp):Prop where
 ow: ∀i a,NR σ δ i a->L.p i\/H0 a=KE
 dm: ∀a,H0 a≠KE->H a≠KE
 al: ∀j,A j-> ¬L.p j
 gh: ∀z,L.st=J4 z-> ∀i,¬A i->σ[i]?=z[i]?
def RV(K:iJ)(T:SI)(f:Hp)(r:D×Bool)(c:L2.St)(b:Dn)(v:V)(e:Hp):Prop:=
 match r with
 |(d,C)=>ER K e T c b/\Rep K e (λa=>W3 c b a\/T a) d v
 |(d,J)=> ∃p,v= .ref p/\f p=I/\ER K e (λa=>T a\/a=p) c b/\C5 K e (λa=>W3 c b a\/T a\/a=p) d p
section
variable {A:jK}{c b m:L2.St}{δ δ1 δ2:Dn}{H l g q:Hp}{L:LL}{K:iJ}{T:SI}
def SK.refl:SK A c δ H c δ H:=⟨λ_ _ e _=>e,λ_ _ z=> .inl z,λ_ z=>z,λ_ _=>rfl⟩
def SK.ow(k:SK A c δ H b δ1 g)(a:hJ)(h:W3 b δ1 a):W3 c δ a\/H a=I:=by
 obtain⟨i,d,h1,o⟩:=h;rcases k.owi i a ⟨d,h1,o⟩ with⟨e,f,n⟩|z|⟨_,j,_,e,f,n⟩
 .exact .inl ⟨i,e,f,n⟩
 .exact .inr z
 .exact .inl ⟨j,e,f,n⟩
def SK.trans(x:SK A c δ H b δ1 g)(y:SK A b δ1 g m δ2 q):SK A c δ H m δ2 q where
 kp:=λa o e n=>y.kp a o (x.kp a o e n) λz=>(x.ow a z).elim n λz=>by rw[z] at e;cases e
 owi:=λi a z=>(y.owi i a z).elim (x.owi i a) λz=>z.elim (λz=> .inr (.inl (by
  cases h:H a with
  |none=>rfl
  |some o=>exact absurd z<|x.dm a<|by rw[h];simp))) λ⟨d,j,f,z⟩=>(x.owi j a z).elim (λz=> .inr (.inr ⟨d,j,f,z⟩)) λz=>z.elim (λz=> .inr (.inl z)) λ⟨_,k,ak,z⟩=> .inr (.inr ⟨d,k,ak,z⟩)
 dm:=λa z=>y.dm a<|x.dm a z
 as:=λi h=>(y.as i h).trans<|x.as i h
def Ar.sk(k:Ar c δ H δ1 g):SK A c δ H c δ1 g:=⟨k.kp,λi a z=> .inl (k.owi i a z),k.dm,λ_ _=>rfl⟩
def FI.step(f:FI A L l c δ H)(k:SK A c δ H b δ1 g):FI A L l b δ1 g where
 ow:=λi a z=>(k.owi i a z).elim (f.ow i a) λz=> .inr (z.elim (λz=>by
  cases h:l a with
  |none=>rfl
  |some o=>exact absurd z<|f.dm a<|by rw[h];simp) λU=>by obtain⟨_,j,d,z⟩:=U;exact (f.ow j a z).resolve_left<|f.al j d)
 dm:=λa z=>k.dm a<|f.dm a z
 al:=f.al
 gh:=λz e i n=>(k.as i n).trans<|f.gh z e i n
def FI.fresh(f:FI A L l c δ H)(a:H p=I):l p=I:=by
 cases h:l p with
 |none=>rfl
 |some o=>exact absurd a<|f.dm p (by rw[h];simp)
end
def tS(K:iJ)(A:jK)(L:LL)(g:Hp)(f:FS):TS:=λD e U=> ∃d T out,ER K U T e d/\FI A L g e d U/\f d=Y out/\
 match out with
 | .nx b=> ∀a c,SK A e d U a b c->ER K c T a b->D.nx a c
 | .bk b=> ∀a c,SK A e d U a b c->ER K c T a b->D.bk a c
 | .ct b=> ∀a c,SK A e d U a b c->ER K c T a b->D.ct a c
 | .rt r b=> ∀v a c,SK A e d U a b c->RV K T g r a b v c->D.rt v c
def Mz(X:Cx)(A:jK)(L:LL)(a:Hp)(st:aV)(f:FS):Prop:=PS X st<|tS X.K A L a f
def F3(X:Cx)(A:jK)(L:LL)(a:Hp)(st:List aV)(f:FS):Prop:=Hg X st<|tS X.K A L a f
noncomputable def iN:FS:=λδ=>Y<|.nx δ
noncomputable def iA(f g:FS):FS:=λδ=>(f δ).bind λo=>match o with
 | .nx δ1=>g δ1
 |o=>Y o
noncomputable def lS(f:F):FS:=λδ=>(f δ).bind λp=>Y<|.nx p.2
noncomputable def kH(f:F):FS:=λδ=>(f δ).bind λp=>Y<|.rt p.1 p.2
noncomputable def qr(i:Nat):FS:=λa=>match a[i]? with
 |some (Y (d,J))=>Y<|.rt (d,J)<|a.set i I
 |some (Y (d,C))=>Y<|.rt (d,C) a
 |_=>I
noncomputable def Dm(t:FT)(f g:FS):FS:=λa=>(t a).bind λp=>if p.1=J then f p.2 else g p.2
noncomputable def kE(i:Nat)(f:F):FS:=λδ=>(f δ).bind λp=>if i<(Ls p.2) then Y (.nx<|p.2.set i<|Y p.1) else I
section
variable {X:Cx}{A:jK}{L:LL}{d:Hp}{st:aV}{l:List aV}{f g:FS}{m:F}{j:FT}{e c:iq}{i:bq}
def PS.imp'(h:PS X st t)(k: ∀D b U,o D b U->t D b U):PS X st o:=λa s b U D T n=>h a s b U D T<|k D b U n
def Hg.imp'(h:Hg X l t)(k: ∀D b U,o D b U->t D b U):Hg X l o:=λa s b U D T n=>h a s b U D T<|k D b U n
def W6(Q:PU X c j)(I:F3 X A L d a f)(O:F3 X A L d b g):Mz X A L d (.If c a b i) (Dm j f g):=PS.imp' (Z7 Q I O) λD w N M=>by
 obtain⟨y,T,out,E,U,e,k⟩:=M;obtain⟨⟨c,o⟩,h1,e⟩:=hG e;refine⟨y,T,c,o,E,h1,λx B z=>?_⟩;have u:SK A w y N w o x:=B.sk
 have fin: ∀(h:FS),h o=Y out->tS X.K A L d h D w x:=λh G=>by
  refine⟨o,T,out,z,U.step u,G,?_⟩
  cases out with
  |nx s=>exact λn p q t=>k n p (u.trans q) t
  |bk s=>exact λn p q t=>k n p (u.trans q) t
  |ct s=>exact λn p q t=>k n p (u.trans q) t
  |rt r s=>exact λv n p q R2=>k v n p (u.trans q) R2
 cases c with
 |true=>rw[iz H] at e;exact(show(if J=J then tS X.K A L d f D w x else _) from by rw[iz H];exact fin f e)
 |false=>rw[iG ku] at e;exact(show(if C=J then _ else tS X.K A L d g D w x) from by rw[iG ku];exact fin g e)
end
def nq{b:Type}{l:List b}{i j:Nat}{x y:b}(h:(l.set i x)[j]?=Y y):(i=j/\i<Ls l/\y=x)\/(i≠j/\l[j]?=Y y):=by
 rw[zg] at h;split at h
 .rename_i a;split at h
  .rename_i c;exact .inl ⟨a,c,(kz h).symm⟩
  .cases h
 .rename_i a;exact .inr ⟨a,h⟩
section
variable {K:iJ}{T:SI}{f:L2.St}{l c:Dn}{H g:Hp}{x:D×Bool}{v:V}{i:Nat}
def NR.store{j:Nat}{a:hJ}(h:NR (f.set i<|Y v) (l.set i<|Y x) j a):(i≠j/\NR f l j a)\/(i=j/\x.2=J/\v= .ref a):=by
 obtain⟨d,h1,m⟩:=h;rcases nq h1 with⟨e,_,q⟩|⟨ne,q⟩
 .rcases nq m with⟨_,_,k⟩|⟨b,_⟩
  .right;cases q;exact⟨e,rfl,(kz k).symm⟩
  .exact absurd e b
 .rcases nq m with⟨n,_,_⟩|⟨_,k⟩
  .exact absurd n ne
  .exact .inl ⟨ne,d,q,k⟩
def W3.store(h:W3 (f.set i<|Y v) (l.set i<|Y x) a):W3 f l a\/(x.2=J/\v= .ref a):=by
 obtain⟨j,d,h1,k⟩:=h;rcases NR.store ⟨d,h1,k⟩ with⟨_,e,b,m⟩|⟨_,b⟩
 .exact .inl ⟨j,e,b,m⟩
 .exact .inr b
def ER.store(h:ER K g (Mc T x v) f c)(E:i<Ls c)(u:match x with|(d,C)=>Rep K g (λa=>W3 f c a\/T a) d v|(d,J)=> ∃p,v= .ref p/\ ¬T p/\C5 K g (λa=>W3 f c a\/T a\/a=p) d p):
  ER K g T (f.set i<|Y v) (c.set i<|Y x):=by
 have r:i<(Ls f):=by rw[h.len];exact E
 have sub: ∀b,g b≠I->(W3 (f.set i<|Y v) (c.set i<|Y x) b\/T b)->(W3 f c b\/Mc T x v b):=λb _ z=>by
  rcases z with z|z
  .rcases z.store with z|z
   .exact .inl z
   .exact .inr (.inr z)
  .exact .inr (.inl z)
 refine⟨by rw[vY,vY];exact h.len,λj d o=>?_,λj d o=>?_,λj k d e a o hk h1 n=>?_,λa z=>?_,λa z=>h.dom a<|.inl z⟩
 .rcases nq o with⟨rfl,_,q⟩|⟨ne,q⟩
  .have q:=kz q;subst q
   exact⟨v,tU r,Rep.mono (λ_ _ e _=>e) (λb U z=>by
    rcases z with z|z
    .rcases z.store with z|z
     .exact .inl z
     .exact absurd z.1 (by simp)
    .exact .inr z) u⟩
  .obtain⟨w,h1,n⟩:=h.val j d q;exact⟨w,by rw[mD ne];exact h1,Rep.mono (λ_ _ e _=>e) sub n⟩
 .rcases nq o with⟨rfl,_,q⟩|⟨ne,q⟩
  .have q:=kz q;subst q;obtain⟨p,rfl,np,ok⟩:=u;refine⟨p,tU r,ok.mono (λ_ _ e _=>e) (λb U z=>?_) λ_ e=>e⟩;rcases z with z|z
   .rcases z.store with z|z
    .exact .inl z
    .have:=z.2;cases this;exact .inr<|.inr K3
   .exact .inr (.inl z)
  .obtain⟨a,h1,n⟩:=h.own j d q;exact⟨a,by rw[mD ne];exact h1,n.mono (λ_ _ e _=>e) sub λ_ e=>e⟩
 .rcases NR.store ⟨d,o,h1⟩ with⟨L,y,g1,g2⟩|⟨B,g1,g2⟩
  .rcases NR.store ⟨e,hk,n⟩ with⟨Q,s,g3,m⟩|⟨A,g3,m⟩
   .exact h.inj j k y s a g1 g3 g2 m
   .exact absurd (bB ⟨g3,m⟩) (h.nT a ⟨j,y,g1,g2⟩)
  .rcases NR.store ⟨e,hk,n⟩ with⟨Q,s,g3,m⟩|⟨A,g3,m⟩
   .exact absurd (bB ⟨g1,g2⟩) (h.nT a ⟨k,s,g3,m⟩)
   .exact B.symm.trans A
 .rcases z.store with z|z
  .exact λt=>h.nT a z<|.inl t
  .obtain⟨d,b⟩:=x
   cases b with
   |false=>exact absurd z.1 (by simp)
   |true=>obtain⟨p,rfl,np,_⟩:=u;have:=z.2;cases this;exact np
def SK.store(k:Ar f l H c g)(b:A i)(h:x.2=J-> ∀p,v= .ref p->H p=I):SK A f l H (f.set i<|Y v) (c.set i<|Y x) g where
 kp:=k.kp
 owi:=λj a z=>by
  rcases z.store with⟨_,z⟩|⟨_,m,n⟩
  .exact .inl (k.owi j a z)
  .exact .inr (.inl<|h m a n)
 dm:=k.dm
 as:=λj d=>mD λ(e:i=j)=>d (by subst e;exact b)
end
section
variable {X:Cx}{A:jK}{L:LL}{g:Hp}{f:F}{e c:iq}{b a:bq}
def xS{K:iJ}{T:SI}{k:L2.St}{n j:Dn}{U l:Hp}{r:D×Bool}{v:V}{i:Nat}(E:ER K U T k n)(P:Ms K T k n U r j v l)(u:i<Ls j)(t:A i):
  SK A k n U (k.set i<|Y v) (j.set i<|Y r) l/\ER K l T (k.set i<|Y v) (j.set i<|Y r):=by
 have w:r.2=J-> ∀p,v= .ref p->U p=I:=λh p hv=>by
  obtain⟨d,o⟩:=r
  cases o with
  |false=>cases h
  |true=>obtain⟨q,h1,m,_⟩:=P.2;rw[hv] at h1;cases h1;exact m
 refine⟨SK.store P.1 t w,ER.store (P.er E) u ?_⟩;obtain⟨d,o⟩:=r
 cases o with
 |false=>exact P.2.2
 |true=>obtain⟨p,rfl,m,x,s⟩:=P.2;exact⟨p,rfl,λz=>(E.dom p z).ne m,s⟩
end
abbrev Tg:=D->Dn->Option Dn
def tG(K:iJ)(A:jK)(g:Tg):TG:=λv f U Q=> ∃e T d b,ER K U T f e/\Rep K U (λa=>W3 f e a\/T a) d v/\g d e=Y b/\ ∀c,SK A f e U c b U->ER K U T c b->Q c U
def ME(X:Cx)(A:jK)(e:iq)(a:Tg):Prop:=PG X e<|tG X.K A a
noncomputable def ik(i:Nat):Tg:=λd δ=>if i<(Ls δ) then Y (δ.set i<|Y (d,C)) else I
noncomputable def Dw:List Tg->List D->Dn->Option Dn
 |[],[],a=>Y a
 |t::b,d::ds,a=>(t d a).bind<|Dw b ds
 |_,_,_=>I
def Gg(a:List Tg):Tg
 | .tup ds,b=>Dw a ds b
 |_,_=>I
def OA(K:iJ)(A:jK)(g:List Tg):MO:=λh e U Q=> ∃d T f b,ER K U T e d/\YP K U (λa=>W3 e d a\/T a) f h/\Dw g f d=Y b/\ ∀c,SK A e d U c b U->ER K U T c b->Q c U
section
variable {X:Cx}{A:jK}{g:bq}{e:iq}{f:kj}{t:Tg}{c:List Tg}
def PG.imp'{t d:TG}(h:PG X e t)(k: ∀v b U Q,d v b U Q->t v b U Q):PG X e d:=λa s b U v u Q T r i=>h a s b U v u Q T r<|k v b U Q i
def Jx.imp'{t d:MO}(h:Jx X f t)(k: ∀v b U Q,d v b U Q->t v b U Q):Jx X f d:=λa s b U v u Q T r i=>h a s b U v u Q T r<|k v b U Q i
def GC:Jx X [] (OA X.K A []):=Jx.imp' TC λv h U Q b=>by
 obtain⟨i,T,a,d,E,r,e,k⟩:=b
 cases a with
 |nil=>
  cases e;rw[YP] at r;exact⟨r,k h .refl E⟩
 |cons _ _=>cases e
def vn(h1:ME X A e t)(p:Jx X f (OA X.K A c))(u:(aI (e::f) X.env).map (·.2)=b5 e X.env::(aI f X.env).map (·.2)):Jx X (e::f) (OA X.K A (t::c)):=Jx.imp' (Pn h1 p u) λv O N Q w=>by
 obtain⟨M,T,h,i,E,r,e,k⟩:=w
 cases h with
 |nil=>cases e
 |cons d h=>rw[YP] at r;obtain⟨B,U,rfl,x,y⟩:=r;obtain⟨a,q,e⟩:=hG e;refine⟨B,U,rfl,M,T,d,a,E,x,q,λL l m=>⟨a,T,h,i,m,?_,e,λj o n=>k j (l.trans o) n⟩⟩;exact YP.mono (λ_ _ e _=>e) (λb s z=>z.elim (λz=>(l.ow b z).elim aW λz=>absurd z s) bB) y
def Kw{k:Nat}(o:X.calm=J)(h:Jx X f (OA X.K A c)){n:Nat}(s:(aI f X.env).length=n)(p:c.length=n)(x:(aI f X.env).findIdx? (·.1)=I):ME X A (.Tuple f k g) (Gg c):=PG.imp' (Xb o h s x) λv z U Q u=>by
 obtain⟨i,T,d,j,E,r,e,k⟩:=u
 cases d with
 |tup b=>
  obtain⟨a,y,rfl,q,m⟩:=r.tup;refine⟨a,y,rfl,q.sq,?_,i,T,b,j,E,m,e,k⟩
  have: ∀(c:List Tg) (b:List D) (i:Dn),Dw c b i=Y j->b.length=c.length:=by
   intro c
   induction c with
   |nil=>intro b i h;cases b with|nil=>rfl|cons _ _=>cases h
   |cons t c w=>
    intro b i h
    cases b with
    |nil=>cases h
    |cons d b=>obtain⟨l,_,h⟩:=hG h;simp[w b l h]
  rw[m.length,this c b i e,p]
 |_=>cases e
end
abbrev SB:=Nat->Prop
def Md(B:SB)(T:SI)(c:L2.St)(b:Dn):SI:=λa=>(∃i,¬B i/\NR c b i a)\/T a
def Md.own(h:Md B T σ δ a):W3 σ δ a\/T a:=h.imp (λU=>by obtain⟨i,_,d,h1,b⟩:=U;exact ⟨i,d,h1,b⟩) id
structure LZ(K:iJ)(J:It)(ds:List D)(P O:SI)(H1:Hp):Prop where
 go: ∀(i:Nat) d Hi,ds[i]?=J4 d->(∀a o,H1 a=J4 o-> ¬P a->Hi a=J4 o)->J.go i Hi/\ ∀x H',J.yld i Hi x H'->(∀a o,Hi a=J4 o->H' a=J4 o)/\
  ∀O':SI,(∀b,H1 b≠KE->O' b->O b)->(∀b,Hi b=KE-> ¬O' b)->Rep K H' O' d x
 stop: ∀(i:Nat) Hi,Ls ds<=i->(∀a o,H1 a=J4 o-> ¬P a->Hi a=J4 o)->J.stop i Hi
abbrev Cf:=Dn->Option (List D×Dn)
def tI(K:iJ)(B:SB)(g:Cf):TI:=λc U R=> ∃e T f b,ER K U T c e/\g e=Y (f,b)/\ ∀Q d,Ar c e U b d->ER K d T c b->LZ K Q f (Md B T c b) (λa=>W3 c b a\/T a) d->R Q d
def MP(X:Cx)(B:SB)(tg iter:iq)(a:Cf):Prop:=PI X tg iter<|tI X.K B a
noncomputable def Ko:D->Option (List D)
 | .tup l=>Y l
 | .lst l=>Y l
 |_=>I
def JD(f:FO):Cf:=λa=>(f a).bind λp=>(res p.2 p.1).bind λd=>(Ko d).bind λl=>Y (l,p.2)
noncomputable def jB(f:F):Cf:=λδ=>(f δ).bind λp=>match p.1.1 with
 | .lst l=>Y (l,p.2)
 | .tup l=>Y (l,p.2)
 |_=>I
noncomputable def jh(lo:Int)(n:Nat):List D:=(am n).map λ(k:Nat)=> .int (lo+k)
def B6(f:FO):Cf:=λa=>(kx [f] a).bind λp=>match vO p.2 p.1 with
 |some [.int j]=>if -(2^62)<=j/\j<2^62 then Y (jh 0 j.toNat,p.2) else I
 |_=>I
def SlB(B:SB)(f:FO):Prop:= ∀b i a,f b=Y (.slot i,a)->B i
def SH:SlB B (iu f):=λb i a h=>by obtain⟨p,_,h⟩:=hG h;cases h
noncomputable def OY:D->Bool
 | .lst _=>J
 |_=>C
def Ja(b:Bool)(K:iJ)(U:Hp)(P:SI)(a:hJ)(c:List V):Prop:=if b=J then Hb K U P a c else Gq K U P a c
def Ja.mono{K U H'}{P P':SI}(q:Ja b K U P a xs)(k: ∀b o,U b=Y o-> ¬P b->H' b=Y o)(c: ∀b,P' b->P b):Ja b K H' P' a xs:=by
 cases b with
 |true=>exact Hb.mono q k λb _=>c b
 |false=>exact Gq.mono (K:=K) q k λb _=>c b
def Ja.l{K U}(q:Ja J K U P a xs):FV K U a xs:=Hb.sq q
def Ja.t{K U}(q:Ja C K U P a xs):Ff K U a xs:=Gq.sq (K:=K) q
def DC{K U}(h:Ko d=Y l)(r:Rep K U O d v): ∃a b,v= .ref a/\Ja (OY d) K U O a b/\YP K U O l b:=by
 cases d with
 |tup m=>cases h;obtain⟨a,b,rfl,q,c⟩:=r.tup;exact⟨a,b,rfl,q,c⟩
 |lst m=>cases h;obtain⟨a,b,rfl,q,c⟩:=r.lst;exact⟨a,b,rfl,q,c⟩
 |_=>cases h
def Ops.seq{K:iJ}{T U:SI}{h:L2.St}{A c:Dn}{Q n:Hp}{os:List Ax}{y:List V}(E:ER K Q T h A)(W:Ops K T h A Q os y c n U){j:Nat}(h1:os[j]?=Y o)(x:y[j]?=Y v)(s:res c o=Y d)(t:Ko d=Y l)(L: ∀i,o= .slot i->B i):
  ∃a g,v= .ref a/\Ja (OY d) K n (Md B T h c) a g/\YP K n (λa=>W3 h c a\/T a) l g:=by
 have fin:Rep K n (λa=>W3 h c a\/T a) d v-> ∃a g,v= .ref a/\Ja (OY d) K n (Md B T h c) a g/\YP K n (λa=>W3 h c a\/T a) l g:=λr=>by obtain⟨a,g,rfl,q,u⟩:=DC t r;exact⟨a,g,rfl,q.mono (λ_ _ e _=>e) λa z=>z.own,u⟩
 cases o with
 |val r=>cases s;exact fin<|W.rep E h1 x
 |slot i=>
  have hk:=W.slt j i _ h1 x
  have hd: ∃f,c[i]?=Y (Y (d,f)):=by
   unfold res at s;dsimp only at s;split at s<;>cases s
   exact⟨_,by assumption⟩
  obtain⟨f,hd⟩:=hd
  cases f with
  |false=>obtain⟨w,p,N⟩:=W.er.val i _ hd;rw[hk] at p;cases p;exact fin<|Rep.mono (λ_ _ e _=>e) (λb _ z=>z.imp id<|W.tt b) N
  |true=>
   obtain⟨a,p,ok⟩:=W.er.own i _ hd;rw[hk] at p;cases p
   cases d with
   |lst m=>
    cases t;obtain⟨g,e,u⟩:=ok;exact⟨a,g,rfl,.inl ⟨.inl e,λz=>z.elim (λM=>by obtain⟨k,nb,O,g1,g2⟩:=M;exact nb<|W.er.inj i k _ _ a hd g1 hk g2▸L i H) λz=>W.er.nT a ⟨i,_,hd,hk⟩<|W.tt a z⟩,YP.mono (λ_ _ e _=>e) (λb _ z=>z.imp id<|W.tt b) u⟩
   |tup m=>exact ok.elim
   |_=>cases t
section
variable {X:Cx}{B:SB}{tg e:iq}{f:F}{c:FO}{g p:bq}
def PI.imp'(h:PI X tg e t)(k: ∀b U R,i b U R->t b U R):PI X tg e i:=λa s b U R T d=>h a s b U R T<|k b U R d
def PI.or(h:PI X tg e t)(d:PI X tg e j):PI X tg e (λb U R=>t b U R\/j b U R):=λa s b U R T i=>i.elim (h a s b U R T)<|d a s b U R T
def ItS(b:Bool)(K:iJ)(a:hJ):It:=if b=J then Itl K a else Itt K a
def QE{K:iJ}{P O:SI}{m:Hp}{a:hJ}{k:List V}{l:List D}(q:Ja b K m P a k)(r:YP K m O l k)(v: ∀a,P a->O a):LZ K (ItS b K a) l P O m:=by
 cases b<;>(
  refine⟨λi d Hi hd j=>?_,λi Hi w j=>?_⟩
  .have h:=Ja.mono q j λ_ z=>z
   first|replace h:=h.l|replace h:=h.t
   obtain⟨x,u,A⟩:=r.get hd;refine⟨⟨k,x,h,u⟩,λy U s=>?_⟩;obtain⟨rfl,s⟩:=s;have:=s k h;rw[u] at this;cases this;exact⟨λ_ _ e=>e,λE h1 T=>Rep.mono (λb o e n=>j b o e λz=>n<|v b z) h1 A⟩
  .exact⟨k,by first|exact(Ja.mono q j λ_ z=>z).l|exact(Ja.mono q j λ_ z=>z).t,by rw[r.length];exact w⟩)
def B7{K:iJ}{P O:SI}{b:Hp}(lo:Int)(n:Nat):LZ K (Ot lo n) (jh lo n) P O b:=by
 refine⟨λi d Hi hd j=>?_,λi Hi a j=>?_⟩
 .unfold jh at hd;rw[kl] at hd;obtain⟨k,h1,h⟩:=ja hd;have a:i<n:=by have:=(wa.mp h1).1;simpa using this
  have hk:k=i:=by rw[List.getElem?_range a] at h1;exact(kz h1).symm
  subst hk;refine⟨a,λy m l=>?_⟩;obtain⟨rfl,rfl⟩:=l;refine⟨λ_ _ e=>e,λo _ _=>?_⟩;rw[<-h];exact Rep.mkInt
 .unfold jh at a;have:n<=i:=by simpa using a
  exact this
def Pk(h:PO X e c)(U:SlB B c):MP X B tg e (JD c):=PI.imp' (PI.or (Tw (tg:=tg) h)<|Xa h) λy N R L=>by
 obtain⟨w,T,G,Q,E,e,k⟩:=L;obtain⟨⟨o,u⟩,h1,e⟩:=hG e;obtain⟨d,A,e⟩:=hG e;obtain⟨l,x,e⟩:=hG e;obtain⟨rfl,rfl⟩:=iP e
 have key: ∀v n,EW X.K T y w N o u v n-> ∃a s,v= .ref a/\Ja (OY d) X.K n (Md B T y u) a s/\R (ItS (OY d) X.K a) n:=λv n P=>by have W:=Ops.cons E P<|Ops.nil<|P.er E;obtain⟨a,s,rfl,q,O⟩:=W.seq E (j:=0) H H A x λi M=>U _ _ _ (M▸h1);exact⟨a,s,rfl,q,k _ n W.keep (W.er.mono (λ_ _ e _=>e) (λb _ z=>W.tt b z) λa z=>W.er.dom a<|W.tt a z) (QE q O λa z=>z.own)⟩
 cases d with
 |lst m=>exact .inl ⟨w,T,_,_,E,h1,λv n P=>let⟨a,s,e,q,r⟩:=key v n P;⟨a,e,⟨s,q.l⟩,r⟩⟩
 |tup m=>exact .inr ⟨w,T,_,_,E,h1,λv n P=>let⟨a,s,e,q,r⟩:=key v n P;⟨a,e,⟨s,q.t⟩,r⟩⟩
 |_=>cases x
end
noncomputable def vQ(tg:Tg)(fb:FS):List D->FS
 |[],b=>Y<|.nx b
 |d::ds,b=>(tg d b).bind λδ1=>(fb δ1).bind λo=>match o with
  | .nx a=>vQ tg fb ds a
  | .ct a=>vQ tg fb ds a
  | .bk a=>Y<|.nx a
  | .rt r a=>Y<|.rt r a
def qi(b:Cf)(c:Tg)(a:FS):FS:=λd=>(b d).bind λp=>vQ c a p.1 p.2
section
variable {X:Cx}{A:jK}{L:LL}{l:Hp}{g iter:iq}{c:List aV}{j:Cf}{t:Tg}{f:FS}{h:bq}
def Tn(hp:ey (aj X.prog X.w) X.A X.env X.xe)(hc:X.calm=K0)(hi:MP X (λ_=>False) g iter j)(hg:ME X A g t)(G:F3 X A L l c f)(hs: ∀x,aw iter X.env x=pure x):
  Mz X A L l (.For g iter c [] h) (qi j t f):=PS.imp' (W7 hp hc hi hg G hs) λD M H hw=>by
 obtain⟨δ,T,out,E,gL,e,k⟩:=hw;obtain⟨⟨u,q⟩,h1,e⟩:=hG e;refine⟨δ,T,u,q,E,h1,λJ Y K1 E1 ok=>?_⟩;have S:SK A M δ H M q Y:=K1.sk;refine⟨λi m s C'=>m=Ls u-i/\i<=Ls u/\ ∃p,SK A M q Y s p C'/\ER X.K C' T s p/\vQ t f (u.drop i) p=J4 out,⟨Ls u,by simp,lP _,q,.refl,E1,by simpa using e⟩,?_⟩;rintro i m O H2 ⟨rfl,hle,I',S2,N,e2⟩;have Z: ∀a o,Y a=J4 o-> ¬Md (λ_=>False) T M q a->H2 a=J4 o:=λa o ea n=>S2.kp a o ea λ⟨i,d,z⟩=>n<|.inl ⟨i,id,d,z⟩;by_cases W:i<Ls u
 .refine .inr ?_;have hd:u[i]?=J4 u[i]:=jg W;obtain⟨go,yl⟩:=ok.go i _ H2 hd Z;rw[zd W] at e2;obtain⟨R,h3,e3⟩:=hG e2;obtain⟨o,h4,V⟩:=hG e3;refine⟨go,λs C'=> ∃p,SK A M q Y s p C'/\ER X.K C' T s p/\vQ t f (u.drop<|i+1) p=J4 out,λs C' ⟨p,q1,q2,q3⟩=>⟨Ls u-(i+1),by omega,rfl,W,p,q1,q2,q3⟩,λx C' hy=>?_⟩;obtain⟨ext,rep⟩:=yl x C' hy;have eW:ER X.K C' T O I':=N.mono (λb ob eb _=>ext b ob eb) (λ_ _ z=>z) λa z=>(N.dom a z).up<|ext a;have gP:SK A M q Y O I' C':=S2.trans (Ar.ext ext).sk;have rx:=rep (λa=>W3 O I' a\/T a) (λb G z=>z.elim (λz=>(S2.ow b z).elim aW λz=>absurd z G) bB) λb G z=>z.elim (λz=>N.JO z G) λz=>(N.dom b z).ne G;refine⟨I',T,u[i],R,eW,rx,h3,λσ3 S3 E3=>?_⟩;have P:=gP.trans S3;refine⟨R,T,o,E3,(gL.step S).step P,h4,?_⟩
  cases o with
  |nx y=>exact λB F Q U=>⟨y,P.trans Q,U,V⟩
  |ct y=>exact λB F Q U=>⟨y,P.trans Q,U,V⟩
  |bk y=>cases V;exact λB F Q U=>k B F (S.trans<|P.trans Q) U
  |rt r y=>cases V;exact λv B F Q R4=>k v B F (S.trans<|P.trans Q) R4
 .refine .inl ⟨ok.stop i H2 (by omega) Z,?_⟩;rw[A7<|by omega] at e2;cases e2;exact k O H2 (S.trans S2) N
end
noncomputable def mR(b:FT)(a:FS):Nat->FS
 |0,_=>I
 |n+1,c=>(b c).bind λp=>if p.1=J then(a p.2).bind λo=>(match o with
   | .nx δ2=>mR b a n δ2
   | .ct δ2=>mR b a n δ2
   | .bk δ2=>Y<|.nx δ2
   | .rt r δ2=>Y<|.rt r δ2) else Y (.nx p.2)
def BZ(f g:FO):Cf:=λδ=>(kx [f,g] δ).bind λp=>match vO p.2 p.1 with
 |some [.int i,.int j]=>if -(2^62)<=i/\i<2^62/\ -(2^62)<=j/\j<2^62 then Y (jh i (j-i).toNat,p.2) else I
 |_=>I
section
variable {X:Cx}{A:jK}{L:LL}{s:Hp}{B:SB}{t e c a b:iq}{d:List aV}{f:FT}{g:FS}{x u:FO}{l p:bq}
def afq{n:Nat}(hp:ey (aj X.prog X.w) X.A X.env X.xe)(hc:PU X c f)(hb:F3 X A L s d g):Mz X A L s (.While c d [] l) (mR f g n):=PS.imp' (af1 hp hc hb) λD F H hw=>by
 obtain⟨U,T,out,E,Z,e,k⟩:=hw;refine⟨λm i I=> ∃h,SK A F U H i h I/\ER X.K I T i h/\mR f g m h=Y out,⟨n,U,.refl,E,e⟩,?_⟩;rintro m J' H2 ⟨Y',S2,E2,e2⟩
 cases m with
 |zero=>cases e2
 |succ m=>
  obtain⟨⟨S,C⟩,h3,M⟩:=hG e2;refine⟨Y',T,S,C,E2,h3,λR V P=>?_⟩;have O:SK A F U H J' C R:=S2.trans V.sk
  cases S with
  |false=>rw[iG ku] at M;cases M;exact aav<|k J' R O P
  |true=>
   rw[iz K3] at M;obtain⟨o,h4,N⟩:=hG M;refine aau ⟨λi I=> ∃h,SK A F U H i h I/\ER X.K I T i h/\mR f g m h=Y out,λi I q=>⟨m,EB _,q⟩,C,T,o,P,Z.step O,h4,?_⟩
   cases o with
   |nx j=>exact λy G z Q=>⟨j,O.trans z,Q,N⟩
   |ct j=>exact λy G z Q=>⟨j,O.trans z,Q,N⟩
   |bk j=>cases N;exact λy G z Q=>k y G (O.trans z) Q
   |rt r j=>cases N;exact λv y G z W=>k v y G (O.trans z) W
def vd{K:iJ}{T v:SI}{E:L2.St}{U m:Dn}{Q r:Hp}{os:List Ax}{k:List V}{n:List D}(B:Ops K T E U Q os k m r v)(h:vO m os=Y n){j:Nat}{i:Int}(hd:n[j]?=Y (.int i)):k[j]?=Y (.int i):=by
 obtain⟨h1,w⟩:=pP h;obtain⟨o,q,y⟩:=w j _ hd;have z:j<(Ls k):=by have:=(wa.mp q).1;have:=B.len;lia
 have hv:k[j]?=Y k[j]:=jg z;have:=jd<|B.view q hv y;rw[hv,this]
end
abbrev Ap:=List (D×Bool)->Option ((D×Bool)×Dn)
def IU(K:iJ)(d:Ap):Sp:=λvs U Q _=> ∃T a r b,ER K U T (vs.map Y) (a.map Y)/\d a=Y (r,b)/\ ∀v c,Ms K T (vs.map Y) (a.map Y) U r b v c->Q v c
noncomputable def iT(args:List (D×Bool))(δ:Dn):Dn:=args.zipIdx.map λp=>if p.1.2=J then(δ[p.2]?).join else Y p.1
def Q1(n np:Nat)(a:jw)(f:FS):Ap:=λargs=>
 if (Ls args)=np/\np<=n/\(args.zipIdx.all λp=>!(p.1.2&&a.contains p.2))=J then
  match f (args.map Y++ah (n-np) I) with
  |some (.rt r δ)=>Y (r,iT args δ)
  |some (.nx δ)=>Y ((.T1,C),iT args δ)
  |_=>I
 else I
def agj(a:List (D×Bool))(b:Dn)(i:Nat):(iT a b)[i]?=a[i]?.map λx=>if x.2=J then(b[i]?).join else Y x:=by
 unfold iT;rw[kl,Ii]
 cases a[i]? with
 |none=>rfl
 |some x=>simp
def mU(h:x.join=Y p):x=Y (Y p):=by
 cases x with
 |none=>cases h
 |some y=>exact mC Y h
section
variable {K:iJ}{T:SI}{A:jK}{k:List V}{f:List (D×Bool)}{H q:Hp}{m:Nat}{l:L2.St}{g:Dn}{r:D×Bool}{v:V}
def F5{b:Type}{a:List b}{m i:Nat}{y:b}:(a.map Y++ah m I)[i]?=Y (Y y)↔a[i]?=Y y:=by
 by_cases h:i<Ls a
 .rw[pA<|by simpa using h,kl];cases a[i]?<;>simp
 .rw[pB<|by simpa using h];constructor
  .intro e;rw[EH] at e;split at e<;>cases e
  .intro e;exact absurd (wa.mp e).1 h
def tH{b:Type}{a:List b}{i:Nat}{y:b}:(a.map Y)[i]?=Y (Y y)↔a[i]?=Y y:=by rw[kl];cases a[i]?<;>simp
def M6{i:Nat}{a:hJ}:NR (k.map Y++ah m I) (f.map Y++ah m I) i a↔NR (k.map Y) (f.map Y) i a:=by unfold NR;simp only[F5,tH]
def GD:W3 σ b a↔ ∃i,NR σ b i a:=Iff.rfl
def PJ:W3 (k.map Y++ah m I) (f.map Y++ah m I) a↔W3 (k.map Y) (f.map Y) a:=by rw[GD,GD];exact exists_congr λi=>M6
def ER.pad(E:ER K H T (k.map Y) (f.map Y)):ER K H T (k.map Y++ah m I) (f.map Y++ah m I):=by
 have len:(Ls k)=(Ls f):=by simpa using E.len
 refine⟨by simp[len],λi d h=>?_,λi d h=>?_,λi j d e a h1 o p s=>?_,λa z=>E.nT a<|PJ.mp z,E.dom⟩
 .obtain⟨w,c,n⟩:=E.val i d<|tH.mpr<|F5.mp h;exact⟨w,F5.mpr<|tH.mp c,Rep.mono (λ_ _ e _=>e) (λb _ z=>z.imp PJ.mp id) n⟩
 .obtain⟨w,c,n⟩:=E.own i d<|tH.mpr<|F5.mp h;exact⟨w,F5.mpr<|tH.mp c,n.mono (λ_ _ e _=>e) (λb _ z=>z.imp PJ.mp id) λ_ e=>e⟩
 .exact E.inj i j d e a (tH.mpr<|F5.mp h1) (tH.mpr<|F5.mp o) (tH.mpr<|F5.mp p) (tH.mpr<|F5.mp s)
def KC{J:SI}(E:ER K H T (k.map J4) (f.map J4))(S:SK A (k.map J4++ah m KE) (f.map J4++ah m KE) H l g q)(hA: ∀(i:Nat) d,f[i]?=J4 (d,K0)-> ¬A i)
  (Q:ER K q J l g)(hT: ∀b,H b≠KE->J b->T b):ER K q J (k.map J4) (iT f g)/\(∀b,W3 (k.map J4) (iT f g) b->W3 l g b)/\Ar (k.map J4) (f.map J4) H (iT f g) q:=by
 have len:(Ls k)=(Ls f):=by simpa using E.len
 have s: ∀(i:Nat) d w,f[i]?=J4 (d,K0)->k[i]?=J4 w->l[i]?=J4 (J4 w):=λi d w h1 p=>by rw[S.as i<|hA i d h1];exact F5.mpr p
 have t: ∀(i:Nat) d b,(iT f g)[i]?=J4 (J4 (d,b))->(∃e,f[i]?=J4 (e,K0)/\g[i]?=J4 (J4 (d,b)))\/(b=K2/\f[i]?=J4 (d,K2)):=λi d b h=>by
  rw[agj] at h;obtain⟨⟨e,c⟩,h1,p⟩:=ja h
  cases c with
  |true=>left;exact⟨e,h1,mU<|by simpa using p⟩
  |false=>
   right;have:J4 (e,K2)=J4 (d,b):=by simpa using p
   cases this;exact⟨rfl,h1⟩
 have B: ∀i a,NR (k.map J4) (iT f g) i a->NR l g i a/\NR (k.map J4) (f.map J4) i a:=λi a a'=>by
  obtain⟨d,h1,p⟩:=a'
  rcases t i d K0 h1 with⟨e,u,x⟩|⟨z,_⟩
  .exact⟨⟨d,x,s i e _ u (tH.mp p)⟩,⟨e,tH.mpr u,p⟩⟩
  .cases z
 have G: ∀b,W3 (k.map J4) (iT f g) b->W3 l g b:=λb a'=>by
  obtain⟨i,d,h1,p⟩:=a'
  obtain⟨⟨e,I,L⟩,_⟩:=B i b ⟨d,h1,p⟩;exact⟨i,e,I,L⟩
 have C: ∀b,W3 (k.map J4) (iT f g) b->W3 (k.map J4) (f.map J4) b:=λb a'=>by
  obtain⟨i,d,h1,p⟩:=a'
  obtain⟨_,⟨e,I,L⟩⟩:=B i b ⟨d,h1,p⟩;exact⟨i,e,I,L⟩
 have kp: ∀a o,H a=J4 o-> ¬W3 (k.map J4) (f.map J4) a->q a=J4 o:=λa o e n=>S.kp a o e λz=>n<|PJ.mp z;refine⟨⟨?_,λi d h=>?_,λi d h=>?_,λi j d e a h1 p u x=>?_,λa z=>Q.nT a<|G a z,Q.dom⟩,G,⟨kp,λi a z=>(B i a z).2,S.dm⟩⟩
 .simp[iT,len]
 .have M:i<(Ls k):=by
   have:=(wa.mp h).1;simp[iT] at this
   lia
  have hv:k[i]?=J4 k[i]:=jg M;rcases t i d K2 h with⟨e,u,x⟩|⟨_,u⟩
  .obtain⟨w,y,O⟩:=Q.val i d x;rw[s i e _ u hv] at y;cases y;exact⟨_,tH.mpr hv,Rep.mono (λ_ _ e _=>e) (λb _ z=>z.imp (G b) id) O⟩
  .obtain⟨w,y,O⟩:=E.val i d<|tH.mpr u;exact⟨w,y,Rep.mono (λb o e n=>kp b o e λz=>n<|.inl z) (λb D z=>z.imp (C b)<|hT b D) O⟩
 .have M:i<(Ls k):=by
   have:=(wa.mp h).1;simp[iT] at this
   lia
  have hv:k[i]?=J4 k[i]:=jg M;rcases t i d K0 h with⟨e,u,x⟩|⟨z,_⟩
  .obtain⟨w,y,O⟩:=Q.own i d x;rw[s i e _ u hv] at y;have N:k[i]=V.ref w:=by simpa using y
   exact⟨w,by rw[<-N];exact tH.mpr hv,O.mono (λ_ _ e _=>e) (λb _ z=>z.imp (G b) id) λ_ e=>e⟩
  .cases z
 .obtain⟨_,⟨U,I,L⟩⟩:=B i a ⟨d,h1,u⟩;obtain⟨_,⟨Y,F,P⟩⟩:=B j a ⟨e,p,x⟩;exact E.inj i j U Y a I F L P
def rH(E:ER K H T (k.map Y) (f.map Y))(S:SK A (k.map Y++ah m I) (f.map Y++ah m I) H l g q)(h: ∀(i:Nat) d,f[i]?=Y (d,J)-> ¬A i)
  (R:RV K T H r l g v q):Ms K T (k.map Y) (f.map Y) H r (iT f g) v q:=by
 obtain⟨d,b⟩:=r
 cases b with
 |false=>obtain⟨a,o⟩:=R;obtain⟨c,ow,kp⟩:=KC E S h a λ_ _ z=>z;exact⟨kp,c,Rep.mono (λ_ _ e _=>e) (λb _ z=>z.imp (ow b) id) o⟩
 |true=>obtain⟨p,rfl,j,a,ok⟩:=R;obtain⟨c,ow,kp⟩:=KC E S h a (λb n z=>z.elim id λz=>by subst z;exact absurd j n);exact⟨kp,p,rfl,j,c,ok.mono (λ_ _ e _=>e) (λb _ z=>z.imp (ow b) id) λ_ e=>e⟩
end
section
variable {P:iL}{w:iD}{K:iJ}{c:lN}{base:iK}{N:iI}{m:Nat}{b:jw}{fs:FS}{vs:List V}{H:Hp}{Q:VK}{E:XK}
def Kk(h:IU K (Q1 (Ls N) m b fs) vs H Q E):(Ls vs)=m:=by
 obtain⟨T,a,r,d,E0,e,_⟩:=h;unfold Q1 at e;split at e
 .rename_i f;have:=E0.len;simp at this;rw[this];exact f.1
 .cases e
def IZ(h:IU K (Q1 (Ls N) m b fs) vs H Q E): ∃L:LL,(∀i,L.p i->i<m)/\tS K (λi=>i∈b) L H fs {nx:=λ_ k=>Q .T1 k,rt:=Q} (L2.qo N vs) H:=by
 obtain⟨T,f,r,u,E0,e,t⟩:=h;unfold Q1 at e;split at e
 .rename_i C;obtain⟨h1,U,B⟩:=C;have l:(Ls vs)=(Ls f):=by simpa using E0.len
  refine⟨⟨λi=> ∃d,f[i]?=Y (d,K0),I⟩,λi ⟨d,hd⟩=>by have:=(wa.mp hd).1;lia,?_⟩;have J:L2.qo N vs=vs.map Y++ah (Ls N-m) I:=by unfold L2.qo;rw[l,h1]
  have o: ∀(i:Nat) d,f[i]?=Y (d,K0)-> ¬(i∈b):=λi d hd O=>by
   have G:(f.zipIdx)[i]?=Y ((d,K0),i):=by rw[Ii,hd];simp
   have:=kf.mp B _ (mq G);simp at this;exact this O
  rw[J]
  have A:FI (λi=>i∈b) ⟨λi=> ∃d,f[i]?=Y (d,K0),I⟩ H (vs.map Y++ah (Ls N-m) I) (f.map Y++ah (Ls N-m) I) H:=⟨λi a z=>by obtain⟨d,M,_⟩:=M6.mp z;exact .inl ⟨d,tH.mp M⟩,λ_ z=>z,λj I' ⟨d,hd⟩=>o j d hd I',λ_ h=>nomatch h⟩
  cases q:fs (f.map Y++ah (Ls N-m) I) with
  |none=>rw[q] at e;cases e
  |some out=>
   rw[q] at e;refine⟨_,T,out,E0.pad,A,q,?_⟩
   cases out with
   |rt Y' g=>obtain⟨rfl,rfl⟩:=iP e;exact λv s k n y=>t v k<|rH E0 n o y
   |nx g=>obtain⟨rfl,rfl⟩:=iP e;exact λs k n x=>t .T1 k<|rH (r:=(.T1,K2)) E0 n o ⟨x,Rep.GZ⟩
   |bk g=>cases e
   |ct g=>cases e
 .cases e
def X8{x qual:ay}{st:aV}{f:hJ}{g:mS}{e:iI}{k:Nat}(F:Jn K x qual st f g)(S:X0 N e (hU st))
  (n: ∀(d:ir) (A:iE) (a:List db) (s:ie) (H:Hp) (E:XK) (L:LL),(∀i,L.p i->i<Ls e)->AP k (A.deeper<|aT qual (hU st) s.heap.objs.size f d)->
   F3 (rG FK P w K c base N qual (hU st) f d A a s H E).JQ (λi=>i∈b) L H (lu st) fs):Df P w K c base FK (k+1) f g e (IU K<|Q1 (Ls N) (Ls e) b fs):=
 F.ok S (λvs H Q E h=>Kk h) λd A a s H vs Q E l h=>let⟨L,h1,j⟩:=IZ h;⟨_,n d A a s H E L h1 l,j⟩
end
noncomputable def wu(a:Dn):Ax->Option (D×Bool)
 | .val r=>Y (r.1,C)
 | .slot i=>(a[i]?).join
def jo(δ:Dn):List Ax->Option (List<|D×Bool)
 |[]=>Y []
 |o::os=>(wu δ o).bind λa=>(jo δ os).bind λl=>Y (a::l)
@[simp] def aam(o:Ax)(a:D×Bool):List Nat:=match o with
 | .slot i=>if a.2=J then[i] else[]
 | .val _=>[]
noncomputable def iM:List Ax->List (D×Bool)->List Nat
 |[],_=>[]
 |_::_,[]=>[]
 |o::os,a::as=>aam o a++iM os as
@[simp] def wb1(o:Ax)(a:D×Bool)(x:Sl)(b:Dn):Dn:=match o with
 | .slot i=>if a.2=J then b.set i x else b
 | .val _=>b
noncomputable def wb:List Ax->List (D×Bool)->Dn->Dn->Dn
 |[],_,_,δ=>δ
 |_::_,[],_,δ=>δ
 |_::_,_::_,[],δ=>δ
 |o::os,a::as,x::outs,δ=>wb os as outs<|wb1 o a x δ
def iB(a:Ap)(fs:List FO):F:=λδ=>(kx fs δ).bind λp=>(jo p.2 p.1).bind λargs=>if(iM p.1 args).Nodup then(a args).bind λq=>Y (q.1,wb p.1 args q.2 p.2) else I
def nY{δ:Dn}: ∀{os:List Ax} {as:List (D×Bool)},jo δ os=Y as->Ls as=os.length/\ ∀(j:Nat) a,as[j]?=Y a-> ∃o,os[j]?=Y o/\wu δ o=Y a:=by
 intro k
 induction k with
 |nil=>intro as h;cases h;exact⟨rfl,λj d h=>by simp at h⟩
 |cons o os i=>
  intro as h;unfold jo at h;obtain⟨d,h1,h⟩:=hG h;obtain⟨l,c,h⟩:=hG h;cases h;obtain⟨f,g⟩:=i c;refine⟨by simp[f],λj e b=>?_⟩
  cases j with
  |zero=>simp at b;subst b;exact⟨o,rfl,h1⟩
  |succ j=>obtain⟨m,n,p⟩:=g j e (by simpa using b);exact⟨m,by simpa using n,p⟩
theorem vq: ∀{os:List Ax} {as:List (D×Bool)} {j i:Nat} {d:D},os[j]?=Y (.slot i)->as[j]?=Y (d,J)->i∈iM os as
 |[],_,_,_,_,h,_=>by simp at h
 |_::_,[],_,_,_,_,h=>by simp at h
 |o::os,(e,b)::as,0,i,d,h1,a=>by simp at h1 a;obtain⟨rfl,rfl⟩:=a;subst h1;simp[iM]
 |o::os,(e,b)::as,j+1,i,d,h1,a=>by
  have c:=vq (os:=os) (as:=as) (j:=j) (i:=i) (d:=d) (by simpa using h1) (by simpa using a)
  cases o with
  |val r=>simpa[iM] using c
  |slot k=>
   cases b with
   |true=>simp[iM,c]
   |false=>simpa[iM] using c
theorem DK: ∀{os:List Ax} {as:List (D×Bool)} {i:Nat},i∈iM os as-> ∃(j:Nat) (d:D),os[j]?=Y (.slot i)/\as[j]?=Y (d,J)
 |[],_,_,h=>by simp[iM] at h
 |o::_,[],_,h=>by cases o<;>simp[iM] at h
 |o::os,(e,b)::as,i,h=>by
  have a:i∈iM os as-> ∃(j:Nat) (d:D),(o::os)[j]?=Y (.slot i)/\((e,b)::as)[j]?=Y (d,J):=λh=>by obtain⟨j,d,h1,c⟩:=DK h;exact⟨j+1,d,by simpa using h1,by simpa using c⟩
  cases o with
  |val r=>exact a (by simpa[iM] using h)
  |slot k=>
   cases b with
   |true=>
    simp[iM] at h;rcases h with rfl|h
    .exact⟨0,e,rfl,rfl⟩
    .exact a h
   |false=>exact a (by simpa[iM] using h)
theorem DL: ∀{os:List Ax} {as:List (D×Bool)} {j k i:Nat} {d e:D},(iM os as).Nodup->os[j]?=Y (.slot i)->as[j]?=Y (d,J)->os[k]?=Y (.slot i)->as[k]?=Y (e,J)->j=k
 |[],_,_,_,_,_,_,_,h,_,_,_=>by simp at h
 |_::_,[],_,_,_,_,_,_,_,h,_,_=>by simp at h
 |o::os,(n,b)::as,j,k,i,d,e,a,h1,c,f,g=>by
  cases j with
  |zero=>
   cases k with
   |zero=>rfl
   |succ k=>simp at h1 c;obtain⟨rfl,rfl⟩:=c;subst h1;have:=vq (os:=os) (as:=as) (j:=k) (by simpa using f) (by simpa using g);simp[iM] at a;exact absurd this a.1
  |succ j=>
   cases k with
   |zero=>simp at f g;obtain⟨rfl,rfl⟩:=g;subst f;have:=vq (os:=os) (as:=as) (j:=j) (by simpa using h1) (by simpa using c);simp[iM] at a;exact absurd this a.1
   |succ k=>
    have l:(iM os as).Nodup:=by
     cases o with
     |val r=>simpa[iM] using a
     |slot m=>
      cases b with
      |true=>simp[iM] at a;exact a.2
      |false=>simpa[iM] using a
    have:=DL (os:=os) (as:=as) (j:=j) (k:=k) l (by simpa using h1) (by simpa using c) (by simpa using f) (by simpa using g)
    lia
theorem Bl: ∀{os:List Ax} {as:List (D×Bool)} {a δ:Dn} {i:Nat},i∉iM os as->(wb os as a δ)[i]?=δ[i]?
 |[],_,_,_,_,_=>by simp[wb]
 |o::_,[],_,_,_,_=>by cases o<;>simp[wb]
 |o::os,(e,b)::as,[],_,_,_=>by cases o<;>cases b<;>simp[wb]
 |o::os,(e,b)::as,x::a,δ,i,h=>by
  cases o with
  |val r=>simp only[wb];exact Bl (by simpa[iM] using h)
  |slot k=>
   cases b with
   |true=>simp[iM] at h;rw[wb,Bl h.2];exact mD<|tX h.1
   |false=>simp only[wb];exact Bl (by simpa[iM] using h)
theorem Bm: ∀{os:List Ax} {as:List (D×Bool)} {a δ:Dn},(wb os as a δ).length=Ls δ
 |[],_,_,_=>by simp[wb]
 |o::_,[],_,_=>by cases o<;>simp[wb]
 |o::os,(e,b)::as,[],_=>by cases o<;>cases b<;>simp[wb]
 |o::os,(e,b)::as,x::a,δ=>by
  cases o with
  |val r=>simp only[wb];exact Bm
  |slot k=>
   cases b with
   |true=>simp only[wb];rw[Bm];exact vY
   |false=>simp only[wb];exact Bm
theorem Kb: ∀{os:List Ax} {as:List (D×Bool)} {a δ:Dn} {i j:Nat} {d:D} {x:Sl},(iM os as).Nodup->os[j]?=Y (.slot i)->as[j]?=Y (d,J)->a[j]?=Y x->i<Ls δ->(wb os as a δ)[i]?=Y x
 |[],_,_,_,_,_,_,_,_,h,_,_,_=>by simp at h
 |o::_,[],_,_,_,_,_,_,_,_,h,_,_=>by simp at h
 |o::os,(e,b)::as,[],_,_,_,_,_,_,_,_,h,_=>by simp at h
 |o::os,(e,b)::as,y::a,δ,i,0,d,x,c,h1,f,g,l=>by simp at h1 f g;obtain⟨rfl,rfl⟩:=f;subst h1;subst g;simp[iM] at c;rw[wb,Bl c.1];exact tU l
 |o::os,(e,b)::as,y::a,δ,i,j+1,d,x,c,h1,f,g,l=>by
  have n:(iM os as).Nodup:=by
   cases o with
   |val r=>simpa[iM] using c
   |slot m=>
    cases b with
    |true=>simp[iM] at c;exact c.2
    |false=>simpa[iM] using c
  cases o with
  |val r=>simp only[wb];exact Kb n (by simpa using h1) (by simpa using f) (by simpa using g) l
  |slot k=>
   cases b with
   |true=>simp only[wb];exact Kb n (by simpa using h1) (by simpa using f) (by simpa using g) (by show i<(δ.set k y).length;rw[vY];exact l)
   |false=>simp only[wb];exact Kb n (by simpa using h1) (by simpa using f) (by simpa using g) l
section
variable {K:iJ}{T u:SI}{l:L2.St}{δ f:Dn}{H m s:Hp}{os:List Ax}{vs:List V}{c:List (D×Bool)}{g:Dn}{r:D×Bool}{v:V}
noncomputable def Tc(T:SI)(l:L2.St)(f:Dn)(vs:List V)(c:List (D×Bool)):SI:=λa=>T a\/(W3 l f a/\ ¬W3 (vs.map Y) (c.map Y) a)
def yh(B:Ops K T l δ H os vs f m u)(p:jo f os=Y c){j:Nat}{d:D}(h:c[j]?=Y (d,J)): ∃(i:Nat) (a:hJ),os[j]?=Y (.slot i)/\f[i]?=Y (Y (d,J))/\vs[j]?=Y (.ref a)/\l[i]?=Y (Y<|.ref a):=by
 obtain⟨w,q⟩:=nY p;obtain⟨o,h1,b⟩:=q j _ h
 cases o with
 |val r=>cases b
 |slot i=>
  have e:f[i]?=Y (Y (d,J)):=mU b;have t:j<(Ls vs):=by have:=(wa.mp h1).1;have:=B.len;lia
  have hv:vs[j]?=Y vs[j]:=jg t;have k:=B.slt j i _ h1 hv;obtain⟨a,n,_⟩:=B.er.own i d e;rw[k] at n;have:vs[j]=V.ref a:=by simpa using n
  exact⟨i,a,h1,e,by rw[hv,this],by rw[k,this]⟩
def GX(B:Ops K T l δ H os vs f m u)(n:jo f os=Y c){j:Nat}{a:hJ}(h:NR (vs.map Y) (c.map Y) j a): ∃(i:Nat) (d:D),os[j]?=Y (.slot i)/\c[j]?=Y (d,J)/\NR l f i a:=by obtain⟨d,h1,k⟩:=h;have e:=tH.mp h1;obtain⟨i,b,o,p,q,t⟩:=yh B n e;have:=tH.mp k;rw[q] at this;cases this;exact⟨i,d,o,e,d,p,t⟩
def K9(B:Ops K T l δ H os vs f m u)(k:jo f os=Y c)(h:W3 (vs.map Y) (c.map Y) a):W3 l f a:=by obtain⟨j,d,h1,b⟩:=h;obtain⟨i,_,_,_,e,n,o⟩:=GX B k ⟨d,h1,b⟩;exact⟨i,e,n,o⟩
def yJ(E:ER K H T l δ)(B:Ops K T l δ H os vs f m u)(n:jo f os=J4 c)(nd:(iM os c).Nodup):ER K m (Tc T l f vs c) (vs.map J4) (c.map J4):=by
 obtain⟨F,Y⟩:=nY n
 have sub: ∀b,(W3 (vs.map J4) (c.map J4) b\/Tc T l f vs c b)->W3 l f b\/T b:=λb z=>by
  rcases z with z|z|z
  .exact .inl (K9 B n z)
  .exact .inr z
  .exact .inl z.1
 refine⟨by simp[F,B.len],λj d h=>?_,λj d h=>?_,λj k d e a h1 p x y=>?_,λa z t=>?_,λa z=>?_⟩
 .have h:=tH.mp h;obtain⟨o,h1,p⟩:=Y j _ h;have D:j<(Ls vs):=by have:=(wa.mp h1).1;have:=B.len;lia
  have hv:vs[j]?=J4 vs[j]:=jg D;refine⟨_,tH.mpr hv,?_⟩
  cases o with
  |val q=>
   have:q.1=d:=by cases p;rfl
   subst this;exact Rep.mono (λ_ _ e _=>e) (λb _ z=>sub b z)<|B.rep E h1 hv
  |slot i=>
   have x:f[i]?=J4 (J4 (d,K2)):=mU p;have y:=B.slt j i _ h1 hv;obtain⟨w,Q,R⟩:=B.er.val i d x;rw[y] at Q;have:vs[j]=w:=by simpa using Q
   rw[this];exact Rep.mono (λ_ _ e _=>e) (λb _ z=>(sub b z).imp id<|B.tt b) R
 .obtain⟨i,a,O,A,C,I⟩:=yh B n<|tH.mp h;obtain⟨b,L,U⟩:=B.er.own i d A;rw[I] at L;cases L;exact⟨a,tH.mpr C,U.mono (λ_ _ e _=>e) (λb _ z=>(sub b z).imp id<|B.tt b) λ_ e=>e⟩
 .obtain⟨i,S,O,A,G,C,I⟩:=GX B n ⟨d,h1,x⟩;obtain⟨P,V,g1,g2,J,M,N⟩:=GX B n ⟨e,p,y⟩;have:=B.er.inj i P G J a C M I N;subst this;exact DL nd O A g1 g2
 .rcases t with t|t
  .exact B.er.nT a (K9 B n z) (B.tt a t)
  .exact t.2 z
 .rcases z with z|z
  .exact B.er.dom a (B.tt a z)
  .exact B.er.JY z.1
def LB{T' Td:SI}(E:ER K H T l δ)(B:Ops K T l δ H os vs f m u)(N:jo f os=J4 c)(nd:(iM os c).Nodup)(kC:Ar (vs.map J4) (c.map J4) m g s)
  (Y:ER K s Td (vs.map J4) g)(t1: ∀b,Tc T l f vs c b->Td b)(t2: ∀b,T' b->Td b)(t3: ∀b,m b≠KE->T' b->T b):
  ER K s T' l (wb os c g f)/\(∀b,W3 l (wb os c g f) b->W3 (vs.map J4) g b\/Tc T l f vs c b)/\Ar l f m (wb os c g f) s:=by
 obtain⟨hl,hg⟩:=nY N;have ol:(Ls g)=(Ls c):=by have:=Y.len;have:=B.len;simp at*;lia
 have R: ∀(i:Nat) (x:Sl),(wb os c g f)[i]?=J4 x->(i∉iM os c/\f[i]?=J4 x)\/ ∃(j:Nat) (d:D),os[j]?=J4 (.slot i)/\c[j]?=J4 (d,K0)/\g[j]?=J4 x:=λi x h=>by
  by_cases A:i∈iM os c
  .right;obtain⟨j,d,h1,p⟩:=DK A;have hj:j<(Ls g):=by have:=(wa.mp p).1;lia
   have X:g[j]?=J4 g[j]:=jg hj;have hi:i<(Ls f):=by have:=(wa.mp h).1;rwa [Bm] at this
   have:=Kb (δ:=f) nd h1 p X hi;rw[h] at this;cases this;exact⟨j,d,h1,p,X⟩
  .left;rw[Bl A] at h;exact⟨A,h⟩
 have I: ∀{i:Nat} {a:hJ},i∉iM os c->NR l f i a-> ¬W3 (vs.map J4) (c.map J4) a:=λ{i a} A ⟨e,q,C'⟩ ⟨j,d,h1,p⟩=>by obtain⟨P,d2,g1,g2,S,G,g4⟩:=GX B N ⟨d,h1,p⟩;have:=B.er.inj i P e S a q G C' g4;subst this;exact A<|vq g1 g2
 have U: ∀i a,NR l (wb os c g f) i a->NR l f i a/\(W3 (vs.map J4) g a\/Tc T l f vs c a):=λi a a'=>by
  obtain⟨d,h1,p⟩:=a'
  rcases R i _ h1 with⟨A,y⟩|⟨j,e,g1,g2,G⟩
  .exact⟨⟨d,y,p⟩,.inr<|.inr ⟨⟨i,d,y,p⟩,I A ⟨d,y,p⟩⟩⟩
  .obtain⟨P,b,q,C',J,L⟩:=yh B N g2;rw[g1] at q;cases q;rw[p] at L;cases L;exact⟨⟨e,C',p⟩,.inl ⟨j,d,G,tH.mpr J⟩⟩
 have W: ∀b,W3 l (wb os c g f) b->W3 (vs.map J4) g b\/Tc T l f vs c b:=λb ⟨i,d,h1,p⟩=>(U i b ⟨d,h1,p⟩).2
 have F: ∀b,W3 l (wb os c g f) b->W3 l f b:=λb a'=>by
  obtain⟨i,d,h1,p⟩:=a'
  obtain⟨⟨e,q,C'⟩,_⟩:=U i b ⟨d,h1,p⟩;exact⟨i,e,q,C'⟩
 have kp: ∀a o,m a=J4 o-> ¬W3 l f a->s a=J4 o:=λa o e n=>kC.kp a o e λz=>n<|K9 B N z
 have O: ∀b,(W3 l (wb os c g f) b\/T' b)->W3 (vs.map J4) g b\/Td b:=λb z=>by
  rcases z with z|z
  .exact(W b z).imp id (t1 b)
  .exact .inr (t2 b z)
 refine⟨⟨by rw[Bm];exact B.er.len,λi d h=>?_,λi d h=>?_,λi k d e a h1 p y h4=>?_,λa z t=>?_,λa z=>Y.dom a<|t2 a z⟩,W,⟨kp,λi a z=>(U i a z).1,kC.dm⟩⟩
 .rcases R i _ h with⟨A,y⟩|⟨j,e,g1,g2,G⟩
  .obtain⟨w,Q,M⟩:=B.er.val i d y;exact⟨w,Q,Rep.mono (λb o e n=>kp b o e λz=>n<|.inl z) (λb V z=>z.imp (F b) λz=>B.tt b<|t3 b V z) M⟩
  .obtain⟨P,b,q,C',J,L⟩:=yh B N g2;rw[g1] at q;cases q;obtain⟨w,Q,M⟩:=Y.val j d G;have:=tH.mp Q;rw[J] at this;cases this;exact⟨_,L,Rep.mono (λ_ _ e _=>e) (λb _ z=>O b z) M⟩
 .rcases R i _ h with⟨A,y⟩|⟨j,e,g1,g2,G⟩
  .obtain⟨a,Q,M⟩:=B.er.own i d y;exact⟨a,Q,M.mono (λb o e n=>kp b o e λz=>n<|.inl z) (λb V z=>z.imp (F b) λz=>B.tt b<|t3 b V z) λo e=>kC.kp a o e<|I A ⟨d,y,Q⟩⟩
  .obtain⟨P,b,q,C',J,L⟩:=yh B N g2;rw[g1] at q;cases q;obtain⟨a,Q,M⟩:=Y.own j d G;have:=tH.mp Q;rw[J] at this;cases this;exact⟨_,L,M.mono (λ_ _ e _=>e) (λb _ z=>O b z) λ_ e=>e⟩
 .obtain⟨⟨Z,q,C'⟩,_⟩:=U i a ⟨d,h1,y⟩;obtain⟨⟨S,J,L⟩,_⟩:=U k a ⟨e,p,h4⟩;exact B.er.inj i k Z S a q J C' L
 .exact B.er.nT a (F a z) (B.tt a<|t3 a (B.er.JO<|F a z) t)
def qd(E:ER K H T l δ)(B:Ops K T l δ H os vs f m u)(k:jo f os=Y c)(o:(iM os c).Nodup)(P:Ms K (Tc T l f vs c) (vs.map Y) (c.map Y) m r g v s):
  Ms K T l δ H r (wb os c g f) v s:=by
 obtain⟨d,b⟩:=r
 cases b with
 |false=>
  obtain⟨kC,h,w⟩:=P;obtain⟨i,ow,j⟩:=LB (T':=T) E B k o kC h (λ_ z=>z) (λ_ z=> .inl z) λ_ _ z=>z;refine⟨B.keep.trans j,i,Rep.mono (λ_ _ e _=>e) (λb _ z=>?_) w⟩;rcases z with z|z
  .exact ow b z
  .exact .inr (.inl z)
 |true=>
  obtain⟨kC,p,rfl,n,h,ok⟩:=P;obtain⟨i,ow,j⟩:=LB (T':=λa=>T a\/a=p) E B k o kC h (λ_ z=> .inl z) (λb z=>z.elim (λz=> .inl (.inl z)) .inr) (λb t z=>z.elim id λz=>by subst z;exact absurd n t);refine⟨B.keep.trans j,p,rfl,?_,i,ok.mono (λ_ _ e _=>e) (λb _ z=>?_) λ_ e=>e⟩
  .cases q:H p with
   |none=>rfl
   |some x=>exact absurd n<|B.keep.dm p (by rw[q];simp)
  .rcases z with z|z|z
   .exact(ow b z).imp id .inl
   .exact .inr (.inl<|.inl z)
   .exact .inr (.inr z)
end
section
variable {X:Cx}{e:iq}{b:kj}{fs:List FO}{a p:bq}{k:Nat}{f:hJ}{g:mS}{d:iI}{c:Ap}{x:ay}
def S0(F:Df X.prog X.w X.K X.mg X.base FK k f g d (IU X.K c))(L:AP k X.A)(C:Gl X x)(I:X.mg x=J4 (.ref f))(hk:ca X.K (.ref f)=K0)(y:Binds X.K g d [])
  (u:PA X (e::b) (tA X.K fs))(G:(x==("__debug__":ay))=K2)(z:ag (e::b) X.env=(K2,aQ e X.env)::ag b X.env)(s:(aF a<|ag b X.env).any (·.1)=K2):
  PX X (.Call (.Name x p) (e::b) [] a) (iB c fs):=PX.imp (KA F L C I hk y (.nil) PF u G z s) λN H Q O=>by
 obtain⟨J,T,Y,M,E,e,k⟩:=O;obtain⟨⟨os,j⟩,h1,e⟩:=hG e;obtain⟨h,l,e⟩:=hG e;dsimp only at e;split at e
 .rename_i m;obtain⟨⟨r,i⟩,t,e⟩:=hG e;obtain⟨rfl,rfl⟩:=iP e;refine⟨J,T,os,j,E,h1,λn q U B=>?_⟩;show IU X.K c (n++[]) q Q E0;rw[xH];exact⟨Tc T N j n h,h,r,i,yJ E B l m,t,λv o P=>k v o<|qd E B l m P⟩
 .cases e
end
structure Ju(A:jK)(d:hJ)(σ:L2.St)(δ:Dn)(H:Hp)(σ':L2.St)(δ':Dn)(H':Hp):Prop where
 kp: ∀a o,H a=J4 o-> ¬W3 σ δ a->a≠d->H' a=J4 o
 owi: ∀i a,NR σ' δ' i a->NR σ δ i a\/H a=KE\/(A i/\ ∃j,A j/\NR σ δ j a)
 dm: ∀a,H a≠KE->H' a≠KE
 as: ∀i,¬A i->σ'[i]?=σ[i]?
section
variable {A:jK}{d:hJ}{c b f:L2.St}{δ δ1 δ2:Dn}{H g l:Hp}
def SK.MT(k:SK A c δ H b δ1 g):Ju A d c δ H b δ1 g:=⟨λa o e n _=>k.kp a o e n,k.owi,k.dm,k.as⟩
def Ju.ow(k:Ju A d c δ H b δ1 g)(a:hJ)(h:W3 b δ1 a):W3 c δ a\/H a=I:=by
 obtain⟨i,e,h1,o⟩:=h;rcases k.owi i a ⟨e,h1,o⟩ with⟨e,m,n⟩|z|⟨_,j,_,e,m,n⟩
 .exact .inl ⟨i,e,m,n⟩
 .exact .inr z
 .exact .inl ⟨j,e,m,n⟩
def Ju.trans(x:Ju A d c δ H b δ1 g)(y:Ju A d b δ1 g f δ2 l):Ju A d c δ H f δ2 l where
 kp:=λa o e n p=>y.kp a o (x.kp a o e n p) (λz=>(x.ow a z).elim n λz=>by rw[z] at e;cases e) p
 owi:=λi a z=>(y.owi i a z).elim (x.owi i a) λz=>z.elim (λz=> .inr (.inl (by
  cases h:H a with
  |none=>rfl
  |some o=>exact absurd z<|x.dm a<|by rw[h];simp))) λ⟨m,j,q,z⟩=>(x.owi j a z).elim (λz=> .inr (.inr ⟨m,j,q,z⟩)) λz=>z.elim (λz=> .inr (.inl z)) λ⟨_,k,ak,z⟩=> .inr (.inr ⟨m,k,ak,z⟩)
 dm:=λa z=>y.dm a<|x.dm a z
 as:=λi h=>(y.as i h).trans<|x.as i h
end
noncomputable def xZ(p:(Int->Bool)×Nat)(d:D):(Int->Bool)×Nat:=match d with
 | .int k=>(λa=>p.1 a||decide (a=k),if p.1 k then p.2 else p.2+1)
 |_=>p
def nJ(l:List D):(Int->Bool)×Nat:=l.foldl xZ (λ_=>C,0)
def DA(l:List D)(k:Int):nJ (l++[.int k])=((λa=>(nJ l).1 a||decide (a=k)),if(nJ l).1 k then(nJ l).2 else(nJ l).2+1):=by unfold nJ;rw[j5];rfl
def SO: ∀(l:List D) (p:(Int->Bool)×Nat),(l.foldl xZ p).2<=p.2+(Ls l):=by
 intro b
 induction b with
 |nil=>intro p;exact jM _
 |cons d l a=>
  intro p;have:=a<|xZ p d
  have h:(xZ p d).2<=p.2+1:=by
   unfold xZ;split
   .dsimp only;split<;>lia
   .lia
  simp only[rP,kO]
  lia
def AtD(S:Option Bool)(K:iJ)(U:Hp)(O:SI)(d:hJ)(a:List D):Prop:=match S with
 |some C=> ∃c,U d=Y (.lst c)/\YP K U O a c
 |some J=>U d=Y (.set (nJ a).1 (nJ a).2)
 |none=> ∃b,C8 K (U d) .set [] a b/\YP K U O a b
structure BS(S:Option Bool)(K:iJ)(d:hJ)(T:SI)(σ:L2.St)(δ:Dn)(acc:List D)(H:Hp):Prop where
 er:ER K H T σ δ
 td:T d
 at':AtD S K H (λa=>W3 σ δ a\/T a) d acc
abbrev FB:=List D->Dn->Option (List D×Dn)
def JM(S:Option Bool)(K:iJ)(A:jK)(d:hJ)(f:FB):TB:=λh U N=> ∃e T c g a,BS S K d T h e c U/\f c e=Y (g,a)/\ ∀b H',Ju A d h e U b a H'->BS S K d T b a g H'->N b H'
noncomputable def jm(f:F):FB:=λacc δ=>(f δ).bind λp=>if (Ls acc)<sizeLine then Y (acc++[p.1.1],p.2) else I
noncomputable def jH(b:Tg)(ti:FT)(a:FB):List D->FB
 |[],acc,δ=>Y (acc,δ)
 |x::xs,acc,δ=>(b x δ).bind λδ1=>(ti δ1).bind λp=>(if p.1=J then a acc p.2 else Y (acc,p.2)).bind λq=>jH b ti a xs q.1 q.2
def FR(c:Cf)(d:Tg)(ti:FT)(b:FB):FB:=λa e=>(c e).bind λp=>jH d ti b p.1 a p.2
section
variable {K:iJ}{A:jK}{d:hJ}{T:SI}{f r:L2.St}{j s:Dn}{p:List D}{H q:Hp}
def BS.step(b:BS S K d T f j p H)(k:SK A f j H r s q)(t:ER K q T r s):BS S K d T r s p q:=by
 refine⟨t,b.td,?_⟩;have h:=b.at'
 have m: ∀{l:List D} {i:List V},YP K H (λa=>W3 f j a\/T a) l i->YP K q (λa=>W3 r s a\/T a) l i:=λg=>by
  refine YP.mono (λb o e n=>k.kp b o e λz=>n<|.inl z) (λc u z=>?_) g;rcases z with z|z
  .exact(k.ow c z).elim aW λz=>absurd z u
  .exact .inr z
 rcases S with _|_|_
 .obtain⟨v,h1,g⟩:=h;exact⟨v,h1.keep λo e=>k.kp d o e λz=>b.er.nT d z b.td,m g⟩
 .obtain⟨i,h1,g⟩:=h;exact⟨i,k.kp d _ h1 λz=>b.er.nT d z b.td,m g⟩
 .exact k.kp d _ h λz=>b.er.nT d z b.td
def KZ(hg: ∀v f H Q,tG K A tg v f H Q->g v f H Q)(hi: ∀f H Q,tT K ft f H Q->ti f H Q)(hb: ∀f H N,JM S K A d fb f H N->tb f H N)
  (b:BS S K d T f j p H)(P O:SI)(ok:LZ K J' ds P O q)(s1: ∀a o,q a=Y o-> ¬P a->H a=Y o)(s0: ∀a,q a≠I->W3 f j a\/a=d->P a)(s2: ∀a,q a≠I->(W3 f j a\/T a)->O a)(s3: ∀a,q a≠I->H a≠I)(e:jH tg ft fb ds p j=Y (m6,B))
  (k: ∀E t,Ju A d f j H E B t->BS S K d T E B m6 t->N E t):Ki J' g ti tb f H N:=by
 refine⟨λi m l w=>m=Ls ds-i/\i<=Ls ds/\ ∃h G,Ju A d f j H l h w/\BS S K d T l h G w/\jH tg ft fb (ds.drop i) G h=Y (m6,B),⟨Ls ds,by simp,lP _,j,p,SK.refl.MT,b,by simpa using e⟩,?_⟩;rintro i m l w ⟨rfl,hle,h,G,Y',I',e2⟩
 have hO: ∀a,q a≠I->(W3 l h a\/T a)->O a:=λa W z=>by
  rcases z with z|z
  .exact(Y'.ow a z).elim (λz=>s2 a W<|.inl z) λz=>absurd z<|s3 a W
  .exact s2 a W (.inr z)
 have aG: ∀a o,q a=Y o-> ¬P a->w a=Y o:=λa o V n=>Y'.kp a o (s1 a o V n) (λz=>n<|s0 a (by rw[V];simp)<|.inl z) λz=>n<|s0 a (by rw[V];simp)<|.inr z;by_cases F:i<Ls ds
 .refine .inr ?_;have hd:ds[i]?=Y ds[i]:=jg F;obtain⟨go,yl⟩:=ok.go i _ w hd aG;rw[zd F] at e2;obtain⟨C,h3,e3⟩:=hG e2;obtain⟨⟨c,u⟩,h4,e4⟩:=hG e3;obtain⟨⟨y,M⟩,D,e5⟩:=hG e4;refine⟨go,λx t hy=>?_⟩;obtain⟨ext,rep⟩:=yl x t hy;have eW:ER K t T l h:=I'.er.mono (λb ob eb _=>ext b ob eb) (λ_ _ z=>z) λa z=>(I'.er.dom a z).up<|ext a;have SX:SK A l h w l h t:=(Ar.ext ext).sk;have R:=I'.step SX eW;have gP:Ju A d f j H l h t:=Y'.trans SX.MT;have rx:=rep (λa=>W3 l h a\/T a) hO λb hb z=>z.elim (λz=>I'.er.JO z hb) λz=>(I'.er.dom b z).ne hb;refine hg _ _ _ _ ⟨h,T,ds[i],C,eW,rx,h3,λU S3 Z=>?_⟩;have B3:=R.step S3 Z;have cE:=gP.trans S3.MT;refine hi _ _ _ ⟨C,T,c,u,Z,h4,λH4 K4 E4=>?_⟩;have S4:SK A U C t U u H4:=K4.sk;have X:=B3.step S4 E4;have L:=cE.trans S4.MT
  cases c with
  |false=>rw[iG ku] at D;obtain⟨rfl,rfl⟩:=iP D;exact aav ⟨Ls ds-(i+1),by lia,rfl,F,u,G,L,X,e5⟩
  |true=>rw[iz K3] at D;exact aau<|hb _ _ _ ⟨u,T,G,y,M,X,D,λσ5 H5 S5 B5=>⟨Ls ds-(i+1),by lia,rfl,F,M,y,L.trans S5,B5,e5⟩⟩
 .refine .inl ⟨ok.stop i w (by lia) aG,?_⟩;rw[A7<|by lia] at e2;obtain⟨rfl,rfl⟩:=iP e2;exact k l w Y' I'
end
section
variable {X:Cx}{A:jK}{d:hJ}{b:iq}{f:F}
def PB.imp'{code:da Unit}{t e:TB}(h:PB X code t)(k: ∀c U N,e c U N->t c U N):PB X code e:=λa s c U N T g=>h a s c U N T<|k c U N g
def TJ{S:Option Bool}{e:iq}{depth:Nat}{c:oj}{r:Cf}{u:Tg}{s:FT}{q:FB}(M:X.xe=λ_ _=>False)(hc:X.calm=K0)
  (hl:(∃b g l p,e= .ListComp b g l p)\/(∃b g l p,e= .SetComp b g l p))(hg:(bY e)[depth+1]?=J4 c)(Y:c.is_async=0)(l4: ∀t,(bY e)[depth+1+1]?=J4 t->t.is_async=0)
  (hs: ∀x,aw c.iter X.env x=pure x)(pi:MP X (λ_=>False) c.target c.iter r)(pg:ME X A c.target u)(G:Jv X c.ifs (tT X.K s))(pb:PB X (je e (depth+1) (.ref d) X.env) (JM S X.K A d q)):
  PB X (je e depth (.ref d) X.env) (JM S X.K A d<|FR r u s q):=PB.imp' (Xl M hc hl hg Y l4 hs pi pg G pb) λw H N D=>by
 obtain⟨v,T,Q,P,F,B,e,k⟩:=D;obtain⟨⟨U,j⟩,h1,e⟩:=hG e;refine⟨v,T,U,j,B.er,h1,λJ I L C ok=>?_⟩;have n:SK A w v H w j I:=L.sk;exact KZ (λ_ _ _ _ h=>h) (λ_ _ _ h=>h) (λ_ _ _ h=>h) (B.step n C) _ _ ok (λa o e _=>e) (λa _ z=>z.elim (λa'=>by obtain⟨i,x,z⟩:=a';exact .inl ⟨i,id,x,z⟩) λz=> .inr (z▸B.td)) (λa _ z=>z) (λa z=>z) e λm E O y=>k m E (n.MT.trans O) y
end
def jn(caps:jw)(k:Nat)(fi:Cf)(tg:Tg)(ti:FT)(fb:FB):F:=λδ=>(fi δ).bind λp=>(jo p.2<|caps.map .slot).bind λargs=>if(iM (caps.map .slot) args).Nodup then(jH tg ti fb p.1 []<|args.map Y++ah k I).bind λq=>Y ((.lst q.1,J),wb (caps.map .slot) args (iT args q.2) p.2) else I
noncomputable def tD(a:jw)(k:Nat)(b:L2.St):L2.St:=(a.map λj=>(b[j]?).join)++ah k I
def o0(S:Option Bool):HO:=match S with
 |some C=> .lst []
 |some J=> .set (λ_=>C) 0
 |none=> .SS []
noncomputable def qS(S:Option Bool)(Q:VK):VK:=match S with
 |some C|none=>Q
 |some J=>λx b=> ∃S n,∃a,x= .ref a/\b a=Y (.set S n)/\Q (.int n) b
def rS(S:Option Bool)(a:List D):D×Bool:=match S with
 |some C=>(.lst a,J)
 |none=>(.R1 .set [] a,J)
 |some J=>(.int (nJ a).2,C)
def JL(S:Option Bool)(b:jw)(k:Nat)(d:Cf)(e:Tg)(f:FT)(c:FB):F:=λδ=>(d δ).bind λp=>(jo p.2<|b.map .slot).bind λa=>if(iM (b.map .slot) a).Nodup then(jH e f c p.1 []<|a.map Y++ah k I).bind λq=>Y (rS S q.1,wb (b.map .slot) a (iT a q.2) p.2) else I
def zT{S:Option Bool}{K:iJ}{f:jw}{k:Nat}{fi:Cf}{tg:Tg}{ti:FT}{fb:FB}{p:L2.St}{H:Hp}{Q:VK}(h:tF K (JL S f k fi tg ti fb) p H Q):
  tI K (λi=>i∉f) fi p H λJ' q=>Gj (o0 S) J' (tG K (λi=>Ls f<=i) tg) (tT K ti) (λd=>JM S K (λi=>Ls f<=i) d fb) (tD f k) p q (qS S Q):=by
 obtain⟨δ,T,rr,δr,E,e,kq⟩:=h;obtain⟨⟨ds,s⟩,h1,e⟩:=hG e;obtain⟨g,t,e⟩:=hG e;dsimp only at e t;split at e
 case isFalse=>cases e
 rename_i Y;obtain⟨⟨m,δ'⟩,h2,e⟩:=hG e;obtain⟨rfl,rfl⟩:=iP e;refine⟨δ,T,ds,s,E,h1,λJ' q D A ok d hd=>?_⟩;obtain⟨hl,hg⟩:=nY t;have fR:(Ls g)=(Ls f):=by simpa using hl
 let C:List V:=f.map λj=>((p[j]?).join).getD .T1
 have there: ∀(i j:Nat),f[i]?=J4 j-> ∃v,p[j]?=J4 (J4 v):=λi j l=>by
  have hi:i<(Ls g):=by have:=(wa.mp l).1;lia
  obtain⟨o,u,q2⟩:=hg i _ (jg hi);rw[kl,l] at u;cases u;have O:=mU q2;generalize g[i]=y at O;obtain⟨x,b⟩:=y
  cases b with
  |false=>obtain⟨v,h,_⟩:=A.val j x O;exact⟨v,h⟩
  |true=>obtain⟨a,h,_⟩:=A.own j x O;exact⟨_,h⟩
 have fJ: ∀(i j:Nat),f[i]?=J4 j-> ∃v,C[i]?=J4 v/\p[j]?=J4 (J4 v):=λi j l=>by obtain⟨v,hv⟩:=there i j l;refine⟨v,?_,hv⟩;show(f.map λj=>((p[j]?).join).getD .T1)[i]?=J4 v;rw[kl,l];simp[hv]
 have y3:tD f k p=C.map J4++ah k KE:=by
  unfold tD
  congr 1
  apply wQ;intro i;show _=((f.map λj=>((p[j]?).join).getD .T1).map J4)[i]?;rw[kl,kl,kl]
  cases l:f[i]? with
  |none=>rfl
  |some j=>obtain⟨v,hv⟩:=there i j l;simp[hv]
 have I:Ops K T p s q (f.map Ax.slot) C s q T:=by
  refine⟨by simp[C],.refl,A,λ_ z=>z,λj x v l=>?_,λj x v l=>?_,λj i v l hv=>?_⟩
  .rw[kl] at l;obtain⟨_,_,z⟩:=ja l;cases z
  .rw[kl] at l;obtain⟨_,_,z⟩:=ja l;cases z
  .rw[kl] at l;obtain⟨c,X,z⟩:=ja l;cases z;obtain⟨v',u,q2⟩:=fJ j i X;rw[hv] at u;cases u;exact q2
 have L:=yJ A I t Y
 have W: ∀(i:Nat) x,g[i]?=J4 (x,J)-> ¬(Ls f<=i):=λi x B=>by
  have:=(wa.mp B).1
  lia
 rw[y3];have B:=lL (o:=o0 S) hd
 have nz: ∀a,q a≠KE->upd q d (o0 S) a≠KE:=λa z=>by
  cases U:q a with
  |none=>exact absurd U z
  |some o=>rw[B a o U];simp
 have b0:BS S K d (λa=>Tc T p s C g a\/a=d) (C.map J4++ah k KE) (g.map J4++ah k KE) [] (upd q d<|o0 S):=by
  refine⟨(L.pad).mono (λb o eb _=>B b o eb) (λb hb z=>z.elim id λz=>by subst z;exact absurd hd hb) λa z=>?_,.inr K3,?_⟩
  .rcases z with z|z
   .exact(L.dom a z).up (B a)
   .subst z;rw[iQ];rcases S with _|_|_<;>trivial
  .rcases S with _|_|_
   .exact⟨[],⟨rfl,[],iQ,.nil⟩,YP.nil⟩
   .exact⟨[],iQ,YP.nil⟩
   .exact iQ
 refine KZ (λ_ _ _ _ h=>h) (λ_ _ _ h=>h) (λ_ _ _ h=>h) b0 _ _ ok (λa o N _=>B a o N) (λa R z=>?_) (λa R z=>?_) nz h2 λσ' G M w=>?_
 .rcases z with z|z
  .obtain⟨j,x,g1,g2⟩:=PJ.mp z;obtain⟨i,_,u,_,O⟩:=GX I t ⟨x,g1,g2⟩;refine .inl ⟨i,λn=>n ?_,O⟩;rw[kl] at u;obtain⟨c,X,e⟩:=ja u;cases e;exact mq X
  .subst z;exact absurd hd R
 .rcases z with z|z|z
  .exact .inl (K9 I t<|PJ.mp z)
  .rcases z with z|z
   .exact .inr z
   .exact .inl z.1
  .subst z;exact absurd hd R
 .have F:SK (λi=>Ls f<=i) (C.map J4++ah k KE) (g.map J4++ah k KE) q σ' δ' G:=
   ⟨λa o N n=>M.kp a o (B a o N) n (by intro z;subst z;rw[N] at hd;cases hd),λi a z=>(M.owi i a z).imp id λz=>z.imp (λz=>by
    cases U:q a with
    |none=>rfl
    |some o=>exact absurd z<|nz a<|by rw[U];simp) id,λa z=>M.dm a<|nz a z,M.as⟩
  rcases S with _|_|_
  .obtain⟨us,Z,ry⟩:=w.at';have P:=rH (r:=(.R1 .set [] m,J)) (v:= .ref d) L F W ⟨d,rfl,hd,w.er,us,Z,YP.mono (λ_ _ e _=>e) (λb _ z=>z) ry⟩;exact kq (.ref d) G<|(qd A I t Y P).pre D
  .obtain⟨ys,Z,ry⟩:=w.at';have P:=rH (r:=(.lst m,J)) (v:= .ref d) L F W ⟨d,rfl,hd,w.er,ys,Z,YP.mono (λ_ _ e _=>e) (λb _ z=>z) ry⟩;exact kq (.ref d) G<|(qd A I t Y P).pre D
  .have P:=rH (r:=(.int (nJ m).2,K2)) (v:= .int (nJ m).2) L F W ⟨w.er.mono (λ_ _ e _=>e) (λb _ z=> .inl z) λa z=>w.er.dom a<|.inl z,Rep.mkInt⟩;exact⟨_,_,d,rfl,w.at',kq (.int (nJ m).2) G<|(qd A I t Y P).pre D⟩
def Hj{K:iJ}{a:jw}{k:Nat}{c:Cf}{e:Tg}{ti:FT}{b:FB}{f:L2.St}{U:Hp}{Q:VK}(h:tF K (jn a k c e ti b) f U Q):
  Oe (tI K (λi=>i∉a) c) (tG K (λi=>Ls a<=i) e) (tT K ti) (λd=>JM C K (λi=>Ls a<=i) d b) (tD a k) f U Q:=zT (S:=C) h
section
variable {X:Cx}{elt:iq}{c:oj}{jl:pv}{scope:jb}{pos i7 py:bq}{N':iI}{caps:jw}{k:Nat}{fi:Cf}{tg:Tg}{ti:FT}{fb:FB}{A:jK}{L:LL}{H0:Hp}
structure Az(X:Cx)(N':iI)(scope:jb)(caps:jw)(k:Nat):Prop where
 cell: ∀y∈scope.names,y.2= .cell->scope.names.lookup y.1=J4 .cell
 kind:scope.kind= .function
 names: ∀y∈scope.names,y.2= .local->scope.names.lookup y.1=J4 .local
 free: ∀y∈scope.names,y.2= .free->X.env.scope.names.lookup y.1=J4 .cell\/X.env.scope.names.lookup y.1=J4 .free
 len:(Ls caps)+k=Ls N'
 caps: ∀(i j:Nat) (x:ay),caps[i]?=J4 j->N'[i]?=J4 x->X.N[j]?=J4 x/\scope.names.lookup x=J4 .free
def Az.Mk(U:Az X N' scope caps k):C2 X N' scope (tD caps k):=by
 refine⟨U.cell,U.kind,U.names,U.free,λd=>by simp[tD,U.len],λd i v x h1 f=>?_⟩;unfold tD at h1;by_cases b:i<Ls caps
 .rw[pA<|by simpa using b,kl,jg b] at h1;obtain⟨g,h⟩:=U.caps i caps[i] x (jg b) f;refine⟨h,caps[i],g,?_⟩;have a:(d[caps[i]]?).join=Y v:=by simpa using h1
  cases e:d[caps[i]]? with
  |none=>rw[e] at a;cases a
  |some y=>rw[e] at a;exact mC Y a
 .rw[pB<|by simpa using b,EH] at h1;split at h1<;>cases h1
def Tb(U:Az X N' scope caps k)(m:X.calm=J)(l:c.is_async=0)(o: ∀e,jl[0]?=Y e->e.is_async=0)
  (n: ∀x,aw c.iter X.env x=pure x)(q:MP X (λi=>i∉caps) c.target c.iter fi)
  (p: ∀(cl:jQ) (U:hJ) (r:ie) (f:Hp) (j:ki) (a:iX),let b:=X.comp N' scope cl U r f j a
   ME b (λi=>Ls caps<=i) c.target tg/\Jv b c.ifs (tT X.K ti)/\ ∀d,PB b (je (.ListComp elt (c::jl) scope pos) 0 (.ref d) b.env)<|JM C X.K (λi=>Ls caps<=i) d fb):
  PX X (.ListComp elt (c::jl) scope pos) (jn caps k fi tg ti fb):=PX.imp (Pu (g:=tG X.K (λi=>Ls caps<=i) tg) (ti:=tT X.K ti) (tb:=λd=>JM C X.K (λi=>Ls caps<=i) d fb) U.Mk m l o n q p) λs T Q h=>Hj h
def afY{y:ay}{i:Nat}(m:cH (.ListComp elt (c::jl) scope pos) (Y<|.Name y py) i7.line X.env=pure K0)
  (U:Az X N' scope caps k)(u:X.calm=K0)(t:c.is_async=0)(I: ∀h,jl[0]?=Y h->h.is_async=0)
  (z: ∀x,aw c.iter X.env x=pure x)(Q:MP X (λi=>i∉caps) c.target c.iter fi)(o:PG X (.Name y py) (G8 i))(s:A i)
  (O: ∀(cl:jQ) (U:hJ) (G:ie) (l:Hp) (n:ki) (a:iX),let b:=X.comp N' scope cl U G l n a
   ME b (λi=>Ls caps<=i) c.target tg/\Jv b c.ifs (tT X.K ti)/\ ∀d,PB b (je (.ListComp elt (c::jl) scope pos) 0 (.ref d) b.env)<|JM C X.K (λi=>Ls caps<=i) d fb):
  Mz X A L H0 (.Assign [.Name y py] (.ListComp elt (c::jl) scope pos) i7) (kE i<|jn caps k fi tg ti fb):=PS.imp' (Pb (g:=tG X.K (λi=>Ls caps<=i) tg) (ti:=tT X.K ti) (tb:=λd=>JM C X.K (λi=>Ls caps<=i) d fb) m U.Mk u t I z Q o O) λD M N B=>by
 obtain⟨J,T,out,E,fi,e,k⟩:=B;obtain⟨⟨r,f⟩,q,e⟩:=hG e;obtain⟨w,rfl⟩:=iR e;refine Hj ⟨J,T,r,f,E,q,λv j P=>?_⟩;obtain⟨h1,p⟩:=xS (A:=A) E P w s;exact k _ j h1 p
end
section
variable {K:iJ}{T:SI}{d:L2.St}{c:Dn}{H:Hp}{i:Nat}{l m:List D}{a:hJ}{g:List V}
def NR.Dg{j:Nat}{b:hJ}(hd:c[i]?=Y (Y (k,J)))(h:NR d (c.set i<|Y (d',J)) j b):NR d c j b:=by
 obtain⟨e,h1,f⟩:=h;rcases nq h1 with⟨rfl,_,_⟩|⟨_,q⟩
 .exact⟨_,hd,f⟩
 .exact⟨e,q,f⟩
def ER.Dg(E:ER K H T d c)(hd:c[i]?=Y (Y (N,K0)))(t:d[i]?=Y (Y<|.ref a))(r:C5 K (upd H a o) (λb=>W3 d c b\/T b) d' a):
  ER K (upd H a o) T d (c.set i<|Y (d',K0))/\Ar d c H (c.set i<|Y (d',K0)) (upd H a o):=by
 have U:i<(Ls c):=(wa.mp hd).1;have v:W3 d c a:=⟨i,_,hd,t⟩
 have B: ∀b,W3 d (c.set i<|Y (d',K0)) b->W3 d c b:=λb a'=>by
  obtain⟨j,e,h1,s⟩:=a'
  obtain⟨L,x,y⟩:=NR.Dg hd ⟨e,h1,s⟩;exact⟨j,L,x,y⟩
 have kp: ∀b u,H b=Y u-> ¬(W3 d c b\/T b)->upd H a o b=Y u:=λb u e n=>by rw[iW<|by intro z;subst z;exact n<|.inl v];exact e
 have I: ∀b,H b≠KE->upd H a o b≠KE:=λb z=>by
  by_cases C:b=a
  .subst C;rw[iQ];simp
  .rw[iW C];exact z
 have sub: ∀b,(W3 d (c.set i<|Y (d',K0)) b\/T b)->W3 d c b\/T b:=λb z=>z.imp (B b) id;refine⟨⟨by rw[vY];exact E.len,λj e h=>?_,λj e h=>?_,λj k e f b h hk h1 s=>?_,λb z=>E.nT b<|B b z,λb z=>by have ne:b≠a:=λe=>E.nT a v<|e▸z;rw[iW ne];exact E.dom b z⟩,⟨λb u e n=>by rw[iW<|by intro z;subst z;exact n v];exact e,λj b z=>NR.Dg hd z,I⟩⟩
 .rcases nq h with⟨_,_,q⟩|⟨_,q⟩
  .cases q
  .obtain⟨w,p,A⟩:=E.val j e q;exact⟨w,p,Rep.mono kp (λb _ z=>sub b z) A⟩
 .rcases nq h with⟨rfl,_,q⟩|⟨ne,q⟩
  .cases q;exact⟨a,t,r.mono (λ_ _ e _=>e) (λb _ z=>sub b z) λ_ e=>e⟩
  .obtain⟨b,p,A⟩:=E.own j e q;refine⟨b,p,A.mono kp (λb _ z=>sub b z) λu G=>?_⟩;rw[iW]
   .exact G
   .intro z;subst z;exact ne<|E.inj i j _ _ _ hd q t p
 .obtain⟨O,x,y⟩:=NR.Dg hd ⟨e,h,h1⟩;obtain⟨Q,J,M⟩:=NR.Dg hd ⟨f,hk,s⟩;exact E.inj j k O Q b x J y M
def ER.write(E:ER K H T d c)(hd:c[i]?=Y (Y (.lst l,J)))(f:d[i]?=Y (Y<|.ref a))(r:YP K H (λb=>W3 d c b\/T b) m g):
  ER K (upd H a<|.lst g) T d (c.set i<|Y (.lst m,J))/\Ar d c H (c.set i<|Y (.lst m,J)) (upd H a<|.lst g):=
 E.Dg hd f ⟨g,iQ,YP.mono (λb o e n=>by rw[iW<|by intro z;subst z;exact n<|.inl ⟨i,_,hd,f⟩];exact e) (λ_ _ z=>z) r⟩
end
noncomputable def mK(i:Nat)(f:F):F:=λa=>match a[i]? with
 |some (Y (.lst _,J))=>(f a).bind λp=>match p.2[i]? with
  |some (Y (.lst l,J))=>if (Ls l)<sizeLine then Y ((.T1,C),p.2.set i<|Y (.lst<|l++[p.1.1],J)) else I
  |_=>I
 |_=>I
def Cm(i:Nat)(f:FO):F:=λa=>match a[i]? with
 |some (Y (.lst _,J))=>(f a).bind λp=>match res p.2 p.1,p.2[i]? with
  |some (.int k),Y (Y (.lst l,J))=>if -(2^63)<=k/\k<2^63 then(Gf (Ls l) k).bind λj=>(l[j]?).bind λd=>Y ((d,C),p.2.set i<|Y (.lst<|l.eraseIdx j,J)) else I
  |_,_=>I
 |_=>I
def xg(i:Nat)(f:F)(g:FO):FS:=λa=>(f a).bind λp=>match p.2[i]? with
 |some (Y _)=>(g p.2).bind λq=>match res q.2 q.1,q.2[i]? with
  |some (.int k),Y (Y (.lst l,J))=>(Gf (Ls l) k).bind λj=>Y<|.nx<|q.2.set i<|Y (.lst<|l.set j p.1.1,J)
  |_,_=>I
 |_=>I
section
variable {X:Cx}{e c:iq}{f:F}{k:FO}{b m a g:bq}{i:Nat}{x:ay}{A:jK}{L:LL}{n:Hp}
theorem YP.erase{K U}{O:SI}: ∀{l:List D} {o:List V} (j:Nat),YP K U O l o->YP K U O (l.eraseIdx j) (o.eraseIdx j)
 |[],o,j,h=>by rw[YP] at h;subst h;simp[YP]
 |d::l,o,0,h=>by rw[YP] at h;obtain⟨v,r,rfl,h1,p⟩:=h;exact p
 |d::l,o,j+1,h=>by rw[YP] at h;obtain⟨v,r,rfl,h1,p⟩:=h;exact YP.cons h1<|YP.erase j p
end
noncomputable def Jd(tg:Tg)(f:F):FS:=λδ=>(f δ).bind λp=>(tg p.1.1 p.2).bind λδ1=>Y<|.nx δ1
section
variable {X:Cx}{A:jK}{L:LL}{m:Hp}{a b h e:iq}{fs:List F}{f:F}{t:Tg}{c l k pt d:bq}{x y:ay}{i j:Nat}{kt k2}
def Tf{id:String}{p:bq}{n:kj}{o:List FO}{g:List D->Option (D×Bool)}{z:ay}(s:kG X (.builtin id) (GR X.K g))(v:Gl X z)(w:X.mg z=I)(hv:aH z=Y (.builtin id))(r:PA X (e::n) (tA X.K o))(B:z≠"__name__")(U:(z==("__debug__":ay))=C)
  (u:ag (e::n) X.env=(C,aQ e X.env)::ag n X.env)(q:(aF c<|ag n X.env).any (·.1)=C):PX X (.Call (.Name z p) (e::n) [] c) (iO g o):=pxn<|BE s v w hv r B U u q
def S6{id:String}{p:bq}{n:kj}{o:List FO}{g:List D->Option (D×Bool)}{z:ay}(s:kG X (.type id) (GR X.K g))(v:Gl X z)(w:X.mg z=I)(hv:aH z=Y (.type id))(r:PA X (e::n) (tA X.K o))(B:z≠"__name__")(U:(z==("__debug__":ay))=C)
  (u:ag (e::n) X.env=(C,aQ e X.env)::ag n X.env)(q:(aF c<|ag n X.env).any (·.1)=C):PX X (.Call (.Name z p) (e::n) [] c) (iO g o):=pxn<|qZ s v w hv r B U u q
end
def Yu:aH "len"=Y (.builtin "len"):=by decide+kernel
def Yv:aH "abs"=Y (.builtin "abs"):=by decide+kernel
noncomputable def FL(N:iI)(c scope:jb)(b:iI)(a:jw)(k:Nat):Bool:=
 (scope.names.all λy=>y.2 != .cell||scope.names.lookup y.1==Y .cell)&&decide (scope.kind= .function)&&(scope.names.all λy=>y.2 != .local||scope.names.lookup y.1==Y .local)&&
 (scope.names.all λy=>y.2 != .free||(c.names.lookup y.1==Y .cell||c.names.lookup y.1==Y .free))&&decide (Ls a+k=Ls b)&&
 ((a.zip b).all λp=>N[p.1]?==Y p.2&&scope.names.lookup p.2==Y .free)
def JS(m:X.N=N)(p:X.env.scope=sc)(h:FL N sc scope N' a k=J):Az X N' scope a k:=by
 subst m;subst p;unfold FL at h;simp only[kU,kf,pz] at h;obtain⟨⟨⟨⟨⟨h1,c⟩,d⟩,f⟩,g⟩,l⟩:=h;refine⟨λy b e=>?_,c,λy b e=>?_,λy b e=>?_,g,λi j x n q=>?_⟩
 .have:=h1 y b;rw[e] at this;simpa using this
 .have:=d y b;rw[e] at this;simpa using this
 .have:=f y b;rw[e] at this;simpa using this
 .have o:(j,x)∈a.zip N':=by
   have:(a.zip N')[i]?=Y (j,x):=by rw[F6];exact⟨n,q⟩
   exact mq this
  have:=l _ o;simpa using this
noncomputable def jk:FT:=λδ=>Y (J,δ)
inductive Ty where
 |int|bool|str|tuple|list|dict
noncomputable def Ty.n:Ty->String
 | .int=>"int"| .bool=>"bool"| .str=>"str"| .tuple=>"tuple"| .list=>"list"| .dict=>"dict"
noncomputable def L6:D->Ty->Bool
 | .bl _,.bool=>J
 | .bl _,.int=>J
 | .int _,.int=>J
 | .str _,.str=>J
 | .tup _,.tuple=>J
 | .lst _,.list=>J
 | .R1 .dct _ _,.dict=>J
 |_,_=>C
noncomputable def tyD:D->String
 | .T1=>"NoneType"| .bl _=>"bool"| .int _=>"int"| .str _=>"str"| .tup _=>"tuple"| .lst _=>"list"| .R1 .dct _ _=>"dict"| .R1 .set _ _=>"set"| .R1 _ _ _=>"NoneType"
section
variable {X:Cx}{b:iX}{c:L2.St}{H:Hp}{s:ie}
def G1(K:iJ)(d:D)(t:Ty):dD K (.type<|tyD d) (.type t.n)=Y (L6 d t):=by
 cases d with
 |R1 k _ _=>cases k<;>cases t<;>with_unfolding_all rfl
 |_=>cases t<;>with_unfolding_all rfl
def PL(T:Inv X b c H s)(h:C8 X.K (H a) k l i us)(hk:k= .dct\/k= .set:=by first|exact .inl rfl|exact .inr K3):s.TypeIs (.ref a) (tyD<|.R1 k l i):=by
 cases k with
 |dct=>
  rcases h with⟨d,e,_⟩|⟨d,e,_⟩
  .obtain⟨_,_,i,_,o,g,j,h1,f,_⟩:=(show T2 X.prog X.w H s.heap a (.dK d) from T.hok a _ e)
   exact⟨o,h1,f.1⟩
  .obtain⟨_,_,p,_,o,g,j,h1,f,_⟩:=(show T2 X.prog X.w H s.heap a (.dT d) from T.hok a _ e)
   exact⟨o,h1,f.1⟩
 |set=>
  obtain⟨_,m,e,_⟩:=h;obtain⟨g,n,t,h1,_⟩:=(show T2 X.prog X.w H s.heap a (.SS m) from T.hok a _ e)
  exact⟨_,h1,rfl⟩
 |exc U=>rcases hk with z|z<;>cases z
 |_=>exact h.elim
def pH{K H}(h:ky K H O (.R1 k g f) v): ∃a d,v= .ref a/\C8 K (H a) k g f d/\YP K H O f d:=by
 rcases h with h|⟨a,rfl,h⟩
 .obtain⟨a,d,e,q,r⟩:=h.R1;exact⟨a,d,e,q.2,r⟩
 .obtain⟨d,e,r⟩:=h;exact⟨a,d,rfl,e,r⟩
end
def aaO{K:iJ}{U:Nat}(h: ∀n∈["int","bool","str","tuple","list","dict"],dD K (.ref U) (.type n)=Y C)(t:Ty){a b:List D}:dD K (.ref U) (.type t.n)=Y (L6 (.R1 (.exc U) a b) t):=by
 cases t<;>exact h _ (by simp[Ty.n])
section
variable {X:Cx}{c:iX}{f:L2.St}{H:Hp}{s:ie}
def acm(T:Inv X c f H s)(hd:ky X.K H O d x)(g:RelV x u)(h: ∀m,Q (.bool<|L6 d t) {s with toks:=m}):
  af (aj X.prog X.w) A (call (.builtin "isinstance") [u,.type t.n]) Q E s:=by
 cases d with
 |T1=>have:=afO hd;subst this;cases g;exact rN PySem.W.kitx_none T.J2 bv (G1 X.K .T1 t) (λz=>nomatch z) h
 |bl b=>have:=Kc hd;subst this;cases g;exact rN PySem.W.kitx_bool T.J2 bv (G1 X.K (.bl b) t) (λz=>nomatch z) h
 |int b=>have:=jd hd;subst this;obtain⟨m,rfl⟩:=g;exact rN PySem.W.kitx_int T.J2 bv (G1 X.K (.int b) t) (λz=>nomatch z) h
 |str b=>have:=Bo hd;subst this;obtain⟨m,rfl⟩:=g;exact rN PySem.W.kitx_str T.J2 bv (G1 X.K (.str b) t) (λz=>nomatch z) h
 |tup l=>obtain⟨a,y,rfl,q,_⟩:=lE hd;cases g;obtain⟨j,_,⟨o,h1,i,_⟩,_⟩:=T.tuple q;exact rN PySem.W.kitx_tuple T.J2 ⟨o,h1,i⟩ (G1 X.K (.tup l) t) (λz=>nomatch z) h
 |lst l=>obtain⟨a,y,rfl,q,_⟩:=kD hd;cases g;obtain⟨j,_,⟨o,n,h1,i,_⟩,_⟩:=T.list q;exact rN PySem.W.kitx_list T.J2 ⟨o,h1,i⟩ (G1 X.K (.lst l) t) (λz=>nomatch z) h
 |R1 k p r=>
  obtain⟨a,B,rfl,q,_⟩:=pH hd;cases g
  cases k with
  |dct=>exact rN PySem.W.kitx_dict T.J2 (PL T q) (G1 X.K (.R1 .dct p r) t) (λz=>nomatch z) h
  |set=>exact rN PySem.W.kitx_set T.J2 (PL T q) (G1 X.K (.R1 .set p r) t) (λz=>nomatch z) h
  |exc U=>obtain⟨_,o,e,h1,i,v⟩:=q;exact rN (i a) T.J2 (show T2 X.prog X.w H s.heap a (.C7 o<|.own 0) from T.hok a _ e).1 (aaO v t) (λz=>nomatch z) h
  |_=>exact q.elim
end
def JH(a:List Ty)(d:D):Option (D×Bool):=Y (.bl<|a.any<|L6 d,C)
section
variable {X:Cx}{e:iq}{c:FO}{b p a:bq}{z:ay}
def WX{t:Ty}(G:PO X e c)(M:Gl X "isinstance")(N:X.mg "isinstance"=KE)(y:Gl X z)(f:X.mg z=KE)(hz:aH z=J4 (.type t.n))(U:z≠"__name__")(l6:(z==("__debug__":ay))=K2)(hv:aH "isinstance"=J4 (.builtin "isinstance"))
  (s1:ag [e,.Name z a] X.env=(K2,aQ e X.env)::ag [.Name z a] X.env)(s2:ag [.Name z a] X.env=(K2,aQ (.Name z a) X.env)::ag [] X.env)(A:(aF b<|ag [.Name z a] X.env).any (·.1)=K2):
  PX X (.Call (.Name "isinstance" p) [e,.Name z a] [] b) (sy (JH [t]) c):=by
 have J:kG X (.builtin "isinstance") (λm H Q=> ∃(O:SI) (d:D) (x:V),m=[x,.ty t.n]/\ky X.K H O d x/\Q (.bl<|L6 d t) H):=by intro l s S H m us Q I r h;obtain⟨O,d,x,rfl,hd,q⟩:=h;obtain⟨u,w',rfl,F,w⟩:=Kd r;cases w;exact acm I hd F λtk=>⟨.bl _,H,I.tok _,rfl,q⟩
 refine PX.imp (BE J M N hv (oY G (oY (TH (v:= .ty t.n) y f hz K3 U l6) uy s2) s1) (by decide) (by decide) s1 A) λS H Q Y=>?_;obtain⟨P,T,Z,R,E,e,k⟩:=Y;obtain⟨⟨o,g⟩,h1,e⟩:=hG e;obtain⟨x,C,e⟩:=hG e;obtain⟨zz,L,e⟩:=hG e;cases L;obtain⟨rfl,rfl⟩:=iP e;refine⟨P,T,o,g,E,h1,λv W i=>?_⟩;have B:=Ops.cons E i<|Ops.nil<|i.er E;refine⟨_,x,v,rfl,B.view (j:=0) K3 K3 C,?_⟩;have:=(B.done k).bl;simpa using this
end
noncomputable def vJ:List D->Option (List Bool)
 |[]=>Y []
 | .bl b::l=>(vJ l).map (b:: ·)
 |_::_=>I
def zL:D->Option (D×Bool)
 | .lst l=>(vJ l).map λbs=>(.bl<|bs.all id,C)
 |_=>I
def Ha:D->Option (D×Bool)
 | .lst l=>(vJ l).map λbs=>(.bl<|bs.any id,C)
 |_=>I
theorem uX{K U}{O:SI}: ∀{l:List D} {bs:List Bool} {e:List V} {d:jr},vJ l=Y bs->YP K U O l e->Vals e d->LSm.BoolsAre d bs
 |[],bs,e,d,h,r,v=>by
  cases h;rw[YP] at r;subst r;cases v;exact .nil
 | .bl b::l,bs,e,d,h,r,v=>by
  obtain⟨f,h1,rfl⟩:=ja h;rw[YP] at r;obtain⟨x,j,rfl,g,i⟩:=r;have:=g.bl;subst this
  cases v with
  |cons a c=>cases a;exact .cons b<|uX h1 i c
 | .T1::l,_,_,_,h,_,_=>by cases h
 | .int _::l,_,_,_,h,_,_=>by cases h
 | .str _::l,_,_,_,h,_,_=>by cases h
 | .tup _::l,_,_,_,h,_,_=>by cases h
 | .lst _::l,_,_,_,h,_,_=>by cases h
 | .R1 _ _ _::l,_,_,_,h,_,_=>by cases h
section
variable {X:Cx}
def yo{h a:iK}{o:eE}(hk: ∀b x,b∉[h.objs.size]->(h.push o).get? b=Y x->a.get? b=Y x)(b:hJ)(x:eE)(e:h.get? b=Y x):a.get? b=Y x:=
 hk b x (λz=>by have:=AO.mp z;subst this;exact absurd (jW e)<|qP _) (jU _ e)
def pk(n:X.calm=J):kG X (.builtin "all") (GR X.K<|g1 zL):=nW λh s M N x u Q O d z I t np hd g G=>by
 cases d with
 |lst l=>
  obtain⟨bs,m,rfl⟩:=ja g;obtain⟨p,T,rfl,q,r⟩:=kD hd;cases t;obtain⟨a,v,f,_⟩:=I.list q;have are:=uX m r v;have o:X.A.in1.handled=KE:=I.ok.hd n;have j:p<s.heap.objs.size:=by obtain⟨_,e,_⟩:=f.isList;exact jW e
  refine call_all_walk (Be f.isList ⟨s.heap.objs.size,[s.heap.objs.size,p],[s.heap.objs.size],a.toArray.size,_,_,λi=>(bs[i]?).getD J,rfl,EA o _ p (kd j) a.toArray,
   ⟨⟨_,km _ rfl,rfl,rfl⟩,f.isList.push _⟩,λi w E B y k c=>?_,λU L hk=>?_⟩)
  .obtain⟨b,e,rfl⟩:=are.get i w (by simpa using k);dsimp only at c;rw[e] at c;exact xK c
  .rw[jq,are.length,LSm.range_all];exact⟨.bl _,N,I.kept<|yo hk,rfl,G.bl⟩
 |_=>cases g
def D3(n:X.calm=J):kG X (.builtin "any") (GR X.K<|g1 Ha):=nW λh s M N x u Q O d z I t np hd g G=>by
 cases d with
 |lst l=>
  obtain⟨bs,m,rfl⟩:=ja g;obtain⟨p,T,rfl,q,r⟩:=kD hd;cases t;obtain⟨a,v,f,_⟩:=I.list q;have are:=uX m r v;have o:X.A.in1.handled=KE:=I.ok.hd n;have j:p<s.heap.objs.size:=by obtain⟨_,e,_⟩:=f.isList;exact jW e
  refine call_any_walk (Be f.isList ⟨s.heap.objs.size,[s.heap.objs.size,p],[s.heap.objs.size],a.toArray.size,_,_,λi=>(bs[i]?).getD C,rfl,EA o _ p (kd j) a.toArray,
   ⟨⟨_,km _ rfl,rfl,rfl⟩,f.isList.push _⟩,λi w E B y k c=>?_,λU L hk=>?_⟩)
  .obtain⟨b,e,rfl⟩:=are.get i w (by simpa using k);dsimp only at c;rw[e] at c;exact xK c
  .rw[jq,are.length,LSm.range_any];exact⟨.bl _,N,I.kept<|yo hk,rfl,G.bl⟩
 |_=>cases g
def QZ:=gI λi j=>Y<|.int (if j>i then j else i)
def QY:=gI λi j=>Y<|.int (if j<i then j else i)
def aer(c:X.calm=J):kG X (.builtin "max") (GR X.K<|g2 QZ):=RC λa s k U x y h Q O d e z T r np h1 b g G=>by obtain⟨i,j,w,rfl,rfl,f,rfl⟩:=AJ g;cases f;exact afk c a s k U [x,y] h Q T r ⟨i,j,by rw[jd h1,jd b],G.int⟩
def aeq(c:X.calm=J):kG X (.builtin "min") (GR X.K<|g2 QY):=RC λa s k U x y h Q O d e z T r np h1 b g G=>by obtain⟨i,j,w,rfl,rfl,f,rfl⟩:=AJ g;cases f;exact afj c a s k U [x,y] h Q T r ⟨i,j,by rw[jd h1,jd b],G.int⟩
def By{lo:Int}{n:Nat}{a:oA}(h:j0 (λi v=> ∃t,v= .int (lo+(i:Int)*1) t) a n):Vals ((am n).map λ(k:Nat)=>V.int<|lo+k) a.toList:=by
 have key: ∀(l:jr) (m:Nat),(∀(j:Nat) v,l[j]?=Y v-> ∃t,v= .int (lo+((m+j:Nat):Int)) t)->Vals ((bu m<|Ls l).map λ(k:Nat)=>V.int<|lo+k) l:=by
  intro l
  induction l with
  |nil=>intro m _;exact .nil
  |cons v l d=>intro m hv;obtain⟨t,e⟩:=hv 0 v H;refine .cons ⟨t,by simpa using e⟩<|d (m+1) λj w c=>?_;obtain⟨f,b⟩:=hv (j+1) w (by simpa using c);exact⟨f,by rw[b];congr 2;first|done|lia⟩
 have:=key a.toList 0 λj v hv=>by obtain⟨t,e⟩:=h.2 j v (by simpa using hv);exact⟨t,by rw[e];congr 1⟩
 rw[kL,h.1,<-List.range_eq_range'] at this;exact this
def aey{K U}(lo:Int)(n:Nat):YP K U O (jh lo n) ((am n).map λ(k:Nat)=>V.int<|lo+k):=by
 unfold jh
 induction(am n) with
 |nil=>exact YP.nil
 |cons k l a=>exact YP.cons Rep.mkInt a
end
def FF(lo a:Int):Prop:= -(2^62)<=lo/\lo<2^62/\ -(2^62)<=a/\a<2^62/\(a-lo).toNat<=2^24
instance(lo hi:Int):Decidable (FF lo hi):=by unfold FF;infer_instance
noncomputable def MB(lo a:Int):List V:=(am (a-lo).toNat).map λ(k:Nat)=>V.int<|lo+k
def FF.small{lo a:Int}(h:FF lo a):ro lo a 1=J:=small_one h.1 h.2.1 h.2.2.1 h.2.2.2.1
def Kr(lo a:Int):ez lo a 1=((a-lo).toNat:Nat):=by rw[xc];split<;>lia
section
variable {c:iL}{w:iD}{A:iE}{E:iY}{s:ie}
def aeo{Q:List ir->ie->Prop}{r:hJ}{lo n:Int}{t u v:pw}(T:A.handled=I)(x:CL s.heap r lo n 1 t u v)(ok:FF lo n)
  (B: ∀(g:iK) k (d:oA),(∀b o,s.heap.get? b=Y o->g.get? b=Y o)->j0 (λi v=> ∃t,v= .int (lo+(i:Int)*1) t) d (n-lo).toNat->Q d.toList {s with heap:=g,toks:=k}):
  af (aj c w) A (eV<|.ref r) Q E s:=by
 unfold eV;refine hV<|Ih<|sO F.entry_proto_collect ?_;rw[rM F.plain_proto_collect _];refine hV (m:=o8 [])<|om ?_;refine iw ⟨wO F.plain_list_iadd _,sO F.entry_list_iadd ?_⟩;rw[rM F.plain_list_iadd _];have z:=km s.heap (o:=({cls:= .type "list",data:= .seq ([]:List ir).toArray}:eE)) H
 let R:i5->ie->Prop:=λr j=> ∃(g:iK) (k:Nat) (d:oA) (l:Nat),r= .ok (.ret<|.ref s.heap.objs.size)/\j={s with heap:=g,toks:=k}/\(∀b o,s.heap.get? b=Y o->g.get? b=Y o)/\
  g.get? s.heap.objs.size=Y {cls:= .type "list",dict:=I,data:= .seq d l,slots:= #[]}/\j0 (λi v=> ∃t,v= .int (lo+(i:Int)*1) t) d (n-lo).toNat
 have fin: ∀{r j},R r j-> ∃v,r= .ok (.ret v)/\af (aj c w) A (match v with
   |Value.ref a=>do
    match(<-load a).data with
     |Data.seq xs _=>pure xs.toList
     |_=>k6 "internal:collect"
   |_=>k6 "internal:collect") Q E j:=λ{r j} U=>by
  obtain⟨g,k,d,l,rfl,rfl,hk,p,y⟩:=U;exact⟨_,rfl,hV (m:=load s.heap.objs.size)<|Bg p<|iw<|B g k d hk y⟩
 refine nI (wpAny_extend_range (A:=A) (R:=R) (s:={s with heap:=s.heap.push {cls:= .type "list",data:= .seq ([]:List ir).toArray}}) T (jU _ x) ok.small (Kr lo n) ok.2.2.2.2 _ _ 0 z λg k O l hk p y=>⟨g,k,O,l,rfl,rfl,λb o e=>hk b o (kd<|jW e)<|jU _ e,p,y⟩) (λf j h=>?_) λe j h=>?_
 .cases f with
  |done f=>obtain⟨v,hv,q⟩:=fin h;cases hv;exact q
  |again l=>exact⟨h.1,qm h.2 λr L x=>by obtain⟨v,rfl,q⟩:=fin x;exact q⟩
 .obtain⟨v,hv,_⟩:=fin h;cases hv
def adC{Q₁:iY}{r:hJ}{lo j:Int}{t u v:pw}(q:A.handled=I)(n:CL s.heap r lo j 1 t u v)(ok:FF lo j)
  (h: ∀(d:iK) l (a:oA),(∀b o,s.heap.get? b=Y o->d.get? b=Y o)->j0 (λi v=> ∃t,v= .int (lo+(i:Int)*1) t) a (j-lo).toNat->Q₁ (.ref d.objs.size) {s with heap:=d.push {cls:= .type "tuple",data:= .seq a},toks:=l}):
  b8 (aj c w) A (.call (.builtin "tuple.__new__") ⟨[.type "tuple",.ref r],[]⟩) (k5 Q₁ E) s:=by
 refine ue ?_;refine hV (m:=cI "tuple.__new__" _)<|vV (F.newCall_tuple_1 _)<|iw ⟨wO F.plain_tuple_new _,sO F.entry_tuple_new ?_⟩;rw[rM F.plain_tuple_new _];have z:=sub_tuple_self;have k:=init_tuple_lookup;have x:=madeHere_tuple;have f:s.TypeIs (.ref r) "range":=⟨_,n,rfl⟩
 have g:A.in1.handled=I:=q
 wp_walk using wU f,aeo g n ok
 intro d l a hk p;have y:a.size<=sizeLine:=by rw[p.1,jT];have:=ok.2.2.2.2;omega
 refine hV (m:=bc a.toList.toArray) ?_;unfold bc;refine om ?_ (by show a.toList.toArray.size<=sizeLine;simpa using y);refine iw ?_;have e:a.toList.toArray=a:=by simp
 rw[e];exact h d l a hk p
def ady{Q:iY}{r:hJ}{lo j:Int}{t u v:pw}(l:A.handled=I)(n:CL s.heap r lo j 1 t u v)(ok:FF lo j)
  (h: ∀(g:iK) k (e:oA),(∀b o,s.heap.get? b=Y o->g.get? b=Y o)->j0 (λi v=> ∃t,v= .int (lo+(i:Int)*1) t) e (j-lo).toNat->Q (.ref g.objs.size) {s with heap:=g.push {cls:= .type "tuple",data:= .seq e},toks:=k}):
  af (aj c w) A (call (.type "tuple") [.ref r]) Q E s:=by
 refine callType_codes (Q₁:=λf a=>a.TypeIs f "tuple"/\Q f a) Se (F.typeCall_tuple_1 _) NF
  (adC l n ok λg k e m p=>⟨⟨_,km _ rfl,rfl⟩,h g k e m p⟩) λf a d=>?_
 exact⟨d.1,F.args_object_init_2 f _,object_init_meets Se.init.lookup Se.made (by decide) c w A.in1 _ a ⟨d.1,rfl,d.2⟩⟩
end
section
variable {X:Cx}
def D1:kG X (.type "range") (λc U Q=> ∃i j,c=[.int i,.int j]/\ ∀r,U r=I->Q (.ref r) (upd U r<|.rng i j)):=by intro a s k U c g Q T r h;obtain⟨i,j,rfl,h⟩:=h;obtain⟨u,f,rfl,⟨t,rfl⟩,⟨d,rfl⟩⟩:=Kd r;exact B4 ⟨.ref _,_,T.laid (o:= .rng i j) (λb o e=>jU _ e) (jM _) ⟨_,_,_,km _ rfl⟩,rfl,h _ T.fresh⟩
def adz(i:X.calm=J):kG X (.type "list") (λf U Q=> ∃r lo a,f=[.ref r]/\U r=Y (.rng lo a)/\FF lo a/\ ∀l,U l=I->Q (.ref l) (upd U l<|.lst<|MB lo a)):=by intro d s q U f p Q T g h;obtain⟨r,lo,a,rfl,j,ok,h⟩:=h;obtain⟨u,rfl,k⟩:=qQ g;cases k;obtain⟨t,u,v,er⟩:=T.hok r _ j;refine call_list_range (A:=X.A) (T.ok.hd i) er ok.small (Kr lo a) ok.2.2.2.2 λn o b c kp e items=>?_;have m:=By items;refine⟨.ref _,_,T.laid kp (jM _) (show T2 X.prog X.w _ _ _ (.lst<|MB lo a) from⟨?_,b.toList,c,m,by simpa using e⟩),rfl,h _ T.fresh⟩;have:=ok.2.2.2.2;simp only[MB,jf,j4,jT];omega
def adk(k:X.calm=J):kG X (.type "tuple") (λi U Q=> ∃r lo c,i=[.ref r]/\U r=Y (.rng lo c)/\FF lo c/\ ∀l,U l=I->Q (.ref l) (upd U l<|.tup<|MB lo c)):=by intro d s x U i y Q T j h;obtain⟨r,lo,c,rfl,m,ok,h⟩:=h;obtain⟨u,rfl,n⟩:=qQ j;cases n;obtain⟨t,u,v,er⟩:=T.hok r _ m;refine ady (A:=X.A) (T.ok.hd k) er ok λg q a kp items=>?_;have p:=By items;have f:Inv X d x U {s with heap:=g,toks:=q}:=T.kept kp;refine⟨.ref _,_,f.laid (λb o e=>jU _ e) (jM _) (show T2 X.prog X.w _ _ _ (.tup<|MB lo c) from⟨?_,a.toList,p,by have:=EF g a;simpa using this⟩),rfl,h _ f.fresh⟩;have:=ok.2.2.2.2;simp only[MB,jf,j4,jT];omega
def MY(a:List D->D)(o:Bool):List D->Option (D×Bool)
 |[.int j]=>if FF 0 j then Y (a<|jh 0 j.toNat,o) else I
 |[.int i,.int j]=>if FF i j then Y (a<|jh i (j-i).toNat,o) else I
 |_=>I
def Ks{K U}(lo a:Int):YP K U O (jh lo (a-lo).toNat) (MB lo a):=aey lo _
variable {a b:iq}{n m:FO}{p g d f:bq}
def Gd(h:upd U r o l=I):U l=I:=by
 by_cases e:l=r
 .subst e;rw[iQ] at h;cases h
 .rwa [iW e] at h
def D9{K:iJ}{T q:SI}{s:L2.St}{r c:Dn}{U o:Hp}{os:List Ax}{l:List V}{e:List D}(B:Ops K T s r U os l c o q)(h:vO c os=Y e){is:ig}(hd:e=is.map .int):l=is.map .int:=by
 obtain⟨h1,t⟩:=pP h;apply wQ;intro j;by_cases k:j<Ls is
 .rw[vd B h (j:=j) (i:=is[j])<|by rw[hd];simp[k]];simp[k]
 .have u:=B.len;subst hd;simp at h1;rw[gc<|by lia,gc<|by simp;lia]
def WS{T:String}{z:ay}{L:List D->D}{o:Bool}(hT:(T="list"/\L= .lst/\o=K0)\/(T="tuple"/\L= .tup/\o=K2))(U:X.calm=K0)(Y:Gl X z)(hm:X.mg z=KE)(hv:aH z=J4 (.type T))(hn:z≠"__name__")(l6:(z==("__debug__":ay))=K2)
  (J:Gl X "range")(w9:X.mg "range"=KE)(N:PA X [a,b] (tA X.K [n,m]))
  (s1:ag [.Call (.Name "range" g) [a,b] [] f] X.env=(K2,aQ (.Call (.Name "range" g) [a,b] [] f) X.env)::ag [] X.env)(s2:ag [a,b] X.env=(K2,aQ a X.env)::ag [b] X.env)
  (M:(aF d<|ag [] X.env).any (·.1)=K2)(G:(aF f<|ag [b] X.env).any (·.1)=K2):
  PX X (.Call (.Name z p) [.Call (.Name "range" g) [a,b] [] f] [] d) (iO (MY L o) [n,m]):=by
 have t: ∀{w c:Dn} {os:List Ax},kx [n,m] w=J4 (os,c)->os.length=2:=λ{w c os} h1=>by unfold kx at h1;obtain⟨p,q1,h1⟩:=hG h1;obtain⟨q,v,h1⟩:=hG h1;unfold kx at v;obtain⟨p3,q3,v⟩:=hG v;obtain⟨q4,F,v⟩:=hG v;unfold kx at F;cases F;obtain⟨rfl,rfl⟩:=iP h1;cases v;rfl
 rcases hT with⟨rfl,rfl,rfl⟩|⟨rfl,rfl,rfl⟩
 .refine PX.imp (qZ (adz U) Y hm hv (oY (qZ D1 J w9 EK N (by decide) (by decide) s2 G) uy s1) hn l6 s1 M) λZ H Q C=>?_;obtain⟨w,T,S,O,E,e,k⟩:=C;obtain⟨⟨os,c⟩,h1,e⟩:=hG e;obtain⟨R,y,e⟩:=hG e;obtain⟨W,h,e⟩:=hG e;obtain⟨rfl,rfl⟩:=iP e;refine⟨w,T,os,c,E,h1,λV x P B=>?_⟩;unfold MY at h;split at h
  .obtain⟨s,_⟩:=pP y;have:=t h1;simp at s;omega
  .rename_i i j;obtain⟨ok,rfl⟩:=iR h;refine⟨i,j,D9 B y (is:=[i,j]) K3,λr A=>⟨r,i,j,rfl,iQ,ok,λl s=>?_⟩⟩;have I: ∀a u,x a=J4 u->upd (upd x r<|.rng i j) l (.lst<|MB i j) a=J4 u:=λa u e=>lL s a u<|lL A a u e;exact(B.done k) l _ (Gd s) I ⟨MB i j,iQ,Ks i j⟩
  .cases h
 .refine PX.imp (qZ (adk U) Y hm hv (oY (qZ D1 J w9 EK N (by decide) (by decide) s2 G) uy s1) hn l6 s1 M) λZ H Q C=>?_;obtain⟨w,T,S,O,E,e,k⟩:=C;obtain⟨⟨os,c⟩,h1,e⟩:=hG e;obtain⟨R,y,e⟩:=hG e;obtain⟨W,h,e⟩:=hG e;obtain⟨rfl,rfl⟩:=iP e;refine⟨w,T,os,c,E,h1,λV x P B=>?_⟩;unfold MY at h;split at h
  .obtain⟨s,_⟩:=pP y;have:=t h1;simp at s;omega
  .rename_i i j;obtain⟨ok,rfl⟩:=iR h;refine⟨i,j,D9 B y (is:=[i,j]) K3,λr A=>⟨r,i,j,rfl,iQ,ok,λl s=>?_⟩⟩;have I: ∀a u,x a=J4 u->upd (upd x r<|.rng i j) l (.tup<|MB i j) a=J4 u:=λa u e=>lL s a u<|lL A a u e;exact(B.done k) _ _ I (Rep.JZ ⟨iQ,B.np<|OP<|Gd s⟩<|Ks i j)
  .cases h
end
def Src(h:iK)(it l:hJ)(i:Nat)(a:oA):Prop:=h.IsTupleIter it l i/\h.IsTuple l a
section
variable {prog:iL}{w:iD}{A:iE}{E:iY}{s:ie}{it l:hJ}{i:Nat}{xs:oA}
def Src.ne(x:Src h it l i xs):l≠it:=by intro e;subst e;obtain⟨⟨o,h1,c,b⟩,d,g1,g2,n,a⟩:=x;rw[h1] at g1;cases g1;rw[b] at a;cases a
def Src.lt(x:Src h it l i xs):it<h.objs.size/\l<h.objs.size:=by obtain⟨⟨o,h1,_⟩,a,g1,_⟩:=x;exact⟨jW h1,jW g1⟩
def Src.keep(x:Src h it l i xs)(a: ∀o,h.get? it=Y o->h'.get? it=Y o)(b: ∀o,h.get? l=Y o->h'.get? l=Y o):Src h' it l i xs:=by obtain⟨⟨o,h1,r⟩,c,g1,d⟩:=x;exact⟨⟨o,a _ h1,r⟩,c,b _ g1,d⟩
def Du{Q:iY}(c:s.heap.IsTupleIter it l i)(q:s.heap.IsTuple l xs)(n: ∀x,xs[i]?=Y x-> ∀b,b.IsTupleIter it l (i+1)->aM it s.heap b->Q x {s with heap:=b})
  (g:xs[i]?=I->A.handled=I/\ ∀b e,dP it s.heap b->(∃o,b.get? e=Y o/\o.cls= .type "StopIteration")->E (.ref e) {s with heap:=b}):af (aj prog w) A (bN<|.ref it) Q E s:=by
 obtain⟨o,d,p,hd⟩:=id c;obtain⟨t,k,_,r,j⟩:=q;unfold bN;refine hV<|xF (name:=bn "__next__") c.typeIs ND<|oo ND c.typeIs F.entry_tuple_iterator_next ?_<|F.args_tuple_iterator_next_1 _;refine hV (m:=pc (.ref it) 0)<|tP d hd (x:= .ref l) H ?_;show af _ _ (if(bj l==av)=J then _ else _) _ _ s;rw[iG (by show ¬(bj l==av)=J;exact ku)];refine hV (m:=pc (.ref it) 1)<|tP d hd (x:= .int i 0) H ?_;refine hV (m:=seqItems?<|.ref l)<|Ez k j ?_
 cases f:xs[i]? with
 |some x=>simp only[tQ,f];refine hV<|wN d hd (by simp)<|iw ⟨x,rfl,iw<|n x f _ ⟨_,uj _ d (Ey<|vU hd _),(Ex ..).trans p,?_⟩ (sN ..)⟩;rw[vU hd];simp[dA]
 |none=>
  obtain⟨h,g⟩:=g f;simp only[tQ,f];refine hV<|uf<|hV<|wN d hd (by simp) ?_;refine hV (m:=hZ (.type "StopIteration") []) ?_;simp -iota only[hZ,k9];refine hV<|om (hV (m:=cn _ _)<|vV (a:=av) (by first|rfl|(simp -iota only[cn];rfl)) ?_) (by size_fits);refine om ?_ (by size_fits);simp -iota only[vu];refine hV<|Ig ?_
  first|rw[show A.in1.handled=I from h]|rw[h]
  exact hV<|iw<|Ie<|g _ _ (((sN ..).extBut.push _).push _) ⟨_,km _ rfl,rfl⟩
def Src.item{x:ir}{Q:iY}(st:Src s.heap it l i xs)(b:xs[i]?=Y x)(f: ∀a,Src a it l (i+1) xs->aM it s.heap a->Q x {s with heap:=a}):
  af (aj prog w) A (bN<|.ref it) Q E s:=by
 have ne:=st.ne;exact Du st.1 st.2 (λg e a d c=>by rw[b] at e;cases e;exact f a ⟨d,st.2.extBut c.extBut ne⟩ c) λe=>by rw[b] at e;cases e
def Src.stop{Q:iY}(c:A.handled=I)(st:Src s.heap it l i xs)(d:xs[i]?=I)
  (b: ∀a e,dP it s.heap a->(∃o,a.get? e=Y o/\o.cls= .type "StopIteration")->E (.ref e) {s with heap:=a}):af (aj prog w) A (bN<|.ref it) Q E s:=by
 exact Du st.1 st.2 (λx e=>by rw[d] at e;cases e) λ_=>⟨c,b⟩
def Src.new(c:s.heap.IsTuple l xs)(d: ∀a,Src a s.heap.objs.size l 0 xs->a.objs.size=s.heap.objs.size+1->(∀b o,s.heap.get? b=Y o->a.get? b=Y o)->Q (.ref s.heap.objs.size) {s with heap:=a}):
  af (aj prog w) A (c1<|.ref l) Q E s:=IF c<|d _ ⟨⟨_,km _ rfl,rfl,rfl⟩,c.push _⟩ (vX ..) λb o e=>jU _ e
end
section
variable {f:iL}{w:iD}{A:iE}{E:iY}{s:ie}{e it l:hJ}{i:Nat}{c:Int}{h:oA}
def afd{x old:ir}{Q:iY}(he:dW s.heap e it c old)(st:Src s.heap it l i h)(hx:h[i]?=J4 x)(Y:e≠it)(dt:e≠l)
  (hQ: ∀T,gM T e it (c+1) x s.heap.objs.size->Src T it l (i+1) h->T.get? s.heap.objs.size=J4 {cls:= .type "tuple",data:= .seq #[.int c s.toks,x]}->T.objs.size=s.heap.objs.size+1->
   (∀b o,b≠e->b≠it->s.heap.get? b=J4 o->T.get? b=J4 o)->Q (.ref s.heap.objs.size) {s with heap:=T,toks:=s.toks+1}):
  af (aj f w) A (bb.«enumerate.__next__» ⟨[.ref e],[]⟩) (λfin s'=> ∃v,fin= .done (.ret v)/\Q v s') E s:=by
 obtain⟨C,g,d,k,os⟩:=s;refine hV (m:=pc (.ref e) 2)<|tP he K3 (x:= .ref it) K3<|hV<|st.item hx λj I G=>?_;replace G:aM it C j:=G;have V:dW j e it c old:=(G.2 e Y).trans he;refine hV (m:=pc (.ref e) 3)<|tP (s:=⟨j,g,d,k,os⟩) V K3 (x:=dA c) K3 ?_;refine hV (m:=pc (.ref e) 4)<|tP (s:=⟨j,g,d,k,os⟩) V K3 (x:= .none) K3 ?_;refine hV (m:=mkInt c)<|wpAny_mkInt (s:=⟨j,g,d,k,os⟩) ?_;refine hV (m:=k8 (.ref e) 3<|dA<|c+1)<|A6 (s:=⟨j,g,d,k+1,os⟩) V (by simp) λn S O=>?_;replace O:aM e j n:=O;replace S:dW n e it (c+1) old:=S;refine hV (m:=k8 (.ref e) 4 .none)<|A6 (s:=⟨n,g,d,k+1,os⟩) S (by simp) λa R L=>?_;replace L:aM e n a:=L;replace R:dW a e it (c+1) old:=R;refine hV (m:=k9 [.int c k,x])<|Ic (s:=⟨a,g,d,k+1,os⟩) ?_;have H:a.objs.size=C.objs.size:=by rw[L.1,O.1,G.1]
 have U:dW (a.push {cls:= .type "tuple",data:= .seq #[.int c k,x]}) e it (c+1) old:=jU _ R;have W:e<C.objs.size:=jW he;have u:(a.push {cls:= .type "tuple",data:= .seq #[.int c k,x]}).get? C.objs.size=J4 {cls:= .type "tuple",data:= .seq #[.int c k,x]}:=by rw[<-H];exact km _ rfl
 have up: ∀b o,b≠e->b≠it->C.get? b=J4 o->(a.push {cls:= .type "tuple",data:= .seq #[.int c k,x]}).get? b=J4 o:=λb o B D q=>jU _ (L.extBut b o B<|O.extBut b o B<|G.extBut b o D q);have z:Src (a.push {cls:= .type "tuple",data:= .seq #[.int c k,x]}) it l (i+1) h:=I.keep (λo q=>jU _ (L.extBut _ o Y.symm (O.extBut _ o Y.symm q))) λo q=>jU _ (L.extBut _ o dt.symm (O.extBut _ o dt.symm q));have y:(a.push {cls:= .type "tuple",data:= .seq #[.int c k,x]}).objs.size=C.objs.size+1:=by rw[vX,H]
 rw[H];generalize (a.push {cls:= .type "tuple",data:= .seq #[.int c k,x]})=h₄ at U u up z y;refine hV (m:=c3<|.ref e) ?_;unfold c3;refine hV<|tP (s:=⟨h₄,g,d,k+1,os⟩) U K3 (x:= .none) K3<|iw ?_;simp -iota only[kI];refine hV<|uf<|hV<|tP (s:=⟨h₄,g,d,k+1,os⟩) U K3 (x:=old) K3<|hV<|A6 (s:=⟨h₄,g,d,k+1,os⟩) U (by simp) λp P N=>?_;replace N:aM e h₄ p:=N;replace P:dW p e it (c+1) x:=P;refine hV (m:=cW (.ref e)<|.ref C.objs.size) ?_;unfold cW;refine hV<|A6 (s:=⟨p,g,d,k+1,os⟩) P (by simp) λr K M=>?_;replace M:aM e p r:=M;replace K:gM r e it (c+1) x C.objs.size:=K;refine A6 (s:=⟨r,g,d,k+1,os⟩) K (by simp) λt F J=>?_;replace J:aM e r t:=J;replace F:gM t e it (c+1) x C.objs.size:=F;have all: ∀b o,b≠e->h₄.get? b=J4 o->t.get? b=J4 o:=λb o B q=>J.extBut b o B<|M.extBut b o B<|N.extBut b o B q;refine hV<|Fk<|iw ⟨_,rfl,hQ t F (z.keep (λo q=>all _ o Y.symm q) λo q=>all _ o dt.symm q) (all _ _ (sV W) u) ?_ λb o B D q=>all b o B<|up b o B D q⟩;rw[J.1,M.1,N.1,y]
def zy{x old:ir}{Q:J5}(m:dW s.heap e it c old)(st:Src s.heap it l i h)(q:h[i]?=Y x)(r:e≠it)(n:e≠l)
  (p: ∀g,gM g e it (c+1) x s.heap.objs.size->Src g it l (i+1) h->g.get? s.heap.objs.size=Y {cls:= .type "tuple",data:= .seq #[.int c s.toks,x]}->g.objs.size=s.heap.objs.size+1->
   (∀b o,b≠e->b≠it->s.heap.get? b=Y o->g.get? b=Y o)->Q (Y<|.ref s.heap.objs.size) {s with heap:=g,toks:=s.toks+1}):
  af (aj f w) A (b9<|.ref e) Q E s:=by
 have j:s.TypeIs (.ref e) "enumerate":=⟨_,m,rfl⟩
 unfold b9
 exact hV (ud (xF (name:=bn "__next__") j Ew (oo Ew j NC
  (afd m st q r n λg a b c d k=>iw<|p g a b c d k) (NB _))))
def acS{old:ir}{Q:J5}(n:A.handled=I)(g:dW s.heap e it c old)(st:Src s.heap it l i h)(q:h[i]?=I)
  (j: ∀a,dP it s.heap a->Q I {s with heap:=a}):af (aj f w) A (b9<|.ref e) Q E s:=by
 have d:s.TypeIs (.ref e) "enumerate":=⟨_,g,rfl⟩
 unfold b9;refine hV<|ud<|xF (name:=bn "__next__") d Ew<|oo Ew d NC ?_<|NB _;refine hV (m:=pc (.ref e) 2)<|tP g H (x:= .ref it) H<|hV<|st.stop n q λa x r U=>?_;obtain⟨o,p,k⟩:=U;exact hV<|A5 (T:="StopIteration") (b:=J) ⟨o,p,k⟩ Ib<|iw<|j _ r
end
section
variable {X:Cx}{d:iX}{g:L2.St}{H:Hp}{s:ie}{f:iK}
def aeW{t':Nat}{ch:ki}{a:hJ}{o:HO}(N:Inv X d g H s)(j: ∀b∈ch,vR X d H b)(k: ∀b u,b∉ch->s.heap.get? b=Y u->f.get? b=Y u)(p:s.heap.objs.size<=a)(new:T2 X.prog X.w (upd H a o) f a o):
  Inv X d g (upd H a o) {s with heap:=f,toks:=t'}:=by
 have E:=N.hok.fresh p;have l: ∀b u,H b=Y u->b∉ch:=λb u e z=>by have:=(j b z).1;rw[this] at e;cases e
 have up: ∀b u,H b=Y u->upd H a o b=Y u:=λb u e=>by rw[iW<|lT e E];exact e
 have fr: ∀b u,s.heap.get? b=Y u->H b=I->upd H a o b=I:=λb u e n=>by rw[iW λz=>by subst z;exact absurd (jW e)<|VX.mpr p];exact n
 refine N.step (g':=s.gens) (d':=s.drawn) (ch:=ch) (λb i=>?_) (λb u _ _ h e _=>k b u h e) (λb u _ _ h e _=>⟨u.slots,k b u h e⟩) (λb u _ e n=>fr b u e n)
  (λb u h e=>⟨u,k b u h e⟩) (λb O e=>up b _ e) (λb _ _ e=>up b _ e) (λb T e=>⟨#[],by rw[up b _ e];simp⟩) (λm U=>?_) (λb u e=>?_) N.bare
 .obtain⟨_,f1,Q,y,A,B⟩:=j b i;exact⟨y,f1,A,B⟩
 .obtain⟨u,x,t,L,r⟩:=U;exact⟨u,x,t,k _ u (λz=>(j _ z).2.1 K3) L,r⟩
 .by_cases i:b=a
  .subst i;rw[iQ] at e;cases e;exact new
  .rw[iW i] at e;refine(N.hok b u e).Aw (λc v h q=>k c v ?_ q) (λc q=>up c _ q) (λc O q=>up c _ q) λc _ _ q=>up c _ q;rcases h with z|z
   .rw[z];exact l b u e
   .exact l c _ z
def aeX{t':Nat}{ch:ki}(T:Inv X d g H s)(h: ∀b∈ch,vR X d H b)(k: ∀b u,b∉ch->s.heap.get? b=Y u->f.get? b=Y u):Inv X d g H {s with heap:=f,toks:=t'}:=by
 have i: ∀b u,H b=Y u->b∉ch:=λb u e z=>by have:=(h b z).1;rw[this] at e;cases e
 refine T.step (g':=s.gens) (d':=s.drawn) (ch:=ch) (λb w=>?_) (λb u _ _ a e _=>k b u a e) (λb u _ _ a e _=>⟨u.slots,k b u a e⟩) (λb u _ e n=>n)
  (λb u a e=>⟨u,k b u a e⟩) (λb A e=>e) (λb _ _ e=>e) (λb U e=>⟨#[],by rw[e];simp⟩) (λm x=>?_) (λb u e=>?_) T.bare
 .obtain⟨_,f1,B,o,p,t⟩:=h b w;exact⟨o,f1,p,t⟩
 .obtain⟨u,l,j,y,r⟩:=x;exact⟨u,l,j,k _ u (λz=>(h _ z).2.1 K3) y,r⟩
 .refine(T.hok b u e).Aw (λc v a q=>k c v ?_ q) (λc q=>q) λc A q=>q;rcases a with z|z
  .rw[z];exact i b u e
  .exact i c _ z
end
def PZ(K:iJ)(l:hJ)(c:Int):It:=⟨λi U=> ∃a x,Ff K U l a/\a[i]?=Y x,
 λi U x b=> ∃(T:hJ) (y:V),x= .ref T/\U T=I/\b=upd U T (.tup [.int<|c+i,y])/\ ∀a,Ff K U l a->a[i]?=Y y,λi U=> ∃a,Ff K U l a/\(Ls a)<=i⟩
def aeZ{P:iL}{w:iD}{K:iJ}{n:kj}{k1}{pos:bq}(e it l:hJ)(c:Int)(i6:e≠it):
  Turn P w K (.Tuple n k1 pos) (PZ K l c) [e,it] e (λi h=>(∃old,dW h e it (c+i) old)/\h.IsTupleIter it l i) where
 mem:=by simp
 obj:=λi h st a O=>by
  obtain⟨⟨old,b⟩,st⟩:=st;have u3:a=e\/a=it:=by simpa using O
  rcases u3 with rfl|rfl
  .exact⟨_,b,λv z=>by have z':Data.fields _=Data.cell v:=z;cases z'⟩
  .obtain⟨o,e,c,d⟩:=st;exact⟨o,e,λv z=>by rw[d] at z;cases z⟩
 keep:=λi h h' st k=>by obtain⟨⟨old,b⟩,st⟩:=st;exact⟨⟨old,k e (by simp) _ b⟩,PySem.Heap.IsTupleIter.at st λo q=>k it (by simp) o q⟩
 item:=by
  intro X N Y M R i g s Z H E I A st U;subst N Y M;obtain⟨⟨old,b⟩,st⟩:=st;obtain⟨xs,x,Q,D⟩:=U;obtain⟨j,F,p,_⟩:=I.tuple Q;have f:Src s.heap it l i j.toArray:=⟨st,p⟩
  obtain⟨u,hu,ru⟩:=F.get D
  have B:e≠l:=λz=>by subst z;have S:=(A e<|by simp).1;obtain⟨_,o,h1,J,_⟩:=f;have W:s.heap.get? e=_:=b;rw[h1] at W;cases W;injection J with J;exact absurd J (by decide)
  refine zy b f (x:=u) (by simpa using hu) i6 B λh' ho C hT hsz kp=>⟨.ref s.heap.objs.size,rfl,?_⟩
  refine wpAny_letOwnedTupleGo_enum ho λm t G=>?_;have y:e<s.heap.objs.size:=jW b
  have bJ: ∀a o,a∉[e,it]->s.heap.get? a=J4 o->m.get? a=J4 o:=λa o T q=>by have V:a≠e:=λz=>T (by simp[z]);have n2:a≠it:=λz=>T (by simp[z]);exact G.extBut a o V<|kp a o V n2 q
  have r:m.get? s.heap.objs.size=J4 {cls:= .type "tuple",data:= .seq #[.int (c+i) s.toks,u]}:=G.extBut _ _ (sV y) hT
  have I1:Inv X g Z (upd H s.heap.objs.size<|.tup [.int<|c+i,x]) {s with heap:=m,toks:=s.toks+1}:=
   aeW I A bJ (jM _) (show T2 X.prog X.w _ _ _ (.tup [.int<|c+i,x]) from⟨by show 2<=sizeLine;decide,[.int (c+i) s.toks,u],.cons ⟨_,rfl⟩<|.cons ru .nil,_,r,rfl,0,rfl⟩)
  have L:m.IsTupleIter it l (i+1):=(C.keep (λo q=>G.extBut _ o i6.symm q) λo q=>G.extBut _ o B.symm q).1;refine⟨.ref s.heap.objs.size,_,I1,rfl,⟨_,x,rfl,I.fresh,rfl,λys hy=>by rw[I.Dl hy Q];exact D⟩,⟨⟨u,?_⟩,L⟩,λa O=>?_⟩
  .have e1:c+((i+1:Nat):Int)=c+i+1:=by lia
   show dW m e it (c+((i+1:Nat):Int)) u;rw[e1];exact t
  .have S:=(A a O).1;rw[iW]
   .exact S
   .intro z;have l4:a=e\/a=it:=by simpa using O
    rcases l4 with rfl|rfl
    .exact absurd z (kd y)
    .exact absurd z (kd f.lt.1)
 done:=by
  intro X N Y M R i g s Z H E I A st U;subst N Y M;obtain⟨⟨old,b⟩,st⟩:=st;obtain⟨xs,Q,D⟩:=U;obtain⟨j,F,p,_⟩:=I.tuple Q;have f:Src s.heap it l i j.toArray:=⟨st,p⟩
  have hl:=F.length;exact acS (I.ok.hd R) b f (by simp;lia) λh' eb=>⟨rfl,aeX (t':=s.toks) I A λa o T q=>eb a o (λz=>T<|by simp[z]) q⟩
 self:=λ_ _ _ _ _ st h=>by obtain⟨⟨old,b⟩,_⟩:=st;exact n9 b h
def afM{K:iJ}{P O:SI}{h:Hp}{a:hJ}{g:List V}{l:List D}{c:Int}(q:Ja C K h P a g)(r:YP K h O l g)(B: ∀a,P a->O a):
  LZ K (PZ K a c) (l.zipIdx.map λp=> .tup [.int<|c+p.2,p.1]) P O h:=by
 have sq: ∀Hi,(∀a o,h a=Y o-> ¬P a->Hi a=Y o)->Ff K Hi a g:=λHi f=>(q.mono f λ_ z=>z).t;refine⟨λi d Hi hd f=>?_,λi Hi E f=>⟨g,sq Hi f,by rw[r.length];simpa using E⟩⟩;rw[kl] at hd;obtain⟨⟨G,j⟩,h1,v⟩:=ja hd;rw[Ii] at h1;obtain⟨J,w,A⟩:=ja h1;obtain⟨rfl,rfl⟩:=tM A;obtain⟨x,s,M⟩:=r.get w;refine⟨⟨g,x,sq Hi f,s⟩,λy L N=>?_⟩;obtain⟨T,z,rfl,m,rfl,k⟩:=N;have k:=k g<|sq Hi f;rw[s] at k;cases k;have ext:=lL (o:= .tup [.int<|c+i,x]) m;refine⟨ext,λQ h1 u=>?_⟩;subst v;refine Rep.JZ ⟨iQ,u T m⟩<|YP.cons ?_<|YP.cons (Rep.mono (λb o e n=>ext b o<|f b o e λz=>n<|B b z) (λb U z=>h1 b U z) M) YP.nil;simp only[uc];exact Rep.mkInt
open AutoSeq1 (wpAny_loadPart')
section
variable {f:iL}{w:iD}{A:iE}{E:iY}{s:ie}
def X1{T a:String}{self:ir}{rz:jr}{kw:List (ay×ir)}(g:m9 (.type T) "__init__"=pure (Y<|.builtin "object.__init__"))(h:Bind.madeBy (.type T)=pure (Y a))(i:(Y a !=Y "object.__new__")=J):
  IX (bb.«object.__init__» ⟨self::rz,kw⟩) (λ_ R s=>s.TypeIs self T/\R (.ok<|.ret .none) s):=by
 refine Meets.of_wp λf w A R s d=>?_;obtain⟨e,c⟩:=d;by_cases b:(!rz.isEmpty||!kw.isEmpty)=J
 .unfold bb.«object.__init__»;simp only[b,kI]
  repeat (any_goals (first|assumption|wp_step))
  exact⟨_,rfl,c⟩
 .unfold bb.«object.__init__»;simp only[b,jS];exact iw ⟨_,rfl,c⟩
def aeu{T b:String}{t:bb}{a:jr}{kw:List (ay×ir)}{S:PySem.Spec}{Q:iY}(j:TypeCalled T b "object.__init__")(I:(Y b !=Y "object.__new__")=K0)(L:xn T ⟨a,kw⟩=pure ())
  (y:cI b ⟨.type T::a,kw⟩=pure ())(p: ∀d,f5 "object.__init__" ⟨d::a,kw⟩)(k:la vr b=Y t)(g:IX (t ⟨.type T::a,kw⟩) S)
  (h:S A.in1 (k5 (λd i=>i.TypeIs d T/\Q d i) E) s):af (aj f w) A (call (.type T) a kw) Q E s:=by
 obtain⟨c,M,v⟩:=j.mro;have o:=j.made;have J:=j.sub;refine zk<|ue ?_;show af _ _ (Ch (.type T) _) _ _ _;refine iw ⟨Ia _ (by decide+kernel),sO F.entry_type_call ?_⟩;rw[H9 (HZ T a kw)<|units_type_call_type T a kw];have h1:=j.notType;have G:=j.canCreate
 repeat (any_goals (first|assumption|wp_step))
 refine qm (Eu j.plain k<|vV y<|g f w A.in1 _ s h) λr i q=>?_
 cases r with
 |error e=>exact q
 |ok B=>
  cases B with
  |ret d=>
   obtain⟨u,x⟩:=q;have N:=j.init.lookup;have O:=j.init.bind d
   repeat (any_goals (first|assumption|wp_step))
   have U:=X1 (self:=d) (rz:=a) (kw:=kw) j.init.lookup j.made I;refine qm (Eu j.init.plain NF<|j.init.check _ _ _ _ _ _ _ _ u (p d) (U f w A.in1 (k5 (λr l=>r= .none/\Q d l) E) i ⟨u,rfl,x⟩)) λm l n=>?_
   cases m with
   |error e=>exact n
   |ok z=>
    cases z with
    |ret r=>
     obtain⟨rfl,x⟩:=n
     repeat (any_goals (first|assumption|wp_step))
    |_=>exact n.elim
  |_=>exact q.elim
def adF(a b:ir):xn "enumerate" ⟨[a],[("start",b)]⟩=pure ():=by kernel_rfl
def ad3(a b:ir):cI "enumerate.__new__" ⟨[.type "enumerate",a],[("start",b)]⟩=pure ():=by kernel_rfl
def adG(o a b:ir):f5 "object.__init__" ⟨[o,a],[("start",b)]⟩:=by unfold f5;rw[signature?_of (id:="object.__init__") (n:=['_','_','t','i','n','i','_','_']) (o:=['t','c','e','j','b','o']) (by kernel_rfl) F.owner_object];kernel_rfl
noncomputable def vF(it:hJ)(c:Int):Obj:={cls:= .type "enumerate",data:= .fields #[.none,.bool C,.ref it,dA c,.none,.none]}
def afc(l:hJ)(j:oA)(c:Int)(t:pw)(k:bg c=J):IX (bb.«enumerate.__new__» ⟨[.type "enumerate",.ref l],[("start",.int c t)]⟩) (λ_ R s=>s.heap.IsTuple l j/\
  ∀e,Src e s.heap.objs.size l 0 j->e.objs.size=s.heap.objs.size+1->(∀b o,s.heap.get? b=Y o->e.get? b=Y o)->R (.ok<|.ret<|.ref e.objs.size) {s with heap:=e.push (vF s.heap.objs.size c)}):=
 .of_wp λf w A R s h=>by
  obtain⟨m,g,d,p,os⟩:=s;obtain⟨i,h⟩:=h;have n:=sub_enumerate
  wp_walk
  refine wpAny_stack_any λst=>iw ?_;split
  .rename_i c _ _ _ _ _;cases(c==ci "enumerate")<;>(wp_walk using Src.new i;intro e a b c;wp_walk;exact⟨_,rfl,h e a b c⟩)
  .wp_walk using Src.new i
   intro e a b c
   wp_walk
   exact⟨_,rfl,h e a b c⟩
def aet(i:s.heap.IsTuple l xs)(g:bg c=J)
  (h: ∀d,Src d s.heap.objs.size l 0 xs->d.objs.size=s.heap.objs.size+1->(∀b o,s.heap.get? b=Y o->d.get? b=Y o)->Q (.ref d.objs.size) {s with heap:=d.push (vF s.heap.objs.size c)}):
  af (aj f w) A (call (.type "enumerate") [.ref l] [("start",.int c t)]) Q E s:=
 aeu F.called_enumerate (by decide) (adF _ _) (ad3 _ _) (λe=>adG e _ _) F.entry_enumerate_new (afc l xs c t g) ⟨i,λd a b c=>⟨⟨_,km _ rfl,rfl⟩,h d a b c⟩⟩
end
section
variable {X:Cx}{g:iX}{i:L2.St}{H:Hp}{s:ie}{m:kj}{y:Nat}{n:bq}
def UA{R:It->Hp->Prop}{E:iY}{l:hJ}{v:List V}{h:jr}{h':iK}{c:Int}(U:Inv X g i H s)(x:Ff X.K H l v)(j:Src h' s.heap.objs.size l 0 h.toArray)(f:h'.objs.size=s.heap.objs.size+1)
  (kp: ∀b o,s.heap.get? b=Y o->h'.get? b=Y o)(r:R (PZ X.K l c) H):af (aj X.prog X.w) X.A (c1<|.ref h'.objs.size) (PIE X g i (.Tuple m y n) R) E {s with heap:=h'.push (vF s.heap.objs.size c)}:=by
 have k:dW (h'.push<|vF s.heap.objs.size c) h'.objs.size s.heap.objs.size c .none:=km _ rfl;refine n9 k ?_;have p:Inv X g i H {s with heap:=h'.push (vF s.heap.objs.size c)}:=U.kept (t':=s.toks) λb o e=>jU _ (kp b o e);have t:h'.objs.size≠s.heap.objs.size:=by rw[f];exact Nat.succ_ne_self _
 refine⟨h'.objs.size,[h'.objs.size,s.heap.objs.size],_,_,H,rfl,p,aeZ h'.objs.size s.heap.objs.size l c t,⟨⟨.none,by simpa using k⟩,?_⟩,λa q=>?_,r⟩
 .have d:=j.keep (h':=h'.push<|vF s.heap.objs.size c) (λo e=>jU _ e) λo e=>jU _ e;exact d.1
 .have u:a=h'.objs.size\/a=s.heap.objs.size:=by simpa using q
  rcases u with rfl|rfl
  .exact U.LQ (by rw[f];exact Bc _) (U.hok.fresh<|by rw[f];exact Bc _)
  .exact U.LQ (jM _) (U.hok.fresh<|jM _)
def Vz(K:iJ)(c:Int)(b:TA):TI:=λi H R=>b i H λd a=> ∃l e,d=[.ref l]/\Ff K a l e/\R (PZ K l c) a
def UI:aH "enumerate"=Y (.type "enumerate"):=by decide+kernel
def ac1{M:ga}{A:iE}{E:iY}{s:ie}{b:db}{c:bq}{T:String}{e:iq}{j:List cP}{Q:iY}
  (h:af M A (hE<|aF c<|ag [e] b) (λw d=>af M A (evalAll ((cq c<|bM j b).map (·.2))) (λo f=>af M A (call (.type T) w (((cq c<|bM j b).filterMap (·.1)).zip o)) Q E f) E d) E s)
  (u:aF c (ag [e] b)=(C,aQ e b)::aF c (ag [] b))(q:(aF c<|ag [e] b).any (·.1)=C)(p:(cq c<|bM j b).all (·.1.isSome)=J)(l:(cq c<|bM j b).any (·.1.isNone)=C):
  af M A (callWith c (.type T) [] (aF c<|ag [e] b)<|cq c<|bM j b) Q E s:=by
 have t:af M A (evalArgs (.type T) J (aF c<|ag [e] b)<|cq c<|bM j b) (λa d=>af M A (call (.type T) ([]++a.pos) a.kw) Q E d) E s:=by rw[u] at h ⊢;exact evalArgs_kwB p h
 unfold callWith;refine hV<|lz<|nI t (λa d k=>hV<|xJ ?_) λ_ _ x=>x;simp only[q,l,n1];exact hV<|iw<|hV<|nI k (λr f v=>hV<|lz<|wpAny_point<|iw v) λ_ _ x=>x
def Pm{a:iq}{k:TA}{p b M kp:bq}{c:Int}{z:Nat}(L:Gl X "enumerate")(Q:X.mg "enumerate"=KE)(B:PA X [a] k)(C:bg c=K0)
  (E:aF b (ag [a] X.env)=(K2,aQ a X.env)::aF b (ag [] X.env))(w:(aF b<|ag [a] X.env).any (·.1)=K2):
  PI X (.Tuple m y n) (.Call (.Name "enumerate" p) [a] [⟨Y "start",.Constant (.int c) z M,kp⟩] b) (Vz X.K c k):=by
 intro g s i H R I h;refine xG<|si I L Q UI<|ac1 (NL (B b g s i H _ I h) λus s1 a'=>?_) E w K3 K3;obtain⟨vs,e,r,N,l,xs,hv,j,q⟩:=a';subst hv;obtain⟨u,rfl,U⟩:=qQ N;cases U;refine kws_cons<|NL (Pw g s1 i e (λv o=>v= .int c/\o=e) r ⟨rfl,rfl⟩) λv s2 ⟨x,H2,f,Y',T,A⟩=>kws_nil ?_;subst T;subst A;obtain⟨t,rfl⟩:=Y';obtain⟨J,_,O,_⟩:=f.tuple j;exact aet O C λD d G kp=>UA f j d G kp q
noncomputable def Fn(c:Int)(f:F):Cf:=λa=>(f a).bind λp=>match p.1.1 with
 | .tup l=>Y (l.zipIdx.map λq=> .tup [.int<|c+q.2,q.1],p.2)
 |_=>I
def TN{K:iJ}{T:SI}{i:L2.St}{d c:Dn}{H:Hp}{r:D×Bool}{f:F}{Q:List V->Hp->Prop}(E:ER K H T i d)(h:f d=Y (r,c))(k: ∀v l,Ar i d H c l->ER K l T i c->Rep K l (λa=>W3 i c a\/T a) r.1 v->Q [v] l):tA K [iu f] i H Q:=by
 refine⟨d,T,[.val r],c,E,?_,λu o w B=>?_⟩
 .show((iu f d).bind λp=>(kx [] p.2).bind λq=>Y (p.1::q.1,q.2))=_;simp only[iu,h,Option.bind,kx]
 .have t:=B.len;rcases u with _|⟨v,_|⟨_,_⟩⟩<;>try cases t
  exact k v o B.keep (B.er.mono (λ_ _ e _=>e) (λb _ z=>B.tt b z) λa z=>B.er.dom a<|B.tt a z)<|B.rep E (j:=0) K3 K3
def Rm{K:iJ}{B:SB}{c:Int}{f:F}{i:L2.St}{H:Hp}{R:It->Hp->Prop}(r:tI K B (Fn c f) i H R):Vz K c (tA K [iu f]) i H R:=by
 obtain⟨Q,T,U,A,E,e,k⟩:=r;obtain⟨⟨⟨d,o⟩,b⟩,h1,e⟩:=hG e;refine TN E h1 λv j p h w=>?_
 cases d with
 |tup l=>obtain⟨rfl,rfl⟩:=iP e;obtain⟨a,x,rfl,q,u⟩:=DC (d:= .tup l) K3 w;have q:=q.mono (λ_ _ e _=>e) (P':=Md B T i b) λa z=>z.own;exact⟨a,x,rfl,Ja.t q,k _ j p h (afM q u λa z=>z.own)⟩
 |_=>cases e
def afu{B:SB}{a:iq}{f:F}{p b q kp:bq}{c:Int}{z:Nat}(k:Gl X "enumerate")(l:X.mg "enumerate"=I)(e:PX X a f)(h:bg c=J)(s0:ag [a] X.env=(C,aQ a X.env)::ag [] X.env)
  (j:aF b (ag [a] X.env)=(C,aQ a X.env)::aF b (ag [] X.env))(d:(aF b<|ag [a] X.env).any (·.1)=C):
  MP X B (.Tuple m y n) (.Call (.Name "enumerate" p) [a] [⟨Y "start",.Constant (.int c) z q,kp⟩] b) (Fn c f):=PI.imp' (Pm k l (BG (PX.po e) Fb s0) h j d) λi H R o=>Rm o
end
section
variable {c:iL}{w:iD}{A:iE}{E:iY}{s:ie}{z TI TO i h g f:hJ}{k:Nat}{e d:oA}{x y a b:ir}
end
section
variable {X:Cx}{a:kj}{c:Nat}{b:bq}
end
end PX
namespace TS
def Ask(M:ga)(A:iE)(G:ie->Prop)(it:Nat->d9)(d:lv)(N:Nat)(lt:Nat->Nat->Bool):Prop:= ∀i j,i<N->j<N-> ∀s,G s-> ∀a,af M A (wS d (it i).1 (it j).1) (λb c=>G c/\b=lt i j) a s
structure Cs where
 M:ga
 A:iE
 E:ir->ie->Prop
 G:ie->Prop
 it:Nat->d9
 lt:Nat->Nat->Bool
 κ:lv
 N:Nat
 as: ∀i j,lt i j=K0->lt j i=K2
 tr: ∀{i j k},lt j i=K2->lt k j=K2->lt k i=K2
 ask:Ask M A G it κ N lt
section
variable {X:Cs}{α β:Type}{f:α->StateT tJ da β}{Q:β->tJ->Prop}{st:tJ}
def wp(X:Cs){α:Type}(m:StateT tJ da α)(Q:α->tJ->Prop)(st:tJ):Prop:= ∀s,X.G s->af X.M X.A (m.run st) (λr a=>X.G a/\Q r.1 r.2) X.E s
def ip{a:β}(h:Q a st):wp X (pure a) Q st:=λs g=>by rw[HY];exact iw ⟨g,h⟩
def kg{m:StateT tJ da α}(h:wp X m (λa c=>wp X (f a) Q c) st):wp X (m>>=f) Q st:=λs g=>by rw[StateT.run_bind];exact hV<|nI (h s g) (λr d b=>b.2 d b.1) λ_ _ e=>e
def J7{m:StateT tJ da α}{Q b:α->tJ->Prop}(h:wp X m Q st)(i: ∀a c,Q a c->b a c):wp X m b st:=λs g=>nI (h s g) (λr _ d=>⟨d.1,i _ _ d.2⟩) λ_ _ e=>e
def iZ{c:Prop}[Decidable c]{t e:StateT tJ da β}(h1:c->wp X t Q st)(a: ¬c->wp X e Q st):wp X (if c then t else e) Q st:=by split<;>simp_all
def pF{f:tJ->StateT tJ da β}(h:wp X (f st) Q st):wp X (get>>=f) Q st:=kg λs g=>by rw[StateT.run_get];exact iw ⟨g,h⟩
def wW{g:tJ->tJ}{f:PUnit->StateT tJ da β}(h:wp X (f ⟨⟩) Q (g st)):wp X (modify g>>=f) Q st:=kg λs g=>by rw[StateT.run_modify];exact iw ⟨g,h⟩
def J8{m:da α}(h: ∀s,X.G s->af X.M X.A m (λa b=>X.G b/\wp X (f a) Q st) X.E s):wp X (liftM m>>=f) Q st:=kg λs g=>by show af X.M X.A ((StateT.lift m:StateT tJ da α).run st) _ X.E s;rw[StateT.run_lift];exact hV<|nI (h s g) (λa b c=>iw c) λ_ _ e=>e
def uZ{x:String}{f:Unit->StateT tJ da β}(h:wp X (f ()) Q st):wp X (liftM (rule x)>>=f) Q st:=J8 λs g=>uf ⟨g,h⟩
def Sq{e:Nat}{g:Nat->α->StateT tJ da (ForInStep α)}{U:Nat->α->tJ->Prop}{T:α->tJ->Prop}
  (m: ∀i c st,i<e->U i c st->wp X (g i c) (λr b=>match r with| .done d=>T d b| .yield d=>U (i+1) d b) st)(l: ∀c st,U e c st->T c st):
  ∀(n a:Nat) (c:α) (st:tJ),a+n=e->U a c st->wp X (forIn (bu a n 1) c g) T st:=by
 intro p
 induction p with
 |zero=>intro a c st rfl h;exact ip<|l _ _ h
 |succ n o=>
  intro a c st q h;rw[A4,Il];refine kg<|J7 (m a c st (by lia) h) λr b k=>?_
  cases r with
  |done j=>exact ip k
  |yield j=>exact o _ j b (by lia) k
def mw{g:Nat->α->StateT tJ da (ForInStep α)}(U:Nat->α->tJ->Prop)(T:α->tJ->Prop){a b:Nat}{c:α}(h:U a c st)
  (l: ∀i c st,i<a+(b-a)->U i c st->wp X (g i c) (λr e=>match r with| .done d=>T d e| .yield d=>U (i+1) d e) st)
  (j: ∀c st,U (a+(b-a)) c st->T c st)(k: ∀c st,T c st->wp X (f c) Q st):wp X (forIn [a:b] c g>>=f) Q st:=by
 refine kg<|J7 ?_ k;rw[Std.Legacy.Range.forIn_eq_forIn_range'];exact Sq l j _ _ _ _ (by simp[Std.Legacy.Range.size]) h
noncomputable abbrev ar(X:Cs)(l:jw):Array Keyed:=(l.map X.it).toArray
def lQ{l:jw}{i x:Nat}{f:d9->StateT tJ da β}(e:l[i]?=Y x)(h:wp X (f<|X.it x) Q st):wp X (elem' (ar X l) i>>=f) Q st:=kg (by rw[elem'_eq,show(ar X l)[i]?=Y (X.it x) by simp[e]];exact ip h)
def F8{i j:Nat}{f:Option Bool->StateT tJ da β}(hk:kindOf st=X.κ)(k:i<X.N)(l:j<X.N)(h: ∀b,X.lt i j=b->wp X (f<|Y b) Q st):wp X (lt' (X.it i) (X.it j)>>=f) Q st:=kg (by rw[lt'_eq];refine pF ?_;rw[hk];refine J8 λs g=>ud<|nI (X.ask i j k l s g λ_ _=>False) (λb m c=>?_) λe m d=>d.elim;obtain⟨a,rfl⟩:=c;exact⟨a,ip<|h _ rfl⟩)
structure Rp(X:Cs)(q:Array (Nat×Nat×Nat))(L:jw)(st:tJ):Prop where
 a:eO st=ar X L
 k:kindOf st=X.κ
 f:fj st=KE
 q:pendingOf st=q
 p:L.Perm (am X.N)
def Rp.n{q:Array (Nat×Nat×Nat)}{L:jw}(R:Rp X q L st){i x:Nat}(e:L[i]?=Y x):x<X.N:=by simpa using R.p.mem_iff.mp<|mq e
def F9{q:Array (Nat×Nat×Nat)}{L:jw}(R:Rp X q L st){i j x y:Nat}{f:Option Bool->StateT tJ da β}(c:L[i]?=Y x)(d:L[j]?=Y y)(h: ∀b,X.lt x y=b->wp X (f<|Y b) Q st):wp X (ltAt' i j>>=f) Q st:=kg (by rw[ltAt'_eq];refine pF ?_;rw[R.a];exact lQ c<|lQ d<|by rw[<-bind_pure (lt' _ _)];exact F8 R.k (R.n c) (R.n d) λb e=>ip<|h b e)
def adX{α:Type}(T A R:List α){d:Nat}(hd:d=(Ls A) / 2):mirror (T++(A++R)).toArray (Ls T) (Ls T+Ls A) d=(T++(A.reverse++R)).toArray:=by
 have hd:d=(Ls T+Ls A-Ls T) / 2:=by lia
 subst hd;apply Array.ext_getElem?;intro k;rw[getElem?_mirror_all<|by simp];simp only[List.getElem?_toArray];by_cases h1:k<Ls T
 .rw[iG<|by lia,pA h1,pA h1]
 .obtain⟨k,rfl⟩:=Nat.exists_eq_add_of_le<|lA h1;rw[pB (by lia) (l₂:=A.reverse++R),Et];by_cases a:k<Ls A
  .rw[iz<|by lia,pB<|by lia,pA<|by lia,pA<|by simpa using a,List.getElem?_reverse a]
   congr 1;lia
  .rw[iG<|by lia,pB<|by lia,Et,pB<|by lia,pB<|by simpa using a,NA]
def ad4{α:Type}(R:List α)(x:α): ∀(A T:List α) {i:Nat},i=Ls T+Ls A->bubble (T++(A++x::R)).toArray i (Ls A)=(T++(x::(A++R))).toArray:=by
 intro c
 induction c with
 |nil=>intro T i h;exact H
 |cons a A b=>
  intro T i h;have:=b (T++[a]) (i:=i) (by simp at h ⊢;lia);rw[kO,bubble_succ,show T++(a::A++x::R)=T++[a]++(A++x::R) by simp,this];have e:i-Ls A=Ls T+1:=by simp at h;lia
  rw[e,j3];simp[Array.swapIfInBounds]
variable {q:Array (Nat×Nat×Nat)}{T A R:jw}{i j x:Nat}
def NZ{b:Dp}{L a:jw}(S:Rp X q L st)(e:b=ar X a)(p:a.Perm L):Rp X q a (setArr st b):=⟨e,S.k,S.f,S.q,p.trans S.p⟩
def IM{f:Unit->StateT tJ da β}(S:Rp X q (T++(A++R)) st)(c:i=Ls T)(e:j=Ls T+Ls A)(h: ∀b,Rp X q (T++(A.reverse++R)) b->wp X (f ()) Q b):wp X (AT i j>>=f) Q st:=by rw[reverseSlice'_eq];subst c e;refine wW<|h _ (NZ S ?_<|((A0 A).append_right R).append_left T);have:=adX (T.map X.it) (A.map X.it) (R.map X.it) (d:=(Ls T+Ls A-Ls T) / 2) (by simp);simpa[ar,S.a] using this
def Wl{f:Unit->StateT tJ da β}(S:Rp X q (T++(A++x::R)) st)(c:i=Ls T+Ls A)(d:j=Ls T)(h: ∀b,Rp X q (T++(x::(A++R))) b->wp X (f ()) Q b):wp X (moveDown' i j>>=f) Q st:=by rw[moveDown'_eq];subst c d;refine wW<|h _ (NZ S ?_<|R6.symm.append_left T);have:=ad4 (R.map X.it) (X.it x) (A.map X.it) (T.map X.it) (i:=Ls T+Ls A) (by simp);simpa[ar,S.a] using this
end
abbrev Cs.le(X:Cs)(i j:Nat):Prop:=X.lt j i=C
section
variable {X:Cs}{o:Type}{Q:o->tJ->Prop}{st:tJ}{q:Array (Nat×Nat×Nat)}{T A B D R L:jw}{i j x y:Nat}{r:Nat->Nat->Prop}
def MW(h:i=Ls T+Ls A):(T++(A++x::R))[i]?=Y x:=by subst h;simp
def ix1(h:i=Ls T+Ls A+1):(T++(A++x::y::R))[i]?=Y y:=by subst h;rw[<-oT,pB<|by simp];simp
def Gr(u:D.Pairwise r)(h: ∀z∈D,r z y):(D++[y]).Pairwise r:=tu.mpr ⟨u,Nz _ _,λa c b d=>AO.mp d▸h a c⟩
def G0(e: ∀{a b c},r a b->r b c->r a c)(u:(D++[x]).Pairwise r)(h:r x y): ∀z∈D++[x],r z y:=λz d=>by
 rcases qh.mp d with d|d
 .exact e ((tu.mp u).2.2 z d x jc) h
 .rw[AO.mp d];exact h
def N3{g:Nat->Option (Option Nat)×Nat->StateT tJ da (ForInStep<|Option (Option Nat)×Nat)}{f:Option (Option Nat)×Nat->StateT tJ da o}{lo n m:Nat}
  (p: ∀i n,g i (I,n)=(ltAt' (lo+n) (lo+n-1)>>=λx=>match x with|some b=>if b=J then pure (.done (I,n)) else pure (.yield (I,n+1))|_=>pure<|.done (Y I,n)))
  (S:Rp X q (T++(A++x::R)) st)(v:(Ls T)=lo)(t:n=Ls A+1)(a:m=n+R.length)(u:(A++[x]).Pairwise X.le)
  (h: ∀A x R,Rp X q (T++(A++x::R)) st->m=Ls A+1+R.length->(A++[x]).Pairwise X.le->(∀y l,R=y::l->X.lt y x=J)->wp X (f (I,Ls A+1)) Q st):wp X (forIn [n:m] (I,n) g>>=f) Q st:=by
 refine mw (λi c s=>s=st/\c=(I,i)/\ ∃A x R,Rp X q (T++(A++x::R)) st/\i=Ls A+1/\m=i+R.length/\(A++[x]).Pairwise X.le)
  (λc s=>s=st/\ ∃A x R,Rp X q (T++(A++x::R)) st/\c=(I,Ls A+1)/\m=Ls A+1+R.length/\(A++[x]).Pairwise X.le/\ ∀y l,R=y::l->X.lt y x=J) ⟨rfl,rfl,A,x,R,S,t,a,u⟩ ?_ ?_ ?_
 .rintro i c s d ⟨rfl,rfl,A,x,R,S,rfl,h1,u⟩;rw[p];obtain⟨y,l,rfl⟩:=tZ (l:=R) (by lia);refine F9 S (ix1<|by lia) (MW<|by lia) λb e=>?_
  cases b with
  |true=>exact ip ⟨rfl,A,x,_,S,rfl,h1,u,λ_ _ k=>by cases k;exact e⟩
  |false=>exact ip ⟨rfl,rfl,A++[x],y,l,by simpa using S,by simp,by simp at h1;lia,Gr u<|G0 X.tr u e⟩
 .rintro c s ⟨rfl,rfl,A,x,R,S,d,h1,u⟩;exact⟨rfl,A,x,R,S,by rw[d],by lia,u,λy l e=>by subst e;simp at h1;lia⟩
 .rintro c s ⟨rfl,A,x,R,S,rfl,a,u,e⟩;exact h A x R S a u e
def N0{c:Prop}[Decidable c]{k:StateT tJ da o}(S:Rp X q (T++(A++R)) st)(e:i=Ls T)(f:j=Ls T+Ls A)(d: ¬c->Ls A=1)(h: ∀b,Rp X q (T++(A.reverse++R)) b->wp X k Q b):wp X (if c then AT i j>>=λ_=>k else k) Q st:=iZ (λ_=>IM S e f h) λz=>h _ (by obtain⟨a,rfl⟩:=YQ.mp<|d z;exact S)
def dnT(d:(A++B).Pairwise λa b=>X.le b a)(u:B.Pairwise X.le):(A++B.reverse).Pairwise λa b=>X.le b a:=by rw[tu] at d ⊢;exact⟨d.1,IK.mpr u,λa c b e=>d.2.2 a c b<|c5.mp e⟩
def Cs.rf(X:Cs)(i:Nat):X.le i i:=ka.mpr λh=>k4<|h.symm.trans<|X.as i i h
def U5{k m:StateT tJ da o}(P:tJ->Prop)(b:(∀a,P a->wp X k Q a)->wp X m Q st)(hk: ∀a,P a->wp X k Q a):wp X m Q st:=b hk
def afN{lo m:Nat}{Q:Option Nat->tJ->Prop}(S:Rp X q (T++x::R) st)(p:(Ls T)=lo)(f:m=1+R.length)(h: ∀A R g,Rp X q (T++(A++R)) g->A≠[]->A.Pairwise X.le->m=Ls A+R.length->Q (Y<|Ls A) g):wp X (countRun' lo m) Q st:=by
 have fin: ∀A x R g,Rp X q (T++(A++x::R)) g->m=Ls A+1+R.length->(A++[x]).Pairwise X.le->Q (Y<|Ls A+1) g:=λA x R g S f u=>by simpa using h (A++[x]) R g (by simpa using S) (by simp) u (by simpa using f)
 have ge: ∀{a b c},X.le b a->X.le c b->X.le c a:=λh1 t=>X.tr t h1;rw[countRun'_eq];dsimp only;refine N3 (λ_ _=>rfl) (A:=[]) S p H f (by simp) λA x R S f u M=>?_;refine iZ (λ_=>ip<|fin A x R _ S f u) λO=>?_;obtain⟨y,l,rfl⟩:=tZ (l:=R) (by simp at O;lia);apply U5 λg=>Rp X q (T++((A++[x]).reverse++y::l)) g/\ ∀z∈A++[x],X.le y z
 .intro F;have w:=X.as _ _ (M y l H);refine iZ (λh1=>?_) λh1=>F _ ?_
  .obtain⟨a,A,rfl⟩:=tZ (l:=A)<|Nat.lt_of_succ_lt_succ h1;refine F9 S (x:=a) (y:=x) (MW (A:=[])<|by simpa using p.symm) (MW<|by simp;lia) λb e=>?_
   cases b with
   |true=>exact ip<|fin _ x _ _ S f u
   |false=>
    refine IM (A:=a::A++[x]) (by simpa using S) p.symm (by simp;lia) λg n=>F _ ⟨n,λz k=>X.tr (X.tr w e) ?_⟩;rcases mz.mp k with rfl|k
    .exact X.rf _
    .exact(Dr.mp u).1 z k
  .obtain rfl:=AZ (l:=A) (by simpa using h1);exact⟨S,by simpa using w⟩
 .rintro st ⟨S,d⟩;have t:(Ls A)+2<=m:=by simp at f;lia
  dsimp only
  refine uZ (mw (λi c s=> ∃U B x R,c=(I,i,Ls B)/\Rp X q (T++(U++(B++x::R))) s/\i=Ls U+Ls B+1/\m=i+R.length/\(U++(B++[x])).Pairwise (λa b=>X.le b a)/\(B++[x]).Pairwise X.le)
   (λc s=> ∃U B x R,c=(I,Ls U+Ls B+1,Ls B)/\Rp X q (T++(U++(B++x::R))) s/\m=Ls U+Ls B+1+R.length/\(U++(B++[x])).Pairwise (λa b=>X.le b a)/\(B++[x]).Pairwise X.le) ⟨(A++[x]).reverse,[],y,l,rfl,S,by simp,by simp at f ⊢;lia,?_,by simp⟩ ?_ ?_ ?_)
  .exact Gr (IK.mpr u) λz k=>d z<|c5.mp k
  .rintro i c s v ⟨U,B,x,R,rfl,S,rfl,f,d,u⟩;obtain⟨y,l,rfl⟩:=tZ (l:=R) (by lia);rw[<-oT] at S;refine F9 S (ix1<|by simp;lia) (MW<|by simp;lia) λb e=>?_
   cases b with
   |true=>refine N0 (T:=T++U) (A:=B++[x]) (by simpa using S) (by simp;lia) (by simp;lia) (λz=>by simp at z ⊢;exact z) λg n=>ip ⟨U++(B++[x]).reverse,[],y,l,rfl,by simpa using n,by simp;lia,by simp at f;lia,Gr (dnT d u) λz k=>?_,by simp⟩;rw[<-oT] at d;exact G0 (r:=λa b=>X.le b a) ge d (X.as _ _ e) z (by simpa[or_comm] using k)
   |false=>
    refine F9 S (MW<|by simp;lia) (ix1<|by simp;lia) λb N=>?_
    cases b with
    |true=>exact ip ⟨U,B,x,_,rfl,by simpa using S,f,d,u⟩
    |false=>refine ip ⟨U,B++[x],y,l,by simp,by simpa using S,by simp;lia,by simp at f;lia,?_,Gr u<|G0 X.tr u e⟩;rw[<-oT] at d ⊢;rw[<-oT];exact Gr d<|G0 (r:=λa b=>X.le b a) ge d N
  .rintro c s ⟨U,B,x,R,rfl,S,v,f,d,u⟩;exact⟨U,B,x,R,by rw[v],S,by lia,d,u⟩
  .rintro c s ⟨U,B,x,R,rfl,S,f,d,u⟩;refine N0 (T:=T++U) (A:=B++[x]) (by simpa using S) (by simp;lia) (by simp;lia) (λz=>by simp at z ⊢;exact z) λg n=>?_;refine IM (T:=T) (A:=U++(B++[x]).reverse) (by simpa using n) p.symm (by simp;lia) λg n=>?_;have u:=IK.mpr<|dnT d u;rcases AY (U++(B++[x]).reverse).reverse with e|⟨E,G,e⟩
   .simp at e
   .rw[e,AX] at n u;have k:=mC dQ e;simp at k;exact N3 (λ_ _=>rfl) (A:=E) (x:=G) (R:=R) (by simpa using n) p (by dsimp only;lia) (by dsimp only;lia) u λA x R S f u _=>ip<|fin A x R _ S f u
end
section
variable {X:Cs}{g:Type}{Q:g->tJ->Prop}{st:tJ}{q:Array (Nat×Nat×Nat)}{T A B D R L:jw}{i j x y:Nat}{p:Nat->Bool}
abbrev Mo(X:Cs)(p:Nat->Bool):Prop:= ∀a b,X.le a b->p b=J->p a=J
abbrev Lo(p:Nat->Bool)(A:jw)(a:Nat):Prop:= ∀i,i<a->p (A.getD i 0)=J
abbrev Hi(p:Nat->Bool)(A:jw)(a:Nat):Prop:= ∀i,a<=i->i<Ls A->p (A.getD i 0)=C
def Qe:Mo X λz=>!X.lt x z:=λa b h c=>by simp only[c4] at c ⊢;exact X.tr h c
def aal:Mo X λz=>X.lt z x:=λa b h c=>by
 cases e:X.lt a x with
 |true=>exact e
 |false=>exact k4<|(X.tr e h).symm.trans c
def upD(u:A.Pairwise X.le)(b:i<=j)(h:j<Ls A):X.le (A.getD i 0) (A.getD j 0):=by
 have a:i<(Ls A):=by lia
 simp only[lO,jg h,jg a,gO];rcases j2 b with e|rfl
 .exact Sd.mp u i j a h e
 .exact X.rf _
def GU(u:A.Pairwise X.le)(m:Mo X p)(h:i<Ls A)(e:p (A.getD i 0)=J):Lo p A (i+1):=λj a=>m _ _ (upD u (by lia) h) e
def G7(u:A.Pairwise X.le)(m:Mo X p)(e:p (A.getD i 0)=C):Hi p A i:=λj a h=>by
 cases c:p (A.getD j 0) with
 |false=>rfl
 |true=>exact(m _ _ (upD u a h) c).symm.trans e
def K6(h:Lo p A i): ∀z∈A.take i,p z=J:=λz a=>by obtain⟨k,hk,rfl⟩:=Es a;have hk:=tR▸hk;have:=h k (by lia);simpa[show k<(Ls A) by lia] using this
def Li(h:Hi p A i): ∀z∈A.drop i,p z=C:=λz a=>by obtain⟨k,hk,rfl⟩:=Es a;simp at hk;have:=h (i+k) (by lia) (by lia);simpa[show i+k<(Ls A) by lia] using this
def ixD(a:(Ls T)=j)(h:i<Ls A):(T++(A++R))[j+i]?=Y (A.getD i 0):=by subst a;rw[pB<|by lia,Et,pA h];simp[h]
def acn(u:A.Pairwise X.le)(h1: ∀z∈A.take i,(!X.lt y z)=J)(e: ∀z∈A.drop i,(!X.lt y z)=C):(A.take i++y::A.drop i).Pairwise X.le:=by
 rw[<-wM i A,tu] at u;refine tu.mpr ⟨u.1,Dr.mpr ⟨λz f=>X.as _ _ (by simpa using e z f),u.2.1⟩,λa d b c=>?_⟩;rcases mz.mp c with rfl|c
 .simpa using h1 a d
 .exact u.2.2 a d b c
def Wm{lo n k:Nat}{Q:Bool->tJ->Prop}(S:Rp X q (T++(A++R)) st)(N:(Ls T)=lo)(E:(Ls A)=k)(O:0<k)(o:n<=k+R.length)(hk:k<=n)(u:A.Pairwise X.le)
  (h: ∀A R w,Rp X q (T++(A++R)) w->Ls A=n->A.Pairwise X.le->Q J w):wp X (binarySort' lo n k) Q st:=by
 rw[binarySort'_eq,show max k 1=k by lia];dsimp only;refine mw (λk c s=>c=(I,())/\ ∃A R,Rp X q (T++(A++R)) s/\(Ls A)=k/\A.Pairwise X.le/\n<=k+R.length) (λc s=>c=(I,())/\ ∃A R,Rp X q (T++(A++R)) s/\(Ls A)=n/\A.Pairwise X.le) ⟨rfl,A,R,S,E,u,o⟩ ?_ ?_ ?_
 .rintro k c s m ⟨rfl,A,R,S,rfl,u,o⟩;obtain⟨y,l,rfl⟩:=tZ (l:=R) (by lia)
  refine mw (λi c r=>r=s/\ ∃a b,c=(I,a,b)/\a<=b/\b<=Ls A/\b<=a+(Ls A-i)/\Lo (λz=>!X.lt y z) A a/\Hi (λz=>!X.lt y z) A b)
   (λc r=>r=s/\ ∃a b,c=(I,a,b)/\a<=Ls A/\Lo (λz=>!X.lt y z) A a/\Hi (λz=>!X.lt y z) A a) ⟨rfl,0,Ls A,rfl,by lia,by lia,by lia,λi h=>by lia,λi h M=>by lia⟩ ?_ ?_ ?_
  .rintro i c _ m ⟨rfl,a,b,rfl,h1,t,v,d,f⟩;dsimp only;refine iZ (λe=>ip ⟨rfl,a,b,rfl,by lia,d,(show a=b by lia)▸f⟩) λe=>?_;refine F9 S (MW<|by lia) (ixD N<|by lia) λc e=>?_
   cases c with
   |true=>exact ip ⟨rfl,a,_,rfl,by lia,by lia,by lia,d,G7 u Qe<|by rw[e];rfl⟩
   |false=>exact ip ⟨rfl,_,b,rfl,by lia,by lia,by lia,GU u Qe (by lia)<|by rw[e];rfl,f⟩
  .rintro c _ ⟨rfl,a,b,rfl,h1,t,v,d,f⟩;exact⟨rfl,a,b,rfl,by lia,d,(show a=b by lia)▸f⟩
  .rintro c _ ⟨rfl,a,b,rfl,h1,t,v⟩;refine Wl (T:=T++A.take a) (A:=A.drop a) (by rw[oT,<-oT (A.take a),wM];exact S) (by simp;lia) (by simp;lia) λr U=>ip ⟨rfl,A.take a++y::A.drop a,l,by simpa using U,by simp;lia,acn u (K6 t)<|Li v,by simp at o;lia⟩
 .rintro c s ⟨rfl,A,R,S,m,u,o⟩;exact⟨rfl,A,R,S,by lia,u⟩
 .rintro c s ⟨rfl,A,R,S,m,u⟩;exact ip<|h A R s S m u
noncomputable def Uq:Bool->d9->Array d9->Nat->Nat->Nat->StateT tJ da (Option Nat):=sortPriv%PySem.Builtin.gallop
noncomputable def Qf:Array d9->Array d9->StateT tJ da (Array d9):=sortPriv%PySem.Builtin.mergeLo
noncomputable def Qg:Array d9->Array d9->StateT tJ da (Array d9):=sortPriv%PySem.Builtin.mergeHi
noncomputable def SM:Nat->StateT tJ da Unit:=sortPriv%PySem.Builtin.setMinGallop
def Zz{k:Nat->Nat->StateT tJ da g}{m:StateT tJ da g}(P:Nat->Nat->Prop)(c:(∀a b,P a b->wp X (k a b) Q st)->wp X m Q st)(hk: ∀a b,P a b->wp X (k a b) Q st):wp X m Q st:=c hk
noncomputable abbrev gp(X:Cs)(left:Bool)(x z:Nat):Bool:=if left=J then X.lt z x else !X.lt x z
def EO{left:Bool}{base:Nat}{f:Option Bool->StateT tJ da g}(hk:kindOf st=X.κ)(k: ∀z∈A,z<X.N)(c:x<X.N)(l:(Ls T)=base)(a:i<Ls A)(h: ∀b,gp X left x (A.getD i 0)=b->wp X (f<|Y b) Q st):
  wp X ((elem' (ar X<|T++(A++R)) (base+i)>>=λz=>if left=J then lt' z (X.it x) else lt' (X.it x) z>>=λr=>pure<|px (λx=>!x) r)>>=f) Q st:=by
 have d:A.getD i 0<X.N:=k _ (by simp[a]);refine kg<|lQ (ixD l a) ?_
 cases left with
 |true=>rw[iz H,<-bind_pure (lt' _ _)];exact F8 hk d c λb e=>ip<|h b e
 |false=>exact F8 hk c d λb e=>ip<|h (!b)<|mC not e
def zm{left:Bool}{base n hint:Nat}{Q:Option Nat->tJ->Prop}(hk:kindOf st=X.κ)(t: ∀z∈A,z<X.N)(w:x<X.N)(u:A.Pairwise X.le)(G:L=T++(A++R))(v:(Ls T)=base)(H:(Ls A)=n)(U:hint<n)
  (h: ∀r,r<=n->(∀z∈A.take r,gp X left x z=K0)->(∀z∈A.drop r,gp X left x z=C)->Q (Y r) st):wp X (Uq left (X.it x) (ar X L) base n hint) Q st:=by
 subst G
 have m:Mo X (gp X left x):=by
  cases left with
  |true=>exact aal
  |false=>exact Qe
 apply Zz λa b=>a<=b/\b<=n/\Lo (gp X left x) A a/\Hi (gp X left x) A b
 .intro F;refine EO hk t w v (H▸U) λb e=>?_;refine iZ (λz=>?_) λz=>?_
  .subst z
   refine mw (λi c s=>st=s/\ ∃a b,c=(KE,a,b)/\a<b/\i<b/\hint+a<n/\Lo (gp X left x) A (hint+a+1)) (λc s=>st=s/\ ∃a b,c=(KE,a,b)/\a<b/\hint+a<n/\Lo (gp X left x) A (hint+a+1)/\(n-hint<=b\/Hi (gp X left x) A (hint+b)))
    ⟨rfl,0,1,rfl,by lia,by lia,U,GU u m (H▸U) e⟩ ?_ ?_ ?_
   .rintro i c _ E ⟨rfl,a,b,rfl,h1,o,l,f⟩;dsimp only;refine iZ (λz=>ip ⟨rfl,a,b,rfl,h1,l,f,.inl z⟩) λz=>EO hk t w v (by lia) λc e=>?_
    cases c with
    |true=>exact ip ⟨rfl,_,_,rfl,by lia,by lia,by lia,GU u m (by lia) e⟩
    |false=>exact ip ⟨rfl,a,b,rfl,h1,l,f,.inr<|G7 u m e⟩
   .rintro c _ ⟨rfl,a,b,rfl,h1,o,l,f⟩;exact⟨rfl,a,b,rfl,h1,l,f,.inl<|by lia⟩
   .rintro c _ ⟨rfl,a,b,rfl,h1,l,f,k⟩;dsimp only;generalize I:hint+a+1=c at*;generalize O:hint+min b (n-hint)=d;refine F c d ⟨by lia,by lia,f,λi J M=>?_⟩;rcases k with k|k
    .lia
    .exact k i (by lia) M
  .refine mw (λi c s=>st=s/\ ∃a b,c=(KE,a,b)/\a<b/\i<b/\a<=hint/\Hi (gp X left x) A (hint-a)) (λc s=>st=s/\ ∃a b,c=(KE,a,b)/\a<b/\a<=hint/\Hi (gp X left x) A (hint-a)/\(hint<b\/Lo (gp X left x) A (hint-b+1)))
    ⟨rfl,0,1,rfl,by lia,by lia,by lia,G7 u m<|by simpa[z] using e⟩ ?_ ?_ ?_
   .rintro i c _ E ⟨rfl,a,b,rfl,h1,o,l,f⟩;dsimp only;refine iZ (λz=>ip ⟨rfl,a,b,rfl,h1,l,f,.inl z⟩) λz=>EO hk t w v (by lia) λc e=>?_
    cases c with
    |true=>exact ip ⟨rfl,a,b,rfl,h1,l,f,.inr<|GU u m (by lia) e⟩
    |false=>exact ip ⟨rfl,_,_,rfl,by lia,by lia,by lia,G7 u m e⟩
   .rintro c _ ⟨rfl,a,b,rfl,h1,o,l,f⟩;exact⟨rfl,a,b,rfl,h1,l,f,.inl<|by lia⟩
   .rintro c _ ⟨rfl,a,b,rfl,h1,l,f,k⟩;dsimp only;generalize O:hint-a=d at*;generalize I:hint+1-min b (hint+1)=c;refine F c d ⟨by lia,by lia,λi J=>?_,f⟩;rcases k with k|k
    .lia
    .exact k i (by lia)
 .rintro a b ⟨h1,o,l,f⟩;refine mw (λi c s=>st=s/\ ∃a b,c=(KE,a,b)/\a<=b/\b<=n/\b<=a+(n-i)/\Lo (gp X left x) A a/\Hi (gp X left x) A b) (λc s=>st=s/\ ∃a,c=(KE,a,a)/\a<=n/\Lo (gp X left x) A a/\Hi (gp X left x) A a) ⟨rfl,a,b,rfl,h1,o,by lia,l,f⟩ ?_ ?_ ?_
  .rintro i c _ E ⟨rfl,a,b,rfl,h1,o,l,f,k⟩;refine iZ (λz=>?_) λz=>EO hk t w v (by dsimp only at z ⊢;lia) λc e=>?_
   .have:a=b:=by dsimp only at z;lia
    subst this;exact ip ⟨rfl,a,rfl,o,f,k⟩
   .dsimp only at z
    cases c with
    |true=>exact ip ⟨rfl,_,b,rfl,by dsimp only;lia,o,by dsimp only;lia,GU u m (by dsimp only;lia) e,k⟩
    |false=>exact ip ⟨rfl,a,_,rfl,by dsimp only;lia,by dsimp only;lia,by dsimp only;lia,f,G7 u m e⟩
  .rintro c _ ⟨rfl,a,b,rfl,h1,o,l,f,k⟩;have:a=b:=by lia
   subst this;exact⟨rfl,a,rfl,o,f,k⟩
  .rintro c _ ⟨rfl,a,rfl,o,f,k⟩;exact ip<|h a o (K6 f)<|Li k
end
section
variable {X:Cs}{β:Type}{Q:β->tJ->Prop}{st:tJ}{pq:Array (Nat×Nat×Nat)}{q r L Z a b o k:jw}{i j x y:Nat}{le:Nat->Nat->Prop}{out:Dp}
structure MG(le:Nat->Nat->Prop)(Z a b o:jw):Prop where
 s:o.Pairwise le
 c: ∀x∈o,∀y∈a++b,le x y
 p:(o++(a++b)).Perm Z
 ua:a.Pairwise le
 ub:b.Pairwise le
def MG.put(m:MG le Z (k++a) b o)(h: ∀x∈k,∀y∈b,le x y):MG le Z a b (o++k):=by
 have f:=tu.mp m.ua;refine⟨tu.mpr ⟨m.s,f.1,λx e y d=>m.c x e y<|by simp[d]⟩,λx e y d=>?_,by simpa using m.p,f.2.1,m.ub⟩;rcases qh.mp e with e|e
 .refine m.c x e y ?_;simp at d ⊢;exact .inr d
 .rcases qh.mp d with d|d
  .exact f.2.2 x e y d
  .exact h x e y d
def Mg(X:Cs)(le:Nat->Nat->Prop)(Z a b:jw)(out:Dp):Prop:= ∃o,out=ar X o/\MG le Z a b o
def Rs(X:Cs)(Z:jw)(out:Dp):Prop:= ∃o,out=ar X o/\o.Pairwise X.le/\o.Perm Z
def Mg.sw(m:Mg X le Z a b out):Mg X le Z b a out:=by obtain⟨o,e,m⟩:=m;exact⟨o,e,m.s,λx d y f=>m.c x d y<|by simpa[or_comm] using f,(U2.append_left o).trans m.p,m.ub,m.ua⟩
def Mg.put(m:Mg X le Z a b out){a':jw}{c:Dp}(e:a=k++a')(h: ∀x∈k,∀y∈b,le x y)(d:c=out++ar X k):Mg X le Z a' b c:=by obtain⟨o,rfl,m⟩:=m;exact⟨o++k,by simpa[ar] using d,(e▸m).put h⟩
def Mg.a1(m:Mg X le Z (q.drop i) b out)(c:i<Ls q)(h: ∀y∈b,le q[i] y):Mg X le Z (q.drop<|i+1) b (out.push<|X.it q[i]):=m.put (k:=[q[i]]) (zd c) (by simpa using h) (by simp[ar])
def Mg.ak(m:Mg X le Z (q.drop i) b out)(h: ∀x∈(q.drop i).take j,∀y∈b,le x y):Mg X le Z (q.drop<|i+j) b (out++(ar X q).extract i (i+j)):=m.put (by rw[<-List.drop_drop,wM]) h (by simp[ar,Er])
def Mg.fin(m:Mg X X.le Z (q.drop i) (r.drop j) out)(h: ∀x∈q.drop i,∀y∈r.drop j,X.le x y):Rs X Z (out++(ar X q).extract i (ar X q).size++(ar X r).extract j (ar X r).size):=by obtain⟨o,e,m⟩:=((m.put (k:=q.drop i) (a':=[]) (by simp) h H).sw).put (k:=r.drop j) (a':=[]) (by simp) (by simp) H;exact⟨o,by rw[<-e];simp[ar,Er,AW],m.s,by simpa using m.p⟩
def Mg.end(m:Mg X X.le Z (q.drop i) (r.drop j) out)(h:(Ls q)<=i\/(Ls r)<=j):Rs X Z (out++(ar X q).extract i (ar X q).size++(ar X r).extract j (ar X r).size):=m.fin λx c y d=>by
 rcases h with h|h
 .rw[A7 h] at c;cases c
 .rw[A7 h] at d;cases d
def Mg.hd(m:Mg X le Z (q.drop i) b out)(f: ∀{a b c},le a b->le b c->le a c)(e:i<Ls q)(h:le x q[i]): ∀y∈q.drop i,le x y:=λy d=>by
 obtain⟨o,_,m⟩:=m;have:=m.ua;rw[zd e] at this d;rcases mz.mp d with rfl|d
 .exact h
 .exact f h ((Dr.mp this).1 y d)
def Mw{P:d->Prop}{f:α->β->d}{U:α->β->Prop}{c:d}(x: ∃a b,c=f a b/\U a b)(h: ∀a b,U a b->P (f a b)):P c:=by obtain⟨_,_,rfl,i⟩:=x;exact h _ _ i
def eX4{P:g->Prop}{f:α->β->l->ε->g}{U:α->β->l->ε->Prop}{c:g}(x: ∃a b d e,c=f a b d e/\U a b d e)(h: ∀a b c d,U a b c d->P (f a b c d)):P c:=by obtain⟨_,_,_,_,rfl,i⟩:=x;exact h _ _ _ _ i
def PH{P:l->Prop}{f:α->β->m->ε->ζ->l}{U:α->β->m->ε->ζ->Prop}{c:l}(x: ∃a b d e g,c=f a b d e g/\U a b d e g)(h: ∀a b c d e,U a b c d e->P (f a b c d e)):P c:=by obtain⟨_,_,_,_,_,rfl,i⟩:=x;exact h _ _ _ _ _ i
def PD{P:l->Prop}{f:α->β->m->ε->ζ->η->l}{U:α->β->m->ε->ζ->η->Prop}{c:l}(x: ∃a b d e g k,c=f a b d e g k/\U a b d e g k)(h: ∀a b c d e g,U a b c d e g->P (f a b c d e g)):P c:=by obtain⟨_,_,_,_,_,_,rfl,i⟩:=x;exact h _ _ _ _ _ _ i
def My{a b c d e P:Prop}(h:a->b->c->d->e->P)(x:a/\b/\c/\d/\e):P:=h x.1 x.2.1 x.2.2.1 x.2.2.2.1 x.2.2.2.2
def EN{f:Unit->StateT tJ da β}{n:Nat}(S:Rp X pq L st)(h: ∀c,Rp X pq L c->wp X (f ()) Q c):wp X (SM n>>=f) Q st:=wW (g:=λs=>SortSt.mk' (kindOf s) (eO s) (pendingOf s) n<|fj s)<|h _ ⟨S.a,S.k,S.f,S.q,S.p⟩
def J9{e:Type}{k:e->Nat->StateT tJ da β}{m:StateT tJ da β}(P:e->Nat->tJ->Prop)(f:(∀c n d,P c n d->wp X (k c n) Q d)->wp X m Q st)(hk: ∀c n d,P c n d->wp X (k c n) Q d):wp X m Q st:=f hk
def N1{k:Nat->StateT tJ da β}{m:StateT tJ da β}(P:Nat->tJ->Prop)(d:(∀n c,P n c->wp X (k n) Q c)->wp X m Q st)(hk: ∀n c,P n c->wp X (k n) Q c):wp X m Q st:=d hk
def Zy{Q:Array d9->tJ->Prop}(S:Rp X pq L st)(u1:q.Pairwise X.le)(u2:r.Pairwise X.le)(M: ∀z∈q,z<X.N)(U: ∀z∈r,z<X.N)(h1:0<Ls q)(h2:0<Ls r)(hd: ∀y∈q,X.le r[0] y)(top: ∀x∈r,X.le x q[Ls q-1])
  (h: ∀out s,Rp X pq L s->Rs X (q++r) out->Q out s):wp X (Qf (ar X q)<|ar X r) Q st:=by
 have sq:(ar X q).size=(Ls q):=by simp
 have sr:(ar X r).size=(Ls r):=by simp
 have P:Mg X X.le (q++r) (q.drop 0) (r.drop 1) #[X.it r[0]]:=Mg.sw<|Mg.a1 (q:=r) (i:=0) (out:= #[]) ⟨[],rfl,.nil,by simp,by simpa using U2,by simpa using u2,by simpa using u1⟩ h2 hd
 have last: ∀{out i j},Mg X X.le (q++r) (q.drop i) (r.drop j) out->i+1=Ls q->Rs X (q++r) (out++(ar X r).extract j (ar X r).size++(ar X q).extract i (ar X q).size):=λ{_ i j} m e=>m.sw.fin λx O y w=>by
  have hi:i<(Ls q):=by lia
  rw[zd hi,A7<|by lia,AO] at w;have:=top x<|Ep O;simpa only[w,<-e,j3] using this
 refine uZ<|lQ (x:=r[0]) (by simp[h2]) ?_;refine iZ (λe=>ip<|h _ _ S (P.end<|.inr<|by simp at e;lia)) λe=>iZ (λp=>ip<|h _ _ S (last P<|by simpa using p)) λp=>pF ?_
 let I:=λ(c:Nat) out d f s=>Rp X pq L s/\Mg X X.le (q++r) (q.drop d) (r.drop f) out/\d+1<Ls q/\f<Ls r/\c<=d+f
 refine mw (λi c s=> ∃out d f C,c=(KE,out,d,f,C)/\I (i+1) out d f s) (λc s=> ∃out t,c=(J4 out,t)/\Rp X pq L s/\Rs X (q++r) out) ⟨_,0,1,_,rfl,S,P,by simp at p;lia,by simp at e;lia,by lia⟩ ?_ ?_ ?_
 .intro i c s _ h;apply eX4 h;clear h;intro out d f C K;refine mw (λj c s=> ∃out d f ac v,c=(KE,out,d,f,ac,v)/\I (i+1+j) out d f s) (λc s=>(∃out t,c=(J4 out,t)/\Rp X pq L s/\Rs X (q++r) out)\/ ∃out d f ac v,c=(KE,out,d,f,ac,v)/\I (i+1) out d f s) ⟨_,_,_,_,_,rfl,K⟩ ?_ ?_ ?_
  .intro j c s _ h;apply PH h;clear h;refine λout d f ac v=>My λS m E l H=>?_;dsimp only;refine lQ (x:=r[f]) (by simp[l]) (lQ (x:=q[d]) (by simp)<|F8 S.k (U _ (by simp)) (M _ (by simp)) λb e=>?_)
   cases b with
   |true=>have n:=(m.sw.a1 l<|m.hd X.tr (by lia)<|X.as _ _ e).sw;exact lQ (x:=r[f]) (by simp[l])<|iZ (λe=>ip<|.inl ⟨_,_,rfl,S,n.end<|.inr<|by simp at e;lia⟩) λe=>iZ (λ_=>ip<|.inr ⟨_,_,_,_,_,rfl,S,n,E,by simp at e;lia,by lia⟩) λ_=>ip ⟨_,_,_,_,_,rfl,S,n,E,by simp at e;lia,by lia⟩
   |false=>have n:=m.a1 (by lia)<|m.sw.hd X.tr l e;exact lQ (x:=q[d]) (by simp)<|iZ (λe=>ip<|.inl ⟨_,_,rfl,S,last n<|by simpa using e⟩) λe=>iZ (λ_=>ip<|.inr ⟨_,_,_,_,_,rfl,S,n,by simp at e;lia,l,by lia⟩) λ_=>ip ⟨_,_,_,_,_,rfl,S,n,by simp at e;lia,l,by lia⟩
  .refine λc s h=>aK ?_;obtain⟨_,d,f,_,_,_,S,m,E,l,H⟩:=h;lia
  .intro c s z;refine z.elim (λh=>?_) λh=>?_
   .apply Mw h;exact λout _ Y=>ip ⟨out,_,rfl,Y⟩
   .apply PH h;clear h z;refine λout d f ac v K=>uZ<|mw (λj c s=> ∃out d f C ac v,c=(KE,out,d,f,C,ac,v)/\I (i+1+j) out d f s) (λc s=>(∃out t,c=(J4 out,t)/\Rp X pq L s/\Rs X (q++r) out)\/ ∃out d f C ac v,c=(KE,out,d,f,C,ac,v)/\I (i+2) out d f s) ⟨_,_,_,_,_,_,rfl,K⟩ ?_ ?_ ?_
    .intro j c s _ h;apply PD h;clear h;refine λout d f C ac v=>My λS m E l H=>?_;dsimp only;apply N1 λ_ s=>Rp X pq L s
     .intro F;refine iZ (λ_=>?_) λ_=>?_
      .generalize C-1=g;exact F g s S
      .exact F C s S
     intro g s S;refine EN S λs S=>lQ (x:=r[f]) (by simp[l])<|kg<|zm (T:=q.take d) (A:=q.drop d) (R:=[]) S.k (λz D=>M z<|Ep D) (U _ (by simp)) (u1.sublist<|HX _ _) (by simp) (by simp;lia) (by simp) (by simp;lia) λk _ V W=>?_;dsimp only;apply J9 λout d s=>Rp X pq L s/\Mg X X.le (q++r) (q.drop d) (r.drop f) out/\d+1<Ls q/\i+1+j<=d+f/\ ∀y∈q.drop d,X.le r[f] y
     .intro F;have B:=m.ak (j:=k) λx O y w=>m.sw.hd (x:=x) X.tr l (by simpa using V x O) y w;have u: ∀y∈q.drop (d+k),X.le r[f] y:=λy w=>X.as _ _ (by simpa using W y<|by simpa using w);refine iZ (λe=>?_) λe=>?_
      .refine iZ (λJ=>ip<|.inl ⟨_,_,rfl,S,last B<|by simpa using J⟩) λJ=>iZ (λp=>ip<|.inl ⟨_,_,rfl,S,B.end<|.inl<|by simp at p;lia⟩) λp=>?_;generalize out++(ar X q).extract d (d+k)=out at B ⊢;generalize ea:d+k=ic at B u J p ⊢;exact F out ic s ⟨S,B,by simp at J p;lia,by lia,u⟩
      .rw[show k=0 by lia] at u;exact F out d s ⟨S,m,E,H,u⟩
     refine λout d s=>My λS m E H u=>?_;have n:=(m.sw.a1 l u).sw;refine lQ (x:=r[f]) (by simp[l])<|iZ (λe=>ip<|.inl ⟨_,_,rfl,S,n.end<|.inr<|by simp at e;lia⟩) λe=>lQ (x:=q[d]) (by simp)<|kg<|zm (T:=r.take<|f+1) (A:=r.drop<|f+1) (R:=[]) S.k (λz D=>U z<|Ep D) (M _ (by simp)) (u2.sublist<|HX _ _) (by simp) (by simp;lia) (by simp) (by simp at e ⊢;lia) λG _ V W=>?_;dsimp only;apply J9 λout f s=>Rp X pq L s/\Mg X X.le (q++r) (q.drop d) (r.drop f) out/\f<Ls r/\i+1+j<d+f/\ ∀y∈r.drop f,X.le q[d] y
     .intro F;have B:=(n.sw.ak (j:=G) λx O y w=>n.hd X.tr (by lia) (X.as _ _ (V x O)) y w).sw;have u: ∀y∈r.drop (f+1+G),X.le q[d] y:=λy w=>W y (by simpa using w);refine iZ (λ_=>?_) λe3=>?_
      .refine iZ (λp=>ip<|.inl ⟨_,_,rfl,S,B.end<|.inr<|by simp at p;lia⟩) λp=>?_;generalize out.push (X.it r[f])++(ar X r).extract (f+1) (f+1+G)=out at B ⊢;generalize ea:f+1+G=ic at B u p ⊢;exact F out ic s ⟨S,B,by simp at p;lia,by lia,u⟩
      .rw[show G=0 by lia] at u;exact F _ _ s ⟨S,n,by simp at e;lia,by lia,u⟩
     refine λout f s=>My λS m l H u=>?_;have n:=m.a1 (by lia) u;exact lQ (x:=q[d]) (by simp)<|iZ (λe=>ip<|.inl ⟨_,_,rfl,S,last n<|by simpa using e⟩) λe=>iZ (λ_=>ip<|.inr ⟨_,_,_,_,_,_,rfl,S,n,by simp at e;lia,l,by lia⟩) λ_=>ip ⟨_,_,_,_,_,_,rfl,S,n,by simp at e;lia,l,by lia⟩
    .refine λc s h=>aK ?_;obtain⟨_,d,f,_,_,_,_,S,m,E,l,H⟩:=h;lia
    .intro c s z;refine z.elim (λh=>?_) λh=>?_
     .apply Mw h;exact λout _ Y=>ip ⟨out,_,rfl,Y⟩
     .apply PD h;clear h z;exact λ_ _ _ _ _ _ h=>EN h.1 λs S=>ip ⟨_,_,_,_,rfl,S,h.2⟩
 .refine λc s h=>aK ?_;obtain⟨_,d,f,_,_,S,m,E,l,H⟩:=h;lia
 .intro c s x;apply Mw x;exact λ_ _ m=>ip<|h _ _ m.1 m.2
end
section
variable {X:Cs}{u:Type}{Q:u->tJ->Prop}{st:tJ}{l:Array (Nat×Nat×Nat)}{q r L Z a b o k:jw}{i j x y n:Nat}{out:Dp}
theorem ss1(n:Nat):n+1-1=n:=rfl
abbrev Cs.ge(X:Cs)(i j:Nat):Prop:=X.le j i
def Mg.h1(m:Mg X X.ge Z (q.take<|n+1).reverse b out)(c:n<Ls q)(h: ∀y∈b,X.le y q[n]):Mg X X.ge Z (q.take n).reverse b (out.push<|X.it q[n]):=m.put (k:=[q[n]]) (by rw[HW];simp[c]) (by simpa using h) (by simp[ar])
def Mg.hk(m:Mg X X.ge Z (q.take n).reverse b out)(c:i<=n)(h: ∀x∈(q.take n).drop i,∀y∈b,X.le y x):Mg X X.ge Z (q.take i).reverse b (out++((ar X q).extract i n).reverse):=m.put (k:=((q.take n).drop i).reverse) (by rw[<-List.reverse_append,<-AV c,<-fv,AV c,wM]) (by simpa using h) (by simp[ar,List.extract_eq_drop_take'])
def Mg.Od(m:Mg X X.ge Z (q.take i).reverse (r.take j).reverse out)(h: ∀x∈q.take i,∀y∈r.take j,X.le x y):Rs X Z ((ar X q).extract 0 i++(ar X r).extract 0 j++out.reverse):=by obtain⟨o,e,m⟩:=(m.sw.put (k:=(r.take j).reverse) (a':=[]) (by simp) (by simpa using λx c y d=>h y d x c) H).sw.put (k:=(q.take i).reverse) (a':=[]) (by simp) (by simp) H;refine⟨o.reverse,?_,IK.mpr m.s,(A0 o).trans<|by simpa using m.p⟩;have:=mC Array.reverse e;simpa[ar,Er] using this
def Mg.LU(m:Mg X X.ge Z (q.take i).reverse (r.take j).reverse out)(h:i=0\/j=0):Rs X Z ((ar X q).extract 0 i++(ar X r).extract 0 j++out.reverse):=m.Od λx c y d=>by
 rcases h with rfl|rfl
 .cases c
 .cases d
def Mg.PC(m:Mg X X.ge Z (q.take<|n+1).reverse b out)(d:n<Ls q)(h:X.le q[n] x): ∀y∈(q.take<|n+1).reverse,X.le y x:=λy c=>by
 obtain⟨o,_,m⟩:=m;have:=m.ua;rw[show(q.take<|n+1).reverse=q[n]::(q.take n).reverse by rw[HW];simp[d]] at this c;rcases mz.mp c with rfl|c
 .exact h
 .exact X.tr ((Dr.mp this).1 y c) h
def aX7{a b c d e f g P:Prop}(h:a->b->c->d->e->f->g->P)(x:a/\b/\c/\d/\e/\f/\g):P:=My (λa b c d e=>h a b c d e.1 e.2.1 e.2.2) x
def aX6{a b c d e f P:Prop}(h:a->b->c->d->e->f->P)(x:a/\b/\c/\d/\e/\f):P:=My (λa b c d e=>h a b c d e.1 e.2) x
def ZA{Q:Array d9->tJ->Prop}(S:Rp X l L st)(u1:q.Pairwise X.le)(u2:r.Pairwise X.le)(hq: ∀z∈q,z<X.N)(hr: ∀z∈r,z<X.N)(h1:0<Ls q)(h2:0<Ls r)(hd: ∀y∈q,X.le r[0] y)(top: ∀x∈r,X.le x q[Ls q-1])
  (h: ∀out s,Rp X l L s->Rs X (q++r) out->Q out s):wp X (Qg (ar X q)<|ar X r) Q st:=by
 have sq:(ar X q).size=(Ls q):=by simp
 have sr:(ar X r).size=(Ls r):=by simp
 have V:Mg X X.ge (q++r) (q.take<|Ls q-1).reverse (r.take<|Ls r).reverse #[X.it q[Ls q-1]]:=Mg.h1 (out:= #[]) ⟨[],rfl,.nil,by simp,by simpa[j1 h1] using(A0 q).append (A0 r),by simpa[j1 h1,IK] using u1,by simpa[IK] using u2⟩ (by lia) (by simpa using top)
 have last: ∀{out i},Mg X X.ge (q++r) (q.take i).reverse (r.take 1).reverse out->Rs X (q++r) ((ar X r).extract 0 1++(ar X q).extract 0 i++out.reverse):=λm=>m.sw.Od λx D y Y=>by obtain⟨b,r,rfl⟩:=tZ h2;simp at D;subst D;exact hd y<|tY Y
 refine uZ<|lQ (x:=q[Ls q-1]) (by simp[h1]) ?_;rw[sq,sr];refine iZ (λe=>ip<|h _ _ S (V.LU<|.inl<|by simpa using e)) λe=>iZ (λw=>ip<|h _ _ S ?_) λw=>pF ?_
 .have w:(Ls r)=1:=by simpa using w
  rw[w] at V ⊢;exact last V
 let I:=λ(c:Nat) out d nb s=>Rp X l L s/\Mg X X.ge (q++r) (q.take d).reverse (r.take nb).reverse out/\0<d/\d<=Ls q/\1<nb/\nb<=Ls r/\c+d+nb<=Ls q+Ls r
 refine mw (λi c s=> ∃d nb out O,c=(KE,d,nb,out,O)/\I (i+1) out d nb s) (λc s=> ∃out t,c=(J4 out,t)/\Rp X l L s/\Rs X (q++r) out) ⟨_,_,_,_,rfl,S,V,by simp at e;lia,by lia,by simp at w;lia,by lia,by lia⟩ ?_ ?_ ?_
 .intro i c s _ h;apply eX4 h;clear h;intro d nb out O i0;refine mw (λj c s=> ∃d nb out ac v,c=(KE,d,nb,out,ac,v)/\I (i+1+j) out d nb s) (λc s=>(∃out t,c=(J4 out,t)/\Rp X l L s/\Rs X (q++r) out)\/ ∃d nb out ac v,c=(KE,d,nb,out,ac,v)/\I (i+1) out d nb s) ⟨_,_,_,_,_,rfl,i0⟩ ?_ ?_ ?_
  .intro j c s _ h;apply PH h;clear h;refine λd nb out ac v=>aX7 λS m G J C E M=>?_;obtain⟨n,rfl⟩: ∃n,d=n+1:=⟨d-1,by lia⟩
   obtain⟨p,rfl⟩: ∃n,nb=n+1:=⟨nb-1,by lia⟩
   dsimp only[ss1];refine lQ (x:=r[p]) (by simp)<|lQ (x:=q[n]) (by simp)<|F8 S.k (hr _ (by simp)) (hq _ (by simp)) λb e=>?_
   cases b with
   |true=>have f:=m.h1 (by lia)<|m.sw.PC (by lia)<|X.as _ _ e;exact lQ (x:=q[n]) (by simp)<|iZ (λe=>ip<|.inl ⟨_,_,rfl,S,f.LU<|.inl<|by simpa using e⟩) λe=>iZ (λ_=>ip<|.inr ⟨_,_,_,_,_,rfl,S,f,by simp at e;lia,by lia,C,E,by lia⟩) λ_=>ip ⟨_,_,_,_,_,rfl,S,f,by simp at e;lia,by lia,C,E,by lia⟩
   |false=>
    have f:=(m.sw.h1 (by lia)<|m.PC (by lia) e).sw;refine lQ (x:=r[p]) (by simp)<|iZ (λe=>?_) λe=>iZ (λ_=>ip<|.inr ⟨_,_,_,_,_,rfl,S,f,G,J,by simp at e;lia,by lia,by lia⟩) λ_=>ip ⟨_,_,_,_,_,rfl,S,f,G,J,by simp at e;lia,by lia,by lia⟩;obtain rfl:p=1:=by simpa using e
    exact ip<|.inl ⟨_,_,rfl,S,last f⟩
  .refine λc s h=>aK ?_;obtain⟨_,_,_,_,_,_,S,m,G,J,C,E,M⟩:=h;lia
  .intro c s z;refine z.elim (λh=>?_) λh=>?_
   .apply Mw h;exact λout _ hs=>ip ⟨out,_,rfl,hs⟩
   .apply PH h;clear h z;refine λd nb out ac v i0=>uZ<|mw (λj c s=> ∃d nb out O ac v,c=(KE,d,nb,out,O,ac,v)/\I (i+1+j) out d nb s) (λc s=>(∃out t,c=(J4 out,t)/\Rp X l L s/\Rs X (q++r) out)\/ ∃d nb out O ac v,c=(KE,d,nb,out,O,ac,v)/\I (i+2) out d nb s) ⟨_,_,_,_,_,_,rfl,i0⟩ ?_ ?_ ?_
    .intro j c s _ h;apply PD h;clear h;refine λd nb out O ac v=>aX7 λS m G J C E M=>?_;obtain⟨p,rfl⟩: ∃n,nb=n+1:=⟨nb-1,by lia⟩
     dsimp only[ss1];apply N1 λ_ s=>Rp X l L s
     .intro F;refine iZ (λ_=>?_) λ_=>?_
      .generalize O-1=g;exact F g s S
      .exact F O s S
     intro g s S;refine EN S λs S=>lQ (x:=r[p]) (by simp)<|kg<|zm (T:=[]) (A:=q.take d) (R:=q.drop d) S.k (λz hz=>hq z<|tY hz) (hr _ (by simp)) (u1.sublist<|zj _ _) (by simp) K3 (by simp;lia) (by lia) λk hk t1 t2=>?_;dsimp only;apply J9 λout d s=>Rp X l L s/\Mg X X.ge (q++r) (q.take d).reverse (r.take<|p+1).reverse out/\0<d/\d<=Ls q/\i+1+j+d+p<Ls q+Ls r/\ ∀y∈q.take d,X.le y r[p]
     .intro F;have B:=m.hk hk λx D y Y=>m.sw.PC (x:=x) (by lia) (X.as _ _ (by simpa using t2 x D)) y Y;have U: ∀y∈q.take k,X.le y r[p]:=λy Y=>by simpa using t1 y (by rwa [fv,AV hk])
      refine iZ (λe=>?_) λe=>?_
      .refine iZ (λH=>ip<|.inl ⟨_,_,rfl,S,B.LU<|.inl<|by simpa using H⟩) λH=>?_;generalize out++((ar X q).extract k d).reverse=out at B ⊢;generalize ea:k=ic at B U H ⊢;exact F out ic s ⟨S,B,by simp at H;lia,by lia,by lia,U⟩
      .obtain rfl:k=d:=by lia
       exact F out _ s ⟨S,m,G,J,by lia,U⟩
     refine λout P s=>aX6 λS m G J M U=>?_;have f:=(m.sw.h1 (by lia)<|by simpa using U).sw;obtain⟨n,rfl⟩: ∃n,P=n+1:=⟨P-1,by lia⟩
     dsimp only[ss1];refine lQ (x:=r[p]) (by simp)<|iZ (λe=>?_) λe=>lQ (x:=q[n]) (by simp)<|kg<|zm (T:=[]) (A:=r.take p) (R:=r.drop p) S.k (λz hz=>hr z<|tY hz) (hq _ (by simp)) (u2.sublist<|zj _ _) (by simp) K3 (by simp;lia) (by lia) λK bK t1 t2=>?_
     .obtain rfl:p=1:=by simpa using e
      exact ip<|.inl ⟨_,_,rfl,S,last f⟩
     dsimp only;apply J9 λout nb s=>Rp X l L s/\Mg X X.ge (q++r) (q.take<|n+1).reverse (r.take nb).reverse out/\1<nb/\nb<=Ls r/\i+1+j+(n+1)+nb<Ls q+Ls r/\ ∀y∈r.take nb,X.le y q[n]
     .intro F;have B:=(f.sw.hk bK λx D y Y=>f.PC (x:=x) (by lia) (t2 x D) y Y).sw;have W: ∀y∈r.take K,X.le y q[n]:=λy Y=>X.as _ _ (t1 y<|by rwa [fv,AV bK]);refine iZ (λ_=>?_) λe3=>?_
      .refine iZ (λH=>?_) λH=>iZ (λw=>ip<|.inl ⟨_,_,rfl,S,B.LU<|.inr<|by simpa using w⟩) λw=>?_
       .obtain rfl:K=1:=by simpa using H
        exact ip<|.inl ⟨_,_,rfl,S,last B⟩
       generalize out.push (X.it r[p])++((ar X r).extract K p).reverse=out at B ⊢;generalize ea:K=ic at B W H w ⊢;exact F out ic s ⟨S,B,by simp at H w;lia,by lia,by lia,W⟩
      .obtain rfl:K=p:=by lia
       exact F _ _ s ⟨S,f,by simp at e;lia,by lia,M,W⟩
     refine λout nb s=>aX6 λS m C E M U=>?_;have f:=m.h1 (by lia) (by simpa using U);exact lQ (x:=q[n]) (by simp)<|iZ (λe=>ip<|.inl ⟨_,_,rfl,S,f.LU<|.inl<|by simpa using e⟩) λe=>iZ (λ_=>ip<|.inr ⟨_,_,_,_,_,_,rfl,S,f,by simp at e;lia,by lia,C,E,by lia⟩) λ_=>ip ⟨_,_,_,_,_,_,rfl,S,f,by simp at e;lia,by lia,C,E,by lia⟩
    .refine λc s h=>aK ?_;obtain⟨_,_,_,_,_,_,_,S,m,G,J,C,E,M⟩:=h;lia
    .intro c s z;refine z.elim (λh=>?_) λh=>?_
     .apply Mw h;exact λout _ hs=>ip ⟨out,_,rfl,hs⟩
     .apply PD h;exact λ_ _ _ _ _ _ h=>EN h.1 λs S=>ip ⟨_,_,_,_,rfl,S,h.2⟩
 .refine λc s h=>aK ?_;obtain⟨_,_,_,_,_,S,m,G,J,C,E,M⟩:=h;lia
 .intro c s x;apply Mw x;exact λ_ _ m=>ip<|h _ _ m.1 m.2
end
section
variable {X:Cs}{t:Type}{Q:t->tJ->Prop}{st:tJ}{d:Array (Nat×Nat×Nat)}{T A B R L:jw}{i j x y n s:Nat}{o C:List (List Nat)}{r w:List (Nat×Nat×Nat)}
def Ra{c:Type}: ∀(m K T R:List c) (j a:Nat),a+j=Ls T->K.length=Ls m->(m.zipIdx j).foldl (λ(x:Array c) (p:c×Nat)=>x.setIfInBounds (a+p.2) p.1) (T++(K++R)).toArray=(T++(m++R)).toArray:=by
 intro f
 induction f with
 |nil=>intro K T R j a h b;rw[AZ b];rfl
 |cons y m e=>intro K T R j a h b;obtain⟨k,K,rfl⟩:=tZ (l:=K) (by simp[b]);rw[List.zipIdx_cons,rP];have:=e K (T++[y]) R (j+1) a (by simp;lia) (by simpa using b);simpa[h] using this
def Rn(X:Cs):Nat->List (List Nat)->List (Nat×Nat×Nat)->Prop
 |_,[],[]=>True
 |s,A::o,p::r=>p.1=s/\p.2.1=Ls A/\A≠[]/\A.Pairwise X.le/\Rn X (s+Ls A) o r
 |_,_,_=>False
theorem Rn.cut: ∀{r:List (Nat×Nat×Nat)} {s:Nat} {o:List (List Nat)},Rn X s o (r++w)-> ∃a L2,o=a++L2/\Rn X (s+Ls a.flatten) L2 w/\ ∀M q,Rn X (s+Ls a.flatten) M q->Rn X s (a++M) (r++q)
 |[],s,o,h=>⟨[],o,rfl,h,λ_ _ h=>h⟩
 |p::r,s,[],h=>h.elim
 |p::r,s,A::o,h=>by
  obtain⟨h1,b,c,f,g⟩:=h;obtain⟨a,L2,rfl,k,l⟩:=Rn.cut g;have e:s+(A::a).flatten.length=s+Ls A+(Ls a.flatten):=by simp;lia
  exact⟨A::a,L2,rfl,e▸k,λM q h=>⟨h1,b,c,f,l M q<|e▸h⟩⟩
def Wk{s:tJ}{f:PUnit->StateT tJ da t}(h:wp X (f ⟨⟩) Q s):wp X (set s>>=f) Q st:=kg λ_ g=>by rw[StateT.run_set];exact iw ⟨g,h⟩
def upA(u:A.Pairwise X.le)(v:B.Pairwise X.le)(h: ∀a∈A,∀b∈B,X.le a b):(A++B).Pairwise X.le:=tu.mpr ⟨u,v,h⟩
def VT(a:L=T++(A++R))(b:i=Ls T)(c:j=Ls T+Ls A):(ar X L).extract i j=ar X A:=by subst a b c;simp[ar,Er]
def U4{Q:Bool->tJ->Prop}(S:Rp X d (o.flatten++R) st)(hr:Rn X 0 o d.toList)(hi:i+1<d.size)(h: ∀f6 bZ gY,Rp X bZ (gY.flatten++R) f6->Rn X 0 gY bZ.toList->bZ.size+1=d.size->Ls gY.flatten=Ls o.flatten->Q K0 f6):wp X (mergeAt' i) Q st:=by
 obtain⟨d⟩:=d
 obtain⟨H,⟨Y,D,F⟩,⟨sb,nb,dX⟩,U,rfl,rfl⟩: ∃H x y U,d=H++x::y::U/\(Ls H)=i:=by have hi:i+1<(Ls d):=hi;exact⟨d.take i,d[i],d[i+1],d.drop<|i+2,by simp,by simp;lia⟩
 obtain⟨L1,L2,rfl,h2,h3⟩:=Rn.cut hr
 obtain⟨A,B,L2,rfl⟩: ∃A B L,L2=A::B::L:=by
  match L2,h2 with
  |A::B::L,_=>exact⟨A,B,L,rfl⟩
  |[A],h=>exact h.2.2.2.2.elim
  |[],h=>exact h.elim
 obtain⟨O,W,a1,K,hb,du,b1,P,h4⟩:=h2;dsimp only at O W hb du;obtain⟨κ',a',p',g,f'⟩:=st;have e1:a'=_:=S.a;have e2:p'=_:=S.q;subst e1 e2;rw[show(L1++A::B::L2).flatten++R=L1.flatten++(A++(B++(L2.flatten++R))) by simp] at S ⊢
 have fin: ∀f6 M,Rp X (H++(Y,D+nb,F)::U).toArray (L1.flatten++(M++(L2.flatten++R))) f6->M.Perm (A++B)->M.Pairwise X.le->Q K0 f6:=λf6 M J Z u=>by have Z:=Z.length_eq;rw[mX,<-W,<-du] at Z;refine h _ (H++(Y,D+nb,F)::U).toArray (L1++M::L2) (by simpa using J) (h3 _ _ ⟨O,Z.symm,λe=>a1 ?_,u,by rwa [Z,W,du,<-zc]⟩) (by simp;lia) (by simp;lia);exact AZ (by rw[e] at Z;simp at Z;lia)
 have ep: ∀z,((H++(Y,D,F)::(sb,nb,dX)::U).toArray.setIfInBounds (Ls H) z).eraseIdxIfInBounds (Ls H+1)=(H++z::U).toArray:=λz=>by simp[lV,List.eraseIdx_append];intro;lia
 clear h h3 h4 hr;generalize L1.flatten=T at*;generalize L2.flatten++R=R at*;have hN: ∀z,z∈A\/z∈B->z<X.N:=λz l=>by simpa using S.p.mem_iff.mp<|oU _ (by rcases l with h|h<;>simp[h])
 obtain⟨y,B',eB⟩:=List.exists_cons_of_ne_nil b1
 have hy: ∀z∈B,X.le y z:=λz l=>by
  rw[eB] at P l;rcases mz.mp l with rfl|l
  .exact X.rf _
  .exact(Dr.mp P).1 z l
 refine pF ?_;dsimp only;rw[show(H++(Y,D,F)::(sb,nb,dX)::U).toArray[Ls H]?=J4 (Y,D,F) by simp,show(H++(Y,D,F)::(sb,nb,dX)::U).toArray[Ls H+1]?=J4 (sb,nb,dX) by simp];dsimp only;rw[ep];refine Wk<|lQ (x:=y) (by rw[eB];exact MW<|by lia)<|kg<|zm S.k (λz h=>hN z<|.inl h) (hN y<|.inr<|by simp[eB]) K K3 (by lia) W.symm (by have:=R8.mpr a1;lia) λk hk t1 t2=>?_;have S2:Rp X (H++(Y,D+nb,F)::U).toArray (T++(A++(B++R))) (SortSt.mk' κ' (ar X<|T++(A++(B++R))) (H++(Y,D+nb,F)::U).toArray g f'):=⟨rfl,S.k,S.f,rfl,S.p⟩
 have done:(∀a∈A,X.le a y)->Q K0 (SortSt.mk' κ' (ar X<|T++(A++(B++R))) (H++(Y,D+nb,F)::U).toArray g f'):=λz=>fin _ (A++B) (by simpa using S2) (.refl _) (upA K P λa O b hb=>X.tr (z a O)<|hy b hb);rw[W] at hk;obtain⟨v,E,rfl,rfl⟩: ∃v E,A=v++E/\(Ls v)=k:=⟨A.take k,A.drop k,by simp,by simp;lia⟩
 have t1: ∀z∈v,X.le z y:=λz l=>by simpa using t1 z (by simpa using l)
 have t2: ∀z∈E,X.le y z:=λz l=>X.as _ _ (by simpa using t2 z<|by simpa using l);rw[mX] at W hb;dsimp only;rcases AY E with e|⟨A3,x,e⟩
 .subst e;rw[iz<|by simp[W]];exact ip<|done (by simpa using t1)
 rw[AX] at e;have l1:0<(Ls E):=by simp[e]
 rw[iG<|by simp;lia];refine lQ (x:=x) (by rw[e,show T++(v++(A3++[x])++(B++R))=T++((v++A3)++x::(B++R)) by simp];exact MW (by have:=mC dQ e;simp at this ⊢;lia))<|kg<|zm (T:=T++(v++E)) (R:=R) S.k (λz h=>hN z<|.inr h) (hN x<|.inl<|by simp[e]) P (by rw[<-oT]) (by simp;lia) du.symm (by have:=R8.mpr b1;lia) λk2 bK t3 t4=>?_;rw[du] at bK;obtain⟨I',G,rfl,rfl⟩: ∃I' G,B=I'++G/\(Ls I')=k2:=⟨B.take k2,B.drop k2,by simp,by simp;lia⟩
 have v3: ∀z∈I',X.le z x:=λz l=>X.as _ _ (by simpa using t3 z<|by simpa using l);have v4: ∀z∈G,X.le x z:=λz l=>by simpa using t4 z (by simpa using l)
 have lx: ∀a∈v++E,X.le a x:=by rw[e,<-oT] at K ⊢;exact G0 X.tr K<|X.rf x
 cases I' with
 |nil=>exact ip<|done λa O=>X.tr (lx a O)<|v4 y (by simp[show G=y::B' from eB])
 |cons b I'=>
  obtain rfl:b=y:=(wL eB).1;refine iZ (λc=>by simp at c) λ_=>?_;rw[VT (A:=E) (T:=T++v) (R:=b::I'++G++R) (by simp) (by simp;lia)<|by simp;lia,VT (A:=b::I') (T:=T++(v++E)) (R:=G++R) (by simp) (by simp;lia)<|by simp;lia]
  have V: ∀out s,Rp X (H++(Y,D+nb,F)::U).toArray (T++(v++E++(b::I'++G++R))) s->Rs X (E++b::I') out->Q (fj s).isNone (setArr s<|out.toList.zipIdx.foldl (λa x=>a.setIfInBounds (Y+Ls v+x.2) x.1)<|eO s):=λout s J ho=>by
   obtain⟨M,rfl,u,hp⟩:=ho;rw[J.f,J.a];refine fin _ (v++(M++G)) ⟨?_,J.k,J.f,J.q,gj ?_ J.p⟩ ?_ ?_
   .have:=Ra (M.map X.it) ((E++b::I').map X.it) ((T++v).map X.it) ((G++R).map X.it) 0 (Y+Ls v) (by simp;lia) (by simpa using hp.length_eq.symm);simpa[ar] using this
   .simpa using(((hp.append_right<|G++R).append_left v).append_left T)
   .simpa using((hp.append_right G).append_left v)
   .rw[tu] at K P;refine upA K.1 (upA u P.2.1 λa O c m=>?_) λa O c m=>?_
    .rcases qh.mp (hp.mem_iff.mp O) with O|O
     .exact X.tr (lx a<|by simp[O]) (v4 c m)
     .exact P.2.2 a O c m
    .have m:c∈E\/c∈b::I'++G:=by
      rcases qh.mp m with m|m
      .rcases qh.mp (hp.mem_iff.mp m) with m|m
       .exact .inl m
       .exact .inr (Bh _ m)
      .exact .inr (oU _ m)
     rcases m with m|m
     .exact K.2.2 a O c m
     .exact X.tr (t1 a O) (hy c m)
  have hd: ∀z∈E,X.le (b::I')[0] z:=t2;have top: ∀z∈b::I',X.le z E[Ls E-1]:=λz l=>by subst e;simpa using v3 z l
  have l2:0<(b::I').length:=by simp
  have h3: ∀z∈E,z<X.N:=λz l=>hN z<|.inl (by simp[l]);have h4: ∀z∈b::I',z<X.N:=λz l=>hN z<|.inr<|Bh _ l;have u1:=(tu.mp K).2.1;have u2:=(tu.mp P).1;exact iZ (λc=>kg<|Zy S2 u1 u2 h3 h4 l1 l2 hd top λout s J ho=>wW<|pF<|ip<|V out s J ho) λc=>kg<|ZA S2 u1 u2 h3 h4 l1 l2 hd top λout s J ho=>wW<|pF<|ip<|V out s J ho
end
section
variable {X:Cs}{st:tJ}{b:Array (Nat×Nat×Nat)}{A L:jw}
theorem Rn.mod{w:Nat}: ∀{c:List (Nat×Nat×Nat)} {s:Nat} {a:List (List Nat)} (i:Nat),Rn X s a c->Rn X s a (c.modify i λx=>(x.1,x.2.1,w))
 |[],s,a,i,h=>by cases i<;>exact h
 |p::c,s,[],i,h=>h.elim
 |p::c,s,A::a,0,h=>h
 |p::c,s,A::a,i+1,h=>⟨h.1,h.2.1,h.2.2.1,h.2.2.2.1,Rn.mod i h.2.2.2.2⟩
theorem Rn.le: ∀{c:List (Nat×Nat×Nat)} {s:Nat} {a:List (List Nat)},Rn X s a c->Ls c<=Ls a.flatten
 |[],s,a,h=>lP _
 |p::c,s,[],h=>h.elim
 |p::c,s,A::a,h=>by have:=Rn.le h.2.2.2.2;have:=R8.mpr h.2.2.1;simp at*;omega
theorem Rn.push{A:jw}{w:Nat}: ∀{d:List (Nat×Nat×Nat)} {s:Nat} {c:List (List Nat)},Rn X s c d->A≠[]->A.Pairwise X.le->Rn X s (c++[A]) (d++[(s+Ls c.flatten,Ls A,w)])
 |[],s,[],h,a,u=>⟨rfl,rfl,a,u,trivial⟩
 |[],s,A::c,h,a,u=>h.elim
 |p::d,s,[],h,a,u=>h.elim
 |p::d,s,B::c,h,a,u=>⟨h.1,h.2.1,h.2.2.1,h.2.2.2.1,by simpa[zc] using Rn.push (w:=w) h.2.2.2.2 a u⟩
def So{Q:Unit->tJ->Prop}(S:Rp X #[] L st)(h: ∀E b L,Rp X b L E->L.Pairwise X.le->Q () E):wp X sortRuns' Q st:=by
 have I:(eO st).size=X.N:=by rw[S.a];simpa using S.p.length_eq
 have y: ∀{b L st},Rp X b L st->Ls L=X.N:=λS=>by simpa using S.p.length_eq
 rw[sortRuns'_eq];refine pF ?_;rw[I];dsimp only;refine mw (λi c s=> ∃b,∃g:List (List Nat),∃R,c=(KE,Ls g.flatten)/\Rp X b (g.flatten++R) s/\Rn X 0 g b.toList/\i<=Ls g.flatten) (λc s=>c.1=KE/\ ∃b g,Rp X b g.flatten s/\Rn X 0 g b.toList) ⟨#[],[],L,rfl,S,trivial,lP _⟩ ?_ ?_ ?_
 .rintro i c s t ⟨b,g,R,rfl,S,d,o⟩;have r:=y S;dsimp only;refine iZ (λe=>?_) λe=>?_
  .obtain rfl:R=[]:=AZ (by simp at r e;omega);exact ip ⟨rfl,b,g,by simpa using S,d⟩
  obtain⟨x,R,rfl⟩:=tZ (l:=R) (by simp at r e;omega);refine kg<|afN S K3 (by simp at r ⊢;omega) λA R s S a1 u M=>?_;apply N1 λn s=> ∃A R,n=Ls A/\Rp X b (g.flatten++(A++R)) s/\A≠[]/\A.Pairwise X.le
  .intro F;have T:=R8.mpr a1;refine iZ (λe=>?_) λe=>?_
   .refine uZ (kg<|Wm S K3 K3 T (by simp at r;omega) (by omega) u λA R s S o u=>iZ (λc=>by simp at c) λ_=>?_);generalize J:min (X.N-Ls g.flatten) (minRun' X.N X.N 0)=n at o ⊢;exact F n s ⟨A,R,o.symm,S,by intro z;subst z;simp at o e;omega,u⟩
   .exact F (Ls A) s ⟨A,R,rfl,S,a1,u⟩
  rintro _ s ⟨A,R,rfl,S,a1,u⟩;refine pF ?_;apply U5 λs=> ∃b m,Rp X b (m.flatten++(A++R)) s/\Rn X 0 m b.toList/\(Ls m.flatten)=Ls g.flatten
  .intro F;rw[S.q]
   cases b.back? with
   |none=>exact F s ⟨b,g,S,d,rfl⟩
   |some z=>
    refine mw (λ_ c s=>c=(KE,())/\ ∃b m,Rp X b (m.flatten++(A++R)) s/\Rn X 0 m b.toList/\(Ls m.flatten)=Ls g.flatten) (λc s=>c=(KE,())/\ ∃b m,Rp X b (m.flatten++(A++R)) s/\Rn X 0 m b.toList/\(Ls m.flatten)=Ls g.flatten) ⟨rfl,b,g,S,d,rfl⟩ ?_ (λ_ _ h=>h) ?_
    .rintro j c s _ ⟨rfl,b,m,S,d,o⟩;refine pF ?_;rw[S.q]
     cases H:(if b.size>1 then b[b.size-2]? else KE) with
     |none=>exact ip ⟨rfl,b,m,S,d,o⟩
     |some z=>
      refine iZ (λ_=>ip ⟨rfl,b,m,S,d,o⟩) λ_=>kg<|U4 S d ?_ λs v w S d _ O=>iZ (λc=>by simp at c) λ_=>ip ⟨rfl,v,w,S,d,O.trans o⟩;split at H
      .omega
      .cases H
    .rintro c s ⟨rfl,b,m,S,d,o⟩;exact wW<|F _ ⟨_,m,⟨S.a,S.k,S.f,rfl,S.p⟩,by rw[S.q,Array.toList_modify];exact d.mod _,o⟩
  .rintro s ⟨b,m,S,d,o⟩;refine wW<|ip ⟨_,m++[A],R,?_,⟨by simpa using S.a,S.k,S.f,rfl,by simpa using S.p⟩,?_,?_⟩
   .rw[List.flatten_append,mX,o];simp
   .rw[S.q,eu,<-o,<-uc (Ls m.flatten)];exact d.push a1 u
   .have:=R8.mpr a1;simp at*;omega
 .rintro c s ⟨b,g,R,rfl,S,d,o⟩;have r:=y S;obtain rfl:R=[]:=AZ (by simp at r o;omega);exact⟨rfl,b,g,by simpa using S,d⟩
 .rintro⟨_,c⟩ s ⟨rfl,b,g,S,d⟩;have r:=y S;have G:=d.le;refine mw (λi c s=>c=(KE,())/\ ∃b g,Rp X b g.flatten s/\Rn X 0 g b.toList/\(b.size<=1\/b.size+i<=X.N)) (λc s=>c=(KE,())/\ ∃b g,Rp X b g.flatten s/\Rn X 0 g b.toList/\b.size<=1) ⟨rfl,b,g,S,d,.inr<|by rw[kL] at G;omega⟩ ?_ ?_ ?_
  .rintro i c s _ ⟨rfl,b,g,S,d,t⟩;refine pF ?_;rw[S.q];refine iZ (λe=>ip ⟨rfl,b,g,S,d,e⟩) λe=>kg<|U4 (R:=[]) (by simpa using S) d ((λc:Bool=>show(if c=K0 then b.size-2-1 else b.size-2)+1<b.size by split<;>omega) _) λs v w S d I _=>iZ (λc=>by simp at c) λ_=>ip ⟨rfl,v,w,by simpa using S,d,.inr<|by omega⟩
  .rintro c s ⟨rfl,b,g,S,d,t⟩;exact⟨rfl,b,g,S,d,by omega⟩
  .rintro c s ⟨rfl,b,g,S,d,t⟩;refine ip<|h s b _ S ?_;obtain⟨C'⟩:=b
   match C',g,d,t with
   |[],[],_,_=>exact .nil
   |[p],[A],d,_=>simpa using d.2.2.2.1
   |p::[],A::B::g,d,_=>exact d.2.2.2.2.elim
   |[],A::g,d,_=>exact d.elim
   |p::C',[],d,_=>exact d.elim
   |p::U::C',g,d,t=>simp at t
end
end TS
namespace PX
open L2 PySem.SeqAt
open PySem.AutoSeq1 (wpAny_loadPart')
open PySem.MeetsSeq PySem.MeetsSeq2 PySem.MeetsSeq3
noncomputable def lW(op:cB)(i j:Int):Bool:=match op with
 | .Lt=>decide (i<j)| .LtE=>decide (i<=j)| .Gt=>decide (i>j)|_=>decide<|i>=j
def DS(a:cB):Prop:=a= .Lt\/a= .LtE\/a= .Gt\/a= .GtE
def U0(op:cB)(A:iE)(s:ie)(y x:ir)(b:Bool):Prop:= ∀(a:iL) (w:iD) (E:iY) (Q:iY),Q (.bool b) s->af (aj a w) A (richCompare op y x) Q E s
def R5(op:cB)(A:iE)(s:ie)(fin:Bool):List (ir×ir)->Bool->Prop
 |[],r=>r=fin
 |(y,x)::jl,r=> ∃e,EqAt A s y x e/\(if e=J then R5 op A s fin jl r else U0 op A s y x r)
def af2(l b:hJ)(items f:oA)(n z:Nat)(dd q:Option hJ)(B p:AN)(r:Bool):
  IX (bb.«tuple.__lt__» ⟨[.ref l,.ref b],[]⟩) (λA R s=>s.heap.get? l=Y {cls:= .type "tuple",dict:=dd,data:= .seq items n,slots:=B}/\s.heap.get? b=Y {cls:= .type "tuple",dict:=q,data:= .seq f z,slots:=p}/\
   R5 .Lt A.in1 s (lW .Lt items.size f.size) (items.toList.zip f.toList) r/\R (.ok<|.ret<|.bool r) s):=
 .of_wp λc w A R s h=>by
  obtain⟨m,g,d,o,os⟩:=s;obtain⟨v,t,a,h⟩:=h;have T:=AutoSeq1.sub_tuple_tuple
  wp_walk using s8 v,s8 t,zb _ (λjl b j=>b.1=I/\j=⟨m,g,d,o,os⟩/\R5 .Lt A.in1 ⟨m,g,d,o,os⟩ (lW .Lt items.size f.size) jl r) _
  case turn=>
   rintro⟨y,x⟩ jl b j ⟨k,rfl,e,u,a⟩;refine hV<|u c w _ _ ?_
   cases e with
   |true=>
    simp only[kI] at a
    wp_walk
    exact⟨rfl,rfl,a⟩
   |false=>
    simp only[jy,jS] at a;have i:=a c w
    wp_walk using i
    exact⟨_,rfl,by simpa using h⟩
  case fin=>
   rintro⟨U,E⟩ j ⟨k,rfl,a⟩;simp only at k;subst k;have a:r=lW .Lt items.size f.size:=a;rw[a] at h
   wp_walk
   exact⟨_,rfl,by simpa[q7,lW] using h⟩
  case h=>exact⟨rfl,rfl,a⟩
section
variable {A:iE}{s:ie}{l b:hJ}{items a:oA}{r:Bool}
def afU(q:s.heap.IsTuple l items)(p:s.heap.IsTuple b a)(t:A.units<aS)(u:R5 .Lt A.in1 s (lW .Lt items.size a.size) (items.toList.zip a.toList) r):U0 .Lt A s (.ref l) (.ref b) r:=λg w E Q h=>by obtain⟨⟨o,dd,e,y⟩,i,f,n,hd⟩:=id q;obtain⟨⟨z,m,data2,k⟩,j,d,v,c⟩:=id p;simp only at f hd d c;subst f hd d c;exact richCompare_meets_room (op:= .Lt) ⟨_,i,rfl⟩ ⟨_,j,rfl⟩ PySem.F.slot_tuple_lt PySem.F.entry_tuple_lt (PySem.F.args_tuple_lt_2 _ _) (af2 l b items a n v dd m y k r) ⟨i,j,u,show e9 r≠Value.notImplemented/\Q (.bool r) s from⟨(λx=>nomatch x),h⟩⟩ t
end
mutual
noncomputable def nD(a:cB):D->D->Option Bool
 | .int i,.int j=>Y<|lW a i j
 | .tup l,.tup m=>if a= .Lt then qc a l m else I
 |_,_=>I
noncomputable def qc(a:cB):List D->List D->Option Bool
 |[],m=>Y<|lW a 0<|Ls m
 |x::l,[]=>Y<|lW a ((x::l).length) 0
 |x::l,y::m=>if D.O1 x y=J then qc a l m else nD a x y
end
def sj(c:cB)(a b k:Int):lW c (a+k) (b+k)=lW c a b:=by
 cases c<;>simp[lW]
section
variable {X:Cx}{c:iX}{f:L2.St}{H:Hp}{s:ie}
def Gz(b:DS op):U0 op A s (.int i t) (.int j u) (lW op i j):=λa w E Q h=>by
 rcases b with rfl|rfl|rfl|rfl
 .exact(tv h:af (aj a w) A (aA .Lt _ _) Q E s)
 .exact(tz h:af (aj a w) A (aA .LtE _ _) Q E s)
 .exact(tV h:af (aj a w) A (aA .Gt _ _) Q E s)
 .exact(t0 h:af (aj a w) A (aA .GtE _ _) Q E s)
def ON(ho:DS op)(I:Inv X c f H s): ∀(n:Nat) (d e:D) (v u:V) (a b:ir) (O B:SI) (A:iE) (r:Bool),ky X.K H O d v->ky X.K H B e u->RelV v a->RelV u b->d.dep<=n->e.dep<20000->A.units+n<aS->nD op d e=Y r->U0 op A s a b r:=by
 intro n
 induction n with
 |zero=>
  intro d e v u a b O B A r hd T G J M Z hA g
  cases d with
  |int i=>
   cases e with
   |int j=>have:=jd hd;subst this;have:=jd T;subst this;obtain⟨t,rfl⟩:=G;obtain⟨t',rfl⟩:=J;rw[nD] at g;rw[<-kz g];exact Gz ho
   |_=>rw[nD] at g<;>first|cases g|(intros;simp_all)
  |tup l=>rw[D.dep] at M;lia
  |_=>rw[nD] at g<;>first|cases g|(intros;simp_all)
 |succ n ih=>
  intro d e v u a b O B A r hd T G J M Z hA g
  cases d with
  |int i=>
   cases e with
   |int j=>have:=jd hd;subst this;have:=jd T;subst this;obtain⟨t,rfl⟩:=G;obtain⟨t',rfl⟩:=J;rw[nD] at g;rw[<-kz g];exact Gz ho
   |_=>rw[nD] at g<;>first|cases g|(intros;simp_all)
  |tup l=>
   cases e with
   |tup m=>
    rw[nD] at g;split at g
    case isFalse=>cases g
    rename_i N;subst N;rw[D.dep] at M Z;obtain⟨p,E,rfl,q,z⟩:=lE hd;obtain⟨p2,L,rfl,q2,o⟩:=lE T;cases G;cases J;obtain⟨h,Q,pl,_⟩:=I.tuple q;obtain⟨w,C,g0,_⟩:=I.tuple q2;have W:A.in1.units=A.units+1:=rfl
    have key: ∀(l m:List D) (E L:List V) (h w:jr) (k:Int),D.OO l+1<=n+1->D.OO m<20000->YP X.K H O l E->YP X.K H B m L->Vals E h->Vals L w->qc .Lt l m=Y r->R5 .Lt A.in1 s (lW .Lt (h.length+k)<|w.length+k) (h.zip w) r:=by
     intro l
     induction l with
     |nil=>
      intro m E L h w k F P z o Q C g;rw[YP] at z;subst z;cases Q;rw[qc] at g;have e1:=o.length;have e2:=C.length;show r=_;rw[sj,<-kz g]
      congr 1
      lia
     |cons x l U=>
      intro m E L h w k F P z o Q C g;rw[YP] at z;obtain⟨vx,xr,rfl,g1,g2⟩:=z
      cases Q with
      |cons a1 Y'=>
       cases m with
       |nil=>
        rw[YP] at o;subst o;cases C;rw[qc] at g;have e1:=g2.length;have e2:=Y'.length;rw[gX];show r=_;rw[sj,<-kz g]
        congr 1
        simp only[kO];lia
       |cons y m=>
        rw[YP] at o;obtain⟨vy,yr,rfl,R,g4⟩:=o
        cases C with
        |cons b1 b2=>
         rw[qc] at g;rw[D.OO] at F P;rw[wK];refine⟨D.O1 x y,Cr I n x y vx vy _ _ O B A.in1 (.inl g1) (.inl R) a1 b1 (by lia) (by lia) (by rw[W];lia),?_⟩
         cases S:D.O1 x y with
         |true=>
          rw[S,iz K3] at g;rw[iz K3];have:=U m xr yr _ _ (k+1) (by lia) (by lia) g2 g4 Y' b2 g;simp only[kO];have e: ∀a:Nat,(((a+1:Nat):Int)+k)=(a:Int)+(k+1):=λa=>by lia
          rw[e,e];exact this
         |false=>rw[S,iG ku] at g;rw[iG ku];exact ih x y vx vy _ _ O B A.in1 r (.inl g1) (.inl R) a1 b1 (by lia) (by lia) (by rw[W];lia) g
    have:=key l m E L h w 0 (by lia) (by lia) z o Q C g;refine afU pl g0 (by lia) ?_;simpa using this
   |_=>rw[nD] at g<;>first|cases g|(intros;simp_all)
  |_=>rw[nD] at g<;>first|cases g|(intros;simp_all)
def uJ(a:cB)(d e:D):Option (D×Bool):=if d.dep<=50/\e.dep<=50 then(nD a d e).map λb=>(.bl b,C) else I
def qu(b:DS op)(l:X.A.units+60<aS):BO X (aA op) (rD X.K<|uJ op):=by
 intro c s f H x y v u Q U j k h;obtain⟨O,d,e,z,np,h1,g,a,G⟩:=h;unfold uJ at a;split at a
 .rename_i hd;obtain⟨r,i,rfl⟩:=ja a;have:=ON b U 50 d e x y v u O O X.A r h1 g j k hd.1 (by lia) (by lia) i X.prog X.w X.xe (EP X c f Q) ⟨.bl r,H,U,rfl,G.bl⟩;rcases b with rfl|rfl|rfl|rfl<;>exact this
 .cases a
end
open TS
section
variable {b:iL}{w:iD}{A:iE}{E:iY}{s:ie}
noncomputable def qp(h:iK)(a:hJ)(c:jr):Heap:=((h.update a<|aO λ_=> #[]).push<|bf "tuple" c.toArray 0).push<|bf "list" #[] 0
noncomputable def QH(a:jr)(i:Nat):Keyed:=(a.getD i av,a.getD i av)
def wm{a:hJ}{c:jr}{n:Nat}{P:th->ie->Prop}{κ:lv}{lt:Nat->Nat->Bool}(r:s.heap.get? a=Y (bf "list" c.toArray n))(z:(Ls c)<=sizeLine)(as: ∀i j,lt i j=K0->lt j i=C)(J: ∀{i j k},lt j i=C->lt k j=C->lt k i=C)
  (hk:2<=Ls c->af (aj b w) A (keyKind' c.toArray) (λg d=>d={s with heap:=qp s.heap a c}/\g=κ) (λ_ _=>False) {s with heap:=qp s.heap a c})
  (ask:2<=Ls c->Ask (aj b w) A (λd=>d={s with heap:=qp s.heap a c}) (QH c) κ (Ls c) lt)
  (h: ∀p:List Nat,p.Perm (am<|Ls c)->p.Pairwise (λi j=>lt j i=C)->P (.done<|.ret .none) {s with heap:=(qp s.heap a c).update a (aO λ_=>(p.map λi=>c.getD i av).toArray)}):
  af (aj b w) A (bb.«list.sort» ⟨[.ref a],[]⟩) P E s:=by
 rw[list_sort_plain];have M:a<s.heap.objs.size:=jW r;refine hV<|HV r K3<|hV<|wJ r K3 ?_ (by rw[jq];exact z)<|lP _;obtain⟨u,H⟩: ∃u,(s.heap.update a<|aO λ_=>(#[]:Array ir)).get? a=Y (bf "list" #[] u):=⟨_,za r λ_=> #[]⟩
 refine hV<|AU H K3<|hV<|Ic ?_ (by show (Ls c)<=_;exact z);refine hV<|Eo ?_<|lP _;refine lz ?_;have o:(qp s.heap a c).get? a=Y (bf "list" #[] u):=jU _ (jU _ H);show af (aj b w) A _ P E {s with heap:=qp s.heap a c};dsimp only;by_cases l:c.toArray.size<2
 .rw[iz l,iz l];refine hV<|iw ?_;rw[HY];refine hV<|iw ?_;dsimp only;refine hV<|AU o K3<|hV<|wJ o K3 ?_ (lP _) ?_
  .simp only[vW,jy,jS];refine iw ?_;have t:(Ls c)<2:=by simpa using l
   have:=h (am<|Ls c) (wI _) (by rw[Sd];intro i j m T N;simp at m T;lia)
   have e:((c.toArray.zip c.toArray).map (·.2))=((am<|Ls c).map λi=>c.getD i av).toArray:=by
    apply u6
    .simp
    .intro i h1 O;have m:i<(Ls c):=by simpa using h1
     simp[m]
   rw[e];exact this
  .rw[mi,l7];simp;lia
 .rw[iG l,iG l];have t:2<=(Ls c):=by simpa using l
  refine hV<|nI (hk t) (λg d y=>?_) λ_ _ x=>x.elim;obtain⟨rfl,rfl⟩:=y;refine hV (nI (So (X:=⟨_,A,E,λd=>d={s with heap:=qp s.heap a c},QH c,lt,g,Ls c,as,J,ask t⟩) (L:=am<|Ls c) ⟨?_,rfl,rfl,rfl,.refl _⟩ (Q:=λ_ q=> ∃p,(eO q).map (·.2)=(p.map λi=>c.getD i av).toArray/\fj q=KE/\p.Perm (am<|Ls c)/\p.Pairwise λi j=>lt j i=C) (λq _ p R v=>⟨p,?_,R.f,R.p,v⟩) _ rfl) ?_ λ_ _ e=>e)
  .show c.toArray.zip c.toArray=_;apply u6
   .simp
   .intro i h1 O;have m:i<(Ls c):=by simpa using h1
    simp[QH,m]
  .rw[R.a];simp[QH]
  rintro⟨⟨⟩,q⟩ d ⟨rfl,B,out,I,U,v⟩;dsimp only;have G:(Ls B)=(Ls c):=by simpa using U.length_eq
  refine hV<|AU o K3<|hV<|wJ o K3 ?_ (lP _) ?_
  .rw[I];simp only[vW,jy,jS];rw[out];exact iw<|h B U v
  .rw[out,jq,jf,G];lia
end
mutual
noncomputable def cT:D->D->Ordering
 | .int i,.int j=>if i<j then .lt else if i=j then .eq else .gt
 | .int _,_=> .lt
 | .tup _,.int _=> .gt
 | .tup l,.tup m=>cL l m
 | .tup _,_=> .lt
 |_,.int _=> .gt
 |_,.tup _=> .gt
 |_,_=> .eq
noncomputable def cL:List D->List D->Ordering
 |[],[]=> .eq
 |[],_::_=> .lt
 |_::_,[]=> .gt
 |x::l,y::m=>match cT x y with
  | .lt=> .lt
  | .gt=> .gt
  | .eq=>cL l m
end
mutual
theorem LD: ∀x:D,cT x x= .eq
 | .int i=>by simp[cT]
 | .tup l=>by rw[cT];exact LG l
 | .T1=>by simp[cT]
 | .bl _=>by simp[cT]
 | .str _=>by simp[cT]
 | .lst _=>by simp[cT]
 | .R1 _ _ _=>by simp[cT]
theorem LG: ∀l:List D,cL l l= .eq
 |[]=>by simp[cL]
 |x::l=>by rw[cL,LD x];exact LG l
end
mutual
theorem yL: ∀x y:D,cT y x=(cT x y).swap
 | .int i,.int j=>by
  rw[cT,cT];by_cases h1:i<j
  .rw[iz h1,iG<|by lia,iG<|by lia];rfl
  .rw[iG h1];by_cases a:i=j
   .rw[iz a,iG<|by lia,iz a.symm];rfl
   .rw[iG a,iz<|by lia];rfl
 | .tup l,.tup m=>by rw[cT,cT];exact LF l m
 | .int _,.tup _=>by simp[cT]
 | .int _,.T1=>by simp[cT]
 | .int _,.bl _=>by simp[cT]
 | .int _,.str _=>by simp[cT]
 | .int _,.lst _=>by simp[cT]
 | .int _,.R1 _ _ _=>by simp[cT]
 | .tup _,.int _=>by simp[cT]
 | .tup _,.T1=>by simp[cT]
 | .tup _,.bl _=>by simp[cT]
 | .tup _,.str _=>by simp[cT]
 | .tup _,.lst _=>by simp[cT]
 | .tup _,.R1 _ _ _=>by simp[cT]
 | .T1,y=>by cases y<;>simp[cT]
 | .bl _,y=>by cases y<;>simp[cT]
 | .str _,y=>by cases y<;>simp[cT]
 | .lst _,y=>by cases y<;>simp[cT]
 | .R1 _ _ _,y=>by cases y<;>simp[cT]
theorem LF: ∀l m:List D,cL m l=(cL l m).swap
 |[],[]=>by simp[cL]
 |[],_::_=>by simp[cL]
 |_::_,[]=>by simp[cL]
 |x::l,y::m=>by
  rw[cL,cL,yL x y];cases h:cT x y<;>simp[eR]
  exact LF l m
end
def Qq(h1:cT x y≠ .gt)(a:cT y x≠ .gt):cT x y= .eq:=by
 rw[yL x y] at a
 cases h:cT x y with
 |lt=>rw[h] at a;exact absurd H a
 |eq=>rfl
 |gt=>exact absurd h h1
mutual
theorem yK: ∀x y z:D,cT x y≠ .gt->cT y z≠ .gt->cT x z≠ .gt
 | .int i,y,z,h1,d=>by
  cases z with
  |int k=>
   cases y with
   |int j=>
    rw[cT] at h1 d ⊢
    have a:i<=j:=by
     by_cases a:i<j
     .lia
     .rw[iG a] at h1;by_cases b:i=j
      .lia
      .rw[iG b] at h1;exact absurd H h1
    have b:j<=k:=by
     by_cases a:j<k
     .lia
     .rw[iG a] at d;by_cases b:j=k
      .lia
      .rw[iG b] at d;exact absurd H d
    by_cases c:i<k
    .rw[iz c];simp
    .rw[iG c,iz<|by lia];simp
   |_=>simp[cT] at d
  |_=>simp[cT]
 | .tup l,y,z,h1,d=>by
  cases y with
  |int j=>simp[cT] at h1
  |tup m=>
   cases z with
   |int k=>simp[cT] at d
   |tup n=>rw[cT] at h1 d ⊢;exact Hm l m n h1 d
   |_=>simp[cT]
  |_=>cases z<;>simp_all [cT]
 | .T1,y,z,h1,d=>by cases y<;>cases z<;>simp_all [cT]
 | .bl _,y,z,h1,d=>by cases y<;>cases z<;>simp_all [cT]
 | .str _,y,z,h1,d=>by cases y<;>cases z<;>simp_all [cT]
 | .lst _,y,z,h1,d=>by cases y<;>cases z<;>simp_all [cT]
 | .R1 _ _ _,y,z,h1,d=>by cases y<;>cases z<;>simp_all [cT]
 termination_by x y z=>sizeOf x+sizeOf y+sizeOf z
theorem Hm: ∀l m n:List D,cL l m≠ .gt->cL m n≠ .gt->cL l n≠ .gt
 |[],m,n,_,_=>by cases n<;>simp[cL]
 |x::l,[],n,h1,_=>by simp[cL] at h1
 |x::l,y::m,[],_,a=>by simp[cL] at a
 |x::l,y::m,z::n,h1,a=>by
  have a1:cT x y≠ .gt:=λh=>by rw[cL,h] at h1;exact h1 H
  have c:cT y z≠ .gt:=λh=>by rw[cL,h] at a;exact a H
  have g:=yK x y z a1 c;rw[cL]
  cases b:cT x z with
  |lt=>simp
  |gt=>exact absurd b g
  |eq=>
   have f:cT z x≠ .gt:=by rw[yL x z,b];simp[eR]
   have d:cT x y= .eq:=Qq a1<|yK y z x c f;have e:cT y z= .eq:=Qq c<|yK z x y f a1;rw[cL,d] at h1;rw[cL,e] at a;exact Hm l m n h1 a
 termination_by l m n=>sizeOf l+sizeOf m+sizeOf n
end
def BN(x y:D):Bool:=cT x y== .lt
def Hs:BN x y=J↔cT x y= .lt:=by simp[BN]
def zI:BN x y=C↔cT x y≠ .lt:=by simp[BN]
def Sa:BN y x=C↔cT x y≠ .gt:=by rw[zI,yL x y];cases cT x y<;>simp[eR]
def UP(x y:D)(h:BN x y=J):BN y x=C:=by rw[Sa,Hs.mp h];simp
def ZD(h1:BN y x=C)(a:BN z y=C):BN z x=C:=Sa.mpr<|yK _ _ _ (Sa.mp h1) (Sa.mp a)
mutual
noncomputable def D.pr:D->Bool
 | .int _=>J
 | .tup l=>D.JJ l
 |_=>C
noncomputable def D.JJ:List D->Bool
 |[]=>J
 |x::l=>D.pr x&&D.JJ l
end
mutual
theorem JP: ∀x y:D,D.pr x=J->D.pr y=J->D.O1 x y=(cT x y== .eq)
 | .int i,.int j,_,_=>by
  rw[D.O1,cT];by_cases h:i=j
  .subst h;simp
  .rw[iG h];by_cases a:i<j<;>simp[h,a]
 | .int _,.tup _,_,_=>by simp[D.O1,cT]
 | .tup _,.int _,_,_=>by simp[D.O1,cT]
 | .tup l,.tup m,h1,a=>by rw[D.O1,cT];rw[D.pr] at h1 a;exact Lu l m h1 a
 | .T1,_,h,_=>by simp[D.pr] at h
 | .bl _,_,h,_=>by simp[D.pr] at h
 | .str _,_,h,_=>by simp[D.pr] at h
 | .lst _,_,h,_=>by simp[D.pr] at h
 | .R1 _ _ _,_,h,_=>by simp[D.pr] at h
 |_,.T1,_,h=>by simp[D.pr] at h
 |_,.bl _,_,h=>by simp[D.pr] at h
 |_,.str _,_,h=>by simp[D.pr] at h
 |_,.lst _,_,h=>by simp[D.pr] at h
 |_,.R1 _ _ _,_,h=>by simp[D.pr] at h
theorem Lu: ∀l m:List D,D.JJ l=J->D.JJ m=J->D.BD l m=(cL l m== .eq)
 |[],[],_,_=>by simp[D.BD,cL]
 |[],_::_,_,_=>by simp[D.BD,cL]
 |_::_,[],_,_=>by simp[D.BD,cL]
 |x::l,y::m,h1,a=>by rw[D.JJ,kU] at h1 a;rw[D.BD,cL,JP x y h1.1 a.1,Lu l m h1.2 a.2];cases cT x y<;>simp
end
mutual
theorem uW: ∀x y:D,D.pr x=J->D.pr y=J->cT x y= .eq->x=y
 | .int i,.int j,_,_,h=>by
  rw[cT] at h;by_cases h1:i<j
  .rw[iz h1] at h;cases h
  .rw[iG h1] at h;by_cases c:i=j
   .rw[c]
   .rw[iG c] at h;cases h
 | .tup l,.tup m,a,b,h=>by rw[cT] at h;rw[D.pr] at a b;rw[Hn l m a b h]
 | .int _,.tup _,_,_,h=>by simp[cT] at h
 | .tup _,.int _,_,_,h=>by simp[cT] at h
 | .T1,_,a,_,_=>by simp[D.pr] at a
 | .bl _,_,a,_,_=>by simp[D.pr] at a
 | .str _,_,a,_,_=>by simp[D.pr] at a
 | .lst _,_,a,_,_=>by simp[D.pr] at a
 | .R1 _ _ _,_,a,_,_=>by simp[D.pr] at a
 |_,.T1,_,a,_=>by simp[D.pr] at a
 |_,.bl _,_,a,_=>by simp[D.pr] at a
 |_,.str _,_,a,_=>by simp[D.pr] at a
 |_,.lst _,_,a,_=>by simp[D.pr] at a
 |_,.R1 _ _ _,_,a,_=>by simp[D.pr] at a
theorem Hn: ∀l m:List D,D.JJ l=J->D.JJ m=J->cL l m= .eq->l=m
 |[],[],_,_,_=>rfl
 |[],_::_,_,_,h=>by simp[cL] at h
 |_::_,[],_,_,h=>by simp[cL] at h
 |x::l,y::m,a,b,h=>by
  rw[D.JJ,kU] at a b;rw[cL] at h
  cases e:cT x y with
  |eq=>rw[e] at h;rw[uW x y a.1 b.1 e,Hn l m a.2 b.2 h]
  |lt=>rw[e] at h;cases h
  |gt=>rw[e] at h;cases h
end
mutual
theorem FN: ∀x y:D,D.pr x=J->D.pr y=J-> ∀b,nD .Lt x y=Y b->b=BN x y
 | .int i,.int j,_,_,b,h=>by
  rw[nD] at h;rw[<-kz h,BN,cT,lW];by_cases h1:i<j
  .simp[h1]
  .rw[iG h1];by_cases a:i=j<;>simp[h1,a]
 | .int _,.tup _,_,_,b,h=>by simp[nD] at h
 | .tup _,.int _,_,_,b,h=>by simp[nD] at h
 | .tup l,.tup m,h1,a,b,h=>by rw[nD,iz H] at h;rw[D.pr] at h1 a;rw[BN,cT];exact Ly l m h1 a b h
 | .T1,_,h,_,_,_=>by simp[D.pr] at h
 | .bl _,_,h,_,_,_=>by simp[D.pr] at h
 | .str _,_,h,_,_,_=>by simp[D.pr] at h
 | .lst _,_,h,_,_,_=>by simp[D.pr] at h
 |_,.T1,_,h,_,_=>by simp[D.pr] at h
 |_,.bl _,_,h,_,_=>by simp[D.pr] at h
 |_,.str _,_,h,_,_=>by simp[D.pr] at h
 |_,.lst _,_,h,_,_=>by simp[D.pr] at h
theorem Ly: ∀l m:List D,D.JJ l=J->D.JJ m=J-> ∀b,qc .Lt l m=Y b->b=(cL l m== .lt)
 |[],[],_,_,b,h=>by rw[qc] at h;rw[<-kz h];simp[lW,cL]
 |[],_::_,_,_,b,h=>by rw[qc] at h;rw[<-kz h];simp[lW,cL]<;>lia
 |_::_,[],_,_,b,h=>by rw[qc] at h;rw[<-kz h];simp[lW,cL]<;>lia
 |x::l,y::m,h1,a,b,h=>by
  rw[D.JJ,kU] at h1 a;rw[qc,JP x y h1.1 a.1] at h;rw[cL]
  cases c:cT x y with
  |eq=>rw[c] at h;simp at h;exact Ly l m h1.2 a.2 b h
  |lt=>rw[c] at h;simp at h;have:=FN x y h1.1 a.1 b h;rw[this,BN,c]
  |gt=>rw[c] at h;simp at h;have:=FN x y h1.1 a.1 b h;rw[this,BN,c]
end
section
variable {a:Type}(lt:a->a->Bool)
noncomputable def Fp(x:a):List a->List a
 |[]=>[x]
 |y::l=>if lt y x=J then y::Fp x l else x::y::l
def mY:List a->List a
 |[]=>[]
 |x::l=>Fp lt x<|mY l
theorem vz(x:a): ∀l:List a,(Fp lt x l).Perm (x::l)
 |[]=>wI _
 |y::l=>by
  rw[Fp];split
  .exact((vz x l).cons y).trans (gl x y l)
  .exact wI _
theorem kP: ∀l:List a,(mY lt l).Perm l
 |[]=>wI _
 |x::l=>(vz lt x _).trans<|(kP l).cons x
end
def QJ{x:D}: ∀{l:List D},(l.Pairwise λx y=>BN y x=C)->(Fp BN x l).Pairwise λx y=>BN y x=C:=by
 intro d
 induction d with
 |nil=>intro _;exact Nz _ _
 |cons y l c=>
  intro h;have h:=Dr.mp h;rw[Fp]
  cases b:BN y x with
  |true=>
   refine Dr.mpr ⟨λz a=>?_,c h.2⟩;rcases mz.mp ((vz BN x l).mem_iff.mp a) with rfl|a
   .exact UP _ _ b
   .exact h.1 z a
  |false=>
   refine Dr.mpr ⟨λz a=>?_,Dr.mpr h⟩;rcases mz.mp a with rfl|a
   .exact b
   .exact ZD b (h.1 z a)
theorem qV: ∀l:List D,(mY BN l).Pairwise λx y=>BN y x=C
 |[]=>cx
 |x::l=>QJ<|qV l
def M5{l m:List D}(h: ∀x∈m,D.pr x=J)(a:l.Perm m)(c:l.Pairwise λx y=>BN y x=C):l=mY BN m:=
 Fa (λx y d e h1 b=>uW x y (h x<|a.mem_iff.mp d) (h y<|(kP BN m).mem_iff.mp e)<|Qq (Sa.mp h1)<|Sa.mp b) c (qV m) (a.trans (kP BN m).symm)
def ae0{a:List D}{p:jw}(pr: ∀x∈a,D.pr x=J)(d:p.Perm (am<|Ls a))(f:p.Pairwise λi j=>BN (a.getD j .T1) (a.getD i .T1)=C):p.map (λi=>a.getD i .T1)=mY BN a:=by
 have e:(am<|Ls a).map (λi=>a.getD i .T1)=a:=by apply wQ;intro i;by_cases c:i<Ls a<;>simp[c]
 have b:=d.map λi=>a.getD i .T1;rw[e] at b;exact M5 pr b<|mT.mpr f
noncomputable def ly:D->Option Nat
 | .int _=>Y 0
 | .tup (.int _::_)=>Y 1
 | .tup (.tup _::_)=>Y 2
 |_=>I
noncomputable def Ld:Nat->lv
 |0=>wP
 |1=>Db J
 |_=>Db C
structure GP(k:Nat)(l:List D):Prop where
 hd: ∀x∈l,ly x=J4 k
 pr: ∀x∈l,D.pr x=K0
 dp: ∀x∈l,x.dep<=50
 cm: ∀x∈l,∀y∈l,(nD .Lt x y).isSome=K0
def mO(l:List D):Bool:=Ls l<=1||match l with
 |[]=>J
 |x::_=>(ly x).isSome&&(l.all λy=>ly y==ly x&&D.pr y&&decide (y.dep<=50))&&l.all λy=>l.all λz=>(nD .Lt y z).isSome
def Dy(h:mO l=J):(Ls l)<=1\/ ∃k,GP k l:=by
 unfold mO at h;rw[yZ] at h;rcases h with h|h
 .left;simpa using h
 .right
  cases l with
  |nil=>exact⟨0,λx a=>absurd a ql,λx a=>absurd a ql,λx a=>absurd a ql,λx a=>absurd a ql⟩
  |cons x m=>simp only[kU,kf,pz] at h;obtain⟨⟨h1,c⟩,d⟩:=h;obtain⟨k,hk⟩:=NT.mp h1;refine⟨k,λy b=>?_,λy b=>(c y b).1.2,λy b=>(c y b).2,λy b z e=>d y b z e⟩;have:=(c y b).1.1;rw[hk] at this;simpa using this
section
variable {X:Cx}{d:iX}{f:L2.St}{H:Hp}{s:ie}
def ve(v:Vals xs a)(b:i<a.length):RelV (xs.getD i .T1) (a.getD i av):=by
 have e:=v.length;have h:xs[i]?=Y xs[i]:=jg (by omega);obtain⟨w,c,j⟩:=v.get h;have h1:xs.getD i .T1=xs[i]:=by simp[show i<xs.length by omega]
 have g:a.getD i av=w:=by rw[jg b] at c;have:=kz c;simp[b,this]
 rw[h1,g];exact j
def vh(r:YP X.K H O ds xs)(a:i<ds.length):Rep X.K H O (ds.getD i .T1) (xs.getD i .T1):=by
 have e:=r.length;have hd:ds[i]?=Y ds[i]:=jg a;obtain⟨v,b,g⟩:=r.get hd;have h1:ds.getD i .T1=ds[i]:=by simp[a]
 have c:xs.getD i .T1=v:=by rw[jg<|by lia] at b;have:=kz b;simp[show i<xs.length by lia,this]
 rw[h1,c];exact g
def BU{ds:List D}{i:Nat}(a:i<Ls ds):ds.getD i .T1∈ds:=by simp[a]
theorem G5(I:Inv X d f H s){A:iE}{b:Bool}{O z:SI}(hA:A.units+60<aS){r:Bool}{Q:vS}(n:Q r s): ∀(l m:List D) (u v:List V) (g o:jr) (k:Int) (i:Nat),D.OO l<=50->D.OO m<=50->
  ((b&&i==0)=J-> ∀x y l' m',l=x::l'->m=y::m'->(∃a,x= .int a)/\ ∃c,y= .int c)->YP X.K H O l u->YP X.K H z m v->Vals u g->Vals v o->qc .Lt l m=J4 r->
  ∀fin:Bool,fin=lW .Lt (g.length+k) (o.length+k)->PySem.W.KatLex X.prog X.w A b fin Q (g.zip o) i s
 |[],m,u,v,g,o,k,i,_,_,_,p,q,v1,v2,j,fin,hf=>by
  rw[YP] at p;subst p;cases v1;rw[qc] at j;have U:=q.length;have Y:=v2.length;show Q fin s;rw[hf,sj];rw[<-kz j] at n;have:lW .Lt ((([]:List ir).length:Nat):Int) (o.length:Int)=lW .Lt 0 (m.length:Int):=by congr 1;lia
  rw[this];exact n
 |x::l,[],u,v,g,o,k,i,_,_,_,p,q,v1,v2,j,fin,hf=>by
  rw[YP] at q;subst q;cases v2;rw[qc] at j;have U:=p.length;have Y:=v1.length;rw[gX];show Q fin s;rw[hf,sj];rw[<-kz j] at n;have:lW .Lt (g.length:Int) ((([]:List ir).length:Nat):Int)=lW .Lt (((x::l).length:Nat):Int) 0:=by congr 1;lia
  rw[this];exact n
 |x::l,y::m,u,v,g,o,k,i,J',M,hb,p,q,v1,v2,j,fin,hf=>by
  rw[YP] at p q;obtain⟨L,R,rfl,g1,g2⟩:=p;obtain⟨T,S,rfl,C,P⟩:=q
  cases v1 with
  |cons a1 G=>
   cases v2 with
   |cons B N=>
    rw[qc] at j;rw[D.OO] at J' M;rw[wK];refine PySem.W.kat_cons<|Cr I 50 x y L T _ _ O z A (.inl g1) (.inl C) a1 B (by lia) (by lia) (by lia) X.prog X.w _ _ ?_
    cases E:D.O1 x y with
    |true=>
     rw[E,iz K3] at j;refine PySem.W.kat_yes<|G5 I hA n l m R S _ _ (k+1) (i+1) (by lia) (by lia) (λh=>by simp at h) g2 P G N j fin ?_;rw[hf];simp only[kO];have e: ∀a:Nat,(((a+1:Nat):Int)+k)=(a:Int)+(k+1):=λa=>by lia
     rw[e,e]
    |false=>
     rw[E,iG ku] at j;refine PySem.W.kat_no ?_
     cases F:(b&&i==0) with
     |true=>obtain⟨⟨a,rfl⟩,c,rfl⟩:=hb F x y l m K3 K3;have:=g1.int;subst this;have:=C.int;subst this;obtain⟨t,rfl⟩:=a1;obtain⟨Z,rfl⟩:=B;rw[nD] at j;rw[<-kz j] at n;exact oneLt_int n
     |false=>exact PySem.W.kat_one _ _ (ON (.inl K3) I 50 x y L T _ _ O z A r (.inl g1) (.inl C) a1 B (by lia) (by lia) (by lia) j X.prog X.w _ _ n)
def aaU(I:Inv X d f H s){O:SI}{u:List D}{N:List V}{e:jr}{A:iE}(hA:A.units+60<aS)(rr:YP X.K H O u N)(v:Vals N e){k:Nat}(B:GP k u):
  Ask (aj X.prog X.w) A (λT=>T=s) (QH e) (Ld k) e.length (λi j=>BN (u.getD i .T1)<|u.getD j .T1):=by
 intro i j hi hj T bz E';subst bz;have e1:=rr.length;have e2:=v.length;have J:u.getD i .T1∈u:=BU (by lia);have M:u.getD j .T1∈u:=BU (by lia);have ri:=vh rr (i:=i) (by lia);have rj:=vh rr (i:=j) (by lia);have vi:=ve v hi;have vj:=ve v hj;obtain⟨b,E⟩:=NT.mp<|B.cm _ J _ M;have j6:=FN _ _ (B.pr _ J) (B.pr _ M) b E;have r:=B.hd _ J;have g:=B.hd _ M;have di:=B.dp _ J;have dj:=B.dp _ M;show af _ _ (wS (Ld k) (e.getD i av)<|e.getD j av) _ _ _;dsimp only;rw[<-j6];generalize u.getD i .T1=x at*;generalize u.getD j .T1=y at*;generalize N.getD i .T1=vx at*;generalize N.getD j .T1=vy at*;generalize e.getD i av=a at*;generalize e.getD j av=c at*
 have C: ∀(l m:List D) (G:Bool),x= .tup l->y= .tup m->(G=K0-> ∀x y Z m',l=x::Z->m=y::m'->(∃a,x= .int a)/\ ∃c,y= .int c)->af (aj X.prog X.w) A (wS (Db G) a c) (λY U=>U=T/\Y=b) E' T:=λl m G P R hh=>by subst P R;obtain⟨p,us,rfl,q,r1⟩:=ri.tup;obtain⟨p2,ws,rfl,q2,r2⟩:=rj.tup;cases vi;cases vj;obtain⟨S,w1,⟨o,ho,hc,n,hd⟩,_⟩:=I.tuple q.sq;obtain⟨L,w2,⟨o2,u9,aR,n2,F⟩,_⟩:=I.tuple q2.sq;rw[nD,iz K3] at E;rw[D.dep] at di dj;refine PySem.W.kat_lt ho hd u9 F ?_;have:=G5 I (b:=G) hA (Q:=λY U=>U=T/\Y=b) ⟨rfl,rfl⟩ l m us ws S L 0 0 (by lia) (by lia) (λh=>hh<|by simpa using h) r1 r2 w1 w2 E (decide<|S.toArray.size<L.toArray.size) (by simp[lW]);simpa using this
 match k,r,g with
 |0,r,g=>
  cases x with
  |int ix=>
   cases y with
   |int iy=>have:=ri.int;subst this;have:=rj.int;subst this;obtain⟨t,rfl⟩:=vi;obtain⟨t',rfl⟩:=vj;rw[nD] at E;rw[<-kz E];show af _ _ (wS wP _ _) _ _ _;rw[keyLt'_oneType];exact oneLt_int ⟨rfl,rfl⟩
   |tup m=>cases m with
    |nil=>simp[ly] at g
    |cons z m=>cases z<;>simp[ly] at g
   |_=>simp[ly] at g
  |tup m=>cases m with
   |nil=>simp[ly] at r
   |cons z m=>cases z<;>simp[ly] at r
  |_=>simp[ly] at r
 |1,r,g=>
  cases x with
  |tup l=>
   cases y with
   |tup m=>
    refine C l m K0 K3 K3 λ_ x y Z m' P R=>?_;subst P R;refine⟨?_,?_⟩
    .cases x with
     |int a=>exact⟨a,rfl⟩
     |_=>simp[ly] at r
    .cases y with
     |int a=>exact⟨a,rfl⟩
     |_=>simp[ly] at g
   |_=>simp[ly] at g
  |_=>simp[ly] at r
 |(n+2),r,g=>
  cases x with
  |tup l=>
   cases y with
   |tup m=>exact C l m K2 K3 K3 λh=>absurd h ku
   |_=>simp[ly] at g
  |_=>simp[ly] at r
end
open PySem.W
section
variable {X:Cx}{c:iX}{y:L2.St}{H:Hp}{s:ie}
def Hf(I:Inv X c y H s){O:SI}{T:ir}(P:D->Prop)(t: ∀x v u,P x->Rep X.K H O x v->RelV v u->Looks (aj X.prog X.w) s.heap (m8 u) T): ∀{ds:List D} {b:List V} {a:jr},YP X.K H O ds b->Vals b a->
  (∀d∈ds,∃x l,d= .tup (x::l)/\P x)-> ∃fs,KatTups s.heap a fs/\(Ls fs)=Ls a/\ ∀f∈fs,Looks (aj X.prog X.w) s.heap (m8 f) T:=by
 intro E
 induction E with
 |nil=>intro b a r v _;rw[YP] at r;subst r;cases v;exact⟨[],KatTups.nil,rfl,λf A=>absurd A ql⟩
 |cons d ds C'=>
  intro b a r v h;rw[YP] at r;obtain⟨S,W,rfl,g1,g2⟩:=r
  cases v with
  |cons a1 j=>
   obtain⟨fs,L,Q,G⟩:=C' g2 j λd hd=>h d<|ji _ hd;obtain⟨x,l,rfl,J⟩:=h d jc;obtain⟨p,R,rfl,q,i⟩:=g1.tup;cases a1;obtain⟨Y,N,⟨o,B,z,n,hd⟩,_⟩:=I.tuple q.sq;rw[YP] at i;obtain⟨M,Z,rfl,m,F⟩:=i
   cases N with
   |cons k U=>
    rename_i f fr;refine⟨f::fs,KatTups.cons B z hd (by simp) L,by simp[Q],λg e=>?_⟩;rcases mz.mp e with rfl|e
    .exact t x M _ J m k
    .exact G g e
def XU(I:Inv X c y H s){O:SI}{ds:List D}{J:List V}{b:jr}{A:iE}(f:YP X.K H O ds J)(v:Vals J b){k:Nat}(B:GP k ds)(N:2<=b.length):
  af (aj X.prog X.w) A (keyKind' b.toArray) (λL s'=>s'=s/\L=Ld k) (λ_ _=>False) s:=by
 have R:=f.length;have S:=v.length
 match k,B with
 |0,B=>
  refine kas_kind (T:= .type "int") N (λu F=>?_) K3 K3 ⟨rfl,rfl⟩;obtain⟨i,Q,e⟩:=Es F;have G:=vh f (i:=i) (by lia);have E:=ve v Q;have hd:=B.hd _ (BU (ds:=ds) (i:=i)<|by lia);have:b.getD i av=u:=by simp[Q,e]
  rw[this] at E
  cases h:ds.getD i .T1 with
  |int a=>rw[h] at G;have:=G.int;rw[this] at E;obtain⟨t,rfl⟩:=E;exact Looks.of_pure K3
  |tup l=>
   rw[h] at hd
   cases l with
   |nil=>simp[ly] at hd
   |cons z m=>cases z<;>simp[ly] at hd
  |_=>rw[h] at hd;simp[ly] at hd
 |1,B=>
  obtain⟨fs,f1,M,g⟩:=Hf I (T:= .type "int") (λx=> ∃a,x= .int a) (λx P u j C r=>by
   obtain⟨a,rfl⟩:=j;have:=C.int;subst this;obtain⟨t,rfl⟩:=r
   exact Looks.of_pure K3) f v λd hd=>by
    have:=B.hd d hd
    cases d with
    |tup l=>
     cases l with
     |nil=>simp[ly] at this
     |cons z m=>
      cases z with
      |int a=>exact⟨_,m,rfl,a,rfl⟩
      |_=>simp[ly] at this
    |_=>simp[ly] at this
  exact kat_kind f1 (by lia) g K3 ⟨rfl,rfl⟩
 |(n+2),B=>
  obtain⟨fs,f1,M,g⟩:=Hf I (T:= .type "tuple") (λx=> ∃a,x= .tup a) (λx P u j C r=>by
   obtain⟨a,rfl⟩:=j;obtain⟨p,us,rfl,q,Z⟩:=C.tup;cases r;obtain⟨W,w1,⟨o,Y,U,n,hd⟩,_⟩:=I.tuple q.sq;have:Looks (aj X.prog X.w) s.heap (m8<|.ref p) o.cls:=(Looks.ld Y).andThen .now
   rw[U] at this;exact this) f v λd hd=>by
    have:=B.hd d hd
    cases d with
    |tup l=>
     cases l with
     |nil=>simp[ly] at this
     |cons z m=>
      cases z with
      |tup a=>exact⟨_,m,rfl,a,rfl⟩
      |_=>simp[ly] at this
    |_=>simp[ly] at this
  exact kat_kind f1 (by lia) g K3 ⟨rfl,rfl⟩
def jY(l:List D):Option (D×Bool):=if mO l=J/\(Ls l)<=sizeLine then Y (.lst<|mY BN l,J) else I
def oZ(d:D):Option (D×Bool):=(Ko d).bind jY
def afP{b:List V}{a:jr}(v:Vals b a): ∀(p:jw),(∀i∈p,i<Ls a)->Vals (p.map λi=>b.getD i .T1) (p.map λi=>a.getD i av):=by
 intro f
 induction f with
 |nil=>intro _;exact .nil
 |cons i p e=>intro h;exact .cons (ve v<|h i jc)<|e λj d=>h j<|ji _ d
def afS{O:SI}{a:List D}{b:List V}(r:YP X.K H O a b): ∀(p:jw),(∀i∈p,i<Ls a)->YP X.K H O (p.map λi=>a.getD i .T1) (p.map λi=>b.getD i .T1):=by
 intro f
 induction f with
 |nil=>intro _;exact YP.nil
 |cons i p e=>intro h;exact YP.cons (vh r<|h i jc)<|e λj d=>h j<|ji _ d
def ad6{b:List D}{n:Nat}(e:n=Ls b)(h1:(Ls b)<=1){p:jw}(a:p.Perm (am n)):p.map (λi=>b.getD i .T1)=mY BN b:=by
 subst e
 match b,h1,a with
 |[],_,a=>
  have:p=[]:=by simpa using a.length_eq
  subst this;rfl
 |[d],_,a=>
  have e:(Ls p)=1:=by simpa using a.length_eq
  match p,e,a with
  |[i],_,a=>
   have:i=0:=by have:=a.mem_iff.mp<|AO.mpr K3;simpa using this
   subst this;rfl
def qU(hu:X.A.units+62<aS)(I:Inv X c y H s){O:SI}{f:List D}{M:List V}{a:jr}{x:ir}{Q:VK}{z:D×Bool}(u:YP X.K H O f M)(v:Vals M a)(hg:jY f=J4 z)(G:Gen X.K H O z Q)
  (hc: ∀(Y:List ir->ie->Prop) (E':iY) (N:iE),N.handled=X.A.handled->(∀(h':iK) (d:Nat),(∀b o,s.heap.get? b=J4 o->h'.get? b=J4 o)->Y a {s with heap:=h',toks:=d})->af (aj X.prog X.w) N (eV x) Y E' s):
  af (aj X.prog X.w) X.A (call (.builtin "sorted") [x]) (EP X c y Q) X.xe s:=by
 unfold jY at hg;obtain⟨⟨L,hz⟩,rfl⟩:=iR hg;have r:=u.length;have Z:=v.length;refine Calls.call_function_entry J0 Do Ev (args_sorted1 _) ?_;unfold bb.«sorted»;refine hV (m:=checkCount "sorted" 1 1 _)<|iw ?_;refine hV<|hc _ _ _ rfl λh1 d S=>?_;refine hV<|Eo ?_ (by lia);have t:(h1.push<|bf "list" a.toArray 0).get? h1.objs.size=J4 (bf "list" a.toArray 0):=km _ rfl;have C:Inv X c y H {s with heap:=h1,toks:=d}:=I.kept S
 have keep: ∀b o,h1.get? b=J4 o->(qp (h1.push<|bf "list" a.toArray 0) h1.objs.size a).get? b=J4 o:=λb o l=>by have R:b≠h1.objs.size:=kd<|jW l;refine jU _ (jU _ ?_);rw[HU _ _ _ _ R];exact jU _ l
 have U:Inv X c y H {s with heap:=qp (h1.push<|bf "list" a.toArray 0) h1.objs.size a,toks:=d}:=C.kept keep;have eM: ∀i∈am a.length,i<a.length:=λi q=>by simpa using q
 refine hV<|lz<|oo (s:={s with heap:=h1.push<|bf "list" a.toArray 0,toks:=d}) ww ⟨_,t,rfl⟩ t6 ?body<|args_list_sort _
 case body=>
  have fin: ∀p:List Nat,p.Perm (am a.length)->p.map (λi=>f.getD i .T1)=mY BN f->EP X c y Q (.ref h1.objs.size) {s with heap:=(qp (h1.push<|bf "list" a.toArray 0) h1.objs.size a).update h1.objs.size<|aO λ_=>(p.map λi=>a.getD i av).toArray,toks:=d}:=λp e T=>by
   have F: ∀i∈p,i<a.length:=λi q=>by simpa using e.mem_iff.mp q
   have J: ∃n,(qp (h1.push<|bf "list" a.toArray 0) h1.objs.size a).get? h1.objs.size=J4 (bf "list" #[] n):=by
    obtain⟨r,W⟩: ∃r,((h1.push<|bf "list" a.toArray 0).update h1.objs.size<|aO λ_=>(#[]:Array ir)).get? h1.objs.size=J4 (bf "list" #[] r):=⟨_,za t λ_=> #[]⟩
    exact⟨r,jU _ (jU _ W)⟩
   obtain⟨n,J⟩:=J;obtain⟨E,P⟩: ∃E,((qp (h1.push<|bf "list" a.toArray 0) h1.objs.size a).update h1.objs.size<|aO λ_=>(p.map λi=>a.getD i av).toArray).get? h1.objs.size=J4 (bf "list" (p.map λi=>a.getD i av).toArray E):=⟨_,za J λ_=>(p.map λi=>a.getD i av).toArray⟩
   have g: ∀b o,h1.get? b=J4 o->((qp (h1.push<|bf "list" a.toArray 0) h1.objs.size a).update h1.objs.size<|aO λ_=>(p.map λi=>a.getD i av).toArray).get? b=J4 o:=λb o l=>by rw[HU _ _ _ _ (kd<|jW l)];exact keep b o l
   have pl:p.length=a.length:=by simpa using e.length_eq
   refine⟨.ref h1.objs.size,_,C.laid (t':=d) g (jM _) (show T2 X.prog X.w _ _ _ (.lst<|p.map λi=>M.getD i .T1) from⟨by rw[jf];lia,_,E,afP v p F,P⟩),rfl,?_⟩;refine G.lst C.fresh ?_;rw[<-T];exact afS u p λi q=>by have:=F i q;lia
  rcases Dy L with hlen|⟨k,B⟩
  .refine wm (κ:=general') (lt:=λ_ _=>K2) (s:={s with heap:=h1.push<|bf "list" a.toArray 0,toks:=d}) t (by lia) (λ_ _ _=>rfl) (λ_ _=>rfl) (λh=>by lia) (λh=>by lia) λp e _=>⟨_,rfl,iw ⟨_,rfl,fin p e ?_⟩⟩
   exact ad6 (by lia) hlen e
  .refine wm (κ:=Ld k) (lt:=λi j=>BN (f.getD i .T1)<|f.getD j .T1) (s:={s with heap:=h1.push<|bf "list" a.toArray 0,toks:=d}) t (by lia) (λ_ _=>UP _ _) ZD (λh=>XU U u v B h) (λ_=>aaU (A:=X.A.in1.in1) U (by show X.A.units+1+1+60<aS;lia) u v B) λp e T=>⟨_,rfl,iw ⟨_,rfl,fin p e<|ae0 B.pr (by rw[show f.length=a.length by lia];exact e) T⟩⟩
def sL(j:X.A.units+62<aS):kG X (.builtin "sorted") (GR X.K<|g1 oZ):=nW λc s y H x u Q O d z N t np hd a G=>by
 obtain⟨l,g,a⟩:=hG a
 have M:l.length<=sizeLine:=by unfold jY at a;exact(iR a).1.2
 cases d with
 |lst m=>
  cases g;obtain⟨p,J,rfl,q,r⟩:=kD hd;cases t;obtain⟨i,v,T,_⟩:=N.list q;have E:=r.length;have L:=v.length;obtain⟨o,h,f,n,hd⟩:=T.isList;refine qU j N r v a G λU B w _ e=>HS p (.inl K3) h f hd (λb k=>by simpa using e b s.toks k) (by rw[jq];lia)
 |tup m=>
  cases g;obtain⟨p,J,rfl,q,r⟩:=lE hd;cases t;obtain⟨i,v,⟨o,h,f,n,hd⟩,_⟩:=N.tuple q;have E:=r.length;have L:=v.length;refine qU j N r v a G λU B w _ e=>HS p (.inr K3) h f hd (λb k=>by simpa using e b s.toks k) (by rw[jq];lia)
 |_=>cases g
def afo:aH "sorted"=Y (.builtin "sorted"):=by decide+kernel
end
def adA:aH "isinstance"=Y (.builtin "isinstance"):=by decide+kernel
structure Tx(mg:lN):Prop where
 n_len:mg "len"=KE
 n_abs:mg "abs"=KE
 n_int:mg "int"=KE
 n_tuple:mg "tuple"=KE
 n_list:mg "list"=KE
 n_range:mg "range"=KE
 n_isinstance:mg "isinstance"=KE
 n_bool:mg "bool"=KE
 n_max:mg "max"=KE
 n_min:mg "min"=KE
 n_all:mg "all"=KE
 n_any:mg "any"=KE
 n_sorted:mg "sorted"=KE
 n_enumerate:mg "enumerate"=KE
 n_zip:mg "zip"=KE
 n_set:mg "set"=KE
def aeS{K:iJ}{U:Hp}{O:SI}: ∀a:List Int,YP K U O (a.map .int) (a.map V.int):=by
 intro c
 induction c with
 |nil=>exact YP.nil
 |cons n a b=>exact YP.cons Rep.mkInt<|b
def Cn(d e:cB)(a b c:FO):F:=λf=>(a f).bind λp=>(b p.2).bind λq=>match res q.2 p.1,res q.2 q.1 with
 |some (.int i),Y (.int j)=>if lW d i j=J then(c q.2).bind λr=>match res r.2 r.1 with
   |some (.int k)=>Y ((.bl<|lW e j k,C),r.2)
   |_=>I
  else Y ((.bl C,C),q.2)
 |_,_=>I
section
variable {X:Cx}{a b c:iq}{m l g:FO}{n:bq}{d f:cB}
def KH(h:DS d):BO X (aA d) (Jy λi j=> .bl (lW d i j)):=by
 rcases h with rfl|rfl|rfl|rfl
 .exact aad
 .exact aae
 .exact aaf
 .exact aag
def afh(A:tF X.K (Cn d f m l g) σ H' Q):Of (Jy λi j=> .bl (lW d i j)) (Jy λi j=> .bl (lW f i j)) (tO X.K m) (tO X.K l) (tO X.K g) σ H' Q:=by
 obtain⟨M,T,F,N,E,e,k⟩:=A;unfold Cn at e;obtain⟨⟨x,p⟩,h1,e⟩:=hG e;obtain⟨⟨G,q⟩,y,e⟩:=hG e;refine⟨M,T,x,p,E,h1,λv U h=>⟨p,F1 T x v,G,q,h.er E,y,λu Y o=>?_⟩⟩;have B:=Ops.cons E h<|Ops.cons (h.er E) o<|Ops.nil<|o.er<|h.er E;dsimp only at e;split at e
 .rename_i i j C I;have hv:=jd<|B.view (j:=0) H H C;have t:=jd<|B.view (j:=1) H H I;refine⟨i,j,hv,t,lW d i j,rfl,?_⟩;by_cases c:lW d i j=K0
  .rw[iz c] at e ⊢;obtain⟨⟨J,r⟩,z,e⟩:=hG e;dsimp only at e;split at e
   .rename_i O L;obtain⟨rfl,rfl⟩:=iP e;refine⟨q,_,J,r,o.er<|h.er E,z,λw D P3=>?_⟩;have s:=Ops.cons E h<|Ops.cons (h.er E) o<|Ops.cons (o.er<|h.er E) P3<|Ops.nil<|P3.er<|o.er<|h.er E;exact⟨j,O,t,jd<|s.view (j:=2) H H L,(s.done k).bl⟩
   .cases e
  .rw[iG c] at e ⊢;obtain⟨rfl,rfl⟩:=iP e;exact(B.done k).bl
 .cases e
end
section
variable {X:Cx}
end
end PX
namespace HT
open L2
section
variable {a:iL}{w:iD}{A:iE}{E:iY}{s:ie}
def aeg{t c:hJ}{items:oA}{g i:ir}{lo d:Option Int}{Q:iY}(b:lw s.heap t items)(e:s.heap.IsSliceOf c g i .none)(n:dG g lo)(o:dG i d)
  (f:As items.size 0 lo=0/\As items.size items.size d=items.size)(h:Q (.ref t) s):af (aj a w) A (ew (.ref t)<|.ref c) Q E s:=by
 obtain⟨os,k,j,p⟩:=id e;have l:s.TypeIs (.ref c) "slice":=⟨os,k,j⟩
 unfold ew
 try with_reducible refine lz ?_
 first|refine hV (iw ?_)|skip
 refine hV<|n7 b.typeIs (by decide) ?_
 refine hV (xF (name:=bn "__getitem__") b.typeIs CY
  (oo CY b.typeIs NN ?_<|n0 _ _))
 show af _ _ (ck (.ref t)>>=_) _ _ s;refine hV<|At b ?_;refine hV<|wU l ?_;rw[iz<|by decide];refine hV<|qY e n o ?_;rw[f.1,f.2];show af _ _ (if((((0:Nat):Int)==0&&(1:Int)==1&&(items.size-0)==items.size)=J) then _ else _) _ _ s;rw[iz<|by simp];refine hV (m:=ej _) ?_;unfold ej;refine hV<|wU b.typeIs ?_;refine iw ?_;rw[iz<|by decide];refine hV<|uf ?_
 first
  |exact hV<|iw ⟨_,rfl,iw h⟩
  |exact iw ⟨_,rfl,iw h⟩
  |exact hV<|iw<|iw ⟨_,rfl,iw h⟩
  |(refine hV ?_;trace_state;done)
end
end HT
namespace PX
open L2 PySem.SeqAt
def FH(l:List D)(lo a:Option Int):List D:=(l.drop<|HT.As (Ls l) 0 lo).take<|HT.As (Ls l) (Ls l) a-HT.As (Ls l) 0 lo
def gSl(lo a:Option Int):D->Option (D×Bool)
 | .tup l=>Y (.tup<|FH l lo a,C)
 | .lst l=>Y (.lst<|FH l lo a,J)
 |_=>I
def aca(K:iJ):V->Option Int->Option Int->Hp->VK->Prop:=λx lo a U Q=> ∃(O:SI) (d:D) (z:D×Bool),(∀p,¬Ow (U p)-> ¬O p)/\ky K U O d x/\gSl lo a d=Y z/\Gen K U O z Q
def YP.cut{K U}(r:YP K U O l xs)(lo a:Option Int):YP K U O (FH l lo a) (Hh xs lo a):=by unfold FH Hh;rw[r.length];exact(r.drop _).take _
section
variable {X:Cx}
def Gs{b:iX}{s:ie}{h:L2.St}{U:Hp}{a:hJ}{v e f:ir}{lo c:Option Int}{d:hJ}{Q:VK}{O:SI}{l:List D}{g:List V}(N:Inv X b h U s)(n:RelV (.ref a) v)(j:s.heap.IsSliceOf d e f .none)(k:dG e lo)(m:dG f c)
  (q:FV X.K U a g)(r:YP X.K U O l g)(G:Gen X.K U O (.lst<|FH l lo c,J) Q): ∃T id,m9 (.type T) "__getitem__"=pure (Y<|.builtin id)/\s.TypeIs v T/\af (aj X.prog X.w) X.A (ew v<|.ref d) (EP X b h Q) X.xe s:=
 SF b s h U (.ref a) v e f lo c d Q N n j k m ⟨a,g,rfl,q,λp i=>G.lst i<|r.cut lo c⟩
def abx:PR X (aca X.K):=by
 intro f s E T x v B U lo g A Q N n i k m h;obtain⟨O,d,z,np,hd,o,G⟩:=h
 cases d with
 |tup l=>
  cases o;rcases hd with hd|⟨a,_,h⟩
  .obtain⟨a,b,rfl,q,r⟩:=hd.tup;by_cases j:HT.As b.length 0 lo=0/\HT.As b.length b.length g=b.length
   .cases n;obtain⟨t,y,w,L⟩:=N.tuple q.sq;have c:t.toArray.size=b.length:=by rw[jq];exact y.length.symm
    refine⟨"tuple",_,CY.lookup,w.typeIs,?_⟩;refine HT.aeg w i k m (by rw[c];exact j) ⟨.ref a,T,N,rfl,?_⟩
    have e:FH l lo g=l:=by unfold FH;rw[<-r.length,j.1,j.2];simp[r.length]
    rw[e] at G;exact G (.ref a) T (λ_ _ e=>e) hd
   .exact Wx f s E T (.ref a) v B U lo g A Q N n i k m ⟨a,b,rfl,q.sq,j,λp u=>G.tup u (np p<|OP u)<|r.cut lo g⟩
  .exact h.elim
 |lst l=>
  cases o;rcases hd with hd|⟨a,rfl,h⟩
  .obtain⟨a,b,rfl,q,r⟩:=hd.lst;exact Gs N n i k m q.sq r G
  .obtain⟨b,e,r⟩:=h;exact Gs N n i k m (.inl<|.inl e) r G
 |_=>cases o
end
def DW(a b:FO):F:=λδ=>(a δ).bind λp=>(b p.2).bind λq=>match res q.2 q.1 with
 |some (.int i)=>(res q.2 p.1).bind λx=>(gSl I (Y i) x).bind λz=>Y (z,q.2)
 |_=>I
section
variable {X:Cx}{a lo d:iq}{g e f:FO}{b c:bq}
end
end PX
namespace L2
section
variable {X:Cx}
def ZM(T:It)(g:TG)(a:TT)(tb:hJ->TB)(pre:St->St)(b:St)(U:Hp)(Q:VK):Prop:=Gj (.set (λ_=>C) 0) T g a tb pre b U Q
def IV(c:TI)(g:TG)(ti:TT)(tb:hJ->TB)(pre:St->St):TE:=λa U Q=>c a U λT b=>ZM T g ti tb pre a b Q
def Ky{o:HO}{f:iq}{c:oj}{jl:pv}{scope:jb}{i:bq}{y:iI}{pre:St->St}{G:TI}{g:TG}{ti:TT}{tb:hJ->TB}
  (S:C2 X y scope pre)(hc:X.calm=J)(ha:c.is_async=0)(l4: ∀L,jl[0]?=J4 L->L.is_async=0)
  (hs: ∀x,aw c.iter X.env x=pure x)(pi:PI X c.target c.iter G)
  (o7: ∀(cl:jQ) (C:hJ) (O:ie) (r:Hp) (B:ki) (a:iX),let k:=X.comp y scope cl C O r B a
   PG k c.target g/\Jv k c.ifs ti/\ ∀d,PB k (je (.SetComp f (c::jl) scope i) 0 (.ref d) k.env)<|tb d)
  (mk: ∀(e:ie) (Q E:iY),(∀l,(∀H',T2 X.prog X.w H' (e.heap.push l) e.heap.objs.size o)->Q (.ref e.heap.objs.size) {e with heap:=e.heap.push l})->af (aj X.prog X.w) X.A (v6<|.type "set") Q E e):
  PE X (.SetComp f (c::jl) scope i) (λj H' Q=>G j H' λJ' M=>Gj o J' g ti tb pre j M Q):=by
 intro a s j H' Q I h;obtain⟨tg,z,p,Y⟩:=c;obtain rfl:Y=0:=ha;obtain⟨cl,l9,j8,l3⟩:=sJ X.env scope λx hx V=>I.ok.has x.1<|S.free x hx V;rw[arm_eval_SetComp];show af _ X.A (gk _ scope X.env _ (v6<|.type "set") K2 (aQ z X.env)) _ _ s;refine Ij (use:=KE) (g:=⟨tg,z,p,0⟩) (gs:=jl) H hs l9 S.kind S.names<|NL (pi a s j H' _ I h) λv s1 h1=>NL h1 λcJ e P=>?_;obtain⟨it,B,tn,J',H2,rfl,t,T,u7,F,Z⟩:=P;refine mk _ _ _ λl R=>?_;refine zS (RR:=λn C=>wl (aj X.prog X.w) X.A X.xe KE (EP X a j Q) n C) (.inr ⟨_,_,_,_,rfl⟩) H S hc H l4 o7 j8 l3 t T u7 F (t.laid (t':=e.toks) (λb l q=>jU _ q) (jM _)<|R _) Z λd D O r N σ' s4 U K u q=>?_;obtain⟨m,W,_⟩:=id u.loc;exact⟨m,W,λh' t8=>⟨.ref d,N,Cz U K u t8,rfl,q⟩⟩


def Wt(d:hJ)(e:TE):TB:=λc U N=>e c U λy a=> ∃k S n,y= .int k/\a d=Y (.set S n)/\n+1<gn/\N c (upd a d<|.set (λb=>S b||decide (b=k)) (if S k then n else n+1))
def agh{a:iq}{c:pv}{j:jb}{p:bq}{depth:Nat}{d:hJ}{l:TE}(E:c[depth+1]?=KE)(U:PE X a l):PB X (je (.SetComp a c j p) depth (.ref d) X.env) (Wt d l):=by
 intro f s m H N I h
 have r:je (.SetComp a c j p) depth (.ref d) X.env=(do let v <-aQ a X.env;b4 a.pos;let _ <-call (.builtin "set.add") [.ref d,v]):=by unfold je;simp -iota only[clausesOf.eq_def];rw[E]
 rw[r];refine hV<|NL (U f s m H _ I h) λu s1 a'=>?_;obtain⟨y,J',g,T,k,S,n,z,hd,Q,q⟩:=a';subst z;obtain⟨t,rfl⟩:=T;have A:s1.heap.SetOf (h9 X.prog X.w) d S n:=g.hok d _ hd;refine hV<|xJ<|hV<|call_set_add (knd:=h9 X.prog X.w) (k:=k) (intKind_is _ _ k t) K3 A Q λM G i=>iw ⟨m,_,?_,q⟩;refine g.write (x:=d) (e:=d) (by rw[hd];exact trivial) (.inl K3) (λb u B O=>by rw[G.2 b B];exact O) ?_ i;obtain⟨o,_,_,_,L,_⟩:=i;exact⟨o,L⟩
end
end L2
namespace PX
open L2 PySem.SeqAt
noncomputable def CM(f:F):FB:=λa b=>(f b).bind λp=>match p.1.1 with
 | .int k=>if (Ls a)+1<gn then Y (a++[.int k],p.2) else I
 |_=>I
section
variable {X:Cx}{A:jK}{d:hJ}{c:iq}{f:F}
def afy{j:pv}{J:jb}{p:bq}{depth:Nat}(E:j[depth+1]?=KE)(y:PX X c f):PB X (je (.SetComp c j J p) depth (.ref d) X.env) (JM K0 X.K A d<|CM f):=PB.imp' (agh E y) λm H N I=>by
 obtain⟨w,T,g,Y,M,B,e,k⟩:=I;obtain⟨⟨r,h⟩,h1,e⟩:=hG e;obtain⟨O,Q⟩:=r
 cases O with
 |int i=>
  obtain⟨U,e⟩:=iR e;obtain⟨rfl,rfl⟩:=tM e;refine⟨w,T,(.int i,Q),h,B.er,h1,λv s P=>?_⟩;obtain⟨q,G⟩:=P.rep B.er;have hv:v= .int i:=G.int;have t:SK A m w H m h s:=P.1.sk;have x:=B.step t q;have C:=SO g (λ_=>K2,0);refine⟨i,_,_,hv,x.at',by unfold nJ;lia,k m _ ?_ ?_⟩
  .have:Ju A d m h s m h (upd s d<|.set (λu=>(nJ g).1 u||decide (u=i)) (if(nJ g).1 i then(nJ g).2 else(nJ g).2+1)):=⟨λa o e n L=>by rw[iW L];exact e,λi a z=> .inl z,λa z=>by
    by_cases l:a=d
    .subst l;rw[iQ];simp
    .rw[iW l];exact z,λ_ _=>rfl⟩
   exact t.MT.trans this
  .refine⟨q.mono (λb o e n=>by rw[iW<|by intro z;subst z;exact n B.td];exact e) (λ_ _ z=>z) λa z=>?_,B.td,?_⟩
   .by_cases l:a=d
    .subst l;rw[iQ];trivial
    .rw[iW l];exact q.dom a z
   .show upd _ _ _ _=_;rw[iQ,DA]
 |_=>cases e
end
def vD(b:jw)(k:Nat)(d:Cf)(e:Tg)(ti:FT)(c:FB):F:=λf=>(d f).bind λp=>(jo p.2<|b.map .slot).bind λa=>if(iM (b.map .slot) a).Nodup then(jH e ti c p.1 []<|a.map Y++ah k I).bind λq=>Y ((.int (nJ q.1).2,C),wb (b.map .slot) a (iT a q.2) p.2) else I
def afg{K:iJ}{b:jw}{k:Nat}{f:Cf}{g:Tg}{ti:FT}{e:FB}{j:L2.St}{U:Hp}{Q:VK}(h:tF K (vD b k f g ti e) j U Q):
  IV (tI K (λi=>i∉b) f) (tG K (λi=>Ls b<=i) g) (tT K ti) (λd=>JM J K (λi=>Ls b<=i) d e) (tD b k) j U (λx c=> ∃S n,∃a,x= .ref a/\c a=Y (.set S n)/\Q (.int n) c):=zT (S:=J) h
section
variable {X:Cx}{j:iq}{c:oj}{jl:pv}{scope:jb}{f l p:bq}{L:iI}{b:jw}{k:Nat}{B:Cf}{y:Tg}{ti:FT}{A:FB}
def afl:kG X (.builtin "len") (λi N Q=> ∃S n,∃a,i=[.ref a]/\N a=Y (.set S n)/\Q (.int n) N):=by
 intro g s G N i T Q M r h;obtain⟨S,n,a,rfl,e,q⟩:=h;obtain⟨u,rfl,U⟩:=qQ r;cases U;obtain⟨o,m,E,t,z,hex,hd,_,_,O,v,x⟩:=(show s.heap.SetOf (h9 X.prog X.w) a S n from M.hok a _ e)
 have d:(m.size:Int)<2^63:=by
  have:gn=4096:=rfl
  lia
 refine call_len_set z hex hd v d ⟨.int n,N,?_,⟨_,by rw[x]⟩,q⟩;exact(M.tok _)
def aeU{z:ay}(C:Az X L scope b k)(hc:X.calm=K0)(ha:c.is_async=0)(l4: ∀N,jl[0]?=J4 N->N.is_async=0)
  (hs: ∀x,aw c.iter X.env x=pure x)(pi:MP X (λi=>i∉b) c.target c.iter B)
  (o7: ∀(cl:jQ) (C:hJ) (s3:ie) (H3:Hp) (fp:ki) (r:iX),let t:=X.comp L scope cl C s3 H3 fp r
   ME t (λi=>Ls b<=i) c.target y/\Jv t c.ifs (tT X.K ti)/\ ∀d,PB t (je (.SetComp j (c::jl) scope f) 0 (.ref d) t.env)<|JM K0 X.K (λi=>Ls b<=i) d A)
  (hg:Gl X z)(hm:X.mg z=KE)(hv:aH z=J4 (.builtin "len"))(hn:z≠"__name__")(l6:(z==("__debug__":ay))=K2)
  (h1:ag [.SetComp j (c::jl) scope f] X.env=(K2,aQ (.SetComp j (c::jl) scope f) X.env)::ag [] X.env)(g9:(aF l<|ag [] X.env).any (·.1)=K2):
  PX X (.Call (.Name z p) [.SetComp j (c::jl) scope f] [] l) (vD b k B y ti A):=
 PX.imp (BE afl hg hm hv (oY (Ky (o:= .set (λ_=>K2) 0) (g:=tG X.K (λi=>Ls b<=i) y) (ti:=tT X.K ti) (tb:=λd=>JM K0 X.K (λi=>Ls b<=i) d A) C.Mk hc ha l4 hs pi o7 λ_ _ _ k=>wpAny_newSet_of (knd:=h9 X.prog X.w) λ_ P=>k _ λ_=>P) uy h1) hn l6 h1 g9) λU H Q h=>by
  have q:=afg h
  have mono: ∀{u I:VK},(∀v H,u v H->I v H)->IV (tI X.K (λi=>i∉b) B) (tG X.K (λi=>Ls b<=i) y) (tT X.K ti) (λd=>JM K0 X.K (λi=>Ls b<=i) d A) (tD b k) U H u->IV (tI X.K (λi=>i∉b) B) (tG X.K (λi=>Ls b<=i) y) (tT X.K ti) (λd=>JM K0 X.K (λi=>Ls b<=i) d A) (tD b k) U H I:=by
   rintro u I hq ⟨δ,T,ds,O,E,h1,kk⟩;refine⟨δ,T,ds,O,E,h1,λJ M F Y ok d hd=>?_⟩;obtain⟨W,R,step⟩:=kk J M F Y ok d hd;refine⟨W,R,λi m G D w=>?_⟩;rcases step i m G D w with⟨s1,s2⟩|s
   .exact .inl ⟨s1,hq _ _ s2⟩
   .exact .inr s
  exact mono (λv M a'=>by obtain⟨S,n,a,e,h2,h3⟩:=a';exact ⟨S,n,a,by rw[e],h2,h3⟩) q
end
end PX
namespace HT
open L2
section
variable {a:iL}{w:iD}{A:iE}{E:iY}{s:ie}
end
end HT
namespace L2
section
variable {X:Cx}{e st:iq}{c b:TE}{a d:bq}
end
end L2
namespace PX
open L2 PySem.SeqAt
section
variable {X:Cx}{a st:iq}{d fs:FO}{b c:bq}
end
section
variable {b:kj}{a:db}
end
end PX
namespace TT
noncomputable def S:Nat->Nat
 |0=>0
 |n+1=>5*S n+1
theorem LN(m:Nat): ∀n:Nat,S (m+n)=5^n*S m+S n
 |0=>by simp[S]
 |n+1=>by rw[<-zc,S,LN m n,S,vT,wH,<-rL,wG 5 (5^n)];lia
theorem Cj: ∀n:Nat,∃c,5^n=4*c+1
 |0=>⟨0,rfl⟩
 |n+1=>by obtain⟨c,e⟩:=Cj n;exact⟨5*c+1,by rw[vT,e];lia⟩
theorem R0: ∀k:Nat,∃c,S (2^k)=2^k*(2*c+1)
 |0=>⟨0,rfl⟩
 |k+1=>by
  obtain⟨c,e⟩:=R0 k;obtain⟨d,f⟩:=Cj (2^k)
  have h:S (2^(k+1))=(5^2^k+1)*S (2^k):=by rw[vT,Nat.mul_two,LN,d0,HR]
  refine⟨2*(d*c)+d+c,?_⟩;rw[h,f,e,vT];have:4*d+1+1=2*(2*d+1):=by lia
  rw[this,rL 2,wG (2*d+1),rL (2^k),rL (2^k),<-rL 2 (2^k),wG 2 (2^k),rL (2^k) 2]
  congr 2
  rw[d0,wH,HR,yY,rL 2 c,En c 2 d,wG c d]
  lia
def R3(k n:Nat):S (2^k+n)%2^k=S n%2^k:=by obtain⟨c,e⟩:=R0 k;rw[LN,e,En,ms]
def LM: ∀(k e:Nat),e<2^k-> ∃n,n<2^k/\S n%2^k=e:=by
 intro v
 induction v with
 |zero=>intro e h;exact⟨0,by simp,by simp at h;subst h;rfl⟩
 |succ k u=>
  intro e h;have l:0<2^k:=mo k;obtain⟨n,A,t⟩:=u (e%2^k)<|yX _ l;obtain⟨c,o⟩:=R0 k;obtain⟨d,p⟩:=Cj n
  have b:S (2^k+n)=2^(k+1)*(4*d*c+2*d+c)+2^k+S n:=by
   rw[LN,o,p,vT,En,rL (2^k) 2]
   have:(4*d+1)*(2*c+1)=2*(4*d*c+2*d+c)+1:=by rw[d0,wH,HR,yY,En (4*d) 2 c];lia
   rw[this,wH,yY]
  rw[vT] at h b ⊢;generalize 2^k=P at*;have j:=mA (S n) P;have i:=mA e P;rw[t] at j;have B:e / P<2:=Nat.div_lt_of_lt_mul (by rw[wG] at h;lia)
  have m: ∀a q x,a=P*2*q+x->x<P*2->a%(P*2)=x:=λa q x h1 b=>by rw[h1,ms,Nat.mod_eq_of_lt b]
  have z:=yX e l;have w:S n / P=2*(S n / P / 2)+S n / P%2:=by lia
  have g:S n=P*2*(S n / P / 2)+(P*(S n / P%2)+e%P):=by rw[rL,<-zc,<-wH,<-w];exact j.symm
  generalize S n / P / 2=q at g;have y:S n / P%2<2:=yX _ (by decide);generalize S n / P%2=r at g y;generalize e / P=f at*;by_cases s:r=f
  .exact⟨n,by lia,m _ q _ (by rw[g,s,i]) h⟩
  .refine⟨P+n,by lia,m _ (4*d*c+2*d+c+q+r) _ ?_ h⟩;rw[b,g,wH (P*2) _ r,wH (P*2) _ q];rcases(show r=0\/r=1 by lia) with rfl|rfl
   .have:f=1:=by lia
    subst this;rw[HQ,HQ];rw[yY] at i;lia
   .have:f=0:=by lia
    subst this;rw[yY,yY];rw[HQ] at i;lia
noncomputable def ls(mask:Nat)(h:Int):Nat->Nat×Nat
 |0=>(aL h%(mask+1),aL h)
 |k+1=>ce mask (ls mask h k).1 (ls mask h k).2
def UJ(h:Int):aL h<2^64:=by
 unfold aL;have:=HP h (show(0:Int)<2^64 by decide);have:=HN h (show(2^64:Int)≠0 by decide)
 lia
def KW(mask:Nat)(h:Int): ∀k,(ls mask h k).1<=mask
 |0=>by have:=yX (aL h) (show 0<mask+1 by lia);show _%(mask+1)<=_;lia
 |k+1=>by show(_%(mask+1))<=_;have:=yX ((ls mask h k).1*5+1+(ls mask h k).2 / 32) (show 0<mask+1 by lia);lia
theorem KU(mask:Nat)(h:Int): ∀k,(ls mask h k).2=aL h / 32^k
 |0=>by simp[ls]
 |k+1=>by show(ls mask h k).2 / 32=_;rw[KU mask h k,vT,Nat.div_div_eq_div_mul]
def Ua(mask:Nat)(h:Int)(k:Nat)(hk:13<=k):(ls mask h k).2=0:=by rw[KU];refine Nat.div_eq_of_lt<|oq (UJ h) ?_;exact kW (show 2^64<=32^13 by decide)<|wF (by decide) hk
theorem Qj(mask:Nat)(h:Int)(m:Nat)(a:(ls mask h 13).1=S m%(mask+1)): ∀n,(ls mask h (13+n)).1=S (m+n)%(mask+1)
 |0=>a
 |n+1=>by show(((ls mask h (13+n)).1*5+1+(ls mask h (13+n)).2 / 32)%(mask+1))=_;rw[Ua mask h _ (by lia),Qj mask h m a n,Nat.zero_div,r6,<-zc m n 1,S,uu,Nat.mod_mul_mod,<-uu,wG 5]
def GS(hk:mask+1=2^k)(h:Int)(g:e<=mask): ∃n,n<mask+14/\(ls mask h n).1=e:=by
 have i:=KW mask h 13;obtain⟨m,c,b⟩:=LM k (ls mask h 13).1 (by lia);obtain⟨q,d,eq⟩:=LM k e (by lia);rw[<-hk] at b eq c d;have a:=Qj mask h m b.symm;by_cases f:m<=q
 .exact⟨13+(q-m),by lia,by rw[a,show m+(q-m)=q by lia];exact eq⟩
 .refine⟨13+(q+(mask+1)-m),by lia,?_⟩;rw[a,show m+(q+(mask+1)-m)=2^k+q by lia,hk,R3,<-hk];exact eq
def Je(mask i:Nat)(h:i<=mask):i<=aE mask i/\aE mask i<=mask/\aE mask i<=i+9:=by unfold aE;split<;>lia
def tm(mask:Nat)(h:Int):Nat->Nat
 |0=>0
 |k+1=>tm mask h k+(aE mask (ls mask h k).1-(ls mask h k).1)+1
theorem U8(mask:Nat)(h:Int): ∀k,tm mask h k<=10*k
 |0=>jM _
 |k+1=>by have:=U8 mask h k;have:=Je mask _ (KW mask h k);unfold tm;lia
def at_(mask:Nat)(h:Int)(k t:Nat):SetTable.Probe:=⟨(ls mask h k).1+t,aE mask (ls mask h k).1-(ls mask h k).1-t,(ls mask h k).1,(ls mask h k).2,I⟩
theorem xi(mask:Nat)(h:Int): ∀k t,t<=aE mask (ls mask h k).1-(ls mask h k).1->pr mask h (tm mask h k+t)=at_ mask h k t
 |0,0,_=>rfl
 |k+1,0,_=>by have e:=xi mask h k (aE mask (ls mask h k).1-(ls mask h k).1)<|jM _;show MN mask (pr mask h<|tm mask h k+(aE mask (ls mask h k).1-(ls mask h k).1))=_;rw[e];unfold MN at_;simp only[Nat.sub_self,qP,jS,gt_iff_lt];rfl
 |k,t+1,a=>by
  have e:=xi mask h k t (by lia);show MN mask (pr mask h<|tm mask h k+t)=_;rw[e];unfold MN at_;rw[iz (show aE mask (ls mask h k).1-(ls mask h k).1-t>0 by lia)];simp only[SetTable.Probe.mk.injEq,and_true,true_and]
  lia
def Pg(hk:mask+1=2^k)(h:Int)(a:e<=mask): ∃n,n<10*(mask+14)/\(pr mask h n).j=e:=by obtain⟨r,b,er⟩:=GS hk h a;have:=U8 mask h r;refine⟨tm mask h r,by lia,?_⟩;have:=xi mask h r 0<|lP _;rw[r6] at this;rw[this];exact er
theorem Pf(mask:Nat)(h:Int): ∀n,(pr mask h n).dummy=I
 |0=>rfl
 |n+1=>by show(MN mask<|pr mask h n).dummy=I;unfold MN;split<;>exact Pf mask h n
theorem GB(mask:Nat)(h:Int): ∀n,∃k t,n=tm mask h k+t/\t<=aE mask (ls mask h k).1-(ls mask h k).1
 |0=>⟨0,0,rfl,lP _⟩
 |n+1=>by
  obtain⟨k,t,e,b⟩:=GB mask h n;by_cases a:t+1<=aE mask (ls mask h k).1-(ls mask h k).1
  .exact⟨k,t+1,by lia,a⟩
  .exact⟨k+1,0,by unfold tm;lia,lP _⟩
def Pe(mask:Nat)(h:Int)(n:Nat):(pr mask h n).j<=mask:=by obtain⟨k,t,e,a⟩:=GB mask h n;rw[e,xi mask h k t a];have:=Je mask _ (KW mask h k);show(ls mask h k).1+t<=mask;lia
def E6{c:Array Nat}(g:c.toList.Pairwise (· < ·)){i j:Nat}{a b:Nat}(h:i<j)(h1:c[i]?=Y a)(d:c[j]?=Y b):a<b:=by rw[<-lK] at h1 d;obtain⟨e,rfl⟩:=wa.mp h1;obtain⟨f,rfl⟩:=wa.mp d;exact Sd.mp g i j e f h
def RL{c:Array Nat}(o:c.toList.Pairwise (· < ·))(j:Nat): ∀(d lo b:Nat),lo<=b->b<=c.size->b-lo<=d->
  (∀i a,i<lo->c[i]?=Y a->a<j)->(∀i a,b<=i->c[i]?=Y a->j<=a)->
  let p:=SetTable.below.go c j d lo b
  p<=c.size/\(∀i a,i<p->c[i]?=Y a->a<j)/\(∀i a,p<=i->c[i]?=Y a->j<=a):=by
 intro u
 induction u with
 |zero=>
  intro lo b h1 g t h k;have:lo=b:=by lia
  subst this;exact⟨g,h,k⟩
 |succ d q=>
  intro lo b h1 g t h k;unfold SetTable.below.go;by_cases r:lo<b
  .rw[iz r];have n:(lo+b) / 2<c.size:=by lia
   have m:c[(lo+b) / 2]?=Y c[(lo+b) / 2]:=qk n;have hd:c.getD ((lo+b) / 2) j=c[(lo+b) / 2]:=by simp[fm,n]
   dsimp only;rw[hd];by_cases l:c[(lo+b) / 2]<j
   .rw[iz l];refine q ((lo+b) / 2+1) b (by lia) g (by lia) (λi a s f=>?_) k;by_cases e:i=(lo+b) / 2
    .subst e;rw[m] at f;cases f;exact l
    .exact ED (E6 o (by lia) f m) l
   .rw[iG l];refine q lo ((lo+b) / 2) (by lia) (by lia) (by lia) h λi a s f=>?_;by_cases e:i=(lo+b) / 2
    .subst e;rw[m] at f;cases f;lia
    .have:=E6 o (show(lo+b) / 2<i by lia) m f;lia
  .rw[iG r];have:lo=b:=by lia
   subst this;exact⟨g,h,k⟩
def qe{b:Array Nat}(d:b.toList.Pairwise (· < ·))(j:Nat):au b j<=b.size/\(∀i a,i<au b j->b[i]?=Y a->a<j)/\(∀i a,au b j<=i->b[i]?=Y a->j<=a):=
 RL d j b.size 0 b.size (lP _) (jM _) (by lia) (λi a h=>by lia) (λi a h1 c=>by have:=(R7.mp c).1;lia)
def CG{a:Array Nat}(c:a.toList.Pairwise (· < ·)){i j:Nat}(h:a[i]?=Y j):au a j=i:=by
 obtain⟨h1,d,e⟩:=qe c j;by_cases g:i<au a j
 .exact absurd (d i j g h) (qP _)
 .by_cases f:au a j<i
  .have k:=(R7.mp h).1;have b:a[au a j]?=Y a[au a j]:=qk (by omega);have:=e _ _ (jM _) b;have:=E6 c f b h;omega
  .omega
theorem Fs(j:Nat):Ix #[] j=C:=rfl
def qX{t:mB}(a:t.place.toList.Pairwise (· < ·)){i j:Nat}(h:t.place[i]?=Y j):t.slot j= .live i:=by unfold ij;dsimp only;rw[CG a h,h];simp
def aev{t:mB}(hd:t.dummies= #[]){j:Nat}(h:j∉t.place.toList):t.slot j= .empty:=by
 unfold ij;dsimp only
 have:(t.place[au t.place j]?==Y j)=C:=by rw[CZ];intro e;rw[<-lK] at e;exact h<|mq e
 rw[this,hd,Fs];rfl
def RT(t:mB)(p:cA):t.advance p=MN t.mask p:=by unfold ad7 MN;split<;>rfl
def Pc{l:ig}{t:mB}(ok:Av l t)(hashAt:Nat->Int)(h:Int): ∀(a n:Nat),(∃M,n<=M/\M<n+a/\(pr t.mask h M).j∉t.place.toList)->
    ∃m,n<=m/\(∀q,n<=q->q<m-> ∃i,t.place[i]?=Y (pr t.mask h q).j/\hashAt i≠h)/\
      (((pr t.mask h m).j∉t.place.toList/\dg t hashAt h a (pr t.mask h n)=Y (.empty (pr t.mask h m).j I))\/
       (∃i,t.place[i]?=Y (pr t.mask h m).j/\hashAt i=h/\dg t hashAt h a (pr t.mask h n)=Y (.candidate (pr t.mask h m).j i<|pr t.mask h<|m+1))):=by
  intro p
  induction p with
  |zero=>
    rintro n ⟨M,h1,f,g⟩
    lia
  |succ a o=>
    rintro n ⟨M,h1,f,g⟩;unfold dg;by_cases d:(pr t.mask h n).j∈t.place.toList
    · obtain⟨i,c⟩:=sP d
      rw[lK] at c;rw[qX ok.ris c];dsimp only;by_cases b:hashAt i=h
      · refine⟨n,jM _,λq h1 f=>by lia,.inr ⟨i,c,b,?_⟩⟩
        rw[iz<|by simpa using b,RT];rfl
      · rw[iG<|by simpa using b,RT]
        have s:M≠n:=λe=>g<|e▸d;obtain⟨m,g1,g2,k⟩:=o (n+1) ⟨M,by lia,by lia,g⟩;refine⟨m,by lia,λq u r=>?_,k⟩;by_cases e:q=n
        · subst e;exact⟨i,c,b⟩
        · exact g2 q (by lia) r
    · rw[aev ok.dum d]
      dsimp only;rw[Pf];exact⟨n,jM _,λq h1 f=>by lia,.inl ⟨d,rfl⟩⟩
def GY: ∀(n:Nat) (l:jw),Ls l<=n-> ∃e,e<=n/\e∉l:=by
 intro d
 induction d with
 |zero=>intro l h;exact⟨0,jM _,by cases l with|nil=>simp|cons _ _=>simp at h⟩
 |succ n c=>
  intro l h;by_cases a:n+1∈l
  .obtain⟨e,h1,b⟩:=c (l.erase<|n+1) (by rw[Ny a];lia);exact⟨e,by lia,λz=>b<|(Em<|by lia).mpr z⟩
  .exact⟨n+1,jM _,a⟩
def Av.free(ok:Av f t)(h:Int): ∃M,M<10*(t.mask+14)/\(pr t.mask h M).j∉t.place.toList:=by
 obtain⟨k,_,_,hk⟩:=ok.pow
 have h1:(Ls t.place.toList)<=t.mask:=by have:=ok.len;have:=ok.room;rw[kL];lia
 obtain⟨e,c,d⟩:=GY t.mask _ h1;obtain⟨n,a,b⟩:=Pg hk h c;exact⟨n,a,by rw[b];exact d⟩
def lU{b:Type}(a:Array b)(p:Nat)(x:b):(ax a p x).toList=a.toList.take p++x::a.toList.drop p:=by unfold ax;simp[Array.toList_extract,List.extract];rw[AW<|by simp]
def aew(h:xs.toList.Pairwise (· < ·))(n:j∉xs.toList):(ax xs (au xs j) j).toList.Pairwise (· < ·):=by
 obtain⟨h1,l,k⟩:=qe h j;rw[lU,tu];refine⟨h.sublist<|zj _ _,?_,?_⟩
 .rw[Dr];refine⟨λa d=>?_,h.sublist<|HX _ _⟩;obtain⟨i,c⟩:=sP d;rw[cX] at c;have m:=k _ _ (show au xs j<=au xs j+i by lia) (by rw[<-lK];exact c);have:a≠j:=λe=>n (e▸mq c)
  lia
 .intro a d b g
  have f:a<j:=by
   obtain⟨i,c⟩:=sP d;rw[List.getElem?_take] at c;split at c
   .rename_i o;exact l i a o (by rw[<-lK];exact c)
   .cases c
  rcases mz.mp g with rfl|g
  .exact f
  .obtain⟨i,c⟩:=sP g;rw[cX] at c;have m:=k _ _ (show au xs j<=au xs j+i by lia) (by rw[<-lK];exact c)
   lia
def Av.fresh(finger moves:Nat)(led:Bool):Av [] (gJ finger moves led) where
 pow:=⟨3,by lia,by lia,rfl⟩
 dum:=rfl
 len:=rfl
 room:=by show 5*0<3*7;lia
 ris:= .nil
 bd:=λj h=>by simp[gJ] at h
 road:=λi h j h1=>by simp at h1
def Av.put(ok:Av g t)(z:(pr t.mask h n).j∉t.place.toList)(y: ∀m,m<n->(pr t.mask h m).j∈t.place.toList)(T:5*(Ls g+1)<3*t.mask)(B:j=(pr t.mask h n).j)(U:p=au t.place j):
  Av (g.take p++h::g.drop p) (t.put j).1/\(t.put j).2=p:=by
 subst B;subst U
 have v:(t.put (pr t.mask h n).j).1={t with place:=ax t.place (au t.place (pr t.mask h n).j) (pr t.mask h n).j,dummies:= #[]}:=by unfold kv;dsimp only;rw[ok.dum,Fs];rfl
 obtain⟨h1,_,_⟩:=qe ok.ris (pr t.mask h n).j;have E:=ok.len
 have c: ∀x,x∈t.place.toList->x∈(ax t.place (au t.place (pr t.mask h n).j) (pr t.mask h n).j).toList:=λx a=>by
  rw[lU];rw[<-wM (au t.place (pr t.mask h n).j) t.place.toList] at a;rcases qh.mp a with a|a
  .exact qh.mpr (.inl a)
  .exact qh.mpr (.inr<|ji _ a)
 refine⟨?_,rfl⟩;rw[v];generalize w:au t.place (pr t.mask h n).j=P at*;refine⟨ok.pow,rfl,?_,?_,?_,λx a=>?_,λi f k g1 g2=>?_⟩
 .show(ax t.place P (pr t.mask h n).j).size=_;rw[<-kL,lU];simp only[mX,kO,tR,c6,kL];lia
 .show 5*_<3*t.mask;simp only[mX,kO,tR,c6];lia
 .have:=aew ok.ris z;rw[w] at this;exact this
 .have s:x∈(ax t.place P (pr t.mask h n).j).toList:=a;rw[lU] at s;show x<=t.mask;rcases qh.mp s with a|a
  .exact ok.bd x (tY a)
  .rcases mz.mp a with rfl|a
   .exact Pe _ _ _
   .exact ok.bd x (Ep a)
 .have b:(ax t.place P (pr t.mask h n).j).toList[i]?=Y k:=by rw[lK];exact g2
  rw[lU] at b;show ∃u,(pr t.mask f u).j=k/\ ∀m,m<u->(pr t.mask f m).j∈(ax t.place P (pr t.mask h n).j).toList;have Jg:(t.place.toList.take P).length=P:=by rw[tR,kL];lia
  have l:(g.take P).length=P:=by rw[tR];lia
  by_cases A:i<P
  .rw[pA<|by lia,IB A] at g1 b;rw[lK] at b;obtain⟨q,o,r⟩:=ok.road i f k g1 b;exact⟨q,o,λm e=>c _ (r m e)⟩
  .rw[pB<|by lia,Jg] at b;rw[pB<|by lia,l] at g1
   cases hd:i-P with
   |zero=>rw[hd] at g1 b;simp at g1 b;subst g1;subst b;exact⟨n,rfl,λm e=>c _ (y m e)⟩
   |succ d=>rw[hd] at g1 b;simp only[wD,cX] at g1 b;rw[lK] at b;obtain⟨q,o,r⟩:=ok.road _ f k g1 b;exact⟨q,o,λm e=>c _ (r m e)⟩
def Jj(ow:xE)(j:Nat):Prop:= ∃i,ow.getD j I=Y i
def Ft{ow:xE}{j:Nat}{d:Option Nat}(h:j<ow.size):ow.getD j d=ow.getD j I:=by simp[fm,h]
def ae9{mask:Nat}{ow:xE}(U:ow.size=mask+1)(h:Int): ∀(a k:Nat),(∃r,k<=r/\r<k+a/\ ¬Jj ow (ls mask h r).1)->(∀m,m<tm mask h k->Jj ow (pr mask h m).j)->
  ∃n,bI mask ow a (ls mask h k).1 (ls mask h k).2=Y (pr mask h n).j/\ ¬Jj ow (pr mask h n).j/\ ∀m,m<n->Jj ow (pr mask h m).j:=by
 intro A
 induction A with
 |zero=>
  rintro k ⟨r,h1,v,_⟩ _
  lia
 |succ a z=>
  rintro k ⟨r,h1,v,g⟩ l;unfold bI;have x:=KW mask h k;have y:=Je mask _ x
  cases c:(am<|aE mask (ls mask h k).1+1-(ls mask h k).1).find? λt=>(ow.getD ((ls mask h k).1+t)<|Y 0).isNone with
  |some t=>
   rw[List.find?_range_eq_some] at c;obtain⟨a1,q,s⟩:=c;rw[wx] at q;have p:t<=aE mask (ls mask h k).1-(ls mask h k).1:=by lia
   have e:=xi mask h k t p;refine⟨tm mask h k+t,by rw[e];rfl,?_,λm o=>?_⟩
   .rw[e];rintro⟨i,w⟩;rw[Ft (by show(ls mask h k).1+t<_;lia)] at a1;have u:ow.getD ((ls mask h k).1+t) I=Y i:=w;rw[u] at a1;simp at a1
   .by_cases f:m<tm mask h k
    .exact l m f
    .have b:=xi mask h k (m-tm mask h k) (by lia);rw[show tm mask h k+(m-tm mask h k)=m by lia] at b;rw[b];have:=s (m-tm mask h k) (by lia);rw[Ft (by show(ls mask h k).1+(m-tm mask h k)<_;lia)] at this;show Jj ow ((ls mask h k).1+(m-tm mask h k));unfold Jj
     cases d:ow.getD ((ls mask h k).1+(m-tm mask h k)) I with
     |none=>rw[d] at this;simp at this
     |some i=>exact⟨i,rfl⟩
  |none=>
   rw[List.find?_range_eq_none] at c
   have all: ∀t,t<=aE mask (ls mask h k).1-(ls mask h k).1->Jj ow ((ls mask h k).1+t):=λt p=>by
    have:=c t (by lia);rw[Ft<|by lia] at this;unfold Jj
    cases d:ow.getD ((ls mask h k).1+t) I with
    |none=>rw[d] at this;simp at this
    |some i=>exact⟨i,rfl⟩
   have B:r≠k:=λe=>g (by subst e;have:=all 0<|lP _;simpa using this)
   have:=z (k+1) ⟨r,by lia,by lia,g⟩ (λm o=>by
    by_cases f:m<tm mask h k
    .exact l m f
    .unfold tm at o;have b:=xi mask h k (m-tm mask h k) (by lia);rw[show tm mask h k+(m-tm mask h k)=m by lia] at b;rw[b];exact all _ (by lia))
   exact this
def He{a e:Type}{f g:a->Option e}: ∀{l:List a},(∀x∈l,f x=g x)->l.filterMap f=l.filterMap g:=by
 intro d
 induction d with
 |nil=>intro _;exact H
 |cons x l c=>intro h;rw[xM,xM,h x jc,c λy b=>h y<|ji _ b]
noncomputable def pU(mask:Nat)(ow:xE):List (Nat×Nat):=(am<|mask+1).filterMap λj=>(ow.getD j I).map (j,·)
def R9:(j,i)∈pU mask ow↔j<=mask/\ow.getD j I=Y i:=by
 unfold pU;simp only[em,wx,fI,Prod.mk.injEq];constructor
 .rintro⟨a,h1,b,c,rfl,rfl⟩;exact⟨by lia,c⟩
 .rintro⟨h1,c⟩;exact⟨j,by lia,i,c,rfl,rfl⟩
def Qo(mask:Nat)(ow:xE):((pU mask ow).map (·.1)).Pairwise (· < ·):=by unfold pU;rw[List.map_filterMap,List.pairwise_filterMap];refine Sb.imp λ{a b} e x c y d=>?_;simp only[Option.mem_def,Option.map_map,fI,aX] at c d;obtain⟨_,_,rfl⟩:=c;obtain⟨_,_,rfl⟩:=d;exact e
def Qn{mask:Nat}{ow:xE}(f:ow.size=mask+1){j k:Nat}(d:j<=mask)(c:ow.getD j I=I):(pU mask<|ow.setIfInBounds j<|Y k).Perm ((j,k)::pU mask ow):=by
 have g: ∀i,(ow.setIfInBounds j<|Y k).getD i I=if i=j then Y k else ow.getD i I:=λi=>by
  simp only[wC,El];by_cases e:i=j
  .subst e;simp[show i<ow.size by lia]
  .rw[iG λz=>e z.symm,iG e]
 have split:am (mask+1)=am j++j::(am<|mask-j).map (λx=>j+1+x):=by rw[show mask+1=j+(mask-j+1) by lia,List.range_add,dk];simp[sQ,zc,sa 1]
 unfold pU;rw[split,Nx,Nx,xM,xM];simp only[g,c,iz H,Option.map_none,Option.map_some]
 have a1:(am j).filterMap (λi=>(if i=j then Y k else ow.getD i I).map (i,·))=(am j).filterMap (λi=>(ow.getD i I).map (i,·)):=
  He λi a=>by rw[wx] at a;rw[iG<|by lia]
 have b:((am<|mask-j).map λx=>j+1+x).filterMap (λi=>(if i=j then Y k else ow.getD i I).map (i,·))=((am<|mask-j).map λx=>j+1+x).filterMap (λi=>(ow.getD i I).map (i,·)):=
  He λi a=>by obtain⟨x,_,rfl⟩:=lg.mp a;rw[iG<|by lia]
 rw[a1,b];exact R6
structure Fj(mask:Nat)(hs:ig)(ow:xE):Prop where
 size:ow.size=mask+1
 perm:((pU mask ow).map (·.2)).Perm (am<|Ls hs)
 road: ∀j i h,ow.getD j KE=J4 i->hs[i]?=J4 h-> ∃n,(pr mask h n).j=j/\ ∀m,m<n->Jj ow (pr mask h m).j
def KN(h:Jj ow x):Jj (ow.setIfInBounds j<|Y k) x:=by
 obtain⟨i,a⟩:=h;unfold Jj;simp only[wC,El] at a ⊢;by_cases e:j=x
 .subst e;rw[iz H];split
  .exact⟨k,rfl⟩
  .rename_i b;rw[Ek<|by lia] at a;simp at a
 .rw[iG e];exact⟨i,a⟩
def Fj.step{mask k:Nat}(hk:mask+1=2^k){a:ig}{ow:xE}(ok:Fj mask a ow)(h:Int)(T:(Ls a)<=mask):
  ∃j,bI mask ow (bT mask) (aL h%(mask+1)) (aL h)=Y j/\Fj mask (a++[h]) (ow.setIfInBounds j<|Y<|Ls a):=by
 have p:(pU mask ow).length=(Ls a):=by have:=ok.perm.length_eq;simpa using this
 obtain⟨e,o,y⟩:=GY mask ((pU mask ow).map (·.1)) (by rw[jf];lia)
 have t: ¬Jj ow e:=by rintro⟨i,f⟩;exact y<|lg.mpr ⟨(e,i),R9.mpr ⟨o,f⟩,rfl⟩
 obtain⟨r,B,l⟩:=GS hk h o;obtain⟨n,f1,u,v⟩:=ae9 ok.size h (bT mask) 0 ⟨r,lP _,by unfold bT;lia,by rw[l];exact t⟩ (λm c=>by simp[tm] at c);have x:=Pe mask h n
 have s:ow.getD (pr mask h n).j I=I:=by
  cases A:ow.getD (pr mask h n).j I with
  |none=>rfl
  |some i=>exact absurd ⟨i,A⟩ u
 refine⟨_,f1,⟨by rw[Array.size_setIfInBounds];exact ok.size,?_,λj i w g1 g2=>?_⟩⟩
 .refine((Qn ok.size x s).map _).trans ?_;rw[jG,mX,Bb,List.range_succ];exact(gm _ ok.perm).trans (Nw _ _).symm
 .by_cases b:j=(pr mask h n).j
  .subst b
   have:i=(Ls a):=by simp only[wC,El,iz H] at g1;rw[iz bv,iz<|by rw[ok.size];lia] at g1;exact(kz g1).symm
   subst this;rw[pB<|jM _] at g2;simp at g2;subst g2;exact⟨n,rfl,λm c=>KN<|v m c⟩
  .have d:ow.getD j I=Y i:=by simp only[wC,El] at g1 ⊢;rw[iG λz=>b z.symm] at g1;exact g1
   have f:i<(Ls a):=by
    have g:j<=mask:=by
     by_cases q:j<ow.size
     .have:=ok.size;lia
     .rw[wC,Ek<|by lia] at d;simp at d
    have:=ok.perm.mem_iff.mp<|lg.mpr ⟨(j,i),R9.mpr ⟨g,d⟩,rfl⟩;exact wx.mp this
   rw[pA f] at g2;obtain⟨q,U,E⟩:=ok.road j i w d g2;exact⟨q,U,λm c=>KN<|E m c⟩
def Fj.start(mask:Nat):Fj mask [] (eP (mask+1) I) where
 size:=by simp
 perm:=by
  have:pU mask (eP (mask+1) I)=[]:=by unfold pU;refine List.filterMap_eq_nil_iff.mpr λj a=>?_;rw[wC,Nv];split<;>rfl
  rw[this];exact wI _
 road:=λj i h h1=>by rw[wC,Nv] at h1;split at h1<;>cases h1
noncomputable def yk(mask:Nat)(a:Option (Array (Option Nat)×Nat))(h:Int):Option (Array (Option Nat)×Nat):=do
 let(owner,k) <-a
 let j <-bI mask owner (bT mask) (aL h%(mask+1)) (aL h)
 pure (owner.setIfInBounds j<|Y k,k+1)
def Qr{mask k:Nat}(hk:mask+1=2^k): ∀(l a:ig) (ow:xE),Fj mask a ow->Ls a+Ls l<=mask+1->
  ∃c,l.foldl (yk mask) (Y (ow,Ls a))=Y (c,Ls a+Ls l)/\Fj mask (a++l) c:=by
 intro m
 induction m with
 |nil=>intro a ow ok _;exact⟨ow,rfl,by rw[xH];exact ok⟩
 |cons h l i=>
  intro a ow ok g;rw[kO] at g;obtain⟨j,e,d⟩:=ok.step hk h (by lia);obtain⟨c,f,b⟩:=i (a++[h]) _ d (by rw[mX,Bb];lia);refine⟨c,?_,by rw[oT] at b;exact b⟩;rw[rP]
  have:yk mask (Y (ow,Ls a)) h=Y (ow.setIfInBounds j<|Y<|Ls a,Ls a+1):=by unfold yk;show(bI mask ow (bT mask) (aL h%(mask+1)) (aL h)>>=_)=_;rw[e];rfl
  rw[this];rw[mX,Bb] at f;rw[f,kO]
  congr 2;lia
def adY(hk:mask+1=2^k)(a:ig)(c:(Ls a)<=mask): ∃ow,f9 mask a.toArray=Y ow/\Fj mask a ow:=by
 obtain⟨ow,e,ok⟩:=Qr hk a [] _ (Fj.start mask) (by simp;lia);refine⟨ow,?_,by simpa using ok⟩;unfold f9;rw[<-Array.foldl_toList];show px _ (en (yk mask) _ a)=_;have b:en (yk mask) (Y (eP (mask+1) I,0)) a=Y (ow,Ls a):=by simpa using e
 rw[b];rfl
def Uj(hk:mask+1=2^k)(w:3<=k)(o:k<=11)(finger moves:Nat)(led plain:Bool)(d:ig)(E:5*(Ls d)<3*mask):
  ∃t c,io mask finger moves led plain d.toArray=Y (t,c)/\c.toList.Perm (am<|Ls d)/\Av (c.toList.map λi=>d.getD i 0) t/\t.plain=plain/\t.led=led:=by
 obtain⟨ow,e,ok⟩:=adY hk d (by lia);refine⟨{mask,place:=((pU mask ow).map (·.1)).toArray,dummies:= #[],finger,led,moves,plain},((pU mask ow).map (·.2)).toArray,?_,by simpa using ok.perm,?_,rfl,rfl⟩
 .unfold io;rw[e];rfl
 .have g:(pU mask ow).length=(Ls d):=by have:=ok.perm.length_eq;simpa using this
  refine⟨⟨k,w,o,hk⟩,rfl,by simp,by simp[g];lia,by simpa using Qo mask ow,λj z=>?_,λi h j g1 g2=>?_⟩
  .have v:j∈(pU mask ow).map (·.1):=by simpa using z
   obtain⟨⟨a,b⟩,q,rfl⟩:=lg.mp v;exact(R9.mp q).1
  .have s:((pU mask ow).map (·.2)).map (λi=>d.getD i 0)=(((pU mask ow).map (·.2)).toArray).toList.map λi=>d.getD i 0:=by simp
   rw[<-s,kl,kl] at g1;have f:((pU mask ow).map (·.1))[i]?=Y j:=by simpa using g2
   rw[kl] at f
   cases l:(pU mask ow)[i]? with
   |none=>rw[l] at f;cases f
   |some p=>
    obtain⟨a,b⟩:=p;rw[l] at g1 f;simp at g1 f;subst f;have q:=R9.mp<|mq l
    have x:b<(Ls d):=by have:=ok.perm.mem_iff.mp<|lg.mpr ⟨(a,b),mq l,rfl⟩;exact wx.mp this
    have y:d[b]?=Y h:=by rw[jg x] at g1 ⊢;simpa using g1
    obtain⟨n,B,U⟩:=ok.road a b h q.2 y;refine⟨n,B,λm r=>?_⟩;obtain⟨A,u⟩:=U m r;show(pr mask h m).j∈(((pU mask ow).map (·.1)).toArray).toList;have:(pr mask h m).j∈(pU mask ow).map (·.1):=lg.mpr ⟨(_,A),R9.mpr ⟨Pe mask h m,u⟩,rfl⟩;simpa using this
def adE: ∀n,n<2048-> ∃k,3<=k/\k<=11/\dO n=2^k/\n<2^k:=by
 intro n h
 have step: ∀(f k:Nat),3<=k->k<=11->11<k+f-> ∃b,3<=b/\b<=11/\SetTable.sizeAbove.go n f (2^k)=2^b/\n<2^b:=by
  intro f
  induction f with
  |zero=>intro k h1 c d;lia
  |succ f g=>
   intro k h1 c d;unfold SetTable.sizeAbove.go;by_cases a:2^k<=n
   .rw[iz a,<-vT];have:k≠11:=λe=>by subst e;lia
    exact g (k+1) (by lia) (by lia) (by lia)
   .rw[iG a];exact⟨k,h1,c,rfl,by lia⟩
 exact step 64 3 (by lia) (by lia) (by lia)
open PyProof.Rows PySem.SeqAt
def afr{k:ig}{t:mB}(ok:Av k t){hashAt:Nat->Int}{h:Int}{p:cA}{n:Nat}(g:p=pr t.mask h n)(f: ∀m,m<n->(pr t.mask h m).j∈t.place.toList):
    ∃m,n<=m/\m<10*(t.mask+14)/\(∀q,n<=q->q<m-> ∃i,t.place[i]?=Y (pr t.mask h q).j/\hashAt i≠h)/\
      (((pr t.mask h m).j∉t.place.toList/\t.probe hashAt h p=Y (.empty (pr t.mask h m).j I))\/
       (∃i,t.place[i]?=Y (pr t.mask h m).j/\hashAt i=h/\t.probe hashAt h p=Y (.candidate (pr t.mask h m).j i<|pr t.mask h<|m+1))):=by
  subst g;obtain⟨M,h1,a⟩:=ok.free h
  have c:n<=M:=by
    by_cases b:M<n
    · exact absurd (f M b) a
    · lia
  obtain⟨m,g1,g2,e⟩:=Pc ok hashAt h (10*bT t.mask) n ⟨M,c,by unfold bT;lia,a⟩
  have l:m<=M:=by
    by_cases b:M<m
    · obtain⟨i,d,_⟩:=g2 M c b
      rw[<-lK] at d;exact absurd (mq d) a
    · lia
  exact⟨m,g1,by lia,g2,e⟩
section
variable {prog:iL}{w:iD}{A:iE}{E:iY}{s:ie}
structure L3(A:iE)(s:ie)(a:hJ)(es:vM)(n:Nat)(t:mB)(x:ir)(h:Int)(eqs:Nat->Bool):Prop where
 at_: ∃o,s.heap.get? a=J4 o/\o.data= .set es n t
 tab:Av (es.toList.map (·.1)) t
 refs: ∀(i:Nat) (e:Int×ir),es[i]?=J4 e-> ∃b,e.2= .ref b
 eq: ∀(i:Nat) (e:Int×ir),es[i]?=J4 e->EqAt A s e.2 x (eqs i)
 hash: ∀(i:Nat) (e:Int×ir),es[i]?=J4 e->eqs i=K0->e.1=h
 quiet: ∀(l:jr) (prog:iL) (w:iD) (E:iY) (Q:vS),(∀v∈l,∃e∈es.toList,e.2=v)->Q K2 s->af (aj prog w) A (o4 x l) Q E s
def age(ok:Av c t):t.gaveWay=C:=by
 obtain⟨k,h1,_,b⟩:=ok.pow;obtain⟨a,rfl⟩: ∃a,k=a+1:=⟨k-1,by lia⟩
 rw[vT] at b;unfold IN;rw[CZ];lia
def Lk(ok:Av a t)(h:(Ls a)=n):t.fits n=J:=by have:=ok.len;have:=ok.room;unfold i3 i4;rw[ok.dum];simp only[kU,beq_iff_eq,pz];exact⟨by lia,by show _+0<=_;lia⟩
def L3.fits{a b n t x h eqs}(S:L3 A s a b n t x h eqs):t.fits b.size=J:=Lk S.tab (by simp)
def zZ{a:hJ}{k:vM}{nn:Nat}{t:mB}{x:ir}{h:Int}{c:Nat->Bool}{adding:Bool}(S:L3 A s a k nn t x h c){Q:SetFound->ie->Prop}
  (H: ∀i r,c i=K0->i<k.size->(r=KE\/r=J4 i)->(adding=K2->r=J4 i)->Q (.there r) s)
  (l8:(∀i,i<k.size->c i=K2)-> ∀n,(pr t.mask h n).j∉t.place.toList->(∀m,m<n->(pr t.mask h m).j∈t.place.toList)->Q (.free (pr t.mask h n).j K2) s):
  ∀(l n:Nat) (u:Option cA),u.getD (t.probeStart h)=pr t.mask h n->(∀q,q<n-> ∃i,t.place[i]?=J4 (pr t.mask h q).j/\c i=K2)->10*(t.mask+14)<n+l->n<=10*(t.mask+14)->
   af (aj prog w) A (w6 a x h adding l u) Q E s:=by
 intro iV
 induction iV with
 |zero=>
  intro n u _ _ V X
  lia
 |succ l iH=>
  intro n u m5 U V X;obtain⟨o,T,hd⟩:=S.at_
  have Jj: ∀m,m<n->(pr t.mask h m).j∈t.place.toList:=λm W=>by obtain⟨i,g,_⟩:=U m W;rw[<-lK] at g;exact mq g
  unfold w6;refine hV<|tL T hd S.fits ?_;dsimp only;rw[age S.tab];simp only[jy,↓reduceIte];generalize R:t.probe _ h _=P;obtain⟨m,m1,m2,m3,F⟩:=afr S.tab m5 Jj (hashAt:=λi=>(k[i]?.map (·.1)).getD 0);have O:t.probe (λi=>(k[i]?.map (·.1)).getD 0) h (u.getD<|t.probeStart h)=P:=R;rw[O] at F
  have N: ∀(i:Nat) (j:Nat),t.place[i]?=J4 j-> ∃e,k[i]?=J4 e/\(k[i]?.map (·.1)).getD 0=e.1:=λi j g=>by have h1:=(R7.mp g).1;have L:=S.tab.len;rw[jf,kL] at L;exact⟨k[i],qk<|by lia,by rw[qk<|by lia];rfl⟩
  have ne: ∀(i:Nat) (j:Nat),t.place[i]?=J4 j->(k[i]?.map (·.1)).getD 0≠h->c i=K2:=λi j g J=>by
   obtain⟨e,f,Y⟩:=N i j g
   cases d:c i with
   |false=>rfl
   |true=>exact absurd (Y.trans<|S.hash i e f d) J
  have seen: ∀q,q<m-> ∃i,t.place[i]?=J4 (pr t.mask h q).j/\c i=K2:=λq d=>by
   by_cases p:q<n
   .exact U q p
   .obtain⟨i,g,J⟩:=m3 q (by lia) d;exact⟨i,g,ne i _ g J⟩
  rcases F with⟨a1,a2⟩|⟨i,a1,a2,a3⟩
  .subst a2;dsimp only;refine iw<|l8 (λi g=>?_) m a1 λq d=>?_
   .cases d:c i with
    |false=>rfl
    |true=>
     exfalso;have f:k[i]?=J4 k[i]:=qk g;have h1:=S.hash i _ f d;have L:=S.tab.len;rw[jf,kL] at L;have C:t.place[i]?=J4 t.place[i]:=qk (by lia);obtain⟨M,K,r2⟩:=S.tab.road i h t.place[i] (by rw[kl,lK,f];exact mC J4 h1) C
     have:M<m:=by
      by_cases p:M<m
      .exact p
      .exfalso;rcases j2 (VX.mp p) with p|heq
       .exact a1 (r2 m p)
       .subst heq;rw[<-lK] at C;rw[K] at a1;exact a1<|mq C
     obtain⟨Z,g1,g2⟩:=seen M this;rw[K] at g1;have:Z=i:=by rw[<-CG S.tab.ris g1,CG S.tab.ris C]
     rw[this,d] at g2;cases g2
   .obtain⟨i,g,_⟩:=seen q d;rw[<-lK] at g;exact mq g
  .subst a3;dsimp only;obtain⟨e,f,Y⟩:=N i _ a1;obtain⟨h',y⟩:=e;obtain⟨b,D⟩:=S.refs i _ f;dsimp only at D;subst D;have I:t.sameMemory t.moves t.mask=J4 K0:=by simp[Go]
   have B:i<k.size:=(R7.mp f).1;cases hl:t.led
   .simp only[dR,↓reduceIte];refine hV<|S.quiet _ _ _ _ _ (λv hv=>?_) ?_
    .obtain⟨e,v5,rfl⟩:=lg.mp hv;exact⟨e,(YO.mp (by simpa using(Array.mem_filter.mp<|YO.mp v5).1) |> λz=>by simpa using z),rfl⟩
    simp only[jy,↓reduceIte];rw[f];dsimp only;refine hV<|lz<|S.eq i _ f _ _ _ _ ?_;refine hV<|tL T hd S.fits ?_;dsimp only
    cases d:c i with
    |true=>
     cases adding with
     |true=>simp only[fK,↓reduceIte];exact iw<|H i KE d B (.inl K3) (λz=>by cases z)
     |false=>simp only[dU,jy,↓reduceIte,I,qX S.tab.ris a1,f];refine hV<|Ej ?_;simp only[↓reduceIte];exact hV<|iw<|iw<|H i _ d B (.inr K3) λ_=>rfl
    |false=>
     simp only[fx,jy,↓reduceIte,I,qX S.tab.ris a1,f];refine hV<|Ej ?_;simp only[↓reduceIte];refine hV<|iw ?_
     exact iH (m+1) _ rfl (λq G=>by
      by_cases e:q=m
      .subst e;exact⟨i,a1,d⟩
      .exact seen q (by lia)) (by lia) (by lia)
   .simp only[qO,jy,↓reduceIte];rw[f];dsimp only;refine hV<|lz<|S.eq i _ f _ _ _ _ ?_;refine hV<|tL T hd S.fits ?_;dsimp only
    cases d:c i with
    |true=>
     cases adding with
     |true=>simp only[fK,↓reduceIte];exact iw<|H i KE d B (.inl K3) (λz=>by cases z)
     |false=>simp only[dU,jy,↓reduceIte,I,qX S.tab.ris a1,f];refine hV<|Ej ?_;simp only[↓reduceIte];exact hV<|iw<|iw<|H i _ d B (.inr K3) λ_=>rfl
    |false=>
     simp only[fx,jy,↓reduceIte,I,qX S.tab.ris a1,f];refine hV<|Ej ?_;simp only[↓reduceIte];refine hV<|iw ?_
     exact iH (m+1) _ rfl (λq G=>by
      by_cases e:q=m
      .subst e;exact⟨i,a1,d⟩
      .exact seen q (by lia)) (by lia) (by lia)
end
noncomputable abbrev jI(a:vM)(n:Nat)(t:mB):Obj:={cls:= .type "set",data:= .set a n t}
section
variable {c:iL}{w:iD}{A:iE}{E:iY}{s:ie}
def Gm{h:iK}{a:hJ}{b es':vM}{n:Nat}{t t':mB}(d:h.get? a=Y (jI b n t)):(h.update a<|jp es' t').get? a=Y (jI es' (n+1) t'):=by have:=uj (jp es' t') d (by rw[putSet_of es' t' H];rfl);rw[putSet_of es' t' H] at this;exact this
def afV{b:Type}(a:Array b):(am a.size).filterMap (λi=>a[i]?)=a.toList:=by
 have: ∀(l:List b),(am<|Ls l).filterMap (λi=>l[i]?)=l:=by
  intro l
  induction l with
  |nil=>rfl
  |cons x l d=>rw[kO,dk,xM];simp only[c7,hC,sQ,wD,d]
 have h:=this a.toList;simpa using h
def Uv{a:vM}: ∀(l:jw),(∀i∈l,i<a.size)->(l.filterMap λi=>a[i]?).map (·.1)=l.map λi=>(a.toList.map (·.1)).getD i 0:=by
 intro f
 induction f with
 |nil=>intro _;exact H
 |cons i l e=>
  intro h;have b:=h i jc;rw[xM,qk b];simp only[jG];rw[e λj d=>h j<|ji _ d]
  congr 1
  simp[b]
def afT{a:hJ}{d:vM}{n:Nat}{t:mB}(g:s.heap.get? a=Y (jI d n t))(v:t.fits d.size=J)(T:5<=d.size)(L:d.size<=500){Q:Unit->ie->Prop}
  (h: ∀f es' U t',aM a s.heap f->f.get? a=Y (jI es' U t')->es'.toList.Perm d.toList->Av (es'.toList.map (·.1)) t'->t'.plain=t.plain->t'.led=t.led->Q () {s with heap:=f}):
  af (aj c w) A (setRelay a<|eJ d.size) Q E s:=by
 have x:eJ d.size=d.size*4:=by unfold eJ;rw[iG<|by lia]
 obtain⟨k,B,j,u,lk⟩:=adE (d.size*4) (by lia);have z:dO (d.size*4)-1+1=2^k:=by have:=mo k;lia
 obtain⟨t',b,o,e,p,q,r⟩:=Uj z B j t.finger (t.movedTo<|dO (d.size*4)-1) t.led t.plain (d.toList.map (·.1)) (by rw[jf,kL];lia);rw[jf,kL] at e
 have er:t.relaid (d.map (·.1)) (d.size*4)=Y (t',b):=by unfold Is;rw[<-o,<-Array.toList_map]
 have m: ∀i∈b.toList,i<d.size:=λi y=>wx.mp<|e.mem_iff.mp y;have l:(b.filterMap (d[·]?)).toList=b.toList.filterMap (λi=>d[i]?):=by simp
 have perm:(b.filterMap (d[·]?)).toList.Perm d.toList:=by rw[l];refine(e.filterMap _).trans ?_;rw[afV]
 have sz:(b.filterMap (d[·]?)).size=d.size:=by rw[<-kL,perm.length_eq,kL]
 rw[x];unfold setRelay;refine hV<|tL g H v ?_;dsimp only
 have O:2^k<=sizeLine:=by have:2^k<=2^11:=wF (by decide) j;rw[jT];lia
 rw[iG<|by rw[u];lia,er];refine hV ?_;change af _ _ (if((b.filterMap (d[·]?)).size !=d.size)=J then _ else _) _ _ _;rw[iG<|by rw[sz];simp];refine iw ?_;dsimp only;refine n6 g H ?_ (by rw[sz,jT];lia);refine h _ (b.filterMap (d[·]?)) (n+1) t' (sN s.heap a _) (Gm g) perm ?_ q r;rw[l,Uv _ m];exact p
def qz{b:Type}(a:Array b)(p:Nat)(x:b):(ax a p x).toList.Perm (x::a.toList):=by rw[lU];refine R6.trans ?_;rw[wM]
def abe{a b:hJ}{d:vM}{n:Nat}{t:mB}{h:Int}{p:Nat->Bool}(S:L3 A s a d n t (.ref b) h p)(C:s.heap.get? a=J4 (jI d n t))(g9:t.plain=J)(hz:d.size+1<=500)
  (T: ∀(M:vS),M J s->af (aj c w) A (fF 8<|.ref b) M E s){Q:vS}
  (hold:(∃i,i<d.size/\p i=J)->Q K2 s)
  (Y:(∀i,i<d.size->p i=K2)-> ∀h' es' J' t',aM a s.heap h'->h'.get? a=J4 (jI es' J' t')->es'.toList.Perm ((h,.ref b)::d.toList)->Av (es'.toList.map (·.1)) t'->t'.plain=J->t'.led=t.led->Q J {s with heap:=h'}):
  af (aj c w) A (Bn a (.ref b) h) Q E s:=by
 unfold Bn setAddHashedIn;refine lz<|hV<|tL C K3 S.fits ?_;dsimp only;have gy:byScan (.ref b) d=K2:=rfl;rw[gy];simp only[jy,↓reduceIte]
 have hm:t.mask+1<=2048:=by
  obtain⟨k,_,F,R⟩:=S.tab.pow;have:2^k<=2^11:=wF (by decide) F
  lia
 refine hV<|zZ S (adding:=J) (λi r h1 O _ _=>?_) (λN m h1 O=>?_) 100000 0 KE K3 (λq hq=>by lia) (by lia) (by lia)
 .dsimp only;exact iw<|hold ⟨i,O,h1⟩
 .dsimp only;refine hV<|tL C K3 S.fits ?_;dsimp only
  have x:(t.put (pr t.mask h m).j).1={t with place:=ax t.place (au t.place (pr t.mask h m).j) (pr t.mask h m).j,dummies:= #[]}:=by unfold kv;dsimp only;rw[S.tab.dum,Fs];rfl
  have P:(t.put (pr t.mask h m).j).2=au t.place (pr t.mask h m).j:=rfl;have L:(t.put (pr t.mask h m).j).1.plain=J:=by rw[x];exact g9
  rw[iz L];refine hV<|T _ ?_;simp only[↓reduceIte]
  have v:(ax d (t.put (pr t.mask h m).j).2 (h,bj b)).size=d.size+1:=by rw[<-kL,(qz d _ _).length_eq,kO,kL]
  refine hV<|n6 C K3 ?_ (by rw[v,jT];lia);have D:=Gm (es':=ax d (t.put (pr t.mask h m).j).2 (h,bj b)) (t':=(t.put (pr t.mask h m).j).1) C;have B:=sN s.heap a<|jp (ax d (t.put (pr t.mask h m).j).2 (h,bj b)) (t.put (pr t.mask h m).j).1;have f:(Ls d.toList)=d.size:=kL;have o:=S.tab.len;rw[jf,f] at o
  have l:(t.put (pr t.mask h m).j).1.place.size=d.size+1:=by rw[x];show(ax t.place _ _).size=_;rw[<-kL,(qz t.place _ _).length_eq,kO,kL,o]
  have I:(t.put (pr t.mask h m).j).1.fill=d.size+1:=by unfold i4;rw[l,x];rfl
  have H:(t.put (pr t.mask h m).j).1.mask=t.mask:=by rw[x]
  have g:(t.put (pr t.mask h m).j).1.led=t.led:=by rw[x]
  by_cases e:(t.put (pr t.mask h m).j).1.tooFull=J
  .rw[e];simp only[dR,fK,↓reduceIte];have u:=S.tab.room;rw[jf,f] at u
   have U:3*t.mask<=5*(d.size+1):=by unfold gf at e;rw[I,H] at e;have:=yW e;lia
   have m7:7<=t.mask:=by
    obtain⟨k,k3,_,R⟩:=S.tab.pow;have:2^3<=2^k:=wF (by decide) k3
    lia
   have K:(t.put (pr t.mask h m).j).1.fits (ax d (t.put (pr t.mask h m).j).2 (h,bj b)).size=J:=by unfold i3;rw[l,v,I,H];simp only[BEq.rfl,yV,pz];lia
   rw[<-v];refine hV<|afT D K (by rw[v];lia) (by rw[v];lia) λh' es' J' t' g1 g2 V W X Z=>?_;exact iw<|Y N h' es' J' t' (B.trans g1) g2 (V.trans<|qz d _ _) W (by rw[X];exact L) (by rw[Z];exact g)
  .have y:(t.put (pr t.mask h m).j).1.tooFull=K2:=by simpa using e
   rw[y];simp only[fx,jy,↓reduceIte]
   have G:5*(d.size+1)<3*t.mask:=by
    unfold gf at e;rw[I,H] at e;have: ¬(d.size+1)*5>=t.mask*3:=λz=>e<|lh z
    lia
   obtain⟨p1,p2⟩:=S.tab.put h1 O (by rw[jf,f];exact G) K3 K3;refine iw<|Y N _ _ _ _ B D (qz d _ _) ?_ L g;rw[lU,qj,jG,<-HM,<-List.map_drop] at*;rw[P];exact p1
def aaE(S:L3 A s a d n t (.ref b) h eqs)(o:s.heap.get? a=Y (jI d n t)) 
  (h1: ∀i,i<d.size->eqs i=J->Q (Y i) s)(l:(∀i,i<d.size->eqs i=C)->Q I s):af (aj c w) A (setFind a (.ref b) h) Q E s:=by
 unfold setFind setFindIn;refine hV<|tL o H S.fits ?_;dsimp only;have j:byScan (.ref b) d=C:=rfl;rw[j];simp only[jy,↓reduceIte]
 have u:t.mask+1<=2048:=by
  obtain⟨k,_,f,p⟩:=S.tab.pow;have:2^k<=2^11:=wF (by decide) f
  lia
 refine hV<|zZ S (adding:=C) (λi r g1 g2 _ g=>?_) (λe m _ _=>?_) 100000 0 I H (λq v=>by lia) (by lia) (by lia)
 .rw[g H];exact iw<|h1 i g2 g1
 .exact iw (l e)
end
end TT
namespace PX
open L2 PySem.SeqAt TS
def D.L0: ∀l:List D,D.Fd l=l.map D.hash:=by
 intro b
 induction b with
 |nil=>rw[D.Fd];rfl
 |cons d l a=>rw[D.Fd,a];rfl
def Pd: ∀{l:List D} {d:D},D.JJ l=J->d∈l->D.pr d=J:=by
 intro c
 induction c with
 |nil=>intro d _ h;simp at h
 |cons e l b=>
  intro d a h;rw[D.JJ,kU] at a;rcases mz.mp h with rfl|h
  .exact a.1
  .exact b a.2 h
def Cv: ∀{l:List D} {d:D},d∈l->d.dep<=D.OO l:=λ{l d} h=>by obtain⟨j,a⟩:=sP h;exact D.C9 a
section
variable {X:Cx}{f:iX}{g:L2.St}{H:Hp}{s:ie}
def Jf(X:Cx)(H:Hp)(O:SI)(c:List D)(a:jr):Prop:= ∃b,YP X.K H O c b/\Vals b a
def Jf.cons(h:Jf X H O (d::ds) (v::c)):(∃x,Rep X.K H O d x/\RelV x v)/\Jf X H O ds c:=by
 obtain⟨k,r,vs⟩:=h;rw[YP] at r;obtain⟨x,j,rfl,e,i⟩:=r
 cases vs with
 |cons a b=>exact⟨⟨x,e,a⟩,j,i,b⟩
def Jf.nil_of{O:SI}{a:List D}(h:Jf X H O a []):a=[]:=by
 obtain⟨c,r,b⟩:=h;cases b
 cases a with
 |nil=>rfl
 |cons d a=>rw[YP] at r;obtain⟨_,_,e,_⟩:=r;cases e
def Jf.cons_of(h:Jf X H O a (v::c)): ∃d b,a=d::b:=by
 cases a with
 |nil=>obtain⟨i,r,e⟩:=h;rw[YP] at r;subst r;cases e
 |cons d a=>exact⟨d,a,rfl⟩
def QR: ∀(n:Nat) {s:ie} (I:Inv X f g H s) (d:D) (v:V) (u:ir) (O:SI) (A:iE) (E:iY) (Q:Int->ie->Prop),Rep X.K H O d v->RelV v u->D.pr d=K0->d.dep<=n->A.units+n<aS->(∀j,s.toks<=j->Q d.hash {s with toks:=j})->
  af (aj X.prog X.w) A (pyHash u) Q E s:=by
 intro n
 induction n with
 |zero=>
  intro s I d v u O A E Q c T m hd P z
  cases d with
  |int i=>have:=c.int;subst this;obtain⟨t,rfl⟩:=T;have:=z (s.toks+1)<|Bc _;rw[D.hash] at this;exact IJ this
  |tup l=>rw[D.dep] at hd;lia
  |_=>simp[D.pr] at m
 |succ n ih=>
  intro s I d v u O A E Q c T m hd P z
  cases d with
  |int i=>have:=c.int;subst this;obtain⟨t,rfl⟩:=T;have:=z (s.toks+1)<|Bc _;rw[D.hash] at this;exact IJ this
  |tup l=>
   rw[D.pr] at m;rw[D.dep] at hd;obtain⟨a,xs,rfl,q,r⟩:=c.tup;cases T;obtain⟨W,vs,⟨o,U,R,nn,Z⟩,_⟩:=I.tuple q.sq;have B:s.TypeIs (.ref a) "tuple":=⟨o,U,R⟩
   have S:A.units<cLine:=by lia
   unfold pyHash;unfold pyHashByItsType;refine hV<|wpAny_cRoomFor_or (.inr S) ?_;refine hV<|wB B J6.lookup ?_;show af _ _ (if(J4 (mm "tuple.__hash__")==J4 av)=K0 then _ else _) Q E s;rw[iG<|by rw[qs];exact ku];refine hV<|wB B J6.lookup ?_;show af _ _ (callSpecialIfBoundUnlessNone? (.ref a) "__hash__" _>>=_) Q E s;refine hV<|wpAny_callSpecialIfBoundUnlessNone?_slot B J6<|oo J6 B PySem.F.entry_tuple_hash ?_<|PySem.F.args_tuple_hash_1 _;show af _ _ (ck (.ref a)>>=_) _ _ s;refine hV<|wpAny_tupleItemsOf U Z ?_;refine hV ?_;rw[<-Ei]
   refine zb _
    (λjl (b:Array Int) G=> ∃done left,l=done++left/\Jf X H (λa=>O a) left jl/\b.toList=done.map D.hash/\ ∃j,s.toks<=j/\G={s with toks:=j})
    _ ?_ ?_ _ _ ⟨[],l,rfl,⟨xs,r,by simpa using vs⟩,rfl,s.toks,jM _,rfl⟩
   .rintro x jl b G ⟨done,left,rfl,L,C',j,p,rfl⟩;obtain⟨d,left,rfl⟩:=L.cons_of;obtain⟨⟨y,h1,Y⟩,M⟩:=L.cons;have N:d∈done++d::left:=by simp
    have cz:=Cv N;refine hV<|ih (I.kept (h':=s.heap) (t':=j) λ_ _ e=>e) d y x O A.in1 E _ h1 Y (Pd m N) (by lia) (by show A.units+1+n<aS;lia) λJ k=>?_
    first
     |exact iw ⟨done++[d],left,by simp,M,by simp[C'],J,kW p k,rfl⟩
     |exact hV<|iw<|iw ⟨done++[d],left,by simp,M,by simp[C'],J,kW p k,rfl⟩
   .rintro b G ⟨done,left,rfl,L,C',j,p,rfl⟩;have:=L.nil_of;subst this;have h:=z (j+1)<|kA p;rw[D.hash,D.L0,xH] at h;show af _ _ (retInt<|aY b.toList) _ _ _;rw[C'];refine wpAny_ret_mkInt ?_;show af _ _ (if(decide (-(2:Int)^63<=aY (done.map D.hash))&&decide (aY (done.map D.hash)<2^63))=K0 then _ else _) Q E _;unfold reduceHash at h;by_cases c:(decide (-(2:Int)^63<=aY (done.map D.hash))&&decide (aY (done.map D.hash)<2^63))=K0
    .rw[iz c];rw[iz c] at h;exact iw h
    .rw[iG c];rw[iG c] at h;exact hV<|uf<|iw h
  |_=>simp[D.pr] at m
def QM{P:iL}{W:iD}{F:Nat->ir->da Bool}{c:Bool}(I:Inv X f g H s)(p: ∀n i t,F n (.int i t)=pure c)
  (N: ∀(n:Nat) (a:hJ) (o:eE) (b:jr) (m:Nat) (A:iE) (E:iY) (Q:vS),s.heap.get? a=Y o->s.TypeIs (.ref a) "tuple"->o.data= .seq b.toArray m->
   (∀u∈b,∀Q:Bool->ie->Prop,Q c s->af (aj P W) A (F n u) Q E s)->Q c s->af (aj P W) A (F (n+1)<|.ref a) Q E s): ∀(n:Nat) (d:D) (v:V) (u:ir) (O:SI) (A:iE) (E:iY) (Q:vS),Rep X.K H O d v->RelV v u->D.pr d=K0->d.dep<=n->Q c s->af (aj P W) A (F n u) Q E s:=by
 intro n
 induction n with
 |zero=>
  intro d v u O A E Q j k e hd h
  cases d with
  |int i=>have:=j.int;subst this;obtain⟨t,rfl⟩:=k;exact vV (p _ _ _) h
  |tup l=>rw[D.dep] at hd;lia
  |_=>simp[D.pr] at e
 |succ n Y'=>
  intro d v u O A E Q j k e hd h
  cases d with
  |int i=>have:=j.int;subst this;obtain⟨t,rfl⟩:=k;exact vV (p _ _ _) h
  |tup l=>rw[D.pr] at e;rw[D.dep] at hd;obtain⟨a,T,rfl,q,r⟩:=j.tup;cases k;obtain⟨b,C,⟨o,z,G,m,R⟩,_⟩:=I.tuple q.sq;refine N n a o b m A E Q z ⟨o,z,G⟩ R (λu U Q M=>?_) h;obtain⟨i,x⟩:=sP U;have l1:=C.length;have l2:=r.length;have Z:=(wa.mp x).1;have B:T[i]?=Y T[i]:=jg (by lia);have J:l[i]?=Y l[i]:=jg (by lia);obtain⟨w,L,S⟩:=C.get B;rw[x] at L;cases L;have y:l[i]∈l:=yU _;have cz:=Cv y;exact Y' _ _ _ O A E Q (r.views J B) S (Pd e y) (by lia) M
  |_=>simp[D.pr] at e
def aaz(U:Inv X f g H s):=QM (P:=X.prog) (W:=X.w) (F:=fF) (c:=J) U (λn i t=>by simp[fF]) λn a o b r A E Q m l q p k=>by
 unfold fF;refine hV<|wB l J6.lookup ?_;dsimp only;refine hV<|Ez m q ?_;refine hV ?_;show af _ _ (forIn b.toArray _ _) _ _ s;rw[<-Ei];refine zb _ (λjl j e=>j.1=I/\e=s/\ ∀u∈jl,u∈b) _ ?_ ?_ _ _ ⟨rfl,rfl,by simp⟩
 .rintro x jl j e ⟨d,rfl,hm⟩;refine hV<|p x (hm x jc) _ ?_;simp -iota only[qO,jy,jS];exact iw ⟨rfl,rfl,λu h=>hm u<|ji _ h⟩
 .rintro⟨v,y⟩ e ⟨d,rfl,_⟩;simp only at d;subst d;exact iw k
def SY{P:iL}{W:iD}(U:Inv X f g H s):=QM (P:=P) (W:=W) (F:=p6) (c:=J) U (λn i t=>eqIsQuiet_byValue n K3) λn a o b r A E Q m j q p l=>by
 unfold p6;refine hV<|wB j PySem.F.slot_tuple_eq.lookup ?_;show af _ _ (isInstance (.ref a) (.type "tuple")>>=_) _ _ s;refine hV<|A5 j isSubtype_tuple_tuple ?_;simp -iota only[qO,jy,jS];refine hV<|Ez m q ?_;refine hV ?_;show af _ _ (forIn b.toArray _ _) _ _ s;rw[<-Ei];refine zb _ (λjl k e=>k.1=I/\e=s/\ ∀u∈jl,u∈b) _ ?_ ?_ _ _ ⟨rfl,rfl,by simp⟩
 .rintro x jl k e ⟨d,rfl,hm⟩;refine hV<|p x (hm x jc) _ ?_;simp -iota only[qO,jy,jS];exact iw ⟨rfl,rfl,λu h=>hm u<|ji _ h⟩
 .rintro⟨v,w⟩ e ⟨d,rfl,_⟩;simp only at d;subst d;exact iw l
def afD{P:iL}{W:iD}(U:Inv X f g H s):=QM (P:=P) (W:=W) (F:=dc) (c:=C) U (λn i t=>by simp[dc]) λn a o b r A E Q m l q p k=>by
 unfold dc;refine hV<|wU l ?_;dsimp only;rw[iz<|by decide];refine hV<|iw ?_;simp -iota only[qO,jy,jS];refine hV<|Ez m q ?_;dsimp only;refine hV ?_;show af _ _ (forIn b.toArray _ _) _ _ s;rw[<-Ei];refine zb _ (λjl j e=>j.1=I/\e=s/\ ∀u∈jl,u∈b) _ ?_ ?_ _ _ ⟨rfl,rfl,by simp⟩
 .rintro x jl j e ⟨d,rfl,hm⟩;refine hV<|p x (hm x jc) _ ?_;simp -iota only[jy,jS];exact iw ⟨rfl,rfl,λu h=>hm u<|ji _ h⟩
 .rintro⟨v,w⟩ e ⟨d,rfl,_⟩;simp only at d;subst d;exact iw k
end
end PX
namespace TT
open PySem.SeqAt
def ads:la vr "set.__iter__"=Y bb.«frozenset.__iter__»:=v9 (id':="frozenset.__iter__") (by kernel_rfl) H (by decide+kernel) (by kernel_rfl)
def oB:Slot "set_iterator" "__next__" "set_iterator.__next__":= .of (owner:="set_iterator") (n:="__next__") (by rw[s9,Nu];kernel_rfl) (by decide+kernel) (by decide+kernel) (by decide+kernel) (by first|exact .inl (by decide+kernel)|exact .inr<|by decide+kernel) (by rw[HL];kernel_rfl)
def xY:Slot "set_iterator" "__iter__" "set_iterator.__iter__":= .of (owner:="set_iterator") (n:="__iter__") (by rw[s9,Nu];kernel_rfl) (by decide+kernel) (by decide+kernel) (by decide+kernel) (by first|exact .inl (by decide+kernel)|exact .inr<|by decide+kernel) (by rw[HL];kernel_rfl)
def wq:la vr "set_iterator.__next__"=Y bb.«set_iterator.__next__»:=entryFor_of_fast (by kernel_rfl)
def adx:la vr "set_iterator.__iter__"=Y bb.«dict_keyiterator.__iter__»:=v9 (id':="dict_keyiterator.__iter__") (by kernel_rfl) H (by decide+kernel) (by kernel_rfl)
def yN(a:ir):f5 "set_iterator.__next__" ⟨[a],[]⟩:=by unfold f5;kernel_rfl
def adI(a:ir):f5 "set_iterator.__iter__" ⟨[a],[]⟩:=by unfold f5;kernel_rfl
theorem tj{a:Type}: ∀(l:List a) {i:Nat} (h:i<Ls l),(l[i]::l.eraseIdx i).Perm l
 |x::l,0,_=>by simp
 |x::l,i+1,h=>by have:=tj l (i:=i) (by simpa using h);simp only[List.getElem_cons_succ,fO];exact(gl x _ _).trans (gm x this)
def adB{c:Type}(next:Nat->Nat): ∀(a k:Nat) (left:List c) (out:Array c),Ls left<=a->(pickOrder.go next a k left out).toList.Perm (out.toList++left):=by
 intro e
 induction e with
 |zero=>intro k left out h;have:left=[]:=M4.mp (by lia);subst this;unfold pickOrder.go;simp
 |succ a d=>
  intro k left out h;unfold pickOrder.go
  cases left with
  |nil=>simp
  |cons y l=>have b:next k%(y::l).length<(y::l).length:=yX _ (by simp);rw[jg b];dsimp only;refine(d (k+1) _ _ (by rw[Eh,iz b];simp at h ⊢;lia)).trans ?_;rw[eu,oT];refine Nt _ ?_;exact tj _ b
def ac2{b:Type}(next:Nat->Nat)(a:Array b):(fB next a).toList.Perm a.toList:=by unfold fB;have:=adB next a.size 0 a.toList #[] (by simp);simpa using this
noncomputable def oX(w:iD)(a:hJ)(n:Nat)(b:vM):Array (Int×ir):=if w.params.followText "set-order"=J then fB (w.params.setOrder a n) b else b
def Hr(w:iD)(a:hJ)(n:Nat)(b:vM):(oX w a n b).toList.Perm b.toList:=by
 unfold oX;split
 .exact ac2 _ _
 .exact wI _
def pG(w:iD)(a:hJ)(n:Nat)(b:vM):(oX w a n b).size=b.size:=by rw[<-kL,(Hr w a n b).length_eq,kL]
noncomputable def Km(t:mB):Nat->Nat
 |0=>0
 |i+1=>t.place.getD i 0+1
def mx(w:iD)(t:mB)(i:Nat):Nat:=if w.params.followText "set-order"=J then 0 else Km t i
structure BR(w:iD)(h:iK)(a:hJ)(es:vM)(n:Nat)(t:mB):Prop where
 at_:h.get? a=J4 (jI es n t)
 tab:Av (es.toList.map (·.1)) t
 plain:t.plain=K0
 led:t.led=!w.params.followText "set-order"
def CD(w:iD)(h:iK)(it a:hJ)(t:mB)(size n i:Nat):Prop:= ∃o,h.get? it=Y o/\o.cls= .type "set_iterator"/\o.data= .fields #[.int (mx w t i) 0,.int i 0,.ref a,.int size 0,.int n 0]
section
variable {c:iL}{w:iD}{A:iE}{E:iY}{s:ie}
def BR.fits{h a b n t}(S:BR w h a b n t):t.fits b.size=J:=Lk S.tab (by simp)
def aeb(d:t.place.toList.Pairwise (· < ·))(l:i<=t.place.size):au t.place (Km t i)=i:=by
 cases i with
 |zero=>
  obtain⟨h1,a,_⟩:=qe d 0
  cases h:au t.place 0 with
  |zero=>exact h
  |succ k=>
   have j:0<t.place.size:=by lia
   have:=a 0 _ (by lia) (qk j)
   lia
 |succ i=>
  have hd:t.place.getD i 0=t.place[i]:=by simp[fm,show i<t.place.size by lia]
  show au t.place (t.place.getD i 0+1)=i+1;rw[hd];have f:t.place[i]?=Y t.place[i]:=qk (by lia);obtain⟨h1,a,g⟩:=qe d<|t.place[i]+1;by_cases m:au t.place (t.place[i]+1)<i+1
  .have:=g i _ (by lia) f;lia
  .by_cases b:i+1<au t.place (t.place[i]+1)
   .have e:t.place[i+1]?=Y t.place[i+1]:=qk (by lia);have:=a (i+1) _ b e;have:=E6 d (EB i) f e
    lia
   .lia
def Bs{a:hJ}{b:vM}{n:Nat}{t:mB}(S:BR w s.heap a b n t){i:Nat}(r:i<=b.size){Q:Option (ir×Nat)->ie->Prop}
  (h1: ∀e,(oX w a n b)[i]?=Y e->Q (Y (e.2,mx w t<|i+1)) s)(j:i=b.size->Q I s):af (aj c w) A (setNext a (mx w t i) i n) Q E s:=by
 have q:=S.tab.len;rw[jf,kL] at q;unfold setNext;refine hV<|tL S.at_ H S.fits ?_;dsimp only;unfold fU;refine hV<|hV<|ug<|iw ?_;by_cases d:w.params.followText "set-order"=J
 .have g:(aj c w).w.params.followText "set-order"=J:=d;rw[iz g,iG<|by simp];unfold setWalk fU;refine hV<|hV<|tL S.at_ H S.fits ?_;dsimp only;refine hV<|hV<|ug<|iw ?_;rw[iz g];refine hV<|ug<|iw<|iw ?_;have h:oX w a n b=fB (w.params.setOrder a n) b:=by unfold oX;rw[iz d]
  have f: ∀k,mx w t k=0:=λk=>by unfold mx;rw[iz d]
  show Q (((fB (w.params.setOrder a n) b)[i]?).map λe=>(e.2,mx w t i)) s;rw[<-h];rw[f] at h1;rw[f]
  cases l:(oX w a n b)[i]? with
  |some e=>exact h1 e l
  |none=>have:=VW.mp l;rw[pG] at this;exact j (by lia)
 .have g: ¬(aj c w).w.params.followText "set-order"=J:=d;rw[iG g];change af _ _ (if(!t.plain&&decide (b.size>1))=J then _ else _) _ _ _;rw[iG<|by rw[S.plain];simp];have o:t.led=J:=by rw[S.led];simpa using d
  refine hV ?_;change af _ _ (if(!t.led&&!b.isEmpty)=J then _ else _) _ _ _;rw[iG<|by rw[o];simp];refine iw ?_;have h:oX w a n b=b:=by unfold oX;rw[iG d]
  have f: ∀k,mx w t k=Km t k:=λk=>by unfold mx;rw[iG d]
  have m:au t.place (mx w t i)=i:=by rw[f];exact aeb S.tab.ris (by lia)
  rw[m];rw[h] at h1;by_cases p:i<b.size
  .have g1:b[i]?=Y b[i]:=qk p;have g2:t.place[i]?=Y t.place[i]:=qk (by lia);rw[g1,g2];have:=h1 b[i] g1;rw[f] at this;rw[show Km t (i+1)=t.place.getD i 0+1 from H] at this;have hd:t.place.getD i 0=t.place[i]:=by simp[fm,show i<t.place.size by lia]
   rw[hd] at this;exact iw this
  .rw[Ek<|by lia];exact iw<|j (by lia)
def BR.typeIs{a b n t}(S:BR w s.heap a b n t):s.TypeIs (.ref a) "set":=⟨_,S.at_,rfl⟩
def CD.typeIs{it a t z n i}(S:CD w s.heap it a t z n i):s.TypeIs (.ref it) "set_iterator":=let⟨o,d,b,_⟩:=S;⟨o,d,b⟩
def QD(S:BR w s.heap a f n t) 
  (g: ∀d,CD w d s.heap.objs.size a t f.size n 0->(∀b o,s.heap.get? b=Y o->d.get? b=Y o)->d.objs.size=s.heap.objs.size+1->Q (.ref s.heap.objs.size) {s with heap:=d}):
  af (aj c w) A (c1<|.ref a) Q E s:=by
 refine HK S.typeIs Nr<|oo Nr S.typeIs ads ?_<|PySem.F.args_set_iter_1 _;unfold bb.«frozenset.__iter__» lm k7;simp -iota only[wA,qO,jy,↓reduceIte,tN,rK,vW];unfold bO lr;refine hV<|iw ?_;dsimp only;refine hV<|iw ?_;refine hV<|hV<|HJ S.at_ H S.fits<|iw ?_;unfold setDrawn fU;refine hV<|hV<|tL S.at_ H S.fits ?_;dsimp only;refine hV<|hV<|ug<|iw ?_;refine iw ?_;change af _ _ (if(!w.params.followText "set-order"&&(!t.plain&&decide (f.size>1)))=J then _ else _) _ _ _;rw[iG<|by rw[S.plain];simp];refine hV<|iw ?_;unfold setEpoch;refine hV<|hV<|tL S.at_ H S.fits<|iw ?_;refine hV<|om<|iw ⟨_,rfl,"set_iterator",_,⟨_,km _ rfl,rfl⟩,oB.lookup,?_⟩;refine g _ ⟨_,km _ rfl,rfl,?_⟩ (λb o e=>jU _ e) (vX _ _);have:mx w t 0=0:=by unfold mx;split<;>rfl
 rw[this];rfl
def adi{it a:hJ}{b:vM}{n:Nat}{t:mB}(S:BR w s.heap a b n t){i:Nat}(f:CD w s.heap it a t b.size n i)(x:it≠a){e:Int×ir}(h:(oX w a n b)[i]?=Y e){Q:J5}
  (p: ∀d,CD w d it a t b.size n (i+1)->aM it s.heap d->Q (Y e.2) {s with heap:=d}):af (aj c w) A (b9<|.ref it) Q E s:=by
 obtain⟨o,g,q,hd⟩:=id f;have r:i<b.size:=by have:=(R7.mp h).1;rw[pG] at this;exact this
 unfold b9;refine hV<|ud<|xF (name:=bn "__next__") f.typeIs oB<|oo oB f.typeIs wq ?_<|yN _;unfold bb.«set_iterator.__next__» k7;simp only[wA,qO,jy,↓reduceIte,tN,rK,vW];refine hV<|iw ?_;unfold fieldsOf;simp only[tN];refine hV<|Bg g ?_;rw[hd];refine hV<|iw ?_;dsimp only;refine hV<|HJ S.at_ H S.fits ?_;rw[iG<|by simp];have h1:((mx w t i:Nat):Int).toNat=mx w t i:=tQ _;have l:((i:Nat):Int).toNat=i:=tQ _;have m:((n:Nat):Int).toNat=n:=tQ _;rw[h1,l,m];refine hV (Bs S (uk r) (λv k=>?_) λz=>by lia);rw[h] at k;cases k;dsimp only;refine hV<|wN g hd (by simp) ?_;have j:=uj (fL λu=>u.setIfInBounds 0<|dA<|mx w t<|i+1) g<|Ey<|vU hd _;refine hV<|wN j (vU hd _) (by simp)<|iw ⟨_,rfl,iw<|p _ ?_ ((sN ..).trans (sN ..))⟩;refine⟨_,uj _ j (Ey<|vU (vU hd _) _),?_,?_⟩
 .rw[Ex,Ex];exact q
 .rw[vU<|vU hd _];simp[dA]
def adO(k:A.handled=I)(S:BR w s.heap a d n t)(e:CD w s.heap it a t d.size n d.size)(r:it≠a) 
  (j: ∀f,dP it s.heap f->Q I {s with heap:=f}):af (aj c w) A (b9<|.ref it) Q E s:=by
 obtain⟨o,g,q,hd⟩:=id e;unfold b9;refine hV<|ud<|xF (name:=bn "__next__") e.typeIs oB<|oo oB e.typeIs wq ?_<|yN _;unfold bb.«set_iterator.__next__» k7;simp only[wA,qO,jy,↓reduceIte,tN,rK,vW];refine hV<|iw ?_;unfold fieldsOf;simp only[tN];refine hV<|Bg g ?_;rw[hd];refine hV<|iw ?_;dsimp only;refine hV<|HJ S.at_ H S.fits ?_;rw[iG<|by simp];have h1:((mx w t d.size:Nat):Int).toNat=mx w t d.size:=tQ _;have h:((d.size:Nat):Int).toNat=d.size:=tQ _;have i:((n:Nat):Int).toNat=n:=tQ _;rw[h1,h,i];refine hV<|Bs S (jM _) (λp l=>?_) λ_=>?_
 .have:=(R7.mp l).1;rw[pG] at this;omega
 dsimp only;refine hV<|wN g hd (by simp) ?_;show af _ _ (hZ (.type "StopIteration") []>>=_) _ _ _;refine hV ?_;simp -iota only[hZ,k9];refine hV<|om ?_ (by size_fits);refine hV (m:=cn _ _)<|vV (a:=av) (by first|rfl|(simp -iota only[cn];rfl)) ?_;refine om ?_ (by size_fits);simp -iota only[vu];refine hV<|Ig ?_;rw[show A.in1.handled=I from k];refine hV<|iw<|Ie ?_;refine hV<|A5 (T:="StopIteration") (b:=J) ⟨_,km _ rfl,rfl⟩ Ib ?_;exact iw<|j _ (((sN ..).extBut.push _).push _)
def afL(b:CD w s.heap it a t z n i)(d:Q (.ref it) s):af (aj c w) A (c1<|.ref it) Q E s:=by refine HK b.typeIs xY<|oo xY b.typeIs adx ?_<|adI _;unfold bb.«dict_keyiterator.__iter__» k7;simp -iota only[wA,qO,jy,↓reduceIte,tN,rK,vW];exact hV<|iw<|iw ⟨_,rfl,"set_iterator",_,b.typeIs,oB.lookup,d⟩
def BR.Aw{a b n t}(S:BR w h a b n t)(k: ∀o,h.get? a=Y o->d.get? a=Y o):BR w d a b n t:=⟨k _ S.at_,S.tab,S.plain,S.led⟩
def aeP(q:A.handled=I)(U a:hJ)(k:U≠a)(d:vM)(n:Nat)(t:mB):
  wr c w A U [U,a] [U] d.size (λi v=> ∃e,(oX w a n d)[i]?=Y e/\v=e.2) (λi h=>CD w h U a t d.size n i/\BR w h a d n t) where
 sub:=λb f=>by simp at f;simp[f]
 frame:=λ_ _ _ st hk=>⟨(by obtain⟨o,h1,p⟩:=st.1;exact⟨o,hk U (by simp) o h1,p⟩),st.2.Aw λo e=>hk a (by simp) o e⟩
 item:=λi s Q E r st g=>by
  have u:i<(oX w a n d).size:=by rw[pG];exact r
  have m:(oX w a n d)[i]?=Y (oX w a n d)[i]:=qk u;refine adi st.2 st.1 k m λj y l=>?_;exact g _ j s.toks ⟨_,m,rfl⟩ ⟨y,st.2.Aw λo e=>l.extBut a o (λh=>k h.symm) e⟩ λb o f e=>l.extBut b o (λh=>f<|by simp[h]) e
 done:=λs Q E st g=>adO q st.2 st.1 k λj x=>g j s.toks λb o f e=>x b o (λh=>f<|by simp[h]) e
 self:=λ_ _ _ _ st g=>afL st.1 g
def Ak{T id:String}{N:Nat}{B:jr}{M:Nat->ir->Prop}{ST:Nat->iK->Prop}(n:T="set"/\id="set.__len__"\/T="dict"/\id="dict.__len__")(bC:a<s.heap.objs.size)(ty: ∀k:ie,(∀o,s.heap.get? a=Y o->k.heap.get? a=Y o)->k.TypeIs (.ref a) T)
  (W:wr c w A.in1 (s.heap.objs.size+1) [s.heap.objs.size+1,a] [s.heap.objs.size+1] N M ST)(hn:N<=sizeLine)(hv: ∀i v,M i v->B[i]?=Y v)(hl:(Ls B)=N)
  (I: ∀(l:eE) (J:iY),(∀q,ST 0 q->(∀b o,(s.heap.push l).get? b=Y o->q.get? b=Y o)->J (.ref<|s.heap.objs.size+1) {s with heap:=q})->af (aj c w) A.in1 (c1<|.ref a) J E {s with heap:=s.heap.push l})
  (hQ: ∀x tk,(∀b o,s.heap.get? b=Y o->x.get? b=Y o)->Q B {s with heap:=x,toks:=tk}):af (aj c w) A (eV<|.ref a) Q E s:=by
 have C':a≠s.heap.objs.size:=kd bC;have u:s.heap.objs.size≠s.heap.objs.size+1:=kd<|EB _;unfold eV;refine hV<|Ih<|sO PySem.F.entry_proto_collect ?_;rw[rM PySem.F.plain_proto_collect _];show af _ A.in1 (o8 []>>=λl=>again<|.builtin "list.__iadd__" ⟨[l,.ref a],[]⟩) _ _ s;refine hV<|om ?_;refine iw ⟨wO Nq _,sO PySem.F.entry_list_iadd ?_⟩;rw[rM Nq _];show af _ A.in1 (el (.ref s.heap.objs.size) (.ref a)<|.ref s.heap.objs.size) _ _ _;generalize t:({cls:= .type "list",data:= .seq ([]:List ir).toArray}:eE)=O;unfold el;refine hV<|wU (T:=T) (s:={s with heap:=s.heap.push O}) (ty _ λo e=>jU _ e) ?_;have h1:eA (.ref s.heap.objs.size) (.ref a)=C:=by simp only[eA,CZ];exact C'.symm
 have q:(ci T==ci "list")=C:=by rcases n with⟨rfl,_⟩|⟨rfl,_⟩<;>decide
 have h3:(ci T==ci "tuple")=C:=by rcases n with⟨rfl,_⟩|⟨rfl,_⟩<;>decide
 simp -iota only[h1,q,h3,n1,jy,jS];refine hV<|I O _ λh V L=>?_;have H:Shared.TypeIs {s with heap:=h} (.ref a) T:=ty _ λo e=>L _ _ (jU _ e);refine hV<|lz<|nI (Q:=λr k=>r=C/\k={s with heap:=h}) ?_ (λr k ⟨e1,e2⟩=>?_) λ_ _ z=>z
 .unfold tp;refine hV<|wB (s:={s with heap:=h}) H (r:=Y<|.builtin id) (by rcases n with⟨rfl,rfl⟩|⟨rfl,rfl⟩<;>first|exact PySem.F.slot_set_len.lookup|exact PySem.F.slot_dict_len.lookup) ?_;dsimp only;rw[show splitId id=Y (T,"__len__") from by rcases n with⟨rfl,rfl⟩|⟨rfl,rfl⟩<;>decide+kernel];dsimp only;refine hV<|A5 (s:={s with heap:=h}) (b:=K0) H (by rw[HL];rcases n with⟨rfl,_⟩|⟨rfl,_⟩<;>kernel_rfl) ?_;simp -iota only[qO,jy,jS];change af _ _ (if _=K0 then _ else _) _ _ _;rw[iz (by rcases n with⟨_,rfl⟩|⟨_,rfl⟩<;>decide+kernel)];refine hV<|wU (s:={s with heap:=h}) H ?_;dsimp only;exact iw ⟨rfl,rfl⟩
 subst e1 e2;change af _ _ (if _=K0 then _ else _) _ _ _;rw[iz (by rcases n with⟨rfl,_⟩|⟨rfl,_⟩<;>decide+kernel)];refine hV<|uf ?_;have d:h.get? s.heap.objs.size=Y O:=L _ _ (km _ (by subst t;rfl));subst t;refine hV ?_;show af _ A.in1 (updateSeq s.heap.objs.size (·.push .none)>>=λ_=>updateSeq s.heap.objs.size (·.pop)) _ _ _;refine hV<|sK (s:={s with heap:=h}) d K3 ?_;have f:=uj (aO (·.push av)) d K3;refine sK f K3 ?_;have m:=uj (aO (·.pop)) f K3
 have R1: ∀b o,b≠s.heap.objs.size->h.get? b=Y o->((h.update s.heap.objs.size (aO (·.push av))).update s.heap.objs.size (aO (·.pop))).get? b=Y o:=
  λb o g e=>(EE _ _ (tX g)).trans<|(EE _ _ (tX g)).trans e
 refine iw ⟨wO PySem.F.plain_extend_loop _,?_⟩;refine codeAny_extend_loopS W.toS hn s.heap.objs.size (by simp -iota only[mz,ql,or_false,not_or];exact⟨u,C'.symm⟩) _ N 0 _ _ _ rfl (lP _) (W.frame _ _ _ V λb g o e=>R1 b o (by simp at g;rcases g with rfl|rfl<;>first|exact u.symm|exact C') e) m (ItemsOf.nil _) λk G c' y Y' o9=>?_;show af _ A (load s.heap.objs.size>>=_) _ _ k;refine hV<|Bg Y' ?_;obtain⟨x,Z,K,D,P⟩:=k;have S:Z=s.gens:=y.gens;have R:K=s.drawn:=y.drawn;have X:P=s.os:=y.os;subst S;subst R;subst X
 have p:G.toList=B:=by
  obtain⟨a1,U⟩:=o9;refine wQ λj=>?_;rw[lK]
  cases e:G[j]? with
  |some v=>exact(hv j v<|U j v e).symm
  |none=>rw[YG.mpr];rw[hl,<-a1];exact VW.mp e
 refine iw ?_;show Q G.toList _;rw[p];refine hQ x D λb o e=>?_;have g:=jW e;exact y.heap b o (by simp -iota only[mz,ql,or_false,not_or];exact⟨kd g,kd<|rO g⟩)<|R1 b o (kd g)<|L _ _ (jU _ e)
def UD(u:A.handled=I)(S:BR w s.heap a d n t)(x:d.size<=sizeLine) 
  (q: ∀j y,(∀b o,s.heap.get? b=Y o->j.get? b=Y o)->Q ((oX w a n d).toList.map (·.2)) {s with heap:=j,toks:=y}):af (aj c w) A (eV<|.ref a) Q E s:=by
 have g:a<s.heap.objs.size:=jW S.at_;refine Ak (.inl ⟨rfl,rfl⟩) g (λB k=>(S.Aw k).typeIs) (aeP (by show A.handled=I;exact u) (s.heap.objs.size+1) a (sV<|rO g) d n t) x (λi v ⟨e,r,hv⟩=>?_) (by rw[jf,kL,pG]) (λl z k=>?_) q
 .rw[kl,lK,r,hv];rfl
 .have f:BR w (s.heap.push l) a d n t:=S.Aw λo e=>jU _ e;refine QD (s:={s with heap:=s.heap.push l}) f λp h m _=>?_;rw[show(s.heap.push l).objs.size=s.heap.objs.size+1 from vX _ _] at h ⊢;exact k p ⟨h,f.Aw λo e=>m _ _ e⟩ m
end
section
variable {a:iL}{w:iD}{A:iE}{R:i5->ie->Prop}{I:hJ}{d c:ki}{G:Array fe->Array fe->Prop}{n:Nat}{P:Nat->ir->Prop}{St:Nat->ie->Prop}
def afQ(W:WalksS a w A.in1 I d c G n P St)(S:hJ)(O:S∉d)(s0:ie)(j:Nat->iK->Prop)(Aw: ∀i h g,j i h->(∀o,h.get? S=Y o->g.get? S=Y o)->j i g)
  (step: ∀i v (f:ie) (Q:vS) (E:iY),i<n->P i v->j i f.heap->IR (S::c) G s0 f->(∀r g H',f.toks<=H'->aM S f.heap g->j (i+1) g->Q r {f with heap:=g,toks:=H'})->af (aj a w) A.in1 (nf S v) Q E f):
  ∀(k i:Nat) (s:ie),n-i=k->i<=n->St i s->j i s.heap->IR (S::c) G s0 s->(∀f,IR (S::c) G s0 f->j n f.heap->R (.ok<|.ret .none) f)->
   b8 (aj a w) A (.builtin "set.update.loop" ⟨[.ref S,.ref I],[]⟩) R s:=by
 have l:S∉c:=λh=>O<|W.sub _ h;have J: ∀b∈c,b∈S::c:=λb m=>ji _ m;intro k
 induction k with
 |zero=>
  intro i s hk U C x t u;have z:i=n:=by lia
  subst z;refine sO Np ?_;rw[rM HI _];show af _ A.in1 (b9 (.ref I)>>=_) _ _ s;refine hV<|W.done s _ _ C λf p=>?_;show af _ A.in1 (ret av) _ _ f;exact iw<|u f (Moved.trans W.gtrans t<|p.mono J)<|Aw _ _ _ x λo e=>p.heap S o l e
 |succ k Y'=>
  intro i s hk U C x t u;have B:i<n:=by lia
  refine sO Np ?_;rw[rM HI _];show af _ A.in1 (b9 (.ref I)>>=_) _ _ s;refine hV<|W.item i s _ _ B C λv f N q p=>?_;have T:=Moved.trans W.gtrans t<|p.mono J;show af _ A.in1 (bV [v] (nf S v)>>=_) _ _ f;refine hV<|lz<|step i v f _ _ B N (Aw _ _ _ x λo e=>p.heap S o l e) T λr g H' L M y=>?_;refine iw ⟨wO HI _,Y' (i+1) _ (by lia) B (W.frame _ f _ _ q L λb m o e=>?_) y (T.then_heap L λb o m e=>?_) u⟩
  .rw[M.2 b λh:b=S=>O<|by rw[<-h];exact m];exact e
  .rw[M.2 b λh:b=S=>m<|by rw[h];exact jc];exact e
end
section
variable {f:iL}{w:iD}{A:iE}{E:iY}{s:ie}
def T8(a:ir)(h:Q₁ (.ref s.heap.objs.size) {s with heap:=s.heap.push (jI #[] 0 (.fresh 0 0 (!w.params.followText "set-order")))}):
  b8 (aj f w) A (.call (.builtin "set.__new__") ⟨[.type "set",a],[]⟩) (k5 Q₁ E) s:=by
 refine ue ?_;show af _ A.in1 (do cI "set.__new__" ⟨[.type "set",a],[]⟩;again (.builtin "set.__new__" ⟨[.type "set",a],[]⟩)) _ _ s;refine hV<|vV (PySem.F.newCall_set_1 a)<|iw ⟨wO Eg _,sO Nn ?_⟩;rw[rM Eg _];unfold bb.«set.__new__» dN;have c:=A2;obtain⟨b,g,d,e,os⟩:=s;dsimp only
 wp_walk
 refine ug<|iw ?_;dsimp only;simp only[newObj];refine hV<|Ba<|iw ?_;exact iw h
noncomputable abbrev kK(w:iD):SetTable:= .fresh 0 0 (!w.params.followText "set-order")
def YL{h:iK}{a:hJ}(e:h.get? a=Y (jI #[] 0 (kK w))):BR w h a #[] 0 (kK w):=⟨e,Av.fresh _ _ _,rfl,rfl⟩
set_option maxHeartbeats 8000000 in
def YM{l:hJ}{items:oA}{Q:iY}(hh:A.handled=KE)(m:s.heap.IsList l items\/s.heap.IsTuple l items)(k:Nat->iK->Prop)
  (Aw: ∀i h a,k i h->(∀o,h.get? s.heap.objs.size=J4 o->a.get? s.heap.objs.size=J4 o)->k i a)
  (qo: ∀a,a.get? s.heap.objs.size=J4 (jI #[] 0 (kK w))->k 0 a)
  (step: ∀i v (d:ie) (B:iE) (Q:vS) (E:iY),B.units<=A.units+20->items[i]?=J4 v->k i d.heap->(∀b o,s.heap.get? b=J4 o->d.heap.get? b=J4 o)->d.gens=s.gens->d.drawn=s.drawn->d.os=s.os->
   (∀r a x,d.toks<=x->aM s.heap.objs.size d.heap a->k (i+1) a->Q r {d with heap:=a,toks:=x})->af (aj f w) B (nf s.heap.objs.size v) Q E d)
  (h: ∀(a:iK) (x:Nat),k items.size a->(∀b o,s.heap.get? b=J4 o->a.get? b=J4 o)->Q (.ref s.heap.objs.size) {s with heap:=a,toks:=x}):
  af (aj f w) A (call (.type "set") [.ref l]) Q E s:=by
 obtain⟨c,tl,P⟩:=F4.mro;have M:=F4.made;have q9:=F4.sub;refine zk<|ue ?_;show af _ _ (Ch (.type "set") _) _ _ _;refine iw ⟨Ia _ (by decide+kernel),sO Nm ?_⟩;rw[H9 (HZ "set" [.ref l] []) H];have h1:=F4.notType;have h2:=F4.canCreate;have cR:=PySem.F.typeCall_set_1<|.ref l
 repeat (any_goals (first|assumption|wp_step))
 refine qm (T8 (.ref l) (E:=E) (Q₁:=λH' q=>H'= .ref s.heap.objs.size/\q={s with heap:=s.heap.push (jI #[] 0 (kK w))}) ⟨rfl,rfl⟩) λr q N=>?_
 cases r with
 |error e=>exact N
 |ok fl=>
  cases fl with
  |ret H'=>
   obtain⟨rfl,rfl⟩:=N;have K:(s.heap.push<|jI #[] 0 (kK w)).get? s.heap.objs.size=J4 (jI #[] 0 (kK w)):=km _ rfl;have hT:Shared.TypeIs {s with heap:=s.heap.push (jI #[] 0 (kK w))} (.ref s.heap.objs.size) "set":=⟨_,K,rfl⟩
   have hli:=F4.init.lookup;have eQ:=F4.init.bind<|.ref s.heap.objs.size
   repeat (any_goals (first|assumption|wp_step))
   refine qm (Eu (R:=k5 (λr t=>r= .none/\ ∃a x,t={s with heap:=a,toks:=x}/\k items.size a/\(∀b o,s.heap.get? b=J4 o->a.get? b=J4 o)) E) F4.init.plain Nl<|check_set_init_1 hT ?_) λI t L=>?_
   .obtain⟨c,hc,ol,D,Z,nl,Y⟩: ∃c,(c="list"\/c="tuple")/\ ∃o,s.heap.get? l=J4 o/\o.cls= .type c/\ ∃n,o.data= .seq items n:=m.elim (λh=>⟨_,.inl H,h⟩) (λh=>⟨_,.inr H,h⟩)
    obtain⟨X,V,i6⟩:isSubtype (.type c) (.type "set")=pure K2/\isSubtype (.type c) (.type "frozenset")=pure K2/\(ci c==ci "dict")=K2:=by
     rcases hc with rfl|rfl
     .exact⟨PySem.F.sub_list_set,PySem.F.sub_list_frozenset,by decide⟩
     .exact⟨PySem.F.sub_tuple_set,PySem.F.sub_tuple_frozenset,by decide⟩
    obtain⟨ocls,u,U,j⟩:=ol;simp only at Z Y;subst Z;subst Y;have S:(s.heap.push<|jI #[] 0 (kK w)).get? l=J4 {cls:= .type c,dict:=u,data:= .seq items nl,slots:=j}:=jU _ D;have C:l<s.heap.objs.size:=jW D;have z:A.in1.in1.in1.handled=KE:=by simp[hh]
    have sz:(s.heap.push<|jI #[] 0 (kK w)).objs.size=s.heap.objs.size+1:=vX _ _;have p:l≠(s.heap.push<|jI #[] 0 (kK w)).objs.size:=by rw[sz];exact kd<|rO C
    have eU:s.heap.objs.size∉[(s.heap.push<|jI #[] 0 (kK w)).objs.size,l]:=by rw[sz];simp only[mz,ql,or_false,not_or];exact⟨kd<|EB _,sV C⟩
    obtain⟨St,W,o0,h0,T⟩: ∃St,wr f w A.in1.in1.in1 (s.heap.push<|jI #[] 0 (kK w)).objs.size [(s.heap.push<|jI #[] 0 (kK w)).objs.size,l] [(s.heap.push<|jI #[] 0 (kK w)).objs.size] items.size (λi v=>items[i]?=J4 v) St/\ ∃o0,St 0 ((s.heap.push<|jI #[] 0 (kK w)).push o0)/\
      ∀{A':iE} {Q:iY} {E},Q (.ref (s.heap.push<|jI #[] 0 (kK w)).objs.size) {s with heap:=(s.heap.push<|jI #[] 0 (kK w)).push o0}->af (aj f w) A' (c1<|.ref l) Q E {s with heap:=s.heap.push (jI #[] 0 (kK w))}:=by
     rcases m with m|m
     .exact⟨_,EA z _ l p items,_,⟨⟨_,km _ rfl,rfl,rfl⟩,(m.push _).push _⟩,λh=>Be (m.push _) h⟩
     .exact⟨_,Walks.tuple z _ l p items,_,⟨⟨_,km _ rfl,rfl,rfl⟩,(m.push _).push _⟩,λh=>IF (m.push _) h⟩
    unfold bb.«set.__init__» noKeywords li;generalize G:c1=PI
    wp_walk
    subst G;refine T ?_;refine hV<|Ih ?_;refine afQ W.toS s.heap.objs.size eU _ k Aw (λi v d Q' E' hi hP J g hk=>?_) (items.size-0) 0 _ (by lia) (lP _) h0 (qo _ (jU _ K)) (IR.refl λ_=>rfl) ?hR
    .refine step i v d _ Q' E' ?_ hP J (λb o e=>?_) g.gens g.drawn g.os hk
     .show A.units+1+1+1<=A.units+20;lia
     .have y:=jW e;exact g.heap b o (by rw[sz];simp only[mz,ql,or_false,not_or];exact⟨kd y,kd<|rO y⟩)<|jU _ (jU _ e)
    case hR=>intro d g O;obtain⟨a,g',d',cF,de⟩:=d;have eg:g'=s.gens:=g.gens;have ed:d'=s.drawn:=g.drawn;have eo:de=s.os:=g.os;subst eg;subst ed;subst eo;show af _ _ _ _ _ _;refine iw ?_;show af _ _ (ret av) _ _ _;refine iw ⟨rfl,a,cF,rfl,O,λb o e=>?_⟩;have y:=jW e;exact g.heap b o (by rw[sz];simp only[mz,ql,or_false,not_or];exact⟨kd y,kd<|rO y⟩)<|jU _ (jU _ e)
   .cases I with
    |error e=>exact L
    |ok dI=>
     cases dI with
     |ret r=>
      obtain⟨rfl,a,x,rfl,O,dy⟩:=L
      repeat (any_goals (first|assumption|wp_step))
      exact h _ _ O dy
     |_=>exact L.elim
  |_=>exact N.elim
end
end TT
namespace PX
open L2 PySem.SeqAt TS
def BJ:D->Bool
 | .tup l=>D.JJ l&&decide (D.OO l<=6)
 |_=>C
def qv(h:BJ d=J): ∃l,d= .tup l:=by cases d<;>first|exact⟨_,rfl⟩|(simp[BJ] at h)
def uA(h:BJ d=J):D.pr d=J:=by obtain⟨l,rfl⟩:=qv h;simp only[BJ,kU] at h;rw[D.pr];exact h.1
def rY(h:BJ d=J):d.dep<=7:=by obtain⟨l,rfl⟩:=qv h;simp -iota only[BJ,kU,pz] at h;rw[D.dep];lia
def sG(h1:D.pr x=J)(a:D.pr y=J):D.O1 x y=J↔x=y:=by
 rw[JP x y h1 a];constructor
 .intro h;exact uW x y h1 a (by simpa using h)
 .rintro rfl;rw[LD];rfl
def oz(a:List D)(d:D):List D:=if a.any (D.O1 · d)=J then a else a++[d]
def lY(l:List D):List D:=l.foldl oz []
def UW(h1:b.all BJ=J)(a:BJ d=J):(oz b d).all BJ=J:=by
 unfold oz;split
 .exact h1
 .rw[List.all_append,h1];simp[a]
def RU(a:List D)(d:D):(oz a d).length<=Ls a+1:=by unfold oz;split<;>simp
def mE{d i:Type}(f:d->i){g m:List i}(h:g.Perm m): ∀l:List d,m=l.map f-> ∃c:List d,c.Perm l/\g=c.map f:=by
 induction h with
 |nil=>
  intro l e;have:l=[]:=by simpa using e.symm
  subst this;exact⟨[],.refl _,rfl⟩
 |cons x _ n=>
  intro l e
  cases l with
  |nil=>simp at e
  |cons y l=>simp -iota only[jG,yT] at e;obtain⟨c,p,q⟩:=n l e.2;exact⟨y::c,p.cons y,by rw[q,e.1];rfl⟩
 |swap x y w=>
  intro l e
  cases l with
  |nil=>simp at e
  |cons a l=>
   cases l with
   |nil=>simp at e
   |cons b l=>simp -iota only[jG,yT] at e;exact⟨b::a::l,.swap a b l,by rw[e.1,e.2.1,e.2.2];rfl⟩
 |trans _ _ k j=>intro l e;obtain⟨o,s,u⟩:=j l e;obtain⟨r,t,v⟩:=k o u;exact⟨r,t.trans s,v⟩
def Ab{b d:Type}{F:b->d->Prop}{c m:List d}(h:c.Perm m): ∀{z:List b},Paired F z m-> ∃a:List b,Paired F a c/\a.Perm z:=by
 induction h with
 |nil=>intro z p;exact⟨z,p,.refl _⟩
 |cons x _ i=>
  intro z p
  cases p with
  |cons r t=>obtain⟨a,h1,g⟩:=i t;exact⟨_::a,.cons r h1,g.cons _⟩
 |swap x y s=>
  intro z p
  cases p with
  |cons r t=>
   cases t with
   |cons o t=>exact⟨_,.cons o<|.cons r t,.swap _ _ _⟩
 |trans _ _ f e=>intro z p;obtain⟨u,j,l⟩:=e p;obtain⟨q,k,n⟩:=f j;exact⟨q,k,n.trans l⟩
def YP.zip{K U}{O:SI}: ∀{l:List D} {b:List V},YP K U O l b-> ∀p∈l.zip b,Rep K U O p.1 p.2:=by
 intro f
 induction f with
 |nil=>intro b h p a;simp at a
 |cons d l e=>
  intro b h p a;rw[YP] at h;obtain⟨v,r,rfl,h1,c⟩:=h;rw[wK] at a;rcases mz.mp a with rfl|a
  .exact h1
  .exact e c p a
def YP.MU{K U}{O:SI}: ∀{l:List (D×V)},(∀p∈l,Rep K U O p.1 p.2)->YP K U O (l.map (·.1)) (l.map (·.2)):=by
 intro c
 induction c with
 |nil=>intro _;exact YP.nil
 |cons p l b=>intro h;exact YP.cons (h p jc)<|b λq a=>h q<|ji _ a
abbrev hv(p:D×V):Int×V:=(D.hash p.1,p.2)
theorem Bi: ∀(b:List D) (a:List V),(D.Fd b).zip a=(b.zip a).map hv
 |[],a=>by simp[D.Fd]
 |d::b,[]=>by simp
 |d::b,u::a=>by rw[D.Fd,wK,wK,jG,Bi b a]
section
variable {X:Cx}{pins:iX}{σ:L2.St}{H:Hp}{s:ie}
structure C4(X:Cx)(H:Hp)(O:SI)(h:iK)(a:hJ)(vs:List D)(es:vM)(n:Nat)(t:mB)(l:List (D×V)):Prop where
 is:TT.BR X.w h a es n t
 perm:(l.map (·.1)).Perm vs
 rep: ∀p∈l,Rep X.K H O p.1 p.2
 par:Paired (λ(z:Int×V) (e:Int×ir)=>z.1=e.1/\RelV z.2 e.2) (l.map hv) es.toList
def C4.Aw{a c b n t l}(S:C4 X H O h a c b n t l)(k: ∀o,h.get? a=Y o->d.get? a=Y o):C4 X H O d a c b n t l:=⟨S.is.Aw k,S.perm,S.rep,S.par⟩
def aeB{d c:Type}{F:d->c->Prop}{l:List d}{m:List c}(h:Paired F l m): ∀{i:Nat} {b:c},m[i]?=Y b-> ∃a,l[i]?=Y a/\F a b:=by
 induction h with
 |nil=>intro i b h;simp at h
 |cons r t f=>
  intro i b h
  cases i with
  |zero=>simp at h;subst h;exact⟨_,rfl,r⟩
  |succ i=>obtain⟨a,h1,e⟩:=f (i:=i) (b:=b) (by simpa using h);exact⟨a,by simpa using h1,e⟩
def aeA{a b:Type}{F:a->b->Prop}: ∀{l:List a} {m:List b},Paired F l m->Ls l=(Ls m):=um
def BF{l:List (Int×V)}{m:List (Int×ir)}(h:Paired (λ(z:Int×V) (e:Int×ir)=>z.1=e.1/\RelV z.2 e.2) l m):l.map (·.1)=m.map (·.1):=by
 induction h with
 |nil=>rfl
 |cons r t a=>rw[jG,jG,r.1,a]
def C4.OL(I:Inv X pins σ H s){O U:SI}{a:hJ}{vs:List D}{G n t l}(S:C4 X H O s.heap a vs G n t l)(hok:vs.all BJ=K0){d:D}{v:V}{u:ir}(hd:ky X.K H U d v)(ru:RelV v u)(N:BJ d=K0){A:iE}(hA:A.units+60<aS):
  ∃b,u= .ref b/\TT.L3 A s a G n t u d.hash (λi=>match l[i]? with|some p=>D.O1 p.1 d|none=>K2):=by
 obtain⟨ld,rfl⟩:=qv N;obtain⟨b,xs,rfl,q,r⟩:=lE hd;cases ru;have hdp:=rY N;have fM:=uA N;have h: ∀p∈l,BJ p.1=K0:=λp J=>kf.mp hok _ (S.perm.mem_iff.mp<|oR J)
 have at_: ∀(i:Nat) (e:Int×ir),G[i]?=J4 e-> ∃p,l[i]?=J4 p/\p∈l/\D.hash p.1=e.1/\RelV p.2 e.2:=λi e m=>by
  obtain⟨z,h1,f,C⟩:=aeB S.par (i:=i) (b:=e) (by rw[lK];exact m);rw[kl] at h1
  cases Z:l[i]? with
  |none=>rw[Z] at h1;cases h1
  |some p=>rw[Z] at h1;cases h1;exact⟨p,rfl,mq Z,f,C⟩
 have M: ∀(e:D) (y:V) (T:ir) (x:SI) (B:iE) (P:iL) (W:iD) (Q:vS) (E:iY),BJ e=K0->ky X.K H x e y->RelV y T->Q K0 s->af (aj P W) B (p6 8 T) Q E s:=λe y T x B P W Q E L hv hr o=>by
  obtain⟨le,rfl⟩:=qv L;rcases hv with hv|⟨_,_,hv⟩
  .exact SY I 8 _ _ _ x B E Q hv hr (uA L) (by have:=rY L;lia) o
  .exact hv.elim
 have l9: ∀(e:D) (y:V) (T:ir) (x:SI) (B:iE) (P:iL) (W:iD) (Q:vS) (E:iY),BJ e=K0->ky X.K H x e y->RelV y T->Q K2 s->af (aj P W) B (dc 8 T) Q E s:=λe y T x B P W Q E L hv hr o=>by
  obtain⟨le,rfl⟩:=qv L;rcases hv with hv|⟨_,_,hv⟩
  .exact afD I 8 _ _ _ x B E Q hv hr (uA L) (by have:=rY L;lia) o
  .exact hv.elim
 refine⟨b,rfl,⟨_,S.is.at_,rfl⟩,S.is.tab,λi e m=>?_,λi e m=>?_,λi e m o=>?_,λls g w E Q hls o=>?_⟩
 .obtain⟨p,h1,f,C,j⟩:=at_ i e m;obtain⟨lp,J⟩:=qv<|h p f;have:=S.rep p f;rw[J] at this;obtain⟨c,xs,F,_⟩:=this.tup;rw[F] at j;exact⟨c,j⟩
 .obtain⟨p,h1,f,C,j⟩:=at_ i e m;rw[h1];have:=rY<|h p f;exact Cr I 50 p.1 (.tup ld) p.2 (.ref b) _ _ O U A (.inl<|S.rep p f) hd j rfl (by lia) (by lia) (by lia)
 .obtain⟨p,h1,f,C,j⟩:=at_ i e m;rw[h1] at o;rw[(sG (uA<|h p f) fM).mp o] at C;exact C.symm
 .unfold o4;refine hV ?_;refine zb _ (λjl rr s'=>rr.1=KE/\s'=s/\ ∀v∈jl,∃e∈G.toList,e.2=v) _ ?_ ?_ _ _ ⟨rfl,rfl,hls⟩
  .rintro y jl rr s' ⟨R,rfl,hm⟩;have k: ∀v∈jl,∃e∈G.toList,e.2=v:=λv hv=>hm v<|ji _ hv;obtain⟨e,m,rfl⟩:=hm y jc;obtain⟨i,hi⟩:=sP m;rw[lK] at hi;obtain⟨p,h1,f,C,j⟩:=at_ i e hi;obtain⟨lp,J⟩:=qv<|h p f;have Y:=S.rep p f
   obtain⟨c,ec⟩: ∃c,e.2= .ref c:=by rw[J] at Y;obtain⟨c,xs,F,_⟩:=Y.tup;rw[F] at j;exact⟨c,j⟩
   rw[ec] at j ⊢;dsimp only;split
   .exact iw ⟨rfl,rfl,k⟩
   .refine hV (M _ _ _ U A g w _ _ N hd rfl ?_);simp -iota only[qO,jy,jS];refine hV<|M _ _ _ O A g w _ _ (h p f) (.inl Y) j ?_;simp -iota only[qO,jy,jS];refine hV<|l9 _ _ _ U A g w _ _ N hd rfl ?_;simp -iota only[jy,jS];refine hV<|l9 _ _ _ O A g w _ _ (h p f) (.inl Y) j ?_;simp -iota only[jy,jS];exact iw ⟨rfl,rfl,k⟩
  .rintro⟨r1,r2⟩ s' ⟨R,rfl,_⟩;simp only at R;subst R;exact iw o
def C8.MI(U:Inv X pins σ H s)(h:C8 X.K (H a) .set o f us)(r:YP X.K H O f us): ∃b n t l,C4 X H O s.heap a f b n t l:=by
 obtain⟨_,m,e,p⟩:=h;obtain⟨b,n,t,h1,c,g,i,j⟩:=(show T2 X.prog X.w H s.heap a (.SS m) from U.hok a _ e)
 rw[Bi] at p;obtain⟨l,d,rfl⟩:=mE hv p _ rfl;refine⟨b,n,t,l,⟨h1,by rw[<-BF c];exact g,i,j⟩,?_,λq k=>r.zip q<|d.mem_iff.mp k,c⟩;have:=d.map (·.1);rw[kS<|by rw[r.length];exact jM _] at this;exact this
def C4.L9{b n t l}(S:C4 X H O h a c b n t l):T2 X.prog X.w H' h a (.SS<|l.map hv):=
 ⟨b,n,t,S.is.at_,S.par,by rw[BF S.par];exact S.is.tab,S.is.plain,S.is.led⟩
def C4.Mn{b n t l}(S:C4 X H O h a c b n t l):b.size=Ls c/\(Ls l)=(Ls c):=by
 have h1:=aeA S.par;have d:=S.perm.length_eq;simp only[jf,kL] at h1 d
 lia
def C4.R1{O:SI}{h:iK}{a:hJ}{e:List D}{g n t l}(S:C4 X H O h a e g n t l){K H'}{O':SI}(k: ∀p∈l,Rep K H' O' p.1 p.2)(i:H' a=Y (.SS<|l.map hv)): ∃f,C8 K (H' a) .set [] e f/\YP K H' O' e f:=by
 obtain⟨b,c,d⟩:=mE (·.1) S.perm.symm l K3;refine⟨b.map (·.2),⟨rfl,l.map hv,i,?_⟩,?_⟩
 .rw[d,Bi]
  have:(b.map (·.1)).zip (b.map (·.2))=b:=by
   clear c d
   induction b with
   |nil=>rfl
   |cons x l m=>rw[jG,jG,wK,m]
  rw[this];exact(c.map hv).symm
 .rw[d];exact YP.MU λp j=>k p<|c.mem_iff.mp j
def C4.add(I:Inv X pins σ H s){y n t l}(S:C4 X H O s.heap a c y n t l)(L:c.all BJ=J)(hd:ky X.K H O' d v)(N:Rep X.K H O d v)(q:RelV v u)(o:BJ d=J)(hz:(Ls c)<500)
  (hA:A.units+60<aS) 
  (h: ∀r h' f g J' t' T,s.toks<=f->aM a s.heap h'->C4 X H O h' a (oz c d) g J' t' T->Q r {s with heap:=h',toks:=f}):af (aj X.prog X.w) A (nf a u) Q E s:=by
 obtain⟨eM,dw⟩:=S.Mn;unfold nf;refine lz<|hV<|QR 50 I d v u O A E _ N q (uA o) (by have:=rY o;lia) (by lia) λf Y=>?_;have U:Inv X pins σ H {s with toks:=f}:=I.kept (h':=s.heap) (t':=f) λ_ _ e=>e;obtain⟨b,rfl,R⟩:=C4.OL (s:={s with toks:=f}) U S L hd q o hA;have G: ∀p∈l,p.1∈c:=λp j=>S.perm.mem_iff.mp<|oR j;refine TT.abe R S.is.at_ S.is.plain (by lia) (λP k=>aaz U 8 d v _ O A E P N q (uA o) (by have:=rY o;lia) k) (λ⟨i,B,k⟩=>?_) λZ h' g J' t' g1 g2 g3 g4 g5 g6=>?_
 .have:oz c d=c:=by
   unfold oz
   cases C:l[i]? with
   |none=>rw[C] at k;cases k
   |some p=>rw[C] at k;rw[iz<|EM.mpr ⟨p.1,G p<|mq C,k⟩]
  exact h K2 s.heap f y n t l Y (EC a s.heap) (by rw[this];exact S)
 .have W:c.any (D.O1 · d)=K2:=by rw[j7];intro x hx;have bx:=S.perm.mem_iff.mpr hx;obtain⟨p,j,rfl⟩:=lg.mp bx;obtain⟨i,B⟩:=sP j;have:=Z i (by have:=(wa.mp B).1;lia);rw[B] at this;simpa using this
  have m:oz c d=c++[d]:=by unfold oz;rw[W,iG ku]
  have M:Paired (λ(z:Int×V) (e:Int×ir)=>z.1=e.1/\RelV z.2 e.2) (((d,v)::l).map hv) ((d.hash,bj b)::y.toList):= .cons ⟨rfl,q⟩ S.par;obtain⟨z',p1,p2⟩:=Ab g3 M;obtain⟨T,F,rfl⟩:=mE hv p2 _ rfl;refine h J h' f g J' t' T Y g1 ⟨⟨g2,g4,g5,g6.trans S.is.led⟩,?_,λp j=>?_,p1⟩
  .rw[m];refine(F.map (·.1)).trans ?_;rw[jG];exact(S.perm.cons d).trans (Nw d c).symm
  .rcases mz.mp (F.mem_iff.mp j) with rfl|j
   .exact N
   .exact S.rep p j
def Ur:D->Option (D×Bool)
 | .lst l| .tup l=>if l.all BJ=J/\(Ls l)<500 then Y (.R1 .set []<|lY l,J) else I
 |_=>I
def aem{l:List D}{i:Nat}{d:D}(h:l[i]?=Y d):lY (l.take<|i+1)=oz (lY<|l.take i) d:=by unfold lY;rw[HW,h,j5];rfl
def Ry: ∀(l a:List D),l.all BJ=J->a.all BJ=J->(l.foldl oz a).all BJ=J:=by
 intro e
 induction e with
 |nil=>intro a _ h;exact h
 |cons d l c=>intro a h1 b;rw[zf,kU] at h1;exact c _ h1.2 (UW b h1.1)
def afe: ∀(l a:List D),(l.foldl oz a).length<=Ls a+(Ls l):=by
 intro c
 induction c with
 |nil=>intro a;simp
 |cons d l b=>intro a;have:=b<|oz a d;have:=RU a d;simp only[rP,kO];lia
def RO{l:List D}(h:l.all BJ=J)(i:Nat):(l.take i).all BJ=J:=by rw[kf] at h ⊢;exact λx a=>h x<|tY a
def afi(hc:X.calm=K0)(hu:X.A.units+90<aS):kG X (.type "set") (GR X.K<|g1 Ur):=nW λpins s σ H x u Q O d z I ru np hd f G=>by
 obtain⟨l,p,c,a,rfl,r,v,T,f⟩: ∃l p c a,x= .ref p/\YP X.K H O l c/\Vals c a/\(s.heap.IsList p a.toArray\/s.heap.IsTuple p a.toArray)/\(if l.all BJ=K0/\l.length<500 then J4 (D.R1 .set []<|lY l,K0) else KE)=J4 z:=by
  cases d with
  |lst l=>obtain⟨p,c,rfl,q,r⟩:=kD hd;obtain⟨a,v,T,_⟩:=I.list q;exact⟨l,p,c,a,rfl,r,v,.inl T.isList,f⟩
  |tup l=>obtain⟨p,c,rfl,q,r⟩:=lE hd;obtain⟨a,v,T,_⟩:=I.tuple q;exact⟨l,p,c,a,rfl,r,v,.inr T,f⟩
  |_=>cases f
 obtain⟨⟨E,hz⟩,rfl⟩:=iR f;cases ru;have e1:=r.length;have e2:=v.length;have hh:X.A.handled=KE:=I.ok.hd hc;have J:=I.fresh
 refine TT.YM hh T (λi h=> ∃m n t j,C4 X H O h s.heap.objs.size (lY<|l.take i) m n t j) (λi h h' ⟨m,n,t,j,S⟩ k=>⟨m,n,t,j,S.Aw k⟩)
  (λh' e=>⟨#[],0,_,[],⟨TT.YL e,by simp[lY],λp U=>by simp at U,.nil⟩⟩) (λi w s' B Q' E' hB W N hk f C R y=>?_) (λh' tk N hk=>?_)
 .obtain⟨m,n,t,j,S⟩:=N
  have dz:i<a.length:=by have:=(R7.mp W).1;simpa using this
  have hw:a[i]?=J4 w:=by simpa using W
  have L:c[i]?=J4 c[i]:=jg (by lia);have V:l[i]?=J4 l[i]:=jg (by lia);obtain⟨w',Z,w2⟩:=v.get L;rw[hw] at Z;cases Z;have g:Rep X.K H O l[i] c[i]:=r.views V L;have p8:BJ l[i]=K0:=kf.mp E _ (yU _);obtain⟨h1,g1,dr1,fk,os1⟩:=s';dsimp only at hk f C R y S;subst f;subst C;subst R;have I':Inv X pins σ H {s with heap:=h1,toks:=fk}:=I.kept hk;refine C4.add I' S (Ry _ _ (RO E i) rfl) (.inl g) g w2 p8 ?_ (by lia) λrr h2 bS M n' t' F a1 a2 P=>?_
  .have:=afe (l.take i) [];rw[tR] at this;unfold lY;simp only[rK] at this
   lia
  .rw[<-aem V] at P;exact y rr h2 bS a1 a2 ⟨M,n',t',F,P⟩
 .obtain⟨m,n,t,j,S⟩:=N;have Y:a.toArray.size=l.length:=by simp;lia
  rw[Y,List.take_length] at S;refine⟨.ref s.heap.objs.size,upd H s.heap.objs.size<|.SS<|j.map hv,I.laid hk (jM _) S.L9,rfl,?_⟩;refine G s.heap.objs.size _ J (lL J) ?_;exact S.R1 (λp U=>Rep.mono (λb o e _=>lL J b o e) (λb hb z=>z.elim id λz=>absurd (z▸J) hb)<|S.rep p U) iQ
def Yt:aH "set"=Y (.type "set"):=by decide+kernel
def Yb(I:Inv X pins σ H s){G n t l}(S:C4 X H O s.heap a g G n t l)(q:g.all BJ=K0)(hd:ky X.K H O d v)(z:RelV v u)(k:BJ d=K0)(J:A.units+60<aS) 
  (h: ∀c,Q (g.any (D.O1 · d)) {s with toks:=c}):af (aj X.prog X.w) A (F2 a u) Q E s:=by
 obtain⟨F,Y⟩:=S.Mn
 have N:Rep X.K H O d v:=by
  obtain⟨ld,rfl⟩:=qv k;rcases hd with hd|⟨_,_,hd⟩
  .exact hd
  .exact hd.elim
 unfold F2;refine lz<|hV<|QR 50 I d v u O A E _ N z (uA k) (by have:=rY k;lia) (by lia) λc U=>?_;have B:Inv X pins σ H {s with toks:=c}:=I.kept (h':=s.heap) (t':=c) λ_ _ e=>e;obtain⟨b,rfl,C⟩:=C4.OL (s:={s with toks:=c}) B S q hd z k J;have y: ∀p∈l,p.1∈g:=λp r=>S.perm.mem_iff.mp<|oR r;refine hV<|TT.aaE C S.is.at_ (λi m j=>?_) λL=>?_
 .have:g.any (D.O1 · d)=K0:=by
   cases o:l[i]? with
   |none=>rw[o] at j;cases j
   |some p=>rw[o] at j;exact EM.mpr ⟨p.1,y p<|mq o,j⟩
  have f:=h c;rw[this] at f;exact iw f
 .have:g.any (D.O1 · d)=K2:=by rw[j7];intro x M;have T:=S.perm.mem_iff.mpr M;obtain⟨p,r,rfl⟩:=lg.mp T;obtain⟨i,m⟩:=sP r;have:=L i (by have:=(wa.mp m).1;lia);rw[m] at this;simpa using this
  have f:=h c;rw[this] at f;exact iw f
def aen(U:Inv X pins σ H s){g n t l}(S:C4 X H O s.heap a f g n t l)(c:f.all BJ=J)(hd:ky X.K H O d v)(j:RelV v u)(i:BJ d=J)(k:A.units+61<aS) 
  (h: ∀e,Q (f.any (D.O1 · d)) {s with toks:=e}):af (aj X.prog X.w) A (wf (.ref a) u) Q E s:=by
 have b:=S.is.typeIs;unfold wf;refine lz<|hV<|wB b M3.lookup ?_;change af _ _ (if(Y (mm "set.__contains__")==Y av)=J then _ else _) _ E s;rw[iG<|by rw[qs];exact ku];refine hV<|wpAny_callSpecialUnlessNone?_slot (name:=bn "__contains__") b M3<|oo M3 b entry_set_contains ?_<|PySem.F.args_set_contains_2 _ _;unfold bb.«frozenset.__contains__» cb;simp only[wA,tN];unfold bO lf;refine hV<|iw ?_;dsimp only;refine hV<|iw ?_;dsimp only;refine hV<|wpAny_tryCatch ?_;refine Yb U S c hd j i (by show A.units+1+60<aS;omega) λe=>?_;exact iw ⟨_,rfl,xK<|h e⟩
def P8(d e:D):Option Bool:=match e with
 | .R1 .set [] a=>if a.all BJ=J/\BJ d=J then Y (a.any (D.O1 · d)) else I
 |_=>inD d e
def vA(d e:D):Option (D×Bool):=(P8 d e).map λb=>(.bl (!b),C)
def BI(B:X.A.units+62<aS):BO X (aA .NotIn) (rD X.K vA):=by
 intro pins s σ H x y v u Q T j k h;obtain⟨O,d,e,z,np,h1,g,m,G⟩:=h;obtain⟨b,c,rfl⟩:=ja m;by_cases i: ∃f,e= .R1 .set [] f
 .obtain⟨f,rfl⟩:=i;obtain⟨⟨o,hd⟩,rfl⟩:=iR (show(if f.all BJ=J/\BJ d=J then Y (f.any (D.O1 · d)) else I)=Y b from c);obtain⟨a,U,rfl,q,r⟩:=pH g;cases k;obtain⟨w,n,t,l,S⟩:=q.MI T r;change af _ _ (wf (.ref a) v>>=λb=>pure<|e9 (!b)) _ _ s;refine hV<|aen T S o h1 j hd (by lia) λp=>?_;exact iw ⟨.bl _,H,T.kept (h':=s.heap) (t':=p) λ_ _ e=>e,rfl,G.bl⟩
 .have:inD d e=Y b:=by
   unfold P8 at c;split at c
   .exact absurd ⟨_,rfl⟩ i
   .exact c
  exact DG (by lia) pins s σ H x y v u Q T j k ⟨O,d,e,b,h1,g,this,G.bl⟩
end
def af8(a:l.Perm m)(b: ∀x∈l,D.pr x=J):mY BN l=mY BN m:=M5 (λx c=>b x<|a.mem_iff.mpr c) ((kP BN l).trans a)<|qV l
def aeO{k:Nat}{l:List D}(h:GP k l):mO l=J:=by
 unfold mO;rw[yZ];right
 cases l with
 |nil=>rfl
 |cons x m=>simp only[kU,kf,pz];refine⟨⟨by rw[h.hd x jc];rfl,λy a=>⟨⟨?_,h.pr y a⟩,h.dp y a⟩⟩,λy a z b=>h.cm y a z b⟩;rw[h.hd x jc,h.hd y a];simp
def ad1(b:l.Perm m)(h:mO m=J):mO l=J:=by
 rcases Dy h with c|⟨k,B⟩
 .unfold mO;rw[yZ];left;rw[b.length_eq];simpa using c
 .exact aeO (k:=k) ⟨λx a=>B.hd x<|b.mem_iff.mp a,λx a=>B.pr x<|b.mem_iff.mp a,λx a=>B.dp x<|b.mem_iff.mp a,λx a y d=>B.cm x (b.mem_iff.mp a) y<|b.mem_iff.mp d⟩
def rn(d:D):Option (D×Bool):=match d with
 | .R1 .set [] a=>if a.all BJ=J then jY a else I
 |_=>oZ d
section
variable {X:Cx}
def yE(hc:X.calm=K0)(L:X.A.units+62<aS):kG X (.builtin "sorted") (GR X.K<|g1 rn):=nW λg s σ H x u Q O d z I M np hd C G=>by
 by_cases E: ∃h,d= .R1 .set [] h
 .obtain⟨h,rfl⟩:=E;have e:(if h.all BJ=K0 then jY h else KE)=J4 z:=C;split at e
  .rename_i y;obtain⟨a,us,rfl,q,r⟩:=pH hd;cases M;obtain⟨i,n,t,l,S⟩:=q.MI I r;obtain⟨Y,dw⟩:=S.Mn;have wp:=TT.Hr X.w a n i;obtain⟨z',o,T⟩:=Ab wp S.par;obtain⟨c,B,rfl⟩:=mE hv T _ rfl;have J:YP X.K H O (c.map (·.1)) (c.map (·.2)):=YP.MU λp V=>S.rep p (B.mem_iff.mp V)
   have vv:Vals (c.map (·.2)) ((TT.oX X.w a n i).toList.map (·.2)):=by
    clear T B J wp;generalize (TT.oX X.w a n i).toList=m at o;revert o;generalize f:c.map hv=zz;intro o
    induction o generalizing c with
    |nil=>
      have:c=[]:=by simpa using f
      subst this;exact .nil
    |cons r t ih=>
     cases c with
     |nil=>simp at f
     |cons p c=>simp only[jG,yT] at f;rw[jG,jG];refine .cons ?_<|ih c f.2;have:=r.2;rw[<-f.1] at this;exact this
   have v:(c.map (·.1)).Perm h:=(B.map (·.1)).trans S.perm
   have N:jY (c.map (·.1))=J4 z:=by unfold jY at e ⊢;obtain⟨⟨h1,F⟩,rfl⟩:=iR e;rw[iz ⟨ad1 v h1,by rw[v.length_eq];exact F⟩,af8 v λx W=>uA<|kf.mp y x<|v.mem_iff.mp W]
   have R:X.A.handled=KE:=I.ok.hd hc
   have f:i.size<=sizeLine:=by unfold jY at e;rw[Y];exact(iR e).1.2
   exact qU L I J vv N G λQ' E' A' U P=>TT.UD (by rw[U];exact R) S.is f λD Z k=>P D Z k
  .cases e
 .have e:g1 oZ [d]=J4 z:=by
   have:rn d=oZ d:=by
    unfold rn;split
    .exact absurd ⟨_,rfl⟩ E
    .rfl
   show oZ d=J4 z;rw[<-this];exact C
  exact sL L g s σ H [x] [u] Q I (.cons M .nil) ⟨O,[d],z,np,rfl,(λj d' v' a b=>by
   cases j with
   |zero=>simp at a b;subst a;subst b;exact hd
   |succ j=>simp at a),e,G⟩
end
end PX
namespace L2
section
variable {κ:Type}[DecidableEq κ]
def tw(a:List (κ×V))(k:κ):Option V:=(a.find? λb=>decide<|b.1=k).map (·.2)
def tx(a:List (κ×V))(k:κ)(v:V):List (κ×V):=
 if(a.any λb=>decide<|b.1=k)=J then a.map (λb=>if b.1=k then(b.1,v) else b) else a++[(k,v)]
theorem uo{p:κ×V}{r:List (κ×V)}{k:κ}(e:p.1=k):tw (p::r) k=Y p.2:=by simp[tw,yS,e]
theorem pJ{p:κ×V}{r:List (κ×V)}{k:κ}(e: ¬p.1=k):tw (p::r) k=tw r k:=by simp[tw,yS,e]
theorem Gb(k:κ): ∀a:List (κ×V),(a.any λb=>decide<|b.1=k)=(tw a k).isSome
 |[]=>rfl
 |p::r=>by
  rw[wz];by_cases e:p.1=k
  .simp only[uo e,lh e,p0,gg]
  .rw[pJ e,mr e,n3];exact Gb k r
theorem Ae(a:List (κ×V))(k:κ)(v:V):(tx a k v).length<=Ls a+1:=by
 unfold tx;split
 .rw[jf];lia
 .rw[mX,kO,rK];lia
theorem L4.Ce{o:Option V}{u:Option ir}(r:L4 o u):o.isSome=u.isSome:=by
 cases o with
 |none=>cases u with
  |none=>rfl
  |some _=>exact(show False from r).elim
 |some _=>cases u with
  |none=>exact(show False from r).elim
  |some _=>rfl
theorem KV.val{kvs:List (κ×V)}{d:List (κ×ir)}(r:KV kvs d)(k:κ):L4 (tw kvs k) (fP d k):=by
 unfold KV at r
 induction r with
 |nil=>exact bv
 | @cons p q i c h t g=>
  obtain⟨h1,f⟩:=h;by_cases e:p.1=k
  .have a:q.1=k:=h1.symm.trans e;have b:fP (q::c) k=Y q.2:=by simp[fP,yS,a]
   rw[uo e,b];exact f
  .have a: ¬q.1=k:=λz=>e<|h1.trans z;have b:fP (q::c) k=fP c k:=by simp[fP,yS,a]
   rw[pJ e,b];exact g
theorem KV.any{a:List (κ×V)}{vs:List (κ×ir)}(r:KV a vs)(k:κ):(a.any λb=>decide<|b.1=k)=vs.any λb=>decide (b.1=k):=by
 unfold KV at r
 induction r with
 |nil=>rfl
 |cons h t c=>rw[wz,wz,c,h.1]
theorem KV.Ml{b:List (κ×V)}{c:List (κ×ir)}(r:KV b c)(k:κ){y:V}{u:ir}(g:RelV y u):
  KV (b.map λa=>if a.1=k then(a.1,y) else a) (c.map λa=>if a.1=k then(a.1,u) else a):=by
 unfold KV at r ⊢
 induction r with
 |nil=>exact .nil
 | @cons p q i j h t f=>
  rw[jG,jG];refine .cons ?_ f;obtain⟨h1,d⟩:=h;by_cases e:p.1=k
  .rw[iz e,iz<|h1.symm.trans e];exact⟨h1,g⟩
  .rw[iG e,iG λz=>e<|h1.trans z];exact⟨h1,d⟩
theorem KV.put{a:List (κ×V)}{b:List (κ×ir)}(r:KV a b)(k:κ){y:V}{u:ir}(c:RelV y u):KV (tx a k y) (stored b k u):=by
 unfold tx stored;rw[r.any k];by_cases e:(b.any λd=>decide<|d.1=k)=J
 .rw[iz e,iz e];exact r.Ml k c
 .rw[iG e,iG e];exact Paired.snoc r ⟨rfl,c⟩
theorem KV.length{a:List (κ×V)}{vs:List (κ×ir)}(r:KV a vs):(Ls a)=(Ls vs):=um r
end
def DP{P:iL}{w:iD}{k:Key}{u:ir}(r:RelV (kV k) u):(kY P w).is k u=J:=by
 cases k with
 |inl i=>obtain⟨t,e⟩:=(show ∃t,u=ib i t from r);subst e;exact adW P w i t
 |inr x=>obtain⟨t,e⟩:=(show ∃t,u=ia x t from r);subst e;exact adV P w x t
theorem DQ{P:iL}{w:iD}: ∀{a:List Key} {b:jr},Vals (a.map kV) b->ItemsAre (kY P w) a b
 |[],_,r=>by rw[uh] at r;cases r;exact .nil
 |k::a,_,r=>by
  rw[jG] at r
  cases r with
  |cons h t=>exact .cons (DP h)<|DQ t
abbrev KT(U:Hp):List (List Key×V)->List (List Key×hJ×ir)->Prop:=Paired λp q=>p.1=q.1/\U q.2.1=Y (.tup<|p.1.map kV)/\RelV p.2 q.2.2
def KT.val{U:Hp}{kvs:List (List Key×V)}{d:List (List Key×hJ×ir)}(r:KT U kvs d)(k:List Key):L4 (tw kvs k) ((gE d k).map (·.2)):=by
 induction r with
 |nil=>exact bv
 | @cons p q i c h t g=>
  obtain⟨h1,_,f⟩:=h;by_cases e:p.1=k
  .have a:q.1=k:=h1.symm.trans e;have b:gE (q::c) k=Y q.2:=by simp[gE,yS,a]
   rw[uo e,b];exact f
  .have a: ¬q.1=k:=λz=>e<|h1.trans z;have b:gE (q::c) k=gE c k:=by simp[gE,yS,a]
   rw[pJ e,b];exact g
def KT.Ml{U:Hp}{a:List (List Key×V)}{d:List (List Key×hJ×ir)}(r:KT U a d)(k:List Key){y:V}{u:ir}(i:RelV y u):
  KT U (a.map λb=>if b.1=k then(b.1,y) else b) (d.map<|putAt k u):=by
 induction r with
 |nil=>exact .nil
 | @cons p q j l h t g=>
  rw[jG,jG];refine .cons ?_ g;obtain⟨h1,c,f⟩:=h;unfold putAt;by_cases e:p.1=k
  .rw[iz e,iz<|h1.symm.trans e];exact⟨h1,c,i⟩
  .rw[iG e,iG λz=>e<|h1.trans z];exact⟨h1,c,f⟩
def KT.put{U:Hp}{a:List (List Key×V)}{c:List (List Key×hJ×ir)}(r:KT U a c)(k:List Key){b:hJ}{y:V}{u:ir}(f:U b=Y (.tup<|k.map kV))(d:RelV y u):
  KT U (tx a k y) (storedH c k b u):=by
 have e:(a.any λg=>decide<|g.1=k)=(gE c k).isSome:=by rw[Gb,(r.val k).Ce,HH]
 unfold tx storedH;rw[e];by_cases q:(gE c k).isSome=J
 .rw[iz q,iz q];exact r.Ml k d
 .rw[iG q,iG q];exact Paired.snoc r ⟨rfl,f,d⟩
def KT.keeps{U c:Hp}{a:List (List Key×V)}{d:List (List Key×hJ×ir)}(r:KT U a d)(f: ∀b e,U b=Y (.tup e)->c b=Y (.tup e)):KT c a d:=
 Paired.OV r λ_ _ z=>⟨z.1,f _ _ z.2.1,z.2.2⟩
section
variable {P:iL}{w:iD}{H:Hp}{h:iK}{a:hJ}
def Vf{u:HO}(ok:Fc P w H h)(e:Rd H a u):T2 P w H h a u:=e.ok ok
def Rr{b:List (Key×V)}(ok:Fc P w H h)(e:Rd H a (.dK b)):(Ls b)<=sizeLine/\(a==br)=C/\ ∃c,KV b c/\h.DictOf (kY P w) a c:=
 show T2 P w H h a (.dK b) from Vf ok e
def Rt{b:List (Key×V)}(ok:Fc P w H h)(e:H a=Y (.dK b)):(Ls b)<=sizeLine/\(a==br)=C/\ ∃c,KV b c/\h.DictOf (kY P w) a c:=Rr ok<|.inl e
def zK{c:List Key}(ok:Fc P w H h)(e:H a=Y (.tup<|c.map kV)):(dH<|kY P w).is h c a:=by
 obtain⟨_,b,r,o,h1,d,n,f⟩:=(show T2 P w H h a (.tup<|c.map kV) from ok a _ e)
 exact⟨o,b.toArray,n,h1,d,f,by simpa using DQ r⟩
def Ro{b:List (List Key×V)}(ok:Fc P w H h)(e:Rd H a (.dT b)):(Ls b)<=sizeLine/\(a==br)=C/\
  ∃d,KT H b d/\h.DictOfH (dH<|kY P w) a d:=by
 obtain⟨z,y,d,r,o,i,g,h1,j,k,n,s⟩:=(show T2 P w H h a (.dT b) from Vf ok e)
 refine⟨z,y,d,r,o,i,g,h1,j,k,n,λx c=>?_,s⟩
 have all: ∀{l:List (List Key×V)} {m:List (List Key×hJ×ir)},KT H l m-> ∀x∈m,(dH<|kY P w).is h x.1 x.2.1:=by
  intro l m q
  induction q with
  |nil=>intro x c;exact nomatch c
  | @cons p q v A f t u=>
   intro x c;rcases mz.mp c with e|c
   .subst e;exact zK ok (by rw[<-f.1];exact f.2.1)
   .exact u x c
 exact all r x c
def Rq{b:List (List Key×V)}(ok:Fc P w H h)(e:H a=Y (.dT b)):(Ls b)<=sizeLine/\(a==br)=C/\
  ∃c,KT H b c/\h.DictOfH (dH<|kY P w) a c:=Ro ok<|.inl e
end
def JI(U:Hp)(a:hJ)(y:V)(r:Option V):Prop:=
 (∃c k,Rd U a (.dK c)/\y=kV k/\r=tw c k)\/ ∃c k b,Rd U a (.dT c)/\y= .ref b/\U b=Y (.tup<|k.map kV)/\r=tw c k
def JG(U:Hp)(a:hJ)(y v:V)(c:Hp):Prop:=
 (∃kvs k,U a=Y (.dK kvs)/\y=kV k/\(Ls kvs)<sizeLine/\c=upd U a (.dK<|tx kvs k v))\/
 ∃kvs k b,U a=Y (.dT kvs)/\y= .ref b/\U b=Y (.tup<|k.map kV)/\(Ls kvs)<sizeLine/\c=upd U a (.dT<|tx kvs k v)
def JI.k{U:Hp}{a:hJ}{kvs:List (Key×V)}{k:Key}(e:U a=Y (.dK kvs)):JI U a (kV k) (tw kvs k):= .inl ⟨kvs,k,.inl e,rfl,rfl⟩
def JI.t{U:Hp}{a b:hJ}{kvs:List (List Key×V)}{k:List Key}(e:U a=Y (.dT kvs))(c:U b=Y (.tup<|k.map kV)):JI U a (.ref b) (tw kvs k):= .inr ⟨kvs,k,b,.inl e,rfl,c,rfl⟩
def JG.k{U:Hp}{a:hJ}{kvs:List (Key×V)}{k:Key}{v:V}(e:U a=Y (.dK kvs))(b:(Ls kvs)<sizeLine):JG U a (kV k) v (upd U a<|.dK<|tx kvs k v):= .inl ⟨kvs,k,e,rfl,b,rfl⟩
def JG.t{U:Hp}{a b:hJ}{kvs:List (List Key×V)}{k:List Key}{v:V}(e:U a=Y (.dT kvs))(c:U b=Y (.tup<|k.map kV))(d:(Ls kvs)<sizeLine):
  JG U a (.ref b) v (upd U a<|.dT<|tx kvs k v):= .inr ⟨kvs,k,b,e,rfl,c,d,rfl⟩
section
variable {X:Cx}{d:iX}{f:St}{H:Hp}{s:ie}{a:hJ}{y v:V}{u r:ir}{o:Option V}{A:iE}{E:iY}
def Inv.big(U:Inv X d f H s):br<s.heap.objs.size:=by have h:ap<s.heap.objs.size:=(U.mod.glob.keeps U.bk).lt;exact ED (by decide) h
def aaQ{Q:iY}(t:A.units+1<aS)(U:Inv X d f H s)(g:JI H a y o)(m:RelV y u)(h: ∀n,Inv X d f H n->Q (.bool o.isSome) n):
  af (aj X.prog X.w) A (aA .In u<|.ref a) Q E s:=by
 rcases g with⟨j,k,e,i,l⟩|⟨j,k,b,e,i,p,l⟩
 .subst i;obtain⟨z,hd,x,c,dd⟩:=Rr U.hok e;refine FM (DP m) hd dd.mapOf ?_;rw[<-(c.val k).Ce,<-l];exact h _ (U.tok _)
 .subst i;cases(show u=bj b from m);obtain⟨z,hd,B,c,dd⟩:=Ro U.hok e;refine w5 (AS t) (zK U.hok p) hd dd ?_;have q:=(c.val k).Ce;rw[HH] at q;rw[<-q,<-l];exact h _ (U.tok _)
def Lx{Q:iY}(t:A.units+1<aS)(U:Inv X d f H s)(g:JI H a y o)(m:RelV y u)(h: ∀n,Inv X d f H n->Q (.bool (!o.isSome)) n):
  af (aj X.prog X.w) A (aA .NotIn u<|.ref a) Q E s:=by
 rcases g with⟨j,k,e,i,l⟩|⟨j,k,b,e,i,p,l⟩
 .subst i;obtain⟨z,hd,x,c,dd⟩:=Rr U.hok e;refine u8 (DP m) hd dd.mapOf ?_;rw[<-(c.val k).Ce,<-l];exact h _ (U.tok _)
 .subst i;cases(show u=bj b from m);obtain⟨z,hd,B,c,dd⟩:=Ro U.hok e;refine rp (AS t) (zK U.hok p) hd dd ?_;have q:=(c.val k).Ce;rw[HH] at q;rw[<-q,<-l];exact h _ (U.tok _)
def vH{h':iK}{t':Nat}{c:HO}(U:Inv X d f H s)(j:Oo (H a))(i:aM a s.heap h')(h: ∃q,h'.get? a=Y q)(new:T2 X.prog X.w (upd H a c) h' a c):
  Inv X d f (upd H a c) {s with heap:=h',toks:=t'}:=
 U.write (x:=a) (e:=a) j (.inl K3) (λb q g z=>(i.2 b g).trans z) h new
def Yn{P:iL}{w:iD}{h:Hp}{g:iK}{b:List (Key×V)}{e:List (Key×ir)}(z:(Ls b)<=sizeLine)(hd:(a==br)=C)(c:KV b e)(dd:g.DictOf (kY P w) a e):
  T2 P w h g a (.dK b):=⟨z,hd,e,c,dd⟩
def zR{L:Hp}{Q:Unit->ie->Prop}(hu:A.units+1<aS)(I:Inv X d f H s)(g:JG H a y v L)(M:RelV y u)(J:RelV v r)(h: ∀N,Inv X d f L N->Q () N):
  af (aj X.prog X.w) A (hH (.ref a) u r) Q E s:=by
 rcases g with⟨i,k,e,t,l,p⟩|⟨i,k,b,e,t,O,l,p⟩
 .subst t p;obtain⟨z,hd,S,j,dd⟩:=Rt I.hok e;have C:S.length<=sizeLine:=by rw[<-j.length];exact z
  have x:(tx i k v).length<=sizeLine:=by have:=Ae i k v;lia
  refine wpAny_setItem_pairs (hsz:=C) (DP M) dd λG m B=>h _ ?_;have R: ∃q,G.get? a=J4 q:=let⟨q,_,_,n,_⟩:=m;⟨q,n⟩
  exact vH I (by rw[e];exact bv) B R<|Yn x hd (j.put k J) m
 .subst t p;cases(show u=bj b from M);obtain⟨z,hd,V,j,dd⟩:=Rq I.hok e;have C:V.length<=sizeLine:=by rw[<-um j];exact z
  have x:(tx i k v).length<=sizeLine:=by have:=Ae i k v;lia
  refine wpAny_setItem_heap (hsz:=C) (AS hu) (zK I.hok O) dd λG m B=>h _ ?_;obtain⟨q,Y,U,n,D,F,K,_,P⟩:=m;refine vH I (by rw[e];exact bv) B ⟨q,n⟩ ⟨x,hd,_,(j.put k O J).keeps λc W T=>?_,q,Y,U,n,D,F,K,P⟩;rw[iW<|Vr T e (λz=>nomatch z)];exact T
end
def Ru{P:iL}{w:iD}{U:Hp}(h:iK)(a:br<h.objs.size):T2 P w U (h.push {cls:= .type "dict",data:= .dict #[]}) h.objs.size (.dK []):=
 ⟨lP _,CZ.mpr<|tX<|kd a,[],.nil,Heap.DictOf.new h⟩
def Wu:TE:=λ_ U Q=> ∀p,U p=I->Q (.ref p) (upd U p<|.dK [])
section
variable {X:Cx}{b:bq}
def Py:PE X (.Dict [] [] b) Wu:=λc s d U Q T h=>wpAny_Dict_empty ⟨.ref s.heap.objs.size,_,T.laid (a:=s.heap.objs.size) (o:= .dK []) (t':=s.toks) (λ_ _ q=>jU _ q) (jM _)<|Ru s.heap T.big,rfl,h _ (T.hok.fresh<|jM _)⟩
end
end L2
namespace PX
open L2 PySem.SeqAt TS
noncomputable def BW:D->Option Key
 | .int i=>Y<|.inl i
 | .str x=>Y<|.inr x
 |_=>I
def G3:List D->Option (List Key)
 |[]=>Y []
 |d::l=>(BW d).bind λk=>(G3 l).map (k:: ·)
def Fl:D->Option (List Key)
 | .tup l=>G3 l
 |_=>I
def rm(h:BW d=Y k):d=ke k:=by
 cases d<;>simp[BW] at h<;>subst h<;>rfl
def Qy: ∀{l:List D} {a:List Key},G3 l=Y a->l=a.map ke:=by
 intro e
 induction e with
 |nil=>intro a h;cases h;rfl
 |cons d l c=>intro a h;rw[G3] at h;obtain⟨k,h1,h⟩:=hG h;obtain⟨m,b,rfl⟩:=ja h;rw[rm h1,c b];rfl
def ym(h:Fl d=Y a):d= .tup (a.map ke):=by
 cases d with
 |tup l=>rw[Qy (show G3 l=Y a from h)]
 |_=>cases h
def yB(a b:Key):D.O1 (ke a) (ke b)=decide (a=b):=by
 cases a with
 |inl i=>cases b with
  |inl j=>simp only[ke,D.O1,Qx]
  |inr y=>simp only[ke,D.O1,Qw]
 |inr x=>cases b with
  |inl j=>simp only[ke,D.O1,Qv]
  |inr y=>simp only[ke,D.O1,Qu];rfl
theorem vE: ∀a b:List Key,D.BD (a.map ke) (b.map ke)=decide (a=b)
 |[],[]=>by simp[D.BD]
 |[],_::_=>by simp[D.BD]
 |_::_,[]=>by simp[D.BD]
 |x::a,y::b=>by simp only[jG];rw[D.BD,yB,vE a b];simp only[yT,l5]
def mv:List D->List D->D->Option D
 |a::b,v::c,k=>if D.O1 a k=J then Y v else mv b c k
 |_,_,_=>I
def wd:List D->List D->D->D->List D
 |b::c,v::a,k,w=>(if D.O1 b k=J then w else v)::wd c a k w
 |_,a,_,_=>a
def vP(a b:List D)(k w:D):List D×List D:=if a.any (D.O1 · k)=J then(a,wd a b k w) else(a++[k],b++[w])
def uH(a:List D)(k:D):Bool:=((BW k).isSome&&a.all λx=>(BW x).isSome)||((Fl k).isSome&&a.all λx=>(Fl x).isSome)
section
variable {K:iJ}{H:Hp}{O:SI}
def Gy(h:Rep K H O (ke k) v):v=kV k:=by
 cases k with
 |inl i=>exact Rep.int h
 |inr x=>exact Rep.str h
def aeT: ∀{b:List Key} {a:List V},YP K H O (b.map ke) a->a=b.map kV:=by
 intro e
 induction e with
 |nil=>intro a h;rw[uh,YP] at h;exact h
 |cons k b d=>intro a h;rw[jG,YP] at h;obtain⟨v,r,rfl,h1,c⟩:=h;rw[Gy h1,d c];rfl
def vc(hk:BW d=Y k)(h:ky K H O d v):v=kV k:=by
 rw[rm hk] at h;rcases h with h|⟨a,rfl,h⟩
 .exact Gy h
 .cases k<;>exact h.elim
def vb(hk:Fl d=Y c)(h:ky K H O d v): ∃b,v= .ref b/\H b=Y (.tup<|c.map kV):=by
 rw[ym hk] at h;rcases h with h|⟨a,rfl,h⟩
 .obtain⟨b,e,rfl,q,r⟩:=h.tup;rw[aeT r] at q;exact⟨b,rfl,q.1⟩
 .exact h.elim
theorem Qm{k:Key}: ∀{a:List (Key×V)} {b:List D},YP K H O b (a.map (·.2))->(∀d,mv (a.map λp=>ke p.1) b (ke k)=Y d-> ∃v,tw a k=Y v/\Rep K H O d v)/\(mv (a.map λp=>ke p.1) b (ke k)=I->tw a k=I)
 |[],b,_=>⟨λd h=>by cases b<;>simp[mv] at h,λ_=>rfl⟩
 |(c,v)::a,[],h=>by rw[jG,YP] at h;cases h
 |(c,v)::a,m::b,h=>by
  rw[jG,YP] at h;obtain⟨w,r,e,h1,f⟩:=h;obtain⟨rfl,rfl⟩:=wL e;obtain⟨j,l⟩:=Qm (k:=k) f;simp only[jG,mv,yB];by_cases hk:c=k
  .simp only[hk,yR,kI];exact⟨λd h=>by cases h;exact⟨v,uo (p:=(k,v)) K3,h1⟩,λh=>by cases h⟩
  .simp only[hk,decide_false,jy,jS];refine⟨λd h=>?_,λh=>?_⟩
   .obtain⟨u,g,i⟩:=j d h;exact⟨u,by rw[pJ (p:=(c,v)) hk];exact g,i⟩
   .rw[pJ (p:=(c,v)) hk];exact l h
theorem Ql{k:List Key}: ∀{a:List (List Key×V)} {b:List D},YP K H O b (a.map (·.2))->(∀d,mv (a.map λp=> .tup (p.1.map ke)) b (.tup<|k.map ke)=Y d-> ∃v,tw a k=Y v/\Rep K H O d v)/\(mv (a.map λp=> .tup (p.1.map ke)) b (.tup<|k.map ke)=I->tw a k=I)
 |[],b,_=>⟨λd h=>by cases b<;>simp[mv] at h,λ_=>rfl⟩
 |(c,v)::a,[],h=>by rw[jG,YP] at h;cases h
 |(c,v)::a,m::b,h=>by
  rw[jG,YP] at h;obtain⟨w,r,e,h1,f⟩:=h;obtain⟨rfl,rfl⟩:=wL e;obtain⟨j,l⟩:=Ql (k:=k) f;simp only[jG,mv,D.O1,vE];by_cases hk:c=k
  .simp only[hk,yR,kI];exact⟨λd h=>by cases h;exact⟨v,uo (p:=(k,v)) K3,h1⟩,λh=>by cases h⟩
  .simp only[hk,decide_false,jy,jS];refine⟨λd h=>?_,λh=>?_⟩
   .obtain⟨u,g,i⟩:=j d h;exact⟨u,by rw[pJ (p:=(c,v)) hk];exact g,i⟩
   .rw[pJ (p:=(c,v)) hk];exact l h
end
section
variable {P:iL}{w:iD}{H H':Hp}{h:iK}{a:hJ}
def VL(x:T2 P w H h a (.dT [])):T2 P w H' h a (.dK []):=by
 obtain⟨z,y,k,r,o,b,c,h1,d,f,g,j⟩:=x;cases r
 have:b= #[]:=by
  have:b.toList=[]:=by simpa using g
  exact YN.mp this
 subst this;refine⟨z,y,[],.nil,o,#[],c,h1,d,f,?_,?_,nH⟩
 .first|exact λe i=>by simp at i|(intro;simp)
 .first|exact .nil|trivial|simp[Pairs]
def VM(x:T2 P w H h a (.dK [])):T2 P w H' h a (.dT []):=by
 obtain⟨z,y,n,r,o,c,d,h1,f,g,k,b,m⟩:=x;cases r
 have:c= #[]:=by
  have j:(Ls c.toList)=0:=by
   first
    |simpa using (Ls b)
    |simpa using(um b)
    |(
      cases i:c.toList with
      |nil=>rfl
      |cons e l=>rw[i] at b;cases b)
  exact YN.mp<|M4.mp j
 subst this;exact⟨z,y,[],.nil,o,#[],d,h1,f,g,rfl,nH⟩
end
section
variable {X:Cx}{f:iX}{g:L2.St}{H:Hp}{s:ie}
def ae5{A:iE}{E:iY}(U:Inv X f g H s){H':Hp}{a:hJ}{k:Key}{u:ir}{Q:iY}(x:T2 X.prog X.w H' s.heap a (.dK []))(d:RelV (kV k) u)(b:Bool)(h: ∀e,Inv X f g H e->Q (.bool b) e):
  af (aj X.prog X.w) A (aA (if b=J then .NotIn else .In) u<|.ref a) Q E s:=by
 obtain⟨z,hd,i,c,dd⟩:=x;cases c
 cases b with
 |false=>exact FM (DP d) hd dd.mapOf<|h _ (U.tok _)
 |true=>exact u8 (DP d) hd dd.mapOf<|h _ (U.tok _)
def ae4{A:iE}{E:iY}(e:A.units+1<aS)(U:Inv X f g H s){H':Hp}{a b:hJ}{k:List Key}{Q:iY}(x:T2 X.prog X.w H' s.heap a (.dT []))(d:H b=Y (.tup<|k.map kV))(c:Bool)(h: ∀i,Inv X f g H i->Q (.bool c) i):
  af (aj X.prog X.w) A (aA (if c=J then .NotIn else .In) (.ref b)<|.ref a) Q E s:=by
 obtain⟨z,hd,u,r,o,l,j,h1,m,n,p,q⟩:=x;cases r;have dd:s.heap.DictOfH (dH<|kY X.prog X.w) a []:=⟨o,l,j,h1,m,n,p,(λx (t:x∈[])=>by simp at t),q⟩
 cases c with
 |false=>exact w5 (AS e) (zK U.hok d) hd dd<|h _ (U.tok _)
 |true=>exact rp (AS e) (zK U.hok d) hd dd<|h _ (U.tok _)
def yn(h:uH d k=J):(∃e,BW k=Y e/\ ∀x∈d,∃c,BW x=Y c)\/(∃i,Fl k=Y i/\ ∀x∈d,∃c,Fl x=Y c):=by
 unfold uH at h;rw[yZ,kU,kU,kf,kf] at h;rcases h with⟨h1,a⟩|⟨h1,a⟩
 .exact .inl ⟨_,(NT.mp h1).choose_spec,λx b=>NT.mp<|a x b⟩
 .exact .inr ⟨_,(NT.mp h1).choose_spec,λx b=>NT.mp<|a x b⟩
def Kg{a:List Key}{c:Key}(h:BW (.tup<|a.map ke)=Y c):False:=by cases h
def G4(h:Fl (ke k)=Y c):False:=by cases k<;>cases h
def VJ(z:A.units+1<aS)(I:Inv X f g H s)(q:C8 X.K (H a) .dct ks n us)(r:YP X.K H O n us)(hk:uH ks k=K0)(T:ky X.K H O k y)(o:RelV y u)(l:Bool)
  (h: ∀j,Inv X f g H j->Q (.bool<|xor l (mv ks n k).isSome) j):af (aj X.prog X.w) A (aA (if l=K0 then .NotIn else .In) u<|.ref a) Q E s:=by
 have nil: ∀n:List D,mv [] n k=KE:=λn=>by cases n<;>rfl
 rcases q with⟨i,e,rfl,rfl⟩|⟨i,e,rfl,rfl⟩
 .rcases yn hk with⟨B,h1,_⟩|⟨C',h1,M⟩
  .have:=vc h1 T;subst this;have G:=rm h1;subst G;obtain⟨F,P⟩:=Qm (k:=B) r
   have Y:(tw i B).isSome=(mv (i.map λp=>ke p.1) n<|ke B).isSome:=by
    cases x:mv (i.map λp=>ke p.1) n (ke B) with
    |none=>rw[P x];rfl
    |some d=>obtain⟨v,N,_⟩:=F d x;rw[N];rfl
   rw[<-Y] at h
   cases l with
   |false=>exact aaQ z I (JI.k e) o λj m=>by simpa using h j m
   |true=>exact Lx z I (JI.k e) o λj m=>by simpa using h j m
  .have J:i=[]:=by
    cases i with
    |nil=>rfl
    |cons p i=>obtain⟨c,U⟩:=M (ke p.1) (by simp);exact(G4 U).elim
   subst J;obtain⟨b,rfl,L⟩:=vb h1 T;cases o;rw[uh,nil] at h;exact ae4 z I (VM (H':=H)<|I.hok a _ e) L l λj m=>by simpa using h j m
 .rcases yn hk with⟨B,h1,M⟩|⟨C',h1,_⟩
  .have J:i=[]:=by
    cases i with
    |nil=>rfl
    |cons p i=>obtain⟨c,U⟩:=M (.tup<|p.1.map ke) (by simp);exact(Kg U).elim
   subst J;have:=vc h1 T;subst this;rw[uh,nil] at h;exact ae5 I (VL (H':=H)<|I.hok a _ e) o l λj m=>by simpa using h j m
  .obtain⟨b,rfl,L⟩:=vb h1 T;have G:=ym h1;subst G;obtain⟨F,P⟩:=Ql (k:=C') r
   have Y:(tw i C').isSome=(mv (i.map λp=> .tup (p.1.map ke)) n<|.tup<|C'.map ke).isSome:=by
    cases x:mv (i.map λp=> .tup (p.1.map ke)) n (.tup<|C'.map ke) with
    |none=>rw[P x];rfl
    |some d=>obtain⟨v,N,_⟩:=F d x;rw[N];rfl
   rw[<-Y] at h
   cases l with
   |false=>exact aaQ z I (JI.t e L) o λj m=>by simpa using h j m
   |true=>exact Lx z I (JI.t e L) o λj m=>by simpa using h j m
end
def X3(d e:D):Option Bool:=match e with
 | .R1 .dct a b=>if uH a d=J then Y (mv a b d).isSome else I
 |_=>P8 d e
def vB(d e:D):Option (D×Bool):=(X3 d e).map λb=>(.bl (!b),C)
section
variable {X:Cx}
def aeE(p:X.A.units+62<aS):BO X (aA .NotIn) (rD X.K vB):=by
 intro c s t U x y v u Q T l m h;obtain⟨O,d,e,z,np,h1,j,g,G⟩:=h;by_cases k: ∃f i,e= .R1 .dct f i
 .obtain⟨f,i,rfl⟩:=k;obtain⟨b,o,rfl⟩:=ja g;obtain⟨hk,rfl⟩:=iR (show(if uH f d=J then Y (mv f i d).isSome else I)=Y b from o);obtain⟨a,B,rfl,q,r⟩:=pH j;cases m;exact VJ (by lia) T q r hk h1 l J λw n=>⟨.bl _,U,n,by simp[L2.RelV],G.bl⟩
 .have:vB d e=vA d e:=by
   unfold vB X3 vA;split
   .exact absurd ⟨_,_,rfl⟩ k
   .rfl
  rw[this] at g;exact BI p c s t U x y v u Q T l m ⟨O,d,e,z,np,h1,j,g,G⟩
noncomputable def VI:F:=λa=>Y ((.R1 .dct [] [],J),a)
end
section
variable {K:iJ}{T:SI}{b:L2.St}{c:Dn}{H:Hp}{i:Nat}{d e:D}{a:hJ}{o:HO}
end
section
variable {X:Cx}{c:iX}{d:L2.St}{H:Hp}{s:ie}{a:hJ}
def WG(U:Inv X c d H s)(e:H a=Y (.dT [])):Inv X c d (upd H a<|.dK []) s:=by have:=vH (t':=s.toks) (h':=s.heap) U (by rw[e];exact bv) (EC a s.heap) (by obtain⟨z,y,g,r,o,f,b,h1,_⟩:=(show T2 X.prog X.w H s.heap a (.dT []) from U.hok a _ e);exact⟨o,h1⟩)<|VL (H':=upd H a<|.dK [])<|U.hok a _ e;exact this
def WE(U:Inv X c d H s)(e:H a=Y (.dK [])):Inv X c d (upd H a<|.dT []) s:=by have:=vH (t':=s.toks) (h':=s.heap) U (by rw[e];exact bv) (EC a s.heap) (by obtain⟨z,y,g,r,o,f,b,h1,_⟩:=(show T2 X.prog X.w H s.heap a (.dK []) from U.hok a _ e);exact⟨o,h1⟩)<|VM (H':=upd H a<|.dT [])<|U.hok a _ e;exact this
def Z2:UZ:=λo i v H Q=> ∃a,o= .ref a/\((∃e,JG H a i v e/\Q e)\/(∃f,H a=Y (.dT [])/\i=kV f/\Q (upd H a<|.dK [(f,v)]))\/
 (∃g b,H a=Y (.dK [])/\i= .ref b/\H b=Y (.tup<|g.map kV)/\Q (upd H a<|.dT [(g,v)])))
def afR(j:X.A.units+1<aS):YE X Z2:=by
 intro c s d H o i v E U u Q T x l m h;obtain⟨a,rfl,h⟩:=h;cases x;rcases h with⟨r,g,q⟩|⟨y,e,rfl,q⟩|⟨B,b,e,rfl,n,q⟩
 .exact zR j T g l m λp f=>⟨r,f,q⟩
 .refine zR j (WG T e) (JG.k (k:=y) (v:=v) iQ<|by rw[jT];decide) l m λp f=>⟨_,f,?_⟩
  rw[Ke];exact q
 .have w:b≠a:=Vr n e (λz=>nomatch z);refine zR j (WE T e) (JG.t (k:=B) (v:=v) (b:=b) iQ (by rw[iW w];exact n)<|by rw[jT];decide) l m λp f=>⟨_,f,?_⟩
  rw[Ke];exact q
end
section
variable {K:iJ}{H:Hp}{O:SI}
theorem OJ{k:Key}{w:D}{v:V}(d:Rep K H O w v): ∀{a:List (Key×V)} {b:List D},YP K H O b (a.map (·.2))->YP K H O (wd (a.map λp=>ke p.1) b (ke k) w) ((a.map λc=>if c.1=k then(c.1,v) else c).map (·.2))
 |[],b,h=>by cases b<;>simpa[wd] using h
 |(f,u)::a,[],h=>by rw[jG,YP] at h;cases h
 |(f,u)::a,i::b,h=>by
  rw[jG,YP] at h;obtain⟨x,r,e,h1,g⟩:=h;obtain⟨rfl,rfl⟩:=wL e;simp only[jG,wd,yB];refine YP.cons ?_<|OJ d g;by_cases hk:f=k
  .simp only[hk,yR,kI];exact d
  .simp only[hk,decide_false,jy,jS];exact h1
theorem OI{k:List Key}{w:D}{v:V}(d:Rep K H O w v): ∀{a:List (List Key×V)} {b:List D},YP K H O b (a.map (·.2))->YP K H O (wd (a.map λp=> .tup (p.1.map ke)) b (.tup<|k.map ke) w) ((a.map λc=>if c.1=k then(c.1,v) else c).map (·.2))
 |[],b,h=>by cases b<;>simpa[wd] using h
 |(f,u)::a,[],h=>by rw[jG,YP] at h;cases h
 |(f,u)::a,i::b,h=>by
  rw[jG,YP] at h;obtain⟨x,r,e,h1,g⟩:=h;obtain⟨rfl,rfl⟩:=wL e;simp only[jG,wd,D.O1,vE];refine YP.cons ?_<|OI d g;by_cases hk:f=k
  .simp only[hk,yR,kI];exact d
  .simp only[hk,decide_false,jy,jS];exact h1
def Vm(a:Rep K H O w v)(h:YP K H O b (kvs.map (·.2))):
  (vP (kvs.map λp=>ke p.1) b (ke k) w).1=(tx kvs k v).map (λp=>ke p.1)/\YP K H O (vP (kvs.map λp=>ke p.1) b (ke k) w).2 ((tx kvs k v).map (·.2)):=by
 have c:(kvs.map λp=>ke p.1).any (D.O1 · (ke k))=kvs.any λd=>decide (d.1=k):=by rw[wR];congr 1;funext p;exact yB _ _
 unfold vP tx;rw[c];split
 .refine⟨?_,OJ a h⟩;rw[jx];apply mW;intro p _;simp only[aX];split<;>rfl
 .exact⟨by simp,by rw[qj];exact h.append<|YP.one a⟩
def Vl{k:List Key}{w:D}{v:V}(b:Rep K H O w v){kvs:List (List Key×V)}{a:List D}(h:YP K H O a (kvs.map (·.2))):
  (vP (kvs.map λp=> .tup (p.1.map ke)) a (.tup<|k.map ke) w).1=(tx kvs k v).map (λp=> .tup (p.1.map ke))/\YP K H O (vP (kvs.map λp=> .tup (p.1.map ke)) a (.tup<|k.map ke) w).2 ((tx kvs k v).map (·.2)):=by
 have c:(kvs.map λp=>D.tup<|p.1.map ke).any (D.O1 · (.tup<|k.map ke))=kvs.any λd=>decide (d.1=k):=by rw[wR];congr 1;funext p;simp only[aX,D.O1,vE]
 unfold vP tx;rw[c];split
 .refine⟨?_,OI b h⟩;rw[jx];apply mW;intro p _;simp only[aX];split<;>rfl
 .exact⟨by simp,by rw[qj];exact h.append<|YP.one b⟩
end
def Gx(i:Nat)(f:F)(g:FO):FS:=λc=>(f c).bind λp=>match p.2[i]? with
 |some (Y _)=>(g p.2).bind λq=>match res q.2 q.1,q.2[i]? with
  |some k,Y (Y (.R1 .dct a b,J))=>if uH a k=J/\(Ls a)<10000 then Y (.nx<|q.2.set i<|Y (.R1 .dct (vP a b k p.1.1).1 (vP a b k p.1.1).2,J)) else I
  |_,_=>I
 |_=>I
section
variable {X:Cx}{e c:iq}{f:F}{g:FO}{b h a d:bq}{i:Nat}{x:ay}{A:jK}{L:LL}{j:Hp}
end
end PX
namespace TT
open PySem.SeqAt
structure GG(h:iK)(d:hJ)(es:Array dM)(ep:Nat):Prop where
 at_: ∃o,h.get? d=J4 o/\o.ExactDict/\o.data= .dict es ep
def GG.Aw{d b a}(x:GG h d b a)(k: ∀o,h.get? d=Y o->c.get? d=Y o):GG c d b a:=let⟨o,h1,r⟩:=x.at_;⟨o,k _ h1,r⟩
section
variable {c:iL}{w:iD}{A:iE}{E:iY}{s:ie}
def GG.typeIs{d b a}(x:GG s.heap d b a):s.TypeIs (.ref d) "dict":=let⟨o,h1,r,_⟩:=x.at_;⟨o,h1,r.1⟩
def Lf(hd:(d==br)=C)(e:GG s.heap d h g)
  (i:Q (.ref s.heap.objs.size) {s with heap:=s.heap.push {cls:= .type "dict_keyiterator",data:= .fields #[.ref d,.int 0 0,.int h.size 0,.int g 0]}}):af (aj c w) A (c1<|.ref d) Q E s:=by
 have b:=e.typeIs;obtain⟨o,f,j,a⟩:=e.at_;refine HK b Nk<|oo Nk b PySem.F.entry_dict_iter ?_<|PySem.F.args_dict_iter_1 _;unfold bb.«dict.__iter__»;refine hV ?_;unfold Builtin.Dict.dictSlotNone;refine hV<|wpAny_notOrdered_dict b ?_;change af _ _ (pure<|bj d) _ _ s;refine iw ?_;change af _ _ (Builtin.Dict.showsAll d>>=_) _ _ s;unfold Builtin.Dict.showsAll;rw[iG<|by rw[hd];exact ku];refine hV<|iw ?_;refine hV<|HG f a ?_;refine hV<|HF f a ?_;refine hV<|om<|iw ⟨_,rfl,"dict_keyiterator",_,⟨_,km _ rfl,rfl⟩,Ds.lookup,?_⟩;simpa[dA] using i
def ac9{it d:hJ}{i f:Nat}{b:Array dM}{e:dM}{Q:J5}(a:s.heap.IsKeyIter it d i b.size f)(q:GG s.heap d b f)(r:b[i]?=Y e)
  (n: ∀g,g.IsKeyIter it d (i+1) b.size f->aM it s.heap g->Q (Y e.key) {s with heap:=g}):af (aj c w) A (b9<|.ref it) Q E s:=by
 obtain⟨o,h,p,hd⟩:=id a;obtain⟨u,k,t,j⟩:=q.at_;unfold b9;refine hV<|ud<|xF (name:=bn "__next__") a.typeIs Ds<|oo Ds a.typeIs Nj ?_<|Ni _;refine hV<|iw ?_;refine hV ?_;refine hV ?_;refine hV<|Ef a.typeIs<|iw ?_;refine hV<|vl h hd ?_;have m:Builtin.Dict_items.ownsTuple "dict_keyiterator"=C:=by decide
 simp only[m,jy,jS];change af _ _ (if(bj d==av)=J then _ else _) _ _ s;rw[iG (show ¬((bj d==av)=J) from ku)];refine hV<|iw ?_;refine hV<|HG k j ?_;rw[iG<|by simp];refine hV<|iw ?_;refine hV<|HF k j ?_;rw[iG<|by simp];refine iw ?_;simp only[show ¬((i:Int)<0) from by lia,jS,tQ,r];refine hV ?_;refine hV<|Ef a.typeIs<|iw ?_;refine hV<|Nh a.typeIs ?_;change af _ _ (k8 (.ref it) 1 (dA<|(i:Int)+1)>>=_) _ _ s;refine hV<|wN h hd (by simp) ?_
 have l:(s.heap.update it (fL (·.setIfInBounds 1 (dA<|(i:Int)+1)))).IsKeyIter it d (i+1) b.size f:=
  ⟨_,uj _ h (Ey<|vU hd _),(Ex ..).trans p,by rw[vU hd];simp[dA]⟩
 refine hV<|lz ?_;refine hV (Nh (s:={s with heap:=s.heap.update it (fL (·.setIfInBounds 1 (dA<|(i:Int)+1)))}) l.typeIs ?_);change af _ _ (pure e.key) _ _ _;exact iw<|iw ⟨_,rfl,iw<|n _ l (sN ..)⟩
def adj(p:A.handled=I)(e:s.heap.IsKeyIter it d f.size f.size l)(q:GG s.heap d f l)
  (n: ∀i,dP it s.heap i->Q I {s with heap:=i}):af (aj c w) A (b9<|.ref it) Q E s:=by
 obtain⟨o,j,r,hd⟩:=id e;obtain⟨u,h,t,g⟩:=q.at_;unfold b9;refine hV<|ud<|xF (name:=bn "__next__") e.typeIs Ds<|oo Ds e.typeIs Nj ?_<|Ni _;refine hV<|iw ?_;refine hV ?_;refine hV ?_;refine hV<|Ef e.typeIs<|iw ?_;refine hV<|vl j hd ?_;have k:Builtin.Dict_items.ownsTuple "dict_keyiterator"=C:=by decide
 simp only[k,jy,jS];change af _ _ (if(bj d==av)=J then _ else _) _ _ s;rw[iG (show ¬((bj d==av)=J) from ku)];refine hV<|iw ?_;refine hV<|HG h g ?_;rw[iG<|by simp];refine hV<|iw ?_;refine hV<|HF h g ?_;rw[iG<|by simp];refine iw ?_;simp only[show ¬((f.size:Int)<0) from by lia,jS,tQ,Ek<|jM f.size];refine hV ?_;refine hV<|Ef e.typeIs<|iw ?_;change af _ _ (k8 (.ref it) 0 .none>>=_) _ _ s;refine hV<|wN j hd (by simp) ?_;change af _ _ (hZ (.type "StopIteration") []>>=_) _ _ _;refine hV ?_;simp -iota only[hZ,k9];refine hV<|om ?_ (by size_fits);refine hV (m:=cn _ _)<|vV (a:=av) (by first|rfl|(simp -iota only[cn];rfl)) ?_;refine om ?_ (by size_fits);simp -iota only[vu];refine hV<|Ig ?_;rw[show A.in1.handled=I from p];refine hV<|iw<|Ie ?_;refine hV<|A5 (T:="StopIteration") (b:=J) ⟨_,km _ rfl,rfl⟩ Ib ?_;exact iw<|n _ (((sN ..).extBut.push _).push _)
def Ht(n:A.handled=I)(U d:hJ)(q:U≠d)(a:Array dM)(l:Nat):wr c w A U [U,d] [U] a.size (λi v=> ∃e,a[i]?=Y e/\v=e.key) (λi h=>h.IsKeyIter U d i a.size l/\GG h d a l) where
 sub:=λb f=>by simp at f;simp[f]
 frame:=λ_ _ _ st hk=>⟨st.1.at λo e=>hk U (by simp) o e,st.2.Aw λo e=>hk d (by simp) o e⟩
 item:=λi s Q E p st g=>by have m:a[i]?=Y a[i]:=qk p;refine ac9 st.1 st.2 m λj t k=>?_;exact g _ j s.toks ⟨_,m,rfl⟩ ⟨t,st.2.Aw λo e=>k.extBut d o (λh=>q h.symm) e⟩ λb o f e=>k.extBut b o (λh=>f<|by simp[h]) e
 done:=λs Q E st g=>adj n st.1 st.2 λj r=>g j s.toks λb o f e=>r b o (λh=>f<|by simp[h]) e
 self:=λ_ _ _ _ st g=>wpAny_pyIter_keyiter st.1 g
def RB(hd:(a==br)=C)(p:A.handled=I)(S:GG s.heap a d n)(q:d.size<=sizeLine) 
  (j: ∀h r,(∀b o,s.heap.get? b=Y o->h.get? b=Y o)->Q (d.toList.map (·.key)) {s with heap:=h,toks:=r}):af (aj c w) A (eV<|.ref a) Q E s:=by
 have g:a<s.heap.objs.size:=let⟨_,h1,_⟩:=S.at_;jW h1;refine Ak (.inr ⟨rfl,rfl⟩) g (λx k=>(S.Aw k).typeIs) (Ht (by show A.handled=I;exact p) (s.heap.objs.size+1) a (sV<|rO g) d n) q (λi v ⟨e,m,hv⟩=>?_) (by rw[jf,kL]) (λl t k=>?_) j
 .rw[kl,lK,m,hv];rfl
 .have f:GG (s.heap.push l) a d n:=S.Aw λo e=>jU _ e;have ext: ∀(u:eE) b o,(s.heap.push l).get? b=Y o->((s.heap.push l).push u).get? b=Y o:=λu b o e=>jU _ e;refine Lf (s:={s with heap:=s.heap.push l}) hd f ?_;have z:(s.heap.push l).objs.size=s.heap.objs.size+1:=vX _ _;have:=k _ ⟨show((s.heap.push l).push {cls:= .type "dict_keyiterator",data:= .fields #[.ref a,.int 0 0,.int d.size 0,.int n 0]}).IsKeyIter (s.heap.objs.size+1) a 0 d.size n from⟨_,by rw[<-z];exact km _ rfl,rfl,rfl⟩,f.Aw λo e=>ext _ _ _ e⟩ (ext _);rw[<-z] at this;exact this
end
end TT
namespace PX
open L2 PySem.SeqAt TS
def nr(d:D):Option (D×Bool):=match d with
 | .R1 .dct a b=>if(a.all λk=>(BW k).isSome)=J/\a≠[] then jY a else I
 |_=>rn d
section
variable {X:Cx}
def Dt{P:iL}{w:iD}{e:List dM}{f:List (Key×ir)}{a:List (Key×V)}(h:Pairs (kY P w) e f)(q:KV a f):Vals (a.map λp=>kV p.1) (e.map (·.key)):=by
 induction h generalizing a with
 |nil=>cases q;exact .nil
 |cons h1 j t g=>
  obtain _|⟨r,q⟩:=q;refine .cons ?_<|g q;dsimp only;rw[r.1];rcases kM (show BX _ _=J from h1) with⟨i,d,b,c⟩|⟨x,d,b,c⟩
  .rw[b,c];exact⟨d,rfl⟩
  .rw[b,c];exact⟨d,rfl⟩
theorem zw{K:iJ}{U:Hp}{O:SI}: ∀(a:List (Key×V)),YP K U O (a.map λp=>ke p.1)<|a.map λp=>kV p.1
 |[]=>YP.nil
 |(k,v)::a=>by
  refine YP.cons ?_<|zw a
  cases k with
  |inl i=>exact Rep.mkInt
  |inr x=>exact Rep.mkStr
def Vp{X:Cx}{id:String}{g f:D->Option (D×Bool)}(i:kG X (.builtin id) (GR X.K<|g1 f)){c:iX}{s:ie}{e:L2.St}{U:Hp}{x:V}{u:ir}{Q:VK}{O:SI}{d:D}{z:D×Bool}(T:Inv X c e U s)(k:L2.RelV x u)(np: ∀p,¬Ow (U p)-> ¬O p)(hd:ky X.K U O d x)(h:f d=Y z)(G:Gen X.K U O z Q):
  af (aj X.prog X.w) X.A (call (.builtin id) [u]) (EP X c e Q) X.xe s:=
 i c s e U [x] [u] Q T (.cons k .nil) ⟨O,[d],z,np,rfl,(λj l m a b=>by
   cases j with
   |zero=>simp at a b;subst a;subst b;exact hd
   |succ j=>simp at a),h,G⟩
def Ta(a:Gl X x)(b:X.mg x=Y (.int i t))(hd:(x==("__debug__":ay))=C):PX X (.Name x pos) (fC<|.int i):=PX.imp (Kz (v:= .int i) a b ⟨t,rfl⟩ hd) λf U Q h=>by obtain⟨d,T,r,c,E,e,k⟩:=h;cases e;exact k _ _ (Ms.val .refl E Rep.mkInt)
def S9(a:Gl X x)(b:X.mg x=Y (.str i t))(hd:(x==("__debug__":ay))=C):PX X (.Name x pos) (fC<|.str i):=PX.imp (Kz (v:= .str i) a b ⟨t,rfl⟩ hd) λf U Q h=>by obtain⟨d,T,r,c,E,e,k⟩:=h;cases e;exact k _ _ (Ms.val .refl E Rep.mkStr)
noncomputable def OD:FS:=λ_=>I
end
section
variable {X:Cx}{e:iq}{f:F}{b d a c:bq}{i:Nat}{x:ay}
end
structure PXs(X:Cx)(es:kj)(fs:List F):Prop where
 pa:PA X es (tA X.K<|fs.map iu)
section
variable {X:Cx}{e:iq}{b:kj}{f:F}{fs:List F}{a:bq}
end
structure QX(X:Cx)(e:iq)(f:F):Prop where
 h:PX X e f
structure QO(X:Cx)(e:iq)(f:FO):Prop where
 h:PX.PO X e f
structure QA(X:Cx)(es:kj)(fs:List FO):Prop where
 h:PA X es (tA X.K fs)
structure QL(X:Cx)(es:kj)(fs:List F):Prop where
 h:PXs X es fs
structure QT(X:Cx)(e:iq)(f:FT):Prop where
 h:PU X e f
structure QW(X:Cx)(e:iq)(f:FT):Prop where
 h:PWX X e f
structure QG(X:Cx)(A:jK)(e:iq)(t:Tg):Prop where
 h:ME X A e t
structure QI(X:Cx)(B:SB)(tg e:iq)(f:Cf):Prop where
 h:MP X B tg e f
structure QF(X:Cx)(es:kj)(f:FT):Prop where
 h:Jv X es (tT X.K f)
structure QB(X:Cx)(A:jK)(d:hJ)(e:iq)(n:Nat)(f:FB):Prop where
 h:PB X (je e n (.ref d) X.env) (JM K2 X.K A d f)
structure QS(X:Cx)(A:jK)(L:LL)(H0:Hp)(st:aV)(f:FS):Prop where
 h:Mz X A L H0 st f
structure QQ(X:Cx)(A:jK)(L:LL)(H0:Hp)(st:List aV)(f:FS):Prop where
 h:F3 X A L H0 st f
structure QC(X:Cx)(v:ir)(g:List D->Option (D×Bool)):Prop where
 h:kG X v (GR X.K g)
structure QP(X:Cx)(o:zW)(g:D->D->Option (D×Bool)):Prop where
 h:BO X o (rD X.K g)
abbrev SE(X:Cx)(e:iq)(a:kj):Prop:=ag (e::a) X.env=(C,aQ e X.env)::ag a X.env
abbrev BA(X:Cx)(p:bq)(a:kj):Prop:=(aF p<|ag a X.env).any (·.1)=C
abbrev DB(x:ay):Prop:=(x==("__debug__":ay))=C
abbrev un(A:iE)(n:Nat):Prop:=A.units+n<aS
structure ZZ where
 P:iL
 w:iD
 K:iJ
 mg:ay->Option ir
 base:iK
def Oz(Z:ZZ)(k:Nat)(x:ay)(b:iI)(c:Ap):Prop:= ∃f a,Df Z.P Z.w Z.K Z.mg Z.base FK k f a b (IU Z.K c)/\Z.mg x=Y (.ref f)/\ca Z.K (.ref f)=J/\Binds Z.K a b []
def Oz.up{Z:ZZ}{k j:Nat}{x:ay}{d:iI}{c:Ap}(o:Oz Z k x d c)(h:k<=j:=by decide):Oz Z j x d c:=let⟨f,e,a,b⟩:=o;⟨f,e,a.mono h,b⟩
noncomputable abbrev zX(X:Cx):ZZ:=⟨X.prog,X.w,X.K,X.mg,X.base⟩
noncomputable def LY:List (ay×ir):=[("len",.builtin "len"),("abs",.builtin "abs"),("int",.type "int"),("tuple",.type "tuple"),("list",.type "list"),("bool",.type "bool"),("max",.builtin "max"),("min",.builtin "min"),("all",.builtin "all"),("any",.builtin "any"),("sorted",.builtin "sorted"),("set",.type "set")]
def btA{c:lN}(T:Tx c): ∀p∈LY,c p.1=I/\aH p.1=Y p.2:=by
 have h: ∀p∈LY,aH p.1=Y p.2:=by decide+kernel
 intro p b;refine⟨?_,h p b⟩;have a:p∈LY:=b;unfold LY at a;simp only[mz,ql,or_false] at a;rcases a with rfl|rfl|rfl|rfl|rfl|rfl|rfl|rfl|rfl|rfl|rfl|rfl
 .exact T.n_len
 .exact T.n_abs
 .exact T.n_int
 .exact T.n_tuple
 .exact T.n_list
 .exact T.n_bool
 .exact T.n_max
 .exact T.n_min
 .exact T.n_all
 .exact T.n_any
 .exact T.n_sorted
 .exact T.n_set
theorem Jz{z:ay}{v:ir}: ∀{l:List (ay×ir)},l.lookup z=Y v->(z,v)∈l
 |[],h=>by cases h
 |(y,u)::l,h=>by
  rw[oS] at h;split at h
  .rename_i q;cases h;rw[vZ q];exact .head _
  .exact .tail _ (Jz h)
def Mx{a:lN}{z:ay}{v:ir}(T:Tx a)(h:LY.lookup z=Y v):a z=I:=(btA T _ (Jz h)).1
def PK{z:ay}{v:ir}(h:LY.lookup z=Y v):aH z=Y v:=(show ∀p∈LY,aH p.1=Y p.2 from by decide+kernel) _ (Jz h)
section
variable {X:Cx}{x z:ay}{e a b c st lo G:iq}{J:kj}{U fb fc fo fl fh:FO}{f g:F}{Y fu:FT}{p p2 p3 m M apos:bq}{A:jK}{L:LL}{B:SB}{H0:Hp}{fs:List FO}{cV:List F}{i j k:Nat}{tg:iq}{S:aV}{Ss Ts:List aV}{u v:FS}
def xV(h1:X.N[i]?=J4 x:=by rfl)(l:JU X.env.scope x:=by first|exact aW rfl|exact bB (aW H)|exact bB<|bB H)(n:DB x:=by decide)(r:(x==("__classdict__":ay))=C:=by decide):QO X (.Name x m) (hX i):=⟨PE.imp' (xj h1 l n r) λy O Q h=>by
 obtain⟨s,T,o,t,E,e,k⟩:=h;unfold hX at e
 cases G:s[i]? with
 |none=>rw[G] at e;cases e
 |some q=>
  cases q with
  |none=>rw[G] at e;cases e
  |some p=>obtain⟨d,b⟩:=p;rw[G] at e;obtain⟨rfl,rfl⟩:=iP e;obtain⟨w,v,h1,l⟩:=E.freeze G;exact⟨v,h1,k v O ⟨.refl,E,h1⟩⟩⟩
def xW(h1:X.N[i]?=J4 x:=by rfl)(l:JU X.env.scope x:=by first|exact aW rfl|exact bB (aW H)|exact bB<|bB H)(q:DB x:=by decide)(s:(x==("__classdict__":ay))=C:=by decide):QX X (.Name x m) (jX i):=⟨PX.imp (xj h1 l q s) λy O Q h=>by
 obtain⟨t,T,r,w,E,e,k⟩:=h;unfold jX at e
 cases G:t[i]? with
 |none=>rw[G] at e;cases e
 |some o=>
  cases o with
  |none=>rw[G] at e;cases e
  |some p=>obtain⟨d,b⟩:=p;rw[G] at e;cases e;obtain⟨n,v,h1,l⟩:=E.freeze G;exact⟨v,h1,k v O<|Ms.val .set n l⟩⟩
def xO(h:QX X e f):QO X e (iu f):=⟨PX.po h.h⟩
def x1{j}:QX X (.Constant .none j m) (fC .T1):=⟨PX.imp Xg λn O Q h=>by obtain⟨l,T,r,d,E,e,k⟩:=h;cases e;exact k _ _ (Ms.val .refl E (by first|exact Rep.mkInt|exact Rep.Jl|exact Rep.GZ|exact Rep.mkStr))⟩
def x2{i j}:QX X (.Constant (.bool i) j m) (fC<|.bl i):=⟨Z5⟩
def x3{i j}:QX X (.Constant (.int i) j m) (fC<|.int i):=⟨PX.imp Pw λl O Q h=>by obtain⟨δ,T,r,d,E,e,k⟩:=h;cases e;exact k _ _ (Ms.val .refl E (by first|exact Rep.mkInt|exact Rep.Jl|exact Rep.GZ|exact Rep.mkStr))⟩
def x4{i j}:QX X (.Constant (.str i) j m) (fC<|.str i):=⟨PX.imp Xd λn O Q h=>by obtain⟨l,T,r,d,E,e,k⟩:=h;cases e;exact k _ _ (Ms.val .refl E (by first|exact Rep.mkInt|exact Rep.Jl|exact Rep.GZ|exact Rep.mkStr))⟩
def x5{i:Int}(h: ∃t,X.mg x=J4 (.int i t))(g:Gl X x:=by rfl)(d:DB x:=by decide):QX X (.Name x m) (fC<|.int i):=let⟨_,h⟩:=h;⟨Ta g h d⟩
def x6{i:ay}(h: ∃t,X.mg x=J4 (.str i t))(g:Gl X x:=by rfl)(d:DB x:=by decide):QX X (.Name x m) (fC<|.str i):=let⟨_,h⟩:=h;⟨S9 g h d⟩
def x7:QX X (.Dict [] [] m) VI:=⟨PX.imp Py λq O Q h=>by obtain⟨o,T,n,l,E,e,k⟩:=h;cases e;intro p d;have B:=Ops.nil E;exact(B.done k) p _ d (lL d) ⟨[],.inl ⟨[],iQ,rfl,rfl⟩,YP.nil⟩⟩
def kR{d:Operator}{g:D->D->Option (D×Bool)}(o:QP X (aU d) g)(l:QO X a U)(n:QO X b fb):QX X (.BinOp a d b m) (iF g U fb):=⟨px2<|Z9 o.h l.h n.h⟩
def An(d:QO X a U):QX X (.UnaryOp .USub a m) (sy B9 U):=⟨px1<|Z8 Su d.h⟩
def abj(s:QX X a f):QX X (.UnaryOp .Not a m) (Yk f):=⟨PX.imp (Xf s.h) λO H Q t=>by obtain⟨y,T,r,N,E,e,k⟩:=t;obtain⟨p,h1,e⟩:=hG e;obtain⟨⟨c,I⟩,q,n⟩:=hG e;obtain⟨o,rfl⟩:=CN q;obtain⟨rfl,rfl⟩:=iP n;refine⟨y,T,_,_,E,h1,λv l P=>?_⟩;obtain⟨d,w⟩:=P.rep E;exact⟨c,w.bl,k _ l (Ms.val P.1 d Rep.Jl)⟩⟩
def C1{d:cB}{g:D->D->Option (D×Bool)}(o:QP X (aA d) g)(l:QO X a U)(n:QO X b fb)(q:cO d b=C:=by first|exact P9 _|with_unfolding_all rfl):QX X (.Compare a [d] [b] m) (iF g U fb):=⟨px2<|TF o.h l.h n.h q⟩
def Au{d:cB}{g:D->D->Option (D×Bool)}(o:QP X (aA d) g)(l:QO X a U)(n:QO X b fb)(q:cO d b=C:=by first|exact P9 _|with_unfolding_all rfl):QT X (.Compare a [d] [b] m) (fT<|iF g U fb):=⟨
 PT.imp' (Tj o.h l.h n.h q) λs T Q r=>TZ Z3<|U9 r⟩
def xCh{d l:cB}(n:QO X a U)(o:QO X b fb)(q:QO X c fc)(t:DS d:=by first|exact .inl rfl|exact .inr (.inl H)|exact .inr (.inr<|.inl H)|exact .inr<|.inr<|.inr H)(w:DS l:=by first|exact .inl rfl|exact .inr (.inl H)|exact .inr (.inr<|.inl H)|exact .inr<|.inr<|.inr H)(r:lastMarks [d,l] [b,c]=C:=by with_unfolding_all rfl):QX X (.Compare a [d,l] [b,c] m) (Cn d l U fb fc):=⟨
 PX.imp (Pz (KH t) (KH w) n.h o.h q.h r) λy T Q s=>afh s⟩
def Mf{op}(d:QX X a f):QX X (.BoolOp op [a] m) f:=⟨Xe d.h⟩
def F7(I:QX X a f)(O:QX X (.BoolOp .And (b::J) m) g):QX X (.BoolOp .And (a::b::J) m) (zQ f g):=⟨PX.imp (Xk I.h O.h) λK H Q N=>by
 obtain⟨F,T,r,l,E,e,k⟩:=N;obtain⟨p,h1,e⟩:=hG e;obtain⟨⟨c,n⟩,C,d⟩:=hG e;obtain⟨o,rfl⟩:=CN C;refine⟨F,T,_,_,E,h1,λv s P=>?_⟩;obtain⟨q,D⟩:=P.rep E;refine⟨c,D.bl,?_⟩
 cases c with
 |true=>rw[iz K3] at d;rw[iz K3];exact⟨n,T,r,l,q,d,λw t y=>k w t<|y.pre P.1⟩
 |false=>rw[iG ku] at d;rw[iG ku];obtain⟨rfl,rfl⟩:=iP d;exact k _ s (Ms.val P.1 q Rep.Jl)⟩
def ZC(y:QT X a Y)(C:QW X (.BoolOp .And (b::J) m) fu):QW X (.BoolOp .And (a::b::J) m) (Ah Y fu):=⟨PW.imp' (WZ y.h C.h) λN H Q I=>by
 obtain⟨O,T,c,l,E,e,k⟩:=I;obtain⟨⟨q,d⟩,h1,e⟩:=hG e;refine⟨O,T,q,d,E,h1,λs o n=>?_⟩
 cases q with
 |true=>rw[iz K3] at e;rw[iz K3];exact⟨d,T,c,l,n,e,λt w r=>k t (o.trans w) r⟩
 |false=>rw[iG ku] at e;rw[iG ku];obtain⟨rfl,rfl⟩:=iP e;exact k s o n⟩
def N8(y:QT X a Y)(C:QW X (.BoolOp .Or (b::J) m) fu):QW X (.BoolOp .Or (a::b::J) m) (Di Y fu):=⟨PW.imp' (Z6 y.h C.h) λN H Q I=>by
 obtain⟨O,T,c,l,E,e,k⟩:=I;obtain⟨⟨q,d⟩,h1,e⟩:=hG e;refine⟨O,T,q,d,E,h1,λs o n=>?_⟩
 cases q with
 |true=>rw[iz K3] at e;rw[iz K3];obtain⟨rfl,rfl⟩:=iP e;exact k s o n
 |false=>rw[iG ku] at e;rw[iG ku];exact⟨d,T,c,l,n,e,λt w r=>k t (o.trans w) r⟩⟩
def U6(d:QT X a Y):QW X (.BoolOp .And [a] m) Y:=⟨Th d.h⟩
def N6(d:QT X a Y):QW X (.BoolOp .Or [a] m) Y:=⟨WY d.h⟩
def tW{op}(h:QW X (.BoolOp op J m) Y):QT X (.BoolOp op J m) Y:=⟨PW.pt h.h⟩
def IT(n:QT X a Y):QT X (.UnaryOp .Not a m) (rA Y):=⟨PT.imp' (W5 n.h) λs O Q o=>by obtain⟨q,T,c,r,E,e,k⟩:=o;obtain⟨⟨l,d⟩,h1,e⟩:=hG e;obtain⟨rfl,rfl⟩:=iP e;exact⟨q,T,l,d,E,h1,k⟩⟩
def zo(h:QX X e f)(l: ∀d,isTrue e X.env d=(do let v <-d;b4 e.pos;bV [v] (hD v)):=by intro _;rfl):QT X e (fT f):=⟨PT.imp' (W4 h.h l) λo T Q n=>U9 n⟩
def N7(C:QT X c Y)(t:QX X a f)(y:QX X b g):QX X (.IfExp c a b m) (MC Y f g):=⟨PX.imp (Px C.h t.h y.h) λD H Q I=>by
 obtain⟨O,T,r,l,E,e,k⟩:=I;obtain⟨⟨c,d⟩,h1,e⟩:=hG e;refine⟨O,T,c,d,E,h1,λN s q=>?_⟩
 cases c with
 |true=>rw[iz K3] at e;rw[iz K3];exact⟨d,T,r,l,q,e,λw n o=>k w n<|o.pre s⟩
 |false=>rw[iG ku] at e;rw[iG ku];exact⟨d,T,r,l,q,e,λw n o=>k w n<|o.pre s⟩⟩
def ET(d:QO X a U)(l:QO X b fb)(n:LO b:=by exact λ_ _=>rfl):QX X (.Subscript a b m) (iF Ct U fb):=⟨px2<|aaa aat d.h l.h n⟩
def Wj(s:QO X a U)(t:QO X G fh):QX X (.Subscript a (.Slice KE (J4 G) KE p2) m) (DW U fh):=⟨
 PX.imp (Pr abx s.h Tt<|Tr t.h) λR H Q y=>by
  obtain⟨N,T,P,D,E,e,k⟩:=y;unfold DW at e;obtain⟨⟨q,d⟩,h1,e⟩:=hG e;obtain⟨⟨O,n⟩,r,e⟩:=hG e;dsimp only at e;split at e
  .rename_i i G;obtain⟨x,C,e⟩:=hG e;obtain⟨z,I,e⟩:=hG e;obtain⟨rfl,rfl⟩:=iP e;refine⟨N,T,q,d,E,h1,λv F l=>⟨d,F1 T q v,O,n,l.er E,r,λu K o=>?_⟩⟩;have B:=Ops.cons E l<|Ops.cons (l.er E) o<|Ops.nil<|o.er<|l.er E;exact⟨i,jd<|B.view (j:=1) K3 K3 G,_,x,z,λp w=>B.np w,B.view (j:=0) K3 K3 C,I,B.done k⟩
  .cases e⟩
def FE:QL X [] []:=⟨⟨Fb⟩⟩
def xL(d:QX X e f)(l:QL X J cV)(n:SE X e J:=by rfl):QL X (e::J) (f::cV):=⟨⟨BG (PX.po d.h) l.h.pa n⟩⟩
def VP:QA X [] []:=⟨Fb⟩
def xA(d:QO X e U)(l:QA X J fs)(n:SE X e J:=by rfl):QA X (e::J) (U::fs):=⟨BG d.h l.h n⟩
def C0{k}(h:QL X J cV):QX X (.Tuple J k m) (yx cV):=⟨WQ h.h.pa⟩
def qB(h:QL X J cV):QX X (.List J m) (nG cV):=⟨WW h.h.pa⟩
def xB{id:String}{g:List D->Option (D×Bool)}(T:Tx X.mg)(hv:LY.lookup z=J4 (.builtin id))(n:QC X (.builtin id) g)(l:QA X (e::J) fs)(q:Gl X z:=by rfl)(r:z≠"__name__":=by decide)(s:DB z:=by decide)(o:SE X e J:=by rfl)(d:BA X m J:=by rfl):QX X (.Call (.Name z p) (e::J) [] m) (iO g fs):=⟨Tf n.h q (Mx T hv) (PK hv) l.h r s o d⟩
def xT{id:String}{g:List D->Option (D×Bool)}(T:Tx X.mg)(hv:LY.lookup z=J4 (.type id))(n:QC X (.type id) g)(l:QA X (e::J) fs)(q:Gl X z:=by rfl)(r:z≠"__name__":=by decide)(s:DB z:=by decide)(o:SE X e J:=by rfl)(d:BA X m J:=by rfl):QX X (.Call (.Name z p) (e::J) [] m) (iO g fs):=⟨S6 n.h q (Mx T hv) (PK hv) l.h r s o d⟩
def xI{t:Ty}(T:Tx X.mg)(d:LY.lookup z=J4 (.type t.n))(q:QO X e U)(r:Gl X "isinstance":=by rfl)(l:Gl X z:=by rfl)(s:z≠"__name__":=by decide)(w:DB z:=by decide)
  (s1:SE X e [.Name z p2]:=by rfl)(y:SE X (.Name z p2) []:=by rfl)(o:BA X m [.Name z p2]:=by rfl):
  QX X (.Call (.Name "isinstance" p) [e,.Name z p2] [] m) (sy (JH [t]) U):=⟨WX q.h r T.n_isinstance l (Mx T d) (PK d) s w adA s1 y o⟩
def xU{k:Nat}{y:iI}{d:Ap}(O:Oz (zX X) k x y d)(t:AP k X.A)(o:QA X (e::J) fs)(r:Gl X x:=by rfl)(w:DB x:=by decide)
  (q:SE X e J:=by rfl)(n:BA X m J:=by rfl):QX X (.Call (.Name x p) (e::J) [] m) (iB d fs):=
 let⟨_,_,ok,s,kp,l⟩:=O;⟨S0 ok t r s kp l o.h w q n⟩
def Zw{T:String}{d:List D->D}{o:Bool}(l:Tx X.mg)(hv:LY.lookup z=J4 (.type T))(t:QA X [a,b] [U,fb])(s:(T="list"/\d= .lst/\o=K0)\/(T="tuple"/\d= .tup/\o=C):=by first|exact .inl ⟨rfl,rfl,rfl⟩|exact .inr ⟨rfl,rfl,rfl⟩)(w:X.calm=K0:=by rfl)(y:Gl X z:=by rfl)(Q:z≠"__name__":=by decide)(E:DB z:=by decide)(q:Gl X "range":=by rfl)
  (s1:SE X (.Call (.Name "range" p2) [a,b] [] p3) []:=by rfl)(O:SE X a [b]:=by rfl)
  (r:BA X m []:=by rfl)(n:BA X p3 [b]:=by rfl):
  QX X (.Call (.Name z p) [.Call (.Name "range" p2) [a,b] [] p3] [] m) (iO (MY d o) [U,fb]):=⟨WS s w y (Mx l hv) (PK hv) Q E q l.n_range t.h s1 O r n⟩
def NY(hv:QO X (.Name x M) (hX i))(he:QX X e f)(i9:b3 (.Name x M) "append" X.env (aQ (.Name x M) X.env)=aQ (.Name x M) X.env:=by rfl)
  (r8:((aF m<|ag [e] X.env).all (λx=>!x.1)&&(cq m<|bM [] X.env).all (λx=>x.1.isSome)&&decide ([e].length+([]:List cP).length+(if([]:List cP).isEmpty then 0 else 1)<30))=K0:=by rfl)
  (i8:(apos.endLine==m.line)=K0:=by rfl)(I:SE X e []:=by rfl)(f7:BA X m []:=by rfl):QX X (.Call (.Attribute (.Name x M) "append" apos) [e] [] m) (mK i f):=⟨
 PX.imp (Vo HE PySem.F.slot_list_append PySem.F.type_list_append afG hv.h (oY he.h uy I) i9 r8 i8 I f7) λσ H Q W=>by
 obtain⟨o,T,rr,δ',E,e,k⟩:=W;unfold mK at e;split at e
 .rename_i l0 w;obtain⟨⟨r,q⟩,h1,e⟩:=hG e;dsimp only at e;split at e
  .rename_i l C;obtain⟨Z,e⟩:=iR e;obtain⟨rfl,rfl⟩:=tM e;refine⟨o,T,.slot i,o,E,by unfold hX;rw[w],λv H1 P=>?_⟩;obtain⟨K,n,d⟩:=P;obtain⟨a,g1,V,g2,g3⟩:=n.own i _ w;rw[d] at g1;cases g1;refine⟨.inl ⟨rfl,V,FV.of g2⟩,o,T,r,q,n,h1,λy H2 t=>?_⟩;obtain⟨s,ry⟩:=t.rep n;obtain⟨a',O,xs,q2,N⟩:=s.own i _ C;rw[d] at O;cases O;refine⟨_,xs,y,rfl,rfl,q2,by rw[N.length];exact Z,?_⟩;obtain⟨D,R⟩:=s.write C d<|N.append<|YP.one ry;exact k _ _ (Ms.val ((K.trans t.1).trans R) D Rep.GZ)
  .cases e
 .cases e⟩
def abi(hv:QO X (.Name x M) (hX i))(he:QO X e fo)(i9:b3 (.Name x M) "pop" X.env (aQ (.Name x M) X.env)=aQ (.Name x M) X.env:=by rfl)
  (r8:((aF m<|ag [e] X.env).all (λx=>!x.1)&&(cq m<|bM [] X.env).all (λx=>x.1.isSome)&&decide ([e].length+([]:List cP).length+(if([]:List cP).isEmpty then 0 else 1)<30))=K0:=by rfl)
  (i8:(apos.endLine==m.line)=K0:=by rfl)(hs:SE X e []:=by rfl)(f7:BA X m []:=by rfl):QX X (.Call (.Attribute (.Name x M) "pop" apos) [e] [] m) (Cm i fo):=⟨
 PX.imp (Vo HE Ng Nf Qd hv.h (oY he.h uy hs) i9 r8 i8 hs f7) λσ H Q hw=>by
 obtain⟨I,T,rr,δ',E,e,k⟩:=hw;unfold Cm at e;split at e
 .rename_i l0 D;obtain⟨⟨o,r⟩,h1,e⟩:=hG e;dsimp only at e;split at e
  .rename_i V l hk F;split at e
   case isFalse=>cases e
   rename_i R;obtain⟨j,hj,e⟩:=hG e;obtain⟨d,hd,e⟩:=hG e;obtain⟨rfl,rfl⟩:=iP e;refine⟨I,T,.slot i,I,E,by unfold hX;rw[D],λv H1 P=>?_⟩;obtain⟨K1,s,q⟩:=P;obtain⟨a,g1,eY,g2,g3⟩:=s.own i _ D;rw[q] at g1;cases g1;refine⟨.inl ⟨rfl,eY,FV.of g2⟩,I,T,o,r,s,h1,λy H2 N=>?_⟩;have B:=Ops.cons s N<|Ops.nil<|N.er s;have vy:=jd<|B.view (j:=0) K3 K3 hk;have O:ER X.K H2 T σ r:=B.er.mono (λ_ _ e _=>e) (λb _ z=>B.tt b z) λa z=>B.er.dom a<|B.tt a z;obtain⟨a',W,Z,q2,C⟩:=O.own i _ F;rw[q] at W;cases W;obtain⟨w,w1,w2⟩:=C.get hd;have hl:=C.length;have fS:Gf Z.length V=J4 j:=by rw[hl];exact hj
   obtain⟨s1,s2,s3,s4⟩:=Fm fS;obtain⟨E3,t⟩:=O.write F q<|YP.erase j C;refine⟨_,Z,V,j,w,rfl,by rw[vy],q2,R.1,R.2,s1,w1,?_⟩;exact k _ _ (Ms.val ((K1.trans B.keep).trans t) E3<|Rep.mono (λb o e n=>t.kp b o e λz=>n<|.inl z) (λb _ z=>z.imp (t.ow b) id) w2)
  .cases e
 .cases e⟩
def MX(T:Tx X.mg)(w:QA X [a] [U])(y:Gl X "range":=by rfl)(I:ag [a] X.env=[(K2,aQ a X.env)]:=by rfl):QI X B tg (.Call (.Name "range" p) [a] [] m) (B6 U):=⟨PI.imp' (afw y T.n_range w.h I) λK H R O=>by
 obtain⟨Q,T,F,N,E,e,k⟩:=O;obtain⟨⟨os,l⟩,h1,e⟩:=hG e;refine⟨Q,T,os,l,E,h1,λo q D B=>?_⟩;dsimp only at e;split at e
 .rename_i j n;obtain⟨⟨s,t⟩,e⟩:=iR e;obtain⟨rfl,rfl⟩:=tM e;have hv:=vd B n (j:=0) K3;obtain⟨C,_⟩:=pP n
  have:o=[.int j]:=by
   have d:=B.len
   cases o with
   |nil=>simp at hv
   |cons v r=>
    cases r with
    |nil=>simp at hv;rw[hv]
    |cons _ _=>simp at C d;lia
  exact⟨j,this,s,t,k _ q B.keep (B.er.mono (λ_ _ e _=>e) (λb _ z=>B.tt b z) λa z=>B.er.dom a<|B.tt a z) (B7 0 j.toNat)⟩
 .cases e⟩
def iR2(T:Tx X.mg)(C:QA X [a,b] [U,fb])(I:Gl X "range":=by rfl)(Q:ag [a,b] X.env=[(K2,aQ a X.env),(K2,aQ b X.env)]:=by rfl)(w:ag [b] X.env=[(K2,aQ b X.env)]:=by rfl):QI X B tg (.Call (.Name "range" p) [a,b] [] m) (BZ U fb):=⟨PI.imp' (afv I T.n_range C.h Q w) λV H R N=>by
 obtain⟨D,T,P,F,E,e,k⟩:=N;obtain⟨⟨os,o⟩,h1,e⟩:=hG e;refine⟨D,T,os,o,E,h1,λq s K B=>?_⟩;dsimp only at e;split at e
 .rename_i i j n;obtain⟨t,e⟩:=iR e;obtain⟨rfl,rfl⟩:=tM e;have hv:=vd B n (j:=0) K3;have l:=vd B n (j:=1) K3;obtain⟨O,_⟩:=pP n
  have:q=[.int i,.int j]:=by
   have d:=B.len
   match q,hv,l with
   |[x,y],hv,l=>simp at hv l;rw[hv,l]
   |x::y::z::r,_,_=>simp at O d;lia
  exact⟨i,j,this,t,k _ s B.keep (B.er.mono (λ_ _ e _=>e) (λb _ z=>B.tt b z) λa z=>B.er.dom a<|B.tt a z) (B7 i (j-i).toNat)⟩
 .cases e⟩
def iS(h:QX X e f):QI X B tg e (jB f):=⟨PI.imp' (Pk (B:=B) (PX.po h.h) SH) λr T R l=>by
 have:jB f=JD (iu f):=funext λn=>by
  unfold jB JD iu
  cases f n with
  |none=>rfl
  |some p=>obtain⟨⟨d,o⟩,q⟩:=p;cases d<;>rfl
 rwa [this] at l⟩
def gN(l:X.N.Nodup)(G:X.N[i]?=J4 x:=by rfl)(s:Loc X.env.scope x:=by first|exact aW rfl|exact bB H)(o:X.fn x=K0\/X.env.scope.names.lookup x=J4 .local:=by first|exact aW rfl|exact bB H)(n:A i:=by decide):QG X A (.Name x m) (ik i):=⟨PG.imp' (Kx l G s o) λv y O Q q=>by obtain⟨w,T,d,t,E,r,e,k⟩:=q;obtain⟨G,rfl⟩:=iR e;obtain⟨h1,h⟩:=xS (A:=A) (r:=(d,C)) (v:=v) E (Ms.val .refl E r) G n;exact k _ h1 h⟩
def gT{d l:Tg}{k:Nat}(h1:QG X A a d)(n:QG X A b l)(o:X.calm=K0:=by rfl)(s:(aI [a,b] X.env).map (·.2)=b5 a X.env::(aI [b] X.env).map (·.2):=by rfl)(t:(aI [b] X.env).map (·.2)=b5 b X.env::(aI [] X.env).map (·.2):=by rfl)
  (q:(aI [a,b] X.env).length=2:=by rfl)(r:(aI [a,b] X.env).findIdx? (·.1)=I:=by rfl):QG X A (.Tuple [a,b] k m) (Gg [d,l]):=⟨Kw o (vn h1.h (vn n.h GC t) s) q H r⟩
def f0:QF X [] jk:=⟨λd s n O Q N h=>by obtain⟨o,T,b,l,E,e,k⟩:=h;cases e;exact Tv d s n O Q N<|k O .refl E⟩
def f1(h:QT X e Y):QF X [e] Y:=⟨Tu h.h⟩
def bE{q:pv}{sc:jb}{d:hJ}{n:Nat}(he:QX X e f)(hn:q[n+1]?=KE:=by rfl):QB X A d (.ListComp e q sc p) n (jm f):=⟨PB.imp' (TK hn he.h) λy H N F=>by
 obtain⟨O,T,D,m6,Z,B,e,k⟩:=F;obtain⟨⟨r,l⟩,h1,e⟩:=hG e;obtain⟨R,e⟩:=iR e;obtain⟨rfl,rfl⟩:=tM e;refine⟨O,T,r,l,B.er,h1,λv s P=>?_⟩;obtain⟨C,W⟩:=P.rep B.er;have E:SK A y O H y l s:=P.1.sk;have Q:=B.step E C;obtain⟨w,K,I⟩:=Q.at';refine⟨w,K,by rw[I.length];exact R,k y _ ?_ ?_⟩
 .have:Ju A d y l s y l (upd s d<|.lst<|w++[v]):=⟨λa o e n V=>by rw[iW V];exact e,λi a z=> .inl z,λa z=>by
   by_cases t:a=d
   .subst t;rw[iQ];simp
   .rw[iW t];exact z,λ_ _=>rfl⟩
  exact E.MT.trans this
 .have hk: ∀b o,s b=J4 o-> ¬T b->upd s d (.lst<|w++[v]) b=J4 o:=λb o e n=>by rw[iW<|by intro z;subst z;exact n B.td];exact e
  have hd: ∀a,T a->Ow (upd s d (.lst<|w++[v]) a):=λa z=>by
   by_cases t:a=d
   .subst t;rw[iQ];trivial
   .rw[iW t];exact C.dom a z
  refine⟨C.mono hk (λ_ _ z=>z) hd,B.td,w++[v],iQ,?_⟩;exact YP.mono (λb o e n=>hk b o e λz=>n<|.inr z) (λ_ _ z=>z)<|I.append<|YP.one W⟩
def bF{l:pv}{r:jb}{d:hJ}{n:Nat}{c:oj}{q:Cf}{tt:Tg}{fb:FB}(T:l[n+1]?=J4 c)(Q:QI X (λ_=>False) c.target c.iter q)(O:QG X A c.target tt)(s:QF X c.ifs Y)(I:QB X A d (.ListComp e l r p) (n+1) fb)(t:X.xe=λ_ _=>False:=by rfl)(y:X.calm=K0:=by rfl)
  (w:c.is_async=0:=by rfl)(N: ∀o,l[n+1+1]?=J4 o->o.is_async=0:=by intro o h;cases h;try rfl)(E: ∀x,aw c.iter X.env x=pure x:=by intro _;rfl):QB X A d (.ListComp e l r p) n (FR q tt Y fb):=⟨TJ t y (aW ⟨_,_,_,_,rfl⟩) T w N E Q.h O.h s.h I.h⟩
def Fv{N P:iI}{l scope:jb}{N':iI}{d:jw}(S:X0 N P l)(h:FL N l scope N' d k=K0:=by decide+kernel)(n:X.N=N:=by rfl)(o:X.env.scope=l:=by rfl):Az X N' scope d k:=JS n o h
def xC{c:oj}{jl:pv}{s:iq}{scope:jb}{w:Cf}{tt:Tg}{y:FT}{fb:FB}{n:jw}{N':iI}(C:Az X N' scope n k)(Q:N'.Nodup)(pi:QI X (λi=>i∉n) c.target c.iter w)
  (T: ∀(cl:jQ) (C:hJ) (r:ie) (o:Hp) (q:ki) (l:iX),(X.comp N' scope cl C r o q l).N.Nodup->
   QG (X.comp N' scope cl C r o q l) (λi=>Ls n<=i) c.target tt/\QF (X.comp N' scope cl C r o q l) c.ifs y/\ ∀d,QB (X.comp N' scope cl C r o q l) (λi=>Ls n<=i) d (.ListComp s (c::jl) scope m) 0 fb)
  (H:X.calm=K0:=by rfl)(E:c.is_async=0:=by rfl)(O: ∀t,jl[0]?=J4 t->t.is_async=0:=by intro t h;cases h;try rfl)(I: ∀x,aw c.iter X.env x=pure x:=by intro _;rfl):QX X (.ListComp s (c::jl) scope m) (jn n k w tt y fb):=⟨Tb C H E O I pi.h λcl C r o q l=>let⟨a,b,c⟩:=T cl C r o q l Q;⟨a.h,b.h,λd=>(c d).h⟩⟩
def sC{c:oj}{jl:pv}{o:iq}{scope:jb}{w:Cf}{tt:Tg}{H:FT}{fb:FB}{n:jw}{N':iI}{E y:bq}(Q:X.N.Nodup)(C:Az X N' scope n k)(nd:N'.Nodup)(pi:QI X (λi=>i∉n) c.target c.iter w)
  (o7: ∀(cl:jQ) (C:hJ) (s:ie) (q:Hp) (r:ki) (l:iX),(X.comp N' scope cl C s q r l).N.Nodup->
   QG (X.comp N' scope cl C s q r l) (λi=>Ls n<=i) c.target tt/\QF (X.comp N' scope cl C s q r l) c.ifs H/\ ∀d,QB (X.comp N' scope cl C s q r l) (λi=>Ls n<=i) d (.ListComp o (c::jl) scope m) 0 fb)
  (I:cH (.ListComp o (c::jl) scope m) (J4<|.Name x E) y.line X.env=pure K0:=by rfl)(G:X.N[i]?=J4 x:=by rfl)(hx:X.env.scope.names.lookup x=J4 .local:=by rfl)(hf:X.fn x=K0:=by rfl)(O:A i:=by decide)
  (hc:X.calm=K0:=by rfl)(T:c.is_async=0:=by rfl)(l4: ∀t,jl[0]?=J4 t->t.is_async=0:=by intro t h;cases h;try rfl)(hs: ∀x,aw c.iter X.env x=pure x:=by intro _;rfl):QS X A L H0 (.Assign [.Name x E] (.ListComp o (c::jl) scope m) y) (kE i<|jn n k w tt H fb):=⟨afY I C hc T l4 hs pi.h (Kx Q G (aW hx)<|aW hf) O λcl C s q r l=>let⟨a,b,c⟩:=o7 cl C s q r l nd;⟨a.h,b.h,λd=>(c d).h⟩⟩
def s0:QQ X A L H0 [] iN:=⟨Hg.imp' Tp λD h Q d=>by obtain⟨δ,T,out,E,l,e,k⟩:=d;cases e;exact k h Q .refl E⟩
def s1(h:QS X A L H0 S u)(C:QQ X A L H0 Ss v):QQ X A L H0 (S::Ss) (iA u v):=⟨Hg.imp' (af0 h.h C.h) λD N H I=>by
 obtain⟨δ,T,out,E,fi,e,k⟩:=I;obtain⟨o,y,e⟩:=hG e;refine⟨δ,T,o,E,fi,y,?_⟩
 cases o with
 |nx δ1=>
  intro O Q t w;refine⟨δ1,T,out,w,fi.step t,e,?_⟩
  cases out with
  |nx q=>exact λd l n s=>k d l (t.trans n) s
  |bk q=>exact λd l n s=>k d l (t.trans n) s
  |ct q=>exact λd l n s=>k d l (t.trans n) s
  |rt r q=>exact λv d l n R2=>k v d l (t.trans n) R2
 |rt r δ1=>cases e;exact k
 |bk δ1=>cases e;exact k
 |ct δ1=>cases e;exact k⟩
def sX:QS X A L H0 S OD:=⟨λd s o Q D O h=>by obtain⟨n,T,out,E,l,e,k⟩:=h;cases e⟩
def sR(h:QX X e f):QS X A L H0 (.Return (J4 e) m) (kH f):=⟨PS.imp' (Pa h.h) λD Q O t=>by
 obtain⟨w,T,out,E,r,e,k⟩:=t;obtain⟨p,l,e⟩:=hG e;cases e;refine⟨w,T,p.1,p.2,E,l,λv n P=>k v Q n P.1.sk ?_⟩;obtain⟨⟨d,o⟩,y⟩:=p
 cases o with
 |false=>exact P.2
 |true=>obtain⟨q,h1,s,l⟩:=P.2;exact⟨q,h1,r.fresh s,l⟩⟩
def P5(hl: ¬L.p i)(h1:X.N[i]?=J4 x:=by rfl)(s:JU X.env.scope x:=by first|exact aW rfl|exact bB (aW K3)|exact bB<|bB K3)(h3:DB x:=by decide)(h4:(x==("__classdict__":ay))=K2:=by decide):QS X A L H0 (.Return (J4<|.Name x p) m) (qr i):=⟨PS.imp' (Pa<|xj h1 s h3 h4) λD r H W=>by
 obtain⟨o,T,out,E,V,e,k⟩:=W;unfold qr at e
 cases G:o[i]? with
 |none=>rw[G] at e;cases e
 |some q=>
  cases q with
  |none=>rw[G] at e;cases e
  |some p=>
   obtain⟨d,b⟩:=p;have dz:i<(Ls o):=(wa.mp G).1
   cases b with
   |false=>rw[G] at e;cases e;obtain⟨v,h1,s⟩:=E.val i d G;exact⟨v,h1,k v r H .refl ⟨E,s⟩⟩
   |true=>
    rw[G] at e;cases e;obtain⟨a,h1,s⟩:=E.own i d G
    have h: ∀j b,NR r (o.set i KE) j b->i≠j/\NR r o j b:=λj b a'=>by
     obtain⟨n,g1,g2⟩:=a'
     rcases nq g1 with⟨_,_,q⟩|⟨ne,q⟩
     .cases q
     .exact⟨ne,n,q,g2⟩
    have l: ∀b,W3 r (o.set i KE) b->W3 r o b/\b≠a:=λb a'=>by
     obtain⟨j,n,g1,g2⟩:=a'
     obtain⟨ne,C,Q,F⟩:=h j b ⟨n,g1,g2⟩;exact⟨⟨j,C,Q,F⟩,λz=>ne<|by subst z;exact E.inj i j d C _ G Q h1 F⟩
    have K:W3 r o a:=⟨i,d,G,h1⟩
    have sub: ∀b,H b≠KE->(W3 r (o.set i KE) b\/(T b\/b=a))->(W3 r o b\/T b):=λb _ z=>by
     rcases z with z|z|z
     .exact .inl (l b z).1
     .exact .inr z
     .subst z;exact .inl K
    refine⟨.ref a,h1,k (.ref a) r H ⟨λ_ _ e _=>e,λj b z=> .inl (h j b z).2,λ_ z=>z,λ_ _=>rfl⟩ ⟨a,rfl,?_,?_,s.mono (λ_ _ e _=>e) sub λ_ e=>e⟩⟩
    .rcases V.ow i a ⟨d,G,h1⟩ with z|z
     .exact absurd z hl
     .exact z
    .refine⟨by rw[vY];exact E.len,λj n y=>?_,λj n y=>?_,λj k n R b y hk g1 g2=>?_,λb z t=>?_,λb z=>?_⟩
     .rcases nq y with⟨_,_,q⟩|⟨ne,q⟩
      .cases q
      .obtain⟨w,I,O⟩:=E.val j n q;exact⟨w,I,Rep.mono (λ_ _ e _=>e) sub O⟩
     .rcases nq y with⟨_,_,q⟩|⟨ne,q⟩
      .cases q
      .obtain⟨w,I,O⟩:=E.own j n q;exact⟨w,I,O.mono (λ_ _ e _=>e) sub λ_ e=>e⟩
     .obtain⟨_,C,Z,q2⟩:=h j b ⟨n,y,g1⟩;obtain⟨_,P,q3,q4⟩:=h k b ⟨R,hk,g2⟩;exact E.inj j k C P b Z q3 q2 q4
     .obtain⟨z1,z2⟩:=l b z;rcases t with t|t
      .exact E.nT b z1 t
      .exact z2 t
     .rcases z with z|z
      .exact E.dom b z
      .subst z;exact E.JY K⟩
def sE(h:QX X e f)(n:cH e I m.line X.env=pure C:=by rfl):QS X A L H0 (.Expr e m) (lS f):=⟨PS.imp' (Tq h.h n) λD r Q o=>by obtain⟨q,T,out,E,s,e,k⟩:=o;obtain⟨p,l,e⟩:=hG e;cases e;exact⟨q,T,p.1,p.2,E,l,λv d P=>k r d P.1.sk (P.rep E).1⟩⟩
def sI(n:QT X c Y)(d:QQ X A L H0 Ss u)(l:QQ X A L H0 Ts v):QS X A L H0 (.If c Ss Ts m) (Dm Y u v):=⟨W6 n.h d.h l.h⟩
def sW{n:Nat}(l:QT X c Y)(d:QQ X A L H0 Ss u)(o:ey (aj X.prog X.w) X.A X.env X.xe:=by exact PassesOwn.never):QS X A L H0 (.While c Ss [] m) (mR Y u n):=⟨afq o l.h d.h⟩
def sF{d:Cf}{t:Tg}(G:QI X (λ_=>False) tg e d)(o:QG X A tg t)(l:QQ X A L H0 Ss u)(q:ey (aj X.prog X.w) X.A X.env X.xe:=by exact PassesOwn.never)(n:X.calm=K0:=by rfl)(r: ∀x,aw e X.env x=pure x:=by intro _;rfl):QS X A L H0 (.For tg e Ss [] m) (qi d t u):=⟨Tn q n G.h o.h l.h r⟩
def sS(q:X.N.Nodup)(t:QX X e f)(G:X.N[i]?=J4 x:=by rfl)(I:Loc X.env.scope x:=by first|exact aW rfl|exact bB K3)(w:X.fn x=K0\/X.env.scope.names.lookup x=J4 .local:=by first|exact aW rfl|exact bB K3)(s:A i:=by decide)(y:cH e (J4<|.Name x p) m.line X.env=pure K2:=by rfl):QS X A L H0 (.Assign [.Name x p] e m) (kE i f):=⟨PS.imp' (OZ q G I t.h y w) λD F H C=>by obtain⟨O,T,out,E,Q,e,k⟩:=C;obtain⟨⟨r,d⟩,o,e⟩:=hG e;obtain⟨G,rfl⟩:=iR e;refine⟨O,T,r,d,E,o,λv l P=>?_⟩;obtain⟨h1,n⟩:=xS (A:=A) E P G s;exact k _ l h1 n⟩
def sT{t:Tg}{pt:bq}(C:QX X e f)(I:QG X A (.Tuple J k pt) t)(O:eF [.Tuple J k pt] e m.line X.env=pure K2:=by rfl)(d:eG [.Tuple J k pt] e X.env=pure KE:=by rfl)(h1:(aI [.Tuple J k pt] X.env).map (·.2)=[b5 (.Tuple J k pt) X.env]:=by rfl):QS X A L H0 (.Assign [.Tuple J k pt] e m) (Jd t f):=⟨PS.imp' (Ji C.h I.h O d h1) λD F H d=>by obtain⟨δ,T,out,E,N,e,k⟩:=d;obtain⟨⟨r,δ1⟩,h1,e⟩:=hG e;obtain⟨l,y,e⟩:=hG e;cases e;refine⟨δ,T,r,δ1,E,h1,λv s P=>?_⟩;obtain⟨q,Q⟩:=P.rep E;exact⟨δ1,T,r.1,l,q,Q,y,λn w o=>k n s (P.1.sk.trans w) o⟩⟩
def As{n:bq}(hv:QO X (.Name x M) (hX i))(he:QX X e f)(G:QO X a fo)
  (ha: ∀v,b5 (.Subscript (.Name x M) a n) X.env v=(do
   let y <-bV [v] (aQ (.Name x M) X.env)
   let I' <-bV [v,y] (aQ a X.env)
   b4 n
   bV [v,y,I'] (hH y I' v)
   B0 [v,y,I'] []):=by intro _;rfl)
  (hs:eF [.Subscript (.Name x M) a n] e m.line X.env=pure K2:=by rfl)(C:eG [.Subscript (.Name x M) a n] e X.env=pure I:=by rfl)
  (h1:(aI [.Subscript (.Name x M) a n] X.env).map (·.2)=[b5 (.Subscript (.Name x M) a n) X.env]:=by rfl):QS X A L H0 (.Assign [.Subscript (.Name x M) a n] e m) (xg i f fo):=⟨PS.imp' (Ji he.h (Po hv.h G.h agb ha) hs C h1) λD O H C=>by
 obtain⟨R,T,out,E,fi,e,k⟩:=C;obtain⟨⟨r,d⟩,h1,e⟩:=hG e;dsimp only at e;split at e
 case h_2=>cases e
 rename_i y0 h0;obtain⟨⟨o,w⟩,h2,e⟩:=hG e;dsimp only at e;split at e
 .rename_i kk l hk N;obtain⟨j,hj,e⟩:=hG e;cases e;refine⟨R,T,r,d,E,h1,λv W q=>⟨d,Mc T r v,.slot i,d,q.er E,by unfold hX;rw[h0],λv2 H2 s=>⟨d,Mc T r v,o,w,s.er<|q.er E,h2,λv3 Z P3=>?_⟩⟩⟩;have gQ:EW X.K T O R H (.val r) d v W:=q;have B:=Ops.cons E gQ<|Ops.cons (q.er E) s<|Ops.cons (s.er<|q.er E) P3<|Ops.nil<|P3.er<|s.er<|q.er E;have Q:ER X.K Z T O w:=B.er.mono (λ_ _ e _=>e) (λb _ z=>B.tt b z) λa z=>B.er.dom a<|B.tt a z;have t:O[i]?=J4 (J4 v2):=s.2.2;obtain⟨a,F,xs,q2,P⟩:=Q.own i _ N;rw[t] at F;cases F;have vk:=jd<|B.view (j:=2) K3 K3 hk;have rv:=B.rep E (j:=0) (r:=r) K3 K3;refine⟨a,xs,kk,j,rfl,vk,q2,by rw[P.length];exact hj,?_⟩;obtain⟨V,K4⟩:=Q.write N t<|YP.set rv j P;exact k _ _ (B.keep.trans K4).sk V
 .cases e⟩
def sDP{I:bq}(hu:un X.A 1)(hv:QO X (.Name x M) (hX i))(he:QX X e f)(G:QO X a fo)
  (ha: ∀v,b5 (.Subscript (.Name x M) a I) X.env v=(do
   let ov <-bV [v] (aQ (.Name x M) X.env)
   let iv <-bV [v,ov] (aQ a X.env)
   b4 I
   bV [v,ov,iv] (hH ov iv v)
   B0 [v,ov,iv] []):=by intro _;rfl)
  (hs:eF [.Subscript (.Name x M) a I] e m.line X.env=pure K2:=by rfl)(hw:eG [.Subscript (.Name x M) a I] e X.env=pure KE:=by rfl)
  (h1:(aI [.Subscript (.Name x M) a I] X.env).map (·.2)=[b5 (.Subscript (.Name x M) a I) X.env]:=by rfl):QS X A L H0 (.Assign [.Subscript (.Name x M) a I] e m) (Gx i f fo):=⟨PS.imp' (Ji he.h (Po hv.h G.h (afR hu) ha) hs hw h1) λD Q H hw=>by
 obtain⟨δ,T,out,E,fi,e,k⟩:=hw;obtain⟨⟨r,d⟩,h1,e⟩:=hG e;dsimp only at e;split at e
 case h_2=>cases e
 rename_i y0 h0;obtain⟨⟨o,l⟩,h2,e⟩:=hG e;dsimp only at e;split at e
 .rename_i V W Z hk h3;obtain⟨⟨R,q⟩,e⟩:=iR e;cases e;refine⟨δ,T,r,d,E,h1,λv H1 N=>⟨d,Mc T r v,.slot i,d,N.er E,by unfold hX;rw[h0],λv2 H2 P=>⟨d,Mc T r v,o,l,P.er<|N.er E,h2,λv3 F P3=>?_⟩⟩⟩;have gQ:EW X.K T Q δ H (.val r) d v H1:=N;have B:=Ops.cons E gQ<|Ops.cons (N.er E) P<|Ops.cons (P.er<|N.er E) P3<|Ops.nil<|P3.er<|P.er<|N.er E;have E3:ER X.K F T Q l:=B.er.mono (λ_ _ e _=>e) (λb _ z=>B.tt b z) λa z=>B.er.dom a<|B.tt a z;have C:Q[i]?=J4 (J4 v2):=P.2.2;obtain⟨a,q1,us,q2,q3⟩:=E3.own i _ h3;rw[C] at q1;cases q1;have vk:=B.view (j:=2) K3 K3 hk;have rv:=B.rep E (j:=0) (r:=r) K3 K3;have oa:W3 Q l a:=⟨i,_,h3,C⟩
  have kp: ∀(s:HO) b u,F b=J4 u-> ¬(W3 Q l b\/T b)->upd F a s b=J4 u:=λs b u e n=>by rw[iW<|by intro z;subst z;exact n<|.inl oa];exact e
  have ks10:10000<sizeLine:=by rw[jT];decide
  have fin: ∀s bH,C8 X.K (J4 s) .dct (vP W Z V r.1).1 (vP W Z V r.1).2 bH->YP X.K F (λa=>W3 Q l a\/T a) (vP W Z V r.1).2 bH->D.nx Q (upd F a s):=λs bH g1 g2=>by obtain⟨E4,K4⟩:=E3.Dg (o:=s) (d':= .R1 .dct (vP W Z V r.1).1 (vP W Z V r.1).2) h3 C ⟨bH,by rw[iQ];exact g1,YP.mono (kp s) (λ_ _ z=>z) g2⟩;exact k _ _ (B.keep.trans K4).sk E4
  refine⟨a,rfl,?_⟩;rcases q2 with⟨kvs,eH,rfl,rfl⟩|⟨kvs,eH,rfl,rfl⟩
  .rw[jf] at q;rcases yn R with⟨κ,g1,_⟩|⟨τ,g1,g2⟩
   .have y:=vc g1 vk;have w:=rm g1;subst w;obtain⟨O,p2⟩:=Vm (k:=κ) rv q3;refine .inl ⟨_,by rw[y];exact JG.k eH<|by lia,fin _ _ (.inl ⟨_,rfl,O,rfl⟩) p2⟩
   .have cw:kvs=[]:=by
     cases kvs with
     |nil=>rfl
     |cons p kvs=>obtain⟨c,hc⟩:=g2 (ke p.1) (by simp);exact(G4 hc).elim
    subst cw;obtain⟨b,y,eb⟩:=vb g1 vk;have w:=ym g1;subst w;obtain⟨O,p2⟩:=Vl (k:=τ) (kvs:=[]) rv q3;exact .inr<|.inr ⟨τ,b,eH,y,eb,fin _ _ (.inr ⟨[(τ,v)],rfl,O,rfl⟩) p2⟩
  .rw[jf] at q;rcases yn R with⟨κ,g1,g2⟩|⟨τ,g1,_⟩
   .have cw:kvs=[]:=by
     cases kvs with
     |nil=>rfl
     |cons p kvs=>obtain⟨c,hc⟩:=g2 (.tup<|p.1.map ke) (by simp);exact(Kg hc).elim
    subst cw;have y:=vc g1 vk;have w:=rm g1;subst w;obtain⟨O,p2⟩:=Vm (k:=κ) (kvs:=[]) rv q3;exact .inr<|.inl ⟨κ,eH,y,fin _ _ (.inl ⟨[(κ,v)],rfl,O,rfl⟩) p2⟩
   .obtain⟨b,y,eb⟩:=vb g1 vk;have w:=ym g1;subst w;obtain⟨O,p2⟩:=Vl (k:=τ) rv q3;refine .inl ⟨_,by rw[y];exact JG.t eH eb<|by lia,fin _ _ (.inr ⟨_,rfl,O,rfl⟩) p2⟩
 .cases e⟩
end
def Fz(K:iJ)(b:lN)(x:ay)(st:aV):Prop:= ∃f a,b x=Y (.ref f)/\Jn K x x st f a
def fz{K:iJ}{h:iK}{e:lN}{x:ay}{st:aV}{f:hJ}{g:ir}{i an:Option hJ}{m:AN}{kV b j d ct:ir}(X:K.In h)(G:h.Ns ap e)(a:aP K ap x=Y (Y<|.ref f))
  (l:K.lookup f=Y ⟨g,i,.func<|bD x x (sH st) (lu st) (hU st) .none kV b j an d ct,m⟩)(c:cN K d x=J)(k:ca K (.ref f)=J):Fz K e x st:=⟨f,_,kb X G a,Q5 l c k⟩
def M0(x:ay)(st:aV)(c:iI):Prop:= ∀(kV a e:ir) (an:Option hJ) (d ct:ir) (b:jr),Ls b=Ls c->et (bD x x (sH st) (lu st) (hU st) .none kV a e an d ct) ⟨b,[]⟩=pure (c.zip b)
def BP{N P:iI}{a:jb}(h1:a.kind= .function:=by rfl)(b:a.isCoroutine=C:=by rfl)(c:a.isGenerator=C:=by rfl)(d:N.Nodup:=by decide+kernel)(e:N.take P.length=P:=by rfl)(f: ∀x∈P,a.names.lookup x=Y .local\/a.names.lookup x=Y .cell:=by decide+kernel)(g: ∀y∈a.names,y.2≠ .free:=by decide+kernel):X0 N P a:=⟨h1,b,c,d,e,f,g⟩
def Bd(Z:ZZ)(k:Nat)(x:ay)(st:aV)(N d:iI)(c:jw)(fs:FS):Prop:= ∀(f:hJ) (b:ir) (A:iE) (a:List db) (s:ie) (U:Hp) (E:XK) (L:LL),(∀i,L.p i->i<Ls d)->AP k (A.deeper<|aT x (hU st) s.heap.objs.size f b)->
 un (A.deeper<|aT x (hU st) s.heap.objs.size f b) 60->un (A.deeper<|aT x (hU st) s.heap.objs.size f b) 1->un (A.deeper<|aT x (hU st) s.heap.objs.size f b) 62->un (A.deeper<|aT x (hU st) s.heap.objs.size f b) 90->N.Nodup->
 QQ (rG FK Z.P Z.w Z.K Z.mg Z.base N x (hU st) f b A a s U E).JQ (λi=>i∈c) L U (lu st) fs
def fnB{Z:ZZ}{k:Nat}{x:ay}{st:aV}{N c:iI}{b:jw}{fs:FS}{f:hJ}{d:mS}(F:Jn Z.K x x st f d)(S:X0 N c (hU st))(j:Bd Z k x st N c b fs):Df Z.P Z.w Z.K Z.mg Z.base FK (k+1) f d c (IU Z.K<|Q1 (Ls N) (Ls c) b fs):=
 X8 F S λg A a s U E L i e=>by have:=e.un;exact(j f g A a s U E L i e (by unfold un;omega) (by unfold un;omega) (by unfold un;omega) (by unfold un;omega) S.nd).h
def ozB{Z:ZZ}{k:Nat}{x:ay}{st:aV}{N d:iI}{c:jw}{fs:FS}(a:Fz Z.K Z.mg x st)(S:X0 N d (hU st))(b:M0 x st d)(g:Bd Z k x st N d c fs):Oz Z (k+1) x d (Q1 (Ls N) (Ls d) c fs):=
 let⟨f,e,m,F⟩:=a;⟨f,e,fnB F S g,m,F.kp,F.binds b⟩
def Mh{P:List ir->Prop}(h:P []): ∀b:List ir,Ls b=0->P b:=λb e=>by cases b with|nil=>exact h|cons a l=>cases e
def MH{P:List ir->Prop}{n:Nat}(h: ∀a,∀b:List ir,Ls b=n->P (a::b)): ∀b:List ir,Ls b=n+1->P b:=λb e=>by cases b with|nil=>cases e|cons a l=>exact h a l<|Nat.succ.inj e
def L7{K:iJ}{h:lN}{x y:ay}{st:aV}{g:hJ}(a:Fz K h x st)(i:h x=Y (.ref g))(b:M0 x st [y]): ∃c,Jn K x x st g c/\ ∀(s:ie) (v:ir),fg s c ⟨[v],[]⟩ [(y,v)]:=by obtain⟨f,c,m,F⟩:=a;have e:=i.symm.trans m;cases e;obtain⟨l,n,kV,d,k,an,j,ct,o,e,_⟩:=F.ex;exact⟨c,F,λs v=>by subst e;exact .of_eq<|b kV d k an j ct [v] H⟩
def mgI{K:iJ}{h:iK}{b:lN}{x:ay}{i:Int}{t:pw}(X:K.In h)(G:h.Ns ap b)(a:aP K ap x=Y (Y<|.int i t)): ∃t,b x=Y (.int i t):=⟨t,kb X G a⟩
def txK{K:iJ}{h:iK}{g:lN}(X:K.In h)(G:h.Ns ap g)(i:aP K ap "len"=Y I)(j:aP K ap "abs"=Y I)(k:aP K ap "int"=Y I)(l:aP K ap "tuple"=Y I)(m:aP K ap "list"=Y I)(n:aP K ap "range"=Y I)(o:aP K ap "isinstance"=Y I)(p:aP K ap "bool"=Y I)(q:aP K ap "max"=Y I)(r:aP K ap "min"=Y I)(a:aP K ap "all"=Y I)(b:aP K ap "any"=Y I)(c:aP K ap "sorted"=Y I)(d:aP K ap "enumerate"=Y I)(e:aP K ap "zip"=Y I)(f:aP K ap "set"=Y I):Tx g:=⟨oQ X G i,oQ X G j,oQ X G k,oQ X G l,oQ X G m,oQ X G n,oQ X G o,oQ X G p,oQ X G q,oQ X G r,oQ X G a,oQ X G b,oQ X G c,oQ X G d,oQ X G e,oQ X G f⟩
end PX
namespace L2
open PySem.W
section
variable {P:iL}{w:iD}{a:List db}{H f:Hp}{s b:ie}{C e:hJ}{c B d:iK}{F:ki}
end
section
variable {X:Cx}{b:iX}{c:St}{H:Hp}{s d:ie}{C e:hJ}
variable {P:iL}{w:iD}{a:List db}{f:Hp}{s0:ie}{E:XK}
end
section
variable {X:Cx}{P:iL}{w:iD}{b:List db}{f:Hp}{s0:ie}{E:XK}{x:ay}{C:hJ}{a:iq}{d:TE}{np e c:bq}
end
def zJ(q:ay):HO:= .tbl #[.str q 0]
structure Me(TB:List (hJ×ay))(H:Hp):Prop where
 one: ∀b,H b=KE\/(∃o xs,H b=J4 (.C7 o<|.lst xs))\/ ∃q,(b,q)∈TB/\H b=J4 (zJ q)
 all: ∀p∈TB,H p.1=J4 (zJ p.2)
def afI{P:iL}{w:iD}{K:iJ}{C mb:lN}{CX:Jp}{k:Nat}{fa a:hJ}{fd:mS}{x:ay}{sp:Sp}{c:ie}{O:jr}{Q:ig}{TB:List (hJ×ay)}
  (KX:K.In c.heap)(aq:c.heap.Ns ap C)(g:c.heap.Ns f4 mb)(hbb: ∀x:ay,x≠"__name__"->mb x=aH x)(Y:c.heap.NoLimit)(hg:c.gens= #[])
  (M: ∀p∈TB,c.heap.get? p.1=J4 (tabObj #[]))(eT: ∀p∈TB,K.lookup p.1=KE)(eS: ∀p∈TB,isCodeTable c.heap p.1)(dF:(TB.map (·.1)).Nodup)(U: ∀p∈TB,c.heap.BuiltinsAt C p.1)
  (N:c.heap.get? a=J4 {cls:= .type "list",data:= .seq O.toArray})(hi:dY O Q)(hl:Q.length<=sizeLine)(hr:AP k eX)
  (F: ∀base:iK,K.In base->base.Ns ap C->(∀p∈TB,base.BuiltinsAt C p.1)->Df P w K C base CX k fa fd [x] sp)(o6: ∀(s:ie) (u:ir),fg s fd ⟨[u],[]⟩ [(x,u)])
  (ba: ∀H8:Hp,Me TB H8->FV K H8 a (Q.map V.int)->sp [.ref a] H8 (λv H'=>v= .bl K0/\ ∀p∈TB,H' p.1=J4 (zJ p.2)) λ_ _ _=>False)
  (hCX: ∀H8 e j,CX [] H8 c (λ_ _ _=>False) e j->False):
  b8 (aj P w) eX (.call (.ref fa) ⟨[.ref a],[]⟩) (λr j=>r= .ok (.ret<|.bool K0)/\OldK c.heap j.heap/\j.os=c.os/\dZ j.gens) c:=by
 have rv:=aeV hi;have R:=hi.length
 have Z: ∀p∈TB,p.1≠a:=λp f e=>by have:=M p f;rw[e,N] at this;cases this
 have t: ∀H8:Hp,Me TB H8->FV K H8 a (Q.map V.int)->Fc P w H8 c.heap->(∀b,H8 b≠KE->b=a\/ ∃p∈TB,b=p.1)->(H8 a≠KE->K.lookup a=KE)->
   b8 (aj P w) eX (.call (.ref fa) ⟨[.ref a],[]⟩) (λr j=>r= .ok (.ret<|.bool K0)/\OldK c.heap j.heap/\j.os=c.os/\dZ j.gens) c:=by
  intro H8 hO hS D hA hK;have r9: ∀{b:hJ} {o:eE},c.heap.get? b=J4 o->H8 b=KE->(Dc c.heap H8).get? b=J4 o:=λe n=>QN e n
  have aZ: ∀{b:hJ} {o:eE},c.heap.get? b=J4 o->(∀its n,o.data≠ .seq its n)->(∀I,o.data≠ .fields I)->H8 b=KE:=λ{b o} e d d2=>by
   cases q:H8 b with
   |none=>rfl
   |some u=>
    rcases hA b (by rw[q];simp) with rfl|⟨p,f,rfl⟩
    .rw[N] at e;cases e;exact absurd H<|d _ _
    .rw[M p f] at e;cases e;exact absurd H<|d2 _
  have X: ∀{b:hJ} {m:lN},c.heap.Ns b m->(Dc c.heap H8).Ns b m:=λ{b m} ⟨o,es,ep,e,d,r⟩=>⟨o,es,ep,r9 e (aZ e (λ_ _ z=>by rw[d] at z;cases z) λ_ z=>by rw[d] at z;cases z),d,r⟩
  have J:K.In (Dc c.heap H8):=λb o e=>r9 (KX b o e) (by
   cases q:H8 b with
   |none=>rfl
   |some u=>
    rcases hA b (by rw[q];simp) with rfl|⟨p,f,rfl⟩
    .rw[hK<|by rw[q];simp] at e;cases e
    .rw[eT p f] at e;cases e)
  have hBA: ∀p∈TB,(Dc c.heap H8).BuiltinsAt C p.1:=λp f=>by obtain⟨bm,o,h1,h2,h3,h4,h5,h6,h7,h8⟩:=U p f;exact⟨bm,o,h1,h2,h3,h4,r9 h5 (aZ h5 (λ_ _ z=>by rw[h8] at z;cases z) λ_ z=>by rw[h8] at z;cases z),h6,h7,h8⟩
  have hM:Mod K C (Dc c.heap H8):=⟨J,X aq,⟨mb,X g,hbb⟩,let⟨mc,h1,h2⟩:=Y;⟨mc,X h1,h2⟩⟩
  have e0:Jo P w K C (Dc c.heap H8) eX [] c H8:=⟨rfl,hM,λb o e=>T6 e,r0<|ae6 _ _,trivial,λb g=>absurd (show b∈([]:List hJ) from g)<|by simp,D,.of_eq hg⟩
  refine qm ((F _ J (X aq) hBA).run eX [] c H8 ⟨[.ref a],[]⟩ [.ref a] [.ref a] _ _ hr e0 (o6 c<|.ref a) (.cons H .nil) (ba H8 hO hS)) λr j h=>?_
  cases r with
  |error e=>exact(hCX H8 e j h).elim
  |ok fl=>
   cases fl with
   |next=>exact aK h
   |brk=>exact aK h
   |cont=>exact aK h
   |ret u=>
    obtain⟨v,H',os,T,un,B,r',q,L⟩:=h;subst q;obtain rfl:u=e9 K0:=r'
    have W: ∀p∈TB,∃I,j.heap.get? p.1=J4 (tabObj I):=λp f=>by
     obtain⟨_,_,I,_,e,_⟩:=(show T2 P w H' j.heap p.1 (.tbl #[.str p.2 0]) from B _ _ (L p f))
     exact⟨I,e⟩
    have keep: ∀b o,c.heap.get? b=J4 o->(∀p∈TB,b≠p.1)->j.heap.get? b=J4 o:=λb o e n=>by
     cases q:H8 b with
     |none=>exact un.keep b o e q (by intro z;exact absurd (show b∈([]:List hJ) from z)<|by simp) (by simp)
     |some u=>
      rcases hO.one b with z|⟨ob,xs,z⟩|⟨qq,hm,z⟩
      .rw[q] at z;cases z
      .have z2:=un.frzs b ob _ z;obtain⟨e1,_⟩:=D b _ z;obtain⟨G,_⟩:=B b _ z2;rw[e] at e1;cases e1;exact G
      .exact absurd H (n _ hm)
    refine⟨rfl,⟨λb o e=>?_,λb o e=>?_⟩,os,T⟩
    .by_cases g: ∃p∈TB,b=p.1
     .obtain⟨p,f,rfl⟩:=g;obtain⟨I,G⟩:=W p f;rw[M p f] at e;cases e;refine .inr<|.inl ⟨eS p f,rfl,#[],I,rfl,?_⟩;rw[G];simp
     .exact .inl (keep b o e λp f z=>g ⟨p,f,z⟩)
    .by_cases g: ∃p∈TB,b=p.1
     .obtain⟨p,f,rfl⟩:=g;obtain⟨I,G⟩:=W p f;exact⟨_,G⟩
     .exact⟨o,keep b o e λp f z=>g ⟨p,f,z⟩⟩
 have A: ∀{b q},TB.lookup b=J4 q->(b,q)∈TB:=λh=>by
  revert h;generalize TB=l
  induction l with
  |nil=>intro h;simp at h
  |cons x l ih=>
   intro h;rw[oS] at h;split at h
   .rename_i g;cases h;rw[beq_iff_eq.mp g];exact jc
   .exact ji _ (ih h)
 have S: ∀p∈TB,TB.lookup p.1=J4 p.2:=by
  clear A t Z ba eT eS U F M
  induction TB with
  |nil=>intro p f;simp at f
  |cons x l ih=>
   intro p f;rw[jG,Am] at dF;rw[oS];rcases mz.mp f with rfl|f
   .simp
   .have:(p.1==x.1)=K2:=by rw[CZ];exact λe=>dF.1 (e▸oR f)
    rw[this];exact ih dF.2 p f
 have E: ∀(H8:Hp) (b:hJ) (q:ay),(b,q)∈TB->T2 P w H8 c.heap b (zJ q):=λH8 b q hm=>⟨q,0,#[],rfl,M _ hm,trivial,λpos cv z=>by simp[dL] at z⟩
 cases hk:K.lookup a with
 |some o=>
  have e:=KX a o hk;rw[N] at e;cases e;refine t (λb=>(TB.lookup b).map zJ) ⟨λb=>?_,λp f=>by rw[S p f];rfl⟩ (.inr ⟨_,O.toArray,_,hk,rfl,rfl,rfl,by rw[jq,R];exact hl,by simpa using rv⟩) (λb u z=>?_) (λb z=>?_) λz=>?_
  .cases q:TB.lookup b with
   |none=>exact .inl H
   |some y=>exact .inr<|.inr ⟨y,A q,rfl⟩
  .have i:(TB.lookup b).map zJ=J4 u:=z
   cases q:TB.lookup b with
   |none=>rw[q] at i;cases i
   |some y=>rw[q] at i;cases i;exact E _ b y (A q)
  .have i:(TB.lookup b).map zJ≠KE:=z
   cases q:TB.lookup b with
   |none=>rw[q] at i;exact absurd H i
   |some y=>exact .inr ⟨_,A q,rfl⟩
  .have i:(TB.lookup a).map zJ≠KE:=z
   cases q:TB.lookup a with
   |none=>rw[q] at i;exact absurd H i
   |some y=>exact absurd H<|Z _ (A q)
 |none=>
  have hat: ∀p∈TB,(if p.1=a then J4 (HO.C7 {cls:= .type "list",data:= .seq O.toArray}<|.lst<|Q.map V.int) else(TB.lookup p.1).map zJ)=J4 (zJ p.2):=λp f=>by rw[iG<|Z p f,S p f];rfl
  refine t (λb=>if b=a then J4 (.C7 {cls:= .type "list",data:= .seq O.toArray}<|.lst<|Q.map V.int) else(TB.lookup b).map zJ) ⟨λb=>?_,hat⟩ (.inl<|.inr ⟨{cls:= .type "list",data:= .seq O.toArray},iz H⟩) (λb u z=>?_) (λb z=>?_) λ_=>hk
  .by_cases g:b=a
   .exact .inr (.inl ⟨_,_,iz g⟩)
   .cases q:TB.lookup b with
    |none=>exact .inl (by simp[g,q])
    |some y=>exact .inr<|.inr ⟨y,A q,by simp[g,q]⟩
  .by_cases g:b=a
   .have i:=(iz g).symm.trans z;cases i;subst g;exact⟨N,by rw[jf];exact hl,O,_,rv,N⟩
   .have i:=(iG g).symm.trans z
    cases q:TB.lookup b with
    |none=>rw[q] at i;cases i
    |some y=>rw[q] at i;cases i;exact E _ b y (A q)
  .by_cases g:b=a
   .exact .inl g
   .cases q:TB.lookup b with
    |none=>exact absurd (by simp[g,q]) z
    |some y=>exact .inr ⟨_,A q,rfl⟩
end L2
namespace PX
open L2
def Uh{TB:List (hJ×ay)}{K:iJ}{k:Ap}{U:Hp}{a:hJ}{f:ig}(m: ∀p∈TB,U p.1=Y (zJ p.2))(l:FV K U a (f.map V.int)){o:Bool}{c:Dn}(h:k [(.lst<|f.map .int,C)]=Y ((.bl J,o),c)):IU K k [.ref a] U (λv g=>v= .bl J/\ ∀p∈TB,g p.1=Y (zJ p.2)) λ_ _ _=>False:=by
 have no: ∀b,¬W3 [Y<|V.ref a] [Y (D.lst<|f.map .int,C)] b:=λb T=>by
  obtain⟨i,d,h1,q⟩:=T
  cases i with
  |zero=>simp at h1
  |succ i=>simp at h1
 refine⟨λ_=>False,[(.lst<|f.map .int,C)],_,c,⟨rfl,λi d hd=>?_,λi d hd=>?_,λi j d e b h1=>?_,λb z=>absurd z<|no b,λb z=>z.elim⟩,h,λv g P=>?_⟩
 .cases i with
  |zero=>simp at hd;subst hd;refine⟨_,rfl,Rep.OU (a:=a) (xs:=f.map V.int) ?_<|aeS f⟩;exact l.imp (λz=>⟨z,λz=>z.elim (no a) id⟩) id
  |succ i=>simp at hd
 .cases i with
  |zero=>simp at hd
  |succ i=>simp at hd
 .cases i with
  |zero=>simp at h1
  |succ i=>simp at h1
 .refine⟨?_,λp n=>P.1.kp _ _ (m p n) (no _)⟩
  cases o with
  |false=>exact P.2.2.bl
  |true=>obtain⟨p,_,_,_,ok⟩:=P.2;exact ok.elim
end PX
namespace L2
open PySem.W
theorem xR{a b:Int}{t u:Nat}{c:ir}: ∀l:List ir,gH l->gH (l++[.int a t,.int b u,c])
 |[],_=>trivial
 | .int _ _:: .int _ _::_::jl,h=>xR jl h
theorem CS{a b:Int}{t u:Nat}{e:bq}{c f:ir}: ∀l:List ir,gH l->dL e (l++[.int a t,.int b u,c])=Y f->dL e l=Y f\/f=c
 |[],_,h=>by
  simp only[wy,dL] at h;split at h
  .exact .inr (kz h).symm
  .cases h
 | .int i _:: .int j _::d::jl,h0,h=>by
  simp only[c9,dL] at h ⊢;split at h
  .rename_i q;rw[iz q];exact .inl h
  .rename_i q;rw[iG q];exact CS jl h0 h
section
variable {X:Cx}{d:iX}{i:St}{H:Hp}{s:ie}{P c:hJ}{b:bi}{f:iq}{scope:jb}{j:jQ}{g:bq}
def Vq{h:iK}{a:hJ}(e:h.objs.size<=a):h.get? a=I:=by
 cases q:h.get? a with
 |none=>rfl
 |some o=>exact absurd (jW q)<|VX.mpr e
end
def FD(q:ay)(scope:jb)(L fl:hJ)(cd:ir)(a:jQ):Env:=
 newEnv scope L ap a (q++".<locals>.") (Y fl) cd I f4
def Ai(CX:Jp)(P:iL)(w:iD)(K:Frag)(d:lN)(base:iK)(N:iI)(q:ay)(scope:jb)(fl:hJ)(cd:ir)(b:jQ)(A:iE)(a:List db)(s:ie)(U:Hp)(E:XK):Cx where
 prog:=P
 w:=w
 K:=K
 mg:=d
 base:=base
 A:=A.deeper<|FD q scope s.heap.objs.size fl cd b
 N:=N
 s₀:=s
 H₀:=U
 env:=FD q scope s.heap.objs.size fl cd b
 outer:=a
 stack:=FD q scope s.heap.objs.size fl cd b::a
 ex:=[]
 calm:=J
 fn:=λ_=>C
 pn:=[]
 xe:=λe h=>af (aj P w) (A.deeper<|FD q scope s.heap.objs.size fl cd b) (leaving (FD q scope s.heap.objs.size fl cd b) e) (λ_ c=>CX a U s E e c) (λg c=>CX a U s E g c) h
structure Dj(scope:jb):Prop where
 kind:scope.kind= .function
 co:scope.isCoroutine=K2
 gen:scope.isGenerator=K2
 cell: ∀y∈scope.names,y.2≠ .cell
structure BM(N:iI)(scope:jb)(b6:jQ)(σ:St)(H:Hp)(h:iK):Prop where
 inj: ∀x y c,b6.lookup x=J4 c->b6.lookup y=J4 c->x=y
 has: ∀x,scope.names.lookup x=J4 .free-> ∃c,b6.lookup x=J4 c
 cell: ∀x c,b6.lookup x=J4 c->(∃v,h.IsCell c v)/\H c=KE
 val: ∀(i:Nat) (x:ay) (v:V),N[i]?=J4 x->σ[i]?=J4 (J4 v)->scope.names.lookup x=J4 .free/\ ∃c u,b6.lookup x=J4 c/\h.IsCell c (J4 u)/\RelV v u
 len:(Ls σ)=(Ls N)
section
variable {f:Jp}{P:iL}{w:iD}{K:Frag}{c:lN}{base:iK}{N:iI}{q:ay}{scope:jb}{d:hJ}{cd:ir}{e:jQ}{A:iE}{a:List db}{s:ie}{H:Hp}{E:XK}{b:St}
end
open PySem.Calls Builtin Builtin.ObjectAttr Builtin.Getset_descriptor
section
variable {K:Frag}{C x:hJ}{o:eE}
end
section
variable {X:Cx}{b:iX}{d c:St}{H:Hp}{s:ie}{a:hJ}{o:eE}{e:iK}
end
section
variable {X:Cx}{a:iX}{b:St}{H h:Hp}{s c:ie}{C f:hJ}{d B e:iK}{F:ki}{g:ir}
end
end L2
namespace PX
open L2 PySem.SeqAt PySem.W
abbrev XS:=Dn->Option ay
def Lj{b:List (D×Bool)}(h:(b.all λa=>!a.2)=J): ∀a∈b,a=(a.1,C):=λa c=>by
 have:=kf.mp h a c;obtain⟨d,f⟩:=a
 cases f with
 |false=>rfl
 |true=>cases this
theorem uO: ∀(os:List Ax) (as:List (D×Bool)),(∀a∈as,a=(a.1,C))->iM os as=[]
 |[],as,_=>by cases as<;>simp[iM]
 |o::os,[],_=>by simp[iM]
 |o::os,a::as,h=>by have b:=h a jc;obtain⟨d,f⟩:=a;cases b;cases o<;>simp[iM,uO os as λa c=>h a<|ji _ c]
section
variable {X:Cx}{P:iL}{w:iD}{c:List db}{m:Hp}{s0:ie}{E:XK}{A:jK}{st:aV}{l a b:List aV}{x y:XS}{e:iq}{d:bq}
variable {k:Nat}{f:hJ}{i:mS}{h:iI}{g:List D->Option ay}{j:kj}{fs:List FO}{z:ay}{p:bq}
end
end PX
namespace L2
open PySem.W
section
variable {fs:ki}{N:iI}{scope:jb}{b:jQ}{d:St}{H g:Hp}{h h':iK}{q:ay}{a:bi}{f:iq}{j:hJ}
def BM.keep(U:BM N scope b d H h)(u:Un fs [] H g h h')(n: ∀x c,b.lookup x=Y c->c∉fs):BM N scope b d g h':=by
 have kp: ∀{x c v},b.lookup x=Y c->h.IsCell c v->h'.IsCell c v:=λ{x c v} e z=>by obtain⟨o,k,l⟩:=z;exact⟨o,u.keep c o k (U.cell x c e).2 (n x c e)<|by simp,l⟩
 refine⟨U.inj,U.has,λx c e=>?_,λi x v h1 p=>?_,U.len⟩
 .obtain⟨⟨v,o,k,l⟩,t⟩:=U.cell x c e;exact⟨⟨v,kp e ⟨o,k,l⟩⟩,u.free c o k t<|by simp⟩
 .obtain⟨s,c,w,m,y,r⟩:=U.val i x v h1 p;exact⟨s,c,w,m,kp m y,r⟩
end
section
variable {X:Cx}{N:iI}{scope:jb}{e:jQ}{c:St}{q:ay}{a:bi}{b:iq}{d:hJ}{k:Nat}{t:XK->TE}
end
end L2
namespace PX
open L2 PySem.SeqAt PySem.W
def Ya{b:List (D×Bool)}(h: ∀a∈b,a=(a.1,C))(f:L2.St)(a:hJ): ¬W3 f (b.map Y) a:=λU=>by
 obtain⟨i,d,h1,_⟩:=U
 rw[kl] at h1;obtain⟨p,c,e⟩:=ja h1;cases e;have:=h _ (mq c);simp at this
section
variable {X:Cx}
def Hl{T:SI}{g:L2.St}{l:Dn}{U:Hp}{d:jw}{f:List (D×Bool)}{K:Frag}(m:ER K U T g l)(r:jo l (d.map .slot)=Y f):
  ∃vs:List V,tD d 0 g=vs.map Y/\Ops K T g l U (d.map Ax.slot) vs l U T:=by
 obtain⟨u,s⟩:=nY r
 have there: ∀(i j:Nat),d[i]?=Y j-> ∃v,g[j]?=Y (Y v):=λi j e=>by
  have t:i<(Ls f):=by have:=(wa.mp e).1;simp at u;lia
  obtain⟨o,q,k⟩:=s i _ (jg t);rw[kl,e] at q;cases q;have n:=mU k;generalize f[i]=y at n;obtain⟨x,b⟩:=y
  cases b with
  |false=>obtain⟨v,h,_⟩:=m.val j x n;exact⟨v,h⟩
  |true=>obtain⟨a,h,_⟩:=m.own j x n;exact⟨_,h⟩
 refine⟨d.map λj=>((g[j]?).join).getD .T1,?_,by simp,.refl,m,λ_ z=>z,λj x v e=>?_,λj x v e=>?_,λj i v e hv=>?_⟩
 .unfold tD;rw[ee,xH];apply wQ;intro i;rw[kl,kl,kl]
  cases e:d[i]? with
  |none=>rfl
  |some j=>obtain⟨v,hv⟩:=there i j e;simp[hv]
 .rw[kl] at e;obtain⟨_,_,z⟩:=ja e;cases z
 .rw[kl] at e;obtain⟨_,_,z⟩:=ja e;cases z
 .rw[kl] at e;obtain⟨c,p,z⟩:=ja e;cases z;obtain⟨w,k⟩:=there j i p;rw[kl,p] at hv;simp[k] at hv;rw[k,hv]
end
section
variable {X:Cx}{t c:hJ}{a:bi}{e:iq}{scope:jb}{f b p:bq}{d:jw}{v u:iI}{q:F}{xB:XS}{s:FS}{w:ay->Option Nat}{g:jw}{st:aV}{fr:hJ}{r:mS}{n o l h m:ay}{CR:hJ}{i j k:Nat}
end
open TS
noncomputable abbrev Mt(i:Int):Int:=if i<0 then -i else i
section
variable {d:iL}{w:iD}{A:iE}{E:iY}{s:ie}
def af7{a:hJ}{f:jr}{r:ig}{n:Nat}{P:th->ie->Prop}(M:s.heap.get? a=J4 (bf "list" f.toArray n))(hi:dY f r)(h64:f.length<64)
  (h: ∀g y out c,(∀b o,b≠a->s.heap.get? b=J4 o->g.get? b=J4 o)->g.get? a=J4 (bf "list" out c)->KskOut K2 (r.map Mt) f out.toList->P (.done<|.ret .none) {s with heap:=g,toks:=y}):
  af (aj d w) A (ksk_tree a (.builtin "abs") K2) P E s:=by
 have ha:a<s.heap.objs.size:=jW M;have W:=hi.length;have T: ∀k,k<=f.length->k<=sizeLine:=λk hk=>by rw[jT];omega
 unfold ksk_tree;refine hV<|HV M K3<|hV<|wJ M K3 ?_ (T _ (by simp))<|lP _;obtain⟨B,u4⟩: ∃B,(s.heap.update a<|aO λ_=>(#[]:Array ir)).get? a=J4 (bf "list" #[] B):=⟨_,za M λ_=> #[]⟩
 refine hV<|AU u4 K3<|hV<|Ic ?_<|T _ (by simp);refine hV<|Eo ?_<|lP _;refine lz ?_
 let h1:=qp s.heap a f
 let m:Addr:=((s.heap.update a<|aO λ_=>(#[]:Array ir)).push<|bf "tuple" f.toArray 0).objs.size
 have hk:m=s.heap.objs.size+1:=by show _=_;simp -iota only[m];rw[size_push',Heap.size_update]
 have L:a≠m:=by rw[hk];exact kd<|rO ha
 have old: ∀b o,b≠a->s.heap.get? b=J4 o->h1.get? b=J4 o:=λb o z e=>jU _ (jU _ (by rw[HU _ _ _ _ z];exact e));have F:h1.get? a=J4 (bf "list" #[] B):=jU _ (jU _ u4);have R:h1.get? m=J4 (bf "list" #[] 0):=km _ rfl;show af (aj d w) A (ksk_rest a (.builtin "abs") K2 f.toArray B<|.ref m) P E {s with heap:=h1};unfold ksk_rest;refine hV<|uf ?_;rw[List.forIn_toArray];refine hV<|ksk_fold (λi U=> ∃g y l e,U={s with heap:=g,toks:=y}/\(∀b o,b≠m->h1.get? b=J4 o->g.get? b=J4 o)/\g.get? m=J4 (bf "list" l e)/\dY l.toList ((r.map Mt).take i)) f 0 _ ⟨h1,s.toks,#[],0,rfl,λ_ _ _ e=>e,R,.nil⟩ (λj x U Z D=>?_) λU D=>?_
 .obtain⟨g,y,l,e,rfl,N,G,p⟩:=D;have V:j<f.length:=(wa.mp Z).1;obtain⟨t,X⟩:=hi.get j r[j]<|jg (by omega);rw[Z] at X;cases X
  have q:l.size<=f.length:=by have:=p.length;rw[kL,tR] at this;omega
  refine hV<|ud<|EQ λu bS=>?_;dsimp only;have s1:=sN g m (aO (·.push (.int (Mt r[j]) u)));refine hV<|wJ (s:={s with heap:=g,toks:=bS}) G K3 ?_ (T _ q)<|kW (r0 (Array.size_push ..)) (by rw[jT];omega);refine iw ⟨rfl,_,_,l.push<|.int (Mt r[j]) u,_,rfl,λb o z e=>(s1.2 b z).trans<|N b o z e,za G _,?_⟩;rw[uc,List.take_add_one,kl,jg (show j<r.length by omega),eu];rw[uc] at p;exact p.append<|.cons _ _ .nil
 .obtain⟨g,y,l,e,rfl,N,G,p⟩:=D;have p:dY l.toList (r.map Mt):=by rwa [uc,AW<|by simp;omega] at p
  have q:l.size=f.length:=by have:=p.length;rw[kL,jf] at this;omega
  have J:(l.zip f.toArray).size=f.length:=by rw[l7,q,jq,Nat.min_self]
  refine hV<|HV (s:={s with heap:=g,toks:=y}) G K3 ?_
  have v: ∀st:tJ,(eO st).Perm (l.zip f.toArray)->SortedTo (eO st) (eO st).size->fj st=KE->af (aj d w) A (ksk_tail a K2 B (.ref m) st) P E {s with heap:=g,toks:=y}:=λst O S K=>by
   have s1:=sN g m<|aO λ_=>(#[]:Array ir);have Y:(g.update m<|aO λ_=>(#[]:Array ir)).get? a=J4 (bf "list" #[] B):=(s1.2 a L).trans<|N a _ L F;have s2:=sN (g.update m<|aO λ_=>(#[]:Array ir)) a (aO λ_=>(eO st).map (·.2));unfold ksk_tail;simp -iota only[jy,jS];refine hV<|wJ (s:={s with heap:=g,toks:=y}) G K3 ?_ (T _ (by omega))<|lP _;refine hV (Fk (hV (AU Y K3 (hV (wJ Y K3 ?_ (lP _) (kA (show((eO st).map (·.2)).size<=sizeLine from T _ (by rw[mi,O.size_eq,J];exact jM _))))))));rw[K];simp -iota only[vW,jy,jS];refine iw<|h _ _ _ _ (λb o z e=>?_) (za Y _) (ksk_out (b:=K2) p O S);have I:b≠m:=by rw[hk];exact kd<|rO<|jW e
   exact(s2.2 b z).trans ((s1.2 b I).trans<|N b o I<|old b o z e)
  unfold ksk_end;simp -iota only[jy,jS];by_cases H:f.toArray.size<2
  .rw[iz H,iz H];refine hV<|iw ?_;rw[HY];refine hV<|iw<|v _ (Array.Perm.refl _) (λi j p7 V=>?_) rfl;have cM:j<(l.zip f.toArray).size:=V;rw[J] at cM;rw[jq] at H;have:i=j:=by omega
   subst this;exact Int.le_refl _
  .rw[iG H,iG H];rw[jq] at H;rw[ksk_kind p<|by rw[q];omega];refine hV (iw ?_)
   refine hV (nI (wpS_sortRuns (a₀:=l.zip f.toArray) (st:=SortSt.mk' wP (l.zip f.toArray) #[] 7 KE) (Q:=λ_ C=>(eO C).Perm (l.zip f.toArray)/\fj C=KE/\SortedTo (eO C) (l.zip f.toArray).size)
    (ksk_intKeys p) ⟨Array.Perm.refl _,rfl,rfl,rfl⟩ (by rw[J];omega) (by rw[J];exact h64) λC a1 a2 a3=>⟨a1,a2,a3⟩) ?_ λ_ _ e=>e)
   rintro⟨⟨⟩,C⟩ U ⟨rfl,O,K,S⟩;exact v C O (by rw[O.size_eq];exact S) K
end
def aD:D->Int
 | .int i=>Mt i
 |_=>0
noncomputable def Mp:D->Bool
 | .int _=>J
 |_=>C
def JV(x y:D):Bool:=decide<|aD x<aD y
def xu:D->Option (D×Bool)
 | .lst l=>if l.all Mp=J/\(l.map aD).Nodup/\(Ls l)<64 then Y (.lst<|mY JV l,J) else I
 |_=>I
def QK{x:D}: ∀{l:List D},l.Pairwise (λa b=>aD a<=aD b)->(Fp JV x l).Pairwise λa b=>aD a<=aD b:=by
 intro g
 induction g with
 |nil=>intro _;simp[Fp]
 |cons y l f=>
  intro h;obtain⟨h1,e⟩:=Dr.mp h;unfold Fp;by_cases d:aD y<aD x
  .rw[iz<|by simpa[JV] using d];refine Dr.mpr ⟨λz c=>?_,f e⟩;rcases mz.mp ((vz JV x l).mem_iff.mp c) with rfl|c
   .omega
   .exact h1 z c
  .rw[iG<|by simpa[JV] using d];refine Dr.mpr ⟨λz c=>?_,h⟩;rcases mz.mp c with rfl|c
   .omega
   .have:=h1 z c;omega
def Dz: ∀l:List D,(mY JV l).Pairwise λa b=>aD a<=aD b:=by
 intro d
 induction d with
 |nil=>exact .nil
 |cons _ l c=>exact QK<|c
theorem DJ: ∀{l:List D},(l.map aD).Nodup-> ∀a∈l,∀b∈l,aD a=aD b->a=b
 |x::l,h,a,d,b,f,e=>by
  rw[jG,Am] at h;rcases mz.mp d with h1|h1<;>rcases mz.mp f with c|c
  .rw[h1,c]
  .exact absurd (h1▸e▸oR c) h.1
  .exact absurd (c▸e▸oR h1) h.1
  .exact DJ h.2 a h1 b c e
def aga{l m:List D}(c:m.Perm l)(g:m.Pairwise λa b=>aD a<=aD b)(f:(l.map aD).Nodup):m=mY JV l:=by refine(c.trans (kP JV l).symm).eq_of_pairwise (le:=λa b=>aD a<=aD b) (λa b d e x y=>DJ f a (c.mem_iff.mp d) b ((kP JV l).mem_iff.mp e)<|by omega) g (Dz l)
section
variable {X:Cx}{f:iX}{g:L2.St}{H:Hp}{s:ie}
def abA{O:SI}: ∀{l:List D} {j:List V} {c:jr},l.all Mp=J->YP X.K H O l j->Vals j c-> ∃e:List Int,l=e.map .int/\dY c e:=by
 intro n
 induction n with
 |nil=>intro j c _ r v;rw[YP] at r;subst r;cases v;exact⟨[],rfl,.nil⟩
 |cons d l m=>
  intro j c h r v;rw[YP] at r;obtain⟨x,q,rfl,o,p⟩:=r;rw[zf,kU] at h
  cases d with
  |int i=>
   cases v with
   |cons a b=>obtain⟨e,rfl,k⟩:=m h.2 p b;rw[jd<|.inl o] at a;obtain⟨t,rfl⟩:=a;exact⟨i::e,rfl,.cons _ _ k⟩
  |_=>exact absurd h.1 (by simp[Mp])
theorem YR: ∀{l:List D} {a:ig} {xs:List V} {its:jr},l=a.map .int->Ls xs=Ls l->Ls its=Ls l->(a.map Mt).zip its=(l.zip<|xs.zip its).map λt=>(aD t.1,t.2.2)
 |[],[],_,_,_,_,_=>by simp
 |d::l,i::a,x::xs,u::its,h,h1,b=>by obtain⟨rfl,c⟩:=wL h;have:=YR (xs:=xs) (its:=its) c (by simpa using h1) (by simpa using b);simp -iota only[jG,wK,this];rfl
def ad5{u:ir}{Q:VK}{O:SI}{d:D}{z:D×Bool}{x:V}(I:Inv X f g H s)(ru:RelV x u)(np: ∀p,¬Ow (H p)-> ¬O p)(hd:ky X.K H O d x)(M:xu d=J4 z)(G:Gen X.K H O z Q):
  af (aj X.prog X.w) X.A (call (.builtin "sorted") [u] [(bn "key",.builtin "abs")]) (EP X f g Q) X.xe s:=by
 cases d with
 |lst l=>
  obtain⟨⟨hI,hn,hz⟩,rfl⟩:=iR M;obtain⟨p,xs,rfl,q,E⟩:=kD hd;cases ru;obtain⟨j,v,pl,_⟩:=I.list q;have e1:=E.length;have e2:=v.length;obtain⟨ns,R,r⟩:=abA hI E v;have hl:j.length<=sizeLine:=by rw[jT];omega
  obtain⟨o,ho,hc,n,t5⟩:=pl.isList;refine call_function_entry_kw J0 Do Ev (ksk_s1 _ _) ?_;unfold bb.«sorted»;refine hV (m:=checkCount "sorted" 1 1 _)<|iw ?_;refine hV<|HS p (.inl K3) ho hc t5 (λh1 k1=>?_) (by rw[jq];omega);rw[List.toList_toArray];refine hV<|Eo ?_ hl;have T:(h1.push<|bf "list" j.toArray 0).get? h1.objs.size=J4 (bf "list" j.toArray 0):=km _ rfl;have L:Inv X f g H {s with heap:=h1}:=I.kept k1;refine hV<|lz<|wpAny_call_entry_kw (s:={s with heap:=h1.push (bf "list" j.toArray 0)}) ww ⟨_,T,rfl⟩ t6 ?body<|ksk_l1 _ _
  case body=>
   show af _ _ (bb.«list.sort» ⟨[.ref h1.objs.size],[(bn "key",.builtin "abs")]⟩) _ _ _;rw[ksk_t4];refine af7 (s:={s with heap:=h1.push (bf "list" j.toArray 0)}) T r (by omega) λZ tk out c k2 k3 ko=>⟨_,rfl,iw ⟨_,rfl,?_⟩⟩
   obtain⟨ps,U,k,Y⟩:=ko;rw[YR R (by omega)<|by omega] at U;obtain⟨a,F,rfl⟩:=mE _ U _ rfl;rw[jx] at k
   have S: ∀t∈a,Rep X.K H O t.1 t.2.1/\RelV t.2.1 t.2.2:=λt hm=>by obtain⟨i,hi⟩:=sP<|F.mem_iff.mp hm;obtain⟨B,W⟩:=F6.mp hi;obtain⟨y,C⟩:=F6.mp W;obtain⟨w,P,w2⟩:=v.get y;rw[C] at P;cases P;exact⟨E.views B y,w2⟩
   have J:a.map (·.1)=mY JV l:=by
    refine aga ?_ (by rw[mT] at Y ⊢;exact Y.imp λh=>by simpa using h) hn;have:=F.map (·.1)
    rwa [kS<|by simp;omega] at this
   have hR: ∀a:List (D×V×ir),(∀t∈a,Rep X.K H O t.1 t.2.1/\RelV t.2.1 t.2.2)->YP X.K H O (a.map (·.1)) (a.map (·.2.1))/\Vals (a.map (·.2.1)) (a.map (·.2.2)):=λa=>by
    induction a with
    |nil=>exact λ_=>⟨.nil,.nil⟩
    |cons t a ih=>intro h;obtain⟨i1,i2⟩:=ih λx hx=>h x<|ji _ hx;exact⟨.cons (h t jc).1 i1,.cons (h t jc).2 i2⟩
   obtain⟨r1,r2⟩:=hR a S;have keep: ∀b o,h1.get? b=J4 o->Z.get? b=J4 o:=λb o e=>k2 b o (kd<|jW e)<|jU _ e;have N:a.length=l.length:=by have:=mC dQ J;rw[(kP JV l).length_eq,jf] at this;exact this
   refine⟨.ref h1.objs.size,_,L.laid (t':=tk) keep (jM _) (show T2 X.prog X.w _ _ _ (.lst (a.map (·.2.1))) from⟨by rw[jf,jT];omega,out.toList,c,?_,?_⟩),rfl,?_⟩
   .rw[k];exact r2
   .rw[Nd];exact k3
   .refine G.lst L.fresh ?_;rw[<-J];exact r1
 |_=>cases M
def Pq{a:iq}{i:TA}{p b v kp:bq}(c:Gl X "sorted")(r:X.mg "sorted"=I)(j:Gl X "abs")(m:X.mg "abs"=I)(n:PA X [a] i)
  (o:aF b (ag [a] X.env)=(C,aQ a X.env)::aF b (ag [] X.env))(l:(aF b<|ag [a] X.env).any (·.1)=C):
  PE X (.Call (.Name "sorted" p) [a] [⟨Y "key",.Name "abs" v,kp⟩] b) (OG (GR X.K<|g1 xu) i):=by
 intro f s g H Q T h;refine xG<|si T c r afo<|callWith_kw (NL (n b f s g H _ T h) λB s1 ⟨U,A,e,w,t⟩=>kws_cons<|si e j m Yv<|kws_nil ?_) o l K3 K3;obtain⟨O,k,z,np,q,hv,c,G⟩:=t
 match k,c with
 |[d],c=>obtain⟨x,rfl⟩:=KI q K3;obtain⟨u,rfl,y⟩:=qQ w;exact ad5 e y np (hv 0 d x K3 K3) c G
def afW{a:iq}{c:FO}{p b m kp:bq}(k:Gl X "sorted")(l:X.mg "sorted"=I)(d:Gl X "abs")(h:X.mg "abs"=I)(i:PA X [a] (tA X.K [c]))
  (j:aF b (ag [a] X.env)=(C,aQ a X.env)::aF b (ag [] X.env))(e:(aF b<|ag [a] X.env).any (·.1)=C):
  PX X (.Call (.Name "sorted" p) [a] [⟨Y "key",.Name "abs" m,kp⟩] b) (iO (g1 xu) [c]):=pxn<|Pq k l d h i j e
end
noncomputable def JF(i:Nat):F:=λa=>match a[i]? with
 |some (Y (.lst l,J))=>(l[Ls l-1]?).bind λd=>Y ((d,C),a.set i<|Y (.lst l.dropLast,J))
 |_=>I
def YP.dropLast{K U}{O:SI}{l:List D}{a:List V}(r:YP K U O l a):YP K U O l.dropLast a.dropLast:=by rw[Nc,Nc,r.length];exact r.take _
section
variable {X:Cx}{x:ay}{i:Nat}{f c g:bq}
def WT(hv:PO X (.Name x f) (hX i))(U:b3 (.Name x f) "pop" X.env (aQ (.Name x f) X.env)=aQ (.Name x f) X.env)(B:(c.endLine==g.line)=K0):
  PX X (.Call (.Attribute (.Name x f) "pop" c) [] [] g) (JF i):=
 PX.imp (Xj HE Ng Nf XC hv U B) λM N Q A=>by
 obtain⟨s,T,J,O,E,e,k⟩:=A;unfold JF at e;split at e
 .rename_i l p;obtain⟨d,hd,e⟩:=hG e;obtain⟨rfl,rfl⟩:=iP e;refine⟨s,T,.slot i,s,E,by unfold hX;rw[p],λv G P=>?_⟩;obtain⟨u,q,h⟩:=P;obtain⟨a,g1,r,g2,m⟩:=q.own i _ p;rw[h] at g1;cases g1;obtain⟨w,I,L⟩:=m.get hd;have y:=m.length;obtain⟨t,j⟩:=q.write p h<|YP.dropLast m;refine⟨.inl ⟨rfl,r,FV.of g2⟩,_,r,w,rfl,rfl,g2,by rw[y];exact I,?_⟩;exact k _ _ (Ms.val (u.trans j) t<|Rep.mono (λb o e n=>j.kp b o e λz=>n<|.inl z) (λb _ z=>z.imp (j.ow b) id) L)
 .cases e
end
def X4:=gI λi j=>if yP i j then Y (.int<|i*2^j.toNat) else I
def aaA:=gI λi j=>if 0<=j then Y (.int<|i / 2^j.toNat) else I
def VA:=gI λi j=>Y<|.int<|bW i j
section
variable {X:Cx}
def TR:BO X (aU .LShift) (rD X.K X4):=vp Xo
def TQ:BO X (aU .RShift) (rD X.K aaA):=vp Xn
def TU:BO X (aU .BitAnd) (rD X.K VA):=GF Xv
variable {a:iq}{e:FO}{p b f kp d c:bq}{x:ay}{i:Nat}
def xSA(T:Tx X.mg)(k:QA X [a] [e])(m:Gl X "sorted":=by rfl)(g:Gl X "abs":=by rfl)(l:aF b (ag [a] X.env)=(C,aQ a X.env)::aF b (ag [] X.env):=by rfl)(j:BA X b [a]:=by rfl):
  QX X (.Call (.Name "sorted" p) [a] [⟨Y "key",.Name "abs" f,kp⟩] b) (iO (g1 xu) [e]):=⟨afW m (Mx T (z:="sorted") H) g (Mx T (z:="abs") H) k.h l j⟩
def Zx(hv:QO X (.Name x d) (hX i))(j:b3 (.Name x d) "pop" X.env (aQ (.Name x d) X.env)=aQ (.Name x d) X.env:=by rfl)(g:(c.endLine==b.line)=J:=by rfl):
  QX X (.Call (.Attribute (.Name x d) "pop" c) [] [] b) (JF i):=⟨WT hv.h j g⟩
end
section
variable {X:Cx}{a:iX}{b:L2.St}{H:Hp}{s:ie}
theorem Kt{K:iJ}{O:SI}: ∀(c:List Key),YP K H O (c.map ke)<|c.map kV
 |[]=>YP.nil
 |k::c=>by
  refine YP.cons ?_<|Kt c
  cases k with
  |inl i=>exact Rep.mkInt
  |inr x=>exact Rep.mkStr
theorem xh{K:iJ}{O:SI}(np: ∀p,¬Ow (H p)-> ¬O p): ∀{c:List (List Key×V)} {d:List (List Key×hJ×ir)},L2.KT H c d->YP K H O (c.map λp=> .tup (p.1.map ke)) (d.map λx=>V.ref x.2.1)
 |_,_,.nil=>YP.nil
 |_,_,.cons h t=>by refine YP.cons (Rep.JZ ⟨h.2.1,np _ λz=>z.nt _ h.2.1⟩<|Kt _)<|xh np t
def Bp{P:iL}{w:iD}(c:List (List Key×hJ×ir)):Vals (c.map λx=>V.ref x.2.1) ((c.map<|entryOfKey<|dH<|kY P w).map (·.key)):=by
 induction c with
 |nil=>exact .nil
 |cons x c d=>exact .cons K3 d
end
def Fu(d:D):Option (D×Bool):=match d with
 | .R1 .dct a _=>Y (.lst a,J)
 |_=>Ca d
def af6{b:iL}{w:iD}{a:hJ}{c:Array dM}{d:Nat}(hd:(a==br)=C):PySem.W.KdlSrc b w "dict" a a c.size (λi v=> ∃e,c[i]?=Y e/\v=e.key) (λh=>TT.GG h a c d) where
 type:=λs x=>x.typeIs
 there:=λh x=>let⟨_,h1,_⟩:=x.at_;⟨jW h1,jW h1⟩
 keep:=λh j x k=>x.Aw λo e=>k a (.inl H) o e
 notList:=by decide
 notTuple:=by decide
 hint:=λA E s Q x h=>PySem.W.kdl_hint_dict x.typeIs h
 iter:=λA s g x=>by have f:a<s.heap.objs.size:=let⟨_,h1,_⟩:=x.at_;jW h1;exact⟨_,_,λE Q h=>TT.Lf hd x h,TT.Ht g s.heap.objs.size a (sV f) c d,⟨⟨_,km _ rfl,rfl,rfl⟩,x.Aw λo e=>jU _ e⟩⟩
section
variable {X:Cx}{b:iX}{f:L2.St}{H:Hp}{s:ie}
def yg(o:X.A.handled=I)(U:Inv X b f H s){a:hJ}{g:Array dM}{m:Nat}{O:SI}{k:List D}{j:List V}{Q:VK}(hd:(a==br)=C)(S:TT.GG s.heap a g m)(l:g.size<=sizeLine)
  (r:YP X.K H O k j)(v:Vals j (g.toList.map (·.key)))(G:Gen X.K H O (.lst k,J) Q):af (aj X.prog X.w) X.A (call (.type "list") [.ref a]) (EP X b f Q) X.xe s:=by
 refine PySem.W.kdl_call (af6 hd) o S l λx t d c kp q it=>?_
 have n:d.toList=g.toList.map (·.key):=by
  apply wQ;intro i;rw[lK,kl,lK]
  cases h:d[i]? with
  |some u=>obtain⟨e,h1,rfl⟩:=it.2 i u h;rw[h1];rfl
  |none=>have:=VW.mp h;rw[VW.mpr<|by rw[<-it.1];exact this];rfl
 have p:=v.length;refine⟨.ref s.heap.objs.size,_,U.laid (t':=t) kp (jM _) (show T2 X.prog X.w _ _ _ (.lst j) from⟨by rw[p,jf,kL];exact l,d.toList,c,by rw[n];exact v,by rw[Nd];exact q⟩),rfl,?_⟩;exact G.lst U.fresh r
def aes(M:X.calm=K0):kG X (.type "list") (GR X.K<|g1 Fu):=nW λb s f H x u Q O d z I B np hd t G=>by
 by_cases y: ∃l C,d= .R1 .dct l C
 .obtain⟨l,C,rfl⟩:=y;cases(show J4 (D.lst l,K0)=J4 z from t);obtain⟨a,P,rfl,q,r⟩:=pH hd;cases B;have v:X.A.handled=KE:=I.ok.hd M;rcases q with⟨h,e,rfl,rfl⟩|⟨h,e,rfl,rfl⟩
  .obtain⟨U,m,N,c,o,n,T,h1,g,i,k,p,J⟩:=Rt I.hok e;have E:=Dt p c;have w:=E.length;simp only[jf,kL] at w;exact yg v I m ⟨o,h1,g,i⟩ (by lia) (zw h) E G
  .obtain⟨U,m,L,c,o,n,T,h1,g,i,k,p,J⟩:=Rq I.hok e;have w:=um c;have F:n.size=L.length:=tc k;exact yg v I m ⟨o,h1,g,i⟩ (by lia) (xh np c) (by rw[k];exact Bp L) G
 .have:Fu d=Ca d:=by
   unfold Fu;split
   .exact absurd ⟨_,_,rfl⟩ y
   .rfl
  exact CF b s f H [x] [u] Q I (.cons B .nil) ⟨O,[d],z,np,rfl,λj Y R h1 g=>by
   cases j with
   |zero=>cases h1;cases g;exact hd
   |succ j=>simp at h1,by show Ca d=J4 z;rw[<-this];exact t,G⟩
end
def G9(d e:D):Option (D×Bool):=match d,e with
 | .lst l,.int k=>if 0<=k/\k<1000/\(Ls l)*k.toNat<=sizeLine then Y (.lst (ah k.toNat l).flatten,J) else I
 |_,_=>oJ d e
theorem YP.rep{K U}{O:SI}{l:List D}{a:List V}(r:YP K U O l a): ∀n:Nat,YP K U O (ah n l).flatten (ah n a).flatten
 |0=>YP.nil
 |n+1=>by rw[ui,ui,zi,zi];exact r.append<|YP.rep r n
section
variable {X:Cx}
def agk:BO X (aU .Mult) (rD X.K G9):=by
 intro i s σ H x y v u Q I M j h;obtain⟨O,d,e,z,np,h1,A,B,G⟩:=h;by_cases C: ∃l k,d= .lst l/\e= .int k
 .obtain⟨l,k,rfl,rfl⟩:=C;obtain⟨⟨cK,V,E⟩,rfl⟩:=iR (show(if 0<=k/\k<1000/\l.length*k.toNat<=sizeLine then J4 (D.lst (ah k.toNat l).flatten,K0) else KE)=J4 z from B);obtain⟨p,xs,rfl,q,r⟩:=kD h1;cases M;rw[jd A] at j;obtain⟨t,rfl⟩:=j;obtain⟨b,J,W,_⟩:=I.list q;obtain⟨⟨P,dd,o,N⟩,n,e,L,_,Y⟩:=W;simp only at L Y;subst L Y;have w:=r.length;have S:=J.length;have g:b.toArray.size*k.toNat<=sizeLine:=by rw[jq,<-S,w];exact E
  have f: ¬b.toArray.size*k.toNat>(2^63-1) / 8:=by
   have:(sizeLine:Nat)<=(2^63-1) / 8:=by decide
   lia
  have R: ¬(!ts k)=K0:=by rw[v7 (by lia)<|by lia];exact ku
  have c: ¬cG (b.toArray.size*k.toNat)=K0:=by rw[agf g];exact ku
  have Z:en (λx1 x2=>x1++x2) #[] (ah (if b.toArray.isEmpty=K0 then 0 else k.toNat) b.toArray)=(ah k.toNat b).flatten.toArray:=by
   have f0: ∀m:Nat,en (λx1 x2=>x1++x2) #[] (ah m b.toArray)=(ah m b).flatten.toArray:=λm=>by
    have:=DU b m []
    rwa [wy] at this
   rw[f0]
   cases b with
   |nil=>simp
   |cons a r'=>rw[iG<|by simp]
  refine wpAny_binaryOp_repeat_ref (T:="list") (U:="int") (by decide) ⟨_,e,rfl⟩ (λs'=>na s' k t) noFill_list_mul F.fills_int_mul F.slot_int_rmul repeat_list F.slot_int_index.lookup
   (zh F.slot_int_rmul (na s k t) F.entry_int_rmul (F.args_int_rmul_2 _ _) (lm_int_rmul_list_any k t p b.toArray n dd N)
    ⟨e,rfl,⟨_,e,rfl⟩,zh F.slot_list_mul ⟨_,e,rfl⟩ F.entry_list_mul (F.args_list_mul_2 _ _) (lm_list_mul_any p b.toArray n dd N k t R f c) ⟨e,?_⟩⟩)
  rw[Z];exact⟨.ref _,_,I.ML (t':=s.toks) (J.rep k.toNat)<|by rw[Uc,wG,w];exact E,rfl,G.lst I.fresh<|r.rep k.toNat⟩
 .have:G9 d e=oJ d e:=by
   unfold G9;split
   .exact absurd ⟨_,_,rfl,rfl⟩ C
   .rfl
  exact ni i s σ H x y v u Q I M j ⟨O,d,e,z,np,h1,A,by rw[<-this];exact B,G⟩
end
section
variable {prog:iL}{w:iD}{A:iE}{E:iY}{I:hJ}{c a:ki}{n:Nat}{P:Nat->ir->Prop}{St:Nat->iK->Prop}
theorem Cu(W:wr prog w A I c a n P St): ∀(k i:Nat) (s:ie) (Q:List ir->ie->Prop),i+k<=n->St i s.heap->
  (∀d f y,Ls d=k->(∀j v,d[j]?=Y v->P (i+j) v)->St (i+k) f->(∀b o,b∉a->s.heap.get? b=Y o->f.get? b=Y o)->Q d {s with heap:=f,toks:=y})->af (aj prog w) A (draw (.ref I) k) Q E s
 |0,i,s,Q,_,st,h=>iw<|h [] s.heap s.toks H (λj v e=>by simp at e) st λ_ _ _ e=>e
 |k+1,i,s,Q,hk,st,h=>by
  show af _ _ (b9 (.ref I)>>=_) Q E s;refine hV<|W.item i s _ _ (by lia) st λv h1 B x p q=>?_;refine hV<|lz<|Cu W k (i+1) _ _ (by lia) p λd r m t hv z l=>iw ?_;refine h (v::d) r m (by simp[t]) (λj u e=>?_) (by rw[show i+(k+1)=i+1+k by lia];exact z) λb o g e=>l b o g<|q b o g e
  cases j with
  |zero=>simp at e;subst e;exact x
  |succ j=>rw[show i+(j+1)=i+1+j by lia];exact hv j u (by simpa using e)
def adZ{s:ie}{t:hJ}{items:oA}{d:List (Bool×(ir->da Unit))}{Q:Unit->ie->Prop}(U:A.handled=KE)(g:s.heap.IsList t items)
  (N:(Ls d)=items.size)(f:d.findIdx? (·.1)=KE)
  (h: ∀l O,(∀b o,s.heap.get? b=Y o->l.get? b=Y o)->af (aj prog w) A (xx (d.map (·.2)) items.toList) Q E {s with heap:=l,toks:=O}):
  af (aj prog w) A (unpack (.ref t) d) Q E s:=by
 have L:t<s.heap.objs.size:=by obtain⟨o,i,_⟩:=g;exact jW i
 have z:s.TypeIs (.ref t) "list":=by obtain⟨o,i,B,_⟩:=g;exact⟨o,i,B⟩
 have W:=EA (prog:=prog) (w:=w) (A:=A) U s.heap.objs.size t (kd L) items;unfold unpack;rw[N,f];refine hV<|lz ?_;unfold unpackItems;refine hV ?_;unfold notIterableAtAll;refine hV<|wB z PySem.F.slot_list_iter.lookup<|iw ?_;simp only[jy,jS];refine hV<|lz<|Be g ?_;refine hV<|lz<|Cu W items.size 0 _ _ (by lia) ⟨⟨_,km _ rfl,rfl,rfl⟩,g.push _⟩ λp h1 T G hv k u=>?_
 have x:p=items.toList:=by
  apply wQ;intro j
  cases e:p[j]? with
  |some v=>have:=hv j v e;rw[uc] at this;rw[lK,this]
  |none=>have:=YG.mp e;rw[YG.mpr<|by rw[kL];lia]
 rw[iG<|by lia];refine hV<|lz<|W.done _ _ _ (by rw[uc] at k;exact k) λy r q=>?_;simp only[Option.isSome_none,jy,jS];rw[x];refine iw<|h y r λb o e=>?_;have m:b∉[s.heap.objs.size]:=by simp;exact kd<|jW e
 exact q b o m<|u b o m<|jU _ e
end
def Gh(a:List Tg):Tg
 | .lst ds,δ=>Dw a ds δ
 |d,δ=>Gg a d δ
section
variable {X:Cx}{A:jK}{f:bq}{c:kj}{b:List Tg}
theorem Dv{d:Dn}: ∀(b:List Tg) (a:List D) (g:Dn),Dw b a g=Y d->Ls a=Ls b
 |[],[],_,_=>rfl
 |[],_::_,_,h=>by cases h
 |_::_,[],_,h=>by cases h
 |_::b,_::a,_,h=>by obtain⟨e,_,h⟩:=hG h;simp[Dv b a e h]
def Tz{k:Nat}(o:X.calm=K0)(h:Jx X c (OA X.K A b)){n:Nat}(p:(aI c X.env).length=n)(L:b.length=n)(w:(aI c X.env).findIdx? (·.1)=KE):ME X A (.Tuple c k f) (Gh b):=λg s m H v u Q I r O=>by
 obtain⟨l,T,d,j,E,x,e,t⟩:=O;by_cases hd: ∃i,d= .lst i
 .obtain⟨i,rfl⟩:=hd;obtain⟨a,N,rfl,q,y⟩:=x.lst;cases r;obtain⟨G,z,J,_⟩:=I.list q.sq;have U:=y.length;have Y:=z.length;have D:=Dv b i l e;rw[assign_Tuple];refine hV<|xJ<|adZ (I.ok.hd o) J.isList (by rw[jq,p];lia) w λC M kp=>?_;have B:Inv X g m H {s with heap:=C,toks:=M}:=I.kept kp;exact h g _ m H N _ Q B (by simpa using z) ⟨l,T,i,j,E,y,e,t⟩
 .exact Kw o h p L w g s m H v u Q I r ⟨l,T,d,j,E,x,by
   cases d with
   |lst i=>exact absurd ⟨i,rfl⟩ hd
   |_=>exact e,t⟩
end
section
variable {X:Cx}{A:jK}{a b:iq}{g:bq}
def gS{c d:Tg}{k:Nat}(h1:QG X A a c)(e:QG X A b d)(f:X.calm=J:=by rfl)(l:(aI [a,b] X.env).map (·.2)=b5 a X.env::(aI [b] X.env).map (·.2):=by rfl)(m:(aI [b] X.env).map (·.2)=b5 b X.env::(aI [] X.env).map (·.2):=by rfl)
  (i:(aI [a,b] X.env).length=2:=by rfl)(j:(aI [a,b] X.env).findIdx? (·.1)=I:=by rfl):QG X A (.Tuple [a,b] k g) (Gh [c,d]):=⟨Tz f (vn h1.h (vn e.h GC m) l) i H j⟩
variable {e j:iq}{f:F}{x z:ay}{p m l kp:bq}{i k:Nat}{L:LL}{o:Hp}
def xLS{c:oj}{scope:jb}{v:Cf}{tt:Tg}{w:FT}{q:jw}{N':iI}{r:bq}(T:Tx X.mg)(U:Az X N' scope q k)(O:N'.Nodup)(G:QI X (λi=>i∉q) c.target c.iter v)
  (Q: ∀(cl:jQ) (U:hJ) (u:ie) (s:Hp) (t:ki) (n:iX),(X.comp N' scope cl U u s t n).N.Nodup->
   QG (X.comp N' scope cl U u s t n) (λi=>Ls q<=i) c.target tt/\QF (X.comp N' scope cl U u s t n) c.ifs w/\QX (X.comp N' scope cl U u s t n) j f)
  (E:X.calm=K0:=by rfl)(B:c.is_async=0:=by rfl)(I: ∀x,aw c.iter X.env x=pure x:=by intro _;rfl)(M:Gl X "len":=by rfl)
  (h1:ag [.SetComp j [c] scope g] X.env=(C,aQ (.SetComp j [c] scope g) X.env)::ag [] X.env:=by rfl)(y:(aF r<|ag [] X.env).any (·.1)=C:=by rfl):
  QX X (.Call (.Name "len" p) [.SetComp j [c] scope g] [] r) (vD q k v tt w<|CM f):=
 ⟨aeU U E B (by intro J h;cases h) I G.h (λcl U u s t n=>let⟨a,b,c⟩:=Q cl U u s t n O;⟨a.h,b.h,λd=>afy H c.h⟩) M T.n_len Yu (by decide) (by decide) h1 y⟩
def iE1{B:SB}{d:kj}{v:Nat}{w:bq}{c:Int}{n:Nat}(T:Tx X.mg)(r:QX X a f)(s:bg c=J:=by decide)(u:Gl X "enumerate":=by rfl)(s0:SE X a []:=by rfl)
  (t:aF g (ag [a] X.env)=(C,aQ a X.env)::aF g (ag [] X.env):=by rfl)(q:(aF g<|ag [a] X.env).any (·.1)=C:=by rfl):
  QI X B (.Tuple d v w) (.Call (.Name "enumerate" p) [a] [⟨Y "start",.Constant (.int c) n l,kp⟩] g) (Fn c f):=⟨afu u T.n_enumerate r.h s s0 t q⟩
end
def yp(d:D):Option (D×Bool):=match d with
 | .R1 .dct a _=>jY a
 |_=>I
def yq(d e:D):Option (D×Bool):=match e with
 | .R1 .dct a b=>if uH a d=J then Y (.bl (!(mv a b d).isSome),C) else I
 |_=>I
section
variable {X:Cx}{b:iX}{c:L2.St}{H:Hp}{s:ie}
def aeD(o:X.A.units+62<aS):BO X (aA .NotIn) (rD X.K yq):=by
 intro b s c H x y v u Q U m n h;obtain⟨O,d,e,z,np,h1,l,f,G⟩:=h;by_cases j: ∃g i,e= .R1 .dct g i
 .obtain⟨g,i,rfl⟩:=j;obtain⟨hk,rfl⟩:=iR (show(if uH g d=J then Y (D.bl (!(mv g i d).isSome),C) else I)=Y z from f);obtain⟨a,t,rfl,q,r⟩:=pH l;cases n;exact VJ (by lia) U q r hk h1 m J λp k=>⟨.bl _,H,k,by simp[L2.RelV],G.bl⟩
 .unfold yq at f;split at f
  .exact absurd ⟨_,_,rfl⟩ j
  .cases f
def yF(hc:X.calm=K0)(J:X.A.units+62<aS):kG X (.builtin "sorted") (GR X.K<|g1 yp):=nW λb s c H x u Q O d z I W np hd h G=>by
 by_cases T: ∃t M,d= .R1 .dct t M
 .obtain⟨t,M,rfl⟩:=T;have U:jY t=J4 z:=h;obtain⟨a,us,rfl,q,r⟩:=pH hd;cases W;have E:X.A.handled=KE:=I.ok.hd hc;rcases q with⟨g,e,rfl,rfl⟩|⟨g,e,rfl,rfl⟩
  .obtain⟨zl,y,Z,f,o,B,S,h1,l,m,n,C,V⟩:=Rt I.hok e;have N:=Dt C f;have L:=N.length;simp only[jf,kL] at L;exact qU J I (zw (O:=O) g) N U G λR F D i p=>TT.RB y (by rw[i];exact E) ⟨o,h1,l,m⟩ (by lia) λj v k=>p j v k
  .obtain⟨zl,y,Y,f,o,B,S,h1,l,m,n,C,V⟩:=Rq I.hok e;have L:=um f;have hz:B.size=Y.length:=tc n;refine qU J I (xh np f) (Bp (P:=X.prog) (w:=X.w) Y) U G λR F D i p=>TT.RB y (by rw[i];exact E) ⟨o,h1,l,m⟩ (by lia) λj v k=>?_;rw[n];exact p j v k
 .unfold yp at h;split at h
  .exact absurd ⟨_,_,rfl⟩ T
  .cases h
def yG(e:X.calm=J)(f:X.A.units+62<aS):kG X (.builtin "sorted") (GR X.K<|g1 nr):=nW λb s c H x u Q O d z U h np hd a G=>by
 unfold nr at a;split at a
 .split at a
  .exact Vp (g:=nr) (yF e f) U h np hd a G
  .cases a
 .exact Vp (g:=nr) (yE e f) U h np hd a G
end
section
variable {X:Cx}
variable {b f a e c:bq}{i:Nat}{x:ay}{d:Nat}
end
section
variable {X:Cx}{e:iq}{h:FO}{c p d:bq}{z:ay}{l:jw}{k:Nat}
variable {x:ay}{i g:Nat}{j b:bq}{a:iq}{f:F}
end
section
variable {X:Cx}{P:iL}{w:iD}{d:List db}{q:Hp}{s0:ie}{E:XK}{A:jK}{st:aV}{o b:List aV}{x y:XS}{e:iq}{g p j:bq}{f:FS}{z:ay}{a:iq}{m:F}{k:Nat}{i:iI}{h:List D->Option ay}{n:kj}{fs:List FO}{l:FT}{c:iq}
end
def YC(q:ay)(a:hJ)(U:Hp):Prop:= ∃more,U a=Y (.tbl (#[.str q 0]++more))
def spT(TB:List (hJ×ay))(a:Sp):Sp:=λb U Q E=>(∀p∈TB,YC p.2 p.1 U)/\a b U Q E
def JB(scope:jb):Bool:=decide (scope.kind= .function)&&!scope.isCoroutine&&!scope.isGenerator&&(scope.names.all λy=>y.2 != .cell)
def aao{scope:jb}(h:JB scope=J):Dj scope:=by unfold JB at h;simp only[kU,kf,pz,c4,bne_iff_ne] at h;exact⟨h.1.1.1,h.1.1.2,h.1.2,h.2⟩
def walkT{l:OpenLaw}{q:iL}{m:iI}{XP:(ay->Option ir)->iK->Prop}{E:iD->iK->Prop}{d:DefRec}{K:Params->Frag}{LV:Nat}{x:ay}{Q:Ap}{TB:List (hJ×ay)}(hk:AP LV eX)(hn:l.most=J4 63)(cy:d.params.defaults=[])(hY: ∀(w:iD) (h:iK),E w h->(K w.params).In h)
  (L: ∀(w:iD) (h:iK),E w h-> ∀p∈TB,h.get? p.1=J4 (tabObj #[]))(eT: ∀(w:iD),∀p∈TB,(K w.params).lookup p.1=I)(dF:(TB.map (·.1)).Nodup)
  (F: ∀(w:iD) (n:lN) (v:hJ) (h:iK),(K w.params).In h->h.Ns ap n->n d.name=J4 (.ref v)-> ∃I':mS,(∀(s:ie) (u:ir),fg s I' ⟨[u],[]⟩ [(x,u)])/\(∀p∈TB,∃c,codeHdIn (K w.params) c p.1=K0)/\ ∀base:iK,(K w.params).In base->base.Ns ap n->(∀p∈TB,base.BuiltinsAt n p.1)->Df l.prog w (K w.params) n base FK LV v I' [x] (spT TB<|IU (K w.params) Q))
  (M: ∀A:List Int,Ls A<=63-> ∃o j,Q [(.lst<|A.map .int,K2)]=J4 ((.bl K0,o),j)):WalkO q m XP E l.row.toRowW d [] (λf B=>p9 f B):=by
 refine Att.UO hn cy λw U D n mb v o pm cd S a B A G Y ho hd n8 O R k i hg=>?_;have C:=hY w _ Y;obtain⟨I',hb,eS,hF⟩:=F w n v _ C G.T.g O;have N:=L w _ Y;refine afI (TB:=TB) C G.T.g G.T.b G.T.builtins G.T.nolimit hg N (eT w) (λp t=>?_) dF (λp t=>?_) R k (kW i<|by decide) hk hF hb (λH J hS=>?_) λH e s' z=>z
 .obtain⟨c,hc⟩:=eS p t;obtain⟨o,B,_,_,_,_,_,_,_,V,W,X,Z,_⟩:=codeHd_of_K C hc;exact⟨c,o,B,V,W,X,Z⟩
 .obtain⟨P,ob,h1,h2,r,h4,h5,y⟩:=G.T.bmain;refine⟨P,ob,h1,h2,λz=>?_,λz=>?_,r,h4,h5,y⟩
  .obtain⟨o',es,ep,e,dd,_⟩:=G.T.g;rw[z,e] at r;cases r;rw[dd] at y;cases y
  .rw[z,N p t] at r;cases r;cases y
 .obtain⟨o,j,e⟩:=M A i;exact⟨λp t=>⟨#[],by rw[J.all p t];rfl⟩,Uh J.all hS e⟩
def UY(TB:List (hJ×ay))(U:Hp):Prop:= ∀p∈TB,YC p.2 p.1 U
def fnU{Z:ZZ}{k:Nat}{x:ay}{st:aV}{N c:iI}{asg:jw}{fs:FS}{f:hJ}{d:mS}{TB:List (hJ×ay)}(F:Jn Z.K x x st f d)(S:X0 N c (hU st))
  (l: ∀(b:ir) (A:iE) (a:List db) (s:ie) (U:Hp) (E:XK) (L:LL),(∀i,L.p i->i<Ls c)->AP k (A.deeper<|aT x (hU st) s.heap.objs.size f b)->
   un (A.deeper<|aT x (hU st) s.heap.objs.size f b) 60->un (A.deeper<|aT x (hU st) s.heap.objs.size f b) 1->un (A.deeper<|aT x (hU st) s.heap.objs.size f b) 62->un (A.deeper<|aT x (hU st) s.heap.objs.size f b) 90->N.Nodup->
   b=d.code->UY TB U->QQ (rG FK Z.P Z.w Z.K Z.mg Z.base N x (hU st) f b A a s U E).JQ (λi=>i∈asg) L U (lu st) fs):
  Df Z.P Z.w Z.K Z.mg Z.base FK (k+1) f d c (spT TB<|IU Z.K<|Q1 (Ls N) (Ls c) asg fs):=by
 obtain⟨o,q,kV,g,r,an,b,ct,t,rfl,lk,m⟩:=F.ex;refine VD lk m S (λn U Q E h=>Kk h.2) λA a s U n Q E e h=>?_;obtain⟨L,h1,j⟩:=IZ h.2;have:=e.un;exact⟨_,((l b A a s U E L h1 e (by unfold un;omega) (by unfold un;omega) (by unfold un;omega) (by unfold un;omega) S.nd H h.1).h).JQ,j⟩
def MQ(Z:ZZ)(TB:List (hJ×ay))(k:Nat)(x:ay)(b:iI)(c:Ap):Prop:= ∃f a,Df Z.P Z.w Z.K Z.mg Z.base FK k f a b (spT TB<|IU Z.K c)/\Z.mg x=Y (.ref f)/\keepIn Z.K (.ref f)=J/\Binds Z.K a b []
def MQ.up{Z:ZZ}{TB:List (hJ×ay)}{k j:Nat}{x:ay}{d:iI}{c:Ap}(o:MQ Z TB k x d c)(h:k<=j:=by decide):MQ Z TB j x d c:=let⟨f,e,a,b⟩:=o;⟨f,e,a.mono h,b⟩
def TbK(Z:ZZ)(TB:List (hJ×ay))(x:ay)(st:aV)(q:ay)(a:hJ):Prop:= ∃f b c,Z.mg x=Y (.ref f)/\Jn Z.K x x st f b/\b.code= .ref c/\CodeHd Z.base c a/\Z.base.BuiltinsAt Z.mg a/\ap≠a/\(a,q)∈TB
def N2(K:Frag)(d:lN)(x:ay)(st:aV)(b:hJ):Prop:= ∃f a c,d x=Y (.ref f)/\Jn K x x st f a/\a.code= .ref c/\codeHdIn K c b=J
def fzT{K:Frag}{h:iK}{g:lN}{x:ay}{st:aV}{f c d:hJ}{j:ir}{m an:Option hJ}{o:AN}{kV b n ct:ir}(X:K.In h)(G:h.Ns ap g)(a:nsIn K ap x=Y (Y<|.ref f))
  (l:K.lookup f=Y ⟨j,m,.func<|fnOf x x (sH st) (lu st) (hU st) .none kV b n an (.ref c) ct,o⟩)(e:codeIn K (.ref c) x=J)(k:keepIn K (.ref f)=J)(i:codeHdIn K c d=J):N2 K g x st d:=⟨f,_,c,mg_of X G a,Q5 l e k,rfl,i⟩
def N2.tb{Z:ZZ}{x q:ay}{st:aV}{b:hJ}{TB:List (hJ×ay)}(a:N2 Z.K Z.mg x st b)(X:Z.K.In Z.base)(B: ∀p∈TB,Z.base.BuiltinsAt Z.mg p.1)(m:(b,q)∈TB)(i:ap≠b:=by decide):TbK Z TB x st q b:=
 let⟨f,d,c,h1,e,g,h⟩:=a
 ⟨f,d,c,h1,e,g,codeHd_of_K X h,B _ m,i,m⟩
def N2.cd{K:Frag}{d:lN}{x:ay}{st:aV}{b:hJ}(a:N2 K d x st b): ∃c,codeHdIn K c b=J:=let⟨_,_,c,_,_,_,h⟩:=a;⟨c,h⟩
section
variable {X:Cx}{k:Nat}{f:hJ}{i:mS}{d:iI}{x:ay}{p b:bq}{e a:iq}{c:kj}{g:Ap}{fs:List FO}{j:FO}{TB:List (hJ×ay)}
def agg{o:Sp}{t:TA}(F:Df X.prog X.w X.K X.mg X.base FK k f i d (spT TB o))(T:UY TB X.H₀)(O:AP k X.A)(C:Gl X x)(E:X.mg x=Y (.ref f))(hk:keepIn X.K (.ref f)=J)(z:Binds X.K i d [])
  (y:PA X (e::c) t)(G:(x==("__debug__":ay))=K2)(B:ag (e::c) X.env=(K2,aQ e X.env)::ag c X.env)(v:(aF b<|ag c X.env).any (·.1)=K2):
  PE X (.Call (.Name x p) (e::c) [] b) (Va o [] L2.E0 t):=by
 intro l s M H Q I h;refine xG<|AI I C E ?_ G;refine f8 (h₀:=X.base) I.ok.mod.kin hk (NL (y b l s M H _ I h) λU s1 ⟨Y',N,n,r,q⟩=>⟨n.J2,?_⟩) B v;exact OF F O z .nil PF n r ⟨λp L=>let⟨m,e⟩:=T p L;let⟨J',u⟩:=n.base.tbls _ _ e;⟨m++J',by rw[u,II]⟩,q⟩
def xUT(O:MQ (zX X) TB k x d g)(M:UY TB X.H₀)(J:AP k X.A)(C:QA X (e::c) fs)(L:Gl X x:=by rfl)(U:DB x:=by decide)
  (I:SE X e c:=by rfl)(y:BA X b c:=by rfl):QX X (.Call (.Name x p) (e::c) [] b) (iB g fs):=
 let⟨_,_,ok,G,kp,w⟩:=O;⟨PX.imp (agg ok M J L G kp w C.h U I y) λF H Q N=>by
 obtain⟨Y,T,S,D,E,e,k⟩:=N;obtain⟨⟨os,n⟩,h1,e⟩:=hG e;obtain⟨l,o,e⟩:=hG e;dsimp only at e;split at e
 .rename_i q;obtain⟨⟨r,m⟩,z,e⟩:=hG e;obtain⟨rfl,rfl⟩:=iP e;refine⟨Y,T,os,n,E,h1,λs u R B=>?_⟩;show IU X.K g (s++[]) u Q L2.E0;rw[xH];exact⟨Tc T F n s l,l,r,m,yJ E B o q,z,λv t P=>k v t<|qd E B o q P⟩
 .cases e⟩
end
def aN{a:Type}{P:a->Prop}: ∀p∈([]:List a),P p:=λ_ h=>nomatch h
def aC{b:Type}{P:b->Prop}{a:b}{l:List b}(h:P a)(r: ∀p∈l,P p): ∀p∈a::l,P p:=List.forall_mem_cons.mpr ⟨h,r⟩
section
variable {Z:ZZ}{ct a:List (ay×Nat)}{CR:Nat}
end
section
variable {X:Cx}{x y a b c d:iq}{u v z:ay}{t s r q:FO}{f l k j i h:bq}{p o n:Nat}{m g e:cB}
end
end PX
namespace TT
section
variable {a:iL}{w:iD}{A:iE}{E:iY}{s:ie}
def Qa(h:Q₁ (.ref s.heap.objs.size) {s with heap:=s.heap.push (jI #[] 0 (kK w))}):
  b8 (aj a w) A (.call (.builtin "set.__new__") ⟨[.type "set"],[]⟩) (k5 Q₁ E) s:=by
 refine ue ?_;change af _ A.in1 (cI "set.__new__" ⟨[.type "set"],[]⟩>>=λ_=>again<|.builtin "set.__new__" ⟨[.type "set"],[]⟩) _ _ s;refine hV<|vV PySem.F.newCall_set_0<|iw ⟨wO Eg _,sO Nn ?_⟩;rw[rM Eg _];unfold bb.«set.__new__» dN;have c:=A2;obtain⟨b,g,d,e,os⟩:=s;dsimp only
 wp_walk
 refine ug<|iw ?_;dsimp only;simp only[newObj];refine hV<|Ba<|iw ?_;exact iw h
set_option maxHeartbeats 8000000 in
def Ys{Q:iY}(h:Q (.ref s.heap.objs.size) {s with heap:=s.heap.push (jI #[] 0 (kK w))}):af (aj a w) A (call (.type "set") []) Q E s:=by
 obtain⟨c,B,k⟩:=F4.mro;have i:=F4.made;have y:=F4.sub;refine zk<|ue ?_;change af _ _ (Ch (.type "set") ⟨[],[]⟩) _ _ s;refine iw ⟨Ia _ (by decide+kernel),sO Nm ?_⟩;rw[H9 (HZ "set" ([]:List ir) []) H];have h1:=F4.notType;have v:=F4.canCreate;have t:=PySem.F.typeCall_set_0
 repeat (any_goals (first|assumption|wp_step))
 refine qm (Qa (E:=E) (Q₁:=λd b=>d= .ref s.heap.objs.size/\b={s with heap:=s.heap.push (jI #[] 0 (kK w))}) ⟨rfl,rfl⟩) λr b j=>?_
 cases r with
 |error e=>exact j
 |ok n=>
  cases n with
  |ret d=>
   obtain⟨rfl,rfl⟩:=j;have o:(s.heap.push<|jI #[] 0 (kK w)).get? s.heap.objs.size=Y (jI #[] 0 (kK w)):=km _ rfl;have p:Shared.TypeIs {s with heap:=s.heap.push (jI #[] 0 (kK w))} (.ref s.heap.objs.size) "set":=⟨_,o,rfl⟩
   have q:=F4.init.lookup;have u:=F4.init.bind<|.ref s.heap.objs.size
   repeat (any_goals (first|assumption|wp_step))
   refine qm (Eu (R:=k5 (λr z=>r= .none/\Q (.ref s.heap.objs.size) z) E) F4.init.plain Nl<|check_set_init p ?_) λf l g=>?_
   .unfold bb.«set.__init__» noKeywords
    wp_walk
    exact⟨rfl,h⟩
   .cases f with
    |error e=>exact g
    |ok m=>
     cases m with
     |ret r=>
      obtain⟨rfl,x⟩:=g
      repeat (any_goals (first|assumption|wp_step))
     |_=>exact g.elim
  |_=>exact j.elim
end
end TT
namespace PX
open L2 PySem.SeqAt
def Ln:F:=λa=>Y ((.R1 .set [] [],J),a)
def yy(i:Nat)(f:F):F:=λb=>match b[i]? with
 |some (Y (.R1 .set _ _,J))=>(f b).bind λp=>match p.2[i]? with
  |some (Y (.R1 .set _ a,J))=>if a.all BJ=J/\BJ p.1.1=J/\(Ls a)<500 then Y ((.T1,C),p.2.set i<|Y (.R1 .set []<|oz a p.1.1,J)) else I
  |_=>I
 |_=>I
def Rg(a:FO):FT:=λb=>(a b).bind λp=>match res p.2 p.1 with
 |some (.lst l)=>Y (!l.isEmpty,p.2)
 |_=>I
section
variable {X:Cx}{e:iq}{f:F}{C:FO}{c g d m p:bq}{i:Nat}{x:ay}
def Ti(h:PO X e C)(w: ∀n,isTrue e X.env n=(do let v <-n;b4 e.pos;bV [v] (hD v))):PU X e (Rg C):=PT.imp' (afX h w) λO U Q A=>by
 obtain⟨N,T,b,L,E,e,k⟩:=A;obtain⟨⟨o,s⟩,h1,e⟩:=hG e;refine⟨N,T,o,s,E,h1,λv u P=>?_⟩;dsimp only at e;split at e
 .rename_i l y;obtain⟨rfl,rfl⟩:=iP e;have B:=Ops.cons E P<|Ops.nil<|P.er E;obtain⟨a,t,rfl,q,r⟩:=kD<|B.view (j:=0) H H y;refine⟨!l.isEmpty,.inl ⟨t,q,?_⟩,k u B.keep<|B.er.mono (λ_ _ e _=>e) (λb _ z=>B.tt b z) λa z=>B.er.dom a<|B.tt a z⟩;have:=r.length;cases l<;>cases t<;>simp_all
 .cases e
def S7(j:Gl X "set")(l:X.mg "set"=I):PX X (.Call (.Name "set" p) [] [] c) Ln:=λh s w U Q O n=>by obtain⟨v,T,u,r,E,e,k⟩:=n;cases e;refine xG<|si O j l Yt ?_ (by decide) (by decide);refine ul<|TT.Ys ?_;have a:=O.hok.fresh<|jM s.heap.objs.size;refine⟨.ref s.heap.objs.size,upd U s.heap.objs.size<|.SS [],O.laid (t':=s.toks) (o:= .SS []) (λb t q=>jU _ q) (jM _) ?_,rfl,(Ops.nil E).done k _ _ a (lL a) ⟨[],⟨rfl,[],iQ,.nil⟩,YP.nil⟩⟩;exact⟨#[],0,_,km _ rfl,.nil,TT.Av.fresh _ _ _,rfl,rfl⟩
def S8(hu:X.A.units+90<aS)(hn:PO X (.Name x g) (hX i))(he:PX X e f)(i9:b3 (.Name x g) "add" X.env (aQ (.Name x g) X.env)=aQ (.Name x g) X.env)
  (r8:((aF m<|ag [e] X.env).all (λx=>!x.1)&&(cq m<|bM [] X.env).all (λx=>x.1.isSome)&&decide ([e].length+([]:List cP).length+(if([]:List cP).isEmpty then 0 else 1)<30))=J)
  (i8:(d.endLine==m.line)=J)(hs:ag [e] X.env=(K2,aQ e X.env)::ag [] X.env)(f7:(aF m<|ag [] X.env).any (·.1)=K2):
  PX X (.Call (.Attribute (.Name x g) "add" d) [e] [] m) (yy i f):=λB s L H Q I hw=>by
 obtain⟨G,T,rr,δ',E,j,k⟩:=hw;unfold yy at j;split at j
 case h_2=>cases j
 rename_i k0 w0 Z;obtain⟨⟨r,h⟩,h1,j⟩:=hG j;dsimp only at j;split at j
 case h_2=>cases j
 rename_i k1 V D;obtain⟨⟨o1,o2,o3⟩,j⟩:=iR j;obtain⟨rfl,rfl⟩:=tM j;refine NK i9 r8 i8 K3<|NL (hn B s L H (λv J'=>EW X.K T L G H (.slot i) G v J') I ⟨G,T,.slot i,G,E,by unfold hX;rw[Z],λ_ _ P=>P⟩) λv s1 b'=>?_;obtain⟨y,J',I1,r1,K1,U,q⟩:=b';obtain⟨a,g1,Mh,⟨_,zs,g2,_⟩,g3⟩:=U.own i _ Z;rw[q] at g1;cases g1;cases r1;obtain⟨es,n,t,M,_⟩:=(show T2 X.prog X.w J' s1.heap a (.SS zs) from I1.hok a _ g2)
 refine⟨"set","set.add",PySem.F.plainAttrs_set,HD,PySem.F.type_set_add,⟨_,M,rfl⟩,λb eb=>by cases eb;exact⟨_,M,rfl⟩,?_⟩;have hA:=oY he uy hs m B s1 L J' (λV O=> ∃y,V=[y]/\Ms X.K T L G J' r h y O) I1 ⟨G,T,r,h,U,h1,λy O P=>⟨y,rfl,P⟩⟩;rw[hs] at hA ⊢;refine Io (by show(K2||(aF m<|ag [] X.env).any (·.1))=K2;rw[f7];rfl)<|NJ<|NL hA λus s2 b'=>?_;obtain⟨ws,O,Y',r2,y,hy,P2⟩:=b';subst hy;obtain⟨u,rfl,ru⟩:=r2.one;obtain⟨W,ry⟩:=P2.rep U;obtain⟨a',q1,us,q2,q3⟩:=W.own i _ D;rw[q] at q1;cases q1;obtain⟨es,n,t,l,S⟩:=C8.MI Y' q2 q3;refine oo HD ⟨_,S.is.at_,rfl⟩ Nb ?_<|Na _ _;unfold bb.«set.add» cb;simp only[wA,tN];unfold bO;refine hV<|iw ?_
 try dsimp only
 refine hV<|C4.add Y' S o1 (.inl ry) ry ru o2 o3 (by show X.A.units+1+60<aS;lia) λb h' tk es' n' t' R ht t8 N=>?_;show af _ _ (ret av) _ _ _;have rl: ∀p∈R,Rep X.K O (λa=>W3 L h a\/T a) p.1 p.2:=N.rep;have oa:W3 L h a:=⟨i,_,D,q⟩
 have kp: ∀(M:HO) b u,O b=Y u-> ¬(W3 L h b\/T b)->upd O a M b=Y u:=λM b u e n=>by rw[iW<|by intro z;subst z;exact n<|.inl oa];exact e
 obtain⟨bH,z1,z2⟩:=N.R1 (K:=X.K) (H':=upd O a<|.SS<|R.map hv) (O':=λa=>W3 L h a\/T a) (λp hp=>Rep.mono (kp _) (λ_ _ z=>z)<|rl p hp) iQ;obtain⟨E4,K4⟩:=W.Dg (o:= .SS (R.map hv)) (d':= .R1 .set [] (oz V r.1)) D q ⟨bH,z1,z2⟩;refine iw ⟨_,rfl,.T1,_,?_,rfl,k _ _ (Ms.val ((K1.trans P2.1).trans K4) E4 Rep.GZ)⟩;obtain⟨eZ,zs2,g4,_⟩:=q2;exact vH (t':=tk) Y' (by rw[g4];exact bv) t8 ⟨_,N.is.at_⟩ N.L9
def NX(l:X.A.units+90<aS)(j:QO X (.Name x g) (hX i))(b:QX X e f)(o:b3 (.Name x g) "add" X.env (aQ (.Name x g) X.env)=aQ (.Name x g) X.env:=by rfl)
  (q:((aF c<|ag [e] X.env).all (λx=>!x.1)&&(cq c<|bM [] X.env).all (λx=>x.1.isSome)&&decide ([e].length+([]:List cP).length+(if([]:List cP).isEmpty then 0 else 1)<30))=J:=by rfl)
  (n:(d.endLine==c.line)=J:=by rfl)(k:SE X e []:=by rfl)(a:BA X c []:=by rfl):QX X (.Call (.Attribute (.Name x g) "add" d) [e] [] c) (yy i f):=⟨S8 l j.h b.h o q n k a⟩
def tTr(h:QO X e C)(b: ∀a,isTrue e X.env a=(do let v <-a;b4 e.pos;bV [v] (hD v)):=by exact λ_=>rfl):QT X e (Rg C):=⟨Ti h.h b⟩
def U3{p:bq}(b:X.mg "set"=I)(a:Gl X "set":=by rfl):QX X (.Call (.Name "set" p) [] [] c) Ln:=⟨S7 a b⟩
end
open PySem.W
def DR{d:Type}{c:Prop}[Decidable c]{a:Option d}{b:d}(h:(if c then a else I)=Y b):c/\a=Y b:=by
 split at h
 .rename_i q;exact⟨q,h⟩
 .cases h
section
variable {X:Cx}{E:XK}{A:jK}{c iter:iq}{a:List aV}{d:Cf}{t:Tg}{e:FS}{x:XS}{b:bq}
end
section
variable {X:Cx}{k:iq}{c:FO}{a b:bq}{j:Nat}
end
section
variable {X:Cx}{b:iX}{d:L2.St}{H:Hp}{s:ie}
variable {a:iq}{g:FO}{c p:bq}{k:iq}{f:FO}{e:bq}{j:Nat}
end
end PX
namespace TT
open PySem.SeqAt
section
variable {a:iL}{w:iD}{A:iE}{R:i5->ie->Prop}{I:hJ}{c b:ki}{G:Array fe->Array fe->Prop}{n:Nat}{P:Nat->ir->Prop}{St:Nat->ie->Prop}
end
end TT
namespace PX
open L2 PySem.SeqAt TS
section
variable {a:iL}{w:iD}{A:iE}{E:iY}{s:ie}
end
end PX
namespace TT
open PySem.SeqAt
section
variable {a:iL}{w:iD}{A:iE}{E:iY}{s:ie}
end
end TT
namespace PX
open L2 PySem.SeqAt
section
variable {X:Cx}
variable {a:iq}{c:FO}{p b:bq}
end
mutual
def D.fz:D->Bool
 | .lst _=>C
 | .R1 _ _ _=>C
 | .tup l=>D.L7 l
 |_=>J
def D.L7:List D->Bool
 |[]=>J
 |x::l=>D.fz x&&D.L7 l
end
def Q4: ∀l:List Int,D.L7 (l.map .int)=J:=by
 intro l
 induction l with
 |nil=>simp[D.L7]
 |cons x l a=>simp[D.L7,D.fz,a]
mutual
theorem Rep.fr{K U}{O c:SI}(h: ∀b,c b->Ow (U b)): ∀{d:D} {v:V},D.fz d=J->Rep K U O d v->Rep K U c d v
 | .int _,_,_,r=>by rw[Rep] at r ⊢;exact r
 | .tup l,_,p,r=>by rw[D.fz] at p;obtain⟨a,f,rfl,s,e⟩:=r.tup;exact Rep.JZ ⟨s.1,λz=>(h a z).nt f s.1⟩<|YP.fr h p e
 | .T1,_,_,r=>by rw[Rep] at r ⊢;exact r
 | .bl _,_,_,r=>by rw[Rep] at r ⊢;exact r
 | .str _,_,_,r=>by rw[Rep] at r ⊢;exact r
 | .lst _,_,p,_=>by simp[D.fz] at p
 | .R1 _ _ _,_,p,_=>by simp[D.fz] at p
theorem YP.fr{K U}{O a:SI}(h: ∀b,a b->Ow (U b)): ∀{l:List D} {vs:List V},D.L7 l=J->YP K U O l vs->YP K U a l vs
 |[],_,_,r=>r
 |d::l,_,p,r=>by rw[D.L7,kU] at p;rw[YP] at r ⊢;obtain⟨v,q,e,h1,c⟩:=r;exact⟨v,q,e,Rep.fr h p.1 h1,YP.fr h p.2 c⟩
end
def okR:D×Bool->Bool
 |(.lst l,J)=>D.L7 l
 |(d,C)=>D.fz d
 |_=>C
def Ck(b:Ap)(fs:List FO):F:=λc=>(kx fs c).bind λp=>(jo p.2 p.1).bind λargs=>(b<|args.map λa=>(a.1,C)).bind λq=>if okR q.1=J then Y (q.1,p.2) else I
section
variable {K:iJ}{T x:SI}{m:L2.St}{t c:Dn}{H s n:Hp}{os:List Ax}{g:List V}{f:List (D×Bool)}{u:Dn}{r:D×Bool}{v:V}
def T7{g:List V}{a:hJ}: ¬W3 (g.map Y) ((f.map λa=>(a.1,C)).map Y) a:=λ⟨j,d,h,_⟩=>by simp at h
def RE(E:ER K H T m t)(B:Ops K T m t H os g c s x)(Q:jo c os=Y f):ER K s (λ_=>False) (g.map Y) ((f.map λa=>(a.1,C)).map Y):=by
 obtain⟨M,G⟩:=nY Q;refine⟨by simp[M,B.len],λj d h=>?_,λj d h=>by simp at h,λj k d e a h=>by simp at h,λa z=>absurd z T7,λa z=>z.elim⟩;have h:=tH.mp h;rw[kl] at h;obtain⟨⟨l,b⟩,L,h⟩:=ja h;obtain rfl:l=d:=by cases h;rfl
 obtain⟨o,h1,A⟩:=G j _ L;have J:j<(Ls g):=by have:=(wa.mp h1).1;have:=B.len;lia
 have hv:g[j]?=Y g[j]:=jg J;refine⟨_,tH.mpr hv,?_⟩;have sub: ∀{O:SI} (b:hJ),s b≠I->(W3 (g.map Y) ((f.map λa=>(a.1,C)).map Y) b\/False)->O b:=λb _ z=>z.elim (λz=>absurd z T7) aK
 cases o with
 |val q=>
  have:q.1=l:=by cases A;rfl
  subst this;exact Rep.mono (λ_ _ e _=>e) sub<|B.rep E h1 hv
 |slot i=>
  have U:c[i]?=Y (Y (l,b)):=mU A;have N:=B.slt j i _ h1 hv
  cases b with
  |false=>
   obtain⟨w,p,y⟩:=B.er.val i l U;rw[N] at p;have:g[j]=w:=by simpa using p
   rw[this];exact Rep.mono (λ_ _ e _=>e) sub y
  |true=>
   obtain⟨w,p,y⟩:=B.er.own i l U;rw[N] at p;have:g[j]= .ref w:=by simpa using p
   rw[this];exact y.rep (λz=>z.elim (λz=>absurd z T7) aK) sub
def afn(E:ER K H T m t)(B:Ops K T m t H os g c s x)(P:Ms K (λ_=>False) (g.map Y) ((f.map λa=>(a.1,C)).map Y) s r u v n)(ok:okR r=J):
  Ms K T m t H r c v n:=by
 have up: ∀a o,s a=Y o->n a=Y o:=λa o e=>P.1.kp a o e T7;have h: ∀a,x a->Ow (n a):=λa z=>(B.er.dom a z).up<|up a;have j:ER K n x m c:=B.er.mono (λb o e _=>up b o e) (λ_ _ z=>z) h;have i: ∀b,(W3 m c b\/T b)->Ow (n b):=λb z=>z.elim j.JY λz=>h b<|B.tt b z;have y:ER K n T m c:=j.mono (λ_ _ e _=>e) (λb _ z=>B.tt b z) λa z=>h a<|B.tt a z;have q:=B.keep.trans<|Ar.ext up;obtain⟨d,b⟩:=r
 cases b with
 |false=>refine⟨q,y,?_⟩;exact Rep.fr i (by cases d<;>exact ok) P.2.2
 |true=>
  cases d with
  |lst l=>
   obtain⟨p,rfl,k,O,L,e,N⟩:=P.2;have w:Ow (n p):=by rw[e];trivial
   refine⟨q,p,rfl,?_,B.er.mono (λb o e _=>up b o e) (λb U z=>z.elim (B.tt b) λz=>absurd (z▸k) U) λa z=>z.elim (λz=>h a<|B.tt a z) λz=>z▸w,L,e,YP.fr (λb z=>?_) ok N⟩
   .cases A:H p with
    |none=>rfl
    |some Q=>exact absurd k<|B.keep.dm p (by rw[A];simp)
   .rcases z with z|z|z
    .exact i b (.inl z)
    .exact i b (.inr z)
    .exact z▸w
  |_=>cases ok
end
section
variable {X:Cx}{e:iq}{b:kj}{fs:List FO}{a p:bq}{k:Nat}{d:iI}{c:Ap}{x:ay}
def xUB(O:Oz (zX X) k x d c)(y:AP k X.A)(s:QA X (e::b) fs)(u:Gl X x:=by rfl)(U:DB x:=by decide)
  (t:SE X e b:=by rfl)(n:BA X a b:=by rfl):QX X (.Call (.Name x p) (e::b) [] a) (Ck c fs):=
 let⟨_,_,ok,w,kp,m⟩:=O;⟨PX.imp (KA ok y u w kp m (.nil) PF s.h U t n) λN H Q z=>by
 obtain⟨L,T,M,G,E,e,k⟩:=z;obtain⟨⟨os,g⟩,h1,e⟩:=hG e;obtain⟨i,o,e⟩:=hG e;obtain⟨⟨r,f⟩,q,e⟩:=hG e;obtain⟨ok,e⟩:=iR e;obtain⟨rfl,rfl⟩:=tM e;refine⟨L,T,os,g,E,h1,λI l J B=>?_⟩;show IU X.K c (I++[]) l Q L2.E0;rw[xH];exact⟨_,_,r,f,RE E B o,q,λv j P=>k v j<|afn E B P ok⟩⟩
end
open PySem.W
def agi{c:L2.St}{b:Dn}{i j:Nat}{a:hJ}(h:NR c (b.set j I) i a):NR c b i a/\i≠j:=by
 obtain⟨d,h1,f⟩:=h;by_cases e:j=i
 .subst e;rw[zg] at h1;split at h1
  .split at h1<;>cases h1
  .rename_i z;exact absurd H z
 .rw[mD e] at h1;exact⟨⟨d,h1,f⟩,λz=>e z.symm⟩
section
variable {X:Cx}{P:iL}{w:iD}{a:List db}{g:Hp}{s0:ie}{E:XK}{k:Nat}{d:iI}{c:List D->Option ay}{e:iq}{f:kj}{fs:List FO}{z:ay}{p b:bq}
end
section
variable {X:Cx}{s c:hJ}{a:bi}{d:iq}{scope:jb}{e b o:bq}{p:Nat}{u t:iI}{xB:XS}{r:FS}{v:ay->Option Nat}{f:jw}{st:aV}{fr:hJ}{q:mS}{m n h g l:ay}{CR:hJ}{i j k:Nat}
end
end PX
namespace L2
open PySem.W
structure Ho(nm q:ay)(params:bi)(body:List aV)(scope:jb)(b6:jQ)(H:Hp)(h:iK)(fl:hJ):Prop where
 fn: ∃doc pm c' n4,h.get? fl=J4 (fnMade nm q params body scope b6 doc pm c' n4)/\ ∃ob u vs t,H c'=J4 (.C7 ob u)/\ob.data= .fields vs/\vs[1]?=J4 (.str q t)
 un:H fl=KE
section
variable {X:Cx}{g:iX}{l:St}{H:Hp}{s:ie}{P c:hJ}{a:bi}{f:List aV}{h q:ay}{ln:Nat}{scope:jb}{i:jQ}{j:bq}
def Rx{M:ga}{A:iE}{E:iY}{Q:iY}(I:Inv X g l H s){more:oA}(Y:H P=J4 (.tbl (#[.str q 0]++more)))(hc:X.env.code= .ref c)(C:CodeHd X.base c P)(hB:X.base.BuiltinsAt X.mg P)(fX:ap≠P)
  (l9:nw scope X.env=pure i)
  (k: ∀s1 J' fl,Inv X g l J' s1->(∀b o,H b=J4 o->J' b=J4 o)->Ho h q a f scope i J' s1.heap fl->(∀b o,s.heap.get? b=J4 o->H b=KE->s1.heap.get? b=J4 o)->(∀b o,s.heap.get? b=J4 o->H b=KE->J' b=KE)->s.heap.get? fl=KE->Q (.ref fl) s1):
  af M A (makeFunction h q a (.stmts f) scope X.env [] [] [] j ln) Q E s:=by
 obtain⟨qq,tq,ps,U,L,F,hm⟩:=(show T2 X.prog X.w H s.heap P (.tbl (#[.str q 0]++more)) from I.hok P _ Y)
 have hqq:q=qq:=by rw[Array.getElem?_append_left<|by simp] at U;simp at U;exact U.1
 subst hqq;have u3:s.heap.BuiltinsAt X.mg P:=let⟨bm,o,h1,R,S,V,h5,h6⟩:=hB;⟨bm,o,h1,R,S,V,I.bk _ _ h5,h6⟩
 have hg:s.heap.Ns ap X.mg:=I.ok.mod.glob.keeps I.bk
 cases W:dL j ps.toList with
 |some cv=>refine makeFunction_hit l9 I.ok.glob hg hc (C.keeps I.bk) L F W u3 λr m x K kp sz=>?_;obtain⟨p,ob,u,vs,t,rfl,R,S,V⟩:=hm j cv W;have bJ: ∀b o,s.heap.get? b=J4 o->(x.push<|fnMade h q a f scope i m ((X.mg "__name__").getD .none) p r).get? b=J4 o:=λb o e=>jU _ (kp b o e);exact k _ H _ (I.kept (t':=K) bJ) (λ_ _ e=>e) ⟨⟨m,_,p,r,km _ rfl,ob,u,vs,t,R,S,V⟩,I.hok.fresh sz⟩ (λb o e _=>bJ b o e) (λ_ _ _ n=>n) (Vq sz)
 |none=>
  refine makeFunction_K l9 I.ok.glob hg hc (C.keeps I.bk) L F W fX u3 λp r m x K ex N y cr tb=>?_;obtain⟨c0,v,vs,t,ec,dr,T,hq⟩:=cr;cases ec;have nc:H p=KE:=I.hok.fresh N;have kp: ∀b o,b≠P->s.heap.get? b=J4 o->(x.push<|fnMade h q a f scope i m ((X.mg "__name__").getD .none) p r).get? b=J4 o:=λb o n e=>jU _ (ex b o n e);have up: ∀b o,H b=J4 o->upd H p (.C7 v<|.own 0) b=J4 o:=λb o e=>by rw[iW<|lT e nc];exact e
  have nP: ∀b,H b=KE->b≠P:=λb n z=>by rw[z,Y] at n;cases n
  have B:=jU (fnMade h q a f scope i m ((X.mg "__name__").getD .none) p r) tb
  have un:Un (Jh X.stack) [] H (upd H p<|.C7 v<|.own 0) s.heap (x.push<|fnMade h q a f scope i m ((X.mg "__name__").getD .none) p r):=
   ⟨λb o e n _ _=>kp b o (nP b n) e,λb o e n _ _=>⟨o.slots,kp b o (nP b n) e⟩,λb o e n _=>by rw[iW<|kd<|oq (jW e) N];exact n,λb o e _=>by
    by_cases z:b=P
    .subst z;exact⟨_,B⟩
    .exact⟨o,kp b o z e⟩,λb xs e=>up b _ e,λb o xs e=>up b _ e,λb ps e=>⟨#[],by rw[up b _ e];simp⟩⟩
  have Z:Fc X.prog X.w (upd H p<|.C7 v<|.own 0) (x.push<|fnMade h q a f scope i m ((X.mg "__name__").getD .none) p r):=λb u e=>by
   by_cases D:b=p
   .subst D;rw[iQ] at e;cases e;exact⟨jU _ dr,⟨v,jU _ dr⟩⟩
   .rw[iW D] at e;by_cases O:b=P
    .subst O;rw[Y] at e;cases e;refine⟨_,tq,_,U,B,?_,λG cv z=>?_⟩
     .rw[M9];exact xR _ F
     .rw[M9] at z;rcases CS _ F z with z|z
      .obtain⟨y,ob,u,vs,t,r1,r2,r3,r4⟩:=hm G cv z;exact⟨y,ob,u,vs,t,r1,up _ _ r2,r3,r4⟩
      .exact⟨p,v,_,vs,t,z,iQ,T,hq⟩
    .refine(I.hok b u e).Aw (λd w hd q=>kp d w (λz=>?_) q) (λd q=>up d _ q) (λd xs q=>up d _ q) λd _ _ q=>up d _ q;subst z;rcases hd with z|z
     .exact O z.symm
     .rw[Y] at z;cases z
  have I1:Inv X g l (upd H p<|.C7 v<|.own 0) {s with heap:=x.push<|fnMade h q a f scope i m ((X.mg "__name__").getD .none) p r,toks:=K}:=I.call (g':=s.gens) (d':=s.drawn) (t':=K) un Z I.bare λb D=>absurd D (by simp);refine k _ _ _ I1 up ⟨⟨m,_,p,r,km _ rfl,v,_,vs,t,iQ,T,hq⟩,?_⟩ (λb o e n=>kp b o (nP b n) e) (λb o e n=>un.free b o e n<|by simp) (Vq<|uk<|HC N y);rw[iW<|sV y];exact I.hok.fresh<|uk<|HC N y
end
section
variable {CX:Jp}{P:iL}{w:iD}{K:Frag}{j:lN}{base:iK}{N:iI}{d m q:ay}{scope:jb}{fl:hJ}{cd:ir}{g:jQ}{A:iE}{a:List db}{s:ie}{H:Hp}{E:XK}{l:St}{v:V}{u:ir}
def Up(S:Dj scope)(n:scope.names.lookup d=Y .local)(hd:A.handled=I)(e:Jo P w K j base A a s H)(U:BM N scope g l H s.heap)(O:RelV v u){h1:iK}{t1:Nat}(x:h1.Ns s.heap.objs.size (λy=>[(d,u)].reverse.lookup y))(hk: ∀b o,s.heap.get? b=Y o->h1.get? b=Y o):
  Inv (Ai CX P w K j base (d::N) q scope fl cd g A a s H E) [] (Y v::l) H {s with heap:=h1,toks:=t1}:=by
 have k: ∀b:hJ,b∉(Ai CX P w K j base (d::N) q scope fl cd g A a s H E).ex:=λb z=>absurd (show b∈([]:List hJ) from z) (by simp)
 refine⟨⟨e.mod,S.kind,rfl,rfl,jM _,U.inj,λy f=>?_,λy c z _=>absurd z<|by simp[Ai],λ_=>hd,NP e.frames,.inr ⟨rfl,rfl⟩,λb z=>absurd z<|k b,e.bs,e.bsz,λb _ _=>k b,λb z=>absurd z<|k b,e.Fe,e.frf⟩,
  rfl,e.bare,Un.kept hk,⟨_,x,λi y T h1 t _=>?_⟩,λy c h=>?_,e.hok.fresh<|jM _,λy c h=>(U.cell y c h).2,λp n=>absurd (show p∈([]:List (hJ×eE)) from n)<|by simp,e.hok.kept hk,mC (· +1) U.len⟩
 .have f:scope.names.lookup y=Y .cell\/scope.names.lookup y=Y .free:=f;rcases f with f|f
  .exact absurd K3 (S.cell _ (sU f))
  .exact U.has y f
 .cases i with
  |zero=>
   cases h1;cases t;exact⟨u,O,.inl ⟨n,by simp⟩⟩
  |succ i=>obtain⟨M,c,Q,B,L,r⟩:=U.val i y T h1 t;exact⟨Q,r,.inr ⟨.inr M,c,B,L.keeps hk⟩⟩
 .obtain⟨⟨v,hv⟩,_⟩:=U.cell y c h;exact⟨v,hv.keeps hk⟩
def UE{c:bi}{h:List aV}{k:Nat}{Q:VK}(S:Dj scope)(hp:scope.names.lookup d=J4 .local)(G:AP (k+1) A)(T:Jo P w K j base A a s H)(C:BM N scope g l H s.heap)(L:Ho m q c h scope g H s.heap fl)
  (o6: ∀z pm i n4,et (fnX m q c h scope g .none .none z pm KE (.ref i) n4) ⟨[u],[]⟩=pure [(d,u)])(O:RelV v u)
  (hb: ∀i:hJ,AP k (A.deeper<|FD q scope s.heap.objs.size fl (.ref i) g)-> ∃t,Hg (Ai CX P w K j base (d::N) q scope fl (.ref i) g A a s H E) h t/\t {nx:=λ_ p=>Q .T1 p,rt:=Q} (J4 v::l) H):
  b8 (aj P w) A (.call (.ref fl) ⟨[u],[]⟩) (CR CX a P w H s Q E) s:=by
 obtain⟨z,pm,i,n4,Z,ob,u',vs,tk,h1,W,X⟩:=L.fn;have n8:s.heap.CodeRec (.ref i) q:=⟨i,ob,vs,tk,rfl,(T.hok i _ h1).1,W,X⟩
 have U:s.heap.NoLimit:=T.mod.nolimit.keeps λb o e=>(T.bs b o e).1;refine NO G.depth Z K3 S.co S.gen K3 n8 ?_;rw[o6];refine iw<|wpAny_newFunctionEnv S.cell (by intro y D;simp at D;subst D;exact hp) (λB R F=>⟨U.fresh _ F,B2 ?_⟩) S.kind;have r: ∀b o,s.heap.get? b=J4 o->B.get? b=J4 o:=λb o e=>F.extBut b o (kd<|jW e)<|jU _ e;have I:=Up (CX:=CX) (q:=q) (fl:=fl) (cd:= .ref i) (E:=E) (t1:=s.toks+([(d,u)]:List (ay×ir)).length) S hp G.hd T C O R r;obtain⟨t,M,ht⟩:=hb i<|G.deeper _;refine nI (M [] _ (J4 v::l) H _ I ht) (λf Y x=>?_) λe Y x=>x
 have fin: ∀{n:St} {p:Hp} {v:V} {u:ir},Inv (Ai CX P w K j base (d::N) q scope fl (.ref i) g A a s H E) [] n p Y->RelV v u->Q v p->CE a P w H s Q u Y:=
  λ{n p v u} J O q=>⟨v,p,J.os,J.bare,J.base,J.hok,O,q⟩
 cases f with
 |ret u=>obtain⟨v,n,p,J,O,q⟩:=x;exact fin J O q
 |next=>obtain⟨n,p,J,q⟩:=x;exact fin (v:=V.T1) (u:=av) J K3 q
 |brk=>obtain⟨_,_,_,q⟩:=x;exact aK q
 |cont=>obtain⟨_,_,_,q⟩:=x;exact aK q
end
section
variable {fs:ki}{N:iI}{d q:ay}{scope:jb}{f:jQ}{H g:Hp}{h h':iK}{a:bi}{b:List aV}{c:hJ}
def Ho.keep(L:Ho d q a b scope f H h c)(u:Un fs [] H g h h')(n:c∉fs):Ho d q a b scope f g h' c:=by obtain⟨i,o,j,l,e,m,w,p,t,h1,k⟩:=L.fn;exact⟨⟨i,o,j,l,u.keep c _ e L.un n (by simp),m,w,p,t,u.frzs _ _ _ h1,k⟩,u.free c _ e L.un (by simp)⟩
end
structure I0(X:Cx)(N:iI)(xp nm q:ay)(scope:jb)(b6:jQ)(vs:List V)(params:bi)(body:List aV)(fl:hJ)(k:Nat)(sp:Sp):Prop where
 sc:Dj scope
 par:scope.names.lookup xp=J4 .local
 cel:BM N scope b6 (vs.map J4) X.H₀ X.s₀.heap
 df:Ho nm q params body scope b6 X.H₀ X.s₀.heap fl
 nfl:fl∉X.fs
 ncl: ∀x c,b6.lookup x=J4 c->c∉X.fs
 bnd: ∀doc pm c' n4 u,et (fnX nm q params body scope b6 .none .none doc pm KE (.ref c') n4) ⟨[u],[]⟩=pure [(xp,u)]
 run: ∀(c':hJ) (s:ie) (H:Hp) (v:V) (Q:VK),AP k (X.A.deeper<|FD q scope s.heap.objs.size fl (.ref c') b6)->sp (v::vs) H Q E0->
  ∃t,Hg (Ai FK X.prog X.w X.K X.mg X.base (xp::N) q scope fl (.ref c') b6 X.A X.stack s H E0) body t/\t {nx:=λ_ H'=>Q .T1 H',rt:=Q} (J4 v::vs.map J4) H
def Xi{X:Cx}{N:iI}{xp T q n:ay}{scope:jb}{t:jQ}{B:List V}{a:bi}{h:List aV}{m:hJ}{k j:Nat}{G:Sp}{e:iq}{M:TE}{p i:bq}(g:I0 X N xp T q scope t B a h m k G)(hex:X.ex=[])(hr:AP (k+1) X.A)
  (hj:X.N[j]?=J4 n)(vj:JU X.env.scope n)(hd:(n==("__debug__":ay))=K2)(n8:(n==("__classdict__":ay))=K2)(he:PE X e M)(O:ag [e] X.env=(K2,aQ e X.env)::ag [] X.env)(g9:(aF i<|ag [] X.env).any (·.1)=K2):
  PE X (.Call (.Name n p) [e] [] i) λl H' Q=>l[j]?=J4 (J4<|.ref m)/\M l H' λv r=>G (v::B) r Q E0:=by
 intro b s l H' Q I ⟨hl,hte⟩;refine xG ?_;refine nI (xj hj vj hd n8 b s l H' (λv r=>v= .ref m/\r=H') I ⟨.ref m,hl,rfl,rfl⟩) (λf s1 K=>?_) λ_ _ z=>z;obtain⟨v,U,C,W,rfl,rfl⟩:=K;cases W
 have at_: ∀{d:Hp} {c:ie},Inv X b l d c->Ho T q a h scope t d c.heap m/\BM N scope t (B.map J4) d c.heap:=λ{d c} J=>by
  have un:Un X.fs [] X.H₀ d X.s₀.heap c.heap:=by have:=J.base;rwa [hex] at this
  exact⟨g.df.keep un g.nfl,g.cel.keep un g.ncl⟩
 have L: ∀{d:Hp} {c:ie},Inv X b l d c->FnAt m c.heap:=λJ=>by obtain⟨_,_,_,_,e,_⟩:=(at_ J).1.fn;exact⟨_,_,_,_,e⟩
 refine callWith_F (L C) ?_ O g9;rw[O];show af _ _ (hE ((K2,aQ e X.env)::aF i (ag [] X.env))) _ _ s1;refine EJ<|NL (he b s1 l U _ C hte) λu c ⟨v,d,o,r2,q2⟩=>ID ⟨L o,?_⟩;obtain⟨F,D⟩:=at_ o;refine zk<|qm (UE (CX:=FK) (E:=E0) (Q:=Q) (v:=v) (u:=u) g.sc g.par hr o.Mr D F (λx R w P=>g.bnd x R w P u) r2 λw Y=>g.run w c d v Q Y q2) λS Z y=>?_
 cases S with
 |error e=>exact aK y
 |ok f=>
  cases f with
  |ret u=>exact o.after y
  |_=>exact aK y
end L2
namespace PX
open L2 PySem.SeqAt PySem.W
def OE(i:Nat)(os:jw)(d:Ap):FS:=λc=>(jo c<|os.map .slot).bind λb=>if(b.all λa=>!a.2)=J/\i<(Ls c) then(d b).bind λq=>Y (.nx<|c.set i<|Y q.1) else I
theorem Q9: ∀(os:List Ax) (as:List (D×Bool)) (b c:Dn),(∀a∈as,a=(a.1,C))->wb os as b c=c
 |[],as,_,_,_=>by simp[wb]
 |o::os,[],_,_,_=>by cases o<;>simp[wb]
 |o::os,a::as,[],c,h=>by have e:=h a jc;obtain⟨d,f⟩:=a;cases e;cases o<;>simp[wb]
 |o::os,a::as,x::b,c,h=>by have e:=h a jc;obtain⟨d,f⟩:=a;cases e;cases o<;>simp[wb,Q9 os as b c λa g=>h a<|ji _ g]
section
variable {X:Cx}{A:jK}{L:LL}{O:Hp}{N:iI}{C E q c d b:ay}{scope:jb}{I:jQ}{f:List V}{a:bi}{m:List aV}{w:hJ}{k i j s:Nat}{o:jw}{y:Ap}{z:L2.St}{p n u t l:bq}
def To(CI:I0 X N C E q scope I f a m w k (IU X.K y))(hL:L.st=J4 z)(hz:z[j]?=J4 (J4<|.ref w))(hg:o.map (λg=>(z[g]?).join)=f.map J4)(nj: ¬A j)(ng: ∀g∈o,¬A g)(hex:X.ex=[])(hr:AP (k+1) X.A)
  (hj:X.N[j]?=J4 c)(vj:JU X.env.scope c)(hd:(c==("__debug__":ay))=K2)(n8:(c==("__classdict__":ay))=K2)(ht:X.N[s]?=J4 b)(vt:JU X.env.scope b)(t5:(b==("__debug__":ay))=K2)(cR:(b==("__classdict__":ay))=K2)
  (m5:ag [eL b n] X.env=(K2,aQ (.Name b n) X.env)::ag [] X.env)(g9:(aF t<|ag [] X.env).any (·.1)=K2)
  (hN:X.N.Nodup)(hi:X.N[i]?=J4 d)(hx:Loc X.env.scope d)(hs:cH (.Call (.Name c p) [.Name b n] [] t) (J4<|.Name d u) l.line X.env=pure K2)(hf:X.fn d=K0\/X.env.scope.names.lookup d=J4 .local)(ai:A i):
  Mz X A L O (.Assign [.Name d u] (.Call (.Name c p) [.Name b n] [] t) l) (OE i (s::o) y):=PS.imp' (OZ hN hi hx (Xi CI hex hr hj vj hd n8 (xj ht vt t5 cR) m5 g9) hs hf) λD σ H hw=>by
 obtain⟨δ,T,out,M,fi,e,kk⟩:=hw;obtain⟨Q,F,e⟩:=hG e;obtain⟨⟨fY,dz⟩,e⟩:=DR e;obtain⟨⟨r,J⟩,dB,e⟩:=hG e;cases e;have Y:=Lj fY;obtain⟨S,dh,B⟩:=Hl M F;have Ec:=yJ M B F (by rw[uO _ _ Y];exact nH);have Z:=fi.gh z hL
 have R:o.map (λg=>(σ[g]?).join)=f.map J4:=by rw[<-hg];exact mW λg h=>by rw[Z g<|ng g h]
 have U:(σ[s]?).join::f.map J4=S.map J4:=by rw[<-dh,<-R];simp[tD]
 obtain⟨v,G,rfl⟩: ∃v G,S=v::G:=by
  cases S with
  |nil=>simp at U
  |cons v G=>exact⟨v,G,rfl⟩
 simp only[jG,yT] at U
 have e2:f=G:=by have:=mC (fw λx:Option V=>x.getD .T1) U.2;simpa[jx,sQ] using this
 subst e2;refine⟨(Z j nj).trans hz,v,mU U.1,_,Q,r,J,Ec,dB,λv' H' P=>?_⟩;have W:=qd M B F (by rw[uO _ _ Y];exact nH) P;rw[Q9 _ _ _ _ Y] at W;obtain⟨h1,h2⟩:=xS (A:=A) M W dz ai;exact kk _ H' h1 h2
end
end PX
namespace L2
open PySem.W
def Inv.ghost{X:Cx}{a:iX}{c b:St}{U:Hp}{s:ie}(T:Inv X a c U s)(j:(Ls b)=Ls c)(h: ∀(i:Nat) x,X.N[i]?=Y x->JU X.env.scope x->b[i]?=c[i]?):Inv X a b U s:=by obtain⟨m,k,f⟩:=T.loc;exact⟨T.ok,T.os,T.bare,T.base,⟨m,k,λi x v d g e=>f i x v d (by rw[<-h i x d e];exact g) e⟩,T.cell,T.free,T.freeC,T.pin,T.hok,j.trans T.len⟩
end L2
namespace PX
open L2 PySem.SeqAt PySem.W
def uU(a:D×Bool)(m:Nat)(b:List (D×Bool)):Dn:=Y a::I::(ah m I++b.map Y)
def Gw(i a:Nat)(c:jw)(m:Nat)(d:FS):FS:=λδ=>(jo δ<|(a::c).map .slot).bind λb=>if(b.all λa=>!a.2)=J/\i∉a::c/\i<(Ls δ) then match b with
 |x::cs=>(match d (uU x m cs) with
  |some (.rt r _)=>Y<|.rt r<|δ.set i I
  |_=>I)
 |[]=>I else I
def ER.forget{K:Frag}{U g:Hp}{T:SI}{f:L2.St}{c:Dn}{i:Nat}{v:V}(E:ER K U T f c)(k: ∀b o,U b=Y o->g b=Y o):ER K g T (f.set i<|Y v) (c.set i I):=by
 have ne: ∀{j:Nat} {p:D×Bool},(c.set i I)[j]?=Y (Y p)->c[j]?=Y (Y p)/\i≠j:=λ{j p} h=>by
  by_cases e:i=j
  .subst e;rw[zg] at h;split at h
   .split at h<;>cases h
   .rename_i z;exact absurd H z
  .rw[mD e] at h;exact⟨h,e⟩
 have ow: ∀{b:hJ},W3 (f.set i<|Y v) (c.set i I) b->W3 f c b:=λ{b} ⟨j,d,h1,a⟩=>⟨j,d,(ne h1).1,by rwa [mD (ne h1).2] at a⟩
 have q: ∀b,U b≠I->W3 (f.set i<|Y v) (c.set i I) b\/T b->W3 f c b\/T b:=λb _ z=>z.imp ow id;refine⟨by rw[vY,vY];exact E.len,λj x h=>?_,λj x h=>?_,λj l x y b h1 a m n=>?_,λb z=>E.nT b<|ow z,λb z=>(E.dom b z).up<|k b⟩
 .obtain⟨w,h1,a⟩:=E.val j x (ne h).1;exact⟨w,by rw[mD (ne h).2];exact h1,Rep.mono (λb o e _=>k b o e) q a⟩
 .obtain⟨b,h1,a⟩:=E.own j x (ne h).1;exact⟨b,by rw[mD (ne h).2];exact h1,a.mono (λb o e _=>k b o e) q<|k b⟩
 .rw[mD (ne h1).2] at m;rw[mD (ne a).2] at n;exact E.inj j l x y b (ne h1).1 (ne a).1 m n
def FG{x:D×Bool}{m:Nat}{a:List (D×Bool)}{j:Nat}{p:D×Bool}(h:(uU x m a)[j]?=Y (Y p)):(j=0/\p=x)\/ ∃l,j=m+2+l/\a[l]?=Y p:=by
 unfold uU at h
 match j,h with
 |0,h=>cases h;exact .inl ⟨rfl,rfl⟩
 |1,h=>cases h
 |j+2,h=>
  simp only[wD] at h;by_cases b:j<m
  .rw[pA<|by simpa using b,EH] at h;split at h<;>cases h
  .rw[pB<|by simpa using b,IA,kl] at h;obtain⟨q,c,e⟩:=ja h;cases e;exact .inr ⟨j-m,by lia,c⟩
def pD(v:V)(fl:hJ)(m:Nat)(vs:List V):L2.St:=Y v::Y (.ref fl)::(ah m I++vs.map Y)
def Lr{K:Frag}{U:Hp}{T:SI}{v:V}{vs:List V}{x:D×Bool}{c:List (D×Bool)}{fl:hJ}{m:Nat}(E:ER K U T ((v::vs).map Y) ((x::c).map Y))(f: ∀a∈x::c,a=(a.1,C)):ER K U T (pD v fl m vs) (uU x m c)/\ ∀b,¬W3 (pD v fl m vs) (uU x m c) b:=by
 have no: ∀b,¬W3 (pD v fl m vs) (uU x m c) b:=λb Q=>by
  obtain⟨j,d,h1,_⟩:=Q
  rcases FG h1 with⟨_,e⟩|⟨l,_,e⟩
  .have:=f x jc;rw[<-e] at this;cases this
  .have:=f _ (ji _ (mq e));cases this
 have len:(Ls vs)=(Ls c):=by have:=E.len;simpa using this
 refine⟨⟨by simp[pD,uU,len],λj d h=>?_,λj d h=>?_,λj l d e b h=>?_,λb z=>absurd z<|no b,E.dom⟩,no⟩
 .have i: ∀{w},Rep K U (λa=>W3 ((v::vs).map Y) ((x::c).map Y) a\/T a) d w->Rep K U (λa=>W3 (pD v fl m vs) (uU x m c) a\/T a) d w:=Rep.mono (λ_ _ e _=>e) λb _ z=>z.elim (λz=>absurd z<|no b) .inr;rcases FG h with⟨rfl,e⟩|⟨l,rfl,e⟩
  .obtain⟨w,h1,g⟩:=E.val 0 d (by rw[<-e];rfl);cases h1;exact⟨v,rfl,i g⟩
  .obtain⟨w,h1,g⟩:=E.val (l+1) d (by simp[e]);refine⟨w,?_,i g⟩;unfold pD;rw[show m+2+l=(m+l)+2 by lia,wD,wD,pB<|by simp,IA,Et];simpa using h1
 .rcases FG h with⟨_,e⟩|⟨l,_,e⟩
  .have:=f x jc;rw[<-e] at this;cases this
  .have:=f _ (ji _ (mq e));cases this
 .rcases FG h with⟨_,e⟩|⟨l,_,e⟩
  .have:=f x jc;rw[<-e] at this;cases this
  .have:=f _ (ji _ (mq e));cases this
def SR{K:Frag}{U j:Hp}{T:SI}{A:jK}{v w:V}{vs:List V}{x:D×Bool}{c:List (D×Bool)}{fl:hJ}{m:Nat}{r:D×Bool}{i:L2.St}{h:Dn}(E:ER K U T ((v::vs).map Y) ((x::c).map Y))(k: ∀a∈x::c,a=(a.1,C))
  (S:SK A (pD v fl m vs) (uU x m c) U i h j)(R:RV K T U r i h w j):Ms K T ((v::vs).map Y) ((x::c).map Y) U r ((x::c).map Y) w j:=by
 have no:=(Lr (fl:=fl) (m:=m) E k).2;have g: ∀b,¬W3 ((v::vs).map Y) ((x::c).map Y) b:=Ya k _;have up: ∀b o,U b=Y o->j b=Y o:=λb o e=>S.kp b o e<|no b;obtain⟨d,f⟩:=r
 cases f with
 |false=>exact⟨.ext up,E.mono (λb o e _=>up b o e) (λ_ _ z=>z) λb z=>(E.dom b z).up<|up b,Rep.mono (λ_ _ e _=>e) (λb _ z=>z.elim (λz=>absurd z<|g b) .inr) R.2⟩
 |true=>
  obtain⟨p,rfl,l,q,ok⟩:=R;refine⟨.ext up,p,rfl,l,E.mono (λb o e _=>up b o e) (λb n z=>z.elim id λz=>absurd l<|z▸n) λb z=>?_,ok.mono (λ_ _ e _=>e) (λb _ z=>z.elim (λz=>absurd z<|g b) .inr) λ_ e=>e⟩;rcases z with z|z
  .exact(E.dom b z).up (up b)
  .subst z;exact ok.ow
theorem Ea{b:Dn}{i:Nat}{o:Sl}: ∀{a:jw},i∉a->jo (b.set i o) (a.map .slot)=jo b (a.map .slot)
 |[],_=>rfl
 |j::a,h=>by have h1:i≠j:=λe=>h (by rw[e];exact jc);simp only[jG,jo,wu];rw[mD h1,Ea λz=>h<|ji _ z]
section
variable {X:Cx}{A:jK}{L:LL}{H0:Hp}{Pt c fr:hJ}{g:bi}{O:List aV}{scope:jb}{pos bX cp pf p1 p2:bq}{t J bG:jw}{N' U:iI}{bP bQ:FS}{st:aV}{dJ:mS}{M Y xp G q y1 y2:ay}{i a k m:Nat}
def afZ{more:oA}(F:Jn X.K M M st fr dJ)(gz:Binds X.K dJ [y1,y2] [])(SL:X0 U [y1,y2] (hU st))(fW:Gl X M)(fN:X.mg M=J4 (.ref fr))(cy:(M==("__debug__":ay))=K2)
  (bL: ∀x,X.fn x=K0)(hr:AP (k+2) X.A)(hTb:X.H₀ Pt=J4 (.tbl (#[.str q 0]++more)))(n8:X.env.code= .ref c)(C:CodeHd X.base c Pt)(hB:X.base.BuiltinsAt X.mg Pt)(fX:ap≠Pt)(hq:qualnameIn X.env G G=q)
  (CO:Az X N' scope t 0)(LS:Dj scope)(cj:scope.names.lookup xp=J4 .local)(gw:g.defaults=[])(cK:g.kw_defaults=[])(gB:annTrees g KE X.env=[])
  (o6: ∀b6 doc pm c' n4 u,et (fnX G q g O scope b6 .none .none doc pm KE (.ref c') n4) ⟨[u],[]⟩=pure [(xp,u)])
  (hN:X.N.Nodup)(hi:X.N[i]?=J4 G)(hx:Loc X.env.scope G)(ai:A i)(vi:JU X.env.scope G)(gr:(G==("__debug__":ay))=K2)(dE:(G==("__classdict__":ay))=K2)
  (ha:X.N[a]?=J4 Y)(va:JU X.env.scope Y)(gv:(Y==("__debug__":ay))=K2)(gx:(Y==("__classdict__":ay))=K2)
  (he:ag [eL Y p1,.Name G p2] X.env=(K2,aQ (.Name Y p1) X.env)::ag [.Name G p2] X.env)(gq:aF cp (ag [eL G p2] X.env)=[(K2,aQ (.Name G p2) X.env)])(g9:(aF cp<|ag [eL G p2] X.env).any (·.1)=K2)
  (hm:(Ls U)=m+2+Ls t)(fV: ∀(j:Nat) x,m+2<=j->U[j]?=J4 x-> ¬JU (hU st) x)
  (hR: ∀(fl:hJ) (b6:jQ) (c':hJ) (A:iE) (outer:List db) (s:ie) (H:Hp) (L:LL),(∀i,L.p i->i<Ls t+1)->AP k (A.deeper<|FD q scope s.heap.objs.size fl (.ref c') b6)->
   F3 (Ai FK X.prog X.w X.K X.mg X.base (xp::N') q scope fl (.ref c') b6 A outer s H E0) (λi=>i∈J) L H O bP)
  (gG: ∀(b7:ir) (A:iE) (outer:List db) (s:ie) (H:Hp) (fl:hJ) (b6:jQ) (v:V) (vs:List V),Ls vs=Ls t->AP (k+1) (A.deeper<|aT M (hU st) s.heap.objs.size fr b7)->
   I0 (rG FK X.prog X.w X.K X.mg X.base U M (hU st) fr b7 A outer s H E0).JQ N' xp G q scope b6 vs g O fl k (IU X.K<|Q1 (Ls t+1) (Ls t+1) J bP)->
   F3 (rG FK X.prog X.w X.K X.mg X.base U M (hU st) fr b7 A outer s H E0).JQ (λi=>i∈bG) ⟨λ_=>False,J4<|pD v fl m vs⟩ H (lu st) bQ):
  F3 X A L H0 [.FunctionDef G g O [] KE [] scope KE G pos,.Return (J4<|.Call (.Name M pf) [.Name Y p1,.Name G p2] [] cp) bX] (Gw i a t m bQ):=by
 intro Z s σ H D I hw;obtain⟨δ,T,out,E1,fi,e,kk⟩:=hw;obtain⟨args,hargs,e⟩:=hG e;obtain⟨⟨fY,hni,dz⟩,e⟩:=DR e;have aa:=Lj fY
 obtain⟨x,cs,rfl⟩: ∃x cs,args=x::cs:=by
  cases args with
  |nil=>cases e
  |cons x cs=>exact⟨x,cs,rfl⟩
 simp only at e;split at e
 case h_2=>cases e
 rename_i r δL fZ;cases e;obtain⟨aB,hclo,j8,l3⟩:=sJ X.env scope λx hx hf=>I.ok.has x.1<|CO.free x hx hf;obtain⟨more2,hP⟩:=I.base.tbls Pt _ hTb;rw[II] at hP;refine IG<|nestDef_K gw cK gB ?_;rw[hq];refine Rx I hP n8 C hB fX hclo λs1 H1 fl I1 up L1 kp fr0 new=>?_;refine Dx I1 hN hi hx (v:= .ref fl) K3 (λs2 I2 ch=>?_)<|.inl<|bL _
 have ef:fl∉X.fs:=λz=>by obtain⟨_,o,ho,_⟩:=I.Fe.mem z;rw[new] at ho;cases ho
 have nfl:fl∉Jh X.stack:=λz=>by obtain⟨_,o,ho,_⟩:=I.stack.mem z;rw[new] at ho;cases ho
 have nlo:fl≠X.env.locals:=λz=>by obtain⟨m,⟨o',es,ep,ao,_⟩,_⟩:=I.loc;rw[<-z,new] at ao;cases ao
 obtain⟨doc,pm,c',n4,hob,gb⟩:=L1.fn
 have hob2:s2.heap.get? fl=J4 (fnMade G q g O scope aB doc pm c' n4):=by
  obtain⟨b,hs,hb⟩:=ch;refine hs.extBut fl _ (λz=>?_) hob;rcases hb with hb|hb
  .exact nlo (z.trans hb)
  .obtain⟨w,o,ho,_⟩:=I.cell G b hb;rw[<-z,new] at ho;cases ho
 have Ip:Inv X (Z++[(fl,fnMade G q g O scope aB doc pm c' n4)]) (σ.set i<|J4<|.ref fl) H1 s2:=I2.GJ λp hp=>(qh.mp hp).elim (λz=>I2.pin p<|oU _ z) λz=>by
  cases AO.mp z;exact⟨hob2,L1.un,nlo,ef,λv h=>by cases h⟩
 have E2:=E1.forget (i:=i) (v:= .ref fl) up;have v8:jo (δ.set i KE) ((a::t).map .slot)=J4 (x::cs):=(Ea hni).trans hargs;obtain⟨ws,dh,B⟩:=Hl E2 v8
 obtain⟨v,vs,rfl⟩: ∃v vs,ws=v::vs:=by
  cases ws with
  |nil=>simp[tD] at dh
  |cons v vs=>exact⟨v,vs,rfl⟩
 have cf:((σ.set i<|J4<|.ref fl)[a]?).join=J4 v/\tD t 0 (σ.set i<|J4<|.ref fl)=vs.map J4:=by simp only[tD,ee,xH,jG,yT] at dh ⊢;exact dh
 have Ec:=yJ E2 B v8 (by rw[uO _ _ aa];exact nH);have hil2:i<(Ls σ):=by rw[E1.len];exact dz
 have fA:(Ls vs)=(Ls t):=by have:=mC dQ cf.2;simpa[tD] using this.symm
 refine IG<|oC<|NL (Q:=EP X Z (σ.set i<|J4<|.ref fl) λw W=>Ms X.K T (σ.set i<|J4<|.ref fl) (δ.set i KE) H1 r (δ.set i KE) w W) ?_ λw s3 ⟨y,H3,I3,r3,P3⟩=>?_
 .refine xG (AI I2 fW fN ?_ cy);refine callWith_K (h₀:=X.base) I2.ok.mod.kin F.kp ?_ he g9;rw[he];show af _ _ (hE ((K2,aQ (.Name Y p1) X.env)::aF cp (ag [.Name G p2] X.env))) _ _ s2;rw[gq];refine EJ<|NL (xj ha va gv gx _ s2 _ H1 (λw W=>w=v/\W=H1) Ip ⟨v,mU cf.1,rfl,rfl⟩) λu1 s3 a'=>?_;obtain⟨w,H3,I3,r3,e1,e2⟩:=a';subst e1 e2;refine EJ<|NL (xj hi vi gr dE _ s3 _ H3 (λw' W=>w'= .ref fl/\W=H3) I3 ⟨.ref fl,tU hil2,rfl,rfl⟩) λu2 s4 ⟨w2,H4,I4,r4,e3,e4⟩=>ID ⟨I4.J2,?_⟩;subst e3 e4;have hob4:=(I4.pin _ (oU _ (oU _ jc))).1;have I5:=I4.CT
  have LC:BM N' scope aB (vs.map J4) H4 s4.heap:=by
   rw[<-cf.2];refine⟨λx y c h1 h2=>I.ok.inj x y c (j8 x c h1)<|j8 y c h2,λx hx=>l3 x<|sU hx,λx c h=>⟨I5.cell x c<|j8 x c h,I5.freeC x c<|j8 x c h⟩,λl x v h1 h2=>?_,CO.Mk.len _⟩;obtain⟨hf,jj,hj,hv⟩:=CO.Mk.pre _ l v x h2 h1;refine⟨hf,?_⟩;obtain⟨m,hn,hl⟩:=I5.loc;have l8:=CO.free (x,.free) (sU hf) K3;obtain⟨u,r,q⟩:=hl jj x v hj hv (by rcases l8 with z|z;exact .inr<|.inl z;exact .inr<|.inr z);rcases q with⟨dy,_⟩|⟨_,c,hc,j9⟩
   .have bK:X.env.scope.names.lookup x=J4 .local:=dy;rcases l8 with z|z<;>(have z':X.env.scope.names.lookup x=_:=z;rw[bK] at z';cases z')
   .obtain⟨c',bp⟩:=l3 x<|sU hf;have:=j8 x c' bp;rw[hc] at this;cases this;exact⟨c,u,bp,j9,r⟩
  have nst: ∀x c,aB.lookup x=J4 c->c∉Jh X.stack:=λx c e z=>by
   rcases mz.mp (I.GQ c z) with q|q
   .exact I.Mb x c (j8 x c e) q
   .obtain⟨_,o,ho,_⟩:=I.ok.Fe.mem q;exact absurd (jW ho)<|VX.mpr<|I.ok.cab x c (bL x)<|j8 x c e
  obtain⟨oc,od,kV,doc2,pm2,an,b7,ct,t7,rfl,lkr,hcdr⟩:=F.ex;have hbt:=gz s4 [u1,u2] I5.J2 K3
  have CI:I0 (rG FK X.prog X.w X.K X.mg X.base U M (hU st) fr b7 X.A X.stack s4 H4 E0).JQ N' xp G q scope aB vs g O fl k (IU X.K<|Q1 (Ls t+1) (Ls t+1) J bP):=
   ⟨LS,cj,LC,⟨⟨doc,pm,c',n4,hob4,gb⟩,L1.un⟩,nfl,nst,o6 aB,λc2 s' W w' Q bA ba=>by
    have gF:(xp::N').length=Ls t+1:=by have:=CO.Mk.len<|σ.set i<|J4<|.ref fl;simp[tD] at this ⊢;exact this.symm
    rw[<-gF] at ba;obtain⟨L',h1,h2⟩:=IZ (N:=xp::N') ba;refine⟨_,hR fl aB c2 _ _ s' W L' (λi h=>by have:=h1 i h;rwa [gF] at this) bA,?_⟩
    have:L2.qo (xp::N') (w'::vs)=J4 w'::vs.map J4:=by unfold L2.qo;rw[gF,kO,fA];simp
    rw[<-this];exact h2⟩
  refine zk<|qm (VE (CX:=FK) (E:=E0) (Q:=λw W=>Ms X.K T (σ.set i<|J4<|.ref fl) (δ.set i KE) H4 r (δ.set i KE) w W) (vs:=[w,.ref fl]) lkr hcdr SL hr I5.Mr hbt (.cons r3<|.cons r4 .nil) K3 λbA=>?_) λrr s5 hq=>?_
  .have nd0:(iM ((a::t).map Ax.slot) (x::cs)).Nodup:=by rw[uO _ _ aa];exact nH
   refine⟨λD σ' W=>tS X.K (λi=>i∈bG) ⟨λ_=>False,J4<|pD w fl m vs⟩ H4 bQ D (σ'.take (m+2)++vs.map J4) W,Hg.JQ λZ s' σ' W D I' h=>?_,?_⟩
   .refine gG b7 X.A X.stack s4 H4 fl aB w vs fA bA CI Z s' _ W D (I'.ghost ?_ λj y h1 h2=>?_) h
    .have:=I'.len;have e:(Ls σ')=(Ls U):=this;simp[fA];omega
    .by_cases hj:j<m+2
     .have e:(Ls σ')=(Ls U):=I'.len;rw[pA<|by simp;omega,IB hj]
     .exact absurd h2 (fV j y (by omega) h1)
   .have hz:(L2.qo U [w,.ref fl]).take (m+2)++vs.map J4=pD w fl m vs:=by unfold L2.qo pD;rw[show (Ls U)-[w,V.ref fl].length=m+(Ls t) by simp;omega];simp[List.take_replicate]
    show tS _ _ _ _ _ _ _ _;rw[hz];obtain⟨e1,no⟩:=Lr (fl:=fl) (m:=m) Ec aa;refine⟨_,_,_,e1,⟨λl b ⟨d,h1,h2⟩=>absurd ⟨l,d,h1,h2⟩<|no b,λ_ z=>z,λ_ _ z=>z,λz' e j _=>by cases e;rfl⟩,fZ,λw' σ' W S R=>?_⟩;have P:=qd E2 B v8 nd0<|SR Ec aa S R
    rwa [Q9 _ _ _ _ aa] at P
  .cases rr with
   |error e=>exact aK hq
   |ok f=>
    cases f with
    |ret u=>exact I5.after hq
    |_=>exact aK hq
 .have S1:SK A σ δ H (σ.set i<|J4<|.ref fl) (δ.set i KE) H1:=⟨λb o q _=>up b o q,λl b z=>by
   obtain⟨⟨d,h1,h2⟩,n⟩:=agi z;rw[mD<|tX n] at h2;exact .inl ⟨d,h1,h2⟩,λb q=>by
   cases hh:H b with
   |none=>exact absurd hh q
   |some o=>rw[up b o hh];simp,λl n=>mD λ(z:i=l)=>n<|z▸ai⟩
  refine⟨y,_,H3,I3,r3,kk y _ H3 (S1.trans P3.1.sk) ?_⟩;obtain⟨d,f⟩:=r
  cases f with
  |false=>exact P3.2
  |true=>
   obtain⟨p,h1,h2,h3⟩:=P3.2;refine⟨p,h1,fi.fresh ?_,h3⟩
   cases hh:H p with
   |none=>rfl
   |some o=>rw[up p o hh] at h2;cases h2
end
open PySem.Builtin.Str
section
variable {X:Cx}
end
section
variable {X:Cx}{o e a:iq}{k l:FO}{b v:ay}{d p c i h g f:bq}{j:Nat}
end
section
variable {K:iJ}{T:SI}{b:L2.St}{c:Dn}{H:Hp}{A:jK}{i j:Nat}{d:D}{a:hJ}
end
section
variable {X:Cx}{A:jK}{L:LL}{d:Hp}{b a c:bq}{i j:Nat}{x y:ay}
end
end PX
namespace TT
open PySem.SeqAt
section
variable {a:iL}{w:iD}{A:iE}{E:iY}{s:ie}
end
end TT
namespace PX
open L2 PySem.SeqAt TS
def okI:D->Bool
 | .int _=>J
 |_=>C
def T5(h:okI d=J): ∃k,d= .int k:=by cases d<;>first|exact⟨_,rfl⟩|cases h
def XA(h:okI d=J):D.pr d=J:=by obtain⟨k,rfl⟩:=T5 h;rw[D.pr]
section
variable {X:Cx}{a:iX}{b:L2.St}{H:Hp}{s:ie}
def Jt{e:List D}(c:e.all okI=J)(k:Int):e.any (D.O1 · (.int k))=J↔ .int k∈e:=by
 rw[EM];constructor
 .rintro⟨x,d,f⟩;rw[(sG (XA<|kf.mp c x d)<|by rw[D.pr]).mp f] at d;exact d
 .intro h;exact⟨_,h,(sG (by rw[D.pr])<|by rw[D.pr]).mpr K3⟩
end
section
variable {X:Cx}
end
end PX
namespace TT
def YJ{a:iL}{w:iD}{A:iE}{E:iY}{s:ie}{Q:iY}(h:Q (.ref s.heap.objs.size) {s with heap:=s.heap.push (jI #[] 0 (kK w))}):af (aj a w) A (v6<|.type "set") Q E s:=by
 unfold v6 fU;obtain⟨b,g,d,c,os⟩:=s;dsimp only;refine hV<|hV<|ug<|iw ?_;dsimp only;simp only[newObj]
 first
  |exact hV<|Ba<|iw h
  |exact hV<|iw<|hV<|Ba<|iw h
end TT
namespace L2
end L2
namespace PX
open L2 PySem.SeqAt
def Rh(a:jw)(k:Nat)(c:Cf)(d:Tg)(ti:FT)(b:FB):F:=JL I a k c d ti b
section
variable {X:Cx}{A:jK}{d:hJ}{e:iq}{f:F}
variable {c:oj}{jl:pv}{scope:jb}{b:bq}{n:iI}{a:jw}{k:Nat}{m:Cf}{j:Tg}{ti:FT}{l:FB}
def WR(U:Az X n scope a k)(v:X.calm=J)(u:c.is_async=0)(y: ∀r,jl[0]?=Y r->r.is_async=0)
  (w: ∀x,aw c.iter X.env x=pure x)(B:MP X (λi=>i∉a) c.target c.iter m)
  (z: ∀(cl:jQ) (U:hJ) (E:ie) (s:Hp) (t:ki) (p:iX),let q:=X.comp n scope cl U E s t p
   ME q (λi=>Ls a<=i) c.target j/\Jv q c.ifs (tT X.K ti)/\ ∀d,PB q (je (.SetComp e (c::jl) scope b) 0 (.ref d) q.env)<|JM I X.K (λi=>Ls a<=i) d l):
  PX X (.SetComp e (c::jl) scope b) (Rh a k m j ti l):=PX.imp (Ky (o:= .SS []) (g:=tG X.K (λi=>Ls a<=i) j) (ti:=tT X.K ti) (tb:=λd=>JM I X.K (λi=>Ls a<=i) d l) U.Mk v u y w B z λ_ _ _ k=>TT.YJ<|k _ λ_=>⟨#[],0,_,km _ rfl,.nil,TT.Av.fresh _ _ _,rfl,rfl⟩) λO T Q h=>zT (S:=I) h
end
def xD(f:F):FB:=λa δ=>(f δ).bind λp=>if a.all BJ=J/\BJ p.1.1=J/\(Ls a)<500 then Y (oz a p.1.1,p.2) else I
section
variable {X:Cx}{A:jK}{d:hJ}{c:iq}{f:F}
def afx{h:pv}{Y:jb}{p:bq}{depth:Nat}(hu:X.A.units+90<aS)(hn:h[depth+1]?=KE)(he:PX X c f):PB X (je (.SetComp c h Y p) depth (.ref d) X.env) (JM KE X.K A d<|xD f):=by
 intro w s m H N I hw;obtain⟨Q,T,F,m6,δ',B,e,k⟩:=hw;obtain⟨⟨r,g⟩,h1,e⟩:=hG e;obtain⟨⟨o1,o2,o3⟩,e⟩:=iR e;obtain⟨rfl,rfl⟩:=tM e
 have V:je (.SetComp c h Y p) depth (.ref d) X.env=(do let v <-aQ c X.env;b4 c.pos;let _ <-call (.builtin "set.add") [.ref d,v]):=by unfold je;simp -iota only[clausesOf.eq_def];rw[hn]
 rw[V];refine hV<|NL (he w s m H (λy j=>Ms X.K T m Q H r g y j) I ⟨Q,T,r,g,B.er,h1,λv j P=>P⟩) λu s1 a'=>?_;obtain⟨y,j,E,ru,P⟩:=a';obtain⟨C,U⟩:=P.rep B.er;have G:SK A m Q H m g j:=P.1.sk;have D:=B.step G C;obtain⟨us,M,q3⟩:=D.at';obtain⟨es,n,t,l,S⟩:=C8.MI E M q3;refine hV<|xJ<|hV ?_;refine oo HD ⟨_,S.is.at_,rfl⟩ Nb ?_<|Na _ _;unfold bb.«set.add» cb;simp only[wA,tN];unfold bO;refine hV<|iw ?_
 try dsimp only
 refine hV<|iw ?_
 try dsimp only
 refine hV<|C4.add E S o1 (.inl U) U ru o2 o3 (by show X.A.units+1+60<aS;lia) λb h' tk W n' t' L ht t8 x=>?_;show af _ _ (ret av) _ _ _;have O:T d:=B.td;have kp: ∀(J:HO) b u,j b=J4 u-> ¬(W3 m g b\/T b)->upd j d J b=J4 u:=λJ b u e n=>by rw[iW<|by intro z;subst z;exact n<|.inr O];exact e
 obtain⟨R,z1,z2⟩:=x.R1 (K:=X.K) (H':=upd j d<|.SS<|L.map hv) (O':=λa=>W3 m g a\/T a) (λp hp=>Rep.mono (kp _) (λ_ _ z=>z)<|x.rep p hp) iQ;refine iw ⟨_,rfl,iw ⟨m,upd j d<|.SS<|L.map hv,?_,k m _ ?_ ?_⟩⟩
 .obtain⟨eZ,zs2,Z,_⟩:=M;exact vH (t':=tk) E (by rw[Z];exact bv) t8 ⟨_,x.is.at_⟩ x.L9
 .have:Ju A d m g j m g (upd j d<|.SS<|L.map hv):=⟨λa o e n nd=>by rw[iW nd];exact e,λi a z=> .inl z,λa z=>by
   by_cases q:a=d
   .subst q;rw[iQ];simp
   .rw[iW q];exact z,λ_ _=>rfl⟩
  exact G.MT.trans this
 .refine⟨C.mono (λb o e n=>by rw[iW<|by intro z;subst z;exact n O];exact e) (λ_ _ z=>z) λa z=>?_,O,R,?_,?_⟩
  .by_cases q:a=d
   .subst q;rw[iQ];trivial
   .rw[iW q];exact C.dom a z
  .exact z1
  .exact z2
end
def abh{X:Cx}{n:iq}{f:F}{k:Nat}{o:bq}{c:oj}{scope:jb}{p:Cf}{tt:Tg}{q:FT}{g:jw}{N':iI}(u:X.A.units+90<aS)(U:Az X N' scope g k)(v:N'.Nodup)(y:QI X (λi=>i∉g) c.target c.iter p)
  (w: ∀(cl:jQ) (U:hJ) (m:ie) (j:Hp) (l:ki) (e:iX),(X.comp N' scope cl U m j l e).N.Nodup->
   QG (X.comp N' scope cl U m j l e) (λi=>Ls g<=i) c.target tt/\QF (X.comp N' scope cl U m j l e) c.ifs q/\QX (X.comp N' scope cl U m j l e) n f)
  (s:X.calm=J:=by rfl)(r:c.is_async=0:=by rfl)(t: ∀x,aw c.iter X.env x=pure x:=by intro _;rfl):
  QX X (.SetComp n [c] scope o) (Rh g k p tt q<|xD f):=
 ⟨WR U s r (by intro z h;cases h) t y.h λcl U m j l e=>let⟨a,b,c⟩:=w cl U m j l e v;⟨a.h,b.h,λd=>afx u H c.h⟩⟩
open PySem.W
structure Oh(X:Cx)(q:ay)(Pt:hJ):Prop where
 t:YC q Pt X.H₀
 c: ∃c,X.env.code= .ref c/\CodeHd X.base c Pt
 b:X.base.BuiltinsAt X.mg Pt
 g:ap≠Pt
def ozQ{Z:ZZ}{k:Nat}{x q:ay}{st:aV}{N g:iI}{asg:jw}{fs:FS}{h:hJ}{TB:List (hJ×ay)}(a:TbK Z TB x st q h)(S:X0 N g (hU st))(b:M0 x st g)
  (U: ∀(f:hJ) (e:ir) (A:iE) (d:List db) (s:ie) (T:Hp) (E:XK) (L:LL),(∀i,L.p i->i<Ls g)->AP k (A.deeper<|aT x (hU st) s.heap.objs.size f e)->
   un (A.deeper<|aT x (hU st) s.heap.objs.size f e) 60->un (A.deeper<|aT x (hU st) s.heap.objs.size f e) 1->un (A.deeper<|aT x (hU st) s.heap.objs.size f e) 62->un (A.deeper<|aT x (hU st) s.heap.objs.size f e) 90->N.Nodup->
   Oh (rG FK Z.P Z.w Z.K Z.mg Z.base N x (hU st) f e A d s T E).JQ q h->QQ (rG FK Z.P Z.w Z.K Z.mg Z.base N x (hU st) f e A d s T E).JQ (λi=>i∈asg) L T (lu st) fs):MQ Z TB (k+1) x g (Q1 (Ls N) (Ls g) asg fs):=
 let⟨f,n,c,m,F,h1,t,u,v,y⟩:=a
 ⟨f,n,fnU F S λe A d s T E L z O l j r o Q M B=>U f e A d s T E L z O l j r o Q ⟨B _ y,⟨c,M.trans h1,t⟩,u,v⟩,m,F.kp,F.binds b⟩
def ozU{Z:ZZ}{k:Nat}{x:ay}{st:aV}{N e:iI}{asg:jw}{fs:FS}{TB:List (hJ×ay)}(a:Fz Z.K Z.mg x st)(S:X0 N e (hU st))(b:M0 x st e)
  (r: ∀(f:hJ) (d:ir) (A:iE) (c:List db) (s:ie) (U:Hp) (E:XK) (L:LL),(∀i,L.p i->i<Ls e)->AP k (A.deeper<|aT x (hU st) s.heap.objs.size f d)->
   un (A.deeper<|aT x (hU st) s.heap.objs.size f d) 60->un (A.deeper<|aT x (hU st) s.heap.objs.size f d) 1->un (A.deeper<|aT x (hU st) s.heap.objs.size f d) 62->un (A.deeper<|aT x (hU st) s.heap.objs.size f d) 90->N.Nodup->
   UY TB U->QQ (rG FK Z.P Z.w Z.K Z.mg Z.base N x (hU st) f d A c s U E).JQ (λi=>i∈asg) L U (lu st) fs):MQ Z TB (k+1) x e (Q1 (Ls N) (Ls e) asg fs):=
 let⟨f,j,m,F⟩:=a
 ⟨f,j,fnU F S λd A c s U E L o t h g n l u _ q=>r f d A c s U E L o t h g n l u q,m,F.kp,F.binds b⟩
def LtZ(Z:ZZ)(k:Nat)(x:ay)(st:aV)(N t:iI)(d:jw)(m g:Nat)(fs:Ap->FS):Prop:= ∃f l,Z.mg x=Y (.ref f)/\Jn Z.K x x st f l/\Binds Z.K l t []/\
 ∀(e:ir) (A:iE) (a:List db) (s:ie) (U:Hp) (n:hJ) (p:jQ) (v:V) (h:List V) (o:iI) (u r q:ay) (scope:jb) (b:bi) (c:List aV) (j:Ap),Ls h=g->AP (k+1) (A.deeper<|aT x (hU st) s.heap.objs.size f e)->
  I0 (rG FK Z.P Z.w Z.K Z.mg Z.base N x (hU st) f e A a s U E0).JQ o u r q scope p h b c n k (IU Z.K j)->
  QQ (rG FK Z.P Z.w Z.K Z.mg Z.base N x (hU st) f e A a s U E0).JQ (λi=>i∈d) ⟨λ_=>False,Y<|pD v n m h⟩ U (lu st) (fs j)
def ltZ{Z:ZZ}{k:Nat}{x:ay}{st:aV}{N u:iI}{j:jw}{m g:Nat}{fs:Ap->FS}(a:Fz Z.K Z.mg x st)(S:X0 N u (hU st))(b:M0 x st u)
  (E: ∀(f:hJ) (h:ir) (A:iE) (c:List db) (s:ie) (T:Hp) (o:hJ) (r:jQ) (v:V) (l:List V) (p:iI) (y t q:ay) (scope:jb) (d:bi) (e:List aV) (n:Ap),Ls l=g->AP (k+1) (A.deeper<|aT x (hU st) s.heap.objs.size f h)->
   un (A.deeper<|aT x (hU st) s.heap.objs.size f h) 60->un (A.deeper<|aT x (hU st) s.heap.objs.size f h) 1->un (A.deeper<|aT x (hU st) s.heap.objs.size f h) 62->un (A.deeper<|aT x (hU st) s.heap.objs.size f h) 90->N.Nodup->
   I0 (rG FK Z.P Z.w Z.K Z.mg Z.base N x (hU st) f h A c s T E0).JQ p y t q scope r l d e o k (IU Z.K n)->
   QQ (rG FK Z.P Z.w Z.K Z.mg Z.base N x (hU st) f h A c s T E0).JQ (λi=>i∈j) ⟨λ_=>False,Y<|pD v o m l⟩ T (lu st) (fs n)):LtZ Z k x st N u j m g fs:=
 let⟨f,U,h1,F⟩:=a
 ⟨f,U,h1,F,F.binds b,λh A c s T o r v l p y t q scope d e n hv z B=>by have:=z.un;exact E f h A c s T o r v l p y t q scope d e n hv z (by unfold un;omega) (by unfold un;omega) (by unfold un;omega) (by unfold un;omega) S.nd B⟩
section
variable {X:Cx}{A:jK}{L:LL}{H0:Hp}{N:iI}{T f q E I y:ay}{scope:jb}{n:jQ}{J:List V}{d:bi}{l:List aV}{o:hJ}{k i j jt:Nat}{U:jw}{ev:Ap}{z:L2.St}{p r p3 Q B:bq}
def sCl(a:I0 X N T f q scope n J d l o k (IU X.K ev))(t:U.map (λg=>(z[g]?).join)=J.map J4)(w:AP (k+1) X.A)(m:X.N.Nodup)(h:L.st=J4 z:=by rfl)(O:z[j]?=J4 (J4<|.ref o):=by rfl)(nj: ¬A j:=by decide)(Y: ∀g∈U,¬A g:=by decide)(hex:X.ex=[]:=by rfl)
  (v:X.N[j]?=J4 E:=by rfl)(vj:JU X.env.scope E:=by exact aW K3)(hd:DB E:=by decide)(M:(E==("__classdict__":ay))=K2:=by decide)(C:X.N[jt]?=J4 y:=by rfl)(vt:JU X.env.scope y:=by exact aW K3)(t5:DB y:=by decide)(c:(y==("__classdict__":ay))=K2:=by decide)
  (G:SE X (.Name y r) []:=by rfl)(e:BA X Q []:=by rfl)(u:X.N[i]?=J4 I:=by rfl)(H:Loc X.env.scope I:=by exact aW K3)(x:cH (.Call (.Name E p) [.Name y r] [] Q) (J4<|.Name I p3) B.line X.env=pure K2:=by rfl)(s:X.fn I=K0\/X.env.scope.names.lookup I=J4 .local:=by exact aW K3)(b:A i:=by decide):
  QS X A L H0 (.Assign [.Name I p3] (.Call (.Name E p) [.Name y r] [] Q) B) (OE i (jt::U) ev):=⟨To a h O t nj Y hex w v vj hd M C vt t5 c G e m u H x s b⟩
variable {Pt:hJ}{bX pf p1:bq}{e asgR bG:jw}{N' M:iI}{bP:FS}{bQ:Ap->FS}{st:aV}{G C y1 Y:ay}{a m:Nat}
def sLo(O:LtZ (zX X) k G st M [y1,Y] bG m (Ls e) bQ)(SL:X0 M [y1,Y] (hU st))(tb:Oh X q Pt)(hr:AP (k+2) X.A)(hN:X.N.Nodup)(CO:Az X N' scope e 0)(LS:JB scope=K0)
  (hR: ∀(o:hJ) (n:jQ) (c':hJ) (A:iE) (outer:List db) (s:ie) (H:Hp) (L:LL),(∀i,L.p i->i<Ls e+1)->AP k (A.deeper<|FD q scope s.heap.objs.size o (.ref c') n)->
   QQ (Ai FK X.prog X.w X.K X.mg X.base (T::N') q scope o (.ref c') n A outer s H E0) (λi=>i∈asgR) L H l bP)
  (hm:(Ls M)=m+2+(Ls e):=by rfl)(fV: ∀(j:Nat) x,m+2<=j->M[j]?=J4 x-> ¬JU (hU st) x)
  (fW:Gl X G:=by rfl)(cy:DB G:=by decide)(bL: ∀x,X.fn x=K0:=by exact λ_=>rfl)(hq:qualnameIn X.env f f=q:=by rfl)(cj:scope.names.lookup T=J4 .local:=by rfl)(gw:d.defaults=[]:=by rfl)(cK:d.kw_defaults=[]:=by rfl)(gB:annTrees d KE X.env=[]:=by rfl)
  (o6: ∀n doc pm c' n4 u,et (fnX f q d l scope n .none .none doc pm KE (.ref c') n4) ⟨[u],[]⟩=pure [(T,u)]:=by exact λ_ _ _ _ _ _=>rfl)
  (hi:X.N[i]?=J4 f:=by rfl)(hx:Loc X.env.scope f:=by exact aW K3)(ai:A i:=by decide)(vi:JU X.env.scope f:=by exact aW K3)(gr:DB f:=by decide)(dE:(f==("__classdict__":ay))=K2:=by decide)
  (ha:X.N[a]?=J4 C:=by rfl)(va:JU X.env.scope C:=by exact aW K3)(gv:DB C:=by decide)(gx:(C==("__classdict__":ay))=K2:=by decide)
  (he:SE X (.Name C p1) [.Name f r]:=by rfl)(gq:aF Q (ag [eL f r] X.env)=[(K2,aQ (.Name f r) X.env)]:=by rfl)(g9:BA X Q [.Name f r]:=by rfl):
  QQ X A L H0 [.FunctionDef f d l [] KE [] scope KE f B,.Return (J4<|.Call (.Name G pf) [.Name C p1,.Name f r] [] Q) bX] (Gw i a e m<|bQ<|Q1 (Ls e+1) (Ls e+1) asgR bP):=by
 obtain⟨fr,dJ,S,F,W,V⟩:=O;obtain⟨more,ht⟩:=tb.t;obtain⟨c,hc,Z⟩:=tb.c;exact⟨afZ F W SL fW S cy bL hr ht hc Z tb.b tb.g hq CO (aao LS) cj gw cK gB o6 hN hi hx ai vi gr dE ha va gv gx he gq g9 hm fV (λo n c' A outer s H L hL D=>(hR o n c' A outer s H L hL D).h) λR A outer s H o n v J hv D P=>(V R A outer s H o n v J _ _ _ _ _ _ _ _ hv D P).h⟩
end
def WB(i:Nat)(f:FS):FS:=λa=>match a[i]? with
 |some (Y (d,_))=>f<|a.set i<|Y (d,C)
 |_=>I
def aby{X:Cx}{A:jK}{L:LL}{m:Hp}{n:List aV}{f:FS}{i:Nat}(h:QQ X A L m n f):QQ X A L m n (WB i f):=⟨Hg.imp' h.h λD p U t=>by
 obtain⟨o,T,out,E,s,e,k⟩:=t;unfold WB at e;split at e
 case h_2=>cases e
 rename_i d b hd;obtain⟨q,_⟩:=E.freeze hd;have S:SK A p o U p (o.set i<|Y (d,C)) U:=Ar.set.sk;refine⟨_,T,out,q,s.step S,e,?_⟩
 cases out with
 |nx j=>exact λa c g l=>k a c (S.trans g) l
 |bk j=>exact λa c g l=>k a c (S.trans g) l
 |ct j=>exact λa c g l=>k a c (S.trans g) l
 |rt r j=>exact λv a c g R2=>k v a c (S.trans g) R2⟩
def acp{a:iI}{n:Nat}{b:jb}(h:((a.drop n).all λx=>(b.names.lookup x).isNone)=J): ∀(j:Nat) x,n<=j->a[j]?=Y x-> ¬JU b x:=λj x d e v=>by have c:x∈a.drop n:=mq (i:=j-n) (by rw[cX,show n+(j-n)=j by lia];exact e);have:=kf.mp h x c;unfold JU at v;rcases v with z|z|z<;>(rw[z] at this;cases this)
section
variable {X:Cx}
end
def C6{Z:ZZ}{k:Nat}{x:ay}{st:aV}{N d:iI}{c:jw}{fs:FS}(a:Fz Z.K Z.mg x st)(S:X0 N d (hU st))(e:Bd Z k x st N d c fs)(b:M0 x st d:=by intro _ _ _ _ _ _;repeat' (first|exact Mh rfl|refine MH λ_=>?_)):Oz Z (k+1) x d (Q1 (Ls N) (Ls d) c fs):=ozB a S b e
end PX
set_option backward.eqns.nonrecursive true
namespace PV
open L2 PX
noncomputable abbrev U1:Nat:=100000
def Ag:FS:=iA (kH<|zQ (sy (JH [.int])<|hX 0)<|Yk<|sy (JH [.bool])<|hX 0) iN
def ox:Ap:=Q1 1 1 [] Ag
def sv:FS:=iA (kH<|zQ (iB ox [hX 0])<|Cn .LtE .LtE (hX 1) (hX 0)<|hX 2) iN
def lC:Ap:=Q1 3 3 [] sv
abbrev pE:=iu<|fC<|.int 1
def Cd:FS:=iA (kH<|iB lC [hX 1,pE,hX 0]) iN
def sA:Ap:=Q1 2 2 [] Cd
def xv:FS:=iA (kH<|zQ (iB ox [hX 1])<|iB sA [hX 0,iu<|iO (g1 De) [hX 1]]) iN
def nV:Ap:=Q1 2 2 [] xv
abbrev xN:=jB<|jX 1
abbrev V5:=iu<|iO (g1 uI) [hX 1]
abbrev Bj:=iA (kH<|fC<|.bl C) iN
def mF:FS:=iA (Dm (Di (rA<|fT<|sy (JH [.tuple])<|hX 1)<|fT<|iF JE V5<|hX 0) Bj iN)<|iA (Dm (rA<|fT<|iO (g1 zL) [iu<|jn [0] 1 xN (ik 1) jk<|jm<|iB nV [hX 0,hX 1]]) Bj iN)<|iA (kH<|iF EV (iu<|vD [] 1 xN (ik 0) jk<|CM<|iO (g1 De) [hX 0])<|hX 0) iN
def kc:Ap:=Q1 2 2 [] mF
abbrev xP:=iu<|fC<|.int 0
abbrev Y2:=iu<|iF JA (hX 1) pE
abbrev Y6:=fT<|iF (uJ .Gt) (hX 1) xP
def Af:FS:=iA (kH<|MC Y6 (iF Ct (hX 0) Y2)<|sy B9<|iu<|iF Ct (hX 0)<|iu<|iF JA (iu<|sy B9<|hX 1) pE) iN
def ou:Ap:=Q1 2 2 [] Af
abbrev Sk:=iu<|iO (g1 uI) [hX 0]
def pV:FS:=iA (Dm (fT<|iF (uJ .Lt) (hX 1) Sk) (iA (kH<|iF Ct (hX 0)<|hX 1) iN) iN)<|iA (kH<|fC<|.int 0) iN
def lX:Ap:=Q1 2 2 [] pV
abbrev Za:=iu<|iF QV (iu<|fC<|.int 10)<|iu<|fC<|.int 18
def su:FS:=iA (kE 2<|iB lX [hX 0,hX 1])<|iA (Dm (fT<|iF (uJ .GtE) (hX 2) Za) (iA (kH<|nG [iF JA (hX 2) Za,fC<|.bl J]) iN) iN)<|iA (kH<|nG [iF Dd (hX 2)<|iu<|fC<|.int 2147483647,fC<|.bl C]) iN
def nv:Ap:=Q1 3 2 [2] su
abbrev Bk:=iu<|iF Ct (hX 0) xP
def uM:FS:=iA (Dm (fT<|iF Ct (hX 0) pE) (iA (kE 2<|iF Dd Bk<|hX 1)<|iA (xg 0 (iF Q3 Bk<|hX 1) xP)<|iA (qr 2) iN) iN)<|iA (xg 0 (iF Dd (iu<|iF uK (iu<|iF oJ Bk<|iu<|fC<|.int 48271)<|iu<|fC<|.int 29)<|iu<|fC<|.int 2147483647) xP)<|iA (kE 3<|iF Dd (iu<|iF uK (iu<|iF uK (iu<|iF oJ Bk Bk)<|iu<|iF oJ (iu<|fC<|.int 39373) Bk)<|iu<|fC<|.int 7)<|iu<|fC<|.int 2147483629)<|iA (kE 3<|iF Dd (iu<|iF uK (iu<|iF oJ (hX 3)<|hX 3)<|iu<|iF oJ (iu<|fC<|.int 16807)<|hX 3)<|iu<|fC<|.int 2147483587)<|iA (kH<|iF Dd (iu<|iF Q3 (hX 3)<|iu<|fC<|.int 8)<|hX 1) iN
def jz:Ap:=Q1 4 2 [2,3] uM
abbrev V4:=sy B9 pE
abbrev Sn:=iu<|iF uK (hX 1) pE
abbrev We:=iu<|iB jz [hX 0,iu<|fC<|.int 2]
abbrev Zb:=iu<|nG [fC<|.int 1,V4]
abbrev Zk:=Cm 2<|iu<|iB jz [hX 0,iu<|iO (g1 uI) [hX 2]]
abbrev Wh:=iF Ct Zb We
abbrev Wi:=iu Wh
def adn:FS:=iA (kE 2<|iO (MY .lst J) [pE,Sn])<|iA (kE 3<|nG [])<|iA (qi (B6<|hX 1) (ik 4)<|iA (lS<|mK 3<|iF oJ (iu Zk) Wi) iN)<|iA (kH<|iO (g1 lJ) [hX 3]) iN
def nu:Ap:=Q1 5 2 [2,3,4] adn
abbrev Zo:=iu<|iF Ct (hX 0)<|iu<|iF JA (iu<|iO (g1 De) [hX 1]) pE
def oW:FS:=iA (kH<|iF oJ Zo<|iu<|iF Ct Zb<|iu<|iO (g1 Ut) [iu<|iF (uJ .Lt) (hX 1) xP]) iN
def lq:Ap:=Q1 2 2 [] oW
def DT:FS:=iA (kH<|iB lC [hX 0,xP,pE]) iN
def rC:Ap:=Q1 1 1 [] DT
def yv:FS:=iA (kH<|zQ (sy (JH [.tuple])<|hX 1)<|zQ (iF EV V5<|hX 0)<|iO (g1 zL) [iu<|jn [] 1 xN (ik 0) jk<|jm<|iB rC [hX 0]]) iN
def mf:Ap:=Q1 2 2 [] yv
def Hd:FS:=iA (kH<|iF EV Zo<|iu<|MC Y6 (fC<|.int 1)<|fC<|.int 0) iN
def uR:Ap:=Q1 2 2 [] Hd
def acZ:FS:=iA (kH<|iO (g1 Ha) [iu<|jn [0] 1 xN (ik 1) jk<|jm<|iB uR [hX 0,hX 1]]) iN
def oN:Ap:=Q1 2 2 [] acZ
abbrev NU:=jB<|jX 3
abbrev Sj:=Gg [ik 2,ik 3]
abbrev Wb:=Jd Sj<|jX 0
def Q8:FS:=iA Wb<|iA (kH<|zQ (iB mf [hX 2,hX 1])<|iO (g1 zL) [iu<|jn [1] 1 NU (ik 1) jk<|jm<|iB oN [hX 0,hX 1]]) iN
def qa:Ap:=Q1 4 2 [2,3] Q8
abbrev VY:=iu<|yx [jX 1]
abbrev V6:=yx [fC<|.int 0,fC<|.int 1]
abbrev zC4:=iA (kE 1<|jn [] 2 xN (ik 0) jk<|FR (jB V6) (ik 1) jk<|jm<|iF uK (hX 0) VY) iN
def adq:FS:=iA (kE 1<|nG [yx []])<|iA (qi (B6<|hX 0) (ik 2) zC4)<|iA (qr 1) iN
def qb:Ap:=Q1 3 1 [1,2] adq
abbrev LP:=jm<|jX 1
abbrev Wf:=iB qb [Bk]
def aej:FS:=iA (kH<|jn [0] 1 (jB Wf) (ik 1) (fT<|iB qa [hX 0,hX 1]) LP) iN
def sD:Ap:=Q1 1 1 [] aej
abbrev NV:=iA OD iN
abbrev Y7:=rA<|fT<|iB kc [hX 0,hX 1]
def nO:FS:=iA (Dm Y7 NV iN) iN
def kN:Ap:=Q1 2 2 [] nO
abbrev Zp:=iu<|jn [1] 1 (jB<|jX 0) (ik 1) jk<|jm<|iB ou [hX 0,hX 1]
def adu:FS:=iA (kH<|iO (g1 lJ) [iu<|iO (g1 xu) [Zp]]) iN
def mG:Ap:=Q1 2 2 [] adu
def X9:FS:=iA Wb<|iA (lS<|iB kN [hX 2,hX 1])<|iA (kH<|yx [jX 2,iO (g1 lJ) [iu<|iO (g1 oZ) [iu<|jn [1] 1 NU (ik 1) jk<|jm<|iB mG [(hX 1),(hX 0)]]]]) iN
def FA:Ap:=Q1 4 2 [2,3] X9
def ae8:FS:=iA (kH<|iO (g1 lJ) [Zp]) iN
def rE:Ap:=Q1 2 2 [] ae8
abbrev Y0:=iF (uJ .Gt) (hX 3) xP
abbrev Ze:=iF JA (iu<|iO (g1 De) [hX 3]) pE
abbrev zC6:=iA (xg 1 (MC (fT Y0) (jX 2)<|sy B9<|hX 2)<|iu Ze) iN
def Uu:FS:=iA (kE 1<|iO (g1 Ca) [hX 0])<|iA (qi (Fn 1<|jX 0) Sj zC6)<|iA (kH<|iO (g1 lJ) [hX 1]) iN
def pd:Ap:=Q1 4 1 [1,2,3] Uu
def adw:FS:=iA (lS<|iB kN [Sk,hX 1])<|iA (kH<|iO (g1 lJ) [iu<|jn [0] 1 (jB<|iB pd [hX 1]) (ik 1) jk<|jm<|MC (fT<|iB uR [hX 0,hX 1]) (fC<|.int 1)<|fC<|.int 0]) iN
def oi:Ap:=Q1 2 2 [] adw
abbrev Wa:=iu<|iF uK (hX 0) pE
def Q6:FS:=iA (kH<|iO (MY .tup C) [pE,Wa]) iN
def yz:Ap:=Q1 1 1 [] Q6
abbrev Y5:=iA (kH<|iO (g1 lJ) [hX 2]) iN
abbrev Zn:=fT<|iF EV We xP
def yu:FS:=iA (kE 2<|jn [0] 1 (BZ pE Sn) (ik 1) Zn<|jm<|iF oJ (hX 1) Wi)<|iA (Dm (fT<|iF EV (hX 2)<|iu<|nG []) (iA (kE 2<|nG [iF oJ (iu<|iF uK pE<|iu<|iB jz [hX 0,hX 1]) Wi]) iN) iN) Y5
def nB:Ap:=Q1 3 2 [2] yu
abbrev Si:=Gg [ik 0,ik 1]
abbrev V9:=iB lq [hX 0,hX 1]
abbrev Zu:=jm<|yx [iO (g1 De) [iu V9],V9]
def tE:FS:=iA (kE 2<|jn [1] 1 (jB<|jX 0) (ik 1) jk Zu)<|iA (kH<|iO (g1 lJ) [iu<|jn [] 2 (jB<|iO (g1 oZ) [hX 2]) Si jk LP]) iN
def kQ:Ap:=Q1 3 2 [2] tE
abbrev YW:=iB nB [hX 0,hX 1]
abbrev Y1:=iu<|iF uK (hX 2) pE
abbrev Zm:=iA (Gx 3 (fC<|.bl J)<|iu YW) iN
abbrev Zv:=iA (Dm (fT<|iF yq (hX 7)<|hX 3) (iA (Gx 3 (fC<|.bl J)<|hX 7)<|iA (lS<|mK 6<|jX 7) iN) iN) iN
def zO:FS:=iA (Dm (fT<|iF EV (hX 1) xP) (iA (kH<|yx [fC<|.int 0,yx []]) iN) iN)<|iA (kE 2<|iF Ct (iu<|nG [fC<|.int 3,fC<|.int 5,fC<|.int 12])<|iu<|iB jz [hX 0,iu<|fC<|.int 3])<|iA (kE 3 VI)<|iA (qi (B6<|iu<|iB jz [hX 0,Y1]) (ik 4) Zm)<|iA (kE 5<|iB nu [hX 0,hX 1])<|iA (kE 6<|iF G9 (iu<|iO (g1 Fu) [hX 3])<|iu<|iF Ct (iu<|nG [fC<|.int 1,fC<|.int 0]) We)<|iA (mR (fT<|iF JE (hX 6)<|iu<|nG []) (iA (kE 7<|iB kQ [iu<|JF 6,hX 5]) Zv) U1)<|iA (kH<|yx [jX 1,iO (g1 lJ) [iu<|DW (iu<|iO (g1 yp) [hX 3])<|iu<|fC<|.int 30]]) iN
def nU:Ap:=Q1 8 2 [2,3,4,5,6,7] zO
abbrev zC2:=iu<|jn [1,0] 1 (B6<|hX 0) (ik 2) jk<|jm<|iF VA (iu<|iF aaA (hX 0)<|iu<|iF JA Y2<|hX 2) pE
def ad2:FS:=iA (kH<|jn [0] 1 (B6<|iu<|iF X4 pE<|hX 0) (ik 1) jk<|jm<|iO (g1 lJ) [zC2]) iN
def uQ:Ap:=Q1 1 1 [] ad2
def ado:FS:=iA (kH<|zQ (iB kc [Bk,hX 1])<|iF EV (iu<|iB FA [hX 0,hX 1])<|hX 0) iN
def nC:Ap:=Q1 2 2 [] ado
def adQ:FS:=iA (kH<|jn [] 1 (BZ (iu<|sy B9<|hX 0) Wa) (ik 0) (fT<|iF JE (hX 0) xP)<|jm<|jX 0) iN
def pe:Ap:=Q1 1 1 [] adQ
abbrev VZ:=iF mP (hX 2)<|hX 1
abbrev YV:=iF uK (hX 1)<|iu<|yx [jX 2]
abbrev abf:=iF mP (iu<|sy B9<|hX 2)<|hX 1
abbrev Wd:=fT abf
def zM:FS:=iA (kH<|jn [0] 2 xN (ik 1) jk<|FR (jB<|iB pe [hX 0]) (ik 2) (Ah (fT VZ) Wd)<|jm YV) iN
def nR:Ap:=Q1 2 2 [] zM
abbrev V8:=iu V4
abbrev Y4:=iu<|iB mG [hX 2,hX 1]
abbrev Wc:=jB<|iB nR [hX 2,hX 4]
abbrev Zt:=iF EV (iu<|iO (g1 De) [iu<|iF Ct (hX 1) V8])<|hX 0
abbrev zC8:=fT<|iO (g1 zL) [iu<|jn [0,2] 1 xN (ik 2) jk<|jm<|iF MZ Y4<|hX 0]
abbrev zC7:=kE 6<|jn [5] 1 NU (ik 1) (fT Zt) LP
def zN:FS:=iA Wb<|iA (kE 4<|nG [yx []])<|iA (qi (BZ pE Y1) (ik 5)<|iA zC7<|iA (kE 4<|jn [1,6] 1 Wc (ik 2) zC8<|jm<|jX 2) iN)<|iA (qr 4) iN
def nS:Ap:=Q1 7 2 [2,3,4,5,6] zN
abbrev YZ:=iu<|iF Ct (hX 1) pE
def adp:FS:=iA (kH<|MC (fT<|iF EV (iu<|iO (g1 uI) [iu<|iF Ct (hX 0) pE])<|iu<|iO (g1 uI) [YZ]) (iB nS [hX 0,YZ])<|nG []) iN
def uS:Ap:=Q1 2 2 [] adp
def adt:FS:=iA (kH<|iB uS [hX 0,hX 0]) iN
def lH:Ap:=Q1 1 1 [] adt
abbrev V3:=iF vB (hX 4)<|hX 3
def AK(a:Ap):FS:=iA (kE 2<|nG [])<|iA (kE 3 Ln)<|iA (qi (jB<|jX 0) (ik 4)<|iA (Dm (fT V3) (iA (OE 5 [4,7] a)<|iA (lS<|mK 2<|jX 5)<|iA (qi (jB<|jX 5) (ik 6)<|iA (lS<|yy 3<|jX 6) iN) iN) iN) iN)<|iA (qr 2) iN
abbrev Sm:=iB oi [hX 0,hX 1]
def xw:FS:=iA (kH<|iO (g1 nr) [iu<|Rh [0] 1 xN (ik 1) jk<|xD Sm]) iN
def jA:Ap:=Q1 2 2 [] xw
def uL:FS:=iA (kH<|iO (g1 lJ) [iu<|iB jA [hX 0,hX 1]]) iN
def jZ:Ap:=Q1 2 2 [] uL
abbrev NW:=iB lH [hX 0]
def uN:FS:=iA (kE 2 NW)<|WB 2<|Gw 3 1 [2] 5<|AK jZ
def pZ:Ap:=Q1 4 2 [2,3] uN
abbrev Y8:=fT<|iB lC [hX 0,hX 1,hX 2]
def oK:FS:=iA (Dm (rA Y8) NV iN) iN
def mM:Ap:=Q1 3 3 [] oK
abbrev Sg:=iB yz [hX 0]
abbrev V7:=iB rE [hX 5,hX 6]
abbrev zC5:=iA (kE 7 V7)<|iA (Dm (fT<|iF vA (hX 7)<|hX 2) (iA (lS<|yy 2<|jX 7)<|iA (lS<|mK 4<|jX 7) iN) iN) iN
def aei:FS:=iA (kE 2 Ln)<|iA (lS<|yy 2 Sg)<|iA (kE 3<|nG [Sg])<|iA (mR (Rg<|hX 3) (iA (kE 4<|nG [])<|iA (qi NU (ik 5)<|iA (qi xN (ik 6) zC5) iN)<|iA (kE 3<|jX 4) iN) U1)<|iA (kH<|iO (g1 rn) [hX 2]) iN
def pY:Ap:=Q1 8 2 [2,3,4,5,6,7] aei
abbrev IL:=iu<|fC<|.int 4
abbrev Zc:=iA (lS<|iB kN [hX 0,hX 2]) iN
abbrev Zi:=iB mM [hX 0,xP,IL]
def aeh:FS:=iA (lS Zi)<|iA (qi xN (ik 2) Zc)<|iA (kH<|iB pY [hX 0,hX 1]) iN
def nQ:Ap:=Q1 3 2 [2] aeh
abbrev YY:=iF (uJ .Gt) (hX 0) IL
def mQ:FS:=iA (Dm (fT YY) NV iN) iN
def lD:Ap:=Q1 1 1 [] mQ
abbrev Y3:=kE 3<|Ck pY [hX 1,hX 2]
abbrev zC9:=iA (Dm (fT<|iF mP (hX 4)<|hX 3) (iA (lS<|mK 2<|jX 4)<|iA Y3 iN) iN) iN
def ac0:FS:=iA (kE 1<|iF Ct (hX 0) xP)<|iA (lS<|iB lD [hX 1])<|iA (kE 2<|nG [])<|iA Y3<|iA (qi (jB NW) (ik 4) zC9) Y5
def oP:Ap:=Q1 5 1 [1,2,3,4] ac0
def Hc:FS:=iA (kH<|iB pZ [hX 0,iu<|iB sD [hX 0]]) iN
def Cp:Ap:=Q1 1 1 [] Hc
def oM:FS:=iA (Dm (rA<|fT<|iB mf [hX 0,hX 1]) NV iN) iN
def mN:Ap:=Q1 2 2 [] oM
abbrev Zg:=iF EV (iu Sm)<|hX 0
abbrev abg:=iB mN [Bk,hX 1]
abbrev Wg:=lS abg
def Q7:FS:=iA Wg<|iA (kH<|jn [1] 1 (jB NW) (ik 1) (fT Zg) LP) iN
def Co:Ap:=Q1 2 2 [] Q7
def ae7:FS:=iA Wg<|iA (kH<|iB jA [hX 1,iu NW]) iN
def pj:Ap:=Q1 2 2 [] ae7
abbrev YT:=iu<|iB qa [hX 0,hX 2]
abbrev YU:=iu<|iB pj [hX 0,hX 1]
abbrev YX:=kE 3<|iB pj [hX 0,hX 2]
abbrev Zd:=iu<|iF Ct (hX 3) V8
abbrev Zf:=iB uQ [Bk]
abbrev zC1:=Dm (Di (fT<|iF JE (iu<|iF oJ (iu<|iO (g1 uI) [hX 3])<|iu<|iO (g1 uI) [iu<|iB Co [hX 0,hX 2]])<|hX 1)<|fT<|iF mP (hX 2)<|hX 3) Bj iN
def qA:FS:=iA (qi (jB Zf) (ik 2)<|iA YX<|iA zC1<|iA (Dm (Di (fT<|iF JE (iu<|iB pj [hX 0,Zd])<|hX 3)<|fT<|iF JE (iu<|iB qa [hX 0,Zd]) YT) Bj iN) iN)<|iA (kE 4<|iB sD [hX 0])<|iA (kH<|iF EV (iu<|iO (g1 nr) [iu<|iO (g1 Ur) [iu<|jn [0] 1 (jB<|jX 4) (ik 1) jk<|jm<|iO (g1 lJ) [YU]]])<|iu<|iB Cp [hX 0]) iN
def nA:Ap:=Q1 5 2 [2,3,4] qA
abbrev Sf:=B6<|iu<|fC<|.int 2
abbrev YS:=iu<|DW (hX 3) IL
abbrev Zh:=iu<|iB jz [hX 1,Sk]
abbrev Zj:=iu<|iB nQ [hX 1,YS]
abbrev Zl:=iu<|jn [3] 1 (jB<|jX 2) (ik 1) jk<|jm<|iF MZ (hX 1)<|hX 0
abbrev Zr:=iu<|iB nQ [hX 1,iu<|iO (g1 lJ) [YS]]
abbrev zC3:=iA (Dm (Di (fT<|iF mP (iu V7)<|hX 3)<|fT<|iF mP (iu<|iB pd [hX 5])<|hX 3) Bj iN) iN
def yt:FS:=iA (kE 3<|iB nQ [hX 1,hX 2])<|iA (qi (B6 IL) (ik 4)<|iA (Jd (Gh [ik 5,ik 6])<|jn [3,0] 1 Sf (ik 2) jk<|jm<|iF Ct (hX 0) Zh) zC3)<|iA (kH<|zQ (iO (g1 zL) [Zl])<|iF EV Zj Zr) iN
def ny:Ap:=Q1 7 3 [3,4,5,6] yt
abbrev Y9:=iu<|iB jz [hX 2,IL]
abbrev Zq:=iu<|iB rE [iu<|iB rE [iu<|iB pd [hX 1],hX 2],hX 1]
abbrev Zs:=iu<|nG [iB jz [hX 2,iu<|fC<|.int 5],fC<|.int 3,fC<|.int 3,fC<|.int 2]
abbrev zC0:=iA (kE 2<|iB nv [hX 0,hX 1])<|iA (kE 3<|iF Ct Zs Y9)<|iA (kE 4<|iB nU [hX 2,hX 3])<|iA (kE 5<|iB lH [hX 4])<|iA (kE 6<|iB oP [hX 4])<|iA (Dm (rA<|fT<|iO (g1 zL) [iu<|jn [4] 1 (jB<|jX 6) (ik 1) jk<|jm<|iB nC [hX 0,hX 1]]) Bj iN)<|iA (Dm (Ah (fT<|iF (uJ .Lt) (iu<|iO (g1 uI) [hX 6])<|iu<|fC<|.int 5)<|fT<|iF JE (iu<|iB nQ [hX 3,hX 6])<|hX 5) Bj iN)<|iA (kE 7<|iB nu [hX 2,hX 3])<|iA (Dm (Di (rA<|fT<|iB nA [hX 4,iu<|iO (g1 uI) [hX 5]])<|rA<|fT<|iB ny [hX 2,hX 3,iu<|nG [jX 7,iB pd [hX 7]]]) Bj iN)<|iA (kE 8<|iB lH [iu<|iB FA [hX 4,hX 7]])<|iA (Dm (fT<|iF JE (iu<|iO (g1 uI) [hX 8])<|iu (iO (g1 uI) [hX 5])) Bj iN)<|iA (Dm (fT<|iO (g1 Ha) [iu (jn [8,7] 1 (jB (jX 6)) (ik 2) jk (jm (iF mP Zq (hX 0))))]) Bj iN) iN
def Cc:FS:=iA (qi (B6<|iu<|iO (g2 QZ) [pE,iu<|iO (g2 QY) [Sk,IL]]) (ik 1) zC0)<|iA (kH<|fC<|.bl J) iN
def wo:Ap:=Q1 9 1 [1,2,3,4,5,6,7,8] Cc
end PV
namespace K45
open L2 PX PV
noncomputable def top(i:Nat):Stmt:=PySem.Challenge.pw_twinriddles_k45_whole_spans_and_stays.main.body.getD i<|.Pass ⟨0,0,0,0⟩
abbrev TB45:List (hJ×ay):=[(259,"kinds_among.<locals>.reach")]
section
variable {Z:ZZ}{k:Nat}
abbrev xb:Stmt:=top 8
abbrev xq(Z:ZZ)(k:Nat):Prop:=Oz Z k "is_whole" ["thing"] ox
def adU(a:Fz Z.K Z.mg "is_whole" xb)(T:Tx Z.mg):xq Z (k+1):=by have S:X0 ["thing"] ["thing"] (hU xb):=BP;refine C6 a S λf c A b s U E L e g h j d i l=>?_;exact(s1 (sR<|F7 (xI T H xV)<|Mf<|abj<|xI T H xV) s0)
abbrev uv:Stmt:=top 9
abbrev qw(Z:ZZ)(k:Nat):Prop:=Oz Z k "is_number" ["thing","least","most"] lC
def adL(a:Fz Z.K Z.mg "is_number" uv)(T:Tx Z.mg)(d:xq Z k):qw Z (k+1):=by have S:X0 ["thing","least","most"] ["thing","least","most"] (hU uv):=BP;refine C6 a S λf e A b s U E L h c i l g j m=>?_;exact(s1 (sR<|F7 (xU d c<|xA xV VP)<|Mf<|xCh xV xV xV) s0)
abbrev pN:Stmt:=top 10
abbrev uF(Z:ZZ)(k:Nat):Prop:=Oz Z k "check_number" ["thing","least","most"] mM
def acW(a:Fz Z.K Z.mg "check_number" pN)(T:Tx Z.mg)(d:qw Z k):uF Z (k+1):=by have S:X0 ["thing","least","most"] ["thing","least","most"] (hU pN):=BP;refine C6 a S λf e A b s U E L h c i l g j m=>?_;exact(s1 (sI (IT<|zo<|xU d c<|xA xV<|xA xV<|xA xV VP) (s1 sX s0) s0) s0)
abbrev Bw:Stmt:=top 11
abbrev GL(Z:ZZ)(k:Nat):Prop:=Oz Z k "is_bit" ["thing"] rC
def afA(a:Fz Z.K Z.mg "is_bit" Bw)(T:Tx Z.mg)(d:qw Z k):GL Z (k+1):=by have S:X0 ["thing"] ["thing"] (hU Bw):=BP;refine C6 a S λf e A b s U E L h c i l g j m=>?_;exact(s1 (sR<|xU d c<|xA xV<|xA (xO x3)<|xA (xO x3) VP) s0)
abbrev zu:Stmt:=top 12
abbrev DI(Z:ZZ)(k:Nat):Prop:=Oz Z k "is_name" ["names","thing"] sA
def aeJ(a:Fz Z.K Z.mg "is_name" zu)(T:Tx Z.mg)(d:qw Z k):DI Z (k+1):=by have S:X0 ["names","thing"] ["names","thing"] (hU zu):=BP;refine C6 a S λf e A b s U E L h c i l g j m=>?_;exact(s1 (sR<|xU d c<|xA xV<|xA (xO x3)<|xA xV VP) s0)
abbrev zt:Stmt:=top 13
abbrev DH(Z:ZZ)(k:Nat):Prop:=Oz Z k "is_sign" ["names","thing"] nV
def aeI(a:Fz Z.K Z.mg "is_sign" zt)(T:Tx Z.mg)(e:xq Z k)(b:DI Z k):DH Z (k+1):=by have S:X0 ["names","thing"] ["names","thing"] (hU zt):=BP;refine C6 a S λf g A c s U E L i d j m h l n=>?_;exact(s1 (sR<|F7 (xU e d<|xA xV VP)<|Mf<|xU b d<|xA xV<|xA (xO<|xB T H ⟨nX⟩<|xA xV VP) VP) s0)
abbrev mZ:Stmt:=top 14
abbrev qx(Z:ZZ)(k:Nat):Prop:=Oz Z k "check_few_names" ["names"] lD
def xk(a:Fz Z.K Z.mg "check_few_names" mZ)(T:Tx Z.mg)(c: ∃t,Z.mg "FEW_NAMES"=Y (.int 4 t)):qx Z (k+1):=by have S:X0 ["names"] ["names"] (hU mZ):=BP;refine C6 a S λf e A b s U E L h i d l g j m=>?_;exact(s1 (sI (Au ⟨qu (.inr<|.inr<|.inl H) d⟩ xV<|xO<|x5 c) (s1 sX s0) s0) s0)
abbrev uw:Stmt:=top 15
abbrev uD(Z:ZZ)(k:Nat):Prop:=Oz Z k "is_answer" ["names","thing"] mf
def adM(a:Fz Z.K Z.mg "is_answer" uw)(T:Tx Z.mg)(b:GL Z k):uD Z (k+1):=by have S:X0 ["names","thing"] ["names","thing"] (hU uw):=BP;refine C6 a S λf h A c s U E L j e g m i l d=>?_;exact(s1 (sR<|F7 (xI T H xV)<|F7 (C1 ⟨oH g⟩ (xO<|xB T H ⟨kr⟩<|xA xV VP) xV)<|Mf<|xB T H ⟨pk H⟩<|xA (xO<|by exact xC (N':=["bit"]) (Fv S) (by decide+kernel) (iS xW) λ_ _ _ _ _ _ d=>⟨gN d,f0,λ_=>bE<|xU b e<|xA xV VP⟩) VP) s0)
abbrev E5:Stmt:=top 16
abbrev Fh(Z:ZZ)(k:Nat):Prop:=Oz Z k "is_so" ["answer","sign"] uR
def agc(a:Fz Z.K Z.mg "is_so" E5)(T:Tx Z.mg):Fh Z (k+1):=by have S:X0 ["answer","sign"] ["answer","sign"] (hU E5):=BP;refine C6 a S λf d A b s U E L g h c j e i l=>?_;exact(s1 (sR<|C1 ⟨oH c⟩ (xO<|ET xV<|xO<|kR ⟨qt⟩ (xO<|xB T H ⟨nX⟩<|xA xV VP)<|xO x3)<|xO<|N7 (Au ⟨qu (.inr<|.inr<|.inl H) c⟩ xV<|xO x3) x3 x3) s0)
abbrev pL:Stmt:=top 17
abbrev uC(Z:ZZ)(k:Nat):Prop:=Oz Z k "keeps_clause" ["answer","clause"] oN
def acU(a:Fz Z.K Z.mg "keeps_clause" pL)(T:Tx Z.mg)(e:Fh Z k):uC Z (k+1):=by have S:X0 ["answer","clause"] ["answer","clause"] (hU pL):=BP;refine C6 a S λf g A b s U E L i d j m h l c=>?_;exact(s1 (sR<|xB T H ⟨D3 H⟩<|xA (xO<|by exact xC (N':=["answer","sign"]) (Fv S) (by decide+kernel) (iS xW) λ_ _ _ _ _ _ c=>⟨gN c,f0,λ_=>bE<|xU e d<|xA xV<|xA xV VP⟩) VP) s0)
abbrev EZ:Stmt:=top 18
abbrev Fg(Z:ZZ)(k:Nat):Prop:=Oz Z k "keeps" ["riddle","thing"] qa
def ago(a:Fz Z.K Z.mg "keeps" EZ)(T:Tx Z.mg)(g:uD Z k)(b:uC Z k):Fg Z (k+1):=by have S:X0 ["riddle","thing","names","clauses"] ["riddle","thing"] (hU EZ):=BP;refine C6 a S λf h A d s U E L j e l n i m c=>?_;exact(s1 (sT xW<|gT (gN c)<|gN c)<|s1 (sR<|F7 (xU g e<|xA xV<|xA xV VP)<|Mf<|xB T H ⟨pk H⟩<|xA (xO<|by exact xC (N':=["thing","clause"]) (Fv S) (by decide+kernel) (iS xW) λ_ _ _ _ _ _ c=>⟨gN c,f0,λ_=>bE<|xU b e<|xA xV<|xA xV VP⟩) VP) s0)
abbrev qH:Stmt:=top 19
abbrev wk(Z:ZZ)(k:Nat):Prop:=Oz Z k "all_answers" ["names"] qb
def ac8(a:Fz Z.K Z.mg "all_answers" qH)(T:Tx Z.mg):wk Z (k+1):=by have S:X0 ["names","begun","place"] ["names"] (hU qH):=BP;refine C6 a S λf e A c s U E L d i j m g l b=>?_;exact(s1 (sS b<|qB<|xL (C0 FE) FE)<|s1 (sF (MX T<|xA xV VP) (gN b)<|s1 (sC (N':=["begin","bit"]) b (Fv S) (by decide+kernel) (iS xW) λ_ _ _ _ _ _ b=>⟨gN b,f0,λ_=>bF H (iS<|C0<|xL x3<|xL x3 FE) (gN b) f0<|bE<|kR ⟨ma⟩ xV<|xO<|C0<|xL xW FE⟩) s0)<|s1 (P5 λh=>absurd (d _ h)<|by decide) s0)
abbrev zv:Stmt:=top 20
abbrev zG(Z:ZZ)(k:Nat):Prop:=Oz Z k "answers" ["riddle"] sD
def aeK(a:Fz Z.K Z.mg "answers" zv)(T:Tx Z.mg)(b:wk Z k)(g:Fg Z k):zG Z (k+1):=by have S:X0 ["riddle"] ["riddle"] (hU zv):=BP;refine C6 a S λf h A c s U E L j d l n i m e=>?_;exact(s1 (sR<|by exact xC (N':=["riddle","answer"]) (Fv S) (by decide+kernel) (iS<|xU b d<|xA (xO<|ET xV<|xO x3) VP) λ_ _ _ _ _ _ e=>⟨gN e,f1<|zo<|xU g d<|xA xV<|xA xV VP,λ_=>bE xW⟩) s0)
abbrev rW:Stmt:=top 22
abbrev se(Z:ZZ)(k:Nat):Prop:=Oz Z k "is_turning" ["names","thing"] kc
def adh(a:Fz Z.K Z.mg "is_turning" rW)(T:Tx Z.mg)(b:DH Z k):se Z (k+1):=by have S:X0 ["names","thing"] ["names","thing"] (hU rW):=BP;refine C6 a S λf h A d s U E L j g e m i l c=>?_;exact(s1 (sI (tW<|N8 (IT<|zo<|xI T H xV)<|N6<|Au ⟨uz e⟩ (xO<|xB T H ⟨kr⟩<|xA xV VP) xV) (s1 (sR x2) s0) s0)<|s1 (sI (IT<|zo<|xB T H ⟨pk H⟩<|xA (xO<|by exact xC (N':=["names","sign"]) (Fv S) (by decide+kernel) (iS xW) λ_ _ _ _ _ _ c=>⟨gN c,f0,λ_=>bE<|xU b g<|xA xV<|xA xV VP⟩) VP) (s1 (sR x2) s0) s0)<|s1 (sR<|C1 ⟨oH e⟩ (xO<|by exact xLS (N':=["sign"]) T (Fv S) (by decide+kernel) (iS xW) λ_ _ _ _ _ _ c=>⟨gN c,f0,xB T H ⟨nX⟩<|xA xV VP⟩) xV) s0)
abbrev oG:Stmt:=top 23
abbrev mI(Z:ZZ)(k:Nat):Prop:=Oz Z k "check_turning" ["names","thing"] kN
def zD(a:Fz Z.K Z.mg "check_turning" oG)(T:Tx Z.mg)(d:se Z k):mI Z (k+1):=by have S:X0 ["names","thing"] ["names","thing"] (hU oG):=BP;refine C6 a S λf e A b s U E L h c i l g j m=>?_;exact(s1 (sI (IT<|zo<|xU d c<|xA xV<|xA xV VP) (s1 sX s0) s0) s0)
abbrev wY:Stmt:=top 24
abbrev xo(Z:ZZ)(k:Nat):Prop:=Oz Z k "led_sign" ["turning","sign"] ou
def adR(a:Fz Z.K Z.mg "led_sign" wY)(T:Tx Z.mg):xo Z (k+1):=by have S:X0 ["turning","sign"] ["turning","sign"] (hU wY):=BP;refine C6 a S λf d A b s U E L g h c j e i l=>?_;exact(s1 (sR<|N7 (Au ⟨qu (.inr<|.inr<|.inl H) c⟩ xV<|xO x3) (ET xV<|xO<|kR ⟨qt⟩ xV<|xO x3)<|An<|xO<|ET xV<|xO<|kR ⟨qt⟩ (xO<|An xV)<|xO x3) s0)
abbrev rR:Stmt:=top 25
abbrev rZ(Z:ZZ)(k:Nat):Prop:=Oz Z k "led_clause" ["clause","turning"] mG
def ade(a:Fz Z.K Z.mg "led_clause" rR)(T:Tx Z.mg)(e:xo Z k):rZ Z (k+1):=by have S:X0 ["clause","turning"] ["clause","turning"] (hU rR):=BP;refine C6 a S λf g A b s U E L i d j m h l c=>?_;exact(s1 (sR<|xT T H ⟨jL⟩<|xA (xO<|xSA T<|xA (xO<|by exact xC (N':=["turning","sign"]) (Fv S) (by decide+kernel) (iS xW) λ_ _ _ _ _ _ c=>⟨gN c,f0,λ_=>bE<|xU e d<|xA xV<|xA xV VP⟩) VP) VP) s0)
abbrev OC:Stmt:=top 26
abbrev P7(Z:ZZ)(k:Nat):Prop:=Oz Z k "led" ["riddle","turning"] FA
def Xy(a:Fz Z.K Z.mg "led" OC)(T:Tx Z.mg)(e:mI Z k)(h:rZ Z k):P7 Z (k+1):=by have S:X0 ["riddle","turning","names","clauses"] ["riddle","turning"] (hU OC):=BP;refine C6 a S λf i A c s U E L j d l n g m b=>?_;exact(s1 (sT xW<|gT (gN b)<|gN b)<|s1 (sE<|xU e d<|xA xV<|xA xV VP)<|s1 (sR<|C0<|xL xW<|xL (xT T H ⟨jL⟩<|xA (xO<|xB T H ⟨sL g⟩<|xA (xO<|by exact xC (N':=["turning","clause"]) (Fv S) (by decide+kernel) (iS xW) λ_ _ _ _ _ _ b=>⟨gN b,f0,λ_=>bE<|xU h d<|xA xV<|xA xV VP⟩) VP) VP) FE) s0)
abbrev Bx:Stmt:=top 28
abbrev yf(Z:ZZ)(k:Nat):Prop:=Oz Z k "behind" ["one","other"] rE
def afB(a:Fz Z.K Z.mg "behind" Bx)(T:Tx Z.mg)(e:xo Z k):yf Z (k+1):=by have S:X0 ["one","other"] ["one","other"] (hU Bx):=BP;refine C6 a S λf g A b s U E L i d j m h l c=>?_;exact(s1 (sR<|xT T H ⟨jL⟩<|xA (xO<|by exact xC (N':=["other","sign"]) (Fv S) (by decide+kernel) (iS xW) λ_ _ _ _ _ _ c=>⟨gN c,f0,λ_=>bE<|xU e d<|xA xV<|xA xV VP⟩) VP) s0)
abbrev Jc:Stmt:=top 29
abbrev Fi(Z:ZZ)(k:Nat):Prop:=Oz Z k "back" ["turning"] pd
def T4(a:Fz Z.K Z.mg "back" Jc)(T:Tx Z.mg):Fi Z (k+1):=by have S:X0 ["turning","whence","name","sign"] ["turning"] (hU Jc):=BP;refine C6 a S λf e A c s U E L h i d l g j b=>?_;exact(s1 (sS b<|xT T H ⟨CF⟩<|xA xV VP)<|s1 (sF (iE1 T xW) (gT (gN b)<|gN b)<|s1 (As xV (N7 (Au ⟨qu (.inr<|.inr<|.inl H) d⟩ xV<|xO x3) xW<|An xV)<|xO<|kR ⟨qt⟩ (xO<|xB T H ⟨nX⟩<|xA xV VP)<|xO x3) s0)<|s1 (sR<|xT T H ⟨jL⟩<|xA xV VP) s0)
abbrev rT:Stmt:=top 27
abbrev sd(Z:ZZ)(k:Nat):Prop:=Oz Z k "led_answer" ["answer","turning"] oi
def adf(a:Fz Z.K Z.mg "led_answer" rT)(T:Tx Z.mg)(e:mI Z k)(g:Fi Z k)(h:Fh Z k):sd Z (k+1):=by have S:X0 ["answer","turning"] ["answer","turning"] (hU rT):=BP;refine C6 a S λf i A c s U E L l b m o j n d=>?_;exact(s1 (sE<|xU e b<|xA (xO<|xB T H ⟨kr⟩<|xA xV VP)<|xA xV VP)<|s1 (sR<|xT T H ⟨jL⟩<|xA (xO<|by exact xC (N':=["answer","sign"]) (Fv S) (by decide+kernel) (iS<|xU g b<|xA xV VP) λ_ _ _ _ _ _ d=>⟨gN d,f0,λ_=>bE<|N7 (zo<|xU h b<|xA xV<|xA xV VP) x3 x3⟩) VP) s0)
abbrev EX:Stmt:=top 30
abbrev KO(Z:ZZ)(k:Nat):Prop:=Oz Z k "still" ["names"] yz
def agl(a:Fz Z.K Z.mg "still" EX)(T:Tx Z.mg):KO Z (k+1):=by have S:X0 ["names"] ["names"] (hU EX):=BP;refine C6 a S λf c A b s U E L e g h j d i l=>?_;exact(s1 (sR<|Zw T H<|xA (xO x3)<|xA (xO<|kR ⟨ma⟩ xV<|xO x3) VP) s0)
abbrev qF:Stmt:=top 32
abbrev wg(Z:ZZ)(k:Nat):Prop:=Oz Z k "is_likeness" ["riddle","thing"] nC
def ac6(a:Fz Z.K Z.mg "is_likeness" qF)(T:Tx Z.mg)(g:se Z k)(d:P7 Z k):wg Z (k+1):=by have S:X0 ["riddle","thing"] ["riddle","thing"] (hU qF):=BP;refine C6 a S λf h A b s U E L j c e m i l n=>?_;exact(s1 (sR<|F7 (xU g c<|xA (xO<|ET xV<|xO x3)<|xA xV VP)<|Mf<|C1 ⟨oH e⟩ (xO<|xU d c<|xA xV<|xA xV VP) xV) s0)
abbrev ux:Stmt:=top 33
abbrev Ad(Z:ZZ)(k:Nat):Prop:=Oz Z k "all_signs" ["names"] pe
def adN(a:Fz Z.K Z.mg "all_signs" ux)(T:Tx Z.mg):Ad Z (k+1):=by have S:X0 ["names"] ["names"] (hU ux):=BP;refine C6 a S λf e A b s U E L h i d l g j c=>?_;exact(s1 (sR<|by exact xC (N':=["sign"]) (Fv S) (by decide+kernel) (iR2 T<|xA (xO<|An xV)<|xA (xO<|kR ⟨ma⟩ xV<|xO x3) VP) λ_ _ _ _ _ _ c=>⟨gN c,f1<|Au ⟨uz d⟩ xV<|xO x3,λ_=>bE xW⟩) s0)
abbrev oD:Stmt:=top 34
abbrev sY(Z:ZZ)(k:Nat):Prop:=Oz Z k "longer_by_one" ["names","begun"] nR
def zA(a:Fz Z.K Z.mg "longer_by_one" oD)(T:Tx Z.mg)(b:Ad Z k):sY Z (k+1):=by have S:X0 ["names","begun"] ["names","begun"] (hU oD):=BP;refine C6 a S λf h A d s U E L j g e m i l c=>?_;exact(s1 (sR<|by exact xC (N':=["names","begin","sign"]) (Fv S) (by decide+kernel) (iS xW) λ_ _ _ _ _ _ c=>⟨gN c,f0,λ_=>bF H (iS<|xU b g<|xA xV VP) (gN c) (f1<|tW<|ZC (Au ⟨nM e⟩ xV xV)<|U6<|Au ⟨nM e⟩ (xO<|An xV) xV)<|bE<|kR ⟨ma⟩ xV<|xO<|C0<|xL xW FE⟩) s0)
abbrev oE:Stmt:=top 35
abbrev sZ(Z:ZZ)(k:Nat):Prop:=Oz Z k "leading_among" ["riddle","others"] nS
def zB(a:Fz Z.K Z.mg "leading_among" oE)(T:Tx Z.mg)(b:sY Z k)(j:rZ Z k):sZ Z (k+1):=by have S:X0 ["riddle","others","names","clauses","begun","name","ready"] ["riddle","others"] (hU oE):=BP;refine C6 a S λf l A d s U E L i e g o m n c=>?_;exact(s1 (sT xW<|gT (gN c)<|gN c)<|s1 (sS c<|qB<|xL (C0 FE) FE)<|s1 (sF (iR2 T<|xA (xO x3)<|xA (xO<|kR ⟨ma⟩ xV<|xO x3) VP) (gN c)<|s1 (sS c<|by exact xC (N':=["name","clause"]) (Fv S) (by decide+kernel) (iS xW) λ_ _ _ _ _ _ c=>⟨gN c,f1<|Au ⟨oH g⟩ (xO<|xB T H ⟨nX⟩<|xA (xO<|ET xV<|xO<|An<|xO x3) VP) xV,λ_=>bE xW⟩)<|s1 (sC (N':=["others","ready","begin"]) c (Fv S) (by decide+kernel) (iS<|xU b e<|xA xV<|xA xV VP) λ_ _ _ _ _ _ c=>⟨gN c,f1<|zo<|xB T H ⟨pk H⟩<|xA (xO<|by exact xC (N':=["others","begin","clause"]) (JS H H<|by with_unfolding_all rfl) (by decide+kernel) (iS xW) λ_ _ _ _ _ _ c=>⟨gN c,f0,λ_=>bE<|C1 ⟨PQ g⟩ (xO<|xU j e<|xA xV<|xA xV VP) xV⟩) VP,λ_=>bE xW⟩) s0)<|s1 (P5 λh=>absurd (i _ h)<|by decide) s0)
abbrev qG:Stmt:=top 36
abbrev wj(Z:ZZ)(k:Nat):Prop:=Oz Z k "all_leading" ["one","other"] uS
def ac7(a:Fz Z.K Z.mg "all_leading" qG)(T:Tx Z.mg)(b:sZ Z k):wj Z (k+1):=by have S:X0 ["one","other"] ["one","other"] (hU qG):=BP;refine C6 a S λf g A c s U E L i d e l h j m=>?_;exact(s1 (sR<|N7 (Au ⟨oH e⟩ (xO<|xB T H ⟨kr⟩<|xA (xO<|ET xV<|xO x3) VP)<|xO<|xB T H ⟨kr⟩<|xA (xO<|ET xV<|xO x3) VP) (xU b d<|xA xV<|xA (xO<|ET xV<|xO x3) VP)<|qB FE) s0)
abbrev rQ:Stmt:=top 37
abbrev md(Z:ZZ)(k:Nat):Prop:=Oz Z k "likenesses" ["riddle"] lH
def adb(a:Fz Z.K Z.mg "likenesses" rQ)(T:Tx Z.mg)(b:wj Z k):md Z (k+1):=by have S:X0 ["riddle"] ["riddle"] (hU rQ):=BP;refine C6 a S λf e A c s U E L h d i l g j m=>?_;exact(s1 (sR<|xU b d<|xA xV<|xA xV VP) s0)
abbrev Bu:Stmt:=top 38
def Kp:X0 ["things","reach","found","seen","thing","lot","other","0"] ["things","reach"] (hU Bu):=BP
def UM:M0 "lots" Bu ["things","reach"]:=λ_ _ _ _ _ _=>MH λ_=>MH λ_=>Mh H
abbrev Qt(Z:ZZ)(k:Nat):Prop:=LtZ Z k "lots" Bu ["things","reach","found","seen","thing","lot","other","0"] ["things","reach"] [2,3,4,5,6] 5 1 AK
def T3(a:Fz Z.K Z.mg "lots" Bu)(T:Tx Z.mg):Qt Z k:=by have S:=Kp;refine ltZ a S UM λf x A d s Q g w v O u L E q scope c e y hv r B U n t b m=>?_;obtain⟨l,rfl⟩:=YQ.mp hv;have o: ∀i,(⟨λ_=>False,Y<|pD v g 5 [l]⟩:LL).p i->i<2:=λ_ h=>h.elim;exact(s1 (sS b<|qB FE)<|s1 (sS b<|U3 T.n_set)<|s1 (sF (iS xW) (gN b)<|s1 (sI (Au ⟨aeE n⟩ xV xV) (s1 (sCl (j:=1) (z:=pD v g 5 [l]) m H r b)<|s1 (sE<|NY xV xW)<|s1 (sF (iS xW) (gN b)<|s1 (sE<|NX t xV xW) s0) s0) s0) s0)<|s1 (P5 λh=>absurd (o _ h)<|by decide) s0)
abbrev nh:Stmt:=top 39
abbrev nk(Z:ZZ)(k:Nat):Prop:=Oz Z k "answers_reached" ["answer","turnings"] jA
def xm(a:Fz Z.K Z.mg "answers_reached" nh)(T:Tx Z.mg)(h:sd Z k):nk Z (k+1):=by have S:X0 ["answer","turnings"] ["answer","turnings"] (hU nh):=BP;refine C6 a S λf i A b s U E L j e l m d g c=>?_;exact(s1 (sR<|xB T H ⟨yG H d⟩<|xA (xO<|by exact abh (N':=["answer","turning"]) g (Fv S) (by decide+kernel) (iS xW) λ_ _ _ _ _ _ c=>⟨gN c,f0,xU h e<|xA xV<|xA xV VP⟩) VP) s0)
abbrev oe:Stmt:=top 40
def adl:M0 "kinds_among" oe ["riddle","some"]:=λ_ _ _ _ _ _=>MH λ_=>MH λ_=>Mh H
abbrev wc(Z:ZZ)(k:Nat):Prop:=MQ Z TB45 k "kinds_among" ["riddle","some"] pZ
def ac5(a:TbK Z TB45 "kinds_among" oe "kinds_among.<locals>.reach" 259)(T:Tx Z.mg)(c:md Z k)(b:nk Z k)(e:Qt Z k):wc Z (k+3):=by have S:X0 ["riddle","some","turnings","reach"] ["riddle","some"] (hU oe):=BP;have l:=c.up (j:=k+2) (by omega);have d:=b.up (j:=k+2) (by omega);refine ozQ (asg:=[2,3]) (fs:=uN) a S adl λf n A h s U E L m g p r o q i tb=>?_;exact(s1 (sS i<|xU l g<|xA xV VP)<|aby<|sLo (N':=["turnings"]) (asgR:=[]) e Kp tb g i (Fv S) (by decide+kernel) (λ_ _ _ _ _ _ _ L m g=>s1 (sR<|xT T H ⟨jL⟩<|xA (xO<|xU b g<|xA xV<|xA xV VP) VP) s0) H<|acp<|by decide+kernel)
abbrev AF:Stmt:=top 41
def RM:M0 "kinds" AF ["riddle"]:=λ_ _ _ _ _ _=>MH λ_=>Mh H
abbrev Kh(Z:ZZ)(k:Nat):Prop:=MQ Z TB45 k "kinds" ["riddle"] Cp
def agn(a:Fz Z.K Z.mg "kinds" AF)(T:Tx Z.mg)(e:zG Z k)(b:wc Z k):Kh Z (k+1):=by have S:X0 ["riddle"] ["riddle"] (hU AF):=BP;refine ozU (asg:=[]) (fs:=Hc) a S RM λf g A c s U E L i d j m h l n tT=>?_;exact(s1 (sR<|xUT b tT d<|xA xV<|xA (xO<|xU e d<|xA xV VP) VP) s0)
abbrev zr:Stmt:=top 43
abbrev zF(Z:ZZ)(k:Nat):Prop:=Oz Z k "span_of" ["names","turnings"] pY
def aeH(a:Fz Z.K Z.mg "span_of" zr)(T:Tx Z.mg)(b:KO Z k)(i:yf Z k):zF Z (k+1):=by have S:X0 ["names","turnings","seen","fresh","reached","begun","turning","done"] ["names","turnings"] (hU zr):=BP;refine C6 a S λf j A e s U E L l d m n g h c=>?_;exact(s1 (sS c<|U3 T.n_set)<|s1 (sE<|NX h xV<|xU b d<|xA xV VP)<|s1 (sS c<|qB<|xL (xU b d<|xA xV VP) FE)<|s1 (sW (tTr xV)<|s1 (sS c<|qB FE)<|s1 (sF (iS xW) (gN c)<|s1 (sF (iS xW) (gN c)<|s1 (sS c<|xU i d<|xA xV<|xA xV VP)<|s1 (sI (Au ⟨BI g⟩ xV xV) (s1 (sE<|NX h xV xW)<|s1 (sE<|NY xV xW) s0) s0) s0) s0)<|s1 (sS c xW) s0)<|s1 (sR<|xB T H ⟨yE H g⟩<|xA xV VP) s0)
abbrev zq:Stmt:=top 44
abbrev zE(Z:ZZ)(k:Nat):Prop:=Oz Z k "spanned" ["names","some"] nQ
def aeG(a:Fz Z.K Z.mg "spanned" zq)(T:Tx Z.mg)(g: ∃t,Z.mg "FEW_NAMES"=Y (.int 4 t))(b:uF Z k)(e:mI Z k)(h:zF Z k):zE Z (k+1):=by have S:X0 ["names","some","turning"] ["names","some"] (hU zq):=BP;refine C6 a S λf j A d s U E L m c n p l o i=>?_;exact(s1 (sE<|xU b c<|xA xV<|xA (xO x3)<|xA (xO<|x5 g) VP)<|s1 (sF (iS xW) (gN i)<|s1 (sE<|xU e c<|xA xV<|xA xV VP) s0)<|s1 (sR<|xU h c<|xA xV<|xA xV VP) s0)
abbrev pM:Stmt:=top 45
abbrev uE(Z:ZZ)(k:Nat):Prop:=Oz Z k "few_spanning" ["riddle"] oP
def acV(a:Fz Z.K Z.mg "few_spanning" pM)(T:Tx Z.mg)(b:qx Z k)(g:zF Z k)(h:md Z k):uE Z (k+1):=by have S:X0 ["riddle","names","chosen","reached","turning"] ["riddle"] (hU pM):=BP;refine C6 a S λf j A e s U E L m d i o l n c=>?_;exact(s1 (sS c<|ET xV<|xO x3)<|s1 (sE<|xU b d<|xA xV VP)<|s1 (sS c<|qB FE)<|s1 (sS c<|xUB g d<|xA xV<|xA xV VP)<|s1 (sF (iS<|xU h d<|xA xV VP) (gN c)<|s1 (sI (Au ⟨nM i⟩ xV xV) (s1 (sE<|NY xV xW)<|s1 (sS c<|xUB g d<|xA xV<|xA xV VP) s0) s0) s0)<|s1 (sR<|xT T H ⟨jL⟩<|xA xV VP) s0)
abbrev pO:Stmt:=top 46
abbrev pT(Z:ZZ)(k:Nat):Prop:=Oz Z k "check_answer" ["names","thing"] mN
def acX(a:Fz Z.K Z.mg "check_answer" pO)(T:Tx Z.mg)(d:uD Z k):pT Z (k+1):=by have S:X0 ["names","thing"] ["names","thing"] (hU pO):=BP;refine C6 a S λf e A b s U E L h c i l g j m=>?_;exact(s1 (sI (IT<|zo<|xU d c<|xA xV<|xA xV VP) (s1 sX s0) s0) s0)
abbrev EY:Stmt:=top 47
abbrev KP(Z:ZZ)(k:Nat):Prop:=Oz Z k "stays" ["riddle","answer"] Co
def agm(a:Fz Z.K Z.mg "stays" EY)(T:Tx Z.mg)(h:pT Z k)(e:md Z k)(i:sd Z k):KP Z (k+1):=by have S:X0 ["riddle","answer"] ["riddle","answer"] (hU EY):=BP;refine C6 a S λf j A c s U E L m b g o l n d=>?_;exact(s1 (sE<|xU h b<|xA (xO<|ET xV<|xO x3)<|xA xV VP)<|s1 (sR<|by exact xC (N':=["answer","turning"]) (Fv S) (by decide+kernel) (iS<|xU e b<|xA xV VP) λ_ _ _ _ _ _ d=>⟨gN d,f1<|Au ⟨oH g⟩ (xO<|xU i b<|xA xV<|xA xV VP) xV,λ_=>bE xW⟩) s0)
abbrev Bv:Stmt:=top 48
abbrev GK(Z:ZZ)(k:Nat):Prop:=Oz Z k "lot_of" ["riddle","answer"] pj
def afz(a:Fz Z.K Z.mg "lot_of" Bv)(T:Tx Z.mg)(g:pT Z k)(e:md Z k)(b:nk Z k):GK Z (k+1):=by have S:X0 ["riddle","answer"] ["riddle","answer"] (hU Bv):=BP;refine C6 a S λf h A d s U E L j c l n i m o=>?_;exact(s1 (sE<|xU g c<|xA (xO<|ET xV<|xO x3)<|xA xV VP)<|s1 (sR<|xU b c<|xA xV<|xA (xO<|xU e c<|xA xV VP) VP) s0)
abbrev qE:Stmt:=top 50
abbrev we(Z:ZZ)(k:Nat):Prop:=Oz Z k "_law_cell_at" ["_law_script","_law_k"] lX
def ac4(a:Fz Z.K Z.mg "_law_cell_at" qE)(T:Tx Z.mg):we Z (k+1):=by have S:X0 ["_law_script","_law_k"] ["_law_script","_law_k"] (hU qE):=BP;refine C6 a S λf d A b s U E L g h c j e i l=>?_;exact(s1 (sI (Au ⟨qu (.inl H) c⟩ xV<|xO<|xB T H ⟨kr⟩<|xA xV VP) (s1 (sR<|ET xV xV) s0) s0)<|s1 (sR x3) s0)
abbrev ur:Stmt:=top 51
abbrev Ac(Z:ZZ)(k:Nat):Prop:=Oz Z k "_law_state" ["_law_script","_law_k"] nv
def adK(a:Fz Z.K Z.mg "_law_state" ur)(T:Tx Z.mg)(b:we Z k):Ac Z (k+1):=by have S:X0 ["_law_script","_law_k","_law_cell"] ["_law_script","_law_k"] (hU ur):=BP;refine C6 a S λf h A c s U E L j d e m i l g=>?_;exact(s1 (sS g<|xU b d<|xA xV<|xA xV VP)<|s1 (sI (Au ⟨qu (.inr<|.inr<|.inr H) e⟩ xV<|xO<|kR ⟨KD⟩ (xO x3)<|xO x3) (s1 (sR<|qB<|xL (kR ⟨qt⟩ xV<|xO<|kR ⟨KD⟩ (xO x3)<|xO x3)<|xL x2 FE) s0) s0)<|s1 (sR<|qB<|xL (kR ⟨vo⟩ xV<|xO x3)<|xL x2 FE) s0)
abbrev wZ:Stmt:=top 52
abbrev nN(Z:ZZ)(k:Nat):Prop:=Oz Z k "_law_take" ["_law_state_here","_law_many"] jz
def adS(a:Fz Z.K Z.mg "_law_take" wZ)(T:Tx Z.mg):nN Z (k+1):=by have S:X0 ["_law_state_here","_law_many","_law_found","_law_mixed"] ["_law_state_here","_law_many"] (hU wZ):=BP;refine C6 a S λf e A c s U E L d i j m g l b=>?_;exact(s1 (sI (zo<|ET xV<|xO x3) (s1 (sS b<|kR ⟨vo⟩ (xO<|ET xV<|xO x3) xV)<|s1 (As xV (kR ⟨KG⟩ (xO<|ET xV<|xO x3) xV)<|xO x3)<|s1 (P5 λh=>absurd (d _ h)<|by decide) s0) s0)<|s1 (As xV (kR ⟨vo⟩ (xO<|kR ⟨ma⟩ (xO<|kR ⟨ni⟩ (xO<|ET xV<|xO x3)<|xO x3)<|xO x3)<|xO x3)<|xO x3)<|s1 (sS b<|kR ⟨vo⟩ (xO<|kR ⟨ma⟩ (xO<|kR ⟨ma⟩ (xO<|kR ⟨ni⟩ (xO<|ET xV<|xO x3)<|xO<|ET xV<|xO x3)<|xO<|kR ⟨ni⟩ (xO x3)<|xO<|ET xV<|xO x3)<|xO x3)<|xO x3)<|s1 (sS b<|kR ⟨vo⟩ (xO<|kR ⟨ma⟩ (xO<|kR ⟨ni⟩ xV xV)<|xO<|kR ⟨ni⟩ (xO x3) xV)<|xO x3)<|s1 (sR<|kR ⟨vo⟩ (xO<|kR ⟨KG⟩ xV<|xO x3) xV) s0)
abbrev qD:Stmt:=top 53
abbrev qJ(Z:ZZ)(k:Nat):Prop:=Oz Z k "_law_turning" ["_law_state_here","_law_names"] nu
def ac3(a:Fz Z.K Z.mg "_law_turning" qD)(T:Tx Z.mg)(d:nN Z k):qJ Z (k+1):=by have S:X0 ["_law_state_here","_law_names","_law_rest","_law_found","_law_turn"] ["_law_state_here","_law_names"] (hU qD):=BP;refine C6 a S λf g A c s U E L i e j m h l b=>?_;exact(s1 (sS b<|Zw T H<|xA (xO x3)<|xA (xO<|kR ⟨ma⟩ xV<|xO x3) VP)<|s1 (sS b<|qB FE)<|s1 (sF (MX T<|xA xV VP) (gN b)<|s1 (sE<|NY xV<|kR ⟨ni⟩ (xO<|abi xV<|xO<|xU d e<|xA xV<|xA (xO<|xB T H ⟨kr⟩<|xA xV VP) VP)<|xO<|ET (xO<|qB<|xL x3<|xL (An<|xO x3) FE)<|xO<|xU d e<|xA xV<|xA (xO x3) VP) s0)<|s1 (sR<|xT T H ⟨jL⟩<|xA xV VP) s0)
abbrev pK:Stmt:=top 54
abbrev uB(Z:ZZ)(k:Nat):Prop:=Oz Z k "_law_led_sign" ["_law_turning_here","_law_sign"] lq
def acT(a:Fz Z.K Z.mg "_law_led_sign" pK)(T:Tx Z.mg):uB Z (k+1):=by have S:X0 ["_law_turning_here","_law_sign"] ["_law_turning_here","_law_sign"] (hU pK):=BP;refine C6 a S λf d A b s U E L g h c j e i l=>?_;exact(s1 (sR<|kR ⟨ni⟩ (xO<|ET xV<|xO<|kR ⟨qt⟩ (xO<|xB T H ⟨nX⟩<|xA xV VP)<|xO x3)<|xO<|ET (xO<|qB<|xL x3<|xL (An<|xO x3) FE)<|xO<|xT T H ⟨afm⟩<|xA (xO<|C1 ⟨qu (.inl H) c⟩ xV<|xO x3) VP) s0)
abbrev rV:Stmt:=top 55
abbrev ye(Z:ZZ)(k:Nat):Prop:=Oz Z k "_law_clause" ["_law_state_here","_law_names"] nB
def adg(a:Fz Z.K Z.mg "_law_clause" rV)(T:Tx Z.mg)(b:nN Z k):ye Z (k+1):=by have S:X0 ["_law_state_here","_law_names","_law_signs"] ["_law_state_here","_law_names"] (hU rV):=BP;refine C6 a S λf h A e s U E L j c g m i l d=>?_;exact(s1 (sC (N':=["_law_state_here","_law_name"]) d (Fv S) (by decide+kernel) (iR2 T<|xA (xO x3)<|xA (xO<|kR ⟨ma⟩ xV<|xO x3) VP) λ_ _ _ _ _ _ d=>⟨gN d,f1<|Au ⟨oH g⟩ (xO<|xU b c<|xA xV<|xA (xO x3) VP)<|xO x3,λ_=>bE<|kR ⟨ni⟩ xV<|xO<|ET (xO<|qB<|xL x3<|xL (An<|xO x3) FE)<|xO<|xU b c<|xA xV<|xA (xO x3) VP⟩)<|s1 (sI (Au ⟨oH g⟩ xV<|xO<|qB FE) (s1 (sS d<|qB<|xL (kR ⟨ni⟩ (xO<|kR ⟨ma⟩ (xO x3)<|xO<|xU b c<|xA xV<|xA xV VP)<|xO<|ET (xO<|qB<|xL x3<|xL (An<|xO x3) FE)<|xO<|xU b c<|xA xV<|xA (xO x3) VP) FE) s0) s0)<|s1 (sR<|xT T H ⟨jL⟩<|xA xV VP) s0)
abbrev nL:Stmt:=top 56
abbrev rh(Z:ZZ)(k:Nat):Prop:=Oz Z k "_law_led_clause" ["_law_clause_here","_law_turning_here"] kQ
def yd(a:Fz Z.K Z.mg "_law_led_clause" nL)(T:Tx Z.mg)(b:uB Z k):rh Z (k+1):=by have S:X0 ["_law_clause_here","_law_turning_here","_law_row"] ["_law_clause_here","_law_turning_here"] (hU nL):=BP;refine C6 a S λf h A d s U E L i e j m g l c=>?_;exact(s1 (sC (N':=["_law_turning_here","_law_sign"]) c (Fv S) (by decide+kernel) (iS xW) λ_ _ _ _ _ _ c=>⟨gN c,f0,λ_=>bE<|C0<|xL (xB T H ⟨nX⟩<|xA (xO<|xU b e<|xA xV<|xA xV VP) VP)<|xL (xU b e<|xA xV<|xA xV VP) FE⟩)<|s1 (sR<|xT T H ⟨jL⟩<|xA (xO<|by exact xC (N':=["_law_name","_law_sign"]) (Fv S) (by decide+kernel) (iS<|xB T H ⟨sL g⟩<|xA xV VP) λ_ _ _ _ _ _ c=>⟨gT (gN c)<|gN c,f0,λ_=>bE xW⟩) VP) s0)
abbrev oF:Stmt:=top 58
abbrev tf(Z:ZZ)(k:Nat):Prop:=Oz Z k "_law_riddle_of" ["_law_state_here","_law_names"] nU
def zC(a:Fz Z.K Z.mg "_law_riddle_of" oF)(T:Tx Z.mg)(g:nN Z k)(c:ye Z k)(m:qJ Z k)(b:rh Z k):tf Z (k+1):=by have S:X0 ["_law_state_here","_law_names","_law_most","_law_some","_law_turn","_law_turning_here","_law_fresh","_law_clause_here"] ["_law_state_here","_law_names"] (hU oF):=BP;refine C6 a S λf n A h s U E L o d j l i p e=>?_;exact(s1 (sI (Au ⟨oH j⟩ xV<|xO x3) (s1 (sR<|C0<|xL x3<|xL (C0 FE) FE) s0) s0)<|s1 (sS e<|ET (xO<|qB<|xL x3<|xL x3<|xL x3 FE)<|xO<|xU g d<|xA xV<|xA (xO x3) VP)<|s1 (sS e x7)<|s1 (sF (MX T<|xA (xO<|xU g d<|xA xV<|xA (xO<|kR ⟨ma⟩ xV<|xO x3) VP) VP) (gN e)<|s1 (sDP l xV x2<|xO<|xU c d<|xA xV<|xA xV VP) s0)<|s1 (sS e<|xU m d<|xA xV<|xA xV VP)<|s1 (sS e<|kR ⟨agk⟩ (xO<|xT T H ⟨aes H⟩<|xA xV VP)<|xO<|ET (xO<|qB<|xL x3<|xL x3 FE)<|xO<|xU g d<|xA xV<|xA (xO x3) VP)<|s1 (sW (Au ⟨uz j⟩ xV<|xO<|qB FE)<|s1 (sS e<|xU b d<|xA (xO<|Zx xV)<|xA xV VP)<|s1 (sI (Au ⟨aeD i⟩ xV xV) (s1 (sDP l xV x2 xV)<|s1 (sE<|NY xV xW) s0) s0) s0)<|s1 (sR<|C0<|xL xW<|xL (xT T H ⟨jL⟩<|xA (xO<|Wj (xO (xB T H ⟨yF H i⟩ (xA xV VP))) (xO x3)) VP) FE) s0)
abbrev xa:Stmt:=top 59
abbrev BQ(Z:ZZ)(k:Nat):Prop:=Oz Z k "_law_bits" ["_law_names"] uQ
def adT(a:Fz Z.K Z.mg "_law_bits" xa)(T:Tx Z.mg):BQ Z (k+1):=by have S:X0 ["_law_names"] ["_law_names"] (hU xa):=BP;refine C6 a S λf d A c s U E L g h i l e j b=>?_;exact(s1 (sR<|by exact xC (N':=["_law_names","_law_number"]) (Fv S) (by decide+kernel) (MX T<|xA (xO<|kR ⟨TR⟩ (xO x3) xV) VP) λ_ _ _ _ _ _ b=>⟨gN b,f0,λ_=>bE<|xT T H ⟨jL⟩<|xA (xO<|by exact xC (N':=["_law_number","_law_names","_law_k"]) (JS H H<|by with_unfolding_all rfl) (by decide+kernel) (MX T<|xA xV VP) λ_ _ _ _ _ _ b=>⟨gN b,f0,λ_=>bE<|kR ⟨TU⟩ (xO<|kR ⟨TQ⟩ xV<|xO<|kR ⟨qt⟩ (xO<|kR ⟨qt⟩ xV<|xO x3) xV)<|xO x3⟩) VP⟩) s0)
abbrev lZ:Stmt:=top 60
def yM:M0 "_law_lots_right" lZ ["_law_riddle","_law_many"]:=λ_ _ _ _ _ _=>MH λ_=>MH λ_=>Mh H
abbrev qT(Z:ZZ)(k:Nat):Prop:=MQ Z TB45 k "_law_lots_right" ["_law_riddle","_law_many"] nA
def yc(a:Fz Z.K Z.mg "_law_lots_right" lZ)(T:Tx Z.mg)(b:BQ Z k)(i:GK Z k)(d:KP Z k)(l:Fg Z k)(o:zG Z k)(c:Kh Z k):qT Z (k+1):=by have S:X0 ["_law_riddle","_law_many","_law_answer","_law_lot","_law_there"] ["_law_riddle","_law_many"] (hU lZ):=BP;refine ozU (asg:=[2,3,4]) (fs:=qA) a S yM λf p A j s U E L q e g r m n h tT=>?_;exact(s1 (sF (iS<|xU b e<|xA (xO<|ET xV<|xO x3) VP) (gN h)<|s1 (sS h<|xU i e<|xA xV<|xA xV VP)<|s1 (sI (tW<|N8 (Au ⟨uz g⟩ (xO<|kR ⟨ni⟩ (xO<|xB T H ⟨kr⟩<|xA xV VP)<|xO<|xB T H ⟨kr⟩<|xA (xO<|xU d e<|xA xV<|xA xV VP) VP) xV)<|N6<|Au ⟨nM g⟩ xV xV) (s1 (sR x2) s0) s0)<|s1 (sI (tW<|N8 (Au ⟨uz g⟩ (xO<|xU i e<|xA xV<|xA (xO<|ET xV<|xO<|An<|xO x3) VP) xV)<|N6<|Au ⟨uz g⟩ (xO<|xU l e<|xA xV<|xA (xO<|ET xV<|xO<|An (xO x3)) VP)<|xO<|xU l e<|xA xV<|xA xV VP) (s1 (sR x2) s0) s0) s0)<|s1 (sS h<|xU o e<|xA xV VP)<|s1 (sR<|C1 ⟨oH g⟩ (xO<|xB T H ⟨yG H m⟩<|xA (xO<|xT T H ⟨afi H n⟩<|xA (xO<|by exact xC (N':=["_law_riddle","_law_answer"]) (Fv S) (by decide+kernel) (iS xW) λ_ _ _ _ _ _ h=>⟨gN h,f0,λ_=>bE<|xT T H ⟨jL⟩<|xA (xO<|xU i e<|xA xV (xA xV VP)) VP⟩) VP) VP)<|xO<|xUT c tT e<|xA xV VP) s0)
abbrev nK:Stmt:=top 61
abbrev rg(Z:ZZ)(k:Nat):Prop:=Oz Z k "_law_span_right" ["_law_state_here","_law_names","_law_some"] ny
def yb(a:Fz Z.K Z.mg "_law_span_right" nK)(T:Tx Z.mg)(e:zE Z k)(h:nN Z k)(i:yf Z k)(j:Fi Z k):rg Z (k+1):=by have S:X0 ["_law_state_here","_law_names","_law_some","_law_every","_law_turn","_law_one","_law_other"] ["_law_state_here","_law_names","_law_some"] (hU nK):=BP;refine C6 a S λf l A g s U E L n c d p m o b=>?_;exact(s1 (sS b<|xU e c<|xA xV<|xA xV VP)<|s1 (sF (MX T<|xA (xO x3) VP) (gN b)<|s1 (sT (by exact xC (N':=["_law_every","_law_state_here","_law_number"]) (Fv S) (by decide+kernel) (MX T<|xA (xO x3) VP) λ_ _ _ _ _ _ b=>⟨gN b,f0,λ_=>bE<|ET xV<|xO<|xU h c<|xA xV<|xA (xO<|xB T H ⟨kr⟩<|xA xV VP) VP⟩)<|gS (gN b)<|gN b)<|s1 (sI (tW<|N8 (Au ⟨nM d⟩ (xO<|xU i c<|xA xV<|xA xV VP) xV)<|N6<|Au ⟨nM d⟩ (xO<|xU j c<|xA xV VP) xV) (s1 (sR x2) s0) s0) s0)<|s1 (sR<|F7 (xB T H ⟨pk H⟩<|xA (xO<|by exact xC (N':=["_law_every","_law_one"]) (Fv S) (by decide+kernel) (iS xW) λ_ _ _ _ _ _ b=>⟨gN b,f0,λ_=>bE<|C1 ⟨PQ d⟩ xV xV⟩) VP)<|Mf<|C1 ⟨oH d⟩ (xO<|xU e c<|xA xV<|xA (xO<|Wj xV<|xO x3) VP)<|xO<|xU e c<|xA xV<|xA (xO<|xT T H ⟨jL⟩<|xA (xO<|Wj xV (xO x3)) VP) VP) s0)
abbrev Kq:Stmt:=top 62
def YA:M0 "law" Kq ["_law_script"]:=λ_ _ _ _ _ _=>MH λ_=>Mh H
def Xz{f:hJ}{o:mS}(F:Jn Z.K "law" "law" Kq f o)(T:Tx Z.mg)(g:Ac Z k)(m:nN Z k)(c:tf Z k)(n:md Z k)(d:uE Z k)(e:wg Z k)(u:zE Z k)(t:qJ Z k)(a:qT Z k)(q:Fi Z k)(b:rg Z k)(r:P7 Z k)(p:yf Z k):Df Z.P Z.w Z.K Z.mg Z.base FK (k+1) f o ["_law_script"] (spT TB45<|IU Z.K wo):=by have S:X0 ["_law_script","_law_k","_law_state_here","_law_names","_law_riddle","_law_likes","_law_few","_law_turning_here","_law_others"] ["_law_script"] (hU Kq):=BP;refine fnU (asg:=[1,2,3,4,5,6,7,8]) (fs:=Cc) F S λv A l s U E L y h j B x z i _ tT=>?_;exact(s1 (sF (MX T<|xA (xO<|xB T H ⟨aer H⟩<|xA (xO x3)<|xA (xO<|xB T H ⟨aeq H⟩<|xA (xO<|xB T H ⟨kr⟩<|xA xV VP)<|xA (xO x3) VP) VP) VP) (gN i)<|s1 (sS i<|xU g h<|xA xV<|xA xV VP)<|s1 (sS i<|ET (xO<|qB<|xL (xU m h<|xA xV<|xA (xO x3) VP)<|xL x3<|xL x3<|xL x3 FE)<|xO<|xU m h<|xA xV<|xA (xO x3) VP)<|s1 (sS i<|xU c h<|xA xV<|xA xV VP)<|s1 (sS i<|xU n h<|xA xV VP)<|s1 (sS i<|xU d h<|xA xV VP)<|s1 (sI (IT<|zo<|xB T H ⟨pk H⟩<|xA (xO<|by exact xC (N':=["_law_riddle","_law_one"]) (Fv S) (by decide+kernel) (iS xW) λ_ _ _ _ _ _ i=>⟨gN i,f0,λ_=>bE<|xU e h<|xA xV (xA xV VP)⟩) VP) (s1 (sR x2) s0) s0)<|s1 (sI (tW<|ZC (Au ⟨qu (.inl H) j⟩ (xO<|xB T H ⟨kr⟩<|xA xV VP)<|xO x3)<|U6<|Au ⟨uz j⟩ (xO<|xU u h<|xA xV (xA xV VP)) xV) (s1 (sR x2) s0) s0)<|s1 (sS i<|xU t h<|xA xV<|xA xV VP)<|s1 (sI (tW<|N8 (IT<|zo<|xUT a tT h (xA xV (xA (xO (xB T H ⟨kr⟩ (xA xV VP))) VP)))<|N6<|IT (zo (xU b h (xA xV (xA xV (xA (xO (qB (xL xW (xL (xU q h (xA xV VP)) FE)))) VP)))))) (s1 (sR x2) s0) s0)<|s1 (sS i<|xU n h<|xA (xO (xU r h (xA xV (xA xV VP)))) VP)<|s1 (sI (Au ⟨uz j⟩ (xO<|xB T H ⟨kr⟩ (xA xV VP))<|xO (xB T H ⟨kr⟩ (xA xV VP))) (s1 (sR x2) s0) s0)<|s1 (sI (zo (xB T H ⟨D3 H⟩ (xA (xO (by exact xC (N':=["_law_others","_law_turning_here","_law_one"]) (Fv S) (by decide+kernel) (iS xW) λ_ _ _ _ _ _ i=>⟨gN i,f0,λ_=>bE (C1 ⟨nM j⟩ (xO (xU p h (xA (xO (xU p h (xA (xO (xU q h (xA xV VP))) (xA xV VP)))) (xA xV VP)))) xV)⟩)) VP))) (s1 (sR x2) s0) s0) s0)<|s1 (sR x2) s0)
end
def all_mk{l:PySem.W.OpenLaw}{w:iD}{K:iJ}{a:lN}{fa:hJ}(aa:a "law"=J4 (.ref fa))(T:Tx a)
  (a0:Fz K a "is_whole" xb)
  (a1:Fz K a "is_number" uv)
  (a2:Fz K a "check_number" pN)
  (a3:Fz K a "is_bit" Bw)
  (a4:Fz K a "is_name" zu)
  (a5:Fz K a "is_sign" zt)
  (a6:Fz K a "check_few_names" mZ)
  (a7:Fz K a "is_answer" uw)
  (a8:Fz K a "is_so" E5)
  (a9:Fz K a "keeps_clause" pL)
  (a10:Fz K a "keeps" EZ)
  (a11:Fz K a "all_answers" qH)
  (a12:Fz K a "answers" zv)
  (a13:Fz K a "is_turning" rW)
  (a14:Fz K a "check_turning" oG)
  (a15:Fz K a "led_sign" wY)
  (a16:Fz K a "led_clause" rR)
  (a17:Fz K a "led" OC)
  (a18:Fz K a "behind" Bx)
  (a19:Fz K a "back" Jc)
  (a20:Fz K a "led_answer" rT)
  (a21:Fz K a "still" EX)
  (a22:Fz K a "is_likeness" qF)
  (a23:Fz K a "all_signs" ux)
  (a24:Fz K a "longer_by_one" oD)
  (a25:Fz K a "leading_among" oE)
  (a26:Fz K a "all_leading" qG)
  (a27:Fz K a "likenesses" rQ)
  (a28:Fz K a "lots" Bu)
  (a29:Fz K a "answers_reached" nh)
  (r:N2 K a "kinds_among" oe 259)
  (a31:Fz K a "kinds" AF)
  (a32:Fz K a "span_of" zr)
  (a33:Fz K a "spanned" zq)
  (a34:Fz K a "few_spanning" pM)
  (a35:Fz K a "check_answer" pO)
  (a36:Fz K a "stays" EY)
  (a37:Fz K a "lot_of" Bv)
  (a38:Fz K a "_law_cell_at" qE)
  (a39:Fz K a "_law_state" ur)
  (a40:Fz K a "_law_take" wZ)
  (a41:Fz K a "_law_turning" qD)
  (a42:Fz K a "_law_led_sign" pK)
  (a43:Fz K a "_law_clause" rV)
  (a44:Fz K a "_law_led_clause" nL)
  (a45:Fz K a "_law_riddle_of" oF)
  (a46:Fz K a "_law_bits" xa)
  (a47:Fz K a "_law_lots_right" lZ)
  (a48:Fz K a "_law_span_right" nK)
  (a49:Fz K a "law" Kq)
  (g7: ∃t,a "FEW_NAMES"=J4 (.int 4 t))
  : ∃y:mS,(∀(s:ie) (v:ir),fg s y ⟨[v],[]⟩ [("_law_script",v)])/\(∀p∈TB45,∃c,PySem.W.codeHdIn K c p.1=K0)/\ ∀base:iK,K.In base->base.Ns ap a->(∀p∈TB45,base.BuiltinsAt a p.1)->Df l.prog w K a base FK 14 fa y ["_law_script"] (spT TB45<|IU K wo):=by
 obtain⟨y,F,hb⟩:=L7 a49 aa YA;refine⟨y,hb,aC r.cd<|aN,λbase KB _ BB=>?_⟩
 let z:ZZ:=⟨l.prog,w,K,a,base⟩
 have O0:=adU (Z:=z) (k:=0) a0 T;have A:=adL (Z:=z) (k:=1) a1 T O0.up;have O2:=acW (Z:=z) (k:=2) a2 T A.up;have O3:=afA (Z:=z) (k:=2) a3 T A.up;have O4:=aeJ (Z:=z) (k:=2) a4 T A.up;have O5:=aeI (Z:=z) (k:=3) a5 T O0.up O4.up;have O6:=xk (Z:=z) (k:=0) a6 T g7;have O7:=adM (Z:=z) (k:=3) a7 T O3.up;have O8:=agc (Z:=z) (k:=0) a8 T;have O9:=acU (Z:=z) (k:=1) a9 T O8.up;have b:=ago (Z:=z) (k:=4) a10 T O7.up O9.up;have B:=ac8 (Z:=z) (k:=0) a11 T;have d:=aeK (Z:=z) (k:=5) a12 T B.up b.up;have e:=adh (Z:=z) (k:=4) a13 T O5.up;have gW:=zD (Z:=z) (k:=5) a14 T e.up;have f:=adR (Z:=z) (k:=0) a15 T;have g:=ade (Z:=z) (k:=1) a16 T f.up;have h:=Xy (Z:=z) (k:=6) a17 T gW.up g.up;have gU:=afB (Z:=z) (k:=1) a18 T f.up;have gR:=T4 (Z:=z) (k:=0) a19 T;have i:=adf (Z:=z) (k:=6) a20 T gW.up gR.up O8.up;have C:=agl (Z:=z) (k:=0) a21 T;have E:=ac6 (Z:=z) (k:=7) a22 T e.up h.up;have H:=adN (Z:=z) (k:=0) a23 T;have I:=zA (Z:=z) (k:=1) a24 T H.up;have L:=zB (Z:=z) (k:=2) a25 T I.up g.up;have O:=ac7 (Z:=z) (k:=3) a26 T L.up;have x:=adb (Z:=z) (k:=4) a27 T O.up;have Q:=T3 (Z:=z) (k:=8) a28 T;have j:=xm (Z:=z) (k:=7) a29 T i.up;have G:=ac5 (Z:=z) (k:=8) (r.tb KB BB<|by decide) T x.up j.up Q;have J:=agn (Z:=z) (k:=11) a31 T d.up G.up;have m:=aeH (Z:=z) (k:=2) a32 T C.up gU.up;have n:=aeG (Z:=z) (k:=6) a33 T g7 O2.up gW.up m.up;have M:=acV (Z:=z) (k:=5) a34 T O6.up m.up x.up;have o:=acX (Z:=z) (k:=4) a35 T O7.up;have N:=agm (Z:=z) (k:=7) a36 T o.up x.up i.up;have U:=afz (Z:=z) (k:=8) a37 T o.up x.up j.up;have Y:=ac4 (Z:=z) (k:=0) a38 T;have D:=adK (Z:=z) (k:=1) a39 T Y.up;have u:=adS (Z:=z) (k:=0) a40 T;have q:=ac3 (Z:=z) (k:=1) a41 T u.up;have P:=acT (Z:=z) (k:=0) a42 T;have R:=adg (Z:=z) (k:=1) a43 T u.up;have S:=yd (Z:=z) (k:=1) a44 T P.up;have V:=zC (Z:=z) (k:=2) a45 T u.up R.up q.up S.up;have X:=adT (Z:=z) (k:=0) a46 T;have O47:=yc (Z:=z) (k:=12) a47 T X.up U.up N.up b.up d.up J.up;have O48:=yb (Z:=z) (k:=7) a48 T n.up u.up gU.up gR.up;exact Xz (Z:=z) (k:=13) F T D.up u.up V.up x.up M.up E.up n.up q.up O47.up gR.up O48.up h.up gU.up
end K45
namespace PV
open L2 PX
@[simp] theorem ab5(d:D)(δ:Dn):fC d δ=Y ((d,C),δ):=rfl
@[simp] theorem WJ(f:F)(δ:Dn):iu f δ=(f δ).bind λp=>Y (.val p.1,p.2):=rfl
@[simp] theorem aa8(x:D×Bool)(a:Dn):hX 0 (Y x::a)=Y (.slot 0,Y x::a):=rfl
@[simp] theorem aa7(a:Sl)(x:D×Bool)(b:Dn):hX 1 (a::Y x::b)=Y (.slot 1,a::Y x::b):=rfl
@[simp] theorem aa6(a b:Sl)(x:D×Bool)(c:Dn):hX 2 (a::b::Y x::c)=Y (.slot 2,a::b::Y x::c):=rfl
@[simp] theorem aa5(a b c:Sl)(x:D×Bool)(d:Dn):hX 3 (a::b::c::Y x::d)=Y (.slot 3,a::b::c::Y x::d):=rfl
@[simp] theorem aa4(a b c d:Sl)(x:D×Bool)(e:Dn):hX 4 (a::b::c::d::Y x::e)=Y (.slot 4,a::b::c::d::Y x::e):=rfl
@[simp] theorem aa3(a b c d e:Sl)(x:D×Bool)(f:Dn):hX 5 (a::b::c::d::e::Y x::f)=Y (.slot 5,a::b::c::d::e::Y x::f):=rfl
@[simp] theorem aa2(a b c d e f:Sl)(x:D×Bool)(g:Dn):hX 6 (a::b::c::d::e::f::Y x::g)=Y (.slot 6,a::b::c::d::e::f::Y x::g):=rfl
@[simp] theorem aa1(a b c d e f g:Sl)(x:D×Bool)(h:Dn):hX 7 (a::b::c::d::e::f::g::Y x::h)=Y (.slot 7,a::b::c::d::e::f::g::Y x::h):=rfl
@[simp] theorem aa0(a b c d e f g h:Sl)(x:D×Bool)(i:Dn):hX 8 (a::b::c::d::e::f::g::h::Y x::i)=Y (.slot 8,a::b::c::d::e::f::g::h::Y x::i):=rfl
@[simp] theorem OQ(δ:Dn)(r:D×Bool):res δ (.val r)=Y r.1:=rfl
@[simp] theorem abT(x:D×Bool)(a:Dn):res (Y x::a) (.slot 0)=Y x.1:=rfl
@[simp] theorem abS(a:Sl)(x:D×Bool)(b:Dn):res (a::Y x::b) (.slot 1)=Y x.1:=rfl
@[simp] theorem abR(a b:Sl)(x:D×Bool)(c:Dn):res (a::b::Y x::c) (.slot 2)=Y x.1:=rfl
@[simp] theorem abQ(a b c:Sl)(x:D×Bool)(d:Dn):res (a::b::c::Y x::d) (.slot 3)=Y x.1:=rfl
@[simp] theorem abP(a b c d:Sl)(x:D×Bool)(e:Dn):res (a::b::c::d::Y x::e) (.slot 4)=Y x.1:=rfl
@[simp] theorem abO(a b c d e:Sl)(x:D×Bool)(f:Dn):res (a::b::c::d::e::Y x::f) (.slot 5)=Y x.1:=rfl
@[simp] theorem abN(a b c d e f:Sl)(x:D×Bool)(g:Dn):res (a::b::c::d::e::f::Y x::g) (.slot 6)=Y x.1:=rfl
@[simp] theorem abM(a b c d e f g:Sl)(x:D×Bool)(h:Dn):res (a::b::c::d::e::f::g::Y x::h) (.slot 7)=Y x.1:=rfl
@[simp] theorem abL(a b c d e f g h:Sl)(x:D×Bool)(i:Dn):res (a::b::c::d::e::f::g::h::Y x::i) (.slot 8)=Y x.1:=rfl
@[simp] theorem WM(g:D->Option (D×Bool))(a:FO)(b:Dn):sy g a b=(a b).bind λp=>(res p.2 p.1).bind λx=>(g x).bind λz=>Y (z,p.2):=rfl
@[simp] theorem ab3(g:D->D->Option (D×Bool))(a b:FO)(c:Dn):iF g a b c=(a c).bind λp=>(b p.2).bind λq=>(res q.2 p.1).bind λx=>(res q.2 q.1).bind λy=>(g x y).bind λz=>Y (z,q.2):=rfl
@[simp] theorem ZW(a:Dn):kx [] a=Y ([],a):=rfl
@[simp] theorem abc(f:FO)(fs:List FO)(a:Dn):kx (f::fs) a=(f a).bind λp=>(kx fs p.2).bind λq=>Y (p.1::q.1,q.2):=rfl
@[simp] theorem SU(a:Dn):vO a []=Y []:=rfl
@[simp] theorem WI(a:Dn)(o:Ax)(os:List Ax):vO a (o::os)=(res a o).bind λd=>(vO a os).bind λl=>Y (d::l):=rfl
@[simp] theorem abb(g:List D->Option (D×Bool))(fs:List FO)(a:Dn):iO g fs a=(kx fs a).bind λp=>(vO p.2 p.1).bind λb=>(g b).bind λz=>Y (z,p.2):=rfl
@[simp] theorem aaY:qC []=Y []:=rfl
@[simp] theorem abB(r:D×Bool)(os:List Ax):qC (.val r::os)=(qC os).map (r.1:: ·):=rfl
@[simp] theorem WL(fs:List F)(b:Dn):yx fs b=(kx (fs.map iu) b).bind λp=>(qC p.1).bind λa=>if (Ls a)<=sizeLine then Y ((.tup a,C),p.2) else I:=rfl
@[simp] theorem WN(fs:List F)(δ:Dn):nG fs δ=(kx (fs.map iu) δ).bind λp=>(qC p.1).bind λa=>if (Ls a)<=sizeLine then Y ((.lst a,J),p.2) else I:=rfl
@[simp] theorem acL(b o:Bool)(a:Dn):MD ((.bl b,o),a)=Y (b,a):=rfl
@[simp] theorem acR(f:F)(a:Dn):fT f a=(f a).bind MD:=rfl
@[simp] theorem abd(f g:FT)(a:Dn):Ah f g a=(f a).bind λp=>if p.1=J then g p.2 else Y (C,p.2):=rfl
@[simp] theorem ab1(f g:FT)(a:Dn):Di f g a=(f a).bind λp=>if p.1=J then Y (J,p.2) else g p.2:=rfl
@[simp] theorem aba(f:FT)(a:Dn):rA f a=(f a).bind λp=>Y (!p.1,p.2):=rfl
@[simp] theorem OR(f g:F)(a:Dn):zQ f g a=(f a).bind λp=>(MD p).bind λq=>if q.1=J then g q.2 else Y ((.bl C,C),q.2):=rfl
@[simp] theorem acJ(f g:F)(a:Dn):fOr f g a=(f a).bind λp=>(MD p).bind λq=>if q.1=J then Y ((.bl J,C),q.2) else g q.2:=rfl
@[simp] theorem ab4(f:F)(a:Dn):Yk f a=(f a).bind λp=>(MD p).bind λq=>Y ((.bl (!q.1),C),q.2):=rfl
@[simp] theorem Vj(t:FT)(f g:F)(δ:Dn):MC t f g δ=(t δ).bind λp=>if p.1=J then f p.2 else g p.2:=rfl
@[simp] theorem abJ(a:Dn):iN a=Y (.nx a):=rfl
noncomputable def nxt(g:FS):Out->Option Out
 | .nx a=>g a
 |o=>Y o
@[simp] theorem abV(g:FS)(a:Dn):nxt g (.nx a)=g a:=rfl
@[simp] theorem abU(g:FS)(r:D×Bool)(a:Dn):nxt g (.rt r a)=Y (.rt r a):=rfl
@[simp] theorem abG(f g:FS)(a:Dn):iA f g a=(f a).bind (nxt g):=by
 unfold iA
 cases f a with
 |none=>rfl
 |some o=>cases o<;>rfl
@[simp] theorem aaZ(f:F)(a:Dn):lS f a=(f a).bind λp=>Y (.nx p.2):=rfl
@[simp] theorem abH(f:F)(a:Dn):kH f a=(f a).bind λp=>Y (.rt p.1 p.2):=rfl
@[simp] theorem acF(t:FT)(f g:FS)(a:Dn):Dm t f g a=(t a).bind λp=>if p.1=J then f p.2 else g p.2:=rfl
@[simp] theorem abF(i:Nat)(f:F)(a:Dn):kE i f a=(f a).bind λp=>if i<(Ls p.2) then Y (.nx<|p.2.set i<|Y p.1) else I:=rfl
@[simp] theorem abE(b:Tg)(f:F)(c:Dn):Jd b f c=(f c).bind λp=>(b p.1.1 p.2).bind λa=>Y (.nx a):=rfl
@[simp] theorem acQ(g:D->Option (D×Bool))(d:D):g1 g [d]=g d:=rfl
@[simp] theorem acP(g:D->D->Option (D×Bool))(d e:D):g2 g [d,e]=g d e:=rfl
@[simp] theorem ZY(i j:Int):uK (.int i) (.int j)=Y (.int<|i+j,C):=rfl
@[simp] theorem Vh(i j:Int):PX.JA (.int i) (.int j)=Y (.int<|i-j,C):=rfl
@[simp] theorem ZT(i:Int):B9 (.int i)=Y (.int (-i),C):=rfl
@[simp] theorem Z0(i:Int):De (.int i)=Y (.int (if i<0 then -i else i),C):=rfl
@[simp] theorem WK(l:List D):uI (.tup l)=Y (.int<|Ls l,C):=rfl
@[simp] theorem Bz(l:List D):uI (.lst l)=Y (.int<|Ls l,C):=rfl
@[simp] theorem abD(l:List D):lJ (.lst l)=Y (.tup l,C):=rfl
@[simp] theorem abC(l:List D):lJ (.tup l)=Y (.tup l,C):=rfl
@[simp] theorem abX(l:List D):Ca (.tup l)=Y (.lst l,J):=rfl
@[simp] theorem abY(l:List D):Ca (.lst l)=Y (.lst l,J):=rfl
@[simp] theorem ab0(b:Bool):Ut (.bl b)=Y (.int (if b then 1 else 0),C):=rfl
@[simp] theorem abZ(b:Int):Ut (.int b)=Y (.int b,C):=rfl
@[simp] theorem acH(i j:Int):QZ (.int i) (.int j)=Y (.int (if j>i then j else i),C):=rfl
@[simp] theorem acG(i j:Int):QY (.int i) (.int j)=Y (.int (if j<i then j else i),C):=rfl
@[simp] theorem acI(a:List Ty)(d:D):JH a d=Y (.bl<|a.any<|L6 d,C):=rfl
@[simp] theorem Vk(i j:Int):EV (.int i) (.int j)=Y (.bl<|i==j,C):=by unfold EV;rw[iz<|by simp[D.dep]];simp[D.O1]
@[simp] theorem Vi(i j:Int):JE (.int i) (.int j)=Y (.bl (!(i==j)),C):=by unfold JE;rw[iz<|by simp[D.dep]];simp[D.O1]
@[simp] theorem acK(i j:Bool):EV (.bl i) (.bl j)=Y (.bl<|i==j,C):=by unfold EV;rw[iz<|by simp[D.dep]];simp[D.O1]
@[simp] theorem ZU(i j:Bool):JE (.bl i) (.bl j)=Y (.bl (!(i==j)),C):=by unfold JE;rw[iz<|by simp[D.dep]];simp[D.O1]
@[simp] theorem abW(i j:Int):uJ .Lt (.int i) (.int j)=Y (.bl<|decide<|i<j,C):=by simp[uJ,nD,lW,D.dep]
@[simp] theorem acN(i j:Int):uJ .LtE (.int i) (.int j)=Y (.bl<|decide<|i<=j,C):=by simp[uJ,nD,lW,D.dep]
@[simp] theorem ZV(i j:Int):uJ .Gt (.int i) (.int j)=Y (.bl<|decide<|i>j,C):=by simp[uJ,nD,lW,D.dep]
@[simp] theorem acO(i j:Int):uJ .GtE (.int i) (.int j)=Y (.bl<|decide<|i>=j,C):=by simp[uJ,nD,lW,D.dep]
@[simp] theorem E7(f:F)(δ:Dn):jB f δ=(f δ).bind λp=>match p.1.1 with| .lst l=>Y (l,p.2)| .tup l=>Y (l,p.2)|_=>I:=rfl
@[simp] theorem abK(b:Cf)(c:Tg)(a:FS)(d:Dn):qi b c a d=(b d).bind λp=>vQ c a p.1 p.2:=rfl
@[simp] theorem rX(a:Dn):jk a=Y (J,a):=rfl
@[simp] theorem vm(f:F)(acc:List D)(a:Dn):jm f acc a=(f a).bind λp=>if (Ls acc)<sizeLine then Y (acc++[p.1.1],p.2) else I:=rfl
def vg(h:n<=10000):n<=sizeLine:=by rw[jT];lia
def AE(h:n<=10000):n<sizeLine:=by rw[jT];lia
noncomputable abbrev enc(t:ig):D×Bool:=(.tup<|t.map .int,C)
noncomputable abbrev ii(n:Int):Sl:=Y (.int n,C)
abbrev eN(t:ig):Sl:=Y<|enc t
noncomputable abbrev pI(n:Int):D×Bool:=(.int n,C)
noncomputable abbrev pS(a:Int)(b:Bool):D×Bool:=(.lst [.int a,.bl b],J)
def MV(i:Nat):([i]:List Nat).Nodup:=by simp
noncomputable abbrev SS(a:Int)(b:Bool):Sl:=Y (.lst [.int a,.bl b],J)
noncomputable abbrev Ay(l:ig):Sl:=Y (.lst<|l.map .int,J)
@[simp] theorem aa9(b:Ap)(fs:List FO)(c:Dn):iB b fs c=(kx fs c).bind λp=>(jo p.2 p.1).bind λa=>if(iM p.1 a).Nodup then(b a).bind λq=>Y (q.1,wb p.1 a q.2 p.2) else I:=rfl
@[simp] theorem L8(a:Dn):jo a []=Y []:=rfl
@[simp] theorem ZX(b:Dn)(o:Ax)(os:List Ax):jo b (o::os)=(wu b o).bind λa=>(jo b os).bind λl=>Y (a::l):=rfl
@[simp] theorem ab6(a:Dn)(r:D×Bool):wu a (.val r)=Y (r.1,C):=rfl
@[simp] theorem ab7(a:Dn)(i:Nat):wu a (.slot i)=(a[i]?).join:=rfl
def qR(a:Int)(b:Bool)(m:Int)(c:0<m)(d:m<1073741824):
  ∃v e,0<=v/\v<m/\jz [pS a b,pI m]=Y ((.int v,C),[Y (.lst [.int e,.bl b],J),ii m]):=by
 cases b
 .have h1: ∀x:Int, -18446744073709551616<x%2147483647/\x%2147483647<18446744073709551616:=λx=>by lia
  have f: ∀x:Int, -18446744073709551616<x%2147483629/\x%2147483629<18446744073709551616:=λx=>by lia
  simp only[jz,uM];simp[Q1,Ct,JT,Gf,Dd,gI,Q3,oJ,QV,xg,qr,iT,iM,wb,M1,yP,Dk,c,d,h1,f];exact⟨HN _ (by lia),HP _ c⟩
 .simp only[jz,uM];simp[Q1,Ct,JT,Gf,Dd,gI,Q3,oJ,QV,xg,qr,iT,iM,wb,M1,yP,Dk,c,d];exact⟨HN _ (by lia),HP _ c⟩
theorem vK(x y:Int):(x==y)=decide (x=y):=rfl
def ot{g:List D->Option (D×Bool)}{fs:List FO}{δ a:Dn}{os:List Ax}{ds:List D}{z:D×Bool}(h1:kx fs δ=Y (os,a))(b:vO a os=Y ds)(c:g ds=Y z):iO g fs δ=Y (z,a):=by unfold iO;rw[h1];simp only[ju];rw[b];simp only[ju];rw[c];rfl
def kF(h1:(Ls args)=np/\np<=n/\(args.zipIdx.all λp=>!(p.1.2&&asg.contains p.2))=J)(a:f (args.map Y++ah (n-np) I)=Y (.rt r δ)):Q1 n np asg f args=Y (r,iT args δ):=by unfold Q1;rw[iz h1,a]
def il(h:f δ=Y (.nx δ1)):iA f g δ=g δ1:=by unfold iA;rw[h];rfl
def jF{r}(h:f δ=Y (.rt r δ1)):iA f g δ=Y (.rt r δ1):=by unfold iA;rw[h];rfl
def kh{r}(h:f δ=Y (r,δ1)):kH f δ=Y (.rt r δ1):=by unfold kH;rw[h];rfl
def jD{r}(h:f δ=Y (r,δ1))(a:i<Ls δ1):kE i f δ=Y (.nx<|δ1.set i<|Y r):=by unfold kE;rw[h];simp only[ju];rw[iz a]
def kJ(h:f δ=Y ((.bl b,o),δ1)):fT f δ=Y (b,δ1):=by unfold fT;rw[h];rfl
def iU{r}(h:f δ=Y (r,δ1)):iu f δ=Y (.val r,δ1):=by unfold iu;rw[h];rfl
def ll(h1:a δ=Y (o1,δ1))(b:fb δ1=Y (o2,δ2))(c:res δ2 o1=Y x)(d:res δ2 o2=Y y)(e:g x y=Y z):iF g a fb δ=Y (z,δ2):=by unfold iF;rw[h1];simp only[ju];rw[b];simp only[ju];rw[c,d];simp only[ju];rw[e];rfl
def kn{b:Ap}{fs:List FO}{δ δ1:Dn}{os:List Ax}{args:List (D×Bool)}{r:D×Bool}{a:Dn}(h1:kx fs δ=Y (os,δ1))(c:jo δ1 os=Y args)(d:(iM os args).Nodup)(e:b args=Y (r,a)):iB b fs δ=Y (r,wb os args a δ1):=by unfold iB;rw[h1];simp only[ju];rw[c];simp only[ju];rw[iz d,e];rfl
def Fw(h:f δ=Y (C,δ1)):Di f g δ=g δ1:=by unfold Di;rw[h];rfl
def rq(h:f δ=Y (b,δ1)):rA f δ=Y (!b,δ1):=by unfold rA;rw[h];rfl
def Aa(h:t δ=Y (C,δ1)):Dm t f g δ=g δ1:=by unfold Dm;rw[h];rfl
def DD(h:t δ=Y (J,δ1)):Dm t f g δ=f δ1:=by unfold Dm;rw[h];rfl
def qM{a b:FO}{δ δ1 δ2:Dn}{o1 o2:Ax}(h1:a δ=Y (o1,δ1))(c:b δ1=Y (o2,δ2)):kx [a,b] δ=Y ([o1,o2],δ2):=by simp only[kx];rw[h1];simp only[ju];rw[c];rfl
def uP{a:FO}{δ δ1:Dn}{o1:Ax}(h1:a δ=Y (o1,δ1)):kx [a] δ=Y ([o1],δ1):=by simp only[kx];rw[h1];rfl
def lM(h:fi δ=Y (ds,δ1)):qi fi tg fb δ=vQ tg fb ds δ1:=by unfold qi;rw[h];rfl
def pW{os}(h1:b δ=Y (o1,δ1))(c:kx fs δ1=Y (os,a)):kx (b::fs) δ=Y (o1::os,a):=by simp only[kx];rw[h1];simp only[ju];rw[c];rfl
def Fx{fs:List F}{δ δ1:Dn}{os:List Ax}{ds:List D}(h1:kx (fs.map iu) δ=Y (os,δ1))(a:qC os=Y ds)(b:(Ls ds)<=sizeLine):nG fs δ=Y ((.lst ds,J),δ1):=by unfold nG;rw[h1];simp only[ju];rw[a];simp only[ju];rw[iz b]
def UG(a:ig)(k:Nat): ∃c,lX [(.lst<|a.map .int,C),pI k]=Y ((.int c,C),[Y (.lst<|a.map .int,C),ii k]):=by
 by_cases hk:k<Ls a
 .refine⟨a[k],?_⟩;simp[lX,pV,Q1,Ct,JT,Gf,iT,hk]
 .refine⟨0,?_⟩;simp[lX,pV,Q1,iT,hk]
def Vn:QV (.int 10) (.int 18)=ii 1000000000000000000:=by
 have:yP 10 18:=by unfold yP;decide+kernel
 show((if yP 10 18 then Y (D.int (10^(18:Int).toNat)) else I).map λz=>(z,C))=_;rw[iz this];rfl
def af5(d:ig)(k:Nat): ∃a b,nv [(.lst<|d.map .int,C),pI k]=Y ((.lst [.int a,.bl b],J),[Y (.lst<|d.map .int,C),ii k]):=by
 obtain⟨c,e⟩:=UG d k;by_cases h:c>=1000000000000000000
 .refine⟨c-1000000000000000000,J,?_⟩;simp[nv,su,Q1,e,iM,wb,Vn,h,jT,iT]
 .refine⟨c%2147483647,C,?_⟩;simp[nv,su,Q1,e,iM,wb,Vn,h,jT,iT,Dd,gI]
noncomputable def st(n:Nat):List Int:=(am n).map λ(k:Nat)=>(1+(k:Int))
def Oj(n:Nat):(st n).map D.int=jh 1 n:=by simp[st,jh]
noncomputable def pR:Nat->List Int->List Int->List (List Int)
 |0,_,f=>[f]
 |k+1,r,f=>(am<|Ls r).flatMap λv=>pR k (r.eraseIdx v) (f++[r.getD v 0*1])++pR k (r.eraseIdx v) (f++[r.getD v 0* -1])
theorem DX(f:Int->D): ∀(l:ig) (k:Nat),(l.map f).eraseIdx k=(l.eraseIdx k).map f
 |[],k=>by simp
 |x::l,0=>by simp
 |x::l,k+1=>by simp[DX f l k]
def afb{i:Nat}{f:FO}{a δ1:Dn}{o:Ax}{n l:List D}{k:Int}{j:Nat}{d:D}(b:a[i]?=Y (Y (.lst n,J)))(h1:f a=Y (o,δ1))(c:res δ1 o=Y (.int k))(e:δ1[i]?=Y (Y (.lst l,J)))(g: -(2^63)<=k/\k<2^63)(h:Gf (Ls l) k=Y j)(m:l[j]?=Y d):
  Cm i f a=Y ((d,C),δ1.set i<|Y (.lst<|l.eraseIdx j,J)):=by
 unfold Cm;rw[b];simp only[];rw[h1];simp only[ju];rw[c,e];simp only[];rw[iz g,h];simp only[ju];rw[m];rfl
def pX{i:Nat}{f:F}{δ δ1:Dn}{r:D×Bool}{l0 l:List D}(a:δ[i]?=Y (Y (.lst l0,J)))(h1:f δ=Y (r,δ1))(b:δ1[i]?=Y (Y (.lst l,J)))(c:(Ls l)<sizeLine):
  mK i f δ=Y ((.T1,C),δ1.set i<|Y (.lst<|l++[r.1],J)):=by
 unfold mK;rw[a];simp only[];rw[h1];simp only[ju];rw[b];simp only[];rw[iz c]
def kX{r}(h:f δ=Y (r,δ1)):lS f δ=Y (.nx δ1):=by unfold lS;rw[h];rfl
abbrev JF:F:=Zk
abbrev aaM:F:=Wh
abbrev fbT:FS:=iA (lS<|mK 3<|iF oJ (iu JF)<|iu aaM) iN
def W8(a:Int)(b:Bool)(n:Sl)(r f:ig)(x:Sl)(i:0<Ls r)(l:(Ls r)<=5): ∃v c,v<Ls r/\JF [SS a b,n,Ay r,Ay f,x]=Y ((.int<|r.getD v 0,C),[SS c b,n,Ay<|r.eraseIdx v,Ay f,x]):=by
 obtain⟨v,c,d,hv,e⟩:=qR a b (Ls r) (by lia) (by lia);have g:v.toNat<(Ls r):=by lia
 refine⟨v.toNat,c,g,?_⟩;have h:(Ay (r.eraseIdx v.toNat):Sl)=Y (.lst<|(r.map D.int).eraseIdx v.toNat,J):=by rw[DX]
 rw[h];refine afb (k:=v) (δ1:=[SS c b,n,Ay r,Ay f,x]) H (iU (r:=(.int v,C))<|kn (δ1:=[SS a b,n,Ay r,Ay f,x]) (os:=[.slot 0,.val (.int<|Ls r,C)]) (args:=[pS a b,pI<|Ls r]) ?_ H (show([0]:List Nat).Nodup from by decide) e) H H ⟨by lia,by lia⟩ (j:=v.toNat) ?_ ?_
 .show Y ([Ax.slot 0,Ax.val (D.int ((r.map D.int).length:Nat),C)],_)=_;rw[jf]
 .unfold Gf;rw[iz d,iz<|by simpa using hv]
 .simp[g]
def Wy(a:Int)(b:Bool)(n y z x:Sl): ∃s c,(s=1\/s= -1)/\aaM [SS a b,n,y,z,x]=Y ((.int s,C),[SS c b,n,y,z,x]):=by obtain⟨v,c,f,hv,e⟩:=qR a b 2 (by lia) (by lia);have d: ∀δ:Dn,nG [fC<|.int 1,V4] δ=Y ((.lst [.int 1,.int (-1)],J),δ):=λδ=>rfl;refine⟨if v=0 then 1 else -1,c,by split<;>simp,?_⟩;refine ll (δ1:=[SS a b,n,y,z,x]) (iU<|d _) (iU (δ1:=[SS c b,n,y,z,x])<|kn (δ1:=[SS a b,n,y,z,x]) (os:=[.slot 0,.val (.int 2,C)]) (args:=[pS a b,pI 2]) H H (show([0]:List Nat).Nodup from by decide) e) H H ?_;rcases(show v=0\/v=1 by lia) with rfl|rfl<;>rfl
def Yd(a:Int)(b:Bool)(n:Sl)(r f:ig)(x:Sl)(j:0<Ls r)(k:(Ls r)<=5)(m:(Ls f)<=5): ∃v s c,v<Ls r/\(s=1\/s= -1)/\fbT [SS a b,n,Ay r,Ay f,x]=Y (.nx [SS c b,n,Ay<|r.eraseIdx v,Ay<|f++[r.getD v 0*s],x]):=by
 obtain⟨v,a1,hv,e⟩:=W8 a b n r f x j k;obtain⟨s,d,q,g⟩:=Wy a1 b n (Ay<|r.eraseIdx v) (Ay f) x;refine⟨v,s,d,hv,q,?_⟩
 have p:oJ (.int<|r.getD v 0) (.int s)=ii (r.getD v 0*s):=by have:Dk (r.getD v 0) s:= .inr (by lia);show((if Dk (r.getD v 0) s then Y (D.int<|r.getD v 0*s) else I).map λz=>(z,C))=_;rw[iz this];rfl
 have o:(f.map D.int).length<sizeLine:=by rw[jf];exact HC m (by decide)
 have h:=pX (i:=3) (δ:=[SS a b,n,Ay r,Ay f,x]) (l0:=f.map .int) H (ll (iU e) (iU g) H H p) (l:=f.map .int) H o;refine(il<|kX h).trans ?_;simp[iN,Ay]
def aaC(b:Bool)(n:Sl): ∀(c:List D) (a:Int) (r f:ig) (x:Sl),Ls c=Ls r->Ls f+Ls r<=5->
  ∃g t i j,t∈pR (Ls c) r f/\vQ (ik 4) fbT c [SS a b,n,Ay r,Ay f,x]=Y (.nx [SS g b,n,Ay i,Ay t,j]):=by
 intro p
 induction p with
 |nil=>intro a r f x _ _;exact⟨a,f,r,x,by simp[pR],rfl⟩
 |cons d c o=>
  intro a r f x h q;simp only[kO] at h;obtain⟨v,s,a1,hv,m,e⟩:=Yd a b n r f (Y (d,C)) (by lia) (by lia) (by lia);obtain⟨g,t,i,j,k,l⟩:=o a1 (r.eraseIdx v) (f++[r.getD v 0*s]) (Y (d,C)) (by rw[Eh,iz hv];lia) (by rw[Eh,iz hv,mX];simp only[kO,rK];lia);refine⟨g,t,i,j,?_,?_⟩
  .simp only[kO,pR,vN,qh,wx];refine⟨v,hv,?_⟩;rcases m with rfl|rfl
   .exact .inl k
   .exact .inr k
  .unfold vQ;rw[show ik 4 d [SS a b,n,Ay r,Ay f,x]=Y [SS a b,n,Ay r,Ay f,Y (d,C)] from H];simp only[ju];rw[e];simp only[ju];exact l
def WD(n:Nat)(b:n<=5):MY .lst J [.int 1,.int<|(n:Int)+1]=Y (.lst<|(st n).map .int,J):=by
 have:n=0\/n=1\/n=2\/n=3\/n=4\/n=5:=by lia
 have h1:FF 1 ((n:Int)+1):=by rcases this with rfl|rfl|rfl|rfl|rfl|rfl<;>decide+kernel
 have a:((n:Int)+1-1).toNat=n:=by lia
 show(if FF 1 ((n:Int)+1) then Y (D.lst<|jh 1 ((n:Int)+1-1).toNat,J) else I)=_;rw[iz h1,a,<-Oj]
def qy{f:FO}{δ δ1:Dn}{o:Ax}{n:Nat}(h1:f δ=Y (o,δ1))(a:res δ1 o=Y (.int n))(e:n<=63):B6 f δ=Y (jh 0 n,δ1):=by
 have d:(-(2^62)<=(n:Int)/\(n:Int)<2^62):=⟨by lia,by lia⟩
 have b:kx [f] δ=Y ([o],δ1):=by simp[kx,h1]
 have c:vO δ1 [o]=Y [.int n]:=by simp[vO,a]
 unfold B6;rw[b];simp only[ju];rw[c];simp only[];rw[iz d];rfl
def Bq(a:Int)(b:Bool)(n:Nat)(f:n<=5): ∃d t,t∈pR n (st n) []/\nu [pS a b,pI n]=Y (enc t,[SS d b,ii n]):=by
 have c:(jh 0 n).length=n:=by simp[jh]
 have h:(st n).length=n:=by simp[st]
 obtain⟨d,t,j,k,g,e⟩:=aaC b (ii n) (jh 0 n) a (st n) [] I (by rw[c,h]) (by rw[h];simpa using f);rw[c] at g;refine⟨d,t,g,?_⟩;refine kF (δ:=[SS d b,ii n,Ay j,Ay t,k]) ⟨rfl,by decide,rfl⟩ ?_;refine(il (δ1:=[SS a b,ii n,Ay<|st n,I,I])<|jD (i:=2) (δ1:=[SS a b,ii n,I,I,I]) (ot (os:=[.val (.int 1,C),.val (.int<|(n:Int)+1,C)]) H H<|WD n f) (show 2<5 by decide)).trans ?_;refine(il (δ1:=[SS a b,ii n,Ay<|st n,Ay [],I]) H).trans ?_;refine(il<|(lM<|qy (o:= .slot 1) H H<|by lia).trans e).trans ?_;exact jF<|kh<|ot (os:=[.slot 3]) H H H
def yC: ∀t:List Int,D.OO (t.map .int)=0:=by
 intro b
 induction b with
 |nil=>simp[D.OO]
 |cons s t a=>simp[D.OO,D.dep,a]
theorem Cq: ∀a b:List Int,D.BD (a.map .int) (b.map .int)=decide (a=b)
 |[],[]=>by simp[D.BD]
 |[],_::_=>by simp[D.BD]
 |_::_,[]=>by simp[D.BD]
 |x::a,y::b=>by simp[D.BD,D.O1,Cq a b,l5,vK]
@[simp] theorem MF(a b:ig):EV (.lst<|a.map .int) (.lst<|b.map .int)=Y (.bl<|decide<|a=b,C):=by unfold EV;rw[iz<|by simp[D.dep,yC]];simp[D.O1,Cq]
def KR: ∀(l m:ig),l.Nodup->(∀x∈l,x∈m)->Ls m<=Ls l->l.Perm m:=by
 intro k
 induction k with
 |nil=>intro m _ _ h;have:m=[]:=M4.mp (by simpa using h);subst this;exact wI _
 |cons x l j=>
  intro m a c h;rw[Am] at a;have g:=c x jc;have b:=HB g;refine((j (m.erase x) a.2 (λy d=>?_) ?_).cons x).trans b.symm
  .have f:=c y<|ji _ d;have i:y≠x:=λe=>a.1<|e▸d;exact(Em i).mpr f
  .have:=b.length_eq;simp only[kO] at this h
   lia
def Oi:x∈st n↔1<=x/\x<=n:=by
 simp only[st,lg,wx];constructor
 .rintro⟨k,h,rfl⟩;lia
 .rintro⟨h1,a⟩;exact⟨(x-1).toNat,by lia,by lia⟩
def ZP(n:Nat):(st n).Pairwise (· < ·):=by simp only[st];rw[mT];exact Sb.imp λh=>by lia
def Vb(n:Nat):(st n).Nodup:=(ZP n).imp λh=>by lia
def Jk{n:Nat}{l:ig}:l.Perm (st n)↔(Ls l)=n/\(∀x∈l,1<=x/\x<=n)/\l.Nodup:=by
 constructor
 .intro h;refine⟨by rw[h.length_eq];simp[st],λx a=>Oi.mp<|h.mem_iff.mp a,h.symm.nodup<|Vb n⟩
 .rintro⟨h1,b,c⟩;exact KR l (st n) c (λx a=>Oi.mpr<|b x a) (by simp[st,h1])
def adP{l:ig}{m:List D}(h:m.Perm (l.map D.int)): ∃k:List Int,m=k.map .int:=by
 refine⟨m.map λd=>match d with|D.int i=>i|_=>0,?_⟩;rw[jx]
 symm
 rw[mW (g:=id),sM];intro d hd;obtain⟨i,_,rfl⟩:=lg.mp<|h.mem_iff.mp hd;rfl
def aeQ: ∀l:List Int,(∀k,(nJ<|l.reverse.map .int).1 k=decide (k∈l.reverse))/\(nJ<|l.reverse.map .int).2<=Ls l/\((nJ<|l.reverse.map .int).2=(Ls l)↔l.Nodup):=by
 intro e
 induction e with
 |nil=>exact⟨λk=>by simp[nJ],by simp[nJ],by simp[nJ]⟩
 |cons x l d=>
  obtain⟨h1,f,c⟩:=d;rw[List.reverse_cons,qj,jG,uh,DA];refine⟨λk=>?_,?_,?_⟩
  .dsimp only;rw[h1 k];by_cases a:k∈l.reverse<;>by_cases b:k=x<;>simp_all
  .dsimp only;rw[kO];split<;>lia
  .dsimp only;rw[h1 x,Am];by_cases a:x∈l
   .simp only[c5,a,yR,kI,not_true_eq_false,false_and,iff_false,kO];lia
   .simp only[c5,a,decide_false,jy,jS,not_false_eq_true,true_and,kO];rw[<-c];lia
def SN(l:ig):(nJ<|l.map .int).2=(Ls l)↔l.Nodup:=by have:=(aeQ l.reverse).2.2;rw[List.reverse_reverse,NA,A0 l |>.nodup_iff] at this;exact this
def EU(pre:Dn)(x:Sl)(d:D):ik (Ls pre) d (pre++[x])=Y (pre++[Y (d,C)]):=by unfold ik;rw[iz<|by simp];simp[lV]
def RH(f:F)(g:D->D)(pre:Dn): ∀(l a:List D) (x:Sl),(∀d∈l,∃o,f (pre++[Y (d,C)])=Y ((g d,o),pre++[Y (d,C)]))->Ls a+Ls l<=sizeLine->
  ∃b,jH (ik<|Ls pre) jk (jm f) l a (pre++[x])=Y (a++l.map g,pre++[b]):=by
 intro n
 induction n with
 |nil=>intro a x _ _;exact⟨x,by simp[jH]⟩
 |cons d l m=>
  intro a x h c;obtain⟨o,hd⟩:=h d jc;obtain⟨b,e⟩:=m (a++[g d]) (Y (d,C)) (λi j=>h i<|ji _ j) (by simp at c ⊢;lia);refine⟨b,?_⟩;have k:(Ls a)<sizeLine:=by simp at c;lia
  rw[jH,EU];simp only[ju,rX,kI,vm];rw[hd];simp only[ju];rw[iz k];simp only[ju];rw[e];simp
def Yw(f:F)(g:D->Int)(pre:Dn): ∀(l a:List D) (x:Sl),(∀d∈l,∃o,f (pre++[Y (d,C)])=Y ((.int<|g d,o),pre++[Y (d,C)]))->Ls a+Ls l<=1000->
  ∃b,jH (ik<|Ls pre) jk (CM f) l a (pre++[x])=Y (a++l.map λd=> .int (g d),pre++[b]):=by
 intro n
 induction n with
 |nil=>intro a x _ _;exact⟨x,by simp[jH]⟩
 |cons d l m=>
  intro a x h c;obtain⟨o,hd⟩:=h d jc;obtain⟨b,e⟩:=m (a++[.int<|g d]) (Y (d,C)) (λi j=>h i<|ji _ j) (by simp at c ⊢;lia);refine⟨b,?_⟩;have p:gn=4096:=rfl;have k:(Ls a)+1<scanBound:=by simp at c;lia
  rw[jH,EU];simp only[ju,rX,kI,CM];rw[hd];simp only[ju];rw[iz k];simp only[ju];rw[e];simp
def D4(p:D->Bool): ∀l:List D,vJ (l.map λd=> .bl (p d))=Y (l.map p):=by
 intro b
 induction b with
 |nil=>exact H
 |cons d l a=>simp[vJ,a]
def Al(p:D->Bool)(l:List D):zL (.lst<|l.map λd=> .bl (p d))=Y (.bl<|l.all p,C):=by simp[zL,D4,ze,sQ]
def Hu(p:D->Bool)(l:List D):Ha (.lst<|l.map λd=> .bl (p d))=Y (.bl<|l.any p,C):=by simp[Ha,D4,wR,sQ]
noncomputable def ab(s:Int):Int:=if s<0 then -s else s
noncomputable def wh:D->Bool
 | .int _=>J
 |_=>C
def sg(n:Int):D->Bool
 | .int s=>decide (1<=ab s)&&decide (ab s<=n)
 |_=>C
noncomputable def BL:D->Int
 | .int s=>s
 |_=>0
def xQ(d:D):ox [(d,C)]=Y ((.bl<|wh d,C),[Y (d,C)]):=by
 cases d<;>simp[ox,Ag,Q1,iT,wh,L6]
def zH(d:D)(lo a:Int):lC [(d,C),(.int lo,C),(.int a,C)]=Y ((.bl (match d with| .int s=>decide (lo<=s)&&decide (s<=a)|_=>C),C),[Y (d,C),Y (.int lo,C),Y (.int a,C)]):=by
 cases d with
 |int s=>by_cases h:lo<=s<;>simp[lC,sv,Q1,iT,xQ,wh,iM,wb,Cn,lW,h]
 |_=>simp[lC,sv,Q1,iT,xQ,wh,iM,wb]
def KS(d:D)(n:Int):sA [(.int n,C),(d,C)]=Y ((.bl (match d with| .int s=>decide (1<=s)&&decide (s<=n)|_=>C),C),[Y (.int n,C),Y (d,C)]):=by simp[sA,Cd,Q1,iT,zH,iM,wb]
def SJ(n:Int)(d:D):nV [pI n,(d,C)]=Y ((.bl<|sg n d,C),[ii n,Y (d,C)]):=by
 cases d with
 |int s=>simp[nV,xv,Q1,iT,xQ,KS,wh,iM,wb,sg,ab];rfl
 |_=>simp[nV,xv,Q1,iT,xQ,KS,wh,iM,wb,sg,ab]
def Jb(h:sg n d=J):d= .int (BL d):=by cases d<;>simp_all [sg,BL]
def IQ(h:wh d=J):d= .int (BL d):=by cases d<;>simp_all [wh,BL]
def tB(n:Nat):D->Bool
 | .tup l=>decide (Ls l=n)&&(l.all (sg n)&&decide ((l.map λd=>ab<|BL d).Nodup))
 |_=>C
def lB(n:Nat):D->Bool
 | .tup l=>l.all wh&&decide ((l.map λd=>ab<|BL d).Perm<|st n)
 |_=>C
def Kj(n:Nat)(d:D):tB n d=lB n d:=by
 cases d with
 |tup l=>
  rw[tB,lB,yQ];simp only[kU,pz,kf,Jk,jf,lg];constructor
  .rintro⟨h1,a,b⟩;refine⟨λd hd=>?_,h1,?_,b⟩
   .rw[Jb<|a d hd];rfl
   .rintro x ⟨d,hd,rfl⟩;have:=a d hd;rw[Jb this] at this;simpa[sg] using this
  .rintro⟨h1,a,b,c⟩;refine⟨a,λd hd=>?_,c⟩;have:=b _ ⟨d,hd,rfl⟩;rw[IQ<|h1 d hd];simpa[sg] using this
 |_=>rfl
def uq(n:Nat)(d:D)(hd: ∀l,d= .tup l->Ls l<=60):kc [pI n,(d,C)]=Y ((.bl<|tB n d,C),[ii n,Y (d,C)]):=by
 cases d with
 |tup l=>
  have i:=hd l H;by_cases h1:(Ls l)=n
  .obtain⟨x1,b⟩:=RH (iB nV [hX 0,hX 1]) (λd=> .bl (sg n d)) [ii n] l [] I (λd _=>⟨C,by simp[SJ,iM,wb]⟩) (by rw[jT];simp;lia);simp only[c9,wy,kO,rK,uc] at b;by_cases a:l.all (sg n)=J
   .have h: ∀d∈l,∃o,iO (g1 De) [hX 0] ([]++[Y (d,C)])=Y ((.int<|ab<|BL d,o),([]++[Y (d,C)]:Dn)):=λd hd=>⟨C,by rw[kf] at a;rw[Jb<|a d hd];rfl⟩
    obtain⟨x2,c⟩:=Yw (iO (g1 De) [hX 0]) (λd=>ab<|BL d) [] l [] I h (by simp;lia);simp only[c9,wy,kO,rK] at c
    have e:(nJ<|l.map λd=>D.int<|ab<|BL d).2=(Ls l)↔(l.map λd=>ab<|BL d).Nodup:=by have:=SN<|l.map λd=>ab<|BL d;rw[jx,jf] at this;exact this
    have g:(((nJ<|l.map λd=>D.int<|ab<|BL d).2:Int)==(n:Int))=decide ((l.map λd=>ab<|BL d).Nodup):=by
     rw[vK,<-h1];by_cases q:(l.map λd=>ab<|BL d).Nodup
     .rw[lh q,e.mpr q];simp
     .rw[mr q];simp only[decide_eq_false_iff_not,mL];exact λz=>q<|e.mp z
    simp[kc,mF,Q1,L6,h1,jn,vD,jX,b,c,Al,a,iT,iM,wb,tB,g]
   .have f:l.all (sg n)=C:=by simpa using a
    simp[kc,mF,Q1,L6,h1,jn,vD,jX,b,Al,f,iT,iM,wb,tB]
  .have: ¬(((Ls l):Int)=(n:Int)):=by lia
   simp[kc,mF,Q1,L6,this,h1,iT,iM,wb,tB]
 |_=>simp[kc,mF,Q1,L6,iT,tB]
def Ol(d:D):Prop:= ∀l,d= .tup l->Ls l<=60
def ixl(a:0<=v)(h:v<L.length):Ct (.lst L) (.int v)=Y (L.getD v.toNat .T1,C):=by
 have h1:v.toNat<L.length:=by lia
 simp[Ct,JT,Gf,a,h,h1]
def P6{t:ig}{v:Int}(a:0<=v)(h:v<Ls t):Ct (.tup<|t.map .int) (.int v)=ii (t.getD v.toNat 0):=by
 have h1:v.toNat<(Ls t):=by lia
 simp[Ct,JT,Gf,a,h,h1]
def acj{t:ig}{v:Int}(a:0<=v)(h:v<Ls t):Ct (.lst<|t.map .int) (.int v)=ii (t.getD v.toNat 0):=by
 have h1:v.toNat<(Ls t):=by lia
 simp[Ct,JT,Gf,a,h,h1]
def vf(a:Int)(b:Bool)(m:Int)(i:0<m)(j:m<1073741824): ∃v c,0<=v/\v<m/\ ∀(d:FO) (δ:Dn) (o:Ax),d (SS a b::δ)=Y (o,SS a b::δ)->wu (SS a b::δ) o=ii m->iB jz [hX 0,d] (SS a b::δ)=Y ((.int v,C),SS c b::δ):=by
 obtain⟨v,c,f,h1,e⟩:=qR a b m i j;refine⟨v,c,f,h1,λd δ o g h=>?_⟩;refine(kn (os:=[.slot 0,o]) (args:=[pS a b,pI m]) (qM H g) ?_ ?_ e).trans ?_
 .simp[h]
 .cases o<;>simp[iM]
 .cases o<;>simp[wb]
noncomputable def led(u:ig)(s:Int):Int:=if 0<s then u.getD (s-1).toNat 0 else -(u.getD (-s-1).toNat 0)
def XN(u:ig)(s:Int)(a:s≠0)(h1: -((Ls u):Int)<=s)(b:s<=Ls u):
  ou [enc u,pI s]=Y ((.int<|led u s,C),[eN u,ii s]):=by
 simp only[ou,Af];by_cases h:0<s
 .have:=P6 (t:=u) (v:=s-1) (by lia) (by lia);simp only[Q1];simp[h,led,this,iT]
 .have:=P6 (t:=u) (v:= -s-1) (by lia) (by lia);simp only[Q1];simp[h,led,this,iT]
def aak(x:Int):oJ (.int x) (.int 1)=ii x:=by have:Dk x 1:= .inr (by lia);show((if Dk x 1 then Y (D.int<|x*1) else I).map λz=>(z,C))=_;rw[iz this,Bf];rfl
def aaj(x:Int):oJ (.int x) (.int (-1))=ii (-x):=by have:Dk x (-1):= .inr (by lia);show((if Dk x (-1) then Y (D.int<|x*(-1)) else I).map λz=>(z,C))=_;rw[iz this,u5,Bf];rfl
theorem pm0:Ct (.lst [.int 1,.int (-1)]) (.int 0)=ii 1:=rfl
theorem pm1:Ct (.lst [.int 1,.int (-1)]) (.int 1)=ii (-1):=rfl
def Ub(u:ig)(s:Int)(b:s≠0)(h1: -((Ls u):Int)<=s)(c:s<=Ls u):
  lq [enc u,pI s]=Y ((.int<|led u s,C),[eN u,ii s]):=by
 simp only[lq,oW];by_cases h:0<s
 .have:=P6 (t:=u) (v:=s-1) (by lia) (by lia);have a: ¬s<0:=by lia
  simp only[Q1];simp[h,a,led,this,iT,jT,pm0,aak]
 .have:=P6 (t:=u) (v:= -s-1) (by lia) (by lia);have a:s<0:=by lia
  simp only[Q1];simp[h,a,led,this,iT,jT,pm1,aaj]
def Gi(a:Int)(b:Bool)(m:Int)(k:0<m)(l:m<1073741824): ∃v f,0<=v/\v<m/\ ∀(g:FO) (c d:Sl) (δ:Dn) (o:Ax),g (c::d::SS a b::δ)=Y (o,c::d::SS a b::δ)->wu (c::d::SS a b::δ) o=ii m->iB jz [hX 2,g] (c::d::SS a b::δ)=Y ((.int v,C),c::d::SS f b::δ):=by
 obtain⟨v,f,h,h1,e⟩:=qR a b m k l;refine⟨v,f,h,h1,λg c d δ o i j=>?_⟩;refine(kn (os:=[.slot 2,o]) (args:=[pS a b,pI m]) (qM H i) ?_ ?_ e).trans ?_
 .simp[j]
 .cases o<;>simp[iM]
 .cases o<;>simp[wb]
def P1(n:Nat)(c:ig):Prop:=c≠[]/\(c.map ab).Pairwise (· < ·)/\ ∀s∈c,1<=ab s/\ab s<=n
def CA(j:Int)(c:ig):Prop:=(c.map ab).Pairwise (· < ·)/\ ∀s∈c,1<=ab s/\ab s<j
def qf(h:0<=i):ab i=i:=by unfold ab;rw[iG<|by lia]
def FY(h:0<=i):ab (-i)=i:=by unfold ab;split<;>lia
def CA.snoc{j s:Int}{c:ig}(h:CA j c)(h1:ab s=j)(e:1<=j):CA (j+1) (c++[s]):=by
 refine⟨?_,λx a=>?_⟩
 .rw[qj,tu];refine⟨h.1,by simp,λx a y b=>?_⟩;obtain⟨z,d,rfl⟩:=lg.mp a;simp at b;subst b;have:=h.2 z d;lia
 .rcases qh.mp a with a|a
  .have:=h.2 x a;lia
  .simp at a;subst a;lia
def CA.up(h:CA j c):CA (j+1) c:=⟨h.1,λx a=>by have:=h.2 x a;lia⟩
def aek{i:Nat}{f:F}{a δ1:Dn}{r:D×Bool}{l0 l:List D}(b:a[i]?=Y (Y (.lst l0,J)))(h1:f a=Y (r,δ1))(c:δ1[i]?=Y (Y (.lst l,J)))(d:(Ls l)<=10000):
  iA (lS<|mK i f) iN a=Y (.nx<|δ1.set i<|Y (.lst<|l++[r.1],J)):=
 (il<|kX<|pX b h1 c<|AE d).trans rfl
def Lg(h1:f δ=Y (o1,δ1))(a:g δ1=Y (o2,δ2))(b:res δ2 o1=Y (.int i))(c:res δ2 o2=Y (.int j))(d:0<=i/\i<=1000)(e:0<=j/\j<=1000):BZ f g δ=Y (jh i (j-i).toNat,δ2):=by unfold BZ;rw[qM h1 a];simp only[ju,WI,SU,b,c];rw[iz ⟨by lia,by lia,by lia,by lia⟩]
def mV(h:f δ=Y ((.lst l,o),δ1)):jB f δ=Y (l,δ1):=by unfold jB;rw[h];rfl
def oI{b:Type}[BEq b][LawfulBEq b]: ∀(l m:List b),l.Nodup->(∀x∈l,x∈m)->Ls l<=(Ls m):=by
 intro n
 induction n with
 |nil=>intro m _ _;exact lP _
 |cons x l k=>
  intro m a c;rw[Am] at a;have i:=c x jc;have h:=HB i
  have:=k (m.erase x) a.2 (λy d=>by have f:=c y<|ji _ d;have j:y≠x:=λe=>a.1<|e▸d;exact(Em j).mpr f)
  have g:=h.length_eq;simp only[kO] at g ⊢
  lia
def DF{l:ig}(h:l.Pairwise (· < ·)):l.Nodup:=h.imp λh=>by lia
def P1.len{n:Nat}{c:ig}(h:P1 n c):(Ls c)<=n:=by
 have:=oI (c.map ab) (st n) (DF h.2.1) (λx b=>by obtain⟨s,a,rfl⟩:=lg.mp b;exact Oi.mpr<|h.2.2 s a)
 simpa[st] using this
def TOk(n:Nat)(t:ig):Prop:=Ls t=n/\ ∀x∈t,1<=ab x/\ab x<=n
def nZ(i:Int):ab (-i)=ab i:=by unfold ab;split<;>split<;>lia
def lG{l:ig}{k:Nat}(h:k<Ls l):l.getD k 0∈l:=by rw[lO,jg h];exact yU h
def XO{n:Nat}{t:ig}(b:TOk n t){s:Int}(h1:1<=ab s)(a:ab s<=n):1<=ab (led t s)/\ab (led t s)<=n:=by
 unfold led;unfold ab at h1 a;have c:=b.1;split
 .rename_i h;rw[iG<|by omega] at h1 a;exact b.2 _ (lG<|by omega)
 .rename_i h;rw[nZ];split at h1
  .rw[iz<|by assumption] at a;exact b.2 _ (lG<|by omega)
  .omega
noncomputable abbrev cD(c:ig):D:= .tup (c.map .int)
def Cw(c:ig):D.dep (cD c)=1:=by simp[D.dep,yC]
def vG: ∀a:List (List Int),D.OO (a.map cD)<=1:=by
 intro d
 induction d with
 |nil=>simp[D.OO]
 |cons c a b=>have:=b;simp only[jG,D.OO,Cw];lia
def FC(a b:ig):D.O1 (cD a) (cD b)=decide (a=b):=by simp[D.O1,Cq]
def CP(c:ig): ∀a:List (List Int),(a.map cD).any (λd=>D.O1 d<|cD c)=decide (c∈a):=by
 intro f
 induction f with
 |nil=>simp
 |cons x a b=>
  simp only[jG,wz,b,FC,mz];by_cases h:x=c
  .simp[h]
  .have: ¬c=x:=λe=>h e.symm;simp[h,this]
def rk(c:ig)(a:iC):mP (cD c) (.lst<|a.map cD)=Y (.bl (!decide (c∈a)),C):=by
 have:inD (cD c) (.lst<|a.map cD)=Y (decide<|c∈a):=by have hd:=vG a;show(if D.OO (a.map cD)<=50/\(cD c).dep<=50 then Y ((a.map cD).any λd=>D.O1 d<|cD c) else I)=_;rw[iz ⟨by lia,by rw[Cw];lia⟩,CP]
 unfold mP;rw[this];rfl
noncomputable def CV:Nat->List (List Int)
 |0=>[[]]
 |k+1=>CV k++((CV k).map λc=>c++[(k:Int)+1])++((CV k).map λc=>c++[-((k:Int)+1)])
def RP: ∀(k:Nat) (c:ig),(c.map ab).Pairwise (· < ·)->(∀s∈c,1<=ab s/\ab s<=k)->c∈CV k:=by
 intro j
 induction j with
 |zero=>
  intro c _ h
  cases c with
  |nil=>simp[CV]
  |cons s c=>have:=h s jc;lia
 |succ k f=>
  intro c b h;simp only[CV,qh,lg];by_cases d:c=[]
  .subst d;exact .inl<|.inl<|f [] (by simp) (by simp)
  .have hd:=HA d;generalize c.dropLast=i at hd;generalize c.getLast d=s at hd;subst hd;rw[qj,tu] at b;have l:=h s (by simp);have g: ∀x∈i,1<=ab x/\ab x<ab s:=λx a=>⟨(h x<|by simp[a]).1,b.2.2 (ab x) (oR a) (ab s)<|by simp⟩
   by_cases q:ab s<=k
   .refine .inl (.inl<|f _ ?_ λx a=>?_)
    .rw[qj,tu];exact b
    .rcases qh.mp a with a|a
     .have:=g x a;lia
     .simp at a;subst a;lia
   .have e:ab s=(k:Int)+1:=by lia
    have hk:=f i b.1 λx a=>by have:=g x a;lia
    unfold ab at e;split at e
    .exact .inr ⟨i,hk,by rw[show s= -((k:Int)+1) by lia]⟩
    .exact .inl (.inr ⟨i,hk,by rw[show s=((k:Int)+1) by lia]⟩)
def ae1: ∀(k:Nat) (n:Nat),n<=k->(CV n).length<=(CV k).length:=by
 intro b
 induction b with
 |zero=>intro n h;rw[show n=0 by lia];exact jM _
 |succ k a=>
  intro n h;by_cases e:n=k+1
  .subst e;exact jM _
  .have:=a n (by lia);simp only[CV,mX,jf];lia
def CK(n:Nat)(cs:iC):Prop:=cs.Nodup/\ ∀c∈cs,P1 n c
def CK.len(b:n<=5)(h:CK n cs):(Ls cs)<=243:=by
 have h1:=oI cs (CV n) h.1 λc a=>RP n c (h.2 c a).2.1 (h.2 c a).2.2;have d:=ae1 5 n b;have e:(CV 5).length=243:=by decide
 lia
def CK.snoc{n:Nat}{b:iC}{c:ig}(h:CK n b)(f:P1 n c)(g:c∉b):CK n (b++[c]):=by
 refine⟨?_,λx a=>?_⟩
 .rw[AA];exact⟨h.1,by simp,λx a y d e=>by simp at d;subst d;subst e;exact g a⟩
 .rcases qh.mp a with a|a
  .exact h.2 x a
  .simp at a;subst a;exact f
abbrev Aq(cs:iC):Sl:=Y (.lst<|cs.map cD,J)
noncomputable def ml(a:iC)(c:ig):List (List Int):=if c∈a then a else a++[c]
def dd(cs:iC):List (List Int):=cs.foldl ml []
def FX(a:iC)(c:ig):oz (a.map cD) (cD c)=(ml a c).map cD:=by unfold oz ml;rw[show(a.map cD).any (D.O1 · (cD c))=decide (c∈a) from CP c a];by_cases h:c∈a<;>simp[h]
def RW:x∈ml a c↔x∈a\/x=c:=by
 unfold ml;by_cases h:c∈a
 .rw[iz h];constructor
  .exact .inl
  .rintro(h1|rfl)
   .exact h1
   .exact h
 .rw[iG h];simp
def vC: ∀(cs a:iC) (x:ig),x∈cs.foldl ml a↔x∈a\/x∈cs:=by
 intro d
 induction d with
 |nil=>intro a x;simp
 |cons c cs b=>intro a x;rw[rP,b,RW,mz,or_assoc]
def LK(h:f.Nodup):(ml f c).Nodup:=by
 unfold ml;split
 .exact h
 .rename_i b;rw[AA];exact⟨h,by simp,λx d y a e=>by simp at a;subst a;subst e;exact b d⟩
def Ci: ∀(cs a:iC),a.Nodup->(cs.foldl ml a).Nodup:=by
 intro d
 induction d with
 |nil=>intro a h;exact h
 |cons c cs b=>intro a h;rw[rP];exact b _ (LK h)
def ya: ∀l:List Int,D.JJ (l.map .int)=J:=by
 intro b
 induction b with
 |nil=>simp[D.JJ]
 |cons x l a=>simp[D.JJ,D.pr,a]
def Jw(c:ig):BJ (cD c)=J:=by simp[BJ,ya,yC]
def qI(cs:iC):(cs.map cD).all BJ=J:=by rw[kf];intro d hd;obtain⟨c,_,rfl⟩:=lg.mp hd;exact Jw c
theorem zU(c:cB): ∀a b:List Int,(qc c (a.map .int)<|b.map .int).isSome=J
 |[],b=>by simp[qc]
 |x::a,[]=>by simp[qc]
 |x::a,y::b=>by
  simp only[jG,qc];split
  .exact zU c a b
  .simp[nD]
def qW(cs:iC)(h: ∀c∈cs,c≠[]):mO (cs.map cD)=J:=by
 have hk: ∀c:List Int,c≠[]->ly (cD c)=Y 1:=λc g=>by
  cases c with
  |nil=>exact absurd H g
  |cons=>rfl
 unfold mO
 cases cs with
 |nil=>rfl
 |cons c cs=>
  rw[yZ];right;simp only[jG];rw[kU,kU,hk c<|h c jc];refine⟨⟨rfl,?_⟩,?_⟩
  .rw[kf];intro d hd;rw[<-jG (f:=cD)] at hd;obtain⟨x,b,rfl⟩:=lg.mp hd;rw[hk x<|h x b,Cw];simp[D.pr,ya]
  .rw[kf];intro d hd;rw[kf];intro e a;rw[<-jG (f:=cD)] at hd a;obtain⟨x,b,rfl⟩:=lg.mp hd;obtain⟨y,i,rfl⟩:=lg.mp a;rw[nD,iz H];exact zU _ _ _
def IS:D->List Int
 | .tup l=>l.map BL
 |_=>[]
def lI(c:ig):IS (cD c)=c:=by simp only[IS,jx];rw[mW (g:=id),sM];intro x _;rfl
def Cy(h:m.Perm (cs.map cD)): ∃a:List (List Int),m=a.map cD/\a.Perm cs:=by
 refine⟨m.map IS,?_,?_⟩
 .rw[jx]
  symm
  rw[mW (g:=id),sM];intro d hd;obtain⟨c,_,rfl⟩:=lg.mp<|h.mem_iff.mp hd;simp only[aX,lI];rfl
 .have:=h.map IS;rw[jx] at this;rw[show fw (IS∘cD) cs=fw id cs from mW λc _=>lI c,sM] at this;exact this
def E9(c:iC):Prop:=c.Pairwise λa b=>BN (cD b) (cD a)=C
def E9.take(h:E9 a)(m:Nat):E9 (a.take m):=sm (zj m a) h
def CK.take(h:CK n a)(m:Nat):CK n (a.take m):=⟨List.Nodup.sublist (zj m a) h.1,λc b=>h.2 c<|tY b⟩
def ph(n:Nat)(a:iC):Prop:=n<=5/\CK n a/\E9 a/\(Ls a)<=30
abbrev GI(n:Nat)(a:iC):D:= .tup [.int n,.tup<|a.map cD]
abbrev rS(n:Nat)(a:iC):Sl:=Y (GI n a,C)
noncomputable abbrev C7(a:List D):Dn:=a.map λd=>Y (d,C)
theorem uG: ∀(os:List Ax) (a:List D),iM os (a.map λd=>(d,C))=[]
 |[],_=>by simp[iM]
 |_::_,[]=>by simp[iM]
 |o::os,d::a=>by cases o<;>simp[iM,uG os a]
theorem Ga: ∀(os:List Ax) (b:List D) (a c:Dn),wb os (b.map λd=>(d,C)) a c=c
 |[],_,_,_=>by simp[wb]
 |_::_,[],_,_=>by simp[wb]
 |_::_,_::_,[],_=>by simp[wb]
 |o::os,d::b,x::xs,c=>by cases o<;>simp[wb,Ga os b xs]
def Yx{f:F}{ti:FT}{g:D->D}{p:D->Bool}{pre:Dn}: ∀(l a:List D) (x:Sl),(∀d∈l,ti (pre++[Y (d,C)])=Y (p d,pre++[Y (d,C)])/\(p d=J-> ∃o,f (pre++[Y (d,C)])=Y ((g d,o),pre++[Y (d,C)])))->Ls a+Ls l<=sizeLine->
  ∃b,jH (ik<|Ls pre) ti (jm f) l a (pre++[x])=Y (a++(l.filter p).map g,pre++[b]):=by
 intro r
 induction r with
 |nil=>intro a x _ _;exact⟨x,by simp[jH]⟩
 |cons d l m=>
  intro a x h j;obtain⟨h1,n⟩:=h d jc;have q:(Ls a)<sizeLine:=by simp at j;lia
  rw[jH,EU];simp only[ju];rw[h1]
  cases k:p d with
  |false=>obtain⟨b,e⟩:=m a (Y (d,C)) (λc i=>h c<|ji _ i) (by simp at j ⊢;lia);exact⟨b,by simp[e,k]⟩
  |true=>obtain⟨o,hd⟩:=n k;obtain⟨b,e⟩:=m (a++[g d]) (Y (d,C)) (λc i=>h c<|ji _ i) (by simp at j ⊢;lia);refine⟨b,?_⟩;simp only[ju,kI,vm];rw[hd];simp only[ju];rw[iz q];simp only[ju];rw[e];simp[k]
def CB{caps:jw}{fi:Cf}{f:F}{ti:FT}{δ δ1:Dn}{l args:List D}(g:D->D)(p:D->Bool)(h1:fi δ=Y (l,δ1))(a:jo δ1 (caps.map .slot)=Y (args.map λd=>(d,C)))(b:(Ls args)=Ls caps)
  (h: ∀d∈l,ti (C7 args++[Y (d,C)])=Y (p d,C7 args++[Y (d,C)])/\(p d=J-> ∃o,f (C7 args++[Y (d,C)])=Y ((g d,o),C7 args++[Y (d,C)])))(c:(Ls l)<=10000):
  jn caps 1 fi (ik<|Ls caps) ti (jm f) δ=Y ((.lst<|(l.filter p).map g,J),δ1):=by
 obtain⟨i,e⟩:=Yx (f:=f) (ti:=ti) (g:=g) (p:=p) (pre:=C7 args) l [] I h (by rw[jT];simp;lia);unfold jn;rw[h1];simp only[ju];rw[a];simp only[ju,uG,nH,kI,jx,Ga];rw[show ik (Ls caps)=ik (C7 args).length from by rw[jf,b]];rw[show((args.map<|Y∘λd=>(d,C))++ah 1 I:Dn)=C7 args++[I] from H,e];simp
def uV{caps:jw}{fi:Cf}{f:F}{δ δ1:Dn}{l args:List D}(g:D->D)(h1:fi δ=Y (l,δ1))(a:jo δ1 (caps.map .slot)=Y (args.map λd=>(d,C)))(b:(Ls args)=Ls caps)
  (h: ∀d∈l,∃o,f (C7 args++[Y (d,C)])=Y ((g d,o),C7 args++[Y (d,C)]))(c:(Ls l)<=10000):
  jn caps 1 fi (ik<|Ls caps) jk (jm f) δ=Y ((.lst<|l.map g,J),δ1):=by
 rw[CB g (λ_=>J) h1 a b (λd hd=>⟨rfl,λ_=>h d hd⟩) c,YF.mpr λ_ _=>rfl]
def yD{caps:jw}{fi:Cf}{f:F}{δ δ1:Dn}{l args:List D}(p:D->Bool)(h1:fi δ=Y (l,δ1))(a:jo δ1 (caps.map .slot)=Y (args.map λd=>(d,C)))(b:(Ls args)=Ls caps)
  (h: ∀d∈l,∃o,f (C7 args++[Y (d,C)])=Y ((.bl<|p d,o),C7 args++[Y (d,C)]))(c:(Ls l)<=10000):
  iO (g1 zL) [iu<|jn caps 1 fi (ik<|Ls caps) jk<|jm f] δ=Y ((.bl<|l.all p,C),δ1):=
 ot (uP<|iU<|uV (λd=> .bl (p d)) h1 a b h c) rfl (Al p l)
def RA{caps:jw}{fi:Cf}{f:F}{δ a:Dn}{l args:List D}(p:D->Bool)(h1:fi δ=Y (l,a))(b:jo a (caps.map .slot)=Y (args.map λd=>(d,C)))(c:(Ls args)=Ls caps)
  (h: ∀d∈l,∃o,f (C7 args++[Y (d,C)])=Y ((.bl<|p d,o),C7 args++[Y (d,C)]))(e:(Ls l)<=10000):
  iO (g1 Ha) [iu<|jn caps 1 fi (ik<|Ls caps) jk<|jm f] δ=Y ((.bl<|l.any p,C),a):=
 ot (uP<|iU<|uV (λd=> .bl (p d)) h1 b c h e) rfl (Hu p l)
def acx{f:F}{c:Cf}{g:D->D->D}{m:List D}(r: ∀d y,c [Y (d,C),y]=Y (m,[Y (d,C),y])): ∀(l a:List D) (x y:Sl),(∀d∈l,∀e∈m,∃o,f [Y (d,C),Y (e,C)]=Y ((g d e,o),[Y (d,C),Y (e,C)]))->Ls a+(Ls l)*(Ls m)<=sizeLine->
  ∃v b,jH (ik 0) jk (FR c (ik 1) jk<|jm f) l a [x,y]=Y (a++l.flatMap λd=>m.map<|g d,[v,b]):=by
 intro u
 induction u with
 |nil=>intro a x y _ _;exact⟨x,y,by simp[jH]⟩
 |cons d l t=>
  intro a x y h s;have A:(Ls a)+Ls m+(Ls l)*(Ls m)<=sizeLine:=by simp[d0] at s;omega
  obtain⟨b,j⟩:=RH f (g d) [Y (d,C)] m a y (λe q=>h d jc e q) (by omega);obtain⟨x2,w,k⟩:=t (a++m.map (g d)) (Y (d,C)) b (λi n=>h i<|ji _ n) (by simp;omega);refine⟨x2,w,?_⟩;rw[jH];rw[show ik 0 d [x,y]=Y [Y (d,C),y] from H];simp only[ju,rX,kI];unfold FR;rw[r];simp only[ju];rw[show jH (ik 1) jk (jm f) m a [Y (d,C),y]=_ from j];simp only[ju];rw[show jH (ik 0) jk (λa z=>(c z).bind λp=>jH (ik 1) jk (jm f) p.1 a p.2) l (a++m.map (g d)) ([Y (d,C)]++[b])=_ from k];simp
def Yo{fi fi2:Cf}{f:F}{δ δ1:Dn}{l m:List D}(g:D->D->D)(h1:fi δ=Y (l,δ1))(a: ∀d y,fi2 [Y (d,C),y]=Y (m,[Y (d,C),y]))(h: ∀d∈l,∀e∈m,∃o,f [Y (d,C),Y (e,C)]=Y ((g d e,o),[Y (d,C),Y (e,C)]))(b:(Ls l)*(Ls m)<=10000):
  jn [] 2 fi (ik 0) jk (FR fi2 (ik 1) jk<|jm f) δ=Y ((.lst<|l.flatMap λd=>m.map<|g d,J),δ1):=by
 obtain⟨c,i,e⟩:=acx (f:=f) (g:=g) a l [] I I h (by rw[jT];simp;lia);unfold jn;rw[h1];simp only[ju,uh,L8,iM,nH,kI,wy,ui,ee];rw[e];simp[wb]
def oh{tg:Tg}{fb:FS}(U:List D->Dn->Prop)(step: ∀d ds δ,U (d::ds) δ-> ∃δ1 δ2,tg d δ=Y δ1/\fb δ1=Y (.nx δ2)/\U ds δ2): ∀(ds:List D) (δ:Dn),U ds δ-> ∃a,U [] a/\vQ tg fb ds δ=Y (.nx a):=by
 intro i
 induction i with
 |nil=>intro δ h;exact⟨δ,h,rfl⟩
 |cons d ds g=>intro δ h;obtain⟨δ1,δ2,h1,b,c⟩:=step d ds δ h;obtain⟨a,e,f⟩:=g δ2 c;refine⟨a,e,?_⟩;unfold vQ;rw[h1];simp only[ju];rw[b];exact f
def rB{caps:jw}{k:Nat}{fi:Cf}{b:Tg}{ti:FT}{a:FB}{δ δ1 δ':Dn}{l acc:List D}{args:List (D×Bool)}(h1:fi δ=Y (l,δ1))(c:jo δ1 (caps.map .slot)=Y args)(d:(iM (caps.map .slot) args).Nodup)(e:jH b ti a l [] (args.map Y++ah k I)=Y (acc,δ')):
  jn caps k fi b ti a δ=Y ((.lst acc,J),wb (caps.map .slot) args (iT args δ') δ1):=by
 unfold jn;rw[h1];simp only[ju];rw[c];simp only[ju];rw[iz d,e];rfl
noncomputable def RK:D->Bool
 | .int i=>decide (0<=i)&&decide (i<=1)
 |_=>C
def Yy(d:D):rC [(d,C)]=Y ((.bl<|RK d,C),[Y (d,C)]):=by
 cases d<;>simp[rC,DT,Q1,iT,zH,iM,wb,RK]
def isA(n:Nat):D->Bool
 | .tup l=>decide (Ls l=n)&&l.all RK
 |_=>C
def Fy(h:f δ=Y ((.bl J,o),δ1)):zQ f g δ=g δ1:=by rw[OR,h];rfl
def JN(h:f δ=Y ((.bl C,o),δ1)):zQ f g δ=Y ((.bl C,C),δ1):=by rw[OR,h];rfl
def Eb(n:Nat)(d:D)(hd:Ol d):mf [pI n,(d,C)]=Y ((.bl<|isA n d,C),[ii n,Y (d,C)]):=by
 cases d with
 |tup l=>
  have c:=yD (caps:=[]) (fi:=jB<|jX 1) (f:=iB rC [hX 0]) (δ:=[ii n,Y (.tup l,C)]) (l:=l) (args:=[]) RK H H H (λd _=>⟨C,by simp[Yy,iM,wb]⟩) (by have:=hd l H;lia)
  have e:iF EV V5 (hX 0) [ii n,Y (.tup l,C)]=Y ((.bl<|decide<|Ls l=n,C),[ii n,Y (.tup l,C)]):=by simp[vK,mL]
  refine kF (δ:=[ii n,Y (.tup l,C)]) ⟨rfl,by decide,rfl⟩<|jF<|kh<|(Fy H).trans ?_;rw[isA];by_cases h:(Ls l)=n
  .rw[lh h] at e ⊢;exact(Fy e).trans c
  .rw[mr h] at e ⊢;exact JN e
 |_=>simp[mf,yv,Q1,iT,L6,isA]
noncomputable def Bt:D->List D
 | .tup l=>l
 | .lst l=>l
 |_=>[]
def I9(t:ig)(s:Int):Bool:=t.getD ((ab s).toNat-1) 0==(if s>0 then 1 else 0)
def ack(t:ig)(s:Int)(h:1<=ab s/\ab s<=Ls t):Ct (.tup<|t.map .int) (.int<|ab s-1)=ii (t.getD ((ab s).toNat-1) 0):=by
 have h1:0<=ab s-1:=by lia
 have b:ab s-1<((t.map D.int).length:Int):=by simp;lia
 have c:(ab s-1).toNat=(ab s).toNat-1:=by lia
 have d:(ab s).toNat-1<(Ls t):=by lia
 have a:Gf (t.map D.int).length (ab s-1)=Y ((ab s).toNat-1):=by unfold Gf;rw[iz h1,iz b,c]
 rw[jf] at a;simp[Ct,JT,a,d]
def Vc(t:ig)(s:Int)(h:1<=ab s/\ab s<=Ls t):uR [enc t,pI s]=Y ((.bl<|I9 t s,C),[eN t,ii s]):=by have:=ack t s h;unfold ab at this;by_cases a:s>0<;>simp[uR,Hd,Q1,iT,this,a,I9,ab]
def kC(t c:ig):Bool:=c.any<|I9 t
def Jt(p:Int->Bool)(c:ig):(c.map D.int).any (λd=>p<|BL d)=c.any p:=by simp[wR,sQ,BL]
def aar(n:Nat)(i:n<=5)(t c:ig)(j:(Ls t)=n)(e:P1 n c)(a:Ap)(g: ∀s,1<=ab s/\ab s<=Ls t->a [enc t,pI s]=Y ((.bl<|I9 t s,C),[eN t,ii s])):
  Q1 2 2 [] (iA (kH<|iO (g1 Ha) [iu<|jn [0] 1 xN (ik 1) jk<|jm<|iB a [hX 0,hX 1]]) iN) [enc t,enc c]=Y ((.bl<|kC t c,C),[eN t,eN c]):=by
 have b:=RA (caps:=[0]) (fi:=jB<|jX 1) (f:=iB a [hX 0,hX 1]) (δ:=[eN t,eN c]) (l:=c.map .int) (args:=[cD t]) (λd=>I9 t<|BL d) H H H (λd hd=>⟨C,by obtain⟨s,h,rfl⟩:=lg.mp hd;have:=e.2.2 s h;simp[g s<|by lia,iM,wb,BL]⟩) (by have:=P1.len e;simp;lia)
 rw[Jt] at b;exact kF ⟨rfl,by decide,rfl⟩<|jF<|kh b
def XW{n:Nat}(b:n<=5){t c:ig}(d:(Ls t)=n)(a:P1 n c):oN [enc t,enc c]=Y ((.bl<|kC t c,C),[eN t,eN c]):=aar n b t c d a _ λs h=>Vc t s h
def kB(n:Nat)(a:iC)(d:D):Bool:=isA n d&&a.all (kC<|(Bt d).map BL)
def Uo(h:isA n d=J): ∃t:List Int,d=cD t/\(Ls t)=n:=by
 cases d with
 |tup l=>
  rw[isA,kU,pz,kf] at h;refine⟨l.map BL,?_,by simp[h.1]⟩;rw[cD,jx]
  congr 1
  rw[mW (g:=id),sM];intro x a;have:=h.2 x a;cases x<;>simp[RK,BL] at this ⊢
 |_=>cases h
def UR{n:Nat}(k:n<=5){a:iC}(hk: ∀c∈a,P1 n c)(j:(Ls a)<=30){t:ig}(m:(Ls t)=n){b:Ap}(e: ∀c,P1 n c->b [enc t,enc c]=Y ((.bl<|kC t c,C),[eN t,eN c])){fi:Cf}{δ:Dn}{i:Nat}(h:δ[i]?=Y (eN t))(h1:fi δ=Y (a.map cD,δ)):
  iO (g1 zL) [iu<|jn [i] 1 fi (ik 1) jk<|jm<|iB b [hX 0,hX 1]] δ=Y ((.bl<|a.all<|kC t,C),δ):=by
 have:=yD (caps:=[i]) (fi:=fi) (f:=iB b [hX 0,hX 1]) (δ:=δ) (l:=a.map cD) (args:=[cD t]) (λd=>kC t<|(Bt d).map BL) h1 (by simp[h]) H (λd hd=>⟨C,by obtain⟨c,g,rfl⟩:=lg.mp hd;simp[e c<|hk c g,iM,wb,Bt,sQ,BL]⟩) (by simp;lia)
 refine this.trans ?_;simp[ze,sQ,Bt,BL]
def BY{n:Nat}{a:iC}(h:ph n a)(d:D)(hd:Ol d):qa [(GI n a,C),(d,C)]=Y ((.bl<|kB n a d,C),[rS n a,Y (d,C)]):=by
 let δ:Dn:=[rS n a,Y (d,C),ii n,Y (.tup<|a.map cD,C)]
 have e:iB mf [hX 2,hX 1] δ=Y ((.bl<|isA n d,C),δ):=kn (os:=[.slot 2,.slot 1]) (args:=[pI n,(d,C)]) H H nH<|Eb n d hd;refine kF (δ:=δ) ⟨rfl,by decide,rfl⟩<|(il (δ1:=δ) H).trans<|jF<|kh ?_;rw[kB]
 cases b:isA n d with
 |false=>rw[b] at e;exact JN e
 |true=>rw[b] at e;refine(Fy e).trans ?_;obtain⟨t,rfl,f⟩:=Uo b;refine(UR h.1 h.2.1.2 h.2.2.2 f (λc g=>XW h.1 f g) (i:=1) H H).trans ?_;simp[Bt,sQ,BL]
noncomputable def jP:Nat->List (List Int)
 |0=>[[]]
 |n+1=>(jP n).flatMap λt=>[t++[0],t++[1]]
theorem Ed: ∀n:Nat,(jP n).length=2^n
 |0=>rfl
 |n+1=>by
  rw[jP,List.length_flatMap,vT,<-Ed n];generalize jP n=L
  induction L with
  |nil=>rfl
  |cons t L a=>simp at a ⊢;lia
def yO: ∀{n:Nat} {t:ig},t∈jP n->Ls t=n/\ ∀x∈t,x=0\/x=1:=by
  intro e
  induction e with
  |zero=>intro t h;simp[jP] at h;simp[h]
  |succ n d=>
    intro t h;rw[jP,vN] at h;obtain⟨u,c,h⟩:=h;obtain⟨h1,b⟩:=d c;simp only[mz,ql,or_false] at h
    rcases h with rfl|rfl<;>
      (refine⟨by simp[h1],λx a=>?_⟩
       rcases qh.mp a with a|a
       · exact b x a
       · simp at a;simp[a])
def RS{n:Nat}(a:n<=5):(jP n).length<=32:=by rw[Ed];exact wF (n:=2) (by decide) a
noncomputable abbrev UL:List D:=[.int 0,.int 1]
def RY(d e:D):D:= .tup (Bt d++[e])
def RX(L:iC):(L.map cD).flatMap (λd=>UL.map<|RY d)=(L.flatMap λt=>[t++[0],t++[1]]).map cD:=by simp[List.flatMap_map,List.map_flatMap,RY,Bt,cD]
def UX(t:ig)(a:(Ls t)<=100)(e:D):iF uK (hX 0) VY [Y (cD t,C),Y (e,C)]=Y ((RY (cD t) e,C),[Y (cD t,C),Y (e,C)]):=by
 have:=jT;have h:(Ls t)<=16777215:=by lia
 simp[jX,this,uK,RY,Bt,h]
def aff(δ:Dn):jB V6 δ=Y (UL,δ):=by simp[jT]
def afs{n:Nat}(a:n<=5):2^n<=32:=wF (n:=2) (by decide) a
abbrev fbA:FS:=zC4
def adm{n:Nat}(k:n<=5):qb [pI n]=Y ((.lst<|(jP n).map cD,J),[ii n]):=by
 let z:Sl:=ii n
 obtain⟨i,⟨j,x,a,rfl⟩,e⟩:=oh (tg:=ik 2) (fb:=fbA) (λb δ=> ∃j x,j+Ls b=n/\δ=[z,Y (.lst<|(jP j).map cD,J),x]) (λd b δ g=>by
  obtain⟨j,x,a,e⟩:=g;subst e
  have c:=Yo (fi:=jB<|jX 1) (fi2:=jB V6) (f:=iF uK (hX 0) VY) (δ:=[z,Y (.lst<|(jP j).map cD,J),Y (d,C)]) (δ1:=[z,Y (.lst<|(jP j).map cD,C),Y (d,C)]) (l:=(jP j).map cD) (m:=UL) RY H (λd y=>aff _) (λd hd e _=>by obtain⟨t,h,rfl⟩:=lg.mp hd;exact⟨C,UX t (by have:=(yO h).1;simp at a;lia) e⟩) (by have:=RS (n:=j) (by lia);simp;lia)
  rw[RX] at c;exact⟨_,_,rfl,(il<|jD c (show 1<3 by decide)).trans H,j+1,_,by simp at a;lia,rfl⟩) (jh 0 n) [z,Y (.lst<|(jP 0).map cD,J),I] ⟨0,I,by simp[jh],rfl⟩
 have:j=n:=by simpa using a
 subst this;exact kF (δ:=[z,I,x]) ⟨rfl,by decide,rfl⟩<|(il (δ1:=[z,Y (.lst<|(jP 0).map cD,J),I]) H).trans<|(il<|(lM<|qy (o:= .slot 0) H H<|by lia).trans e).trans<|jF H
def jv(n:Nat)(a:iC):List (List Int):=(jP n).filter λt=>a.all<|kC t
def Lh{n:Nat}{t:ig}(h:t∈jP n):isA n (cD t)=J:=by obtain⟨h1,a⟩:=yO h;simp only[isA,jf,h1,yR,yV,ze,kf,aX];intro x b;rcases a x b with rfl|rfl<;>rfl
def JC{n:Nat}{a:iC}{t:ig}(h:t∈jP n):kB n a (cD t)=a.all (kC t):=by rw[kB,Lh h];simp[Bt,sQ,BL]
def KJ{t:ig}(h:(Ls t)<=60):Ol (cD t):=λl e=>by cases e;simpa using h
def zP(p:D->Bool)(L:iC):((L.map cD).filter p).map (λd=>d)=(L.filter λt=>p<|cD t).map cD:=by rw[pC,Hz];rfl
def CQ{n:Nat}{a:iC}(h:ph n a):sD [(GI n a,C)]=Y ((.lst<|(jv n a).map cD,J),[rS n a]):=by
 have h1:jB Wf [rS n a]=Y ((jP n).map cD,[rS n a]):=
  mV (kn (os:=[.val (.int n,C)]) (args:=[pI n]) H H nH<|adm h.1)
 have c:=CB (caps:=[0]) (fi:=jB Wf) (f:=jX 1) (ti:=fT<|iB qa [hX 0,hX 1]) (δ:=[rS n a]) (l:=(jP n).map cD) (args:=[GI n a]) (λd=>d) (kB n a) h1 H H (λd hd=>by obtain⟨t,b,rfl⟩:=lg.mp hd;have:=(yO b).1;have e:=h.1;exact⟨kJ<|kn (os:=[.slot 0,.slot 1]) (args:=[(GI n a,C),(cD t,C)]) H H nH<|BY h _ (KJ<|by lia),λ_=>⟨C,rfl⟩⟩) (by have:=RS h.1;simp;lia)
 rw[zP,AR λt b=>JC b] at c;exact kF ⟨rfl,by decide,rfl⟩<|jF<|kh c
def UQ{p:List Int->Bool}{k l:iC}(h: ∀c,c∈k↔c∈l):k.all p=l.all p:=by rw[yQ,kf,kf];exact⟨λa c b=>a c<|(h c).mpr b,λa c b=>a c<|(h c).mp b⟩
def aaV(x:Int)(c:ig):(c.map D.int).any (λd=>D.O1 d<|.int x)=c.contains x:=by
 induction c with
 |nil=>rfl
 |cons y c a=>rw[jG,wz,a,List.contains_cons];simp[D.O1,vK,eq_comm]
def KQ(x:Int)(c:ig):mP (.int x) (cD c)=Y (.bl (!c.contains x),C):=by
 have:inD (.int x) (cD c)=Y (c.contains x):=by show(if D.OO (c.map .int)<=50/\(D.int x).dep<=50 then Y ((c.map D.int).any λd=>D.O1 d<|.int x) else I)=_;rw[iz ⟨by rw[yC];lia,by simp[D.dep]⟩,aaV]
 unfold mP;rw[this];rfl
def Vy(c:ig)(a:iC):MZ (cD c) (.lst<|a.map cD)=Y (.bl<|decide<|c∈a,C):=by
 have h:=rk c a;unfold mP at h;unfold MZ
 cases d:inD (cD c) (.lst<|a.map cD) with
 |none=>rw[d] at h;cases h
 |some b=>rw[d] at h;simp at h ⊢;cases b<;>simp at h ⊢ <;>exact h
def Q0{d:D}(h:d.dep<=50):EV d d=Y (.bl J,C):=by unfold EV;rw[iz ⟨h,h⟩,D.C3]
def AL(L:iC):(D.lst<|L.map cD).dep<=50:=by have:=vG L;rw[D.dep];lia
def Rv(n:Nat)(a:iC):(GI n a).dep<=50:=by have:=vG a;simp only[D.dep,D.OO];lia
def Rz(l:List D)(v:Nat):PX.FH l I (Y (v:Int))=l.take v:=by
 unfold PX.FH;rw[HT.YI,HT.ZS,List.drop_zero,Nat.sub_zero];by_cases h:v<=Ls l
 .rw[AV h]
 .rw[Nat.min_eq_right<|by omega,AW<|jM _,AW<|by omega]
def TT(n:Nat)(t:ig):Prop:=(t.map ab).Perm<|st n
def SG(n:Nat)(s:Int):Prop:=1<=ab s/\ab s<=n
def Q2(t u:ig):List Int:=t.map<|led u
def TT.len{n:Nat}{t:ig}(h:TT n t):(Ls t)=n:=by simpa using(Jk.mp h).1
def TT.sg{n:Nat}{t:ig}(h:TT n t){x:Int}(a:x∈t):SG n x:=(Jk.mp h).2.1 _ (oR a)
def TT.tok{n:Nat}{t:ig}(h:TT n t):TOk n t:=⟨h.len,λx a=>h.sg a⟩
def Vd{n:Nat}{s:Int}(h:SG n s):s≠0:=by rintro rfl;have:=h.1;simp[ab] at this
def Wz{n:Nat}{s:Int}(h:SG n s):SG n (-s):=by unfold SG;rw[nZ];exact h
def lR{n:Nat}{s:Int}(h:SG n s): ∃k:Nat,k<n/\(s=(k:Int)+1\/s= -((k:Int)+1)):=by
 have:=h;unfold SG ab at this;split at this
 .exact⟨(-s-1).toNat,by omega,.inr<|by omega⟩
 .exact⟨(s-1).toNat,by omega,.inl<|by omega⟩
def Kn{n k:Nat}(h:k<n):SG n ((k:Int)+1):=by unfold SG;rw[qf<|by lia];lia
def kZ(t:ig)(k:Nat):led t ((k:Int)+1)=t.getD k 0:=by unfold led;rw[iz<|by lia,show((k:Int)+1-1).toNat=k by lia]
def lF(t:ig)(k:Nat):led t (-((k:Int)+1))= -t.getD k 0:=by unfold led;rw[iG<|by lia,show(- -((k:Int)+1)-1).toNat=k by lia]
def yi{n:Nat}(t:ig){s:Int}(h:SG n s):led t (-s)= -led t s:=by
 obtain⟨k,_,rfl|rfl⟩:=lR h
 .rw[kZ,lF]
 .rw[u0,kZ,lF,u0]
def FZ{n:Nat}{t:ig}(a:(Ls t)=n){s:Int}(h:SG n s):ab (led t s)=(t.map ab).getD ((ab s).toNat-1) 0:=by
 obtain⟨k,hk,rfl|rfl⟩:=lR h
 .rw[kZ,qf (i:=(k:Int)+1)<|by lia,show(((k:Int)+1).toNat-1)=k by lia];simp[lO,a,hk]
 .rw[lF,nZ,FY<|by lia,show(((k:Int)+1).toNat-1)=k by lia];simp[lO,a,hk]
def TT.led{n:Nat}{t:ig}(h:TT n t){s:Int}(a:SG n s):SG n (led t s):=XO h.tok a.1 a.2
def mJ{n:Nat}{t:ig}(h:TT n t)(u:ig){s:Int}(b:SG n s):PV.led (Q2 t u) s=PV.led u (PV.led t s):=by
 obtain⟨k,hk,rfl|rfl⟩:=lR b
 .rw[kZ,kZ];simp[Q2,lO,h.len,hk]
 .have a:t.getD k 0∈t:=lG (by rw[h.len];exact hk);rw[lF,lF,yi u<|h.sg a];simp[Q2,lO,h.len,hk]
def TT.Q2{n:Nat}{t u:ig}(h:TT n t)(a:TT n u):TT n (Q2 t u):=by
 unfold TT
 have e:(PV.Q2 t u).map ab=(t.map ab).map λj=>(u.map ab).getD (j.toNat-1) 0:=by unfold PV.Q2;rw[jx,jx];refine mW λx d=>?_;exact FZ a.len<|h.sg d
 rw[e];refine(h.map _).trans (gj (Hy ?_) a);apply A9
 .simp[st,a.len]
 .intro i h1 f;have c:i<n:=by simpa[st] using h1
  have b:((1:Int)+(i:Int)).toNat-1=i:=by lia
  simp only[st,jx,A8,g8,aX,b];simp[lO,a.len,c]
def yj{n:Nat}{t:ig}(h:TT n t){s r:Int}(g:SG n s)(f:SG n r)(e:PV.led t s=PV.led t r):s=r:=by
 have k:=(Jk.mp h).2.2
 have c: ∀{i j:Nat},i<n->j<n->ab (t.getD i 0)=ab (t.getD j 0)->i=j:=λ{i j} a b e=>by
  have l:=h.len
  have:=(EL (xs:=t.map ab) (i:=i) (j:=j) (h₀:=by simpa[l] using a) (h₁:=by simpa[l] using b) k).mp (by simp only[A8];simpa[lO,l,a,b] using e)
  exact this
 have d: ∀{i:Nat},i<n->t.getD i 0≠0:=λ{i} a=>Vd<|h.sg<|lG (by rw[h.len];exact a);obtain⟨i,a,rfl|rfl⟩:=lR g<;>obtain⟨j,b,rfl|rfl⟩:=lR f
 .rw[kZ,kZ] at e;rw[c a b<|by rw[e]]
 .rw[kZ,lF] at e;have:=c a b (by rw[e,nZ]);subst this;exact absurd (show t.getD i 0=0 by lia)<|d a
 .rw[kZ,lF] at e;have:=c a b (by rw[<-e,nZ]);subst this;exact absurd (show t.getD i 0=0 by lia)<|d a
 .rw[lF,lF] at e;rw[c a b<|by rw[show t.getD i 0=t.getD j 0 by lia]]
def sh{n:Nat}{t u:ig}(h1:(Ls t)=n)(a:(Ls u)=n)(h: ∀s,SG n s->PV.led t s=PV.led u s):t=u:=by apply A9 (by rw[h1,a]);intro i b c;have:=h _ (Kn (n:=n) (k:=i)<|by lia);rw[kZ,kZ] at this;simpa[lO,b,c] using this
def zp(n:Nat):(st n).length=n:=by simp[st]
def zY(n:Nat):TT n (st n):=by
 have:(st n).map ab=st n:=by
  conv=>rhs;rw[<-sM (st n)]
  refine mW λx a=>?_;have:=Oi.mp a;exact qf (by lia)
 unfold TT;rw[this]
def qL{n:Nat}{s:Int}(h:SG n s):PV.led (st n) s=s:=by
 obtain⟨k,hk,rfl|rfl⟩:=lR h
 .rw[kZ];simp[st,lO,hk];lia
 .rw[lF];simp[st,lO,hk];lia
def BK(n:Nat)(t w:ig):Prop:=Ls w=n/\ ∀s,SG n s->PV.led w (PV.led t s)=s
def BK.tt{n:Nat}{t w:ig}(h:BK n t w)(f:TT n t):TT n w:=by
 refine(KR (st n) (w.map ab) (Vb n) (λx g=>?_)<|by simp[zp,h.1]).symm;have i:=Oi.mp g;have c:SG n x:=by unfold SG;rw[qf<|by lia];lia
 have e:=h.2 x c;have a:=f.led c;have b:ab (PV.led w<|PV.led t x)=x:=by rw[e,qf<|by lia]
 rw[FZ h.1 a] at b;rw[<-b];have d:(ab<|PV.led t x).toNat-1<(w.map ab).length:=by have:=a.2;have:=a.1;rw[jf,h.1];lia
 exact lG d
def BK.sym{n:Nat}{t w:ig}(h:BK n t w)(b:TT n t):BK n w t:=by refine⟨b.len,λs a=>?_⟩;have c:=h.tt b;exact yj c (b.led<|c.led a) a<|h.2 _ (c.led a)
def BK.JW{n:Nat}{t w:ig}(h:BK n t w)(b:TT n t):Q2 t w=st n:=
 sh (n:=n) (by simp[Q2,b.len]) (zp n) λs a=>by rw[mJ b w a,h.2 s a,qL a]
def BK.Q2{n:Nat}{t u d j k:ig}(c:TT n t)(h:TT n u)(h1:BK n t d)(f:BK n u j)(g:BK n (Q2 t u) k):k=Q2 j d:=by have i:=h1.tt c;have b:=f.tt h;refine sh (n:=n) g.1 (by simp[PV.Q2,b.len]) λs a=>?_;have e:=g.2 _ (i.led<|b.led a);rw[mJ c u<|i.led<|b.led a,(h1.sym c).2 _ (b.led a),(f.sym h).2 _ a] at e;rw[e,mJ b d a]
def JX(n:Nat)(t:ig):Nat->List Int
 |0=>st n
 |k+1=>Q2 (JX n t k) t
theorem pQ{n:Nat}{t:ig}(h:TT n t): ∀k,TT n<|JX n t k
 |0=>zY n
 |k+1=>(pQ h k).Q2 h
theorem AG{n:Nat}{t:ig}(h:TT n t)(i:Nat){s:Int}(a:SG n s): ∀j,PV.led (JX n t<|i+j) s=PV.led (JX n t j) (PV.led (JX n t i) s)
 |0=>by rw[show JX n t 0=st n from H,qL<|(pQ h i).led a];rfl
 |j+1=>by show PV.led (PV.Q2 (JX n t<|i+j) t) s=PV.led (PV.Q2 (JX n t j) t) _;rw[mJ (pQ h _) t a,mJ (pQ h j) t<|(pQ h i).led a,AG h i a j]
theorem Kv{n:Nat}{t:ig}(h:TT n t){d:Nat}{s:Int}(a:SG n s)(e:PV.led (JX n t d) s=s): ∀q,PV.led (JX n t<|d*q) s=s
 |0=>qL a
 |q+1=>by rw[Nat.mul_succ,AG h _ a,Kv h a e q,e]
def W9{c:Type}[DecidableEq c](f:Nat->c)(m:List c): ∀k:Nat,(∀i,i<=k->f i∈m)->Ls m<=k-> ∃i j,i<j/\j<=k/\f i=f j:=λk h s=>by
 apply Classical.byContradiction;intro l
 have p:((am<|k+1).map f).Nodup:=by rw[dq,mT];refine(Sb (n:=k+1)).imp_of_mem λ{a b} r d q e=>l ⟨a,b,q,?_,e⟩;have:=wx.mp d;lia
 have:=oI _ m p λx o=>by obtain⟨i,g,rfl⟩:=lg.mp o;exact h i (by have:=wx.mp g;lia)
 simp at this;lia
def aac{n:Nat}(f:n<=5){t:ig}(h:TT n t){s:Int}(a:SG n s): ∃d,1<=d/\d<=10/\PV.led (JX n t d) s=s:=by
 obtain⟨i,j,g,c,e⟩:=W9 (λi=>PV.led (JX n t i) s) (st n++(st n).map λx=> -x) 10 (λi _=>by
  have:=(pQ h i).led a;rw[qh,lg];obtain⟨k,hk,e|e⟩:=lR this
  .left;rw[e];exact Oi.mpr (by lia)
  .right;exact⟨(k:Int)+1,Oi.mpr<|by lia,by rw[e]⟩) (by simp[zp];lia)
 refine⟨j-i,by lia,by lia,?_⟩;have b:=AG h (j-i) a i;rw[show j-i+i=j by lia] at b;exact yj (pQ h i) ((pQ h _).led a) a (by rw[<-b];exact e.symm)
def W0{n:Nat}(b:n<=5){t:ig}(h:TT n t):JX n t 2520=st n:=by
 refine sh (n:=n) (pQ h _).len (zp n) λs a=>?_;obtain⟨d,h1,c,e⟩:=aac b h a
 have hd:d*(2520 / d)=2520:=by
  have:d=1\/d=2\/d=3\/d=4\/d=5\/d=6\/d=7\/d=8\/d=9\/d=10:=by lia
  rcases this with rfl|rfl|rfl|rfl|rfl|rfl|rfl|rfl|rfl|rfl<;>rfl
 rw[<-hd,Kv h a e,qL a]
def Ku{n:Nat}{t:ig}(h:TT n t):JX n t 1=t:=
 sh (n:=n) (pQ h 1).len h.len λs a=>by rw[show JX n t 1=PV.Q2 (st n) t from H,mJ (zY n) t a,qL a]
def aeC: ∀(k:Nat) (r f t:ig),Ls r=k->(∀x∈r,0<=x)->t∈pR k r f->(t.map ab).Perm (f.map ab++r):=by
 intro m
 induction m with
 |zero=>intro r f t d _ h;simp[pR] at h;subst h;rw[M4.mp d];simp
 |succ k i=>
  intro r f t d b h;simp only[pR,vN,qh,wx] at h;obtain⟨v,hv,h⟩:=h;have c:(r.eraseIdx v).length=k:=by rw[Eh,iz hv];lia
  have g: ∀x∈r.eraseIdx v,0<=x:=λx a=>b x<|List.mem_of_mem_eraseIdx a;have a:=b _ (lG hv)
  have fin: ∀y:Int,ab y=r.getD v 0->(fw ab (f++[y])++r.eraseIdx v).Perm (f.map ab++r):=λy l=>by
   rw[qj,oT];refine Nt _ ?_;simp only[jG,uh,c9,wy,l];have e:r.getD v 0=r[v]:=by simp[lO,hv]
   rw[e];rw[List.eraseIdx_eq_take_drop_succ];have j:r=r.take v++r[v]::r.drop (v+1):=by rw[<-zd hv,wM]
   conv=>rhs;rw[j]
   exact R6.symm
  rcases h with h|h
  .exact(i _ _ t c g h).trans (fin _ (by rw[Bf];exact qf a))
  .exact(i _ _ t c g h).trans (fin _ (by rw[u5,Bf];exact FY a))
def Kf{n:Nat}{t:ig}(h:t∈pR n (st n) []):TT n t:=by have:=aeC n (st n) [] t (zp n) (λx a=>by have:=Oi.mp a;lia) h;unfold TT;simpa using this
def lc(t c:ig):List Int:=(mY JV<|(c.map<|led t).map D.int).map BL
def MR(t c d:ig):Prop:=d.Perm (c.map<|led t)/\(d.map ab).Pairwise (· < ·)
def G6{m:List D}{l:ig}(h:m.Perm (l.map D.int)):m=(m.map BL).map D.int/\(m.map BL).Perm l:=by
 obtain⟨k,rfl⟩:=adP h;have e:(k.map D.int).map BL=k:=by rw[jx];exact sM k
 rw[e];refine⟨rfl,?_⟩;have:=h.map BL
 rwa [e,jx,show fw (BL∘D.int) l=l from sM l] at this
def zV{n:Nat}{t c:ig}(g:TT n t)(h1:(c.map ab).Nodup)(f: ∀s∈c,SG n s):((c.map<|led t).map ab).Nodup:=by
 rw[jx,dq,mT];rw[dq,mT] at h1;refine h1.imp_of_mem λ{a b} i j k e=>k ?_;have e:ab (led t a)=ab (led t b):=e;have h:=f a i;have d:=f b j;by_cases q:led t a=led t b
 .rw[yj g h d q]
 .have:led t a=led t (-b):=by rw[yi t d];unfold ab at e;split at e<;>split at e<;>lia
  rw[yj g h (Wz d) this,nZ]
def og{n:Nat}{t c:ig}(j:TT n t)(g:P1 n c):MR t c (lc t c)/\(mY JV<|(c.map<|led t).map D.int)=(lc t c).map D.int:=by
 obtain⟨e,i⟩:=G6<|kP JV<|(c.map<|led t).map D.int;refine⟨⟨i,?_⟩,e⟩;have k:=zV j (DF g.2.1) λs f=>g.2.2 s f;have d:((lc t c).map ab).Nodup:=(i.map ab).symm.nodup k;have f:=Dz<|(c.map<|led t).map D.int;rw[e,mT] at f;rw[mT];rw[dq,mT] at d;refine(f.and d).imp λ{a b} h=>?_;have h1:ab a<=ab b:=h.1;have l:ab a≠ab b:=h.2
 lia
def MR.uniq{n:Nat}{t c d e:ig}(h1:MR t c d)(f:MR t c e):d=e:=by have g:=h1.2;have h:=f.2;rw[mT] at g h;refine(h1.1.trans f.1.symm).eq_of_pairwise (le:=λa b=>ab a<ab b) (λa b _ _ x y=>absurd x<|by lia) g h
def MR.cl{n:Nat}{t c d:ig}(h:MR t c d)(f:TT n t)(a:P1 n c):P1 n d:=by
 refine⟨λe=>a.1 ?_,h.2,λs b=>?_⟩
 .have:=h.1.length_eq;rw[e] at this;simp at this;exact M4.mp this.symm
 .obtain⟨x,g,rfl⟩:=lg.mp<|h.1.mem_iff.mp b;exact f.led<|a.2.2 x g
def DN{n:Nat}{t c:ig}(b:TT n t)(a:P1 n c):P1 n (lc t c):=(og b a).1.cl b a
def Lb{n:Nat}{t u c:ig}(b:TT n t)(e:TT n u)(a:P1 n c):lc u (lc t c)=lc (Q2 t u) c:=by have h1:=(og b a).1;have d:=(og e<|DN b a).1;refine MR.uniq (n:=n) (t:=Q2 t u) (c:=c) ⟨d.1.trans ?_,d.2⟩ (og (b.Q2 e) a).1;refine(h1.1.map _).trans (Hy ?_);rw[jx];exact mW λs f=>(mJ b u<|a.2.2 s f).symm
def Vu{n:Nat}{c:ig}(a:P1 n c):lc (st n) c=c:=by
 refine MR.uniq (n:=n) (t:=st n) (c:=c) (og (zY n) a).1 ⟨Hy ?_,a.2.1⟩
 conv=>lhs;rw[<-sM c]
 exact mW λs b=>(qL<|a.2.2 s b).symm
def Lc{n:Nat}{t w c:ig}(a:TT n t)(d:BK n t w)(b:P1 n c):lc w (lc t c)=c:=by rw[Lb a (d.tt a) b,d.JW a,Vu b]
def LR(t:ig)(cs a:iC):Prop:=a.Perm (cs.map<|lc t)/\E9 a
def LR.rd{n:Nat}{t w:ig}{i ds:iC}(h:LR t i ds)(g:TT n t)(j:BK n t w)(f:ph n i):ph n ds:=by
 refine⟨f.1,⟨h.1.symm.nodup ?_,λd hd=>?_⟩,h.2,by rw[h.1.length_eq,jf];exact f.2.2.2⟩
 .have o:=f.2.1.1;rw[dq,mT];refine o.imp_of_mem λ{a b} l m p e=>p ?_;rw[<-Lc g j (f.2.1.2 a l),e,Lc g j<|f.2.1.2 b m]
 .obtain⟨c,k,rfl⟩:=lg.mp<|h.1.mem_iff.mp hd;exact DN g<|f.2.1.2 c k
def nE(n:Nat)(a:ig):Prop:=Ls a=n/\ ∀x∈a,x=0\/x=1
def FW: ∀{n:Nat} {a:ig},a∈jP n↔nE n a:=λ{n a}=>by
 constructor
 .exact λh=>yO h
 .intro h
  induction n generalizing a with
  |zero=>rw[M4.mp h.1];simp[jP]
  |succ n f=>
   have b:a≠[]:=λe=>by have:=h.1;rw[e] at this;simp at this
   have e:=HA b;have c:=h.2 _ (kT b);have:=f (a:=a.dropLast) ⟨by rw[Im,h.1];rfl,λx d=>h.2 x<|M8 _ d⟩;simp only[jP,vN];refine⟨a.dropLast,this,?_⟩;rcases c with z|z
   .rw[z] at e;rw[e];simp
   .rw[z] at e;rw[e];simp
def J1(w a:ig):List Int:=w.map λs=>if I9 a s=J then 1 else 0
def Kl{n:Nat}{a:ig}(c:nE n a){s:Int}(b:SG n s):I9 a (-s)=!I9 a s:=by
 have d:a.getD ((ab s).toNat-1) 0=0\/a.getD ((ab s).toNat-1) 0=1:=c.2 _ (lG (by have:=b.1;have:=b.2;rw[c.1];omega));have f:=Vd b;unfold I9;rw[nZ];by_cases h:0<s
 .rw[iG<|by omega,iz<|by omega];rcases d with e|e<;>rw[e]<;>rfl
 .rw[iz<|by omega,iG<|by omega];rcases d with e|e<;>rw[e]<;>rfl
def Qs{n:Nat}{w:ig}(b:TT n w)(a:ig):nE n (J1 w a):=by refine⟨by simp[J1,b.len],λx c=>?_⟩;obtain⟨s,_,rfl⟩:=lg.mp c;split<;>simp
def Ov{n:Nat}{w a:ig}(c:TT n w)(d:nE n a){s:Int}(f:SG n s):I9 (J1 w a) s=I9 a (led w s):=by
 have b: ∀k:Nat,k<n->I9 (J1 w a) ((k:Int)+1)=I9 a (led w<|(k:Int)+1):=λk hk=>by
  rw[kZ];have e:(J1 w a).getD k 0=if I9 a (w.getD k 0)=J then 1 else 0:=by simp[J1,lO,c.len,hk]
  conv=>lhs;unfold I9
  rw[qf<|by lia,show(((k:Int)+1).toNat-1)=k by lia,e,iz (show(k:Int)+1>0 by lia)];cases I9 a (w.getD k 0)<;>rfl
 obtain⟨k,hk,rfl|rfl⟩:=lR f
 .exact b k hk
 .have h1:=Kn hk;rw[Kl (Qs c a) h1,b k hk,yi w h1,Kl d<|c.led h1]
def Pp{l m:ig}(p:Int->Bool)(h:l.Perm m):l.any p=m.any p:=by rw[yQ,EM,EM];exact⟨λ⟨x,a,e⟩=>⟨x,h.mem_iff.mp a,e⟩,λ⟨x,a,e⟩=>⟨x,h.mem_iff.mpr a,e⟩⟩
def RN{a:Type}{l:List a}{p q:a->Bool}(h: ∀x∈l,p x=q x):l.any p=l.any q:=by
 induction l with
 |nil=>rfl
 |cons x l c=>rw[wz,wz,h x jc,c λy b=>h y<|ji _ b]
def Vw{n:Nat}{t w a c:ig}(b:TT n t)(e:BK n t w)(f:nE n a)(d:P1 n c):kC (J1 w a) (lc t c)=kC a c:=by unfold kC;rw[Pp _ (og b d).1.1,wR];refine RN λs g=>?_;have h:=d.2.2 s g;show I9 (J1 w a) (led t s)=I9 a s;rw[Ov (e.tt b) f<|b.led h,e.2 s h]
def YB{n:Nat}{t w a:ig}{d f:iC}(j:TT n t)(k:BK n t w)(g:nE n a)(i:ph n d)(h:LR t d f):f.all (kC<|J1 w a)=d.all (kC a):=by
 rw[UQ λc=>h.1.mem_iff,ze,yQ,kf,kf];refine Hx λc=>?_;constructor
 .intro e b;rw[<-Vw j k g (i.2.1.2 c b)];exact e b
 .intro e b;exact(Vw j k g<|i.2.1.2 c b).trans (e b)
def aaq{n:Nat}{b c a:ig}(h1:TT n b)(d:TT n c)(e:nE n a):J1 c (J1 b a)=J1 (Q2 c b) a:=by unfold Q2 J1;rw[jx];refine mW λs f=>?_;have:=Ov h1 e<|d.sg f;unfold J1 at this;simp only[aX,this]
def aap{n:Nat}{a:ig}(c:nE n a):J1 (st n) a=a:=by
 apply A9 (by simp[J1,st,c.1]);intro i h1 b;have f:i<n:=by rw[<-c.1];exact b
 have d:=c.2 _ (yU b)
 have e:I9 a ((i:Int)+1)=(a[i]==1):=by unfold I9;rw[qf<|by lia,show(((i:Int)+1).toNat-1)=i by lia,iz<|by lia];simp[lO,b]
 simp only[J1,st,A8,g8,sB 1 (i:Int),e];rcases d with z|z<;>rw[z]<;>rfl
def UU: ∀n:Nat,n<6->(jP n).Nodup:=by decide+kernel
def RJ(b:FO)(a:Dn)(d:D):Prop:= ∃o,b a=Y (o,a)/\res a o=Y d
def FJ(b:FO)(a:Dn)(d:D):Prop:= ∃o,b a=Y (o,a)/\res a o=Y d/\wu a o=Y (d,C)
def FJ.r{c:FO}{δ:Dn}{d:D}(h:FJ c δ d):RJ c δ d:=let⟨o,a,b,_⟩:=h;⟨o,a,b⟩
def jV{i:Nat}{δ:Dn}{d:D}(h:δ[i]?=Y (Y (d,C))):FJ (hX i) δ d:=⟨.slot i,by unfold hX;rw[h],by unfold res;simp[h],by simp[h]⟩
def jR{i:Nat}{δ:Dn}{d:D}{b:Bool}(h:δ[i]?=Y (Y (d,b))):RJ (hX i) δ d:=⟨.slot i,by unfold hX;rw[h],by unfold res;simp[h]⟩
def jE{f:F}{δ:Dn}{d:D}{b:Bool}(h:f δ=Y ((d,b),δ)):FJ (iu f) δ d:=⟨.val (d,b),iU h,rfl,rfl⟩
def Jm{c:Ap}{e:FO}{δ:Dn}{a:D}{r:D×Bool}{b:Dn}(h:c [(a,C)]=Y (r,b))(g:FJ e δ a):iB c [e] δ=Y (r,δ):=by obtain⟨o,h1,_,f⟩:=g;refine(kn (uP h1) (args:=[a].map λd=>(d,C)) (by simp[f]) (by rw[uG];exact nH) h).trans ?_;rw[Ga]
def Cb{c:Ap}{e fb:FO}{δ:Dn}{a b:D}{r:D×Bool}{outs:Dn}(h:c [(a,C),(b,C)]=Y (r,outs))(g:FJ e δ a)(i:FJ fb δ b):iB c [e,fb] δ=Y (r,δ):=by obtain⟨o,h1,_,f⟩:=g;obtain⟨l,j,_,k⟩:=i;refine(kn (qM h1 j) (args:=[a,b].map λd=>(d,C)) (by simp[f,k]) (by rw[uG];exact nH) h).trans ?_;rw[Ga]
def jO{g:D->D->Option (D×Bool)}{c fb:FO}{δ:Dn}{a b:D}{r:D×Bool}(h:g a b=Y r)(e:RJ c δ a)(f:RJ fb δ b):iF g c fb δ=Y (r,δ):=by obtain⟨o,h1,d⟩:=e;obtain⟨k,i,j⟩:=f;exact ll h1 i d j h
def jN{g:D->Option (D×Bool)}{b:FO}{δ:Dn}{a:D}{r:D×Bool}(h:g a=Y r)(d:RJ b δ a):sy g b δ=Y (r,δ):=by obtain⟨o,h1,c⟩:=d;rw[WM,h1];simp only[ju];rw[c];simp only[ju];rw[h];rfl
def jC{g:D->Option (D×Bool)}{b:FO}{δ:Dn}{a:D}{r:D×Bool}(h:g a=Y r)(d:RJ b δ a):iO (g1 g) [b] δ=Y (r,δ):=by obtain⟨o,h1,c⟩:=d;exact ot (ds:=[a]) (uP h1) (by simp[c]) h
def Ao{f:F}{np:Nat}{args:List (D×Bool)}{r:D×Bool}{δ:Dn}(h1:(Ls args)=np/\np<=np/\(args.zipIdx.all λp=>!(p.1.2&&([]:List Nat).contains p.2))=J)(a:f (args.map Y++ah (np-np) I)=Y (r,δ)):Q1 np np [] (iA (kH f) iN) args=Y (r,iT args δ):=
 kF h1 (jF<|kh a)
def Ve{n:Nat}{s:Int}(h:SG n s):s≠0/\ -(n:Int)<=s/\s<=n:=by obtain⟨k,hk,rfl|rfl⟩:=lR h<;>lia
def XQ{n:Nat}{u:ig}(d:(Ls u)=n){s:Int}(h:SG n s):ou [enc u,pI s]=Y ((.int<|led u s,C),[eN u,ii s]):=by obtain⟨a,b,c⟩:=Ve h;exact XN u s a (by rw[d];exact b) (by rw[d];exact c)
def Qi(f:Int->Int)(l:ig):(l.map D.int).map (λd=>D.int<|f<|BL d)=(l.map f).map D.int:=by rw[jx,jx];rfl
def vI{a:jw}{fi:Cf}{f:F}{δ b:Dn}{l:ig}{args:List D}(g:Int->Int)(h1:fi δ=Y (l.map D.int,b))(c:jo b (a.map .slot)=Y (args.map λd=>(d,C)))(e:(Ls args)=Ls a)
  (h: ∀x∈l,∃o,f (C7 args++[ii x])=Y ((.int<|g x,o),C7 args++[ii x]))(i:(Ls l)<=10000):
  jn a 1 fi (ik<|Ls a) jk (jm f) δ=Y ((.lst<|(l.map g).map D.int,J),b):=by
 rw[uV (λd=> .int (g<|BL d)) h1 c e (λd hd=>by obtain⟨x,j,rfl⟩:=lg.mp hd;exact h x j)<|by simpa using i,Qi]
def vL{n:Nat}(f:n<=5){t u:ig}(c:TT n t)(d:(Ls u)=n):rE [enc t,enc u]=Y (enc<|Q2 t u,[eN t,eN u]):=by refine Ao ⟨rfl,by decide,rfl⟩<|jC (a:= .lst ((Q2 t u).map D.int)) H (jE (b:=J)<|vI (args:=[cD u]) (led u) H H H (λx e=>⟨C,?_⟩)<|by rw[c.len];lia).r;exact Cb (XQ d<|c.sg e) (jV H)<|jV H
def WC(n:Nat)(b:n<=5):MY .tup C [.int 1,.int<|(n:Int)+1]=Y (.tup<|(st n).map .int,C):=by
 have:n=0\/n=1\/n=2\/n=3\/n=4\/n=5:=by lia
 have h1:FF 1 ((n:Int)+1):=by rcases this with rfl|rfl|rfl|rfl|rfl|rfl<;>decide+kernel
 have a:((n:Int)+1-1).toNat=n:=by lia
 show(if FF 1 ((n:Int)+1) then Y (D.tup<|jh 1 ((n:Int)+1-1).toNat,C) else I)=_;rw[iz h1,a,<-Oj]
def af4{n:Nat}(a:n<=5):yz [pI n]=Y (enc<|st n,[ii n]):=
 Ao ⟨rfl,by decide,rfl⟩ (ot (os:=[.val (.int 1,C),.val (.int<|(n:Int)+1,C)]) H H<|WC n a)
def ad0{n:Nat}(b:n<=5){t:ig}(a:TT n t):kc [pI n,enc t]=Y ((.bl J,C),[ii n,eN t]):=by
 have h:tB n (cD t)=J:=by rw[Kj];simp only[lB,kU,kf,pz,jx];refine⟨λd hd=>?_,a⟩;obtain⟨x,_,rfl⟩:=lg.mp hd;rfl
 rw[uq n (cD t) (λl e=>by cases e;rw[jf,a.len];lia),h]
def CC{n:Nat}(a:n<=5){t:ig}(b:TT n t):kN [pI n,enc t]=Y ((.T1,C),[ii n,eN t]):=by
 have:Dm Y7 NV iN [ii n,eN t]=Y (.nx [ii n,eN t]):=
  (Aa<|rq<|kJ<|Cb (ad0 a b) (jV H)<|jV H).trans rfl
 have e:nO [ii n,eN t]=Y (.nx [ii n,eN t]):=(il this).trans H;simp only[kN,Q1];rw[iz ⟨rfl,by decide,rfl⟩];show(match nO [ii n,Y<|enc t] with|some (.rt r δ)=>Y (r,iT _ δ)|some (.nx δ)=>Y ((D.T1,C),iT _ δ)|_=>I)=_;rw[e];rfl
noncomputable def Mj(t:ig)(j:Nat):Int:=if t.getD j 0>0 then(j:Int)+1 else -((j:Int)+1)
def Oq(n:Nat)(t:ig)(k:Nat)(w:ig):Prop:=Ls w=n/\ ∀j,j<k->w.getD ((ab<|t.getD j 0).toNat-1) 0=Mj t j
def XY{n:Nat}{t w:ig}(a:TT n t)(h:Oq n t n w):BK n t w:=by
 refine⟨h.1,λs g=>?_⟩
 have one: ∀j,j<n->led w (t.getD j 0)=(j:Int)+1:=λj b=>by
  have c:=a.sg<|lG (l:=t) (k:=j) (by rw[a.len];exact b);have e:=h.2 j b;unfold Mj at e;unfold led;unfold SG at c;by_cases d:t.getD j 0>0
  .rw[iz d] at e ⊢;rw[qf<|by lia] at e;rw[show(t.getD j 0-1).toNat=(t.getD j 0).toNat-1 by lia,e]
  .have f:ab (t.getD j 0)= -t.getD j 0:=by unfold ab;split<;>lia
   rw[iG d] at e ⊢;rw[f] at e c;rw[show(-t.getD j 0-1).toNat=(-t.getD j 0).toNat-1 by lia,e]
   lia
 obtain⟨k,hk,rfl|rfl⟩:=lR g
 .rw[kZ];exact one k hk
 .rw[yi t<|Kn hk,yi w<|a.led<|Kn hk,kZ,one k hk]
def Qz{n:Nat}{t w:ig}(a:TT n t){k:Nat}(hk:k<n)(h:Oq n t k w):Oq n t (k+1) (w.set ((ab<|t.getD k 0).toNat-1)<|Mj t k):=by
 have b: ∀j,j<n->1<=ab (t.getD j 0)/\ab (t.getD j 0)<=n:=λj c=>a.sg<|lG (l:=t) (k:=j) (by rw[a.len];exact c);refine⟨by simp[h.1],λj c=>?_⟩;have d:=b k hk;have f:=b j (by lia);by_cases e:j=k
 .subst e;rw[lO,tU<|by rw[h.1];lia];rfl
 .have ne:ab (t.getD j 0)≠ab (t.getD k 0):=λq=>e (by
   have l:=a.len
   have:=(EL (xs:=t.map ab) (i:=j) (j:=k) (h₀:=by simp[l];lia) (h₁:=by simp[l];lia) (Jk.mp a).2.2).mp (by simp only[A8];simpa[lO,l,hk,show j<n by lia] using q)
   exact this)
  rw[lO,mD<|by lia,<-lO];exact h.2 j (by lia)
abbrev fbB:FS:=zC6
def Yj{n:Nat}{t w:ig}(c:TT n t){k:Nat}(hk:k<n)(f:(Ls w)=n):fbB [eN t,Ay w,ii<|(k:Int)+1,ii<|t.getD k 0]=Y (.nx [eN t,Ay<|w.set ((ab<|t.getD k 0).toNat-1)<|Mj t k,ii<|(k:Int)+1,ii<|t.getD k 0]):=by
 have b:=c.sg<|lG (l:=t) (k:=k) (by rw[c.len];exact hk)
 have d:MC (fT Y0) (jX 2) (sy B9<|hX 2) [eN t,Ay w,ii<|(k:Int)+1,ii<|t.getD k 0]=Y ((.int<|Mj t k,C),[eN t,Ay w,ii<|(k:Int)+1,ii<|t.getD k 0]):=by
  rw[Vj,kJ (o:=C)<|jO (ZV _ _) (jV H).r (jE H).r];simp only[ju];unfold Mj;by_cases a:t.getD k 0>0
  .rw[iz<|by simpa using a,iz a];rfl
  .rw[iG<|by simpa using a,iG a];rfl
 have e:iu Ze [eN t,Ay w,ii<|(k:Int)+1,ii<|t.getD k 0]=Y (.val (.int<|ab (t.getD k 0)-1,C),[eN t,Ay w,ii<|(k:Int)+1,ii<|t.getD k 0]):=rfl
 have g:Gf (w.map D.int).length (ab (t.getD k 0)-1)=Y ((ab<|t.getD k 0).toNat-1):=by
  have:=b.1;have:=b.2;unfold Gf;rw[jf,f,iz<|by lia,iz<|by lia]
  congr 1;lia
 refine(il (δ1:=[eN t,Ay<|w.set ((ab<|t.getD k 0).toNat-1)<|Mj t k,ii<|(k:Int)+1,ii<|t.getD k 0]) ?_).trans rfl;unfold xg;rw[d];simp only[ju,wD,c7];rw[e];simp only[ju,OQ,wD,c7];rw[g];simp[Ay,List.map_set]
def acu{n:Nat}{t:ig}(f:TT n t): ∀(m k:Nat) (w:ig) (x y:Sl),k+m=n->Oq n t k w-> ∃b c d,Oq n t n b/\vQ Sj fbB ((bu k m).map λ(j:Nat)=> .tup [.int<|(j:Int)+1,.int<|t.getD j 0]) [eN t,Ay w,x,y]=Y (.nx [eN t,Ay b,c,d]):=by
 intro i
 induction i with
 |zero=>intro k w x y h a;exact⟨w,x,y,by rw[show k=n by lia] at a;exact a,rfl⟩
 |succ m g=>intro k w x y h a;obtain⟨b,c,d,h1,e⟩:=g (k+1) _ (ii<|(k:Int)+1) (ii<|t.getD k 0) (by lia) (Qz f (by lia) a);refine⟨b,c,d,h1,?_⟩;rw[A4,jG];unfold vQ;rw[show Sj (.tup [.int<|(k:Int)+1,.int<|t.getD k 0]) [eN t,Ay w,x,y]=Y [eN t,Ay w,ii<|(k:Int)+1,ii<|t.getD k 0] from H];simp only[ju];rw[Yj f (by lia) a.1];exact e
def Ym(t:ig):(((t.map D.int).zipIdx).map λq=>D.tup [.int (1+q.2),q.1])=(bu 0<|Ls t).map λ(j:Nat)=> .tup [.int<|(j:Int)+1,.int<|t.getD j 0]:=by
 apply A9
 .simp
 .intro i h1 b;have a:i<(Ls t):=by simpa using h1
  simp[lO,a,sB]
def UN{n:Nat}{t:ig}(b:TT n t): ∃w,BK n t w/\pd [enc t]=Y (enc w,[eN t]):=by
 obtain⟨w,x,y,h,e⟩:=acu b n 0 t I I (by lia) ⟨b.len,λj c=>absurd c<|by lia⟩;refine⟨w,XY b h,?_⟩;refine kF (δ:=[eN t,Ay w,x,y]) ⟨rfl,by decide,rfl⟩ ?_;refine(il (δ1:=[eN t,Ay t,I,I]) H).trans ((il<|(lM (δ1:=[eN t,Ay t,I,I]) (ds:=(bu 0 n).map λ(j:Nat)=> .tup [.int<|(j:Int)+1,.int<|t.getD j 0]) ?_).trans e).trans ?_)
 .show Y (((t.map D.int).zipIdx).map λq=>D.tup [.int (1+q.2),q.1],([eN t,Ay t,I,I]:Dn))=_;rw[Ym,b.len]
 .exact jF (kh<|jC (a:= .lst (w.map D.int)) H<|jR H)
def BK.uniq{n:Nat}{t w v:ig}(c:TT n t)(h1:BK n t w)(a:BK n t v):w=v:=
 sh h1.1 a.1 λs b=>by have e:=(h1.sym c).2 s b;have:=a.2 _ ((h1.tt c).led b);rw[e] at this;exact this.symm
def AM{n:Nat}{t w:ig}(a:TT n t)(b:BK n t w):pd [enc t]=Y (enc w,[eN t]):=by obtain⟨v,h1,e⟩:=UN a;rw[b.uniq a h1];exact e
def X7(a b:ig):EV (cD a) (cD b)=Y (.bl<|decide<|a=b,C):=by unfold EV;rw[iz<|by rw[Cw,Cw];decide,FC]
def Ka{c:FT}{b:FS}{k:Nat}{d a δ2:Dn}(h:c d=Y (J,a))(e:b a=Y (.nx δ2)):mR c b (k+1) d=mR c b k δ2:=by rw[mR,h];simp only[ju,kI];rw[e];rfl
def ES{b:FT}{d:FS}{k:Nat}{c a:Dn}(h:b c=Y (C,a)):mR b d (k+1) c=Y (.nx a):=by rw[mR,h];rfl
def aan{n:Nat}{t:ig}(h:(Ls t)=n):uI (cD t)=ii n:=by rw[WK,jf,h]
def af9{n:Nat}{t c:ig}(h:n<=5)(b:TT n t)(a:P1 n c):xu (.lst<|(c.map<|led t).map D.int)=Y (.lst<|(lc t c).map D.int,J):=by
 have:=a.len;show(if((c.map<|led t).map D.int).all Mp=J/\(((c.map<|led t).map D.int).map aD).Nodup/\((c.map<|led t).map D.int).length<64 then Y (D.lst<|mY JV<|(c.map<|led t).map D.int,J) else I)=_
 have e:((c.map<|led t).map D.int).all Mp=J:=by rw[kf];intro d hd;obtain⟨x,_,rfl⟩:=lg.mp hd;rfl
 have f:(((c.map<|led t).map D.int).map aD).Nodup:=by rw[jx];exact zV b (DF a.2.1) λs g=>a.2.2 s g
 rw[iz ⟨e,f,by simp;lia⟩,(og b a).2]
def Ud{n:Nat}(f:n<=5){t c:ig}(e:TT n t)(d:P1 n c):mG [enc c,enc t]=Y (enc<|lc t c,[eN c,eN t]):=by have:=d.len;refine Ao ⟨rfl,by decide,rfl⟩<|jC (a:= .lst ((lc t c).map D.int)) H (jE (b:=J)<|jC (af9 f e d) (jE (b:=J)<|vI (args:=[cD t]) (led t) H H H (λx g=>⟨C,?_⟩)<|by lia).r).r;exact Cb (XQ e.len<|d.2.2 x g) (jV H)<|jV H
def UC{a:jw}{b:Cf}{f:F}{δ δ1:Dn}{l:iC}{args:List D}(g:List Int->List Int)(h1:b δ=Y (l.map cD,δ1))(c:jo δ1 (a.map .slot)=Y (args.map λd=>(d,C)))(e:(Ls args)=Ls a)
  (h: ∀x∈l,∃o,f (C7 args++[Y (cD x,C)])=Y ((cD<|g x,o),C7 args++[Y (cD x,C)]))(i:(Ls l)<=10000):
  jn a 1 b (ik<|Ls a) jk (jm f) δ=Y ((.lst<|(l.map g).map cD,J),δ1):=by
 rw[uV (λd=>cD<|g<|IS d) h1 c e (λd hd=>by obtain⟨x,j,rfl⟩:=lg.mp hd;rw[lI];exact h x j)<|by simpa using i];rw[jx,jx,mW (g:=cD∘g) λx _=>by simp only[aX,lI]]
def AD{cs:iC}(h:mO (cs.map cD)=J)(b:(Ls cs)<=10000): ∃a:List (List Int),a.Perm cs/\E9 a/\jY (cs.map cD)=Y (.lst<|a.map cD,J):=by
 obtain⟨a,e,c⟩:=Cy<|kP BN<|cs.map cD;refine⟨a,c,?_,?_⟩
 .have:=qV<|cs.map cD;rw[e,mT] at this;exact this
 .unfold jY;rw[iz ⟨h,by rw[jf];exact vg b⟩,e]
def Lm{f g:F}{δ:Dn}{a b:D×Bool}(h1:f δ=Y (a,δ))(c:g δ=Y (b,δ)):yx [f,g] δ=Y ((.tup [a.1,b.1],C),δ):=by rw[WL,show[f,g].map iu=[iu f,iu g] from H,qM (iU h1)<|iU c];simp[jT]
def Qp{n:Nat}{t:ig}{cs:iC}(f:TT n t)(d:ph n cs): ∃ds,LR t cs ds/\FA [(GI n cs,C),enc t]=Y ((GI n ds,C),[rS n cs,eN t]):=by
 have h:=d.1;have i:=d.2.2.2
 obtain⟨ds,k,m,e⟩:=AD (cs:=cs.map<|lc t) (qW _ λc j=>by obtain⟨x,g,rfl⟩:=lg.mp j;exact(DN f<|d.2.1.2 x g).1) (by simp;lia)
 refine⟨ds,⟨k,m⟩,?_⟩;refine kF (δ:=[rS n cs,eN t,ii n,Y (.tup<|cs.map cD,C)]) ⟨rfl,by decide,rfl⟩ ?_;refine(il (δ1:=[rS n cs,eN t,ii n,Y (.tup<|cs.map cD,C)]) H).trans ?_;refine(il<|kX<|Cb (CC h f) (jV H)<|jV H).trans (jF<|kh<|Lm (a:=(.int n,C)) (b:=(.tup<|ds.map cD,C)) H<|jC (a:= .lst (ds.map cD)) H (jE (b:=J)<|jC e (jE (b:=J)<|UC (l:=cs) (args:=[cD t]) (lc t) H H H (λx g=>⟨C,?_⟩)<|by lia).r).r);exact Cb (Ud h f<|d.2.1.2 x g) (jV H)<|jV H
def La{n:Nat}(g:n<=5){t w a:ig}(c:TT n t)(e:BK n t w)(d:nE n a):oi [enc a,enc t]=Y (enc<|J1 w a,[eN a,eN t]):=by
 have f:=e.tt c;refine kF (δ:=[eN a,eN t]) ⟨rfl,by decide,rfl⟩ ?_;refine(il<|kX<|Cb (CC g c) (jE<|jC (aan d.1) (jV H).r)<|jV H).trans (jF<|kh<|jC (a:= .lst ((J1 w a).map D.int)) H (jE (b:=J)<|vI (args:=[cD a]) (λs=>if I9 a s=J then 1 else 0) (fi:=jB<|iB pd [hX 1]) (l:=w) ?_ H H (λx h=>⟨C,?_⟩)<|by rw[f.len];lia).r)
 .rw[E7,Jm (AM c e)<|jV H];rfl
 .rw[Vj,kJ<|Cb (Vc a x (by have:=f.sg h;rw[d.1];exact this)) (jV H)<|jV H];cases I9 a x<;>rfl
theorem RF: ∀(l:iC) (a:List D) (x y:Sl),(∀p∈l,∃i j,p=[i,j])->Ls a+Ls l<=1000-> ∃b c,jH Si jk LP (l.map cD) a [x,y]=Y (a++l.map λp=>D.int<|p.getD 1 0,[b,c])
 |[],a,x,y,_,_=>⟨x,y,by simp[jH]⟩
 |p::l,a,x,y,h,d=>by obtain⟨i,j,rfl⟩:=h p jc;obtain⟨b,c,e⟩:=RF l (a++[.int j]) (ii i) (ii j) (λq f=>h q<|ji _ f) (by simp at d ⊢;lia);refine⟨b,c,?_⟩;rw[jG,jH];rw[show Si (cD [i,j]) [x,y]=Y [ii i,ii j] from H];simp only[ju,rX,kI,vm];rw[show jX 1 [ii i,ii j]=Y ((.int j,C),[ii i,ii j]) from H];simp only[ju];rw[iz<|AE<|by simp at d;lia];simp only[ju];rw[e];simp
def UH{a s b r:Int}(h:BN (cD [b,r]) (cD [a,s])=C):a<=b:=by
 rw[zI] at h;by_cases q:b<a
 .exact absurd (by simp[cT,cL,q]) h
 .lia
def XF{n:Nat}(N:n<=5){t c:ig}(o:TT n t)(k:P1 n c): ∃O,kQ [enc c,enc t]=Y (enc<|lc t c,[eN c,O])/\O=eN t:=by
 have M:=k.len
 let pr:Int->List Int:=λs=>[ab<|led t s,led t s]
 obtain⟨f,m,E,e⟩:=AD (cs:=c.map pr) (qW _ λx H=>by obtain⟨y,_,rfl⟩:=lg.mp H;simp[pr]) (by simp;lia)
 have z:jn [1] 1 (jB<|jX 0) (ik 1) jk Zu [eN c,eN t,KE]=Y ((.lst<|(c.map pr).map cD,K0),[eN c,eN t,KE]):=by
  refine(uV (caps:=[1]) (args:=[cD t]) (l:=c.map D.int) (δ1:=[eN c,eN t,KE]) (λd=>cD<|pr<|BL d) K3 K3 K3 (λd hd=>?_)<|by simp;lia).trans ?_
  rotate_left
  .rw[jx,jx];rfl
  .obtain⟨x,H,rfl⟩:=lg.mp hd;obtain⟨a1,Q,z⟩:=Ve<|k.2.2 x H;have j:V9 (C7 [cD t]++[ii x])=Y ((.int<|led t x,C),C7 [cD t]++[ii x]):=Cb (Ub t x a1 (by rw[o.len];exact Q)<|by rw[o.len];exact z) (jV K3)<|jV K3;exact⟨C,Lm (jC (Z0 _) (jE j).r) j⟩
 have A: ∀v:Sl,∃u w,jH Si jk LP (f.map cD) [] [KE,KE]=Y (f.map λp=>D.int<|p.getD 1 0,[u,w]):=λv=>by
  obtain⟨u,w,e⟩:=RF f [] KE KE (λp U=>by obtain⟨y,_,rfl⟩:=lg.mp<|m.mem_iff.mp U;exact⟨_,_,rfl⟩) (by rw[m.length_eq];simp;lia)
  exact⟨u,w,by simpa using e⟩
 obtain⟨u,w,A⟩:=A KE
 have B:(f.map λp=>p.getD 1 0)=lc t c:=by
  have j:(f.map λp=>p.getD 1 0).Perm (c.map<|led t):=by
   have:=m.map λp=>p.getD 1 0
   rwa [jx] at this
  have g: ∀p∈f,p=[ab<|p.getD 1 0,p.getD 1 0]:=λp U=>by obtain⟨y,_,rfl⟩:=lg.mp<|m.mem_iff.mp U;rfl
  refine MR.uniq (n:=n) (t:=t) (c:=c) ⟨j,?_⟩ (og o k).1;have L:((f.map λp=>p.getD 1 0).map ab).Nodup:=(j.map ab).symm.nodup<|zV o (DF k.2.1) λs E=>k.2.2 s E;rw[jx,mT];rw[jx,dq,mT] at L;refine(ss E L).imp_of_mem λ{p q} h1 G h=>?_;have I:=h.1;rw[g p h1,g q G] at I;have:=UH I;have J:=h.2;simp only[aX] at J ⊢
  lia
 refine⟨_,?_,rfl⟩;refine kF (δ:=[eN c,eN t,Y (.lst<|(c.map pr).map cD,K0)]) ⟨rfl,by decide,rfl⟩ ?_;refine(il<|jD (i:=2) z (show 2<3 by decide)).trans (jF<|kh<|jC (a:= .lst ((lc t c).map D.int)) K3 (jE (b:=K0) ?_).r);rw[rB (l:=f.map cD) (δ1:=[eN c,eN t,Y (.lst<|(c.map pr).map cD,K0)]) (args:=[]) (fi:=jB<|iO (g1 oZ) [hX 2]) ?_ K3 (by simp[iM]) A]
 .have T:(f.map λp=>D.int<|p.getD 1 0)=(lc t c).map D.int:=by rw[<-B,jx];rfl
  rw[T];rfl
 .rw[E7,jC (show oZ (.lst<|(c.map pr).map cD)=Y (.lst<|f.map cD,K0) from e)<|jR K3];rfl
abbrev Ob:F:=Wh
def Ox(a:Int)(b:Bool): ∃(s c:Int),(s=1\/s= -1)/\ ∀δ:Dn,Ob (SS a b::δ)=Y ((.int s,C),SS c b::δ):=by obtain⟨v,c,d,f,e⟩:=vf a b 2 (by lia) (by lia);refine⟨if v=0 then 1 else -1,c,by split<;>simp,λδ=>?_⟩;refine ll (o1:= .val (.lst [.int 1,.int (-1)],J)) (δ1:=SS a b::δ) H (iU<|e _ δ _ rfl rfl) H H ?_;rcases(show v=0\/v=1 by lia) with rfl|rfl<;>rfl
def Vs{x s:Int}(h:s=1\/s= -1): ∃y,(y=x\/y= -x)/\oJ (.int x) (.int s)=ii y:=by
 rcases h with rfl|rfl
 .exact⟨x,.inl H,aak x⟩
 .exact⟨-x,.inr H,aaj x⟩
abbrev P0:FT:=Zn
theorem VQ(b:Bool): ∀(m j:Nat) (a:Int) (c:ig) (x:Sl),1<=j->CA j c->Ls c+m<=10-> ∃f d i,CA (j+m:Nat) d/\(Ls d)<=10/\jH (ik 1) P0 (jm<|iF oJ (hX 1)<|iu Ob) ((bu j m).map λ(k:Nat)=>D.int (k:Int)) (c.map .int) [SS a b,x]=Y (d.map .int,[SS f b,i])
 |0,j,a,c,x,_,l,t=>⟨a,c,x,by simpa using l,by lia,rfl⟩
 |m+1,j,a,c,x,E,l,t=>by
  obtain⟨v,a1,T,Q,n⟩:=vf a b 2 (by lia) (by lia)
  have U:P0 [SS a b,ii j]=Y (v==0,[SS a1 b,ii j]):=
   kJ (o:=C) (ll (o1:= .val (.int v,C)) (δ1:=[SS a1 b,ii j]) (o2:= .val (.int 0,C)) (iU<|n _ [ii j] _ rfl rfl) H H H<|Vk _ _)
  rw[A4,jG]
  have st: ∀(g:Int) (h:ig),CA (j+1:Nat) h->Ls h+m<=10->(if(v==0)=J then jm (iF oJ (hX 1)<|iu Ob) (c.map .int) [SS a1 b,ii j] else Y (c.map .int,[SS a1 b,ii j]))=Y (h.map .int,[SS g b,ii j])->
    ∃f d i,CA (j+(m+1):Nat) d/\(Ls d)<=10/\jH (ik 1) P0 (jm<|iF oJ (hX 1)<|iu Ob) (D.int j::(bu (j+1) m).map λ(k:Nat)=>D.int (k:Int)) (c.map .int) [SS a b,x]=Y (d.map .int,[SS f b,i]):=λg h h1 r e=>by
   obtain⟨f,d,i,z,A,B⟩:=VQ b m (j+1) g h (ii j) (by lia) h1 r;refine⟨f,d,i,by rw[show j+(m+1)=j+1+m by lia];exact z,A,?_⟩;rw[jH,show ik 1 (.int j) [SS a b,x]=Y [SS a b,ii j] from H];simp only[ju];rw[U];simp only[ju];rw[e];exact B
  by_cases hv:v=0
  .obtain⟨s,g,u,p⟩:=Ox a1 b;obtain⟨y,w,q⟩:=Vs (x:=j) u;refine st g (c++[y]) (by have:=l.snoc (s:=y) (by rcases w with rfl|rfl;exact qf (by lia);exact FY<|by lia) (by lia);simpa using this) (by simp;lia) ?_;rw[hv,iz (show((0:Int)==0)=J from H),vm,ll (o1:= .slot 1) (δ1:=[SS a1 b,ii j]) H (iU<|p [ii j]) H H q];simp only[ju];rw[iz<|AE<|by simp;lia];simp
  .refine st a1 c (by simpa using l.up) (by lia) ?_;rw[iG<|by simpa using hv]
def DE(n:Nat):jh 1 n=(bu 1 n).map λ(k:Nat)=>D.int (k:Int):=by unfold jh;rw[List.range'_eq_map_range,jx];exact mW λk _=>by simp
def aep(a:Int)(b:Bool)(n:Nat)(h1:1<=n)(E:n<=5): ∃t c,P1 n c/\nB [pS a b,pI n]=Y (enc c,[SS t b,ii n]):=by
 obtain⟨a1,c,x,p,T,u⟩:=VQ b n 1 a [] I (by lia) ⟨by simp,by simp⟩ (by simp;lia)
 have U:BZ pE Sn [SS a b,ii n,I]=Y ((bu 1 n).map λ(k:Nat)=>D.int (k:Int),[SS a b,ii n,I]):=by rw[Lg (o1:= .val (.int 1,C)) (o2:= .val (.int<|(n:Int)+1,C)) (i:=1) (j:=(n:Int)+1) H H H H (by lia)<|by lia,show((n:Int)+1-1).toNat=n by lia,DE]
 have pre: ∀g,iA (kE 2<|jn [0] 1 (BZ pE Sn) (ik 1) P0<|jm<|iF oJ (hX 1)<|iu Ob) g [SS a b,ii n,I]=g [SS a1 b,ii n,Ay c]:=λg=>il<|jD (i:=2) (δ1:=[SS a1 b,ii n,I]) ((rB (caps:=[0]) (args:=[pS a b]) U H (MV 0) u).trans H) (show 2<3 by decide)
 have f:fT (iF EV (hX 2)<|iu<|nG []) [SS a1 b,ii n,Ay c]=Y (decide<|c=[],[SS a1 b,ii n,Ay c]):=
  kJ (o:=C) (ll (o1:= .slot 2) (o2:= .val (.lst [],J)) (δ2:=[SS a1 b,ii n,Ay c]) H (iU<|by simp[jT]) H H<|MF c [])
 by_cases e:c=[]
 .obtain⟨i,m,Q,L,v⟩:=vf a1 b n (by lia) (by lia);obtain⟨s,d,l,w⟩:=Ox m b;obtain⟨y,B,A⟩:=Vs (x:=1+i) l;have h:ab y=1+i:=by rcases B with rfl|rfl;exact qf (by lia);exact FY (by lia)
  refine⟨d,[y],⟨by simp,by simp,λz q=>by simp at q;subst q;rw[h];lia⟩,?_⟩;refine kF (δ:=[SS d b,ii n,Ay [y]]) ⟨rfl,by decide,rfl⟩<|(pre _).trans ?_;rw[e] at f;rw[e];refine(il<|(DD f).trans<|(il (δ1:=[SS d b,ii n,Ay [y]])<|jD (i:=2) (δ1:=[SS d b,ii n,Ay []]) (r:=(.lst [.int y],J)) ?_ (show 2<3 by decide)).trans H).trans (jF<|kh<|jC (a:= .lst [.int y]) H<|jR H);refine Fx (os:=[.val (.int y,C)]) (uP<|iU<|ll (o1:= .val (.int (1+i),C)) (δ1:=[SS m b,ii n,Ay []]) (iU<|ll (o1:= .val (.int 1,C)) (δ1:=[SS a1 b,ii n,Ay []]) H (iU<|v _ [ii n,Ay []] (.slot 1) rfl rfl) H H<|ZY _ _) (iU<|w [ii n,Ay []]) H H A) H<|vg (by simp)
 .refine⟨a1,c,⟨e,p.1,λs l=>by have:=p.2 s l;lia⟩,?_⟩;refine kF (δ:=[SS a1 b,ii n,Ay c]) ⟨rfl,by decide,rfl⟩<|(pre _).trans ?_;rw[mr e] at f;exact(il<|(Aa f).trans H).trans (jF<|kh<|jC (a:= .lst (c.map D.int)) H<|jR H)
def dC(cs:iC):D:= .R1 .dct (cs.map cD) (cs.map λ_=> .bl J)
theorem DO: ∀l:List Int,(G3<|l.map .int).isSome=J
 |[]=>rfl
 |x::l=>by
  have:=DO l;simp only[jG,G3,BW]
  cases h:G3 (l.map D.int) with
  |none=>rw[h] at this;cases this
  |some k=>rfl
def Le(c:ig):(Fl<|cD c).isSome=J:=DO c
def Ul(a:iC):((a.map cD).all λk=>(Fl k).isSome)=J:=by rw[kf];intro d hd;obtain⟨c,_,rfl⟩:=lg.mp hd;exact Le c
def G2(a:iC)(c:ig):uH (a.map cD) (cD c)=J:=by unfold uH;rw[Le,Ul];simp
theorem OH(c:ig): ∀a:List (List Int),wd (a.map cD) (a.map λ_=> .bl J) (cD c) (.bl J)=a.map λ_=> .bl J
 |[]=>rfl
 |x::a=>by simp[wd,OH c a]
def W2(a:iC)(c:ig):D.R1 .dct (vP (a.map cD) (a.map λ_=> .bl J) (cD c)<|.bl J).1 (vP (a.map cD) (a.map λ_=> .bl J) (cD c)<|.bl J).2=dC (ml a c):=by
 unfold vP ml dC;rw[CP];by_cases h:c∈a
 .rw[iz<|by simpa using h,iz h,OH]
 .rw[iG<|by simpa using h,iG h];simp
theorem K5(c:ig): ∀a:List (List Int),(mv (a.map cD) (a.map λ_=> .bl J)<|cD c).isSome=decide (c∈a)
 |[]=>rfl
 |x::a=>by
  simp only[jG,mv,FC];by_cases h:x=c
  .simp[h]
  .have: ¬c=x:=λe=>h e.symm;simp[h,this,K5 c a]
def afF(c:ig)(cs:iC):yq (cD c) (dC cs)=Y (.bl (!decide (c∈cs)),C):=by show(if uH (cs.map cD) (cD c)=J then Y (D.bl (!(mv (cs.map cD) (cs.map λ_=>D.bl J)<|cD c).isSome),C) else I)=_;rw[iz<|G2 cs c,K5]
def CK.add{n:Nat}{a:iC}{c:ig}(h:CK n a)(b:P1 n c):CK n (ml a c):=by
 unfold ml;split
 .exact h
 .exact h.snoc b (by assumption)
def Lw{i:Nat}{f:F}{g:FO}{a δ1 δ2:Dn}{o:Ax}{x:D×Bool}{b:Bool}{cs:iC}{c:ig}(h1:f a=Y ((.bl J,b),δ1))(d:δ1[i]?=Y (Y x))(e:g δ1=Y (o,δ2))(h:res δ2 o=Y (cD c))(j:δ2[i]?=Y (Y (dC cs,J)))(k:(Ls cs)<10000):Gx i f g a=Y (.nx<|δ2.set i<|Y (dC<|ml cs c,J)):=by unfold Gx;rw[h1];simp only[ju];rw[d];simp only[];rw[e];simp only[ju];rw[h,j];unfold dC;simp only[];rw[iz ⟨G2 cs c,by simpa using k⟩,W2];rfl
abbrev fbD:FS:=Zm
def Yi(a:Int)(b:Bool){n:Nat}(h1:1<=n)(k:n<=5){d:iC}(l:CK n d)(f g:Sl): ∃h j,CK n j/\fbD [SS a b,ii n,f,Y (dC d,J),g,I,I,I]=Y (.nx [SS h b,ii n,f,Y (dC j,J),g,I,I,I]):=by
 obtain⟨h,c,o,e⟩:=aep a b n h1 k;refine⟨h,ml d c,l.add o,(il (δ1:=[SS h b,ii n,f,Y (dC<|ml d c,J),g,I,I,I]) ?_).trans H⟩
 have m:iu YW [SS a b,ii n,f,Y (dC d,J),g,I,I,I]=Y (.val<|enc c,[SS h b,ii n,f,Y (dC d,J),g,I,I,I]):=
  iU (kn (δ1:=[SS a b,ii n,f,Y (dC d,J),g,I,I,I]) (os:=[.slot 0,.slot 1]) (args:=[pS a b,pI n]) H H (MV 0) e)
 exact Lw (i:=3) (b:=C) H H m H H (by have:=l.len k;lia)
def acs(b:Bool){n:Nat}(h1:1<=n)(q:n<=5)(g:Sl)(m:List D)(a:Int)(cs:iC)(c:Sl)(o:CK n cs): ∃i f j,CK n f/\vQ (ik 4) fbD m [SS a b,ii n,g,Y (dC cs,J),c,I,I,I]=Y (.nx [SS i b,ii n,g,Y (dC f,J),j,I,I,I]):=by
 obtain⟨s,⟨i,f,j,k,rfl⟩,e⟩:=oh (fb:=fbD) (tg:=ik 4) (λ_ δ=> ∃a cs c,CK n cs/\δ=[SS a b,ii n,g,Y (dC cs,J),c,I,I,I]) (λd m δ h=>by obtain⟨a,cs,c,o,rfl⟩:=h;obtain⟨a1,l,r,p⟩:=Yi a b h1 q o g<|Y (d,C);exact⟨_,_,rfl,p,a1,l,_,r,rfl⟩) m _ ⟨a,cs,c,o,rfl⟩
 exact⟨i,f,j,k,e⟩
abbrev ftF:FT:=fT<|iF JE (hX 6)<|iu<|nG []
abbrev fbF:FS:=iA (kE 7<|iB kQ [iu<|PX.JF 6,hX 5]) Zv
def Us(fs:iC):JE (.lst<|fs.map cD) (.lst [])=Y (.bl (!decide (fs=[])),C):=by unfold JE;rw[iz ⟨AL fs,by decide⟩];cases fs<;>simp[D.O1,D.BD]
def Yh{n:Nat}(m:n<=5){t:ig}(q:TT n t){cs fs:iC}{c:ig}(p:CK n cs)(v:(Ls fs)<=1000)(s:P1 n c)(a d f g j:Sl):
  fbF [a,d,f,Y (dC cs,J),g,eN t,Aq<|fs++[c],j]=Y (.nx [a,d,f,Y (dC<|ml cs<|lc t c,J),g,eN t,Aq (if lc t c∈cs then fs else fs++[lc t c]),eN<|lc t c]):=by
 obtain⟨_,e,rfl⟩:=XF m q s
 have u:iu (PX.JF 6) [a,d,f,Y (dC cs,J),g,eN t,Aq<|fs++[c],j]=Y (.val<|enc c,[a,d,f,Y (dC cs,J),g,eN t,Aq fs,j]):=by refine iU ?_;unfold PX.JF;simp[Aq]
 refine(il (δ1:=[a,d,f,Y (dC cs,J),g,eN t,Aq fs,eN<|lc t c])<|jD (i:=7) (δ1:=[a,d,f,Y (dC cs,J),g,eN t,Aq fs,j]) (kn (δ1:=[a,d,f,Y (dC cs,J),g,eN t,Aq fs,j]) (os:=[.val<|enc c,.slot 5]) (args:=[enc c,enc t]) (qM u H) H (by simp[iM]) e) (show 7<8 by decide)).trans ?_
 have k:fT (iF yq (hX 7)<|hX 3) [a,d,f,Y (dC cs,J),g,eN t,Aq fs,eN<|lc t c]=Y (!decide (lc t c∈cs),[a,d,f,Y (dC cs,J),g,eN t,Aq fs,eN<|lc t c]):=
  kJ (jO (afF _ _) (jV H).r<|jR H)
 by_cases h:lc t c∈cs
 .rw[lh h] at k;refine(il<|(Aa k).trans H).trans ?_;rw[iz h,show ml cs (lc t c)=cs from iz h];rfl
 .rw[mr h] at k;refine(il (δ1:=[a,d,f,Y (dC<|ml cs<|lc t c,J),g,eN t,Aq<|fs++[lc t c],eN<|lc t c])<|(DD k).trans<|(il (δ1:=[a,d,f,Y (dC<|ml cs<|lc t c,J),g,eN t,Aq fs,eN<|lc t c]) ?_).trans<|(aek (i:=6) (l0:=fs.map cD) (l:=fs.map cD) (r:=enc<|lc t c) (δ1:=[a,d,f,Y (dC<|ml cs<|lc t c,J),g,eN t,Aq fs,eN<|lc t c]) H H H<|by simp;lia).trans ?_).trans ?_
  .exact Lw (i:=3) (b:=C) (o:= .slot 7) (cs:=cs) (δ1:=[a,d,f,Y (dC cs,J),g,eN t,Aq fs,eN<|lc t c]) (δ2:=[a,d,f,Y (dC cs,J),g,eN t,Aq fs,eN<|lc t c]) H H H H H (by have:=p.len m;lia)
  .simp[Aq]
  .rw[iG h];rfl
theorem N5{n:Nat}(u:n<=5){t:ig}(v:TT n t)(d f g i:Sl): ∀(a:Nat) (cs fs:iC) (j:Sl),CK n cs->(∀c∈fs,P1 n c)->Ls fs<=500->2*(243-Ls cs)+Ls fs<a-> ∃m w r,CK n m/\mR ftF fbF a [d,f,g,Y (dC cs,J),i,eN t,Aq fs,j]=Y (.nx [d,f,g,Y (dC m,J),i,eN t,w,r])
 |0,_,_,_,_,_,_,h=>by lia
 |a+1,cs,fs,j,s,hf,Q,h=>by
  have p:ftF [d,f,g,Y (dC cs,J),i,eN t,Aq fs,j]=Y (!decide (fs=[]),[d,f,g,Y (dC cs,J),i,eN t,Aq fs,j]):=
   kJ (o:=C) (ll (o1:= .slot 6) (o2:= .val (.lst [],J)) (δ2:=[d,f,g,Y (dC cs,J),i,eN t,Aq fs,j]) H (iU<|by simp[jT]) H H<|Us fs)
  by_cases b:fs=[]
  .rw[lh b] at p;exact⟨cs,_,j,s,ES p⟩
  .rw[mr b] at p;have e:=HA b;have B:(Ls fs.dropLast)+1=(Ls fs):=by rw[Im];have:=R8.mpr b;lia
   have U:=hf _ (kT b);have y:=Yh u v s (fs:=fs.dropLast) (by lia) U d f g i j;rw[e] at y;have A:=DN v U;have x:=s.add A;have l:=x.len u
   obtain⟨m,w,r,E,T⟩:=N5 u v d f g i a _ (if lc t (fs.getLast b)∈cs then fs.dropLast else fs.dropLast++[lc t<|fs.getLast b]) (eN<|lc t<|fs.getLast b) x (λc k=>by
    have dl: ∀c∈fs.dropLast,P1 n c:=λc k=>hf c<|M8 _ k;split at k
    .exact dl c k
    .rcases qh.mp k with z|z
     .exact dl c z
     .cases AO.mp z;exact A) (by split<;>simp<;>lia) (by
    unfold ml at l ⊢;split
    .rename_i q;simp only[q,kI] at l ⊢;lia
    .rename_i q;simp only[q,jS] at l ⊢;simp at l ⊢;lia)
   exact⟨m,w,r,E,(Ka p y).trans T⟩
def acf(cs:iC)(a:(Ls cs)<=243){k:Int}(h:k=0\/k=1): ∃fs:List (List Int),(∀c∈fs,c∈cs)/\(Ls fs)<=243/\G9 (.lst<|cs.map cD) (.int k)=Y (.lst<|fs.map cD,J):=by
 have b:=vg (n:=243) (by decide);rcases h with rfl|rfl
 .refine⟨[],by simp,by simp,?_⟩;show(if(0:Int)<=0/\(0:Int)<1000/\(cs.map cD).length*0<=sizeLine then Y (D.lst (ah 0<|cs.map cD).flatten,J) else I)=_;rw[iz ⟨by decide,by decide,by simp⟩];rfl
 .refine⟨cs,λ_ h=>h,a,?_⟩;show(if(0:Int)<=1/\(1:Int)<1000/\(cs.map cD).length*1<=sizeLine then Y (D.lst (ah 1<|cs.map cD).flatten,J) else I)=_;rw[iz ⟨by decide,by decide,by simp;exact kW a b⟩];simp
def aex(a:Int)(b:Bool)(n:Nat)(f:n<=5): ∃I' d,ph n d/\nU [pS a b,pI n]=J4 ((GI n d,K2),[SS I' b,ii n]):=by
 have E: ∀δ:Dn,fT (iF EV (hX 1) xP) (SS a b::ii n::δ)=J4 (decide<|(n:Int)=0,SS a b::ii n::δ):=λδ=>kJ (o:=K2)<|jO ((Vk _ _).trans<|by rw[vK]) (jV K3).r (jE K3).r
 by_cases V:n=0
 .subst V;refine⟨a,[],⟨by lia,⟨by simp,by simp⟩,cx,by simp⟩,?_⟩;refine kF (δ:=[SS a b,ii (0:Nat),I,I,I,I,I,I]) ⟨rfl,by decide,rfl⟩<|jF<|(DD<|E _).trans<|jF<|kh ?_;exact Lm (a:=(.int 0,K2)) (b:=(.tup [],K2)) K3 (by simp)
 .have W:1<=n:=by lia
  obtain⟨u,a1,X,Z,T⟩:=vf a b 3 (by lia) (by lia)
  let p:List Int:=[3,5,12]
  let m:=p.getD u.toNat 0
  have hm:0<m/\m<=12:=by rcases(show u=0\/u=1\/u=2 by lia) with rfl|rfl|rfl<;>decide
  obtain⟨q,B,q0,q1,G⟩:=vf a1 b (m+1) (by lia) (by lia);obtain⟨s,rfl⟩: ∃s:Nat,q=s:=⟨q.toNat,by lia⟩
  obtain⟨w,cs,e,x,J⟩:=acs b W f (ii m) (jh 0 s) B [] I ⟨by simp,by simp⟩;obtain⟨g,t,A,M⟩:=Bq w b n f;have A:=Kf A;obtain⟨v,j,v0,v1,N⟩:=vf g b 2 (by lia) (by lia);have L:=x.len f;obtain⟨fs,K,R,U⟩:=acf cs L (k:=if v=0 then 1 else 0) (by split<;>simp);obtain⟨y,O,Q,l,Y⟩:=N5 f A (SS j b) (ii n) (ii m) e U1 cs fs I x (λc h=>x.2 c<|K c h) (by lia) (by show _<100000;lia);have z:=l.len f;obtain⟨d,C,S,D⟩:=AD (cs:=y) (qW _ λc P=>(l.2 c P).1) (by lia);have hk:CK n d:=⟨C.symm.nodup l.1,λc h=>l.2 c<|C.mem_iff.mp h⟩
  refine⟨j,d.take 30,⟨f,hk.take 30,S.take 30,by rw[tR];lia⟩,?_⟩;refine kF (δ:=[SS j b,ii n,ii m,J4 (dC y,K0),e,eN t,O,Q]) ⟨rfl,by decide,rfl⟩ ?_;have H:=E [I,I,I,I,I,I];rw[mr (show ¬(n:Int)=0 by lia)] at H;refine(il<|(Aa H).trans K3).trans ?_;refine(il<|jD (i:=2) (δ1:=[SS a1 b,ii n,I,I,I,I,I,I]) (ll (o1:= .val (.lst<|p.map .int,K0)) (o2:= .val (.int u,K2)) (iU (δ1:=[SS a b,ii n,I,I,I,I,I,I])<|by simp[p,jT]) (iU<|T _ [ii n,I,I,I,I,I,I] _ rfl rfl) K3 K3<|acj X<|by simpa[p] using Z) (show 2<8 by decide)).trans ?_;refine(il (δ1:=[SS a1 b,ii n,ii m,J4 (dC [],K0),I,I,I,I]) K3).trans ?_;refine(il<|(lM<|qy (o:= .val (.int s,K2)) (δ1:=[SS B b,ii n,ii m,J4 (dC [],K0),I,I,I,I]) (iU<|G _ [ii n,ii m,J4 (dC [],K0),I,I,I,I] (.val (.int<|m+1,K2)) rfl rfl) K3<|by lia).trans J).trans ?_;refine(il<|jD (i:=5) (δ1:=[SS g b,ii n,ii m,J4 (dC cs,K0),e,I,I,I]) (kn (δ1:=[SS w b,ii n,ii m,J4 (dC cs,K0),e,I,I,I]) (os:=[.slot 0,.slot 1]) (args:=[pS w b,pI n]) K3 K3 (MV 0) M) (show 5<8 by decide)).trans ?_;refine(il<|jD (i:=6) (δ1:=[SS j b,ii n,ii m,J4 (dC cs,K0),e,eN t,I,I]) (ll (o1:= .val (.lst<|cs.map cD,K0)) (o2:= .val (.int (if v=0 then 1 else 0),K2)) (δ1:=[SS g b,ii n,ii m,J4 (dC cs,K0),e,eN t,I,I]) K3 (iU<|ll (o1:= .val (.lst [.int 1,.int 0],K0)) (δ1:=[SS g b,ii n,ii m,J4 (dC cs,K0),e,eN t,I,I]) K3 (iU<|N _ [ii n,ii m,J4 (dC cs,K0),e,eN t,I,I] _ rfl rfl) K3 K3 ?_) K3 K3 U) (show 6<8 by decide)).trans ?_
  .rcases(show v=0\/v=1 by lia) with rfl|rfl<;>rfl
  refine(il Y).trans (jF<|kh<|Lm (a:=(.int n,K2)) (b:=(.tup<|(d.take 30).map cD,K2)) K3<|jC (a:= .lst ((d.take 30).map cD)) K3 (jE (b:=K0) ?_).r);have F:yp (dC y)=J4 (.lst<|d.map cD,K0):=D;unfold DW;rw[iU<|jC F<|jR K3];simp only[ju,WJ,ab5,OQ];rw[show gSl I (J4 30) (.lst<|d.map cD)=J4 (.lst<|PX.FH (d.map cD) I<|J4 ((30:Nat):Int),K0) from K3,Rz,HM];rfl
def VS(n:Nat):List (List Int):=(am (2^n)).map λ(k:Nat)=>(am n).map λ(j:Nat)=>bW ((k:Int) / 2^(n-1-j)) 1
def afp: ∀n:Nat,n<6->VS n=jP n:=by decide+kernel
def UK{n:Nat}(f:n<=5):uQ [pI n]=Y ((.lst<|(jP n).map cD,J),[ii n]):=by
 have p: ∀k:Nat,k<=5->X4 (.int 1) (.int k)=ii (2^k:Nat):=by
  intro k hk;have:k=0\/k=1\/k=2\/k=3\/k=4\/k=5:=by lia
  have i:yP 1 (k:Int):=by rcases this with rfl|rfl|rfl|rfl|rfl|rfl<;>(unfold yP;decide+kernel)
  show((if yP 1 (k:Int) then Y (D.int (1*2^(k:Int).toNat)) else I).map λz=>(z,C))=_;rw[iz i];simp
 have h:=afs f;have g: ∀(m:Nat),jh 0 m=(am m).map λ(k:Nat)=>D.int (k:Int):=λm=>by unfold jh;simp
 have c: ∀k:Nat,iO (g1 lJ) [zC2] (C7 [.int n]++[ii k])=Y ((cD<|(am n).map λ(j:Nat)=>bW ((k:Int) / 2^(n-1-j)) 1,C),C7 [.int n]++[ii k]):=λk=>by
  refine jC (a:= .lst (((am n).map λ(j:Nat)=>bW ((k:Int) / 2^(n-1-j)) 1).map D.int)) H (jE (b:=J) ?_).r;refine(uV (caps:=[1,0]) (args:=[.int k,.int n]) (l:=(am n).map λ(j:Nat)=>D.int (j:Int)) (δ1:=C7 [.int n]++[ii k]) (λd=> .int (bW ((k:Int) / 2^(n-1-(BL d).toNat)) 1)) ?_ H H (λd hd=>?_)<|by simp;lia).trans ?_
  .rw[qy (n:=n) (o:= .slot 0) H H<|by lia,g]
  .obtain⟨j,e,rfl⟩:=lg.mp hd;have e:=wx.mp e;refine⟨C,jO (a:= .int ((k:Int) / 2^(n-1-j))) H (jE (b:=C)<|jO ?_ (jV (d:= .int k) H).r (jE (b:=C)<|jO (Vh _ _) (jE (b:=C)<|jO (Vh _ _) (jV (d:= .int n) H).r (jE H).r).r (jV (d:= .int j) H).r).r).r (jE H).r⟩;show((if(0:Int)<=(n:Int)-1-j then Y (D.int<|(k:Int) / 2^((n:Int)-1-j).toNat) else I).map λz=>(z,C))=_;rw[iz<|by lia,show((n:Int)-1-j).toNat=n-1-j by lia];rfl
  .rw[jx,jx];rfl
 refine Ao (δ:=[ii n]) ⟨rfl,by decide,rfl⟩<|(uV (caps:=[0]) (args:=[.int n]) (l:=(am (2^n)).map λ(k:Nat)=>D.int (k:Int)) (δ1:=[ii n]) (λd=>cD<|(am n).map λ(j:Nat)=>bW (BL d / 2^(n-1-j)) 1) ?_ H H (λd hd=>?_)<|by simp;lia).trans ?_
 .refine(qy (n:=2^n) (o:= .val (.int (2^n:Nat),C)) (iU<|jO (p n f) (jE H).r (jV H).r) H<|by lia).trans ?_;rw[g];rfl
 .obtain⟨k,_,rfl⟩:=lg.mp hd;exact⟨C,c k⟩
 .rw[<-afp n (by lia),VS,jx,jx];rfl
def no{t:FT}{f:FS}{δ:Dn}(g:FS)(h:t δ=Y (C,δ)):iA (Dm t f iN) g δ=g δ:=il<|(Aa h).trans H
def xX{k l:iC}(g:k.Perm l)(h1:E9 k)(f:E9 l):k=l:=by
 refine g.eq_of_pairwise (le:=λa b=>BN (cD b) (cD a)=C) (λa b _ _ x y=>?_) h1 f;rw[zI] at x y;have d: ∀x:List Int,D.pr (cD x)=J:=λx=>by simp[D.pr,ya]
 have e:cT (cD a) (cD b)= .eq:=by
  rw[yL] at x
  cases c:cT (cD a) (cD b) with
  |lt=>exact absurd c y
  |gt=>rw[c] at x;exact absurd H x
  |eq=>rfl
 have:=uW _ _ (d a) (d b) e;simpa[lI] using mC IS this
def RQ: ∀n:Nat,n<6->(jP n).Pairwise λa b=>BN (cD b) (cD a)=C:=by decide+kernel
def PT(n m:Nat)(p:ig):Prop:=Ls p=m/\(∀x∈p,SG n x)/\(p.map ab).Nodup
def PT.tt{n:Nat}{t:ig}(h:PT n n t):TT n t:=Jk.mpr ⟨by simp[h.1],λx a=>by obtain⟨y,b,rfl⟩:=lg.mp a;exact h.2.1 y b,h.2.2⟩
def XB{n m:Nat}{p c:ig}(h:PT n m p)(d:P1 m c):((c.map<|led p).map ab).Nodup:=by
 rw[jx];have f:=DF d.2.1;rw[Dq] at f ⊢;rw[mT] at f ⊢;refine AQ ?_ f;intro a b g i o e;simp only[aX] at e;rw[FZ h.1<|d.2.2 a g,FZ h.1<|d.2.2 b i] at e;have h1:=d.2.2 a g;have l:=d.2.2 b i;have j:(ab a).toNat-1<(p.map ab).length:=by simp[h.1];lia
 have k:(ab b).toNat-1<(p.map ab).length:=by simp[h.1];lia
 simp only[lO,jg j,jg k,gO] at e;have:=(EL h.2.2).mp e
 lia
def Ug(p c:ig):mY JV ((c.map<|led p).map D.int)=(lc p c).map D.int:=(G6<|kP JV _).1
def XM{n m:Nat}(l:m<=5){p c:ig}(h:PT n m p)(e:P1 m c):mG [enc c,enc p]=Y (enc<|lc p c,[eN c,eN p]):=by
 have k:=e.len
 have i:xu (.lst<|(c.map<|led p).map D.int)=Y (.lst<|(lc p c).map D.int,J):=by
  show(if((c.map<|led p).map D.int).all Mp=J/\(((c.map<|led p).map D.int).map aD).Nodup/\((c.map<|led p).map D.int).length<64 then Y (D.lst<|mY JV<|(c.map<|led p).map D.int,J) else I)=_
  have f:((c.map<|led p).map D.int).all Mp=J:=by rw[kf];intro d hd;obtain⟨x,_,rfl⟩:=lg.mp hd;rfl
  have g:(((c.map<|led p).map D.int).map aD).Nodup:=by rw[jx];exact XB h e
  rw[iz ⟨f,g,by simp;lia⟩,Ug]
 refine Ao ⟨rfl,by decide,rfl⟩<|jC (a:= .lst ((lc p c).map D.int)) H (jE (b:=J)<|jC i (jE (b:=J)<|vI (args:=[cD p]) (led p) H H H (λx j=>⟨C,?_⟩)<|by lia).r).r;exact Cb (XQ h.1<|e.2.2 x j) (jV H)<|jV H
def Ue{m:Nat}{p:ig}(a:(Ls p)=m)(r:ig){s:Int}(h:SG m s):led (p++r) s=led p s:=by
 obtain⟨k,hk,rfl|rfl⟩:=lR h
 .rw[kZ,kZ];simp[lO,pA (show k<(Ls p) by lia)]
 .rw[lF,lF];simp[lO,pA (show k<(Ls p) by lia)]
def XR{m:Nat}{p c:ig}(b:(Ls p)=m)(r:ig)(a:P1 m c):lc (p++r) c=lc p c:=by unfold lc;rw[mW λs d=>Ue b r<|a.2.2 s d]
noncomputable def MA(n:Nat):List Int:=((am (2*n+1)).map λ(k:Nat)=> -(n:Int)+k).filter λs=>!(s==0)
def Mq(n:Nat)(t:ig):List Int:=(MA n).filter λs=>!t.contains s&&!t.contains (-s)
def Jr(n:Nat)(L:iC):List (List Int):=L.flatMap λt=>(Mq n t).map λs=>t++[s]
def mh(n:Nat):Nat->List (List Int)
 |0=>[[]]
 |m+1=>Jr n<|mh n m
def YH{n:Nat}{s:Int}:s∈MA n↔SG n s:=by
 unfold MA SG;simp only[qg,lg,wx];constructor
 .rintro⟨⟨k,hk,rfl⟩,b⟩;unfold ab;simp at b;split<;>lia
 .rintro⟨h1,a⟩;unfold ab at h1 a;refine⟨⟨(s+n).toNat,by split at a<;>lia,by split at a<;>lia⟩,by simp;split at h1<;>lia⟩
def uY{n:Nat}: ∀{m:Nat} {t:ig},t∈mh n m->PT n m t:=by
 intro r
 induction r with
 |zero=>intro t h;simp[mh] at h;subst h;exact⟨rfl,λx c=>by simp at c,nH⟩
 |succ m q=>
  intro t h;simp only[mh,Jr,vN,lg] at h;obtain⟨p,o,s,d,rfl⟩:=h;obtain⟨h1,j,k⟩:=q o;unfold Mq at d;simp only[qg,kU,c4,gi,decide_eq_false_iff_not] at d;obtain⟨d,f,g⟩:=d;have sg:=YH.mp d;refine⟨by simp[h1],λx c=>?_,?_⟩
  .rcases qh.mp c with c|c
   .exact j x c
   .simp at c;subst c;exact sg
  .rw[qj,AA];refine⟨k,by simp,λa l b i e=>?_⟩;simp at i;subst i;subst e;obtain⟨x,c,e⟩:=lg.mp l;unfold ab at e;have:x=s\/x= -s:=by split at e<;>split at e<;>lia
   rcases this with rfl|rfl
   .exact f c
   .exact g c
def Hq: ∀n,n<6-> ∀m,m<6->(mh n m).length<=3840:=by decide+kernel
def XZ{f g:FO}{δ δ1 δ2:Dn}{o1 o2:Ax}{i j:Int}(h1:f δ=Y (o1,δ1))(a:g δ1=Y (o2,δ2))(b:res δ2 o1=Y (.int i))(c:res δ2 o2=Y (.int j))(d: -1000<=i/\i<=1000)(e: -1000<=j/\j<=1000):BZ f g δ=Y (jh i (j-i).toNat,δ2):=by unfold BZ;rw[qM h1 a];simp only[ju,vO,b,c];rw[iz<|by lia]
def adJ{n:Nat}(b:n<=5):pe [pI n]=Y ((.lst<|(MA n).map .int,J),[ii n]):=by
 have e:=CB (caps:=[]) (fi:=BZ (iu<|sy B9<|hX 0) Wa) (f:=jX 0) (ti:=fT<|iF JE (hX 0) xP) (δ:=[ii n]) (δ1:=[ii n]) (l:=jh (-(n:Int)) (2*n+1)) (args:=[]) (λd=>d) (λd=>!(BL d==0)) ?_ H H (λd hd=>?_) (by simp[jh];lia)
 .have a:((jh (-(n:Int)) (2*n+1)).filter λd=>!(BL d==0)).map (λd=>d)=(MA n).map .int:=by rw[pC];unfold jh MA;rw[show(λ(k:Nat)=>D.int (-(n:Int)+k))=D.int∘(λ(k:Nat)=> -(n:Int)+k) from H,<-jx,Hz];rfl
  rw[a] at e;exact Ao ⟨rfl,by decide,rfl⟩ e
 .rw[XZ (o1:= .val (.int (-n),C)) (o2:= .val (.int<|n+1,C)) (δ1:=[ii n]) (δ2:=[ii n]) H H H H (by lia)<|by lia,show((n:Int)+1- -n).toNat=2*n+1 by lia]
 .obtain⟨k,_,rfl⟩:=lg.mp hd;exact⟨by simp[BL],λ_=>⟨C,rfl⟩⟩
abbrev N9:FT:=Ah (fT VZ) Wd
abbrev fE:F:=YV
def Wq(n:Nat)(t:ig)(s:Int):N9 [ii n,eN t,ii s]=Y (!t.contains s&&!t.contains (-s),[ii n,eN t,ii s]):=by
 have h1:fT VZ [ii n,eN t,ii s]=Y (!t.contains s,[ii n,eN t,ii s]):=kJ<|jO (KQ s t) (jV H).r (jV H).r;have a:Wd [ii n,eN t,ii s]=Y (!t.contains (-s),[ii n,eN t,ii s]):=kJ<|jO (KQ (-s) t) (jE (b:=C) H).r (jV H).r;unfold N9 Ah;rw[h1];simp only[ju];cases t.contains s
 .simp only[dR,kI,yV];exact a
 .rfl
def aaN(n:Nat)(t:ig)(a:(Ls t)<=100)(s:Int):fE [ii n,eN t,ii s]=Y ((cD<|t++[s],C),[ii n,eN t,ii s]):=by refine jO (b:= .tup [.int s]) ?_ (jV H).r (jE (b:=C)<|by simp[jT,jX]).r;show uK (.tup<|t.map .int) (.tup [.int s])=_;simp only[uK];rw[iz<|vg<|by simp;lia,<-List.map_singleton,<-qj]
theorem RI{n:Nat}(e:n<=5): ∀(L:iC) (a:List D) (x y:Sl),(∀t∈L,Ls t<=100)->Ls a+10*(Ls L)<=sizeLine->
  ∃u b,jH (ik 1) jk (FR (jB<|iB pe [hX 0]) (ik 2) N9<|jm fE) (L.map cD) a [ii n,x,y]=Y (a++(Jr n L).map cD,[ii n,u,b])
 |[],a,x,y,_,_=>⟨x,y,by simp[jH,Jr]⟩
 |t::L,a,x,y,h,o=>by
  have q:(MA n).length<=10:=by have:=rJ (λs:Int=>!(s==0))<|(am (2*n+1)).map λ(k:Nat)=> -(n:Int)+k;rcases(show n=0\/n=1\/n=2\/n=3\/n=4\/n=5 by lia) with rfl|rfl|rfl|rfl|rfl|rfl<;>decide
  simp only[kO] at o
  obtain⟨b,c⟩:=Yx (f:=fE) (ti:=N9) (g:=λd=>cD<|t++[BL d]) (p:=λd=>!t.contains (BL d)&&!t.contains (-(BL d))) (pre:=[ii n,eN t]) ((MA n).map .int) a y (λd hd=>by obtain⟨s,_,rfl⟩:=lg.mp hd;exact⟨Wq n t s,λ_=>⟨C,aaN n t (h t jc) s⟩⟩) (by simp;lia)
  have j:(((MA n).map D.int).filter λd=>!t.contains (BL d)&&!t.contains (-(BL d))).map (λd=>cD<|t++[BL d])=((Mq n t).map λs=>t++[s]).map cD:=by rw[Hz,jx,jx];rfl
  rw[j] at c
  have m:((Mq n t).map λs=>t++[s]).length<=10:=by rw[jf];exact kW (rJ _ _) q
  obtain⟨x2,v,i⟩:=RI e L (a++((Mq n t).map λs=>t++[s]).map cD) (eN t) b (λr l=>h r<|ji _ l) (by rw[mX,jf];lia);refine⟨x2,v,?_⟩;rw[jG,jH];rw[show ik 1 (cD t) [ii n,x,y]=Y [ii n,eN t,y] from H];simp only[ju,rX,kI];unfold FR;rw[mV<|Jm (adJ e)<|jV H];simp only[ju];rw[show jH (ik 2) N9 (jm fE) ((MA n).map .int) a [ii n,eN t,y]=_ from c];simp only[ju];refine(show _=_ from i).trans ?_;simp[Jr]
def afH{n:Nat}(a:n<=5)(L:iC)(h: ∀t∈L,Ls t<=100)(b:(Ls L)<=4000):nR [pI n,(.lst<|L.map cD,J)]=Y ((.lst<|(Jr n L).map cD,J),[ii n,Y (.lst<|L.map cD,C)]):=by obtain⟨c,d,e⟩:=RI a L [] I I h (by rw[jT];simp;lia);refine kF (δ:=[ii n,Y (.lst<|L.map cD,C)]) ⟨rfl,by decide,rfl⟩<|jF<|kh ?_;exact(rB (caps:=[0]) (l:=L.map cD) (δ1:=[ii n,Y (.lst<|L.map cD,C)]) (args:=[pI n]) (mV (o:=C) H) H nH e).trans H
def ln(c:ig):Nat:=(ab<|c.getLastD 0).toNat
def K7{n:Nat}{c:ig}(h:P1 n c):1<=ln c/\ln c<=n/\P1 (ln c) c:=by
 obtain⟨b,h1,d⟩:=h;rcases AY c with rfl|⟨l,x,rfl⟩
 .exact absurd H b
 rw[AX] at b h1 d ⊢;have e:ln (l++[x])=(ab x).toNat:=by simp[ln,fD]
 have f:=d x (by simp);rw[e];refine⟨by lia,by lia,b,h1,λs a=>⟨(d s a).1,?_⟩⟩;rcases qh.mp a with a|a
 .rw[qj,tu] at h1;have:=h1.2.2 (ab s) (oR a) (ab x) (by simp)
  lia
 .simp at a;subst a;lia
def P1.up{n m:Nat}{c:ig}(h:P1 n c)(b:n<=m):P1 m c:=⟨h.1,h.2.1,λs a=>by have:=h.2.2 s a;lia⟩
def Ui{n:Nat}{c:ig}(h:P1 n c):Ct (cD c) (.int (-1))=ii (c.getLastD 0):=by
 rcases AY c with rfl|⟨l,x,rfl⟩
 .exact absurd H h.1
 simp only[AX];simp[Ct,JT,Gf,fD];rw[iz<|by lia,show(-1+(((Ls l):Int)+1)).toNat=(Ls l) by lia];simp
def X2(c:ig)(a:iC):MZ (cD c) (.tup<|a.map cD)=Y (.bl<|decide<|c∈a,C):=Vy c a
def GH(js a:iC)(m:Nat)(t:ig):Bool:=a.all λc=>!decide (ln c<=m)||decide (lc t c∈js)
def L5(a:iC)(m:Nat):List (List Int):=a.filter λc=>ln c==m
theorem DV{d e:Type}{P:d->Bool}{Q R:e->Bool}{f:d->List e}: ∀L:List d,(∀t∈L,∀u∈f t,R u=(P t&&Q u))->((L.filter P).flatMap f).filter Q=(L.flatMap f).filter R
 |[],_=>rfl
 |t::L,h=>by
  have g:=DV L λt b=>h t<|ji _ b;have b:=h t jc;rw[Hw,cY,<-g]
  cases a:P t with
  |true=>
   rw[c8 a,Hw,cY]
   congr 1
   exact AR λu c=>by rw[b u c,a];rfl
  |false=>
   rw[Hv<|by rw[a];decide];have:(f t).filter R=[]:=List.filter_eq_nil_iff.mpr λu c=>by rw[b u c,a,dU];exact ku
   rw[this];rfl
def agd{n m:Nat}{b a:iC}(hk: ∀c∈a,P1 n c){t:ig}(f:(Ls t)=m)(s:Int):GH b a (m+1) (t++[s])=(GH b a m t&&(L5 a<|m+1).all λc=>decide<|lc (t++[s]) c∈b):=by
 unfold GH L5
 induction a with
 |nil=>rfl
 |cons c a g=>
  have e:=K7<|hk c jc;rw[zf,zf,g λc h=>hk c<|ji _ h];by_cases h1:ln c=m+1
  .rw[c8<|by simp[h1],zf,lh (show ln c<=m+1 by lia),mr (show ¬ln c<=m by lia)];simp only[qO,n3,dR,p0,yV];cases decide (lc (t++[s]) c∈b)<;>cases(a.all λc=>!decide (ln c<=m)||decide (lc t c∈b))<;>rfl
  .rw[Hv<|by simpa using h1];by_cases d:ln c<=m
   .rw[lh (show ln c<=m+1 by lia),lh d,XR f [s]<|e.2.2.up d,fy]
   .rw[mr (show ¬ln c<=m+1 by lia),mr d,fy];rfl
def Rj{n m:Nat}{js a:iC}(hk: ∀c∈a,P1 n c):(Jr n<|(mh n m).filter<|GH js a m).filter (λu=>(L5 a<|m+1).all λc=>decide<|lc u c∈js)=(mh n<|m+1).filter (GH js a<|m+1):=by refine DV _ λt b u d=>?_;obtain⟨s,_,rfl⟩:=lg.mp d;exact agd hk (uY b).1 s
def aai{n:Nat}{js a:iC}(hk: ∀c∈a,P1 n c)(t:ig):GH js a 0 t=J:=kf.mpr λc b=>by rw[mr (by have:=(K7<|hk c b).1;lia)];rfl
def aah{n:Nat}{js a:iC}(hk: ∀c∈a,P1 n c)(t:ig):GH js a n t=a.all λc=>decide (lc t c∈js):=by unfold GH;rw[yQ,kf,kf];refine Hx λc=>Hx λb=>?_;rw[lh (K7<|hk c b).2.1];rfl
abbrev Sw:FT:=zC8
abbrev aaI:FS:=iA zC7<|iA (kE 4<|jn [1,6] 1 Wc (ik 2) Sw<|jm<|jX 2) iN
abbrev Cg(L:iC)(o:Bool):Sl:=Y (.lst<|L.map cD,o)
abbrev FU(L:iC):Sl:=Y (.tup<|L.map cD,C)
def Sv{n m:Nat}(e:m<=5){js rd:iC}(g: ∀c∈rd,P1 m c)(i:(Ls rd)<=30){t:ig}(h:PT n m t)(o:Bool):Sw [FU js,Cg rd o,eN t]=Y (rd.all λc=>decide<|lc t c∈js,[FU js,Cg rd C,eN t]):=by
 have c:=yD (caps:=[0,2]) (fi:=jB<|jX 1) (f:=iF MZ Y4<|hX 0) (δ:=[FU js,Cg rd o,eN t]) (δ1:=[FU js,Cg rd C,eN t]) (l:=rd.map cD) (args:=[.tup<|js.map cD,cD t]) (λd=>decide<|lc t (IS d)∈js) (by cases o<;>exact mV (o:=C) H) H H (λd hd=>by obtain⟨c,a,rfl⟩:=lg.mp hd;rw[lI];exact⟨C,jO (b:= .tup (js.map cD)) (X2 _ _) (jE (b:=C)<|Cb (XM e h<|g c a) (jV H)<|jV H).r (jV H).r⟩) (by simp;lia)
 rw[show(rd.map cD).all (λd=>decide<|lc t (IS d)∈js)=rd.all λc=>decide (lc t c∈js) by rw[ze];simp only[sQ,lI]] at c;exact kJ c
theorem RG{n m:Nat}(g:m<=5){js rd:iC}(i: ∀c∈rd,P1 m c)(f:(Ls rd)<=30): ∀(L:iC) (a:List D) (o:Bool) (x:Sl),(∀t∈L,PT n m t)->Ls a+Ls L<=sizeLine->
  ∃b d,jH (ik 2) Sw (jm<|jX 2) (L.map cD) a [FU js,Cg rd o,x]=Y (a++(L.filter λt=>rd.all λc=>decide<|lc t c∈js).map cD,[FU js,Cg rd b,d])
 |[],a,o,x,_,_=>⟨o,x,by simp[jH]⟩
 |t::L,a,o,x,h,q=>by
  have l:=Sv g i f (h t jc) (js:=js) o;have j: ∀t∈L,PT n m t:=λt r=>h t<|ji _ r;simp only[kO] at q;rw[jG,jH,show ik 2 (cD t) [FU js,Cg rd o,x]=Y [FU js,Cg rd o,eN t] from H];simp only[ju];rw[l];simp only[ju]
  cases k:rd.all λc=>decide (lc t c∈js) with
  |false=>obtain⟨b,d,e⟩:=RG g i f L a C (eN t) j (by lia);exact⟨b,d,by rw[iG ku,Hv (p:=λt=>rd.all λc=>decide<|lc t c∈js)<|by rw[k];exact ku];exact e⟩
  |true=>obtain⟨b,d,e⟩:=RG g i f L (a++[cD t]) C (eN t) j (by simp;lia);refine⟨b,d,?_⟩;rw[iz H,c8 (p:=λt=>rd.all λc=>decide<|lc t c∈js) k];simp only[vm];rw[show jX 2 [FU js,Cg rd C,eN t]=Y ((cD t,C),[FU js,Cg rd C,eN t]) from H];simp only[ju];rw[iz<|by lia];simp only[ju];rw[e];simp
def Yl{t:FT}{f g:F}{δ δ1:Dn}{b:Bool}(h:t δ=Y (b,δ1)):MC t f g δ=if b=J then f δ1 else g δ1:=by unfold MC;rw[h];rfl
theorem Lp{n:Nat}(a:n<=5): ∀L:List (List Int),(Jr n L).length<=10*(Ls L)
 |[]=>by simp[Jr]
 |t::L=>by
  have:=Lp a L
  have b:((Mq n t).map λs=>t++[s]).length<=10:=by rw[jf];refine kW (rJ _ _) ?_;rcases(show n=0\/n=1\/n=2\/n=3\/n=4\/n=5 by lia) with rfl|rfl|rfl|rfl|rfl|rfl<;>decide
  unfold Jr at*;rw[Hw,mX,kO]
  lia
section
variable {n:Nat}{g js:iC}(j:n<=5)(hk: ∀c∈g,P1 n c)(q:g.length<=30)
include j hk q
abbrev LX(n:Nat)(g js L:iC)(x y:Sl):Dn:=[Y (GI n g,C),FU js,ii n,FU g,Cg L J,x,y]
theorem Uy{m:Nat}(G:m+1<=n)(y:Sl): ∃Q,aaI (LX n g js ((mh n m).filter<|GH js g m) (ii<|(m:Int)+1) y)=Y (.nx<|LX n g js ((mh n<|m+1).filter<|GH js g<|m+1) (ii<|(m:Int)+1) Q):=by
 have s:=CB (caps:=[5]) (fi:=jB<|jX 3) (f:=jX 1) (ti:=fT Zt) (δ:=LX n g js ((mh n m).filter<|GH js g m) (ii<|(m:Int)+1) y) (δ1:=LX n g js ((mh n m).filter<|GH js g m) (ii<|(m:Int)+1) y) (l:=g.map cD) (args:=[.int<|(m:Int)+1]) (λd=>d) (λd=>ln (IS d)==m+1) H H H (λd hd=>by
  obtain⟨c,u,rfl⟩:=lg.mp hd;rw[lI];refine⟨kJ (o:=C)<|jO (a:= .int (ab<|c.getLastD 0)) ?_ (jE (b:=C)<|jC H (jE (b:=C)<|jO (Ui<|hk c u) (jV H).r (jE (b:=C) H).r).r).r (jV H).r,λ_=>⟨C,rfl⟩⟩;have T:0<=ab (c.getLastD 0):=by unfold ab;split<;>lia
  have:(ln c==m+1)=decide (ab (c.getLastD 0)=(m:Int)+1):=by
   unfold ln;generalize ab (c.getLastD 0)=x at*;by_cases h:x=(m:Int)+1
   .rw[lh h,h];simp
   .rw[mr h];simp;lia
  rw[this];generalize ab (c.getLastD 0)=x;simp[EV,D.O1,D.dep,vK]) (by simp;lia)
 rw[zP] at s;have er:(g.filter λt=>ln (IS<|cD t)==m+1)=L5 g (m+1):=by simp only[lI];rfl
 rw[er] at s
 have O: ∀c∈L5 g (m+1),P1 (m+1) c:=λc u=>by obtain⟨h1,z⟩:=qg.mp u;have:=K7<|hk c h1;rw[beq_iff_eq] at z;rw[<-z];exact this.2.2
 have v:(L5 g<|m+1).length<=30:=kW (rJ _ _) q;have B: ∀t∈(mh n m).filter (GH js g m),PT n m t:=λt k=>uY (qg.mp k).1;have U:((mh n m).filter<|GH js g m).length<=3840:=kW (rJ _ _)<|Hq n (by lia) m (by lia)
 have E: ∀t∈Jr n ((mh n m).filter<|GH js g m),PT n (m+1) t:=λt k=>by refine uY (m:=m+1) ?_;obtain⟨p,I,L⟩:=vN.mp k;exact vN.mpr ⟨p,(qg.mp I).1,L⟩
 have N:(Jr n<|(mh n m).filter<|GH js g m).length<=38400:=by
  have:=Lp j<|(mh n m).filter<|GH js g m
  lia
 obtain⟨w,M,e⟩:=RG (n:=n) (m:=m+1) (by lia) (js:=js) O v (Jr n<|(mh n m).filter<|GH js g m) [] J KE E (by rw[jT];simp;lia);rw[wy,Rj hk] at e;refine⟨Cg (L5 g<|m+1) w,?_⟩
 have A:jn [1,6] 1 Wc (ik 2) Sw (jm<|jX 2) (LX n g js ((mh n m).filter<|GH js g m) (ii<|(m:Int)+1)<|Cg (L5 g<|m+1) J)=Y ((.lst<|((mh n<|m+1).filter<|GH js g<|m+1).map cD,J),[rS n g,FU js,ii n,FU g,Cg ((mh n m).filter<|GH js g m) C,ii<|(m:Int)+1,Cg (L5 g<|m+1) w]):=by
  refine(rB (caps:=[1,6]) (args:=[(.tup<|js.map cD,C),(.lst<|(L5 g<|m+1).map cD,J)]) (δ1:=[rS n g,FU js,ii n,FU g,Cg ((mh n m).filter<|GH js g m) C,ii<|(m:Int)+1,Cg (L5 g<|m+1) J]) (mV (o:=J) ?_) H (MV 6) e).trans ?_
  .exact kn (δ1:=LX n g js ((mh n m).filter<|GH js g m) (ii<|(m:Int)+1)<|Cg (L5 g<|m+1) J) (os:=[.slot 2,.slot 4]) (args:=[pI n,(.lst<|((mh n m).filter<|GH js g m).map cD,J)]) H H (MV 4) (afH j _ (λt k=>by have:=(B t k).1;lia) (by lia))
  .cases w<;>rfl
 exact(il<|jD s (show 6<7 by decide)).trans ((il<|jD (i:=4) A (show 4<7 by decide)).trans H)
theorem aed:nS [(GI n g,C),(.tup<|js.map cD,C)]=Y ((.lst<|((mh n n).filter λt=>g.all λc=>decide<|lc t c∈js).map cD,J),[rS n g,FU js]):=by
 obtain⟨_,⟨m,x,y,i,rfl⟩,e⟩:=oh (tg:=ik 5) (fb:=aaI) (λds δ=> ∃(m:Nat) (x y:Sl),(m<=n/\ds=(bu (m+1)<|n-m).map λ(k:Nat)=>D.int (k:Int))/\δ=LX n g js ((mh n m).filter<|GH js g m) x y) (λd ds δ U=>by
  obtain⟨m,x,y,⟨h1,a⟩,h⟩:=U
  subst h
  have l:m<n:=by
   rcases rs m n with h|h
   .exact h
   .rw[show n-m=0 by lia] at a;cases a
  rw[show n-m=(n-(m+1))+1 by lia,A4,jG] at a;obtain⟨rfl,rfl⟩:=wL a;obtain⟨o,e⟩:=Uy (js:=js) j hk q (m:=m) (by lia) y
  exact⟨_,_,rfl,e,m+1,_,o,⟨l,rfl⟩,rfl⟩) ((bu 1 n).map λ(k:Nat)=>D.int (k:Int)) (LX n g js [[]] I I) ⟨0,I,I,⟨lP _,rfl⟩,by rw[YF.mpr λt _=>aai hk t];rfl⟩
 obtain⟨p,f⟩:=i
 have b:m=n:=by
  rcases rs m n with h|h
  .rw[show n-m=(n-(m+1))+1 by lia,A4] at f;cases f
  .lia
 subst b;rw[AR λt _=>aah hk t] at e;refine kF (δ:=[rS m g,FU js,ii m,FU g,I,x,y]) ⟨rfl,by decide,rfl⟩ ?_;refine(il (δ1:=[rS m g,FU js,ii m,FU g,I,I,I]) H).trans ((il (δ1:=LX m g js [[]] I I)<|by simp[jT]).trans ?_);refine(il<|(lM (ds:=(bu 1 m).map λ(k:Nat)=>D.int (k:Int)) (δ1:=LX m g js [[]] I I) ?_).trans e).trans (jF ?_)
 .rw[Lg (o1:= .val (.int 1,C)) (o2:= .val (.int<|(m:Int)+1,C)) (δ2:=LX m g js [[]] I I) H H H H (by lia)<|by lia,show((m:Int)+1-1).toNat=m by lia,DE]
 .rfl
theorem qK:lH [(GI n g,C)]=Y ((.lst<|((mh n n).filter λt=>g.all λc=>decide<|lc t c∈g).map cD,J),[rS n g]):=by
 refine Ao ⟨rfl,by decide,rfl⟩<|Cb (b:=GI n g) (outs:=[rS n g,rS n g]) ?_ (jV H)<|jV H;refine Ao ⟨rfl,by decide,rfl⟩ (δ:=[rS n g,rS n g])<|(Yl (b:=J) (δ1:=[rS n g,rS n g])<|kJ (o:=C)<|jO (a:= .int (Ls g)) (Q0<|by simp[D.dep]) (jE (b:=C)<|jC ?_ (jE (b:=C)<|jO H (jV H).r (jE H).r).r).r (jE (b:=C)<|jC ?_ (jE (b:=C)<|jO H (jV H).r (jE H).r).r).r).trans ?_
 .simp[uI]
 .simp[uI]
 .exact Cb (aed j hk q) (jV H) (jE (b:=C)<|jO H (jV H).r (jE H).r)
end
def Qc{l:ig}(h:(l.map ab).Nodup):l.Nodup:=sn ab (λ_ _ h e=>h<|mC ab e) h
abbrev dS(n:Nat)(a b:Sl)(F:iC)(c d:Sl):Dn:=[ii n,a,b,Cg F J,c,d]
def GO{f:Type}[DecidableEq f]: ∀(l m:List f),l.Nodup->(∀x∈l,x∈m)->Ls m<=Ls l->l.Perm m:=by
 intro j
 induction j with
 |nil=>intro m _ _ h;rw[M4.mp<|Nat.le_zero.mp h]
 |cons x l i=>intro m a b g;rw[Am] at a;have c:=b x jc;have k:=i (m.erase x) a.2 (λy d=>(Em (show y≠x from λe=>a.1<|e▸d)).mpr<|b y<|ji _ d) (by rw[Ny c];simp at g;omega);exact(k.cons x).trans (HB c).symm
def XT{n:Nat}{t a b:ig}(f:TT n t)(c:P1 n a)(d:P1 n b)(e:lc t a=lc t b):a=b:=by
 have i:=(og f c).1.1;have m:=(og f d).1.1;rw[e] at i;have j:=i.symm.trans m;have k:=j.length_eq;simp only[jf] at k
 have l:a.Perm b:=GO _ _ (Qc<|DF c.2.1) (λs h=>by obtain⟨r,g,e⟩:=lg.mp<|j.mem_iff.mp<|oR h;rw[<-yj f (d.2.2 r g) (c.2.2 s h) e];exact g) (by lia)
 have o:=mT.mp c.2.1;have p:=mT.mp d.2.1;exact l.eq_of_pairwise (λx y _ _ h1 q=>by lia) o p
def GW{n:Nat}{t:ig}{d g:iC}(o:TT n t)(f:ph n d)(h:LR t d g):(g=d)↔ ∀c∈d,lc t c∈d:=by
 constructor
 .rintro rfl c i;exact h.1.mem_iff.mpr<|oR i
 .intro j
  have q:(d.map<|lc t).Nodup:=by rw[Dq,mT];refine AQ ?_<|Dq.mp f.2.1.1;intro a b k l r e;exact r<|XT o (f.2.1.2 a k) (f.2.1.2 b l) e
  have m:g.Perm d:=by refine h.1.trans<|GO _ _ q (λx p=>?_) (by simp);obtain⟨c,i,rfl⟩:=lg.mp p;exact j c i
  exact xX m h.2 f.2.2.1
def abu{n:Nat}{d:D}(h:tB n d=J): ∃t,d=cD t/\TT n t:=by
 rw[Kj] at h
 cases d with
 |tup l=>
  simp only[lB,kU,kf,pz] at h;refine⟨l.map BL,?_,?_⟩
  .have:l=(l.map BL).map D.int:=by
    rw[jx]
    conv=>lhs;rw[<-sM l]
    exact mW λd hd=>IQ<|h.1 d hd
   exact mC D.tup this
  .unfold TT;rw[jx];exact h.2
 |_=>cases h
def OW(n:Nat)(a:iC)(d:D):Bool:=tB n d&&a.all λc=>decide<|lc ((Bt d).map BL) c∈a
def OB(t:ig):(Bt<|cD t).map BL=t:=lI t
theorem Lv: ∀a b:List (List Int),D.BD (a.map cD) (b.map cD)=decide (a=b)
 |[],[]=>rfl
 |[],_::_=>rfl
 |_::_,[]=>rfl
 |x::a,y::b=>by rw[jG,jG,D.BD,FC,Lv a b];simp
def X6(n:Nat)(a b:iC):EV (GI n a) (GI n b)=Y (.bl<|decide<|a=b,C):=by unfold EV;rw[iz ⟨Rv n a,Rv n b⟩];simp only[D.O1,D.BD];rw[Lv];simp
section
variable {n:Nat}{a:iC}(h:ph n a){d:D}(hd:Ol d)
include h hd
theorem ae2:nC [(GI n a,C),(d,C)]=Y ((.bl<|OW n a d,C),[rS n a,Y (d,C)]):=by
 have c:iB kc [Bk,hX 1] [rS n a,Y (d,C)]=Y ((.bl<|tB n d,C),[rS n a,Y (d,C)]):=Cb (uq n d hd) (jE (b:=C)<|jO H (jV H).r (jE H).r)<|jV H;refine Ao ⟨rfl,by decide,rfl⟩ (δ:=[rS n a,Y (d,C)]) ?_;unfold OW
 cases e:tB n d with
 |false=>rw[e] at c;exact JN c
 |true=>
  rw[e] at c;obtain⟨t,rfl,f⟩:=abu e;obtain⟨ds,i,g⟩:=Qp f h;refine(Fy c).trans (jO ?_ (jE (b:=C)<|Cb g (jV H)<|jV H).r (jV H).r);rw[X6,OB,yV]
  congr 3
  rw[yQ,pz,kf,GW f h i];simp only[pz]
end
section
variable {n:Nat}{a:iC}(h:ph n a)
include h
abbrev Sr(n:Nat)(a:iC):List (List Int):=(mh n n).filter λt=>a.all λc=>decide<|lc t c∈a
theorem K8:(Sr n a).length<=3840:=kW (rJ _ _)<|Hq n (by have:=h.1;lia) n (by have:=h.1;lia)
theorem jJ{t:ig}(b:t∈Sr n a):TT n t:=(uY (qg.mp b).1).tt
end
abbrev fr1(t:ig)(s:Int):Bool:=!t.contains s&&!t.contains (-s)
def abz(n:Nat)(t:ig):List Int:=(st n).filter<|fr1 t
abbrev d5(n:Nat)(a b:Sl)(F:iC)(t:ig)(o:Bool):Dn:=dS n a b F (eN t)<|Y (.lst<|(abz n t).map .int,o)
def jU3{f:Ap}{g fb i:FO}{δ:Dn}{a b c:D}{r:D×Bool}{e:Dn}(h:f [(a,C),(b,C),(c,C)]=Y (r,e))(k:FJ g δ a)(l:FJ fb δ b)(m:FJ i δ c):iB f [g,fb,i] δ=Y (r,δ):=by obtain⟨o,h1,_,j⟩:=k;obtain⟨t,n,_,p⟩:=l;obtain⟨u,q,_,s⟩:=m;refine(kn (pW h1<|qM n q) (args:=[a,b,c].map λd=>(d,C)) (by simp[j,p,s]) (by rw[uG];exact nH) h).trans ?_;rw[Ga]
def nb(d:D)(lo a:Int):Bool:=match d with| .int s=>decide (lo<=s)&&decide (s<=a)|_=>C
section
variable {d:D}{lo a:Int}
def acM:rA Y8 [Y (d,C),ii lo,ii a]=Y (!nb d lo a,[Y (d,C),ii lo,ii a]):=
 rq (kJ<|jU3 (zH d lo a) (jV H) (jV H)<|jV H)
def Yp(h:nb d lo a=J):mM [(d,C),(.int lo,C),(.int a,C)]=Y ((.T1,C),[Y (d,C),ii lo,ii a]):=by have e:oK [Y (d,C),ii lo,ii a]=Y (.nx [Y (d,C),ii lo,ii a]):=(no _ (acM.trans<|by rw[h];rfl)).trans H;simp only[mM,Q1];rw[iz ⟨rfl,by decide,rfl⟩];show(match oK [Y (d,C),ii lo,ii a] with|some (.rt r δ)=>Y (r,iT _ δ)|some (.nx δ)=>Y ((D.T1,C),iT _ δ)|_=>I)=_;rw[e];rfl
end
theorem Lq: ∀(r:ig) (v:Nat) (h:v<Ls r),r.Perm (r[v]::r.eraseIdx v)
 |x::r,0,_=> .refl _
 |x::r,v+1,h=>((Lq r v<|by simpa using h).cons x).trans<|.swap _ _ _
theorem Gu{b:Type}: ∀{l:List b} {i:Nat} {a:b},l[i]?=Y a->l.set i a=l
 |[],i,a,h=>by simp at h
 |x::l,0,a,h=>by simp at h;simp[h]
 |x::l,i+1,a,h=>by simp at h;simp[Gu h]
theorem BH: ∀(t r f:ig),(t.map ab).Perm r->f++t∈pR (Ls t) r f
 |[],r,f,h=>by simp[pR]
 |s::t,r,f,h=>by
  have c:ab s∈r:=h.mem_iff.mp (by simp);obtain⟨v,hv,e⟩:=Es c
  have a:(t.map ab).Perm (r.eraseIdx v):=by have h1:r.Perm (r[v]::r.eraseIdx v):=Lq r v hv;rw[e] at h1;exact(List.perm_cons _).mp ((show(ab s::t.map ab).Perm r from h).trans h1)
  have b:r.getD v 0=ab s:=by rw[lO,jg hv,e];rfl
  rw[kO,pR,vN];refine⟨v,wx.mpr hv,?_⟩;rw[qh,b];have d:s=ab s*1\/s=ab s* -1:=by unfold ab;split<;>lia
  rcases d with q|q
  .left;have:=BH t (r.eraseIdx v) (f++[ab s*1]) a;rw[<-q,oT] at this;rw[<-q];exact this
  .right;have:=BH t (r.eraseIdx v) (f++[ab s* -1]) a;rw[<-q,oT] at this;rw[<-q];exact this
def US: ∀n:Nat,n<5->(pR n (st n) []).length<=384:=by decide+kernel
def MM{n:Nat}(c:n<=4){V:iC}(b:V.Nodup)(h: ∀t∈V,TT n t):V.length<=384:=
 kW (oI V (pR n (st n) []) b λt a=>by
  have:=BH t (st n) []<|h t a
  rwa [(h t a).len] at this) (US n<|by lia)
abbrev nF(V:iC):Sl:=Y (.R1 .set []<|V.map cD,J)
def afE(V:iC)(t:ig):vA (cD t) (.R1 .set []<|V.map cD)=Y (.bl (!decide (t∈V)),C):=by show((if(V.map cD).all BJ=J/\BJ (cD t)=J then Y ((V.map cD).any (D.O1 · (cD t))) else I).map λb=>(D.bl (!b),C))=_;rw[iz ⟨qI V,Jw t⟩,CP t V];rfl
def Gv{i:Nat}{f:F}{δ:Dn}{V:iC}{t:ig}(a:δ[i]?=Y (nF V))(h1:f δ=Y ((cD t,C),δ))(b:V.length<500):yy i f δ=Y ((.T1,C),δ.set i<|nF<|ml V t):=by unfold yy;rw[a];simp only[];rw[h1];simp only[ju];rw[a];simp only[];rw[iz ⟨qI V,Jw t,by simpa using b⟩,FX]
abbrev Yg:FS:=zC5
abbrev Yf:FS:=iA (qi xN (ik 6) Yg) iN
abbrev aaF:FS:=iA (kE 4<|nG [])<|iA (qi NU (ik 5) Yf)<|iA (kE 3<|jX 4) iN
section
variable {n m:Nat}{V R:iC}{d:D}
def sq(d:D)(L:iC):Prop:=d= .lst (L.map cD)\/d= .tup (L.map cD)
def Vx{L:iC}(h:sq d L){i:Nat}{δ:Dn}(a:δ[i]?=Y (Y (d,C))):jB (jX i) δ=Y (L.map cD,δ):=by
 have e:jX i δ=Y ((d,C),δ):=by unfold jX;rw[a];simp only[];rw[Gu a]
 rw[E7,e];rcases h with rfl|rfl<;>rfl
def Oc(W:iC)(f:Bool)(a x1 x2:Sl)(b:Dn):Rg (hX 3) (a::x1::x2::Y (.lst<|W.map cD,f)::b)=Y (!W.isEmpty,a::x1::x2::Y (.lst<|W.map cD,f)::b):=by show Y (!(W.map cD).isEmpty,_)=_;cases W<;>rfl
end
structure Sp(n:Nat)(L V:iC):Prop where
 nd:V.Nodup
 tt: ∀t∈V,TT n t
 st:PV.st n∈V
 cl: ∀v∈V,∀t∈L,Q2 v t∈V
 mn: ∀P:List Int->Prop,P (PV.st n)->(∀v t,P v->t∈L->P (Q2 v t))-> ∀v∈V,P v
def Sp.perm{n:Nat}{L V W:iC}(h:Sp n L V)(k:Sp n L W):V.Perm W:=
 (Ee h.nd k.nd).mpr λx=>⟨λb=>h.mn (· ∈W) k.st (λv t hv a=>k.cl v hv t a) x b,λb=>k.mn (· ∈V) h.st (λv t hv a=>h.cl v hv t a) x b⟩
def FP{a b:ig}(h:cD a=cD b):a=b:=by have:=mC IS h;rwa [lI,lI] at this
structure SQ(n:Nat)(L V0 V R:iC):Prop where
 nd:V.Nodup
 tt: ∀t∈V,TT n t
 up: ∀t∈V0,t∈V
 rv: ∀t∈R,t∈V
 or: ∀t∈V,t∈V0\/t∈R
 len:V.length=Ls V0+R.length
 mn: ∀P:List Int->Prop,P (PV.st n)->(∀v t,P v->t∈L->P (Q2 v t))-> ∀v∈V,P v
def SQ.put{n:Nat}{L e V R:iC}(h:SQ n L e V R){b t:ig}(f:b∈V)(k:t∈L)(i:TT n t)(j:Q2 b t∉V):SQ n L e (V++[Q2 b t]) (R++[Q2 b t]):=by
 have a: ∀{x:ig} {l:iC},x∈l++[Q2 b t]↔x∈l\/x=Q2 b t:=by simp
 refine⟨?_,λx c=>?_,λx c=>a.mpr<|.inl<|h.up x c,λx c=>a.mpr<|(a.mp c).imp (h.rv x) id,λx c=>?_,by simp[h.len];lia,λP g d x c=>?_⟩
 .rw[<-show ml V (Q2 b t)=V++[Q2 b t] from iG j];exact LK h.nd
 .rcases a.mp c with z|rfl
  .exact h.tt x z
  .exact(h.tt b f).Q2 i
 .rcases a.mp c with z|rfl
  .exact(h.or x z).imp id λz=>a.mpr<|.inl z
  .exact .inr (a.mpr<|.inr H)
 .rcases a.mp c with z|rfl
  .exact h.mn P g d x z
  .exact d b t (h.mn P g d b f) k
section
variable {n:Nat}{L V0 V R:iC}{d:D}
def aaJ(s:n<=4)(h:SQ n L V0 V R){b t:ig}(m:b∈V)(u:t∈L)(k:TT n t)(f j:Sl): ∃e g,SQ n L V0 e g/\(∀x∈V,x∈e)/\Q2 b t∈e/\Yg [ii n,Y (d,C),nF V,f,Aq R,Y<|enc b,Y<|enc t,j]=Y (.nx [ii n,Y (d,C),nF e,f,Aq g,Y<|enc b,Y<|enc t,Y<|enc<|Q2 b t]):=by
 have w:=MM s h.nd h.tt
 let a:Sl->Sl->Sl->Dn:=λx y z=>[ii n,Y (d,C),x,f,y,Y<|enc b,Y<|enc t,z]
 have s1:kE 7 V7 (a (nF V) (Aq R) j)=Y (.nx<|a (nF V) (Aq R)<|Y<|enc<|Q2 b t):=jD (i:=7) (Cb (vL (by lia) (h.tt b m) k.len) (jV H)<|jV H) (show 7<8 by decide);have p:fT (iF vA (hX 7)<|hX 2) (a (nF V) (Aq R)<|Y<|enc<|Q2 b t)=Y (!decide (Q2 b t∈V),a (nF V) (Aq R)<|Y<|enc<|Q2 b t):=kJ (o:=C)<|jO (afE V _) (jV H).r<|jR H;by_cases c:Q2 b t∈V
 .exact⟨V,R,h,λ_ z=>z,c,(il s1).trans<|(no _ (p.trans<|by rw[lh c];rfl)).trans H⟩
 .have hv: ∀x y,jX 7 (a x y<|Y<|enc<|Q2 b t)=Y (enc<|Q2 b t,a x y<|Y<|enc<|Q2 b t):=λ_ _=>rfl;have q:ml V (Q2 b t)=V++[Q2 b t]:=iG c;have v:R.length<=384:=by have:=h.len;lia
  refine⟨_,_,h.put m u k c,λx z=>Bh _ z,by simp,(il s1).trans<|(il<|(DD<|p.trans<|by rw[mr c];rfl).trans ?_).trans H⟩;refine(il (δ1:=a (nF<|V++[Q2 b t]) (Aq R)<|Y<|enc<|Q2 b t)<|kX<|(Gv (i:=2) (V:=V) H (hv _ _)<|by lia).trans<|by rw[q];rfl).trans ?_;exact(il (δ1:=a (nF<|V++[Q2 b t]) (Aq<|R++[Q2 b t])<|Y<|enc<|Q2 b t)<|kX (r:=(.T1,C))<|(pX (i:=4) (l0:=R.map cD) (l:=R.map cD) (r:=enc<|Q2 b t) H (hv _ _) H<|by rw[jT];simp;lia).trans<|by simp only[Aq,qj];rfl).trans H
def aaD(U:n<=4)(N:sq d L)(w: ∀t∈L,TT n t)(h:SQ n L V0 V R){b:ig}(A:b∈V)(g k m:Sl): ∃a c T s,SQ n L V0 a c/\(∀x∈V,x∈a)/\(∀t∈L,Q2 b t∈a)/\Yf [ii n,Y (d,C),nF V,g,Aq R,Y<|enc b,k,m]=Y (.nx [ii n,Y (d,C),nF a,g,Aq c,Y<|enc b,T,s]):=by
 obtain⟨_,⟨a,c,x,y,E,j,_,B,rfl⟩,e⟩:=oh (tg:=ik 6) (fb:=Yg) (λl r=> ∃a c x y,SQ n L V0 a c/\(∀x∈V,x∈a)/\(∀d∈l,∃t∈L,d=cD t)/\(∀t∈L,cD t∈l\/Q2 b t∈a)/\r=[ii n,Y (d,C),nF a,g,Aq c,Y<|enc b,x,y]) (λz l r a'=>by
  obtain⟨M,G,x,y,h1,j,o,u,v⟩:=a'
  subst v;obtain⟨t,f,rfl⟩:=o z jc;obtain⟨a,c,O,p,Q,e⟩:=aaJ (d:=d) U h1 (j b A) f (w t f) g y;refine⟨_,_,rfl,e,a,c,_,_,O,λx I=>p x<|j x I,λq i=>o q<|ji _ i,λq i=>?_,rfl⟩;rcases u q i with z|z
  .rcases mz.mp z with z|z
   .rw[FP z];exact .inr Q
   .exact .inl z
  .exact .inr (p _ z)) (L.map cD) [ii n,Y (d,C),nF V,g,Aq R,Y<|enc b,k,m] ⟨V,R,k,m,h,λ_ z=>z,λq i=>by obtain⟨t,f,rfl⟩:=lg.mp i;exact⟨t,f,rfl⟩,λt f=> .inl (oR f),rfl⟩
 exact⟨a,c,x,y,E,j,λt f=>(B t f).resolve_left<|by simp,(il<|(lM<|Vx N H).trans e).trans H⟩
structure SW(n:Nat)(L V W:iC):Prop where
 nd:V.Nodup
 tt: ∀t∈V,TT n t
 st:PV.st n∈V
 wv: ∀t∈W,t∈V
 cl: ∀v∈V,v∈W\/ ∀t∈L,Q2 v t∈V
 mn: ∀P:List Int->Prop,P (PV.st n)->(∀v t,P v->t∈L->P (Q2 v t))-> ∀v∈V,P v
def aaG(G:n<=4)(J:sq d L)(O: ∀t∈L,TT n t){W:iC}(h:SW n L V W)(f:Bool)(E j k m:Sl): ∃c a C' B u r,SW n L c a/\(Ls c)=V.length+Ls a/\aaF [ii n,Y (d,C),nF V,Y (.lst<|W.map cD,f),E,j,k,m]=Y (.nx [ii n,Y (d,C),nF c,Y (.lst<|a.map cD,C),C',B,u,r]):=by
 let p:Sl:=Y (.lst<|W.map cD,C)
 obtain⟨_,⟨c,a,x,y,z,g,_,T,rfl⟩,e⟩:=oh (tg:=ik 5) (fb:=Yf) (λl A=> ∃c a x y z,SQ n L V c a/\(∀d∈l,∃t∈W,d=cD t)/\(∀b∈W,cD b∈l\/ ∀t∈L,Q2 b t∈c)/\A=[ii n,Y (d,C),nF c,p,Aq a,x,y,z]) (λq l A a'=>by
  obtain⟨V1,Y',x,y,z,h1,s,H',I'⟩:=a'
  subst I';obtain⟨b,Q,rfl⟩:=s q jc;obtain⟨c,a,u,r,M,N,U,e⟩:=aaD G J O h1 (h1.up b<|h.wv b Q) p y z;refine⟨_,_,rfl,e,c,a,_,_,_,M,λq o=>s q<|ji _ o,λq o=>?_,rfl⟩;rcases H' q o with z|z
  .rcases mz.mp z with z|z
   .rw[FP z];exact .inr U
   .exact .inl z
  .exact .inr λt i=>N _ (z t i)) (W.map cD) [ii n,Y (d,C),nF V,p,Aq [],j,k,m] ⟨V,[],j,k,m,⟨h.nd,h.tt,λ_ z=>z,by simp,λ_ z=> .inl z,by simp,h.mn⟩,λq o=>by obtain⟨t,i,rfl⟩:=lg.mp o;exact⟨t,i,rfl⟩,λt i=> .inl (oR i),rfl⟩
 refine⟨c,a,Y (.lst<|a.map cD,C),x,y,z,⟨g.nd,g.tt,g.up _ h.st,g.rv,λv hv=>?_,g.mn⟩,g.len,?_⟩
 .rcases g.or v hv with q|q
  .rcases h.cl v q with w|w
   .exact .inr ((T v w).resolve_left<|by simp)
   .exact .inr λt i=>g.up _ (w t i)
  .exact .inl q
 refine(il (δ1:=[ii n,Y (d,C),nF V,Y (.lst<|W.map cD,f),Aq [],j,k,m]) H).trans ?_;exact(il<|(lM (ds:=W.map cD) (δ1:=[ii n,Y (d,C),nF V,p,Aq [],j,k,m]) H).trans e).trans H
def SW.fin(h:SW n L V []):Sp n L V:=⟨h.nd,h.tt,h.st,λv hv=>(h.cl v hv).resolve_left<|by simp,h.mn⟩
theorem N4(l:n<=4)(w:sq d L)(s: ∀t∈L,TT n t): ∀(a:Nat) (V W:iC) (f:Bool) (c g i j:Sl),SW n L V W->386<a+V.length-> ∃b B q p r o,Sp n L b/\mR (Rg<|hX 3) aaF a [ii n,Y (d,C),nF V,Y (.lst<|W.map cD,f),c,g,i,j]=Y (.nx [ii n,Y (d,C),nF b,B,q,p,r,o])
 |0,V,W,f,c,g,i,j,h,hf=>by have:=MM l h.nd h.tt;omega
 |a+1,V,W,f,c,g,i,j,h,hf=>by
  have z:=Oc W f (ii n) (Y (d,C)) (nF V) [c,g,i,j]
  cases x:W.isEmpty with
  |true=>
   have:W=[]:=by simpa using x
   subst this;exact⟨V,_,_,_,_,_,h.fin,ES z⟩
  |false=>
   obtain⟨b,m,q,p,r,o,v,E,e⟩:=aaG l w s h f c g i j;have y:=Ka (k:=a) (z.trans<|by rw[x];rfl) e;by_cases u:m=[]
   .subst u;have hv:=MM l h.nd h.tt
    cases a with
    |zero=>omega
    |succ a=>exact⟨b,_,_,_,_,_,v.fin,y.trans<|ES<|Oc [] C _ _ _ _⟩
   .have:0<(Ls m):=R8.mpr u;obtain⟨A,x3,x4,x5,x6,x7,h1,U⟩:=N4 l w s a b m C q p r o v (by omega);exact⟨A,x3,x4,x5,x6,x7,h1,y.trans U⟩
def SD(i:n<=4)(h:V.Nodup)(tt: ∀t∈V,TT n t): ∃f,f.Perm V/\E9 f/\jY (V.map cD)=Y (.lst<|f.map cD,J):=by
 have j:=MM i h tt;refine AD ?_ (by lia);by_cases g:n=0
 .subst g;have h1: ∀a∈V,a=[]:=λa b=>M4.mp (tt a b).len;have c:V.length<=1:=oI V [[]] h λa b=>by rw[h1 a b];simp
  match V,h1,c with
  |[],_,_=>rfl
  |[x],h1,_=>rw[h1 x<|by simp];rfl
  |_::_::_,_,c=>simp at c
 .exact qW _ λa b e=>g (by rw[<-(tt a b).len,e];rfl)
def Om(g:n<=4)(p:sq d L)(o: ∀t∈L,TT n t): ∃V a,Sp n L V/\a.Perm V/\E9 a/\pY [(.int n,C),(d,C)]=Y ((.lst<|a.map cD,J),[ii n,Y (d,C)]):=by
 have s0: ∀δ:Dn,Sg (ii n::δ)=Y (enc<|st n,ii n::δ):=λδ=>Jm (af4<|by lia)<|jV H;obtain⟨V,h,j,k,l,m,c,e⟩:=N4 g p o U1 [st n] [st n] J I I I I ⟨by simp,λt q=>by cases AO.mp q;exact zY n,by simp,λ_ z=>z,λv hv=> .inl hv,λP u _ v hv=>by cases AO.mp hv;exact u⟩ (by show 386<100000+1;decide);obtain⟨a,r,s,f⟩:=SD g c.nd c.tt
 have b:rn (.R1 .set []<|V.map cD)=Y (.lst<|a.map cD,J):=by show(if(V.map cD).all BJ=J then jY (V.map cD) else I)=_;rw[iz<|qI V,f]
 refine⟨V,a,c,r,s,kF (δ:=[ii n,Y (d,C),nF V,h,j,k,l,m]) ⟨rfl,by decide,rfl⟩ ?_⟩;refine(il (δ1:=[ii n,Y (d,C),nF [],I,I,I,I,I]) H).trans ?_;refine(il (δ1:=[ii n,Y (d,C),nF [st n],I,I,I,I,I])<|kX<|(Gv (i:=2) (V:=[]) (t:=st n) H (s0 _)<|by decide).trans H).trans ?_
 refine(il (δ1:=[ii n,Y (d,C),nF [st n],Y (.lst<|[st n].map cD,J),I,I,I,I])<|jD (i:=3) (δ1:=[ii n,Y (d,C),nF [st n],I,I,I,I,I]) (by rw[WN,show[iB yz [hX 0]].map iu=[iu Sg] from H,uP<|iU<|s0 _];simp[jT]) (show 3<8 by decide)).trans ?_
 exact(il e).trans (jF<|kh<|jC b<|jR (i:=2) H)
end
section
variable {a b c:D}
end
def ZN{n:Nat}{d:D}(h:tB n d=J): ∃t,d=cD t/\TT n t:=by
 rw[Kj] at h
 cases d with
 |tup l=>
  simp only[lB,kU,kf,pz] at h;refine⟨l.map BL,?_,?_⟩
  .have:l=(l.map BL).map D.int:=by
    rw[jx]
    conv=>lhs;rw[<-sM l]
    exact mW λd hd=>IQ<|h.1 d hd
   exact mC D.tup this
  .unfold TT;rw[jx];exact h.2
 |_=>cases h
def U7{n:Nat}{t:ig}(a:TT n t):tB n (cD t)=J:=by rw[Kj];simp only[lB,kU,kf,pz,jx];refine⟨λd hd=>?_,a⟩;obtain⟨x,_,rfl⟩:=lg.mp hd;rfl
section
variable {n:Nat}{d:D}
abbrev aaL:FS:=Zc
def Rf(b:n<=4){x:D}(h:tB n x=J):aaL [ii n,Y (d,C),Y (x,C)]=Y (.nx [ii n,Y (d,C),Y (x,C)]):=by obtain⟨t,rfl,a⟩:=ZN h;exact(il<|kX<|Cb (CC (by lia) a) (jV H)<|jV H).trans H
def nb4(a:n<=4):nb (.int n) 0 4=J:=by simp[nb];lia
end
section
variable {n:Nat}{L a c V F:iC}{d:D}{b:ig}
def SA(g:n<=4)(k:sq d L)(j: ∀t∈L,TT n t): ∃V f,Sp n L V/\f.Perm V/\E9 f/\nQ [(.int n,C),(d,C)]=Y ((.lst<|f.map cD,J),[ii n,Y (d,C)]):=by
 obtain⟨V,f,o,r,s,m⟩:=Om g k j
 obtain⟨_,⟨x,_,rfl⟩,e⟩:=oh (tg:=ik 2) (fb:=aaL) (λl δ=> ∃x,(∀y∈l,∃t∈L,y=cD t)/\δ=[ii n,Y (d,C),x]) (λy l δ U=>by
  obtain⟨x,h1,h⟩:=U
  subst h;obtain⟨t,i,rfl⟩:=h1 y jc;exact⟨_,_,rfl,Rf g<|U7<|j t i,_,λz q=>h1 z<|ji _ q,rfl⟩) (L.map cD) [ii n,Y (d,C),I] ⟨I,λy p=>by obtain⟨t,i,rfl⟩:=lg.mp p;exact⟨t,i,rfl⟩,rfl⟩
 have s1:lS Zi [ii n,Y (d,C),I]=Y (.nx [ii n,Y (d,C),I]):=kX<|jU3 (Yp<|nb4 g) (jV H) (jE H)<|jE H;exact⟨V,f,o,r,s,kF (δ:=[ii n,Y (d,C),x]) ⟨rfl,by decide,rfl⟩<|(il s1).trans<|(il<|(lM<|Vx k H).trans e).trans<|jF<|kh<|Cb m (jV H)<|jV H⟩
end
def afa{d:Ap}{fs:List FO}{e b:Dn}{os:List Ax}{args:List (D×Bool)}{r:D×Bool}{c:Dn}(h1:kx fs e=Y (os,b))(f:jo b os=Y args)(g:d (args.map λa=>(a.1,C))=Y (r,c))(h:okR r=J):Ck d fs e=Y (r,b):=by unfold Ck;rw[h1];simp only[ju];rw[f];simp only[ju];rw[g];simp only[ju];rw[iz h]
theorem Pj: ∀L:List (List Int),D.L7 (L.map cD)=J
 |[]=>rfl
 |t::L=>by rw[jG,D.L7,Pj L,D.fz,Q4];rfl
def Qh{n:Nat}: ∀{m:Nat} {t:ig},PT n m t->t∈mh n m:=by
 intro m
 induction m with
 |zero=>intro t h;rw[M4.mp h.1];simp[mh]
 |succ m e=>
  intro t h;obtain⟨h1,c,a⟩:=h;rcases AY t with rfl|⟨p,s,rfl⟩
  .simp at h1
  rw[AX] at*;rw[qj,AA] at a;have d: ∀x∈p,ab x≠ab s:=λx b=>a.2.2 _ (oR b) _ (by simp);simp only[mh,Jr,vN,lg];refine⟨p,e ⟨by simpa using h1,λx b=>c x<|by simp[b],a.1⟩,s,?_,rfl⟩;unfold Mq;simp only[qg,kU,c4,gi,decide_eq_false_iff_not];refine⟨YH.mpr<|c s<|by simp,λz=>d s z H,λz=>d (-s) z ?_⟩;unfold ab;split<;>split<;>lia
def TT.all{n:Nat}{t:ig}(h:TT n t):t∈mh n n:=Qh ⟨h.len,λx a=>h.sg a,(Jk.mp h).2.2⟩
def CU: ∀n,n<5->(mh n n).Pairwise λa b=>BN (cD b) (cD a)=C/\a≠b:=by decide+kernel
def FQ{n:Nat}{t:ig}(h:TT n t):Q2 (st n) t=t:=Ku h
def MS(n:Nat)(L:iC):Prop:= ∀(i:Nat) t V,L[i]?=Y t->Sp n (L.take i) V->t∉V
def MS.snoc{n:Nat}{L V:iC}{t:ig}(h:MS n L)(d:Sp n L V)(e:t∉V):MS n (L++[t]):=λi u W a b=>by
 by_cases c:i<Ls L
 .rw[pA c] at a;rw[List.take_append_of_le_length<|by lia] at b;exact h i u W a b
 .have:i=(Ls L):=by have:=(wa.mp a).1;simp at this;lia
  subst this;simp at a;subst a;simp at b;exact λz=>e<|(b.perm d).mem_iff.mp z
def Sp.up{n:Nat}{L V W:iC}{t:ig}(h:Sp n L V)(k:Sp n (L++[t]) W): ∀v∈V,v∈W:=h.mn (· ∈W) k.st λv u hv a=>k.cl v hv u (by simp[a])
section
variable {n:Nat}{ks:iC}(h:ph n ks)
include h
theorem vw{v t:ig}(hv:v∈Sr n ks)(a:t∈Sr n ks):Q2 v t∈Sr n ks:=by have e:=jJ h hv;have d:=jJ h a;refine qg.mpr ⟨(e.Q2 d).all,kf.mpr λc b=>?_⟩;have hv:=yW<|kf.mp (qg.mp hv).2 c b;have a:=yW<|kf.mp (qg.mp a).2 _ hv;rw[Lb e d<|h.2.1.2 c b] at a;exact lh a
theorem IW:st n∈Sr n ks:=qg.mpr ⟨(zY n).all,kf.mpr λc a=>by rw[Vu<|h.2.1.2 c a,lh a]⟩
theorem Ww{L V:iC}(a: ∀t∈L,t∈Sr n ks)(b:Sp n L V): ∀v∈V,v∈Sr n ks:=b.mn _ (IW h) λv t hv c=>vw h hv<|a t c
theorem ZR(e:n<=4){L V K:iC}(b: ∀t∈L,t∈Sr n ks)(a:Sp n L V)(d:K.Perm V)(hk:E9 K)(c: ∀t∈Sr n ks,t∈V):K=Sr n ks:=by
 refine xX (d.trans<|(Ee a.nd ?_).mpr λx=>⟨Ww h b a x,c x⟩) hk ?_
 .exact((CU n<|by lia).imp And.right).filter _
 .exact((CU n<|by lia).imp And.left).filter _
abbrev aaK:FS:=zC9
structure CH(n:Nat)(ks L K:iC):Prop where
 sub: ∀t∈L,t∈Sr n ks
 fine:MS n L
 nd:L.Nodup
 up: ∀t∈L,t∈K
 sp: ∃V,Sp n L V/\K.Perm V/\E9 K
abbrev Js(n:Nat)(ks L K:iC)(x:Sl):Dn:=[rS n ks,ii n,Aq L,Aq K,x]
theorem spB{L:iC}(b:n<=4)(c: ∀t∈L,TT n t)(a x3 x4:Sl): ∃V K,Sp n L V/\K.Perm V/\E9 K/\Ck pY [hX 1,hX 2] [a,ii n,Aq L,x3,x4]=Y ((.lst<|K.map cD,J),[a,ii n,Aq L,x3,x4]):=by obtain⟨V,K,f,g,i,e⟩:=Om (d:= .lst (L.map cD)) (L:=L) b (.inl H) c;exact⟨V,K,f,g,i,afa (os:=[.slot 1,.slot 2]) (args:=[(.int n,C),(.lst<|L.map cD,J)]) H H e<|Pj K⟩
theorem Uz(s:n<=4){L K:iC}(c:CH n ks L K){t:ig}(m:t∈Sr n ks): ∃q d,CH n ks q d/\(∀v∈K,v∈d)/\t∈d/\aaK (Js n ks L K<|eN t)=Y (.nx<|Js n ks q d<|eN t):=by
 have w:fT (iF mP (hX 4)<|hX 3) (Js n ks L K<|eN t)=Y (!decide (t∈K),Js n ks L K<|eN t):=kJ (o:=C)<|jO (rk _ _) (jV H).r<|jR H;obtain⟨V,x,p,T⟩:=c.sp;by_cases g:t∈K
 .exact⟨L,K,c,λ_ z=>z,g,no (δ:=Js n ks L K<|eN t) _ (w.trans<|by rw[lh g];rfl)⟩
 .have tt: ∀u∈L++[t],TT n u:=λu f=>by
   rcases qh.mp f with z|z
   .exact jJ h (c.sub u z)
   .cases AO.mp z;exact jJ h m
  obtain⟨W,d,k,j,U,e⟩:=spB h s tt (rS n ks) (Aq K)<|eN t;have up:=x.up k
  have tW:t∈W:=by
   have:=k.cl _ k.st t (by simp)
   rwa [FQ<|jJ h m] at this
  have B:t∉V:=λz=>g<|p.mem_iff.mpr z;have E:=MM s c.nd λu f=>jJ h<|c.sub u f;refine⟨L++[t],d,⟨λu f=>?_,c.fine.snoc x B,?_,λu f=>?_,W,k,j,U⟩,λv hv=>j.mem_iff.mpr<|up v<|p.mem_iff.mp hv,j.mem_iff.mpr tW,?_⟩
  .rcases qh.mp f with z|z
   .exact c.sub u z
   .cases AO.mp z;exact m
  .refine AA.mpr ⟨c.nd,by simp,λa y b A e=>?_⟩;cases AO.mp A;subst e;exact g<|c.up a y
  .rcases qh.mp f with z|z
   .exact j.mem_iff.mpr (up u<|p.mem_iff.mp<|c.up u z)
   .cases AO.mp z;exact j.mem_iff.mpr tW
  .refine(il (δ1:=Js n ks (L++[t]) d<|eN t)<|(DD<|w.trans<|by rw[mr g];rfl).trans<|(il (δ1:=Js n ks (L++[t]) K<|eN t)<|kX (r:=(.T1,C))<|(pX (i:=2) (l0:=L.map cD) (l:=L.map cD) (r:=enc t) (δ1:=Js n ks L K<|eN t) H H H<|by rw[jT];simp;lia).trans<|by simp only[Js,Aq,qj];rfl).trans<|(il<|jD (i:=3) e (show 3<5 by decide)).trans H).trans H
omit h in
theorem acw:fT YY [ii n]=Y (decide<|(n:Int)>4,[ii n]):=kJ (o:=C)<|jO (a:= .int n) (b:= .int 4) (ZV _ _) (jV H).r (jE H).r
omit h in
theorem Yr(a:n<=4):lD [pI n]=Y ((.T1,C),[ii n]):=by have e:mQ [ii n]=Y (.nx [ii n]):=(no (δ:=[ii n]) _ (acw.trans<|by rw[mr<|by lia])).trans H;simp only[lD,Q1];rw[iz ⟨rfl,by decide,rfl⟩];show(match mQ [ii n] with|some (.rt r δ)=>Y (r,iT _ δ)|some (.nx δ)=>Y ((D.T1,C),iT _ δ)|_=>I)=_;rw[e];rfl
theorem Yc(g:n<=4): ∃L K,CH n ks L K/\(∀t∈Sr n ks,t∈K)/\oP [(GI n ks,C)]=Y ((.tup<|L.map cD,C),[rS n ks]):=by
 obtain⟨m,f,B,U,E,s⟩:=spB h (L:=[]) g (by simp) (rS n ks) I I
 obtain⟨_,⟨L,K,x,c,_,v,rfl⟩,e⟩:=oh (tg:=ik 4) (fb:=aaK) (λl δ=> ∃L K x,CH n ks L K/\(∀d∈l,∃t∈Sr n ks,d=cD t)/\(∀t∈Sr n ks,cD t∈l\/t∈K)/\δ=Js n ks L K x) (λd l δ T=>by
  obtain⟨L,K,x,c,h1,u,hd⟩:=T
  subst hd;obtain⟨t,a,rfl⟩:=h1 d jc;obtain⟨k,j,p,y,A,e⟩:=Uz h g c a;refine⟨_,_,rfl,e,k,j,_,p,λq b=>h1 q<|ji _ b,λq b=>?_,rfl⟩;rcases u q b with z|z
  .rcases mz.mp z with z|z
   .rw[FP z];exact .inr A
   .exact .inl z
  .exact .inr (y q z)) ((Sr n ks).map cD) (Js n ks [] f I) ⟨[],f,I,⟨by simp,λi t V w=>by simp at w,by simp,by simp,m,B,U,E⟩,λq b=>by obtain⟨t,a,rfl⟩:=lg.mp b;exact⟨t,a,rfl⟩,λt a=> .inl (oR a),rfl⟩
 refine⟨L,K,c,λt a=>(v t a).resolve_left<|by simp,kF (δ:=Js n ks L K x) ⟨rfl,by decide,rfl⟩ ?_⟩;refine(il<|jD (i:=1) (δ1:=[rS n ks,I,I,I,I]) (jO H (jV H).r (jE H).r) (show 1<5 by decide)).trans ?_;refine(il (δ1:=[rS n ks,ii n,I,I,I])<|kX<|Jm (Yr g)<|jV H).trans ?_;refine(il (δ1:=[rS n ks,ii n,Aq [],I,I]) H).trans ?_;refine(il (δ1:=Js n ks [] f I)<|jD (i:=3) s (show 3<5 by decide)).trans ?_;refine(il<|(lM (δ1:=Js n ks [] f I)<|mV (o:=J)<|Jm (qK h.1 h.2.1.2 h.2.2.2)<|jV H).trans e).trans ?_;exact jF<|kh<|jC H<|jR (i:=2) H
end
section
variable {n:Nat}{f:iC}{t u v w:ig}
def CJ(a:TT n t)(c:TT n u)(hv:TT n v):Q2 (Q2 t u) v=Q2 t (Q2 u v):=
 sh ((a.Q2 c).Q2 hv).len (a.Q2<|c.Q2 hv).len λs b=>by rw[mJ (a.Q2 c) v b,mJ a u b,mJ a _ b,mJ c v<|a.led b]
def IY(a:TT n t):Q2 t (st n)=t:=sh (a.Q2<|zY n).len a.len λs b=>by rw[mJ a _ b,qL<|a.led b]
@[irreducible] def bkF(n:Nat)(t:ig):List Int:=JX n t 2519
def oy(c:n<=5)(a:TT n t):BK n t (bkF n t):=by unfold bkF;refine⟨(pQ a _).len,λs b=>?_⟩;have:=AG a 1 b 2519;rw[W0 c a,qL b,Ku a] at this;exact this.symm
theorem OT{V:iC}(a:st n∈V)(b: ∀v∈V,Q2 v t∈V): ∀k,JX n t k∈V
 |0=>a
 |k+1=>b _ (OT a b k)
def Sp.bh{L V:iC}(c: ∀t∈L,TT n t)(h:Sp n L V)(b:u∈V)(hv:v∈V):Q2 u v∈V:=(h.mn (λv=>TT n v/\Q2 u v∈V) ⟨zY n,by rw[IY<|h.tt u b];exact b⟩ (λv t hv a=>⟨hv.1.Q2<|c t a,by rw[<-CJ (h.tt u b) hv.1 (c t a)];exact h.cl _ hv.2 t a⟩) v hv).2
def Sp.bk{L V:iC}(c:n<=5)(b: ∀t∈L,TT n t)(h:Sp n L V)(a:u∈V)(d:BK n u w):w∈V:=by rw[BK.uniq (h.tt u a) d<|oy c<|h.tt u a];unfold bkF;exact OT h.st (λv hv=>h.bh b hv a) _
def Vt:t∈Sr n f↔TT n t/\ ∀c∈f,lc t c∈f:=by refine⟨λh=>⟨(uY (qg.mp h).1).tt,λc a=>yW<|kf.mp (qg.mp h).2 c a⟩,λh=>qg.mpr ⟨h.1.all,kf.mpr λc a=>lh<|h.2 c a⟩⟩
def XH(h:ph n f)(a:u∈Sr n f)(b:BK n u w):w∈Sr n f:=by rw[BK.uniq (jJ h a) b<|oy h.1<|jJ h a];unfold bkF;exact OT (IW h) (λv hv=>vw h hv a) _
def VO{ds:iC}(h:ph n f)(a:TT n t)(k:BK n t w)(i:LR t f ds)(j:u∈Sr n f):Q2 (Q2 w u) t∈Sr n ds:=by have g:=k.tt a;have e:=jJ h j;refine Vt.mpr ⟨(g.Q2 e).Q2 a,λc l=>?_⟩;obtain⟨d,hd,rfl⟩:=lg.mp<|i.1.mem_iff.mp l;have b:=h.2.1.2 d hd;rw[<-Lb (g.Q2 e) a (DN a b),<-Lb g e (DN a b),Lc a k b];exact i.1.mem_iff.mpr<|oR<|(Vt.mp j).2 d hd
def LJ(a:n<=4):(mh n n).Nodup:=Dq.mpr<|(CU n<|by lia).imp λh=>h.2
def VN{i:iC}(m:n<=4)(h:ph n f)(c:TT n t)(g:BK n t w)(q:LR t f i):(Sr n f).length<=(Sr n i).length:=by
 have j:=g.tt c
 have s:((Sr n f).map λu=>Q2 (Q2 w u) t).Nodup:=by
  rw[Dq,mT];refine AQ ?_<|Dq.mp<|(LJ m).filter _;intro a b o p y e;have a1:=jJ h o;have l:=jJ h p
  have k: ∀u,TT n u->Q2 (Q2 t<|Q2 (Q2 w u) t) w=u:=λu d=>by rw[CJ j d c,<-CJ c j (d.Q2 c),g.JW c,FQ<|d.Q2 c,CJ d c j,g.JW c,IY d]
  exact y (by rw[<-k a a1,e,k b l])
 have:=oI _ (Sr n i) s λx r=>by obtain⟨u,d,rfl⟩:=lg.mp r;exact VO h c g q d
 simpa using this
def LR.bk{ds:iC}(h:ph n f)(d:TT n t)(g:BK n t w)(b:LR t f ds):LR w ds f:=by
 refine⟨?_,h.2.2.1⟩
 have e:(f.map<|lc t).map (lc w)=f:=by
  rw[jx]
  conv=>rhs;rw[<-sM f]
  exact mW λc a=>Lc d g<|h.2.1.2 c a
 have:=b.1.map<|lc w;rw[e] at this;exact this.symm
def Yq{ds:iC}(d:n<=4)(h:ph n f)(a:TT n t)(b:BK n t w)(c:LR t f ds):(Sr n ds).length=(Sr n f).length:=
 mu (VN d (c.rd a b h) (b.tt a) (b.sym a)<|c.bk h a b) (VN d h a b c)
end
theorem fib{i b:Type}[DecidableEq b](f:i->b)(k:Nat): ∀(O:List b) (G:List i),O.Nodup->(∀g∈G,f g∈O)->(∀y∈O,(G.filter λg=>decide<|f g=y).length=k)->Ls G=(Ls O)*k
 |[],G,_,h,_=>by rw[List.eq_nil_iff_forall_not_mem.mpr λg a=>ql<|h g a];simp
 |y::O,G,d,h,hk=>by
  obtain⟨m,n⟩:=Am.mp d
  have e:=fib f k O (G.filter λg=>!decide (f g=y)) n (λg a=>by
   obtain⟨h1,j⟩:=qg.mp a;rcases mz.mp (h g h1) with z|z
   .simp[z] at j
   .exact z) (λz c=>by
   rw[<-hk z (ji _ c),List.filter_filter]
   congr 1
   refine AR λg _=>?_;by_cases q:f g=z
   .have:f g≠y:=λe=>m<|e▸q▸c;simp[q] at this ⊢;exact this
   .simp[q])
  have:=hk y jc
  have s:(Ls G)=(G.filter λg=>decide<|f g=y).length+(G.filter λg=>!decide (f g=y)).length:=by
   clear e this hk h d
   induction G with
   |nil=>rfl
   |cons g G l=>by_cases q:f g=y<;>simp[q,l]<;>lia
  rw[s,e,this,kO,d0];lia
def ac(n:Nat)(t a:ig):List Int:=J1 (bkF n t) a
section
variable {n:Nat}{c:iC}{t u v w a y:ig}(b:n<=5)
include b
theorem aaW(d:TT n t)(e:BK n t w):ac n t a=J1 w a:=by unfold ac;rw[BK.uniq d e<|oy b d]
theorem RZ(d:TT n t):nE n (ac n t a):=Qs ((oy b d).tt d) a
theorem CW(d:TT n t)(e:TT n u)(f:nE n a):ac n (Q2 t u) a=ac n u (ac n t a):=by unfold ac;rw[aaq ((oy b d).tt d) ((oy b e).tt e) f,BK.Q2 d e (oy b d) (oy b e)<|oy b<|d.Q2 e]
theorem VU(e:nE n a):ac n (st n) a=a:=by rw[aaW b (zY n) (w:=st n) ⟨zp n,λs d=>by rw[qL d,qL d]⟩,aap e]
theorem VV(d:TT n t)(f:BK n t w)(e:nE n a):ac n w (ac n t a)=a:=by rw[<-CW b d (f.tt d) e,f.JW d,VU b e]
end
structure JK(n:Nat)(ks:iC)(a:ig)(O:iC):Prop where
 nd:O.Nodup
 sr:E9 O
 im: ∀y,y∈O↔ ∃t∈Sr n ks,ac n t a=y
section
variable {n:Nat}{c O P:iC}{t u v w a y:ig}(h:ph n c)
include h
theorem JK.ok(o:JK n c a O)(d:y∈O):nE n y:=by obtain⟨t,b,rfl⟩:=(o.im y).mp d;exact RZ h.1<|jJ h b
theorem JK.me(o:JK n c a O)(b:nE n a):a∈O:=(o.im a).mpr ⟨_,IW h,VU h.1 b⟩
theorem VR(b:t∈Sr n c): ∃w∈Sr n c,BK n t w:=⟨_,XH h b<|oy h.1<|jJ h b,oy h.1<|jJ h b⟩
theorem JK.eq(o:JK n c a O)(p:JK n c y P)(e:nE n a)(j:y∈O):P=O:=by
 refine xX ((Ee p.nd o.nd).mpr λx=>?_) p.sr o.sr;rw[p.im,o.im];obtain⟨g,d,rfl⟩:=(o.im y).mp j;have g1:=jJ h d;constructor
 .rintro⟨t,b,rfl⟩;exact⟨_,vw h d b,CW h.1 g1 (jJ h b) e⟩
 .rintro⟨t,b,rfl⟩;obtain⟨w,f,i⟩:=VR h d;refine⟨_,vw h f b,?_⟩;rw[CW h.1 (jJ h f) (jJ h b)<|RZ h.1 g1,VV h.1 g1 i e]
theorem JK.len(U:n<=4)(o:JK n c a O)(f:nE n a):(Sr n c).length=(Ls O)*((Sr n c).filter λt=>decide<|ac n t a=a).length:=by
 have i:(Sr n c).Nodup:=(LJ U).filter _;refine fib (λt=>ac n t a) _ O (Sr n c) o.nd (λt d=>(o.im _).mpr ⟨t,d,rfl⟩) λy T=>?_;obtain⟨g,p,rfl⟩:=(o.im y).mp T;have g1:=jJ h p;obtain⟨w,B,m⟩:=VR h p;have s:=jJ h B
 have inj: ∀{l:iC} {u v:ig},l.Nodup->(∀t∈l,TT n t)->TT n u->TT n v->BK n u v->(l.map λt=>Q2 t u).Nodup:=λ{l u v} N z A hv E=>by
  rw[Dq,mT];refine AQ ?_<|Dq.mp N;intro a b f L Q e;have k: ∀t,TT n t->Q2 (Q2 t u) v=t:=λt d=>by rw[CJ d A hv,E.JW A,IY d]
  exact Q (by rw[<-k a (z a f),e,k b<|z b L])
 refine mu ?_ ?_
 .have:=oI _ ((Sr n c).filter λt=>decide<|ac n t a=a) (inj (i.filter _) (λt d=>jJ h (qg.mp d).1) s g1<|m.sym g1) λx q=>by obtain⟨t,d,rfl⟩:=lg.mp q;obtain⟨j,r⟩:=qg.mp d;refine qg.mpr ⟨vw h j B,lh ?_⟩;rw[CW h.1 (jJ h j) s f,show ac n t a=ac n g a from yW r,VV h.1 g1 m f]
  simpa using this
 .have:=oI _ ((Sr n c).filter λt=>decide<|ac n t a=ac n g a) (inj (i.filter _) (λt d=>jJ h (qg.mp d).1) g1 s m) λx q=>by obtain⟨t,d,rfl⟩:=lg.mp q;obtain⟨j,r⟩:=qg.mp d;refine qg.mpr ⟨vw h j p,lh ?_⟩;rw[CW h.1 (jJ h j) g1 f,show ac n t a=a from yW r]
  simpa using this
theorem XG(e:t∈Sr n c):LR t c c:=by
 obtain⟨d,f⟩:=Vt.mp e;obtain⟨g,b,_⟩:=Qp d h;have:=(GW d h b).mpr f
 rwa [this] at b
theorem JK.kp(o:JK n c a O)(d:nE n a)(e:y∈O):c.all (kC y)=c.all (kC a):=by obtain⟨t,b,rfl⟩:=(o.im y).mp e;exact YB (jJ h b) (oy h.1<|jJ h b) d h<|XG h b
end
section
variable {n:Nat}{t w a:ig}(b:TT n t)(c:nE n a)
include b c
end
abbrev sT(V:iC):Sl:=Y (.R1 .set []<|V.map cD,J)
def aeL(c:ig)(V:iC):vB (cD c) (.R1 .set []<|V.map cD)=Y (.bl (!decide (c∈V)),C):=by
 have h1:BJ (cD c)=J:=by have:=qI [c];simpa using this
 unfold vB X3 P8;simp only;rw[iz ⟨qI V,h1⟩,CP];rfl
theorem aaT{f:F}{pre:Dn}(g:List Int->List Int): ∀(l a:iC) (x:Sl),(∀t∈l,∃o,f (pre++[Y (cD t,C)])=Y ((cD<|g t,o),pre++[Y (cD t,C)]))->(∀m:Nat,(((l.take m).map g).foldl ml a).length<500)->
  ∃b,jH (ik<|Ls pre) jk (xD f) (l.map cD) (a.map cD) (pre++[x])=Y (((l.map g).foldl ml a).map cD,pre++[b])
 |[],a,x,_,_=>⟨x,by simp[jH]⟩
 |t::l,a,x,h,c=>by
  obtain⟨o,d⟩:=h t jc;obtain⟨b,e⟩:=aaT g l (ml a<|g t) (Y (cD t,C)) (λt j=>h t<|ji _ j) (λm=>by have:=c<|m+1;simpa using this);refine⟨b,?_⟩;have i:(Ls a)<500:=by have:=c 0;simpa using this
  have h1:BJ (cD<|g t)=J:=by have:=qI [g t];simpa using this
  rw[jG,jH,show ik (Ls pre) (cD t) (pre++[x])=Y (pre++[Y (cD t,C)]) by unfold ik;simp];simp only[ju,rX,kI];unfold xD;rw[d];simp only[ju];rw[iz ⟨qI a,h1,by simpa using i⟩];simp only[ju];rw[FX];exact e
section
variable {n:Nat}(a:n<=5)(h1:1<=n){L:iC}(b: ∀t∈L,TT n t)(c:L.length<=3840)
include a h1 b c
end
def Jg(R:List Int->List (List Int))(p:List D×List (List Int))(a:ig):List D×List (List Int):=if a∈p.2 then p else(p.1++[.tup<|(R a).map cD],(R a).foldl ml p.2)
def GV(n:Nat)(V:iC):Prop:=V.Nodup/\ ∀v∈V,v∈jP n
def GV.fold{n:Nat}{V cs:iC}(h:GV n V)(a: ∀c∈cs,c∈jP n):GV n (cs.foldl ml V):=⟨Ci cs V h.1,λv hv=>((vC cs V v).mp hv).elim (h.2 v)<|a v⟩
def GV.len{n:Nat}(a:n<=5){V:iC}(h:GV n V):V.length<=32:=kW (oI V (jP n) h.1 h.2) (by rcases(show n=0\/n=1\/n=2\/n=3\/n=4\/n=5 by lia) with rfl|rfl|rfl|rfl|rfl|rfl<;>decide)
abbrev Uw:FS:=iA (lS<|yy 3<|jX 6) iN
section
variable {n:Nat}(b:n<=5)
include b
theorem VB(a d f i j k:Sl): ∀(cs V:iC) (l:Sl),(∀c∈cs,c∈jP n)->GV n V-> ∃m,vQ (ik 6) Uw (cs.map cD) [a,d,f,sT V,i,j,l,k]=Y (.nx [a,d,f,sT<|cs.foldl ml V,i,j,m,k])
 |[],V,l,_,_=>⟨l,rfl⟩
 |c::cs,V,l,h,g=>by
  obtain⟨m,e⟩:=VB a d f i j k cs (ml V c) (eN c) (λc o=>h c<|ji _ o) (g.fold (cs:=[c]) λx p=>by cases AO.mp p;exact h c jc);refine⟨m,?_⟩;have h1:BJ (cD c)=J:=by have:=qI [c];simpa using this
  have q:=g.len b
  have s1:Uw [a,d,f,sT V,i,j,eN c,k]=Y (.nx [a,d,f,sT<|ml V c,i,j,eN c,k]):=by refine(il<|kX (r:=(.T1,C)) (δ1:=[a,d,f,sT<|ml V c,i,j,eN c,k]) ?_).trans rfl;show(if(V.map cD).all BJ=J/\BJ (cD c)=J/\(V.map cD).length<500 then Y ((D.T1,C),[a,d,f,Y (D.R1 .set []<|oz (V.map cD)<|cD c,J),i,j,eN c,k]) else I)=_;rw[iz ⟨qI V,h1,by simp;lia⟩,FX]
  show(Uw [a,d,f,sT V,i,j,eN c,k]).bind _=_;rw[s1];exact e
variable {L:iC}{R:List Int->List (List Int)}(d: ∀a∈jP n,(∀c∈R a,c∈jP n)/\(R a).length<=100/\ ∃o,jZ [enc a,(.lst<|L.map cD,K2)]=J4 ((.tup<|(R a).map cD,K2),o))
include d
abbrev Ye:FS:=iA (Dm (fT V3) (iA (OE 5 [4,7] jZ)<|iA (lS<|mK 2<|jX 5)<|iA (qi (jB<|jX 5) (ik 6) Uw) iN) iN) iN
abbrev LW(a:Sl)(L:iC)(p:List D×List (List Int))(c e f:Sl):Dn:=[a,I,Y (.lst p.1,J),sT p.2,c,e,f,Cg L C]
theorem Ux(c:Sl){a:ig}(s:a∈jP n)(p:List D×List (List Int))(g:GV n p.2)(v:(Ls p.1)<=1000)(j f:Sl): ∃q m,Ye (LW c L p (eN a) j f)=Y (.nx<|LW c L (Jg R p a) (eN a) q m):=by
 obtain⟨t,w,o,u⟩:=d a s;have k:fT V3 (LW c L p (eN a) j f)=Y (!decide (a∈p.2),LW c L p (eN a) j f):=kJ (o:=C)<|jO (aeL a p.2) (jV H).r<|jR H;unfold Jg;by_cases h:a∈p.2
 .rw[lh h] at k;rw[iz h];exact⟨j,f,(il<|(Aa k).trans H).trans H⟩
 .rw[mr h] at k;rw[iG h];obtain⟨m,e⟩:=VB b c I (Y (.lst<|p.1++[.tup<|(R a).map cD],J)) (eN a) (Y (.tup<|(R a).map cD,C)) (Cg L C) (R a) p.2 f t g;refine⟨Y (.tup<|(R a).map cD,C),m,(il<|(DD k).trans<|(il (δ1:=LW c L p (eN a) (Y (.tup<|(R a).map cD,C)) f) ?_).trans<|(il<|kX<|pX (i:=2) (l0:=p.1) (l:=p.1) (r:=(.tup<|(R a).map cD,C)) (δ1:=LW c L p (eN a) (Y (.tup<|(R a).map cD,C)) f) H H H<|AE<|by lia).trans<|(il<|(lM (ds:=(R a).map cD) H).trans e).trans H).trans H⟩;unfold OE;rw[show jo (LW c L p (eN a) j f) (([4,7]:List Nat).map .slot)=Y [enc a,(.lst<|L.map cD,C)] from H];simp only[ju];rw[iz ⟨rfl,show 5<8 by decide⟩,u];rfl
theorem XD{p:List D×List (List Int)}{a:ig}(c:a∈jP n)(g:GV n p.2):GV n (Jg R p a).2/\(Jg R p a).1.length<=Ls p.1+1:=by
 unfold Jg;split
 .exact⟨g,by lia⟩
 .exact⟨g.fold (d a c).1,by simp⟩
theorem VC(i:Sl): ∀(as:iC) (p:List D×List (List Int)) (j c f:Sl),(∀a∈as,a∈jP n)->GV n p.2->Ls p.1+Ls as<=1000-> ∃l k m,vQ (ik 4) Ye (as.map cD) (LW i L p j c f)=Y (.nx<|LW i L (as.foldl (Jg R) p) l k m)
 |[],p,j,c,f,_,_,_=>⟨j,c,f,rfl⟩
 |a::as,p,j,c,f,h,g,t=>by have o:=h a jc;obtain⟨g1,g2⟩:=XD b d o g;simp at t;obtain⟨d5,q,r⟩:=Ux b d i o p g (by lia) c f;obtain⟨l,k,m,e⟩:=VC i as (Jg R p a) (eN a) d5 q (λa s=>h a<|ji _ s) g1 (by lia);refine⟨l,k,m,?_⟩;show(Ye<|LW i L p (eN a) c f).bind _=_;rw[r];exact e
end
abbrev tK(K:iC):D:= .tup (K.map cD)
def Ph(a:ig):D.pr (cD a)=J:=by simp[D.pr,ya]
def ltc{a b:ig}(h1:BN (cD b) (cD a)=C)(d:a≠b):BN (cD a) (cD b)=J:=by
 rw[Sa] at h1;rw[Hs]
 cases c:cT (cD a) (cD b) with
 |lt=>rfl
 |eq=>exact absurd (FP<|uW _ _ (Ph a) (Ph b) c) d
 |gt=>exact absurd c h1
def ltr(x:D):BN x x=C:=by
 cases e:BN x x with
 |false=>rfl
 |true=>rw[UP x x e] at e;cases e
def KL(R:List Int->List (List Int))(a:ig):Bool:=(R a).all λb=>!BN (cD b) (cD a)
section
variable {n:Nat}{f:iC}{R:List Int->List (List Int)}{a b y:ig}(h:ph n f)(d: ∀a∈jP n,JK n f a<|R a)
include h d
theorem J2(g:a∈jv n f)(c:y∈R a):y∈jv n f:=by obtain⟨h1,e⟩:=qg.mp g;have o:=d a h1;exact qg.mpr ⟨FW.mpr<|o.ok h c,by rw[o.kp h (FW.mp h1) c];exact e⟩
theorem OX(c:a∈jP n)(e:y∈R a):R y=R a:=(d a c).eq h (d y<|FW.mpr<|(d a c).ok h e) (FW.mp c) e
theorem Mv(c:a∈jP n):a∈R a:=(d a c).me h<|FW.mp c
theorem aas:(jv n f).Pairwise λa b=>BN (cD b) (cD a)=C/\a≠b:=by
 have c:n<6:=by have:=h.1;lia
 exact((RQ n c).filter _).and (Dq.mp<|(UU n c).filter _)
theorem Vv: ∀(l pre:iC) (p:List D×List (List Int)),pre++l=jv n f->p.1=(pre.filter<|KL R).map (λa=>tK<|R a)->(∀x,x∈p.2↔ ∃b∈pre,x∈R b)->(l.foldl (Jg R) p).1=((jv n f).filter<|KL R).map λa=>tK<|R a
 |[],pre,p,e,h1,_=>by rw[xH] at e;rw[<-e];exact h1
 |a::l,pre,p,e,h1,o=>by
  have u:a∈jv n f:=by rw[<-e];simp
  have s:=(qg.mp u).1;have v:=aas h d;rw[<-e,tu] at v;obtain⟨_,r,w⟩:=v;have r:=(Dr.mp r).1;rw[rP]
  have key:(Jg R p a).1=((pre++[a]).filter<|KL R).map (λa=>tK<|R a)/\ ∀x,x∈(Jg R p a).2↔ ∃b∈pre++[a],x∈R b:=by
   unfold Jg;by_cases m:a∈p.2
   .rw[iz m];obtain⟨b,j,ab⟩:=(o a).mp m;have k:b∈jv n f:=by rw[<-e];simp[j]
    have t:=OX h d (qg.mp k).1 ab
    have:KL R a=C:=by refine ka.mpr λq=>?_;have:=kf.mp q b (by rw[t];exact Mv h d (qg.mp k).1);obtain⟨A,B⟩:=w b j a jc;rw[ltc A B] at this;cases this
    refine⟨by rw[h1,cY];simp[this],λx=>(o x).trans ⟨λ⟨c,g,i⟩=>⟨c,by simp[g],i⟩,λ⟨c,g,i⟩=>?_⟩⟩;rcases qh.mp g with g|g
    .exact⟨c,g,i⟩
    .rw[AO.mp g,t] at i;exact⟨b,j,i⟩
   .rw[iG m]
    have:KL R a=J:=by
     refine kf.mpr λb j=>?_
     cases q:BN (cD b) (cD a) with
     |false=>rfl
     |true=>
      have k:=J2 h d u j;rw[<-e] at k;rcases qh.mp k with z|z
      .exact absurd ((o a).mpr ⟨b,z,by rw[OX h d s j];exact Mv h d s⟩) m
      .rcases mz.mp z with rfl|z
       .rw[ltr] at q;cases q
       .rw[(r b z).1] at q;cases q
    refine⟨by simp only;rw[h1,cY];simp[this],λx=>?_⟩;rw[vC,o];constructor
    .rintro(⟨c,g,i⟩|i)
     .exact⟨c,by simp[g],i⟩
     .exact⟨a,by simp,i⟩
    .rintro⟨c,g,i⟩;rcases qh.mp g with g|g
     .exact .inl ⟨c,g,i⟩
     .rw[AO.mp g] at i;exact .inr i
  exact Vv l (pre++[a]) _ (by simpa using e) key.1 key.2
theorem kHd(c:a∈jP n)(j:KL R a=J): ∃r,R a=a::r:=by
 have me:=Mv h d c;have g:=(d a c).sr
 cases e:R a with
 |nil=>rw[e] at me;cases me
 |cons b r=>
  rw[e] at me g;refine⟨r,?_⟩;rcases mz.mp me with rfl|z
  .rfl
  .have k:=(Dr.mp g).1 a z;have i:=kf.mp j b (by rw[e];simp);by_cases q:b=a
   .rw[q]
   .rw[ltc k q] at i;cases i
theorem kLs(g:a∈jP n): ∃b∈R a,KL R b=J:=by
 have me:=Mv h d g;have i:=(d a g).sr
 cases e:R a with
 |nil=>rw[e] at me;cases me
 |cons b r=>
  rw[e] at i;refine⟨b,by simp,kf.mpr λy c=>?_⟩;rw[OX h d g<|by rw[e];simp,e] at c;rcases mz.mp c with rfl|c
  .rw[ltr];rfl
  .rw[(Dr.mp i).1 y c];rfl
end
theorem ddD: ∀(l a:List D),(∀x∈l,D.pr x=J)->(∀x∈a,D.pr x=J)->a.Nodup->(l.foldl oz a).Nodup/\ ∀x,x∈l.foldl oz a↔x∈a\/x∈l
 |[],a,_,_,c=>⟨c,λx=>by simp⟩
 |d::l,a,f,hv,c=>by
  have hd:=f d jc
  have key:(∀x,x∈oz a d↔x∈a\/x=d)/\(oz a d).Nodup:=by
   unfold oz;by_cases q:a.any (D.O1 · d)=J
   .rw[iz q];obtain⟨x,b,e⟩:=EM.mp q;have:=(sG (hv x b) hd).mp e;subst this;exact⟨λy=>⟨.inl,λz=>z.elim id λz=>z▸b⟩,c⟩
   .rw[iG q];have j:d∉a:=λz=>q<|EM.mpr ⟨d,z,D.C3 d⟩;refine⟨λy=>by simp,?_⟩;rw[AA];exact⟨c,by simp,λx b y g e=>by simp at g;subst g;subst e;exact j b⟩
  obtain⟨h,i⟩:=ddD l (oz a d) (λx b=>f x<|ji _ b) (λx b=>((key.1 x).mp b).elim (hv x) λe=>e▸hd) key.2;refine⟨h,λx=>?_⟩;rw[rP,i,key.1,mz,or_assoc]
theorem Lz: ∀a b:List (List Int),(qc .Lt (a.map cD)<|b.map cD).isSome=J
 |[],b=>by simp[qc]
 |x::a,[]=>by simp[qc]
 |x::a,y::b=>by
  simp only[jG,qc];split
  .exact Lz a b
  .rw[nD,iz H];exact zU _ _ _
theorem E8: ∀K:List (List Int),D.JJ (K.map cD)=J
 |[]=>rfl
 |a::K=>by rw[jG,D.JJ,Ph,E8 K];rfl
def P4(K:iC):BJ (tK K)=J:=by show(D.JJ (K.map cD)&&_)=J;rw[E8 K,lh (show D.OO (K.map cD)<=6 by have:=vG K;lia)];rfl
section
variable {n:Nat}{f:iC}{R:List Int->List (List Int)}(h:ph n f)(g: ∀a∈jP n,JK n f a<|R a)
include h g
theorem ach: ∃V,Ur (.lst<|(jv n f).map λa=>tK<|R a)=Y (.R1 .set [] V,J)/\nr (.R1 .set [] V)=Y (.lst<|((jv n f).filter<|KL R).map λa=>tK<|R a,J):=by
 have T:=h.1;have all: ∀d∈(jv n f).map (λa=>tK<|R a),∃a∈jv n f,d=tK (R a):=λd hd=>by obtain⟨a,h1,B⟩:=lg.mp hd;exact⟨a,h1,B.symm⟩
 have pr: ∀d∈(jv n f).map (λa=>tK<|R a),D.pr d=J:=λd hd=>by obtain⟨a,_,rfl⟩:=all d hd;rw[D.pr];exact E8 _
 obtain⟨w,j⟩:=ddD ((jv n f).map λa=>tK<|R a) [] pr (by simp) nH;have j: ∀x,x∈lY ((jv n f).map λa=>tK<|R a)↔x∈(jv n f).map λa=>tK (R a):=λx=>(j x).trans (by simp)
 have lk:(jv n f).length<=32:=by refine kW (rJ _ _) ?_;rcases(show n=0\/n=1\/n=2\/n=3\/n=4\/n=5 by lia) with rfl|rfl|rfl|rfl|rfl|rfl<;>decide
 have t:(lY<|(jv n f).map λa=>tK<|R a).all BJ=J:=kf.mpr λd hd=>by obtain⟨a,_,rfl⟩:=all d<|(j d).mp hd;exact P4 _
 refine⟨lY<|(jv n f).map λa=>tK<|R a,?_,?_⟩
 .show(if _ then _ else _)=_;rw[iz ⟨kf.mpr λd hd=>by obtain⟨a,_,rfl⟩:=all d hd;exact P4 _,by simp;lia⟩]
 .show(if(lY<|(jv n f).map λa=>tK<|R a).all BJ=J then jY (lY<|(jv n f).map λa=>tK<|R a) else KE)=_;rw[iz t]
  have G:(lY<|(jv n f).map λa=>tK<|R a).length<=32:=by have:=w.length_le_of_subset λx i=>(j x).mp i;rw[jf] at this;exact kW this lk
  have L:mO (lY<|(jv n f).map λa=>tK<|R a)=J:=by
   have hk: ∀d∈lY ((jv n f).map λa=>tK<|R a),∃K,d=tK K/\ly d=Y 2:=λd hd=>by
    obtain⟨a,k,rfl⟩:=all d<|(j d).mp hd;refine⟨_,rfl,?_⟩;have me:=Mv h g (qg.mp k).1
    cases e:R a with
    |nil=>rw[e] at me;cases me
    |cons b r=>rfl
   generalize lY ((jv n f).map λa=>tK<|R a)=V at hk;unfold mO
   cases V with
   |nil=>rfl
   |cons x V=>
    have i:=(hk x jc).choose_spec.2;rw[yZ];right;simp only[kU,kf];refine⟨⟨by rw[i];rfl,λy o=>?_⟩,λy o z U=>?_⟩
    .obtain⟨K,rfl,e⟩:=hk y o;rw[e,i];refine⟨⟨rfl,by rw[D.pr];exact E8 K⟩,lh ?_⟩;rw[D.dep];have:=vG K;lia
    .obtain⟨K,rfl,_⟩:=hk y o;obtain⟨M,rfl,_⟩:=hk z U;rw[nD,iz H];exact Lz K M
  unfold jY;rw[iz ⟨L,by rw[jT];lia⟩]
  have sF:(((jv n f).filter<|KL R).map λa=>tK<|R a).Pairwise λx y=>BN y x=C/\x≠y:=by
   rw[mT];refine AQ ?_<|(aas h g).filter<|KL R;intro a b k m ⟨O,Q⟩;obtain⟨E,I⟩:=qg.mp k;obtain⟨N,p⟩:=qg.mp m;obtain⟨r,er⟩:=kHd h g (qg.mp E).1 I;obtain⟨s,A⟩:=kHd h g (qg.mp N).1 p
   have q:BN (tK<|R a) (tK<|R b)=J:=by rw[Hs,er,A,cT,jG,jG,cL,Hs.mp<|ltc O Q]
   exact⟨UP _ _ q,λe=>by rw[e,ltr] at q;cases q⟩
  rw[<-PX.M5 (l:=((jv n f).filter<|KL R).map λa=>tK<|R a) (λx i=>pr x<|(j x).mp i) ((Ee (Dq.mpr<|sF.imp λz=>z.2) w).mpr λx=>?_) (sF.imp λz=>z.1)];refine Iff.trans ⟨λi=>?_,λi=>?_⟩ (j x).symm
  .obtain⟨a,k,rfl⟩:=lg.mp i;exact lg.mpr ⟨a,(qg.mp k).1,rfl⟩
  .obtain⟨c,v,rfl⟩:=lg.mp i;have u:=(qg.mp v).1;obtain⟨b,m,p⟩:=kLs h g u;refine lg.mpr ⟨b,qg.mpr ⟨J2 h g v m,p⟩,?_⟩;rw[OX h g u m]
end
def ZQ{cs:iC}(a:(∀c∈cs,c≠[])\/(dd cs).length<=1)(f:(dd cs).length<=100): ∃O:List (List Int),(∀c,c∈O↔c∈cs)/\O.Nodup/\E9 O/\(Ls O)<=100/\nr (.R1 .set []<|(dd cs).map cD)=Y (.lst<|O.map cD,J):=by
 have d: ∀c,c∈dd cs↔c∈cs:=λc=>by unfold dd;rw[vC];simp
 obtain⟨O,e,b⟩:=Cy<|kP BN<|(dd cs).map cD;refine⟨O,λc=>b.mem_iff.trans<|d c,b.nodup_iff.mpr<|Ci cs []<|by simp,?_,by rw[b.length_eq];exact f,?_⟩
 .have:=qV<|(dd cs).map cD;rw[e,mT] at this;exact this
 .show(if((dd cs).map cD).all BJ=J then jY ((dd cs).map cD) else I)=_;rw[iz<|qI _]
  have g:mO ((dd cs).map cD)=J:=by
   rcases a with a|a
   .exact qW _ λc h=>a c<|(d c).mp h
   .unfold mO;rw[jf,lh a];rfl
  unfold jY;rw[iz ⟨g,by rw[jT];simp;lia⟩,e]
def XJ{n:Nat}(a:n<=5):(jP n).length<=32:=by rcases(show n=0\/n=1\/n=2\/n=3\/n=4\/n=5 by lia) with rfl|rfl|rfl|rfl|rfl|rfl<;>decide
section
variable {n:Nat}{g:iC}(h:ph n g)
include h
theorem WH: ∃R:List Int->List (List Int),∀a∈jP n,JK n g a (R a)/\(R a).length<=100/\jA [enc a,(.lst<|(Sr n g).map cD,C)]=Y ((.lst<|(R a).map cD,J),[eN a,Cg (Sr n g) C]):=by
 have i:=h.1;refine(Classical.skolem (p:=λa O=>a∈jP n->JK n g a O/\(Ls O)<=100/\jA [enc a,(.lst<|(Sr n g).map cD,C)]=Y ((.lst<|O.map cD,J),[eN a,Cg (Sr n g) C]))).mp λa=>?_;by_cases j:a∈jP n
 .have u:=FW.mp j;have l: ∀t∈Sr n g,ac n t a∈jP n:=λt b=>FW.mpr (RZ i<|jJ h b)
  have MM: ∀cs:List (List Int),(∀c∈cs,c∈jP n)->(dd cs).length<=(jP n).length:=λcs d=>oI _ (jP n) (Ci cs []<|by simp) λc z=>by unfold dd at z;rw[vC] at z;exact z.elim (λz=>absurd z ql)<|d c
  have E:=XJ i;have k: ∀c∈(Sr n g).map λt=>ac n t a,c∈jP n:=λc d=>by obtain⟨t,b,rfl⟩:=lg.mp d;exact l t b
  obtain⟨O,v,w,x,A,B⟩:=ZQ (cs:=(Sr n g).map λt=>ac n t a) (by
   by_cases o:n=0
   .right;subst o;exact MM _ k
   .left;intro c d e;have:=(FW.mp<|k c d).1;rw[e] at this;exact o this.symm) (by have:=MM _ k;lia)
  refine⟨O,λ_=>⟨⟨w,x,λy=>by rw[v,lg]⟩,A,?_⟩⟩
  obtain⟨U,e⟩:=aaT (f:=iB oi [hX 0,hX 1]) (pre:=[eN a]) (λt=>ac n t a) (Sr n g) [] I (λt b=>⟨C,Cb (La i (jJ h b) (oy i<|jJ h b) u) (jV H)<|jV H⟩) (λm=>by have:=MM (((Sr n g).take m).map λt=>ac n t a) (λc d=>by obtain⟨t,b,rfl⟩:=lg.mp d;exact l t<|tY b);unfold dd at this;lia)
  have q:Rh [0] 1 xN (ik 1) jk (xD Sm) [eN a,Cg (Sr n g) C]=Y ((.R1 .set []<|(dd<|(Sr n g).map λt=>ac n t a).map cD,J),[eN a,Cg (Sr n g) C]):=by unfold Rh JL;rw[show xN [eN a,Cg (Sr n g) C]=Y ((Sr n g).map cD,[eN a,Cg (Sr n g) C]) from H];simp only[ju];rw[show jo [eN a,Cg (Sr n g) C] (([0]:List Nat).map .slot)=Y [enc a] from H];simp only[ju];rw[iz (show(iM (([0]:List Nat).map .slot) [enc a]).Nodup by simp[iM])];have s:jH (ik 1) jk (xD Sm) ((Sr n g).map cD) [] (([enc a].map Y)++ah 1 I)=Y ((dd<|(Sr n g).map λt=>ac n t a).map cD,[eN a,U]):=e;rw[s];rfl
  exact Ao (np:=2) ⟨rfl,by decide,rfl⟩ (δ:=[eN a,Cg (Sr n g) C])<|jC B (jE q).r
 .exact⟨[],λz=>absurd z j⟩
theorem AH(δ:Dn){i:Nat}(a:δ[i]?=Y (rS n g)):iB lH [hX i] δ=Y ((.lst<|(Sr n g).map cD,J),δ):=Jm (qK h.1 h.2.1.2 h.2.2.2)<|jV a
variable {a:ig}(j:a∈jP n)
include j
theorem cka:Wg [rS n g,eN a]=Y (.nx [rS n g,eN a]):=by
 have c:=(FW.mp j).1
 have e:mN [pI n,enc a]=Y ((.T1,C),[ii n,eN a]):=by have:=Eb n (cD a)<|KJ (by have:=h.1;lia);rw[Lh j] at this;have e:oM [ii n,eN a]=Y (.nx [ii n,eN a]):=(il (δ1:=[ii n,eN a])<|(Aa<|rq (b:=J)<|kJ (o:=C)<|Cb this (jV H)<|jV H).trans H).trans H;simp only[mN,Q1];rw[iz ⟨rfl,by decide,rfl⟩];show(match oM [ii n,Y<|enc a] with|some (.rt r δ)=>Y (r,iT _ δ)|some (.nx δ)=>Y ((D.T1,C),iT _ δ)|_=>I)=_;rw[e];rfl
 exact kX<|Cb e (jE (b:=C)<|jO H (jV H).r (jE H).r)<|jV H
theorem Qk{O:iC}(r:jA [enc a,(.lst<|(Sr n g).map cD,C)]=Y ((.lst<|O.map cD,J),[eN a,Cg (Sr n g) C])):pj [(GI n g,C),enc a]=Y ((.lst<|O.map cD,J),[rS n g,eN a]):=
 kF (δ:=[rS n g,eN a]) ⟨rfl,by decide,rfl⟩ ((il<|cka h j).trans<|jF<|kh<|Cb r (jV H)<|jE (b:=J)<|AH h _ rfl)
theorem Sy:Co [(GI n g,C),enc a]=Y ((.lst<|((Sr n g).filter λt=>decide<|ac n t a=a).map cD,J),[rS n g,eN a]):=by
 have c:=CB (caps:=[1]) (fi:=jB NW) (f:=jX 1) (ti:=fT Zg) (δ:=[rS n g,eN a]) (l:=(Sr n g).map cD) (args:=[cD a]) (λd=>d) (λd=>decide<|ac n (IS d) a=a) (mV<|AH h _ rfl) H H (λd hd=>by obtain⟨t,e,rfl⟩:=lg.mp hd;have i:=jJ h e;refine⟨kJ (o:=C) ?_,λ_=>⟨C,rfl⟩⟩;rw[lI];exact jO (X7 (ac n t a) a) (jE (b:=C)<|Cb (La h.1 i (oy h.1 i)<|FW.mp j) (jV H)<|jV H).r (jV H).r) (by have:=K8 h;simp;lia)
 rw[zP,AR λt e=>show decide (ac n (IS<|cD t) a=a)=decide (ac n t a=a) by rw[lI]] at c;exact kF ⟨rfl,by decide,rfl⟩<|(il<|cka h j).trans<|jF<|kh c
end
section
variable {n:Nat}{d:iC}(h:ph n d){R:List Int->List (List Int)}
 (f: ∀a∈jP n,JK n d a (R a)/\(R a).length<=100/\jA [enc a,(.lst<|(Sr n d).map cD,K2)]=J4 ((.lst<|(R a).map cD,K0),[eN a,Cg (Sr n d) K2]))
include h f
theorem Uk:Cp [(GI n d,C)]=Y ((.lst<|((jv n d).filter<|KL R).map λa=>tK<|R a,J),[rS n d]):=by
 have k:=h.1;have j: ∀a∈jP n,JK n d a (R a):=λa g=>(f a g).1
 have v: ∀a∈jP n,(∀c∈R a,c∈jP n)/\(R a).length<=100/\ ∃o,jZ [enc a,(.lst<|(Sr n d).map cD,C)]=Y ((.tup<|(R a).map cD,C),o):=λa g=>⟨λc u=>FW.mpr<|(j a g).ok h u,(f a g).2.1,[eN a,Cg (Sr n d) C],Ao (np:=2) ⟨rfl,by decide,rfl⟩ (δ:=[eN a,Cg (Sr n d) C])<|jC (a:= .lst ((R a).map cD)) H (jE (b:=J)<|Cb (f a g).2.2 (jV H)<|jV H).r⟩
 have lk:(jv n d).length<=32:=kW (rJ _ _)<|XJ k;have t:=Vv h j (jv n d) [] ([],[]) H H (λx=>by simp);obtain⟨l,m,p,e⟩:=VC k v (Y (.lst<|(jv n d).map cD,C)) (jv n d) ([],[]) I I I (λa g=>(qg.mp g).1) ⟨nH,by simp⟩ (by simp;lia);rw[<-t];generalize (jv n d).foldl (Jg R) ([],[])=F at e
 have s:AK jZ (uU (.lst<|(jv n d).map cD,C) 5 [(.lst<|(Sr n d).map cD,C)])=Y (.rt (.lst F.1,J) [Y (.lst<|(jv n d).map cD,C),I,I,sT F.2,l,m,p,Cg (Sr n d) C]):=by refine(il (δ1:=[Y (.lst<|(jv n d).map cD,C),I,Y (.lst [],J),I,I,I,I,Cg (Sr n d) C])<|by simp[uU,jT]).trans ((il (δ1:=LW (Y (.lst<|(jv n d).map cD,C)) (Sr n d) ([],[]) I I I) H).trans<|(il<|(lM (ds:=(jv n d).map cD) H).trans e).trans<|jF H)
 have q:pZ [(GI n d,C),(.lst<|(jv n d).map cD,C)]=Y ((.lst F.1,J),[rS n d,Y (.lst<|(jv n d).map cD,C)]):=by refine kF (δ:=[rS n d,Y (.lst<|(jv n d).map cD,C),Cg (Sr n d) C,I]) ⟨rfl,by decide,rfl⟩<|(il<|jD (i:=2) (δ1:=[rS n d,Y (.lst<|(jv n d).map cD,C),I,I]) (AH h _ rfl) (show 2<4 by decide)).trans ?_;show Gw 3 1 [2] 5 (AK jZ) [rS n d,Y (.lst<|(jv n d).map cD,C),Cg (Sr n d) C,I]=_;unfold Gw;rw[show jo [rS n d,Y (.lst<|(jv n d).map cD,C),Cg (Sr n d) C,I] (([1,2]:List Nat).map .slot)=Y [(.lst<|(jv n d).map cD,C),(.lst<|(Sr n d).map cD,C)] from H];simp only[ju];rw[iz ⟨rfl,by decide,show 3<4 by decide⟩,s];rfl
 exact Ao (np:=1) ⟨rfl,by decide,rfl⟩<|Cb q (jV H)<|jE (b:=J)<|Jm (CQ h)<|jV H
end
def acg{a:iC}(h:0<Ls a): ∃t∈a,Ct (.lst<|a.map cD) (.int (-1))=Y (cD t,C):=by
 have b:(Ls a)-1<(Ls a):=by lia
 refine⟨a[Ls a-1],yU b,?_⟩
 have e:Gf (a.map cD).length (-1)=Y (Ls a-1):=by
  unfold Gf;rw[jf,iG<|by decide,iz<|by lia]
  congr 1;lia
 show(JT (a.map cD) (-1)).map _=_;unfold JT;rw[e];simp[kl,jg b]
def X5{i j:Int}(c:Dk i j):oJ (.int i) (.int j)=Y (.int<|i*j,C):=by show((if Dk i j then Y (D.int<|i*j) else I).map λz=>(z,C))=_;rw[iz c];rfl
def Qb{d:D}(h:d.dep<=50):JE d d=Y (.bl C,C):=by unfold JE;rw[iz ⟨h,h⟩,D.C3];rfl
def Rl{d:D}(h:d.dep<=50):EV d d=Y (.bl J,C):=by unfold EV;rw[iz ⟨h,h⟩,D.C3]
theorem DZ{b:Type}(f:b->List (List Int)): ∀l:List b,D.OO (l.map λa=>tK<|f a)<=2
 |[]=>by simp[D.OO]
 |a::l=>by have:=DZ f l;have:=vG<|f a;rw[jG,D.OO,D.dep];lia
abbrev Ri:F:=iF Ct (hX 3) V8
abbrev VG:FS:=iA YX<|iA zC1<|iA (Dm (Di (fT<|iF JE (iu<|iB pj [hX 0,iu Ri])<|hX 3)<|fT<|iF JE (iu<|iB qa [hX 0,iu Ri]) YT) Bj iN) iN
section
variable {n:Nat}{j:iC}(m:n<=4)(h:ph n j){R:List Int->List (List Int)}
 (k: ∀a∈jP n,JK n j a (R a)/\(R a).length<=100/\jA [enc a,(.lst<|(Sr n j).map cD,K2)]=J4 ((.lst<|(R a).map cD,K0),[eN a,Cg (Sr n j) K2]))
include m h k
theorem Rb{a:ig}(d:a∈jP n)(x3:Sl):VG [rS n j,ii (Sr n j).length,eN a,x3,I]=Y (.nx [rS n j,ii (Sr n j).length,eN a,Aq<|R a,I]):=by
 have e: ∀a∈jP n,JK n j a (R a):=λa d=>(k a d).1;have q:=FW.mp d;have me:=Mv h e d
 let δ:Dn:=[rS n j,ii (Sr n j).length,eN a,Aq<|R a,I]
 obtain⟨y,f,v⟩:=acg<|M7 me;have l:=FW.mpr<|(e a d).ok h f;have u:=OX h e d f;have p:Ri δ=Y ((cD y,C),δ):=jO v (jR H) (jE (b:=C)<|jN (ZT 1) (jE H).r).r;have g: ∀{y:ig},y∈jP n->Ol (cD y):=λf=>KJ (by have:=(FW.mp f).1;lia);have c:Dk (((R a).map cD).length:Nat) ((((Sr n j).filter λt=>decide<|ac n t a=a).map cD).length:Nat):= .inl (by have:=(k a d).2.1;simp;lia);have lo:=Qk h l (k y l).2.2;rw[u] at lo;have s:=BY h _ (g l);rw[JC l,(e a d).kp h q f,<-JC d] at s;refine(il<|jD (i:=3) (δ1:=[rS n j,ii (Sr n j).length,eN a,x3,I]) (Cb (Qk h d (k a d).2.2) (jV H)<|jV H) (show 3<5 by decide)).trans ((no (δ:=δ) _ ((Fw<|kJ (o:=C)<|jO ?_ (jE (b:=C)<|jO (X5 c) (jE (b:=C)<|jC (Bz _)<|jR H).r (jE (b:=C)<|jC (Bz _) (jE (b:=J)<|Cb (Sy h d) (jV H)<|jV H).r).r).r (jV H).r).trans<|kJ (o:=C)<|jO (by rw[rk,lh me];rfl) (jV H).r<|jR H)).trans<|(no (δ:=δ) _ ((Fw<|kJ (o:=C)<|jO (Qb<|AL _) (jE (b:=J)<|Cb lo (jV H)<|jE (b:=C) p).r<|jR H).trans<|kJ (o:=C)<|jO (by rw[ZU,beq_self_eq_true];rfl) (jE (b:=C)<|Cb s (jV H)<|jE (b:=C) p).r (jE (b:=C)<|Cb (BY h _ (g d)) (jV H)<|jV H).r)).trans H);rw[(e a d).len h m q,jf,jf,Int.natCast_mul,Vi];simp
theorem XE:nA [(GI n j,C),pI (Sr n j).length]=Y ((.bl J,C),[rS n j,ii (Sr n j).length]):=by
 have q: ∀a∈jP n,JK n j a (R a):=λa o=>(k a o).1
 obtain⟨_,⟨x2,x3,_,rfl⟩,e⟩:=oh (tg:=ik 2) (fb:=VG) (λl δ=> ∃x2 x3,(∀y∈l,∃a∈jP n,y=cD a)/\δ=[rS n j,ii (Sr n j).length,x2,x3,I]) (λy l δ T=>by
  obtain⟨x2,x3,h1,e⟩:=T
  subst e;obtain⟨a,o,rfl⟩:=h1 y jc;exact⟨_,_,rfl,Rb m h k o x3,_,_,λz v=>h1 z<|ji _ v,rfl⟩) ((jP n).map cD) [rS n j,ii (Sr n j).length,I,I,I] ⟨I,I,λy u=>by obtain⟨t,s,rfl⟩:=lg.mp u;exact⟨t,s,rfl⟩,rfl⟩
 obtain⟨V,A,B⟩:=ach h q;have w:jB Zf [rS n j,ii (Sr n j).length,I,I,I]=Y ((jP n).map cD,[rS n j,ii (Sr n j).length,I,I,I]):=mV<|Jm (UK h.1)<|jE (b:=C)<|jO H (jV H).r (jE H).r
 let δ:Dn:=[rS n j,ii (Sr n j).length,x2,x3,Cg (jv n j) C]
 have c:=uV (caps:=[0]) (fi:=jB<|jX 4) (f:=iO (g1 lJ) [YU]) (δ:=[rS n j,ii (Sr n j).length,x2,x3,Aq<|jv n j]) (δ1:=δ) (l:=(jv n j).map cD) (args:=[GI n j]) (λd=>tK<|R<|IS d) H H H (λd hd=>by obtain⟨a,o,rfl⟩:=lg.mp hd;have p:=(qg.mp o).1;rw[lI];exact⟨C,jC (a:= .lst ((R a).map cD)) H (jE (b:=J)<|Cb (Qk h p (k a p).2.2) (jV H)<|jV H).r⟩) (by have:=kW (rJ (λt=>j.all<|kC t)<|jP n)<|XJ h.1;simp only[jf];unfold jv;lia)
 rw[jx,show((λd=>tK<|R<|IS d)∘cD)=λa=>tK (R a) from funext λa=>by rw[aX,lI]] at c;have U:=DZ R<|(jv n j).filter<|KL R;refine kF (δ:=δ) ⟨rfl,by decide,rfl⟩<|(il<|(lM w).trans e).trans<|(il<|jD (i:=4) (δ1:=[rS n j,ii (Sr n j).length,x2,x3,I]) (Jm (CQ h)<|jV H) (show 4<5 by decide)).trans<|jF<|kh ?_;have s1:=ot (g:=g1 Ur) (uP<|iU c) H A;have x:=ot (g:=g1 nr) (uP<|iU s1) H B;exact ll (iU x) (iU<|Jm (Uk h k)<|jV H) H H<|Rl (by rw[D.dep];lia)
end
section
variable {n:Nat}{a:iC}(h:ph n a)
include h
end
def Wr(a:Int)(b:Bool)(m:Int)(k:0<m)(l:m<1073741824): ∃v f,0<=v/\v<m/\ ∀(g:FO) (c:Sl) (d:Dn) (o:Ax),g (c::SS a b::d)=Y (o,c::SS a b::d)->wu (c::SS a b::d) o=Y (.int m,C)->iB jz [hX 1,g] (c::SS a b::d)=Y ((.int v,C),c::SS f b::d):=by
 obtain⟨v,f,h,h1,e⟩:=qR a b m k l;refine⟨v,f,h,h1,λg c d o i j=>?_⟩;refine(kn (os:=[.slot 1,o]) (args:=[(.lst [.int a,.bl b],J),(.int m,C)]) (qM H i) ?_ ?_ e).trans ?_
 .simp[j]
 .cases o<;>simp[iM]
 .cases o<;>simp[wb]
abbrev Ma:F:=iF Ct (hX 0) Zh
def aaP{K:iC}(B:0<K.length)(w:K.length<=1000)(b:Bool)(a:Int)(i j k m p:Sl): ∃(c:Int) (t u:ig),t∈K/\u∈K/\jn [3,0] 1 Sf (ik 2) jk (jm Ma) [SS a b,i,j,Aq K,k,m,p]=Y ((.lst [cD t,cD u],J),[SS c b,i,j,Aq K,k,m,p]):=by
 have h: ∀(a:Int) (x:Sl),∃(c:Int) (t:ig),t∈K/\Ma [Aq K,SS a b,x]=Y ((cD t,C),[Aq K,SS c b,x]):=λa x=>by
  obtain⟨v,f,A,U,s⟩:=Wr a b K.length (by lia) (by lia);have hv:v.toNat<K.length:=by lia
  refine⟨f,K[v.toNat],yU hv,ll (o1:= .slot 0) (o2:= .val (.int v,C)) (x:= .lst (K.map cD)) H (iU<|s _ (Aq K) [x] (.val (.int K.length,C)) (by simp) rfl) H H ?_⟩;rw[ixl A<|by simp;lia];simp[hv]
 obtain⟨a1,t,y,q⟩:=h a<|Y (.int 0,C);obtain⟨f,u,z,r⟩:=h a1<|Y (.int 1,C);refine⟨f,t,u,y,z,(rB (caps:=[3,0]) (l:=[.int 0,.int 1]) (acc:=[cD t,cD u]) (δ':=[Aq K,SS f b,Y (.int 1,C)]) (args:=[(.lst<|K.map cD,J),(.lst [.int a,.bl b],J)]) (qy (n:=2) (o:= .val (.int 2,C)) H H<|by lia) H (show([3,0]:List Nat).Nodup by decide) ?_).trans H⟩
 have g: ∀(d:D) (ds acc:List D) (a c:Int) (x:Sl) (t:ig),Ls acc<10->Ma [Aq K,SS a b,Y (d,C)]=Y ((cD t,C),[Aq K,SS c b,Y (d,C)])->jH (ik 2) jk (jm Ma) (d::ds) acc [Aq K,SS a b,x]=jH (ik 2) jk (jm Ma) ds (acc++[cD t]) [Aq K,SS c b,Y (d,C)]:=λd ds acc a c x t w e=>by rw[jH,show ik 2 d [Aq K,SS a b,x]=Y [Aq K,SS a b,Y (d,C)] from H];simp only[ju,rX,kI,vm];rw[e];simp only[ju];rw[iz<|by rw[jT];lia];rfl
 show jH (ik 2) jk (jm Ma) [.int 0,.int 1] [] [Aq K,SS a b,I]=_;rw[g _ _ _ _ _ _ t (by decide) q,g _ _ _ _ _ _ u (by simp) r];rfl
def aaR{K l:iC}{f:F}{fi:Cf}{pre:List (D×Bool)}{caps:jw}{δ δ1:Dn}(p:List Int->Bool)(h1:fi δ=Y (l.map cD,δ1))(a:jo δ1 (caps.map .slot)=Y pre)(b:(iM (caps.map .slot) pre).Nodup)(c:(Ls caps)=Ls pre)
  (h: ∀t∈l,f (pre.map Y++[eN t])=Y ((.bl<|p t,C),pre.map Y++[eN t]))(k:(Ls l)<=10000)(j: ∀x,wb (caps.map .slot) pre (iT pre<|pre.map Y++[x]) δ1=δ1):
  jn caps 1 fi (ik<|Ls caps) jk (jm f) δ=Y ((.lst<|(l.map cD).map λd=> .bl (p<|IS d),J),δ1):=by
 obtain⟨m,e⟩:=Yx (f:=f) (ti:=jk) (g:=λd=> .bl (p<|IS d)) (p:=λ_=>J) (pre:=pre.map Y) (l.map cD) [] I (λd hd=>⟨rfl,λ_=>by obtain⟨t,i,rfl⟩:=lg.mp hd;rw[lI];exact⟨C,h t i⟩⟩) (by rw[jT];simp;lia)
 rw[YF.mpr λ_ _=>rfl,jf,<-c] at e;exact(rB h1 a b e).trans (by rw[j];rfl)
abbrev aaH:FS:=iA (Jd (Gh [ik 5,ik 6])<|jn [3,0] 1 Sf (ik 2) jk<|jm Ma) zC3
def Sz{n:Nat}(x:n<=4){t w:ig}(k:TT n t)(H:TT n w)(a:Int)(b:Bool): ∃j,ny [pS a b,pI n,(.lst<|[t,w].map cD,K2)]=J4 ((.bl K0,K2),[SS j b,ii n,J4 (.lst<|[t,w].map cD,K2)]):=by
 have A: ∀u∈[t,w],TT n u:=λu g=>by
  rcases mz.mp g with rfl|g
  .exact k
  .rw[AO.mp g];exact H
 obtain⟨V,K,h,E,hk,J⟩:=SA x (d:= .lst ([t,w].map cD)) (L:=[t,w]) (.inl K3) A;have kV: ∀{u},u∈K↔u∈V:=λ{u}=>E.mem_iff;have B: ∀u∈K,TT n u:=λu g=>h.tt u<|kV.mp g;have N:0<K.length:=M7<|kV.mpr h.st
 have z:K.length<=1000:=by have:=oI V (mh n n) h.nd λu g=>(h.tt u g).all;rw[E.length_eq];exact kW this (by rcases(show n=0\/n=1\/n=2\/n=3\/n=4 by lia) with rfl|rfl|rfl|rfl|rfl<;>decide+kernel)
 let X:Sl:=J4 (.lst<|[t,w].map cD,K2)
 obtain⟨_,⟨j,s,m,p,rfl⟩,e⟩:=oh (tg:=ik 4) (fb:=aaH) (λl δ=> ∃a s m p,δ=[SS a b,ii n,X,Aq K,s,m,p]) (λy l δ a'=>by
  obtain⟨a,s,m,p,e⟩:=a'
  subst e;obtain⟨j,t,u,k,g,e⟩:=aaP N z b a (ii n) X (J4 (y,K2)) m p;have q:=B t k;have u1:=B u g
  let δ:Dn:=[SS j b,ii n,X,Aq K,J4 (y,K2),eN t,eN u]
  refine⟨_,δ,rfl,?_,_,_,_,_,rfl⟩
  have s1:Jd (Gh [ik 5,ik 6]) (jn [3,0] 1 Sf (ik 2) jk<|jm Ma) [SS a b,ii n,X,Aq K,J4 (y,K2),m,p]=J4 (.nx δ):=by unfold Jd;rw[e];rfl
  exact(il s1).trans ((no (δ:=δ) _ ((Fw<|kJ (o:=K2)<|jO (by rw[rk,lh<|kV.mpr<|h.bh A (kV.mp k)<|kV.mp g];rfl) (jE (b:=K2)<|Cb (vL (by lia) q u1.len) (jV K3)<|jV K3).r<|jR K3).trans<|kJ (o:=K2)<|jO (by rw[rk,lh<|kV.mpr<|h.bk (by lia) A (kV.mp k)<|oy (by lia) q];rfl) (jE (b:=K2)<|Jm (AM q<|oy (by lia) q)<|jV K3).r<|jR K3)).trans K3)) [.int 0,.int 1,.int 2,.int 3] [SS a b,ii n,X,Aq K,KE,KE,KE] ⟨a,KE,KE,KE,rfl⟩
 let δ:Dn:=[SS j b,ii n,X,Aq K,s,m,p]
 have c:=aaR (K:=K) (l:=[t,w]) (f:=iF MZ (hX 1)<|hX 0) (fi:=jB<|jX 2) (caps:=[3]) (pre:=[(.lst<|K.map cD,K0)]) (δ:=δ) (δ1:=δ) (λu=>decide<|u∈K) K3 K3 (show([3]:List Nat).Nodup by decide) K3 (λu _=>jO (Vy u K) (jV K3).r<|jR K3) (by simp) λ_=>rfl
 have T:zL (.lst<|([t,w].map cD).map λd=> .bl (decide<|IS d∈K))=J4 (.bl K0,K2):=by have U:t∈K:=kV.mpr (by have:=h.cl _ h.st t (by simp);rwa [FQ k] at this);have Y:w∈K:=kV.mpr (by have:=h.cl _ h.st w (by simp);rwa [FQ H] at this);rw[Al λd=>decide<|IS d∈K];simp[lI,U,Y]
 have O:DW (hX 3) IL δ=J4 ((.lst<|(K.take 4).map cD,K0),δ):=by show J4 ((D.lst<|PX.FH (K.map cD) KE<|J4 ((4:Nat):Int),K0),_)=_;rw[Rz,HM]
 have I: ∀u∈K.take 4,TT n u:=λu g=>B u<|tY g;obtain⟨V1,C,s1,F,S,f1⟩:=SA x (d:= .lst ((K.take 4).map cD)) (L:=K.take 4) (.inl K3) I;obtain⟨V2,Q,Z,P,W,M⟩:=SA x (d:= .tup ((K.take 4).map cD)) (L:=K.take 4) (.inr K3) I;have v:C=Q:=xX (F.trans<|(s1.perm Z).trans P.symm) S W;subst v;refine⟨j,kF (δ:=δ) ⟨rfl,by decide,rfl⟩<|(il<|jD (i:=3) (δ1:=[SS a b,ii n,X,KE,KE,KE,KE]) (Cb J (jV K3)<|jV K3) (show 3<7 by decide)).trans<|(il<|(lM (ds:=[.int 0,.int 1,.int 2,.int 3])<|qy (n:=4) (o:= .val (.int 4,K2)) K3 K3<|by lia).trans e).trans<|jF<|kh ?_⟩;have G:iO (g1 zL) [Zl] δ=J4 ((.bl K0,K2),δ):=jC T (jE c).r;have R:iF EV Zj Zr δ=J4 ((.bl K0,K2),δ):=jO (Rl<|AL C) (jE (b:=K0)<|Cb f1 (jV K3)<|jE O).r (jE (b:=K0)<|Cb M (jV K3)<|jE (b:=K2)<|jC (a:= .lst ((K.take 4).map cD)) K3 (jE O).r).r;unfold zQ;rw[G];exact R
abbrev acv:F:=iF Ct Zs Y9
abbrev VH:FS:=zC0
def acy{f g:FT}{δ:Dn}{b:Bool}(h:f δ=Y (b,δ))(k:g δ=Y (C,δ)):Ah f g δ=Y (C,δ):=by
 unfold Ah;rw[h]
 cases b with
 |false=>rfl
 |true=>exact k
def XI{n:Nat}{a:iC}(h:ph n a){t:ig}(d:t∈Sr n a):OW n a (cD t)=J:=by obtain⟨e,f⟩:=Vt.mp d;unfold OW;rw[U7 e,OB,yV];exact kf.mpr λc b=>lh<|f c b
def Rc(J:ig)(k:Nat)(c2 C y p m j e:Sl): ∃d2 d3 d4 g5 d6 d7 d8,VH [J4 (.lst<|J.map .int,K2),ii k,c2,C,y,p,m,j,e]=J4 (.nx [J4 (.lst<|J.map .int,K2),ii k,d2,d3,d4,g5,d6,d7,d8]):=by
 let A:Sl:=J4 (.lst<|J.map .int,K2)
 obtain⟨a,b,X⟩:=af5 J k;obtain⟨v,a1,v0,S,Z⟩:=Gi a b 5 (by lia) (by lia);obtain⟨x,Q,q0,F,e2⟩:=Gi a1 b 4 (by lia) (by lia);obtain⟨n,M⟩: ∃n:Nat,(if x=0 then v else if x=3 then 2 else 3)=n:=⟨(if x=0 then v else if x=3 then 2 else 3).toNat,by split<;>(try split)<;>lia⟩
 have H:n<=4:=by split at M<;>(try split at M)<;>lia
 obtain⟨B,g,h,e3⟩:=aex Q b n (by lia);obtain⟨L,K,G,N,e5⟩:=Yc h H;obtain⟨O,t,tm,e6⟩:=Bq B b n (by lia);have s:=Kf tm;have I:=oy (by lia) s;have D:=I.tt s;obtain⟨R,hR⟩:=WH h;obtain⟨T,e7⟩:=Sz H s D O b;obtain⟨ds,Y,e8⟩:=Qp s h;have hd:=Y.rd s I h;have E: ∀u∈L,u∈Sr n g:=G.sub;obtain⟨V,W,s1,p1,F,f1⟩:=SA H (d:= .tup (L.map cD)) (L:=L) (.inr K3) λu w=>jJ h<|E u w
 have eK:W=Sr n g:=ZR h H E s1 p1 F λu w=>by obtain⟨V2,S,v2,_⟩:=G.sp;exact(S.perm s1).mem_iff.mp (v2.mem_iff.mp<|N u w)
 subst eK
 let δ:Int->Sl->Sl->Sl->Sl->Dn:=λa y5 y6 y7 y8=>[A,ii k,SS a b,ii n,rS n g,y5,y6,y7,y8]
 have U:=K8 h;have Ll:(Ls L)<=3840:=kW (oI L (Sr n g) G.nd G.sub) U;refine⟨SS T b,ii n,rS n g,Aq<|Sr n g,FU L,eN t,Aq<|Sr n ds,?_⟩;refine(il<|jD (i:=2) (δ1:=[A,ii k,c2,C,y,p,m,j,e]) (Cb X (jV K3)<|jV K3) (show 2<9 by decide)).trans ?_
 have hx:acv [A,ii k,SS a b,C,y,p,m,j,e]=J4 ((.int n,K2),[A,ii k,SS Q b,C,y,p,m,j,e]):=by refine ll (o1:= .val (.lst [.int v,.int 3,.int 3,.int 2],K0)) (o2:= .val (.int x,K2)) (δ1:=[A,ii k,SS a1 b,C,y,p,m,j,e]) (iU<|Fx (os:=[.val (.int v,K2),.val (.int 3,K2),.val (.int 3,K2),.val (.int 2,K2)]) (ds:=[.int v,.int 3,.int 3,.int 2]) (pW (iU<|Z _ A (ii k) [C,y,p,m,j,e] (.val (.int 5,K2)) rfl rfl) K3) K3<|vg (by show 4<=10000;decide)) (iU<|e2 _ A (ii k) [C,y,p,m,j,e] (.val (.int 4,K2)) rfl rfl) K3 K3 (z:=(.int n,K2)) ?_;rw[<-M];rcases(show x=0\/x=1\/x=2\/x=3 by lia) with rfl|rfl|rfl|rfl<;>rfl
 refine(il<|jD (i:=3) hx (show 3<9 by decide)).trans ?_;refine(il<|jD (i:=4) (δ1:=[A,ii k,SS B b,ii n,y,p,m,j,e]) (kn (δ1:=[A,ii k,SS Q b,ii n,y,p,m,j,e]) (os:=[.slot 2,.slot 3]) (args:=[pS Q b,pI n]) K3 K3 (MV 2) e3) (show 4<9 by decide)).trans ?_;refine(il<|jD (i:=5) (δ1:=δ B p m j e) (AH h _ rfl) (show 5<9 by decide)).trans ?_;refine(il<|jD (i:=6) (δ1:=δ B (Aq<|Sr n g) m j e) (Jm e5<|jV K3) (show 6<9 by decide)).trans ?_
 have c:=yD (caps:=[4]) (fi:=jB<|jX 6) (f:=iB nC [hX 0,hX 1]) (δ:=δ B (Aq<|Sr n g) (FU L) j e) (l:=L.map cD) (args:=[GI n g]) (OW n g) K3 K3 K3 (λd hd=>by obtain⟨u,w,rfl⟩:=lg.mp hd;exact⟨K2,Cb (ae2 h<|KJ (by have:=(jJ h<|E u w).len;lia)) (jV K3)<|jV K3⟩) (by simp;lia)
 rw[kf.mpr λd hd=>by obtain⟨u,w,rfl⟩:=lg.mp hd;exact XI h<|E u w] at c;refine(no _ (rq (b:=K0)<|kJ (o:=K2) c)).trans ?_;refine(no _ (acy (kJ (o:=K2)<|jO (abW _ _) (jE (b:=K2)<|jC (a:= .tup (L.map cD)) K3 (jV K3).r).r (jE K3).r)<|kJ (o:=K2)<|jO (Qb<|AL _) (jE (b:=K0)<|Cb f1 (jV K3)<|jV K3).r<|jR K3)).trans ?_;refine(il<|jD (i:=7) (δ1:=δ O (Aq<|Sr n g) (FU L) j e) (kn (δ1:=δ B (Aq<|Sr n g) (FU L) j e) (os:=[.slot 2,.slot 3]) (args:=[pS B b,pI n]) K3 K3 (MV 2) e6) (show 7<9 by decide)).trans ?_;have q:nG [jX 7,iB pd [hX 7]] (δ O (Aq<|Sr n g) (FU L) (eN t) e)=J4 ((.lst<|[t,bkF n t].map cD,K0),δ O (Aq<|Sr n g) (FU L) (eN t) e):=Fx (os:=[.val<|enc t,.val<|enc<|bkF n t]) (pW (iU K3)<|pW (iU<|Jm (AM s I)<|jV K3) K3) K3<|vg (by show 2<=10000;decide);refine(il<|(Aa (δ1:=δ T (Aq<|Sr n g) (FU L) (eN t) e)<|(Fw<|rq (b:=K0)<|kJ (o:=K2)<|Cb (XE H h hR) (jV K3)<|jE (b:=K2)<|jC (a:= .lst ((Sr n g).map cD)) (by rw[Bz,jf])<|jR K3).trans<|rq (b:=K0)<|kJ (o:=K2)<|(kn (os:=[.slot 2,.slot 3,.val (.lst<|[t,bkF n t].map cD,K0)]) (args:=[pS O b,pI n,(.lst<|[t,bkF n t].map cD,K2)]) (pW K3<|qM K3<|iU q) K3 (MV 2) e7).trans K3).trans K3).trans ?_;refine(il<|jD (i:=8) (δ1:=δ T (Aq<|Sr n g) (FU L) (eN t) e) (Jm (qK hd.1 hd.2.1.2 hd.2.2.2)<|jE (b:=K2)<|Cb e8 (jV K3)<|jV K3) (show 8<9 by decide)).trans ?_;refine(no _ (kJ (o:=K2)<|jO (by rw[Vi,jf,jf,Yq H h s I Y];simp) (jE (b:=K2)<|jC (Bz _)<|jR K3).r (jE (b:=K2)<|jC (Bz _)<|jR K3).r)).trans ?_
 have c:=aaR (K:=[]) (l:=L) (f:=iF mP Zq<|hX 0) (fi:=jB<|jX 6) (caps:=[8,7]) (pre:=[(.lst<|(Sr n ds).map cD,K0),enc t]) (δ:=δ T (Aq<|Sr n g) (FU L) (eN t)<|Aq<|Sr n ds) (λ_=>K2) K3 K3 (show([8]:List Nat).Nodup by decide) K3 (λu w=>by have P:=jJ h<|E u w;exact jO (by rw[rk,lh<|VO h s I Y<|E u w];rfl) (jE (b:=K2)<|Cb (vL (by lia) (D.Q2 P) s.len) (jE (b:=K2)<|Cb (vL (by lia) D P.len) (jE (b:=K2)<|Jm (AM s I)<|jV K3)<|jV K3)<|jV K3).r<|jR K3) (by lia) λ_=>rfl
 have an:Ha (.lst<|(L.map cD).map λd=> .bl ((λ_=>K2)<|IS d))=J4 (.bl K2,K2):=by rw[Hu λd=>K2];simp
 exact(no _ (kJ (o:=K2)<|jC an (jE c).r)).trans rfl
def YK(a:ig)(A:(Ls a)<=63): ∃o m,wo [(.lst<|a.map .int,C)]=Y ((.bl J,o),m):=by
 let n:Sl:=Y (.lst<|a.map .int,C)
 let N:Nat:=if 1<min (Ls a) 4 then min (Ls a) 4 else 1
 obtain⟨_,⟨p,b,c,f,l,g,i,j,_,rfl⟩,e⟩:=oh (tg:=ik 1) (fb:=VH) (λds δ=> ∃p b c f l g i j,(∀d∈ds,∃k:Nat,d= .int k)/\δ=[n,p,b,c,f,l,g,i,j]) (λd ds δ U=>by
  obtain⟨p,b,c,f,l,g,i,j,h1,h⟩:=U
  subst h;obtain⟨k,rfl⟩:=h1 d jc;obtain⟨s,t,u,v,w,y,z,e⟩:=Rc a k b c f l g i j
  exact⟨_,_,rfl,e,_,_,_,_,_,_,_,_,λx r=>h1 x<|ji _ r,rfl⟩) (jh 0 N) [n,I,I,I,I,I,I,I,I] ⟨I,I,I,I,I,I,I,I,λd hd=>by obtain⟨k,_,rfl⟩:=lg.mp hd;exact⟨k,by simp⟩,rfl⟩
 refine⟨C,_,kF (δ:=[n,p,b,c,f,l,g,i,j]) ⟨rfl,by decide,rfl⟩ ?_⟩;refine(il<|(lM (ds:=jh 0 N) (δ1:=[n,I,I,I,I,I,I,I,I]) ?_).trans e).trans (jF H);refine qy (o:= .val (.int N,C)) (iU ?_) H (by simp only[N];split<;>lia)
 have q:(N:Int)=if(if(4:Int)<(Ls a) then 4 else((Ls a):Int))>1 then(if(4:Int)<(Ls a) then 4 else((Ls a):Int)) else 1:=by simp only[N];split<;>split<;>split<;>lia
 rw[q];simp[n]
end PV
def K45.main(b:ig)(c:(Ls b)<=63): ∃o a,PV.wo [(.lst<|b.map .int,C)]=Y ((.bl J,o),a):=PV.YK b c
structure PySem.W.Fast:Prop where(tw2775186769464849882 tw18282753900399468496 tw11818985169104949363 tw7078580426815878876 tw3953479704187022773 tw6867425102141454329 tw15598219683563555880 tw8416068132429680613 tw3532728466341225594 tw15335861210997215873 tw10156657605382391871 tw16844961718015792485 tw14867222770988213145 tw7277208665270724883 tw13676492436905484460 tw17324690097110492614 tw9134912754293159984 tw15360882776084502940 tw10823778000951038749 tw11198851155520145125 tw8895271926520424149 tw9216784891280092898 tw11778803605214979689 tw55271149407515138 tw15439461140580441789 tw15154669624422351528 tw17923990307645642899 tw6561953025571486205 tw1719264832855410688 tw1796431082190722615 tw6885401638949281984 tw15257440393590338995 tw5427357573882056458 tw392800031972743911 tw9939715312615067248 tw13148392147568912351 tw11621855165204443427 tw1986670817136068680 tw17036525246708079700 tw2256618571270762399 tw6416560719122494996 tw9490146497174394922 tw3719551185358534279 tw312623704670766847 tw5263148529170133526 tw5369817812965593987 tw328969375036708499 tw2166511837783561714 tw15462490972473633625 tw17549644098559736088 tw14575328700104104253 tw4870386754369517216 tw4082056388865386864 tw10297607683950583915 tw10705952400184321248 tw2221151445998416613 tw7999006752424763337 tw17121600185950384247 tw15519349779556561056 tw16576693543616346567 tw14856153536810676101 tw5039764458545090749 tw5201922493837977127 tw9681112000001316006 tw18305970914416348187 tw13781270889396556537 tw12379388198906733381 tw5562942409328175471 tw13633733209296577677 tw7723495537068255525 tw2387037576983006133 tw2522957202502626168 tw16767110497162084688 tw7647489565968326408 tw4892258394404759384 tw930670889737031891 tw16906030142972707351 tw6525554351109190757 tw11322909936932046734 tw55670935098596274 tw720216247168532819 tw14358708206336441009 tw2120573227505931164 tw4892866185256569782 tw5073257589189555028 tw11098137307888993532 tw199441222799236867 tw2843125124190995900 tw7151056110336540432 tw10445490397894771974 tw3376826367442422558 tw9050338423019095669 tw4449435965211239263 tw4146004337323327532 tw11487290041347126219 tw11221825971116028215 tw375957335058299178 tw4950423383791874702 tw8828098868314085959 tw9058199765981558527 tw10555486056766192325 tw4095169945711391900 tw15313010670851631236 tw1530554184918826992 tw523624240350954020 tw16277158934601054803 tw9898990138044251066 tw6251252606085890913 tw13276214273584546490 tw17125086956765727306 tw8154560732380018742 tw7300537757113368096 tw3405349989976760054 tw10103567970351570714 tw9873446493224941391 tw14628038993431114878 tw8667304576630663557 tw17167708436579730676 tw12388915759472015490 tw15759939268223060571 tw4327859882725373753 tw16251731419196297528 tw17276525737588838837 tw6701792137752597938 tw12534186439469224909 tw11292131848375856804 tw18434245263783256806 tw16681631910256694621 tw16061553732541488500 tw7549254240483169336 tw16744178885900773213 tw12027470107615456096 tw5832262893114473986 tw13797733257153176484 tw15946770363195711402 tw5535409465999288330 tw8132098543242770828 tw7986058907267972684 tw17541486653018010131 tw14804970357478678483 tw6324398689537553262 tw15869742558876079585 tw9189180356571907921 tw73257165484552553 tw1517100345937412117 tw4582538085497253772 tw1139976051019783424 tw18384602861901599523 tw14970958425316664837 tw22209016333538024 tw10433970383361978127 tw3466686191316256718 tw6016574659741703751 tw18283315059310692537 tw13160089807347500923 tw7640316983288838715 tw7695871479723154605 tw16807328151430897174 tw16052009797214043188 tw1005387265714110859 tw11186307965155094988 tw17184511190126806801 tw6648485587975471693 tw9143759053679588834 tw17872135858570004639 tw7355024645638926977 tw6994594876936423367 tw10170976082099720965 tw1006427263618662704 tw8011114275406289934 tw255953104766018948 tw12809464323083870369 tw4824154091344327374 tw14462159080390708601 tw5998746787281014236 tw3040592201320160458 tw18162148894194357083 tw10224797690141419845 tw15466281091972368453 tw5265144092207005877 tw11612430738033859097 tw14755854047504683001 tw12718917237353339920 tw11932877595761716315 tw6444154554776287585 tw397824077457597583 tw16535929203128796533 tw7584676252333953517 tw8517260279588020797 tw9385491889305534675 tw2172691804277892824 tw16801138460525033920 tw9613872956385561670 tw5810035785023655452 tw5402332082721109306 tw2484437649879174190 tw15580606306861840280 tw17350847786038388549 tw17998943893805566245 tw10961509777413687596 tw17136428997224340445 tw13846504049068291321 tw10217985234356288014 tw8441212765256816782 tw1239134095530211335 tw9952924030244469911 tw2729439131154931807 tw9530767000439929863 tw4332167773954620140 tw912404771141976332 tw13107898557802088662 tw17555765119791648070 tw13136813288964874326 tw4776314874988047786 tw17299810690311346681 tw8133741754298406267 tw5359039337639060845 tw3341097980953508086 tw5328760799903419616 tw2517056563403962955 tw13562760094857946795 tw5416964519032219857 tw18166465460115711592 tw3273159567239705518 tw4304211334649905129 tw2220518403071344824 tw17658027384450510907 tw1468429261045723618 tw1316942267732246397 tw13055720015274491301 tw1446553916268360938 tw418627985535635348 tw13753223253349089250 tw12122383233085096131 tw11706350651850535358 tw7441304575684288914 tw2696320330908740810 tw6271406814138862480 tw5801532547985977911 tw4122783172701503140 tw15475709165221375440 tw16419450784632511578 tw11361911717923343803 tw18032605170472015132 tw11110829719268614348 tw3437356393795642067 tw17028609932308222297 tw15612463310300358386 tw10586825007887979848 tw5561851182188378006 tw3961918877764480886 tw18167212214654563364 tw17568134205402765572 tw16121300327373178261 tw12287063260358876254:True)
open PySem PySem.W PyProof.Rows PX
set_option maxRecDepth 100000 in
set_option maxHeartbeats 0 in
theorem PySem.Challenge.cw_twinriddles_k45_whole_spans_and_stays_holds : PySem.Challenge.rw_twinriddles_k45_whole_spans_and_stays.Holds := by
  w_on; o_law; k_head; (case hw => w_witness2)
  k_fill
  refine walkT (TB := K45.TB45) (l := PySem.Challenge.rw_twinriddles_k45_whole_spans_and_stays) (LV := 14) (x := "_law_script") ⟨rfl, by decide, by decide, rfl⟩ rfl rfl (fun w h Y => km_in_of Y) (fun w h Y => aC (km_tabs_of Y _ List.mem_cons_self) aN) (fun w => aC ?K aN) (by decide) ?F K45.main
  case K => show List.lookup 259 _ = none; kernel_rfl
  case F =>
   intro w mg fa h KX G hmg
   refine' K45.all_mk hmg (txK KX G ?_ ?_ ?_ ?_ ?_ ?_ ?_ ?_ ?_ ?_ ?_ ?_ ?_ ?_ ?_ ?_) ?_ ?_ ?_ ?_ ?_ ?_ ?_ ?_ ?_ ?_ ?_ ?_ ?_ ?_ ?_ ?_ ?_ ?_ ?_ ?_ ?_ ?_ ?_ ?_ ?_ ?_ ?_ ?_ ?_ ?_ (fzT KX G ?_ ?_ ?_ ?_ ?_) ?_ ?_ ?_ ?_ ?_ ?_ ?_ ?_ ?_ ?_ ?_ ?_ ?_ ?_ ?_ ?_ ?_ ?_ ?_ (mgI KX G ?_)<;>try first|refine' fz KX G ?_ ?_ ?_ ?_<;>try k_is|k_is|kernel_rfl
