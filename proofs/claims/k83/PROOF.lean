import PyProof.Rows.All
import Wide.All
import OpenK.AllK
import Wide.FinOn
import PyProof.EqAt
import PyProof.EqKinds
import PyProof.TupleCall
import Lean
import PySem.Challenge.RW_twinriddles_k83_alike_and_least_names
set_option Elab.async false
set_option linter.all false
set_option maxRecDepth 100000
set_option maxHeartbeats 8000000
set_option compiler.extract_closed false
set_option backward.eqns.nonrecursive false
noncomputable section
open List renaming length->A0
namespace RfL
theorem r{a:α}:a=a:=rfl
end RfL
open RfL renaming r->H,r->AU
open Option renaming some->J,some->A7,none->C,none->AX
open Bool renaming true->I,true->B8,false->Y,false->B6
open Array renaming length_toList->kF,getElem?_toList->ml,getElem?_eq_getElem->qh,getElem?_eq_some_iff->Lx,getD_eq_getD_getElem?->vX,getElem?_setIfInBounds->Dy,getElem?_eq_none->Dx,forIn_toList->Dv,append_assoc->Hj,getElem?_eq_none_iff->Wi,getElem?_replicate->L6,mem_toList_iff->Wq,toList_eq_nil_iff->Wo,toList_append->LG,toArray_toList->LF,toList_push->e8,replicate->fU,getD->f9,size_zip->sx,size_map->sB,toList->vu,ext->G0
open Bool renaming false_eq_true->jK,false_ne_true->ki,and_eq_true->lA,not_true->pz,or_eq_true->yo,not_false->Aj,eq_iff_iff->Gw,true_and->dw,false_and->ez,and_false->eC,not_eq_true'->fv,decide_and->fX,and_assoc->gi,and_self->gz,eq_false_iff->na,noConfusion->on,or_false->vb,false_or->vl,and_comm->vr,true_or->wv
open False renaming elim->aH
open ForInStep renaming yield->bx
open Function renaming comp_def->rK,comp->bo
open Int renaming toNat_natCast->tJ,mul_one->Aw,emod_lt_of_pos->GO,emod_nonneg->GN,neg_neg->Gg,mul_neg->Go
open LawfulBEq renaming eq_of_beq->vD
open LawfulMonad renaming bind_assoc->tP,pure_bind->A1
open List renaming map_cons->jU,mem_map->mw,getElem?_eq_getElem->jx,size_toArray->jy,mem_cons->kW,length_map->jM,map_map->jP,mem_cons_self->jY,mem_cons_of_mem->jZ,getElem?_eq_some_iff->uD,getElem?_map->kZ,all_eq_true->lY,length_cons->lh,mem_append->sQ,getD_eq_getElem?_getD->lW,not_mem_nil->mh,mem_of_getElem?->mS,length_append->mR,getElem?_set_ne->nK,pairwise_map->oD,getElem?_set_self->oX,lookup_cons->oV,pairwise_append->uC,append_assoc->qj,map_append->qg,map_congr_left->qf,mem_append_right->qQ,length_take->qP,getElem?_append_right->qN,mem_singleton->E7,pairwise_cons->E6,getElem?_append_left->sP,nodup_nil->sL,mem_range->yh,mem_filter->Cq,filterMap_cons->vF,length_set->vB,foldl_cons->vA,getElem?_of_mem->vp,zip_cons_cons->vh,length_nil->vf,map_id->qt,nodup_cons->yH,getElem?_replicate->rP,replicate_succ->rN,map_nil->rL,all_cons->tN,exists_cons_of_length_pos->tM,length_pos_iff->My,mem_map_of_mem->tL,nil_append->tK,getElem?_set->wq,any_cons->wo,take_append_drop->wj,mem_of_mem_take->we,append_nil->yD,take_sublist->yC,flatten_cons->yB,length_singleton->yA,getElem?_zip_eq_some->EZ,ext_getElem->yy,getElem_map->yx,drop_eq_getElem_cons->yw,pairwise_reverse->Hl,take_of_length_le->yu,find?_cons->yj,length_filter_le->yi,drop_eq_nil_of_le->As,ext_getElem?->Ar,range'_succ->Ao,reverse_perm->An,eq_nil_of_length_eq_zero->Am,mem_of_mem_drop->Al,length_eq_zero_iff->SJ,mem_flatMap->E8,mem_append_left->DY,getElem_inj->DX,of_mem_zip->DU,any_map->DN,perm_middle->P6,eq_nil_or_concat->DI,concat_eq_append->DH,pairwise_iff_getElem->P5,getElem_of_mem->DG,extract_eq_take_drop->DF,take_succ->DE,getElem?_cons_succ->Dz,length_eraseIdx->Dt,nodup_append->Gp,filter_map->Dp,filter_cons_of_pos->Dm,filter_cons_of_neg->Dl,foldl_append->G5,drop_sublist->GW,mem_erase_of_ne->GL,getElem_mem->GD,take_length->GC,filter_eq_self->Wh,flatMap_cons->Gu,getElem?_take_of_lt->Mt,length_replicate->Mr,eraseIdxIfInBounds_toArray->Mh,length_dropLast->Mf,getElem?_zipIdx->Me,length_reverse->Mb,pairwise_singleton->Ma,perm_append_comm->SH,pairwise_lt_range->Wr,filterMap_append->L8,perm_append_singleton->L7,dropLast_eq_take->LD,perm_cons_erase->LB,dropLast_concat_getLast->LA,perm_ext_iff_of_nodup->Lz,replicate->ac,range->au,range'->bv,mem_filterMap->c7,length->de,mem_reverse->dE,length_drop->dF,isEmpty_nil->dH,getElem?_cons_zero->dI,cons_append->dL,range_succ_eq_map->dX,forIn_cons->el,replicate_zero->eO,map_take->eV,getElem?_drop->eW,foldl->eY,Nodup->e6,all_map->fq,take_take->gf,map->gg,getLastD_eq_getLast?->gr,eraseIdx_cons_succ->gO,getElem?_toArray->hL,getElem?_eq_none->hU,zip_nil_right->kw,map_singleton->kA,filter_append->kS,filterMap_map->k6,length_range->m6,filter_congr->m8,zipIdx_cons->nP,map_fst_zip->n7,set_append->ss,forIn_nil->te,drop_zero->th,map_drop->u9,map_id'->wr
open List.Pairwise renaming nil->cK,sublist->z8,map->z9,imp_of_mem->At,imp->AC,and->AT
open List.Perm renaming refl->wa,of_eq->Gv,eq_of_pairwise->L9,append_left->L5,trans->io,swap->i5,cons->i7
open List.cons renaming inj->wd,injEq->dh
open Nat renaming le_refl->kc,ne_of_lt->jH,zero_le->lX,le_trans->mT,lt_of_lt_of_le->nM,ne_of_gt->pD,lt_irrefl->qR,lt_succ_of_lt->vq,lt_succ_self->rH,pow_succ->rC,mul_assoc->rB,le_of_lt->tU,not_lt->P7,min_eq_left->wg,mul_add->vZ,mul_comm->vY,add_assoc->yt,mul_one->yn,mod_lt->ym,le_succ->DQ,lt_trans->DP,mul_left_comm->DC,pow_le_pow_right->DA,lt_asymm->G7,add_sub_cancel_left->GX,add_mul->GR,one_mul->GQ,mul_zero->GP,lt_of_le_of_lt->Gy,zero_add->ek,add_zero->hH,sub_add_cancel->mL,lt_or_eq_of_le->mN,add_sub_cancel->m4,le_succ_of_le->nF,min_le_right->sa,le_of_not_lt->sm,two_pow_pos->s8,mul_add_mod->ta,div_add_mod->tc,sub_zero->y8,lt_or_ge->zn,le_of_eq->zx,add_comm->z7,add_mod->Gc
open Ne renaming symm->nL
open Option renaming bind_some->jJ,isSome_iff_exists->Kb,isSome_map->GB,isSome_some->eM,map_eq_some_iff->gy,getD_some->kl,getD_none->kv,map->wn
open Option.some renaming inj->kL
open Or renaming inl->bf,inr->bh
open Ordering renaming swap->fV
open Prod.mk renaming inj->rJ
open PyProof.Rows renaming SortSt->tD,listUpdate_at->wc,slot_tuple_getitem->BR,get?_update_seq->yp,seqEpoch_at->Ak,boot_range->DW,callWith_type1->DV,listItems_at->GV,entry_tuple_getitem->Mn,subscriptTail_builtinR->Mm,envOfC->aR,seqObj->bc,IntsAre->dQ,AllBare->dW,Keyed->eK,arrOf->fQ,failedOf->f8,SortKind->ro,IsTup->r9,args_tuple_getitem->u8,wpAny_notIn_heap->y6,lt_int->EQ,le_int->Fa,gt_int->Fk,ge_int->FM,entry_list_sort->F0,callWith_builtin1->ab0,slot_list_sort->MB,slicePart_none->M0,oneType'->M2,keyLt'->No,tupleItemsOf_->Tk,subscriptTail->Tl,reverseSlice'->TD,tuples'->X0,plain_sorted->YP,isTrue_plain->ZB
open PyProof.Rows.F renaming plain_set_update_loop->GG,entry_set_update_loop->LU
open PyProof.Rows.IsTup renaming new->DR
open PySem renaming Shared->iJ,Program->ja,Around->iY,World->iW,SetTable->mQ,Value->iN,Comprehension->pk,FuncData->mI,Heap->iX,Addr->iE,wpAny_bind->iF,wpAny_pure->iP,sizeLine_eq->jQ,wpAny_holding->mn,wpAny_newObj_type->nr,codeAny_builtin->ou,wpAny_mono->oW,plainId_quiet->qi,mem_of_lookup->qO,wpAny_call_entry->qM,wpAny_of_eq->qJ,wpAny_seqItems->sN,wpAny_typeOf->tH,codeAny_mono->vE,wpAny_rule->vt,wpAny_setState_of->vg,wpAny_field->rO,call_meets->rM,wpAny_attempt->rE,wpAny_truthy_bool->tR,wpAny_callSpecial?_slot->tQ,wpAny_passesOwn->wu,wpAny_Call_Name_kw->wt,wpAny_setField->wm,wpAny_letGo->wk,wpAny_updateSeq->vW,wpAny_standAt->yG,wpAny_load->yF,wpAny_pyIter_list->yE,wpAny_askSetting->yz,wpAny_isInstance->yv,wpAny_forIn_list->yq,wpAny_specialOf->yk,wpAny_execs_nil->Ax,wpAny_call->Av,codeAny_of_tree->Au,wpAny_setField_rec->Aq,wpAny_onRaise->Ap,tupleKind_room_in1->Ai,wpAny_tryCatch->Ag,concat_meets->DS,wpAny_runValue->DL,wpAny_newList->DD,wpAny_isSame_ref_self->Dw,isSubtype_type->Du,wpAny_typeNameOfWhole_keyiter->Dq,wpAny_pyHash_int->Hk,wpAny_pyIter_tuple->Hh,noFill_tuple_add->He,seq_tuple_add->Hd,seqIndex_of->G9,seqIndex_neg->G8,wpAny_comprehension_free->G6,wpAny_handled->G4,wpAny_throw->G3,wpAny_newTuple->G2,isSubtype_stop->GZ,wpAny_collect_seq->GS,typeLookup_type->GK,builtinLookup_eq_fast->GJ,wpAny_pyIter_slot->GI,wpAny_setEntries_of->GH,codeAny_call_builtin->GF,wpAny_dictEntries->GA,wpAny_dictEpoch->Gz,wpAny_storeName_local->Mw,codeAny_call_function->Mq,wpAny_newFunctionEnv_cells->Mp,wpAny_updateSeq_pair->Mc,codeAny_extend_loopS->LW,wpAny_notOrdered_dict->LO,wpAny_isOneOf_keyiter->LK,starEach->ag,wpAny->ah,model->ai,mainGlobals->aj,compareOp->av,Str->aw,foldedSetIterable->ax,bootBuiltins->aA,eval->aM,backTo->aQ,cLine->aS,assignEach->aU,cellsFrom->be,Stmt->bn,sysModules->bp,Pos->bu,binaryOp->bw,Builtin->bz,holding->bB,swapsWith->bJ,ofAClassStatement->bM,attributeBase->bN,codeAny->bP,clausesOf->b5,pyNext->b6,tupleKind->ca,standAt->cb,Arguments->cc,IsPair->ce,assign->cg,firstArgMember->cF,Keyword->cG,CmpOp->cO,rawInt->cP,behindInMarks->cW,sliceBounds->c3,hashByValue->c4,NameKind->c5,Env->df,pyIter->dD,keywordEach->dM,argBest->dN,Sem->ei,IsPart->ej,codeAmong->en,GenState->et,DictEntry->ew,Obj->eE,letOwnedTupleGo->eG,IsZip->eI,bindArgs->e7,updateSeq->e9,getItem->fe,PassesOwn->fg,swapsWithSole->fA,swappedStores->fF,collect->fZ,callerA->f3,backToKw->f4,BindsTo->f5,seqItems?->gj,pickOrder->gm,checkBuiltinCall->gn,Model->gx,valueAt->gU,newFunctionEnv->gY,builtinsNs->gZ,atKey->g7,Result->hG,comprehension->ip,scanBound->i9,noteFrame->jp,list_append->j1,compStart->j2,bindL->j3,bindC->j4,TriplesOk->j5,typeOf->k9,truthy->lf,setItem->li,relabel->lm,preSum->lw,newList->lS,newExc->l6,intKind->me,ItemsOf->mA,unsupported->oC,slotArgs->o3,entryFor->o8,compTurn->pc,ZipApart->pp,Moved->pw,wpAny_Name->tp,typeLookup->tv,typeIs_int->tz,setsByText->t0,setAdd->t5,isInstance->t7,getattributeRaised->ul,entryOfKey->ut,defaultsOf->uu,closureFor->u3,wpAny_storeSet_of->vw,wpAny_sequenceKey->v5,slot_list_getitem->v6,searchCouldBeSeen->v7,eqIsQuiet_byValue->v9,Tok->wl,wpAny_pyIter_zip->ww,wpAny_execs_cons->wE,seqIndex?->wP,eqIsQuiet->wS,call->wT,wpAny_loadPart'->A2,theWindowsPlace->BB,size_of_entries->B1,pushCells_keeps->B2,getAttrByItsOwn->B4,Fin->Ch,wpAny_notIn_of->G1,wpAny_fieldsOf->Ix,wpAny_Expr_any->IN,table->IP,raiseNew->IR,newTuple->IX,getAttr?->I0,fitsIndex_both->I8,entryFor_alias->J4,compPost->KE,cellOf->K2,callType_codes->Ls,boundAndCalled->L3,argsOk->Ms,wpAny_notedAt->NE,wpAny_in_heap->Op,setSearchFrom->OO,rangeSize_one->O0,intBits_le_64->O1,evalPart_none->O4,call_list_seq->O8,unaryOp->TW,splitId->T2,spliced->Uf,setAddHashed->UF,release->UV,name_of_addr->V0,leaving->Wp,dictSet->WF,codeAny_func->WP,call_range_2->W1,IsRange->XV
open PySem.Around renaming under_plainId->pB,frames_deeper->Mu
open PySem.Builtin.Dict renaming updateFrom->fy,showsAll->fS,selfAndRest->abv,pairItems->Db,dictSlotNone->Do,addKeywords->Ev
open PySem.Builtin.Frozenset renaming updateFrom->px,slot0->pC,sizeOf->p0,newClass->qs,addrOf->rc
open PySem.Builtin.List renaming listExtendWith->bO,listTooLong->bT,listSameRef->b3,listLengthHint->eU,listFitsIndex->abw
open PySem.Builtin.Range renaming rangeSize->fk,small->y4
open PySem.Builtin.Slice renaming slicePlaces->bQ,sliceAdjust->cI,sliceApplied->eT,slicePartIndex->x0,sliceFields->x6
open PySem.Builtin.SmallTypes renaming nextOf->aK,ownedTupleHandOut->c6,ownedTupleIsFree->c9
open PySem.Builtin.Tuple renaming tupleHashOf->aY,tupleExact->bb,tupleItemsOf->cx,tupleIsExact->eS,tupleCompareSizes->xz
open PySem.Calls renaming spliced_nil->Hg,spliced_cons->Hf,Name_function_global->Mv,callWith_builtin->Ml,evalArgs_plain->Mk
open PySem.Data renaming cell->gJ,fields->w9,seq->Td
open PySem.F renaming called_set->Mx,plain_min_loop->vV,slot_tuple_hash->Iy,slot_dict_keyiterator_next->Cr,plainAttrs_list->Ah,plain_list_iadd->Ds,slot_tuple_add->Hc,entry_tuple_add->Hb,args_tuple_add_2->Ha,called_tuple->Qc,slot_list_getattribute->Qb,entry_min_loop->Gx,entry_list_append->Mj,args_list_append_2->Mi,slot_tuple_iterator_next->Md,slot_set_iter->L4,entry_proto_collect->L0,plain_proto_collect->LZ,entry_list_iadd->LY,plain_extend_loop->LX,plain_set_new->LQ,slot_dict_iter->LP,entry_dict_keyiterator_next->LN,args_dict_keyiterator_next_1->LM,slot_list_pop->LJ,type_list_pop->LH,attr_TypeError->Wn
open PySem.Heap renaming get?_push_of_some->jT,lt_size->jW,get?_push_size->kh,size_push->qK,get?_update_self->sO,get?_update_other->vC,get?_update_ne->GU,SameBut->aP,ExtBut->fR
open PySem.Heap.SameBut renaming update->sM,refl->DO
open PySem.Moved renaming trans->Dr,refl->w6
open PySem.NameKind renaming free->aG,cell->cu
open PySem.Obj renaming data_mapFields->vn,isFreed_of_fields->DK,cls_mapFields->DJ,mapSeq->aF,mapFields->gD,putSet->mu
open PySem.Paired renaming length->tV
open PySem.SeqAt.EqAt renaming str_int->gv,int_str->gw,same->gV,bool_bool->im,str_str->aeF,str_none->Ps,str_bool->PP,none_str->ae4,none_int->ae5,none_bool->Q1,int_none->Q2,int_int->R1,int_bool->Sc,bool_str->Sr,bool_none->SI,bool_int->SS
open PySem.SetTable renaming below->am,insertAt->aB,runEnd->aE,bits->aJ,turns->bS,leap->cq,Probe->cN,sizeAbove->ey,grown->fL,layClean->hD,tooFull->il,fresh->ka,slot->mj,laid->mm,fits->mo,fill->ms,put->nf
open PySem.SetTable.layClean renaming free->bA
open PySem.SetTable.probe renaming go->dP
open PySem.Shared renaming TypeIs->eD
open PySem.Str renaming ofString->bD
open PySem.Value renaming none->ap,ref->aX,type->bi,builtin->cA,bool->eR,int->gu,str->mi,isStrOf->sK,isInt->wf
open PySem.W renaming Frag->jb,mg_none_of->oU,kia_one->rG,kia_tup->rF,cellsFrom_some->DT,nsIn->aO,keepIn->bG,fnOf->b4,kitOne->cR,kitAny->d1,codeIn->eh,methodObj->eQ,kitx_tuple->g9,kitx_none->hX,kitx_list->hZ,kitx_dict->ia,kitx_bool->ib,kitx_str->iq,kitx_set->ir,kitx_int->iz,mg_of->nb
open PySem.Walks renaming list->DM
open StateT renaming run_pure->GY
open Sum renaming inl->cJ,inr->fx
open True renaming intro->bg
open PySem PySem.Spec PyProof.Rows
section
abbrev jt:=iN->Shared->Prop
abbrev ju:=List<|iE×eE
abbrev jo:=List<|List Int
abbrev iR:=List Int
abbrev jF:=List iN
abbrev ly:=aw->Option iN
abbrev kb:=List Nat
abbrev Qa:=Nat->Nat->Bool
abbrev uY:=Array<|Int×iN
abbrev lI:=Array iN
abbrev jh:=List aw
abbrev kD:=List Expr
abbrev tE:=Bool->Shared->Prop
abbrev Iw:=Option iN->Shared->Prop
abbrev zf:=iN->iN->ei iN
abbrev wQ:=Array<|Option Nat
abbrev ze:=Array<|Option iN
abbrev kT:=List<|aw×iE
abbrev qI:=List pk
abbrev Cp:=Array eK
abbrev kK:=Nat->Prop
abbrev kB:=List iE
abbrev jG:=Scope
abbrev iK:=Expr
end
section
open PySem.SeqAt
theorem iQ:type_of% @if_pos:=@if_pos
theorem jc:type_of% @if_neg:=@if_neg
theorem jX:type_of% @if_false:=@if_false
theorem kE:type_of% @if_true:=@if_true
def lj:=@decide_eq_false
theorem mJ:type_of% @decide_eq_true:=@decide_eq_true
theorem nq:type_of% @or_false:=@or_false
def ox:=@congrArg
theorem pA:type_of% @not_or:=@not_or
theorem vz:type_of% @bne_self_eq_false:=@bne_self_eq_false
theorem vo:type_of% @decide_eq_true_eq:=@decide_eq_true_eq
theorem wR:type_of% @beq_eq_false_iff_ne:=@beq_eq_false_iff_ne
theorem Gq:type_of% @beq_iff_eq:=@beq_iff_eq
end
def FL{T:Prop}(h: ∀G:Prop,(T->G)->G):T:=h T id
namespace TT
noncomputable def M4(mask:Nat)(p:cN):SetTable.Probe:=
 if p.more>0 then {p with j:=p.j+1,more:=p.more-1} else
 {p with j:=(cq mask p.i p.perturb).1,more:=aE mask (cq mask p.i p.perturb).1-(cq mask p.i p.perturb).1,i:=(cq mask p.i p.perturb).1,perturb:=(cq mask p.i p.perturb).2}
noncomputable def BH(mask:Nat)(h:Int):SetTable.Probe:={j:=aJ h%(mask+1),more:=aE mask (aJ h%(mask+1))-aJ h%(mask+1),i:=aJ h%(mask+1),perturb:=aJ h,dummy:=C}
noncomputable def pr(mask:Nat)(h:Int):Nat->cN
 |0=>BH mask h
 |n+1=>M4 mask<|pr mask h n
structure D4(hs:iR)(t:mQ):Prop where
 pow: ∃k,3<=k/\k<=11/\t.mask+1=2^k
 dum:t.dummies= #[]
 len:t.place.size=A0 hs
 room:5*(A0 hs)<3*t.mask
 ris:t.place.toList.Pairwise (· < ·)
 bd: ∀j∈t.place.toList,j<=t.mask
 road: ∀(i:Nat) (h:Int) (j:Nat),hs[i]?=A7 h->t.place[i]?=A7 j-> ∃n,(pr t.mask h n).j=j/\ ∀m,m<n->(pr t.mask h m).j∈t.place.toList
end TT
namespace L2
abbrev Key:=Sum Int aw
noncomputable def Be:Key->iN->Bool
 | .inl k,v=>wf k v
 | .inr x,v=>sK x v
noncomputable def aaq(w:iW):Key->Int
 | .inl k=>hashInt k
 | .inr x=>hashStr w x
def kX: ∀{k:Key} {v:iN},Be k v=I->(∃i t,k=cJ i/\v=gu i t)\/(∃x t,k=fx x/\v=mi x t)
 | .inl i,v,h=>by obtain⟨t,e⟩:=Value.isInt_shape (k:=i) (v:=v) h;exact .inl ⟨i,t,rfl,e⟩
 | .inr x,v,h=>by obtain⟨t,e⟩:=Value.isStrOf_shape (x:=x) (v:=v) h;exact .inr ⟨x,t,rfl,e⟩
def acQ(i:Int)(t:wl):Be (.inl i) (.int i t)=I:=by simp[Be,wf]
def acP(x:aw)(t:wl):Be (.inr x) (.str x t)=I:=by simp[Be,sK]
def OB(a b:Int):decide ((cJ a:Key)=cJ b)=(a==b):=by
 by_cases e:a=b
 .subst e;simp
 .have h: ¬(cJ a:Key)=cJ b:=λq=>e<|Sum.inl.inj q;rw[lj h];exact(wR.mpr e).symm
def Ov(a b:aw):decide ((fx a:Key)=fx b)=decide (a=b):=by
 by_cases e:a=b
 .subst e;simp
 .have h: ¬(fx a:Key)=fx b:=λq=>e<|Sum.inr.inj q;rw[lj h,lj e]
def OA(a:Int)(b:aw):decide ((cJ a:Key)=fx b)=Y:=lj (λq=>nomatch q)
def Ox(a:aw)(b:Int):decide ((fx a:Key)=cJ b)=Y:=lj (λq=>nomatch q)
noncomputable def kJ(d:ja)(w:iW):PySem.KeyKind d w Key where
 is:=Be
 hash:=aaq w
 inj:=λv a b g f=>by
  rcases kX g with⟨i,t,rfl,rfl⟩|⟨x,t,rfl,rfl⟩
  .rcases kX f with⟨j,u,rfl,e⟩|⟨y,u,rfl,e⟩
   .injection e with c _;rw[c]
   .exact nomatch e
  .rcases kX f with⟨j,u,rfl,e⟩|⟨y,u,rfl,e⟩
   .exact nomatch e
   .injection e with c _;rw[c]
 byValue:=λk v h=>by rcases kX h with⟨i,t,rfl,rfl⟩|⟨x,t,rfl,rfl⟩<;>rfl
 pyHash:=λhv h=>by
  rcases kX hv with⟨i,t,rfl,rfl⟩|⟨x,t,rfl,rfl⟩
  .exact Hk h
  .exact wpAny_pyHash_str h
 eqBool:=λl hv h=>by
  rcases kX l with⟨i,t,rfl,rfl⟩|⟨x,t,rfl,rfl⟩
  .rcases kX hv with⟨j,u,rfl,rfl⟩|⟨y,u,rfl,rfl⟩
   .rw[OB] at h;exact wpAny_eqBool_int h
   .rw[OA] at h;exact gw i t y u _ _ _ _ h
  .rcases kX hv with⟨j,u,rfl,rfl⟩|⟨y,u,rfl,rfl⟩
   .rw[Ox] at h;exact gv x t j u _ _ _ _ h
   .rw[Ov] at h;exact wpAny_eqBool_str h
 «strs»:=λk x t v h=>by
  rcases kX h with⟨i,u,rfl,e⟩|⟨y,u,rfl,e⟩
  .exact nomatch e
  .injection e with c _
   subst c;cases v<;>rfl
def ab5(a:ja)(w:iW)(i:Int)(t:wl):(kJ a w).is (.inl i) (.int i t)=I:=acQ i t
def ab4(a:ja)(w:iW)(x:aw)(t:wl):(kJ a w).is (.inr x) (.str x t)=I:=acP x t
inductive V where
 |B7|bl(b:Bool)|int(i:Int)|str(x:aw)|byt(b:Array UInt8)|flt(b:UInt64)|ref(a:iE)|ty(n:String)
 deriving DecidableEq
def RelV:V->iN->Prop
 | .B7,u=>u=ap
 | .bl b,u=>u=eR b
 | .int i,u=> ∃t,u=gu i t
 | .str x,u=> ∃t,u=mi x t
 | .byt b,u=> ∃t,u=Value.bytes b t
 | .flt b,u=> ∃t,u=Value.float b t
 | .ref a,u=>u=aX a
 | .ty n,u=>u=bi n
abbrev Vals:List V->List iN->Prop:=Paired RelV
def Vals.length{xs:List V}{us:jF}(r:Vals xs us):(A0 xs)=(A0 us):=tV r
def Vals.get{xs:List V}{a:jF}{i:Nat}{x:V}(h:Vals xs a)(e:xs[i]?=J x): ∃u,a[i]?=J u/\RelV x u:=by
 induction h generalizing i with
 |nil=>simp at e
 |cons r t b=>
  cases i with
  |zero=>simp at e;subst e;exact⟨_,rfl,r⟩
  |succ i=>simpa using b (by simpa using e)
theorem Vals.set{x:V}{u:iN}(r:RelV x u): ∀{xs:List V} {us:jF} (i:Nat),Vals xs us->Vals (xs.set i x) (us.set i u)
 |_,_,_,.nil=> .nil
 |_,_,0,.cons _ t=> .cons r t
 |_,_,i+1,.cons q t=> .cons q (Vals.set r i t)
def Vals.append{c d:List V}{a b:jF}(h:Vals c a)(s:Vals d b):Vals (c++d) (a++b):=by
 induction h with
 |nil=>exact s
 |cons r t e=>exact .cons r e
theorem Vals.take: ∀{xs:List V} {a:jF} (n:Nat),Vals xs a->Vals (xs.take n) (a.take n)
 |_,_,0,_=> .nil
 |_,_,_+1,.nil=> .nil
 |_,_,n+1,.cons r t=> .cons r (Vals.take n t)
theorem Vals.drop: ∀{a:List V} {us:jF} (n:Nat),Vals a us->Vals (a.drop n) (us.drop n)
 |_,_,0,r=>r
 |_,_,_+1,.nil=> .nil
 |_,_,n+1,.cons _ t=>Vals.drop n t
def Kx:Option V->Option iN->Prop
 |some v,J u=>RelV v u
 |none,C=>True
 |_,_=>False
def KV{a:Type}:List (a×V)->List (a×iN)->Prop:=Paired λ(p:a×V) (q:a×iN)=>p.1=q.1/\RelV p.2 q.2
noncomputable def kV:Key->V
 | .inl i=> .int i
 | .inr x=> .str x
inductive HO where
 /-- a list -/
 |lst(xs:List V)
 /-- a tuple(never changes) -/
 |tup(xs:List V)
 /-- a dict whose keys are ints and texts;one whose keys are tuples of ints and texts(the empty one is both) -/
 |dK(kvs:List (Key×V))|dT(kvs:List (List Key×V))
 /-- a set of ints:its members,its size -/
 |set (S:Int->Bool) (n:Nat)
 |BH (zs:List (Int×V))
 /-- an instance of the class at C,its dict at dx,its attributes -/
 |ins (C dx:iE) (fs:List (aw×V))
 /-- the dict of the instance at x -/
 |own (x:iE)
 /-- the dict of an exception -/
 |xd (fs:List (aw×V))
 /-- a bound method,f of x -/
 |met (f x:iE)
 /-- a range object lo,lo+1,.. below hi -/
 |rng (lo hi:Int)
 /-- a thing that is known to the object (the script;a dict while a loop walks it):read,never written while it is so -/
 |EG (o:eE) (u:HO)
 /-- a code object's IP -/
 |tbl (ps:lI)
 /-- any other thing,by what is B8 of its one object (a def of one's own:SetO a S n:=HO.ext λh=> ..) -/
 |ext (φ:iX->Prop)
abbrev Hp:=iE->Option HO
noncomputable def upd(U:Hp)(a:iE)(o:HO):Hp:=λb=>if b=a then J o else U b
def jl{U:Hp}{a:iE}{o:HO}:upd U a o a=J o:=by unfold upd;rw[iQ H]
def ji{U:Hp}{a b:iE}{o:HO}(h:b≠a):upd U a o b=U b:=by unfold upd;rw[jc h]
def IH{U:Hp}{a:iE}{o u:HO}:upd (upd U a o) a u=upd U a u:=by funext b;unfold upd;split<;>rfl
def Tb{U:Hp}{a b:iE}{o u:HO}(h:U a=J o)(c:U b=J u)(d:o≠u):a≠b:=by intro e;subst e;rw[h] at c;exact d<|kL c
def la{U:Hp}{a b:iE}{o:HO}(h:U a=J o)(c:U b=C):a≠b:=by intro e;subst e;rw[h] at c;cases c
section
variable(P:ja)(w:iW)
def B9(U:Hp)(h:iX)(a:iE):HO->Prop
 | .lst g=>A0 g<=sizeLine/\ ∃(b:jF) (n:Nat),Vals g b/\h.get? a=J {cls:= .type "list",data:= .seq b.toArray n}
 | .tup g=>A0 g<=sizeLine/\ ∃b:List iN,Vals g b/\r9 h a b.toArray
 | .dK d=>A0 d<=sizeLine/\(a==bp)=Y/\ ∃k,KV d k/\h.DictOf (kJ P w) a k
 | .dT d=>A0 d<=sizeLine/\(a==bp)=Y/\ ∃g:List (List Key×iE×iN),
   Paired (λ(p:List Key×V) (q:List Key×iE×iN)=>p.1=q.1/\U q.2.1=J (.tup<|p.1.map kV)/\RelV p.2 q.2.2) d g/\
   ∃o j T,h.get? a=J o/\o.ExactDict/\o.data= .dict j T/\j.toList=g.map (ut<|ca<|kJ P w)/\(g.map (·.1)).Nodup
 | .set S n=>h.SetOf (me P w) a S n
 | .BH E=> ∃(j:uY) (n:Nat) (t:mQ),h.get? a=J {cls:= .type "set",data:= .set j n t}/\Paired (λ(z:Int×V) (e:Int×iN)=>z.1=e.1/\RelV z.2 e.2) E j.toList/\
   TT.D4 (E.map (·.1)) t/\t.plain=I/\t.led=!w.params.followText "set-order"
 | .ins Q l fs=>U l=J (.own a)/\(A0 fs)<=1000/\l≠a/\h.get? a=J (PySem.W.instObj Q l)/\
   ∃i,h.Ns1 l i/\(∀f,Kx (fs.lookup f)<|i f)/\PySem.Within i (fs.map (·.1))
 | .own _=> ∃o,h.get? a=J o
 | .xd fs=> ∃i,h.Ns1 a i/\ ∀f,Kx (fs.lookup f)<|i f
 | .rng lo L=> ∃t u v,h.get? a=J {cls:= .type "range",data:= .fields #[.int lo t,.int L u,.int 1 v]}
 | .EG o u=>h.get? a=J o/\B9 U h a u
 | .tbl O=> ∃q t r,O[0]?=J (.str q t)/\h.get? a=J {cls:= .none,data:= .fields r}/\j5 r.toList/\ ∀m y,en m r.toList=J y-> ∃c B u k t,y= .ref c/\U c=J (.EG B u)/\B.data= .fields k/\k[1]?=J (.str q t)
 | .met f x=>h.get? a=J (eQ (.ref f)<|.ref x)
 | .ext s=>s h/\(∃o,h.get? a=J o)/\ ∀h1 A:iX,s h1->(∀o,h1.get? a=J o->A.get? a=J o)->s A
def Ft(U:Hp)(h:iX):Prop:= ∀a o,U a=J o->B9 P w U h a o
end
section
variable {P:ja}{w:iW}{H g:Hp}{h h':iX}{a:iE}{o:HO}
def B9.lt(x:B9 P w H h a o):a<h.objs.size:=by
 cases o with
 |lst c=>obtain⟨_,_,_,_,e⟩:=x;exact jW e
 |tup c=>obtain⟨_,_,_,p⟩:=x;exact p.lt
 |dK b=>obtain⟨_,_,_,_,o,_,_,e,_⟩:=x;exact jW e
 |dT b=>obtain⟨_,_,_,_,o,_,_,e,_⟩:=x;exact jW e
 |set S n=>obtain⟨o,_,_,_,e,_⟩:=x;exact jW e
 |BH l=>obtain⟨_,_,_,e,_⟩:=x;exact jW e
 |ins U d fs=>obtain⟨_,_,_,e,_⟩:=x;exact jW e
 |own y=>obtain⟨_,e⟩:=x;exact jW e
 |xd fs=>obtain⟨_,⟨_,_,_,e,_⟩,_⟩:=x;exact jW e
 |rng lo i=>obtain⟨_,_,_,e⟩:=x;exact jW e
 |EG j u=>obtain⟨e,_⟩:=x;exact jW e
 |tbl k=>obtain⟨_,_,_,_,e,_⟩:=x;exact jW e
 |met f y=>exact jW (show h.get? a=J _ from x)
 |ext m=>obtain⟨_,⟨_,e⟩,_⟩:=x;exact jW e
def Paired.OG{e i:Type}{F G:e->i->Prop}{c:List e}{d:List i}(h:Paired F c d)(f: ∀a b,F a b->G a b):Paired G c d:=by
 induction h with
 |nil=>exact .nil
 |cons r t j=>exact .cons (f _ _ r) j
def B9.Ca(x:B9 P w H h a o)(k: ∀b u,(b=a\/H b=J (.own a))->h.get? b=J u->h'.get? b=J u)
  (N: ∀b,H b=J (.own a)->g b=J (.own a))(U: ∀b A,H b=J (.tup A)->g b=J (.tup A))(Y: ∀b i u,H b=J (.EG i u)->g b=J (.EG i u):=by exact λ_ _ _ q=>q):B9 P w g h' a o:=by
 induction o with
 |lst A=>obtain⟨z,s,n,r,e⟩:=x;exact⟨z,s,n,r,k _ _ (.inl AU) e⟩
 |tup A=>obtain⟨z,s,r,i,e,c⟩:=x;exact⟨z,s,r,i,k _ _ (.inl AU) e,c⟩
 |dK B=>obtain⟨z,y,O,r,i,j,l,e,c⟩:=x;exact⟨z,y,O,r,i,j,l,k _ _ (.inl AU) e,c⟩
 |dT B=>obtain⟨z,y,A,r,i,j,l,e,c⟩:=x;exact⟨z,y,A,Paired.OG r λp q z=>⟨z.1,U _ _ z.2.1,z.2.2⟩,i,j,l,k _ _ (.inl AU) e,c⟩
 |set S n=>obtain⟨i,j,l,t,e,c⟩:=x;exact⟨i,j,l,t,k _ _ (.inl AU) e,c⟩
 |BH zs=>obtain⟨j,n,t,e,c⟩:=x;exact⟨j,n,t,k _ _ (.inl AU) e,c⟩
 |ins C' dx fs=>obtain⟨d,z,ne,e,E,⟨I,j,l,G,c⟩,r⟩:=x;exact⟨N _ d,z,ne,k _ _ (.inl AU) e,E,⟨I,j,l,k _ _ (.inr d) G,c⟩,r⟩
 |own y=>obtain⟨i,e⟩:=x;exact⟨i,k _ _ (.inl AU) e⟩
 |xd fs=>obtain⟨E,⟨I,j,l,e,c⟩,r⟩:=x;exact⟨E,⟨I,j,l,k _ _ (.inl AU) e,c⟩,r⟩
 |rng lo hi=>obtain⟨t,u,v,e⟩:=x;exact⟨t,u,v,k _ _ (.inl AU) e⟩
 |EG i u ih=>obtain⟨e,q⟩:=x;exact⟨k _ _ (.inl AU) e,ih q⟩
 |tbl ps=>obtain⟨q,t,D,T,e,F,m⟩:=x;exact⟨q,t,D,T,k _ _ (.inl AU) e,F,λL Q z=>let⟨c,i,u,O,t,h1,J',M⟩:=m L Q z;⟨c,i,u,O,t,h1,Y _ _ _ J',M⟩⟩
 |met f y=>have e:h.get? a=J (eQ (.ref f)<|.ref y):=x;show h'.get? a=J (eQ (.ref f)<|.ref y);exact k a _ (.inl AU) e
 |ext φ=>obtain⟨p,⟨o,e⟩,st⟩:=x;exact⟨st _ _ p λo q=>k _ _ (.inl AU) q,⟨o,k _ _ (.inl AU) e⟩,st⟩
def Ft.lt(x:Ft P w H h)(e:H a=J o):a<h.objs.size:=(x a o e).lt
def Ft.fresh(x:Ft P w H h)(e:h.objs.size<=a):H a=C:=by
 cases q:H a with
 |none=>rfl
 |some u=>exact absurd (nM (x.lt q) e)<|qR _
def Ft.kept(x:Ft P w H h)(k: ∀b u,h.get? b=J u->h'.get? b=J u):Ft P w H h':=λa o e=>(x a o e).Ca (λb u _ q=>k b u q) (λ_ q=>q) λ_ _ q=>q
def Ft.laid(x:Ft P w H h)(k: ∀b u,h.get? b=J u->h'.get? b=J u)(i:h.objs.size<=a)(new:B9 P w (upd H a o) h' a o):Ft P w (upd H a o) h':=λb u e=>by
 have d:=x.fresh i;by_cases f:b=a
 .subst f;rw[jl] at e;cases e;exact new
 .rw[ji f] at e;exact(x b u e).Ca (λc v _ q=>k c v q) (λc q=>by rw[ji<|la q d];exact q) (λc xs q=>by rw[ji<|la q d];exact q) λc _ _ q=>by rw[ji<|la q d];exact q
end
def Rd(U:Hp)(a:iE)(u:HO):Prop:=U a=J u\/ ∃o,U a=J (.EG o u)
def Rd.ok{P:ja}{w:iW}{U:Hp}{h:iX}{a:iE}{u:HO}(r:Rd U a u)(x:Ft P w U h):B9 P w U h a u:=by
 rcases r with r|⟨o,r⟩
 .exact x a u r
 .obtain⟨_,q⟩:=x a _ r;exact q
def Og:Option HO->Prop
 |some (.lst _)=>True
 |some (.dK _)=>True
 |some (.dT _)=>True
 |some (.set _ _)=>True
 |some (.BH _)=>True
 |some (.ins _ _ _)=>True
 |some (.ext _)=>True
 |_=>False
section
variable {P:ja}{w:iW}{H:Hp}{h a:iX}{x e:iE}{d:HO}
def Ft.write(ok:Ft P w H h)(g:Og (H x))(o:e=x\/H e=J (.own x))(k: ∀b u,b≠e->h.get? b=J u->a.get? b=J u)(s: ∃u,a.get? e=J u)
  (new:B9 P w (upd H x d) a x d):Ft P w (upd H x d) a:=λb u q=>by
 have f: ∀c y,H c=J (.own y)->c≠x:=λc y r z=>by subst z;rw[r] at g;exact g
 have i: ∀c n,H c=J (.tup n)->c≠x:=λc n r z=>by subst z;rw[r] at g;exact g
 by_cases l:b=x
 .subst l;rw[jl] at q;cases q;exact new
 .rw[ji l] at q;by_cases j:b=e
  .have p:H b=J (.own x):=by
    rcases o with z|z
    .exact absurd (j.trans z) l
    .rw[j];exact z
   rw[q] at p;cases p;obtain⟨v,hv⟩:=s;exact⟨v,by rw[j];exact hv⟩
  .refine(ok b u q).Ca (λc v m r=>k c v ?_ r) (λc r=>by rw[ji<|f c b r];exact r) (λc n r=>by rw[ji<|i c n r];exact r) λc _ _ r=>by rw[ji λz=>by subst z;rw[r] at g;exact g];exact r
   rcases m with rfl|m
   .exact j
   .rintro rfl;rcases o with z|z
    .exact f c b m z
    .rw[m] at z;cases z;exact l AU
end
structure Un(fs ex:kB)(H H':Hp)(h h':iX):Prop where
 keep: ∀b o,h.get? b=A7 o->H b=AX->b∉fs->b∉ex->h'.get? b=A7 o
 slot: ∀b o,h.get? b=A7 o->H b=AX->b∈fs->b∉ex-> ∃sl,h'.get? b=A7 {o with slots:=sl}
 free: ∀b o,h.get? b=A7 o->H b=AX->b∉ex->H' b=AX
 there: ∀b o,h.get? b=A7 o->b∉ex-> ∃o',h'.get? b=A7 o'
 tups: ∀b xs,H b=A7 (.tup xs)->H' b=A7 (.tup xs)
 frzs: ∀b o u,H b=A7 (.EG o u)->H' b=A7 (.EG o u)
 tbls: ∀b ps,H b=A7 (.tbl ps)-> ∃more,H' b=A7 (.tbl<|ps++more)
section
variable {fs c ex d:kB}{H f i:Hp}{h h1 g h':iX}{a x e:iE}{o:HO}
def Un.any(u:Un fs ex H f h h1){b:iE}{j:eE}(q:h.get? b=J j)(n:H b=C)(l:b∉ex): ∃m,h1.get? b=J {j with slots:=m}:=by
 by_cases k:b∈fs
 .exact u.slot b j q n k l
 .exact⟨j.slots,u.keep b j q n k l⟩
def Un.kept(k: ∀b u,h.get? b=J u->h'.get? b=J u):Un fs ex H H h h':=
 ⟨λb j q _ _ _=>k b j q,λb j q _ _ _=>⟨j.slots,k b j q⟩,λ_ _ _ n _=>n,λb j q _=>⟨j,k b j q⟩,λ_ _ q=>q,λ_ _ _ q=>q,λ_ l q=>⟨#[],by rw[q];simp⟩⟩
def Un.refl:Un fs ex H H h h:=Un.kept λ_ _ q=>q
def Un.laid(k: ∀b u,h.get? b=J u->h'.get? b=J u)(r:h.objs.size<=a)(j:H a=C):Un fs ex H (upd H a o) h h' where
 keep:=λb u q _ _ _=>k b u q
 slot:=λb u q _ _ _=>⟨u.slots,k b u q⟩
 free:=λb u q n _=>by rw[ji<|jH<|nM (jW q) r];exact n
 there:=λb u q _=>⟨u,k b u q⟩
 tups:=λb xs q=>by rw[ji<|la q j];exact q
 frzs:=λb u xs q=>by rw[ji<|la q j];exact q
 tbls:=λb s q=>⟨#[],by rw[ji<|la q j,q];simp⟩
def Un.write(j:Og (H x))(v:e=x\/H e=J (.own x))(k: ∀b u,b≠e->h.get? b=J u->h'.get? b=J u)(t: ∃u,h'.get? e=J u):Un fs ex H (upd H x o) h h':=by
 have s: ∀b,H b=C->b≠x:=λb n z=>by subst z;rw[n] at j;exact j
 have p: ∀b,H b=C->b≠e:=λb n z=>by
  subst z;rcases v with r|r
  .exact s b n r
  .rw[n] at r;cases r
 have l: ∀b u,H b=J u-> ¬Og (J u)->b≠x:=λb u q w z=>by subst z;rw[q] at j;exact w j
 refine⟨λb u q n _ _=>k b u (p b n) q,λb u q n _ _=>⟨u.slots,k b u (p b n) q⟩,λb u q n _=>by rw[ji<|s b n];exact n,λb u q _=>?_,
  λb y q=>by rw[ji<|l b _ q λz=>z];exact q,λb u y q=>by rw[ji<|l b _ q λz=>z];exact q,λb A q=>⟨#[],by rw[ji<|l b _ q λz=>z,q];simp⟩⟩
 by_cases m:b=e
 .subst m;exact t
 .exact⟨u,k b u m q⟩
end
noncomputable def P0(h:iX)(U:Hp):List Addr:=(au h.objs.size).filter λa=>(U a).isSome
noncomputable def Cd(h:iX)(U:Hp):Heap:=PySem.W.hideAll h<|P0 h U
def acU(h:iX)(U:Hp):(Cd h U).objs.size=h.objs.size:=PySem.W.hideAll_size _ _
def aeN{h:iX}{U:Hp}{b:iE}{o:eE}(e:h.get? b=J o)(n:U b=C):(Cd h U).get? b=J o:=
 PySem.W.hideAll_get _ e λa=>by have q:(U b).isSome=I:=(Cq.mp a).2;rw[n] at q;simp at q
def Ru{h:iX}{U:Hp}{b:iE}{o:eE}(e:(Cd h U).get? b=J o):h.get? b=J o/\U b=C:=by
 have a:h.get? b=J o:=PySem.W.of_hideAll (P0 h U) e;refine⟨a,?_⟩
 cases q:U b with
 |none=>rfl
 |some x=>have c:b∈P0 h U:=Cq.mpr ⟨yh.mpr<|jW a,by simp[q]⟩;have z:(Cd h U).get? b=C:=PySem.W.hideAll_none (P0 h U) c;rw[z] at e;cases e
noncomputable def Sw(g h:iX)(L:iE):List (iE×eE):=(au h.objs.size).filterMap λa=>if a=L\/(g.get? a).isSome=I then C else(h.get? a).map λo=>(a,o)
noncomputable def jA(g h:iX)(L d:iE):List (iE×eE):=(Sw g h L).filter λp=>decide<|p.1≠d
structure Mod(K:jb)(mg:ly)(base:iX):Prop where
 kin:K.In base
 glob:base.Ns aj mg
 blt: ∃mb,base.Ns gZ mb/\ ∀x:aw,x≠"__name__"->mb x=aA x
 nolimit:base.NoLimit
structure Cx where
 prog:ja
 w:iW
 K:jb
 mg:aw->Option iN
 base:iX
 A:iY
 N:List aw
 s₀:Shared
 H₀:Hp
 env:df
 outer:List df
 stack:List df
 ex:List iE
 fn:aw->Bool
 calm:Bool
 pn:List (iE×eE)
 xe:iN->Shared->Prop
noncomputable def HC(l:List df):List Addr:=l.filterMap (·.frame)
abbrev Cx.fs(X:Cx):List Addr:=HC X.outer
def NG(a:jG)(x:aw):Prop:=a.names.lookup x=J .local\/a.names.lookup x=J .cell\/a.names.lookup x=J .free
def Loc(a:jG)(x:aw):Prop:=a.names.lookup x=J .local\/a.names.lookup x=J .cell
def aaK(a:df)(h:iX)(m:ly)(x:aw)(u:iN):Prop:=
 (a.kindOf x=J .local/\m x=J u)\/((a.kindOf x=J .cell\/a.kindOf x=J .free)/\ ∃c,a.cells.lookup x=J c/\h.IsCell c (J u))
structure Cx.Ok(X:Cx):Prop where
 mod:Mod X.K X.mg X.base
 kind:X.env.scope.kind= .function
 glob:X.env.globals=aj
 blt:X.env.builtins=gZ
 above:X.s₀.heap.objs.size<=X.env.locals
 inj: ∀x y c,X.env.cells.lookup x=A7 c->X.env.cells.lookup y=A7 c->x=y
 has: ∀x,(X.env.kindOf x=A7 .cell\/X.env.kindOf x=A7 .free)-> ∃c,X.env.cells.lookup x=A7 c
 cab: ∀x c,X.fn x=B8->X.env.cells.lookup x=A7 c->X.s₀.heap.objs.size<=c
 hd:X.calm=B8->X.A.handled=AX
 frames:X.A.frames=A7 X.stack
 stk:X.stack=X.outer\/(X.stack=X.env::X.outer/\X.env.frame=A7 X.env.locals)
 exf: ∀b∈X.ex,b≠X.env.locals/\ ∀x c,X.env.cells.lookup x=A7 c->c≠b
 bs: ∀b o,X.base.get? b=A7 o->X.s₀.heap.get? b=A7 o/\X.H₀ b=AX
 bsz:X.base.objs.size<=X.s₀.heap.objs.size
 noex: ∀b o,X.base.get? b=A7 o->b∉X.ex
 exfs: ∀b∈X.ex,b∉X.fs
 HA:X.s₀.heap.FunFrames X.base X.outer
 frf: ∀b∈X.fs,X.H₀ b=AX
structure Inv(X:Cx)(pins:ju)(σ:List (Option V))(H:Hp)(s:iJ):Prop where
 ok:X.Ok
 os:s.os=X.s₀.os
 bare:dW s.gens
 base:Un X.fs X.ex X.H₀ H X.s₀.heap s.heap
 loc: ∃m,s.heap.Ns X.env.locals m/\ ∀(i:Nat) (x:aw) (v:V),X.N[i]?=A7 x->σ[i]?=A7 (A7 v)->NG X.env.scope x-> ∃u,RelV v u/\aaK X.env s.heap m x u
 cell: ∀x c,X.env.cells.lookup x=A7 c-> ∃v,s.heap.IsCell c v
 free:H X.env.locals=AX
 freeC: ∀x c,X.env.cells.lookup x=A7 c->H c=AX
 pin: ∀p∈X.pn++pins,s.heap.get? p.1=A7 p.2/\H p.1=AX/\p.1≠X.env.locals/\p.1∉X.fs/\ ∀v,p.2.data≠ .cell v
 hok:Ft X.prog X.w H s.heap
 len:(A0 σ)=X.N.length
section
variable {X:Cx}{f:ju}{g:List (Option V)}{H B:Hp}{s:iJ}{h':iX}
def Cx.Ok.nofr(ok:X.Ok){b:iE}{o:eE}(e:X.base.get? b=J o):b∉X.fs:=λa=>by have:=(ok.HA.mem a).1;rw[e] at this;cases this
def Inv.bs(U:Inv X f g H s): ∀b o,X.base.get? b=J o->s.heap.get? b=J o/\H b=C:=λb o e=>⟨U.base.keep b o (U.ok.bs b o e).1 (U.ok.bs b o e).2 (U.ok.nofr e)<|U.ok.noex b o e,U.base.free b o (U.ok.bs b o e).1 (U.ok.bs b o e).2<|U.ok.noex b o e⟩
def Inv.bk(U:Inv X f g H s): ∀b o,X.base.get? b=J o->s.heap.get? b=J o:=λb o e=>(U.bs b o e).1
def Inv.mod(U:Inv X f g H s):Mod X.K X.mg X.base:=U.ok.mod
def Inv.HN(U:Inv X f g H s):X.K.In s.heap:=U.ok.mod.kin.keeps U.bk
def Inv.lt(U:Inv X f g H s):X.env.locals<s.heap.objs.size:=let⟨_,a,_⟩:=U.loc;a.lt
def Inv.sz(U:Inv X f g H s):X.s₀.heap.objs.size<=s.heap.objs.size:=mT U.ok.above<|tU U.lt
def Inv.OC(U:Inv X f g H s){a:iE}(h:s.heap.objs.size<=a):a∉X.fs:=λb=>by obtain⟨_,o,c,_⟩:=U.ok.HA.mem b;exact absurd (nM (jW c)<|mT U.sz h)<|qR _
def Inv.Lr(U:Inv X f g H s): ∀x c,X.env.cells.lookup x=J c->c≠X.env.locals:=λx c e z=>by obtain⟨v,o,a,hd⟩:=U.cell x c e;obtain⟨m,⟨j,i,h,b,d,_⟩,_⟩:=U.loc;rw[z,b] at a;cases a;rw[d] at hd;cases hd
def Inv.HA(U:Inv X f g H s):s.heap.FunFrames X.base X.outer:=by
 have all: ∀(l:List df),(∀b∈HC l,b∈X.fs)->X.s₀.heap.FunFrames X.base l->s.heap.FunFrames X.base l:=by
  intro l
  induction l with
  |nil=>intro _ _;trivial
  |cons i r p=>intro h j;obtain⟨hk,⟨L,o,d,k,m,hd⟩,n⟩:=j;have a:L∈X.fs:=h L (by unfold HC;rw[vF,d];exact jY);obtain⟨q,e⟩:=U.base.slot L o m (U.ok.frf L a) a λz=>U.ok.exfs L z a;exact⟨hk,⟨L,_,d,k,e,hd⟩,p (λb c=>h b<|by unfold HC;rw[vF,d];exact jZ _ c) n⟩
 exact all X.outer (λ_ c=>c) U.ok.HA
def Inv.stack(U:Inv X f g H s):s.heap.FunFrames X.base X.stack:=by
 rcases U.ok.stk with e|⟨e,hf⟩
 .rw[e];exact U.HA
 .rw[e];obtain⟨m,a,_⟩:=U.loc;refine .cons (by rw[U.ok.kind];decide) hf a ?_ U.HA;exact Heap.get?_none_of_le<|mT U.ok.bsz U.ok.above
def Inv.Ia(U:Inv X f g H s): ∀b∈HC X.stack,b∈X.env.locals::X.fs:=λb a=>by
 rcases U.ok.stk with e|⟨e,hf⟩
 .rw[e] at a;exact jZ _ a
 .rw[e] at a;unfold HC at a;rw[vF,hf] at a;exact a
def Inv.Ht(U:Inv X f g H s): ∀b∈HC X.stack,H b=C:=λb a=>by
 rcases kW.mp (U.Ia b a) with e|a
 .rw[e];exact U.free
 .obtain⟨_,o,c,_⟩:=U.ok.HA.mem a;exact U.base.free b o c (U.ok.frf b a) λz=>U.ok.exfs b z a
def Inv.step{g':Array et}{t':Nat}{d':Drawn}{ch:kB}(I:Inv X f g H s)
  (E: ∀b∈ch,(b∈X.ex\/X.s₀.heap.objs.size<=b)/\b≠X.env.locals/\(∀x c,X.env.cells.lookup x=A7 c->c≠b)/\ ∀p∈X.pn++f,p.1≠b)
  (keep: ∀b o,b≠X.env.locals->b∉X.fs->b∉ch->s.heap.get? b=A7 o->H b=AX->h'.get? b=A7 o)
  (slot: ∀b o,b≠X.env.locals->b∈X.fs->b∉ch->s.heap.get? b=A7 o->H b=AX-> ∃Y',h'.get? b=A7 {o with slots:=Y'})(free: ∀b o,b∉ch->s.heap.get? b=A7 o->H b=AX->B b=AX)
  (there: ∀b o,b∉ch->s.heap.get? b=A7 o-> ∃T,h'.get? b=A7 T)
  (J: ∀b t,H b=A7 (.tup t)->B b=A7 (.tup t))(O: ∀b o u,H b=A7 (.EG o u)->B b=A7 (.EG o u))(G: ∀b N,H b=A7 (.tbl N)-> ∃more,B b=A7 (.tbl<|N++more))
  (ns: ∀m,s.heap.Ns X.env.locals m->h'.Ns X.env.locals m)(U:Ft X.prog X.w B h')(hg:dW g'):
  Inv X f g B {s with heap:=h',gens:=g',drawn:=d',toks:=t'}:=by
 have Q: ∀b o,X.s₀.heap.get? b=A7 o->b≠X.env.locals:=λb o e=>jH<|nM (jW e) I.ok.above
 have M: ∀b o,X.s₀.heap.get? b=A7 o->b∉X.ex->b∉ch:=λb o e a y=>by
  rcases(E b y).1 with z|z
  .exact a z
  .exact absurd (nM (jW e) z) (qR _)
 have h: ∀x c,X.env.cells.lookup x=A7 c-> ∀v,s.heap.IsCell c v->h'.IsCell c v:=λx c e v a'=>by
  obtain⟨o,A,hd⟩:=a'
  have C:c∉ch:=λz=>(E c z).2.2.1 x c e AU;by_cases D:c∈X.fs
  .obtain⟨Y',q⟩:=slot c o (I.Lr x c e) D C A<|I.freeC x c e;exact⟨_,q,hd⟩
  .exact⟨o,keep c o (I.Lr x c e) D C A<|I.freeC x c e,hd⟩
 refine⟨I.ok,I.os,hg,⟨λb o e n y a=>?_,λb o e n y a=>?_,λb o e n a=>?_,λb o e a=>?_,λb t e=>J b t<|I.base.tups b t e,λb o t e=>O b o t<|I.base.frzs b o t e,λb N e=>?_⟩,?_,λx c e=>?_,?_,λx c e=>?_,λp F=>?_,U,I.len⟩
 .exact keep b o (Q b o e) y (M b o e a) (I.base.keep b o e n y a) (I.base.free b o e n a)
 .obtain⟨Y',j⟩:=I.base.slot b o e n y a;obtain⟨R,L⟩:=slot b _ (Q b o e) y (M b o e a) j (I.base.free b o e n a);exact⟨R,L⟩
 .obtain⟨T,j⟩:=I.base.there b o e a;exact free b T (M b o e a) j<|I.base.free b o e n a
 .obtain⟨T,j⟩:=I.base.there b o e a;exact there b T (M b o e a) j
 .obtain⟨W,j⟩:=I.base.tbls b N e;obtain⟨Z,L⟩:=G b _ j;exact⟨W++Z,by rw[L,Hj]⟩
 .obtain⟨m,V,S⟩:=I.loc;refine⟨m,ns m V,λi x v j L P=>?_⟩;obtain⟨u,r,l⟩:=S i x v j L P;refine⟨u,r,?_⟩;rcases l with l|⟨k,c,e,z⟩
  .exact .inl l
  .exact .inr ⟨k,c,e,h x c e _ z⟩
 .obtain⟨v,z⟩:=I.cell x c e;exact⟨v,h x c e v z⟩
 .obtain⟨m,⟨o,_,_,A,_⟩,_⟩:=I.loc;exact free _ o (λz=>(E _ z).2.1 AU) A I.free
 .obtain⟨v,o,A,hd⟩:=I.cell x c e;exact free c o (λz=>(E c z).2.2.1 x c e AU) A<|I.freeC x c e
 .obtain⟨e,n,ne,K,d⟩:=I.pin p F;have C:p.1∉ch:=λz=>(E p.1 z).2.2.2 p F AU;exact⟨keep p.1 p.2 ne K C e n,free p.1 p.2 C e n,ne,K,d⟩
def Inv.un{t':Nat}(U:Inv X f g H s)(u:Un X.fs [] H B s.heap h')(d:Ft X.prog X.w B h'):Inv X f g B {s with heap:=h',toks:=t'}:=by
 obtain⟨m,⟨o,t,q,i,r⟩,_⟩:=id U.loc;obtain⟨y,k⟩:=u.any i U.free (by simp)
 exact U.step (g':=s.gens) (d':=s.drawn) (ch:=[]) (λ_ z=>nomatch z) (λb o _ c _ e n=>u.keep b o e n c<|by simp) (λb o _ c _ e n=>u.slot b o e n c<|by simp) (λb o _ e n=>u.free b o e n<|by simp) (λb o _ e=>u.there b o e<|by simp) u.tups u.frzs u.tbls (λv l=>by obtain⟨x,a,j,h,p⟩:=l;rw[i] at h;cases h;exact⟨_,a,j,k,p⟩) d U.bare
def Inv.call{g':Array et}{t':Nat}{d':Drawn}{ch:kB}(U:Inv X f g H s)(u:Un (HC X.stack) ch H B s.heap h')(i:Ft X.prog X.w B h')(v:dW g')
  (k: ∀b∈ch,(b∈X.ex\/X.s₀.heap.objs.size<=b)/\b≠X.env.locals/\(∀x c,X.env.cells.lookup x=J c->c≠b)/\ ∀p∈X.pn++f,p.1≠b):
  Inv X f g B {s with heap:=h',gens:=g',drawn:=d',toks:=t'}:=by
 obtain⟨m,⟨o,E,T,l,r⟩,_⟩:=id U.loc;obtain⟨Q,h⟩:=u.any l U.free λz=>(k _ z).2.1 AU
 exact U.step (ch:=ch) k (λb o h t a e n=>u.keep b o e n (λz=>(kW.mp<|U.Ia b z).elim h t) a) (λb o _ _ a e n=>u.any e n a) (λb o a e n=>u.free b o e n a) (λb o a e=>u.there b o e a) u.tups u.frzs u.tbls (λL y=>by obtain⟨O,d,q,j,A⟩:=y;rw[l] at j;cases j;exact⟨_,d,q,h,A⟩) i v
def Inv.turned{t':Nat}{it:iE}(U:Inv X f g H s)(k: ∀b o,b≠it->s.heap.get? b=J o->h'.get? b=J o)(A:H it=C)(h:it≠X.env.locals)
  (h1:it∈X.ex\/X.s₀.heap.objs.size<=it)(l: ∀x c,X.env.cells.lookup x=J c->c≠it)(t: ∀p∈X.pn++f,p.1≠it):Inv X f g H {s with heap:=h',toks:=t'}:=by
 have d: ∀b u,H b=J u->b≠it:=λb u e z=>by rw[z,A] at e;cases e
 refine U.step (g':=s.gens) (d':=s.drawn) (ch:=[it]) (λb w=>?_) (λb o _ _ a e _=>k b o (λz=>a<|by simp[z]) e) (λb o _ _ a e _=>⟨o.slots,k b o (λz=>a<|by simp[z]) e⟩) (λ_ _ _ _ n=>n)
  (λb o a e=>⟨o,k b o (λz=>a<|by simp[z]) e⟩) (λ_ _ e=>e) (λ_ _ _ e=>e) (λb E e=>⟨#[],by rw[e];simp⟩) (λm y=>?_) (λb u e=>?_) U.bare
 .have e:b=it:=by simpa using w
  subst e;exact⟨h1,h,l,t⟩
 .obtain⟨o,j,i,T,r⟩:=y;exact⟨o,j,i,k _ o (nL h) T,r⟩
 .refine(U.hok b u e).Ca (λc v a q=>k c v ?_ q) (λ_ q=>q) λ_ _ q=>q;rcases a with z|z
  .rw[z];exact d b u e
  .exact d c _ z
def Inv.tok(U:Inv X f g H s)(t:Nat):Inv X f g H {s with toks:=t}:=U.un (h':=s.heap) (t':=t) Un.refl U.hok
def Inv.kept{t':Nat}(U:Inv X f g H s)(k: ∀b u,s.heap.get? b=J u->h'.get? b=J u):Inv X f g H {s with heap:=h',toks:=t'}:=U.un (Un.kept k)<|U.hok.kept k
def Inv.laid{a:iE}{o:HO}{t':Nat}(U:Inv X f g H s)(k: ∀b u,s.heap.get? b=J u->h'.get? b=J u)(c:s.heap.objs.size<=a)(new:B9 X.prog X.w (upd H a o) h' a o):
  Inv X f g (upd H a o) {s with heap:=h',toks:=t'}:=U.un (Un.laid k c<|U.hok.fresh c)<|U.hok.laid k c new
def Inv.write{x e:iE}{o:HO}{h:Nat}(U:Inv X f g H s)(d:Og (H x))(c:e=x\/H e=J (.own x))(k: ∀b u,b≠e->s.heap.get? b=J u->h'.get? b=J u)(a: ∃u,h'.get? e=J u)
  (new:B9 X.prog X.w (upd H x o) h' x o):Inv X f g (upd H x o) {s with heap:=h',toks:=h}:=U.un (Un.write d c k a)<|U.hok.write d c k a new
def Inv.KH{a:ju}(U:Inv X f g H s)(h: ∀p∈a,s.heap.get? p.1=J p.2/\H p.1=C/\p.1≠X.env.locals/\p.1∉X.fs/\ ∀v,p.2.data≠ .cell v):Inv X a g H s:=
 ⟨U.ok,U.os,U.bare,U.base,U.loc,U.cell,U.free,U.freeC,λp b=>(sQ.mp b).elim (λz=>U.pin p<|DY _ z)<|h p,U.hok,U.len⟩
def A6{N:jh}(e:N.Nodup){i j:Nat}{x:aw}(a:N[i]?=J x)(b:N[j]?=J x):i=j:=by obtain⟨h1,c⟩:=uD.mp a;obtain⟨h,d⟩:=uD.mp b;exact(DX e).mp (c.trans d.symm)
def adj{M:gx}{A:iY}{E:jt}{i:Nat}{x:aw}{v:V}{u:iN}{Q:Unit->Shared->Prop}(I:Inv X f g H s)(hN:X.N.Nodup)(U:X.N[i]?=A7 x)(O:Loc X.env.scope x)(r:RelV v u)
  (h: ∀s',Inv X f (g.set i<|A7 v) H s'->(∃a,aP a s.heap s'.heap/\(a=X.env.locals\/X.env.cells.lookup x=A7 a))->Q () s')(hf:X.fn x=B8\/X.env.scope.names.lookup x=A7 .local:=by first|exact .inl rfl|exact .inr rfl|assumption):ah M A (storeName X.env x u) Q E s:=by
 obtain⟨m,R,hl⟩:=id I.loc;have bU:(X.env.scope.kind== .class||(X.env.scope.kind== .module&&X.env.locals !=X.env.globals))=B6:=by rw[I.ok.kind];rfl
 have fK:i<(A0 g):=by rw[I.len];exact(uD.mp U).1
 have Lr:=I.Lr
 have C: ∀{a:iE} {h':iX},(∃o,s.heap.get? a=A7 o/\H a=AX)->aP a s.heap h'->Ft X.prog X.w H h':=λ{a h'} ha l b ob e=>by
  obtain⟨_,_,l5⟩:=ha;refine(I.hok b ob e).Ca (λc F L q=>(l.2 c ?_).trans q) (λ_ q=>q) λ_ _ q=>q;rintro rfl;rcases L with rfl|L
  .rw[l5] at e;cases e
  .rw[l5] at L;cases L
 rcases O with hk|hk
 .refine Mw hk R (λh' bq l=>?_) bU;obtain⟨oL,_,_,fD,_⟩:=id R;refine h _ ⟨I.ok,I.os,I.bare,⟨λb o e n G O=>?_,λb o e n G O=>?_,I.base.free,λb o e O=>?_,I.base.tups,I.base.frzs,I.base.tbls⟩,⟨_,bq,λj y v' t T P=>?_⟩,λy c e=>?_,I.free,I.freeC,λp S=>?_,C ⟨oL,fD,I.free⟩ l,by simpa using I.len⟩ ⟨_,l,.inl AU⟩
  .exact(l.2 b<|jH<|nM (jW e) I.ok.above).trans (I.base.keep b o e n G O)
  .obtain⟨sl,t⟩:=I.base.slot b o e n G O;exact⟨sl,(l.2 b<|jH<|nM (jW e) I.ok.above).trans t⟩
  .obtain⟨Z,t⟩:=I.base.there b o e O;exact⟨Z,(l.2 b<|jH<|nM (jW e) I.ok.above).trans t⟩
  .by_cases J:j=i
   .subst J;rw[U] at t;cases t;rw[oX fK] at T;cases T;exact⟨u,r,.inl ⟨hk,by simp⟩⟩
   .rw[nK<|nL J] at T;obtain⟨u',r',q⟩:=hl j y v' t T P;refine⟨u',r',?_⟩;rcases q with⟨k,e⟩|⟨k,c,e,z⟩
    .refine .inl ⟨k,?_⟩;have:y≠x:=λe=>J<|A6 hN t<|e▸U;simp[this,e]
    .exact .inr ⟨k,c,e,z.sameBut l<|Lr y c e⟩
  .obtain⟨F,z⟩:=I.cell y c e;exact⟨F,z.sameBut l<|Lr y c e⟩
  .obtain⟨e,n,ne,W,d⟩:=I.pin p S;exact⟨(l.2 p.1 ne).trans e,n,ne,W,d⟩
 .have K:X.fn x=B8:=by
   rcases hf with z|z
   .exact z
   .rw[z] at hk;cases hk
  obtain⟨c,L⟩:=I.ok.has x<|.inl hk;obtain⟨F,z⟩:=I.cell x c L;refine wpAny_storeName_cell I.ok.kind hk L z λh' ae l=>?_;obtain⟨oc,dY,Y⟩:=id z;refine h {s with heap:=h'} ⟨I.ok,I.os,I.bare,⟨λb o e n G O=>?_,λb o e n G O=>?_,I.base.free,λb o e O=>?_,I.base.tups,I.base.frzs,I.base.tbls⟩,⟨m,R.sameBut l<|nL<|Lr x c L,λj y v' t T P=>?_⟩,λy D e=>?_,I.free,I.freeC,λp S=>?_,C ⟨oc,dY,I.freeC x c L⟩ l,by simpa using I.len⟩ ⟨c,l,.inr L⟩
  .exact(l.2 b<|jH<|nM (jW e)<|I.ok.cab x c K L).trans (I.base.keep b o e n G O)
  .obtain⟨sl,t⟩:=I.base.slot b o e n G O;exact⟨sl,(l.2 b<|jH<|nM (jW e)<|I.ok.cab x c K L).trans t⟩
  .obtain⟨Z,t⟩:=I.base.there b o e O;exact⟨Z,(l.2 b<|jH<|nM (jW e)<|I.ok.cab x c K L).trans t⟩
  .by_cases J:j=i
   .subst J;rw[U] at t;cases t;rw[oX fK] at T;cases T;exact⟨u,r,.inr ⟨.inl hk,c,L,ae⟩⟩
   .rw[nK<|nL J] at T;obtain⟨u',r',q⟩:=hl j y v' t T P;refine⟨u',r',?_⟩;rcases q with q|⟨k,D,e,z'⟩
    .exact .inl q
    .refine .inr ⟨k,D,e,z'.sameBut l ?_⟩;rintro rfl;exact J<|A6 hN t<|I.ok.inj _ _ _ e L▸U
  .by_cases fM:D=c
   .subst fM;exact⟨_,ae⟩
   .obtain⟨w2,z2⟩:=I.cell y D e;exact⟨w2,z2.sameBut l fM⟩
  .obtain⟨e,n,ne,W,d⟩:=I.pin p S;refine⟨(l.2 p.1 ?_).trans e,n,ne,W,d⟩;intro q;rw[q,dY] at e;have q':oc=p.2:=kL e;exact d F (by rw[<-q'];exact Y)
def AI{M:gx}{A:iY}{E:jt}{i:Nat}{x:aw}{v:V}{u:iN}{Q:Unit->Shared->Prop}(U:Inv X f g H s)(c:X.N.Nodup)(e:X.N[i]?=J x)(j:Loc X.env.scope x)(r:RelV v u)
  (h: ∀a,Inv X f (g.set i<|J v) H a->Q () a)(d:X.fn x=I\/X.env.scope.names.lookup x=J .local:=by first|exact .inl rfl|exact .inr rfl|assumption):ah M A (storeName X.env x u) Q E s:=
 adj U c e j r (λa b _=>h a b) d
def Inv.MO{s':iJ}{ch:kB}(U:Inv X f g H s)(i:s'.os=s.os)(u:Un (HC X.stack) ch H B s.heap s'.heap)(a:Ft X.prog X.w B s'.heap)(h:dW s'.gens)
  (d: ∀b∈ch,(b∈X.ex\/X.s₀.heap.objs.size<=b)/\b≠X.env.locals/\(∀x c,X.env.cells.lookup x=J c->c≠b)/\ ∀p∈X.pn++f,p.1≠b):Inv X f g B s':=by
 obtain⟨h',g',d',t',j⟩:=s';have e:j=s.os:=i;subst e;exact U.call (g':=g') (t':=t') (d':=d') u a h d
end
abbrev XK:=iN->Option iE->Hp->Prop
abbrev St:=List<|Option V
abbrev VK:=V->Hp->Prop
abbrev TE:=St->Hp->VK->Prop
abbrev TT:=St->Hp->(Bool->Hp->Prop)->Prop
abbrev TA:=St->Hp->(List V->Hp->Prop)->Prop
structure Ends where
 nx:St->Hp->Prop
 rt:VK
 bk:St->Hp->Prop:=λ_ _=>False
 ct:St->Hp->Prop:=λ_ _=>False
abbrev TS:=Ends->St->Hp->Prop
def EP(X:Cx)(a:ju)(d:St)(Q:VK)(u:iN)(c:iJ):Prop:= ∃v b,Inv X a d b c/\RelV v u/\Q v b
def TP(X:Cx)(a:ju)(e:St)(Q:Bool->Hp->Prop)(b:Bool)(d:iJ):Prop:= ∃c,Inv X a e c d/\Q b c
def AP(X:Cx)(a:ju)(f:St)(Q:List V->Hp->Prop)(e:jF)(d:iJ):Prop:= ∃c b,Inv X a f b d/\Vals c e/\Q c b
def SP(X:Cx)(b:ju)(D:Ends)(f:Flow)(d:iJ):Prop:=
 match f with
 | .next=> ∃a c,Inv X b a c d/\D.nx a c
 | .brk=> ∃a c,Inv X b a c d/\D.bk a c
 | .cont=> ∃a c,Inv X b a c d/\D.ct a c
 | .ret u=> ∃v a c,Inv X b a c d/\RelV v u/\D.rt v c
def PE(X:Cx)(e:iK)(t:TE):Prop:=
 ∀(a:ju) (s:iJ) (b:St) (U:Hp) (Q:VK),Inv X a b U s->t b U Q->ah (ai X.prog X.w) X.A (aM e X.env) (EP X a b Q) X.xe s
def PT(X:Cx)(e:iK)(t:TT):Prop:=
 ∀(a:ju) (s:iJ) (b:St) (U:Hp) (Q:Bool->Hp->Prop),Inv X a b U s->t b U Q->ah (ai X.prog X.w) X.A (isTrue e X.env<|aM e X.env) (TP X a b Q) X.xe s
def PW(X:Cx)(e:iK)(t:TT):Prop:=
 ∀(b:ei iN) (a:ju) (s:iJ) (c:St) (U:Hp) (Q:Bool->Hp->Prop),Inv X a c U s->t c U Q->ah (ai X.prog X.w) X.A (isTrue e X.env b) (TP X a c Q) X.xe s
def PW.pt{X:Cx}{e:iK}{t:TT}(h:PW X e t):PT X e t:=h _
def PA(X:Cx)(d:kD)(t:TA):Prop:=
 ∀(b:bu) (a:ju) (s:iJ) (c:St) (U:Hp) (Q:List V->Hp->Prop),Inv X a c U s->t c U Q->ah (ai X.prog X.w) X.A (Uf<|aQ b<|ag d X.env) (AP X a c Q) X.xe s
def PS(X:Cx)(st:bn)(t:TS):Prop:=
 ∀(a:ju) (s:iJ) (b:St) (U:Hp) (D:Ends),Inv X a b U s->t D b U->ah (ai X.prog X.w) X.A (exec st X.env) (SP X a D) X.xe s
def Io(X:Cx)(st:List bn)(t:TS):Prop:=
 ∀(a:ju) (s:iJ) (b:St) (U:Hp) (D:Ends),Inv X a b U s->t D b U->ah (ai X.prog X.w) X.A (execs st X.env) (SP X a D) X.xe s
def Bo{c:Type}{t:ei c}{Q b:c->Shared->Prop}{M:gx}{A:iY}{E:jt}{s:iJ}(h:ah M A t Q E s)(d: ∀a s,Q a s->b a s):ah M A t b E s:=oW h d λ_ _ x=>x
section
variable {X:Cx}
def Xn(i:Nat):TE:=λa U Q=> ∃v,a[i]?=J (J v)/\Q v U
noncomputable def tC(v:V):TE:=λ_ U Q=>Q v U
def yO{i:Nat}{x:aw}{f:bu}(g:X.N[i]?=J x)(hv:NG X.env.scope x)(hd:(x==("__debug__":aw))=Y:=by decide)(n:(x==("__classdict__":aw))=Y:=by decide):PE X (.Name x f) (Xn i):=by
 intro a s o U Q T h;obtain⟨v,e,h⟩:=h;obtain⟨m,k,j⟩:=T.loc;obtain⟨u,r,l⟩:=j i x v g e hv;have fin:EP X a o Q u s:=⟨v,U,T,r,h⟩
 rcases l with⟨hk,hm⟩|⟨hk,c,b,d⟩
 .exact tp (wpAny_loadName_local T.ok.kind hk k hm fin) hd
 .rcases hk with hk|hk
  .exact tp (wpAny_loadName_cell T.ok.kind hk b d fin) hd
  .exact tp (wpAny_loadName_free T.ok.kind hk b d fin n) hd
def U6{i j f}:PE X (.Constant (.int i) j f) (tC<|.int i):=λ_ _ _ U _ T h=>wpAny_Constant_int ⟨.int i,U,T.tok _,⟨_,rfl⟩,h⟩
def XY{b j f}:PE X (.Constant (.bool b) j f) (tC<|.bl b):=λ_ _ _ U _ T h=>Constant_bool ⟨.bl b,U,T,rfl,h⟩
def U4{j f}:PE X (.Constant .none j f) (tC .B7):=λ_ _ _ U _ T h=>Constant_none ⟨.B7,U,T,rfl,h⟩
def U1{x j f}:PE X (.Constant (.str x) j f) (tC<|.str x):=λ_ _ _ U _ T h=>Calls.Constant_str ⟨.str x,U,T.tok _,⟨_,rfl⟩,h⟩
def Gl(X:Cx)(x:aw):Prop:=X.env.kindOf x=J .globalImplicit
def xy{E:jt}{a:ju}{s:iJ}{d:St}{U:Hp}{x:aw}{u:iN}{f:bu}{Q:jt}(T:Inv X a d U s)(b:Gl X x)(c:X.mg x=J u)(h:Q u s)
  (hd:(x==("__debug__":aw))=Y:=by decide):ah (ai X.prog X.w) X.A (aM (.Name x f) X.env) Q E s:=
 Mv T.ok.kind b (Calls.loadGlobal_global (by rw[T.ok.glob];exact T.mod.glob.keeps T.bk) c h) hd
def um{E:jt}{a:ju}{s:iJ}{g:St}{U:Hp}{x:aw}{u:iN}{f:bu}{Q:jt}(T:Inv X a g U s)(c:Gl X x)(d:X.mg x=C)(hv:aA x=J u)(h:Q u s)
  (e:x≠"__name__":=by decide)(hd:(x==("__debug__":aw))=Y:=by decide):ah (ai X.prog X.w) X.A (aM (.Name x f) X.env) Q E s:=by
 obtain⟨i,h1,b⟩:=T.mod.blt;exact Mv T.ok.kind c (Calls.loadGlobal_builtin (by rw[T.ok.glob];exact T.mod.glob.keeps T.bk) d (by rw[T.ok.blt];exact h1.keeps T.bk) ((b x e).trans hv) h) hd
def Jl{x:aw}{v:V}{u:iN}{f:bu}(a:Gl X x)(b:X.mg x=J u)(r:RelV v u)(hd:(x==("__debug__":aw))=Y:=by decide):PE X (.Name x f) (tC v):=
 λ_ _ _ U _ T h=>xy T a b ⟨v,U,T,r,h⟩ hd
def zV{x:aw}{v:V}{u:iN}{f:bu}(a:Gl X x)(b:X.mg x=C)(hv:aA x=J u)(r:RelV v u)(c:x≠"__name__":=by decide)(hd:(x==("__debug__":aw))=Y:=by decide):PE X (.Name x f) (tC v):=
 λ_ _ _ U _ T h=>um T a b hv ⟨v,U,T,r,h⟩ c hd
def t2I(g d:TE)(k:Int->Int->Hp->Prop):St->Hp->Prop:=λa U=>g a U λx b=>d a b λy c=> ∃i j,x= .int i/\y= .int j/\k i j c
variable {a b:iK}{g tb:TE}{f:bu}
noncomputable def Cb(p:Int->Int->Bool)(g tb:TE):TE:=λd U Q=>t2I g tb (λi j c=>Q (.bl<|p i j) c) d U
noncomputable def tB(t:TE):TT:=λe U Q=>t e U λx d=> ∃c,x= .bl c/\Q c d
def UQ{e:iK}{t:TE}(h:PE X e t)(l: ∀c,isTrue e X.env c=(do let v <-c;cb e.pos;bB [v] (lf v)):=by intro _;rfl):PT X e (tB t):=by intro i s p U Q T m;refine ZB (Bo (h i s p U _ T m) λv s1 O=>?_)<|l _;obtain⟨x,j,k,o,n⟩:=O;obtain⟨d,rfl,q⟩:=n;cases o;exact tR ⟨j,k,q⟩
variable {tA n:TT}{jA:kD}
noncomputable def ZE(t u:TT):TT:=λe U Q=>t e U λc d=>if c=I then u e d Q else Q Y d
noncomputable def tOr(t u:TT):TT:=λe U Q=>t e U λc d=>if c=I then Q I d else u e d Q
noncomputable def KR(t:TT):TT:=λe U Q=>t e U λc d=>Q (!c) d
def Q6(i:PT X a tA):PW X (.BoolOp .And [a] f) tA:=by
 intro wh d s j U Q T h;refine isTrue_and<|Bo (i d s j U Q T h) λc s1 e=>?_
 cases c with
 |true=>exact isTrue_and_nil e
 |false=>exact e
def UN(i:PT X a tA):PW X (.BoolOp .Or [a] f) tA:=by
 intro wh d s j U Q T h;refine isTrue_or<|Bo (i d s j U Q T h) λc s1 e=>?_
 cases c with
 |false=>exact isTrue_or_nil e
 |true=>exact e
def UO(l:PT X a tA)(m:PW X (.BoolOp .And (b::jA) f) n):PW X (.BoolOp .And (a::b::jA) f) (ZE tA n):=by
 intro wh d s k U Q T h;refine isTrue_and<|Bo (l d s k U _ T h) λc s1 O=>?_;obtain⟨e,i,j⟩:=O
 cases c with
 |true=>exact m wh d s1 k e Q i j
 |false=>exact⟨e,i,j⟩
def XT(l:PT X a tA)(m:PW X (.BoolOp .Or (b::jA) f) n):PW X (.BoolOp .Or (a::b::jA) f) (tOr tA n):=by
 intro wh d s k U Q T h;refine isTrue_or<|Bo (l d s k U _ T h) λc s1 O=>?_;obtain⟨e,i,j⟩:=O
 cases c with
 |true=>exact⟨e,i,j⟩
 |false=>exact m wh d s1 k e Q i j
def UR(i:PT X a tA):PT X (.UnaryOp .Not a f) (KR tA):=by intro d s j U Q T h;exact isTrue_not<|i d s j U (λc e=>Q (!c) e) T h
def Xz(g tb:TE):TE:=λe U Q=>g e U λx d=> ∃c,x= .bl c/\if c=I then tb e d Q else Q (.bl Y) d
def Xr(g:TE):TE:=λe U Q=>g e U λx d=> ∃c,x= .bl c/\Q (.bl (!c)) d
def U2{op}{t:TE}(h:PE X a t):PE X (.BoolOp op [a] f) t:=λc s e U Q T d=>BoolOp_one<|h c s e U Q T d
def U8(l:PE X a g)(m:PE X (.BoolOp .And (b::jA) f) tb):PE X (.BoolOp .And (a::b::jA) f) (Xz g tb):=by
 intro d s k U Q T h;refine BoolOp_and<|Bo (l d s k U _ T h) λv s1 O=>?_;obtain⟨x,i,j,o,e⟩:=O;obtain⟨c,rfl,e⟩:=e;cases o;refine tR ?_
 cases c with
 |true=>exact m d s1 k i Q j e
 |false=>exact⟨.bl Y,i,j,rfl,e⟩
def U3(k:PE X a g):PE X (.UnaryOp .Not a f) (Xr g):=by intro d s m U Q T h;refine UnaryOp_<|Bo (k d s m U _ T h) λv s1 O=>?_;obtain⟨x,i,j,l,e⟩:=O;obtain⟨c,rfl,e⟩:=e;cases l;exact not_of<|tR ⟨.bl (!c),i,j,rfl,e⟩
noncomputable def tIf(t:TT)(g tb:TE):TE:=λd U Q=>t d U λc e=>if c=I then g d e Q else tb d e Q
def aek{c:iK}(p:PT X c tA)(m:PE X a g)(o:PE X b tb):PE X (.IfExp c a b f) (tIf tA g tb):=by
 intro e s i U Q T h;refine wpAny_IfExp<|Bo (p e s i U _ T h) λd s1 O=>?_;obtain⟨j,k,l⟩:=O
 cases d with
 |true=>exact m e s1 i j Q k l
 |false=>exact o e s1 i j Q k l
end
def Fp(K:jb)(U:Hp)(a:iE)(xs:List V):Prop:=
 Rd U a (.lst xs)\/
  ∃(o:eE) (b:lI) (n:Nat),K.lookup a=J o/\o.cls= .type "list"/\o.dict=C/\o.data= .seq b n/\b.size<=sizeLine/\Vals xs b.toList
def Hu(K:jb)(U:Hp)(a:iE)(c:List V):Prop:=
 Rd U a (.tup c)\/
  ∃(o:eE) (b:lI) (n:Nat),K.lookup a=J o/\o.cls= .type "tuple"/\o.data= .seq b n/\b.size<=sizeLine/\Vals c b.toList
noncomputable def aaF:iN->Option V
 | .none=>J .B7
 | .bool b=>J<|.bl b
 | .int i _=>J<|.int i
 | .str x _=>J<|.str x
 | .bytes b _=>J<|.byt b
 | .float b _=>J<|.flt b
 | .ref a=>J<|.ref a
 | .type n=>J<|.ty n
 |_=>C
def RelV.abs{x:V}{u:iN}(r:RelV x u):aaF u=J x:=by
 cases x with
 |B7=>cases r;rfl
 |bl _=>cases r;rfl
 |int _=>obtain⟨t,rfl⟩:=r;rfl
 |str _=>obtain⟨t,rfl⟩:=r;rfl
 |byt _=>obtain⟨t,rfl⟩:=r;rfl
 |flt _=>obtain⟨t,rfl⟩:=r;rfl
 |ref _=>cases r;rfl
 |ty _=>cases r;rfl
def RelV.inj{x y:V}{u:iN}(r:RelV x u)(q:RelV y u):x=y:=kL<|r.abs.symm.trans q.abs
def Vals.inj{b a:List V}{us:jF}(h:Vals b us)(q:Vals a us):b=a:=by
 induction h generalizing a with
 |nil=>cases q;rfl
 |cons r t c=>obtain _|⟨d,e⟩:=q;rw[r.inj d,c e]
section
variable {X:Cx}{b:ju}{c:St}{H:Hp}{s:iJ}{a:iE}{xs f:List V}
def Fp.of{K:jb}(h:H a=J (.lst xs)):Fp K H a xs:= .inl (.inl h)
def Inv.list(U:Inv X b c H s)(h:Fp X.K H a xs): ∃d:List iN,Vals xs d/\PlainL s.heap a d.toArray/\xs.length<=sizeLine:=by
 rcases h with h|⟨o,d,n,hk,g,hd,i,j,r⟩
 .obtain⟨z,d,n,r,e⟩:=h.ok U.hok;exact⟨d,r,⟨_,n,e,rfl,rfl,rfl⟩,z⟩
 .refine⟨d.toList,r,⟨o,n,U.HN a o hk,g,hd,by simpa using i⟩,?_⟩;have e:=r.length;simp only[kF] at e
  lia
def Inv.tuple(U:Inv X b c H s)(h:Hu X.K H a xs): ∃d:List iN,Vals xs d/\r9 s.heap a d.toArray/\xs.length<=sizeLine:=by
 rcases h with h|⟨o,d,n,hk,g,i,j,r⟩
 .obtain⟨z,d,r,p⟩:=h.ok U.hok;exact⟨d,r,p,z⟩
 .refine⟨d.toList,r,⟨o,U.HN a o hk,g,n,by simpa using i⟩,?_⟩;have e:=r.length;simp only[kF] at e
  lia
def Inv.HF(U:Inv X b c H s)(h:Fp X.K H a xs)(m:Fp X.K H a f):xs=f:=by
 obtain⟨i,r,⟨o,n,e,_,_,d⟩,_⟩:=U.list h;obtain⟨g,p,⟨t,q,k,_,_,j⟩,_⟩:=U.list m;rw[e] at k;cases k;rw[d] at j;injection j with l _
 have:i=g:=by simpa using ox vu l
 subst this;exact r.inj p
def Inv.FY(U:Inv X b c H s)(h:Hu X.K H a xs)(m:Hu X.K H a f):xs=f:=by
 obtain⟨i,r,⟨o,e,_,n,d⟩,_⟩:=U.tuple h;obtain⟨g,p,⟨t,k,_,q,j⟩,_⟩:=U.tuple m;rw[e] at k;cases k;rw[d] at j;injection j with l _
 have:i=g:=by simpa using ox vu l
 subst this;exact r.inj p
end
noncomputable abbrev Cx.Hy(X:Cx)(E:jt):Cx:={X with xe:=E}
noncomputable abbrev Cx.Kh(X:Cx):Cx:=X.Hy λ_ _=>False
def Cx.Ok.Hy{X:Cx}(ok:X.Ok)(E:jt):(X.Hy E).Ok:=
 ⟨ok.mod,ok.kind,ok.glob,ok.blt,ok.above,ok.inj,ok.has,ok.cab,ok.hd,ok.frames,ok.stk,ok.exf,ok.bs,ok.bsz,ok.noex,ok.exfs,ok.HA,ok.frf⟩
def Cx.Ok.FK{X:Cx}{E:jt}(ok:(X.Hy E).Ok):X.Ok:=
 ⟨ok.mod,ok.kind,ok.glob,ok.blt,ok.above,ok.inj,ok.has,ok.cab,ok.hd,ok.frames,ok.stk,ok.exf,ok.bs,ok.bsz,ok.noex,ok.exfs,ok.HA,ok.frf⟩
section
variable {X:Cx}{a:ju}{b:St}{H:Hp}{s:iJ}{E:jt}
def Inv.Hy(U:Inv X a b H s)(E:jt):Inv (X.Hy E) a b H s:=⟨U.ok.Hy E,U.os,U.bare,U.base,U.loc,U.cell,U.free,U.freeC,U.pin,U.hok,U.len⟩
def Inv.FK(U:Inv (X.Hy E) a b H s):Inv X a b H s:=⟨U.ok.FK,U.os,U.bare,U.base,U.loc,U.cell,U.free,U.freeC,U.pin,U.hok,U.len⟩
def SP.FK{D:Ends}{f:Flow}{e:iJ}(h:SP (X.Hy E) a D f e):SP X a D f e:=by
 cases f with
 |next=>obtain⟨c,d,U,q⟩:=h;exact⟨c,d,U.FK,q⟩
 |brk=>obtain⟨c,d,U,q⟩:=h;exact⟨c,d,U.FK,q⟩
 |cont=>obtain⟨c,d,U,q⟩:=h;exact⟨c,d,U.FK,q⟩
 |ret u=>obtain⟨v,c,d,U,r,q⟩:=h;exact⟨v,c,d,U.FK,r,q⟩
def Io.Kh{st:List bn}{t:TS}(h:Io X.Kh st t):Io X st t:=λa s b H D U c=>oW (h a s b H D (U.Hy _) c) (λ_ _ q=>q.FK) λ_ _ z=>aH z
end
section
variable {X:Cx}{st:bn}{jA:List bn}{t u:TS}{e:iK}{i:TE}{g:bu}
noncomputable def Xs:TS:=λD a U=>D.nx a U
noncomputable def Zu(t u:TS):TS:=λD a U=>t {D with nx:=u D} a U
def Jf:Io X [] Xs:=λ_ _ a U _ T h=>Ax ⟨a,U,T,h⟩
def ug(h1:PS X st t)(j:Io X jA u):Io X (st::jA) (Zu t u):=by
 intro a s k U D T h;refine wE<|Bo (h1 a s k U {D with nx:=u D} T h) λf s1 q=>?_
 cases f with
 |next=>obtain⟨b,c,d,q⟩:=q;exact j a s1 b c D d q
 |ret v=>exact q
 |brk=>exact q
 |cont=>exact q
def Inv.quiet{a:ju}{b:St}{U:Hp}{s:iJ}(T:Inv X a b U s):interactive X.env=Y:=by simp[interactive,T.ok.kind]
noncomputable def Xu(i:TE):TS:=λD a U=>i a U λ_ b=>D.nx a b
def Jg(f:PE X e i)(j:bJ e C g.line X.env=pure Y:=by rfl):PS X (.Expr e g) (Xu i):=by intro a s b U D T h;exact IN (Bo (f a s b U _ T h) λv s1 Q=>by obtain⟨x,c,d,l,k⟩:=Q;exact ⟨b,c,d,k⟩) T.quiet j
noncomputable def Zv(i:TE):TS:=λD a U=>i a U D.rt
def Nv(f:PE X e i):PS X (.Return (J e) g) (Zv i):=by intro a s b U D T h;exact wpAny_Return_some (Bo (f a s b U _ T h) λv s1 Q=>by obtain⟨x,c,d,k,j⟩:=Q;exact ⟨x,b,c,d,k,j⟩)
noncomputable def Zy(c:TT)(t u:TS):TS:=λD a U=>c a U λb d=>if b=I then t D a d else u D a d
def S9{c:iK}{a b:List bn}{n:TT}(q:PT X c n)(o:Io X a t)(p:Io X b u):PS X (.If c a b g) (Zy n t u):=by
 intro f s j U D T h;refine wpAny_If<|Bo (q f s j U _ T h) λd s1 Q=>?_;obtain⟨k,l,m⟩:=Q
 cases d with
 |true=>exact o f s1 j k D l m
 |false=>exact p f s1 j k D l m
end
abbrev TG:=V->St->Hp->(St->Hp->Prop)->Prop
abbrev M5:=List V->St->Hp->(St->Hp->Prop)->Prop
def PG(X:Cx)(a:iK)(t:TG):Prop:=
 ∀(b:ju) (s:iJ) (e:St) (U:Hp) (v:V) (u:iN) (Q:St->Hp->Prop),Inv X b e U s->RelV v u->t v e U Q->
  ah (ai X.prog X.w) X.A (cg a X.env u) (λ_ f=> ∃c d,Inv X b c d f/\Q c d) X.xe s
def Kz(X:Cx)(h:kD)(t:M5):Prop:=
 ∀(a:ju) (s:iJ) (f:St) (U:Hp) (e:List V) (d:jF) (Q:St->Hp->Prop),Inv X a f U s->Vals e d->t e f U Q->
  ah (ai X.prog X.w) X.A (assignInOrder ((aU h X.env).map (·.2)) d) (λ_ g=> ∃b c,Inv X a b c g/\Q b c) X.xe s
abbrev SF:=V->V->V->Hp->(Hp->Prop)->Prop
def Wg(X:Cx)(t:SF):Prop:=
 ∀(a:ju) (s:iJ) (e:St) (U:Hp) (o i v:V) (d c u:iN) (Q:Hp->Prop),Inv X a e U s->RelV o d->RelV i c->RelV v u->t o i v U Q->
  ah (ai X.prog X.w) X.A (li d c u) (λ_ f=> ∃b,Inv X a e b f/\Q b) X.xe s
section
variable {X:Cx}{d:bu}
noncomputable def F6(i:Nat):TG:=λv a U Q=>Q (a.set i<|J v) U
def Jj{i:Nat}{x:aw}(c:X.N.Nodup)(f:X.N[i]?=J x)(g:Loc X.env.scope x)(e:X.fn x=I\/X.env.scope.names.lookup x=J .local:=by first|exact .inl rfl|exact .inr rfl|assumption):PG X (.Name x d) (F6 i):=by intro a s k U v u Q T r h;exact wpAny_assign_Name<|AI T c f g r (λj b=>⟨_,U,b,h⟩) e
noncomputable def aaz:M5:=λa b U Q=>a=[]/\Q b U
def Yr(t:TG)(u:M5):M5:=λc e U Q=> ∃v r,c=v::r/\t v e U λa b=>u r a b Q
def Rh:Kz X [] aaz:=by intro a s b U f c Q T r h;obtain⟨e,h⟩:=h;subst e;cases r;exact assignInOrder_nil ⟨b,U,T,h⟩
def aeg{e:iK}{b:kD}{t:TG}{u:M5}(h1:PG X e t)(j:Kz X b u)
  (k:(aU (e::b) X.env).map (·.2)=cg e X.env::(aU b X.env).map (·.2):=by rfl):Kz X (e::b) (Yr t u):=by
 intro a s n U q o Q T r h;obtain⟨v,p,i,h⟩:=h;subst i
 cases r with
 |cons r m=>rw[k];refine assignInOrder_cons<|Bo (h1 a s n U _ _ _ T r h) λ_ s1 O=>?_;obtain⟨c,f,g,l⟩:=O;exact j a s1 c f _ _ Q g m l
def aay(K:jb)(n:Nat)(t:M5):TG:=λv c U Q=> ∃a b,v= .ref a/\Hu K U a b/\(A0 b)=n/\t b c U Q
def U0{f:kD}{k:Nat}{t:M5}{n:Nat}(q:X.calm=I)(h:Kz X f t)
  (x:(aU f X.env).length=n:=by rfl)(O:(aU f X.env).findIdx? (·.1)=C:=by rfl):PG X (.Tuple f k d) (aay X.K n t):=by
 intro c s j U v u Q T r g;obtain⟨a,E,m,y,w,g⟩:=g;subst m;cases r;obtain⟨B,i,z,L⟩:=T.tuple y;refine assign_Tuple_tuple (T.ok.hd q) z (by simp[x,<-w,i.length]) O λp A=>?_;have l:Inv X c j U {s with heap:=p}:=T.kept (t':=s.toks) λb o e=>A b o (jH<|jW e) e;exact h c _ j U E _ Q l (by simpa using i) g
noncomputable def KN(g f:TE)(t:SF):TG:=λv a U Q=>g a U λo b=>f a b λi c=>t o i v c λe=>Q a e
def NH{o i:iK}{g f:TE}{t:SF}(z:PE X o g)(w:PE X i f)(A:Wg X t)
  (q: ∀v,cg (.Subscript o i d) X.env v=(do
   let b <-bB [v] (aM o X.env)
   let c <-bB [v,b] (aM i X.env)
   cb d
   bB [v,b,c] (li b c v)
   UV [v,b,c] []):=by intro _;rfl):PG X (.Subscript o i d) (KN g f t):=by
 intro a s e U v u Q N r h;rw[q];refine iF<|mn<|Bo (z a s e U _ N h) λb s1 a'=>?_;obtain⟨x,j,m,L,B⟩:=a';refine iF<|mn<|Bo (w a s1 e j _ m B) λc T a'=>?_;obtain⟨y,k,n,O,M⟩:=a';refine iF<|yG<|iF<|mn<|Bo (A a T e k x y v b c u _ n L O r M) λ_ G a'=>?_;obtain⟨l,p,E⟩:=a';exact wpAny_release ⟨e,l,p,E⟩
noncomputable def Uj(c:TE)(g:TG):TS:=λD a U=>c a U λx b=>g x a b D.nx
def HB{b e:iK}{c:TE}{g:TG}(k:PE X e c)(l:PG X b g)(m:fA [b] e d.line X.env=pure Y:=by rfl)(n:fF [b] e X.env=pure C:=by rfl)
  (h1:(aU [b] X.env).map (·.2)=[cg b X.env]:=by rfl):PS X (.Assign [b] e d) (Uj c g):=by
 intro a s f U D T h;refine wpAny_Assign_stores (Bo (k a s f U _ T h) λv s1 Q=>?_) m n;obtain⟨x,i,j,p,o⟩:=Q;rw[h1];exact Bo (l a s1 f i x v _ j p o) λ_ r q=>q
def Nu{i:Nat}{x:aw}{e:iK}{c:TE}{a:bu}(k:X.N.Nodup)(n:X.N[i]?=J x)(p:Loc X.env.scope x)(l:PE X e c)(o:bJ e (J<|.Name x a) d.line X.env=pure Y:=by rfl)(m:X.fn x=I\/X.env.scope.names.lookup x=J .local:=by first|exact .inl rfl|exact .inr rfl|assumption):
  PS X (.Assign [.Name x a] e d) (Uj c<|F6 i):=by
 intro b s t U D T h;refine wpAny_Assign_Name (Bo (l b s t U _ T h) λv s1 Q=>?_) o;obtain⟨y,f,g,r,q⟩:=Q;exact AI g k n p r (λu j=>⟨_,f,j,q⟩) m
def Ug(c:TT)(i:TS):TS:=λD a U=> ∃W:Nat->St->Hp->Prop,(∃m,W m a U)/\ ∀m a U,W m a U->
 c a U λb g=>if b=I then ∃N:St->Hp->Prop,(∀e f,N e f-> ∃h,h<m/\W h e f)/\i {D with nx:=N,ct:=N,bk:=D.nx} a g else D.nx a g
def aeB{c:iK}{i:List bn}{L:TT}{E:TS}(C:fg (ai X.prog X.w) X.A X.env X.xe)(T:PT X c L)(Q:Io X i E):PS X (.While c i [] d) (Ug L E):=by
 intro a s F H D I h;obtain⟨W,⟨G,U⟩,k⟩:=h;refine wpAny_While<|codeAny_whileLoop (λn J=> ∃l x,Inv X a l x J/\W n l x) ?_ G ⟨F,H,I,U⟩;rintro n s1 ⟨g,H1,O,Y'⟩;refine wu C<|Bo (T a s1 g H1 _ O (k n g H1 Y')) λb M a'=>?_;obtain⟨y,z,m⟩:=a'
 cases b with
 |true=>
  obtain⟨N,B,m⟩:=m;rw[iQ AU];refine wu C<|Bo (Q a M g y _ z m) λf K o=>?_
  cases f with
  |next=>obtain⟨e,j,p,t⟩:=o;obtain⟨r,q,u⟩:=B e j t;exact⟨r,q,e,j,p,u⟩
  |cont=>obtain⟨e,j,p,t⟩:=o;obtain⟨r,q,u⟩:=B e j t;exact⟨r,q,e,j,p,u⟩
  |brk=>exact o
  |ret v=>exact o
 |false=>rw[jc ki];exact Ax ⟨g,y,z,m⟩
end
structure It where
 go:Nat->Hp->Prop
 yld:Nat->Hp->V->Hp->Prop
 stop:Nat->Hp->Prop
def uB(X:Cx)(a:ju)(U:Hp)(b:iE):Prop:=
 U b=C/\b≠X.env.locals/\b∉X.fs/\(b∈X.ex\/X.s₀.heap.objs.size<=b)/\(∀x c,X.env.cells.lookup x=J c->c≠b)/\ ∀p∈X.pn++a,p.1≠b
def Inv.M3{X:Cx}{a:ju}{i:St}{U f:Hp}{s:iJ}{b:iE}(T:Inv X a i U s)(d:s.heap.objs.size<=b)(g:f b=C):uB X a f b:=by
 refine⟨g,pD<|nM T.lt d,T.OC d,.inr<|mT T.sz d,λx c e z=>?_,λp h z=>?_⟩
 .obtain⟨v,q⟩:=T.cell x c e;exact absurd (nM q.lt<|by rw[z];exact d)<|qR _
 .exact absurd (nM (jW (T.pin p h).1)<|by rw[z];exact d) (qR _)
structure Turn(P:ja)(w:iW)(K:jb)(tg:iK)(J:It)(fp:kB)(it:iE)(tn:Nat->iX->Prop):Prop where
 mem:it∈fp
 obj: ∀i h,tn i h-> ∀b∈fp,∃o,h.get? b=A7 o/\ ∀v,o.data≠ .cell v
 keep: ∀i h h',tn i h->(∀b∈fp,∀o,h.get? b=A7 o->h'.get? b=A7 o)->tn i h'
 item: ∀(X:Cx),X.prog=P->X.w=w->X.K=K->X.calm=B8-> ∀(i:Nat) (pins:ju) (s:iJ) (σ:St) (H:Hp) (E:jt),Inv X pins σ H s->(∀b∈fp,uB X pins H b)->tn i s.heap->J.go i H->
  ah (ai P w) X.A (b6<|.ref it) (λr s1=> ∃u,r=A7 u/\
   ah (ai P w) X.A (eG tg (.ref it) u) (λ_ s2=> ∃x H',Inv X pins σ H' s2/\RelV x u/\J.yld i H x H'/\tn (i+1) s2.heap/\ ∀b∈fp,H' b=AX) E s1) E s
 done: ∀(X:Cx),X.prog=P->X.w=w->X.K=K->X.calm=B8-> ∀(i:Nat) (pins:ju) (s:iJ) (σ:St) (H:Hp) (E:jt),Inv X pins σ H s->(∀b∈fp,uB X pins H b)->tn i s.heap->J.stop i H->
  ah (ai P w) X.A (b6<|.ref it) (λr s1=>r=AX/\Inv X pins σ H s1) E s
 self: ∀(A:iY) (i:Nat) (s:iJ) (Q:jt) (E:jt),tn i s.heap->Q (.ref it) s->ah (ai P w) A (dD<|.ref it) Q E s
abbrev TI:=St->Hp->(It->Hp->Prop)->Prop
def PIE(X:Cx)(a:ju)(j:St)(i:iK)(R:It->Hp->Prop)(h:iN)(f:iJ):Prop:=
 ∃(e:iE) (d:kB) (g:Nat->iX->Prop) (U:It) (c:Hp),h= .ref e/\Inv X a j c f/\Turn X.prog X.w X.K i U d e g/\g 0 f.heap/\(∀b∈d,uB X a c b)/\R U c
def PI(X:Cx)(tg iter:iK)(c:TI):Prop:=
 ∀(a:ju) (s:iJ) (b:St) (U:Hp) (R:It->Hp->Prop),Inv X a b U s->c b U R->
  ah (ai X.prog X.w) X.A (aM iter X.env) (λv s1=>ah (ai X.prog X.w) X.A (dD v) (PIE X a b tg R) X.xe s1) X.xe s
def ON{M:gx}{A:iY}{E:jt}{s:iJ}{c:iK}{b:iE}{u:iN}{o:eE}{n:String}{d:lI}{Q:Unit->Shared->Prop}(g:s.heap.get? b=J o)(e:o.cls= .type n)(hd:o.data= .fields d)
  (f:["enumerate","zip","dict_itemiterator","dict_reverseitemiterator","odict_iterator","itertools.zip_longest","itertools.pairwise"].contains n=Y)(a:Q () s):ah M A (eG c (.ref b) u) Q E s:=by
 unfold eG
 cases c<;>first
  |exact iP a
  |(cases u<;>first
    |exact iP a
    |(
      refine iF<|yF g ?_;rw[e,hd];show ah M A (if(["enumerate","zip","dict_itemiterator","dict_reverseitemiterator","odict_iterator","itertools.zip_longest","itertools.pairwise"].contains n&&d[0]?==J (cP _))=I then _ else _) Q E s;rw[jc (by intro h;rw[f,ez] at h;cases h)];exact iP a))
noncomputable def Itl(K:jb)(a:iE):It:=
 ⟨λi U=> ∃b x,Fp K U a b/\b[i]?=J x,λi U x c=>c=U/\ ∀b,Fp K U a b->b[i]?=J x,λi U=> ∃b,Fp K U a b/\(A0 b)<=i⟩
noncomputable def Itt(K:jb)(a:iE):It:=
 ⟨λi U=> ∃b x,Hu K U a b/\b[i]?=J x,λi U x c=>c=U/\ ∀b,Hu K U a b->b[i]?=J x,λi U=> ∃b,Hu K U a b/\(A0 b)<=i⟩
noncomputable def Ol(lo:Int)(n:Nat):It:=⟨λi _=>i<n,λi U x a=>a=U/\x= .int (lo+i),λi _=>n<=i⟩
def adi{P:ja}{w:iW}{K:jb}{tg:iK}(a j:iE):Turn P w K tg (Itl K a) [j] j (λi h=>h.IsListIter j a i) where
 mem:=by simp
 obj:=λi h st b g=>by
  have e:b=j:=by simpa using g
  subst e;apply FL;intro r l;obtain⟨o,e,c,d⟩:=st;apply l;exact⟨o,e,λv z=>by rw[d] at z;cases z⟩
 keep:=λi h m st k=>st.at λo e=>k j (by simp) o e
 item:=by intro X C O B M i f s N H E I n st L;subst C O B;apply FL;intro r l;obtain⟨W,x,q,Q⟩:=L;obtain⟨T,G,p,R⟩:=I.list q;obtain⟨u,D,S⟩:=G.get Q;obtain⟨f0,f1,f2,t,y,A⟩:=n j (by simp);apply l;refine wpAny_pyNext_list_item st p.isList (x:=u) (by simpa using D) λm J V=>?_;have U:Inv X f N H {s with heap:=m}:=I.turned (t':=s.toks) (λb o g e=>(V.2 b g).trans e) f0 f1 t y A;apply FL;intro r l;obtain⟨o,e,c,d⟩:=id J;apply l;exact⟨u,rfl,ON (s:={s with heap:=m}) e c d (by decide) ⟨x,H,U,S,⟨rfl,λys F=>by rw[I.HF F q];exact Q⟩,J,λb g=>(n b g).1⟩⟩
 done:=by intro X C O B M i f s N H E I n st L;subst C O B;apply FL;intro r l;obtain⟨W,q,Q⟩:=L;obtain⟨T,G,p,R⟩:=I.list q;obtain⟨f0,f1,f2,t,y,A⟩:=n j (by simp);apply l;have Z:=G.length;exact wpAny_pyNext_list_end (I.ok.hd M) st p.isList (by simp;lia) λm Y=>⟨rfl,I.turned (t':=s.toks) (λb o g e=>Y b o g e) f0 f1 t y A⟩
 self:=λ_ _ _ _ _ st h=>wpAny_pyIter_listiter st h
def acy{P:ja}{w:iW}{K:jb}{tg:iK}(a j:iE):Turn P w K tg (Itt K a) [j] j (λi h=>h.IsTupleIter j a i) where
 mem:=by simp
 obj:=λi h st b g=>by
  have e:b=j:=by simpa using g
  subst e;apply FL;intro t m;obtain⟨o,e,c,d⟩:=st;apply m;exact⟨o,e,λv z=>by rw[d] at z;cases z⟩
 keep:=λi h n st k=>st.at λo e=>k j (by simp) o e
 item:=by intro X L Q C M i f s N H E I q st O;subst L Q C;apply FL;intro t m;obtain⟨W,x,r,T⟩:=O;obtain⟨l,G,p,R⟩:=I.tuple r;obtain⟨u,D,S⟩:=G.get T;obtain⟨f0,f1,f2,y,A,B⟩:=q j (by simp);apply m;refine wpAny_pyNext_tuple_item st (show s.heap.IsTuple a l.toArray from p) (x:=u) (by simpa using D) λn J V=>?_;have U:Inv X f N H {s with heap:=n}:=I.turned (t':=s.toks) (λb o g e=>(V.2 b g).trans e) f0 f1 y A B;apply FL;intro t m;obtain⟨o,e,c,d⟩:=id J;apply m;exact⟨u,rfl,ON (s:={s with heap:=n}) e c d (by decide) ⟨x,H,U,S,⟨rfl,λys F=>by rw[I.FY F r];exact T⟩,J,λb g=>(q b g).1⟩⟩
 done:=by intro X L Q C M i f s N H E I q st O;subst L Q C;apply FL;intro t m;obtain⟨W,r,T⟩:=O;obtain⟨l,G,p,R⟩:=I.tuple r;obtain⟨f0,f1,f2,y,A,B⟩:=q j (by simp);apply m;have Z:=G.length;exact wpAny_pyNext_tuple_end (I.ok.hd M) st (show s.heap.IsTuple a l.toArray from p) (by simp;lia) λn Y=>⟨rfl,I.turned (t':=s.toks) (λb o g e=>Y b o g e) f0 f1 y A B⟩
 self:=λ_ _ _ _ _ st h=>wpAny_pyIter_tupleiter st h
def acz{P:ja}{w:iW}{K:jb}{Q:iK}(a:iE)(lo:Int)(n:Nat):Turn P w K Q (Ol lo n) [a] a (λi h=>IsRangeIter h a (lo+(i:Nat)*1) ((n:Int)-(i:Nat)) 1) where
 mem:=by simp
 obj:=λi h st b d=>by
  have e:b=a:=by simpa using d
  subst e
  exact⟨_,st,λv z=>by have T:w9 _=gJ v:=z;cases T⟩
 keep:=λi h f st k=>k a (by simp) _ st
 item:=by intro X q x p r i c s B U E N g st u;subst q x p;obtain⟨f0,f1,f2,j,l,m⟩:=g a (by simp);have W:=Walks.range (prog:=X.prog) (w:=X.w) (N.ok.hd r) a lo 1 n;refine W.item i s _ _ u st λv f A hv y O=>?_;obtain⟨t,rfl⟩:=hv;have M:Inv X c B U {s with heap:=f,toks:=A}:=N.turned (λb o d e=>O b o (by simpa using d) e) f0 f1 j l m;refine⟨_,rfl,ON (s:={s with heap:=f,toks:=A}) (n:="range_iterator") y H H (by decide) ⟨.int<|lo+i,U,M,⟨t,?_⟩,⟨rfl,rfl⟩,y,λb d=>(g b d).1⟩⟩;rw[Aw]
 done:=by intro X q x p r i c s B U E N g st u;subst q x p;obtain⟨f0,f1,f2,j,l,m⟩:=g a (by simp);exact wpAny_pyNext_range_end (N.ok.hd r) st (by have:n<=i:=u;lia) λf L=>⟨rfl,N.turned (t':=s.toks) (λb o d e=>L b o d e) f0 f1 j l m⟩
 self:=λ_ _ _ _ _ st h=>wpAny_pyIter_rangeiter st h
section
variable {X:Cx}{tg:iK}
def Yp(K:jb)(c:TE):TI:=λe U R=>c e U λx b=> ∃a,x= .ref a/\(∃d,Fp K b a d)/\R (Itl K a) b
def aax(K:jb)(c:TE):TI:=λe U R=>c e U λx b=> ∃a,x= .ref a/\(∃d,Hu K b a d)/\R (Itt K a) b
def Rc{l:iK}{f:TE}(j:PE X l f):PI X tg l (Yp X.K f):=by
 intro c s t U R T h;refine Bo (j c s t U _ T h) λv s1 Q=>?_;obtain⟨x,g,d,r,n⟩:=Q;obtain⟨a,e,⟨y,k⟩,q⟩:=n;subst e;cases r;obtain⟨m,w,p,u⟩:=d.list k;refine yE p.isList ?_;refine⟨s1.heap.objs.size,[s1.heap.objs.size],_,_,g,rfl,d.kept (t':=s1.toks) λb o e=>jT _ e,adi a _,⟨_,kh _ rfl,rfl,rfl⟩,λb i=>?_,q⟩;have e:b=s1.heap.objs.size:=by simpa using i
 subst e;exact d.M3 (kc _)<|d.hok.fresh<|kc _
def UZ{l:iK}{g:TE}(k:PE X l g):PI X tg l (aax X.K g):=by
 intro c s t U R T h;refine Bo (k c s t U _ T h) λv s1 Q=>?_;obtain⟨x,i,d,r,n⟩:=Q;obtain⟨a,e,⟨y,m⟩,q⟩:=n;subst e;cases r;obtain⟨f,w,p,u⟩:=d.tuple m;refine Hh (show s1.heap.IsTuple a f.toArray from p) ?_;refine⟨s1.heap.objs.size,[s1.heap.objs.size],_,_,i,rfl,d.kept (t':=s1.toks) λb o e=>jT _ e,acy a _,⟨_,kh _ rfl,rfl,rfl⟩,λb j=>?_,q⟩;have e:b=s1.heap.objs.size:=by simpa using j
 subst e;exact d.M3 (kc _)<|d.hok.fresh<|kc _
def Fy{c:ju}{g:St}{U:Hp}{s:iJ}{R:It->Hp->Prop}{E:jt}{lo a:Int}{t u v:wl}{f:Nat}(T:Inv X c g U s)(h1: -(2^62)<=lo)(j:lo<2^62)(k: -(2^62)<=a)(l:a<2^62)
  (q:R (Ol lo (a-lo).toNat) U):ah (ai X.prog X.w) X.A (dD<|.ref s.heap.objs.size) (PIE X c g tg R) E {s with heap:=s.heap.push {cls:= .type "range",data:= .fields #[.int lo t,.int a u,.int 1 v]},toks:=f}:=by
 refine wpAny_pyIter_range (IsRange.new ..) (small_one h1 j k l) ?_;have d:Inv X c g U {s with heap:=s.heap.push {cls:= .type "range",data:= .fields #[.int lo t,.int a u,.int 1 v]},toks:=f}:=T.kept λb o e=>jT _ e
 refine⟨(s.heap.push {cls:= .type "range",data:= .fields #[.int lo t,.int a u,.int 1 v]}).objs.size,[(s.heap.push {cls:= .type "range",data:= .fields #[.int lo t,.int a u,.int 1 v]}).objs.size],_,_,U,rfl,
  d.kept (t':=f) λb o e=>jT _ e,acz _ lo (a-lo).toNat,?_,λb m=>?_,q⟩
 .have h:lo+((0:Nat):Int)*1=lo:=by simp
  have i:(((a-lo).toNat:Nat):Int)-((0:Nat):Int)=fk lo a 1:=by rw[O0];split<;>lia
  show IsRangeIter _ _ (lo+((0:Nat):Int)*1) ((((a-lo).toNat:Nat):Int)-((0:Nat):Int)) 1;rw[h,i];exact kh _ rfl
 .have e:b=(s.heap.push {cls:= .type "range",data:= .fields #[.int lo t,.int a u,.int 1 v]}).objs.size:=by simpa using m
  subst e;exact d.M3 (kc _)<|d.hok.fresh<|kc _
def Yo(b:TA):TI:=λd U R=>b d U λc a=> ∃j:Int,c=[.int j]/\ -(2^62)<=j/\j<2^62/\R (Ol 0 j.toNat) a
def Yn(b:TA):TI:=λd U R=>b d U λc a=> ∃i j:Int,c=[.int i,.int j]/\(-(2^62)<=i/\i<2^62/\ -(2^62)<=j/\j<2^62)/\R (Ol i (j-i).toNat) a
def acX{a:iK}{f:TA}{p c:bu}(k:Gl X "range")(l:X.mg "range"=C)(i:PA X [a] f)(m:ag [a] X.env=[(Y,aM a X.env)]:=by rfl):PI X tg (.Call (.Name "range" p) [a] [] c) (Yo f):=by
 intro b s v U R T h;refine Call_<|um T k l DW<|DV (Bo (i c b s v U _ T h) λx s1 Q=>?_) m H;obtain⟨y,w,g,o,d⟩:=Q;obtain⟨j,e,d,n,q⟩:=d;subst e
 cases o with
 |cons r u=>
  cases u;obtain⟨t,rfl⟩:=r;exact call_range_1<|Fy g (by lia) (by lia) d n (by simpa using q)
def acW{a b:iK}{l:TA}{p d:bu}(o:Gl X "range")(u:X.mg "range"=C)(n:PA X [a,b] l)(v:ag [a,b] X.env=[(Y,aM a X.env),(Y,aM b X.env)]:=by rfl)(k:ag [b] X.env=[(Y,aM b X.env)]:=by rfl):
  PI X tg (.Call (.Name "range" p) [a,b] [] d) (Yn l):=by
 intro c s B U R T h;refine Call_<|um T o u DW<|DV (Bo (n d c s B U _ T h) λL s1 N=>?_) (by rw[v,k]) (by rw[k];rfl);obtain⟨O,Q,m,A,f⟩:=N;obtain⟨i,j,e,⟨f,w,x,y⟩,q⟩:=f;subst e
 cases A with
 |cons r g=>
  cases g with
  |cons z g=>
   cases g;obtain⟨t,rfl⟩:=r;obtain⟨E,rfl⟩:=z;exact W1<|Fy m f w x y q
def Zz(k:TI)(g:TG)(j:TS):TS:=λD a T=>k a T λU f=> ∃W:Nat->Nat->St->Hp->Prop,(∃m,W 0 m a f)/\ ∀i m a T,W i m a T->
 (U.stop i T/\D.nx a T)\/(U.go i T/\ ∃N:St->Hp->Prop,(∀c b,N c b-> ∃e,e<m/\W (i+1) e c b)/\ ∀x b,U.yld i T x b->g x a b λd h=>j {D with nx:=N,ct:=N,bk:=D.nx} d h)
noncomputable def AS(a:kB)(h:iX):List (iE×eE):=a.filterMap λb=>(h.get? b).map λo=>(b,o)
def sf{a:kB}{h:iX}{b:iE}{o:eE}(c:b∈a)(e:h.get? b=J o):(b,o)∈AS a h:=c7.mpr ⟨b,c,by rw[e];rfl⟩
def ac3{a:kB}{h:iX}{p:iE×eE}(f:p∈AS a h):p.1∈a/\h.get? p.1=J p.2:=by
 obtain⟨b,d,e⟩:=c7.mp f
 cases q:h.get? b with
 |none=>rw[q] at e;cases e
 |some o=>rw[q] at e;have c:(b,o)=p:=kL e;subst c;exact⟨d,q⟩
def Inv.pinned{a:ju}{h:St}{U:Hp}{s:iJ}{c:kB}(T:Inv X a h U s)(i: ∀b∈c,uB X a U b)(j: ∀b∈c,∃o,s.heap.get? b=J o/\ ∀v,o.data≠ .cell v):Inv X (a++AS c s.heap) h U s:=
 T.KH λp k=>(sQ.mp k).elim (λz=>T.pin p<|qQ _ z) λz=>by obtain⟨g,e⟩:=ac3 z;obtain⟨f0,f1,f2,_⟩:=i p.1 g;obtain⟨o,f,d⟩:=j p.1 g;rw[e] at f;cases f;exact⟨e,f0,f1,f2,d⟩
def Inv.FQ{a d:ju}{b:St}{U:Hp}{s:iJ}(T:Inv X (a++d) b U s):Inv X a b U s:=T.KH λp c=>T.pin p<|qQ _ (DY _ c)
def UW{iter:iK}{y:List bn}{wi:TI}{g:TG}{tb:TS}{pos:bu}(E:fg (ai X.prog X.w) X.A X.env X.xe)(hc:X.calm=B8)(hi:PI X tg iter wi)(hg:PG X tg g)(l:Io X y tb)
  (hs: ∀x,ax iter X.env x=pure x:=by intro _;rfl):PS X (.For tg iter y [] pos) (Zz wi g tb):=by
 intro a s σ H D I h;refine wpAny_For (Bo (hi a s σ H _ I h) λv s1 h1=>Bo h1 λdu s2 h2=>?_) hs;apply FL;intro G B;obtain⟨it,C,tn,J,H2,e,I2,T,x8,f2,W,⟨m0,w0⟩,O⟩:=h2;apply B;subst e;have K: ∀{t:Hp},(∀b∈C,t b=AX)-> ∀b∈C,uB X a t b:=λhn b l=>⟨hn b l,(f2 b l).2⟩
 refine codeAny_forLoop_any (λn V=> ∃i p t,Inv X a p t V/\tn i V.heap/\(∀b∈C,t b=AX)/\W i n p t) ?_ m0 ⟨0,σ,H2,I2,x8,λb l=>(f2 b l).1,w0⟩;intro n Z U;apply FL;intro G B;obtain⟨i,q,Q,P,S,R,w3⟩:=U;apply B;rcases O i n q Q w3 with⟨stop,qn⟩|⟨go,N,hN,step⟩
 .refine wu E (Bo (T.done X AU AU AU hc i a Z q Q X.xe P (K R) S stop) λr s4 a'=>?_);obtain⟨Y',I4⟩:=a';subst Y';exact Ax ⟨q,Q,I4,qn⟩
 .refine wu E (Bo (T.item X AU AU AU hc i a Z q Q X.xe P (K R) S go) λr s4 a'=>?_);obtain⟨u,Y',h4⟩:=a';subst Y';refine wu E<|Bo h4 λ_ s5 a'=>?_;obtain⟨x,H5,I5,r5,y5,M,hW⟩:=a';have iB:=I5.pinned (K hW)<|T.obj _ _ M;refine wu E<|Bo (hg _ s5 q H5 x u _ iB r5 (step x H5 y5)) λ_ s6 a'=>?_;obtain⟨σ6,H6,I6,q6⟩:=a';refine wu E (Bo (l _ s6 σ6 H6 _ I6 q6) λf F z=>?_)
  have again: ∀{c:St} {j:Hp},Inv X (a++AS C s5.heap) c j F->N c j-> ∃m,m<n/\ ∃i p t,Inv X a p t F/\tn i F.heap/\(∀b∈C,t b=AX)/\W i m p t:=λ{c j} k L=>by apply FL;intro G B;obtain⟨m',hm,w7⟩:=hN c j L;apply B;refine⟨m',hm,i+1,c,j,k.FQ,T.keep _ _ _ M λb l o e=>(k.pin (b,o)<|qQ _ (qQ _ (sf l e))).1,λb l=>?_,w7⟩;apply FL;intro G B;obtain⟨o,e,d⟩:=T.obj _ _ M b l;apply B;exact(k.pin (b,o)<|qQ _ (qQ _ (sf l e))).2.1
  cases f with
  |next=>obtain⟨c,j,k,L⟩:=z;exact again k L
  |cont=>obtain⟨c,j,k,L⟩:=z;exact again k L
  |brk=>obtain⟨c,j,k,z⟩:=z;exact⟨c,j,k.FQ,z⟩
  |ret v=>obtain⟨x7,c,j,k,r7,z⟩:=z;exact⟨x7,c,j,k.FQ,r7,z⟩
end
abbrev R2:=V->V->Hp->VK->Prop
def ES(X:Cx)(f:zf)(r:R2):Prop:=
 ∀(a:ju) (s:iJ) (b:St) (U:Hp) (x y:V) (v u:iN) (Q:VK),Inv X a b U s->RelV x v->RelV y u->r x y U Q->
  ah (ai X.prog X.w) X.A (f v u) (EP X a b Q) X.xe s
def Pm(X:Cx)(f:iN->ei iN)(r:V->Hp->VK->Prop):Prop:=
 ∀(a:ju) (s:iJ) (b:St) (U:Hp) (x:V) (v:iN) (Q:VK),Inv X a b U s->RelV x v->r x U Q->
  ah (ai X.prog X.w) X.A (f v) (EP X a b Q) X.xe s
def kG(X:Cx)(f:iN)(r:List V->Hp->VK->Prop):Prop:=
 ∀(a:ju) (s:iJ) (c:St) (U:Hp) (xs:List V) (b:jF) (Q:VK),Inv X a c U s->Vals xs b->r xs U Q->
  ah (ai X.prog X.w) X.A (call f b) (EP X a c Q) X.xe s
def aaG(X:Cx)(r:V->Hp->(Bool->Hp->Prop)->Prop):Prop:=
 ∀(a:ju) (s:iJ) (b:St) (U:Hp) (x:V) (v:iN) (Q:Bool->Hp->Prop),Inv X a b U s->RelV x v->r x U Q->
  ah (ai X.prog X.w) X.A (lf v) (TP X a b Q) X.xe s
noncomputable def N4(r:R2)(d e:TE):TE:=λa U Q=>d a U λx b=>e a b λy c=>r x y c Q
def tUn(r:V->Hp->VK->Prop)(b:TE):TE:=λc U Q=>b c U λx a=>r x a Q
def rI(T:Int->Int->Prop)(g:Int->Int->V):R2:=λx y U Q=> ∃i j,x= .int i/\y= .int j/\T i j/\Q (g i j) U
def Ld(g:Int->Int->V):R2:=λx y U Q=> ∃i j,x= .int i/\y= .int j/\Q (g i j) U
def rU(g:Int->V):V->Hp->VK->Prop:=λx U Q=> ∃i,x= .int i/\Q (g i) U
section
variable {X:Cx}{a b c:iK}{l tb o:TE}{n:bu}
def Wc(r:PE X a l)(t:PE X b tb){d:ju}{s:iJ}{g:St}{U:Hp}{R:V->V->Hp->Prop}(T:Inv X d g U s)
  (h:l g U λx m=>tb g m λy e=>R x y e){Q:jt}{f:zf}
  (z: ∀v u k x y e,Inv X d g e k->RelV x v->RelV y u->R x y e->ah (ai X.prog X.w) X.A (f v u) Q X.xe k):
  ah (ai X.prog X.w) X.A (aM a X.env) (λv i=>ah (ai X.prog X.w) X.A (aM b X.env) (λu j=>ah (ai X.prog X.w) X.A (f v u) Q X.xe j) X.xe i) X.xe s:=by
 refine Bo (r d s g U _ T h) λv s1 N=>?_;obtain⟨x,m,p,E,B⟩:=N;refine Bo (t d s1 g m _ p B) λu k N=>?_;obtain⟨y,e,q,L,O⟩:=N;exact z v u k x y e q E L O
def XW{e:Operator}{r:R2}(k:ES X (bw e) r)(i:PE X a l)(j:PE X b tb):PE X (.BinOp a e b n) (N4 r l tb):=by intro d s w U Q T h;exact wpAny_BinOp<|Wc i j T h λv u t x y f g m p q=>k d t w f x y v u Q g m p q
def XU{e:UnaryOp}{r:V->Hp->VK->Prop}(k:Pm X (TW e) r)(j:PE X a l):PE X (.UnaryOp e a n) (tUn r l):=by intro d s f U Q T h;exact UnaryOp_ (Bo (j d s f U _ T h) λv s1 O=>by obtain⟨x,g,i,p,m⟩:=O;exact k d s1 f g x v Q i p m)
def PM{f:zf}{O:Int->Int->Prop}{g:Int->Int->Int}
  (rule: ∀(i j:Int) (t u:wl) (s:iJ) (Q:jt) (E:jt),O i j->Q (.int (g i j) s.toks) {s with toks:=s.toks+1}->ah (ai X.prog X.w) X.A (f (.int i t)<|.int j u) Q E s):
  ES X f (rI O λi j=> .int (g i j)):=by
 intro d s r U x y v u Q T k m h;obtain⟨i,j,rfl,rfl,e,q⟩:=h;obtain⟨t,rfl⟩:=k;obtain⟨p,rfl⟩:=m;exact rule i j t p s _ _ e ⟨.int<|g i j,U,T.tok _,⟨_,rfl⟩,q⟩
def X5{f:zf}{g:Int->Int->Int}
  (rule: ∀(i j:Int) (t u:wl) (s:iJ) (Q:jt) (E:jt),Q (.int (g i j) s.toks) {s with toks:=s.toks+1}->ah (ai X.prog X.w) X.A (f (.int i t)<|.int j u) Q E s):
  ES X f (Ld λi j=> .int (g i j)):=by
 intro d s p U x y v u Q T e k h;obtain⟨i,j,rfl,rfl,q⟩:=h;obtain⟨t,rfl⟩:=e;obtain⟨m,rfl⟩:=k;exact rule i j t m s _ _ ⟨.int<|g i j,U,T.tok _,⟨_,rfl⟩,q⟩
def Rr{f:zf}{g:Int->Int->Bool}
  (rule: ∀(i j:Int) (t u:wl) (s:iJ) (Q:jt) (E:jt),Q (.bool<|g i j) s->ah (ai X.prog X.w) X.A (f (.int i t)<|.int j u) Q E s):
  ES X f (Ld λi j=> .bl (g i j)):=by
 intro d s p U x y v u Q T e k h;obtain⟨i,j,rfl,rfl,q⟩:=h;obtain⟨t,rfl⟩:=e;obtain⟨m,rfl⟩:=k;exact rule i j t m s _ _ ⟨.bl<|g i j,U,T,rfl,q⟩
def Lw(i j:Int):Prop:=0<j/\j<1073741824
def EY(i j:Int):Prop:=0<=j/\j<=1000000/\i.natAbs<2^64
def HL(i j:Int):Prop:=(-(2^64)<i/\i<2^64)\/(-(2^64)<j/\j<2^64)
def HL.ok{i j:Int}(h:HL i j):IntMulOk i j:=by
 rcases h with⟨h1,d⟩|⟨h1,d⟩
 .exact .of_left (O1 h1 d)
 .exact .of_right (O1 h1 d)
def Vi:ES X (bw .Add) (Ld λi j=> .int (i+j)):=X5 λ_ _ _ _ _ _ _ q=>add_int q
def Vb:ES X (bw .Sub) (Ld λi j=> .int (i-j)):=X5 λ_ _ _ _ _ _ _ q=>sub_int q
def Ve:ES X (bw .Mult) (rI HL λi j=> .int (i*j)):=PM λ_ _ _ _ _ _ _ d q=>mul_int q d.ok
def Ro:ES X (bw .FloorDiv) (rI Lw λi j=> .int (i / j)):=PM λi j _ _ _ _ _ d q=>by have h1:(0:Int)<j:=d.1;have e:j<1073741824:=d.2;exact floordiv_int (by lia) (by rw[Int.fdiv_eq_ediv_of_nonneg i<|by lia];exact q)<|.inl<|PyProof.noPylong_small (by lia)
def Vf:ES X (bw .Mod) (rI (λ_ j=>0<j) λi j=> .int (i%j)):=PM λi j _ _ _ _ _ d q=>by have h1:(0:Int)<j:=d;exact mod_int' (by lia) (by rw[Int.fmod_eq_emod_of_nonneg i<|by lia];exact q)
def Vc:ES X (bw .Pow) (rI EY λi j=> .int (i^j.toNat)):=PM λ_ _ _ _ _ _ _ d q=>pow_int_small d.1 d.2.1 d.2.2 q
def unI{f:iN->ei iN}{g:Int->Int}
  (rule: ∀(i:Int) (t:wl) (s:iJ) (Q:jt) (E:jt),Q (.int (g i) s.toks) {s with toks:=s.toks+1}->ah (ai X.prog X.w) X.A (f<|.int i t) Q E s):
  Pm X f (rU λi=> .int (g i)):=by
 intro d s j U x v Q T e h;obtain⟨i,rfl,q⟩:=h;obtain⟨t,rfl⟩:=e;exact rule i t s _ _ ⟨.int<|g i,U,T.tok _,⟨_,rfl⟩,q⟩
def Ub:Pm X (TW .USub) (rU λi=> .int (-i)):=unI λ_ _ _ _ _ q=>neg_int q
def EH{d:ju}{g:St}{U:Hp}{s:iJ}{Q:VK}{k f:Bool}(T:Inv X d g U s)(q:Q (.bl k) U)(e:k=f):EP X d g Q (.bool f) s:=by subst e;exact⟨.bl k,U,T,rfl,q⟩
def X1:ES X (av .Lt) (Ld λi j=> .bl (decide<|i<j)):=Rr λ_ _ _ _ _ _ _ q=>lt_int q
def X2:ES X (av .LtE) (Ld λi j=> .bl (decide<|i<=j)):=Rr λ_ _ _ _ _ _ _ q=>le_int q
def X3:ES X (av .Gt) (Ld λi j=> .bl (decide<|j<i)):=Rr λ_ _ _ _ _ _ _ q=>gt_int q
def X4:ES X (av .GtE) (Ld λi j=> .bl (decide<|j<=i)):=Rr λ_ _ _ _ _ _ _ q=>ge_int q
def NX:ES X (av .Is) (λx y U Q=>y= .B7/\Q (.bl<|decide<|x= .B7) U):=by
 intro d s g U x y v u Q T e f h;obtain⟨rfl,q⟩:=h;cases f;refine is_none_gen<|EH T q ?_
 cases x<;>first
  |(cases e;rfl)
  |(obtain⟨t,rfl⟩:=e;rfl)
def Jr:ES X (av .IsNot) (λx y U Q=>y= .B7/\Q (.bl (!decide (x= .B7))) U):=by
 intro d s g U x y v u Q T e f h;obtain⟨rfl,q⟩:=h;cases f;refine isnot_none_gen<|EH T q ?_
 cases x<;>first
  |(cases e;rfl)
  |(obtain⟨t,rfl⟩:=e;rfl)
def N5(b:iK){d:cO}(h:d≠ .In:=by decide)(g:d≠ .NotIn:=by decide):cW d b=Y:=by
 have e:(d==cO.In)=Y:=by cases d<;>first|rfl|exact absurd H h
 have f:(d==CmpOp.NotIn)=Y:=by cases d<;>first|rfl|exact absurd H g
 cases b<;>simp[cW,e,f]
def Ri{e:cO}{r:R2}(m:ES X (av e) r)(i:PE X a l)(j:PE X b tb)(k:cW e b=Y):PE X (.Compare a [e] [b] n) (N4 r l tb):=by intro d s z U Q T h;exact wpAny_Compare1 (Wc i j T h λv u w x y f g p t q=>m d w z f x y v u Q g p t q) k
def Xp(t:TE):TT:=λe U Q=>t e U λx d=> ∃k,x= .bl k/\Q k d
def Q8{g:cO}{r:R2}(E:ES X (av g) r)(A:PE X a l)(B:PE X b tb)(C:cW g b=Y):PT X (.Compare a [g] [b] n) (Xp<|N4 r l tb):=by intro d s i H Q I h;refine wpAny_isTrue_Compare1 (Bo (A d s i H _ I h) λv s1 f=>?_) C;obtain⟨x,j,q,G,L⟩:=f;refine Bo (B d s1 i j _ q L) λu N f=>?_;obtain⟨y,m,t,J,O⟩:=f;refine Bo (E d N i m x y v u _ t G J O) λc U f=>?_;obtain⟨z,p,w,M,k,e,T⟩:=f;subst e;cases M;exact tR ⟨p,w,T⟩
def MU(r i:R2)(l tb o:TE):TE:=λd U Q=>l d U λx f=>tb d f λy g=>r x y g λz e=> ∃k,z= .bl k/\
 (if k=I then o d e λj h=>i y j h Q else Q (.bl Y) e)
def aem{j m:cO}{r w:R2}(Y:ES X (av j) r)(G:ES X (av m) w)(J:PE X a l)(M:PE X b tb)(N:PE X c o)
  (U:lastMarks [j,m] [b,c]=B6:=by with_unfolding_all rfl):PE X (.Compare a [j,m] [b,c] n) (MU r w l tb o):=by
 intro f s i H Q I h;refine Compare_chain (Bo (J f s i H _ I h) λv s1 g=>?_) U;obtain⟨x,B,L,K,D⟩:=g;refine chain_link<|Bo (M f s1 i B _ L D) λu R g=>?_;obtain⟨y,C,O,A,F⟩:=g;refine Bo (Y f R i C x y v u _ O K A F) λd S g=>?_;obtain⟨z,p,q,P,k,e,t⟩:=g;subst e;cases P;refine tR ?_
 cases k with
 |false=>exact ite_ff ⟨.bl B6,p,q,rfl,t⟩
 |true=>exact ite_tt<|chain_last (Bo (N f S i p _ q t) λw' s4 a'=>by obtain⟨z',E,T,r4,q4⟩:=a';exact G f s4 i E y z' u w' Q T A r4 q4)
def YQ(K:jb)(x:V)(U:Hp)(k:Bool):Prop:=
 match x with
 | .B7=>k=Y
 | .bl b=>k=b
 | .int i=>k=(i !=0)
 | .str y=>y.length<=sizeLine/\k=((y.length:Int) !=0)
 | .byt y=>y.size<=sizeLine/\k=((y.size:Int) !=0)
 | .ref p=>(∃e,Fp K U p e/\k=!e.isEmpty)\/(∃e,Hu K U p e/\k=!e.isEmpty)\/ ∃d,U p=J (.dK d)/\k=!d.isEmpty
 |_=>False
def acr{f:Type}{d:List (f×V)}{e:List (f×iN)}(r:KV d e):(!e.isEmpty)=!d.isEmpty:=by
 cases r<;>rfl
def Bh{e:List V}{d:jF}(r:Vals e d):(!d.toArray.isEmpty)=!e.isEmpty:=by
 cases r<;>simp
def A9:(sizeLine:Nat)<2^63:=by rw[jQ];decide
def Uc:aaG X (λx N Q=> ∃k,YQ X.K x N k/\Q k N):=by
 intro L s M N x v Q I u h;obtain⟨k,e,q⟩:=h;have G:=A9;have U:sizeLine=16777216:=jQ
 cases x with
 |B7=>
  cases u;have d:k=Y:=e;subst d;exact truthy_none ⟨N,I,q⟩
 |bl b=>
  cases u;have d:k=b:=e;subst d;exact tR ⟨N,I,q⟩
 |int i=>obtain⟨t,rfl⟩:=u;have d:k=(i !=0):=e;subst d;exact PySem.P.truthy_int ⟨N,I,q⟩
 |str y=>obtain⟨t,rfl⟩:=u;obtain⟨T,d⟩:y.length<=sizeLine/\k=((y.length:Int) !=0):=e;subst d;exact PySem.P.truthy_str (by lia) ⟨N,I.tok _,q⟩
 |byt y=>obtain⟨t,rfl⟩:=u;obtain⟨T,d⟩:y.size<=sizeLine/\k=((y.size:Int) !=0):=e;subst d;exact PySem.W.truthy_bytes (by lia) ⟨N,I.tok _,q⟩
 |ref p=>
  cases u;have d:(∃j,Fp X.K N p j/\k=!j.isEmpty)\/(∃j,Hu X.K N p j/\k=!j.isEmpty)\/ ∃f,N p=J (.dK f)/\k=!f.isEmpty:=e;rcases d with⟨j,z,d⟩|⟨j,z,d⟩|⟨f,z,d⟩
  .subst d;obtain⟨B,r,C,E⟩:=I.list z;have g:=r.length;exact wpAny_truthy_list C.isList (by simp only[jy];lia) ⟨N,I.tok _,by rw[Bh r];exact q⟩
  .subst d;obtain⟨B,r,C,E⟩:=I.tuple z;have g:=r.length;exact truthy_tuple C (by simp only[jy];lia) ⟨N,I.tok _,by rw[Bh r];exact q⟩
  .subst d;obtain⟨E,O,A,r,m⟩:f.length<=sizeLine/\(p==bp)=Y/\ ∃A,KV f A/\s.heap.DictOf (kJ X.prog X.w) p A:=I.hok p _ z;have g:f.length=A.length:=tV r;exact wpAny_truthy_dict O m (by lia) ⟨N,I.tok _,by rw[acr r];exact q⟩
 |_=>exact(show False from e).elim
def aez(m:PE X a l)(p: ∀d,isTrue a X.env d=(do let v <-d;cb a.pos;bB [v] (lf v))):
  PT X a (λf U Q=>l f U λx g=> ∃k,YQ X.K x g k/\Q k g):=by
 intro e s f U Q T h;exact ZB (Bo (m e s f U _ T h) λv s1 O=>by obtain⟨x,i,j,r,q⟩:=O;exact Uc e s1 f i x v Q j r q)<|p _
def ack:ES X (bw .Add) (λx y U Q=> ∃i j,x= .str i/\y= .str j/\i.length+j.length<=sizeLine/\Q (.str<|i++j) U):=by intro d s m U x y v u Q T f g h;obtain⟨i,j,rfl,rfl,e,q⟩:=h;obtain⟨t,rfl⟩:=f;obtain⟨t',rfl⟩:=g;exact add_str (λt' k=>⟨.str<|i++j,U,T.tok _,⟨_,rfl⟩,q⟩) e
def sU{x:V}{d:jF}(r:Vals [x] d): ∃u,d=[u]/\RelV x u:=by
 cases r with
 |cons e f=>cases f;exact⟨_,rfl,e⟩
def wY{x y:V}{d:jF}(r:Vals [x,y] d): ∃u e,d=[u,e]/\RelV x u/\RelV y e:=by
 cases r with
 |cons f g=>
  cases g with
  |cons h i=>cases i;exact⟨_,_,rfl,f,h⟩
def Pz:kG X (.builtin "abs") (λe U Q=> ∃i,e=[.int i]/\Q (.int (if i<0 then -i else i)) U):=by intro d s j U e g Q T r h;obtain⟨i,rfl,q⟩:=h;obtain⟨u,rfl,t,rfl⟩:=sU r;exact call_abs_int λu f=>⟨.int (if i<0 then -i else i),U,T.tok _,⟨_,rfl⟩,q⟩
def adK(g:X.calm=I):kG X (.builtin "max") (λf U Q=> ∃i j,f=[.int i,.int j]/\Q (.int (if j>i then j else i)) U):=by
 intro e s y U f w Q T r h;obtain⟨i,j,rfl,q⟩:=h;obtain⟨u,x,rfl,⟨t,rfl⟩,⟨p,rfl⟩⟩:=wY r;refine max_two_ints (T.ok.hd g) λm v k=>⟨_,U,T.kept k,?_,q⟩
 by_cases d:j>i
 .rw[iQ d,iQ d];exact⟨_,rfl⟩
 .rw[jc d,jc d];exact⟨_,rfl⟩
def adJ(g:X.calm=I):kG X (.builtin "min") (λf U Q=> ∃i j,f=[.int i,.int j]/\Q (.int (if j<i then j else i)) U):=by
 intro e s y U f w Q T r h;obtain⟨i,j,rfl,q⟩:=h;obtain⟨u,x,rfl,⟨t,rfl⟩,⟨p,rfl⟩⟩:=wY r;refine min_two_ints (T.ok.hd g) λm v k=>⟨_,U,T.kept k,?_,q⟩
 by_cases d:j<i
 .rw[iQ d,iQ d];exact⟨_,rfl⟩
 .rw[jc d,jc d];exact⟨_,rfl⟩
def De:kG X (.type "int") (λd U Q=>(∃i,d=[.int i]/\Q (.int i) U)\/ ∃k,d=[.bl k]/\Q (.int (if k then 1 else 0)) U):=by
 intro e s j U d g Q T r h;rcases h with⟨i,rfl,q⟩|⟨k,rfl,q⟩
 .obtain⟨u,rfl,t,rfl⟩:=sU r;exact call_int_int ⟨.int i,U,T,⟨_,rfl⟩,q⟩
 .obtain⟨u,rfl,f⟩:=sU r;cases f;exact call_int_bool ⟨.int (if k then 1 else 0),U,T.tok _,⟨_,rfl⟩,q⟩
end
section
variable {a:ja}{w:iW}{A:iY}{E:jt}{s:iJ}{K:jb}{x d C f:iE}{c:ly}{b:aw}{v:iN}
end
section
variable {P:ja}{w:iW}{H e:Hp}{h c:iX}{a C d:iE}{fs b:List (aw×V)}
end
section
variable {X:Cx}{b:ju}{c:St}{H:Hp}{s:iJ}{a C d:iE}{fs:List (aw×V)}{f:aw}{v:V}{A:iY}{E:jt}
end
section
variable {X:Cx}{o e a:iK}{f:aw}{c b d:bu}{h g:TE}
end
section
variable {X:Cx}{a:ju}{d:St}{H:Hp}{s:iJ}{A:iY}{E:jt}{Q:jt}{c:iN}{b:Bool}
end
structure C2(k:Nat)(A:iY):Prop where
 hd:A.handled=AX
 dp:A.depth+3*k+5<recursionLimit
 un:A.units+16*k+200<aS
 gd:A.guards=A7 []:=by rfl
def C2.mono{j k:Nat}{A:iY}(r:C2 k A)(h:j<=k):C2 j A:=⟨r.hd,by have:=r.dp;lia,by have:=r.un;lia,r.gd⟩
def C2.deeper{k:Nat}{A:iY}(r:C2 (k+1) A)(a:df):C2 k (A.deeper a):=
 ⟨r.hd,by have:=r.dp;show A.depth+1+3*k+5<_;lia,by have:=r.un;show A.units+3+16*k+200<_;lia,r.gd⟩
def C2.depth{k:Nat}{A:iY}(r:C2 k A):A.depth<recursionLimit:=by have:=r.dp;lia
noncomputable def Zw:TA:=λ_ U Q=>Q [] U
noncomputable def Xv(d:TE)(e:TA):TA:=λa U Q=>d a U λx b=>e a b λf c=>Q (x::f) c
section
variable {X:Cx}{e:iK}{c:kD}{d:TE}{t:TA}{a:bu}
def oK:PA X [] Zw:=λ_ _ _ _ U Q T h=>Hg ⟨[],U,T,.nil,h⟩
def lD(l:PE X e d)(m:PA X c t)(n:ag (e::c) X.env=(Y,aM e X.env)::ag c X.env:=by rfl):PA X (e::c) (Xv d t):=by intro a b s f U Q T h;rw[n];show ah _ _ (Uf ((Y,aM e X.env)::aQ a (ag c X.env))) _ _ s;refine Hf<|Bo (l b s f U _ T h) λu s1 O=>?_;obtain⟨x,g,j,q,o⟩:=O;exact Bo (m a b s1 f g _ j o) λy w ⟨v,i,k,r,p⟩=>⟨x::v,i,k,.cons q r,p⟩
noncomputable def Zt(t:TA):TE:=λg U Q=>t g U λf b=>A0 f<=sizeLine/\ ∀p,b p=C->Q (.ref p) (upd b p<|.tup f)
noncomputable def Zx(t:TA):TE:=λg U Q=>t g U λf b=>A0 f<=sizeLine/\ ∀p,b p=C->Q (.ref p) (upd b p<|.lst f)
def NI{x1}(h:PA X c t):PE X (.Tuple c x1 a) (Zt t):=by intro f s n U Q T k;refine wpAny_Tuple_spliced<|Bo (h a f s n U _ T k) λl s1 ⟨m,g,i,r,z,q⟩=>⟨by rw[<-r.length];exact z,?_⟩;have j:g s1.heap.objs.size=C:=i.hok.fresh<|kc _;refine⟨.ref s1.heap.objs.size,upd g s1.heap.objs.size<|.tup m,i.laid (t':=s1.toks) (λb u e=>jT _ e) (kc _) ?_,rfl,q _ j⟩;exact⟨z,l,r,⟨_,kh _ rfl,rfl,_,rfl⟩⟩
def U5(h:PA X c t):PE X (.List c a) (Zx t):=by intro f s n U Q T k;refine wpAny_List_spliced<|Bo (h a f s n U _ T k) λl s1 ⟨m,g,i,r,z,q⟩=>⟨by rw[<-r.length];exact z,?_⟩;have j:g s1.heap.objs.size=C:=i.hok.fresh<|kc _;refine⟨.ref s1.heap.objs.size,upd g s1.heap.objs.size<|.lst m,i.laid (t':=s1.toks) (λb u e=>jT _ e) (kc _) ?_,rfl,q _ j⟩;exact⟨z,l,0,r,kh _ rfl⟩
end
abbrev Sp:=List V->Hp->VK->XK->Prop
abbrev Kn:=List df->Hp->Shared->XK->iN->Shared->Prop
structure Kk(P:ja)(w:iW)(K:jb)(mg:ly)(base:iX)(A:iY)(outer:List df)(s:iJ)(H:Hp):Prop where
 frames:A.frames=A7 outer
 mod:Mod K mg base
 bs: ∀b o,base.get? b=A7 o->s.heap.get? b=A7 o/\H b=AX
 bsz:base.objs.size<=s.heap.objs.size
 HA:s.heap.FunFrames base outer
 frf: ∀b∈HC outer,H b=AX
 hok:Ft P w H s.heap
 bare:dW s.gens
def CE(a:List df)(P:ja)(w:iW)(U:Hp)(s:iJ)(Q:VK)(u:iN)(b:iJ):Prop:=
 ∃v c,b.os=s.os/\dW b.gens/\Un (HC a) [] U c s.heap b.heap/\Ft P w c b.heap/\RelV v u/\Q v c
def CR(CX:Kn)(a:List df)(P:ja)(w:iW)(U:Hp)(s:iJ)(Q:VK)(E:XK)(r:hG)(b:iJ):Prop:=
 match r with
 | .ok (.ret u)=>CE a P w U s Q u b
 | .ok _=>False
 | .error e=>CX a U s E e b
structure Eg(P:ja)(w:iW)(K:jb)(mg:ly)(base:iX)(CX:Kn)(k:Nat)(f:iE)(fd:mI)(ps:jh)(sp:Sp):Prop where
 len: ∀vs H Q E,sp vs H Q E->A0 vs=A0 ps
 run: ∀(A:iY) (outer:List df) (s:iJ) (H:Hp) (args:Args) (us:jF) (vs:List V) (Q:VK) (E:XK),C2 k A->Kk P w K mg base A outer s H->f5 s fd args (ps.zip us)->Vals vs us->sp vs H Q E->
  bP (ai P w) A (.call (.ref f) args) (CR CX outer P w H s Q E) s
def Eg.mono{P:ja}{w:iW}{K:jb}{d:ly}{base:iX}{CX:Kn}{j k:Nat}{f:iE}{c:mI}{e:jh}{g:Sp}(F:Eg P w K d base CX j f c e g)(h:j<=k):
  Eg P w K d base CX k f c e g:=⟨F.len,λA a s U b us vs Q E i=>F.run A a s U b us vs Q E<|i.mono h⟩
section
variable {X:Cx}{a:ju}{c:St}{H:Hp}{s e:iJ}
def Inv.NC(U:Inv X a c H s):Kk X.prog X.w X.K X.mg X.base X.A X.stack s H:=
 ⟨U.ok.frames,U.ok.mod,U.bs,mT U.ok.bsz U.sz,U.stack,U.Ht,U.hok,U.bare⟩
def Inv.after{Q:VK}{u:iN}(U:Inv X a c H s)(h:CE X.stack X.prog X.w H s Q u e):EP X a c Q u e:=by obtain⟨v,j,os,f,un,i,r,q⟩:=h;obtain⟨l,g,d,t,k⟩:=e;obtain rfl:k=s.os:=os;exact⟨v,j,U.call (h':=l) (g':=g) (d':=d) (t':=t) (ch:=[]) un i f λb z=>absurd z<|by simp,r,q⟩
end
noncomputable def Xw(c:Sp)(b:List V)(E:XK)(t:TA):TE:=λe U Q=>t e U λd a=>c (d++b) a Q E
def Binds(K:jb)(c:mI)(b:jh)(a:jF):Prop:=
 ∀(s:iJ) (us:jF),K.In s.heap->(us++a).length=A0 b->f5 s c ⟨us,[]⟩ (b.zip<|us++a)
def Binds.all{K:jb}{c:mI}{b:jh}(h: ∀a:List iN,A0 a=A0 b->e7 c ⟨a,[]⟩=pure (b.zip a)):Binds K c b []:=λs a _ d=>by rw[yD] at d ⊢;exact .of_eq<|h a d
def EX(c:Kn)(X:Cx)(E:XK):Prop:= ∀(a:ju) (d:St) (U:Hp) (s:iJ) (e:iN) (b:iJ),Inv X a d U s->c X.stack U s E e b->X.xe e b
section
variable {X:Cx}{l:Kn}{k:Nat}{f C:iE}{j:mI}{d:jh}{i:Sp}{c:List V}{b:jF}{E:XK}{x m:aw}{p a n:bu}{e o:iK}{g:kD}{v:TE}{t:TA}
def Ut{q:ju}{L:St}{H:Hp}{s:iJ}{Q:VK}{y:jF}{B:List V}(F:Eg X.prog X.w X.K X.mg X.base l k f j d i)(M:C2 k X.A)(G:Binds X.K j d b)(hd:Vals c b)(N:EX l X E)
  (I:Inv X q L H s)(r:Vals B y)(h:i (B++c) H Q E):ah (ai X.prog X.w) X.A (call (.ref f) y) (EP X q L Q) X.xe s:=by
 have O:Vals (B++c) (y++b):=r.append hd;have J:(y++b).length=d.length:=by rw[<-O.length];exact F.len _ _ _ _ h
 refine Av<|vE (F.run X.A X.stack s H ⟨y,[]⟩ (y++b) (B++c) Q E M I.NC (G s y I.HN J) O h) λr U z=>?_
 cases r with
 |error e=>exact N q L H s e U I z
 |ok T=>
  cases T with
  |ret u=>exact I.after z
  |next=>exact aH z
  |brk=>exact aH z
  |cont=>exact aH z
def Jm(F:Eg X.prog X.w X.K X.mg X.base l k f j d i)(J:C2 k X.A)(T:Gl X x)(G:X.mg x=A7 (.ref f))(hk:bG X.K (.ref f)=B8)(L:Binds X.K j d b)(hd:Vals c b)(M:EX l X E)
  (B:PA X (e::g) t)(N:(x==("__debug__":aw))=Y:=by decide)(O:ag (e::g) X.env=(Y,aM e X.env)::ag g X.env:=by rfl)(z:(aQ a<|ag g X.env).any (·.1)=Y:=by rfl):
  PE X (.Call (.Name x p) (e::g) [] a) (Xw i c E t):=by
 intro u s U H Q I h;refine wt<|xy I T G ?_ N;refine PySem.W.callWith_K (h₀:=X.base) I.ok.mod.kin hk (Bo (B a u s U H _ I h) λus s1 ⟨vs,Y',y,r,q⟩=>⟨y.HN,?_⟩) O z;exact Ut F J L hd M y r q
end
section
variable {X:Cx}{w:Kn}{k:Nat}{f C:iE}{u:mI}{n r:jh}{l:Sp}{E:XK}{x m:aw}{p c b a:bu}{e o:iK}{v:kD}{d:List cG}{i j:TE}{t h:TA}{q:Option aw}
variable {g:List iN->List iN->List iN}{s:List V->List V->List V}
end
structure AY(N P:jh)(sc:jG):Prop where
 kind:sc.kind= .function
 co:sc.isCoroutine=B6
 gen:sc.isGenerator=B6
 nd:N.Nodup
 pre:N.take P.length=P
 par: ∀x∈P,sc.names.lookup x=A7 .local\/sc.names.lookup x=A7 .cell
 nofree: ∀y∈sc.names,y.2≠ .free
theorem Dg{kindOf:aw->Option c5}{x:aw}: ∀{binds:List (aw×iN)} {m:ly},(∀v,(x,v)∉binds)->j3 kindOf binds m x=m x
 |[],_,_=>rfl
 |(n,v)::r,m,h=>by
  unfold j3;rw[Dg λw a=>h w<|jZ _ a];split
  .have:x≠n:=by rintro rfl;exact h v jY
   simp[this]
  .rfl
theorem Di{kindOf:aw->Option c5}{x:aw}: ∀{binds:List (aw×iN)} {m:ly},(∀v,(x,v)∉binds)->j4 kindOf binds m x=m x
 |[],_,_=>rfl
 |(n,v)::r,m,h=>by
  unfold j4;rw[Di λw a=>h w<|jZ _ a];split
  .rfl
  .have:x≠n:=by rintro rfl;exact h v jY
   simp[this]
theorem Dh{kindOf:aw->Option c5}{x:aw}{v:iN}: ∀{P:jh} {a:jF} {i:Nat} {m:ly},P.Nodup->P[i]?=J x->a[i]?=J v->kindOf x=J .local->
  j3 kindOf (P.zip a) m x=J v
 |[],_,_,_,_,h,_,_=>by simp at h
 |_::_,[],_,_,_,_,h,_=>by simp at h
 |p::P,w::a,0,m,c,h1,b,hk=>by simp at h1 b;subst h1;subst b;show j3 kindOf ((p,w)::P.zip a) m p=_;unfold j3;rw[Dg λv hv=>(yH.mp c).1 (DU hv).1,iQ hk];simp
 |p::P,w::a,i+1,m,c,h1,b,hk=>by show j3 kindOf ((p,w)::P.zip a) m x=_;unfold j3;exact Dh (i:=i) (yH.mp c).2 (by simpa using h1) (by simpa using b) hk
theorem Dj{kindOf:aw->Option c5}{x:aw}{v:iN}: ∀{P:jh} {a:jF} {i:Nat} {m:ly},P.Nodup->P[i]?=J x->a[i]?=J v->kindOf x≠J .local->
  j4 kindOf (P.zip a) m x=J v
 |[],_,_,_,_,h,_,_=>by simp at h
 |_::_,[],_,_,_,_,h,_=>by simp at h
 |p::P,w::a,0,m,c,h1,b,hk=>by simp at h1 b;subst h1;subst b;show j4 kindOf ((p,w)::P.zip a) m p=_;unfold j4;rw[Di λv hv=>(yH.mp c).1 (DU hv).1,jc hk];simp
 |p::P,w::a,i+1,m,c,h1,b,hk=>by show j4 kindOf ((p,w)::P.zip a) m x=_;unfold j4;exact Dj (i:=i) (yH.mp c).2 (by simpa using h1) (by simpa using b) hk
noncomputable def nN(N:jh)(vs:List V):St:=vs.map J++ac (A0 N-A0 vs) C
noncomputable def rn(CX:Kn)(P:ja)(w:iW)(K:jb)(c:ly)(base:iX)(N:jh)(qual:aw)(scope:jG)(f:iE)(cd:iN)(A:iY)(a:List df)(s:iJ)(U:Hp)(E:XK):Cx where
 prog:=P
 w:=w
 K:=K
 mg:=c
 base:=base
 A:=A.deeper<|aR qual scope s.heap.objs.size f cd
 N:=N
 s₀:=s
 H₀:=U
 env:=aR qual scope s.heap.objs.size f cd
 outer:=a
 stack:=aR qual scope s.heap.objs.size f cd::a
 ex:=[]
 calm:=I
 fn:=λ_=>I
 pn:=[]
 xe:=λe h=>ah (ai P w) (A.deeper<|aR qual scope s.heap.objs.size f cd) (Wp (aR qual scope s.heap.objs.size f cd) e) (λ_ b=>CX a U s E e b) (λg b=>CX a U s E g b) h
def Gj{a:jG}{n:Nat}{x:aw}(h:a.names.lookup x=J .cell): ∃c,(be n a.names []).lookup x=J c:=by have q:=DT a.names n []<|.inl h;exact Kb.mp q
def CY{Q:Kn}{P:ja}{w:iW}{K:jb}{L:ly}{base:iX}{N m:jh}{qual:aw}{scope:jG}{f:iE}{cd:iN}{A:iY}{d:List df}{s s1:iJ}{H:Hp}{E:XK}{O:jF}{o:List V}
  (S:AY N m scope)(hd:A.handled=AX)(j:Kk P w K L base A d s H)(Y:(A0 o)=A0 m)(r:Vals o O)
  (x:InCallC s s.heap.objs.size (j3 (aR qual scope s.heap.objs.size f cd).kindOf (m.zip O) λ_=>AX) (be (s.heap.objs.size+1) scope.names []) (j4 (aR qual scope s.heap.objs.size f cd).kindOf (m.zip O) λ_=>AX) s1):
  Inv (rn Q P w K L base N qual scope f cd A d s H E) [] (nN N o) H s1:=by
 have M:(A0 m)<=(A0 N):=by have:=ox de S.pre;rw[qP] at this;lia
 obtain⟨h1,D,rfl,hk⟩:=x.done;have I: ∀b:iE,b∉(rn Q P w K L base N qual scope f cd A d s H E).ex:=λb z=>absurd (show b∈([]:List iE) from z) (by simp)
 refine⟨⟨j.mod,S.kind,rfl,rfl,kc _,λy z c h1 g=>?_,λy l=>?_,λy c _ h=>?_,λ_=>hd,Mu j.frames,.inr ⟨rfl,rfl⟩,λb z=>absurd z<|I b,j.bs,j.bsz,λb _ _=>I b,λb z=>absurd z<|I b,j.HA,j.frf⟩,
  rfl,j.bare,Un.kept hk,⟨_,x.toInCall.ns,λi y v h1 g U=>?_⟩,λy c h=>⟨_,x.cell y c h⟩,j.hok.fresh<|kc _,λy c h=>?_,λp t=>absurd (show p∈([]:List (iE×eE)) from t)<|by simp,j.hok.kept hk,?_⟩
 .exact V0 x.apart (qO h1) (qO g)
 .have l:scope.names.lookup y=A7 .cell\/scope.names.lookup y=A7 .free:=l;rcases l with l|l
  .exact Gj l
  .exact absurd AU (S.nofree _ (qO l))
 .exact tU (x.above y c<|qO h)
 .have C:i<(A0 o):=by
   unfold nN at g;by_cases C:i<A0 o
   .exact C
   .rw[qN<|by simpa using C] at g;rw[rP] at g;split at g<;>cases g
  have G:o[i]?=A7 v:=by
   unfold nN at g;rw[sP<|by simpa using C,kZ] at g
   cases e:o[i]? with
   |none=>rw[e] at g;cases g
   |some a=>rw[e] at g;cases g;rfl
  obtain⟨u,T,J⟩:=r.get G
  have t:m[i]?=A7 y:=by rw[<-S.pre,Mt<|by lia];exact h1
  have B:m.Nodup:=by rw[<-S.pre];exact S.nd.sublist<|yC _ _
  refine⟨u,J,?_⟩;rcases S.par y (mS t) with k|k
  .exact .inl ⟨k,Dh B t T k⟩
  .obtain⟨c,e⟩:=Gj (n:=s.heap.objs.size+1) k;refine .inr ⟨.inl k,c,e,?_⟩;have q:=x.cell y c e;rw[Dj B t T (by show scope.names.lookup y≠_;rw[k];decide)] at q;exact q
 .exact j.hok.fresh (tU<|x.above y c<|qO h)
 .unfold nN;show _=A0 N;rw[mR,jM,Mr]
  lia
def Pc{B:Kn}{P:ja}{w:iW}{K:jb}{C:ly}{base:iX}{k:Nat}{f:iE}{j qual:aw}{c:cc}{d:List bn}{scope:jG}{dV kV p pm l ct oc:iN}{an od:Option iE}
  {r6:ze}{N L:jh}{U:Sp}(lk:K.lookup f=A7 ⟨oc,od,.func<|b4 j qual c d scope dV kV p pm an l ct,r6⟩)(n5:eh K l qual=B8)(S:AY N L scope)
  (len: ∀g H Q E,U g H Q E->A0 g=A0 L)
  (l8: ∀(A:iY) (a:List df) (s:iJ) (H:Hp) (g:List V) (Q:VK) (E:XK),C2 k (A.deeper<|aR qual scope s.heap.objs.size f l)->U g H Q E->
   ∃t,Io (rn B P w K C base N qual scope f l A a s H E) d t/\t {nx:=λ_ i=>Q .B7 i,rt:=Q} (nN N g) H):
  Eg P w K C base B (k+1) f (b4 j qual c d scope dV kV p pm an l ct) L U:=by
 refine⟨len,λA a s H D us g Q E O z hb r F=>?_⟩;have hl:=len _ _ _ _ F;have Y:K.In s.heap:=z.mod.kin.keeps λb o e=>(z.bs b o e).1;have T:s.heap.NoLimit:=z.mod.nolimit.keeps λb o e=>(z.bs b o e).1
 have R: ∀y∈L.zip us,scope.names.lookup y.1=A7 .local\/(scope.names.lookup y.1=A7 .cell/\((be (s.heap.objs.size+1) scope.names []).lookup y.1).isSome=B8):=λ⟨n,v⟩ hy=>by
  rcases S.par n (DU hy).1 with q|q
  .exact .inl q
  .exact .inr ⟨q,DT _ _ _ (.inl q)⟩
 refine Mq O.depth (Y _ _ lk) AU S.co S.gen AU (PySem.W.codeRec_of Y n5)<|hb _ _ _ _ ?_;refine Mp S.kind R λX he s1 x=>?_;subst he;refine⟨T.keeps x.toInCall.keep,WP ?_⟩;obtain⟨t,ht,hq⟩:=l8 A a s H g Q E (O.deeper _) F;have I:Inv (rn B P w K C base N qual scope f l A a s H E) [] (nN N g) H s1:=CY S O.hd z hl r x;refine oW (ht [] s1 (nN N g) H _ I hq) (λZ M m=>?_) λe M m=>m
 have fin: ∀{h:St} {i:Hp} {v:V} {u:iN},Inv (rn B P w K C base N qual scope f l A a s H E) [] h i M->RelV v u->Q v i->CE a P w H s Q u M:=
  λ{h i v u} J G q=>⟨v,i,J.os,J.bare,J.base,J.hok,G,q⟩
 cases Z with
 |ret u=>obtain⟨v,h,i,J,G,q⟩:=m;exact fin J G q
 |next=>obtain⟨h,i,J,q⟩:=m;exact fin (v:=V.B7) (u:=ap) J AU q
 |brk=>obtain⟨_,_,_,q⟩:=m;exact aH q
 |cont=>obtain⟨_,_,_,q⟩:=m;exact aH q
section
variable {X:Cx}{x:aw}{p a:bu}{e:iK}{b:kD}{t:TA}{id T:String}{r:List V->Hp->VK->Prop}
def Nr(r:List V->Hp->VK->Prop)(t:TA):TE:=λf U Q=>t f U λd c=>r d c Q
def uh(k:kG X (.builtin id) r)(m:Gl X x)(n:X.mg x=C)(hv:aA x=J (.builtin id))(j:PA X (e::b) t)(o:x≠"__name__":=by decide)(q:(x==("__debug__":aw))=Y:=by decide)
  (l:ag (e::b) X.env=(Y,aM e X.env)::ag b X.env:=by rfl)(i:(aQ a<|ag b X.env).any (·.1)=Y:=by rfl):PE X (.Call (.Name x p) (e::b) [] a) (Nr r t):=by
 intro c s d U Q O h;refine wt<|um O m n hv ?_ o q;exact ab0 (Bo (j a c s d U _ O h) λw s1 N=>by obtain⟨y,f,g,v,u⟩:=N;exact k c s1 d f y w Q g v u) l i
def rg(k:kG X (.type T) r)(m:Gl X x)(n:X.mg x=C)(hv:aA x=J (.type T))(j:PA X (e::b) t)(o:x≠"__name__":=by decide)(q:(x==("__debug__":aw))=Y:=by decide)
  (l:ag (e::b) X.env=(Y,aM e X.env)::ag b X.env:=by rfl)(i:(aQ a<|ag b X.env).any (·.1)=Y:=by rfl):PE X (.Call (.Name x p) (e::b) [] a) (Nr r t):=by
 intro c s d U Q O h;refine wt<|um O m n hv ?_ o q;exact DV (Bo (j a c s d U _ O h) λw s1 N=>by obtain⟨y,f,g,v,u⟩:=N;exact k c s1 d f y w Q g v u) l i
end
end L2
namespace HT
section
open PySem.SeqAt
open PySem.AutoSeq1 (wpAny_loadPart')
open PySem.MeetsSeq PySem.MeetsSeq2 PySem.MeetsSeq3
end
section
variable {a:ja}{w:iW}{A:iY}{E:jt}{s:iJ}
def YJ{t b:iE}{d c:jF}{Q:jt}(y:r9 s.heap t d.toArray)(x:r9 s.heap b c.toArray)(hv:d≠[])
  (h1:c=[]->Q (.ref t) s)(v:c≠[]->Q (.ref s.heap.objs.size) {s with heap:=s.heap.push {cls:= .type "tuple",data:= .seq (d++c).toArray}})
  (l:(A0 d)+A0 c<=sizeLine):ah (ai a w) A (bw .Add (.ref t)<|.ref b) Q E s:=by
 obtain⟨⟨k,dd,f,r⟩,h,p,n,hd⟩:=id y;obtain⟨⟨z,o,data2,u⟩,j,m,q,g⟩:=id x;simp only at p hd m g;subst p hd m g;have e:d.toArray++c.toArray=(d++c).toArray:=by simp
 by_cases i:c=[]
 .exact DS ⟨_,h,rfl⟩ ⟨_,j,rfl⟩ He Hd Hc Hb (Ha _ _)
   (tuple_addW1 t b d.toArray c.toArray n q dd o r u (by simpa using hv)<|by simp[i]) ⟨h,j,h1 i⟩
 .refine DS ⟨_,h,rfl⟩ ⟨_,j,rfl⟩ He Hd Hc Hb (Ha _ _)
   (tuple_addW2 t b d.toArray c.toArray n q dd o r u (by simpa using hv) (by simpa using i)<|by rw[jy,jy];exact l) ⟨h,j,?_⟩
  rw[e];exact v i
noncomputable def Ci(n d:Nat):Option Int->Nat
 |none=>d
 |some v=>if v<0 then(v+(n:Int)).toNat else min v.toNat n
theorem QK(n d:Nat):Ci n d C=d:=rfl
def SY(n d k:Nat):Ci n d (J (k:Int))=min k n:=by show(if(k:Int)<0 then((k:Int)+(n:Int)).toNat else min (k:Int).toNat n)=min k n;rw[jc<|by lia,tJ]
def Us(n d:Nat)(hd:d<=n)(o:Option Int):Ci n d o<=n:=by
 cases o with
 |none=>exact hd
 |some v=>
  show(if v<0 then(v+(n:Int)).toNat else min v.toNat n)<=n;by_cases hv:v<0
  .rw[iQ hv];lia
  .rw[jc hv];exact sa _ _
def JZ(v:Int)(n d:Nat):(if v<0 then max (v+(n:Int)) 0 else min v (n:Int))=((Ci n d (J v):Nat):Int):=by
 show(if v<0 then max (v+(n:Int)) 0 else min v (n:Int))=(((if v<0 then(v+(n:Int)).toNat else min v.toNat n):Nat):Int)
 by_cases hv:v<0
 .simp only[iQ hv];lia
 .simp only[jc hv];lia
def acO(lo b:Option Int)(n:Nat):cI lo b 1 (n:Int)=(((Ci n 0 lo:Nat):Int),((Ci n n b:Nat):Int)):=by
 have h1: ¬((1:Int)<0):=by lia
 unfold cI;simp only[h1,jX];refine Prod.ext ?_ ?_
 .cases lo with
  |none=>rfl
  |some v=>exact JZ v n 0
 .cases b with
  |none=>rfl
  |some v=>exact JZ v n n
def acg(i j:Nat):bQ (i:Int) (j:Int) 1=j-i:=by
 unfold bQ;have h1:(1:Int)>0:=by lia
 simp only[h1,kE,Int.ediv_one];split<;>lia
def AL{v:iN}{o:Option Int}{Q:Option Int->Shared->Prop}(p:ej v o)(h:Q o s):ah (ai a w) A (x0 v) Q E s:=by
 cases p with
 |none=>exact M0 h
 |int i t=>exact slicePart_int h
def qY{g:iE}{e f:iN}{lo b:Option Int}{n:Nat}{Q:Int×Int×Nat->Shared->Prop}(i:s.heap.IsSliceOf g e f .none)(j:ej e lo)(k:ej f b)
  (h:Q (((Ci n 0 lo:Nat):Int),1,Ci n n b-Ci n 0 lo) s):ah (ai a w) A (eT (.ref g)<|pure (n:Int)) Q E s:=by
 obtain⟨os,c,l,d⟩:=id i;unfold eT x6;refine iF<|iF<|rO c d (x:=e) H<|iF<|rO c d (x:=f) H<|iF<|rO c d (x:= .none) H<|iP ?_;refine iF<|M0 ?_;show ah _ _ (if((1:Int)==0)=I then _ else _) _ _ s;rw[jc<|by decide];refine iF<|AL j<|iF<|AL k<|iF<|iP ?_;show ah _ _ (match cI lo b 1 (n:Int) with|(lo,b)=>pure (lo,(1:Int),bQ lo b 1)) _ _ s;rw[acO lo b n];show ah _ _ (pure (((Ci n 0 lo:Nat):Int),(1:Int),bQ ((Ci n 0 lo:Nat):Int) ((Ci n n b:Nat):Int) 1)) _ _ s;rw[acg];exact iP h
def aee(b:lI)(i k:Nat):((au k).filterMap λ(m:Nat)=>b[((i:Int)+(m:Int)*1).toNat]?).toArray=((b.toList.drop i).take k).toArray:=by
 have e:(λ(m:Nat)=>b[((i:Int)+(m:Int)*1).toNat]?)=λm=>b[i+m]?:=by
  funext m;have:((i:Int)+(m:Int)*1).toNat=i+m:=by lia
  rw[this]
 rw[e];have:=pick_run b i k;rw[k6] at this;have c:((λx=>b[x]?)∘λx=>i+x)=λm=>b[i+m]?:=rfl;rw[c] at this;rw[this]
def acs{t f:iE}{b:lI}{i j:iN}{lo c:Option Int}{Q:jt}(d:r9 s.heap t b)(g:s.heap.IsSliceOf f i j .none)(v:ej i lo)(x:ej j c)
  (r: ¬(Ci b.size 0 lo=0/\Ci b.size b.size c=b.size))
  (h:Q (.ref s.heap.objs.size) {s with heap:=s.heap.push {cls:= .type "tuple",data:= .seq ((b.toList.drop<|Ci b.size 0 lo).take<|Ci b.size b.size c-Ci b.size 0 lo).toArray}})
  (p:b.size<=sizeLine):ah (ai a w) A (fe (.ref t)<|.ref f) Q E s:=by
 have e:sizeOk (.seq ((b.toList.drop<|Ci b.size 0 lo).take<|Ci b.size b.size c-Ci b.size 0 lo).toArray):=by show((b.toList.drop<|Ci b.size 0 lo).take<|Ci b.size b.size c-Ci b.size 0 lo).toArray.size<=sizeLine;rw[jy,qP,dF,kF];omega
 have B:Ci b.size b.size c<=b.size:=Us _ _ (kc _) c;apply FL;intro y u;obtain⟨os,l,k,z⟩:=id g;apply u;have o:s.TypeIs (.ref f) "slice":=⟨os,l,k⟩
 unfold fe
 try with_reducible refine mn ?_
 first|refine iF (iP ?_)|skip
 refine iF<|v5 d.typeIs (by decide) ?_
 refine iF (tQ (name:=bD "__getitem__") d.typeIs BR
  (qM BR d.typeIs Mn ?_<|u8 _ _))
 show ah _ _ (cx (.ref t)>>=_) _ _ s;refine iF<|Tk d ?_;refine iF<|tH o ?_;rw[iQ<|by decide];refine iF<|qY g v x ?_
 have n: ¬((((Ci b.size 0 lo:Nat):Int)==0&&(1:Int)==1&&(Ci b.size b.size c-Ci b.size 0 lo)==b.size)=I):=by intro q;rw[lA,lA] at q;have T:((Ci b.size 0 lo:Nat):Int)=0:=vD q.1.1;have U:Ci b.size b.size c-Ci b.size 0 lo=b.size:=vD q.2;exact r ⟨by omega,by omega⟩
 show ah _ _ (if(((Ci b.size 0 lo:Nat):Int)==0&&(1:Int)==1&&(Ci b.size b.size c-Ci b.size 0 lo)==b.size)=I then _ else _) _ _ s;rw[jc n,aee]
 first
  |exact iF (m:=bb _)<|nr (iP ⟨_,rfl,iP h⟩) e
  |exact iF (m:=bb _)<|nr (iF<|iP<|iP ⟨_,rfl,iP h⟩) e
  |exact iF<|iF (m:=bb _)<|nr (iP<|iP ⟨_,rfl,iP h⟩) e
  |exact iF<|iF (m:=bb _)<|nr (iP ⟨_,rfl,iP h⟩) e
end
end HT
namespace L2
abbrev TO:=St->Hp->(Option Int->Hp->Prop)->Prop
def PO(X:Cx)(e:Option Expr)(t:TO):Prop:=
 ∀(a:ju) (s:iJ) (b:St) (U:Hp) (Q:Option Int->Hp->Prop),Inv X a b U s->t b U Q->
  ah (ai X.prog X.w) X.A (evalPart e X.env) (λu d=> ∃o c,Inv X a b c d/\ej u o/\Q o c) X.xe s
noncomputable def Qu:TO:=λ_ U Q=>Q C U
def Xq(t:TE):TO:=λb U Q=>t b U λx a=> ∃i,x= .int i/\Q (J i) a
section
variable {X:Cx}{e:iK}{d:TE}{lo c:Option Expr}{f g:TO}{k j:bu}
def Ji:PO X C Qu:=by intro a s b U Q T h;rw[O4];exact iP ⟨C,U,T,.none,h⟩
def Jh(h:PE X e d):PO X (J e) (Xq d):=by intro a s p U Q T m;rw[evalPart_some];refine Bo (h a s p U _ T m) λu s1 O=>?_;obtain⟨x,b,l,o,n⟩:=O;obtain⟨i,rfl,q⟩:=n;obtain⟨t,rfl⟩:=o;exact⟨J i,b,l,.int i t,q⟩
def Pn(X:Cx)(r:V->Option Int->Option Int->Hp->VK->Prop):Prop:=
 ∀(a:ju) (s:iJ) (l:St) (U:Hp) (x:V) (v h i:iN) (lo c:Option Int) (b:iE) (Q:VK),Inv X a l U s->RelV x v->s.heap.IsSliceOf b h i .none->ej h lo->ej i c->r x lo c U Q->
  ∃T id,tv (.type T) "__getitem__"=pure (J<|.builtin id)/\s.TypeIs v T/\ah (ai X.prog X.w) X.A (fe v<|.ref b) (EP X a l Q) X.xe s
def tSl(r:V->Option Int->Option Int->Hp->VK->Prop)(d:TE)(f g:TO):TE:=λa U Q=>d a U λx b=>f a b λl h=>g a h λu i=>r x l u i Q
def FE{r:V->Option Int->Option Int->Hp->VK->Prop}(M:Pn X r)(O:PE X e d)(J:PO X lo f)(U:PO X c g):PE X (.Subscript e (.Slice lo c C j) k) (tSl r d f g):=by intro a s m H Q I h;refine Subscript_<|Bo (O a s m H _ I h) λv s1 a'=>?_;obtain⟨x,t,z,r1,q1⟩:=a';refine wpAny_Slice<|Bo (J a s1 m t _ z q1) λn s2 ⟨l,y,B,Y',q2⟩=>Bo (U a s2 m y _ B q2) λo i a'=>?_;obtain⟨u,p,C',pu,q3⟩:=a';rw[O4];refine iP ?_;have E:Inv X a m p {i with heap:=i.heap.push {cls:= .type "slice",data:= .fields #[n,o,.none]}}:=C'.kept (t':=i.toks) λb D q=>jT _ q;obtain⟨T,id,L,N,G⟩:=M a {i with heap:=i.heap.push {cls:= .type "slice",data:= .fields #[n,o,.none]}} m p x v n o l u i.heap.objs.size Q E r1 (Heap.IsSliceOf.new ..) Y' pu q3;show ah (ai X.prog X.w) X.A (Tl e (.Slice lo c C j) v<|.ref i.heap.objs.size) (EP X a m Q) X.xe {i with heap:=i.heap.push {cls:= .type "slice",data:= .fields #[n,o,.none]}};exact tail_any (ops:=[.ref i.heap.objs.size,v]) N L G (by with_unfolding_all rfl)
noncomputable def Gh(a:List V)(lo c:Option Int):List V:=(a.drop<|HT.Ci (A0 a) 0 lo).take<|HT.Ci (A0 a) (A0 a) c-HT.Ci (A0 a) 0 lo
def zv(a:List V)(lo c:Option Int):(Gh a lo c).length<=(A0 a):=by
 unfold Gh;rw[qP,dF]
 lia
def aag(K:jb):V->Option Int->Option Int->Hp->VK->Prop:=λx lo c U Q=> ∃a b,x= .ref a/\Hu K U a b/\
 ¬(HT.Ci (A0 b) 0 lo=0/\HT.Ci (A0 b) (A0 b) c=A0 b)/\ ∀p,U p=C->Q (.ref p) (upd U p<|.tup<|Gh b lo c)
def Um:Pn X (aag X.K):=by
 intro t s T U x v L O lo c E Q N B u z A h;obtain⟨a,l,rfl,y,w,q⟩:=h;cases B;obtain⟨m,r,n,p⟩:=N.tuple y;have i:m.toArray.size=(A0 l):=by rw[jy];exact r.length.symm
 refine⟨"tuple",_,BR.lookup,n.typeIs,?_⟩;refine HT.acs n u z A (by rw[i];exact w) ?_ (by rw[i];exact p);rw[i];refine⟨.ref s.heap.objs.size,_,N.laid (t':=s.toks) (o:= .tup (Gh l lo c)) (λb M q=>jT _ q) (kc _) ?_,rfl,q _ (N.hok.fresh<|kc _)⟩;exact⟨mT (zv l lo c) p,_,(r.drop<|HT.Ci (A0 l) 0 lo).take<|HT.Ci (A0 l) (A0 l) c-HT.Ci (A0 l) 0 lo,DR _ _⟩
def XR(K:jb):R2:=λx y U Q=> ∃a b i h,x= .ref a/\y= .ref b/\Hu K U a i/\Hu K U b h/\i≠[]/\(A0 i)+A0 h<=sizeLine/\
 (h=[]->Q (.ref a) U)/\(h≠[]-> ∀p,U p=C->Q (.ref p) (upd U p<|.tup<|i++h))
def Vals.KJ{b:List V}{a:jF}(r:Vals b a):a=[]↔b=[]:=by
 cases r with
 |nil=>simp
 |cons _ _=>simp
def Rq:ES X (bw .Add) (XR X.K):=by intro n s N H x y v u Q I L O h;obtain⟨a,b,T,G,rfl,rfl,p,r,t,m,C,E⟩:=h;cases L;cases O;obtain⟨A,l,B,_⟩:=I.tuple p;obtain⟨U,i,j,_⟩:=I.tuple r;refine HT.YJ B j (λz=>t<|l.KJ.mp z) (λz=>⟨.ref a,H,I,rfl,C<|i.KJ.mp z⟩) (λz=>?_) (by rw[<-l.length,<-i.length];exact m);refine⟨.ref s.heap.objs.size,_,I.laid (t':=s.toks) (o:= .tup (T++G)) (λb M q=>jT _ q) (kc _) ?_,rfl,E (λw=>z<|i.KJ.mpr w) _ (I.hok.fresh<|kc _)⟩;exact⟨by rw[mR];exact m,_,l.append i,DR _ _⟩
end
noncomputable def Ir(n:Nat)(i:Int):Option Nat:=if 0<=i then(if i<n then J i.toNat else C) else if -(n:Int)<=i then J (i+n).toNat else C
noncomputable def KC{b:Type}(a:List b)(i:Int):Option b:=(Ir (A0 a) i).bind λj=>a[j]?
def Ew{n:Nat}{i:Int}{j:Nat}(h:Ir n i=J j):wP i n=J j/\j<n/\ -(n:Int)<=i/\i<n:=by
 unfold Ir at h;by_cases a:0<=i
 .rw[iQ a] at h;by_cases h1:i<n
  .rw[iQ h1] at h;have e:i.toNat=j:=kL h;exact⟨by rw[G9 a h1,e],by lia,by lia,h1⟩
  .rw[jc h1] at h;cases h
 .rw[jc a] at h;by_cases h1: -(n:Int)<=i
  .rw[iQ h1] at h;have e:(i+n).toNat=j:=kL h;exact⟨by rw[G8 (by lia) h1,e],by lia,h1,by lia⟩
  .rw[jc h1] at h;cases h
def J7{b:Type}{a:List b}{i:Int}{v:b}(h:KC a i=J v): ∃j,wP i (A0 a)=J j/\a[j]?=J v/\j<A0 a/\ -((A0 a):Int)<=i/\i<(A0 a):=by
 unfold KC at h
 cases e:Ir (A0 a) i with
 |none=>rw[e] at h;cases h
 |some j=>rw[e] at h;obtain⟨h1,c,d,f⟩:=Ew e;exact⟨j,h1,h,c,d,f⟩
def Ka(b:iK):Prop:= ∀o i,subscripted b Y o i=operate [o,i] (fe o i)
def Pq(X:Cx)(r:R2):Prop:=
 ∀(b slice:iK) (a:ju) (s:iJ) (c:St) (U:Hp) (x y:V) (v u:iN) (Q:VK),Inv X a c U s->RelV x v->RelV y u->r x y U Q->
  subscripted slice Y v u=operate [v,u] (fe v u)->ah (ai X.prog X.w) X.A (Tl b slice v u) (EP X a c Q) X.xe s
def MtR(X:Cx)(id:String)(r:V->List V->Hp->VK->Prop):Prop:=
 ∀(a:ju) (s:iJ) (d:St) (U:Hp) (x:V) (c:List V) (v:iN) (b:jF) (Q:VK),Inv X a d U s->RelV x v->Vals c b->r x c U Q->
  ah (ai X.prog X.w) X.A (call (.builtin id) (v::b)) (EP X a d Q) X.xe s
section
variable {X:Cx}{a b:iK}{O L:TE}{E:bu}
def XX{r:R2}(i:Pq X r)(f:PE X a O)(g:PE X b L)(j:Ka b):PE X (.Subscript a b E) (N4 r O L):=by intro c s n U Q T h;exact Subscript_<|Wc f g T h λv u m x y d e k l q=>i a b c m n d x y v u Q e k l q<|j _ _
def aal(K:jb):R2:=λx y U Q=> ∃p c i v,x= .ref p/\y= .int i/\Fp K U p c/\KC c i=J v/\Q v U
def aak(K:jb):R2:=λx y U Q=> ∃p c i v,x= .ref p/\y= .int i/\Hu K U p c/\KC c i=J v/\Q v U
def RS:Pq X (aal X.K):=by
 intro g slice c s n H x y v u Q I M N h m;obtain⟨p,P,i,z,rfl,rfl,J,T,q⟩:=h;cases M;obtain⟨t,rfl⟩:=N;obtain⟨e,r,f,F⟩:=I.list J;obtain⟨j,h1,A,Y,B,C⟩:=J7 T;obtain⟨w,k,o⟩:=r.get A;have G:=r.length;have D:=A9;have fin:EP X c n Q w s:=⟨z,H,I,o,q⟩
 by_cases l:0<=i
 .have d:i.toNat=j:=by rw[G9 l C] at h1;exact kL h1
  exact item_listR f.isList l (by lia) (by rw[d];simpa using k) fin m
 .have d:(i+(e.toArray.size:Int)).toNat=j:=by rw[G8 (by lia) B] at h1;rw[jy,<-G];exact kL h1
  exact Mm (x:=w) f.isList.typeIs v6.lookup
   (wpAny_getItem_list_neg (Q:=λr U=>r=w/\EP X c n Q r U) f.isList (by lia) (by rw[jy]<;>lia) (by lia) (by rw[d];simpa using k) ⟨rfl,fin⟩) m
def VA:Pq X (aak X.K):=by
 intro d slice c s f H x y v u Q I C T h A;obtain⟨p,D,i,z,rfl,rfl,o,m,q⟩:=h;cases C;obtain⟨t,rfl⟩:=T;obtain⟨B,r,e,Y⟩:=I.tuple o;obtain⟨j,h1,l,J,M,N⟩:=J7 m;obtain⟨w,k,g⟩:=r.get l;have n:=r.length;have U:=A9;have fin:EP X c f Q w s:=⟨z,H,I,g,q⟩
 exact Mm (x:=w) e.typeIs BR.lookup
  (getItem_tuple (j:=j) (Q:=λr G=>r=w/\EP X c f Q r G) e (by lia) (by lia) (by rw[jy,<-n];exact h1) (by simpa using k) ⟨rfl,fin⟩) A
def acp(c:jF)(n j:Nat)(u:iN):aF (·.setIfInBounds j u) {cls:= .type "list",data:= .seq c.toArray n}={cls:= .type "list",data:= .seq (c.set j u).toArray n}:=by simp[aF]
def Inv.lst{d:ju}{f:St}{U:Hp}{s:iJ}{p:iE}{xs:List V}(T:Inv X d f U s)(h:U p=J (.lst xs)):
  ∃(c:jF) (n:Nat),Vals xs c/\s.heap.get? p=J {cls:= .type "list",data:= .seq c.toArray n}/\(A0 xs)<=sizeLine:=by
 obtain⟨z,c,n,r,e⟩:=T.hok p _ h;exact⟨c,n,r,e,z⟩
def Inv.NB{d:ju}{l:St}{U:Hp}{s:iJ}{p:iE}{w j:List V}{g c:jF}{n i:Nat}{f:eE->eE}(T:Inv X d l U s)(h:U p=J (.lst w))
  (o:s.heap.get? p=J {cls:= .type "list",data:= .seq g.toArray n})(k:f {cls:= .type "list",data:= .seq g.toArray n}={cls:= .type "list",data:= .seq c.toArray i})(r:Vals j c)(v:(A0 j)<=sizeLine)(t:Nat):
  Inv X d l (upd U p<|.lst j) {s with heap:=s.heap.update p f,toks:=t}:=by
 have e:(s.heap.update p f).get? p=J {cls:= .type "list",data:= .seq c.toArray i}:=by rw[sO f o<|by rw[k]<;>rfl,k]
 refine T.write (x:=p) (e:=p) (by rw[h];trivial) (.inl H) (λb u m q=>(vC _ _ (nL m)).trans q) ⟨_,e⟩ ?_;exact⟨v,c,i,r,e⟩
def XN:V->V->V->Hp->(Hp->Prop)->Prop:=λo i v U Q=> ∃p c k j,o= .ref p/\i= .int k/\U p=J (.lst c)/\Ir (A0 c) k=J j/\Q (upd U p<|.lst<|c.set j v)
def adU:Wg X XN:=by
 intro d s G H o i v U N u Q I B A C h;obtain⟨p,T,k,j,rfl,rfl,x,y,q⟩:=h;cases B;obtain⟨t,rfl⟩:=A;obtain⟨c,n,r,f,z⟩:=I.lst x;obtain⟨h1,J,m,w⟩:=Ew y;have e:=r.length;have M:=A9
 have g:Inv X d G (upd H p<|.lst<|T.set j v) {s with heap:=s.heap.update p (aF (·.setIfInBounds j u))}:=
  I.NB x f (acp c n j u) (r.set C j) (by rw[vB];exact z) s.toks
 by_cases l:0<=k
 .have hk:k.toNat=j:=by rw[G9 l w] at h1;exact kL h1
  exact PySem.W.ki_setAt f l (by lia) (by rw[jy,<-e];exact w) (by rw[hk];exact⟨_,g,q⟩)
 .have hk:(k+(c.toArray.size:Int)).toNat=j:=by rw[G8 (by lia) m] at h1;rw[jy,<-e];exact kL h1
  exact PySem.W.ki_setBack f (by lia) (by rw[jy,<-e];exact m) (by lia) (by rw[hk];exact⟨_,g,q⟩)
def abH(lo c:Option Int)(n:Nat):(c3 lo c C n).1=((HT.Ci n 0 lo:Nat):Int)/\(c3 lo c C n).2.1=((HT.Ci n n c:Nat):Int)/\(c3 lo c C n).2.2=1:=by
 refine⟨?_,?_,rfl⟩
 .cases lo with
  |none=>simp[c3,HT.Ci]
  |some i=>
   simp only[c3,HT.Ci,kv,show(1:Int)>0 by decide,kE];by_cases h:i<0
   .simp only[h,kE]<;>lia
   .simp only[h,jX]<;>lia
 .cases c with
  |none=>simp[c3,HT.Ci]
  |some i=>
   simp only[c3,HT.Ci,kv,show(1:Int)>0 by decide,kE];by_cases h:i<0
   .simp only[h,kE]<;>lia
   .simp only[h,jX]<;>lia
def abo(c:jF)(lo d:Option Int):slicePick c.toArray lo d C=((c.drop<|HT.Ci (A0 c) 0 lo).take<|HT.Ci (A0 c) (A0 c) d-HT.Ci (A0 c) 0 lo).toArray:=by obtain⟨h1,e,f⟩:=abH lo d c.toArray.size;unfold slicePick;rw[h1,e,f];simp only[sliceRange_one,pick_run,jy]<;>rfl
def aah(K:jb):V->Option Int->Option Int->Hp->VK->Prop:=λx lo d U Q=> ∃a c,x= .ref a/\Fp K U a c/\ ∀p,U p=C->Q (.ref p) (upd U p<|.lst<|Gh c lo d)
def Qw:Pn X (aah X.K):=by intro g s z U x v w y lo e u Q T p i m n h;obtain⟨a,c,rfl,j,q⟩:=h;cases p;obtain⟨l,r,f,k⟩:=T.list j;have d:=r.length;refine⟨"list",_,v6.lookup,f.isList.typeIs,?_⟩;refine wpAny_getItem_list_slice f.isList i m n .none (by simp) ?_ (by rw[jy]<;>lia);rw[abo,<-d];refine⟨.ref s.heap.objs.size,_,T.laid (t':=s.toks) (o:= .lst (Gh c lo e)) (λb t q=>jT _ q) (kc _) ?_,rfl,q _ (T.hok.fresh<|kc _)⟩;exact⟨mT (zv c lo e) k,_,0,(r.drop<|HT.Ci c.length 0 lo).take<|HT.Ci c.length c.length e-HT.Ci c.length 0 lo,kh _ rfl⟩
noncomputable def Tj:V->Bool
 | .B7=>I
 | .bl _=>I
 | .int _=>I
 | .str _=>I
 |_=>Y
noncomputable def eqV:V->V->Bool
 | .B7,.B7=>I
 | .bl a,.bl b=>a==b
 | .bl a,.int b=>(if a then 1 else 0)==b
 | .int a,.bl b=>a==(if b then 1 else 0)
 | .int a,.int b=>a==b
 | .str a,.str b=>a==b
 |_,_=>Y
def mP{A:iY}{s:iJ}{y x:V}{u v:iN}(f:RelV y u)(c:RelV x v)(g:Tj y=I)(e:Tj x=I):SeqAt.EqAt A s u v (eqV y x):=by
 cases y with
 |B7=>
  cases f
  cases x with
  |B7=>cases c;exact gV _
  |bl b=>cases c;exact Q1 b
  |int b=>obtain⟨t,rfl⟩:=c;exact ae5 b t
  |str b=>obtain⟨t,rfl⟩:=c;exact ae4 b t
  |_=>exact absurd (show Y=I from e) ki
 |bl a=>
  cases f
  cases x with
  |B7=>cases c;exact SI a
  |bl b=>cases c;exact im a b
  |int b=>obtain⟨t,rfl⟩:=c;exact SS a b t
  |str b=>obtain⟨t,rfl⟩:=c;exact Sr a b t
  |_=>exact absurd (show Y=I from e) ki
 |int a=>
  obtain⟨d,rfl⟩:=f
  cases x with
  |B7=>cases c;exact Q2 a d
  |bl b=>cases c;exact Sc a d b
  |int b=>obtain⟨t,rfl⟩:=c;exact R1 a d b t
  |str b=>obtain⟨t,rfl⟩:=c;exact gw a d b t
  |_=>exact absurd (show Y=I from e) ki
 |str a=>
  obtain⟨d,rfl⟩:=f
  cases x with
  |B7=>cases c;exact Ps a d
  |bl b=>cases c;exact PP a d b
  |int b=>obtain⟨t,rfl⟩:=c;exact gv a d b t
  |str b=>obtain⟨t,rfl⟩:=c;exact aeF a d b t
  |_=>exact absurd (show Y=I from e) ki
 |_=>exact absurd (show Y=I from g) ki
def yb:kG X (.builtin "len") (λk U Q=> ∃p d,k=[.ref p]/\(Fp X.K U p d\/Hu X.K U p d)/\Q (.int d.length) U):=by
 intro j s t U k o Q T r h;obtain⟨p,d,rfl,e,q⟩:=h;obtain⟨u,rfl,m⟩:=sU r;cases m;have n:=A9;rcases e with e|e
 .obtain⟨f,i,g,l⟩:=T.list e;have c:=i.length;exact Calls.call_len_list g.isList (by simp only[jy]<;>lia) ⟨.int d.length,U,T.tok _,⟨s.toks+1,by rw[jy,c]⟩,q⟩
 .obtain⟨f,i,g,l⟩:=T.tuple e;have c:=i.length;exact len_tuple g (by simp only[jy]<;>lia) ⟨.int d.length,U,T.tok _,⟨s.toks+1,by rw[jy,c]⟩,q⟩
def ya:kG X (.type "list") (λB U Q=> ∃p i,B=[.ref p]/\(Fp X.K U p i\/Hu X.K U p i)/\ ∀l,U l=C->Q (.ref l) (upd U l<|.lst i)):=by
 intro v s T U B G Q N r h;obtain⟨p,i,rfl,k,q⟩:=h;obtain⟨u,rfl,M⟩:=sU r;cases M
 have fin: ∀(c:jF),Vals i c->i.length<=sizeLine-> ∀(d:iX) (f:Nat),(∀b A,s.heap.get? b=J A->d.get? b=J A)->
   d.get? s.heap.objs.size=J {cls:= .type "list",dict:=C,data:= .seq c.toArray f,slots:= #[]}->EP X v T Q (.ref s.heap.objs.size) {s with heap:=d}:=λc g m d f t e=>
  ⟨.ref s.heap.objs.size,_,N.laid (t':=s.toks) t (kc _) (show B9 X.prog X.w _ d _ (.lst i) from⟨m,c,f,g,e⟩),rfl,q _ (N.hok.fresh<|kc _)⟩
 rcases k with k|k
 .obtain⟨c,g,z,m⟩:=N.list k;have j:=g.length;obtain⟨o,y,x,n,hd⟩:=z.isList;exact O8 p (.inl H) y x hd (λd f t e=>fin c g m d f t e) (by simp only[jy]<;>omega)
 .obtain⟨c,g,z,m⟩:=N.tuple k;have j:=g.length;obtain⟨o,y,x,n,hd⟩:=z;exact O8 p (.inr H) y x hd (λd f t e=>fin c g m d f t e) (by simp only[jy]<;>omega)
def vR:kG X (.type "tuple") (λv U Q=> ∃p f,v=[.ref p]/\((Fp X.K U p f/\ ∀l,U l=C->Q (.ref l) (upd U l<|.tup f))\/(Hu X.K U p f/\Q (.ref p) U))):=by
 intro c s x U v B Q T r h;obtain⟨p,f,rfl,h⟩:=h;obtain⟨u,rfl,A⟩:=sU r;cases A;rcases h with⟨i,q⟩|⟨i,q⟩
 .obtain⟨d,k,j,t⟩:=T.list i;have n:=k.length;refine call_tuple_list j.isList (λg z=>?_) (by simp only[jy]<;>lia);have m:Inv X c x U {s with heap:=g}:=T.kept (t':=s.toks) z
  have y:Inv X c x (upd U g.objs.size<|.tup f) {s with heap:=g.push {cls:= .type "tuple",data:= .seq d.toArray}}:=
   m.laid (t':=s.toks) (λb o e=>jT _ e) (kc _) (show B9 X.prog X.w _ _ _ (.tup f) from⟨t,d,k,DR _ _⟩)
  exact⟨.ref g.objs.size,_,y,rfl,q _ (m.hok.fresh<|kc _)⟩
 .obtain⟨d,k,j,t⟩:=T.tuple i;exact call_tuple_same j ⟨.ref p,U,T,rfl,q⟩
def tyV(K:jb)(T:String)(x:V)(U:Hp):Prop:=match x with
 | .str _=>T="str"
 | .int _=>T="int"
 | .ref p=>(T="list"/\ ∃d,Fp K U p d)\/(T="tuple"/\ ∃o,K.lookup p=J o/\o.cls= .type "tuple"/\o.dict=C)\/
   (T="dict"/\((∃c,U p=J (.dK c))\/ ∃c,U p=J (.dT c)))\/(T="set"/\ ∃S n,U p=J (.set S n))
 |_=>False
def MP{d:ju}{q:St}{U:Hp}{s:iJ}{T:String}{x:V}{v:iN}(Q:Inv X d q U s)(r:RelV x v)(ty:tyV X.K T x U):
  s.TypeIs v T/\ ∀a,v= .ref a-> ∃h,s.heap.get? a=J h/\h.dict=C:=by
 cases x with
 |str z=>obtain⟨t,rfl⟩:=r;cases(show T="str" from ty);exact⟨typeIs_str s z t,λ_ e=>nomatch e⟩
 |int i=>obtain⟨t,rfl⟩:=r;cases(show T="int" from ty);exact⟨tz s i t,λ_ e=>nomatch e⟩
 |ref p=>
  cases r;rcases ty with⟨rfl,u,l⟩|⟨rfl,o,hk,k,hd⟩|⟨rfl,hk⟩|⟨rfl,S,n,hk⟩
  .obtain⟨m,_,j,_⟩:=Q.list l;refine⟨j.isList.typeIs,λa e=>?_⟩;cases e;obtain⟨o,n,e,c,hd,_⟩:=j;exact⟨o,e,hd⟩
  .refine⟨⟨o,Q.HN p o hk,k⟩,λa e=>?_⟩;cases e;exact⟨o,Q.HN _ o hk,hd⟩
  .have z: ∃o,s.heap.get? p=J o/\o.ExactDict:=by
    rcases hk with⟨g,hk⟩|⟨g,hk⟩
    .obtain⟨_,_,_,_,o,_,_,e,ex,_⟩:=Q.hok p _ hk;exact⟨o,e,ex⟩
    .obtain⟨_,_,_,_,o,_,_,e,ex,_⟩:=Q.hok p _ hk;exact⟨o,e,ex⟩
   obtain⟨o,e,ex⟩:=z;refine⟨⟨o,e,ex.1⟩,λa f=>?_⟩;cases f;exact⟨o,e,ex.2.1⟩
  .obtain⟨o,_,_,_,e,ex,_⟩:=Q.hok p _ hk;refine⟨⟨o,e,ex.1⟩,λa f=>?_⟩;cases f;exact⟨o,e,ex.2.1⟩
 |_=>exact aH ty
def ZD(K:jb)(T:String)(r:V->List V->Hp->VK->Prop)(B:TE):TE:=λd U Q=>B d U λx c=>tyV K T x c/\r x [] c Q
def tBM(K:jb)(T:String)(r:V->List V->Hp->VK->Prop)(B:TE)(t:TA):TE:=λd U Q=>B d U λx c=>tyV K T x c/\t d c λf e=>r x f e Q
variable {o e:iK}{C:kD}{B:TE}{t:TA}{d:aw}{g m:bu}{T id:String}{r:V->List V->Hp->VK->Prop}
def U7(y:PlainAttrs T)(slot:Slot T d id)(l:k9 (.builtin id)=pure (.type "method_descriptor"))(q:MtR X id r)(u:PE X o B)
  (w:bN o d X.env (aM o X.env)=aM o X.env:=by rfl)(p:(g.endLine==m.line)=I:=by rfl):PE X (.Call (.Attribute o d g) [] [] m) (ZD X.K T r B):=by
 intro c s j U Q N h;refine wpAny_Call_method0_late w p<|Bo (u c s j U _ N h) λv s1 M=>?_;obtain⟨x,k,f,i,ty,z⟩:=M;obtain⟨h1,n⟩:=MP f i ty;exact⟨T,id,y,slot,l,h1,n,Ml H<|PySem.evalArgs_none<|q c s1 j k x [] v [] Q f i .nil z⟩
def Jn(U:PlainAttrs T)(slot:Slot T d id)(u:k9 (.builtin id)=pure (.type "method_descriptor"))(A:MtR X id r)(G:PE X o B)(z:PA X (e::C) t)
  (M:bN o d X.env (aM o X.env)=aM o X.env:=by rfl)
  (N:((aQ m<|ag (e::C) X.env).all (λx=>!x.1)&&(f4 m<|dM [] X.env).all (λx=>x.1.isSome)
   &&decide ((e::C).length+([]:List cG).length+(if([]:List cG).isEmpty then 0 else 1)<30))=B8:=by rfl)
  (y:(g.endLine==m.line)=B8:=by rfl)(J:ag (e::C) X.env=(Y,aM e X.env)::ag C X.env:=by rfl)(q:(aQ m<|ag C X.env).any (·.1)=Y:=by rfl):
  PE X (.Call (.Attribute o d g) (e::C) [] m) (tBM X.K T r B t):=by
 intro c s f H Q I h;refine wpAny_Call_method_late M N y AU<|Bo (G c s f H _ I h) λv s1 a'=>?_;obtain⟨x,l,i,k,ty,Y'⟩:=a';obtain⟨h1,w⟩:=MP i k ty;refine⟨T,id,U,slot,u,h1,w,?_⟩;have j:=z m c s1 f l _ i Y';rw[J] at j ⊢;refine Ml (by show(Y||(aQ m<|ag C X.env).any (·.1))=Y;rw[q]<;>rfl)<|Mk ?_;exact Bo j λus s2 ⟨vs,n,p,r2,q2⟩=>A c s2 f n x vs v us Q p k r2 q2
end
def Oh(X:Cx)(id:String)(r:V->List V->Hp->VK->Prop):Prop:=
 ∀(a:ju) (s:iJ) (d:St) (U:Hp) (x:V) (c:List V) (v:iN) (b:jF) (Q:VK),Inv X a d U s->RelV x v->Vals c b->r x c U Q->
  ah (ai X.prog X.w) X.A (call (.builtin id) (v::b)) (EP X a d Q) X.xe s
def Vals.one{x:V}{a:jF}:Vals [x] a-> ∃u,a=[u]/\RelV x u:=sU
def Vals.zero: ∀{us:jF},Vals [] us->us=[]
 |_,.nil=>rfl
def Vals.dropLast{b:List V}{a:jF}(h:Vals b a):Vals b.dropLast a.dropLast:=by
 induction h with
 |nil=>exact .nil
 |cons r t c=>
  cases t with
  |nil=>exact .nil
  |cons q d=>exact .cons r c
theorem Vals.eraseIdx: ∀{b:List V} {a:jF} (i:Nat),Vals b a->Vals (b.eraseIdx i) (a.eraseIdx i)
 |_,_,_,.nil=> .nil
 |_,_,0,.cons _ t=>t
 |_,_,i+1,.cons r t=> .cons r (Vals.eraseIdx i t)
theorem Vals.rep{b:List V}{a:jF}(h:Vals b a): ∀k:Nat,Vals (ac k b).flatten (ac k a).flatten
 |0=> .nil
 |k+1=>by rw[rN,rN,yB,yB];exact Vals.append h<|Vals.rep h k
def acE{d:Type}(l:List d):l.eraseIdx (A0 l-1)=l.dropLast:=by
 induction l with
 |nil=>rfl
 |cons a r c=>
  cases r with
  |nil=>rfl
  |cons b r=>
   have e:(a::b::r).length-1=((b::r).length-1)+1:=by
    have h1:(a::b::r).length=A0 r+2:=rfl;have f:(b::r).length=A0 r+1:=rfl
    lia
   rw[e,gO,c]
   all_goals rfl
theorem CP{a:Type}: ∀(l:List a) (i:Nat),(l.eraseIdx i).length<=A0 l
 |[],_=>kc _
 |_::_,0=>DQ _
 |_::r,i+1=>Nat.succ_le_succ<|CP r i
theorem CZ(b:jF): ∀(k:Nat) (a:jF),
  eY (λx1 x2=>x1++x2) a.toArray (ac k b.toArray)=(a++(ac k b).flatten).toArray
 |0,a=>by simp
 |k+1,a=>by
  have e:a.toArray++b.toArray=(a++b).toArray:=by simp
  have c:(a++b)++(ac k b).flatten=a++(ac (k+1) b).flatten:=by rw[rN,yB,qj]
  rw[<-c,<-CZ b k (a++b),<-e,rN,vA]
section
variable {X:Cx}{a:ju}{c:St}{H:Hp}{s:iJ}{l b:iE}{xs d g:List V}
def Inv.Li{h its':jF}{n:Nat}{f:Array iN->Array iN}{p:Nat}(U:Inv X a c H s)(i:H l=J (.lst xs))
  (e:s.heap.get? l=J {cls:= .type "list",data:= .seq h.toArray n})(k:f h.toArray=its'.toArray)(hv:Vals d its')(o:(A0 d)<=sizeLine):
  Inv X a c (upd H l<|.lst d) {s with heap:=s.heap.update l<|aF f,toks:=p}:=by
 have q:=PySem.IsL.update e f;rw[k] at q;refine U.write (x:=l) (e:=l) (by rw[i];exact trivial) (.inl AU) (λr u j m=>(vC s.heap (aF f)<|nL j).trans m) ⟨_,q⟩ ?_;exact⟨o,its',_,hv,q⟩
def Inv.M1{e:jF}{t':Nat}(U:Inv X a c H s)(hv:Vals d e)(f:(A0 d)<=sizeLine):
  Inv X a c (upd H s.heap.objs.size<|.lst d) {s with heap:=s.heap.push {cls:= .type "list",data:= .seq e.toArray},toks:=t'}:=
 U.laid (λ_ _ q=>jT _ q) (kc _) ⟨f,e,0,hv,kh _ rfl⟩
def Inv.fresh(U:Inv X a c H s):H s.heap.objs.size=C:=U.hok.fresh<|kc _
def Inv.Ki(U:Inv X a c H s)(h:H l=J (.lst xs)):xs.length<=sizeLine/\ ∃(f:jF) (n:Nat),Vals xs f/\xs.length=f.length/\s.heap.get? l=J {cls:= .type "list",data:= .seq f.toArray n}:=by obtain⟨z,f,n,r,e⟩:=U.hok l _ h;exact⟨z,f,n,r,r.length,e⟩
def FN{n:Nat}(h:n<=sizeLine):bT n=Y:=by unfold bT;exact lj (by lia)
end
section
variable {X:Cx}
def QU:V->List V->Hp->VK->Prop:=λx b U Q=> ∃l a y,x= .ref l/\b=[y]/\U l=J (.lst a)/\(A0 a)<sizeLine/\Q .B7 (upd U l<|.lst<|a++[y])
def ac9:Oh X "list.append" QU:=by
 intro c s p U x m v k Q T g f h;obtain⟨l,o,y,rfl,rfl,b,j,q⟩:=h;cases g;obtain⟨u,rfl,d⟩:=f.one;obtain⟨z,a,n,r,i,e⟩:=T.Ki b;refine rM F.slot_list_append ⟨_,e,rfl⟩ Mj (Mi _ _) (j1 l a.toArray n u<|by rw[jy];lia) ⟨e,?_⟩;refine⟨.B7,_,T.Li (its':=a++[u]) b e (by simp) (r.append<|.cons d .nil) ?_,rfl,q⟩;rw[mR,yA]
 lia
def QR:V->List V->Hp->VK->Prop:=λx d U Q=> ∃l b a c,x= .ref l/\d=[.ref b]/\U l=J (.lst a)/\U b=J (.lst c)/\(A0 a)+A0 c<=sizeLine/\Q .B7 (upd U l<|.lst<|a++c)
def ac8:Oh X "list.extend" QR:=by
 intro g s G U x E v B Q N w t h;obtain⟨l,b,L,T,rfl,rfl,f,k,A,q⟩:=h;cases w;obtain⟨u,rfl,p⟩:=t.one;cases p;obtain⟨z,a,n,r,y,e⟩:=N.Ki f;obtain⟨O,c,m,o,M,j⟩:=N.Ki k;have d:a.toArray.size+c.toArray.size<=sizeLine:=by rw[jy,jy];lia
 have i: ¬(!a.toArray.isEmpty&&bT (a.toArray.size+c.toArray.size))=I:=by rw[FN d,eC];exact ki
 refine rM F.slot_list_extend ⟨_,e,rfl⟩ F.entry_list_extend (F.args_list_extend_2 _ _)
  (AutoSeq1.list_extend_list_list_0 l a.toArray n b c.toArray m i (by rw[jy];lia)<|by lia) ⟨e,j,?_⟩
 refine⟨.B7,_,N.Li (its':=a++c) f e (by simp) (r.append o) ?_,rfl,q⟩;rw[mR]
 lia
def aaj:V->List V->Hp->VK->Prop:=λx b U Q=> ∃l a y,x= .ref l/\b=[]/\U l=J (.lst a)/\a[A0 a-1]?=J y/\Q y (upd U l<|.lst a.dropLast)
def Vn:Oh X "list.pop" aaj:=by
 intro d s A U x t v p Q T o m h;obtain⟨l,w,y,rfl,rfl,c,j,q⟩:=h;cases o;have b:=m.zero;subst b;obtain⟨z,a,n,r,g,e⟩:=T.Ki c;obtain⟨u,i,k⟩:=r.get j
 have f:a.toArray[a.toArray.size-1]?=J u:=by show a.toArray[A0 a-1]?=J u;rw[<-ml,<-g];exact i
 refine rM F.slot_list_pop ⟨_,e,rfl⟩ F.entry_list_pop (F.args_list_pop_1 _) (MeetsSeq.list_pop_last l a.toArray n u f<|by rw[jy];lia) ⟨e,?_⟩;refine⟨y,_,T.Li (its':=a.dropLast) c e ?_ r.dropLast ?_,k,q⟩
 .show a.toArray.eraseIdxIfInBounds (a.toArray.size-1)=a.dropLast.toArray;rw[jy,Mh,acE]
 .rw[Mf]
  lia
def UE:V->List V->Hp->VK->Prop:=λx b U Q=> ∃l a i k y,x= .ref l/\b=[.int i]/\U l=J (.lst a)/\ -(2^63)<=i/\i<2^63/\wP i (A0 a)=J k/\a[k]?=J y/\Q y (upd U l<|.lst<|a.eraseIdx k)
def ad9:Oh X "list.pop" UE:=by
 intro c s L U x E v O Q T A p h;obtain⟨l,B,i,k,y,rfl,rfl,b,h1,f,hk,m,q⟩:=h;cases A;obtain⟨u,rfl,o⟩:=p.one;obtain⟨t,rfl⟩:=o;obtain⟨z,a,n,r,g,e⟩:=T.Ki b;obtain⟨w,j,d⟩:=r.get m
 refine rM F.slot_list_pop ⟨_,e,rfl⟩ F.entry_list_pop (F.args_list_pop_2 _ _)
  (MeetsSeq.list_pop_at l a.toArray n i t k w (I8 h1 f) (by rw[jy,<-g];exact hk) (by rw[<-ml];exact j)<|by rw[jy];lia) ⟨e,?_⟩
 refine⟨y,_,T.Li (its':=a.eraseIdx k) b e ?_ (r.eraseIdx k) ?_,d,q⟩
 .show a.toArray.eraseIdxIfInBounds k=(a.eraseIdx k).toArray;rw[Mh]
 .have:=CP B k
  lia
def RC{c:Type}(a:List c)(k:Nat):(ac k a).flatten.length=k*(A0 a):=by
 induction k with
 |zero=>simp
 |succ k b=>rw[rN,yB,mR,b,Nat.succ_mul,z7]
end
section
variable {a:ja}{w:iW}{A:iY}{E:jt}{s:iJ}
end
section
variable {X:Cx}
end
end L2
namespace Att
open PySem.W PySem.Calls
def zN{P:Params}{h:iX}: ∀(c:iR) (d:jF),WellAll P h d (c.map WData.int)->dQ d c:=by
 intro c
 induction c with
 |nil=>intro d w;rw[rL] at w;cases w;exact .nil
 |cons n c e=>
  intro d w;rw[jU] at w
  cases w with
  |cons a b=>
   cases a;exact .cons _ _ (e _ b)
def adq{l:OpenLaw}{n:Nat}(v:l.most=J n){P:Params}{h:iX}{b:List WData}{e:jF}
  (o:l.row.toRowW.claim.pre b=I)(s:WellAll P h e b):
  ∃a m c,e=[aX a]/\b=[WData.list<|c.map WData.int]/\h.get? a=J {cls:= .type "list",data:= .seq m.toArray}/\dQ m c/\(A0 c)<=n:=by
 have p:WShape.hasAll [] b [.list .int]=I:=(pre_splitW o).1;have k:l.pre.holds [] {args:=b}=I:=(pre_splitW o).2;obtain⟨d,r,rfl,h1,t⟩:=hasAllW_cons p;obtain rfl:=hasAllW_nil t;obtain⟨A,rfl,u⟩:=hasW_list h1;obtain⟨c,rfl⟩:=items_int u
 have g:(A0 c)<=n:=by
  unfold OpenLaw.pre at k
  have i:(WTm.not<|.lt (.lit<|.int (n:Int))<|.len<|.arg 0).holds [] {args:=[.list<|c.map .int]}=I:=by have i:=(holds_andW k).1;rw[v] at i;exact i
  have j:=condW_of i<|w_not<|w_lt w_lit<|w_len_list<|w_arg H;rw[jM] at j;refine sm λq=>?_;have x:(n:Int)<(((A0 c):Nat):Int):=by omega
  first
   |(rw[mJ x] at j;exact absurd j<|by decide)
   |(simp at j;omega)
 cases s with
 |cons y z=>
  cases z
  cases y with
  |list w f=>exact⟨_,_,c,rfl,rfl,w,zN c _ f,g⟩
def acV(l:OpenLaw)(a:List WData):l.row.toRowW.claim.post a (.bool I) a=I:=
 postW_of (r:=l.row.toRowW) (X:=I==I)
  (show WShape.has [] (.bool I) .bool=I by first|rfl|decide|simp[WShape.has,WShape.arms,WShape.armsAll])
  (show(WTm.eq .res<|.lit<|.bool I).value [] {args:=a,res:=J<|.bool I,after:=a}=J (.bool<|I==I) from w_eq_bool (w_res H) w_lit) rfl
def Sv{l:OpenLaw}{n:Nat}{q:ja}{c:jh}{x:(aw->Option iN)->iX->Prop}{y:iW->iX->Prop}{d:DefRec}
  (U:l.most=A7 n)(H:d.params.defaults=[])
  (call: ∀(w:iW) (e b:iJ) (m u:ly) (j:iE) (o:eE) (v cd g:iN) (a:iE) (i:jF) (p:iR),
   Ground q c [] x w e m u b.heap->y w b.heap->
   b.heap.get? j=A7 o->o.data= .func (docDef d.name d.params d.body d.scope v cd g)->b.heap.CodeRec cd d.name->m d.name=A7 (.ref j)->
   b.heap.get? a=A7 {cls:= .type "list",data:= .seq i.toArray}->dQ i p->A0 p<=n->b.gens= #[]->
   bP (ai l.prog w) f3 (.call (.ref j) ⟨[.ref a],[]⟩) (λr s=>r= .ok (.ret<|.bool B8)/\OldK b.heap s.heap/\s.os=b.os/\dW s.gens) b):
  WalkO q c x y l.row.toRowW d [] (λf i=>wT f i):=by
 intro w e b m u G Y j o v cd g I kV D hd P A t J z C S R B K L M;obtain rfl:I= .none:=Dflts.none A H;obtain rfl:kV= .none:=Dflts.noKw A;obtain⟨a,i,p,rfl,rfl,E,h,k⟩:=adq U R L;refine enter_call<|vE (call w e b m u j o v cd g a i p G Y D (fd_plain hd) P t E h k J) λr s F=>?_;obtain⟨rfl,O,Q,T⟩:=F;exact⟨.inl ⟨.bool B8,.bool B8,[],rfl,λ_=>rfl,.bool B8,acV l _,λ_=>⟨cK,λ_ N=>(nomatch N)⟩⟩,O,Q,T⟩
section
variable {a:ja}{w:iW}{A:iY}{E:jt}{s:iJ}{K:Frag}
end
end Att
namespace L2
def ade{b:jF}{a:iR}(h:dQ b a):Vals (a.map V.int) b:=by
 induction h with
 |nil=>exact .nil
 |cons n t h c=>exact .cons ⟨t,rfl⟩ c
noncomputable def sD(s:bn):Arguments:=match s with
 | .FunctionDef _ a _ _ _ _ _ _ _ _=>a
 |_=>{posonlyargs:=[],args:=[],vararg:=C,kwonlyargs:=[],kw_defaults:=[],kwarg:=C,defaults:=[]}
noncomputable def lV(s:bn):List Stmt:=match s with
 | .FunctionDef _ _ b _ _ _ _ _ _ _=>b
 |_=>[]
noncomputable def iI(s:bn):Scope:=match s with
 | .FunctionDef _ _ _ _ _ _ a _ _ _=>a
 |_=>{kind:= .function,names:=[],isGenerator:=Y,isCoroutine:=Y}
abbrev Im:Kn:=λ_ _ _ _ _ _=>False
abbrev E0:XK:=λ_ _ _=>False
def XZ{X:Cx}:EX Im X E0:=λ_ _ _ _ _ _ _ h=>h.elim
structure KY(K:jb)(x qual:aw)(st:bn)(f:iE)(fd:mI):Prop where
 ex: ∃(oc:iN) (od:Option iE) (kV doc pm:iN) (an:Option iE) (b7 ct:iN) (r6:ze),
  fd=b4 x qual (sD st) (lV st) (iI st) .none kV doc pm an b7 ct/\K.lookup f=A7 ⟨oc,od,.func fd,r6⟩/\eh K b7 qual=B8
 kp:bG K (.ref f)=B8
section
variable {P:ja}{w:iW}{K:jb}{a:ly}{base:iX}
def KY.ok{x qual:aw}{st:bn}{f:iE}{g:mI}{N d:jh}{k:Nat}{e:Sp}(F:KY K x qual st f g)(S:AY N d (iI st))(len: ∀vs U Q E,e vs U Q E->A0 vs=A0 d)
  (n: ∀(c:iN) (A:iY) (b:List df) (s:iJ) (U:Hp) (vs:List V) (Q:VK) (E:XK),C2 k (A.deeper<|aR qual (iI st) s.heap.objs.size f c)->e vs U Q E->
   ∃t,Io (rn Im P w K a base N qual (iI st) f c A b s U E).Kh (lV st) t/\t {nx:=λ_ i=>Q .B7 i,rt:=Q} (nN N vs) U):Eg P w K a base Im (k+1) f g d e:=by
 obtain⟨r,u,kV,l,v,p,c,ct,y,rfl,lk,o⟩:=F.ex;refine Pc lk o S len λA b s U vs Q E m j=>?_;obtain⟨t,h,q⟩:=n c A b s U vs Q E m j;exact⟨t,h.Kh,q⟩
def KY.binds{x qual:aw}{st:bn}{f:iE}{j:mI}{g:jh}(F:KY K x qual st f j)
  (h: ∀(kV b e:iN) (c:Option iE) (d ct:iN) (i:jF),A0 i=A0 g->e7 (b4 x qual (sD st) (lV st) (iI st) .none kV b e c d ct) ⟨i,[]⟩=pure (g.zip i)):Binds K j g []:=by
 obtain⟨l,m,kV,b,e,c,d,ct,n,rfl,lk,k⟩:=F.ex;exact .all<|h kV b e c d ct
def OY{x qual:aw}{st:bn}{f:iE}{h:iN}{i e:Option iE}{j:ze}{kV b g d ct:iN}(l:K.lookup f=J ⟨h,i,.func<|b4 x qual (sD st) (lV st) (iI st) .none kV b g e d ct,j⟩)
  (c:eh K d qual=I)(k:bG K (.ref f)=I):KY K x qual st f (b4 x qual (sD st) (lV st) (iI st) .none kV b g e d ct):=⟨⟨h,i,kV,b,g,e,d,ct,j,rfl,l,c⟩,k⟩
end
section
variable {X:Cx}
def pv(i:Nat){x:aw}{a:bu}(b:X.N[i]?=J x:=by rfl)(hv:NG X.env.scope x:=by first|exact bf rfl|exact bh (bf H)|exact bh<|bh H)(hd:(x==("__debug__":aw))=Y:=by decide)
  (c:(x==("__classdict__":aw))=Y:=by decide):PE X (.Name x a) (Xn i):=yO b hv hd c
end
def VD{A B:Prop}(h:B):if Y=I then A else B:=by rw[jc ki];exact h
def VC{A B:Prop}(h:A):if I=I then A else B:=by rw[iQ H];exact h
theorem wO(b:df): ∀(l:List (aw×c5)) (g:kT),(∀x∈l,x.2= .free-> ∃c,b.cells.lookup x.1=J c)->(∀x c,g.lookup x=J c->b.cells.lookup x=J c)->
  ∃cl,(forIn l g λx r=>if x.2==aG then do let a <-K2 b x.1;pure (bx ((x.1,a)::r)) else pure (bx r))=(pure cl:ei (List<|aw×iE))/\
   (∀x c,cl.lookup x=J c->b.cells.lookup x=J c)/\(∀x,(x,aG)∈l-> ∃c,cl.lookup x=J c)/\ ∀x c,g.lookup x=J c-> ∃c,cl.lookup x=J c
 |[],g,_,m=>⟨g,rfl,m,λx h=>by simp at h,λx c h=>⟨c,h⟩⟩
 |(n,k)::l,g,h,m=>by
  by_cases hk:k= .free
  .subst hk;obtain⟨c,e⟩:=h (n,.free) jY H;have q:b.cells.lookup n=J c:=e
   obtain⟨cl,h1,o,p,j⟩:=wO b l ((n,c)::g) (λx f=>h x<|jZ _ f) (λx d f=>by
    rw[oV] at f
    cases i:x==n with
    |true=>rw[i] at f;have:=vD i;subst this;cases f;exact q
    |false=>rw[i] at f;exact m x d f)
   refine⟨cl,?_,o,λx f=>?_,λx d f=>?_⟩
   .rw[el];have:K2 b n=pure c:=by unfold K2;rw[q]
    simp -iota only[this,A1,beq_self_eq_true,kE];exact h1
   .rcases kW.mp f with z|z
    .cases z;exact j n c (by simp[oV])
    .exact p x z
   .cases i:x==n with
    |true=>have:=vD i;subst this;exact j x c (by simp[oV])
    |false=>exact j x d (by rw[oV,i];exact f)
  .obtain⟨cl,h1,o,p,j⟩:=wO b l g (λx f=>h x<|jZ _ f) m;have i:(k==aG)=Y:=by simpa using hk
   refine⟨cl,?_,o,λx f=>?_,j⟩
   .rw[el];simp -iota only[i,jK,jX,A1];exact h1
   .rcases kW.mp f with z|z
    .cases z;exact absurd H hk
    .exact p x z
def sH(b:df)(scope:jG)(h: ∀x∈scope.names,x.2= .free-> ∃c,b.cells.lookup x.1=J c):
  ∃cl,u3 scope b=pure cl/\(∀x c,cl.lookup x=J c->b.cells.lookup x=J c)/\ ∀x,(x,aG)∈scope.names-> ∃c,cl.lookup x=J c:=by
 obtain⟨cl,h1,d,e,_⟩:=wO b scope.names [] h (λx c f=>by simp at f);refine⟨cl,?_,d,e⟩;unfold u3;have:(forIn scope.names ([]:List (aw×iE)) λx r=>if x.2==aG then do let a <-K2 b x.1;pure (bx ((x.1,a)::r)) else pure (bx r))=(pure cl:ei (List<|aw×iE)):=h1
 first
  |exact(ox (· >>=λr=>pure r) this).trans (A1 _ _)
  |(simp -iota only[bind_pure];exact this)
  |exact this
theorem mX: ∀(names:List (aw×c5)) (n:Nat) (a:kT),be n names a=be n names []++a
 |[],_,_=>rfl
 |(x,k)::r,n,a=>by
  unfold be;split
  .rw[mX r (n+1) ((x,n)::a),mX r (n+1) [(x,n)],qj];rfl
  .exact mX r n a
theorem qH{x:aw}{c:iE}: ∀(names:List (aw×c5)) (n:Nat),(x,c)∈be n names []->(x,cu)∈names
 |[],_,h=>by simp[be] at h
 |(y,k)::r,n,h=>by
  unfold be at h;split at h
  .rename_i hk;rw[mX] at h;rcases sQ.mp h with z|z
   .exact jZ _ (qH r _ z)
   .cases E7.mp z;rw[vD hk];exact jY
  .exact jZ _ (qH r _ h)
structure Oq(cells:kT)(scope:jG)(C:iE)(h:iX)(cl:kT):Prop where
 one: ∀x c,cl.lookup x=A7 c->(cells.lookup x=A7 c/\scope.names.lookup x≠A7 .cell)\/(C<c/\scope.names.lookup x=A7 .cell/\h.IsCell c AX)
 all: ∀x,(x,aG)∈scope.names\/(x,cu)∈scope.names-> ∃c,cl.lookup x=A7 c
 inj: ∀x y c,C<c->cl.lookup x=A7 c->cl.lookup y=A7 c->(∀z d,cells.lookup z=A7 d->d<C)->x=y
 ex: ∀x c,cl.lookup x=A7 c->cells.lookup x=A7 c\/C<c
def Rx{M:gx}{A:iY}{E:jt}{s:iJ}{scope:jG}{globals:iE}{a:df}{cl:kT}{qual:aw}{Q:df->Shared->Prop}(u: ∀y∈scope.names,y.2= .cell->scope.names.lookup y.1=J .cell)
  (m: ∀x c,cl.lookup x=J c->a.cells.lookup x=J c)(T: ∀x,(x,aG)∈scope.names-> ∃c,cl.lookup x=J c)
  (B: ∀k r,k.Ns s.heap.objs.size (λ_=>C)->(∀b o,s.heap.get? b=J o->k.get? b=J o)->Oq a.cells scope s.heap.objs.size k r->
   Q {scope,locals:=s.heap.objs.size,globals,cells:=r,qual,func:=C,code:=a.code,frame:=a.frame,builtins:=a.builtins} {s with heap:=k}):
  ah M A (gY scope globals cl [] qual C .none<|J a) Q E s:=by
 simp -iota only[gY,eM,kE];refine iF<|wpAny_alloc ?_;refine iF<|wpAny_layCells _ (λv j i=>by cases n:j==cu<;>simp[n]) _ _ _ _ ?_;have ok:=cellsFrom_ok scope.names (s.heap.push {cls:= .type "dict",data:= .dict #[]}) (s.heap.objs.size+1) [] ⟨λ_ _ O=>(nomatch O),cK⟩ (by rw[qK];exact kc _);rw[qK] at ok;rw[show({s with heap:=s.heap.push {cls:= .type "dict",data:= .dict #[]}}:Shared).heap.objs.size=s.heap.objs.size+1 from qK ..];simp -iota only[te];have g: ∀x,(be (s.heap.objs.size+1) scope.names cl).lookup x=((be (s.heap.objs.size+1) scope.names []).lookup x).or (cl.lookup x):=λx=>by rw[mX,List.lookup_append]
 have f: ∀x c,(be (s.heap.objs.size+1) scope.names cl).lookup x=J c->(cl.lookup x=J c/\(be (s.heap.objs.size+1) scope.names []).lookup x=C)\/(x,c)∈be (s.heap.objs.size+1) scope.names []:=λx c h=>by
  rw[g] at h
  cases p:(be (s.heap.objs.size+1) scope.names []).lookup x with
  |none=>rw[p] at h;exact .inl ⟨h,rfl⟩
  |some d=>rw[p] at h;cases h;exact .inr<|qO p
 have lo: ∀{x:aw} {c:iE},(x,c)∈be (s.heap.objs.size+1) scope.names []->s.heap.objs.size<c:=λ{x c} h=>(ok.empty x c h).2;refine iF<|iP<|iP<|B _ _ ((Heap.Ns.new s.heap<|.type "dict").keeps<|B2 _ _) (λb o e=>B2 _ _ b o (jT _ e)) ⟨λx c h=>?_,λx h=>?_,λx y c l h1 w t=>?_,λx c h=>?_⟩
 .rcases f x c h with⟨z,U⟩|z
  .refine .inl ⟨m x c z,λe=>?_⟩;have:=DT scope.names (s.heap.objs.size+1) []<|.inl e;rw[U] at this;cases this
  .exact .inr ⟨lo z,u _ (qH _ _ z) rfl,(ok.empty x c z).1⟩
 .rcases h with h|h
  .obtain⟨c,l⟩:=T x h;rw[g,l];cases(be (s.heap.objs.size+1) scope.names []).lookup x<;>exact⟨_,rfl⟩
  .have:=DT scope.names (s.heap.objs.size+1) cl<|.inl<|u _ h rfl;exact Kb.mp this
 .rcases f x c h1 with⟨z,_⟩|z
  .exact absurd (t x c<|m x c z) (G7 l)
  .rcases f y c w with⟨q,_⟩|q
   .exact absurd (t y c<|m y c q) (G7 l)
   .exact V0 ok.apart z q
 .rcases f x c h with⟨z,_⟩|z
  .exact .inl (m x c z)
  .exact .inr (lo z)
noncomputable def Cx.comp(X:Cx)(d:jh)(scope:jG)(cl:kT)(U:iE)(f:iJ)(c:Hp)(e:kB)(a:ju):Cx:=
 {X with N:=d,s₀:=f,H₀:=c,env:=compEnvC scope cl U X.env,outer:=X.stack,stack:=X.stack,ex:=e,fn:=λx=>scope.names.lookup x==J .cell,pn:=X.pn++a,xe:=λ_ _=>False}
abbrev TB:=St->Hp->(St->Hp->Prop)->Prop
def PB(X:Cx)(code:ei Unit)(t:TB):Prop:=
 ∀(a:ju) (s:iJ) (d:St) (U:Hp) (N:St->Hp->Prop),Inv X a d U s->t d U N->
  ah (ai X.prog X.w) X.A code (λ_ e=> ∃b c,Inv X a b c e/\N b c) X.xe s
def Ky(X:Cx)(b:kD)(t:TT):Prop:=
 ∀(a:ju) (s:iJ) (d:St) (U:Hp) (Q:Bool->Hp->Prop),Inv X a d U s->t d U Q->
  ah (ai X.prog X.w) X.A (forIn b I λc r=>if r=I then do let ok <-isTrue c X.env (aM c X.env);pure (bx ok) else pure (bx r)) (TP X a d Q) X.xe s
noncomputable def Xo:TT:=λ_ U Q=>Q I U
section
variable {X:Cx}
def Rb:Ky X [] Xo:=λa s b U Q T h=>wpAny_tests_nil ⟨U,T,h⟩
def Ra{c:iK}{t:TT}(h:PT X c t):Ky X [c] t:=λa s d U Q T b=>wpAny_tests_one<|h a s d U Q T b
noncomputable def jI(e:iK)(depth:Nat)(acc:iN)(a:df):ei Unit:=
 match(b5 e)[depth+1]? with
 |some c=>do
  let x <-aM c.iter a
  cb c.iter.pos
  let x <-ax c.iter a x
  let _ <-runOwn (.compStart e (depth+1) (<-bB [x] (dD x)) acc a) a
 |none=>match e with
  | .ListComp b _ _ _=>do let _ <-call (.builtin "list.append") [acc,<-aM b a]
  | .SetComp b _ _ _=>do let v <-aM b a;cb b.pos;let _ <-call (.builtin "set.add") [acc,v]
  |_=>oC "no"
def IM(U:It)(g:TG)(n:TT)(l:TB):TB:=λd T N=> ∃W:Nat->Nat->St->Hp->Prop,(∃m,W 0 m d T)/\ ∀i m d T,W i m d T->
 (U.stop i T/\N d T)\/(U.go i T/\ ∀x f,U.yld i T x f->g x d f λa j=>n a j λb h=>if b=I then l a h λe k=> ∃c,c<m/\W (i+1) c e k else ∃c,c<m/\W (i+1) c a h)
def abL(e:iK)(depth:Nat)(k f:iN)(b:df)(g:pk)(q:(∃d a i p,e= .ListComp d a i p)\/(∃d a i p,e= .SetComp d a i p))
  (j:(b5 e)[depth]?=J g)(o:g.is_async=0)(l: ∀h,(b5 e)[depth+1]?=J h->h.is_async=0):
  pc e depth k f b=(do
   cb g.iter.pos
   match <-b6 k with
   |none=>pure<|.done .next
   |some v=>
    eG g.target k v
    cg g.target b v
    let ok <-forIn g.ifs I λc r=>if r=I then do let ok <-isTrue c b (aM c b);pure (bx ok) else pure (bx r)
    if ok=I then jI e depth f b
    again (.compLoop e depth k f b)):=by
 rcases q with⟨d,a,i,p,rfl⟩|⟨d,a,i,p,rfl⟩
 .have m:a[depth]?=J g:=j;unfold pc jI;simp only[clausesOf.eq_def] at j l ⊢;rw[m];simp only[o]
  cases n:a[depth+1]? with
  |none=>rfl
  |some h=>
   have:=l h n;simp only[this,vz,jK,jX]
   congr 1;funext _;congr 1;funext r
   cases r with
   |none=>rfl
   |some v=>
    dsimp only
    congr 1;funext _;congr 1;funext _;congr 1;funext ok
    cases ok with
    |false=>rfl
    |true=>simp only[kE,tP];rfl
 .have m:a[depth]?=J g:=j;unfold pc jI;simp only[clausesOf.eq_def] at j l ⊢;rw[m];simp only[o]
  cases n:a[depth+1]? with
  |none=>rfl
  |some h=>
   have:=l h n;simp only[this,vz,jK,jX]
   congr 1;funext _;congr 1;funext r
   cases r with
   |none=>rfl
   |some v=>
    dsimp only
    congr 1;funext _;congr 1;funext _;congr 1;funext ok
    cases ok with
    |false=>rfl
    |true=>simp only[kE,tP];rfl
def afj 
  (d:(∃b a c p,e= .ListComp b a c p)\/(∃b a c p,e= .SetComp b a c p))
  (h:ah (ai prog w) A ((pc e depth it acc env).onRaise (λx=>do jp x env;theTreesLotGoes x)) Q E s):
  ah (ai prog w) (A.under<|.compLoop e depth it acc env) ((ai prog w).den<|.compLoop e depth it acc env) Q E s:=by
 rcases d with⟨b,a,c,p,rfl⟩|⟨b,a,c,p,rfl⟩
 .exact h
 .exact h
def JA{e:iK}{depth:Nat}{acc:iN}{c:pk}{g:TG}{ti:TT}{tb:TB}{J:It}{y:kB}{it:iE}{tn:Nat->iX->Prop}(aL:X.xe=λ_ _=>False)(hc:X.calm=B8)
  (hl:(∃B k sc p,e= .ListComp B k sc p)\/(∃B k sc p,e= .SetComp B k sc p))(hg:(b5 e)[depth]?=A7 c)(ha:c.is_async=0)(l7: ∀g',(b5 e)[depth+1]?=A7 g'->g'.is_async=0)
  (T:Turn X.prog X.w X.K c.target J y it tn)(pg:PG X c.target g)(bH:Ky X c.ifs ti)(pb:PB X (jI e depth acc X.env) tb)
  {a:ju}{s:iJ}{σ:St}{H:Hp}{N:St->Hp->Prop}(I:Inv X a σ H s)(f2: ∀b∈y,uB X a H b)(st:tn 0 s.heap)(h:IM J g ti tb σ H N):
  bP (ai X.prog X.w) X.A (.compLoop e depth (.ref it) acc X.env) (λr s'=>r= .ok .next/\ ∃f j,Inv X a f j s'/\(∀b∈y,j b=C)/\N f j) s:=by
 apply FL;intro R O;obtain⟨W,⟨m0,w0⟩,M⟩:=h;apply O;have P: ∀{j:Hp},(∀b∈y,j b=C)-> ∀b∈y,uB X a j b:=λhn b v=>⟨hn b v,(f2 b v).2⟩
 have D: ∀{α:Type} {t:ei α} {Q:α->Shared->Prop} {E:jt} {s:iJ},ah (ai X.prog X.w) X.A t Q X.xe s->ah (ai X.prog X.w) X.A t Q E s:=λh=>oW h (λ_ _ x=>x) λ_ _ z=>by rw[aL] at z;exact z.elim
 refine codeAny_loop AU (λn s'=> ∃i f j,Inv X a f j s'/\tn i s'.heap/\(∀b∈y,j b=C)/\W i n f j) (λn Z hI=>?_) m0 ⟨0,σ,H,I,st,λb v=>(f2 b v).1,w0⟩;refine afj hl ?_;refine wpAny_noted ?_;rw[abL e depth (.ref it) acc X.env c hl hg ha l7];apply FL;intro R O;obtain⟨i,l,Y,S,V,F,w3⟩:=hI;apply O;refine iF<|yG ?_;rcases M i n l Y w3 with⟨stop,qn⟩|⟨go,step⟩
 .refine iF (Bo (T.done X AU AU AU hc i a Z l Y _ S (P F) V stop) λr s4 a'=>?_);obtain⟨hr,I4⟩:=a';subst hr;exact iP ⟨rfl,l,Y,I4,F,qn⟩
 .refine iF (Bo (T.item X AU AU AU hc i a Z l Y _ S (P F) V go) λr s4 a'=>?_);obtain⟨u,hr,h4⟩:=a';subst hr;refine iF<|Bo h4 λ_ s5 a'=>?_;obtain⟨x,H5,I5,r5,y5,cz,hW⟩:=a';have iB:=I5.pinned (P hW)<|T.obj _ _ cz;refine iF<|Bo (D<|pg _ s5 l H5 x u _ iB r5 (step x H5 y5)) λ_ s6 a'=>?_;obtain⟨U,H6,I6,q6⟩:=a';refine iF<|Bo (D<|bH _ s6 U H6 _ I6 q6) λok s7 a'=>?_;obtain⟨H7,I7,q7⟩:=a'
  have again: ∀{G:iJ} {q:St} {C':Hp},Inv X (a++AS y s5.heap) q C' G->(∃m',m'<n/\W (i+1) m' q C')-> ∃m,m<n/\ ∃i f j,Inv X a f j G/\tn i G.heap/\(∀b∈y,j b=C)/\W i m f j:=λ{G q C'} L a'=>by
   obtain⟨m',hm,w8⟩:=a'
   refine⟨m',hm,i+1,q,C',L.FQ,T.keep _ _ _ cz λb v o e=>(L.pin (b,o)<|qQ _ (qQ _ (sf v e))).1,λb v=>?_,w8⟩;apply FL;intro R O;obtain⟨o,e,d⟩:=T.obj _ _ cz b v;apply O;exact(L.pin (b,o)<|qQ _ (qQ _ (sf v e))).2.1
  cases ok with
  |false=>rw[jc ki] at q7;exact iP ⟨rfl,again I7 q7⟩
  |true=>rw[iQ AU] at q7;simp -iota only[kE];refine iF<|Bo (D<|pb _ s7 U H7 _ I7 q7) λ_ G a'=>?_;obtain⟨q,C',L,q8⟩:=a';exact iP ⟨rfl,again L q8⟩
def Xt(d:iE)(e:TE):TB:=λc U N=>e c U λy b=> ∃a,b d=J (.lst a)/\(A0 a)<sizeLine/\N c (upd b d<|.lst<|a++[y])
def Rk{b:iK}{a:qI}{i:jG}{p:bu}{depth:Nat}{d:iE}{j:TE}(o:a[depth+1]?=C)(m:PE X b j):PB X (jI (.ListComp b a i p) depth (.ref d) X.env) (Xt d j):=by
 intro f s k U N T h
 have l:jI (.ListComp b a i p) depth (.ref d) X.env=(do let _ <-call (.builtin "list.append") [.ref d,<-aM b X.env]):=by unfold jI;simp -iota only[clausesOf.eq_def];rw[o]
 rw[l];refine iF<|Bo (m f s k U _ T h) λu s1 Q=>?_;obtain⟨y,v,g,t,A,hd,x,q⟩:=Q;obtain⟨z,c,n,r,w,e⟩:=g.Ki hd;refine iF<|rM F.slot_list_append ⟨_,e,rfl⟩ Mj (Mi _ _) (j1 d c.toArray n u<|by rw[jy];lia) ⟨e,?_⟩;refine iP ⟨k,_,g.Li (its':=c++[u]) hd e (by simp) (r.append<|.cons t .nil) ?_,q⟩;rw[mR,yA]
 lia
def Fm{b:ja}{w:iW}{A:iY}{e:iK}{depth:Nat}{i acc:iN}{d:df}{R:hG->Shared->Prop}{s:iJ}{c:pk}
  (r:(∃g a j p,e= .ListComp g a j p)\/(∃g a j p,e= .SetComp g a j p))(q:(b5 e)[depth]?=J c)(o:c.is_async=0)
  (m:bP (ai b w) A (.compLoop e depth i acc d) R s)
  (k: ∀(Q:jt) (E:jt),Q i s->ah (ai b w) A (dD i) Q E s):
  bP (ai b w) A (.compStart e depth i acc d) R s:=by
 have h:ah (ai b w) A (j2 e depth i acc d) (λfin l=>match fin with| .done f=>R (.ok f) l| .again n=>n.quiet=I/\bP (ai b w) A n R l) (notedBy (ai b w) A d λx l=>R (.error x) l) s:=by
  unfold j2;rw[q];simp only[Option.elim,o,vz,jK,jX];refine iF<|yz<|wpAny_ite ?_;split
  .first
    |exact iF<|iP<|iP<|And.intro H m
    |exact iP<|And.intro H m
  .exact iF (vt<|iF<|yG<|iF<|k _ _ (iP<|And.intro H m))
 rcases r with⟨g,a,j,p,rfl⟩|⟨g,a,j,p,rfl⟩
 .refine Au ?_;show ah _ A ((j2 (.ListComp g a j p) depth i acc d).onRaise (λx=>do jp x d;cb BB)) _ _ s;exact NE h
 .refine Au ?_;show ah _ A ((j2 (.SetComp g a j p) depth i acc d).onRaise (λx=>do jp x d;cb BB)) _ _ s;exact NE h
noncomputable def ad2(e:TI)(g:TG)(d:TT)(c:TB):TB:=λa T N=>e a T λU b=>IM U g d c a b N
def U9{e:iK}{depth:Nat}{b:iN}{c:pk}{u:TI}{g:TG}{t:TT}{o:TB}(C:X.xe=λ_ _=>False)(M:X.calm=B8)
  (n:(∃d a j p,e= .ListComp d a j p)\/(∃d a j p,e= .SetComp d a j p))(i:(b5 e)[depth+1]?=A7 c)(m:c.is_async=0)(l7: ∀l,(b5 e)[depth+1+1]?=A7 l->l.is_async=0)
  (hs: ∀x,ax c.iter X.env x=pure x)(pi:PI X c.target c.iter u)(pg:PG X c.target g)(L:Ky X c.ifs t)(pb:PB X (jI e (depth+1) b X.env) o):
  PB X (jI e depth b X.env) (ad2 u g t o):=by
 intro f s K H N I h
 have O:jI e depth b X.env=(do
  let x <-aM c.iter X.env
  cb c.iter.pos
  let x <-ax c.iter X.env x
  let _ <-runOwn (.compStart e (depth+1) (<-bB [x] (dD x)) b X.env) X.env):=by
  unfold jI;rw[i]
 rw[O];refine iF<|Bo (pi f s K H _ I h) λv s1 h1=>iF<|yG<|iF<|qJ (hs v)<|iF<|mn<|Bo h1 λR F G=>?_;obtain⟨V,S,Z,J,P,rfl,z,T,w,f2,D⟩:=G;refine iF<|wpAny_runOwn ?_;refine Fm n i m ?_ λQ E U=>T.self X.A 0 F Q E w U;refine vE (JA C M n i m l7 T pg L pb z f2 w D) λr W Y=>?_;obtain⟨rfl,k,y,B,_,q⟩:=Y;exact iP ⟨k,y,B,q⟩
end
theorem oY{a:df}: ∀{names:List (aw×c5)} {x:aw},names.lookup x=J .free->
  (names.map λ(n,k)=>if(k==aG&&a.scope.kind== .function&&a.kindOf n==J .cell) then(n,cu) else(n,k)).lookup x=J .cell\/
  (names.map λ(n,k)=>if(k==aG&&a.scope.kind== .function&&a.kindOf n==J .cell) then(n,cu) else(n,k)).lookup x=J .free
 |[],_,h=>by simp at h
 |(n,k)::r,x,h=>by
  have d:= @oY a r x;rw[jU]
  cases b:x==n with
  |true=>
   simp only[oV,b] at h;cases h;by_cases c:(aG==aG&&a.scope.kind== .function&&a.kindOf n==J .cell)=I
   .left;simp only[c,kE,oV,b]
   .right;simp only[c,jX,oV,b,jK]
  |false=>
   simp only[oV,b] at h;by_cases c:(k==aG&&a.scope.kind== .function&&a.kindOf n==J .cell)=I
   .simp only[c,kE,oV,b];exact d h
   .simp only[c,jX,oV,b,jK];exact d h
theorem lE{a:df}: ∀{names:List (aw×c5)} {x:aw} {f:c5},
  (names.map λ(n,k)=>if(k==aG&&a.scope.kind== .function&&a.kindOf n==J .cell) then(n,cu) else(n,k)).lookup x=J f-> ∃k,(x,k)∈names/\(k=f\/k= .free)
 |[],_,_,h=>by simp at h
 |(n,k)::r,x,f,h=>by
  rw[jU] at h
  cases c:x==n with
  |true=>
   have e:=vD c;subst e;by_cases b:(k==aG&&a.scope.kind== .function&&a.kindOf x==J .cell)=I
   .refine⟨k,jY,.inr ?_⟩
    have h1:(k==aG)=I:=by
     cases hk:(k==aG) with
     |true=>rfl
     |false=>rw[hk] at b;simp at b
    exact vD h1
   .simp only[b,jX,oV,c,jK] at h;exact⟨k,jY,.inl<|by simpa using h⟩
  |false=>
   by_cases b:(k==aG&&a.scope.kind== .function&&a.kindOf n==J .cell)=I
   .simp only[b,kE,oV,c] at h;obtain⟨g,h1,d⟩:=lE h;exact⟨g,jZ _ h1,d⟩
   .simp only[b,jX,oV,c,jK] at h;obtain⟨g,h1,d⟩:=lE h;exact⟨g,jZ _ h1,d⟩
structure ET(X:Cx)(N':jh)(scope:jG)(pre:St->St):Prop where
 cell: ∀y∈scope.names,y.2= .cell->scope.names.lookup y.1=A7 .cell
 kind:scope.kind= .function
 names: ∀y∈scope.names,y.2= .local->scope.names.lookup y.1=A7 .local
 free: ∀y∈scope.names,y.2= .free->X.env.scope.names.lookup y.1=A7 .cell\/X.env.scope.names.lookup y.1=A7 .free
 len: ∀σ:St,(pre σ).length=A0 N'
 pre: ∀(σ:St) (i:Nat) (v:V) (x:aw),(pre σ)[i]?=A7 (A7 v)->N'[i]?=A7 x->scope.names.lookup x=A7 .free/\ ∃j:Nat,X.N[j]?=A7 x/\σ[j]?=A7 (A7 v)
section
variable {X:Cx}
def Sj{O:jh}{scope:jG}{pre:St->St}(S:ET X O scope pre){d:ju}{f:iJ}{L:St}{t:Hp}{E:kB}{cl:kT}{H:iX}{t':Nat}(I:Inv X d L t f)
  (B:Oq X.env.cells scope f.heap.objs.size H cl)
  (C: ∀b∈E,uB X d t b)(T: ∀b∈E,b<f.heap.objs.size)
  (N:H.Ns f.heap.objs.size (λ_=>AX))(hk: ∀b o,f.heap.get? b=A7 o->H.get? b=A7 o):
  Inv (X.comp O scope cl f.heap.objs.size f t E d) [] (pre L) t {f with heap:=H,toks:=t'}:=by
 have K: ∀b∈HC X.stack,t b=AX:=I.Ht;have w: ∀b,b≠X.env.locals->b∉X.fs->b∉HC X.stack:=λb h1 a z=>(kW.mp<|I.Ia b z).elim h1 a;have A: ∀x c,X.env.cells.lookup x=A7 c->c<f.heap.objs.size:=λx c e=>(I.cell x c e).elim λ_ z=>z.lt
 refine⟨⟨I.ok.mod,?_,I.ok.glob,I.ok.blt,kc _,λx y c h1 a=>?_,λx h=>?_,λx c q e=>?_,I.ok.hd,I.ok.frames,.inl AU,λb g=>?_,
  I.bs,mT I.ok.bsz I.sz,λb o e g=>?_,λb g=>w b (C b g).2.1 (C b g).2.2.1,I.stack,K⟩,rfl,I.bare,Un.kept hk,⟨_,N,λi x v h1 a G=>?_⟩,λx c h=>?_,I.hok.fresh<|kc _,λx c h=>?_,λp W=>?_,I.hok.kept hk,S.len L⟩
 .show(lm scope X.env).kind= .function;simp[lm,S.kind]
 .rcases B.ex x c h1 with z|z
  .rcases B.ex y c a with s|s
   .exact I.ok.inj x y c z s
   .exact absurd (A x c z) (G7 s)
  .exact B.inj x y c z h1 a A
 ·
  have U:(lm scope X.env).names.lookup x=A7 .cell\/(lm scope X.env).names.lookup x=A7 .free:=h;refine B.all x ?_;rcases U with z|z
  .obtain⟨k,h1,a⟩:=lE z;rcases a with a|a<;>subst a
   .exact .inr h1
   .exact .inl h1
  .obtain⟨k,h1,a⟩:=lE z;rcases a with a|a<;>(subst a;exact .inl h1)
 .rcases B.one x c e with⟨_,z⟩|⟨z,_⟩
  .exact absurd (vD q) z
  .exact tU z
 .refine⟨jH<|T b g,λx c h=>?_⟩;rcases B.ex x c h with z|z
  .exact(C b g).2.2.2.2.1 x c z
  .exact pD (DP (T b g) z)
 ·
  have M:b∈E:=g;rcases(C b M).2.2.2.1 with z|z
  .exact I.ok.noex b o e z
  .exact absurd (nM (jW e)<|mT I.ok.bsz z) (qR _)
 .obtain⟨q,j,R,hv⟩:=S.pre L i v x a h1;obtain⟨m,hn,V⟩:=I.loc;have J:=S.free (x,.free) (qO q) AU;obtain⟨u,r,l⟩:=V j x v R hv (by rcases J with z|z;exact .inr<|.inl z;exact .inr<|.inr z);refine⟨u,r,.inr ⟨oY q,?_⟩⟩;rcases l with⟨ef,_⟩|⟨_,c,P,Z⟩
  .have F:X.env.scope.names.lookup x=A7 .local:=ef;rcases J with z|z<;>(have s:X.env.scope.names.lookup x=_:=z;rw[F] at s;cases s)
  .obtain⟨Y,Q⟩:=B.all x<|.inl<|qO q;rcases B.one x Y Q with⟨this,_⟩|⟨_,z,_⟩
   .rw[P] at this;cases this;exact⟨c,Q,Z.keeps hk⟩
   .rw[q] at z;cases z
 .rcases B.one x c h with⟨z,_⟩|⟨_,_,z⟩
  .obtain⟨v,hv⟩:=I.cell x c z;exact⟨v,hv.keeps hk⟩
  .exact⟨_,z⟩
 .rcases B.ex x c h with z|z
  .exact I.freeC x c z
  .exact I.hok.fresh (tU z)
 .have D:p∈X.pn++d:=by simpa[Cx.comp] using W
  obtain⟨e,n,h1,a,G⟩:=I.pin p D;exact⟨hk _ _ e,n,jH<|jW e,w _ h1 a,G⟩
def BG{q:jh}{scope:jG}{a:ju}{f g:iJ}{n k:St}{i l:Hp}{j:kB}{cl:kT}{m:iX}(T:Inv X a n i f)(h: ∀b∈j,uB X a i b)
  (U:Inv (X.comp q scope cl f.heap.objs.size f i j a) [] k l g)(t:aP f.heap.objs.size g.heap m):Inv X a n l {g with heap:=m}:=by
 have K:=T.MO (s':=g) (ch:=j) U.os U.base U.hok U.bare λb d=>⟨(h b d).2.2.2.1,(h b d).2.1,(h b d).2.2.2.2.1,(h b d).2.2.2.2.2⟩
 have r:X.env.locals<f.heap.objs.size:=T.lt;refine K.turned (it:=f.heap.objs.size) (t':=g.toks) (λb o d e=>by rw[t.2 b d];exact e) U.free (pD r) (.inr T.sz) (λx c u z=>?_) λp s z=>?_
 .obtain⟨v,o,e,_⟩:=T.cell x c u;exact absurd (jW e) (by rw[z];exact qR _)
 .obtain⟨e,_⟩:=T.pin p s;exact absurd (jW e) (by rw[z];exact qR _)
def IQ(o:HO)(U:It)(g:TG)(c:TT)(b:iE->TB)(pre:St->St)(e:St)(T:Hp)(Q:VK):Prop:=
 ∀d,T d=C->IM U g c (b d) (pre e) (upd T d o) λ_ a=>Q (.ref d) a
def ZC(U:It)(g:TG)(b:TT)(a:iE->TB)(pre:St->St)(c:St)(T:Hp)(Q:VK):Prop:=IQ (.lst []) U g b a pre c T Q
def za{e:iK}{o:HO}{l:eE}{c:pk}{jA:qI}{scope:jG}{u:jh}{pre:St->St}{g:TG}{ti:TT}{tb:iE->TB}{M:kT}{J:It}{i:kB}{it:iE}{tn:Nat->iX->Prop}
  (hl:(∃N k sc p,e= .ListComp N k sc p)\/ ∃N k sc p,e= .SetComp N k sc p)(hg:b5 e=c::jA)
  (S:ET X u scope pre)(hc:X.calm=I)(ha:c.is_async=0)(l7: ∀I',jA[0]?=A7 I'->I'.is_async=0)
  (q9: ∀(cl:kT) (C:iE) (s:iJ) (t:Hp) (i:kB) (a:ju),let H':=X.comp u scope cl C s t i a
   PG H' c.target g/\Ky H' c.ifs ti/\ ∀d,PB H' (jI e 0 (.ref d) H'.env)<|tb d)
  (j6: ∀x c,M.lookup x=A7 c->X.env.cells.lookup x=A7 c)(k7: ∀x,(x,aG)∈scope.names-> ∃c,M.lookup x=A7 c)
  {a:ju}{f:iJ}{L:St}{m:Hp}{Q:VK}{E:jt}{RR:iN->iE->hG->Shared->Prop}(I2:Inv X a L m f)(T:Turn X.prog X.w X.K c.target J i it tn)(x8:tn 0 f.heap)(f2: ∀b∈i,uB X a m b)
  (G:Inv X a L (upd m f.heap.objs.size o) {f with heap:=f.heap.push l})
  (h:IQ o J g ti tb pre L m Q)
  (hRR: ∀(d:iE) (cl:kT) (s:iJ) (t O:Hp) (σ':St) (s4:iJ),Inv X a L t s->(∀b∈i,uB X a t b)->Inv (X.comp u scope cl s.heap.objs.size s t i a) [] σ' O s4->Q (.ref d) O->RR (.ref d) s.heap.objs.size (.ok .next) s4):
  ah (ai X.prog X.w) X.A (gY scope X.env.globals M [] X.env.qual AX .none<|A7 X.env) (λn y=>
   bP (ai X.prog X.w) X.A (.compStart e 0 (.ref it) (.ref f.heap.objs.size) {n with scope:=lm scope X.env}) (RR (.ref f.heap.objs.size) n.locals) y) E {f with heap:=f.heap.push l}:=by
 have P: ∀b∈i,b<f.heap.objs.size:=λb j=>by obtain⟨o,e,_⟩:=T.obj _ _ x8 b j;exact jW e
 have U: ∀b∈i,uB X a (upd m f.heap.objs.size o) b:=λb j=>⟨by rw[ji<|jH<|P b j];exact(f2 b j).1,(f2 b j).2⟩
 refine Rx S.cell j6 k7 λh1 cl aq F B=>?_;have hk: ∀b o,(f.heap.push l).get? b=A7 o->h1.get? b=A7 o:=F;have D: ∀b∈i,b<(f.heap.push l).objs.size:=λb j=>by rw[qK];exact vq<|P b j
 have J0:=Sj (t':=f.toks) S G B U D aq hk;obtain⟨pg,bH,pb⟩:=q9 cl (f.heap.push l).objs.size {f with heap:=f.heap.push l} (upd m f.heap.objs.size o) i a;have v:tn 0 h1:=T.keep _ _ _ x8 λb j o e=>hk b o<|jT _ e;have hw:=h f.heap.objs.size<|I2.hok.fresh<|kc _
 have Y: ∀b∈i,uB (X.comp u scope cl (f.heap.push l).objs.size {f with heap:=f.heap.push l} (upd m f.heap.objs.size o) i a) []
   (upd m f.heap.objs.size o) b:=λb j=>by
  obtain⟨z1,z2,z3,z4,z5,z6⟩:=U b j;refine⟨z1,jH<|D b j,λz=>(kW.mp<|G.Ia b z).elim z2 z3,.inl j,λx c hx=>(B.ex x c hx).elim (z5 x c) λz=>pD<|DP (D b j) z,λp hp=>z6 p<|by simpa[Cx.comp] using hp⟩
 have R:(b5 e)[0]?=A7 c:=by rw[hg];rfl
 refine Fm hl R ha ?_ λQ' W hq=>T.self X.A 0 _ Q' W v hq
 refine vE (JA (X:=X.comp u scope cl (f.heap.push l).objs.size {f with heap:=f.heap.push l} (upd m f.heap.objs.size o) i a)
  (depth:=0) (acc:= .ref f.heap.objs.size) rfl hc hl R ha (λI' V=>l7 I'<|by rw[hg] at V;exact V) T pg bH (pb _) J0 Y v hw) λr s4 hr=>?_
 obtain⟨rfl,σ4,O,Z,_,q⟩:=hr;exact hRR _ _ _ _ _ _ _ G U Z q
noncomputable def MT(e:TI)(g:TG)(d:TT)(c:iE->TB)(pre:St->St):TE:=λa T Q=>e a T λU b=>ZC U g d c pre a b Q
def aej{b:iK}{c:pk}{jA:qI}{scope:jG}{e:bu}{o:jh}{pre:St->St}{y:TI}{g:TG}{ti:TT}{tb:iE->TB}
  (S:ET X o scope pre)(U:X.calm=B8)(N:c.is_async=0)(l7: ∀t,jA[0]?=A7 t->t.is_async=0)
  (hs: ∀x,ax c.iter X.env x=pure x)(pi:PI X c.target c.iter y)
  (q9: ∀(cl:kT) (C:iE) (u:iJ) (k:Hp) (r:kB) (a:ju),let f:=X.comp o scope cl C u k r a
   PG f c.target g/\Ky f c.ifs ti/\ ∀d,PB f (jI (.ListComp b (c::jA) scope e) 0 (.ref d) f.env)<|tb d):
  PE X (.ListComp b (c::jA) scope e) (MT y g ti tb pre):=by
 intro a s z H Q I h;obtain⟨tg,p,j,L⟩:=c;obtain rfl:L=0:=N;obtain⟨cl,V,P,R⟩:=sH X.env scope λx K Y=>I.ok.has x.1<|S.free x K Y;rw[eval_ListComp];show ah _ X.A (ip _ scope X.env _ (lS []) B6 (aM p X.env)) _ _ s;refine G6 (use:=AX) (g:=⟨tg,p,j,0⟩) (gs:=jA) AU hs V S.kind S.names<|Bo (pi a s z H _ I h) λv s1 h1=>Bo h1 λdu Z M=>?_;obtain⟨it,r,tn,J,H2,rfl,l,T,x8,f2,F⟩:=M;refine nr<|za (RR:=λi C=>KE (ai X.prog X.w) X.A X.xe AX (EP X a z Q) i C) (.inl ⟨_,_,_,_,rfl⟩) AU S U AU l7 q9 P R l T x8 f2 (l.M1 (t':=Z.toks) .nil<|by simp) F λd O u k B σ' s4 E G n q=>?_;obtain⟨m,D,_⟩:=id n.loc;exact⟨m,D,λh' W=>⟨.ref d,B,BG E G n W,rfl,q⟩⟩
def aeD{f:iK}{c:pk}{jA:qI}{scope:jG}{j i6 k:bu}{N':jh}{pre:St->St}{wi:TI}{g:TG}{ti:TT}{tb:iE->TB}{y:aw}{i:Nat}
  (bK:bJ (.ListComp f (c::jA) scope j) (A7<|.Name y k) i6.line X.env=pure B8)
  (S:ET X N' scope pre)(hc:X.calm=B8)(ha:c.is_async=0)(l7: ∀g',jA[0]?=A7 g'->g'.is_async=0)
  (hs: ∀x,ax c.iter X.env x=pure x)(pi:PI X c.target c.iter wi)(gc:PG X (.Name y k) (F6 i))
  (q9: ∀(cl:kT) (C:iE) (l:iJ) (H3:Hp) (fp:kB) (a:ju),let u:=X.comp N' scope cl C l H3 fp a
   PG u c.target g/\Ky u c.ifs ti/\ ∀d,PB u (jI (.ListComp f (c::jA) scope j) 0 (.ref d) u.env)<|tb d):
  PS X (.Assign [.Name y k] (.ListComp f (c::jA) scope j) i6) (Uj (MT wi g ti tb pre)<|F6 i):=by
 intro a s E H D I h;obtain⟨W,M,t,az⟩:=c;obtain rfl:az=0:=ha;obtain⟨cl,k8,j6,k7⟩:=sH X.env scope λx Y hf=>I.ok.has x.1<|S.free x Y hf;rw[exec_Assign_Name_used _ _ _ _ bK];refine iF<|yG<|iF ?_;show ah _ X.A (do let _ <-ip (.ListComp f (⟨W,M,t,0⟩::jA) scope j) scope X.env _ (lS []) B6 (aM M X.env) (A7<|cg (.Name y k) X.env)) _ _ s
 refine iF (oW (G6 (use:=A7<|cg (.Name y k) X.env) (g:=⟨W,M,t,0⟩) (gs:=jA) (Q:=λ_ B=>SP X a D .next B) AU hs k8 S.kind S.names
  (Bo (pi a s E H _ I h) λv s1 h1=>Bo h1 λdu s2 h2=>?_)) (λ_ B hq=>iP<|iP hq) λ_ _ e=>e)
 obtain⟨it,fp,tn,J,H2,rfl,P,T,x8,f2,hw⟩:=h2;refine nr<|za (RR:=λG C=>KE (ai X.prog X.w) X.A X.xe (A7<|cg (.Name y k) X.env) (λ_ B=>SP X a D .next B) G C) (.inl ⟨_,_,_,_,rfl⟩) AU S hc AU l7 q9 j6 k7 P T x8 f2 (P.M1 (t':=s2.toks) .nil<|by simp) hw λd cl' l H3 L σ' K n ff O q=>?_;obtain⟨m,hn,_⟩:=id O.loc;obtain⟨F,es,ep,ho,hd,hr⟩:=id hn;have R:Inv X a E L K:=BG n ff O (DO ..);have r:l.heap.objs.size≠X.env.locals:=pD n.lt;have N:l.heap.objs.size∉X.fs:=λz=>n.OC (kc _) z
 have Z:Inv X (a++[(l.heap.objs.size,F)]) E L K:=R.KH λp U=>by
  rcases sQ.mp U with z|z
  .exact R.pin p (qQ _ z)
  .rcases E7.mp z with rfl
   exact⟨ho,O.free,r,N,λv z=>by rw[hd] at z;cases z⟩
 show ah _ X.A (cg (.Name y k) X.env<|.ref d) _ _ _;refine Bo (gc _ K E L (.ref d) (.ref d) _ Z rfl q) λ_ s5 a'=>?_;obtain⟨σ5,H5,I5,q5⟩:=a';have V:=I5.pin (l.heap.objs.size,F) (by simp);refine⟨m,⟨F,es,ep,V.1,hd,hr⟩,λh' r8=>⟨σ5,H5,?_,q5⟩⟩;refine I5.FQ.turned (it:=l.heap.objs.size) (t':=s5.toks) (λb o hb e=>by rw[r8.2 b hb];exact e) V.2.1 r (.inr n.sz) (λx c Y z=>?_) λp U z=>?_
 .obtain⟨v,o,e,_⟩:=n.cell x c Y;exact absurd (jW e) (by rw[z];exact qR _)
 .obtain⟨e,_⟩:=n.pin p U;exact absurd (jW e) (by rw[z];exact qR _)
end
end L2
namespace PX
open L2
inductive OK where
 |dct|set|fn(i:Nat)|exc(c:Nat)
 deriving DecidableEq
inductive D where
 |B7|bl(b:Bool)|int(i:Int)|str(x:aw)|tup(l:List D)|lst(l:List D)|BU(k:OK)(ks vs:List D)
mutual
/-- the hash of ints and of tuples of such -/
noncomputable def D.hash:D->Int
 | .int i=>hashInt i
 | .tup l=>reduceHash<|aY<|D.HG l
 |_=>0
noncomputable def D.HG:List D->List Int
 |[]=>[]
 |d::l=>D.hash d::D.HG l
end
noncomputable def kf:Key->D
 | .inl i=> .int i
 | .inr x=> .str x
def aaL(K:jb)(o:eE)(U:Nat):Prop:=o.cls= .ref U/\(∀a:iE,PySem.W.KitX K (.ref a) (.ref U) λh=>h.get? a=J o)/\ ∀n∈["int","bool","str","tuple","list","dict"],cR K (.ref U) (.type n)=J Y
def Ey(K:jb)(h:Option HO)(k:OK)(a c:List D)(b:List V):Prop:=
 match k with
 | .dct=>(∃kvs:List (Key×V),h=J (.dK kvs)/\a=kvs.map (λp=>kf p.1)/\b=kvs.map (·.2))\/
   (∃kvs:List (List Key×V),h=J (.dT kvs)/\a=kvs.map (λp=> .tup (p.1.map kf))/\b=kvs.map (·.2))
 | .set=>a=[]/\ ∃d:List (Int×V),h=J (.BH d)/\d.Perm ((D.HG c).zip b)
 | .exc U=>(a=[]/\c=[]/\b=[])/\ ∃o,h=J (.EG o<|.own 0)/\aaL K o U
 |_=>False
def Ey.ex{K h k a vs us}(x:Ey K h k a vs us): ∃o,h=J o:=by
 cases k with
 |dct=>rcases x with⟨_,e,_⟩|⟨_,e,_⟩<;>exact⟨_,e⟩
 |set=>obtain⟨_,_,e,_⟩:=x;exact⟨_,e⟩
 |exc U=>obtain⟨_,_,e,_⟩:=x;exact⟨_,e⟩
 |_=>exact x.elim
def Ey.keep{K k a b us}(x:Ey K h k a b us)(c: ∀o,h=J o->h'=J o):Ey K h' k a b us:=by obtain⟨o,e⟩:=x.ex;rw[c o e,<-e];exact x
abbrev BL:=iE->Prop
def KT(K:jb)(a:iE)(xs:List V):Prop:= ∃(o:eE) (b:lI) (n:Nat),K.lookup a=J o/\o.cls= .type "tuple"/\o.data= .seq b n/\b.size<=sizeLine/\Vals xs b.toList
def ac2(K:jb)(a:iE)(c:List V):Prop:= ∃(o:eE) (b:lI) (n:Nat),K.lookup a=J o/\o.cls= .type "list"/\o.dict=C/\o.data= .seq b n/\b.size<=sizeLine/\Vals c b.toList
def Ij(K:jb)(U:Hp)(O:BL)(a:iE)(b:List V):Prop:=U a=J (.tup b)/\ ¬O a
def Ik(K:jb)(U:Hp)(O:BL)(a:iE)(b:List V):Prop:=(Rd U a (.lst b)/\ ¬O a)\/ac2 K a b
def Ij.sq{K U O a xs}(h:Ij K U O a xs):Hu K U a xs:= .inl (.inl h.1)
def Ik.sq{K U O a xs}(h:Ik K U O a xs):Fp K U a xs:=h.elim (λz=> .inl z.1) .inr
def Rd.mono{a u}(h:Rd U a u)(k: ∀o,U a=J o->b a=J o):Rd b a u:=by
 rcases h with h|⟨o,h⟩
 .exact .inl (k _ h)
 .exact .inr ⟨o,k _ h⟩
def Ij.mono{K U c}{a xs}(h:Ij K U O a xs)(k: ∀b o,U b=J o-> ¬O b->c b=J o)(e: ∀b,U b≠C->d b->O b):Ij K c d a xs:=
 ⟨k a _ h.1 h.2,λz=>h.2<|e a (by rw[h.1];simp) z⟩
def Ik.mono{K U c}{a xs}(h:Ik K U O a xs)(k: ∀b o,U b=J o-> ¬O b->c b=J o)(f: ∀b,U b≠C->d b->O b):Ik K c d a xs:=by
 rcases h with⟨r,n⟩|h
 .refine .inl ⟨Rd.mono r λo e=>k a o e n,λz=>n<|f a ?_ z⟩;rcases r with r|⟨_,r⟩<;>(rw[r];simp)
 .exact .inr h
mutual
/-- v is the datum,in H;nothing of it stands at an address of O -/
def Rep(K:jb)(U:Hp)(O:BL):D->V->Prop
 | .B7,v=>v= .B7
 | .bl b,v=>v= .bl b
 | .int i,v=>v= .int i
 | .str x,v=>v= .str x
 | .tup l,v=> ∃a xs,v= .ref a/\Ij K U O a xs/\AF K U O l xs
 | .lst l,v=> ∃a xs,v= .ref a/\Ik K U O a xs/\AF K U O l xs
 | .BU k c vs,v=> ∃a us,v= .ref a/\(¬O a/\Ey K (U a) k c vs us)/\AF K U O vs us
def AF(K:jb)(U:Hp)(O:BL):List D->List V->Prop
 |[],vs=>vs=[]
 |d::l,vs=> ∃v r,vs=v::r/\Rep K U O d v/\AF K U O l r
end
mutual
theorem Rep.mono{K U g}{O i:BL}(k: ∀b o,U b=J o-> ¬O b->g b=J o)(c: ∀b,U b≠C->i b->O b): ∀{d:D} {v:V},Rep K U O d v->Rep K g i d v
 | .B7,_,h=>h
 | .bl _,_,h=>h
 | .int _,_,h=>h
 | .str _,_,h=>h
 | .tup l,_,h=>by rw[Rep] at h ⊢;obtain⟨a,f,e,s,r⟩:=h;exact⟨a,f,e,s.mono k c,AF.mono k c r⟩
 | .lst l,_,h=>by rw[Rep] at h ⊢;obtain⟨a,f,e,s,r⟩:=h;exact⟨a,f,e,s.mono k c,AF.mono k c r⟩
 | .BU j m vs,_,h=>by rw[Rep] at h ⊢;obtain⟨a,us,e,s,r⟩:=h;exact⟨a,us,e,⟨λz=>s.1<|c a (by obtain⟨o,q⟩:=s.2.ex;rw[q];simp) z,s.2.keep λo q=>k a o q s.1⟩,AF.mono k c r⟩
theorem AF.mono{K U a}{O c:BL}(k: ∀b o,U b=J o-> ¬O b->a b=J o)(f: ∀b,U b≠C->c b->O b): ∀{l:List D} {vs:List V},AF K U O l vs->AF K a c l vs
 |[],_,h=>h
 |d::l,_,h=>by rw[AF] at h ⊢;obtain⟨v,r,e,h1,g⟩:=h;exact⟨v,r,e,Rep.mono k f h1,AF.mono k f g⟩
end
def Rep.mkInt{K U O i}:Rep K U O (.int i) (.int i):=by rw[Rep]
def Rep.KL{K U O i}:Rep K U O (.bl i) (.bl i):=by rw[Rep]
def Rep.Ig{K U O}:Rep K U O .B7 .B7:=by rw[Rep]
def Rep.mkStr{K U O i}:Rep K U O (.str i) (.str i):=by rw[Rep]
def Rep.int{K U O i v}(h:Rep K U O (.int i) v):v= .int i:=by rwa [Rep] at h
def Rep.bl{K U O i v}(h:Rep K U O (.bl i) v):v= .bl i:=by rwa [Rep] at h
def Rep.B7{K U O v}(h:Rep K U O .B7 v):v= .B7:=by rwa [Rep] at h
def Rep.str{K U O i v}(h:Rep K U O (.str i) v):v= .str i:=by rwa [Rep] at h
def Rep.tup{K U O l v}(h:Rep K U O (.tup l) v): ∃a xs,v= .ref a/\Ij K U O a xs/\AF K U O l xs:=by rwa [Rep] at h
def Rep.lst{K U O l v}(h:Rep K U O (.lst l) v): ∃a xs,v= .ref a/\Ik K U O a xs/\AF K U O l xs:=by rwa [Rep] at h
def Rep.BU{K U O k ks vs v}(h:Rep K U O (.BU k ks vs) v): ∃a us,v= .ref a/\(¬O a/\Ey K (U a) k ks vs us)/\AF K U O vs us:=by rwa [Rep] at h
def Rep.MD{K U O k b vs a us}(n: ¬O a)(h:Ey K (U a) k b vs us)(r:AF K U O vs us):Rep K U O (.BU k b vs) (.ref a):=by rw[Rep];exact⟨a,us,rfl,⟨n,h⟩,r⟩
def Rep.Kq{K U O l a xs}(h:Ij K U O a xs)(r:AF K U O l xs):Rep K U O (.tup l) (.ref a):=by rw[Rep];exact⟨a,xs,rfl,h,r⟩
def Rep.OF{K U O l a xs}(h:Ik K U O a xs)(r:AF K U O l xs):Rep K U O (.lst l) (.ref a):=by rw[Rep];exact⟨a,xs,rfl,h,r⟩
theorem AF.length{K U O}: ∀{l:List D} {vs:List V},AF K U O l vs->A0 vs=A0 l
 |[],vs,h=>by rw[AF] at h;rw[h];rfl
 |d::l,vs,h=>by rw[AF] at h;obtain⟨v,r,rfl,_,a⟩:=h;simp[AF.length a]
theorem AF.get{K U O}: ∀{l:List D} {a:List V} {i:Nat} {d:D},AF K U O l a->l[i]?=J d-> ∃v,a[i]?=J v/\Rep K U O d v
 |[],_,_,_,_,e=>by simp at e
 |d::l,a,0,b,h,e=>by rw[AF] at h;obtain⟨v,r,rfl,h1,_⟩:=h;simp at e;subst e;exact⟨v,rfl,h1⟩
 |d::l,a,i+1,b,h,e=>by rw[AF] at h;obtain⟨v,r,rfl,_,c⟩:=h;obtain⟨w,f,g⟩:=AF.get (i:=i) c (by simpa using e);exact⟨w,by simpa using f,g⟩
def AF.append{K U O}: ∀{l m:List D} {a c:List V},AF K U O l a->AF K U O m c->AF K U O (l++m) (a++c):=by
 intro g
 induction g with
 |nil=>intro _ a _ h b;rw[AF] at h;subst h;exact b
 |cons d l f=>intro _ a _ h b;rw[AF] at h;obtain⟨v,r,rfl,h1,e⟩:=h;show AF K U O (d::(l++_)) _;rw[AF];exact⟨v,_,rfl,h1,f e b⟩
def AF.one{K U O}{d:D}{v:V}(h:Rep K U O d v):AF K U O [d] [v]:=by rw[AF];exact⟨v,[],rfl,h,by rw[AF]⟩
def AF.nil{K U O}:AF K U O [] []:=by rw[AF]
def AF.cons{K U O}{l vs}(h:Rep K U O d v)(h':AF K U O l vs):AF K U O (d::l) (v::vs):=by rw[AF];exact⟨v,vs,rfl,h,h'⟩
theorem AF.take{K U O}: ∀{l:List D} {a:List V} (n:Nat),AF K U O l a->AF K U O (l.take n) (a.take n)
 |_,_,0,_=>by simp[AF]
 |[],a,n+1,h=>by rw[AF] at h;subst h;simp[AF]
 |d::l,a,n+1,h=>by rw[AF] at h;obtain⟨v,r,rfl,h1,b⟩:=h;exact AF.cons h1<|AF.take n b
theorem AF.drop{K U O}: ∀{l:List D} {vs:List V} (n:Nat),AF K U O l vs->AF K U O (l.drop n) (vs.drop n)
 |_,_,0,h=>h
 |[],vs,n+1,h=>by rw[AF] at h;subst h;simp[AF]
 |d::l,vs,n+1,h=>by rw[AF] at h;obtain⟨v,r,rfl,h1,a⟩:=h;exact AF.drop n a
theorem AF.set{K U O}{d:D}{v:V}(hv:Rep K U O d v): ∀{l:List D} {vs:List V} (i:Nat),AF K U O l vs->AF K U O (l.set i d) (vs.set i v)
 |[],vs,i,h=>by rw[AF] at h;subst h;simp[AF]
 |e::l,vs,0,h=>by rw[AF] at h;obtain⟨w,r,rfl,h1,a⟩:=h;exact AF.cons hv a
 |e::l,vs,i+1,h=>by rw[AF] at h;obtain⟨w,r,rfl,h1,a⟩:=h;exact AF.cons h1<|AF.set hv i a
abbrev Sl:=Option<|D×Bool
abbrev Dn:=List Sl
def AZ(b:L2.St)(δ:Dn)(a:iE):Prop:= ∃(i:Nat) (d:D),δ[i]?=J (J (d,I))/\b[i]?=J (J<|V.ref a)
def EU(K:jb)(U:Hp)(O:BL):D->iE->Prop
 | .lst l,a=> ∃d,U a=J (.lst d)/\AF K U O l d
 | .BU k e c,a=> ∃b,Ey K (U a) k e c b/\AF K U O c b
 |_,_=>False
def EU.mono{K U c}(h:EU K U O d a)(k: ∀b o,U b=J o-> ¬O b->c b=J o)(f: ∀b,U b≠C->i b->O b)(g: ∀o,U a=J o->c a=J o):EU K c i d a:=by
 cases d with
 |lst l=>obtain⟨j,e,r⟩:=h;exact⟨j,g _ e,AF.mono k f r⟩
 |BU m n vs=>obtain⟨us,e,r⟩:=h;exact⟨us,e.keep g,AF.mono k f r⟩
 |_=>exact h
def EU.rep{K U}(h:EU K U O d a)(g: ¬c a)(f: ∀b,U b≠C->c b->O b):Rep K U c d (.ref a):=by
 cases d with
 |lst l=>obtain⟨i,e,r⟩:=h;rw[Rep];exact⟨a,i,rfl,.inl ⟨.inl e,g⟩,AF.mono (λb o e _=>e) f r⟩
 |BU j k n=>obtain⟨m,e,r⟩:=h;exact Rep.MD g e<|AF.mono (λb o e _=>e) f r
 |_=>exact h.elim
def Ow:Option HO->Prop
 |none=>False
 |some (.tup _)=>False
 |_=>True
def Ow.ne{o:Option HO}(h:Ow o):o≠C:=λe=>by rw[e] at h;exact h
def Ow.up{o a:Option HO}(h:Ow o)(k: ∀x,o=J x->a=J x):Ow a:=by
 cases o with
 |none=>exact h.elim
 |some x=>rw[k x H];exact h
def OD{o:Option HO}(h:o=C): ¬Ow o:=λz=>z.ne h
def Ow.nt{o:Option HO}(h:Ow o)(a:List V):o≠J (.tup a):=λe=>by rw[e] at h;exact h
def EU.ow{K U}{O:BL}{d:D}{a:iE}(h:EU K U O d a):Ow (U a):=by
 cases d with
 |lst l=>obtain⟨g,e,_⟩:=h;rw[e];trivial
 |BU k b f=>
  obtain⟨c,e,_⟩:=h
  cases k with
  |dct=>rcases e with⟨_,e,_⟩|⟨_,e,_⟩<;>(rw[e];trivial)
  |set=>obtain⟨_,_,e,_⟩:=e;rw[e];trivial
  |exc T=>obtain⟨_,_,e,_⟩:=e;rw[e];trivial
  |_=>exact e.elim
 |_=>exact h.elim
structure ER(K:jb)(H:Hp)(T:BL)(σ:L2.St)(δ:Dn):Prop where
 len:(A0 σ)=A0 δ
 val: ∀(i:Nat) (d:D),δ[i]?=A7 (A7 (d,B6))-> ∃v,σ[i]?=A7 (A7 v)/\Rep K H (λa=>AZ σ δ a\/T a) d v
 own: ∀(i:Nat) (d:D),δ[i]?=A7 (A7 (d,B8))-> ∃a,σ[i]?=A7 (A7<|V.ref a)/\EU K H (λa=>AZ σ δ a\/T a) d a
 inj: ∀(i j:Nat) (d e:D) (a:iE),δ[i]?=A7 (A7 (d,B8))->δ[j]?=A7 (A7 (e,B8))->σ[i]?=A7 (A7<|V.ref a)->σ[j]?=A7 (A7<|V.ref a)->i=j
 nT: ∀a,AZ σ δ a-> ¬T a
 dom: ∀a,T a->Ow (H a)
def ER.Kp{K U T σ e}(E:ER K U T σ e)(h:AZ σ e a):Ow (U a):=by obtain⟨i,d,h1,f⟩:=h;obtain⟨b,c,g⟩:=E.own i d h1;rw[f] at c;cases c;exact g.ow
def ER.KI{K U T σ δ}(E:ER K U T σ δ)(h:AZ σ δ a):U a≠C:=(E.Kp h).ne
def ER.mono{K U c σ δ}(E:ER K U T σ δ)(k: ∀b o,U b=J o-> ¬T b->c b=J o)(g: ∀b,U b≠C->T' b->T b)(hd: ∀a,T' a->Ow (c a)):ER K c T' σ δ where
 len:=E.len
 val:=λi d h=>by obtain⟨v,h1,f⟩:=E.val i d h;exact⟨v,h1,Rep.mono (λb o e n=>k b o e λz=>n<|.inr z) (λb j z=>z.elim .inl λz=> .inr (g b j z)) f⟩
 own:=λi d h=>by obtain⟨a,h1,f⟩:=E.own i d h;exact⟨a,h1,f.mono (λb o e n=>k b o e λz=>n<|.inr z) (λb j z=>z.elim .inl λz=> .inr (g b j z)) λo e=>k a o e<|E.nT a ⟨i,d,h,h1⟩⟩
 inj:=E.inj
 nT:=λa h z=>E.nT a h<|g a (E.KI h) z
 dom:=hd
def AZ.set(h:AZ σ (c.set i<|J (d,Y)) a):AZ σ c a:=by
 obtain⟨j,e,h1,b⟩:=h;rw[wq] at h1;split at h1
 .split at h1<;>simp at h1
 .exact⟨j,e,h1,b⟩
def ER.freeze{K U T σ m}(E:ER K U T σ m){i:Nat}{d:D}{b:Bool}(h:m[i]?=J (J (d,b))):ER K U T σ (m.set i<|J (d,Y))/\ ∃v,σ[i]?=J (J v)/\Rep K U (λa=>AZ σ (m.set i<|J (d,Y)) a\/T a) d v:=by
 have o:i<(A0 m):=(uD.mp h).1
 have p: ∃v,σ[i]?=J (J v)/\Rep K U (λa=>AZ σ (m.set i<|J (d,Y)) a\/T a) d v:=by
  cases b with
  |false=>obtain⟨v,h1,l⟩:=E.val i d h;exact⟨v,h1,Rep.mono (λ_ _ e _=>e) (λb _ z=>z.elim (λz=> .inl z.set) .inr) l⟩
  |true=>
   obtain⟨a,h1,l⟩:=E.own i d h;refine⟨.ref a,h1,l.rep (λz=>?_) λb _ z=>z.elim (λz=> .inl z.set) .inr⟩;rcases z with⟨j,e,n,q⟩|z
   .rw[wq] at n;split at n
    .first
      |(split at n<;>simp at n)
      |simp at n
    .rename_i r;exact r<|E.inj i j d e a h n h1 q
   .exact E.nT a ⟨i,d,h,h1⟩ z
 refine⟨⟨by rw[vB];exact E.len,λj e c=>?_,λj e c=>?_,λj k e f a c hk h1 l=>?_,λa z=>E.nT a z.set,E.dom⟩,p⟩
 .by_cases g:i=j
  .subst g;rw[oX o] at c;cases c;exact p
  .rw[nK g] at c;obtain⟨v,h1,l⟩:=E.val j e c;exact⟨v,h1,Rep.mono (λ_ _ e _=>e) (λb _ z=>z.elim (λz=> .inl z.set) .inr) l⟩
 .by_cases g:i=j
  .subst g;rw[oX o] at c;cases c
  .rw[nK g] at c;obtain⟨a,h1,l⟩:=E.own j e c;exact⟨a,h1,l.mono (λ_ _ e _=>e) (λb _ z=>z.elim (λz=> .inl z.set) .inr) λ_ e=>e⟩
 .have g1:m[j]?=J (J (e,I)):=by
   by_cases g:i=j
   .subst g;rw[oX o] at c;cases c
   .rwa [nK g] at c
  have g2:m[k]?=J (J (f,I)):=by
   by_cases g:i=k
   .subst g;rw[oX o] at hk;cases hk
   .rwa [nK g] at hk
  exact E.inj j k e f a g1 g2 h1 l
def BW(b:L2.St)(δ:Dn)(i:Nat)(a:iE):Prop:= ∃d:D,δ[i]?=J (J (d,I))/\b[i]?=J (J<|V.ref a)
structure Cj(σ:L2.St)(δ:Dn)(H:Hp)(δ':Dn)(H':Hp):Prop where
 kp: ∀a o,H a=A7 o-> ¬AZ σ δ a->H' a=A7 o
 owi: ∀i a,BW σ δ' i a->BW σ δ i a
 dm: ∀a,H a≠AX->H' a≠AX
def Cj.ow{σ c U b f}(k:Cj σ c U b f)(a:iE)(h:AZ σ b a):AZ σ c a:=by obtain⟨i,d,h1,g⟩:=h;obtain⟨e,j,l⟩:=k.owi i a ⟨d,h1,g⟩;exact⟨i,e,j,l⟩
def Cj.refl{σ a U}:Cj σ a U a U:=⟨λ_ _ e _=>e,λ_ _ z=>z,λ_ z=>z⟩
def Cj.trans{σ δ δ1 δ2 U H1 b}(x:Cj σ δ U δ1 H1)(y:Cj σ δ1 H1 δ2 b):Cj σ δ U δ2 b:=
 ⟨λa o e n=>y.kp a o (x.kp a o e n) λz=>n<|x.ow a z,λi a z=>x.owi i a<|y.owi i a z,λa z=>y.dm a<|x.dm a z⟩
def Cj.ext{σ b U H1}(k: ∀a o,U a=J o->H1 a=J o):Cj σ b U b H1:=⟨λa o e _=>k a o e,λ_ _ z=>z,λa z=>by
 cases h:U a with
 |none=>exact absurd h z
 |some o=>rw[k a o h];simp⟩
def BW.set(h:BW σ (c.set i<|J (d,Y)) j a):BW σ c j a:=by
 obtain⟨e,h1,b⟩:=h;rw[wq] at h1;split at h1
 .split at h1<;>simp at h1
 .exact⟨e,h1,b⟩
def Cj.set{σ a U i d}:Cj σ a U (a.set i<|J (d,Y)) U:=⟨λ_ _ e _=>e,λ_ _ z=>z.set,λ_ z=>z⟩
def CK(K:jb)(T:BL)(e:L2.St)(f:Dn)(U:Hp)(r:D×Bool)(b:Dn)(v:V)(c:Hp):Prop:=
 Cj e f U b c/\
 match r with
 |(d,Y)=>ER K c T e b/\Rep K c (λa=>AZ e b a\/T a) d v
 |(d,I)=> ∃p,v= .ref p/\U p=C/\ER K c (λa=>T a\/a=p) e b/\EU K c (λa=>AZ e b a\/T a\/a=p) d p
abbrev F:=Dn->Option ((D×Bool)×Dn)
def tF(K:jb)(f:F):TE:=λd U Q=> ∃b T r a,ER K U T d b/\f b=J (r,a)/\ ∀v c,CK K T d b U r a v c->Q v c
def PX(X:Cx)(e:iK)(f:F):Prop:=PE X e<|tF X.K f
noncomputable def MR(T:BL)(r:D×Bool)(v:V):BL:=λa=>T a\/(r.2=I/\v= .ref a)
section
variable {K:jb}{T:BL}{c:L2.St}{δ δ1 δ2:Dn}{H f g:Hp}{x y:D×Bool}{v u:V}
def CK.er(E:ER K H T c δ)(P:CK K T c δ H x δ1 v f):ER K f (MR T x v) c δ1:=by
 obtain⟨d,b⟩:=x
 cases b with
 |false=>
  refine P.2.1.mono (λ_ _ e _=>e) (λb _ z=>z.elim id λz=>absurd z.1<|by simp) λa z=>?_;rcases z with z|z
  .exact P.2.1.dom a z
  .exact absurd z.1 (by simp)
 |true=>
  obtain⟨p,rfl,i,h,j⟩:=P.2;refine h.mono (λ_ _ e _=>e) (λb _ z=>z.elim .inl λz=> .inr (by have:=z.2;cases this;rfl)) λa z=>?_;rcases z with z|z
  .exact h.dom a (.inl z)
  .have:=z.2;cases this;exact h.dom _ (.inr AU)
def CK.rep(E:ER K H T c δ)(P:CK K T c δ H x δ1 v f):ER K f T c δ1/\Rep K f (λa=>AZ c δ1 a\/T a) x.1 v:=by
 obtain⟨d,b⟩:=x
 cases b with
 |false=>exact P.2
 |true=>
  obtain⟨p,rfl,i,h,j⟩:=P.2;refine⟨h.mono (λ_ _ e _=>e) (λb _ z=> .inl z) λa z=>h.dom a<|.inl z,j.rep (λz=>?_) λb _ z=>z.elim .inl λz=> .inr (.inl z)⟩;rcases z with z|z
  .exact h.nT p z (.inr AU)
  .exact(E.dom p z).ne i
def CK.val(k:Cj c δ H δ2 g)(E:ER K g T c δ2)(r:Rep K g (λa=>AZ c δ2 a\/T a) d w):CK K T c δ H (d,Y) δ2 w g:=⟨k,E,r⟩
end
def jd{e f:Type}{a c:e}{b d:f}(h:J (a,b)=J (c,d)):a=c/\b=d:=by cases h;exact⟨rfl,rfl⟩
noncomputable def fC(d:D):F:=λδ=>J ((d,Y),δ)
noncomputable def kI(i:Nat):F:=λδ=>match δ[i]? with
 |some (J (d,_))=>J ((d,Y),δ.set i<|J (d,Y))
 |_=>C
section
variable {X:Cx}{a b c:iK}{d:bu}{m l g:F}
def PX.imp(h:PE X e t)(k: ∀j U Q,tF X.K f j U Q->t j U Q):PX X e f:=λi s j U Q T n=>h i s j U Q T<|k j U Q n
def S6{i j}:PX X (.Constant (.bool i) j d) (fC<|.bl i):=PX.imp XY λo U Q h=>by obtain⟨n,T,r,f,E,e,k⟩:=h;cases e;exact k _ _ (CK.val .refl E (by first|exact Rep.mkInt|exact Rep.KL|exact Rep.Ig|exact Rep.mkStr))
end
inductive Cm where
 |val(r:D×Bool)|slot(i:Nat)
noncomputable def res(a:Dn):Cm->Option D
 | .val r=>J r.1
 | .slot i=>match a[i]? with
  |some (J (d,_))=>J d
  |_=>C
def kg(K:jb)(U:Hp)(O:BL)(d:D)(v:V):Prop:=Rep K U O d v\/ ∃a,v= .ref a/\EU K U O d a
abbrev FO:=Dn->Option (Cm×Dn)
def HH(K:jb)(T:BL)(b:L2.St)(d:Dn)(U:Hp)(o:Cm)(a:Dn)(v:V)(c:Hp):Prop:=
 match o with
 | .val r=>CK K T b d U r a v c
 | .slot i=>Cj b d U a c/\ER K c T b a/\b[i]?=J (J v)
noncomputable def Co(T:BL)(o:Cm)(v:V):BL:=match o with
 | .val r=>MR T r v
 | .slot _=>T
def tO(K:jb)(f:FO):TE:=λd U Q=> ∃b T o a,ER K U T d b/\f b=J (o,a)/\ ∀v c,HH K T d b U o a v c->Q v c
def PO(X:Cx)(e:iK)(f:FO):Prop:=PE X e<|tO X.K f
noncomputable def iL(f:F):FO:=λδ=>(f δ).bind λp=>J (.val p.1,p.2)
noncomputable def iG(i:Nat):FO:=λδ=>match δ[i]? with
 |some (J _)=>J (.slot i,δ)
 |_=>C
def PE.imp'(h:PE X e t)(k: ∀b U Q,d b U Q->t b U Q):PE X e d:=λa s b U Q T c=>h a s b U Q T<|k b U Q c
section
variable {X:Cx}{a:bu}
def PX.po(h:PX X e f):PO X e (iL f):=PE.imp' h λj U Q g=>by
 obtain⟨c,T,o,i,E,e,k⟩:=g;unfold iL at e
 cases h1:f c with
 |none=>rw[h1] at e;cases e
 |some p=>obtain⟨r,b⟩:=p;rw[h1] at e;obtain⟨rfl,rfl⟩:=jd e;exact⟨c,T,r,b,E,h1,λv d P=>k v d P⟩
end
structure Ops(K:jb)(T:BL)(σ:L2.St)(δ:Dn)(H:Hp)(os:List Cm)(vs:List V)(δ':Dn)(H':Hp)(T':BL):Prop where
 len:os.length=A0 vs
 keep:Cj σ δ H δ' H'
 er:ER K H' T' σ δ'
 tt: ∀a,T a->T' a
 val: ∀(j:Nat) (d:D) (v:V),os[j]?=A7 (.val (d,B6))->vs[j]?=A7 v->Rep K H' (λa=>AZ σ δ' a\/T a) d v
 tmp: ∀(j:Nat) (d:D) (v:V),os[j]?=A7 (.val (d,B8))->vs[j]?=A7 v-> ∃p,v= .ref p/\T' p/\H p=AX/\EU K H' (λa=>AZ σ δ' a\/T a) d p
 slt: ∀(j i:Nat) (v:V),os[j]?=A7 (.slot i)->vs[j]?=A7 v->σ[i]?=A7 (A7 v)
section
variable {K:jb}{T T':BL}{b:L2.St}{δ a c:Dn}{H H' e:Hp}{os:List Cm}{vs:List V}{o:Cm}{v:V}
def Ops.nil(E:ER K H T b δ):Ops K T b δ H [] [] δ H T:=⟨rfl,.refl,E,λ_ z=>z,λj d v h=>by simp at h,λj d v h=>by simp at h,λj i v h=>by simp at h⟩
def HH.keep(P:HH K T b δ H o a v H'):Cj b δ H a H':=by
 cases o with
 |val r=>exact P.1
 |slot i=>exact P.1
def HH.er(E:ER K H T b δ)(P:HH K T b δ H o a v H'):ER K H' (Co T o v) b a:=by
 cases o with
 |val r=>exact CK.er E P
 |slot i=>exact P.2.1
end
def Gen(K:jb)(U:Hp)(O:BL)(z:D×Bool)(Q:VK):Prop:=
 match z with
 |(d,Y)=> ∀w b,(∀a o,U a=J o->b a=J o)->Rep K b O d w->Q w b
 |(d,I)=> ∀p b,U p=C->(∀a o,U a=J o->b a=J o)->EU K b (λa=>O a\/a=p) d p->Q (.ref p) b
section
variable {K:jb}{T m:BL}{f:L2.St}{δ δ1 c δ2:Dn}{H s H' h:Hp}{os:List Cm}{vs:List V}{o:Cm}{v:V}{z:D×Bool}{Q:VK}
def Ops.cons(E:ER K H T f δ)(P:HH K T f δ H o δ1 v s)(B:Ops K (Co T o v) f δ1 s os vs δ2 h m):Ops K T f δ H (o::os) (v::vs) δ2 h m:=by
 have A:=P.er E;have x:=B.keep.kp;have y:=B.keep.ow
 have t: ∀a,T a->Co T o v a:=λa z=>by
  cases o with
  |val r=>exact .inl z
  |slot i=>exact z
 refine⟨by simp[B.len],P.keep.trans B.keep,B.er,λa z=>B.tt a<|t a z,λj d w h1 g=>?_,λj d w h1 g=>?_,λj i w h1 g=>?_⟩
 .cases j with
  |zero=>simp at h1 g;subst h1;subst g;have q:CK K T f δ H (d,Y) δ1 v s:=P;exact Rep.mono (λb k e n=>x b k e λz=>n<|.inl z) (λb _ z=>z.elim (λz=>bf<|y b z) bh) (q.rep E).2
  |succ j=>exact Rep.mono (λ_ _ e _=>e) (λb _ z=>z.elim bf λz=>bh<|t b z)<|B.val j d w (by simpa using h1) (by simpa using g)
 .cases j with
  |zero=>simp at h1 g;subst h1;subst g;have q:CK K T f δ H (d,I) δ1 v s:=P;obtain⟨p,rfl,u,U,ok⟩:=q.2;have l:Co T (.val (d,I)) (V.ref p) p:= .inr ⟨rfl,rfl⟩;refine⟨p,rfl,B.tt p l,u,ok.mono (λb k e n=>x b k e λz=>n<|.inl z) (λb _ z=>z.elim (λz=>bf<|y b z) λz=>bh<|bf z) λk e=>x p k e λz=>A.nT p z l⟩
  |succ j=>
   obtain⟨p,rfl,l,u,ok⟩:=B.tmp j d w (by simpa using h1) (by simpa using g);refine⟨p,rfl,l,?_,ok.mono (λ_ _ e _=>e) (λb _ z=>z.elim bf λz=>bh<|t b z) λ_ e=>e⟩
   cases O:H p with
   |none=>rfl
   |some k=>exact absurd u<|P.keep.dm p (by rw[O];simp)
 .cases j with
  |zero=>simp at h1 g;subst h1;subst g;exact P.2.2
  |succ j=>exact B.slt j i w (by simpa using h1) (by simpa using g)
def Ops.view(B:Ops K T f δ H os vs c H' m){j:Nat}{d:D}(h1:os[j]?=J o)(n:vs[j]?=J v)(g:res c o=J d):kg K H' (λa=>AZ f c a\/T a) d v:=by
 cases o with
 |val r=>
  obtain⟨e,b⟩:=r;have hd:e=d:=kL g;subst hd
  cases b with
  |false=>exact .inl<|B.val j e v h1 n
  |true=>obtain⟨p,rfl,_,_,ok⟩:=B.tmp j e v h1 n;exact .inr ⟨p,rfl,ok⟩
 |slot i=>
  have u:=B.slt j i v h1 n;unfold res at g;dsimp only at g
  cases l:c[i]? with
  |none=>rw[l] at g;cases g
  |some q=>
   cases q with
   |none=>rw[l] at g;cases g
   |some p=>
    obtain⟨e,b⟩:=p;rw[l] at g;have hd:e=d:=kL g;subst hd
    cases b with
    |false=>obtain⟨w,k,t⟩:=B.er.val i e l;rw[u] at k;cases k;exact .inl<|Rep.mono (λ_ _ e _=>e) (λb _ z=>z.elim bf λz=>bh<|B.tt b z) t
    |true=>obtain⟨a,k,t⟩:=B.er.own i e l;rw[u] at k;cases k;exact .inr ⟨a,rfl,t.mono (λ_ _ e _=>e) (λb _ z=>z.elim bf λz=>bh<|B.tt b z) λ_ e=>e⟩
def Ops.done(B:Ops K T f δ H os vs c H' m)(k: ∀v h,CK K T f δ H z c v h->Q v h):Gen K H' (λa=>AZ f c a\/T a) z Q:=by
 obtain⟨d,b⟩:=z;have i: ∀{h:Hp},(∀a o,H' a=J o->h a=J o)-> ∀a,T a->Ow (h a):=λ{h} g a z=>(B.er.dom a<|B.tt a z).up<|g a
 cases b with
 |false=>intro w h g r;exact k w h ⟨B.keep.trans<|.ext g,B.er.mono (λb o e _=>g b o e) (λb _ z=>B.tt b z)<|i g,r⟩
 |true=>
  intro p h l g ok
  have j:H p=C:=by
   cases n:H p with
   |none=>rfl
   |some t=>exact absurd l<|B.keep.dm p (by rw[n];simp)
  refine k (.ref p) h ⟨B.keep.trans<|.ext g,p,rfl,j,B.er.mono (λb o e _=>g b o e) (λb q z=>z.elim (B.tt b) λz=>absurd (z▸l) q) λa z=>?_,ok.mono (λ_ _ e _=>e) (λb _ z=>?_) λ_ e=>e⟩
  .rcases z with z|z
   .exact i g a z
   .subst z;exact ok.ow
  .rcases z with z|z|z
   .exact bf (bf z)
   .exact bf (bh z)
   .exact bh z
def Gen.int(g:Gen K H O (.int i,Y) Q):Q (.int i) H:=g _ H (λ_ _ e=>e) Rep.mkInt
def Gen.bl(g:Gen K H O (.bl i,Y) Q):Q (.bl i) H:=g _ H (λ_ _ e=>e) Rep.KL
def lQ{H:Hp}{p:iE}{o:HO}(b:H p=C): ∀a u,H a=J u->upd H p o a=J u:=λa u e=>by rw[ji (by intro z;subst z;rw[e] at b;cases b)];exact e
def Gen.lst{O:BL}{l:List D}{xs:List V}{p:iE}(g:Gen K H O (.lst l,I) Q)(a:H p=C)(r:AF K H O l xs):Q (.ref p) (upd H p<|.lst xs):=
 g p _ a (lQ a) ⟨xs,jl,AF.mono (λb o e _=>lQ a b o e) (λb d z=>z.elim id λz=>absurd (z▸a) d) r⟩
def Gen.tup(g:Gen K H O (.tup l,Y) Q)(a:H p=C)(np: ¬O p)(r:AF K H O l xs):Q (.ref p) (upd H p<|.tup xs):=
 g _ _ (lQ a) (Rep.Kq ⟨jl,np⟩<|AF.mono (λb o e _=>lQ a b o e) (λb d z=>z) r)
def Ops.np(B:Ops K T f δ H os vs c H' m)(a: ¬Ow (H' p)): ¬(AZ f c p\/T p):=λz=>a<|z.elim (λz=>B.er.Kp z) λz=>B.er.dom p<|B.tt p z
end
noncomputable def lL(g:D->Option (D×Bool))(a:FO):F:=λδ=>(a δ).bind λp=>(res p.2 p.1).bind λx=>(g x).bind λz=>J (z,p.2)
noncomputable def iZ(g:D->D->Option (D×Bool))(a b:FO):F:=λδ=>(a δ).bind λp=>(b p.2).bind λq=>(res q.2 p.1).bind λx=>(res q.2 q.1).bind λy=>(g x y).bind λz=>J (z,q.2)
noncomputable def kO:List FO->Dn->Option (List Cm×Dn)
 |[],a=>J ([],a)
 |f::fs,a=>(f a).bind λp=>(kO fs p.2).bind λq=>J (p.1::q.1,q.2)
noncomputable def uZ(a:Dn):List Cm->Option (List D)
 |[]=>J []
 |o::os=>(res a o).bind λd=>(uZ a os).bind λl=>J (d::l)
noncomputable def jq(g:List D->Option (D×Bool))(fs:List FO):F:=λδ=>(kO fs δ).bind λp=>(uZ p.2 p.1).bind λds=>(g ds).bind λz=>J (z,p.2)
def tA(K:jb)(fs:List FO):TA:=λe U Q=> ∃b T os a,ER K U T e b/\kO fs b=J (os,a)/\ ∀d c f,Ops K T e b U os d a c f->Q d c
section
variable {X:Cx}{e a b:iK}{m:kD}{i n:FO}{fs:List FO}{c:bu}
def iC{d g:Type}{x:Option d}{f:d->Option g}{b:g}(h:x.bind f=J b): ∃a,x=J a/\f a=J b:=by
 cases x with
 |none=>cases h
 |some a=>exact⟨a,rfl,h⟩
def aaJ(K:jb)(r:V->Hp->VK->Prop)(g:D->Option (D×Bool)):Prop:=
 ∀x z v U (O:BL) (Q:VK),(∀p,¬Ow (U p)-> ¬O p)->kg K U O x v->g x=J z->Gen K U O z Q->r v U Q
def Wf(K:jb)(r:R2)(g:D->D->Option (D×Bool)):Prop:=
 ∀x y z v u U (O:BL) (Q:VK),(∀p,¬Ow (U p)-> ¬O p)->kg K U O x v->kg K U O y u->g x y=J z->Gen K U O z Q->r v u U Q
def aaI(K:jb)(r:List V->Hp->VK->Prop)(g:List D->Option (D×Bool)):Prop:=
 ∀ds z f U (O:BL) (Q:VK),(∀p,¬Ow (U p)-> ¬O p)->A0 ds=A0 f->(∀(j:Nat) d v,ds[j]?=J d->f[j]?=J v->kg K U O d v)->g ds=J z->Gen K U O z Q->r f U Q
def UK{r:V->Hp->VK->Prop}{g:D->Option (D×Bool)}(h:PE X e (tUn r<|tO X.K i))(u:aaJ X.K r g):PX X e (lL g i):=PX.imp h λO U Q w=>by obtain⟨y,T,N,A,E,e,k⟩:=w;obtain⟨⟨o,d⟩,h1,e⟩:=iC e;obtain⟨x,q,e⟩:=iC e;obtain⟨z,s,e⟩:=iC e;obtain⟨rfl,rfl⟩:=jd e;refine⟨y,T,o,d,E,h1,λv l f=>?_⟩;have B:=Ops.cons E f<|Ops.nil<|f.er E;exact u x z v l _ Q (λp t=>B.np t) (B.view (j:=0) H H q) s (B.done k)
def UJ{r:R2}{g:D->D->Option (D×Bool)}(h:PE X e (N4 r (tO X.K i)<|tO X.K n))(L:Wf X.K r g):PX X e (iZ g i n):=PX.imp h λP H Q O=>by apply FL;intro U G;obtain⟨M,T,F,N,E,e,k⟩:=O;obtain⟨⟨o,d⟩,h1,e⟩:=iC e;obtain⟨⟨J,l⟩,t,e⟩:=iC e;obtain⟨x,w,e⟩:=iC e;obtain⟨y,A,e⟩:=iC e;obtain⟨z,C,e⟩:=iC e;obtain⟨rfl,rfl⟩:=jd e;apply G;refine⟨M,T,o,d,E,h1,λv Y f=>⟨d,Co T o v,J,l,f.er E,t,λu s q=>?_⟩⟩;have B:=Ops.cons E f<|Ops.cons (f.er E) q<|Ops.nil<|q.er<|f.er E;exact L x y z v u s _ Q (λp I=>B.np I) (B.view (j:=0) AU AU w) (B.view (j:=1) AU AU A) C (B.done k)
def Eh:PA X [] (tA X.K []):=λc d s g U Q O h=>by obtain⟨j,T,os,f,E,e,k⟩:=h;obtain⟨rfl,rfl⟩:=jd e;exact oK c d s g U Q O<|k [] U T<|Ops.nil E
def xh(t:PO X e i)(u:PA X m (tA X.K fs))(w:ag (e::m) X.env=(Y,aM e X.env)::ag m X.env):PA X (e::m) (tA X.K (i::fs)):=λc d s z U Q O h=>by obtain⟨x,T,os,y,E,e,k⟩:=h;unfold kO at e;obtain⟨⟨o,f⟩,h1,e⟩:=iC e;obtain⟨⟨g,j⟩,r,e⟩:=iC e;obtain⟨rfl,rfl⟩:=jd e;exact lD t u w c d s z U Q O ⟨x,T,o,f,E,h1,λv A l=>⟨f,Co T o v,g,j,l.er E,r,λN p q B=>k _ p q (Ops.cons E l B)⟩⟩
def pR{k:Dn}: ∀{os:List Cm} {f:List D},uZ k os=J f->A0 f=os.length/\ ∀(j:Nat) d,f[j]?=J d-> ∃o,os[j]?=J o/\res k o=J d:=by
 intro t
 induction t with
 |nil=>intro f h;cases h;exact⟨rfl,λj d h=>by simp at h⟩
 |cons o os s=>
  intro f h;unfold uZ at h;obtain⟨d,h1,h⟩:=iC h;obtain⟨l,p,h⟩:=iC h;cases h;obtain⟨q,r⟩:=s p;refine⟨by simp[q],λj e g=>?_⟩
  cases j with
  |zero=>simp at g;subst g;exact⟨o,rfl,h1⟩
  |succ j=>obtain⟨u,v,w⟩:=r j e (by simpa using g);exact⟨u,by simpa using v,w⟩
def Q5{r:List V->Hp->VK->Prop}{g:List D->Option (D×Bool)}(h:PE X e (Nr r<|tA X.K fs))(C:aaI X.K r g):PX X e (jq g fs):=PX.imp h λN H Q I=>by obtain⟨O,T,M,G,E,e,k⟩:=I;obtain⟨⟨os,l⟩,h1,e⟩:=iC e;obtain⟨s,t,e⟩:=iC e;obtain⟨z,u,e⟩:=iC e;obtain⟨rfl,rfl⟩:=jd e;obtain⟨w,x⟩:=pR t;refine⟨O,T,os,l,E,h1,λL q U B=>?_⟩;refine C s z L q _ Q (λp A=>B.np A) (w.trans B.len) (λj d v hd hv=>?_) u (B.done k);obtain⟨o,y,f⟩:=x j d hd;exact B.view y hv f
end
open PySem.SeqAt
mutual
/-- ==of data -/
noncomputable def D.BY:D->D->Bool
 | .B7,.B7=>I
 | .bl a,.bl b=>a==b
 | .bl a,.int b=>(if a then 1 else 0)==b
 | .int a,.bl b=>a==(if b then 1 else 0)
 | .int a,.int b=>a==b
 | .str a,.str b=>a==b
 | .tup l,.tup m=>D.D8 l m
 | .lst l,.lst m=>D.D8 l m
 | .BU _ _ _,.BU _ _ _=>I
 |_,_=>Y
noncomputable def D.D8:List D->List D->Bool
 |[],[]=>I
 |a::l,b::m=>D.BY a b&&D.D8 l m
 |_,_=>Y
end
mutual
noncomputable def D.dep:D->Nat
 | .tup l=>D.BZ l+1
 | .lst l=>D.BZ l+1
 | .BU _ _ _=>20000
 |_=>0
noncomputable def D.BZ:List D->Nat
 |[]=>0
 |d::l=>max (D.dep d)<|D.BZ l
end
mutual
theorem D.Eu: ∀d:D,D.BY d d=I
 | .B7=>rfl
 | .bl a=>by simp[D.BY]
 | .int a=>by simp[D.BY]
 | .str a=>by simp[D.BY]
 | .tup l=>by rw[D.BY];exact D.HS l
 | .lst l=>by rw[D.BY];exact D.HS l
 | .BU _ _ _=>by rw[D.BY]
theorem D.HS: ∀l:List D,D.D8 l l=I
 |[]=>rfl
 |d::l=>by rw[D.D8,D.Eu d,D.HS l];rfl
end
theorem D.El{d:D}: ∀{l:List D} {j:Nat},l[j]?=J d->d.dep<=D.BZ l
 |[],j,h=>by simp at h
 |e::l,0,h=>by simp at h;subst h;rw[D.BZ];exact Nat.le_max_left _ _
 |e::l,j+1,h=>by rw[D.BZ];exact mT (D.El<|by simpa using h)<|Nat.le_max_right _ _
noncomputable def uz(l m:List D)(j:Nat):Bool:=match l[j]?,m[j]? with
 |some d,J e=>D.BY d e
 |_,_=>I
theorem oj: ∀l m:List D,((au<|min (A0 l)<|A0 m).all (uz l m)&&(A0 l)==A0 m)=D.D8 l m
 |[],[]=>rfl
 |[],e::m=>by simp[D.D8]
 |d::l,[]=>by simp[D.D8]
 |d::l,e::m=>by
  rw[D.D8,<-oj l m];simp only[lh,Nat.succ_min_succ,dX,tN,fq,rK];have a:uz (d::l) (e::m) 0=D.BY d e:=rfl;have h1:(λx=>uz (d::l) (e::m)<|Nat.succ x)=uz l m:=by funext x;simp[uz]
  rw[a];simp only[h1,gi]
  congr 2
  simp
section
variable {X:Cx}{pins:ju}{σ:L2.St}{H:Hp}{s:iJ}
def lq(h:kg X.K H O (.tup l) v): ∃a xs,v= .ref a/\Hu X.K H a xs/\AF X.K H O l xs:=by
 rcases h with h|⟨a,rfl,h⟩
 .obtain⟨a,xs,e,q,r⟩:=h.tup;exact⟨a,xs,e,q.sq,r⟩
 .exact h.elim
def ke(h:kg X.K H O (.lst l) v): ∃a xs,v= .ref a/\Fp X.K H a xs/\AF X.K H O l xs:=by
 rcases h with h|⟨a,rfl,h⟩
 .obtain⟨a,xs,e,q,r⟩:=h.lst;exact⟨a,xs,e,q.sq,r⟩
 .obtain⟨xs,e,r⟩:=h;exact⟨a,xs,rfl,.inl<|.inl e,r⟩
def AF.views{O:BL}{l:List D}{xs:List V}(r:AF X.K H O l xs){j:Nat}{d:D}{v:V}(h1:l[j]?=J d)(b:xs[j]?=J v):Rep X.K H O d v:=by obtain⟨w,a,c⟩:=r.get h1;rw[b] at a;cases a;exact c
def NT(U:Inv X pins σ H s)(h:Ey X.K (H a) k l i us): ∃o,s.heap.get? a=J o/\(o.cls= .type "dict"\/o.cls= .type "set"\/ ∃T,o.cls= .ref T):=by
 cases k with
 |dct=>
  rcases h with⟨b,e,_⟩|⟨b,e,_⟩
  .obtain⟨_,_,i,_,o,d,g,h1,c,_⟩:=(show B9 X.prog X.w H s.heap a (.dK b) from U.hok a _ e)
   exact⟨o,h1,.inl c.1⟩
  .obtain⟨_,_,m,_,o,d,g,h1,c,_⟩:=(show B9 X.prog X.w H s.heap a (.dT b) from U.hok a _ e)
   exact⟨o,h1,.inl c.1⟩
 |set=>
  obtain⟨_,j,e,_⟩:=h;obtain⟨d,n,t,h1,_⟩:=(show B9 X.prog X.w H s.heap a (.BH j) from U.hok a _ e)
  exact⟨_,h1,.inr<|.inl AU⟩
 |exc T=>
  obtain⟨_,o,e,h1,_⟩:=h;obtain⟨f,_⟩:=(show B9 X.prog X.w H s.heap a (.EG o<|.own 0) from U.hok a _ e)
  exact⟨o,f,.inr<|.inr ⟨T,h1⟩⟩
 |_=>exact h.elim
def Fn(U:Inv X pins σ H s)(h1:Hu X.K H a xs)(f:Fp X.K H a k):False:=by obtain⟨g,_,⟨o,e,c,_⟩,_⟩:=U.tuple h1;obtain⟨h,_,⟨j,i,d,b,_⟩,_⟩:=U.list f;rw[e] at d;cases d;rw[c] at b;exact absurd b (by simp)
def Rl(U:Inv X pins σ H s)(h1:Hu X.K H a xs)(f:Ey X.K (H a) k h j us):False:=by obtain⟨g,_,⟨o,e,c,_⟩,_⟩:=U.tuple h1;obtain⟨i,d,b⟩:=NT U f;rw[e] at d;cases d;rw[c] at b;rcases b with b|b|⟨T,b⟩<;>exact absurd b (by simp)
def Rm(U:Inv X pins σ H s)(h1:Fp X.K H a xs)(f:Ey X.K (H a) k h j us):False:=by obtain⟨g,_,⟨o,n,e,c,_⟩,_⟩:=U.list h1;obtain⟨i,d,b⟩:=NT U f;rw[e] at d;cases d;rw[c] at b;rcases b with b|b|⟨T,b⟩<;>exact absurd b (by simp)
mutual
theorem Rep.inj(U:Inv X pins σ H s): ∀{d e:D} {v:V},d.dep<20000->Rep X.K H O d v->Rep X.K H u e v->d=e
 | .B7,e,v,i,h,c=>by
  have:=h.B7;subst this
  cases e with
  |B7=>rfl
  |bl b=>have:=c.bl;cases this
  |int b=>have:=c.int;cases this
  |str b=>have:=c.str;cases this
  |tup m=>obtain⟨a,f,z,_⟩:=c.tup;cases z
  |lst m=>obtain⟨a,f,z,_⟩:=c.lst;cases z
  |BU m n o=>obtain⟨a,f,z,_⟩:=c.BU;cases z
 | .bl b,e,v,i,h,c=>by
  have:=h.bl;subst this
  cases e with
  |B7=>have:=c.B7;cases this
  |bl b=>have:=c.bl;cases this;rfl
  |int b=>have:=c.int;cases this
  |str b=>have:=c.str;cases this
  |tup m=>obtain⟨a,f,z,_⟩:=c.tup;cases z
  |lst m=>obtain⟨a,f,z,_⟩:=c.lst;cases z
  |BU m n o=>obtain⟨a,f,z,_⟩:=c.BU;cases z
 | .int b,e,v,i,h,c=>by
  have:=h.int;subst this
  cases e with
  |B7=>have:=c.B7;cases this
  |bl b=>have:=c.bl;cases this
  |int b=>have:=c.int;cases this;rfl
  |str b=>have:=c.str;cases this
  |tup m=>obtain⟨a,f,z,_⟩:=c.tup;cases z
  |lst m=>obtain⟨a,f,z,_⟩:=c.lst;cases z
  |BU m n o=>obtain⟨a,f,z,_⟩:=c.BU;cases z
 | .str b,e,v,i,h,c=>by
  have:=h.str;subst this
  cases e with
  |B7=>have:=c.B7;cases this
  |bl b=>have:=c.bl;cases this
  |int b=>have:=c.int;cases this
  |str b=>have:=c.str;cases this;rfl
  |tup m=>obtain⟨a,f,z,_⟩:=c.tup;cases z
  |lst m=>obtain⟨a,f,z,_⟩:=c.lst;cases z
  |BU m n o=>obtain⟨a,f,z,_⟩:=c.BU;cases z
 | .tup l,e,v,i,h,c=>by
  rw[D.dep] at i;obtain⟨a,f,rfl,q,r⟩:=h.tup
  cases e with
  |B7=>have:=c.B7;cases this
  |bl b=>have:=c.bl;cases this
  |int b=>have:=c.int;cases this
  |str b=>have:=c.str;cases this
  |tup m=>obtain⟨k,p,z,g,j⟩:=c.tup;cases z;have:=U.FY q.sq g.sq;subst this;rw[AF.inj U (by lia) r j]
  |lst m=>obtain⟨k,p,z,g,j⟩:=c.lst;cases z;exact(Fn U q.sq g.sq).elim
  |BU m n o=>obtain⟨k,t,z,g,j⟩:=c.BU;cases z;exact(Rl U q.sq g.2).elim
 | .lst l,e,v,i,h,c=>by
  rw[D.dep] at i;obtain⟨a,f,rfl,q,r⟩:=h.lst
  cases e with
  |B7=>have:=c.B7;cases this
  |bl b=>have:=c.bl;cases this
  |int b=>have:=c.int;cases this
  |str b=>have:=c.str;cases this
  |tup m=>obtain⟨k,p,z,g,j⟩:=c.tup;cases z;exact(Fn U g.sq q.sq).elim
  |lst m=>obtain⟨k,p,z,g,j⟩:=c.lst;cases z;have:=U.HF q.sq g.sq;subst this;rw[AF.inj U (by lia) r j]
  |BU m n o=>obtain⟨k,t,z,g,j⟩:=c.BU;cases z;exact(Rm U q.sq g.2).elim
 | .BU _ _ _,e,v,i,h,c=>by rw[D.dep] at i;lia
theorem AF.inj(U:Inv X pins σ H s){O b:BL}: ∀{l m:List D} {vs:List V},D.BZ l<20000->AF X.K H O l vs->AF X.K H b m vs->l=m
 |[],m,vs,_,h,a=>by
  rw[AF] at h;subst h
  cases m with
  |nil=>rfl
  |cons e m=>rw[AF] at a;obtain⟨_,_,z,_⟩:=a;cases z
 |d::l,m,vs,i,h,a=>by
  rw[D.BZ] at i;rw[AF] at h;obtain⟨v,r,rfl,h1,c⟩:=h
  cases m with
  |nil=>rw[AF] at a;cases a
  |cons e m=>rw[AF] at a;obtain⟨k,j,z,f,g⟩:=a;cases z;rw[Rep.inj U (by lia) h1 f,AF.inj U (by lia) c g]
end
def xP(h:kg X.K H O d v)(hd:d.dep=0)(nt: ∀l,d≠ .tup l)(b: ∀l,d≠ .lst l):Rep X.K H O d v:=by
 rcases h with h|⟨a,rfl,h⟩
 .exact h
 .cases d with
  |lst l=>exact absurd AU<|b l
  |BU _ _ _=>rw[D.dep] at hd;lia
  |_=>exact h.elim
inductive Sh(X:Cx)(H:Hp)(s:iJ)(O:BL):D->V->iN->Prop
 |B7:Sh X H s O .B7 .B7 .none
 |bl (b:Bool):Sh X H s O (.bl b) (.bl b) (.bool b)
 |int (i:Int) (t:wl):Sh X H s O (.int i) (.int i) (.int i t)
 |str (x:aw) (t:wl):Sh X H s O (.str x) (.str x) (.str x t)
 |tup {l:List D} {p:iE} {xs:List V} {its:jF} (q:Hu X.K H p xs) (r:AF X.K H O l xs) (v:Vals xs its) (pl:r9 s.heap p its.toArray):Sh X H s O (.tup l) (.ref p) (.ref p)
 |lst {l:List D} {p:iE} {xs:List V} {its:jF} (q:Fp X.K H p xs) (r:AF X.K H O l xs) (v:Vals xs its) (pl:s.heap.IsList p its.toArray):Sh X H s O (.lst l) (.ref p) (.ref p)
def uG(U:Inv X pins σ H s)(h:kg X.K H O d v)(b:RelV v a)(i:d.dep<20000):Sh X H s O d v a:=by
 cases d with
 |BU m k n=>rw[D.dep] at i;omega
 |tup l=>obtain⟨p,j,rfl,q,r⟩:=lq h;cases b;obtain⟨e,g,f,_⟩:=U.tuple q;exact .tup q r g f
 |lst l=>obtain⟨p,j,rfl,q,r⟩:=ke h;cases b;obtain⟨e,g,f,_⟩:=U.list q;exact .lst q r g f.isList
 |B7=>have:=(xP h AU (by simp)<|by simp).B7;subst this;cases b;exact .B7
 |bl c=>have:=(xP h AU (by simp)<|by simp).bl;subst this;cases b;exact .bl c
 |int c=>have:=(xP h AU (by simp)<|by simp).int;subst this;obtain⟨t,rfl⟩:=b;exact .int c t
 |str c=>have:=(xP h AU (by simp)<|by simp).str;subst this;obtain⟨t,rfl⟩:=b;exact .str c t
def C5(I:Inv X pins σ H s)(n:Nat)
  (ih: ∀(d e:D) (v u:V) (a b:iN) (O O':BL) (A:iY),kg X.K H O d v->kg X.K H O' e u->RelV v a->RelV u b->d.dep+1<=n->e.dep<20000->A.units+n<aS+1->EqAt A s a b (D.BY d e)):
  ∀(d e:D) (v u:V) (a b:iN) (O O':BL) (A:iY),kg X.K H O d v->kg X.K H O' e u->RelV v a->RelV u b->d.dep<=n->e.dep<20000->A.units+n<aS->EqAt A s a b (D.BY d e):=by
 intro d e v u a b O O' A hd he o t N o7 hA;have h:A.units<cLine:=by lia
 have k8:aS=9900:=rfl
 have L: ∀(l m:List D) (T G:List V) (c C':jF) (R S:BL),D.BZ l+1<=n->D.BZ m<20000->AF X.K H R l T->AF X.K H S m G->Vals T c->Vals G C'->
   ∀j (h1:j<c.toArray.size) (Q:j<C'.toArray.size),EqAt A.in1 s c.toArray[j] C'.toArray[j] (uz l m j):=λl m T G c C' R S F P r1 i M k j h1 Q=>by
  have e1:=M.length;have e2:=k.length;have e3:=r1.length;have e4:=i.length;simp only[jy] at h1 Q;have hx:T[j]?=J T[j]:=jx (by lia);have hy:G[j]?=J G[j]:=jx (by lia);have Z:l[j]?=J l[j]:=jx (by lia);have W:m[j]?=J m[j]:=jx (by lia);obtain⟨w,w1,w2⟩:=M.get hx;obtain⟨w',w3,w4⟩:=k.get hy
  have i1:c.toArray[j]=w:=by have:c[j]?=J c[j]:=jx (by lia);rw[this] at w1;simpa using w1
  have i2:C'.toArray[j]=w':=by have:C'[j]?=J C'[j]:=jx (by lia);rw[this] at w3;simpa using w3
  rw[i1,i2];have hj:uz l m j=D.BY l[j] m[j]:=by unfold uz;rw[Z,W]
  rw[hj];have aa:=D.El Z;have hdep2:=D.El W;exact ih _ _ _ _ _ _ R S A.in1 (.inl<|r1.views Z hx) (.inl<|i.views W hy) w2 w4 (by lia) (by lia) (by show A.units+1+n<aS+1;lia)
 have h1:=uG I hd o (by lia);have Q:=uG I he t o7
 cases h1 with
 |B7=>
  cases Q with
  |B7=>exact mP o t AU AU
  |bl g=>exact mP o t AU AU
  |int g x=>exact mP o t AU AU
  |str g x=>exact mP o t AU AU
  |tup B i k f=>exact EqAt.none_tuple f h
  |lst B i k f=>exact EqAt.none_list f h
 |bl J'=>
  cases Q with
  |B7=>exact mP o t AU AU
  |bl g=>exact mP o t AU AU
  |int g x=>exact mP o t AU AU
  |str g x=>exact mP o t AU AU
  |tup B i k f=>exact EqAt.bool_tuple J' f h
  |lst B i k f=>exact EqAt.bool_list J' f h
 |int J' Y'=>
  cases Q with
  |B7=>exact mP o t AU AU
  |bl g=>exact mP o t AU AU
  |int g x=>exact mP o t AU AU
  |str g x=>exact mP o t AU AU
  |tup B i k f=>exact EqAt.int_tuple J' Y' f h
  |lst B i k f=>exact EqAt.int_list J' Y' f h
 |str J' Y'=>
  cases Q with
  |B7=>exact mP o t AU AU
  |bl g=>exact mP o t AU AU
  |int g x=>exact mP o t AU AU
  |str g x=>exact mP o t AU AU
  |tup B i k f=>exact EqAt.str_tuple J' Y' f h
  |lst B i k f=>exact EqAt.str_list J' Y' f h
 | @tup l p T c q r M y=>
  cases Q with
  |B7=>exact EqAt.tuple_none y h
  |bl g=>exact EqAt.tuple_bool g y h
  |int g x=>exact EqAt.tuple_int g x y h
  |str g x=>exact EqAt.tuple_str g x y h
  | @tup m p2 G C' B i k f=>
   by_cases U:p=p2
   .subst U;have:=I.FY q B;subst this;rw[AF.inj I (by rw[D.dep] at N;lia) r i,D.Eu];exact gV _
   .refine .of_refs U ?_;have F:D.BZ l+1<=n:=by rw[D.dep] at N;exact N
    have P:D.BZ m<20000:=by rw[D.dep] at o7;lia
    have z:=RcAt.tuples y f h<|L l m T G c C' _ _ F P r i M k;have e1:=M.length;have e2:=k.length;have e3:=r.length;have e4:=i.length;simp only[jy] at z;rw[show c.length=l.length by lia,show C'.length=m.length by lia,oj] at z;rw[D.BY];exact z
  |lst B i k f=>exact EqAt.tuple_list y f h
 | @lst l p T c q r M y=>
  cases Q with
  |B7=>exact EqAt.list_none y h
  |bl g=>exact EqAt.list_bool g y h
  |int g x=>exact EqAt.list_int g x y h
  |str g x=>exact EqAt.list_str g x y h
  |tup B i k f=>exact EqAt.list_tuple y f h
  | @lst m p2 G C' B i k f=>
   by_cases U:p=p2
   .subst U;have:=I.HF q B;subst this;rw[AF.inj I (by rw[D.dep] at N;lia) r i,D.Eu];exact gV _
   .refine .of_refs U ?_;have F:D.BZ l+1<=n:=by rw[D.dep] at N;exact N
    have P:D.BZ m<20000:=by rw[D.dep] at o7;lia
    have e1:=M.length;have e2:=k.length;have e3:=r.length;have e4:=i.length;have al:=oj l m;by_cases E:l.length=m.length
    .have z:=RcAt.lists y f (by simp only[jy];lia) h<|L l m T G c C' _ _ F P r i M k;simp only[jy] at z;rw[show c.length=min l.length m.length by lia] at z;rw[D.BY,<-al,E];rw[E] at z;simpa using z
    .have z:=RcAt.lists_lengths y f (by simp only[jy,bne_iff_ne,ne_eq];lia) h;rw[D.BY,<-al];rw[show(l.length==m.length)=Y by simpa using E];simpa using z
def Bz(U:Inv X pins σ H s): ∀(n:Nat) (d e:D) (v u:V) (a b:iN) (O c:BL) (A:iY),kg X.K H O d v->kg X.K H c e u->RelV v a->RelV u b->d.dep<=n->e.dep<20000->A.units+n<aS->EqAt A s a b (D.BY d e):=by
 intro n
 induction n with
 |zero=>intro d e v u a b O c A hd f i j g h k;exact C5 U 0 (λd e v u a b O c A hd f i j g h k=>absurd g<|by lia) d e v u a b O c A hd f i j g h k
 |succ n l=>intro d e v u a b O c A hd f i j g h k;exact C5 U (n+1) (λd e v u a b O c A hd f i j g h k=>l d e v u a b O c A hd f i j (by lia) h<|by lia) d e v u a b O c A hd f i j g h k
end
section
variable {X:Cx}{c:ju}{f:L2.St}{H:Hp}{s:iJ}
def Gf(I:Inv X c f H s){A:iY}{n:Nat}(hA:A.units+n<aS): ∀(l m:List D) (d e:List V) (a b:jF) (g h:BL),D.BZ l+1<=n->D.BZ m<20000->AF X.K H g l d->AF X.K H h m e->Vals d a->Vals e b->
   ∀j (h1:j<a.toArray.size) (p:j<b.toArray.size),EqAt A.in1 s a.toArray[j] b.toArray[j] (uz l m j):=λl m d e a b g h F P t u v x j h1 p=>by
 have M:=v.length;have N:=x.length;have U:=t.length;have Y:=u.length;simp only[jy] at h1 p;have q:d[j]?=A7 d[j]:=jx (by omega);have r:e[j]?=A7 e[j]:=jx (by omega);have k:l[j]?=A7 l[j]:=jx (by omega);have i:m[j]?=A7 m[j]:=jx (by omega);apply FL;intro G L;obtain⟨w,y,Q⟩:=v.get q;obtain⟨O,z,T⟩:=x.get r;apply L
 have C:a.toArray[j]=w:=by have:a[j]?=A7 a[j]:=jx (by omega);rw[this] at y;simpa using y
 have E:b.toArray[j]=O:=by have:b[j]?=A7 b[j]:=jx (by omega);rw[this] at z;simpa using z
 rw[C,E];have B:uz l m j=D.BY l[j] m[j]:=by unfold uz;rw[k,i]
 rw[B];have J:=D.El k;have o:=D.El i;exact Bz I (n-1) _ _ _ _ _ _ g h A.in1 (.inl<|t.views k q) (.inl<|u.views i r) Q T (by omega) (by omega) (by show A.units+1+(n-1)<aS;omega)
def Uz(I:Inv X c f H s)(hd:kg X.K H O d v)(he:kg X.K H O' e u)(ra:RelV v a)(rb:RelV u b)(G:d.dep<=n)(N:e.dep<20000)(hA:A.units+n<aS):RcAt A s a b (D.BY d e):=by
 have j:A.units<cLine:=by lia
 have B:=Gf I hA;have W:aS=9900:=rfl;have h1:=uG I hd ra (by lia);have L:=uG I he rb N
 cases h1 with
 |B7=>
  cases L with
  |B7=>exact RcAt.none_none
  |bl g=>exact RcAt.none_bool g
  |int g i=>exact RcAt.none_int g i
  |str g i=>exact RcAt.none_str g i
  |tup E o t h=>exact RcAt.none_tuple h j
  |lst E o t h=>exact RcAt.none_list h j
 |bl k=>
  cases L with
  |B7=>exact RcAt.bool_none k
  |bl g=>exact RcAt.bool_bool k g
  |int g i=>exact RcAt.bool_int k g i
  |str g i=>exact RcAt.bool_str k g i
  |tup E o t h=>exact RcAt.bool_tuple k h j
  |lst E o t h=>exact RcAt.bool_list k h j
 |int k x=>
  cases L with
  |B7=>exact RcAt.int_none k x
  |bl g=>exact RcAt.int_bool k x g
  |int g i=>exact RcAt.int_int k x g i
  |str g i=>exact RcAt.int_str k x g i
  |tup E o t h=>exact RcAt.int_tuple k x h j
  |lst E o t h=>exact RcAt.int_list k x h j
 |str k x=>
  cases L with
  |B7=>exact RcAt.str_none k x
  |bl g=>exact RcAt.str_bool k x g
  |int g i=>exact RcAt.str_int k x g i
  |str g i=>exact RcAt.str_str k x g i
  |tup E o t h=>exact RcAt.str_tuple k x h j
  |lst E o t h=>exact RcAt.str_list k x h j
 | @tup l p U C' q r Q w=>
  cases L with
  |B7=>exact RcAt.tuple_none w j
  |bl g=>exact RcAt.tuple_bool g w j
  |int g i=>exact RcAt.tuple_int g i w j
  |str g i=>exact RcAt.tuple_str g i w j
  | @tup m p2 Y' T E o t h=>
   have J:D.BZ l+1<=n:=by rw[D.dep] at G;exact G
   have M:D.BZ m<20000:=by rw[D.dep] at N;lia
   have P:=Q.length;have R:=t.length;have S:=r.length;have V:=o.length;have z:=RcAt.tuples w h j<|B l m U Y' C' T _ _ J M r o Q t;simp only[jy] at z;rw[show C'.length=l.length by lia,show T.length=m.length by lia,oj] at z;rw[D.BY];exact z
  |lst E o t h=>exact RcAt.tuple_list w h j
 | @lst l p U C' q r Q w=>
  cases L with
  |B7=>exact RcAt.list_none w j
  |bl g=>exact RcAt.list_bool g w j
  |int g i=>exact RcAt.list_int g i w j
  |str g i=>exact RcAt.list_str g i w j
  |tup E o t h=>exact RcAt.list_tuple w h j
  | @lst m p2 Y' T E o t h=>
   have J:D.BZ l+1<=n:=by rw[D.dep] at G;exact G
   have M:D.BZ m<20000:=by rw[D.dep] at N;lia
   have P:=Q.length;have R:=t.length;have S:=r.length;have V:=o.length;have F:=oj l m;by_cases y:l.length=m.length
   .have z:=RcAt.lists w h (by simp only[jy];lia) j<|B l m U Y' C' T _ _ J M r o Q t;simp only[jy] at z;rw[show C'.length=min l.length m.length by lia] at z;rw[D.BY,<-F,y];rw[y] at z;simpa using z
   .have z:=RcAt.lists_lengths w h (by simp only[jy,bne_iff_ne,ne_eq];lia) j;rw[D.BY,<-F];rw[show(l.length==m.length)=Y by simpa using y];simpa using z
def aev(I:Inv X c f H s)(hd:kg X.K H O d v)(he:kg X.K H O' e u)(ra:RelV v a)(rb:RelV u b)(G:d.dep<=n)(N:e.dep<20000)(hA:A.units+n<aS):RcNeAt A s a b (!D.BY d e):=by
 have j:A.units<cLine:=by lia
 have B:=Gf I hA;have W:aS=9900:=rfl;have h1:=uG I hd ra (by lia);have L:=uG I he rb N
 cases h1 with
 |B7=>
  cases L with
  |B7=>exact RcNeAt.none_none
  |bl g=>exact RcNeAt.none_bool g
  |int g i=>exact RcNeAt.none_int g i
  |str g i=>exact RcNeAt.none_str g i
  |tup E o t h=>exact RcNeAt.none_tuple h j
  |lst E o t h=>exact RcNeAt.none_list h j
 |bl k=>
  cases L with
  |B7=>exact RcNeAt.bool_none k
  |bl g=>exact RcNeAt.bool_bool k g
  |int g i=>exact RcNeAt.bool_int k g i
  |str g i=>exact RcNeAt.bool_str k g i
  |tup E o t h=>exact RcNeAt.bool_tuple k h j
  |lst E o t h=>exact RcNeAt.bool_list k h j
 |int k x=>
  cases L with
  |B7=>exact RcNeAt.int_none k x
  |bl g=>exact RcNeAt.int_bool k x g
  |int g i=>exact RcNeAt.int_int k x g i
  |str g i=>exact RcNeAt.int_str k x g i
  |tup E o t h=>exact RcNeAt.int_tuple k x h j
  |lst E o t h=>exact RcNeAt.int_list k x h j
 |str k x=>
  cases L with
  |B7=>exact RcNeAt.str_none k x
  |bl g=>exact RcNeAt.str_bool k x g
  |int g i=>exact RcNeAt.str_int k x g i
  |str g i=>exact RcNeAt.str_str k x g i
  |tup E o t h=>exact RcNeAt.str_tuple k x h j
  |lst E o t h=>exact RcNeAt.str_list k x h j
 | @tup l p U C' q r Q w=>
  cases L with
  |B7=>exact RcNeAt.tuple_none w j
  |bl g=>exact RcNeAt.tuple_bool g w j
  |int g i=>exact RcNeAt.tuple_int g i w j
  |str g i=>exact RcNeAt.tuple_str g i w j
  | @tup m p2 Y' T E o t h=>
   have J:D.BZ l+1<=n:=by rw[D.dep] at G;exact G
   have M:D.BZ m<20000:=by rw[D.dep] at N;lia
   have P:=Q.length;have R:=t.length;have S:=r.length;have V:=o.length;have z:=RcNeAt.tuples w h j<|B l m U Y' C' T _ _ J M r o Q t;simp only[jy] at z;rw[show C'.length=l.length by lia,show T.length=m.length by lia,oj] at z;rw[D.BY];exact z
  |lst E o t h=>exact RcNeAt.tuple_list w h j
 | @lst l p U C' q r Q w=>
  cases L with
  |B7=>exact RcNeAt.list_none w j
  |bl g=>exact RcNeAt.list_bool g w j
  |int g i=>exact RcNeAt.list_int g i w j
  |str g i=>exact RcNeAt.list_str g i w j
  |tup E o t h=>exact RcNeAt.list_tuple w h j
  | @lst m p2 Y' T E o t h=>
   have J:D.BZ l+1<=n:=by rw[D.dep] at G;exact G
   have M:D.BZ m<20000:=by rw[D.dep] at N;lia
   have P:=Q.length;have R:=t.length;have S:=r.length;have V:=o.length;have F:=oj l m;by_cases y:l.length=m.length
   .have z:=RcNeAt.lists w h (by simp only[jy];lia) j<|B l m U Y' C' T _ _ J M r o Q t;simp only[jy] at z;rw[show C'.length=min l.length m.length by lia] at z;rw[D.BY,<-F,y];rw[y] at z;simpa using z
   .have z:=RcNeAt.lists_lengths w h (by simp only[jy,bne_iff_ne,ne_eq];lia) j;rw[D.BY,<-F];rw[show(l.length==m.length)=Y by simpa using y];simpa using z
def Vh(j:X.A.units+60<aS):ES X (av .Eq) (λx y H Q=> ∃O d e,kg X.K H O d x/\kg X.K H O e y/\(d.dep<=50/\e.dep<=50)/\Q (.bl<|D.BY d e) H):=by intro c s f H x y v u Q U g i h;obtain⟨O,d,e,h1,a,b,q⟩:=h;exact Uz (A:=X.A) U h1 a g i b.1 (by lia) (by lia) _ _ _ _ ⟨.bl _,H,U,rfl,q⟩
def Vd(j:X.A.units+60<aS):ES X (av .NotEq) (λx y H Q=> ∃O d e,kg X.K H O d x/\kg X.K H O e y/\(d.dep<=50/\e.dep<=50)/\Q (.bl (!D.BY d e)) H):=by intro c s f H x y v u Q U g i h;obtain⟨O,d,e,h1,a,b,q⟩:=h;exact aev (A:=X.A) U h1 a g i b.1 (by lia) (by lia) _ _ _ _ ⟨.bl _,H,U,rfl,q⟩
end
def jf{e:Type}{c:Prop}[Decidable c]{a b:e}(h:(if c then J a else C)=J b):c/\a=b:=by
 split at h
 .rename_i d;exact⟨d,kL h⟩
 .cases h
section
variable {X:Cx}{c:ju}{f:L2.St}{H:Hp}{s:iJ}
def EA(I:Inv X c f H s){A:iY}{l:List D}{o:List V}{a:jF}{O C:BL}{b:D}{T:V}{x:iN}(r:AF X.K H O l o)(v:Vals o a)(hx:kg X.K H C b T)(rx:RelV T x)(hn:D.BZ l<=50)(hxn:b.dep<=50)(hA:A.units+60<aS):
  ∃e:iN->Bool,(∀y∈a,EqAt A.in1 s y x<|e y)/\a.any e=l.any λd=>D.BY d b:=by
 let e:iN->Bool:=λy=>match(a.zip l).find? (λp=>p.1==y) with
  |some p=>D.BY p.2 b
  |none=>B6
 have W:=v.length;have Z:=r.length
 have m: ∀(j:Nat) (g:j<a.length) (h:j<l.length),e a[j]=D.BY l[j] b:=λj g h=>by
  show(match(a.zip l).find? (λp=>p.1==a[j]) with|some p=>D.BY p.2 b|none=>B6)=_
  cases t:(a.zip l).find? (λp=>p.1==a[j]) with
  |none=>
   have:=List.find?_eq_none.mp t (a[j],l[j]) (by
    have:(a.zip l)[j]?=A7 (a[j],l[j]):=by simp[EZ,jx g,jx h]
    exact mS this)
   simp at this
  |some p=>
   have F:=List.find?_some t;have Y:=List.mem_of_find?_eq_some t;obtain⟨i,Q⟩:=vp Y;obtain⟨R,p2⟩:=p;rw[EZ] at Q;have M:R=a[j]:=vD F;obtain⟨h1,k⟩:=Q;have E:i<o.length:=by have:=(uD.mp h1).1;lia
   obtain⟨w,n,B⟩:=v.get<|jx E;have q:j<o.length:=by lia
   obtain⟨w',G,S⟩:=v.get<|jx q;rw[h1] at n;cases n;rw[jx g] at G;cases G;subst M;have hv:=B.inj S;have a1:=r.views k<|jx E;have J:=r.views (jx h)<|jx q;rw[hv] at a1;have gR:=D.El k;have:=Rep.inj I (by lia) a1 J;exact ox (λz=>D.BY z b) this
 refine⟨e,λy P=>?_,?_⟩
 .obtain⟨j,g⟩:=vp P;have u:=(uD.mp g).1;have q:=(uD.mp g).2;have h:j<l.length:=by lia
  have L:j<o.length:=by lia
  obtain⟨w,n,B⟩:=v.get<|jx L;rw[g] at n;cases n;have hk:=m j u h;rw[q] at hk;rw[hk];have hd:=D.El<|jx h;exact Bz I 50 _ _ _ _ _ _ O C A.in1 (.inl<|r.views (jx h)<|jx L) hx B rx (by lia) (by lia) (by show A.units+1+50<aS;lia)
 .have:a.map e=l.map λd=>D.BY d b:=by
   apply yy
   .simp;lia
   .intro j h1 k;simp only[jM] at h1 k;simp only[yx];exact m j h1 k
  have N:a.any e=(a.map e).any id:=by rw[DN];rfl
  have U:(l.any λd=>D.BY d b)=(l.map λd=>D.BY d b).any id:=by rw[DN];rfl
  rw[N,U,this]
noncomputable def inD(x:D):D->Option Bool
 | .tup l=>if D.BZ l<=50/\x.dep<=50 then J (l.any λd=>D.BY d x) else C
 | .lst l=>if D.BZ l<=50/\x.dep<=50 then J (l.any λd=>D.BY d x) else C
 |_=>C
def Vg(B:X.A.units+60<aS):ES X (av .In) (λx y H Q=> ∃O d e b,kg X.K H O d x/\kg X.K H O e y/\inD d e=J b/\Q (.bl b) H):=by
 intro c s f H x y v u Q U T E h;obtain⟨O,d,e,b,h1,z,j,q⟩:=h
 cases e with
 |tup l=>
  obtain⟨i,rfl⟩:=jf j
  .skip
   obtain⟨a,L,rfl,n,r⟩:=lq z;cases E;obtain⟨g,t,p,_⟩:=U.tuple n;obtain⟨e,m,k⟩:=EA (A:=X.A) U r t h1 T i.1 i.2 B;refine in_tupleAt e p (λw o=>m w<|by simpa using o) ⟨.bl _,H,U,rfl,?_⟩;rw[show g.toArray.any e=g.any e by simp,k];exact q
 |lst l=>
  obtain⟨i,rfl⟩:=jf j
  .skip
   obtain⟨a,L,rfl,n,r⟩:=ke z;cases E;obtain⟨g,t,p,_⟩:=U.list n;obtain⟨e,m,k⟩:=EA (A:=X.A) U r t h1 T i.1 i.2 B;refine in_listAt e p.isList (λw o=>m w<|by simpa using o) ⟨.bl _,H,U,rfl,?_⟩;rw[show g.toArray.any e=g.any e by simp,k];exact q
 |_=>cases j
def ac1(B:X.A.units+60<aS):ES X (av .NotIn) (λx y H Q=> ∃O d e b,kg X.K H O d x/\kg X.K H O e y/\inD d e=J b/\Q (.bl (!b)) H):=by
 intro c s f H x y v u Q U T E h;obtain⟨O,d,e,b,h1,z,j,q⟩:=h
 cases e with
 |tup l=>
  obtain⟨i,rfl⟩:=jf j
  .skip
   obtain⟨a,L,rfl,n,r⟩:=lq z;cases E;obtain⟨g,t,p,_⟩:=U.tuple n;obtain⟨e,m,k⟩:=EA (A:=X.A) U r t h1 T i.1 i.2 B;refine notIn_tupleAt e p (λw o=>m w<|by simpa using o) ⟨.bl _,H,U,rfl,?_⟩;rw[show g.toArray.any e=g.any e by simp,k];exact q
 |lst l=>
  obtain⟨i,rfl⟩:=jf j
  .skip
   obtain⟨a,L,rfl,n,r⟩:=ke z;cases E;obtain⟨g,t,p,_⟩:=U.list n;obtain⟨e,m,k⟩:=EA (A:=X.A) U r t h1 T i.1 i.2 B;refine notIn_listAt e p.isList (λw o=>m w<|by simpa using o) ⟨.bl _,H,U,rfl,?_⟩;rw[show g.toArray.any e=g.any e by simp,k];exact q
 |_=>cases j
end
def rD1(K:jb)(g:D->Option (D×Bool)):V->Hp->VK->Prop:=λx U Q=> ∃(O:BL) (d:D) (z:D×Bool),(∀p,¬Ow (U p)-> ¬O p)/\kg K U O d x/\g d=J z/\Gen K U O z Q
def rD(K:jb)(g:D->D->Option (D×Bool)):R2:=λx y U Q=> ∃(O:BL) (d e:D) (z:D×Bool),(∀p,¬Ow (U p)-> ¬O p)/\kg K U O d x/\kg K U O e y/\g d e=J z/\Gen K U O z Q
def Ib(K:jb)(g:List D->Option (D×Bool)):List V->Hp->VK->Prop:=λb U Q=> ∃(O:BL) (a:List D) (z:D×Bool),(∀p,¬Ow (U p)-> ¬O p)/\(A0 a)=A0 b/\(∀(j:Nat) d v,a[j]?=J d->b[j]?=J v->kg K U O d v)/\g a=J z/\Gen K U O z Q
section
variable {X:Cx}{e a b:iK}{c k:FO}{fs:List FO}{o:bu}
def px1(h:PE X e (tUn (rD1 X.K g)<|tO X.K c)):PX X e (lL g c):=UK h λx z v U O Q np f d G=>⟨O,x,z,np,f,d,G⟩
def px2(h:PE X e (N4 (rD X.K g) (tO X.K c)<|tO X.K k)):PX X e (iZ g c k):=UJ h λx y z v u U O Q np f i d G=>⟨O,x,y,z,np,f,i,d,G⟩
def pxn(h:PE X e (Nr (Ib X.K g)<|tA X.K fs)):PX X e (jq g fs):=Q5 h λd z j U O Q np i hv f G=>⟨O,d,z,np,i,hv,f,G⟩
def jr{K U}{O:BL}{i:Int}{v:V}(h:kg K U O (.int i) v):v= .int i:=h.elim (λh=>h.int) λ⟨_,_,h⟩=>h.elim
def D3{K U}(h:kg K U O (.bl i) v):v= .bl i:=h.elim (λh=>h.bl) λ⟨_,_,h⟩=>h.elim
def wX{K U}(h:kg K U O (.str i) v):v= .str i:=h.elim (λh=>h.str) λ⟨_,_,h⟩=>h.elim
def Fe{K U}(h:kg K U O .B7 v):v= .B7:=h.elim (λh=>h.B7) λ⟨_,_,h⟩=>h.elim
def Gen.str{K U}(g:Gen K U O (.str i,Y) Q):Q (.str i) U:=g _ U (λ_ _ e=>e) Rep.mkStr
noncomputable def gI(f:Int->Int->Option D):D->D->Option (D×Bool)
 | .int i,.int j=>(f i j).map λz=>(z,Y)
 |_,_=>C
def Ac{f:Int->Int->Option D}{d e:D}{z:D×Bool}(h:gI f d e=J z): ∃i j y,d= .int i/\e= .int j/\f i j=J y/\z=(y,Y):=by
 cases d with
 |int i=>
  cases e with
  |int j=>
   cases g:f i j with
   |none=>simp only[gI,g] at h;cases h
   |some y=>simp only[gI,g] at h;cases h;exact⟨i,j,y,rfl,rfl,g,rfl⟩
  |_=>cases h
 |_=>cases h
def zY{f:zf}{N:Int->Int->Prop}[∀i j,Decidable<|N i j]{g:Int->Int->Int}(r:ES X f (rI N λi j=> .int (g i j))):ES X f (rD X.K (gI λi j=>if N i j then J (.int<|g i j) else C)):=by intro l s E U x y v u Q T A B h;apply FL;intro L t;obtain⟨O,d,e,z,np,h1,m,q,G⟩:=h;obtain⟨i,j,w,rfl,rfl,p,rfl⟩:=Ac q;obtain⟨n,rfl⟩:=jf p;apply t;exact r l s E U x y v u Q T A B ⟨i,j,jr h1,jr m,n,G.int⟩
def aeq{f:zf}{g:Int->Int->Int}(q:ES X f (Ld λi j=> .int (g i j))):ES X f (rD X.K<|gI λi j=>J<|.int<|g i j):=by intro l s B U x y v u Q T t A h;apply FL;intro N r;obtain⟨O,d,e,z,np,h1,m,p,G⟩:=h;obtain⟨i,j,w,rfl,rfl,n,rfl⟩:=Ac p;apply r;cases n;exact q l s B U x y v u Q T t A ⟨i,j,jr h1,jr m,G.int⟩
instance(i j:Int):Decidable (HL i j):=by unfold HL;exact inferInstance
instance(i j:Int):Decidable (Lw i j):=by unfold Lw;exact inferInstance
instance(i j:Int):Decidable (EY i j):=by unfold EY;exact inferInstance
noncomputable def KN:=gI λi j=>J<|.int<|i-j
noncomputable def pW:=gI λi j=>if HL i j then J (.int<|i*j) else C
noncomputable def OW:=gI λi j=>if Lw i j then J (.int<|i / j) else C
noncomputable def Ce:=gI λi j=>if 0<j then J (.int<|i%j) else C
noncomputable def OQ:=gI λi j=>if EY i j then J (.int<|i^j.toNat) else C
def zW:ES X (bw .Sub) (rD X.K KN):=aeq Vb
def oo:ES X (bw .Mult) (rD X.K pW):=zY Ve
def Jq:ES X (bw .FloorDiv) (rD X.K OW):=zY Ro
def uQ:ES X (bw .Mod) (rD X.K Ce):=zY Vf
def Jp:ES X (bw .Pow) (rD X.K OQ):=zY Vc
noncomputable def nB:D->D->Option (D×Bool)
 | .int i,.int j=>J (.int<|i+j,Y)
 | .str i,.str j=>if i.length+j.length<=sizeLine then J (.str<|i++j,Y) else C
 | .tup l,.tup m=>if l.length+m.length<=sizeLine then J (.tup<|l++m,Y) else C
 | .lst l,.lst m=>if l.length+m.length<=sizeLine then J (.lst<|l++m,I) else C
 |_,_=>C
def kQ:ES X (bw .Add) (rD X.K nB):=by
 intro q s σ H x y v u Q I J M h;obtain⟨O,d,e,z,np,h1,U,r,G⟩:=h
 cases d with
 |int i=>
  cases e with
  |int j=>cases r;exact Vi q s σ H x y v u Q I J M ⟨i,j,jr h1,jr U,G.int⟩
  |_=>cases r
 |str i=>
  cases e with
  |str j=>obtain⟨hc,rfl⟩:=jf r;exact ack q s σ H x y v u Q I J M ⟨i,j,wX h1,wX U,hc,G.str⟩
  |_=>cases r
 |tup l=>
  cases e with
  |tup m=>
   obtain⟨hc,rfl⟩:=jf r;have k1:Rep X.K H O (.tup l) x:=h1.elim id λ⟨_,_,z⟩=>z.elim;have k2:Rep X.K H O (.tup m) y:=U.elim id λ⟨_,_,z⟩=>z.elim;obtain⟨Y,xs,rfl,D,L⟩:=k1.tup;obtain⟨E,ys,rfl,P,T⟩:=k2.tup;have l1:=L.length;have l2:=T.length;by_cases hx:xs=[]
   .subst hx;have:l=[]:=by simpa using l1.symm
    subst this;cases J;cases M;obtain⟨g,R,Z,_⟩:=I.tuple D.sq;obtain⟨t,v2,W,_⟩:=I.tuple P.sq;have e1:g=[]:=by have:=R.length;simpa using this.symm
    subst e1;obtain⟨⟨V,dd,w,sl⟩,A,C,n,hd⟩:=id Z;obtain⟨⟨dn,S,data2,x9⟩,N,B,n2,f⟩:=id W;simp only at C hd B f;subst C hd B f
    refine DS ⟨_,A,rfl⟩ ⟨_,N,rfl⟩ He Hd Hc Hb (Ha _ _)
     (tuple_addW0 Y E #[] t.toArray n n2 dd S sl x9 (by simp)) ⟨A,N,⟨.ref E,H,I,rfl,?_⟩⟩
    exact G _ H (λ_ _ e=>e) (by simpa using k2)
   .refine Rq q s σ H _ _ v u Q I J M ⟨Y,E,xs,ys,rfl,rfl,D.sq,P.sq,hx,by lia,λhy=>?_,λhy p hp=>?_⟩
    .subst hy;have:m=[]:=by simpa using l2.symm
     subst this;exact G _ H (λ_ _ e=>e) (by simpa using k1)
    .exact G.tup hp (np p<|OD hp) (L.append T)
  |_=>cases r
 |lst l=>
  cases e with
  |lst m=>
   obtain⟨hc,rfl⟩:=jf r;obtain⟨Y,xs,rfl,D,L⟩:=ke h1;obtain⟨E,ys,rfl,P,T⟩:=ke U;have l1:=L.length;have l2:=T.length;cases J;cases M;obtain⟨g,R,Z,_⟩:=I.list D;obtain⟨t,v2,W,_⟩:=I.list P;have e1:=R.length;have e2:=v2.length;obtain⟨⟨V,dd,w,sl⟩,A,C,n,hd⟩:=id Z.isList;obtain⟨⟨dn,S,data2,x9⟩,N,B,n2,f⟩:=id W.isList;simp only at C hd B f;subst C hd B f
   refine DS ⟨_,A,rfl⟩ ⟨_,N,rfl⟩ noFill_list_add seq_list_add PySem.F.slot_list_add PySem.F.entry_list_add (PySem.F.args_list_add_2 _ _)
    (list_addW Y E g.toArray t.toArray n n2 dd S sl x9<|by simp only[jy];lia) ⟨A,N,?_⟩
   rw[show g.toArray++t.toArray=(g++t).toArray by simp];exact⟨.ref _,_,I.M1 (t':=s.toks) (R.append v2)<|by rw[mR];lia,rfl,G.lst I.fresh<|L.append T⟩
  |_=>cases r
 |_=>cases r
noncomputable def HD(d e:D):Option (D×Bool):=if d.dep<=50/\e.dep<=50 then J (.bl<|D.BY d e,Y) else C
noncomputable def Hq(d e:D):Option (D×Bool):=if d.dep<=50/\e.dep<=50 then J (.bl (!D.BY d e),Y) else C
noncomputable def NW(d e:D):Option (D×Bool):=(inD d e).map λb=>(.bl b,Y)
noncomputable def qC(d e:D):Option (D×Bool):=(inD d e).map λb=>(.bl (!b),Y)
def ny(l:X.A.units+60<aS):ES X (av .Eq) (rD X.K HD):=by intro f s p U x y v u Q T m n h;obtain⟨O,d,e,z,np,h1,g,j,G⟩:=h;obtain⟨i,rfl⟩:=jf j;exact Vh l f s p U x y v u Q T m n ⟨O,d,e,h1,g,i,G.bl⟩
def pT(l:X.A.units+60<aS):ES X (av .NotEq) (rD X.K Hq):=by intro f s p U x y v u Q T m n h;obtain⟨O,d,e,z,np,h1,g,j,G⟩:=h;obtain⟨i,rfl⟩:=jf j;exact Vd l f s p U x y v u Q T m n ⟨O,d,e,h1,g,i,G.bl⟩
def jB{d g:Type}{x:Option d}{f:d->g}{b:g}(h:x.map f=J b): ∃a,x=J a/\f a=b:=by
 cases x with
 |none=>cases h
 |some a=>exact⟨a,rfl,kL h⟩
def Va(l:X.A.units+60<aS):ES X (av .In) (rD X.K NW):=by intro f s p U x y v u Q T m n h;obtain⟨O,d,e,z,np,h1,g,j,G⟩:=h;obtain⟨b,i,rfl⟩:=jB j;exact Vg l f s p U x y v u Q T m n ⟨O,d,e,b,h1,g,i,G.bl⟩
def uP(l:X.A.units+60<aS):ES X (av .NotIn) (rD X.K qC):=by intro f s p U x y v u Q T m n h;obtain⟨O,d,e,z,np,h1,g,j,G⟩:=h;obtain⟨b,i,rfl⟩:=jB j;exact ac1 l f s p U x y v u Q T m n ⟨O,d,e,b,h1,g,i,G.bl⟩
noncomputable def zO:D->Option (D×Bool)
 | .int i=>J (.int (-i),Y)
 |_=>C
def Qr:Pm X (TW .USub) (rD1 X.K zO):=by
 intro f s l U x v Q T j h;obtain⟨O,d,z,np,h1,g,G⟩:=h
 cases d with
 |int i=>cases g;exact Ub f s l U x v Q T j ⟨i,jr h1,G.int⟩
 |_=>cases g
noncomputable def Ep:D->D->Option (D×Bool)
 | .tup l,.int i=>(KC l i).map λd=>(d,Y)
 | .lst l,.int i=>(KC l i).map λd=>(d,Y)
 |_,_=>C
def J6{K U}{O:BL}{l:List D}{f:List V}{i:Int}{d:D}(r:AF K U O l f)(h:KC l i=J d): ∃v,KC f i=J v/\Rep K U O d v:=by unfold KC at h ⊢;rw[r.length];obtain⟨j,h1,g⟩:=iC h;rw[h1];exact r.get g
def Yk:Pq X (rD X.K Ep):=by
 intro f slice g s T U x y v u Q N E L h M;obtain⟨O,d,e,z,np,h1,B,j,G⟩:=h
 cases d with
 |tup l=>
  cases e with
  |int i=>obtain⟨w,n,rfl⟩:=jB j;obtain⟨p,A,rfl,q,r⟩:=lq h1;obtain⟨t,hv,m⟩:=J6 r n;exact VA f slice g s T U _ _ v u Q N E L ⟨p,A,i,t,rfl,jr B,q,hv,G _ U (λ_ _ e=>e) m⟩ M
  |_=>cases j
 |lst l=>
  cases e with
  |int i=>obtain⟨w,n,rfl⟩:=jB j;obtain⟨p,A,rfl,q,r⟩:=ke h1;obtain⟨t,hv,m⟩:=J6 r n;exact RS f slice g s T U _ _ v u Q N E L ⟨p,A,i,t,rfl,jr B,q,hv,G _ U (λ_ _ e=>e) m⟩ M
  |_=>cases j
 |_=>cases j
end
noncomputable def qu:List Cm->Option (List D)
 |[]=>J []
 | .val r::os=>(qu os).map (r.1:: ·)
 | .slot _::_=>C
noncomputable def nh(fs:List F):F:=λδ=>(kO (fs.map iL) δ).bind λp=>(qu p.1).bind λa=>if (A0 a)<=sizeLine then J ((.tup a,Y),p.2) else C
noncomputable def nC(fs:List F):F:=λδ=>(kO (fs.map iL) δ).bind λp=>(qu p.1).bind λa=>if (A0 a)<=sizeLine then J ((.lst a,I),p.2) else C
section
variable {K:jb}{T n:BL}{g:L2.St}{m e:Dn}{H f:Hp}{os:List Cm}{c:List V}
def Ops.rep(E:ER K H T g m)(B:Ops K T g m H os c e f n){j:Nat}{r:D×Bool}{v:V}(h1:os[j]?=J (.val r))(h:c[j]?=J v):Rep K f (λa=>AZ g e a\/T a) r.1 v:=by
 obtain⟨d,b⟩:=r
 cases b with
 |false=>exact B.val j d v h1 h
 |true=>
  obtain⟨p,rfl,k,i,ok⟩:=B.tmp j d v h1 h;refine ok.rep (λz=>?_) λb _ z=>z;rcases z with z|z
  .exact B.er.nT p z k
  .exact(E.dom p z).ne i
theorem wz{O:BL}: ∀{os:List Cm} {c:List V} {d:List D},qu os=J d->os.length=A0 c->(∀(j:Nat) (r:D×Bool) (v:V),os[j]?=J (.val r)->c[j]?=J v->Rep K f O r.1 v)->AF K f O d c
 |[],c,d,h,o,_=>by
  cases h;have:c=[]:=by simpa using o.symm
  subst this;exact AF.nil
 | .slot i::os,c,d,h,_,_=>by cases h
 | .val r::os,c,d,h,o,k=>by
  obtain⟨l,h1,rfl⟩:=jB h
  cases c with
  |nil=>simp at o
  |cons v c=>exact AF.cons (k 0 r v AU AU)<|wz h1 (by simpa using o) λj p q a b=>k (j+1) p q (by simpa using a) (by simpa using b)
end
section
variable {X:Cx}{e a b:iK}{m:kD}{n fb:FO}{fs:List F}{c:bu}
def UG{x1}(h:PA X m (tA X.K<|fs.map iL)):PX X (.Tuple m x1 c) (nh fs):=PX.imp (NI h) λy U Q l=>by obtain⟨o,T,w,q,E,e,k⟩:=l;obtain⟨⟨os,d⟩,h1,e⟩:=iC e;obtain⟨u,g,e⟩:=iC e;obtain⟨i,e⟩:=jf e;obtain⟨rfl,rfl⟩:=rJ e;refine⟨o,T,os,d,E,h1,λx s t B=>?_⟩;have r:=wz g B.len λj r v a b=>B.rep E a b;exact⟨by rw[r.length];exact i,λp f=>(B.done k).tup f (B.np<|OD f) r⟩
def UL(h:PA X m (tA X.K<|fs.map iL)):PX X (.List m c) (nC fs):=PX.imp (U5 h) λy U Q l=>by obtain⟨o,T,w,q,E,e,k⟩:=l;obtain⟨⟨os,d⟩,h1,e⟩:=iC e;obtain⟨u,f,e⟩:=iC e;obtain⟨g,e⟩:=jf e;obtain⟨rfl,rfl⟩:=rJ e;refine⟨o,T,os,d,E,h1,λx s t B=>?_⟩;have r:=wz f B.len λj r v a b=>B.rep E a b;exact⟨by rw[r.length];exact g,λp i=>(B.done k).lst i r⟩
def Jt{g:List D}{f:List V}{d:D}(h:(A0 g)=A0 f)(hd:g=[d]): ∃v,f=[v]:=by
 subst hd
 cases f with
 |nil=>simp at h
 |cons v r=>
  cases r with
  |nil=>exact⟨v,rfl⟩
  |cons _ _=>simp at h
noncomputable def g1(g:D->Option (D×Bool)):List D->Option (D×Bool)
 |[d]=>g d
 |_=>C
noncomputable def g2(g:D->D->Option (D×Bool)):List D->Option (D×Bool)
 |[d,e]=>g d e
 |_=>C
def nI{f:iN}{g:D->Option (D×Bool)}(h: ∀(i:ju) (s:iJ) (j:L2.St) (U:Hp) (x:V) (u:iN) (Q:VK) (O:BL) (d:D) (z:D×Bool),Inv X i j U s->RelV x u->(∀p,¬Ow (U p)-> ¬O p)->kg X.K U O d x->g d=J z->Gen X.K U O z Q->
  ah (ai X.prog X.w) X.A (call f [u]) (EP X i j Q) X.xe s):kG X f (Ib X.K<|g1 g):=by
 intro i s j U xs y Q T r q;obtain⟨O,l,z,np,o,hv,k,G⟩:=q
 match l,k with
 |[d],k=>obtain⟨v,rfl⟩:=Jt o H;obtain⟨u,rfl,t⟩:=sU r;exact h i s j U v u Q O d z T t np (hv 0 d v H H) k G
def Py{f:iN}{g:D->D->Option (D×Bool)}(h: ∀(i:ju) (s:iJ) (k:L2.St) (U:Hp) (x y:V) (j:jF) (Q:VK) (O:BL) (d e:D) (z:D×Bool),Inv X i k U s->Vals [x,y] j->(∀p,¬Ow (U p)-> ¬O p)->kg X.K U O d x->kg X.K U O e y->g d e=J z->Gen X.K U O z Q->
  ah (ai X.prog X.w) X.A (call f j) (EP X i k Q) X.xe s):kG X f (Ib X.K<|g2 g):=by
 intro i s k U u j Q T r t;obtain⟨O,o,z,np,q,hv,l,G⟩:=t;rcases o with _|⟨d,_|⟨e,_|⟨_,_⟩⟩⟩<;>try cases l
 rcases u with _|⟨x,_|⟨y,_|⟨_,_⟩⟩⟩<;>try cases q
 exact h i s k U x y j Q O d e z T r np (hv 0 d x H H) (hv 1 e y H H) l G
noncomputable def ur:D->Option (D×Bool)
 | .tup l=>J (.int<|A0 l,Y)
 | .lst l=>J (.int<|A0 l,Y)
 |_=>C
def lN:kG X (.builtin "len") (Ib X.K<|g1 ur):=nI λf s j U x u Q O d z T i np hd g G=>by
 cases d with
 |tup l=>
  cases g;obtain⟨p,h,rfl,q,r⟩:=lq hd;refine yb f s j U [_] [u] Q T (.cons i .nil) ⟨p,h,rfl,.inr q,?_⟩;rw[r.length];exact G.int
 |lst l=>
  cases g;obtain⟨p,h,rfl,q,r⟩:=ke hd;refine yb f s j U [_] [u] Q T (.cons i .nil) ⟨p,h,rfl,.inl q,?_⟩;rw[r.length];exact G.int
 |_=>cases g
noncomputable def Cf:D->Option (D×Bool)
 | .int i=>J (.int (if i<0 then -i else i),Y)
 |_=>C
def rp:kG X (.builtin "abs") (Ib X.K<|g1 Cf):=nI λf s j U x u Q O d z T h np hd g G=>by
 cases d with
 |int i=>cases g;exact Pz f s j U [x] [u] Q T (.cons h .nil) ⟨i,by rw[jr hd],G.int⟩
 |_=>cases g
noncomputable def OU:D->Option (D×Bool)
 | .int i=>J (.int i,Y)
 | .bl b=>J (.int (if b then 1 else 0),Y)
 |_=>C
def Dd:kG X (.type "int") (Ib X.K<|g1 OU):=nI λf s j U x u Q O d z T h np hd g G=>by
 cases d with
 |int i=>cases g;exact De f s j U [x] [u] Q T (.cons h .nil)<|.inl ⟨i,by rw[jr hd],G.int⟩
 |bl i=>
  cases g;refine De f s j U [x] [u] Q T (.cons h .nil)<|.inr ⟨i,by rw[D3 hd],?_⟩;have:=G.int;cases i<;>exact this
 |_=>cases g
noncomputable def oN:D->Option (D×Bool)
 | .tup l=>J (.tup l,Y)
 | .lst l=>J (.tup l,Y)
 |_=>C
def lO:kG X (.type "tuple") (Ib X.K<|g1 oN):=nI λf s o U x u Q O d z T k np hd g G=>by
 cases d with
 |tup l=>
  cases g;have j:Rep X.K U O (.tup l) x:=hd.elim id λ⟨_,_,z⟩=>z.elim;obtain⟨p,h,rfl,q,r⟩:=j.tup;exact vR f s o U [_] [u] Q T (.cons k .nil) ⟨p,h,rfl,.inr ⟨q.sq,G _ U (λ_ _ e=>e) j⟩⟩
 |lst l=>
  cases g;obtain⟨p,h,rfl,q,r⟩:=ke hd;exact vR f s o U [_] [u] Q T (.cons k .nil) ⟨p,h,rfl,.inl ⟨q,λt i=>G.tup i (np t<|OD i) r⟩⟩
 |_=>cases g
noncomputable def Bj:D->Option (D×Bool)
 | .tup l=>J (.lst l,I)
 | .lst l=>J (.lst l,I)
 |_=>C
def acK:kG X (.type "list") (Ib X.K<|g1 Bj):=nI λf s k U x u Q O d z T j np hd g G=>by
 cases d with
 |tup l=>
  cases g;obtain⟨p,i,rfl,q,r⟩:=lq hd;exact ya f s k U [_] [u] Q T (.cons j .nil) ⟨p,i,rfl,.inr q,λt h=>G.lst h r⟩
 |lst l=>
  cases g;obtain⟨p,i,rfl,q,r⟩:=ke hd;exact ya f s k U [_] [u] Q T (.cons j .nil) ⟨p,i,rfl,.inl q,λt h=>G.lst h r⟩
 |_=>cases g
end
abbrev FT:=Dn->Option (Bool×Dn)
def tT(K:jb)(f:FT):TT:=λe U Q=> ∃d T b a,ER K U T e d/\f d=J (b,a)/\ ∀c,Cj e d U a c->ER K c T e a->Q b c
def Oc(X:Cx)(e:iK)(f:FT):Prop:=PT X e<|tT X.K f
def PWX(X:Cx)(e:iK)(f:FT):Prop:=PW X e<|tT X.K f
noncomputable def Lu:(D×Bool)×Dn->Option (Bool×Dn)
 |((.bl b,_),a)=>J (b,a)
 |_=>C
noncomputable def fT(f:F):FT:=λδ=>(f δ).bind Lu
def BN(h:Lu p=J q): ∃o,p=((.bl q.1,o),q.2):=by
 obtain⟨⟨d,o⟩,a⟩:=p
 cases d with
 |bl b=>cases h;exact⟨o,rfl⟩
 |_=>cases h
def SR{K:jb}{f:F}{a:L2.St}{U:Hp}{Q:Bool->Hp->Prop}(h:tT K (fT f) a U Q):tF K f a U λx i=> ∃c,x= .bl c/\Q c i:=by obtain⟨l,T,b,m,E,e,k⟩:=h;obtain⟨p,h1,j⟩:=iC e;obtain⟨o,rfl⟩:=BN j;refine⟨l,T,_,_,E,h1,λv g P=>?_⟩;obtain⟨d,r⟩:=P.rep E;exact⟨b,r.bl,k g P.1 d⟩
section
variable {X:Cx}{e a b c:iK}{A:kD}{l i:FO}{f g:F}{w n:FT}{m:bu}
def PT.imp'(h:PT X e t)(k: ∀j U Q,p j U Q->t j U Q):PT X e p:=λd s j U Q T o=>h d s j U Q T<|k j U Q o
def PW.imp'(h:PW X e t)(k: ∀j U Q,p j U Q->t j U Q):PW X e p:=λwh d s j U Q T o=>h wh d s j U Q T<|k j U Q o
def Rt{r:R2}{g:D->D->Option (D×Bool)}(M:Wf X.K r g){t:L2.St}{H:Hp}{Q:VK}(N:tF X.K (iZ g l i) t H Q):N4 r (tO X.K l) (tO X.K i) t H Q:=by apply FL;intro R U;obtain⟨F,T,V,P,E,e,k⟩:=N;obtain⟨⟨o,d⟩,h1,e⟩:=iC e;obtain⟨⟨Y,q⟩,I,e⟩:=iC e;obtain⟨x,L,e⟩:=iC e;obtain⟨y,O,e⟩:=iC e;obtain⟨z,G,e⟩:=iC e;obtain⟨rfl,rfl⟩:=jd e;apply U;refine⟨F,T,o,d,E,h1,λv S h=>⟨d,Co T o v,Y,q,h.er E,I,λu C s=>?_⟩⟩;have B:=Ops.cons E h<|Ops.cons (h.er E) s<|Ops.nil<|s.er<|h.er E;exact M x y z v u C _ Q (λp J=>B.np J) (B.view (j:=0) AU AU L) (B.view (j:=1) AU AU O) G (B.done k)
def XQ{K:jb}{g:D->D->Option (D×Bool)}:Wf K (rD K g) g:=λx y z v u U O Q np h j d G=>⟨O,x,y,z,np,h,j,d,G⟩
noncomputable def pZ(f g:FT):FT:=λd=>(f d).bind λp=>if p.1=I then g p.2 else J (Y,p.2)
noncomputable def Ge(f g:FT):FT:=λd=>(f d).bind λp=>if p.1=I then J (I,p.2) else g p.2
noncomputable def vO(f:FT):FT:=λd=>(f d).bind λp=>J (!p.1,p.2)
noncomputable def EJ(f g:F):F:=λd=>(f d).bind λp=>(Lu p).bind λq=>if q.1=I then g q.2 else J ((.bl Y,Y),q.2)
noncomputable def fOr(f g:F):F:=λd=>(f d).bind λp=>(Lu p).bind λq=>if q.1=I then J ((.bl I,Y),q.2) else g q.2
noncomputable def VV(f:F):F:=λd=>(f d).bind λp=>(Lu p).bind λq=>J ((.bl (!q.1),Y),q.2)
def CK.pre{K:jb}{T:BL}{h:L2.St}{δ δ1 δ2:Dn}{U j q:Hp}{r:D×Bool}{v:V}(k:Cj h δ U δ1 j)(P:CK K T h δ1 j r δ2 v q):CK K T h δ U r δ2 v q:=by
 refine⟨k.trans P.1,?_⟩;obtain⟨d,o⟩:=r
 cases o with
 |false=>exact P.2
 |true=>
  obtain⟨p,h1,s,t⟩:=P.2;refine⟨p,h1,?_,t⟩
  cases u:U p with
  |none=>rfl
  |some x=>exact absurd s<|k.dm p (by rw[u];simp)
noncomputable def Lq(t:FT)(f g:F):F:=λδ=>(t δ).bind λp=>if p.1=I then f p.2 else g p.2
end
inductive Out where
 |nx(δ:Dn)|rt(r:D×Bool)(δ:Dn)|bk(δ:Dn)|ct(δ:Dn)
abbrev FS:=Dn->Option Out
structure SK(A:kK)(σ:L2.St)(δ:Dn)(H:Hp)(σ':L2.St)(δ':Dn)(H':Hp):Prop where
 kp: ∀a o,H a=A7 o-> ¬AZ σ δ a->H' a=A7 o
 owi: ∀i a,BW σ' δ' i a->BW σ δ i a\/H a=AX\/(A i/\ ∃j,A j/\BW σ δ j a)
 dm: ∀a,H a≠AX->H' a≠AX
 as: ∀i,¬A i->σ'[i]?=σ[i]?
structure LL where
 p:Nat->Prop
 st:Option L2.St
structure FI(A:kK)(L:LL)(H0:Hp)(σ:L2.St)(δ:Dn)(H:Hp):Prop where
 ow: ∀i a,BW σ δ i a->L.p i\/H0 a=AX
 dm: ∀a,H0 a≠AX->H a≠AX
 al: ∀j,A j-> ¬L.p j
 gh: ∀z,L.st=A7 z-> ∀i,¬A i->σ[i]?=z[i]?
def RV(K:jb)(T:BL)(f:Hp)(r:D×Bool)(c:L2.St)(b:Dn)(v:V)(e:Hp):Prop:=
 match r with
 |(d,Y)=>ER K e T c b/\Rep K e (λa=>AZ c b a\/T a) d v
 |(d,I)=> ∃p,v= .ref p/\f p=C/\ER K e (λa=>T a\/a=p) c b/\EU K e (λa=>AZ c b a\/T a\/a=p) d p
section
variable {A:kK}{c b m:L2.St}{δ δ1 δ2:Dn}{H l g q:Hp}{L:LL}{K:jb}{T:BL}
def SK.refl:SK A c δ H c δ H:=⟨λ_ _ e _=>e,λ_ _ z=> .inl z,λ_ z=>z,λ_ _=>rfl⟩
def SK.ow(k:SK A c δ H b δ1 g)(a:iE)(h:AZ b δ1 a):AZ c δ a\/H a=C:=by
 obtain⟨i,d,h1,o⟩:=h;rcases k.owi i a ⟨d,h1,o⟩ with⟨e,f,n⟩|z|⟨_,j,_,e,f,n⟩
 .exact .inl ⟨i,e,f,n⟩
 .exact .inr z
 .exact .inl ⟨j,e,f,n⟩
def SK.trans(x:SK A c δ H b δ1 g)(y:SK A b δ1 g m δ2 q):SK A c δ H m δ2 q where
 kp:=λa o e n=>y.kp a o (x.kp a o e n) λz=>(x.ow a z).elim n λz=>by rw[z] at e;cases e
 owi:=λi a z=>(y.owi i a z).elim (x.owi i a) λz=>z.elim (λz=> .inr (.inl (by
  cases h:H a with
  |none=>rfl
  |some o=>exact absurd z<|x.dm a<|by rw[h];simp))) λ⟨d,j,f,z⟩=>(x.owi j a z).elim (λz=> .inr (.inr ⟨d,j,f,z⟩)) λz=>z.elim (λz=> .inr (.inl z)) λ⟨_,k,ak,z⟩=> .inr (.inr ⟨d,k,ak,z⟩)
 dm:=λa z=>y.dm a<|x.dm a z
 as:=λi h=>(y.as i h).trans<|x.as i h
def Cj.sk(k:Cj c δ H δ1 g):SK A c δ H c δ1 g:=⟨k.kp,λi a z=> .inl (k.owi i a z),k.dm,λ_ _=>rfl⟩
def FI.step(f:FI A L l c δ H)(k:SK A c δ H b δ1 g):FI A L l b δ1 g where
 ow:=λi a z=>(k.owi i a z).elim (f.ow i a) λz=> .inr (z.elim (λz=>by
  cases h:l a with
  |none=>rfl
  |some o=>exact absurd z<|f.dm a<|by rw[h];simp) λU=>by obtain⟨_,j,d,z⟩:=U;exact (f.ow j a z).resolve_left<|f.al j d)
 dm:=λa z=>k.dm a<|f.dm a z
 al:=f.al
 gh:=λz e i n=>(k.as i n).trans<|f.gh z e i n
def FI.fresh(f:FI A L l c δ H)(a:H p=C):l p=C:=by
 cases h:l p with
 |none=>rfl
 |some o=>exact absurd a<|f.dm p (by rw[h];simp)
end
def tS(K:jb)(A:kK)(L:LL)(h:Hp)(f:FS):TS:=λD e U=> ∃d T g,ER K U T e d/\FI A L h e d U/\f d=J g/\
 match g with
 | .nx b=> ∀a c,SK A e d U a b c->ER K c T a b->D.nx a c
 | .bk b=> ∀a c,SK A e d U a b c->ER K c T a b->D.bk a c
 | .ct b=> ∀a c,SK A e d U a b c->ER K c T a b->D.ct a c
 | .rt r b=> ∀v a c,SK A e d U a b c->RV K T h r a b v c->D.rt v c
def Nh(X:Cx)(A:kK)(L:LL)(a:Hp)(st:bn)(f:FS):Prop:=PS X st<|tS X.K A L a f
def Iv(X:Cx)(A:kK)(L:LL)(a:Hp)(st:List bn)(f:FS):Prop:=Io X st<|tS X.K A L a f
noncomputable def jk:FS:=λδ=>J<|.nx δ
noncomputable def iU(f g:FS):FS:=λδ=>(f δ).bind λo=>match o with
 | .nx δ1=>g δ1
 |o=>J o
noncomputable def nO(f:F):FS:=λa=>(f a).bind λp=>J<|.nx p.2
noncomputable def lz(f:F):FS:=λa=>(f a).bind λp=>J<|.rt p.1 p.2
noncomputable def qm(i:Nat):FS:=λa=>match a[i]? with
 |some (J (d,I))=>J<|.rt (d,I)<|a.set i C
 |some (J (d,Y))=>J<|.rt (d,Y) a
 |_=>C
noncomputable def FH(t:FT)(f g:FS):FS:=λδ=>(t δ).bind λp=>if p.1=I then f p.2 else g p.2
noncomputable def kx(i:Nat)(f:F):FS:=λδ=>(f δ).bind λp=>if i<(A0 p.2) then J (.nx<|p.2.set i<|J p.1) else C
section
variable {X:Cx}{A:kK}{L:LL}{d:Hp}{st:bn}{l:List bn}{f g:FS}{m:F}{j:FT}{e c:iK}{i:bu}
def PS.imp'(h:PS X st t)(k: ∀D b U,o D b U->t D b U):PS X st o:=λa s b U D T n=>h a s b U D T<|k D b U n
def Io.imp'(h:Io X l t)(k: ∀D b U,o D b U->t D b U):Io X l o:=λa s b U D T n=>h a s b U D T<|k D b U n
def US(G:Oc X c j)(O:Iv X A L d a f)(Q:Iv X A L d b g):Nh X A L d (.If c a b i) (FH j f g):=PS.imp' (S9 G O Q) λD x N M=>by
 obtain⟨z,T,s,E,I,e,k⟩:=M;obtain⟨⟨c,o⟩,h1,e⟩:=iC e;refine⟨z,T,c,o,E,h1,λy C B=>?_⟩;have w:SK A x z N x o y:=C.sk
 have fin: ∀(h:FS),h o=J s->tS X.K A L d h D x y:=λh U=>by
  refine⟨o,T,s,B,I.step w,U,?_⟩
  cases s with
  |nx t=>exact λn p q u=>k n p (w.trans q) u
  |bk t=>exact λn p q u=>k n p (w.trans q) u
  |ct t=>exact λn p q u=>k n p (w.trans q) u
  |rt r t=>exact λv n p q R2=>k v n p (w.trans q) R2
 cases c with
 |true=>rw[iQ H] at e;exact(show(if B8=B8 then tS X.K A L d f D x y else _) from by rw[iQ H];exact fin f e)
 |false=>rw[jc ki] at e;exact(show(if Y=B8 then _ else tS X.K A L d g D x y) from by rw[jc ki];exact fin g e)
end
def mq{b:Type}{l:List b}{i j:Nat}{x y:b}(h:(l.set i x)[j]?=J y):(i=j/\i<A0 l/\y=x)\/(i≠j/\l[j]?=J y):=by
 rw[wq] at h;split at h
 .rename_i a;split at h
  .rename_i c;exact .inl ⟨a,c,(kL h).symm⟩
  .cases h
 .rename_i a;exact .inr ⟨a,h⟩
section
variable {K:jb}{T:BL}{f:L2.St}{l c:Dn}{H g:Hp}{x:D×Bool}{v:V}{i:Nat}
def BW.store{j:Nat}{a:iE}(h:BW (f.set i<|J v) (l.set i<|J x) j a):(i≠j/\BW f l j a)\/(i=j/\x.2=I/\v= .ref a):=by
 obtain⟨d,h1,m⟩:=h;rcases mq h1 with⟨e,_,q⟩|⟨ne,q⟩
 .rcases mq m with⟨_,_,k⟩|⟨b,_⟩
  .right;cases q;exact⟨e,rfl,(kL k).symm⟩
  .exact absurd e b
 .rcases mq m with⟨n,_,_⟩|⟨_,k⟩
  .exact absurd n ne
  .exact .inl ⟨ne,d,q,k⟩
def AZ.store(h:AZ (f.set i<|J v) (l.set i<|J x) a):AZ f l a\/(x.2=I/\v= .ref a):=by
 obtain⟨j,d,h1,k⟩:=h;rcases BW.store ⟨d,h1,k⟩ with⟨_,e,b,m⟩|⟨_,b⟩
 .exact .inl ⟨j,e,b,m⟩
 .exact .inr b
def ER.store(h:ER K g (MR T x v) f c)(E:i<A0 c)(u:match x with|(d,Y)=>Rep K g (λa=>AZ f c a\/T a) d v|(d,I)=> ∃p,v= .ref p/\ ¬T p/\EU K g (λa=>AZ f c a\/T a\/a=p) d p):
  ER K g T (f.set i<|J v) (c.set i<|J x):=by
 have r:i<(A0 f):=by rw[h.len];exact E
 have sub: ∀b,g b≠C->(AZ (f.set i<|J v) (c.set i<|J x) b\/T b)->(AZ f c b\/MR T x v b):=λb _ z=>by
  rcases z with z|z
  .rcases z.store with z|z
   .exact .inl z
   .exact .inr (.inr z)
  .exact .inr (.inl z)
 refine⟨by rw[vB,vB];exact h.len,λj d o=>?_,λj d o=>?_,λj k d e a o hk h1 n=>?_,λa z=>?_,λa z=>h.dom a<|.inl z⟩
 .rcases mq o with⟨rfl,_,q⟩|⟨ne,q⟩
  .have q:=kL q;subst q
   exact⟨v,oX r,Rep.mono (λ_ _ e _=>e) (λb Q z=>by
    rcases z with z|z
    .rcases z.store with z|z
     .exact .inl z
     .exact absurd z.1 (by simp)
    .exact .inr z) u⟩
  .obtain⟨w,h1,n⟩:=h.val j d q;exact⟨w,by rw[nK ne];exact h1,Rep.mono (λ_ _ e _=>e) sub n⟩
 .rcases mq o with⟨rfl,_,q⟩|⟨ne,q⟩
  .have q:=kL q;subst q;obtain⟨p,rfl,np,ok⟩:=u;refine⟨p,oX r,ok.mono (λ_ _ e _=>e) (λb Q z=>?_) λ_ e=>e⟩;rcases z with z|z
   .rcases z.store with z|z
    .exact .inl z
    .have:=z.2;cases this;exact .inr<|.inr AU
   .exact .inr (.inl z)
  .obtain⟨a,h1,n⟩:=h.own j d q;exact⟨a,by rw[nK ne];exact h1,n.mono (λ_ _ e _=>e) sub λ_ e=>e⟩
 .rcases BW.store ⟨d,o,h1⟩ with⟨L,y,g1,g2⟩|⟨B,g1,g2⟩
  .rcases BW.store ⟨e,hk,n⟩ with⟨U,s,g3,m⟩|⟨A,g3,m⟩
   .exact h.inj j k y s a g1 g3 g2 m
   .exact absurd (bh ⟨g3,m⟩) (h.nT a ⟨j,y,g1,g2⟩)
  .rcases BW.store ⟨e,hk,n⟩ with⟨U,s,g3,m⟩|⟨A,g3,m⟩
   .exact absurd (bh ⟨g1,g2⟩) (h.nT a ⟨k,s,g3,m⟩)
   .exact B.symm.trans A
 .rcases z.store with z|z
  .exact λt=>h.nT a z<|.inl t
  .obtain⟨d,b⟩:=x
   cases b with
   |false=>exact absurd z.1 (by simp)
   |true=>obtain⟨p,rfl,np,_⟩:=u;have:=z.2;cases this;exact np
def SK.store(k:Cj f l H c g)(b:A i)(h:x.2=I-> ∀p,v= .ref p->H p=C):SK A f l H (f.set i<|J v) (c.set i<|J x) g where
 kp:=k.kp
 owi:=λj a z=>by
  rcases z.store with⟨_,z⟩|⟨_,m,n⟩
  .exact .inl (k.owi j a z)
  .exact .inr (.inl<|h m a n)
 dm:=k.dm
 as:=λj d=>nK λ(e:i=j)=>d (by subst e;exact b)
end
section
variable {X:Cx}{A:kK}{L:LL}{g:Hp}{f:F}{e c:iK}{b a:bu}
def AJ{K:jb}{T:BL}{k:L2.St}{n j:Dn}{U l:Hp}{r:D×Bool}{v:V}{i:Nat}(E:ER K U T k n)(P:CK K T k n U r j v l)(u:i<A0 j)(t:A i):
  SK A k n U (k.set i<|J v) (j.set i<|J r) l/\ER K l T (k.set i<|J v) (j.set i<|J r):=by
 have w:r.2=I-> ∀p,v= .ref p->U p=C:=λh p hv=>by
  obtain⟨d,o⟩:=r
  cases o with
  |false=>cases h
  |true=>obtain⟨q,h1,m,_⟩:=P.2;rw[hv] at h1;cases h1;exact m
 refine⟨SK.store P.1 t w,ER.store (P.er E) u ?_⟩;obtain⟨d,o⟩:=r
 cases o with
 |false=>exact P.2.2
 |true=>obtain⟨p,rfl,m,x,s⟩:=P.2;exact⟨p,rfl,λz=>(E.dom p z).ne m,s⟩
end
abbrev Tg:=D->Dn->Option Dn
def tG(K:jb)(A:kK)(g:Tg):TG:=λv f U Q=> ∃e T d b,ER K U T f e/\Rep K U (λa=>AZ f e a\/T a) d v/\g d e=J b/\ ∀c,SK A f e U c b U->ER K U T c b->Q c U
def MW(X:Cx)(A:kK)(e:iK)(a:Tg):Prop:=PG X e<|tG X.K A a
noncomputable def iT(i:Nat):Tg:=λd δ=>if i<(A0 δ) then J (δ.set i<|J (d,Y)) else C
noncomputable def IL:List Tg->List D->Dn->Option Dn
 |[],[],a=>J a
 |t::b,d::ds,a=>(t d a).bind<|IL b ds
 |_,_,_=>C
noncomputable def IK(a:List Tg):Tg
 | .tup ds,b=>IL a ds b
 |_,_=>C
def PH(K:jb)(A:kK)(g:List Tg):M5:=λh e U Q=> ∃d T f b,ER K U T e d/\AF K U (λa=>AZ e d a\/T a) f h/\IL g f d=J b/\ ∀c,SK A e d U c b U->ER K U T c b->Q c U
section
variable {X:Cx}{A:kK}{g:bu}{e:iK}{f:kD}{t:Tg}{c:List Tg}
def PG.imp'{t d:TG}(h:PG X e t)(k: ∀v b U Q,d v b U Q->t v b U Q):PG X e d:=λa s b U v u Q T r i=>h a s b U v u Q T r<|k v b U Q i
def Kz.imp'{t d:M5}(h:Kz X f t)(k: ∀v b U Q,d v b U Q->t v b U Q):Kz X f d:=λa s b U v u Q T r i=>h a s b U v u Q T r<|k v b U Q i
def aef:Kz X [] (PH X.K A []):=Kz.imp' Rh λv h U Q b=>by
 obtain⟨i,T,a,d,E,r,e,k⟩:=b
 cases a with
 |nil=>
  cases e;rw[AF] at r;exact⟨r,k h .refl E⟩
 |cons _ _=>cases e
def CC(h1:MW X A e t)(p:Kz X f (PH X.K A c))(u:(aU (e::f) X.env).map (·.2)=cg e X.env::(aU f X.env).map (·.2)):Kz X (e::f) (PH X.K A (t::c)):=Kz.imp' (aeg h1 p u) λv O U Q w=>by
 obtain⟨N,T,h,i,E,r,e,k⟩:=w
 cases h with
 |nil=>cases e
 |cons d h=>rw[AF] at r;obtain⟨B,M,rfl,x,y⟩:=r;obtain⟨a,q,e⟩:=iC e;refine⟨B,M,rfl,N,T,d,a,E,x,q,λL l m=>⟨a,T,h,i,m,?_,e,λj o n=>k j (l.trans o) n⟩⟩;exact AF.mono (λ_ _ e _=>e) (λb s z=>z.elim (λz=>(l.ow b z).elim bf λz=>absurd z s) bh) y
def Rg{k:Nat}(o:X.calm=I)(h:Kz X f (PH X.K A c)){n:Nat}(s:(aU f X.env).length=n)(p:c.length=n)(x:(aU f X.env).findIdx? (·.1)=C):MW X A (.Tuple f k g) (IK c):=PG.imp' (U0 o h s x) λv z U Q u=>by
 obtain⟨i,T,d,j,E,r,e,k⟩:=u
 cases d with
 |tup b=>
  obtain⟨a,y,rfl,q,m⟩:=r.tup;refine⟨a,y,rfl,q.sq,?_,i,T,b,j,E,m,e,k⟩
  have: ∀(c:List Tg) (b:List D) (i:Dn),IL c b i=J j->b.length=c.length:=by
   intro c
   induction c with
   |nil=>intro b i h;cases b with|nil=>rfl|cons _ _=>cases h
   |cons t c w=>
    intro b i h
    cases b with
    |nil=>cases h
    |cons d b=>obtain⟨l,_,h⟩:=iC h;simp[w b l h]
  rw[m.length,this c b i e,p]
 |_=>cases e
end
abbrev SB:=Nat->Prop
def NK(B:SB)(T:BL)(c:L2.St)(b:Dn):BL:=λa=>(∃i,¬B i/\BW c b i a)\/T a
def NK.own(h:NK B T σ δ a):AZ σ δ a\/T a:=h.imp (λU=>by obtain⟨i,_,d,h1,b⟩:=U;exact ⟨i,d,h1,b⟩) id
structure Lm(K:jb)(J:It)(ds:List D)(P O:BL)(H1:Hp):Prop where
 go: ∀(i:Nat) d Hi,ds[i]?=A7 d->(∀a o,H1 a=A7 o-> ¬P a->Hi a=A7 o)->J.go i Hi/\ ∀x H',J.yld i Hi x H'->(∀a o,Hi a=A7 o->H' a=A7 o)/\
  ∀O':BL,(∀b,H1 b≠AX->O' b->O b)->(∀b,Hi b=AX-> ¬O' b)->Rep K H' O' d x
 stop: ∀(i:Nat) Hi,A0 ds<=i->(∀a o,H1 a=A7 o-> ¬P a->Hi a=A7 o)->J.stop i Hi
abbrev Fi:=Dn->Option (List D×Dn)
def tI(K:jb)(B:SB)(g:Fi):TI:=λc Q R=> ∃e T f b,ER K Q T c e/\g e=J (f,b)/\ ∀U d,Cj c e Q b d->ER K d T c b->Lm K U f (NK B T c b) (λa=>AZ c b a\/T a) d->R U d
def MV(X:Cx)(B:SB)(tg iter:iK)(a:Fi):Prop:=PI X tg iter<|tI X.K B a
noncomputable def AN:D->Option (List D)
 | .tup l=>J l
 | .lst l=>J l
 |_=>C
noncomputable def Bf(f:FO):Fi:=λa=>(f a).bind λp=>(res p.2 p.1).bind λd=>(AN d).bind λl=>J (l,p.2)
noncomputable def kM(f:F):Fi:=λδ=>(f δ).bind λp=>match p.1.1 with
 | .lst l=>J (l,p.2)
 | .tup l=>J (l,p.2)
 |_=>C
noncomputable def jD(lo:Int)(n:Nat):List D:=(au n).map λ(k:Nat)=> .int (lo+k)
noncomputable def HQ(f:FO):Fi:=λa=>(kO [f] a).bind λp=>match uZ p.2 p.1 with
 |some [.int j]=>if -(2^62)<=j/\j<2^62 then J (jD 0 j.toNat,p.2) else C
 |_=>C
def Ob(B:SB)(f:FO):Prop:= ∀b i a,f b=J (.slot i,a)->B i
def Qx:Ob B (iL f):=λb i a h=>by obtain⟨p,_,h⟩:=iC h;cases h
def D9(h:B i):Ob B (iG i):=λb j a e=>by
 unfold iG at e;split at e<;>cases e
 exact h
noncomputable def OM:D->Bool
 | .lst _=>I
 |_=>Y
def KO(b:Bool)(K:jb)(U:Hp)(P:BL)(a:iE)(c:List V):Prop:=if b=I then Ik K U P a c else Ij K U P a c
def KO.mono{K U c}{P d:BL}(q:KO b K U P a xs)(k: ∀b o,U b=J o-> ¬P b->c b=J o)(e: ∀b,d b->P b):KO b K c d a xs:=by
 cases b with
 |true=>exact Ik.mono q k λb _=>e b
 |false=>exact Ij.mono (K:=K) q k λb _=>e b
def KO.l{K U}(q:KO I K U P a xs):Fp K U a xs:=Ik.sq q
def KO.t{K U}(q:KO Y K U P a xs):Hu K U a xs:=Ij.sq (K:=K) q
def adp{K U}(h:AN d=J l)(r:Rep K U O d v): ∃a b,v= .ref a/\KO (OM d) K U O a b/\AF K U O l b:=by
 cases d with
 |tup m=>cases h;obtain⟨a,b,rfl,q,c⟩:=r.tup;exact⟨a,b,rfl,q,c⟩
 |lst m=>cases h;obtain⟨a,b,rfl,q,c⟩:=r.lst;exact⟨a,b,rfl,q,c⟩
 |_=>cases h
def Ops.seq{K:jb}{T M:BL}{h:L2.St}{A c:Dn}{U n:Hp}{os:List Cm}{y:List V}(E:ER K U T h A)(W:Ops K T h A U os y c n M){j:Nat}(h1:os[j]?=J o)(x:y[j]?=J v)(s:res c o=J d)(t:AN d=J l)(L: ∀i,o= .slot i->B i):
  ∃a g,v= .ref a/\KO (OM d) K n (NK B T h c) a g/\AF K n (λa=>AZ h c a\/T a) l g:=by
 have fin:Rep K n (λa=>AZ h c a\/T a) d v-> ∃a g,v= .ref a/\KO (OM d) K n (NK B T h c) a g/\AF K n (λa=>AZ h c a\/T a) l g:=λr=>by obtain⟨a,g,rfl,q,u⟩:=adp t r;exact⟨a,g,rfl,q.mono (λ_ _ e _=>e) λa z=>z.own,u⟩
 cases o with
 |val r=>cases s;exact fin<|W.rep E h1 x
 |slot i=>
  have hk:=W.slt j i _ h1 x
  have hd: ∃f,c[i]?=J (J (d,f)):=by
   unfold res at s;dsimp only at s;split at s<;>cases s
   exact⟨_,by assumption⟩
  obtain⟨f,hd⟩:=hd
  cases f with
  |false=>obtain⟨w,p,N⟩:=W.er.val i _ hd;rw[hk] at p;cases p;exact fin<|Rep.mono (λ_ _ e _=>e) (λb _ z=>z.imp id<|W.tt b) N
  |true=>
   obtain⟨a,p,ok⟩:=W.er.own i _ hd;rw[hk] at p;cases p
   cases d with
   |lst m=>
    cases t;obtain⟨g,e,u⟩:=ok;exact⟨a,g,rfl,.inl ⟨.inl e,λz=>z.elim (λG=>by obtain⟨k,O,Q,g1,g2⟩:=G;exact O<|W.er.inj i k _ _ a hd g1 hk g2▸L i H) λz=>W.er.nT a ⟨i,_,hd,hk⟩<|W.tt a z⟩,AF.mono (λ_ _ e _=>e) (λb _ z=>z.imp id<|W.tt b) u⟩
   |tup m=>exact ok.elim
   |_=>cases t
section
variable {X:Cx}{B:SB}{tg e:iK}{f:F}{c:FO}{g p:bu}
def PI.imp'(h:PI X tg e t)(k: ∀b U R,i b U R->t b U R):PI X tg e i:=λa s b U R T d=>h a s b U R T<|k b U R d
def PI.or(h:PI X tg e t)(d:PI X tg e j):PI X tg e (λb U R=>t b U R\/j b U R):=λa s b U R T i=>i.elim (h a s b U R T)<|d a s b U R T
noncomputable def ItS(b:Bool)(K:jb)(a:iE):It:=if b=I then Itl K a else Itt K a
def aeK{K:jb}{P O:BL}{m:Hp}{a:iE}{k:List V}{l:List D}(q:KO b K m P a k)(r:AF K m O l k)(v: ∀a,P a->O a):Lm K (ItS b K a) l P O m:=by
 cases b<;>(
  refine⟨λi d Hi hd j=>?_,λi Hi w j=>?_⟩
  .have h:=KO.mono q j λ_ z=>z
   first|replace h:=h.l|replace h:=h.t
   obtain⟨x,u,A⟩:=r.get hd;refine⟨⟨k,x,h,u⟩,λy T s=>?_⟩;obtain⟨rfl,s⟩:=s;have:=s k h;rw[u] at this;cases this;exact⟨λ_ _ e=>e,λE h1 U=>Rep.mono (λb o e n=>j b o e λz=>n<|v b z) h1 A⟩
  .exact⟨k,by first|exact(KO.mono q j λ_ z=>z).l|exact(KO.mono q j λ_ z=>z).t,by rw[r.length];exact w⟩)
def Bg{K:jb}{P O:BL}{b:Hp}(lo:Int)(n:Nat):Lm K (Ol lo n) (jD lo n) P O b:=by
 refine⟨λi d Hi hd j=>?_,λi Hi a j=>?_⟩
 .unfold jD at hd;rw[kZ] at hd;obtain⟨k,h1,h⟩:=jB hd;have a:i<n:=by have:=(uD.mp h1).1;simpa using this
  have hk:k=i:=by rw[List.getElem?_range a] at h1;exact(kL h1).symm
  subst hk;refine⟨a,λy m l=>?_⟩;obtain⟨rfl,rfl⟩:=l;refine⟨λ_ _ e=>e,λo _ _=>?_⟩;rw[<-h];exact Rep.mkInt
 .unfold jD at a;have:n<=i:=by simpa using a
  exact this
def FD(h:PO X e c)(M:Ob B c):MV X B tg e (Bf c):=PI.imp' (PI.or (Rc (tg:=tg) h)<|UZ h) λA N R O=>by
 obtain⟨x,T,U,G,E,e,k⟩:=O;obtain⟨⟨o,w⟩,h1,e⟩:=iC e;obtain⟨d,C,e⟩:=iC e;obtain⟨l,y,e⟩:=iC e;obtain⟨rfl,rfl⟩:=jd e
 have u: ∀v n,HH X.K T A x N o w v n-> ∃a s,v= .ref a/\KO (OM d) X.K n (NK B T A w) a s/\R (ItS (OM d) X.K a) n:=λv n P=>by have W:=Ops.cons E P<|Ops.nil<|P.er E;obtain⟨a,s,rfl,q,Q⟩:=W.seq E (j:=0) H H C y λi L=>M _ _ _ (L▸h1);exact⟨a,s,rfl,q,k _ n W.keep (W.er.mono (λ_ _ e _=>e) (λb _ z=>W.tt b z) λa z=>W.er.dom a<|W.tt a z) (aeK q Q λa z=>z.own)⟩
 cases d with
 |lst m=>exact .inl ⟨x,T,_,_,E,h1,λv n P=>let⟨a,s,e,q,r⟩:=u v n P;⟨a,e,⟨s,q.l⟩,r⟩⟩
 |tup m=>exact .inr ⟨x,T,_,_,E,h1,λv n P=>let⟨a,s,e,q,r⟩:=u v n P;⟨a,e,⟨s,q.t⟩,r⟩⟩
 |_=>cases y
end
noncomputable def oy(tg:Tg)(fb:FS):List D->FS
 |[],δ=>J<|.nx δ
 |d::ds,δ=>(tg d δ).bind λδ1=>(fb δ1).bind λo=>match o with
  | .nx a=>oy tg fb ds a
  | .ct a=>oy tg fb ds a
  | .bk a=>J<|.nx a
  | .rt r a=>J<|.rt r a
noncomputable def tu(b:Fi)(c:Tg)(a:FS):FS:=λδ=>(b δ).bind λp=>oy c a p.1 p.2
section
variable {X:Cx}{A:kK}{L:LL}{l:Hp}{g iter:iK}{c:List bn}{j:Fi}{t:Tg}{f:FS}{h:bu}
def Q9(hp:fg (ai X.prog X.w) X.A X.env X.xe)(hc:X.calm=I)(hi:MV X (λ_=>False) g iter j)(hg:MW X A g t)(G:Iv X A L l c f)(hs: ∀x,ax iter X.env x=pure x):
  Nh X A L l (.For g iter c [] h) (tu j t f):=PS.imp' (UW hp hc hi hg G hs) λD M H hw=>by
 obtain⟨δ,T,R,E,ig,e,k⟩:=hw;obtain⟨⟨u,q⟩,h1,e⟩:=iC e;refine⟨δ,T,u,q,E,h1,λJ Y K1 E1 ok=>?_⟩;have V:SK A M δ H M q Y:=K1.sk;refine⟨λi m s C'=>m=A0 u-i/\i<=A0 u/\ ∃p,SK A M q Y s p C'/\ER X.K C' T s p/\oy t f (u.drop i) p=A7 R,⟨A0 u,by simp,lX _,q,.refl,E1,by simpa using e⟩,?_⟩;rintro i m O H2 ⟨rfl,hle,I',S2,N,e2⟩;have aI: ∀a o,Y a=A7 o-> ¬NK (λ_=>False) T M q a->H2 a=A7 o:=λa o ea n=>S2.kp a o ea λ⟨i,d,z⟩=>n<|.inl ⟨i,id,d,z⟩;by_cases Z:i<A0 u
 .refine .inr ?_;have hd:u[i]?=A7 u[i]:=jx Z;obtain⟨go,yl⟩:=ok.go i _ H2 hd aI;rw[yw Z] at e2;obtain⟨S,h3,e3⟩:=iC e2;obtain⟨o,h4,W⟩:=iC e3;refine⟨go,λs C'=> ∃p,SK A M q Y s p C'/\ER X.K C' T s p/\oy t f (u.drop<|i+1) p=A7 R,λs C' ⟨p,q1,q2,q3⟩=>⟨A0 u-(i+1),by omega,rfl,Z,p,q1,q2,q3⟩,λx C' hy=>?_⟩;obtain⟨ext,rep⟩:=yl x C' hy;have eJ:ER X.K C' T O I':=N.mono (λb ob eb _=>ext b ob eb) (λ_ _ z=>z) λa z=>(N.dom a z).up<|ext a;have iu:SK A M q Y O I' C':=S2.trans (Cj.ext ext).sk;have rx:=rep (λa=>AZ O I' a\/T a) (λb G z=>z.elim (λz=>(S2.ow b z).elim bf λz=>absurd z G) bh) λb G z=>z.elim (λz=>N.KI z G) λz=>(N.dom b z).ne G;refine⟨I',T,u[i],S,eJ,rx,h3,λσ3 S3 E3=>?_⟩;have P:=iu.trans S3;refine⟨S,T,o,E3,(ig.step V).step P,h4,?_⟩
  cases o with
  |nx y=>exact λB F Q U=>⟨y,P.trans Q,U,W⟩
  |ct y=>exact λB F Q U=>⟨y,P.trans Q,U,W⟩
  |bk y=>cases W;exact λB F Q U=>k B F (V.trans<|P.trans Q) U
  |rt r y=>cases W;exact λv B F Q R4=>k v B F (V.trans<|P.trans Q) R4
 .refine .inl ⟨ok.stop i H2 (by omega) aI,?_⟩;rw[As<|by omega] at e2;cases e2;exact k O H2 (V.trans S2) N
end
noncomputable def nZ(b:FT)(a:FS):Nat->FS
 |0,_=>C
 |n+1,c=>(b c).bind λp=>if p.1=I then(a p.2).bind λo=>(match o with
   | .nx δ2=>nZ b a n δ2
   | .ct δ2=>nZ b a n δ2
   | .bk δ2=>J<|.nx δ2
   | .rt r δ2=>J<|.rt r δ2) else J (.nx p.2)
noncomputable def zM(f g:FO):Fi:=λδ=>(kO [f,g] δ).bind λp=>match uZ p.2 p.1 with
 |some [.int i,.int j]=>if -(2^62)<=i/\i<2^62/\ -(2^62)<=j/\j<2^62 then J (jD i (j-i).toNat,p.2) else C
 |_=>C
section
variable {X:Cx}{A:kK}{L:LL}{s:Hp}{B:SB}{t e c a b:iK}{d:List bn}{f:FT}{g:FS}{x u:FO}{l p:bu}
def adx{n:Nat}(hp:fg (ai X.prog X.w) X.A X.env X.xe)(hc:Oc X c f)(hb:Iv X A L s d g):Nh X A L s (.While c d [] l) (nZ f g n):=PS.imp' (aeB hp hc hb) λD F H hw=>by
 obtain⟨Y,T,J,E,ig,e,k⟩:=hw;refine⟨λm i I=> ∃h,SK A F Y H i h I/\ER X.K I T i h/\nZ f g m h=A7 J,⟨n,Y,.refl,E,e⟩,?_⟩;rintro m M H2 ⟨δ2,S2,E2,e2⟩
 cases m with
 |zero=>cases e2
 |succ m=>
  obtain⟨⟨S,C⟩,Z,N⟩:=iC e2;refine⟨δ2,T,S,C,E2,Z,λR V P=>?_⟩;have O:SK A F Y H M C R:=S2.trans V.sk
  cases S with
  |false=>rw[jc ki] at N;cases N;exact VD<|k M R O P
  |true=>
   rw[iQ AU] at N;obtain⟨o,h4,U⟩:=iC N;refine VC ⟨λi I=> ∃h,SK A F Y H i h I/\ER X.K I T i h/\nZ f g m h=A7 J,λi I q=>⟨m,rH _,q⟩,C,T,o,P,ig.step O,h4,?_⟩
   cases o with
   |nx j=>exact λy G z Q=>⟨j,O.trans z,Q,U⟩
   |ct j=>exact λy G z Q=>⟨j,O.trans z,Q,U⟩
   |bk j=>cases U;exact λy G z Q=>k y G (O.trans z) Q
   |rt r j=>cases U;exact λv y G z W=>k v y G (O.trans z) W
def uI{K:jb}{T v:BL}{E:L2.St}{Q m:Dn}{U r:Hp}{os:List Cm}{k:List V}{n:List D}(B:Ops K T E Q U os k m r v)(h:uZ m os=J n){j:Nat}{i:Int}(hd:n[j]?=J (.int i)):k[j]?=J (.int i):=by
 obtain⟨h1,w⟩:=pR h;obtain⟨o,q,y⟩:=w j _ hd;have z:j<(A0 k):=by have:=(uD.mp q).1;have:=B.len;lia
 have hv:k[j]?=J k[j]:=jx z;have:=jr<|B.view q hv y;rw[hv,this]
end
abbrev Cn:=List (D×Bool)->Option ((D×Bool)×Dn)
def Ko(K:jb)(e:Cn):Sp:=λd U Q _=> ∃T a r b,ER K U T (d.map J) (a.map J)/\e a=J (r,b)/\ ∀v c,CK K T (d.map J) (a.map J) U r b v c->Q v c
noncomputable def jw(args:List (D×Bool))(δ:Dn):Dn:=args.zipIdx.map λp=>if p.1.2=I then(δ[p.2]?).join else J p.1
noncomputable def Cg(n np:Nat)(asg:kb)(f:FS):Cn:=λa=>
 if (A0 a)=np/\np<=n/\(a.zipIdx.all λp=>!(p.1.2&&asg.contains p.2))=I then
  match f (a.map J++ac (n-np) C) with
  |some (.rt r δ)=>J (r,jw a δ)
  |some (.nx δ)=>J ((.B7,Y),jw a δ)
  |_=>C
 else C
def aeo(a:List (D×Bool))(b:Dn)(i:Nat):(jw a b)[i]?=a[i]?.map λx=>if x.2=I then(b[i]?).join else J x:=by
 unfold jw;rw[kZ,Me]
 cases a[i]? with
 |none=>rfl
 |some x=>simp
def rl(h:x.join=J p):x=J (J p):=by
 cases x with
 |none=>cases h
 |some y=>exact ox J h
section
variable {K:jb}{T:BL}{A:kK}{k:List V}{f:List (D×Bool)}{H q:Hp}{m:Nat}{l:L2.St}{g:Dn}{r:D×Bool}{v:V}
def E5{b:Type}{a:List b}{m i:Nat}{y:b}:(a.map J++ac m C)[i]?=J (J y)↔a[i]?=J y:=by
 by_cases h:i<A0 a
 .rw[sP<|by simpa using h,kZ];cases a[i]?<;>simp
 .rw[qN<|by simpa using h];constructor
  .intro e;rw[rP] at e;split at e<;>cases e
  .intro e;exact absurd (uD.mp e).1 h
def uU{b:Type}{a:List b}{i:Nat}{y:b}:(a.map J)[i]?=J (J y)↔a[i]?=J y:=by rw[kZ];cases a[i]?<;>simp
def Ly{i:Nat}{a:iE}:BW (k.map J++ac m C) (f.map J++ac m C) i a↔BW (k.map J) (f.map J) i a:=by unfold BW;simp only[E5,uU]
def FG:AZ σ b a↔ ∃i,BW σ b i a:=Iff.rfl
def NQ:AZ (k.map J++ac m C) (f.map J++ac m C) a↔AZ (k.map J) (f.map J) a:=by rw[FG,FG];exact exists_congr λi=>Ly
def ER.pad(E:ER K H T (k.map J) (f.map J)):ER K H T (k.map J++ac m C) (f.map J++ac m C):=by
 have len:(A0 k)=(A0 f):=by simpa using E.len
 refine⟨by simp[len],λi d h=>?_,λi d h=>?_,λi j d e a h1 o p s=>?_,λa z=>E.nT a<|NQ.mp z,E.dom⟩
 .obtain⟨w,c,n⟩:=E.val i d<|uU.mpr<|E5.mp h;exact⟨w,E5.mpr<|uU.mp c,Rep.mono (λ_ _ e _=>e) (λb _ z=>z.imp NQ.mp id) n⟩
 .obtain⟨w,c,n⟩:=E.own i d<|uU.mpr<|E5.mp h;exact⟨w,E5.mpr<|uU.mp c,n.mono (λ_ _ e _=>e) (λb _ z=>z.imp NQ.mp id) λ_ e=>e⟩
 .exact E.inj i j d e a (uU.mpr<|E5.mp h1) (uU.mpr<|E5.mp o) (uU.mpr<|E5.mp p) (uU.mpr<|E5.mp s)
def Jo{J:BL}(E:ER K H T (k.map A7) (f.map A7))(S:SK A (k.map A7++ac m AX) (f.map A7++ac m AX) H l g q)(hA: ∀(i:Nat) d,f[i]?=A7 (d,B8)-> ¬A i)
  (Q:ER K q J l g)(hT: ∀b,H b≠AX->J b->T b):ER K q J (k.map A7) (jw f g)/\(∀b,AZ (k.map A7) (jw f g) b->AZ l g b)/\Cj (k.map A7) (f.map A7) H (jw f g) q:=by
 have len:(A0 k)=(A0 f):=by simpa using E.len
 have s: ∀(i:Nat) d w,f[i]?=A7 (d,B8)->k[i]?=A7 w->l[i]?=A7 (A7 w):=λi d w h1 p=>by rw[S.as i<|hA i d h1];exact E5.mpr p
 have t: ∀(i:Nat) d b,(jw f g)[i]?=A7 (A7 (d,b))->(∃e,f[i]?=A7 (e,B8)/\g[i]?=A7 (A7 (d,b)))\/(b=B6/\f[i]?=A7 (d,B6)):=λi d b h=>by
  rw[aeo] at h;obtain⟨⟨e,c⟩,h1,p⟩:=jB h
  cases c with
  |true=>left;exact⟨e,h1,rl<|by simpa using p⟩
  |false=>
   right;have:A7 (e,B6)=A7 (d,b):=by simpa using p
   cases this;exact⟨rfl,h1⟩
 have B: ∀i a,BW (k.map A7) (jw f g) i a->BW l g i a/\BW (k.map A7) (f.map A7) i a:=λi a a'=>by
  obtain⟨d,h1,p⟩:=a'
  rcases t i d B8 h1 with⟨e,u,x⟩|⟨z,_⟩
  .exact⟨⟨d,x,s i e _ u (uU.mp p)⟩,⟨e,uU.mpr u,p⟩⟩
  .cases z
 have G: ∀b,AZ (k.map A7) (jw f g) b->AZ l g b:=λb a'=>by
  obtain⟨i,d,h1,p⟩:=a'
  obtain⟨⟨e,I,L⟩,_⟩:=B i b ⟨d,h1,p⟩;exact⟨i,e,I,L⟩
 have C: ∀b,AZ (k.map A7) (jw f g) b->AZ (k.map A7) (f.map A7) b:=λb a'=>by
  obtain⟨i,d,h1,p⟩:=a'
  obtain⟨_,⟨e,I,L⟩⟩:=B i b ⟨d,h1,p⟩;exact⟨i,e,I,L⟩
 have U: ∀a o,H a=A7 o-> ¬AZ (k.map A7) (f.map A7) a->q a=A7 o:=λa o e n=>S.kp a o e λz=>n<|NQ.mp z;refine⟨⟨?_,λi d h=>?_,λi d h=>?_,λi j d e a h1 p u x=>?_,λa z=>Q.nT a<|G a z,Q.dom⟩,G,⟨U,λi a z=>(B i a z).2,S.dm⟩⟩
 .simp[jw,len]
 .have M:i<(A0 k):=by
   have:=(uD.mp h).1;simp[jw] at this
   lia
  have hv:k[i]?=A7 k[i]:=jx M;rcases t i d B6 h with⟨e,u,x⟩|⟨_,u⟩
  .obtain⟨w,y,O⟩:=Q.val i d x;rw[s i e _ u hv] at y;cases y;exact⟨_,uU.mpr hv,Rep.mono (λ_ _ e _=>e) (λb _ z=>z.imp (G b) id) O⟩
  .obtain⟨w,y,O⟩:=E.val i d<|uU.mpr u;exact⟨w,y,Rep.mono (λb o e n=>U b o e λz=>n<|.inl z) (λb F z=>z.imp (C b)<|hT b F) O⟩
 .have M:i<(A0 k):=by
   have:=(uD.mp h).1;simp[jw] at this
   lia
  have hv:k[i]?=A7 k[i]:=jx M;rcases t i d B8 h with⟨e,u,x⟩|⟨z,_⟩
  .obtain⟨w,y,O⟩:=Q.own i d x;rw[s i e _ u hv] at y;have N:k[i]=V.ref w:=by simpa using y
   exact⟨w,by rw[<-N];exact uU.mpr hv,O.mono (λ_ _ e _=>e) (λb _ z=>z.imp (G b) id) λ_ e=>e⟩
  .cases z
 .obtain⟨_,⟨Y,I,L⟩⟩:=B i a ⟨d,h1,u⟩;obtain⟨_,⟨D,P,R⟩⟩:=B j a ⟨e,p,x⟩;exact E.inj i j Y D a I P L R
def rq(E:ER K H T (k.map J) (f.map J))(S:SK A (k.map J++ac m C) (f.map J++ac m C) H l g q)(j: ∀(i:Nat) d,f[i]?=J (d,I)-> ¬A i)
  (R:RV K T H r l g v q):CK K T (k.map J) (f.map J) H r (jw f g) v q:=by
 obtain⟨d,b⟩:=r
 cases b with
 |false=>obtain⟨a,s⟩:=R;obtain⟨c,ow,h⟩:=Jo E S j a λ_ _ z=>z;exact⟨h,c,Rep.mono (λ_ _ e _=>e) (λb _ z=>z.imp (ow b) id) s⟩
 |true=>obtain⟨p,rfl,n,a,ok⟩:=R;obtain⟨c,ow,h⟩:=Jo E S j a (λb o z=>z.elim id λz=>by subst z;exact absurd n o);exact⟨h,p,rfl,n,c,ok.mono (λ_ _ e _=>e) (λb _ z=>z.imp (ow b) id) λ_ e=>e⟩
end
section
variable {P:ja}{w:iW}{K:jb}{g:ly}{base:iX}{N:jh}{m:Nat}{b:kb}{fs:FS}{c:List V}{H:Hp}{Q:VK}{E:XK}
def IT(h:Ko K (Cg (A0 N) m b fs) c H Q E):(A0 c)=m:=by
 obtain⟨T,a,r,d,E0,e,_⟩:=h;unfold Cg at e;split at e
 .rename_i f;have:=E0.len;simp at this;rw[this];exact f.1
 .cases e
def MY(h:Ko K (Cg (A0 N) m b fs) c H Q E): ∃L:LL,(∀i,L.p i->i<m)/\tS K (λi=>i∈b) L H fs {nx:=λ_ l=>Q .B7 l,rt:=Q} (L2.nN N c) H:=by
 obtain⟨T,f,r,y,E0,e,x⟩:=h;unfold Cg at e;split at e
 .rename_i O;obtain⟨h1,D,I⟩:=O;have n:(A0 c)=(A0 f):=by simpa using E0.len
  refine⟨⟨λi=> ∃d,f[i]?=A7 (d,B8),AX⟩,λi ⟨d,hd⟩=>by have:=(uD.mp hd).1;lia,?_⟩;have U:L2.nN N c=c.map A7++ac (A0 N-m) AX:=by unfold L2.nN;rw[n,h1]
  have s: ∀(i:Nat) d,f[i]?=A7 (d,B8)-> ¬(i∈b):=λi d hd J=>by
   have M:(f.zipIdx)[i]?=A7 ((d,B8),i):=by rw[Me,hd];simp
   have:=lY.mp I _ (mS M);simp at this;exact this J
  rw[U]
  have C:FI (λi=>i∈b) ⟨λi=> ∃d,f[i]?=A7 (d,B8),AX⟩ H (c.map A7++ac (A0 N-m) AX) (f.map A7++ac (A0 N-m) AX) H:=⟨λi a z=>by obtain⟨d,Y,_⟩:=Ly.mp z;exact .inl ⟨d,uU.mp Y⟩,λ_ z=>z,λj G ⟨d,hd⟩=>s j d hd G,λ_ h=>nomatch h⟩
  cases t:fs (f.map A7++ac (A0 N-m) AX) with
  |none=>rw[t] at e;cases e
  |some o=>
   rw[t] at e;refine⟨_,T,o,E0.pad,C,t,?_⟩
   cases o with
   |rt r1 k=>obtain⟨rfl,rfl⟩:=jd e;exact λv u l q B=>x v l<|rq E0 q s B
   |nx k=>obtain⟨rfl,rfl⟩:=jd e;exact λu l q A=>x .B7 l<|rq (r:=(.B7,B6)) E0 q s ⟨A,Rep.Ig⟩
   |bk k=>cases e
   |ct k=>cases e
 .cases e
def VM{x qual:aw}{st:bn}{f:iE}{j:mI}{e:jh}{k:Nat}(F:KY K x qual st f j)(S:AY N e (iI st))
  (o: ∀(d:iN) (A:iY) (a:List df) (s:iJ) (H:Hp) (E:XK) (L:LL),(∀i,L.p i->i<A0 e)->C2 k (A.deeper<|aR qual (iI st) s.heap.objs.size f d)->
   Iv (rn Im P w K g base N qual (iI st) f d A a s H E).Kh (λi=>i∈b) L H (lV st) fs):Eg P w K g base Im (k+1) f j e (Ko K<|Cg (A0 N) (A0 e) b fs):=
 F.ok S (λc H Q E h=>IT h) λd A a s H c Q E n h=>let⟨L,h1,l⟩:=MY h;⟨_,o d A a s H E L h1 n,l⟩
end
noncomputable def vT(a:Dn):Cm->Option (D×Bool)
 | .val r=>J (r.1,Y)
 | .slot i=>(a[i]?).join
noncomputable def km(δ:Dn):List Cm->Option (List<|D×Bool)
 |[]=>J []
 |o::os=>(vT δ o).bind λa=>(km δ os).bind λl=>J (a::l)
@[simp] def Yd(o:Cm)(a:D×Bool):List Nat:=match o with
 | .slot i=>if a.2=I then[i] else[]
 | .val _=>[]
noncomputable def jm:List Cm->List (D×Bool)->List Nat
 |[],_=>[]
 |_::_,[]=>[]
 |o::os,a::as=>Yd o a++jm os as
@[simp] def wb1(o:Cm)(a:D×Bool)(x:Sl)(b:Dn):Dn:=match o with
 | .slot i=>if a.2=I then b.set i x else b
 | .val _=>b
noncomputable def wb:List Cm->List (D×Bool)->Dn->Dn->Dn
 |[],_,_,δ=>δ
 |_::_,[],_,δ=>δ
 |_::_,_::_,[],δ=>δ
 |o::os,a::as,x::outs,δ=>wb os as outs<|wb1 o a x δ
noncomputable def jg(ev:Cn)(fs:List FO):F:=λδ=>(kO fs δ).bind λp=>(km p.2 p.1).bind λargs=>if(jm p.1 args).Nodup then(ev args).bind λq=>J (q.1,wb p.1 args q.2 p.2) else C
def qc{δ:Dn}: ∀{os:List Cm} {b:List (D×Bool)},km δ os=J b->A0 b=os.length/\ ∀(j:Nat) a,b[j]?=J a-> ∃o,os[j]?=J o/\vT δ o=J a:=by
 intro m
 induction m with
 |nil=>intro b h;cases h;exact⟨rfl,λj d h=>by simp at h⟩
 |cons o os k=>
  intro b h;unfold km at h;obtain⟨d,h1,h⟩:=iC h;obtain⟨l,f,h⟩:=iC h;cases h;obtain⟨g,i⟩:=k f;refine⟨by simp[g],λj e c=>?_⟩
  cases j with
  |zero=>simp at c;subst c;exact⟨o,rfl,h1⟩
  |succ j=>obtain⟨n,p,q⟩:=i j e (by simpa using c);exact⟨n,by simpa using p,q⟩
theorem uS: ∀{os:List Cm} {as:List (D×Bool)} {j i:Nat} {d:D},os[j]?=J (.slot i)->as[j]?=J (d,I)->i∈jm os as
 |[],_,_,_,_,h,_=>by simp at h
 |_::_,[],_,_,_,_,h=>by simp at h
 |o::os,(e,b)::as,0,i,d,h1,a=>by simp at h1 a;obtain⟨rfl,rfl⟩:=a;subst h1;simp[jm]
 |o::os,(e,b)::as,j+1,i,d,h1,a=>by
  have c:=uS (os:=os) (as:=as) (j:=j) (i:=i) (d:=d) (by simpa using h1) (by simpa using a)
  cases o with
  |val r=>simpa[jm] using c
  |slot k=>
   cases b with
   |true=>simp[jm,c]
   |false=>simpa[jm] using c
theorem CM: ∀{os:List Cm} {a:List (D×Bool)} {i:Nat},i∈jm os a-> ∃(j:Nat) (d:D),os[j]?=J (.slot i)/\a[j]?=J (d,I)
 |[],_,_,h=>by simp[jm] at h
 |o::_,[],_,h=>by cases o<;>simp[jm] at h
 |o::os,(e,b)::a,i,h=>by
  have c:i∈jm os a-> ∃(j:Nat) (d:D),(o::os)[j]?=J (.slot i)/\((e,b)::a)[j]?=J (d,I):=λh=>by obtain⟨j,d,h1,f⟩:=CM h;exact⟨j+1,d,by simpa using h1,by simpa using f⟩
  cases o with
  |val r=>exact c (by simpa[jm] using h)
  |slot k=>
   cases b with
   |true=>
    simp[jm] at h;rcases h with rfl|h
    .exact⟨0,e,rfl,rfl⟩
    .exact c h
   |false=>exact c (by simpa[jm] using h)
theorem CN: ∀{os:List Cm} {as:List (D×Bool)} {j k i:Nat} {d e:D},(jm os as).Nodup->os[j]?=J (.slot i)->as[j]?=J (d,I)->os[k]?=J (.slot i)->as[k]?=J (e,I)->j=k
 |[],_,_,_,_,_,_,_,h,_,_,_=>by simp at h
 |_::_,[],_,_,_,_,_,_,_,h,_,_=>by simp at h
 |o::os,(n,b)::as,j,k,i,d,e,a,h1,c,f,g=>by
  cases j with
  |zero=>
   cases k with
   |zero=>rfl
   |succ k=>simp at h1 c;obtain⟨rfl,rfl⟩:=c;subst h1;have:=uS (os:=os) (as:=as) (j:=k) (by simpa using f) (by simpa using g);simp[jm] at a;exact absurd this a.1
  |succ j=>
   cases k with
   |zero=>simp at f g;obtain⟨rfl,rfl⟩:=g;subst f;have:=uS (os:=os) (as:=as) (j:=j) (by simpa using h1) (by simpa using c);simp[jm] at a;exact absurd this a.1
   |succ k=>
    have l:(jm os as).Nodup:=by
     cases o with
     |val r=>simpa[jm] using a
     |slot m=>
      cases b with
      |true=>simp[jm] at a;exact a.2
      |false=>simpa[jm] using a
    have:=CN (os:=os) (as:=as) (j:=j) (k:=k) l (by simpa using h1) (by simpa using c) (by simpa using f) (by simpa using g)
    lia
theorem AB: ∀{os:List Cm} {c:List (D×Bool)} {a δ:Dn} {i:Nat},i∉jm os c->(wb os c a δ)[i]?=δ[i]?
 |[],_,_,_,_,_=>by simp[wb]
 |o::_,[],_,_,_,_=>by cases o<;>simp[wb]
 |o::os,(e,b)::c,[],_,_,_=>by cases o<;>cases b<;>simp[wb]
 |o::os,(e,b)::c,x::a,δ,i,h=>by
  cases o with
  |val r=>simp only[wb];exact AB (by simpa[jm] using h)
  |slot k=>
   cases b with
   |true=>simp[jm] at h;rw[wb,AB h.2];exact nK<|nL h.1
   |false=>simp only[wb];exact AB (by simpa[jm] using h)
theorem AD: ∀{os:List Cm} {c:List (D×Bool)} {a δ:Dn},(wb os c a δ).length=A0 δ
 |[],_,_,_=>by simp[wb]
 |o::_,[],_,_=>by cases o<;>simp[wb]
 |o::os,(e,b)::c,[],_=>by cases o<;>cases b<;>simp[wb]
 |o::os,(e,b)::c,x::a,δ=>by
  cases o with
  |val r=>simp only[wb];exact AD
  |slot k=>
   cases b with
   |true=>simp only[wb];rw[AD];exact vB
   |false=>simp only[wb];exact AD
theorem ID: ∀{os:List Cm} {c:List (D×Bool)} {a δ:Dn} {i j:Nat} {d:D} {x:Sl},(jm os c).Nodup->os[j]?=J (.slot i)->c[j]?=J (d,I)->a[j]?=J x->i<A0 δ->(wb os c a δ)[i]?=J x
 |[],_,_,_,_,_,_,_,_,h,_,_,_=>by simp at h
 |o::_,[],_,_,_,_,_,_,_,_,h,_,_=>by simp at h
 |o::os,(e,b)::c,[],_,_,_,_,_,_,_,_,h,_=>by simp at h
 |o::os,(e,b)::c,y::a,δ,i,0,d,x,f,h1,g,l,n=>by simp at h1 g l;obtain⟨rfl,rfl⟩:=g;subst h1;subst l;simp[jm] at f;rw[wb,AB f.1];exact oX n
 |o::os,(e,b)::c,y::a,δ,i,j+1,d,x,f,h1,g,l,n=>by
  have p:(jm os c).Nodup:=by
   cases o with
   |val r=>simpa[jm] using f
   |slot m=>
    cases b with
    |true=>simp[jm] at f;exact f.2
    |false=>simpa[jm] using f
  cases o with
  |val r=>simp only[wb];exact ID p (by simpa using h1) (by simpa using g) (by simpa using l) n
  |slot k=>
   cases b with
   |true=>simp only[wb];exact ID p (by simpa using h1) (by simpa using g) (by simpa using l) (by show i<(δ.set k y).length;rw[vB];exact n)
   |false=>simp only[wb];exact ID p (by simpa using h1) (by simpa using g) (by simpa using l) n
section
variable {K:jb}{T u:BL}{l:L2.St}{δ f:Dn}{H m s:Hp}{os:List Cm}{vs:List V}{c:List (D×Bool)}{g:Dn}{r:D×Bool}{v:V}
noncomputable def Tc(T:BL)(l:L2.St)(f:Dn)(vs:List V)(c:List (D×Bool)):BL:=λa=>T a\/(AZ l f a/\ ¬AZ (vs.map J) (c.map J) a)
def xw(B:Ops K T l δ H os vs f m u)(p:km f os=J c){j:Nat}{d:D}(h:c[j]?=J (d,I)): ∃(i:Nat) (a:iE),os[j]?=J (.slot i)/\f[i]?=J (J (d,I))/\vs[j]?=J (.ref a)/\l[i]?=J (J<|.ref a):=by
 obtain⟨w,q⟩:=qc p;obtain⟨o,h1,b⟩:=q j _ h
 cases o with
 |val r=>cases b
 |slot i=>
  have e:f[i]?=J (J (d,I)):=rl b;have t:j<(A0 vs):=by have:=(uD.mp h1).1;have:=B.len;lia
  have hv:vs[j]?=J vs[j]:=jx t;have k:=B.slt j i _ h1 hv;obtain⟨a,n,_⟩:=B.er.own i d e;rw[k] at n;have:vs[j]=V.ref a:=by simpa using n
  exact⟨i,a,h1,e,by rw[hv,this],by rw[k,this]⟩
def FW(B:Ops K T l δ H os vs f m u)(n:km f os=J c){j:Nat}{a:iE}(h:BW (vs.map J) (c.map J) j a): ∃(i:Nat) (d:D),os[j]?=J (.slot i)/\c[j]?=J (d,I)/\BW l f i a:=by obtain⟨d,h1,k⟩:=h;have e:=uU.mp h1;obtain⟨i,b,o,p,q,t⟩:=xw B n e;have:=uU.mp k;rw[q] at this;cases this;exact⟨i,d,o,e,d,p,t⟩
def JE(B:Ops K T l δ H os vs f m u)(k:km f os=J c)(h:AZ (vs.map J) (c.map J) a):AZ l f a:=by obtain⟨j,d,h1,b⟩:=h;obtain⟨i,_,_,_,e,n,o⟩:=FW B k ⟨d,h1,b⟩;exact⟨i,e,n,o⟩
def Af(E:ER K H T l δ)(B:Ops K T l δ H os vs f m u)(n:km f os=A7 c)(nd:(jm os c).Nodup):ER K m (Tc T l f vs c) (vs.map A7) (c.map A7):=by
 obtain⟨D,U⟩:=qc n
 have sub: ∀b,(AZ (vs.map A7) (c.map A7) b\/Tc T l f vs c b)->AZ l f b\/T b:=λb z=>by
  rcases z with z|z|z
  .exact .inl (JE B n z)
  .exact .inr z
  .exact .inl z.1
 refine⟨by simp[D,B.len],λj d h=>?_,λj d h=>?_,λj k d e a h1 p x y=>?_,λa z t=>?_,λa z=>?_⟩
 .have h:=uU.mp h;obtain⟨o,h1,p⟩:=U j _ h;have Y:j<(A0 vs):=by have:=(uD.mp h1).1;have:=B.len;lia
  have hv:vs[j]?=A7 vs[j]:=jx Y;refine⟨_,uU.mpr hv,?_⟩
  cases o with
  |val q=>
   have:q.1=d:=by cases p;rfl
   subst this;exact Rep.mono (λ_ _ e _=>e) (λb _ z=>sub b z)<|B.rep E h1 hv
  |slot i=>
   have x:f[i]?=A7 (A7 (d,B6)):=rl p;have y:=B.slt j i _ h1 hv;obtain⟨w,Q,P⟩:=B.er.val i d x;rw[y] at Q;have:vs[j]=w:=by simpa using Q
   rw[this];exact Rep.mono (λ_ _ e _=>e) (λb _ z=>(sub b z).imp id<|B.tt b) P
 .obtain⟨i,a,O,A,C,I⟩:=xw B n<|uU.mp h;obtain⟨b,L,N⟩:=B.er.own i d A;rw[I] at L;cases L;exact⟨a,uU.mpr C,N.mono (λ_ _ e _=>e) (λb _ z=>(sub b z).imp id<|B.tt b) λ_ e=>e⟩
 .obtain⟨i,R,O,A,G,C,I⟩:=FW B n ⟨d,h1,x⟩;obtain⟨F,S,g1,g2,J,g3,M⟩:=FW B n ⟨e,p,y⟩;have:=B.er.inj i F G J a C g3 I M;subst this;exact CN nd O A g1 g2
 .rcases t with t|t
  .exact B.er.nT a (JE B n z) (B.tt a t)
  .exact t.2 z
 .rcases z with z|z
  .exact B.er.dom a (B.tt a z)
  .exact B.er.Kp z.1
def J1{T' Y:BL}(E:ER K H T l δ)(B:Ops K T l δ H os vs f m u)(M:km f os=A7 c)(nd:(jm os c).Nodup)(kC:Cj (vs.map A7) (c.map A7) m g s)
  (U:ER K s Y (vs.map A7) g)(t1: ∀b,Tc T l f vs c b->Y b)(t2: ∀b,T' b->Y b)(t3: ∀b,m b≠C->T' b->T b):
  ER K s T' l (wb os c g f)/\(∀b,AZ l (wb os c g f) b->AZ (vs.map A7) g b\/Tc T l f vs c b)/\Cj l f m (wb os c g f) s:=by
 obtain⟨hl,hg⟩:=qc M;have ol:(A0 g)=(A0 c):=by have:=U.len;have:=B.len;simp at*;lia
 have R: ∀(i:Nat) (x:Sl),(wb os c g f)[i]?=A7 x->(i∉jm os c/\f[i]?=A7 x)\/ ∃(j:Nat) (d:D),os[j]?=A7 (.slot i)/\c[j]?=A7 (d,B8)/\g[j]?=A7 x:=λi x h=>by
  by_cases A:i∈jm os c
  .right;obtain⟨j,d,h1,p⟩:=CM A;have hj:j<(A0 g):=by have:=(uD.mp p).1;lia
   have X:g[j]?=A7 g[j]:=jx hj;have hi:i<(A0 f):=by have:=(uD.mp h).1;rwa [AD] at this
   have:=ID (δ:=f) nd h1 p X hi;rw[h] at this;cases this;exact⟨j,d,h1,p,X⟩
  .left;rw[AB A] at h;exact⟨A,h⟩
 have I: ∀{i:Nat} {a:iE},i∉jm os c->BW l f i a-> ¬AZ (vs.map A7) (c.map A7) a:=λ{i a} A ⟨e,q,C'⟩ ⟨j,d,h1,p⟩=>by obtain⟨P,d2,g1,g2,S,g3,g4⟩:=FW B M ⟨d,h1,p⟩;have:=B.er.inj i P e S a q g3 C' g4;subst this;exact A<|uS g1 g2
 have N: ∀i a,BW l (wb os c g f) i a->BW l f i a/\(AZ (vs.map A7) g a\/Tc T l f vs c a):=λi a a'=>by
  obtain⟨d,h1,p⟩:=a'
  rcases R i _ h1 with⟨A,y⟩|⟨j,e,g1,g2,g3⟩
  .exact⟨⟨d,y,p⟩,.inr<|.inr ⟨⟨i,d,y,p⟩,I A ⟨d,y,p⟩⟩⟩
  .obtain⟨P,b,q,C',G,L⟩:=xw B M g2;rw[g1] at q;cases q;rw[p] at L;cases L;exact⟨⟨e,C',p⟩,.inl ⟨j,d,g3,uU.mpr G⟩⟩
 have Z: ∀b,AZ l (wb os c g f) b->AZ (vs.map A7) g b\/Tc T l f vs c b:=λb ⟨i,d,h1,p⟩=>(N i b ⟨d,h1,p⟩).2
 have F: ∀b,AZ l (wb os c g f) b->AZ l f b:=λb a'=>by
  obtain⟨i,d,h1,p⟩:=a'
  obtain⟨⟨e,q,C'⟩,_⟩:=N i b ⟨d,h1,p⟩;exact⟨i,e,q,C'⟩
 have W: ∀a o,m a=A7 o-> ¬AZ l f a->s a=A7 o:=λa o e n=>kC.kp a o e λz=>n<|JE B M z
 have O: ∀b,(AZ l (wb os c g f) b\/T' b)->AZ (vs.map A7) g b\/Y b:=λb z=>by
  rcases z with z|z
  .exact(Z b z).imp id (t1 b)
  .exact .inr (t2 b z)
 refine⟨⟨by rw[AD];exact B.er.len,λi d h=>?_,λi d h=>?_,λi k d e a h1 p y h4=>?_,λa z t=>?_,λa z=>U.dom a<|t2 a z⟩,Z,⟨W,λi a z=>(N i a z).1,kC.dm⟩⟩
 .rcases R i _ h with⟨A,y⟩|⟨j,e,g1,g2,g3⟩
  .obtain⟨w,Q,J⟩:=B.er.val i d y;exact⟨w,Q,Rep.mono (λb o e n=>W b o e λz=>n<|.inl z) (λb V z=>z.imp (F b) λz=>B.tt b<|t3 b V z) J⟩
  .obtain⟨P,b,q,C',G,L⟩:=xw B M g2;rw[g1] at q;cases q;obtain⟨w,Q,J⟩:=U.val j d g3;have:=uU.mp Q;rw[G] at this;cases this;exact⟨_,L,Rep.mono (λ_ _ e _=>e) (λb _ z=>O b z) J⟩
 .rcases R i _ h with⟨A,y⟩|⟨j,e,g1,g2,g3⟩
  .obtain⟨a,Q,J⟩:=B.er.own i d y;exact⟨a,Q,J.mono (λb o e n=>W b o e λz=>n<|.inl z) (λb V z=>z.imp (F b) λz=>B.tt b<|t3 b V z) λo e=>kC.kp a o e<|I A ⟨d,y,Q⟩⟩
  .obtain⟨P,b,q,C',G,L⟩:=xw B M g2;rw[g1] at q;cases q;obtain⟨a,Q,J⟩:=U.own j d g3;have:=uU.mp Q;rw[G] at this;cases this;exact⟨_,L,J.mono (λ_ _ e _=>e) (λb _ z=>O b z) λ_ e=>e⟩
 .obtain⟨⟨e1,q,C'⟩,_⟩:=N i a ⟨d,h1,y⟩;obtain⟨⟨S,G,L⟩,_⟩:=N k a ⟨e,p,h4⟩;exact B.er.inj i k e1 S a q G C' L
 .exact B.er.nT a (F a z) (B.tt a<|t3 a (B.er.KI<|F a z) t)
def xZ(E:ER K H T l δ)(B:Ops K T l δ H os vs f m u)(n:km f os=J c)(q:(jm os c).Nodup)(P:CK K (Tc T l f vs c) (vs.map J) (c.map J) m r g v s):
  CK K T l δ H r (wb os c g f) v s:=by
 obtain⟨d,b⟩:=r
 cases b with
 |false=>
  obtain⟨k,h,x⟩:=P;obtain⟨i,ow,j⟩:=J1 (T':=T) E B n q k h (λ_ z=>z) (λ_ z=> .inl z) λ_ _ z=>z;refine⟨B.keep.trans j,i,Rep.mono (λ_ _ e _=>e) (λb _ z=>?_) x⟩;rcases z with z|z
  .exact ow b z
  .exact .inr (.inl z)
 |true=>
  obtain⟨k,p,rfl,o,h,ok⟩:=P;obtain⟨i,ow,j⟩:=J1 (T':=λa=>T a\/a=p) E B n q k h (λ_ z=> .inl z) (λb z=>z.elim (λz=> .inl (.inl z)) .inr) (λb w z=>z.elim id λz=>by subst z;exact absurd o w);refine⟨B.keep.trans j,p,rfl,?_,i,ok.mono (λ_ _ e _=>e) (λb _ z=>?_) λ_ e=>e⟩
  .cases t:H p with
   |none=>rfl
   |some y=>exact absurd o<|B.keep.dm p (by rw[t];simp)
  .rcases z with z|z|z
   .exact(ow b z).imp id .inl
   .exact .inr (.inl<|.inl z)
   .exact .inr (.inr z)
end
section
variable {X:Cx}{e:iK}{b:kD}{fs:List FO}{a p:bu}{k:Nat}{f:iE}{g:mI}{d:jh}{c:Cn}{x:aw}
def QY(F:Eg X.prog X.w X.K X.mg X.base Im k f g d (Ko X.K c))(L:C2 k X.A)(C:Gl X x)(I:X.mg x=A7 (.ref f))(hk:bG X.K (.ref f)=B8)(y:Binds X.K g d [])
  (u:PA X (e::b) (tA X.K fs))(G:(x==("__debug__":aw))=B6)(z:ag (e::b) X.env=(B6,aM e X.env)::ag b X.env)(s:(aQ a<|ag b X.env).any (·.1)=B6):
  PX X (.Call (.Name x p) (e::b) [] a) (jg c fs):=PX.imp (Jm F L C I hk y (.nil) XZ u G z s) λN H Q O=>by
 obtain⟨J,T,Y,M,E,e,k⟩:=O;obtain⟨⟨os,j⟩,h1,e⟩:=iC e;obtain⟨h,l,e⟩:=iC e;dsimp only at e;split at e
 .rename_i m;obtain⟨⟨r,i⟩,t,e⟩:=iC e;obtain⟨rfl,rfl⟩:=jd e;refine⟨J,T,os,j,E,h1,λn q U B=>?_⟩;show Ko X.K c (n++[]) q Q E0;rw[yD];exact⟨Tc T N j n h,h,r,i,Af E B l m,t,λv o P=>k v o<|xZ E B l m P⟩
 .cases e
end
structure Kw(A:kK)(d:iE)(σ:L2.St)(δ:Dn)(H:Hp)(σ':L2.St)(δ':Dn)(H':Hp):Prop where
 kp: ∀a o,H a=A7 o-> ¬AZ σ δ a->a≠d->H' a=A7 o
 owi: ∀i a,BW σ' δ' i a->BW σ δ i a\/H a=AX\/(A i/\ ∃j,A j/\BW σ δ j a)
 dm: ∀a,H a≠AX->H' a≠AX
 as: ∀i,¬A i->σ'[i]?=σ[i]?
section
variable {A:kK}{d:iE}{c b f:L2.St}{δ δ1 δ2:Dn}{H g l:Hp}
def SK.N6(k:SK A c δ H b δ1 g):Kw A d c δ H b δ1 g:=⟨λa o e n _=>k.kp a o e n,k.owi,k.dm,k.as⟩
def Kw.ow(k:Kw A d c δ H b δ1 g)(a:iE)(h:AZ b δ1 a):AZ c δ a\/H a=C:=by
 obtain⟨i,e,h1,o⟩:=h;rcases k.owi i a ⟨e,h1,o⟩ with⟨e,m,n⟩|z|⟨_,j,_,e,m,n⟩
 .exact .inl ⟨i,e,m,n⟩
 .exact .inr z
 .exact .inl ⟨j,e,m,n⟩
def Kw.trans(x:Kw A d c δ H b δ1 g)(y:Kw A d b δ1 g f δ2 l):Kw A d c δ H f δ2 l where
 kp:=λa o e n p=>y.kp a o (x.kp a o e n p) (λz=>(x.ow a z).elim n λz=>by rw[z] at e;cases e) p
 owi:=λi a z=>(y.owi i a z).elim (x.owi i a) λz=>z.elim (λz=> .inr (.inl (by
  cases h:H a with
  |none=>rfl
  |some o=>exact absurd z<|x.dm a<|by rw[h];simp))) λ⟨m,j,q,z⟩=>(x.owi j a z).elim (λz=> .inr (.inr ⟨m,j,q,z⟩)) λz=>z.elim (λz=> .inr (.inl z)) λ⟨_,k,ak,z⟩=> .inr (.inr ⟨m,k,ak,z⟩)
 dm:=λa z=>y.dm a<|x.dm a z
 as:=λi h=>(y.as i h).trans<|x.as i h
end
noncomputable def xg(p:(Int->Bool)×Nat)(d:D):(Int->Bool)×Nat:=match d with
 | .int k=>(λa=>p.1 a||decide (a=k),if p.1 k then p.2 else p.2+1)
 |_=>p
noncomputable def nU(l:List D):(Int->Bool)×Nat:=l.foldl xg (λ_=>Y,0)
def Cy(l:List D)(k:Int):nU (l++[.int k])=((λa=>(nU l).1 a||decide (a=k)),if(nU l).1 k then(nU l).2 else(nU l).2+1):=by unfold nU;rw[G5];rfl
def QH: ∀(l:List D) (p:(Int->Bool)×Nat),(l.foldl xg p).2<=p.2+(A0 l):=by
 intro b
 induction b with
 |nil=>intro p;exact kc _
 |cons d l a=>
  intro p;have:=a<|xg p d
  have h:(xg p d).2<=p.2+1:=by
   unfold xg;split
   .dsimp only;split<;>lia
   .lia
  simp only[vA,lh]
  lia
def AtD(S:Option Bool)(K:jb)(U:Hp)(O:BL)(d:iE)(a:List D):Prop:=match S with
 |some Y=> ∃c,U d=J (.lst c)/\AF K U O a c
 |some I=>U d=J (.set (nU a).1 (nU a).2)
 |none=> ∃b,Ey K (U d) .set [] a b/\AF K U O a b
structure BS(S:Option Bool)(K:jb)(d:iE)(T:BL)(σ:L2.St)(δ:Dn)(acc:List D)(H:Hp):Prop where
 er:ER K H T σ δ
 td:T d
 at':AtD S K H (λa=>AZ σ δ a\/T a) d acc
abbrev FB:=List D->Dn->Option (List D×Dn)
def KU(S:Option Bool)(K:jb)(A:kK)(d:iE)(f:FB):TB:=λi U N=> ∃g T c h a,BS S K d T i g c U/\f c g=J (h,a)/\ ∀b e,Kw A d i g U b a e->BS S K d T b a h e->N b e
noncomputable def kd(f:F):FB:=λa δ=>(f δ).bind λp=>if (A0 a)<sizeLine then J (a++[p.1.1],p.2) else C
noncomputable def ku(b:Tg)(ti:FT)(a:FB):List D->FB
 |[],acc,δ=>J (acc,δ)
 |x::xs,acc,δ=>(b x δ).bind λδ1=>(ti δ1).bind λp=>(if p.1=I then a acc p.2 else J (acc,p.2)).bind λq=>ku b ti a xs q.1 q.2
noncomputable def PK(c:Fi)(d:Tg)(ti:FT)(b:FB):FB:=λa e=>(c e).bind λp=>ku d ti b p.1 a p.2
section
variable {K:jb}{A:kK}{d:iE}{T:BL}{f r:L2.St}{j s:Dn}{p:List D}{H q:Hp}
def BS.step(b:BS S K d T f j p H)(k:SK A f j H r s q)(t:ER K q T r s):BS S K d T r s p q:=by
 refine⟨t,b.td,?_⟩;have h:=b.at'
 have m: ∀{l:List D} {i:List V},AF K H (λa=>AZ f j a\/T a) l i->AF K q (λa=>AZ r s a\/T a) l i:=λg=>by
  refine AF.mono (λb o e n=>k.kp b o e λz=>n<|.inl z) (λc u z=>?_) g;rcases z with z|z
  .exact(k.ow c z).elim bf λz=>absurd z u
  .exact .inr z
 rcases S with _|_|_
 .obtain⟨v,h1,g⟩:=h;exact⟨v,h1.keep λo e=>k.kp d o e λz=>b.er.nT d z b.td,m g⟩
 .obtain⟨i,h1,g⟩:=h;exact⟨i,k.kp d _ h1 λz=>b.er.nT d z b.td,m g⟩
 .exact k.kp d _ h λz=>b.er.nT d z b.td
def JB(hg: ∀v f H Q,tG K A tg v f H Q->g v f H Q)(hi: ∀f H Q,tT K ft f H Q->ti f H Q)(hb: ∀f H N,KU S K A d fb f H N->tb f H N)
  (b:BS S K d T f j p H)(P O:BL)(ok:Lm K J' ds P O q)(s1: ∀a o,q a=J o-> ¬P a->H a=J o)(s0: ∀a,q a≠AX->AZ f j a\/a=d->P a)(s2: ∀a,q a≠AX->(AZ f j a\/T a)->O a)(s3: ∀a,q a≠AX->H a≠AX)(e:ku tg ft fb ds p j=J (j8,B))
  (k: ∀E t,Kw A d f j H E B t->BS S K d T E B j8 t->N E t):IM J' g ti tb f H N:=by
 refine⟨λi m l w=>m=A0 ds-i/\i<=A0 ds/\ ∃h G,Kw A d f j H l h w/\BS S K d T l h G w/\ku tg ft fb (ds.drop i) G h=J (j8,B),⟨A0 ds,by simp,lX _,j,p,SK.refl.N6,b,by simpa using e⟩,?_⟩;rintro i m l w ⟨rfl,hle,h,G,Y',I',e2⟩
 have hO: ∀a,q a≠AX->(AZ l h a\/T a)->O a:=λa W z=>by
  rcases z with z|z
  .exact(Y'.ow a z).elim (λz=>s2 a W<|.inl z) λz=>absurd z<|s3 a W
  .exact s2 a W (.inr z)
 have aI: ∀a o,q a=J o-> ¬P a->w a=J o:=λa o V n=>Y'.kp a o (s1 a o V n) (λz=>n<|s0 a (by rw[V];simp)<|.inl z) λz=>n<|s0 a (by rw[V];simp)<|.inr z;by_cases F:i<A0 ds
 .refine .inr ?_;have hd:ds[i]?=J ds[i]:=jx F;obtain⟨go,yl⟩:=ok.go i _ w hd aI;rw[yw F] at e2;obtain⟨C,h3,e3⟩:=iC e2;obtain⟨⟨c,u⟩,h4,e4⟩:=iC e3;obtain⟨⟨y,M⟩,D,e5⟩:=iC e4;refine⟨go,λx t hy=>?_⟩;obtain⟨ext,rep⟩:=yl x t hy;have eJ:ER K t T l h:=I'.er.mono (λb ob eb _=>ext b ob eb) (λ_ _ z=>z) λa z=>(I'.er.dom a z).up<|ext a;have SX:SK A l h w l h t:=(Cj.ext ext).sk;have R:=I'.step SX eJ;have iu:Kw A d f j H l h t:=Y'.trans SX.N6;have rx:=rep (λa=>AZ l h a\/T a) hO λb hb z=>z.elim (λz=>I'.er.KI z hb) λz=>(I'.er.dom b z).ne hb;refine hg _ _ _ _ ⟨h,T,ds[i],C,eJ,rx,h3,λU S3 Z=>?_⟩;have B3:=R.step S3 Z;have dq:=iu.trans S3.N6;refine hi _ _ _ ⟨C,T,c,u,Z,h4,λH4 K4 E4=>?_⟩;have S4:SK A U C t U u H4:=K4.sk;have X:=B3.step S4 E4;have L:=dq.trans S4.N6
  cases c with
  |false=>rw[jc ki] at D;obtain⟨rfl,rfl⟩:=jd D;exact VD ⟨A0 ds-(i+1),by lia,rfl,F,u,G,L,X,e5⟩
  |true=>rw[iQ AU] at D;exact VC<|hb _ _ _ ⟨u,T,G,y,M,X,D,λσ5 H5 S5 B5=>⟨A0 ds-(i+1),by lia,rfl,F,M,y,L.trans S5,B5,e5⟩⟩
 .refine .inl ⟨ok.stop i w (by lia) aI,?_⟩;rw[As<|by lia] at e2;obtain⟨rfl,rfl⟩:=jd e2;exact k l w Y' I'
end
section
variable {X:Cx}{A:kK}{d:iE}{b:iK}{f:F}
def PB.imp'{code:ei Unit}{t e:TB}(h:PB X code t)(k: ∀c U N,e c U N->t c U N):PB X code e:=λa s c U N T g=>h a s c U N T<|k c U N g
def Rj{S:Option Bool}{e:iK}{depth:Nat}{c:pk}{r:Fi}{u:Tg}{s:FT}{q:FB}(Q:X.xe=λ_ _=>False)(hc:X.calm=B8)
  (hl:(∃b g l p,e= .ListComp b g l p)\/(∃b g l p,e= .SetComp b g l p))(hg:(b5 e)[depth+1]?=A7 c)(Y:c.is_async=0)(l7: ∀t,(b5 e)[depth+1+1]?=A7 t->t.is_async=0)
  (hs: ∀x,ax c.iter X.env x=pure x)(pi:MV X (λ_=>False) c.target c.iter r)(pg:MW X A c.target u)(M:Ky X c.ifs (tT X.K s))(pb:PB X (jI e (depth+1) (.ref d) X.env) (KU S X.K A d q)):
  PB X (jI e depth (.ref d) X.env) (KU S X.K A d<|PK r u s q):=PB.imp' (U9 Q hc hl hg Y l7 hs pi pg M pb) λw H N D=>by
 obtain⟨v,T,G,P,F,B,e,k⟩:=D;obtain⟨⟨U,j⟩,h1,e⟩:=iC e;refine⟨v,T,U,j,B.er,h1,λJ I L C ok=>?_⟩;have n:SK A w v H w j I:=L.sk;exact JB (λ_ _ _ _ h=>h) (λ_ _ _ h=>h) (λ_ _ _ h=>h) (B.step n C) _ _ ok (λa o e _=>e) (λa _ z=>z.elim (λa'=>by obtain⟨i,x,z⟩:=a';exact .inl ⟨i,id,x,z⟩) λz=> .inr (z▸B.td)) (λa _ z=>z) (λa z=>z) e λm E O y=>k m E (n.N6.trans O) y
end
noncomputable def jL(caps:kb)(k:Nat)(fi:Fi)(b:Tg)(ti:FT)(a:FB):F:=λδ=>(fi δ).bind λp=>(km p.2<|caps.map .slot).bind λargs=>if(jm (caps.map .slot) args).Nodup then(ku b ti a p.1 []<|args.map J++ac k C).bind λq=>J ((.lst q.1,I),wb (caps.map .slot) args (jw args q.2) p.2) else C
noncomputable def yN(a:kb)(k:Nat)(b:L2.St):L2.St:=(a.map λj=>(b[j]?).join)++ac k C
noncomputable def o0(S:Option Bool):HO:=match S with
 |some Y=> .lst []
 |some I=> .set (λ_=>Y) 0
 |none=> .BH []
noncomputable def qS(S:Option Bool)(Q:VK):VK:=match S with
 |some Y|none=>Q
 |some I=>λx b=> ∃S n,∃a,x= .ref a/\b a=J (.set S n)/\Q (.int n) b
noncomputable def rS(S:Option Bool)(a:List D):D×Bool:=match S with
 |some Y=>(.lst a,I)
 |none=>(.BU .set [] a,I)
 |some I=>(.int (nU a).2,Y)
noncomputable def VX(S:Option Bool)(b:kb)(k:Nat)(d:Fi)(e:Tg)(f:FT)(c:FB):F:=λg=>(d g).bind λp=>(km p.2<|b.map .slot).bind λa=>if(jm (b.map .slot) a).Nodup then(ku e f c p.1 []<|a.map J++ac k C).bind λq=>J (rS S q.1,wb (b.map .slot) a (jw a q.2) p.2) else C
def C8{S:Option Bool}{K:jb}{f:kb}{k:Nat}{fi:Fi}{tg:Tg}{ti:FT}{fb:FB}{p:L2.St}{H:Hp}{Q:VK}(h:tF K (VX S f k fi tg ti fb) p H Q):
  tI K (λi=>i∉f) fi p H λJ' q=>IQ (o0 S) J' (tG K (λi=>A0 f<=i) tg) (tT K ti) (λd=>KU S K (λi=>A0 f<=i) d fb) (yN f k) p q (qS S Q):=by
 obtain⟨δ,T,rr,δr,E,e,kq⟩:=h;obtain⟨⟨ds,s⟩,h1,e⟩:=iC e;obtain⟨g,t,e⟩:=iC e;dsimp only at e t;split at e
 case isFalse=>cases e
 rename_i Y;obtain⟨⟨m,δ'⟩,h2,e⟩:=iC e;obtain⟨rfl,rfl⟩:=jd e;refine⟨δ,T,ds,s,E,h1,λJ' q D A ok d hd=>?_⟩;obtain⟨hl,hg⟩:=qc t;have cj:(A0 g)=(A0 f):=by simpa using hl
 let C:List V:=f.map λj=>((p[j]?).join).getD .B7
 have there: ∀(i j:Nat),f[i]?=J j-> ∃v,p[j]?=J (J v):=λi j l=>by
  have hi:i<(A0 g):=by have:=(uD.mp l).1;lia
  obtain⟨o,u,q2⟩:=hg i _ (jx hi);rw[kZ,l] at u;cases u;have O:=rl q2;generalize g[i]=y at O;obtain⟨x,b⟩:=y
  cases b with
  |false=>obtain⟨v,h,_⟩:=A.val j x O;exact⟨v,h⟩
  |true=>obtain⟨a,h,_⟩:=A.own j x O;exact⟨_,h⟩
 have fj: ∀(i j:Nat),f[i]?=J j-> ∃v,C[i]?=J v/\p[j]?=J (J v):=λi j l=>by obtain⟨v,hv⟩:=there i j l;refine⟨v,?_,hv⟩;show(f.map λj=>((p[j]?).join).getD .B7)[i]?=J v;rw[kZ,l];simp[hv]
 have y7:yN f k p=C.map J++ac k AX:=by
  unfold yN
  congr 1
  apply Ar;intro i;show _=((f.map λj=>((p[j]?).join).getD .B7).map J)[i]?;rw[kZ,kZ,kZ]
  cases l:f[i]? with
  |none=>rfl
  |some j=>obtain⟨v,hv⟩:=there i j l;simp[hv]
 have I:Ops K T p s q (f.map Cm.slot) C s q T:=by
  refine⟨by simp[C],.refl,A,λ_ z=>z,λj x v l=>?_,λj x v l=>?_,λj i v l hv=>?_⟩
  .rw[kZ] at l;obtain⟨_,_,z⟩:=jB l;cases z
  .rw[kZ] at l;obtain⟨_,_,z⟩:=jB l;cases z
  .rw[kZ] at l;obtain⟨c,X,z⟩:=jB l;cases z;obtain⟨v',u,q2⟩:=fj j i X;rw[hv] at u;cases u;exact q2
 have L:=Af A I t Y
 have W: ∀(i:Nat) x,g[i]?=J (x,B8)-> ¬(A0 f<=i):=λi x B=>by
  have:=(uD.mp B).1
  lia
 rw[y7];have B:=lQ (o:=o0 S) hd
 have nz: ∀a,q a≠AX->upd q d (o0 S) a≠AX:=λa z=>by
  cases U:q a with
  |none=>exact absurd U z
  |some o=>rw[B a o U];simp
 have b0:BS S K d (λa=>Tc T p s C g a\/a=d) (C.map J++ac k AX) (g.map J++ac k AX) [] (upd q d<|o0 S):=by
  refine⟨(L.pad).mono (λb o eb _=>B b o eb) (λb hb z=>z.elim id λz=>by subst z;exact absurd hd hb) λa z=>?_,.inr AU,?_⟩
  .rcases z with z|z
   .exact(L.dom a z).up (B a)
   .subst z;rw[jl];rcases S with _|_|_<;>trivial
  .rcases S with _|_|_
   .exact⟨[],⟨rfl,[],jl,.nil⟩,AF.nil⟩
   .exact⟨[],jl,AF.nil⟩
   .exact jl
 refine JB (λ_ _ _ _ h=>h) (λ_ _ _ h=>h) (λ_ _ _ h=>h) b0 _ _ ok (λa o N _=>B a o N) (λa R z=>?_) (λa R z=>?_) nz h2 λσ' G M w=>?_
 .rcases z with z|z
  .obtain⟨j,x,g1,g2⟩:=NQ.mp z;obtain⟨i,_,u,_,O⟩:=FW I t ⟨x,g1,g2⟩;refine .inl ⟨i,λn=>n ?_,O⟩;rw[kZ] at u;obtain⟨c,X,e⟩:=jB u;cases e;exact mS X
  .subst z;exact absurd hd R
 .rcases z with z|z|z
  .exact .inl (JE I t<|NQ.mp z)
  .rcases z with z|z
   .exact .inr z
   .exact .inl z.1
  .subst z;exact absurd hd R
 .have F:SK (λi=>A0 f<=i) (C.map J++ac k AX) (g.map J++ac k AX) q σ' δ' G:=
   ⟨λa o N n=>M.kp a o (B a o N) n (by intro z;subst z;rw[N] at hd;cases hd),λi a z=>(M.owi i a z).imp id λz=>z.imp (λz=>by
    cases U:q a with
    |none=>rfl
    |some o=>exact absurd z<|nz a<|by rw[U];simp) id,λa z=>M.dm a<|nz a z,M.as⟩
  rcases S with _|_|_
  .obtain⟨us,Z,ry⟩:=w.at';have P:=rq (r:=(.BU .set [] m,B8)) (v:= .ref d) L F W ⟨d,rfl,hd,w.er,us,Z,AF.mono (λ_ _ e _=>e) (λb _ z=>z) ry⟩;exact kq (.ref d) G<|(xZ A I t Y P).pre D
  .obtain⟨ys,Z,ry⟩:=w.at';have P:=rq (r:=(.lst m,B8)) (v:= .ref d) L F W ⟨d,rfl,hd,w.er,ys,Z,AF.mono (λ_ _ e _=>e) (λb _ z=>z) ry⟩;exact kq (.ref d) G<|(xZ A I t Y P).pre D
  .have P:=rq (r:=(.int (nU m).2,B6)) (v:= .int (nU m).2) L F W ⟨w.er.mono (λ_ _ e _=>e) (λb _ z=> .inl z) λa z=>w.er.dom a<|.inl z,Rep.mkInt⟩;exact⟨_,_,d,rfl,w.at',kq (.int (nU m).2) G<|(xZ A I t Y P).pre D⟩
def Gi{K:jb}{a:kb}{k:Nat}{c:Fi}{e:Tg}{ti:FT}{b:FB}{f:L2.St}{U:Hp}{Q:VK}(h:tF K (jL a k c e ti b) f U Q):
  MT (tI K (λi=>i∉a) c) (tG K (λi=>A0 a<=i) e) (tT K ti) (λd=>KU Y K (λi=>A0 a<=i) d b) (yN a k) f U Q:=C8 (S:=Y) h
section
variable {X:Cx}{elt:iK}{c:pk}{jA:qI}{scope:jG}{pos i6 py:bu}{N':jh}{caps:kb}{k:Nat}{fi:Fi}{tg:Tg}{ti:FT}{fb:FB}{A:kK}{L:LL}{H0:Hp}
structure EL(X:Cx)(N':jh)(scope:jG)(caps:kb)(k:Nat):Prop where
 cell: ∀y∈scope.names,y.2= .cell->scope.names.lookup y.1=A7 .cell
 kind:scope.kind= .function
 names: ∀y∈scope.names,y.2= .local->scope.names.lookup y.1=A7 .local
 free: ∀y∈scope.names,y.2= .free->X.env.scope.names.lookup y.1=A7 .cell\/X.env.scope.names.lookup y.1=A7 .free
 len:(A0 caps)+k=A0 N'
 caps: ∀(i j:Nat) (x:aw),caps[i]?=A7 j->N'[i]?=A7 x->X.N[j]?=A7 x/\scope.names.lookup x=A7 .free
def EL.Nx(U:EL X N' scope caps k):ET X N' scope (yN caps k):=by
 refine⟨U.cell,U.kind,U.names,U.free,λd=>by simp[yN,U.len],λd i v x h1 f=>?_⟩;unfold yN at h1;by_cases b:i<A0 caps
 .rw[sP<|by simpa using b,kZ,jx b] at h1;obtain⟨g,h⟩:=U.caps i caps[i] x (jx b) f;refine⟨h,caps[i],g,?_⟩;have a:(d[caps[i]]?).join=J v:=by simpa using h1
  cases e:d[caps[i]]? with
  |none=>rw[e] at a;cases a
  |some y=>rw[e] at a;exact ox J a
 .rw[qN<|by simpa using b,rP] at h1;split at h1<;>cases h1
def Q4(T:EL X N' scope caps k)(m:X.calm=I)(l:c.is_async=0)(o: ∀e,jA[0]?=J e->e.is_async=0)
  (n: ∀x,ax c.iter X.env x=pure x)(p:MV X (λi=>i∉caps) c.target c.iter fi)
  (q: ∀(cl:kT) (T:iE) (r:iJ) (f:Hp) (j:kB) (a:ju),let b:=X.comp N' scope cl T r f j a
   MW b (λi=>A0 caps<=i) c.target tg/\Ky b c.ifs (tT X.K ti)/\ ∀d,PB b (jI (.ListComp elt (c::jA) scope pos) 0 (.ref d) b.env)<|KU Y X.K (λi=>A0 caps<=i) d fb):
  PX X (.ListComp elt (c::jA) scope pos) (jL caps k fi tg ti fb):=PX.imp (aej (g:=tG X.K (λi=>A0 caps<=i) tg) (ti:=tT X.K ti) (tb:=λd=>KU Y X.K (λi=>A0 caps<=i) d fb) T.Nx m l o n p q) λs U Q h=>Gi h
def aeA{y:aw}{i:Nat}(m:bJ (.ListComp elt (c::jA) scope pos) (A7<|.Name y py) i6.line X.env=pure B8)
  (C:EL X N' scope caps k)(u:X.calm=B8)(t:c.is_async=0)(O: ∀h,jA[0]?=A7 h->h.is_async=0)
  (z: ∀x,ax c.iter X.env x=pure x)(G:MV X (λi=>i∉caps) c.target c.iter fi)(o:PG X (.Name y py) (F6 i))(s:A i)
  (J: ∀(cl:kT) (C:iE) (M:iJ) (l:Hp) (n:kB) (a:ju),let b:=X.comp N' scope cl C M l n a
   MW b (λi=>A0 caps<=i) c.target tg/\Ky b c.ifs (tT X.K ti)/\ ∀d,PB b (jI (.ListComp elt (c::jA) scope pos) 0 (.ref d) b.env)<|KU B6 X.K (λi=>A0 caps<=i) d fb):
  Nh X A L H0 (.Assign [.Name y py] (.ListComp elt (c::jA) scope pos) i6) (kx i<|jL caps k fi tg ti fb):=PS.imp' (aeD (g:=tG X.K (λi=>A0 caps<=i) tg) (ti:=tT X.K ti) (tb:=λd=>KU B6 X.K (λi=>A0 caps<=i) d fb) m C.Nx u t O z G o J) λD Y H B=>by
 apply FL;intro U I;obtain⟨N,T,Q,E,fi,e,k⟩:=B;obtain⟨⟨r,f⟩,q,e⟩:=iC e;obtain⟨w,rfl⟩:=jf e;apply I;refine Gi ⟨N,T,r,f,E,q,λv j P=>?_⟩;obtain⟨h1,p⟩:=AJ (A:=A) E P w s;exact k _ j h1 p
end
section
variable {K:jb}{T:BL}{d:L2.St}{c:Dn}{H:Hp}{i:Nat}{l g:List D}{a:iE}{m:List V}
def BW.write{j:Nat}{b:iE}(hd:c[i]?=J (J (.lst l,I)))(h:BW d (c.set i<|J (.lst g,I)) j b):BW d c j b:=by
 obtain⟨e,h1,f⟩:=h;rcases mq h1 with⟨rfl,_,_⟩|⟨_,q⟩
 .exact⟨_,hd,f⟩
 .exact⟨e,q,f⟩
def ER.write(E:ER K H T d c)(hd:c[i]?=J (J (.lst l,B8)))(t:d[i]?=J (J<|.ref a))(r:AF K H (λb=>AZ d c b\/T b) g m):
  ER K (upd H a<|.lst m) T d (c.set i<|J (.lst g,B8))/\Cj d c H (c.set i<|J (.lst g,B8)) (upd H a<|.lst m):=by
 have N:i<(A0 c):=(uD.mp hd).1;have v:AZ d c a:=⟨i,_,hd,t⟩
 have C: ∀b,AZ d (c.set i<|J (.lst g,B8)) b->AZ d c b:=λb a'=>by
  obtain⟨j,e,h1,s⟩:=a'
  obtain⟨L,x,y⟩:=BW.write hd ⟨e,h1,s⟩;exact⟨j,L,x,y⟩
 have u: ∀b o,H b=J o-> ¬(AZ d c b\/T b)->upd H a (.lst m) b=J o:=λb o e n=>by rw[ji<|by intro z;subst z;exact n<|.inl v];exact e
 have I: ∀b,H b≠AX->upd H a (.lst m) b≠AX:=λb z=>by
  by_cases B:b=a
  .subst B;rw[jl];simp
  .rw[ji B];exact z
 have sub: ∀b,H b≠AX->(AZ d (c.set i<|J (.lst g,B8)) b\/T b)->AZ d c b\/T b:=λb _ z=>z.imp (C b) id;refine⟨⟨by rw[vB];exact E.len,λj e h=>?_,λj e h=>?_,λj k e f b h hk h1 s=>?_,λb z=>E.nT b<|C b z,λb z=>by have ne:b≠a:=λe=>E.nT a v<|e▸z;rw[ji ne];exact E.dom b z⟩,⟨λb o e n=>by rw[ji<|by intro z;subst z;exact n v];exact e,λj b z=>BW.write hd z,I⟩⟩
 .rcases mq h with⟨_,_,q⟩|⟨_,q⟩
  .cases q
  .obtain⟨w,p,A⟩:=E.val j e q;exact⟨w,p,Rep.mono u sub A⟩
 .rcases mq h with⟨rfl,_,q⟩|⟨ne,q⟩
  .cases q;exact⟨a,t,m,jl,AF.mono u sub r⟩
  .obtain⟨b,p,A⟩:=E.own j e q;refine⟨b,p,A.mono u sub λo G=>?_⟩;rw[ji]
   .exact G
   .intro z;subst z;exact ne<|E.inj i j _ _ _ hd q t p
 .obtain⟨O,x,y⟩:=BW.write hd ⟨e,h,h1⟩;obtain⟨Q,U,M⟩:=BW.write hd ⟨f,hk,s⟩;exact E.inj j k O Q b x U y M
end
noncomputable def mE(i:Nat)(f:F):F:=λa=>match a[i]? with
 |some (J (.lst _,I))=>(f a).bind λp=>match p.2[i]? with
  |some (J (.lst l,I))=>if (A0 l)<sizeLine then J ((.B7,Y),p.2.set i<|J (.lst<|l++[p.1.1],I)) else C
  |_=>C
 |_=>C
noncomputable def Bt(i:Nat)(f:FO):F:=λa=>match a[i]? with
 |some (J (.lst _,I))=>(f a).bind λp=>match res p.2 p.1,p.2[i]? with
  |some (.int k),J (J (.lst l,I))=>if -(2^63)<=k/\k<2^63 then(Ir (A0 l) k).bind λj=>(l[j]?).bind λd=>J ((d,Y),p.2.set i<|J (.lst<|l.eraseIdx j,I)) else C
  |_,_=>C
 |_=>C
noncomputable def wD(i:Nat)(f:F)(g:FO):FS:=λa=>(f a).bind λp=>match p.2[i]? with
 |some (J _)=>(g p.2).bind λq=>match res q.2 q.1,q.2[i]? with
  |some (.int k),J (J (.lst l,I))=>(Ir (A0 l) k).bind λj=>J<|.nx<|q.2.set i<|J (.lst<|l.set j p.1.1,I)
  |_,_=>C
 |_=>C
section
variable {X:Cx}{e c:iK}{f:F}{k:FO}{b m a g:bu}{i:Nat}{x:aw}{A:kK}{L:LL}{n:Hp}
theorem AF.erase{K U}{O:BL}: ∀{l:List D} {o:List V} (j:Nat),AF K U O l o->AF K U O (l.eraseIdx j) (o.eraseIdx j)
 |[],o,j,h=>by rw[AF] at h;subst h;simp[AF]
 |d::l,o,0,h=>by rw[AF] at h;obtain⟨v,r,rfl,h1,p⟩:=h;exact p
 |d::l,o,j+1,h=>by rw[AF] at h;obtain⟨v,r,rfl,h1,p⟩:=h;exact AF.cons h1<|AF.erase j p
end
noncomputable def QJ(b:Tg)(f:F):FS:=λc=>(f c).bind λp=>(b p.1.1 p.2).bind λa=>J<|.nx a
section
variable {X:Cx}{A:kK}{L:LL}{m:Hp}{a b h e:iK}{fs:List F}{f:F}{t:Tg}{c l k pt d:bu}{x y:aw}{i j:Nat}{kt k2}
def Je{id:String}{p:bu}{n:kD}{o:List FO}{g:List D->Option (D×Bool)}{z:aw}(s:kG X (.builtin id) (Ib X.K g))(v:Gl X z)(w:X.mg z=C)(hv:aA z=J (.builtin id))(r:PA X (e::n) (tA X.K o))(B:z≠"__name__")(U:(z==("__debug__":aw))=Y)
  (u:ag (e::n) X.env=(Y,aM e X.env)::ag n X.env)(q:(aQ c<|ag n X.env).any (·.1)=Y):PX X (.Call (.Name z p) (e::n) [] c) (jq g o):=pxn<|uh s v w hv r B U u q
def Jc{id:String}{p:bu}{n:kD}{o:List FO}{g:List D->Option (D×Bool)}{z:aw}(s:kG X (.type id) (Ib X.K g))(v:Gl X z)(w:X.mg z=C)(hv:aA z=J (.type id))(r:PA X (e::n) (tA X.K o))(B:z≠"__name__")(U:(z==("__debug__":aw))=Y)
  (u:ag (e::n) X.env=(Y,aM e X.env)::ag n X.env)(q:(aQ c<|ag n X.env).any (·.1)=Y):PX X (.Call (.Name z p) (e::n) [] c) (jq g o):=pxn<|rg s v w hv r B U u q
end
def V8:aA "len"=J (.builtin "len"):=by decide+kernel
def V9:aA "abs"=J (.builtin "abs"):=by decide+kernel
noncomputable def EM(N:jh)(c scope:jG)(b:jh)(a:kb)(k:Nat):Bool:=
 (scope.names.all λy=>y.2 != .cell||scope.names.lookup y.1==J .cell)&&decide (scope.kind= .function)&&(scope.names.all λy=>y.2 != .local||scope.names.lookup y.1==J .local)&&
 (scope.names.all λy=>y.2 != .free||(c.names.lookup y.1==J .cell||c.names.lookup y.1==J .free))&&decide (A0 a+k=A0 b)&&
 ((a.zip b).all λp=>N[p.1]?==J p.2&&scope.names.lookup p.2==J .free)
def Pr(m:X.N=N)(p:X.env.scope=sc)(h:EM N sc scope N' a k=I):EL X N' scope a k:=by
 subst m;subst p;unfold EM at h;simp only[lA,lY,vo] at h;obtain⟨⟨⟨⟨⟨h1,c⟩,d⟩,f⟩,g⟩,l⟩:=h;refine⟨λy b e=>?_,c,λy b e=>?_,λy b e=>?_,g,λi j x n q=>?_⟩
 .have:=h1 y b;rw[e] at this;simpa using this
 .have:=d y b;rw[e] at this;simpa using this
 .have:=f y b;rw[e] at this;simpa using this
 .have o:(j,x)∈a.zip N':=by
   have:(a.zip N')[i]?=J (j,x):=by rw[EZ];exact⟨n,q⟩
   exact mS this
  have:=l _ o;simpa using this
noncomputable def kr:FT:=λδ=>J (I,δ)
inductive Ty where
 |int|bool|str|tuple|list|dict
noncomputable def Ty.n:Ty->String
 | .int=>"int"| .bool=>"bool"| .str=>"str"| .tuple=>"tuple"| .list=>"list"| .dict=>"dict"
noncomputable def KA:D->Ty->Bool
 | .bl _,.bool=>I
 | .bl _,.int=>I
 | .int _,.int=>I
 | .str _,.str=>I
 | .tup _,.tuple=>I
 | .lst _,.list=>I
 | .BU .dct _ _,.dict=>I
 |_,_=>Y
noncomputable def tyD:D->String
 | .B7=>"NoneType"| .bl _=>"bool"| .int _=>"int"| .str _=>"str"| .tup _=>"tuple"| .lst _=>"list"| .BU .dct _ _=>"dict"| .BU .set _ _=>"set"| .BU _ _ _=>"NoneType"
section
variable {X:Cx}{b:ju}{c:L2.St}{H:Hp}{s:iJ}
def Et(K:jb)(d:D)(t:Ty):cR K (.type<|tyD d) (.type t.n)=J (KA d t):=by
 cases d with
 |BU k _ _=>cases k<;>cases t<;>with_unfolding_all rfl
 |_=>cases t<;>with_unfolding_all rfl
def Ei(U:Inv X b c H s)(h:Ey X.K (H a) k l i us)(hk:k= .dct\/k= .set:=by first|exact .inl rfl|exact .inr AU):s.TypeIs (.ref a) (tyD<|.BU k l i):=by
 cases k with
 |dct=>
  rcases h with⟨d,e,_⟩|⟨d,e,_⟩
  .obtain⟨_,_,i,_,o,g,j,h1,f,_⟩:=(show B9 X.prog X.w H s.heap a (.dK d) from U.hok a _ e)
   exact⟨o,h1,f.1⟩
  .obtain⟨_,_,p,_,o,g,j,h1,f,_⟩:=(show B9 X.prog X.w H s.heap a (.dT d) from U.hok a _ e)
   exact⟨o,h1,f.1⟩
 |set=>
  obtain⟨_,m,e,_⟩:=h;obtain⟨g,n,t,h1,_⟩:=(show B9 X.prog X.w H s.heap a (.BH m) from U.hok a _ e)
  exact⟨_,h1,rfl⟩
 |exc T=>rcases hk with z|z<;>cases z
 |_=>exact h.elim
def pH{K H}(h:kg K H O (.BU k g f) v): ∃a d,v= .ref a/\Ey K (H a) k g f d/\AF K H O f d:=by
 rcases h with h|⟨a,rfl,h⟩
 .obtain⟨a,d,e,q,r⟩:=h.BU;exact⟨a,d,e,q.2,r⟩
 .obtain⟨d,e,r⟩:=h;exact⟨a,d,rfl,e,r⟩
end
theorem mC(K:jb)(d:D): ∀a:List Ty,d1 K (.type<|tyD d) (a.map λt=>bi t.n)=J (a.any<|KA d)
 |[]=>rfl
 |t::a=>by
  rw[jU,d1,Et,wo]
  cases KA d t with
  |true=>rfl
  |false=>simpa using mC K d a
def To{K:jb}{U:Nat}(h: ∀n∈["int","bool","str","tuple","list","dict"],cR K (.ref U) (.type n)=J Y)(t:Ty){ks vs:List D}:cR K (.ref U) (.type t.n)=J (KA (.BU (.exc U) ks vs) t):=by
 cases t<;>exact h _ (by simp[Ty.n])
theorem JS{K:jb}{U:Nat}(h: ∀n∈["int","bool","str","tuple","list","dict"],cR K (.ref U) (.type n)=J Y){ks vs:List D}: ∀a:List Ty,d1 K (.ref U) (a.map λt=>bi t.n)=J (a.any<|KA<|.BU (.exc U) ks vs)
 |[]=>rfl
 |t::a=>by
  rw[jU,d1,To h t (ks:=ks) (vs:=vs),wo]
  cases KA (.BU (.exc U) ks vs) t with
  |true=>rfl
  |false=>simpa using JS h a
section
variable {X:Cx}{c:ju}{f:L2.St}{H:Hp}{s:iJ}
def aat(U:Inv X c f H s)(hd:kg X.K H O d x)(g:RelV x u)(h: ∀m,Q (.bool<|KA d t) {s with toks:=m}):
  ah (ai X.prog X.w) A (call (.builtin "isinstance") [u,.type t.n]) Q E s:=by
 cases d with
 |B7=>have:=Fe hd;subst this;cases g;exact rG hX U.HN bg (Et X.K .B7 t) (λz=>nomatch z) h
 |bl b=>have:=D3 hd;subst this;cases g;exact rG ib U.HN bg (Et X.K (.bl b) t) (λz=>nomatch z) h
 |int b=>have:=jr hd;subst this;obtain⟨m,rfl⟩:=g;exact rG iz U.HN bg (Et X.K (.int b) t) (λz=>nomatch z) h
 |str b=>have:=wX hd;subst this;obtain⟨m,rfl⟩:=g;exact rG iq U.HN bg (Et X.K (.str b) t) (λz=>nomatch z) h
 |tup l=>obtain⟨a,y,rfl,q,_⟩:=lq hd;cases g;obtain⟨j,_,⟨o,h1,i,_⟩,_⟩:=U.tuple q;exact rG g9 U.HN ⟨o,h1,i⟩ (Et X.K (.tup l) t) (λz=>nomatch z) h
 |lst l=>obtain⟨a,y,rfl,q,_⟩:=ke hd;cases g;obtain⟨j,_,⟨o,n,h1,i,_⟩,_⟩:=U.list q;exact rG hZ U.HN ⟨o,h1,i⟩ (Et X.K (.lst l) t) (λz=>nomatch z) h
 |BU k p r=>
  obtain⟨a,B,rfl,q,_⟩:=pH hd;cases g
  cases k with
  |dct=>exact rG ia U.HN (Ei U q) (Et X.K (.BU .dct p r) t) (λz=>nomatch z) h
  |set=>exact rG ir U.HN (Ei U q) (Et X.K (.BU .set p r) t) (λz=>nomatch z) h
  |exc T=>obtain⟨_,o,e,h1,i,v⟩:=q;exact rG (i a) U.HN (show B9 X.prog X.w H s.heap a (.EG o<|.own 0) from U.hok a _ e).1 (To v t) (λz=>nomatch z) h
  |_=>exact q.elim
def aas{A:iY}{E:jt}{Q:jt}(U:Inv X c f H s){O:BL}{d:D}{x:V}{u:iN}{ts:List Ty}{p:iE}{dd:Option iE}{n:Nat}{L:ze}(hd:kg X.K H O d x)(i:RelV x u)
  (g:s.heap.get? p=J ⟨.type "tuple",dd,.seq (ts.map λt=>bi t.n).toArray n,L⟩)(h: ∀r,Q (.bool<|ts.any<|KA d) {s with toks:=r}):ah (ai X.prog X.w) A (call (.builtin "isinstance") [u,.ref p]) Q E s:=by
 cases d with
 |B7=>have:=Fe hd;subst this;cases i;exact rF hX U.HN bg g (mC X.K .B7 ts) (λz=>nomatch z) h
 |bl b=>have:=D3 hd;subst this;cases i;exact rF ib U.HN bg g (mC X.K (.bl b) ts) (λz=>nomatch z) h
 |int b=>have:=jr hd;subst this;obtain⟨r,rfl⟩:=i;exact rF iz U.HN bg g (mC X.K (.int b) ts) (λz=>nomatch z) h
 |str b=>have:=wX hd;subst this;obtain⟨r,rfl⟩:=i;exact rF iq U.HN bg g (mC X.K (.str b) ts) (λz=>nomatch z) h
 |tup l=>obtain⟨a,T,rfl,q,_⟩:=lq hd;cases i;obtain⟨m,_,⟨o,h1,j,_⟩,_⟩:=U.tuple q;exact rF g9 U.HN ⟨o,h1,j⟩ g (mC X.K (.tup l) ts) (λz=>nomatch z) h
 |lst l=>obtain⟨a,T,rfl,q,_⟩:=ke hd;cases i;obtain⟨m,_,⟨o,n,h1,j,_⟩,_⟩:=U.list q;exact rF hZ U.HN ⟨o,h1,j⟩ g (mC X.K (.lst l) ts) (λz=>nomatch z) h
 |BU k v y=>
  obtain⟨a,G,rfl,q,_⟩:=pH hd;cases i
  cases k with
  |dct=>exact rF ia U.HN (Ei U q) g (mC X.K (.BU .dct v y) ts) (λz=>nomatch z) h
  |set=>exact rF ir U.HN (Ei U q) g (mC X.K (.BU .set v y) ts) (λz=>nomatch z) h
  |exc N=>obtain⟨_,o,e,h1,j,B⟩:=q;exact rF (j a) U.HN (show B9 X.prog X.w H s.heap a (.EG o<|.own 0) from U.hok a _ e).1 g (JS B ts) (λz=>nomatch z) h
  |_=>exact q.elim
end
noncomputable def wM(ts:List Ty)(d:D):Option (D×Bool):=J (.bl<|ts.any<|KA d,Y)
section
variable {X:Cx}{e:iK}{g:FO}{f p c:bu}{z:aw}
def UM{t:Ty}(M:PO X e g)(U:Gl X "isinstance")(Y:X.mg "isinstance"=AX)(A:Gl X z)(C:X.mg z=AX)(hz:aA z=A7 (.type t.n))(hn:z≠"__name__")(i8:(z==("__debug__":aw))=B6)(hv:aA "isinstance"=A7 (.builtin "isinstance"))
  (s1:ag [e,.Name z c] X.env=(B6,aM e X.env)::ag [.Name z c] X.env)(s2:ag [.Name z c] X.env=(B6,aM (.Name z c) X.env)::ag [] X.env)(L:(aQ f<|ag [.Name z c] X.env).any (·.1)=B6):
  PX X (.Call (.Name "isinstance" p) [e,.Name z c] [] f) (lL (wM [t]) g):=by
 have N:kG X (.builtin "isinstance") (λm H Q=> ∃(O:BL) (d:D) (x:V),m=[x,.ty t.n]/\kg X.K H O d x/\Q (.bl<|KA d t) H):=by intro l s W H m us Q I r h;apply FL;intro w a;obtain⟨O,d,x,rfl,hd,q⟩:=h;obtain⟨u,w',rfl,P,y⟩:=wY r;apply a;cases y;exact aat I hd P λtk=>⟨.bl _,H,I.tok _,rfl,q⟩
 refine PX.imp (uh N U Y hv (lD M (lD (zV (v:= .ty t.n) A C hz AU hn i8) oK s2) s1) (by decide) (by decide) s1 L) λW H Q F=>?_;apply FL;intro w a;obtain⟨R,T,rr,S,E,e,k⟩:=F;obtain⟨⟨o,b⟩,h1,e⟩:=iC e;obtain⟨x,G,e⟩:=iC e;obtain⟨zz,J,e⟩:=iC e;apply a;cases J;obtain⟨rfl,rfl⟩:=jd e;refine⟨R,T,o,b,E,h1,λv Z i=>?_⟩;have B:=Ops.cons E i<|Ops.nil<|i.er E;refine⟨_,x,v,rfl,B.view (j:=0) AU AU G,?_⟩;have:=(B.done k).bl;simpa using this
def Q0{t w:Ty}{z i:aw}{m p4:bu}{l}(ha:PO X e g)(hg:Gl X "isinstance")(hm:X.mg "isinstance"=AX)(aT:Gl X z)(ee:X.mg z=AX)(hz:aA z=A7 (.type t.n))(hn:z≠"__name__")(i8:(z==("__debug__":aw))=B6)
  (cU:Gl X i)(y:X.mg i=AX)(eZ:aA i=A7 (.type w.n))(bq:i≠"__name__")(cZ:(i==("__debug__":aw))=B6)(hv:aA "isinstance"=A7 (.builtin "isinstance"))
  (s1:ag [e,.Tuple [.Name z c,.Name i m] l p4] X.env=(B6,aM e X.env)::ag [.Tuple [.Name z c,.Name i m] l p4] X.env)(s2:ag [.Tuple [.Name z c,.Name i m] l p4] X.env=(B6,aM (.Tuple [.Name z c,.Name i m] l p4) X.env)::ag [] X.env)
  (s3:ag [.Name z c,.Name i m] X.env=(B6,aM (.Name z c) X.env)::ag [.Name i m] X.env)(s4:ag [.Name i m] X.env=(B6,aM (.Name i m) X.env)::ag [] X.env)
  (f7:(aQ f<|ag [.Tuple [.Name z c,.Name i m] l p4] X.env).any (·.1)=B6):
  PX X (.Call (.Name "isinstance" p) [e,.Tuple [.Name z c,.Name i m] l p4] [] f) (lL (wM [t,w]) g):=by
 have W:kG X (.builtin "isinstance") (λF H Q=> ∃(O:BL) (d:D) (x:V) (q:iE),F=[x,.ref q]/\H q=A7 (.tup [.ty t.n,.ty w.n])/\kg X.K H O d x/\Q (.bl<|[t,w].any<|KA d) H):=by intro Y s P H F us Q I r h;apply FL;intro M l;obtain⟨O,d,x,q,rfl,N,hd,k⟩:=h;obtain⟨u,w',rfl,ru,R⟩:=wY r;apply l;cases R;apply FL;intro M l;obtain⟨_,its,v1,o,h1,L,n,G⟩:=I.hok q _ N;obtain⟨u1,u2,rfl,r1,r2⟩:=wY v1;apply l;cases r1;cases r2;apply FL;intro M l;obtain⟨S,dd,dt,sl⟩:=o;apply l;simp only at L G;subst L;subst G;exact aas (ts:=[t,w]) I hd ru h1 λtk=>⟨.bl _,H,I.tok _,rfl,k⟩
 refine PX.imp (uh W hg hm hv (lD ha (lD (NI<|lD (zV (v:= .ty t.n) aT ee hz AU hn i8) (lD (zV (v:= .ty w.n) cU y eZ AU bq cZ) oK s4) s3) oK s2) s1) (by decide) (by decide) s1 f7) λP H Q Z=>?_;apply FL;intro M l;obtain⟨δ,T,rr,δ',E,e,k⟩:=Z;obtain⟨⟨o,C⟩,h1,e⟩:=iC e;obtain⟨x,L,e⟩:=iC e;obtain⟨zz,G,e⟩:=iC e;apply l;cases G;obtain⟨rfl,rfl⟩:=jd e;refine⟨δ,T,o,C,E,h1,λv H1 U=>⟨by show 2<=sizeLine;decide,λq N=>?_⟩⟩;have B:=Ops.cons E U<|Ops.nil<|U.er E;have J:=lQ (o:= .tup [.ty t.n,.ty w.n]) N;have A:=B.view (j:=0) AU AU L;refine⟨λa=>AZ P C a\/T a,x,v,q,rfl,jl,?_,?_⟩
 .rcases A with A|⟨a,rfl,A⟩
  .exact .inl (Rep.mono (λb o e _=>J b o e) (λ_ _ z=>z) A)
  .exact .inr ⟨a,rfl,A.mono (λb o e _=>J b o e) (λ_ _ z=>z) λo e=>J a o e⟩
 .exact(B.done k) _ _ J Rep.KL
end
noncomputable def qr:List D->Option (List Bool)
 |[]=>J []
 | .bl b::l=>(qr l).map (b:: ·)
 |_::_=>C
noncomputable def EF:D->Option (D×Bool)
 | .lst l=>(qr l).map λbs=>(.bl<|bs.all id,Y)
 |_=>C
theorem zw{K U}{O:BL}: ∀{l:List D} {bs:List Bool} {e:List V} {d:jF},qr l=J bs->AF K U O l e->Vals e d->LSm.BoolsAre d bs
 |[],bs,e,d,h,r,v=>by
  cases h;rw[AF] at r;subst r;cases v;exact .nil
 | .bl b::l,bs,e,d,h,r,v=>by
  obtain⟨f,h1,rfl⟩:=jB h;rw[AF] at r;obtain⟨x,j,rfl,g,i⟩:=r;have:=g.bl;subst this
  cases v with
  |cons a c=>cases a;exact .cons b<|zw h1 i c
 | .B7::l,_,_,_,h,_,_=>by cases h
 | .int _::l,_,_,_,h,_,_=>by cases h
 | .str _::l,_,_,_,h,_,_=>by cases h
 | .tup _::l,_,_,_,h,_,_=>by cases h
 | .lst _::l,_,_,_,h,_,_=>by cases h
 | .BU _ _ _::l,_,_,_,h,_,_=>by cases h
section
variable {X:Cx}
def abY{h a:iX}{o:eE}(hk: ∀b x,b∉[h.objs.size]->(h.push o).get? b=J x->a.get? b=J x)(b:iE)(x:eE)(e:h.get? b=J x):a.get? b=J x:=
 hk b x (λz=>by have:=E7.mp z;subst this;exact absurd (jW e)<|qR _) (jT _ e)
def zc(o:X.calm=B8):kG X (.builtin "all") (Ib X.K<|g1 EF):=nI λk s M N x u Q O d z I y np hd j G=>by
 cases d with
 |lst l=>
  obtain⟨bs,n,rfl⟩:=jB j;obtain⟨p,U,rfl,q,r⟩:=ke hd;cases y;obtain⟨c,v,g,_⟩:=I.list q;have a:=zw n r v;have t:X.A.in1.handled=AX:=I.ok.hd o;have h:p<s.heap.objs.size:=by obtain⟨_,e,_⟩:=g.isList;exact jW e
  refine call_all_walk (yE g.isList ⟨s.heap.objs.size,[s.heap.objs.size,p],[s.heap.objs.size],c.toArray.size,_,_,λi=>(bs[i]?).getD B8,rfl,DM t _ p (jH h) c.toArray,
   ⟨⟨_,kh _ rfl,rfl,rfl⟩,g.isList.push _⟩,λi w L C B m f=>?_,λE T hk=>?_⟩)
  .obtain⟨b,e,rfl⟩:=a.get i w (by simpa using m);dsimp only at f;rw[e] at f;exact tR f
  .rw[jy,a.length,LSm.range_all];exact⟨.bl _,N,I.kept<|abY hk,rfl,G.bl⟩
 |_=>cases j
noncomputable def OS:=gI λi j=>J<|.int (if j>i then j else i)
noncomputable def JO:=gI λi j=>J<|.int (if j<i then j else i)
def acJ(c:X.calm=I):kG X (.builtin "max") (Ib X.K<|g2 OS):=Py λa s k U x y h Q O d e z T r np h1 b g G=>by obtain⟨i,j,w,rfl,rfl,f,rfl⟩:=Ac g;cases f;exact adK c a s k U [x,y] h Q T r ⟨i,j,by rw[jr h1,jr b],G.int⟩
def BI(c:X.calm=I):kG X (.builtin "min") (Ib X.K<|g2 JO):=Py λa s k U x y h Q O d e z T r np h1 b g G=>by obtain⟨i,j,w,rfl,rfl,f,rfl⟩:=Ac g;cases f;exact adJ c a s k U [x,y] h Q T r ⟨i,j,by rw[jr h1,jr b],G.int⟩
def AO{lo:Int}{n:Nat}{a:lI}(h:mA (λi v=> ∃t,v= .int (lo+(i:Int)*1) t) a n):Vals ((au n).map λ(k:Nat)=>V.int<|lo+k) a.toList:=by
 have b: ∀(l:jF) (m:Nat),(∀(j:Nat) v,l[j]?=J v-> ∃t,v= .int (lo+((m+j:Nat):Int)) t)->Vals ((bv m<|A0 l).map λ(k:Nat)=>V.int<|lo+k) l:=by
  intro l
  induction l with
  |nil=>intro m _;exact .nil
  |cons v l f=>intro m hv;obtain⟨t,e⟩:=hv 0 v H;refine .cons ⟨t,by simpa using e⟩<|f (m+1) λj w d=>?_;obtain⟨g,c⟩:=hv (j+1) w (by simpa using d);exact⟨g,by rw[c];congr 2;first|done|lia⟩
 have:=b a.toList 0 λj v hv=>by obtain⟨t,e⟩:=h.2 j v (by simpa using hv);exact⟨t,by rw[e];congr 1⟩
 rw[kF,h.1,<-List.range_eq_range'] at this;exact this
def acf{K U}(lo:Int)(n:Nat):AF K U O (jD lo n) ((au n).map λ(k:Nat)=>V.int<|lo+k):=by
 unfold jD
 induction(au n) with
 |nil=>exact AF.nil
 |cons k l a=>exact AF.cons Rep.mkInt a
end
def HV(lo a:Int):Prop:= -(2^62)<=lo/\lo<2^62/\ -(2^62)<=a/\a<2^62/\(a-lo).toNat<=2^24
instance(lo hi:Int):Decidable (HV lo hi):=by unfold HV;infer_instance
noncomputable def Ln(lo a:Int):List V:=(au (a-lo).toNat).map λ(k:Nat)=>V.int<|lo+k
def HV.small{lo a:Int}(h:HV lo a):y4 lo a 1=I:=small_one h.1 h.2.1 h.2.2.1 h.2.2.2.1
def IY(lo a:Int):fk lo a 1=((a-lo).toNat:Nat):=by rw[O0];split<;>lia
section
variable {c:ja}{w:iW}{A:iY}{E:jt}{s:iJ}
def acH{Q:List iN->Shared->Prop}{r:iE}{lo n:Int}{t u v:wl}(U:A.handled=C)(q:XV s.heap r lo n 1 t u v)(ok:HV lo n)
  (B: ∀(g:iX) k (d:lI),(∀b o,s.heap.get? b=J o->g.get? b=J o)->mA (λi v=> ∃t,v= .int (lo+(i:Int)*1) t) d (n-lo).toNat->Q d.toList {s with heap:=g,toks:=k}):
  ah (ai c w) A (fZ<|.ref r) Q E s:=by
 unfold fZ;refine iF<|DL<|ou F.entry_proto_collect ?_;rw[pB F.plain_proto_collect _];refine iF (m:=lS [])<|nr ?_;refine iP ⟨qi F.plain_list_iadd _,ou F.entry_list_iadd ?_⟩;rw[pB F.plain_list_iadd _];have z:=kh s.heap (o:=({cls:= .type "list",data:= .seq ([]:List iN).toArray}:eE)) H
 let R:hG->Shared->Prop:=λr j=> ∃(g:iX) (k:Nat) (d:lI) (l:Nat),r= .ok (.ret<|.ref s.heap.objs.size)/\j={s with heap:=g,toks:=k}/\(∀b o,s.heap.get? b=J o->g.get? b=J o)/\
  g.get? s.heap.objs.size=J {cls:= .type "list",dict:=C,data:= .seq d l,slots:= #[]}/\mA (λi v=> ∃t,v= .int (lo+(i:Int)*1) t) d (n-lo).toNat
 have fin: ∀{r j},R r j-> ∃v,r= .ok (.ret v)/\ah (ai c w) A (match v with
   |Value.ref a=>do
    match(<-load a).data with
     |Data.seq xs _=>pure xs.toList
     |_=>oC "internal:collect"
   |_=>oC "internal:collect") Q E j:=λ{r j} O=>by
  obtain⟨g,k,d,l,rfl,rfl,hk,y,x⟩:=O;exact⟨_,rfl,iF (m:=load s.heap.objs.size)<|yF y<|iP<|B g k d hk x⟩
 refine oW (wpAny_extend_range (A:=A) (R:=R) (s:={s with heap:=s.heap.push {cls:= .type "list",data:= .seq ([]:List iN).toArray}}) U (jT _ q) ok.small (IY lo n) ok.2.2.2.2 _ _ 0 z λg k T l hk y x=>⟨g,k,T,l,rfl,rfl,λb o e=>hk b o (jH<|jW e)<|jT _ e,y,x⟩) (λf j h=>?_) λe j h=>?_
 .cases f with
  |done f=>obtain⟨v,hv,p⟩:=fin h;cases hv;exact p
  |again l=>exact⟨h.1,vE h.2 λr L q=>by obtain⟨v,rfl,p⟩:=fin q;exact p⟩
 .obtain⟨v,hv,_⟩:=fin h;cases hv
def abG{Q₁:jt}{r:iE}{lo g:Int}{t u v:wl}(p:A.handled=C)(l:XV s.heap r lo g 1 t u v)(ok:HV lo g)
  (h: ∀(d:iX) k (a:lI),(∀b o,s.heap.get? b=J o->d.get? b=J o)->mA (λi v=> ∃t,v= .int (lo+(i:Int)*1) t) a (g-lo).toNat->Q₁ (.ref d.objs.size) {s with heap:=d.push {cls:= .type "tuple",data:= .seq a},toks:=k}):
  bP (ai c w) A (.call (.builtin "tuple.__new__") ⟨[.type "tuple",.ref r],[]⟩) (wants Q₁ E) s:=by
 refine Au ?_;refine iF (m:=gn "tuple.__new__" _)<|qJ (F.newCall_tuple_1 _)<|iP ⟨qi F.plain_tuple_new _,ou F.entry_tuple_new ?_⟩;rw[pB F.plain_tuple_new _];have z:=sub_tuple_self;have j:=init_tuple_lookup;have q:=madeHere_tuple;have y:s.TypeIs (.ref r) "range":=⟨_,l,rfl⟩
 have f:A.in1.handled=C:=p
 wp_walk using tH y,acH f l ok
 intro d k a hk n;have x:a.size<=sizeLine:=by rw[n.1,jQ];have:=ok.2.2.2.2;omega
 refine iF (m:=bb a.toList.toArray) ?_;unfold bb;refine nr ?_ (by show a.toList.toArray.size<=sizeLine;simpa using x);refine iP ?_;have e:a.toList.toArray=a:=by simp
 rw[e];exact h d k a hk n
def abD{Q:jt}{r:iE}{lo g:Int}{t u v:wl}(k:A.handled=C)(m:XV s.heap r lo g 1 t u v)(ok:HV lo g)
  (h: ∀(f:iX) j (e:lI),(∀b o,s.heap.get? b=J o->f.get? b=J o)->mA (λi v=> ∃t,v= .int (lo+(i:Int)*1) t) e (g-lo).toNat->Q (.ref f.objs.size) {s with heap:=f.push {cls:= .type "tuple",data:= .seq e},toks:=j}):
  ah (ai c w) A (call (.type "tuple") [.ref r]) Q E s:=by
 refine Ls (Q₁:=λobj a=>a.TypeIs obj "tuple"/\Q obj a) Qc (F.typeCall_tuple_1 _) F.entry_object_init
  (abG k m ok λf j e l n=>⟨⟨_,kh _ rfl,rfl⟩,h f j e l n⟩) λobj a d=>?_
 exact⟨d.1,F.args_object_init_2 obj _,object_init_meets Qc.init.lookup Qc.made (by decide) c w A.in1 _ a ⟨d.1,rfl,d.2⟩⟩
end
section
variable {X:Cx}
def C9:kG X (.type "range") (λc U Q=> ∃i j,c=[.int i,.int j]/\ ∀r,U r=C->Q (.ref r) (upd U r<|.rng i j)):=by intro a s k U c g Q T r h;obtain⟨i,j,rfl,h⟩:=h;obtain⟨u,f,rfl,⟨t,rfl⟩,⟨d,rfl⟩⟩:=wY r;exact W1 ⟨.ref _,_,T.laid (o:= .rng i j) (λb o e=>jT _ e) (kc _) ⟨_,_,_,kh _ rfl⟩,rfl,h _ T.fresh⟩
def abE(j:X.calm=I):kG X (.type "list") (λg U Q=> ∃r lo b,g=[.ref r]/\U r=J (.rng lo b)/\HV lo b/\ ∀l,U l=C->Q (.ref l) (upd U l<|.lst<|Ln lo b)):=by intro f s y U g x Q T i h;obtain⟨r,lo,b,rfl,k,ok,h⟩:=h;obtain⟨u,rfl,n⟩:=sU i;cases n;obtain⟨t,u,v,er⟩:=T.hok r _ k;refine call_list_range (A:=X.A) (T.ok.hd j) er ok.small (IY lo b) ok.2.2.2.2 λp q d c m e a=>?_;have o:=AO a;refine⟨.ref _,_,T.laid m (kc _) (show B9 X.prog X.w _ _ _ (.lst<|Ln lo b) from⟨?_,d.toList,c,o,by simpa using e⟩),rfl,h _ T.fresh⟩;have:=ok.2.2.2.2;simp only[Ln,jM,m6,jQ];omega
def abl(m:X.calm=I):kG X (.type "tuple") (λj U Q=> ∃r lo d,j=[.ref r]/\U r=J (.rng lo d)/\HV lo d/\ ∀l,U l=C->Q (.ref l) (upd U l<|.tup<|Ln lo d)):=by intro f s z U j B Q T k h;obtain⟨r,lo,d,rfl,n,ok,h⟩:=h;obtain⟨u,rfl,q⟩:=sU k;cases q;obtain⟨t,u,v,er⟩:=T.hok r _ n;refine abD (A:=X.A) (T.ok.hd m) er ok λi y c p a=>?_;have x:=AO a;have g:Inv X f z U {s with heap:=i,toks:=y}:=T.kept p;refine⟨.ref _,_,g.laid (λb o e=>jT _ e) (kc _) (show B9 X.prog X.w _ _ _ (.tup<|Ln lo d) from⟨?_,c.toList,x,by have:=DR i c;simpa using this⟩),rfl,h _ g.fresh⟩;have:=ok.2.2.2.2;simp only[Ln,jM,m6,jQ];omega
noncomputable def NU(mk:List D->D)(o:Bool):List D->Option (D×Bool)
 |[.int j]=>if HV 0 j then J (mk<|jD 0 j.toNat,o) else C
 |[.int i,.int j]=>if HV i j then J (mk<|jD i (j-i).toNat,o) else C
 |_=>C
def IZ{K U}(lo a:Int):AF K U O (jD lo (a-lo).toNat) (Ln lo a):=acf lo _
variable {a b:iK}{n m:FO}{p g d f:bu}
def Fg(h:upd U r o l=C):U l=C:=by
 by_cases e:l=r
 .subst e;rw[jl] at h;cases h
 .rwa [ji e] at h
def Dk{K:jb}{T q:BL}{s:L2.St}{r c:Dn}{U o:Hp}{os:List Cm}{l:List V}{e:List D}(B:Ops K T s r U os l c o q)(h:uZ c os=J e){is:iR}(hd:e=is.map .int):l=is.map .int:=by
 obtain⟨h1,t⟩:=pR h;apply Ar;intro j;by_cases k:j<A0 is
 .rw[uI B h (j:=j) (i:=is[j])<|by rw[hd];simp[k]];simp[k]
 .have u:=B.len;subst hd;simp at h1;rw[hU<|by lia,hU<|by simp;lia]
def UH{T:String}{z:aw}{mk:List D->D}{o:Bool}(hT:(T="list"/\mk= .lst/\o=B8)\/(T="tuple"/\mk= .tup/\o=B6))(U:X.calm=B8)(Y:Gl X z)(hm:X.mg z=AX)(hv:aA z=A7 (.type T))(hn:z≠"__name__")(i8:(z==("__debug__":aw))=B6)
  (J:Gl X "range")(O:X.mg "range"=AX)(N:PA X [a,b] (tA X.K [n,m]))
  (s1:ag [.Call (.Name "range" g) [a,b] [] f] X.env=(B6,aM (.Call (.Name "range" g) [a,b] [] f) X.env)::ag [] X.env)(s2:ag [a,b] X.env=(B6,aM a X.env)::ag [b] X.env)
  (M:(aQ d<|ag [] X.env).any (·.1)=B6)(G:(aQ f<|ag [b] X.env).any (·.1)=B6):
  PX X (.Call (.Name z p) [.Call (.Name "range" g) [a,b] [] f] [] d) (jq (NU mk o) [n,m]):=by
 have t: ∀{w c:Dn} {os:List Cm},kO [n,m] w=A7 (os,c)->os.length=2:=λ{w c os} h1=>by unfold kO at h1;obtain⟨p,q1,h1⟩:=iC h1;obtain⟨q,v,h1⟩:=iC h1;unfold kO at v;obtain⟨p3,q3,v⟩:=iC v;obtain⟨q4,F,v⟩:=iC v;unfold kO at F;cases F;obtain⟨rfl,rfl⟩:=jd h1;cases v;rfl
 rcases hT with⟨rfl,rfl,rfl⟩|⟨rfl,rfl,rfl⟩
 .refine PX.imp (rg (abE U) Y hm hv (lD (rg C9 J O DW N (by decide) (by decide) s2 G) oK s1) hn i8 s1 M) λZ H Q C=>?_;obtain⟨w,T,S,L,E,e,k⟩:=C;obtain⟨⟨os,c⟩,h1,e⟩:=iC e;obtain⟨R,y,e⟩:=iC e;obtain⟨W,h,e⟩:=iC e;obtain⟨rfl,rfl⟩:=jd e;refine⟨w,T,os,c,E,h1,λV x P B=>?_⟩;unfold NU at h;split at h
  .obtain⟨s,_⟩:=pR y;have:=t h1;simp at s;omega
  .rename_i i j;obtain⟨ok,rfl⟩:=jf h;refine⟨i,j,Dk B y (is:=[i,j]) AU,λr A=>⟨r,i,j,rfl,jl,ok,λl s=>?_⟩⟩;have I: ∀a u,x a=A7 u->upd (upd x r<|.rng i j) l (.lst<|Ln i j) a=A7 u:=λa u e=>lQ s a u<|lQ A a u e;exact(B.done k) l _ (Fg s) I ⟨Ln i j,jl,IZ i j⟩
  .cases h
 .refine PX.imp (rg (abl U) Y hm hv (lD (rg C9 J O DW N (by decide) (by decide) s2 G) oK s1) hn i8 s1 M) λZ H Q C=>?_;obtain⟨w,T,S,L,E,e,k⟩:=C;obtain⟨⟨os,c⟩,h1,e⟩:=iC e;obtain⟨R,y,e⟩:=iC e;obtain⟨W,h,e⟩:=iC e;obtain⟨rfl,rfl⟩:=jd e;refine⟨w,T,os,c,E,h1,λV x P B=>?_⟩;unfold NU at h;split at h
  .obtain⟨s,_⟩:=pR y;have:=t h1;simp at s;omega
  .rename_i i j;obtain⟨ok,rfl⟩:=jf h;refine⟨i,j,Dk B y (is:=[i,j]) AU,λr A=>⟨r,i,j,rfl,jl,ok,λl s=>?_⟩⟩;have I: ∀a u,x a=A7 u->upd (upd x r<|.rng i j) l (.tup<|Ln i j) a=A7 u:=λa u e=>lQ s a u<|lQ A a u e;exact(B.done k) _ _ I (Rep.Kq ⟨jl,B.np<|OD<|Fg s⟩<|IZ i j)
  .cases h
end
def Src(h:iX)(a l:iE)(i:Nat)(b:lI):Prop:=(h.IsListIter a l i/\h.IsList l b)\/(h.IsTupleIter a l i/\h.IsTuple l b)
section
variable {prog:ja}{w:iW}{A:iY}{E:jt}{s:iJ}{it l:iE}{i:Nat}{xs:lI}
def Src.ne(x:Src h it l i xs):l≠it:=by intro e;subst e;rcases x with⟨⟨o,h1,b,a⟩,c,g1,g2,n,g3⟩|⟨⟨o,h1,b,a⟩,c,g1,g2,n,g3⟩<;>(rw[h1] at g1;cases g1;rw[a] at g3;cases g3)
def Src.lt(x:Src h it l i xs):it<h.objs.size/\l<h.objs.size:=by rcases x with⟨⟨o,h1,_⟩,a,g1,_⟩|⟨⟨o,h1,_⟩,a,g1,_⟩<;>exact⟨jW h1,jW g1⟩
def Src.keep(x:Src h it l i xs)(c: ∀o,h.get? it=J o->h'.get? it=J o)(d: ∀o,h.get? l=J o->h'.get? l=J o):Src h' it l i xs:=by
 rcases x with⟨⟨o,h1,r⟩,a,g1,b⟩|⟨⟨o,h1,r⟩,a,g1,b⟩
 .exact .inl ⟨⟨o,c _ h1,r⟩,a,d _ g1,b⟩
 .exact .inr ⟨⟨o,c _ h1,r⟩,a,d _ g1,b⟩
def Cu{Q:jt}(c:s.heap.IsTupleIter it l i)(q:s.heap.IsTuple l xs)(n: ∀x,xs[i]?=J x-> ∀b,b.IsTupleIter it l (i+1)->aP it s.heap b->Q x {s with heap:=b})
  (g:xs[i]?=C->A.handled=C/\ ∀b e,fR it s.heap b->(∃o,b.get? e=J o/\o.cls= .type "StopIteration")->E (.ref e) {s with heap:=b}):ah (ai prog w) A (aK<|.ref it) Q E s:=by
 obtain⟨o,d,p,hd⟩:=id c;obtain⟨t,k,_,r,j⟩:=q;unfold aK;refine iF<|tQ (name:=bD "__next__") c.typeIs Md<|qM Md c.typeIs F.entry_tuple_iterator_next ?_<|F.args_tuple_iterator_next_1 _;refine iF (m:=field (.ref it) 0)<|rO d hd (x:= .ref l) H ?_;show ah _ _ (if(aX l==ap)=I then _ else _) _ _ s;rw[jc (by show ¬(aX l==ap)=I;exact ki)];refine iF (m:=field (.ref it) 1)<|rO d hd (x:= .int i 0) H ?_;refine iF (m:=gj<|.ref l)<|sN k j ?_
 cases f:xs[i]? with
 |some x=>simp only[tJ,f];refine iF<|wm d hd (by simp)<|iP ⟨x,rfl,iP<|n x f _ ⟨_,sO _ d (DK<|vn hd _),(DJ ..).trans p,?_⟩ (sM ..)⟩;rw[vn hd];simp[cP]
 |none=>
  obtain⟨h,g⟩:=g f;simp only[tJ,f];refine iF<|vt<|iF<|wm d hd (by simp) ?_;refine iF (m:=l6 (.type "StopIteration") []) ?_;simp -iota only[l6,IX];refine iF<|nr (iF (m:=cF _ _)<|qJ (a:=ap) (by first|rfl|(simp -iota only[cF];rfl)) ?_) (by size_fits);refine nr ?_ (by size_fits);simp -iota only[IR];refine iF<|G4 ?_
  first|rw[show A.in1.handled=C from h]|rw[h]
  exact iF<|iP<|G3<|g _ _ (((sM ..).extBut.push _).push _) ⟨_,kh _ rfl,rfl⟩
def Src.item{x:iN}{Q:jt}(st:Src s.heap it l i xs)(g:xs[i]?=J x)(h: ∀c,Src c it l (i+1) xs->aP it s.heap c->Q x {s with heap:=c}):
  ah (ai prog w) A (aK<|.ref it) Q E s:=by
 have ne:=st.ne;rcases st with⟨a,b⟩|⟨a,b⟩
 .exact wpAny_nextOf_list_item a b g λc f d=>h c (.inl ⟨f,b.extBut d.extBut ne⟩) d
 .exact Cu a b (λj e c f d=>by rw[g] at e;cases e;exact h c (.inr ⟨f,b.extBut d.extBut ne⟩) d) λe=>by rw[g] at e;cases e
def Src.stop{Q:jt}(f:A.handled=C)(st:Src s.heap it l i xs)(g:xs[i]?=C)
  (d: ∀c e,fR it s.heap c->(∃o,c.get? e=J o/\o.cls= .type "StopIteration")->E (.ref e) {s with heap:=c}):ah (ai prog w) A (aK<|.ref it) Q E s:=by
 rcases st with⟨a,b⟩|⟨a,b⟩
 .exact wpAny_nextOf_list_end f a b g d
 .exact Cu a b (λx e=>by rw[g] at e;cases e) λ_=>⟨f,d⟩
def Src.new(a:s.heap.IsList l xs\/s.heap.IsTuple l xs)(d: ∀c,Src c s.heap.objs.size l 0 xs->c.objs.size=s.heap.objs.size+1->(∀b o,s.heap.get? b=J o->c.get? b=J o)->Q (.ref s.heap.objs.size) {s with heap:=c}):
  ah (ai prog w) A (dD<|.ref l) Q E s:=by
 rcases a with a|a
 .exact yE a (d _ (.inl ⟨⟨_,kh _ rfl,rfl,rfl⟩,a.push _⟩) (qK ..) λb o e=>jT _ e)
 .exact Hh a (d _ (.inr ⟨⟨_,kh _ rfl,rfl,rfl⟩,a.push _⟩) (qK ..) λb o e=>jT _ e)
end
section
variable {a:ja}{w:iW}{A:iY}{E:jt}{s:iJ}{e d l:iE}{i:Nat}{c:Int}{b:lI}
end
section
variable {X:Cx}{d:ju}{g:L2.St}{H:Hp}{s:iJ}{f:iX}
def adg{t':Nat}{ch:kB}{a:iE}{o:HO}(U:Inv X d g H s)(j: ∀b∈ch,uB X d H b)(k: ∀b u,b∉ch->s.heap.get? b=J u->f.get? b=J u)(p:s.heap.objs.size<=a)(new:B9 X.prog X.w (upd H a o) f a o):
  Inv X d g (upd H a o) {s with heap:=f,toks:=t'}:=by
 have L:=U.hok.fresh p;have l: ∀b u,H b=J u->b∉ch:=λb u e z=>by have:=(j b z).1;rw[this] at e;cases e
 have up: ∀b u,H b=J u->upd H a o b=J u:=λb u e=>by rw[ji<|la e L];exact e
 have N: ∀b u,s.heap.get? b=J u->H b=C->upd H a o b=C:=λb u e n=>by rw[ji λz=>by subst z;exact absurd (jW e)<|P7.mpr p];exact n
 refine U.step (g':=s.gens) (d':=s.drawn) (ch:=ch) (λb i=>?_) (λb u _ _ h e _=>k b u h e) (λb u _ _ h e _=>⟨u.slots,k b u h e⟩) (λb u _ e n=>N b u e n)
  (λb u h e=>⟨u,k b u h e⟩) (λb Q e=>up b _ e) (λb _ _ e=>up b _ e) (λb T e=>⟨#[],by rw[up b _ e];simp⟩) (λm E=>?_) (λb u e=>?_) U.bare
 .obtain⟨_,f1,f2,y,A,B⟩:=j b i;exact⟨y,f1,A,B⟩
 .obtain⟨u,x,t,O,r⟩:=E;exact⟨u,x,t,k _ u (λz=>(j _ z).2.1 AU) O,r⟩
 .by_cases i:b=a
  .subst i;rw[jl] at e;cases e;exact new
  .rw[ji i] at e;refine(U.hok b u e).Ca (λc v h q=>k c v ?_ q) (λc q=>up c _ q) (λc Q q=>up c _ q) λc _ _ q=>up c _ q;rcases h with z|z
   .rw[z];exact l b u e
   .exact l c _ z
def adh{t':Nat}{ch:kB}(U:Inv X d g H s)(h: ∀b∈ch,uB X d H b)(k: ∀b u,b∉ch->s.heap.get? b=J u->f.get? b=J u):Inv X d g H {s with heap:=f,toks:=t'}:=by
 have i: ∀b u,H b=J u->b∉ch:=λb u e z=>by have:=(h b z).1;rw[this] at e;cases e
 refine U.step (g':=s.gens) (d':=s.drawn) (ch:=ch) (λb w=>?_) (λb u _ _ a e _=>k b u a e) (λb u _ _ a e _=>⟨u.slots,k b u a e⟩) (λb u _ e n=>n)
  (λb u a e=>⟨u,k b u a e⟩) (λb A e=>e) (λb _ _ e=>e) (λb B e=>⟨#[],by rw[e];simp⟩) (λm x=>?_) (λb u e=>?_) U.bare
 .obtain⟨_,f1,f2,o,p,t⟩:=h b w;exact⟨o,f1,p,t⟩
 .obtain⟨u,l,j,y,r⟩:=x;exact⟨u,l,j,k _ u (λz=>(h _ z).2.1 AU) y,r⟩
 .refine(U.hok b u e).Ca (λc v a q=>k c v ?_ q) (λc q=>q) λc A q=>q;rcases a with z|z
  .rw[z];exact i b u e
  .exact i c _ z
end
def KW(b:Bool)(K:jb)(U:Hp)(l:iE)(a:List V):Prop:=if b=I then Fp K U l a else Hu K U l a
def Lb(b:Bool)(h:iX)(a l:iE)(i:Nat):Prop:=if b=I then h.IsListIter a l i else h.IsTupleIter a l i
def Lb.keep(x:Lb b h it l i)(k: ∀o,h.get? it=J o->h'.get? it=J o):Lb b h' it l i:=by
 cases b
 .exact PySem.Heap.IsTupleIter.at (show h.IsTupleIter it l i from x) k
 .exact PySem.Heap.IsListIter.at (show h.IsListIter it l i from x) k
def Lb.obj(x:Lb b h it l i): ∃o,h.get? it=J o/\ ∀v,o.data≠ .cell v:=by
 cases b<;>(obtain⟨o,e,c,d⟩:=x;exact⟨o,e,λv z=>by rw[d] at z;cases z⟩)
section
variable {X:Cx}{d:ju}{e:L2.St}{H:Hp}{s:iJ}
def zT(U:Inv X d e H s)(q:KW b X.K H l xs)(t:Lb b s.heap it l i): ∃a,Vals xs a/\Src s.heap it l i a.toArray:=by
 cases b with
 |true=>obtain⟨a,v,p,_⟩:=U.list q;exact⟨a,v,.inl ⟨t,p.isList⟩⟩
 |false=>obtain⟨a,v,p,_⟩:=U.tuple q;exact⟨a,v,.inr ⟨t,p⟩⟩
def IS(U:Inv X d e H s)(q:KW b X.K H l xs)(a:KW b X.K H l c):xs=c:=by
 cases b with
 |true=>exact U.HF q a
 |false=>exact U.FY q a
def OE(t:Lb b h it l i)(m:Src h it l i xs)(j:Src k it l p xs)(n: ∀o,h.get? l=J o->k.get? l=J o):Lb b k it l p:=by
 cases b with
 |true=>
  rcases j with⟨a,_⟩|⟨a,c⟩
  .exact a
  .rcases m with⟨_,o,h1,f,_⟩|⟨⟨o,h1,f,_⟩,_⟩
   .obtain⟨g,g1,g2,_⟩:=c;rw[n _ h1] at g1;cases g1;rw[f] at g2;injection g2 with g2;exact absurd g2 (by decide)
   .obtain⟨g,g1,g2,_⟩:=t;rw[h1] at g1;cases g1;rw[f] at g2;injection g2 with g2;exact absurd g2 (by decide)
 |false=>
  rcases j with⟨a,c⟩|⟨a,_⟩
  .rcases m with⟨⟨o,h1,f,_⟩,_⟩|⟨_,o,h1,f,_⟩
   .obtain⟨g,g1,g2,_⟩:=t;rw[h1] at g1;cases g1;rw[f] at g2;injection g2 with g2;exact absurd g2 (by decide)
   .obtain⟨g,g1,g2,_⟩:=c;rw[n _ h1] at g1;cases g1;rw[f] at g2;injection g2 with g2;exact absurd g2 (by decide)
  .exact a
end
def Hs{K U}(q:KO b K U P a xs):KW b K U a xs:=by
 cases b with
 |true=>exact q.l
 |false=>exact q.t
open AutoSeq1 (wpAny_loadPart')
section
variable {a:ja}{w:iW}{A:iY}{E:jt}{s:iJ}
end
section
variable {X:Cx}{a:ju}{e:L2.St}{H:Hp}{s:iJ}{d:kD}{h:Nat}{g:bu}
def MX(U:Inv X a e H s)(q:KW b X.K H l xs): ∃c,Vals xs c/\(s.heap.IsList l c.toArray\/s.heap.IsTuple l c.toArray):=by
 cases b with
 |true=>obtain⟨c,v,p,_⟩:=U.list q;exact⟨c,v,.inl p.isList⟩
 |false=>obtain⟨c,v,p,_⟩:=U.tuple q;exact⟨c,v,.inr p⟩
noncomputable def VF(c:Int)(f:F):Fi:=λb=>(f b).bind λp=>match p.1.1 with
 | .tup l=>J (l.zipIdx.map λq=> .tup [.int<|c+q.2,q.1],p.2)
 | .lst l=>J (l.zipIdx.map λq=> .tup [.int<|c+q.2,q.1],p.2)
 |_=>C
end
section
variable {j:ja}{w:iW}{A:iY}{E:jt}{s:iJ}{z TI TO f d n l:iE}{k:Nat}{i g:lI}{x y a b:iN}
def Tv{Q:jt}(D:pp z TI TO f d n l)(hz:eI s.heap z TI TO .none)(t6:ce s.heap TI (.ref f) (.ref d))(w5:ce s.heap TO a b)(h1:Src s.heap f n k i)(h2:Src s.heap d l k g)
  (hQ: ∀x y,i[k]?=J x->g[k]?=J y-> ∀J',eI J' z TI TO (cP s.heap.objs.size)->ce J' TO x y->Src J' f n (k+1) i->Src J' d l (k+1) g->ce J' s.heap.objs.size x y->(∀c o,c≠z->c≠TO->c≠f->c≠d->s.heap.get? c=J o->J'.get? c=J o)->Q (.ref s.heap.objs.size) {s with heap:=J'})
  (hE:i[k]?=AX\/g[k]?=AX->A.handled=AX/\ ∀J' e,(∀c o,c≠z->c≠TO->c≠f->c≠d->s.heap.get? c=J o->J'.get? c=J o)->(∃o,J'.get? e=J o/\o.cls= .type "StopIteration")->E (.ref e) {s with heap:=J'}):
  ah (ai j w) A (bz.«zip.__next__» ⟨[.ref z],[]⟩) (λfin s'=> ∃v,fin= .done (.ret v)/\Q v s') E s:=by
 have L: ∀{h:iX} {e:iE} {oe:eE} {f0:iN},eI h z TI TO f0->h.get? e=J oe->oe.cls= .type "StopIteration"->e≠z:=λhzz cM bV q=>by subst q;have V:_=_:=hzz;rw[cM] at V;cases V;injection bV with bV;exact absurd bV (by decide)
 refine iF (m:=field (.ref z) 2)<|rO hz AU (x:= .bool B6) AU<|iF (m:=field (.ref z) 3)<|rO hz AU (x:= .ref TI) AU<|iF<|sN t6 AU<|iF (m:=c9<|.ref z) ?_;unfold c9;refine iF<|rO hz AU (x:= .none) AU<|iP ?_;simp -iota only[kE];refine iF<|vt<|iF<|rO hz AU (x:= .ref TO) AU<|iF<|Aq hz (by simp) λH dR R=>?_;replace dR:eI H z TI TO .ellipsis:=dR;refine iF ?_;simp -iota only[nP,List.zipIdx_nil,el,te];have c1:Src H f n k i:=h1.keep (λo e=>R.extBut _ o D.i1z e) λo e=>R.extBut _ o D.l1z e
 cases hx:i[k]? with
 |none=>obtain⟨hh,hE⟩:=hE<|.inl hx;refine iF<|iF<|Ap<|iF (m:=aK<|.ref f)<|c1.stop (s:={s with heap:=H}) hh hx λr e G a'=>?_;obtain⟨oe,cM,bV⟩:=a';have N:eI r z TI TO .ellipsis:=G _ _ D.i1z.symm dR;exact Aq (s:={s with heap:=r}) N (by simp) λt _ T=>hE t e (λc o O _ d3 _ q=>T.extBut _ _ O (G _ _ d3 (R.extBut _ _ O q))) ⟨oe,T.extBut _ _ (L N cM bV) cM,bV⟩
 |some x=>
  refine iF<|iF<|Ap<|iF (m:=aK<|.ref f)<|c1.item (s:={s with heap:=H}) hx λr X G=>iP ?_;have B:ce r TO a b:=G.extBut _ _ D.TOi1 (R.extBut _ _ D.TOz w5);refine iF<|sN (s:={s with heap:=r}) B AU<|iF<|Mc (s:={s with heap:=r}) B λt dc T=>iF<|wk<|iP ?_;replace dc:ce t TO x b:=dc;have c2:Src t d l k g:=h2.keep (λo e=>T.extBut _ o D.TOi2.symm (G.extBut _ o D.i12.symm (R.extBut _ o D.i2z e))) λo e=>T.extBut _ o D.l2TO (G.extBut _ o D.l2i1 (R.extBut _ o D.l2z e))
  cases hy:g[k]? with
  |none=>obtain⟨hh,hE⟩:=hE<|.inr hy;refine iF<|iF<|Ap<|iF (m:=aK<|.ref d)<|c2.stop (s:={s with heap:=t}) hh hy λu e bC a'=>?_;obtain⟨oe,cM,bV⟩:=a';have U:eI u z TI TO .ellipsis:=bC _ _ D.i2z.symm (T.extBut _ _ D.TOz.symm (G.extBut _ _ D.i1z.symm dR));exact Aq (s:={s with heap:=u}) U (by simp) λp _ P=>hE p e (λc o O d2 d3 d4 q=>P.extBut _ _ O (bC _ _ d4 (T.extBut _ _ d2 (G.extBut _ _ d3 (R.extBut _ _ O q))))) ⟨oe,P.extBut _ _ (L U cM bV) cM,bV⟩
  |some y=>
   refine iF<|iF<|Ap<|iF (m:=aK<|.ref d)<|c2.item (s:={s with heap:=t}) hy λu c2₄ bC=>iP ?_;have C:ce u TO x b:=bC.extBut _ _ D.TOi2 dc;refine iF<|sN (s:={s with heap:=u}) C AU<|iF<|Mc (s:={s with heap:=u}) C λp bX P=>iF<|wk<|iP<|iP ?_;replace bX:ce p TO x y:=bX;refine iF<|sN (s:={s with heap:=p}) bX AU<|iF<|G2 (s:={s with heap:=p}) ?_;have hsz:p.objs.size=s.heap.objs.size:=by rw[P.1,bC.1,T.1,G.1,R.1]
   have Y:eI p z TI TO .ellipsis:=P.extBut _ _ D.TOz.symm (bC.extBut _ _ D.i2z.symm (T.extBut _ _ D.TOz.symm (G.extBut _ _ D.i1z.symm dR)));have hk₅: ∀c o,c≠z->c≠TO->c≠f->c≠d->s.heap.get? c=J o->p.get? c=J o:=λc o O d2 d3 d4 e=>P.extBut _ _ d2 (bC.extBut _ _ d4 (T.extBut _ _ d2 (G.extBut _ _ d3 (R.extBut _ _ O e))));have Z:Src p f n (k+1) i:=X.keep (λo e=>P.extBut _ o D.TOi1.symm (bC.extBut _ o D.i12 (T.extBut _ o D.TOi1.symm e))) λo e=>P.extBut _ o D.l1TO (bC.extBut _ o D.l1i2 (T.extBut _ o D.l1TO e));have c2₅:Src p d l (k+1) g:=c2₄.keep (λo e=>P.extBut _ o D.TOi2.symm e) λo e=>P.extBut _ o D.l2TO e;have S:z<p.objs.size:=jW Y;refine iF (m:=c6 (.ref z)<|.ref p.objs.size) ?_;unfold c6;have hz₆:eI (p.push {cls:= .type "tuple",data:= .seq #[x,y]}) z TI TO .ellipsis:=jT _ Y;refine iF<|Aq (s:={s with heap:=p.push {cls:= .type "tuple",data:= .seq #[x,y]}}) hz₆ (by simp) λW gq F=>?_;replace gq:eI W z TI TO (cP p.objs.size):=gq;refine Aq (s:={s with heap:=W}) gq (by simp) λI eX K=>?_;replace eX:eI I z TI TO (cP p.objs.size):=eX;have up: ∀c o,c≠z->p.get? c=J o->I.get? c=J o:=λc o O e=>K.extBut _ _ O (F.extBut _ _ O (jT _ e));have M:ce I p.objs.size x y:=K.extBut _ _ (pD S) (F.extBut _ _ (pD S) (kh _ rfl));rw[hsz] at eX M;refine iP ⟨_,rfl,?_⟩;show Q (.ref p.objs.size) _;rw[hsz];exact hQ x y hx hy I eX (up _ _ D.TOz bX) (Z.keep (λo e=>up _ o D.i1z e) λo e=>up _ o D.l1z e) (c2₅.keep (λo e=>up _ o D.i2z e) λo e=>up _ o D.l2z e) M λc o O d2 d3 d4 e=>up c o O<|hk₅ c o O d2 d3 d4 e
def AQ{Q:Iw}(D:pp z TI TO f d n l)(t:eI s.heap z TI TO .none)(U:ce s.heap TI (.ref f) (.ref d))(M:ce s.heap TO a b)(h1:Src s.heap f n k i)(I:Src s.heap d l k g)
  (L: ∀x y,i[k]?=J x->g[k]?=J y-> ∀h,eI h z TI TO (cP s.heap.objs.size)->ce h TO x y->Src h f n (k+1) i->Src h d l (k+1) g->ce h s.heap.objs.size x y->(∀c o,c≠z->c≠TO->c≠f->c≠d->s.heap.get? c=J o->h.get? c=J o)->Q (J<|.ref s.heap.objs.size) {s with heap:=h})
  (m:i[k]?=AX\/g[k]?=AX->A.handled=AX/\ ∀h,(∀c o,c≠z->c≠TO->c≠f->c≠d->s.heap.get? c=J o->h.get? c=J o)->Q AX {s with heap:=h}):
  ah (ai j w) A (b6<|.ref z) Q E s:=by
 have p:s.TypeIs (.ref z) "zip":=⟨_,t,rfl⟩
 unfold b6
 exact iF (rE (tQ (name:=bD "__next__") p F.slot_zip_next (qM F.slot_zip_next p F.entry_zip_next
  (Tv D t U M h1 I (λx y q r h a1 u v B C N=>iP<|L x y q r h a1 u v B C N) λq=>⟨(m q).1,λh e hk ⟨o,G,O⟩=>iF<|yv (T:="StopIteration") (b:=B8) ⟨o,G,O⟩ GZ<|iP<|(m q).2 _ hk⟩) (F.args_zip_next_1 _))))
end
def Qd(j c:iE)(l i:lI):Meets (bz.«zip.__new__» ⟨[.type "zip",.ref j,.ref c],[]⟩) (λ_ R s=>(s.heap.IsList j l\/s.heap.IsTuple j l)/\(s.heap.IsList c i\/s.heap.IsTuple c i)/\
  ∀h1 a,Src h1 s.heap.objs.size j 0 l->h1.objs.size=s.heap.objs.size+1->(∀b o,s.heap.get? b=J o->h1.get? b=J o)->Src a h1.objs.size c 0 i->a.objs.size=h1.objs.size+1->(∀b o,h1.get? b=J o->a.get? b=J o)->
   R (.ok<|.ret<|.ref ((a.push {cls:= .type "tuple",data:= .seq #[.ref s.heap.objs.size,.ref h1.objs.size]}).push {cls:= .type "tuple",data:= .seq #[.none,.none]}).objs.size)
    {s with heap:=((a.push {cls:= .type "tuple",data:= .seq #[.ref s.heap.objs.size,.ref h1.objs.size]}).push {cls:= .type "tuple",data:= .seq #[.none,.none]}).push {cls:= .type "zip",data:= .fields #[.none,.bool Y,.bool Y,.ref a.objs.size,.ref (a.push {cls:= .type "tuple",data:= .seq #[.ref s.heap.objs.size,.ref h1.objs.size]}).objs.size]}}):=
 .of_wp λm w A R s h=>by
  obtain⟨y,g,d,v,os⟩:=s;obtain⟨u,x,h⟩:=h;have z:=sub_zip
  wp_walk using Src.new u
  intro h1 a1 n k
  have f:h1.IsList c i\/h1.IsTuple c i:=by
   rcases x with⟨o,e,r⟩|⟨o,e,r⟩
   .exact .inl ⟨o,k _ _ e,r⟩
   .exact .inr ⟨o,k _ _ e,r⟩
  wp_walk using Src.new (s:=⟨h1,g,d,v,os⟩) f
  intro a p q t
  wp_walk
  exact⟨_,rfl,h h1 a a1 n k p q t⟩
noncomputable def ItZ(c d:Bool)(K:jb)(e f:iE):It:=⟨λi U=> ∃a b x y,KW c K U e a/\KW d K U f b/\a[i]?=J x/\b[i]?=J y,
 λi U x g=> ∃(T:iE) (u v:V),x= .ref T/\U T=C/\g=upd U T (.tup [u,v])/\ ∀a b,KW c K U e a->KW d K U f b->a[i]?=J u/\b[i]?=J v,
 λi U=> ∃a b,KW c K U e a/\KW d K U f b/\(A0 a<=i\/(A0 b)<=i)⟩
structure ZA(z TI TO i1 i2:iE):Prop where
 a1:TI≠z
 a2:TO≠z
 a3:i1≠z
 a4:i2≠z
 a5:TI≠TO
 a6:TI≠i1
 a7:TI≠i2
 a8:TO≠i1
 a9:TO≠i2
 a10:i1≠i2
def xa{b:Bool}{K:jb}{U:Hp}{l:iE}{m:List V}{X:Cx}{c:ju}{p:L2.St}{s:iJ}(T:Inv X c p U s)(k:X.K=K)(q:KW b K U l m){h:kB}(i: ∀a∈h,uB X c U a):l∉h:=by
 subst k;intro j;have d:=(i l j).1
 have base: ∀o,X.K.lookup l=J o->False:=λo e=>by
  have g:=T.mod.kin l o e;rcases(i l j).2.2.2.1 with z|z
  .exact T.ok.noex l o g z
  .have:=(T.ok.bs l o g).1;exact absurd (jW this)<|P7.mpr z
 cases b with
 |true=>
  rcases q with(q|⟨o,q⟩)|⟨o,f,n,e,_⟩
  .rw[d] at q;cases q
  .rw[d] at q;cases q
  .exact base o e
 |false=>
  rcases q with(q|⟨o,q⟩)|⟨o,f,n,e,_⟩
  .rw[d] at q;cases q
  .rw[d] at q;cases q
  .exact base o e
def ad0{P:ja}{w:iW}{K:jb}{elts:kD}{k1}{pos:bu}(b1 b2:Bool)(z TI TO m n J M:iE)(D:ZA z TI TO m n):
  Turn P w K (.Tuple elts k1 pos) (ItZ b1 b2 K J M) [z,TI,TO,m,n] z (λi h=>eI h z TI TO .none/\ce h TI (.ref m) (.ref n)/\(∃a b,ce h TO a b)/\Lb b1 h m J i/\Lb b2 h n M i) where
 mem:=by simp
 obj:=λi h st a G=>by
  obtain⟨l,p,⟨u,v,C⟩,s1,B⟩:=st;simp only[kW,mh,nq] at G;rcases G with rfl|rfl|rfl|rfl|rfl
  .exact⟨_,l,λv e=>by have Y:w9 _=gJ v:=e;cases Y⟩
  .exact⟨_,p,λv e=>by have Y:Td _ _=gJ v:=e;cases Y⟩
  .exact⟨_,C,λv e=>by have Y:Td _ _=gJ v:=e;cases Y⟩
  .exact s1.obj
  .exact B.obj
 keep:=λi h h' st k=>by obtain⟨l,p,⟨u,v,C⟩,s1,B⟩:=st;exact⟨k z (by simp) _ l,k TI (by simp) _ p,⟨u,v,k TO (by simp) _ C⟩,s1.keep λo q=>k m (by simp) o q,B.keep λo q=>k n (by simp) o q⟩
 item:=by
  intro X hP hw L hc i A s σ H E I t st hg;obtain⟨l,p,⟨a0,b0,C⟩,s1,B⟩:=st;obtain⟨xs,ys,x,y,Q,O,hx,hy⟩:=hg;have d:=xa I L Q t;have f:=xa I L O t;simp only[kW,mh,nq,pA] at d f;subst hP hw L;obtain⟨cC,fY,U⟩:=zT I Q s1;obtain⟨b8,Z,N⟩:=zT I O B;obtain⟨u,hu,ru⟩:=fY.get hx;obtain⟨v,hv,rv⟩:=Z.get hy;have AP:pp z TI TO m n J M:=⟨D.a1,D.a2,D.a3,D.a4,D.a5,D.a6,D.a7,D.a8,D.a9,D.a10,d.1,d.2.2.1,d.2.2.2.1,d.2.2.2.2,f.1,f.2.2.1,f.2.2.2.1,f.2.2.2.2⟩
  refine AQ AP l p C U N (λx' y' q r h' z' t1 c1 c2 hT V=>?_) λq=>absurd q (by simp[hu,hv]);obtain rfl:u=x':=by simpa[hu] using q
  obtain rfl:v=y':=by simpa[hv] using r
  refine⟨.ref s.heap.objs.size,rfl,?_⟩;refine wpAny_letOwnedTupleGo_zip (s:={s with heap:=h'}) z' λT z'' j=>?_;replace j:aP z h' T:=j
  have W: ∀a o,a∉[z,TI,TO,m,n]->s.heap.get? a=A7 o->T.get? a=A7 o:=λa o g q=>by simp only[kW,mh,nq,pA] at g;exact j.extBut a o g.1<|V a o g.1 g.2.2.1 g.2.2.2.1 g.2.2.2.2 q
  have lt: ∀{c o},s.heap.get? c=A7 o->s.heap.objs.size≠c:=λe=>pD<|jW e;have F:ce T s.heap.objs.size u v:=j.extBut _ _ (lt l) hT
  have I1:Inv X A σ (upd H s.heap.objs.size<|.tup [x,y]) {s with heap:=T}:=
   adg (t':=s.toks) I t W (kc _) (show B9 X.prog X.w _ _ _ (.tup [x,y]) from⟨by show 2<=sizeLine;decide,[u,v],.cons ru<|.cons rv .nil,_,F,rfl,0,rfl⟩)
  have R:Lb b1 T m J (i+1):=OE s1 U (c1.keep (λo q=>j.extBut _ o D.a3 q) λo q=>j.extBut _ o d.1 q) λo q=>W J o (by simp only[kW,mh,nq,pA];exact d) q;have S:Lb b2 T n M (i+1):=OE B N (c2.keep (λo q=>j.extBut _ o D.a4 q) λo q=>j.extBut _ o f.1 q) λo q=>W M o (by simp only[kW,mh,nq,pA];exact f) q;refine⟨.ref s.heap.objs.size,_,I1,rfl,⟨_,x,y,rfl,I.fresh,rfl,λbY ys' q1 q2=>by rw[IS I q1 Q,IS I q2 O];exact⟨hx,hy⟩⟩,⟨z'',j.extBut _ _ D.a1 (V _ _ D.a1 D.a5 D.a6 D.a7 p),⟨u,v,j.extBut _ _ D.a2 t1⟩,R,S⟩,λa G=>?_⟩;have n0:=(t a G).1;rw[ji]
  .exact n0
  .intro e;simp only[kW,mh,nq] at G;rcases G with rfl|rfl|rfl|rfl|rfl
   .exact lt l e.symm
   .exact lt p e.symm
   .exact lt C e.symm
   .exact absurd e (jH U.lt.1)
   .exact absurd e (jH N.lt.1)
 done:=by
  intro X hP hw L hc i A s σ H E I t st hg;obtain⟨l,p,⟨a0,b0,C⟩,s1,B⟩:=st;obtain⟨xs,ys,Q,O,hend⟩:=hg;have d:=xa I L Q t;have f:=xa I L O t;simp only[kW,mh,nq,pA] at d f;subst hP hw L;obtain⟨cC,fY,U⟩:=zT I Q s1;obtain⟨b8,Z,N⟩:=zT I O B;have e1:=fY.length;have e2:=Z.length;have AP:pp z TI TO m n J M:=⟨D.a1,D.a2,D.a3,D.a4,D.a5,D.a6,D.a7,D.a8,D.a9,D.a10,d.1,d.2.2.1,d.2.2.2.1,d.2.2.2.2,f.1,f.2.2.1,f.2.2.2.1,f.2.2.2.2⟩
  refine AQ AP l p C U N (λx y q r=>?_) λ_=>⟨I.ok.hd hc,λh' V=>⟨rfl,adh (t':=s.toks) I t λa o g q=>?_⟩⟩
  .have z1:=(Lx.mp q).1;have z2:=(Lx.mp r).1;simp at z1 z2;omega
  simp only[kW,mh,nq,pA] at g;exact V a o g.1 g.2.2.1 g.2.2.2.1 g.2.2.2.2 q
 self:=λ_ _ _ _ _ st h=>ww st.1 h
def aeJ{K:jb}{P O:BL}{g:Hp}{a1 m:iE}{f h:List V}{t A:List D}{r s:Bool}(k:KO r K g P a1 f)(I:AF K g O t f)(l:KO s K g P m h)(L:AF K g O A h)(B: ∀a,P a->O a):
  Lm K (ItZ r s K a1 m) ((t.zip A).map λp=> .tup [p.1,p.2]) P O g:=by
 have sq: ∀{b:Bool} {a:iE} {f:List V},KO b K g P a f-> ∀Hi,(∀a o,g a=A7 o-> ¬P a->Hi a=A7 o)->KW b K Hi a f:=λq Hi c=>Hs<|q.mono c λ_ z=>z;refine⟨λi d Hi hd c=>?_,λi Hi U c=>⟨f,h,sq k Hi c,sq l Hi c,by rw[I.length,L.length];simp at U;lia⟩⟩;rw[kZ] at hd;obtain⟨⟨X,Z⟩,h1,J⟩:=jB hd;obtain⟨M,N⟩:=EZ.mp h1;obtain⟨x,E,F⟩:=I.get M;obtain⟨y,H,R⟩:=L.get N;refine⟨⟨f,h,x,y,sq k Hi c,sq l Hi c,E,H⟩,λv S G=>?_⟩;obtain⟨T,u,w,rfl,C,rfl,Y⟩:=G;obtain⟨g1,g2⟩:=Y f h (sq k Hi c)<|sq l Hi c;rw[E] at g1;cases g1;rw[H] at g2;cases g2;have ext:=lQ (o:= .tup [x,y]) C;refine⟨ext,λW h1 Q=>?_⟩;subst J;exact Rep.Kq ⟨jl,Q T C⟩<|AF.cons (Rep.mono (λb o e n=>ext b o<|c b o e λz=>n<|B b z) (λb j z=>h1 b j z) F)<|AF.cons (Rep.mono (λb o e n=>ext b o<|c b o e λz=>n<|B b z) (λb j z=>h1 b j z) R) AF.nil
section
variable {X:Cx}{d:kD}{n:Nat}{r:bu}
def V7:aA "zip"=J (.type "zip"):=by decide+kernel
def aaw(K:jb)(g:TA):TI:=λk U R=>g k U λh a=> ∃e f b c i j,h=[.ref b,.ref c]/\KW e K a b i/\KW f K a c j/\R (ItZ e f K b c) a
def JL(T:Inv X pins σ U s)(f:KW b X.K U l xs)(c:Src s.heap it l i g):Lb b s.heap it l i:=by
 cases b with
 |true=>
  rcases c with⟨a,_⟩|⟨_,o,h1,e,_⟩
  .exact a
  .obtain⟨_,_,p,_⟩:=T.list f;obtain⟨h,g1,g2,_⟩:=p.isList;rw[h1] at g1;cases g1;rw[e] at g2;injection g2 with g2;exact absurd g2 (by decide)
 |false=>
  rcases c with⟨_,o,h1,e,_⟩|⟨a,_⟩
  .obtain⟨_,_,p,_⟩:=T.tuple f;obtain⟨h,g1,g2,_⟩:=p;rw[h1] at g1;cases g1;rw[e] at g2;injection g2 with g2;exact absurd g2 (by decide)
  .exact a
def UY{a b:iK}{J:TA}{p l:bu}(hg:Gl X "zip")(hm:X.mg "zip"=AX)(A:PA X [a,b] J)(hs:ag [a,b] X.env=(Y,aM a X.env)::ag [b] X.env)(f7:(aQ l<|ag [b] X.env).any (·.1)=Y):
  PI X (.Tuple d n r) (.Call (.Name "zip" p) [a,b] [] l) (aaw X.K J):=by
 intro j s0 M N R L h;refine wt<|um L hg hm V7<|DV (Bo (A l j s0 M N _ L h) λus s a'=>?_) hs f7;obtain⟨vs,H',I',r1,U,Y',T,G,xs,ys,hv,Q,O,q⟩:=a';subst hv;obtain⟨u,v,rfl,ru,rv⟩:=wY r1;cases ru;cases rv;obtain⟨W,_,P⟩:=MX I' Q;obtain⟨D,_,v8⟩:=MX I' O;refine callType_new F.called_zip (by decide) (F.typeCall_zip_2 _ _) (F.newCall_zip_2 _ _) (λobj=>F.args_object_init_3 obj _ _) F.entry_zip_new (Qd T G W.toArray D.toArray) ⟨P,v8,λh1 f S k n V i E=>?_⟩;generalize t:({cls:= .type "tuple",data:= .seq #[.ref s.heap.objs.size,.ref h1.objs.size]}:eE)=g;generalize w:({cls:= .type "tuple",data:= .seq #[.none,.none]}:eE)=o4;have m:(f.push g).objs.size=f.objs.size+1:=qK ..;have z:((f.push g).push o4).objs.size=f.objs.size+2:=by rw[qK,m]
 generalize x:({cls:= .type "zip",data:= .fields #[.none,.bool Y,.bool Y,.ref f.objs.size,.ref (f.push g).objs.size]}:eE)=o5;have g5:(((f.push g).push o4).push o5).get? ((f.push g).push o4).objs.size=A7 o5:=kh _ (by rw[<-x];rfl);have g4:(((f.push g).push o4).push o5).get? (f.push g).objs.size=A7 o4:=jT _ (kh _ (by rw[<-w];rfl));have g3:(((f.push g).push o4).push o5).get? f.objs.size=A7 g:=jT _ (jT _ (kh _ (by rw[<-t];rfl)));have y: ∀c o,f.get? c=A7 o->(((f.push g).push o4).push o5).get? c=A7 o:=λc o e=>jT _ (jT _ (jT _ e));have C:eI (((f.push g).push o4).push o5) ((f.push g).push o4).objs.size f.objs.size (f.push g).objs.size .none:=by show _=_;rw[g5,<-x]
 have t6:ce (((f.push g).push o4).push o5) f.objs.size (.ref s.heap.objs.size) (.ref h1.objs.size):=by show _=_;rw[g3,<-t]
 have w5:ce (((f.push g).push o4).push o5) (f.push g).objs.size .none .none:=by show _=_;rw[g4,<-w]
 have B:Inv X j M H' {s with heap:=((f.push g).push o4).push o5}:=I'.kept (t':=s.toks) λc o e=>y c o<|E c o<|n c o e;have Z:=S.keep (h':=((f.push g).push o4).push o5) (λo e=>y _ o (E _ o e)) λo e=>y _ o (E _ o e);have d2:=V.keep (h':=((f.push g).push o4).push o5) (λo e=>y _ o e) λo e=>y _ o e;refine⟨⟨_,C,rfl⟩,ww (s:={s with heap:=((f.push g).push o4).push o5}) C ?_⟩;refine⟨((f.push g).push o4).objs.size,[((f.push g).push o4).objs.size,f.objs.size,(f.push g).objs.size,s.heap.objs.size,h1.objs.size],_,_,H',rfl,B,ad0 U Y' _ _ _ _ _ T G ⟨?_,?_,?_,?_,?_,?_,?_,?_,?_,?_⟩,⟨C,t6,⟨_,_,w5⟩,JL B Q Z,JL B O d2⟩,λa A=>?_,q⟩
 .rw[z];exact jH<|Nat.lt_add_of_pos_right (by decide)
 .rw[z,m];exact jH<|rH _
 .rw[z,i,k];exact jH (by
   have:s.heap.objs.size<s.heap.objs.size+1+1+2:=by lia
   exact this)
 .rw[z,i];exact jH (by
   have:h1.objs.size<h1.objs.size+1+2:=by lia
   exact this)
 .rw[m];exact jH<|rH _
 .rw[i,k];exact pD (by
   have:s.heap.objs.size<s.heap.objs.size+1+1:=by lia
   exact this)
 .rw[i];exact pD<|rH _
 .rw[m,i,k];exact pD (by
   have:s.heap.objs.size<s.heap.objs.size+1+1+1:=by lia
   exact this)
 .rw[m,i];exact pD (by
   have:h1.objs.size<h1.objs.size+1+1:=by lia
   exact this)
 .rw[k];exact jH<|rH _
 .have le:s.heap.objs.size<=a:=by
   simp only[kW,mh,nq] at A;rcases A with rfl|rfl|rfl|rfl|rfl
   .rw[z,i,k];have:s.heap.objs.size<=s.heap.objs.size+1+1+2:=by lia
    exact this
   .rw[i,k];have:s.heap.objs.size<=s.heap.objs.size+1+1:=by lia
    exact this
   .rw[m,i,k];have:s.heap.objs.size<=s.heap.objs.size+1+1+1:=by lia
    exact this
   .exact kc _
   .rw[k];exact DQ _
  exact I'.M3 le<|I'.hok.fresh le
noncomputable def uq(f g:FO):Fi:=λδ=>(f δ).bind λp=>(g p.2).bind λq=>(res q.2 p.1).bind λx=>(res q.2 q.1).bind λy=>(AN x).bind λl=>(AN y).bind λm=>J ((l.zip m).map λp=> .tup [p.1,p.2],q.2)
def aed{B:SB}{a b:iK}{f g:FO}{p c:bu}(hg:Gl X "zip")(hm:X.mg "zip"=AX)(ha:PO X a f)(hb:PO X b g)(I:Ob B f)(L:Ob B g)(w:ag [a,b] X.env=(B6,aM a X.env)::ag [b] X.env)(G:ag [b] X.env=(B6,aM b X.env)::ag [] X.env)(J:(aQ c<|ag [b] X.env).any (·.1)=B6):
  MV X B (.Tuple d n r) (.Call (.Name "zip" p) [a,b] [] c) (uq f g):=PI.imp' (UY hg hm (xh ha (xh hb Eh G) w) w J) λσ H R F=>by
 obtain⟨δ,T,ds,δ',E,e,k⟩:=F;obtain⟨⟨K,δ1⟩,h1,e⟩:=iC e;obtain⟨⟨P,t⟩,h,e⟩:=iC e;obtain⟨x,M,e⟩:=iC e;obtain⟨y,N,e⟩:=iC e;obtain⟨l,U,e⟩:=iC e;obtain⟨m,Y,e⟩:=iC e;obtain⟨rfl,rfl⟩:=jd e;dsimp only at h;refine⟨δ,T,[K,P],t,E,?_,λS O T1 W=>?_⟩
 .simp only[kO,h1,h,Option.bind]
 .have D:=W.len;rcases S with _|⟨v,_|⟨u,_|⟨_,_⟩⟩⟩<;>try cases D
  .obtain⟨a1,V,rfl,A,q⟩:=W.seq E (j:=0) AU AU M U λi o=>I _ _ _ (o▸h1);obtain⟨Q,Z,rfl,C,s⟩:=W.seq E (j:=1) AU AU N Y λi o=>L _ _ _ (o▸h);exact⟨_,_,a1,Q,V,Z,rfl,Hs A,Hs C,k _ O W.keep (W.er.mono (λ_ _ e _=>e) (λb _ z=>W.tt b z) λa z=>W.er.dom a<|W.tt a z) (aeJ A q C s λa z=>z.own)⟩
end
end PX
namespace TS
def Ask(M:gx)(A:iY)(G:Shared->Prop)(a:Nat->eK)(e:ro)(N:Nat)(lt:Qa):Prop:= ∀i j,i<N->j<N-> ∀s,G s-> ∀c,ah M A (No e (a i).1 (a j).1) (λb d=>G d/\b=lt i j) c s
structure Cs where
 M:gx
 A:iY
 E:iN->Shared->Prop
 G:Shared->Prop
 it:Nat->eK
 lt:Nat->Nat->Bool
 κ:ro
 N:Nat
 as: ∀i j,lt i j=B8->lt j i=B6
 tr: ∀{i j k},lt j i=B6->lt k j=B6->lt k i=B6
 ask:Ask M A G it κ N lt
section
variable {X:Cs}{α β:Type}{f:α->StateT tD ei β}{Q:β->tD->Prop}{st:tD}
def wp(X:Cs){α:Type}(m:StateT tD ei α)(Q:α->tD->Prop)(st:tD):Prop:= ∀s,X.G s->ah X.M X.A (m.run st) (λr a=>X.G a/\Q r.1 r.2) X.E s
def iM{a:β}(h:Q a st):wp X (pure a) Q st:=λs g=>by rw[GY];exact iP ⟨g,h⟩
def ky{m:StateT tD ei α}(h:wp X m (λa c=>wp X (f a) Q c) st):wp X (m>>=f) Q st:=λs g=>by rw[StateT.run_bind];exact iF<|oW (h s g) (λr d b=>b.2 d b.1) λ_ _ e=>e
def IA{m:StateT tD ei α}{Q b:α->tD->Prop}(h:wp X m Q st)(i: ∀a c,Q a c->b a c):wp X m b st:=λs g=>oW (h s g) (λr _ d=>⟨d.1,i _ _ d.2⟩) λ_ _ e=>e
def jv{c:Prop}[Decidable c]{t e:StateT tD ei β}(h1:c->wp X t Q st)(a: ¬c->wp X e Q st):wp X (if c then t else e) Q st:=by split<;>simp_all
def pF{f:tD->StateT tD ei β}(h:wp X (f st) Q st):wp X (get>>=f) Q st:=ky λs g=>by rw[StateT.run_get];exact iP ⟨g,h⟩
def wy{g:tD->tD}{f:PUnit->StateT tD ei β}(h:wp X (f ⟨⟩) Q (g st)):wp X (modify g>>=f) Q st:=ky λs g=>by rw[StateT.run_modify];exact iP ⟨g,h⟩
def IB{m:ei α}(h: ∀s,X.G s->ah X.M X.A m (λa b=>X.G b/\wp X (f a) Q st) X.E s):wp X (liftM m>>=f) Q st:=ky λs g=>by show ah X.M X.A ((StateT.lift m:StateT tD ei α).run st) _ X.E s;rw[StateT.run_lift];exact iF<|oW (h s g) (λa b c=>iP c) λ_ _ e=>e
def uF{x:String}{f:Unit->StateT tD ei β}(h:wp X (f ()) Q st):wp X (liftM (rule x)>>=f) Q st:=IB λs g=>vt ⟨g,h⟩
def Qn{e:Nat}{g:Nat->α->StateT tD ei (ForInStep α)}{T:Nat->α->tD->Prop}{U:α->tD->Prop}
  (m: ∀i c st,i<e->T i c st->wp X (g i c) (λr b=>match r with| .done d=>U d b| .yield d=>T (i+1) d b) st)(l: ∀c st,T e c st->U c st):
  ∀(n a:Nat) (c:α) (st:tD),a+n=e->T a c st->wp X (forIn (bv a n 1) c g) U st:=by
 intro p
 induction p with
 |zero=>intro a c st rfl h;exact iM<|l _ _ h
 |succ n o=>
  intro a c st q h;rw[Ao,el];refine ky<|IA (m a c st (by lia) h) λr b k=>?_
  cases r with
  |done j=>exact iM k
  |yield j=>exact o _ j b (by lia) k
def mM{g:Nat->α->StateT tD ei (ForInStep α)}(T:Nat->α->tD->Prop)(U:α->tD->Prop){a b:Nat}{c:α}(h:T a c st)
  (l: ∀i c st,i<a+(b-a)->T i c st->wp X (g i c) (λr e=>match r with| .done d=>U d e| .yield d=>T (i+1) d e) st)
  (j: ∀c st,T (a+(b-a)) c st->U c st)(k: ∀c st,U c st->wp X (f c) Q st):wp X (forIn [a:b] c g>>=f) Q st:=by
 refine ky<|IA ?_ k;rw[Std.Legacy.Range.forIn_eq_forIn_range'];exact Qn l j _ _ _ _ (by simp[Std.Legacy.Range.size]) h
noncomputable abbrev ar(X:Cs)(l:kb):Array Keyed:=(l.map X.it).toArray
def mx{l:kb}{i x:Nat}{f:eK->StateT tD ei β}(e:l[i]?=J x)(h:wp X (f<|X.it x) Q st):wp X (elem' (ar X l) i>>=f) Q st:=ky (by rw[elem'_eq,show(ar X l)[i]?=J (X.it x) by simp[e]];exact iM h)
def E9{i j:Nat}{f:Option Bool->StateT tD ei β}(hk:kindOf st=X.κ)(k:i<X.N)(l:j<X.N)(h: ∀b,X.lt i j=b->wp X (f<|J b) Q st):wp X (lt' (X.it i) (X.it j)>>=f) Q st:=ky (by rw[lt'_eq];refine pF ?_;rw[hk];refine IB λs g=>rE<|oW (X.ask i j k l s g λ_ _=>False) (λb m c=>?_) λe m d=>d.elim;obtain⟨a,rfl⟩:=c;exact⟨a,iM<|h _ rfl⟩)
structure Rp(X:Cs)(q:Array (Nat×Nat×Nat))(L:kb)(st:tD):Prop where
 a:fQ st=ar X L
 k:kindOf st=X.κ
 f:f8 st=AX
 q:pendingOf st=q
 p:L.Perm (au X.N)
def Rp.n{q:Array (Nat×Nat×Nat)}{L:kb}(R:Rp X q L st){i x:Nat}(e:L[i]?=J x):x<X.N:=by simpa using R.p.mem_iff.mp<|mS e
def Fb{q:Array (Nat×Nat×Nat)}{L:kb}(R:Rp X q L st){i j x y:Nat}{f:Option Bool->StateT tD ei β}(c:L[i]?=J x)(d:L[j]?=J y)(h: ∀b,X.lt x y=b->wp X (f<|J b) Q st):wp X (ltAt' i j>>=f) Q st:=ky (by rw[ltAt'_eq];refine pF ?_;rw[R.a];exact mx c<|mx d<|by rw[<-bind_pure (lt' _ _)];exact E9 R.k (R.n c) (R.n d) λb e=>iM<|h b e)
def ab6{α:Type}(T A R:List α){d:Nat}(hd:d=(A0 A) / 2):mirror (T++(A++R)).toArray (A0 T) (A0 T+A0 A) d=(T++(A.reverse++R)).toArray:=by
 have hd:d=(A0 T+A0 A-A0 T) / 2:=by lia
 subst hd;apply Array.ext_getElem?;intro k;rw[getElem?_mirror_all<|by simp];simp only[hL];by_cases h1:k<A0 T
 .rw[jc<|by lia,sP h1,sP h1]
 .obtain⟨k,rfl⟩:=Nat.exists_eq_add_of_le<|sm h1;rw[qN (by lia) (l₂:=A.reverse++R),GX];by_cases a:k<A0 A
  .rw[iQ<|by lia,qN<|by lia,sP<|by lia,sP<|by simpa using a,List.getElem?_reverse a]
   congr 1;lia
  .rw[jc<|by lia,qN<|by lia,GX,qN<|by lia,qN<|by simpa using a,Mb]
def ace{α:Type}(R:List α)(x:α): ∀(A T:List α) {i:Nat},i=A0 T+A0 A->bubble (T++(A++x::R)).toArray i (A0 A)=(T++(x::(A++R))).toArray:=by
 intro c
 induction c with
 |nil=>intro T i h;exact H
 |cons a A b=>
  intro T i h;have:=b (T++[a]) (i:=i) (by simp at h ⊢;lia);rw[lh,bubble_succ,show T++(a::A++x::R)=T++[a]++(A++x::R) by simp,this];have e:i-A0 A=A0 T+1:=by simp at h;lia
  rw[e,m4];simp[Array.swapIfInBounds]
variable {q:Array (Nat×Nat×Nat)}{T A R:kb}{i j x:Nat}
def MF{b:Cp}{L a:kb}(S:Rp X q L st)(e:b=ar X a)(p:a.Perm L):Rp X q a (setArr st b):=⟨e,S.k,S.f,S.q,p.trans S.p⟩
def Ho{f:Unit->StateT tD ei β}(S:Rp X q (T++(A++R)) st)(c:i=A0 T)(e:j=A0 T+A0 A)(h: ∀b,Rp X q (T++(A.reverse++R)) b->wp X (f ()) Q b):wp X (TD i j>>=f) Q st:=by rw[reverseSlice'_eq];subst c e;refine wy<|h _ (MF S ?_<|((An A).append_right R).append_left T);have:=ab6 (T.map X.it) (A.map X.it) (R.map X.it) (d:=(A0 T+A0 A-A0 T) / 2) (by simp);simpa[ar,S.a] using this
def T8{f:Unit->StateT tD ei β}(S:Rp X q (T++(A++x::R)) st)(c:i=A0 T+A0 A)(d:j=A0 T)(h: ∀b,Rp X q (T++(x::(A++R))) b->wp X (f ()) Q b):wp X (moveDown' i j>>=f) Q st:=by rw[moveDown'_eq];subst c d;refine wy<|h _ (MF S ?_<|P6.symm.append_left T);have:=ace (R.map X.it) (X.it x) (A.map X.it) (T.map X.it) (i:=A0 T+A0 A) (by simp);simpa[ar,S.a] using this
end
abbrev Cs.le(X:Cs)(i j:Nat):Prop:=X.lt j i=Y
section
variable {X:Cs}{o:Type}{Q:o->tD->Prop}{st:tD}{q:Array (Nat×Nat×Nat)}{T A B D R L:kb}{i j x y:Nat}{r:Nat->Nat->Prop}
def Lp(h:i=A0 T+A0 A):(T++(A++x::R))[i]?=J x:=by subst h;simp
def ix1(h:i=A0 T+A0 A+1):(T++(A++x::y::R))[i]?=J y:=by subst h;rw[<-qj,qN<|by simp];simp
def Fq(u:D.Pairwise r)(h: ∀z∈D,r z y):(D++[y]).Pairwise r:=uC.mpr ⟨u,Ma _ _,λa c b d=>E7.mp d▸h a c⟩
def FZ(e: ∀{a b c},r a b->r b c->r a c)(u:(D++[x]).Pairwise r)(h:r x y): ∀z∈D++[x],r z y:=λz d=>by
 rcases sQ.mp d with d|d
 .exact e ((uC.mp u).2.2 z d x jY) h
 .rw[E7.mp d];exact h
def MK{g:Nat->Option (Option Nat)×Nat->StateT tD ei (ForInStep<|Option (Option Nat)×Nat)}{f:Option (Option Nat)×Nat->StateT tD ei o}{lo n m:Nat}
  (p: ∀i n,g i (C,n)=(ltAt' (lo+n) (lo+n-1)>>=λx=>match x with|some b=>if b=I then pure (.done (C,n)) else pure (.yield (C,n+1))|_=>pure<|.done (J C,n)))
  (S:Rp X q (T++(A++x::R)) st)(v:(A0 T)=lo)(t:n=A0 A+1)(a:m=n+R.length)(u:(A++[x]).Pairwise X.le)
  (h: ∀A x R,Rp X q (T++(A++x::R)) st->m=A0 A+1+R.length->(A++[x]).Pairwise X.le->(∀y l,R=y::l->X.lt y x=I)->wp X (f (C,A0 A+1)) Q st):wp X (forIn [n:m] (C,n) g>>=f) Q st:=by
 refine mM (λi c s=>s=st/\c=(C,i)/\ ∃A x R,Rp X q (T++(A++x::R)) st/\i=A0 A+1/\m=i+R.length/\(A++[x]).Pairwise X.le)
  (λc s=>s=st/\ ∃A x R,Rp X q (T++(A++x::R)) st/\c=(C,A0 A+1)/\m=A0 A+1+R.length/\(A++[x]).Pairwise X.le/\ ∀y l,R=y::l->X.lt y x=I) ⟨rfl,rfl,A,x,R,S,t,a,u⟩ ?_ ?_ ?_
 .rintro i c s d ⟨rfl,rfl,A,x,R,S,rfl,h1,u⟩;rw[p];obtain⟨y,l,rfl⟩:=tM (l:=R) (by lia);refine Fb S (ix1<|by lia) (Lp<|by lia) λb e=>?_
  cases b with
  |true=>exact iM ⟨rfl,A,x,_,S,rfl,h1,u,λ_ _ k=>by cases k;exact e⟩
  |false=>exact iM ⟨rfl,rfl,A++[x],y,l,by simpa using S,by simp,by simp at h1;lia,Fq u<|FZ X.tr u e⟩
 .rintro c s ⟨rfl,rfl,A,x,R,S,d,h1,u⟩;exact⟨rfl,A,x,R,S,by rw[d],by lia,u,λy l e=>by subst e;simp at h1;lia⟩
 .rintro c s ⟨rfl,A,x,R,S,rfl,a,u,e⟩;exact h A x R S a u e
def MH{c:Prop}[Decidable c]{k:StateT tD ei o}(S:Rp X q (T++(A++R)) st)(e:i=A0 T)(f:j=A0 T+A0 A)(d: ¬c->A0 A=1)(h: ∀b,Rp X q (T++(A.reverse++R)) b->wp X k Q b):wp X (if c then TD i j>>=λ_=>k else k) Q st:=jv (λ_=>Ho S e f h) λz=>h _ (by obtain⟨a,rfl⟩:=List.length_eq_one_iff.mp<|d z;exact S)
def dnT(d:(A++B).Pairwise λa b=>X.le b a)(u:B.Pairwise X.le):(A++B.reverse).Pairwise λa b=>X.le b a:=by rw[uC] at d ⊢;exact⟨d.1,Hl.mpr u,λa c b e=>d.2.2 a c b<|dE.mp e⟩
def Cs.rf(X:Cs)(i:Nat):X.le i i:=na.mpr λh=>on<|h.symm.trans<|X.as i i h
def SN{k m:StateT tD ei o}(P:tD->Prop)(b:(∀a,P a->wp X k Q a)->wp X m Q st)(hk: ∀a,P a->wp X k Q a):wp X m Q st:=b hk
def adX{lo m:Nat}{Q:Option Nat->tD->Prop}(S:Rp X q (T++x::R) st)(p:(A0 T)=lo)(f:m=1+R.length)(h: ∀A R g,Rp X q (T++(A++R)) g->A≠[]->A.Pairwise X.le->m=A0 A+R.length->Q (J<|A0 A) g):wp X (countRun' lo m) Q st:=by
 have fin: ∀A x R g,Rp X q (T++(A++x::R)) g->m=A0 A+1+R.length->(A++[x]).Pairwise X.le->Q (J<|A0 A+1) g:=λA x R g S f u=>by simpa using h (A++[x]) R g (by simpa using S) (by simp) u (by simpa using f)
 have ge: ∀{a b c},X.le b a->X.le c b->X.le c a:=λh1 t=>X.tr t h1;rw[countRun'_eq];dsimp only;refine MK (λ_ _=>rfl) (A:=[]) S p H f (by simp) λA x R S f u N=>?_;refine jv (λ_=>iM<|fin A x R _ S f u) λO=>?_;obtain⟨y,l,rfl⟩:=tM (l:=R) (by simp at O;lia);apply SN λg=>Rp X q (T++((A++[x]).reverse++y::l)) g/\ ∀z∈A++[x],X.le y z
 .intro F;have w:=X.as _ _ (N y l H);refine jv (λh1=>?_) λh1=>F _ ?_
  .obtain⟨a,A,rfl⟩:=tM (l:=A)<|Nat.lt_of_succ_lt_succ h1;refine Fb S (x:=a) (y:=x) (Lp (A:=[])<|by simpa using p.symm) (Lp<|by simp;lia) λb e=>?_
   cases b with
   |true=>exact iM<|fin _ x _ _ S f u
   |false=>
    refine Ho (A:=a::A++[x]) (by simpa using S) p.symm (by simp;lia) λg n=>F _ ⟨n,λz k=>X.tr (X.tr w e) ?_⟩;rcases kW.mp k with rfl|k
    .exact X.rf _
    .exact(E6.mp u).1 z k
  .obtain rfl:=Am (l:=A) (by simpa using h1);exact⟨S,by simpa using w⟩
 .rintro st ⟨S,d⟩;have t:(A0 A)+2<=m:=by simp at f;lia
  dsimp only
  refine uF (mM (λi c s=> ∃M B x R,c=(C,i,A0 B)/\Rp X q (T++(M++(B++x::R))) s/\i=A0 M+A0 B+1/\m=i+R.length/\(M++(B++[x])).Pairwise (λa b=>X.le b a)/\(B++[x]).Pairwise X.le)
   (λc s=> ∃M B x R,c=(C,A0 M+A0 B+1,A0 B)/\Rp X q (T++(M++(B++x::R))) s/\m=A0 M+A0 B+1+R.length/\(M++(B++[x])).Pairwise (λa b=>X.le b a)/\(B++[x]).Pairwise X.le) ⟨(A++[x]).reverse,[],y,l,rfl,S,by simp,by simp at f ⊢;lia,?_,by simp⟩ ?_ ?_ ?_)
  .exact Fq (Hl.mpr u) λz k=>d z<|dE.mp k
  .rintro i c s v ⟨M,B,x,R,rfl,S,rfl,f,d,u⟩;obtain⟨y,l,rfl⟩:=tM (l:=R) (by lia);rw[<-qj] at S;refine Fb S (ix1<|by simp;lia) (Lp<|by simp;lia) λb e=>?_
   cases b with
   |true=>refine MH (T:=T++M) (A:=B++[x]) (by simpa using S) (by simp;lia) (by simp;lia) (λz=>by simp at z ⊢;exact z) λg n=>iM ⟨M++(B++[x]).reverse,[],y,l,rfl,by simpa using n,by simp;lia,by simp at f;lia,Fq (dnT d u) λz k=>?_,by simp⟩;rw[<-qj] at d;exact FZ (r:=λa b=>X.le b a) ge d (X.as _ _ e) z (by simpa[or_comm] using k)
   |false=>
    refine Fb S (Lp<|by simp;lia) (ix1<|by simp;lia) λb U=>?_
    cases b with
    |true=>exact iM ⟨M,B,x,_,rfl,by simpa using S,f,d,u⟩
    |false=>refine iM ⟨M,B++[x],y,l,by simp,by simpa using S,by simp;lia,by simp at f;lia,?_,Fq u<|FZ X.tr u e⟩;rw[<-qj] at d ⊢;rw[<-qj];exact Fq d<|FZ (r:=λa b=>X.le b a) ge d U
  .rintro c s ⟨M,B,x,R,rfl,S,v,f,d,u⟩;exact⟨M,B,x,R,by rw[v],S,by lia,d,u⟩
  .rintro c s ⟨M,B,x,R,rfl,S,f,d,u⟩;refine MH (T:=T++M) (A:=B++[x]) (by simpa using S) (by simp;lia) (by simp;lia) (λz=>by simp at z ⊢;exact z) λg n=>?_;refine Ho (T:=T) (A:=M++(B++[x]).reverse) (by simpa using n) p.symm (by simp;lia) λg n=>?_;have u:=Hl.mpr<|dnT d u;rcases DI (M++(B++[x]).reverse).reverse with e|⟨E,G,e⟩
   .simp at e
   .rw[e,DH] at n u;have k:=ox de e;simp at k;exact MK (λ_ _=>rfl) (A:=E) (x:=G) (R:=R) (by simpa using n) p (by dsimp only;lia) (by dsimp only;lia) u λA x R S f u _=>iM<|fin A x R _ S f u
end
section
variable {X:Cs}{g:Type}{Q:g->tD->Prop}{st:tD}{q:Array (Nat×Nat×Nat)}{T A B D R L:kb}{i j x y:Nat}{p:Nat->Bool}
abbrev Mo(X:Cs)(p:Nat->Bool):Prop:= ∀a b,X.le a b->p b=I->p a=I
abbrev Lo(p:Nat->Bool)(A:kb)(a:Nat):Prop:= ∀i,i<a->p (A.getD i 0)=I
abbrev Hi(p:Nat->Bool)(A:kb)(a:Nat):Prop:= ∀i,a<=i->i<A0 A->p (A.getD i 0)=Y
def N8:Mo X λz=>!X.lt x z:=λa b h c=>by simp only[fv] at c ⊢;exact X.tr h c
def Yb:Mo X λz=>X.lt z x:=λa b h c=>by
 cases e:X.lt a x with
 |true=>exact e
 |false=>exact on<|(X.tr e h).symm.trans c
def upD(u:A.Pairwise X.le)(b:i<=j)(h:j<A0 A):X.le (A.getD i 0) (A.getD j 0):=by
 have a:i<(A0 A):=by lia
 simp only[lW,jx h,jx a,kl];rcases mN b with e|rfl
 .exact P5.mp u i j a h e
 .exact X.rf _
def FV(u:A.Pairwise X.le)(m:Mo X p)(h:i<A0 A)(e:p (A.getD i 0)=I):Lo p A (i+1):=λj a=>m _ _ (upD u (by lia) h) e
def F5(u:A.Pairwise X.le)(m:Mo X p)(e:p (A.getD i 0)=Y):Hi p A i:=λj a h=>by
 cases c:p (A.getD j 0) with
 |false=>rfl
 |true=>exact(m _ _ (upD u a h) c).symm.trans e
def JC(h:Lo p A i): ∀z∈A.take i,p z=I:=λz a=>by obtain⟨k,hk,rfl⟩:=DG a;have hk:=qP▸hk;have:=h k (by lia);simpa[show k<(A0 A) by lia] using this
def JN(h:Hi p A i): ∀z∈A.drop i,p z=Y:=λz a=>by obtain⟨k,hk,rfl⟩:=DG a;simp at hk;have:=h (i+k) (by lia) (by lia);simpa[show i+k<(A0 A) by lia] using this
def ixD(a:(A0 T)=j)(h:i<A0 A):(T++(A++R))[j+i]?=J (A.getD i 0):=by subst a;rw[qN<|by lia,GX,sP h];simp[h]
def aav(u:A.Pairwise X.le)(h1: ∀z∈A.take i,(!X.lt y z)=I)(e: ∀z∈A.drop i,(!X.lt y z)=Y):(A.take i++y::A.drop i).Pairwise X.le:=by
 rw[<-wj i A,uC] at u;refine uC.mpr ⟨u.1,E6.mpr ⟨λz f=>X.as _ _ (by simpa using e z f),u.2.1⟩,λa d b c=>?_⟩;rcases kW.mp c with rfl|c
 .simpa using h1 a d
 .exact u.2.2 a d b c
def T9{lo n k:Nat}{Q:Bool->tD->Prop}(S:Rp X q (T++(A++R)) st)(U:(A0 T)=lo)(E:(A0 A)=k)(O:0<k)(o:n<=k+R.length)(hk:k<=n)(u:A.Pairwise X.le)
  (h: ∀A R w,Rp X q (T++(A++R)) w->A0 A=n->A.Pairwise X.le->Q I w):wp X (binarySort' lo n k) Q st:=by
 rw[binarySort'_eq,show max k 1=k by lia];dsimp only;refine mM (λk c s=>c=(C,())/\ ∃A R,Rp X q (T++(A++R)) s/\(A0 A)=k/\A.Pairwise X.le/\n<=k+R.length) (λc s=>c=(C,())/\ ∃A R,Rp X q (T++(A++R)) s/\(A0 A)=n/\A.Pairwise X.le) ⟨rfl,A,R,S,E,u,o⟩ ?_ ?_ ?_
 .rintro k c s m ⟨rfl,A,R,S,rfl,u,o⟩;obtain⟨y,l,rfl⟩:=tM (l:=R) (by lia)
  refine mM (λi c r=>r=s/\ ∃a b,c=(C,a,b)/\a<=b/\b<=A0 A/\b<=a+(A0 A-i)/\Lo (λz=>!X.lt y z) A a/\Hi (λz=>!X.lt y z) A b)
   (λc r=>r=s/\ ∃a b,c=(C,a,b)/\a<=A0 A/\Lo (λz=>!X.lt y z) A a/\Hi (λz=>!X.lt y z) A a) ⟨rfl,0,A0 A,rfl,by lia,by lia,by lia,λi h=>by lia,λi h N=>by lia⟩ ?_ ?_ ?_
  .rintro i c _ m ⟨rfl,a,b,rfl,h1,t,v,d,f⟩;dsimp only;refine jv (λe=>iM ⟨rfl,a,b,rfl,by lia,d,(show a=b by lia)▸f⟩) λe=>?_;refine Fb S (Lp<|by lia) (ixD U<|by lia) λc e=>?_
   cases c with
   |true=>exact iM ⟨rfl,a,_,rfl,by lia,by lia,by lia,d,F5 u N8<|by rw[e];rfl⟩
   |false=>exact iM ⟨rfl,_,b,rfl,by lia,by lia,by lia,FV u N8 (by lia)<|by rw[e];rfl,f⟩
  .rintro c _ ⟨rfl,a,b,rfl,h1,t,v,d,f⟩;exact⟨rfl,a,b,rfl,by lia,d,(show a=b by lia)▸f⟩
  .rintro c _ ⟨rfl,a,b,rfl,h1,t,v⟩;refine T8 (T:=T++A.take a) (A:=A.drop a) (by rw[qj,<-qj (A.take a),wj];exact S) (by simp;lia) (by simp;lia) λr M=>iM ⟨rfl,A.take a++y::A.drop a,l,by simpa using M,by simp;lia,aav u (JC t)<|JN v,by simp at o;lia⟩
 .rintro c s ⟨rfl,A,R,S,m,u,o⟩;exact⟨rfl,A,R,S,by lia,u⟩
 .rintro c s ⟨rfl,A,R,S,m,u⟩;exact iM<|h A R s S m u
noncomputable def RU:Bool->eK->Array eK->Nat->Nat->Nat->StateT tD ei (Option Nat):=sortPriv%PySem.Builtin.gallop
noncomputable def aeS:Array eK->Array eK->StateT tD ei (Array eK):=sortPriv%PySem.Builtin.mergeLo
noncomputable def aeT:Array eK->Array eK->StateT tD ei (Array eK):=sortPriv%PySem.Builtin.mergeHi
noncomputable def QD:Nat->StateT tD ei Unit:=sortPriv%PySem.Builtin.setMinGallop
def Xk{k:Nat->Nat->StateT tD ei g}{m:StateT tD ei g}(P:Nat->Nat->Prop)(c:(∀a b,P a b->wp X (k a b) Q st)->wp X m Q st)(hk: ∀a b,P a b->wp X (k a b) Q st):wp X m Q st:=c hk
noncomputable abbrev gp(X:Cs)(left:Bool)(x z:Nat):Bool:=if left=I then X.lt z x else !X.lt x z
def D2{left:Bool}{base:Nat}{f:Option Bool->StateT tD ei g}(hk:kindOf st=X.κ)(k: ∀z∈A,z<X.N)(c:x<X.N)(l:(A0 T)=base)(a:i<A0 A)(h: ∀b,gp X left x (A.getD i 0)=b->wp X (f<|J b) Q st):
  wp X ((elem' (ar X<|T++(A++R)) (base+i)>>=λz=>if left=I then lt' z (X.it x) else lt' (X.it x) z>>=λr=>pure<|wn (λx=>!x) r)>>=f) Q st:=by
 have d:A.getD i 0<X.N:=k _ (by simp[a]);refine ky<|mx (ixD l a) ?_
 cases left with
 |true=>rw[iQ H,<-bind_pure (lt' _ _)];exact E9 hk d c λb e=>iM<|h b e
 |false=>exact E9 hk c d λb e=>iM<|h (!b)<|ox not e
def yI{left:Bool}{base n hint:Nat}{Q:Option Nat->tD->Prop}(hk:kindOf st=X.κ)(t: ∀z∈A,z<X.N)(w:x<X.N)(u:A.Pairwise X.le)(G:L=T++(A++R))(v:(A0 T)=base)(H:(A0 A)=n)(C:hint<n)
  (h: ∀r,r<=n->(∀z∈A.take r,gp X left x z=B8)->(∀z∈A.drop r,gp X left x z=Y)->Q (J r) st):wp X (RU left (X.it x) (ar X L) base n hint) Q st:=by
 subst G
 have m:Mo X (gp X left x):=by
  cases left with
  |true=>exact Yb
  |false=>exact N8
 apply Xk λa b=>a<=b/\b<=n/\Lo (gp X left x) A a/\Hi (gp X left x) A b
 .intro F;refine D2 hk t w v (H▸C) λb e=>?_;refine jv (λz=>?_) λz=>?_
  .subst z
   refine mM (λi c s=>st=s/\ ∃a b,c=(AX,a,b)/\a<b/\i<b/\hint+a<n/\Lo (gp X left x) A (hint+a+1)) (λc s=>st=s/\ ∃a b,c=(AX,a,b)/\a<b/\hint+a<n/\Lo (gp X left x) A (hint+a+1)/\(n-hint<=b\/Hi (gp X left x) A (hint+b)))
    ⟨rfl,0,1,rfl,by lia,by lia,C,FV u m (H▸C) e⟩ ?_ ?_ ?_
   .rintro i c _ E ⟨rfl,a,b,rfl,h1,o,l,f⟩;dsimp only;refine jv (λz=>iM ⟨rfl,a,b,rfl,h1,l,f,.inl z⟩) λz=>D2 hk t w v (by lia) λc e=>?_
    cases c with
    |true=>exact iM ⟨rfl,_,_,rfl,by lia,by lia,by lia,FV u m (by lia) e⟩
    |false=>exact iM ⟨rfl,a,b,rfl,h1,l,f,.inr<|F5 u m e⟩
   .rintro c _ ⟨rfl,a,b,rfl,h1,o,l,f⟩;exact⟨rfl,a,b,rfl,h1,l,f,.inl<|by lia⟩
   .rintro c _ ⟨rfl,a,b,rfl,h1,l,f,k⟩;dsimp only;generalize I:hint+a+1=c at*;generalize O:hint+min b (n-hint)=d;refine F c d ⟨by lia,by lia,f,λi U M=>?_⟩;rcases k with k|k
    .lia
    .exact k i (by lia) M
  .refine mM (λi c s=>st=s/\ ∃a b,c=(AX,a,b)/\a<b/\i<b/\a<=hint/\Hi (gp X left x) A (hint-a)) (λc s=>st=s/\ ∃a b,c=(AX,a,b)/\a<b/\a<=hint/\Hi (gp X left x) A (hint-a)/\(hint<b\/Lo (gp X left x) A (hint-b+1)))
    ⟨rfl,0,1,rfl,by lia,by lia,by lia,F5 u m<|by simpa[z] using e⟩ ?_ ?_ ?_
   .rintro i c _ E ⟨rfl,a,b,rfl,h1,o,l,f⟩;dsimp only;refine jv (λz=>iM ⟨rfl,a,b,rfl,h1,l,f,.inl z⟩) λz=>D2 hk t w v (by lia) λc e=>?_
    cases c with
    |true=>exact iM ⟨rfl,a,b,rfl,h1,l,f,.inr<|FV u m (by lia) e⟩
    |false=>exact iM ⟨rfl,_,_,rfl,by lia,by lia,by lia,F5 u m e⟩
   .rintro c _ ⟨rfl,a,b,rfl,h1,o,l,f⟩;exact⟨rfl,a,b,rfl,h1,l,f,.inl<|by lia⟩
   .rintro c _ ⟨rfl,a,b,rfl,h1,l,f,k⟩;dsimp only;generalize O:hint-a=d at*;generalize I:hint+1-min b (hint+1)=c;refine F c d ⟨by lia,by lia,λi U=>?_,f⟩;rcases k with k|k
    .lia
    .exact k i (by lia)
 .rintro a b ⟨h1,o,l,f⟩;refine mM (λi c s=>st=s/\ ∃a b,c=(AX,a,b)/\a<=b/\b<=n/\b<=a+(n-i)/\Lo (gp X left x) A a/\Hi (gp X left x) A b) (λc s=>st=s/\ ∃a,c=(AX,a,a)/\a<=n/\Lo (gp X left x) A a/\Hi (gp X left x) A a) ⟨rfl,a,b,rfl,h1,o,by lia,l,f⟩ ?_ ?_ ?_
  .rintro i c _ E ⟨rfl,a,b,rfl,h1,o,l,f,k⟩;refine jv (λz=>?_) λz=>D2 hk t w v (by dsimp only at z ⊢;lia) λc e=>?_
   .have:a=b:=by dsimp only at z;lia
    subst this;exact iM ⟨rfl,a,rfl,o,f,k⟩
   .dsimp only at z
    cases c with
    |true=>exact iM ⟨rfl,_,b,rfl,by dsimp only;lia,o,by dsimp only;lia,FV u m (by dsimp only;lia) e,k⟩
    |false=>exact iM ⟨rfl,a,_,rfl,by dsimp only;lia,by dsimp only;lia,by dsimp only;lia,f,F5 u m e⟩
  .rintro c _ ⟨rfl,a,b,rfl,h1,o,l,f,k⟩;have:a=b:=by lia
   subst this;exact⟨rfl,a,rfl,o,f,k⟩
  .rintro c _ ⟨rfl,a,rfl,o,f,k⟩;exact iM<|h a o (JC f)<|JN k
end
section
variable {X:Cs}{β:Type}{Q:β->tD->Prop}{st:tD}{pq:Array (Nat×Nat×Nat)}{q r L Z a b o k:kb}{i j x y:Nat}{le:Nat->Nat->Prop}{out:Cp}
structure MG(le:Nat->Nat->Prop)(Z a b o:kb):Prop where
 s:o.Pairwise le
 c: ∀x∈o,∀y∈a++b,le x y
 p:(o++(a++b)).Perm Z
 ua:a.Pairwise le
 ub:b.Pairwise le
def MG.put(m:MG le Z (k++a) b o)(h: ∀x∈k,∀y∈b,le x y):MG le Z a b (o++k):=by
 have f:=uC.mp m.ua;refine⟨uC.mpr ⟨m.s,f.1,λx e y d=>m.c x e y<|by simp[d]⟩,λx e y d=>?_,by simpa using m.p,f.2.1,m.ub⟩;rcases sQ.mp e with e|e
 .refine m.c x e y ?_;simp at d ⊢;exact .inr d
 .rcases sQ.mp d with d|d
  .exact f.2.2 x e y d
  .exact h x e y d
def Mg(X:Cs)(le:Nat->Nat->Prop)(Z a b:kb)(out:Cp):Prop:= ∃o,out=ar X o/\MG le Z a b o
def Rs(X:Cs)(Z:kb)(out:Cp):Prop:= ∃o,out=ar X o/\o.Pairwise X.le/\o.Perm Z
def Mg.sw(m:Mg X le Z a b out):Mg X le Z b a out:=by obtain⟨o,e,m⟩:=m;exact⟨o,e,m.s,λx d y f=>m.c x d y<|by simpa[or_comm] using f,(SH.append_left o).trans m.p,m.ub,m.ua⟩
def Mg.put(m:Mg X le Z a b out){a':kb}{c:Cp}(e:a=k++a')(h: ∀x∈k,∀y∈b,le x y)(d:c=out++ar X k):Mg X le Z a' b c:=by obtain⟨o,rfl,m⟩:=m;exact⟨o++k,by simpa[ar] using d,(e▸m).put h⟩
def Mg.a1(m:Mg X le Z (q.drop i) b out)(c:i<A0 q)(h: ∀y∈b,le q[i] y):Mg X le Z (q.drop<|i+1) b (out.push<|X.it q[i]):=m.put (k:=[q[i]]) (yw c) (by simpa using h) (by simp[ar])
def Mg.ak(m:Mg X le Z (q.drop i) b out)(h: ∀x∈(q.drop i).take j,∀y∈b,le x y):Mg X le Z (q.drop<|i+j) b (out++(ar X q).extract i (i+j)):=m.put (by rw[<-List.drop_drop,wj]) h (by simp[ar,DF])
def Mg.fin(m:Mg X X.le Z (q.drop i) (r.drop j) out)(h: ∀x∈q.drop i,∀y∈r.drop j,X.le x y):Rs X Z (out++(ar X q).extract i (ar X q).size++(ar X r).extract j (ar X r).size):=by obtain⟨o,e,m⟩:=((m.put (k:=q.drop i) (a':=[]) (by simp) h H).sw).put (k:=r.drop j) (a':=[]) (by simp) (by simp) H;exact⟨o,by rw[<-e];simp[ar,DF,yu],m.s,by simpa using m.p⟩
def Mg.end(m:Mg X X.le Z (q.drop i) (r.drop j) out)(h:(A0 q)<=i\/(A0 r)<=j):Rs X Z (out++(ar X q).extract i (ar X q).size++(ar X r).extract j (ar X r).size):=m.fin λx c y d=>by
 rcases h with h|h
 .rw[As h] at c;cases c
 .rw[As h] at d;cases d
def Mg.hd(m:Mg X le Z (q.drop i) b out)(f: ∀{a b c},le a b->le b c->le a c)(e:i<A0 q)(h:le x q[i]): ∀y∈q.drop i,le x y:=λy d=>by
 obtain⟨o,_,m⟩:=m;have:=m.ua;rw[yw e] at this d;rcases kW.mp d with rfl|d
 .exact h
 .exact f h ((E6.mp this).1 y d)
def NZ{P:d->Prop}{f:α->β->d}{U:α->β->Prop}{c:d}(x: ∃a b,c=f a b/\U a b)(h: ∀a b,U a b->P (f a b)):P c:=by obtain⟨_,_,rfl,i⟩:=x;exact h _ _ i
def eX4{P:g->Prop}{f:α->β->l->ε->g}{U:α->β->l->ε->Prop}{c:g}(x: ∃a b d e,c=f a b d e/\U a b d e)(h: ∀a b c d,U a b c d->P (f a b c d)):P c:=by obtain⟨_,_,_,_,rfl,i⟩:=x;exact h _ _ _ _ i
def Pf{P:l->Prop}{f:α->β->m->ε->ζ->l}{U:α->β->m->ε->ζ->Prop}{c:l}(x: ∃a b d e g,c=f a b d e g/\U a b d e g)(h: ∀a b c d e,U a b c d e->P (f a b c d e)):P c:=by obtain⟨_,_,_,_,_,rfl,i⟩:=x;exact h _ _ _ _ _ i
def Pe{P:l->Prop}{f:α->β->m->ε->ζ->η->l}{U:α->β->m->ε->ζ->η->Prop}{c:l}(x: ∃a b d e g k,c=f a b d e g k/\U a b d e g k)(h: ∀a b c d e g,U a b c d e g->P (f a b c d e g)):P c:=by obtain⟨_,_,_,_,_,_,rfl,i⟩:=x;exact h _ _ _ _ _ _ i
def Ng{a b c d e P:Prop}(h:a->b->c->d->e->P)(x:a/\b/\c/\d/\e):P:=h x.1 x.2.1 x.2.2.1 x.2.2.2.1 x.2.2.2.2
def D1{f:Unit->StateT tD ei β}{n:Nat}(S:Rp X pq L st)(h: ∀c,Rp X pq L c->wp X (f ()) Q c):wp X (QD n>>=f) Q st:=wy (g:=λs=>SortSt.mk' (kindOf s) (fQ s) (pendingOf s) n<|f8 s)<|h _ ⟨S.a,S.k,S.f,S.q,S.p⟩
def IC{e:Type}{k:e->Nat->StateT tD ei β}{m:StateT tD ei β}(P:e->Nat->tD->Prop)(f:(∀c n d,P c n d->wp X (k c n) Q d)->wp X m Q st)(hk: ∀c n d,P c n d->wp X (k c n) Q d):wp X m Q st:=f hk
def MI{k:Nat->StateT tD ei β}{m:StateT tD ei β}(P:Nat->tD->Prop)(d:(∀n c,P n c->wp X (k n) Q c)->wp X m Q st)(hk: ∀n c,P n c->wp X (k n) Q c):wp X m Q st:=d hk
def Xj{Q:Array eK->tD->Prop}(S:Rp X pq L st)(u1:q.Pairwise X.le)(u2:r.Pairwise X.le)(M: ∀z∈q,z<X.N)(U: ∀z∈r,z<X.N)(h1:0<A0 q)(h2:0<A0 r)(hd: ∀y∈q,X.le r[0] y)(top: ∀x∈r,X.le x q[A0 q-1])
  (h: ∀out s,Rp X pq L s->Rs X (q++r) out->Q out s):wp X (aeS (ar X q)<|ar X r) Q st:=by
 have sq:(ar X q).size=(A0 q):=by simp
 have sr:(ar X r).size=(A0 r):=by simp
 have P:Mg X X.le (q++r) (q.drop 0) (r.drop 1) #[X.it r[0]]:=Mg.sw<|Mg.a1 (q:=r) (i:=0) (out:= #[]) ⟨[],rfl,.nil,by simp,by simpa using SH,by simpa using u2,by simpa using u1⟩ h2 hd
 have last: ∀{out i j},Mg X X.le (q++r) (q.drop i) (r.drop j) out->i+1=A0 q->Rs X (q++r) (out++(ar X r).extract j (ar X r).size++(ar X q).extract i (ar X q).size):=λ{_ i j} m e=>m.sw.fin λx O y B=>by
  have hi:i<(A0 q):=by lia
  rw[yw hi,As<|by lia,E7] at B;have:=top x<|Al O;simpa only[B,<-e,m4] using this
 refine uF<|mx (x:=r[0]) (by simp[h2]) ?_;refine jv (λe=>iM<|h _ _ S (P.end<|.inr<|by simp at e;lia)) λe=>jv (λp=>iM<|h _ _ S (last P<|by simpa using p)) λp=>pF ?_
 let I:=λ(c:Nat) out d f s=>Rp X pq L s/\Mg X X.le (q++r) (q.drop d) (r.drop f) out/\d+1<A0 q/\f<A0 r/\c<=d+f
 refine mM (λi c s=> ∃out d f C,c=(AX,out,d,f,C)/\I (i+1) out d f s) (λc s=> ∃out t,c=(A7 out,t)/\Rp X pq L s/\Rs X (q++r) out) ⟨_,0,1,_,rfl,S,P,by simp at p;lia,by simp at e;lia,by lia⟩ ?_ ?_ ?_
 .intro i c s _ h;apply eX4 h;clear h;intro out d f C K;refine mM (λj c s=> ∃out d f v w,c=(AX,out,d,f,v,w)/\I (i+1+j) out d f s) (λc s=>(∃out t,c=(A7 out,t)/\Rp X pq L s/\Rs X (q++r) out)\/ ∃out d f v w,c=(AX,out,d,f,v,w)/\I (i+1) out d f s) ⟨_,_,_,_,_,rfl,K⟩ ?_ ?_ ?_
  .intro j c s _ h;apply Pf h;clear h;refine λout d f v w=>Ng λS m E l H=>?_;dsimp only;refine mx (x:=r[f]) (by simp[l]) (mx (x:=q[d]) (by simp)<|E9 S.k (U _ (by simp)) (M _ (by simp)) λb e=>?_)
   cases b with
   |true=>have n:=(m.sw.a1 l<|m.hd X.tr (by lia)<|X.as _ _ e).sw;exact mx (x:=r[f]) (by simp[l])<|jv (λe=>iM<|.inl ⟨_,_,rfl,S,n.end<|.inr<|by simp at e;lia⟩) λe=>jv (λ_=>iM<|.inr ⟨_,_,_,_,_,rfl,S,n,E,by simp at e;lia,by lia⟩) λ_=>iM ⟨_,_,_,_,_,rfl,S,n,E,by simp at e;lia,by lia⟩
   |false=>have n:=m.a1 (by lia)<|m.sw.hd X.tr l e;exact mx (x:=q[d]) (by simp)<|jv (λe=>iM<|.inl ⟨_,_,rfl,S,last n<|by simpa using e⟩) λe=>jv (λ_=>iM<|.inr ⟨_,_,_,_,_,rfl,S,n,by simp at e;lia,l,by lia⟩) λ_=>iM ⟨_,_,_,_,_,rfl,S,n,by simp at e;lia,l,by lia⟩
  .refine λc s h=>aH ?_;obtain⟨_,d,f,_,_,_,S,m,E,l,H⟩:=h;lia
  .intro c s z;refine z.elim (λh=>?_) λh=>?_
   .apply NZ h;exact λout _ Y=>iM ⟨out,_,rfl,Y⟩
   .apply Pf h;clear h z;refine λout d f v w K=>uF<|mM (λj c s=> ∃out d f C v w,c=(AX,out,d,f,C,v,w)/\I (i+1+j) out d f s) (λc s=>(∃out t,c=(A7 out,t)/\Rp X pq L s/\Rs X (q++r) out)\/ ∃out d f C v w,c=(AX,out,d,f,C,v,w)/\I (i+2) out d f s) ⟨_,_,_,_,_,_,rfl,K⟩ ?_ ?_ ?_
    .intro j c s _ h;apply Pe h;clear h;refine λout d f C v w=>Ng λS m E l H=>?_;dsimp only;apply MI λ_ s=>Rp X pq L s
     .intro F;refine jv (λ_=>?_) λ_=>?_
      .generalize C-1=g;exact F g s S
      .exact F C s S
     intro g s S;refine D1 S λs S=>mx (x:=r[f]) (by simp[l])<|ky<|yI (T:=q.take d) (A:=q.drop d) (R:=[]) S.k (λz D=>M z<|Al D) (U _ (by simp)) (u1.sublist<|GW _ _) (by simp) (by simp;lia) (by simp) (by simp;lia) λk _ V W=>?_;dsimp only;apply IC λout d s=>Rp X pq L s/\Mg X X.le (q++r) (q.drop d) (r.drop f) out/\d+1<A0 q/\i+1+j<=d+f/\ ∀y∈q.drop d,X.le r[f] y
     .intro F;have mk:=m.ak (j:=k) λx O y B=>m.sw.hd (x:=x) X.tr l (by simpa using V x O) y B;have u: ∀y∈q.drop (d+k),X.le r[f] y:=λy B=>X.as _ _ (by simpa using W y<|by simpa using B);refine jv (λe=>?_) λe=>?_
      .refine jv (λJ=>iM<|.inl ⟨_,_,rfl,S,last mk<|by simpa using J⟩) λJ=>jv (λp=>iM<|.inl ⟨_,_,rfl,S,mk.end<|.inl<|by simp at p;lia⟩) λp=>?_;generalize out++(ar X q).extract d (d+k)=out at mk ⊢;generalize ea:d+k=ic at mk u J p ⊢;exact F out ic s ⟨S,mk,by simp at J p;lia,by lia,u⟩
      .rw[show k=0 by lia] at u;exact F out d s ⟨S,m,E,H,u⟩
     refine λout d s=>Ng λS m E H u=>?_;have n:=(m.sw.a1 l u).sw;refine mx (x:=r[f]) (by simp[l])<|jv (λe=>iM<|.inl ⟨_,_,rfl,S,n.end<|.inr<|by simp at e;lia⟩) λe=>mx (x:=q[d]) (by simp)<|ky<|yI (T:=r.take<|f+1) (A:=r.drop<|f+1) (R:=[]) S.k (λz D=>U z<|Al D) (M _ (by simp)) (u2.sublist<|GW _ _) (by simp) (by simp;lia) (by simp) (by simp at e ⊢;lia) λG _ V W=>?_;dsimp only;apply IC λout f s=>Rp X pq L s/\Mg X X.le (q++r) (q.drop d) (r.drop f) out/\f<A0 r/\i+1+j<d+f/\ ∀y∈r.drop f,X.le q[d] y
     .intro F;have mk:=(n.sw.ak (j:=G) λx O y B=>n.hd X.tr (by lia) (X.as _ _ (V x O)) y B).sw;have u: ∀y∈r.drop (f+1+G),X.le q[d] y:=λy B=>W y (by simpa using B);refine jv (λ_=>?_) λe3=>?_
      .refine jv (λp=>iM<|.inl ⟨_,_,rfl,S,mk.end<|.inr<|by simp at p;lia⟩) λp=>?_;generalize out.push (X.it r[f])++(ar X r).extract (f+1) (f+1+G)=out at mk ⊢;generalize ea:f+1+G=ic at mk u p ⊢;exact F out ic s ⟨S,mk,by simp at p;lia,by lia,u⟩
      .rw[show G=0 by lia] at u;exact F _ _ s ⟨S,n,by simp at e;lia,by lia,u⟩
     refine λout f s=>Ng λS m l H u=>?_;have n:=m.a1 (by lia) u;exact mx (x:=q[d]) (by simp)<|jv (λe=>iM<|.inl ⟨_,_,rfl,S,last n<|by simpa using e⟩) λe=>jv (λ_=>iM<|.inr ⟨_,_,_,_,_,_,rfl,S,n,by simp at e;lia,l,by lia⟩) λ_=>iM ⟨_,_,_,_,_,_,rfl,S,n,by simp at e;lia,l,by lia⟩
    .refine λc s h=>aH ?_;obtain⟨_,d,f,_,_,_,_,S,m,E,l,H⟩:=h;lia
    .intro c s z;refine z.elim (λh=>?_) λh=>?_
     .apply NZ h;exact λout _ Y=>iM ⟨out,_,rfl,Y⟩
     .apply Pe h;clear h z;exact λ_ _ _ _ _ _ h=>D1 h.1 λs S=>iM ⟨_,_,_,_,rfl,S,h.2⟩
 .refine λc s h=>aH ?_;obtain⟨_,d,f,_,_,S,m,E,l,H⟩:=h;lia
 .intro c s x;apply NZ x;exact λ_ _ m=>iM<|h _ _ m.1 m.2
end
section
variable {X:Cs}{u:Type}{Q:u->tD->Prop}{st:tD}{l:Array (Nat×Nat×Nat)}{q r L Z a b o k:kb}{i j x y n:Nat}{out:Cp}
theorem ss1(n:Nat):n+1-1=n:=rfl
abbrev Cs.ge(X:Cs)(i j:Nat):Prop:=X.le j i
def Mg.h1(m:Mg X X.ge Z (q.take<|n+1).reverse b out)(c:n<A0 q)(h: ∀y∈b,X.le y q[n]):Mg X X.ge Z (q.take n).reverse b (out.push<|X.it q[n]):=m.put (k:=[q[n]]) (by rw[DE];simp[c]) (by simpa using h) (by simp[ar])
def Mg.hk(m:Mg X X.ge Z (q.take n).reverse b out)(c:i<=n)(h: ∀x∈(q.take n).drop i,∀y∈b,X.le y x):Mg X X.ge Z (q.take i).reverse b (out++((ar X q).extract i n).reverse):=m.put (k:=((q.take n).drop i).reverse) (by rw[<-List.reverse_append,<-wg c,<-gf,wg c,wj]) (by simpa using h) (by simp[ar,List.extract_eq_drop_take'])
def Mg.OV(m:Mg X X.ge Z (q.take i).reverse (r.take j).reverse out)(h: ∀x∈q.take i,∀y∈r.take j,X.le x y):Rs X Z ((ar X q).extract 0 i++(ar X r).extract 0 j++out.reverse):=by obtain⟨o,e,m⟩:=(m.sw.put (k:=(r.take j).reverse) (a':=[]) (by simp) (by simpa using λx c y d=>h y d x c) H).sw.put (k:=(q.take i).reverse) (a':=[]) (by simp) (by simp) H;refine⟨o.reverse,?_,Hl.mpr m.s,(An o).trans<|by simpa using m.p⟩;have:=ox Array.reverse e;simpa[ar,DF] using this
def Mg.Lj(m:Mg X X.ge Z (q.take i).reverse (r.take j).reverse out)(h:i=0\/j=0):Rs X Z ((ar X q).extract 0 i++(ar X r).extract 0 j++out.reverse):=m.OV λx c y d=>by
 rcases h with rfl|rfl
 .cases c
 .cases d
def Mg.Pa(m:Mg X X.ge Z (q.take<|n+1).reverse b out)(d:n<A0 q)(h:X.le q[n] x): ∀y∈(q.take<|n+1).reverse,X.le y x:=λy c=>by
 obtain⟨o,_,m⟩:=m;have:=m.ua;rw[show(q.take<|n+1).reverse=q[n]::(q.take n).reverse by rw[DE];simp[d]] at this c;rcases kW.mp c with rfl|c
 .exact h
 .exact X.tr ((E6.mp this).1 y c) h
def aX7{a b c d e f g P:Prop}(h:a->b->c->d->e->f->g->P)(x:a/\b/\c/\d/\e/\f/\g):P:=Ng (λa b c d e=>h a b c d e.1 e.2.1 e.2.2) x
def aX6{a b c d e f P:Prop}(h:a->b->c->d->e->f->P)(x:a/\b/\c/\d/\e/\f):P:=Ng (λa b c d e=>h a b c d e.1 e.2) x
def Xl{Q:Array eK->tD->Prop}(S:Rp X l L st)(u1:q.Pairwise X.le)(u2:r.Pairwise X.le)(hq: ∀z∈q,z<X.N)(hr: ∀z∈r,z<X.N)(h1:0<A0 q)(h2:0<A0 r)(hd: ∀y∈q,X.le r[0] y)(top: ∀x∈r,X.le x q[A0 q-1])
  (h: ∀out s,Rp X l L s->Rs X (q++r) out->Q out s):wp X (aeT (ar X q)<|ar X r) Q st:=by
 have sq:(ar X q).size=(A0 q):=by simp
 have sr:(ar X r).size=(A0 r):=by simp
 have W:Mg X X.ge (q++r) (q.take<|A0 q-1).reverse (r.take<|A0 r).reverse #[X.it q[A0 q-1]]:=Mg.h1 (out:= #[]) ⟨[],rfl,.nil,by simp,by simpa[mL h1] using(An q).append (An r),by simpa[mL h1,Hl] using u1,by simpa[Hl] using u2⟩ (by lia) (by simpa using top)
 have last: ∀{out i},Mg X X.ge (q++r) (q.take i).reverse (r.take 1).reverse out->Rs X (q++r) ((ar X r).extract 0 1++(ar X q).extract 0 i++out.reverse):=λm=>m.sw.OV λx K y D=>by obtain⟨b,r,rfl⟩:=tM h2;simp at K;subst K;exact hd y<|we D
 refine uF<|mx (x:=q[A0 q-1]) (by simp[h1]) ?_;rw[sq,sr];refine jv (λe=>iM<|h _ _ S (W.Lj<|.inl<|by simpa using e)) λe=>jv (λC=>iM<|h _ _ S ?_) λC=>pF ?_
 .have C:(A0 r)=1:=by simpa using C
  rw[C] at W ⊢;exact last W
 let I:=λ(c:Nat) out d f s=>Rp X l L s/\Mg X X.ge (q++r) (q.take d).reverse (r.take f).reverse out/\0<d/\d<=A0 q/\1<f/\f<=A0 r/\c+d+f<=A0 q+A0 r
 refine mM (λi c s=> ∃d f out G,c=(AX,d,f,out,G)/\I (i+1) out d f s) (λc s=> ∃out t,c=(A7 out,t)/\Rp X l L s/\Rs X (q++r) out) ⟨_,_,_,_,rfl,S,W,by simp at e;lia,by lia,by simp at C;lia,by lia,by lia⟩ ?_ ?_ ?_
 .intro i c s _ h;apply eX4 h;clear h;intro d f out G i0;refine mM (λj c s=> ∃d f out w B,c=(AX,d,f,out,w,B)/\I (i+1+j) out d f s) (λc s=>(∃out t,c=(A7 out,t)/\Rp X l L s/\Rs X (q++r) out)\/ ∃d f out w B,c=(AX,d,f,out,w,B)/\I (i+1) out d f s) ⟨_,_,_,_,_,rfl,i0⟩ ?_ ?_ ?_
  .intro j c s _ h;apply Pf h;clear h;refine λd f out w B=>aX7 λS m J M E H U=>?_;obtain⟨n,rfl⟩: ∃n,d=n+1:=⟨d-1,by lia⟩
   obtain⟨p,rfl⟩: ∃n,f=n+1:=⟨f-1,by lia⟩
   dsimp only[ss1];refine mx (x:=r[p]) (by simp)<|mx (x:=q[n]) (by simp)<|E9 S.k (hr _ (by simp)) (hq _ (by simp)) λb e=>?_
   cases b with
   |true=>have v:=m.h1 (by lia)<|m.sw.Pa (by lia)<|X.as _ _ e;exact mx (x:=q[n]) (by simp)<|jv (λe=>iM<|.inl ⟨_,_,rfl,S,v.Lj<|.inl<|by simpa using e⟩) λe=>jv (λ_=>iM<|.inr ⟨_,_,_,_,_,rfl,S,v,by simp at e;lia,by lia,E,H,by lia⟩) λ_=>iM ⟨_,_,_,_,_,rfl,S,v,by simp at e;lia,by lia,E,H,by lia⟩
   |false=>
    have v:=(m.sw.h1 (by lia)<|m.Pa (by lia) e).sw;refine mx (x:=r[p]) (by simp)<|jv (λe=>?_) λe=>jv (λ_=>iM<|.inr ⟨_,_,_,_,_,rfl,S,v,J,M,by simp at e;lia,by lia,by lia⟩) λ_=>iM ⟨_,_,_,_,_,rfl,S,v,J,M,by simp at e;lia,by lia,by lia⟩;obtain rfl:p=1:=by simpa using e
    exact iM<|.inl ⟨_,_,rfl,S,last v⟩
  .refine λc s h=>aH ?_;obtain⟨_,_,_,_,_,_,S,m,J,M,E,H,U⟩:=h;lia
  .intro c s z;refine z.elim (λh=>?_) λh=>?_
   .apply NZ h;exact λout _ hs=>iM ⟨out,_,rfl,hs⟩
   .apply Pf h;clear h z;refine λd f out w B i0=>uF<|mM (λj c s=> ∃d f out G w B,c=(AX,d,f,out,G,w,B)/\I (i+1+j) out d f s) (λc s=>(∃out t,c=(A7 out,t)/\Rp X l L s/\Rs X (q++r) out)\/ ∃d f out G w B,c=(AX,d,f,out,G,w,B)/\I (i+2) out d f s) ⟨_,_,_,_,_,_,rfl,i0⟩ ?_ ?_ ?_
    .intro j c s _ h;apply Pe h;clear h;refine λd f out G w B=>aX7 λS m J M E H U=>?_;obtain⟨p,rfl⟩: ∃n,f=n+1:=⟨f-1,by lia⟩
     dsimp only[ss1];apply MI λ_ s=>Rp X l L s
     .intro F;refine jv (λ_=>?_) λ_=>?_
      .generalize G-1=g;exact F g s S
      .exact F G s S
     intro g s S;refine D1 S λs S=>mx (x:=r[p]) (by simp)<|ky<|yI (T:=[]) (A:=q.take d) (R:=q.drop d) S.k (λz hz=>hq z<|we hz) (hr _ (by simp)) (u1.sublist<|yC _ _) (by simp) AU (by simp;lia) (by lia) λk hk t1 t2=>?_;dsimp only;apply IC λout d s=>Rp X l L s/\Mg X X.ge (q++r) (q.take d).reverse (r.take<|p+1).reverse out/\0<d/\d<=A0 q/\i+1+j+d+p<A0 q+A0 r/\ ∀y∈q.take d,X.le y r[p]
     .intro F;have mk:=m.hk hk λx K y D=>m.sw.Pa (x:=x) (by lia) (X.as _ _ (by simpa using t2 x K)) y D;have Y: ∀y∈q.take k,X.le y r[p]:=λy D=>by simpa using t1 y (by rwa [gf,wg hk])
      refine jv (λe=>?_) λe=>?_
      .refine jv (λO=>iM<|.inl ⟨_,_,rfl,S,mk.Lj<|.inl<|by simpa using O⟩) λO=>?_;generalize out++((ar X q).extract k d).reverse=out at mk ⊢;generalize ea:k=ic at mk Y O ⊢;exact F out ic s ⟨S,mk,by simp at O;lia,by lia,by lia,Y⟩
      .obtain rfl:k=d:=by lia
       exact F out _ s ⟨S,m,J,M,by lia,Y⟩
     refine λout V s=>aX6 λS m J M U Y=>?_;have v:=(m.sw.h1 (by lia)<|by simpa using Y).sw;obtain⟨n,rfl⟩: ∃n,V=n+1:=⟨V-1,by lia⟩
     dsimp only[ss1];refine mx (x:=r[p]) (by simp)<|jv (λe=>?_) λe=>mx (x:=q[n]) (by simp)<|ky<|yI (T:=[]) (A:=r.take p) (R:=r.drop p) S.k (λz hz=>hr z<|we hz) (hq _ (by simp)) (u2.sublist<|yC _ _) (by simp) AU (by simp;lia) (by lia) λP cp t1 t2=>?_
     .obtain rfl:p=1:=by simpa using e
      exact iM<|.inl ⟨_,_,rfl,S,last v⟩
     dsimp only;apply IC λout f s=>Rp X l L s/\Mg X X.ge (q++r) (q.take<|n+1).reverse (r.take f).reverse out/\1<f/\f<=A0 r/\i+1+j+(n+1)+f<A0 q+A0 r/\ ∀y∈r.take f,X.le y q[n]
     .intro F;have mk:=(v.sw.hk cp λx K y D=>v.Pa (x:=x) (by lia) (t2 x K) y D).sw;have hc: ∀y∈r.take P,X.le y q[n]:=λy D=>X.as _ _ (t1 y<|by rwa [gf,wg cp]);refine jv (λ_=>?_) λe3=>?_
      .refine jv (λO=>?_) λO=>jv (λC=>iM<|.inl ⟨_,_,rfl,S,mk.Lj<|.inr<|by simpa using C⟩) λC=>?_
       .obtain rfl:P=1:=by simpa using O
        exact iM<|.inl ⟨_,_,rfl,S,last mk⟩
       generalize out.push (X.it r[p])++((ar X r).extract P p).reverse=out at mk ⊢;generalize ea:P=ic at mk hc O C ⊢;exact F out ic s ⟨S,mk,by simp at O C;lia,by lia,by lia,hc⟩
      .obtain rfl:P=p:=by lia
       exact F _ _ s ⟨S,v,by simp at e;lia,by lia,U,hc⟩
     refine λout f s=>aX6 λS m E H U Y=>?_;have v:=m.h1 (by lia) (by simpa using Y);exact mx (x:=q[n]) (by simp)<|jv (λe=>iM<|.inl ⟨_,_,rfl,S,v.Lj<|.inl<|by simpa using e⟩) λe=>jv (λ_=>iM<|.inr ⟨_,_,_,_,_,_,rfl,S,v,by simp at e;lia,by lia,E,H,by lia⟩) λ_=>iM ⟨_,_,_,_,_,_,rfl,S,v,by simp at e;lia,by lia,E,H,by lia⟩
    .refine λc s h=>aH ?_;obtain⟨_,_,_,_,_,_,_,S,m,J,M,E,H,U⟩:=h;lia
    .intro c s z;refine z.elim (λh=>?_) λh=>?_
     .apply NZ h;exact λout _ hs=>iM ⟨out,_,rfl,hs⟩
     .apply Pe h;exact λ_ _ _ _ _ _ h=>D1 h.1 λs S=>iM ⟨_,_,_,_,rfl,S,h.2⟩
 .refine λc s h=>aH ?_;obtain⟨_,_,_,_,_,S,m,J,M,E,H,U⟩:=h;lia
 .intro c s x;apply NZ x;exact λ_ _ m=>iM<|h _ _ m.1 m.2
end
section
variable {X:Cs}{t:Type}{Q:t->tD->Prop}{st:tD}{d:Array (Nat×Nat×Nat)}{T A B R L:kb}{i j x y n s:Nat}{o C:List (List Nat)}{r w:List (Nat×Nat×Nat)}
def afd{c:Type}: ∀(m K T R:List c) (j a:Nat),a+j=A0 T->K.length=A0 m->(m.zipIdx j).foldl (λ(x:Array c) (p:c×Nat)=>x.setIfInBounds (a+p.2) p.1) (T++(K++R)).toArray=(T++(m++R)).toArray:=by
 intro f
 induction f with
 |nil=>intro K T R j a h b;rw[Am b];rfl
 |cons y m e=>intro K T R j a h b;obtain⟨k,K,rfl⟩:=tM (l:=K) (by simp[b]);rw[nP,vA];have:=e K (T++[y]) R (j+1) a (by simp;lia) (by simpa using b);simpa[h] using this
def Rn(X:Cs):Nat->List (List Nat)->List (Nat×Nat×Nat)->Prop
 |_,[],[]=>True
 |s,A::o,p::r=>p.1=s/\p.2.1=A0 A/\A≠[]/\A.Pairwise X.le/\Rn X (s+A0 A) o r
 |_,_,_=>False
theorem Rn.cut: ∀{r:List (Nat×Nat×Nat)} {s:Nat} {o:List (List Nat)},Rn X s o (r++w)-> ∃a L2,o=a++L2/\Rn X (s+A0 a.flatten) L2 w/\ ∀M q,Rn X (s+A0 a.flatten) M q->Rn X s (a++M) (r++q)
 |[],s,o,h=>⟨[],o,rfl,h,λ_ _ h=>h⟩
 |p::r,s,[],h=>h.elim
 |p::r,s,A::o,h=>by
  obtain⟨h1,b,c,f,g⟩:=h;obtain⟨a,L2,rfl,k,l⟩:=Rn.cut g;have e:s+(A::a).flatten.length=s+A0 A+(A0 a.flatten):=by simp;lia
  exact⟨A::a,L2,rfl,e▸k,λM q h=>⟨h1,b,c,f,l M q<|e▸h⟩⟩
def T7{s:tD}{f:PUnit->StateT tD ei t}(h:wp X (f ⟨⟩) Q s):wp X (set s>>=f) Q st:=ky λ_ g=>by rw[StateT.run_set];exact iP ⟨g,h⟩
def upA(u:A.Pairwise X.le)(v:B.Pairwise X.le)(h: ∀a∈A,∀b∈B,X.le a b):(A++B).Pairwise X.le:=uC.mpr ⟨u,v,h⟩
def Tu(a:L=T++(A++R))(b:i=A0 T)(c:j=A0 T+A0 A):(ar X L).extract i j=ar X A:=by subst a b c;simp[ar,DF]
def SM{Q:Bool->tD->Prop}(S:Rp X d (o.flatten++R) st)(hr:Rn X 0 o d.toList)(hi:i+1<d.size)(h: ∀d9 cB iA,Rp X cB (iA.flatten++R) d9->Rn X 0 iA cB.toList->cB.size+1=d.size->A0 iA.flatten=A0 o.flatten->Q I d9):wp X (mergeAt' i) Q st:=by
 obtain⟨d⟩:=d
 obtain⟨H,⟨D,F,P⟩,⟨sb,K,eP⟩,Y,rfl,rfl⟩: ∃H x y Y,d=H++x::y::Y/\(A0 H)=i:=by have hi:i+1<(A0 d):=hi;exact⟨d.take i,d[i],d[i+1],d.drop<|i+2,by simp,by simp;lia⟩
 obtain⟨L1,L2,rfl,h2,h3⟩:=Rn.cut hr
 obtain⟨A,B,L2,rfl⟩: ∃A B L,L2=A::B::L:=by
  match L2,h2 with
  |A::B::L,_=>exact⟨A,B,L,rfl⟩
  |[A],h=>exact h.2.2.2.2.elim
  |[],h=>exact h.elim
 obtain⟨O,u5,a1,V,hb,dZ,b1,W,h4⟩:=h2;dsimp only at O u5 hb dZ;obtain⟨κ',a',p',g,f'⟩:=st;have e1:a'=_:=S.a;have e2:p'=_:=S.q;subst e1 e2;rw[show(L1++A::B::L2).flatten++R=L1.flatten++(A++(B++(L2.flatten++R))) by simp] at S ⊢
 have fin: ∀d9 M,Rp X (H++(D,F+K,P)::Y).toArray (L1.flatten++(M++(L2.flatten++R))) d9->M.Perm (A++B)->M.Pairwise X.le->Q I d9:=λd9 M U em u=>by have em:=em.length_eq;rw[mR,<-u5,<-dZ] at em;refine h _ (H++(D,F+K,P)::Y).toArray (L1++M::L2) (by simpa using U) (h3 _ _ ⟨O,em.symm,λe=>a1 ?_,u,by rwa [em,u5,dZ,<-yt]⟩) (by simp;lia) (by simp;lia);exact Am (by rw[e] at em;simp at em;lia)
 have ep: ∀z,((H++(D,F,P)::(sb,K,eP)::Y).toArray.setIfInBounds (A0 H) z).eraseIdxIfInBounds (A0 H+1)=(H++z::Y).toArray:=λz=>by simp[ss,List.eraseIdx_append];intro;lia
 clear h h3 h4 hr;generalize L1.flatten=T at*;generalize L2.flatten++R=R at*;have hN: ∀z,z∈A\/z∈B->z<X.N:=λz l=>by simpa using S.p.mem_iff.mp<|qQ _ (by rcases l with h|h<;>simp[h])
 obtain⟨y,B',eB⟩:=List.exists_cons_of_ne_nil b1
 have hy: ∀z∈B,X.le y z:=λz l=>by
  rw[eB] at W l;rcases kW.mp l with rfl|l
  .exact X.rf _
  .exact(E6.mp W).1 z l
 refine pF ?_;dsimp only;rw[show(H++(D,F,P)::(sb,K,eP)::Y).toArray[A0 H]?=A7 (D,F,P) by simp,show(H++(D,F,P)::(sb,K,eP)::Y).toArray[A0 H+1]?=A7 (sb,K,eP) by simp];dsimp only;rw[ep];refine T7<|mx (x:=y) (by rw[eB];exact Lp<|by lia)<|ky<|yI S.k (λz h=>hN z<|.inl h) (hN y<|.inr<|by simp[eB]) V AU (by lia) u5.symm (by have:=My.mpr a1;lia) λk hk t1 t2=>?_;have S2:Rp X (H++(D,F+K,P)::Y).toArray (T++(A++(B++R))) (SortSt.mk' κ' (ar X<|T++(A++(B++R))) (H++(D,F+K,P)::Y).toArray g f'):=⟨rfl,S.k,S.f,rfl,S.p⟩
 have done:(∀a∈A,X.le a y)->Q I (SortSt.mk' κ' (ar X<|T++(A++(B++R))) (H++(D,F+K,P)::Y).toArray g f'):=λz=>fin _ (A++B) (by simpa using S2) (.refl _) (upA V W λa O b hb=>X.tr (z a O)<|hy b hb);rw[u5] at hk;obtain⟨v,E,rfl,rfl⟩: ∃v E,A=v++E/\(A0 v)=k:=⟨A.take k,A.drop k,by simp,by simp;lia⟩
 have t1: ∀z∈v,X.le z y:=λz l=>by simpa using t1 z (by simpa using l)
 have t2: ∀z∈E,X.le y z:=λz l=>X.as _ _ (by simpa using t2 z<|by simpa using l);rw[mR] at u5 hb;dsimp only;rcases DI E with e|⟨A3,x,e⟩
 .subst e;rw[iQ<|by simp[u5]];exact iM<|done (by simpa using t1)
 rw[DH] at e;have l1:0<(A0 E):=by simp[e]
 rw[jc<|by simp;lia];refine mx (x:=x) (by rw[e,show T++(v++(A3++[x])++(B++R))=T++((v++A3)++x::(B++R)) by simp];exact Lp (by have:=ox de e;simp at this ⊢;lia))<|ky<|yI (T:=T++(v++E)) (R:=R) S.k (λz h=>hN z<|.inr h) (hN x<|.inl<|by simp[e]) W (by rw[<-qj]) (by simp;lia) dZ.symm (by have:=My.mpr b1;lia) λk2 cp t3 t4=>?_;rw[dZ] at cp;obtain⟨I',J,rfl,rfl⟩: ∃I' J,B=I'++J/\(A0 I')=k2:=⟨B.take k2,B.drop k2,by simp,by simp;lia⟩
 have v3: ∀z∈I',X.le z x:=λz l=>X.as _ _ (by simpa using t3 z<|by simpa using l);have v4: ∀z∈J,X.le x z:=λz l=>by simpa using t4 z (by simpa using l)
 have lx: ∀a∈v++E,X.le a x:=by rw[e,<-qj] at V ⊢;exact FZ X.tr V<|X.rf x
 cases I' with
 |nil=>exact iM<|done λa O=>X.tr (lx a O)<|v4 y (by simp[show J=y::B' from eB])
 |cons b I'=>
  obtain rfl:b=y:=(wd eB).1;refine jv (λc=>by simp at c) λ_=>?_;rw[Tu (A:=E) (T:=T++v) (R:=b::I'++J++R) (by simp) (by simp;lia)<|by simp;lia,Tu (A:=b::I') (T:=T++(v++E)) (R:=J++R) (by simp) (by simp;lia)<|by simp;lia]
  have Z: ∀G s,Rp X (H++(D,F+K,P)::Y).toArray (T++(v++E++(b::I'++J++R))) s->Rs X (E++b::I') G->Q (f8 s).isNone (setArr s<|G.toList.zipIdx.foldl (λa x=>a.setIfInBounds (D+A0 v+x.2) x.1)<|fQ s):=λG s U ho=>by
   obtain⟨M,rfl,u,hp⟩:=ho;rw[U.f,U.a];refine fin _ (v++(M++J)) ⟨?_,U.k,U.f,U.q,io ?_ U.p⟩ ?_ ?_
   .have:=afd (M.map X.it) ((E++b::I').map X.it) ((T++v).map X.it) ((J++R).map X.it) 0 (D+A0 v) (by simp;lia) (by simpa using hp.length_eq.symm);simpa[ar] using this
   .simpa using(((hp.append_right<|J++R).append_left v).append_left T)
   .simpa using((hp.append_right J).append_left v)
   .rw[uC] at V W;refine upA V.1 (upA u W.2.1 λa O c m=>?_) λa O c m=>?_
    .rcases sQ.mp (hp.mem_iff.mp O) with O|O
     .exact X.tr (lx a<|by simp[O]) (v4 c m)
     .exact W.2.2 a O c m
    .have m:c∈E\/c∈b::I'++J:=by
      rcases sQ.mp m with m|m
      .rcases sQ.mp (hp.mem_iff.mp m) with m|m
       .exact .inl m
       .exact .inr (DY _ m)
      .exact .inr (qQ _ m)
     rcases m with m|m
     .exact V.2.2 a O c m
     .exact X.tr (t1 a O) (hy c m)
  have hd: ∀z∈E,X.le (b::I')[0] z:=t2;have top: ∀z∈b::I',X.le z E[A0 E-1]:=λz l=>by subst e;simpa using v3 z l
  have l2:0<(b::I').length:=by simp
  have h3: ∀z∈E,z<X.N:=λz l=>hN z<|.inl (by simp[l]);have h4: ∀z∈b::I',z<X.N:=λz l=>hN z<|.inr<|DY _ l;have u1:=(uC.mp V).2.1;have u2:=(uC.mp W).1;exact jv (λc=>ky<|Xj S2 u1 u2 h3 h4 l1 l2 hd top λG s U ho=>wy<|pF<|iM<|Z G s U ho) λc=>ky<|Xl S2 u1 u2 h3 h4 l1 l2 hd top λG s U ho=>wy<|pF<|iM<|Z G s U ho
end
section
variable {X:Cs}{st:tD}{b:Array (Nat×Nat×Nat)}{A L:kb}
theorem Rn.mod{w:Nat}: ∀{c:List (Nat×Nat×Nat)} {s:Nat} {a:List (List Nat)} (i:Nat),Rn X s a c->Rn X s a (c.modify i λx=>(x.1,x.2.1,w))
 |[],s,a,i,h=>by cases i<;>exact h
 |p::c,s,[],i,h=>h.elim
 |p::c,s,A::a,0,h=>h
 |p::c,s,A::a,i+1,h=>⟨h.1,h.2.1,h.2.2.1,h.2.2.2.1,Rn.mod i h.2.2.2.2⟩
theorem Rn.le: ∀{c:List (Nat×Nat×Nat)} {s:Nat} {a:List (List Nat)},Rn X s a c->A0 c<=A0 a.flatten
 |[],s,a,h=>lX _
 |p::c,s,[],h=>h.elim
 |p::c,s,A::a,h=>by have:=Rn.le h.2.2.2.2;have:=My.mpr h.2.2.1;simp at*;omega
theorem Rn.push{A:kb}{w:Nat}: ∀{d:List (Nat×Nat×Nat)} {s:Nat} {c:List (List Nat)},Rn X s c d->A≠[]->A.Pairwise X.le->Rn X s (c++[A]) (d++[(s+A0 c.flatten,A0 A,w)])
 |[],s,[],h,a,u=>⟨rfl,rfl,a,u,trivial⟩
 |[],s,A::c,h,a,u=>h.elim
 |p::d,s,[],h,a,u=>h.elim
 |p::d,s,B::c,h,a,u=>⟨h.1,h.2.1,h.2.2.1,h.2.2.2.1,by simpa[yt] using Rn.push (w:=w) h.2.2.2.2 a u⟩
def Qm{Q:Unit->tD->Prop}(S:Rp X #[] L st)(h: ∀E b L,Rp X b L E->L.Pairwise X.le->Q () E):wp X sortRuns' Q st:=by
 have I:(fQ st).size=X.N:=by rw[S.a];simpa using S.p.length_eq
 have w: ∀{b L st},Rp X b L st->A0 L=X.N:=λS=>by simpa using S.p.length_eq
 rw[sortRuns'_eq];refine pF ?_;rw[I];dsimp only;refine mM (λi c s=> ∃b,∃g:List (List Nat),∃R,c=(C,A0 g.flatten)/\Rp X b (g.flatten++R) s/\Rn X 0 g b.toList/\i<=A0 g.flatten) (λc s=>c.1=C/\ ∃b g,Rp X b g.flatten s/\Rn X 0 g b.toList) ⟨#[],[],L,rfl,S,trivial,lX _⟩ ?_ ?_ ?_
 .rintro i c s t ⟨b,g,R,rfl,S,d,o⟩;have r:=w S;dsimp only;refine jv (λe=>?_) λe=>?_
  .obtain rfl:R=[]:=Am (by simp at r e;omega);exact iM ⟨rfl,b,g,by simpa using S,d⟩
  obtain⟨x,R,rfl⟩:=tM (l:=R) (by simp at r e;omega);refine ky<|adX S AU (by simp at r ⊢;omega) λA R s S a1 u M=>?_;apply MI λn s=> ∃A R,n=A0 A/\Rp X b (g.flatten++(A++R)) s/\A≠[]/\A.Pairwise X.le
  .intro F;have T:=My.mpr a1;refine jv (λe=>?_) λe=>?_
   .refine uF (ky<|T9 S AU AU T (by simp at r;omega) (by omega) u λA R s S o u=>jv (λc=>by simp at c) λ_=>?_);generalize J:min (X.N-A0 g.flatten) (minRun' X.N X.N 0)=n at o ⊢;exact F n s ⟨A,R,o.symm,S,by intro z;subst z;simp at o e;omega,u⟩
   .exact F (A0 A) s ⟨A,R,rfl,S,a1,u⟩
  rintro _ s ⟨A,R,rfl,S,a1,u⟩;refine pF ?_;apply SN λs=> ∃b m,Rp X b (m.flatten++(A++R)) s/\Rn X 0 m b.toList/\(A0 m.flatten)=A0 g.flatten
  .intro F;rw[S.q]
   cases b.back? with
   |none=>exact F s ⟨b,g,S,d,rfl⟩
   |some z=>
    refine mM (λ_ c s=>c=(C,())/\ ∃b m,Rp X b (m.flatten++(A++R)) s/\Rn X 0 m b.toList/\(A0 m.flatten)=A0 g.flatten) (λc s=>c=(C,())/\ ∃b m,Rp X b (m.flatten++(A++R)) s/\Rn X 0 m b.toList/\(A0 m.flatten)=A0 g.flatten) ⟨rfl,b,g,S,d,rfl⟩ ?_ (λ_ _ h=>h) ?_
    .rintro j c s _ ⟨rfl,b,m,S,d,o⟩;refine pF ?_;rw[S.q]
     cases H:(if b.size>1 then b[b.size-2]? else C) with
     |none=>exact iM ⟨rfl,b,m,S,d,o⟩
     |some z=>
      refine jv (λ_=>iM ⟨rfl,b,m,S,d,o⟩) λ_=>ky<|SM S d ?_ λs v y S d _ O=>jv (λc=>by simp at c) λ_=>iM ⟨rfl,v,y,S,d,O.trans o⟩;split at H
      .omega
      .cases H
    .rintro c s ⟨rfl,b,m,S,d,o⟩;exact wy<|F _ ⟨_,m,⟨S.a,S.k,S.f,rfl,S.p⟩,by rw[S.q,Array.toList_modify];exact d.mod _,o⟩
  .rintro s ⟨b,m,S,d,o⟩;refine wy<|iM ⟨_,m++[A],R,?_,⟨by simpa using S.a,S.k,S.f,rfl,by simpa using S.p⟩,?_,?_⟩
   .rw[List.flatten_append,mR,o];simp
   .rw[S.q,e8,<-o,<-ek (A0 m.flatten)];exact d.push a1 u
   .have:=My.mpr a1;simp at*;omega
 .rintro c s ⟨b,g,R,rfl,S,d,o⟩;have r:=w S;obtain rfl:R=[]:=Am (by simp at r o;omega);exact⟨rfl,b,g,by simpa using S,d⟩
 .rintro⟨_,c⟩ s ⟨rfl,b,g,S,d⟩;have r:=w S;have G:=d.le;refine mM (λi c s=>c=(C,())/\ ∃b g,Rp X b g.flatten s/\Rn X 0 g b.toList/\(b.size<=1\/b.size+i<=X.N)) (λc s=>c=(C,())/\ ∃b g,Rp X b g.flatten s/\Rn X 0 g b.toList/\b.size<=1) ⟨rfl,b,g,S,d,.inr<|by rw[kF] at G;omega⟩ ?_ ?_ ?_
  .rintro i c s _ ⟨rfl,b,g,S,d,t⟩;refine pF ?_;rw[S.q];refine jv (λe=>iM ⟨rfl,b,g,S,d,e⟩) λe=>ky<|SM (R:=[]) (by simpa using S) d ((λc:Bool=>show(if c=B8 then b.size-2-1 else b.size-2)+1<b.size by split<;>omega) _) λs v y S d I _=>jv (λc=>by simp at c) λ_=>iM ⟨rfl,v,y,by simpa using S,d,.inr<|by omega⟩
  .rintro c s ⟨rfl,b,g,S,d,t⟩;exact⟨rfl,b,g,S,d,by omega⟩
  .rintro c s ⟨rfl,b,g,S,d,t⟩;refine iM<|h s b _ S ?_;obtain⟨C'⟩:=b
   match C',g,d,t with
   |[],[],_,_=>exact .nil
   |[p],[A],d,_=>simpa using d.2.2.2.1
   |p::[],A::B::g,d,_=>exact d.2.2.2.2.elim
   |[],A::g,d,_=>exact d.elim
   |p::C',[],d,_=>exact d.elim
   |p::U::C',g,d,t=>simp at t
end
end TS
namespace PX
open L2 PySem.SeqAt
open PySem.AutoSeq1 (wpAny_loadPart')
open PySem.MeetsSeq PySem.MeetsSeq2 PySem.MeetsSeq3
noncomputable def mv(op:cO)(i j:Int):Bool:=match op with
 | .Lt=>decide (i<j)| .LtE=>decide (i<=j)| .Gt=>decide (i>j)|_=>decide<|i>=j
def CW(a:cO):Prop:=a= .Lt\/a= .LtE\/a= .Gt\/a= .GtE
def Iu(op:cO)(A:iY)(s:iJ)(y x:iN)(b:Bool):Prop:= ∀(prog:ja) (w:iW) (E:jt) (Q:jt),Q (.bool b) s->ah (ai prog w) A (richCompare op y x) Q E s
def P4(op:cO)(A:iY)(s:iJ)(fin:Bool):List (iN×iN)->Bool->Prop
 |[],r=>r=fin
 |(y,x)::jA,r=> ∃e,EqAt A s y x e/\(if e=I then P4 op A s fin jA r else Iu op A s y x r)
def ad1(l b:iE)(a i:lI)(n z:Nat)(dd q:Option iE)(B T:ze)(r:Bool):
  Meets (bz.«tuple.__lt__» ⟨[.ref l,.ref b],[]⟩) (λA R s=>s.heap.get? l=J {cls:= .type "tuple",dict:=dd,data:= .seq a n,slots:=B}/\s.heap.get? b=J {cls:= .type "tuple",dict:=q,data:= .seq i z,slots:=T}/\
   P4 .Lt A.in1 s (mv .Lt a.size i.size) (a.toList.zip i.toList) r/\R (.ok<|.ret<|.bool r) s):=
 .of_wp λf w A R s h=>by
  obtain⟨o,g,d,p,os⟩:=s;obtain⟨v,t,c,h⟩:=h;have f2:=AutoSeq1.sub_tuple_tuple
  wp_walk using A2 v,A2 t,yq _ (λjA b m=>b.1=C/\m=⟨o,g,d,p,os⟩/\P4 .Lt A.in1 ⟨o,g,d,p,os⟩ (mv .Lt a.size i.size) jA r) _
  case turn=>
   rintro⟨y,x⟩ jA b m ⟨j,rfl,e,u,c⟩;refine iF<|u f w _ _ ?_
   cases e with
   |true=>
    simp only[kE] at c
    wp_walk
    exact⟨rfl,rfl,c⟩
   |false=>
    simp only[jK,jX] at c;have k:=c f w
    wp_walk using k
    exact⟨_,rfl,by simpa using h⟩
  case fin=>
   rintro⟨E,U⟩ m ⟨j,rfl,c⟩;simp only at j;subst j;have c:r=mv .Lt a.size i.size:=c;rw[c] at h
   wp_walk
   exact⟨_,rfl,by simpa[xz,mv] using h⟩
  case h=>exact⟨rfl,rfl,c⟩
section
variable {A:iY}{s:iJ}{l b:iE}{a c:lI}{r:Bool}
def aeu(q:s.heap.IsTuple l a)(p:s.heap.IsTuple b c)(t:A.units<aS)(u:P4 .Lt A.in1 s (mv .Lt a.size c.size) (a.toList.zip c.toList) r):Iu .Lt A s (.ref l) (.ref b) r:=λi w E Q h=>by obtain⟨⟨o,dd,f,y⟩,j,g,n,hd⟩:=id q;obtain⟨⟨B,m,data2,z⟩,k,e,v,d⟩:=id p;simp only at g hd e d;subst g hd e d;exact richCompare_meets_room (op:= .Lt) ⟨_,j,rfl⟩ ⟨_,k,rfl⟩ PySem.F.slot_tuple_lt PySem.F.entry_tuple_lt (PySem.F.args_tuple_lt_2 _ _) (ad1 l b a c n v dd m y z r) ⟨j,k,u,show eR r≠Value.notImplemented/\Q (.bool r) s from⟨(λx=>nomatch x),h⟩⟩ t
end
mutual
noncomputable def mH(a:cO):D->D->Option Bool
 | .int i,.int j=>J<|mv a i j
 | .tup l,.tup m=>if a= .Lt then oS a l m else C
 |_,_=>C
noncomputable def oS(a:cO):List D->List D->Option Bool
 |[],m=>J<|mv a 0<|A0 m
 |x::l,[]=>J<|mv a ((x::l).length) 0
 |x::l,y::m=>if D.BY x y=I then oS a l m else mH a x y
end
def si(c:cO)(a b k:Int):mv c (a+k) (b+k)=mv c a b:=by
 cases c<;>simp[mv]
section
variable {X:Cx}{c:ju}{f:L2.St}{H:Hp}{s:iJ}
def Fx(b:CW op):Iu op A s (.int i t) (.int j u) (mv op i j):=λa w E Q h=>by
 rcases b with rfl|rfl|rfl|rfl
 .exact(EQ h:ah (ai a w) A (av .Lt _ _) Q E s)
 .exact(Fa h:ah (ai a w) A (av .LtE _ _) Q E s)
 .exact(Fk h:ah (ai a w) A (av .Gt _ _) Q E s)
 .exact(FM h:ah (ai a w) A (av .GtE _ _) Q E s)
def Hz(ho:CW op)(I:Inv X c f H s): ∀(n:Nat) (d e:D) (v u:V) (a b:iN) (O B:BL) (A:iY) (r:Bool),kg X.K H O d v->kg X.K H B e u->RelV v a->RelV u b->d.dep<=n->e.dep<20000->A.units+n<aS->mH op d e=A7 r->Iu op A s a b r:=by
 intro n
 induction n with
 |zero=>
  intro d e v u a b O B A r hd T G J M W hA g
  cases d with
  |int i=>
   cases e with
   |int j=>have:=jr hd;subst this;have:=jr T;subst this;obtain⟨t,rfl⟩:=G;obtain⟨t',rfl⟩:=J;rw[mH] at g;rw[<-kL g];exact Fx ho
   |_=>rw[mH] at g<;>first|cases g|(intros;simp_all)
  |tup l=>rw[D.dep] at M;lia
  |_=>rw[mH] at g<;>first|cases g|(intros;simp_all)
 |succ n ih=>
  intro d e v u a b O B A r hd T G J M W hA g
  cases d with
  |int i=>
   cases e with
   |int j=>have:=jr hd;subst this;have:=jr T;subst this;obtain⟨t,rfl⟩:=G;obtain⟨t',rfl⟩:=J;rw[mH] at g;rw[<-kL g];exact Fx ho
   |_=>rw[mH] at g<;>first|cases g|(intros;simp_all)
  |tup l=>
   cases e with
   |tup m=>
    rw[mH] at g;split at g
    case isFalse=>cases g
    rename_i N;subst N;rw[D.dep] at M W;obtain⟨p,E,rfl,q,z⟩:=lq hd;obtain⟨p2,L,rfl,q2,o⟩:=lq T;cases G;cases J;obtain⟨h,Q,pl,_⟩:=I.tuple q;obtain⟨w,C,f6,_⟩:=I.tuple q2;have S:A.in1.units=A.units+1:=rfl
    have Y: ∀(l m:List D) (E L:List V) (h w:jF) (k:Int),D.BZ l+1<=n+1->D.BZ m<20000->AF X.K H O l E->AF X.K H B m L->Vals E h->Vals L w->oS .Lt l m=A7 r->P4 .Lt A.in1 s (mv .Lt (h.length+k)<|w.length+k) (h.zip w) r:=by
     intro l
     induction l with
     |nil=>
      intro m E L h w k F P z o Q C g;rw[AF] at z;subst z;cases Q;rw[oS] at g;have e1:=o.length;have e2:=C.length;show r=_;rw[si,<-kL g]
      congr 1
      lia
     |cons x l U=>
      intro m E L h w k F P z o Q C g;rw[AF] at z;obtain⟨Z,xr,rfl,g1,g2⟩:=z
      cases Q with
      |cons a1 a2=>
       cases m with
       |nil=>
        rw[AF] at o;subst o;cases C;rw[oS] at g;have e1:=g2.length;have e2:=a2.length;rw[kw];show r=_;rw[si,<-kL g]
        congr 1
        simp only[lh];lia
       |cons y m=>
        rw[AF] at o;obtain⟨vy,yr,rfl,g3,g4⟩:=o
        cases C with
        |cons b1 b2=>
         rw[oS] at g;rw[D.BZ] at F P;rw[vh];refine⟨D.BY x y,Bz I n x y Z vy _ _ O B A.in1 (.inl g1) (.inl g3) a1 b1 (by lia) (by lia) (by rw[S];lia),?_⟩
         cases R:D.BY x y with
         |true=>
          rw[R,iQ AU] at g;rw[iQ AU];have:=U m xr yr _ _ (k+1) (by lia) (by lia) g2 g4 a2 b2 g;simp only[lh];have e: ∀a:Nat,(((a+1:Nat):Int)+k)=(a:Int)+(k+1):=λa=>by lia
          rw[e,e];exact this
         |false=>rw[R,jc ki] at g;rw[jc ki];exact ih x y Z vy _ _ O B A.in1 r (.inl g1) (.inl g3) a1 b1 (by lia) (by lia) (by rw[S];lia) g
    have:=Y l m E L h w 0 (by lia) (by lia) z o Q C g;refine aeu pl f6 (by lia) ?_;simpa using this
   |_=>rw[mH] at g<;>first|cases g|(intros;simp_all)
  |_=>rw[mH] at g<;>first|cases g|(intros;simp_all)
noncomputable def uv(a:cO)(d e:D):Option (D×Bool):=if d.dep<=50/\e.dep<=50 then(mH a d e).map λb=>(.bl b,Y) else C
def rZ(b:CW op)(l:X.A.units+60<aS):ES X (av op) (rD X.K<|uv op):=by
 intro c s f H x y v u Q U j k h;obtain⟨O,d,e,z,np,h1,g,a,G⟩:=h;unfold uv at a;split at a
 .rename_i hd;obtain⟨r,i,rfl⟩:=jB a;have:=Hz b U 50 d e x y v u O O X.A r h1 g j k hd.1 (by lia) (by lia) i X.prog X.w X.xe (EP X c f Q) ⟨.bl r,H,U,rfl,G.bl⟩;rcases b with rfl|rfl|rfl|rfl<;>exact this
 .cases a
end
open TS
section
variable {b:ja}{w:iW}{A:iY}{E:jt}{s:iJ}
noncomputable def ql(h:iX)(a:iE)(c:jF):Heap:=((h.update a<|aF λ_=> #[]).push<|bc "tuple" c.toArray 0).push<|bc "list" #[] 0
noncomputable def OI(a:jF)(i:Nat):Keyed:=(a.getD i ap,a.getD i ap)
def vM{a:iE}{c:jF}{n:Nat}{P:Ch->Shared->Prop}{κ:ro}{lt:Qa}(t:s.heap.get? a=A7 (bc "list" c.toArray n))(B:(A0 c)<=sizeLine)(T: ∀i j,lt i j=B8->lt j i=B6)(N: ∀{i j k},lt j i=B6->lt k j=B6->lt k i=B6)
  (hk:2<=A0 c->ah (ai b w) A (keyKind' c.toArray) (λg d=>d={s with heap:=ql s.heap a c}/\g=κ) (λ_ _=>False) {s with heap:=ql s.heap a c})
  (ask:2<=A0 c->Ask (ai b w) A (λd=>d={s with heap:=ql s.heap a c}) (OI c) κ (A0 c) lt)
  (h: ∀p:List Nat,p.Perm (au<|A0 c)->p.Pairwise (λi j=>lt j i=B6)->P (.done<|.ret .none) {s with heap:=(ql s.heap a c).update a (aF λ_=>(p.map λi=>c.getD i ap).toArray)}):
  ah (ai b w) A (bz.«list.sort» ⟨[.ref a],[]⟩) P E s:=by
 rw[list_sort_plain];have U:a<s.heap.objs.size:=jW t;refine iF<|GV t AU<|iF<|wc t AU ?_ (by rw[jy];exact B)<|lX _;obtain⟨v,I⟩: ∃v,(s.heap.update a<|aF λ_=>(#[]:Array iN)).get? a=A7 (bc "list" #[] v):=⟨_,yp t λ_=> #[]⟩
 refine iF<|Ak I AU<|iF<|G2 ?_ (by show (A0 c)<=_;exact B);refine iF<|DD ?_<|lX _;refine mn ?_;have r:(ql s.heap a c).get? a=A7 (bc "list" #[] v):=jT _ (jT _ I);show ah (ai b w) A _ P E {s with heap:=ql s.heap a c};dsimp only;by_cases l:c.toArray.size<2
 .rw[iQ l,iQ l];refine iF<|iP ?_;rw[GY];refine iF<|iP ?_;dsimp only;refine iF<|Ak r AU<|iF<|wc r AU ?_ (lX _) ?_
  .simp only[vz,jK,jX];refine iP ?_;have u:(A0 c)<2:=by simpa using l
   have:=h (au<|A0 c) (wa _) (by rw[P5];intro i j m J Y;simp at m J;lia)
   have e:((c.toArray.zip c.toArray).map (·.2))=((au<|A0 c).map λi=>c.getD i ap).toArray:=by
    apply G0
    .simp
    .intro i h1 G;have m:i<(A0 c):=by simpa using h1
     simp[m]
   rw[e];exact this
  .rw[sB,sx];simp;lia
 .rw[jc l,jc l];have u:2<=(A0 c):=by simpa using l
  refine iF<|oW (hk u) (λg d z=>?_) λ_ _ x=>x.elim;obtain⟨rfl,rfl⟩:=z;refine iF (oW (Qm (X:=⟨_,A,E,λd=>d={s with heap:=ql s.heap a c},OI c,lt,g,A0 c,T,N,ask u⟩) (L:=au<|A0 c) ⟨?_,rfl,rfl,rfl,.refl _⟩ (Q:=λ_ q=> ∃p,(fQ q).map (·.2)=(p.map λi=>c.getD i ap).toArray/\f8 q=AX/\p.Perm (au<|A0 c)/\p.Pairwise λi j=>lt j i=B6) (λq _ p R y=>⟨p,?_,R.f,R.p,y⟩) _ rfl) ?_ λ_ _ e=>e)
  .show c.toArray.zip c.toArray=_;apply G0
   .simp
   .intro i h1 G;have m:i<(A0 c):=by simpa using h1
    simp[OI,m]
  .rw[R.a];simp[OI]
  rintro⟨⟨⟩,q⟩ d ⟨rfl,C,o,O,H,y⟩;dsimp only;have M:(A0 C)=(A0 c):=by simpa using H.length_eq
  refine iF<|Ak r AU<|iF<|wc r AU ?_ (lX _) ?_
  .rw[O];simp only[vz,jK,jX];rw[o];exact iP<|h C H y
  .rw[o,jy,jM,M];lia
end
mutual
noncomputable def cT:D->D->Ordering
 | .int i,.int j=>if i<j then .lt else if i=j then .eq else .gt
 | .int _,_=> .lt
 | .tup _,.int _=> .gt
 | .tup l,.tup m=>cL l m
 | .tup _,_=> .lt
 |_,.int _=> .gt
 |_,.tup _=> .gt
 |_,_=> .eq
noncomputable def cL:List D->List D->Ordering
 |[],[]=> .eq
 |[],_::_=> .lt
 |_::_,[]=> .gt
 |x::l,y::m=>match cT x y with
  | .lt=> .lt
  | .gt=> .gt
  | .eq=>cL l m
end
mutual
theorem J2: ∀x:D,cT x x= .eq
 | .int i=>by simp[cT]
 | .tup l=>by rw[cT];exact J5 l
 | .B7=>by simp[cT]
 | .bl _=>by simp[cT]
 | .str _=>by simp[cT]
 | .lst _=>by simp[cT]
 | .BU _ _ _=>by simp[cT]
theorem J5: ∀l:List D,cL l l= .eq
 |[]=>by simp[cL]
 |x::l=>by rw[cL,J2 x];exact J5 l
end
mutual
theorem yd: ∀x y:D,cT y x=(cT x y).swap
 | .int i,.int j=>by
  rw[cT,cT];by_cases h1:i<j
  .rw[iQ h1,jc<|by lia,jc<|by lia];rfl
  .rw[jc h1];by_cases a:i=j
   .rw[iQ a,jc<|by lia,iQ a.symm];rfl
   .rw[jc a,iQ<|by lia];rfl
 | .tup l,.tup m=>by rw[cT,cT];exact J3 l m
 | .int _,.tup _=>by simp[cT]
 | .int _,.B7=>by simp[cT]
 | .int _,.bl _=>by simp[cT]
 | .int _,.str _=>by simp[cT]
 | .int _,.lst _=>by simp[cT]
 | .int _,.BU _ _ _=>by simp[cT]
 | .tup _,.int _=>by simp[cT]
 | .tup _,.B7=>by simp[cT]
 | .tup _,.bl _=>by simp[cT]
 | .tup _,.str _=>by simp[cT]
 | .tup _,.lst _=>by simp[cT]
 | .tup _,.BU _ _ _=>by simp[cT]
 | .B7,y=>by cases y<;>simp[cT]
 | .bl _,y=>by cases y<;>simp[cT]
 | .str _,y=>by cases y<;>simp[cT]
 | .lst _,y=>by cases y<;>simp[cT]
 | .BU _ _ _,y=>by cases y<;>simp[cT]
theorem J3: ∀l m:List D,cL m l=(cL l m).swap
 |[],[]=>by simp[cL]
 |[],_::_=>by simp[cL]
 |_::_,[]=>by simp[cL]
 |x::l,y::m=>by
  rw[cL,cL,yd x y];cases h:cT x y<;>simp[fV]
  exact J3 l m
end
def Oo(h1:cT x y≠ .gt)(a:cT y x≠ .gt):cT x y= .eq:=by
 rw[yd x y] at a
 cases h:cT x y with
 |lt=>rw[h] at a;exact absurd H a
 |eq=>rfl
 |gt=>exact absurd h h1
mutual
theorem yc: ∀x y z:D,cT x y≠ .gt->cT y z≠ .gt->cT x z≠ .gt
 | .int i,y,z,h1,d=>by
  cases z with
  |int k=>
   cases y with
   |int j=>
    rw[cT] at h1 d ⊢
    have a:i<=j:=by
     by_cases a:i<j
     .lia
     .rw[jc a] at h1;by_cases b:i=j
      .lia
      .rw[jc b] at h1;exact absurd H h1
    have b:j<=k:=by
     by_cases a:j<k
     .lia
     .rw[jc a] at d;by_cases b:j=k
      .lia
      .rw[jc b] at d;exact absurd H d
    by_cases c:i<k
    .rw[iQ c];simp
    .rw[jc c,iQ<|by lia];simp
   |_=>simp[cT] at d
  |_=>simp[cT]
 | .tup l,y,z,h1,d=>by
  cases y with
  |int j=>simp[cT] at h1
  |tup m=>
   cases z with
   |int k=>simp[cT] at d
   |tup n=>rw[cT] at h1 d ⊢;exact Gk l m n h1 d
   |_=>simp[cT]
  |_=>cases z<;>simp_all [cT]
 | .B7,y,z,h1,d=>by cases y<;>cases z<;>simp_all [cT]
 | .bl _,y,z,h1,d=>by cases y<;>cases z<;>simp_all [cT]
 | .str _,y,z,h1,d=>by cases y<;>cases z<;>simp_all [cT]
 | .lst _,y,z,h1,d=>by cases y<;>cases z<;>simp_all [cT]
 | .BU _ _ _,y,z,h1,d=>by cases y<;>cases z<;>simp_all [cT]
 termination_by x y z=>sizeOf x+sizeOf y+sizeOf z
theorem Gk: ∀l m n:List D,cL l m≠ .gt->cL m n≠ .gt->cL l n≠ .gt
 |[],m,n,_,_=>by cases n<;>simp[cL]
 |x::l,[],n,h1,_=>by simp[cL] at h1
 |x::l,y::m,[],_,a=>by simp[cL] at a
 |x::l,y::m,z::n,h1,a=>by
  have a1:cT x y≠ .gt:=λh=>by rw[cL,h] at h1;exact h1 H
  have c:cT y z≠ .gt:=λh=>by rw[cL,h] at a;exact a H
  have g:=yc x y z a1 c;rw[cL]
  cases b:cT x z with
  |lt=>simp
  |gt=>exact absurd b g
  |eq=>
   have f:cT z x≠ .gt:=by rw[yd x z,b];simp[fV]
   have d:cT x y= .eq:=Oo a1<|yc y z x c f;have e:cT y z= .eq:=Oo c<|yc z x y f a1;rw[cL,d] at h1;rw[cL,e] at a;exact Gk l m n h1 a
 termination_by l m n=>sizeOf l+sizeOf m+sizeOf n
end
noncomputable def EO(x y:D):Bool:=cT x y== .lt
def Yc:EO x y=I↔cT x y= .lt:=by simp[EO]
def rh:EO x y=Y↔cT x y≠ .lt:=by simp[EO]
def Tf:EO y x=Y↔cT x y≠ .gt:=by rw[rh,yd x y];cases cT x y<;>simp[fV]
def YM(x y:D)(h:EO x y=I):EO y x=Y:=by rw[Tf,Yc.mp h];simp
def Xm(h1:EO y x=Y)(a:EO z y=Y):EO z x=Y:=Tf.mpr<|yc _ _ _ (Tf.mp h1) (Tf.mp a)
mutual
/-- ints,and tuples of such -/
noncomputable def D.pr:D->Bool
 | .int _=>I
 | .tup l=>D.KS l
 |_=>Y
noncomputable def D.KS:List D->Bool
 |[]=>I
 |x::l=>D.pr x&&D.KS l
end
mutual
theorem Ic: ∀x y:D,D.pr x=I->D.pr y=I->D.BY x y=(cT x y== .eq)
 | .int i,.int j,_,_=>by
  rw[D.BY,cT];by_cases h:i=j
  .subst h;simp
  .rw[jc h];by_cases a:i<j<;>simp[h,a]
 | .int _,.tup _,_,_=>by simp[D.BY,cT]
 | .tup _,.int _,_,_=>by simp[D.BY,cT]
 | .tup l,.tup m,h1,a=>by rw[D.BY,cT];rw[D.pr] at h1 a;exact JT l m h1 a
 | .B7,_,h,_=>by simp[D.pr] at h
 | .bl _,_,h,_=>by simp[D.pr] at h
 | .str _,_,h,_=>by simp[D.pr] at h
 | .lst _,_,h,_=>by simp[D.pr] at h
 | .BU _ _ _,_,h,_=>by simp[D.pr] at h
 |_,.B7,_,h=>by simp[D.pr] at h
 |_,.bl _,_,h=>by simp[D.pr] at h
 |_,.str _,_,h=>by simp[D.pr] at h
 |_,.lst _,_,h=>by simp[D.pr] at h
 |_,.BU _ _ _,_,h=>by simp[D.pr] at h
theorem JT: ∀l m:List D,D.KS l=I->D.KS m=I->D.D8 l m=(cL l m== .eq)
 |[],[],_,_=>by simp[D.D8,cL]
 |[],_::_,_,_=>by simp[D.D8,cL]
 |_::_,[],_,_=>by simp[D.D8,cL]
 |x::l,y::m,h1,a=>by rw[D.KS,lA] at h1 a;rw[D.D8,cL,Ic x y h1.1 a.1,JT l m h1.2 a.2];cases cT x y<;>simp
end
mutual
theorem ye: ∀x y:D,D.pr x=I->D.pr y=I->cT x y= .eq->x=y
 | .int i,.int j,_,_,h=>by
  rw[cT] at h;by_cases h1:i<j
  .rw[iQ h1] at h;cases h
  .rw[jc h1] at h;by_cases c:i=j
   .rw[c]
   .rw[jc c] at h;cases h
 | .tup l,.tup m,a,b,h=>by rw[cT] at h;rw[D.pr] at a b;rw[Gm l m a b h]
 | .int _,.tup _,_,_,h=>by simp[cT] at h
 | .tup _,.int _,_,_,h=>by simp[cT] at h
 | .B7,_,a,_,_=>by simp[D.pr] at a
 | .bl _,_,a,_,_=>by simp[D.pr] at a
 | .str _,_,a,_,_=>by simp[D.pr] at a
 | .lst _,_,a,_,_=>by simp[D.pr] at a
 | .BU _ _ _,_,a,_,_=>by simp[D.pr] at a
 |_,.B7,_,a,_=>by simp[D.pr] at a
 |_,.bl _,_,a,_=>by simp[D.pr] at a
 |_,.str _,_,a,_=>by simp[D.pr] at a
 |_,.lst _,_,a,_=>by simp[D.pr] at a
 |_,.BU _ _ _,_,a,_=>by simp[D.pr] at a
theorem Gm: ∀l m:List D,D.KS l=I->D.KS m=I->cL l m= .eq->l=m
 |[],[],_,_,_=>rfl
 |[],_::_,_,_,h=>by simp[cL] at h
 |_::_,[],_,_,h=>by simp[cL] at h
 |x::l,y::m,a,b,h=>by
  rw[D.KS,lA] at a b;rw[cL] at h
  cases e:cT x y with
  |eq=>rw[e] at h;rw[ye x y a.1 b.1 e,Gm l m a.2 b.2 h]
  |lt=>rw[e] at h;cases h
  |gt=>rw[e] at h;cases h
end
mutual
theorem EN: ∀x y:D,D.pr x=I->D.pr y=I-> ∀b,mH .Lt x y=J b->b=EO x y
 | .int i,.int j,_,_,b,h=>by
  rw[mH] at h;rw[<-kL h,EO,cT,mv];by_cases h1:i<j
  .simp[h1]
  .rw[jc h1];by_cases a:i=j<;>simp[h1,a]
 | .int _,.tup _,_,_,b,h=>by simp[mH] at h
 | .tup _,.int _,_,_,b,h=>by simp[mH] at h
 | .tup l,.tup m,h1,a,b,h=>by rw[mH,iQ H] at h;rw[D.pr] at h1 a;rw[EO,cT];exact JX l m h1 a b h
 | .B7,_,h,_,_,_=>by simp[D.pr] at h
 | .bl _,_,h,_,_,_=>by simp[D.pr] at h
 | .str _,_,h,_,_,_=>by simp[D.pr] at h
 | .lst _,_,h,_,_,_=>by simp[D.pr] at h
 |_,.B7,_,h,_,_=>by simp[D.pr] at h
 |_,.bl _,_,h,_,_=>by simp[D.pr] at h
 |_,.str _,_,h,_,_=>by simp[D.pr] at h
 |_,.lst _,_,h,_,_=>by simp[D.pr] at h
theorem JX: ∀l m:List D,D.KS l=I->D.KS m=I-> ∀b,oS .Lt l m=J b->b=(cL l m== .lt)
 |[],[],_,_,b,h=>by rw[oS] at h;rw[<-kL h];simp[mv,cL]
 |[],_::_,_,_,b,h=>by rw[oS] at h;rw[<-kL h];simp[mv,cL]<;>lia
 |_::_,[],_,_,b,h=>by rw[oS] at h;rw[<-kL h];simp[mv,cL]<;>lia
 |x::l,y::m,h1,a,b,h=>by
  rw[D.KS,lA] at h1 a;rw[oS,Ic x y h1.1 a.1] at h;rw[cL]
  cases c:cT x y with
  |eq=>rw[c] at h;simp at h;exact JX l m h1.2 a.2 b h
  |lt=>rw[c] at h;simp at h;have:=EN x y h1.1 a.1 b h;rw[this,EO,c]
  |gt=>rw[c] at h;simp at h;have:=EN x y h1.1 a.1 b h;rw[this,EO,c]
end
section
variable {a:Type}(lt:a->a->Bool)
noncomputable def Ez(x:a):List a->List a
 |[]=>[x]
 |y::l=>if lt y x=I then y::Ez x l else x::y::l
noncomputable def mK:List a->List a
 |[]=>[]
 |x::l=>Ez lt x<|mK l
theorem uT(x:a): ∀l:List a,(Ez lt x l).Perm (x::l)
 |[]=>wa _
 |y::l=>by
  rw[Ez];split
  .exact((uT x l).cons y).trans (i5 x y l)
  .exact wa _
theorem kH: ∀l:List a,(mK lt l).Perm l
 |[]=>wa _
 |x::l=>(uT lt x _).trans<|(kH l).cons x
end
def aeL{x:D}: ∀{l:List D},(l.Pairwise λx y=>EO y x=Y)->(Ez EO x l).Pairwise λx y=>EO y x=Y:=by
 intro d
 induction d with
 |nil=>intro _;exact Ma _ _
 |cons y l c=>
  intro h;have h:=E6.mp h;rw[Ez]
  cases b:EO y x with
  |true=>
   refine E6.mpr ⟨λz a=>?_,c h.2⟩;rcases kW.mp ((uT EO x l).mem_iff.mp a) with rfl|a
   .exact YM _ _ b
   .exact h.1 z a
  |false=>
   refine E6.mpr ⟨λz a=>?_,E6.mpr h⟩;rcases kW.mp a with rfl|a
   .exact b
   .exact Xm b (h.1 z a)
theorem ph: ∀l:List D,(mK EO l).Pairwise λx y=>EO y x=Y
 |[]=>cK
 |x::l=>aeL<|ph l
def KG{l m:List D}(h: ∀x∈m,D.pr x=I)(a:l.Perm m)(c:l.Pairwise λx y=>EO y x=Y):l=mK EO m:=
 L9 (λx y d e h1 b=>ye x y (h x<|a.mem_iff.mp d) (h y<|(kH EO m).mem_iff.mp e)<|Oo (Tf.mp h1)<|Tf.mp b) c (ph m) (a.trans (kH EO m).symm)
def adl{a:List D}{p:kb}(pr: ∀x∈a,D.pr x=I)(d:p.Perm (au<|A0 a))(f:p.Pairwise λi j=>EO (a.getD j .B7) (a.getD i .B7)=Y):p.map (λi=>a.getD i .B7)=mK EO a:=by
 have e:(au<|A0 a).map (λi=>a.getD i .B7)=a:=by apply Ar;intro i;by_cases c:i<A0 a<;>simp[c]
 have b:=d.map λi=>a.getD i .B7;rw[e] at b;exact KG pr b<|oD.mpr f
noncomputable def lK:D->Option Nat
 | .int _=>J 0
 | .tup (.int _::_)=>J 1
 | .tup (.tup _::_)=>J 2
 |_=>C
noncomputable def JJ:Nat->ro
 |0=>M2
 |1=>X0 I
 |_=>X0 Y
structure Hv(k:Nat)(l:List D):Prop where
 hd: ∀x∈l,lK x=A7 k
 pr: ∀x∈l,D.pr x=B8
 dp: ∀x∈l,x.dep<=50
 cm: ∀x∈l,∀y∈l,(mH .Lt x y).isSome=B8
noncomputable def nR(l:List D):Bool:=A0 l<=1||match l with
 |[]=>I
 |x::_=>(lK x).isSome&&(l.all λy=>lK y==lK x&&D.pr y&&decide (y.dep<=50))&&l.all λy=>l.all λz=>(mH .Lt y z).isSome
def Cv(h:nR l=I):(A0 l)<=1\/ ∃k,Hv k l:=by
 unfold nR at h;rw[yo] at h;rcases h with h|h
 .left;simpa using h
 .right
  cases l with
  |nil=>exact⟨0,λx a=>absurd a mh,λx a=>absurd a mh,λx a=>absurd a mh,λx a=>absurd a mh⟩
  |cons x m=>simp only[lA,lY,vo] at h;obtain⟨⟨h1,c⟩,d⟩:=h;obtain⟨k,hk⟩:=Kb.mp h1;refine⟨k,λy b=>?_,λy b=>(c y b).1.2,λy b=>(c y b).2,λy b z e=>d y b z e⟩;have:=(c y b).1.1;rw[hk] at this;simpa using this
section
variable {X:Cx}{d:ju}{f:L2.St}{H:Hp}{s:iJ}
def uJ(v:Vals xs a)(b:i<a.length):RelV (xs.getD i .B7) (a.getD i ap):=by
 have e:=v.length;have h:xs[i]?=J xs[i]:=jx (by omega);obtain⟨w,c,j⟩:=v.get h;have h1:xs.getD i .B7=xs[i]:=by simp[show i<xs.length by omega]
 have g:a.getD i ap=w:=by rw[jx b] at c;have:=kL c;simp[b,this]
 rw[h1,g];exact j
def uM(r:AF X.K H O ds xs)(a:i<ds.length):Rep X.K H O (ds.getD i .B7) (xs.getD i .B7):=by
 have e:=r.length;have hd:ds[i]?=J ds[i]:=jx a;obtain⟨v,b,g⟩:=r.get hd;have h1:ds.getD i .B7=ds[i]:=by simp[a]
 have c:xs.getD i .B7=v:=by rw[jx<|by lia] at b;have:=kL b;simp[show i<xs.length by lia,this]
 rw[h1,c];exact g
def A8{ds:List D}{i:Nat}(a:i<A0 ds):ds.getD i .B7∈ds:=by simp[a]
theorem F3(I:Inv X d f H s){A:iY}{b:Bool}{O z:BL}(hA:A.units+60<aS){r:Bool}{Q:tE}(n:Q r s): ∀(l m:List D) (u v:List V) (g o:jF) (k:Int) (i:Nat),D.BZ l<=50->D.BZ m<=50->
  ((b&&i==0)=B8-> ∀x y l' m',l=x::l'->m=y::m'->(∃a,x= .int a)/\ ∃c,y= .int c)->AF X.K H O l u->AF X.K H z m v->Vals u g->Vals v o->oS .Lt l m=J r->
  ∀fin:Bool,fin=mv .Lt (g.length+k) (o.length+k)->PySem.W.KatLex X.prog X.w A b fin Q (g.zip o) i s
 |[],m,u,v,g,o,k,i,_,_,_,p,q,v1,v2,j,fin,hf=>by
  rw[AF] at p;subst p;cases v1;rw[oS] at j;have U:=q.length;have Y:=v2.length;show Q fin s;rw[hf,si];rw[<-kL j] at n;have:mv .Lt ((([]:List iN).length:Nat):Int) (o.length:Int)=mv .Lt 0 (m.length:Int):=by congr 1;lia
  rw[this];exact n
 |x::l,[],u,v,g,o,k,i,_,_,_,p,q,v1,v2,j,fin,hf=>by
  rw[AF] at q;subst q;cases v2;rw[oS] at j;have U:=p.length;have Y:=v1.length;rw[kw];show Q fin s;rw[hf,si];rw[<-kL j] at n;have:mv .Lt (g.length:Int) ((([]:List iN).length:Nat):Int)=mv .Lt (((x::l).length:Nat):Int) 0:=by congr 1;lia
  rw[this];exact n
 |x::l,y::m,u,v,g,o,k,i,J',M,hb,p,q,v1,v2,j,fin,hf=>by
  rw[AF] at p q;obtain⟨L,P,rfl,g1,g2⟩:=p;obtain⟨T,R,rfl,g3,F⟩:=q
  cases v1 with
  |cons a1 G=>
   cases v2 with
   |cons B N=>
    rw[oS] at j;rw[D.BZ] at J' M;rw[vh];refine PySem.W.kat_cons<|Bz I 50 x y L T _ _ O z A (.inl g1) (.inl g3) a1 B (by lia) (by lia) (by lia) X.prog X.w _ _ ?_
    cases E:D.BY x y with
    |true=>
     rw[E,iQ AU] at j;refine PySem.W.kat_yes<|F3 I hA n l m P R _ _ (k+1) (i+1) (by lia) (by lia) (λh=>by simp at h) g2 F G N j fin ?_;rw[hf];simp only[lh];have e: ∀a:Nat,(((a+1:Nat):Int)+k)=(a:Int)+(k+1):=λa=>by lia
     rw[e,e]
    |false=>
     rw[E,jc ki] at j;refine PySem.W.kat_no ?_
     cases C:(b&&i==0) with
     |true=>obtain⟨⟨a,rfl⟩,c,rfl⟩:=hb C x y l m AU AU;have:=g1.int;subst this;have:=g3.int;subst this;obtain⟨t,rfl⟩:=a1;obtain⟨S,rfl⟩:=B;rw[mH] at j;rw[<-kL j] at n;exact oneLt_int n
     |false=>exact PySem.W.kat_one _ _ (Hz (.inl AU) I 50 x y L T _ _ O z A r (.inl g1) (.inl g3) a1 B (by lia) (by lia) (by lia) j X.prog X.w _ _ n)
def YL(I:Inv X d f H s){O:BL}{u:List D}{N:List V}{e:jF}{A:iY}(hA:A.units+60<aS)(rr:AF X.K H O u N)(v:Vals N e){k:Nat}(B:Hv k u):
  Ask (ai X.prog X.w) A (λT=>T=s) (OI e) (JJ k) e.length (λi j=>EO (u.getD i .B7)<|u.getD j .B7):=by
 intro i j hi hj T ao E';subst ao;have e1:=rr.length;have e2:=v.length;have J:u.getD i .B7∈u:=A8 (by lia);have M:u.getD j .B7∈u:=A8 (by lia);have ri:=uM rr (i:=i) (by lia);have rj:=uM rr (i:=j) (by lia);have vi:=uJ v hi;have vj:=uJ v hj;obtain⟨b,E⟩:=Kb.mp<|B.cm _ J _ M;have i4:=EN _ _ (B.pr _ J) (B.pr _ M) b E;have r:=B.hd _ J;have g:=B.hd _ M;have di:=B.dp _ J;have dj:=B.dp _ M;show ah _ _ (No (JJ k) (e.getD i ap)<|e.getD j ap) _ _ _;dsimp only;rw[<-i4];generalize u.getD i .B7=x at*;generalize u.getD j .B7=y at*;generalize N.getD i .B7=vx at*;generalize N.getD j .B7=vy at*;generalize e.getD i ap=a at*;generalize e.getD j ap=c at*
 have C: ∀(l m:List D) (G:Bool),x= .tup l->y= .tup m->(G=B8-> ∀x y Z m',l=x::Z->m=y::m'->(∃a,x= .int a)/\ ∃c,y= .int c)->ah (ai X.prog X.w) A (No (X0 G) a c) (λU R=>R=T/\U=b) E' T:=λl m G F P hh=>by subst F P;obtain⟨p,us,rfl,q,r1⟩:=ri.tup;obtain⟨p2,ws,rfl,q2,r2⟩:=rj.tup;cases vi;cases vj;obtain⟨S,w1,⟨o,ho,hc,n,hd⟩,_⟩:=I.tuple q.sq;obtain⟨L,w2,⟨o2,u4,aZ,n2,Y⟩,_⟩:=I.tuple q2.sq;rw[mH,iQ AU] at E;rw[D.dep] at di dj;refine PySem.W.kat_lt ho hd u4 Y ?_;have:=F3 I (b:=G) hA (Q:=λU R=>R=T/\U=b) ⟨rfl,rfl⟩ l m us ws S L 0 0 (by lia) (by lia) (λh=>hh<|by simpa using h) r1 r2 w1 w2 E (decide<|S.toArray.size<L.toArray.size) (by simp[mv]);simpa using this
 match k,r,g with
 |0,r,g=>
  cases x with
  |int ix=>
   cases y with
   |int iy=>have:=ri.int;subst this;have:=rj.int;subst this;obtain⟨t,rfl⟩:=vi;obtain⟨t',rfl⟩:=vj;rw[mH] at E;rw[<-kL E];show ah _ _ (No M2 _ _) _ _ _;rw[keyLt'_oneType];exact oneLt_int ⟨rfl,rfl⟩
   |tup m=>cases m with
    |nil=>simp[lK] at g
    |cons z m=>cases z<;>simp[lK] at g
   |_=>simp[lK] at g
  |tup m=>cases m with
   |nil=>simp[lK] at r
   |cons z m=>cases z<;>simp[lK] at r
  |_=>simp[lK] at r
 |1,r,g=>
  cases x with
  |tup l=>
   cases y with
   |tup m=>
    refine C l m B8 AU AU λ_ x y Z m' F P=>?_;subst F P;refine⟨?_,?_⟩
    .cases x with
     |int a=>exact⟨a,rfl⟩
     |_=>simp[lK] at r
    .cases y with
     |int a=>exact⟨a,rfl⟩
     |_=>simp[lK] at g
   |_=>simp[lK] at g
  |_=>simp[lK] at r
 |(n+2),r,g=>
  cases x with
  |tup l=>
   cases y with
   |tup m=>exact C l m B6 AU AU λh=>absurd h ki
   |_=>simp[lK] at g
  |_=>simp[lK] at r
end
open PySem.W
section
variable {X:Cx}{c:ju}{y:L2.St}{H:Hp}{s:iJ}
def Gd(I:Inv X c y H s){O:BL}{T:iN}(P:D->Prop)(m: ∀x v u,P x->Rep X.K H O x v->RelV v u->Looks (ai X.prog X.w) s.heap (k9 u) T): ∀{ds:List D} {b:List V} {a:jF},AF X.K H O ds b->Vals b a->
  (∀d∈ds,∃x l,d= .tup (x::l)/\P x)-> ∃fs,KatTups s.heap a fs/\(A0 fs)=A0 a/\ ∀f∈fs,Looks (ai X.prog X.w) s.heap (k9 f) T:=by
 intro C
 induction C with
 |nil=>intro b a r v _;rw[AF] at r;subst r;cases v;exact⟨[],KatTups.nil,rfl,λf z=>absurd z mh⟩
 |cons d ds B=>
  intro b a r v h;rw[AF] at r;obtain⟨S,W,rfl,g1,g2⟩:=r
  cases v with
  |cons a1 j=>
   obtain⟨fs,E,L,Q⟩:=B g2 j λd hd=>h d<|jZ _ hd;obtain⟨x,l,rfl,G⟩:=h d jY;obtain⟨p,R,rfl,q,i⟩:=g1.tup;cases a1;obtain⟨U,M,⟨o,A,t,n,hd⟩,_⟩:=I.tuple q.sq;rw[AF] at i;obtain⟨J,Z,rfl,g3,F⟩:=i
   cases M with
   |cons k N=>
    rename_i f Y;refine⟨f::fs,KatTups.cons A t hd (by simp) E,by simp[L],λg e=>?_⟩;rcases kW.mp e with rfl|e
    .exact m x J _ G g3 k
    .exact Q g e
def Vy(I:Inv X c y H s){O:BL}{ds:List D}{J:List V}{b:jF}{A:iY}(f:AF X.K H O ds J)(v:Vals J b){k:Nat}(B:Hv k ds)(M:2<=b.length):
  ah (ai X.prog X.w) A (keyKind' b.toArray) (λL s'=>s'=s/\L=JJ k) (λ_ _=>False) s:=by
 have P:=f.length;have R:=v.length
 match k,B with
 |0,B=>
  refine kas_kind (T:= .type "int") M (λu Y=>?_) AU AU ⟨rfl,rfl⟩;obtain⟨i,Q,e⟩:=DG Y;have G:=uM f (i:=i) (by lia);have E:=uJ v Q;have hd:=B.hd _ (A8 (ds:=ds) (i:=i)<|by lia);have:b.getD i ap=u:=by simp[Q,e]
  rw[this] at E
  cases h:ds.getD i .B7 with
  |int a=>rw[h] at G;have:=G.int;rw[this] at E;obtain⟨t,rfl⟩:=E;exact Looks.of_pure AU
  |tup l=>
   rw[h] at hd
   cases l with
   |nil=>simp[lK] at hd
   |cons z m=>cases z<;>simp[lK] at hd
  |_=>rw[h] at hd;simp[lK] at hd
 |1,B=>
  obtain⟨fs,f1,f2,g⟩:=Gd I (T:= .type "int") (λx=> ∃a,x= .int a) (λx F u j C r=>by
   obtain⟨a,rfl⟩:=j;have:=C.int;subst this;obtain⟨t,rfl⟩:=r
   exact Looks.of_pure AU) f v λd hd=>by
    have:=B.hd d hd
    cases d with
    |tup l=>
     cases l with
     |nil=>simp[lK] at this
     |cons z m=>
      cases z with
      |int a=>exact⟨_,m,rfl,a,rfl⟩
      |_=>simp[lK] at this
    |_=>simp[lK] at this
  exact kat_kind f1 (by lia) g AU ⟨rfl,rfl⟩
 |(n+2),B=>
  obtain⟨fs,f1,f2,g⟩:=Gd I (T:= .type "tuple") (λx=> ∃a,x= .tup a) (λx F u j C r=>by
   obtain⟨a,rfl⟩:=j;obtain⟨p,Z,rfl,q,W⟩:=C.tup;cases r;obtain⟨S,w1,⟨o,U,N,n,hd⟩,_⟩:=I.tuple q.sq;have:Looks (ai X.prog X.w) s.heap (k9<|.ref p) o.cls:=(Looks.ld U).andThen .now
   rw[N] at this;exact this) f v λd hd=>by
    have:=B.hd d hd
    cases d with
    |tup l=>
     cases l with
     |nil=>simp[lK] at this
     |cons z m=>
      cases z with
      |tup a=>exact⟨_,m,rfl,a,rfl⟩
      |_=>simp[lK] at this
    |_=>simp[lK] at this
  exact kat_kind f1 (by lia) g AU ⟨rfl,rfl⟩
noncomputable def kN(l:List D):Option (D×Bool):=if nR l=I/\(A0 l)<=sizeLine then J (.lst<|mK EO l,I) else C
noncomputable def lR(d:D):Option (D×Bool):=(AN d).bind kN
def adY{b:List V}{a:jF}(v:Vals b a): ∀(p:kb),(∀i∈p,i<A0 a)->Vals (p.map λi=>b.getD i .B7) (p.map λi=>a.getD i ap):=by
 intro f
 induction f with
 |nil=>intro _;exact .nil
 |cons i p e=>intro h;exact .cons (uJ v<|h i jY)<|e λj d=>h j<|jZ _ d
def aes{O:BL}{a:List D}{b:List V}(r:AF X.K H O a b): ∀(p:kb),(∀i∈p,i<A0 a)->AF X.K H O (p.map λi=>a.getD i .B7) (p.map λi=>b.getD i .B7):=by
 intro f
 induction f with
 |nil=>intro _;exact AF.nil
 |cons i p e=>intro h;exact AF.cons (uM r<|h i jY)<|e λj d=>h j<|jZ _ d
def acB{b:List D}{n:Nat}(e:n=A0 b)(h1:(A0 b)<=1){p:kb}(a:p.Perm (au n)):p.map (λi=>b.getD i .B7)=mK EO b:=by
 subst e
 match b,h1,a with
 |[],_,a=>
  have:p=[]:=by simpa using a.length_eq
  subst this;rfl
 |[d],_,a=>
  have e:(A0 p)=1:=by simpa using a.length_eq
  match p,e,a with
  |[i],_,a=>
   have:i=0:=by have:=a.mem_iff.mp<|E7.mpr AU;simpa using this
   subst this;rfl
def qV(hu:X.A.units+62<aS)(I:Inv X c y H s){O:BL}{f:List D}{M:List V}{a:jF}{x:iN}{Q:VK}{z:D×Bool}(u:AF X.K H O f M)(v:Vals M a)(hg:kN f=A7 z)(G:Gen X.K H O z Q)
  (hc: ∀(Y:List iN->Shared->Prop) (E':jt) (N:iY),N.handled=X.A.handled->(∀(h':iX) (d:Nat),(∀b o,s.heap.get? b=A7 o->h'.get? b=A7 o)->Y a {s with heap:=h',toks:=d})->ah (ai X.prog X.w) N (fZ x) Y E' s):
  ah (ai X.prog X.w) X.A (call (.builtin "sorted") [x]) (EP X c y Q) X.xe s:=by
 unfold kN at hg;obtain⟨⟨L,hz⟩,rfl⟩:=jf hg;have r:=u.length;have e2:=v.length;refine Calls.call_function_entry kind_sorted YP entry_sorted (args_sorted1 _) ?_;unfold bz.«sorted»;refine iF (m:=checkCount "sorted" 1 1 _)<|iP ?_;refine iF<|hc _ _ _ rfl λh1 d S=>?_;refine iF<|DD ?_ (by lia);have t:(h1.push<|bc "list" a.toArray 0).get? h1.objs.size=A7 (bc "list" a.toArray 0):=kh _ rfl;have C:Inv X c y H {s with heap:=h1,toks:=d}:=I.kept S
 have keep: ∀b o,h1.get? b=A7 o->(ql (h1.push<|bc "list" a.toArray 0) h1.objs.size a).get? b=A7 o:=λb o l=>by have R:b≠h1.objs.size:=jH<|jW l;refine jT _ (jT _ ?_);rw[GU _ _ _ _ R];exact jT _ l
 have U:Inv X c y H {s with heap:=ql (h1.push<|bc "list" a.toArray 0) h1.objs.size a,toks:=d}:=C.kept keep;have Z: ∀i∈au a.length,i<a.length:=λi q=>by simpa using q
 refine iF<|mn<|qM (s:={s with heap:=h1.push<|bc "list" a.toArray 0,toks:=d}) MB ⟨_,t,rfl⟩ F0 ?body<|args_list_sort _
 case body=>
  have fin: ∀p:List Nat,p.Perm (au a.length)->p.map (λi=>f.getD i .B7)=mK EO f->EP X c y Q (.ref h1.objs.size) {s with heap:=(ql (h1.push<|bc "list" a.toArray 0) h1.objs.size a).update h1.objs.size<|aF λ_=>(p.map λi=>a.getD i ap).toArray,toks:=d}:=λp e T=>by
   have F: ∀i∈p,i<a.length:=λi q=>by simpa using e.mem_iff.mp q
   have J: ∃n,(ql (h1.push<|bc "list" a.toArray 0) h1.objs.size a).get? h1.objs.size=A7 (bc "list" #[] n):=by
    obtain⟨r,W⟩: ∃r,((h1.push<|bc "list" a.toArray 0).update h1.objs.size<|aF λ_=>(#[]:Array iN)).get? h1.objs.size=A7 (bc "list" #[] r):=⟨_,yp t λ_=> #[]⟩
    exact⟨r,jT _ (jT _ W)⟩
   obtain⟨n,J⟩:=J;obtain⟨E,P⟩: ∃E,((ql (h1.push<|bc "list" a.toArray 0) h1.objs.size a).update h1.objs.size<|aF λ_=>(p.map λi=>a.getD i ap).toArray).get? h1.objs.size=A7 (bc "list" (p.map λi=>a.getD i ap).toArray E):=⟨_,yp J λ_=>(p.map λi=>a.getD i ap).toArray⟩
   have g: ∀b o,h1.get? b=A7 o->((ql (h1.push<|bc "list" a.toArray 0) h1.objs.size a).update h1.objs.size<|aF λ_=>(p.map λi=>a.getD i ap).toArray).get? b=A7 o:=λb o l=>by rw[GU _ _ _ _ (jH<|jW l)];exact keep b o l
   have pl:p.length=a.length:=by simpa using e.length_eq
   refine⟨.ref h1.objs.size,_,C.laid (t':=d) g (kc _) (show B9 X.prog X.w _ _ _ (.lst<|p.map λi=>M.getD i .B7) from⟨by rw[jM];lia,_,E,adY v p F,P⟩),rfl,?_⟩;refine G.lst C.fresh ?_;rw[<-T];exact aes u p λi q=>by have:=F i q;lia
  rcases Cv L with hlen|⟨k,B⟩
  .refine vM (κ:=general') (lt:=λ_ _=>B6) (s:={s with heap:=h1.push<|bc "list" a.toArray 0,toks:=d}) t (by lia) (λ_ _ _=>rfl) (λ_ _=>rfl) (λh=>by lia) (λh=>by lia) λp e _=>⟨_,rfl,iP ⟨_,rfl,fin p e ?_⟩⟩
   exact acB (by lia) hlen e
  .refine vM (κ:=JJ k) (lt:=λi j=>EO (f.getD i .B7)<|f.getD j .B7) (s:={s with heap:=h1.push<|bc "list" a.toArray 0,toks:=d}) t (by lia) (λ_ _=>YM _ _) Xm (λh=>Vy U u v B h) (λ_=>YL (A:=X.A.in1.in1) U (by show X.A.units+1+1+60<aS;lia) u v B) λp e T=>⟨_,rfl,iP ⟨_,rfl,fin p e<|adl B.pr (by rw[show f.length=a.length by lia];exact e) T⟩⟩
def nJ(j:X.A.units+62<aS):kG X (.builtin "sorted") (Ib X.K<|g1 lR):=nI λc s y H x u Q O d z N t np hd a G=>by
 obtain⟨l,g,a⟩:=iC a
 have M:l.length<=sizeLine:=by unfold kN at a;exact(jf a).1.2
 cases d with
 |lst m=>
  cases g;obtain⟨p,U,rfl,q,r⟩:=ke hd;cases t;obtain⟨i,v,T,_⟩:=N.list q;have E:=r.length;have L:=v.length;obtain⟨o,h,f,n,hd⟩:=T.isList;refine qV j N r v a G λC B w _ e=>GS p (.inl AU) h f hd (λb k=>by simpa using e b s.toks k) (by rw[jy];lia)
 |tup m=>
  cases g;obtain⟨p,U,rfl,q,r⟩:=lq hd;cases t;obtain⟨i,v,⟨o,h,f,n,hd⟩,_⟩:=N.tuple q;have E:=r.length;have L:=v.length;refine qV j N r v a G λC B w _ e=>GS p (.inr AU) h f hd (λb k=>by simpa using e b s.toks k) (by rw[jy];lia)
 |_=>cases g
def adN:aA "sorted"=J (.builtin "sorted"):=by decide+kernel
end
def ot:aA "isinstance"=J (.builtin "isinstance"):=by decide+kernel
structure Tx(mg:ly):Prop where
 n_len:mg "len"=AX
 n_abs:mg "abs"=AX
 n_int:mg "int"=AX
 n_tuple:mg "tuple"=AX
 n_list:mg "list"=AX
 n_range:mg "range"=AX
 n_isinstance:mg "isinstance"=AX
 n_bool:mg "bool"=AX
 n_max:mg "max"=AX
 n_min:mg "min"=AX
 n_all:mg "all"=AX
 n_any:mg "any"=AX
 n_sorted:mg "sorted"=AX
 n_enumerate:mg "enumerate"=AX
 n_zip:mg "zip"=AX
 n_set:mg "set"=AX
def R6{P:ja}{w:iW}{K:jb}{g:ly}{base:iX}{f:iE}{d:mI}{i:jh}{k:Nat}:Eg P w K g base Im k f d i (Ko K λ_=>C) where
 len:=λj U Q E h=>by obtain⟨T,a,r,b,_,e,_⟩:=h;cases e
 run:=λA c s U a l j Q E _ _ _ _ h=>by obtain⟨T,a,r,b,_,e,_⟩:=h;cases e
def adt{K:jb}{U:Hp}{O:BL}: ∀a:List Int,AF K U O (a.map .int) (a.map V.int):=by
 intro c
 induction c with
 |nil=>exact AF.nil
 |cons n a b=>exact AF.cons Rep.mkInt<|b
noncomputable def Bv(d e:cO)(a b c:FO):F:=λf=>(a f).bind λp=>(b p.2).bind λq=>match res q.2 p.1,res q.2 q.1 with
 |some (.int i),J (.int j)=>if mv d i j=I then(c q.2).bind λr=>match res r.2 r.1 with
   |some (.int k)=>J ((.bl<|mv e j k,Y),r.2)
   |_=>C
  else J ((.bl Y,Y),q.2)
 |_,_=>C
section
variable {X:Cx}{a b c:iK}{m l g:FO}{n:bu}{d f:cO}
def Js(h:CW d):ES X (av d) (Ld λi j=> .bl (mv d i j)):=by
 rcases h with rfl|rfl|rfl|rfl
 .exact X1
 .exact X2
 .exact X3
 .exact X4
def adG(A:tF X.K (Bv d f m l g) σ H' Q):MU (Ld λi j=> .bl (mv d i j)) (Ld λi j=> .bl (mv f i j)) (tO X.K m) (tO X.K l) (tO X.K g) σ H' Q:=by
 obtain⟨M,T,F,N,E,e,k⟩:=A;unfold Bv at e;obtain⟨⟨x,p⟩,h1,e⟩:=iC e;obtain⟨⟨G,q⟩,y,e⟩:=iC e;refine⟨M,T,x,p,E,h1,λv U h=>⟨p,Co T x v,G,q,h.er E,y,λu Y o=>?_⟩⟩;have B:=Ops.cons E h<|Ops.cons (h.er E) o<|Ops.nil<|o.er<|h.er E;dsimp only at e;split at e
 .rename_i i j C I;have hv:=jr<|B.view (j:=0) H H C;have t:=jr<|B.view (j:=1) H H I;refine⟨i,j,hv,t,mv d i j,rfl,?_⟩;by_cases c:mv d i j=B8
  .rw[iQ c] at e ⊢;obtain⟨⟨J,r⟩,z,e⟩:=iC e;dsimp only at e;split at e
   .rename_i O L;obtain⟨rfl,rfl⟩:=jd e;refine⟨q,_,J,r,o.er<|h.er E,z,λw D P3=>?_⟩;have s:=Ops.cons E h<|Ops.cons (h.er E) o<|Ops.cons (o.er<|h.er E) P3<|Ops.nil<|P3.er<|o.er<|h.er E;exact⟨j,O,t,jr<|s.view (j:=2) H H L,(s.done k).bl⟩
   .cases e
  .rw[jc c] at e ⊢;obtain⟨rfl,rfl⟩:=jd e;exact(B.done k).bl
 .cases e
end
noncomputable def Ou(x:V)(c:Bool):Bool:=match x with
 | .bl b=>b==c
 |_=>Y
noncomputable def Pd:D->D->Option (D×Bool)
 | .bl b,.bl c=>J (.bl<|b==c,Y)
 |_,.bl _=>J (.bl Y,Y)
 | .B7,.B7=>J (.bl I,Y)
 |_,.B7=>J (.bl Y,Y)
 |_,_=>C
noncomputable def OT:D->D->Option (D×Bool)
 | .bl b,.bl c=>J (.bl (!(b==c)),Y)
 |_,.bl _=>J (.bl I,Y)
 | .B7,.B7=>J (.bl Y,Y)
 |_,.B7=>J (.bl I,Y)
 |_,_=>C
section
variable {X:Cx}
def IG(a:RelV x v)(c:Bool):plainIs v (.bool c)=I/\(v== .bool c)=Ou x c:=by
 cases x<;>first
  |(cases a;exact⟨rfl,rfl⟩)
  |(obtain⟨t,rfl⟩:=a;exact⟨rfl,rfl⟩)
  |(rename_i b;cases a;refine⟨rfl,?_⟩;cases b<;>cases c<;>rfl)
def NY:ES X (av .Is) (λx y U Q=> ∃c,y= .bl c/\Q (.bl<|Ou x c) U):=by intro a s f U x y v u Q T d e h;obtain⟨c,rfl,q⟩:=h;cases e;obtain⟨h1,b⟩:=IG d c;exact wpAny_is_plain h1<|EH T q (by rw[b])
def CF:ES X (av .IsNot) (λx y U Q=> ∃c,y= .bl c/\Q (.bl (!Ou x c)) U):=by intro a s f U x y v u Q T d e h;obtain⟨c,rfl,q⟩:=h;cases e;obtain⟨h1,b⟩:=IG d c;exact wpAny_isNot_plain h1<|EH T q (by rw[b])
def tX{K U}(h:kg K U O (.bl b) v):v= .bl b:=h.elim (λh=>h.bl) λ⟨_,_,h⟩=>h.elim
def qT{K U}(h:kg K U O .B7 v):v= .B7:=h.elim (λh=>h.B7) λ⟨_,_,h⟩=>h.elim
def Fd{K U}(h:kg K U O d v)(f: ∀b,d≠ .bl b)(c:Bool):Ou v c=Y:=by
 cases d with
 |bl b=>exact absurd H<|f b
 |B7=>rw[qT h];rfl
 |int i=>rw[jr h];rfl
 |str x=>
   rcases h with h|⟨a,_,h⟩
   .rw[h.str];rfl
   .exact h.elim
 |tup l=>
   rcases h with h|⟨a,_,h⟩
   .rw[Rep] at h;obtain⟨a,e,rfl,_⟩:=h;rfl
   .exact h.elim
 |lst l=>
   rcases h with h|⟨a,rfl,h⟩
   .rw[Rep] at h;obtain⟨a,e,rfl,_⟩:=h;rfl
   .rfl
 |BU _ _ _=>
   rcases h with h|⟨a,rfl,h⟩
   .rw[Rep] at h;obtain⟨a,e,rfl,_⟩:=h;rfl
   .rfl
def zh{K U}(h:kg K U O d v)(e:d≠ .B7):v≠ .B7:=by
 cases d with
 |bl b=>rw[tX h];intro z;cases z
 |B7=>exact absurd H e
 |int i=>rw[jr h];intro z;cases z
 |str x=>
   rcases h with h|⟨a,_,h⟩
   .rw[h.str];intro z;cases z
   .exact h.elim
 |tup l=>
   rcases h with h|⟨a,_,h⟩
   .rw[Rep] at h;obtain⟨a,c,rfl,_⟩:=h;intro z;cases z
   .exact h.elim
 |lst l=>
   rcases h with h|⟨a,rfl,h⟩
   .rw[Rep] at h;obtain⟨a,c,rfl,_⟩:=h;intro z;cases z
   .intro z;cases z
 |BU _ _ _=>
   rcases h with h|⟨a,rfl,h⟩
   .rw[Rep] at h;obtain⟨a,c,rfl,_⟩:=h;intro z;cases z
   .intro z;cases z
def NV:ES X (av .Is) (rD X.K Pd):=by
 intro a s l U x y v u Q T j k h;obtain⟨O,d,e,z,np,h1,n,g,G⟩:=h
 cases e with
 |bl c=>
  have i:=tX n;by_cases f: ∃b,d= .bl b
  .obtain⟨b,rfl⟩:=f;cases g;refine NY a s l U x y v u Q T j k ⟨c,i,?_⟩;rw[tX h1];exact G.bl
  .have o: ∀b,d≠ .bl b:=λb z=>f ⟨b,z⟩;have m:z=(.bl Y,Y):=by cases d<;>first|exact absurd H (o _)|(cases g;rfl)
   subst m;refine NY a s l U x y v u Q T j k ⟨c,i,?_⟩;rw[Fd h1 o c];exact G.bl
 |B7=>
  have i:=qT n;by_cases f:d= .B7
  .subst f;cases g;refine NX a s l U x y v u Q T j k ⟨i,?_⟩;rw[qT h1];exact G.bl
  .have m:z=(.bl Y,Y):=by cases d<;>first|exact absurd H f|(cases g;rfl)
   subst m;refine NX a s l U x y v u Q T j k ⟨i,?_⟩;rw[lj<|zh h1 f];exact G.bl
 |_=>cases d<;>cases g
def ac0:ES X (av .IsNot) (rD X.K OT):=by
 intro a s l U x y v u Q T j k h;obtain⟨O,d,e,z,np,h1,n,g,G⟩:=h
 cases e with
 |bl c=>
  have i:=tX n;by_cases f: ∃b,d= .bl b
  .obtain⟨b,rfl⟩:=f;cases g;refine CF a s l U x y v u Q T j k ⟨c,i,?_⟩;rw[tX h1];exact G.bl
  .have o: ∀b,d≠ .bl b:=λb z=>f ⟨b,z⟩;have m:z=(.bl I,Y):=by cases d<;>first|exact absurd H (o _)|(cases g;rfl)
   subst m;refine CF a s l U x y v u Q T j k ⟨c,i,?_⟩;rw[Fd h1 o c];exact G.bl
 |B7=>
  have i:=qT n;by_cases f:d= .B7
  .subst f;cases g;refine Jr a s l U x y v u Q T j k ⟨i,?_⟩;rw[qT h1];exact G.bl
  .have m:z=(.bl I,Y):=by cases d<;>first|exact absurd H f|(cases g;rfl)
   subst m;refine Jr a s l U x y v u Q T j k ⟨i,?_⟩;rw[lj<|zh h1 f];exact G.bl
 |_=>cases d<;>cases g
end
end PX
namespace HT
open L2
section
variable {a:ja}{w:iW}{A:iY}{E:jt}{s:iJ}
def acu{t d:iE}{b:lI}{i j:iN}{lo e:Option Int}{Q:jt}(c:r9 s.heap t b)(f:s.heap.IsSliceOf d i j .none)(o:ej i lo)(p:ej j e)
  (g:Ci b.size 0 lo=0/\Ci b.size b.size e=b.size)(h:Q (.ref t) s):ah (ai a w) A (fe (.ref t)<|.ref d) Q E s:=by
 obtain⟨os,l,k,q⟩:=id f;have n:s.TypeIs (.ref d) "slice":=⟨os,l,k⟩
 unfold fe
 try with_reducible refine mn ?_
 first|refine iF (iP ?_)|skip
 refine iF<|v5 c.typeIs (by decide) ?_
 refine iF (tQ (name:=bD "__getitem__") c.typeIs BR
  (qM BR c.typeIs Mn ?_<|u8 _ _))
 show ah _ _ (cx (.ref t)>>=_) _ _ s;refine iF<|Tk c ?_;refine iF<|tH n ?_;rw[iQ<|by decide];refine iF<|qY f o p ?_;rw[g.1,g.2];show ah _ _ (if((((0:Nat):Int)==0&&(1:Int)==1&&(b.size-0)==b.size)=I) then _ else _) _ _ s;rw[iQ<|by simp];refine iF (m:=eS _) ?_;unfold eS;refine iF<|tH c.typeIs ?_;refine iP ?_;rw[iQ<|by decide];refine iF<|vt ?_
 first
  |exact iF<|iP ⟨_,rfl,iP h⟩
  |exact iP ⟨_,rfl,iP h⟩
  |exact iF<|iP<|iP ⟨_,rfl,iP h⟩
  |(refine iF ?_;trace_state;done)
end
end HT
namespace PX
open L2 PySem.SeqAt
def yZ(l:List D)(lo a:Option Int):List D:=(l.drop<|HT.Ci (A0 l) 0 lo).take<|HT.Ci (A0 l) (A0 l) a-HT.Ci (A0 l) 0 lo
def Pb(lo a:Option Int):D->Option (D×Bool)
 | .tup l=>J (.tup<|yZ l lo a,Y)
 | .lst l=>J (.lst<|yZ l lo a,I)
 |_=>C
def aai(K:jb):V->Option Int->Option Int->Hp->VK->Prop:=λx lo a U Q=> ∃(O:BL) (d:D) (z:D×Bool),(∀p,¬Ow (U p)-> ¬O p)/\kg K U O d x/\Pb lo a d=J z/\Gen K U O z Q
def AF.cut{K U}(r:AF K U O l xs)(lo a:Option Int):AF K U O (yZ l lo a) (Gh xs lo a):=by unfold yZ Gh;rw[r.length];exact(r.drop _).take _
section
variable {X:Cx}
def Fs{b:ju}{s:iJ}{h:L2.St}{U:Hp}{a:iE}{v e f:iN}{lo c:Option Int}{d:iE}{Q:VK}{O:BL}{l:List D}{g:List V}(N:Inv X b h U s)(n:RelV (.ref a) v)(j:s.heap.IsSliceOf d e f .none)(k:ej e lo)(m:ej f c)
  (q:Fp X.K U a g)(r:AF X.K U O l g)(G:Gen X.K U O (.lst<|yZ l lo c,I) Q): ∃T id,tv (.type T) "__getitem__"=pure (J<|.builtin id)/\s.TypeIs v T/\ah (ai X.prog X.w) X.A (fe v<|.ref d) (EP X b h Q) X.xe s:=
 Qw b s h U (.ref a) v e f lo c d Q N n j k m ⟨a,g,rfl,q,λp i=>G.lst i<|r.cut lo c⟩
def XB:Pn X (aai X.K):=by
 intro f s E U x v B N lo g A Q T n i k m h;obtain⟨O,d,z,np,hd,o,G⟩:=h
 cases d with
 |tup l=>
  cases o;rcases hd with hd|⟨a,_,h⟩
  .obtain⟨a,b,rfl,q,r⟩:=hd.tup;by_cases j:HT.Ci b.length 0 lo=0/\HT.Ci b.length b.length g=b.length
   .cases n;obtain⟨t,y,w,L⟩:=T.tuple q.sq;have c:t.toArray.size=b.length:=by rw[jy];exact y.length.symm
    refine⟨"tuple",_,BR.lookup,w.typeIs,?_⟩;refine HT.acu w i k m (by rw[c];exact j) ⟨.ref a,U,T,rfl,?_⟩
    have e:yZ l lo g=l:=by unfold yZ;rw[<-r.length,j.1,j.2];simp[r.length]
    rw[e] at G;exact G (.ref a) U (λ_ _ e=>e) hd
   .exact Um f s E U (.ref a) v B N lo g A Q T n i k m ⟨a,b,rfl,q.sq,j,λp u=>G.tup u (np p<|OD u)<|r.cut lo g⟩
  .exact h.elim
 |lst l=>
  cases o;rcases hd with hd|⟨a,rfl,h⟩
  .obtain⟨a,b,rfl,q,r⟩:=hd.lst;exact Fs T n i k m q.sq r G
  .obtain⟨b,e,r⟩:=h;exact Fs T n i k m (.inl<|.inl e) r G
 |_=>cases o
end
def JR(a b:FO):F:=λc=>(a c).bind λp=>(b p.2).bind λq=>match res q.2 q.1 with
 |some (.int i)=>(res q.2 p.1).bind λx=>(Pb (J i) C x).bind λz=>J (z,q.2)
 |_=>C
def Br(a b:FO):F:=λδ=>(a δ).bind λp=>(b p.2).bind λq=>match res q.2 q.1 with
 |some (.int i)=>(res q.2 p.1).bind λx=>(Pb C (J i) x).bind λz=>J (z,q.2)
 |_=>C
section
variable {X:Cx}{a lo d:iK}{g e f:FO}{b c:bu}
end
end PX
namespace L2
section
variable {X:Cx}
def Xx(U:It)(g:TG)(b:TT)(a:iE->TB)(pre:St->St)(c:St)(T:Hp)(Q:VK):Prop:=IQ (.set (λ_=>Y) 0) U g b a pre c T Q
def D7(c:TI)(g:TG)(ti:TT)(tb:iE->TB)(pre:St->St):TE:=λa T Q=>c a T λU b=>Xx U g ti tb pre a b Q
def aei{e:iK}{c:pk}{jA:qI}{scope:jG}{f:bu}{r:jh}{pre:St->St}{B:TI}{g:TG}{ti:TT}{tb:iE->TB}
  (S:ET X r scope pre)(hc:X.calm=B8)(ha:c.is_async=0)(l7: ∀y,jA[0]?=A7 y->y.is_async=0)
  (hs: ∀x,ax c.iter X.env x=pure x)(pi:PI X c.target c.iter B)
  (q9: ∀(cl:kT) (C:iE) (z:iJ) (l:Hp) (u:kB) (a:ju),let i:=X.comp r scope cl C z l u a
   PG i c.target g/\Ky i c.ifs ti/\ ∀d,PB i (jI (.SetComp e (c::jA) scope f) 0 (.ref d) i.env)<|tb d):
  PE X (.SetComp e (c::jA) scope f) (D7 B g ti tb pre):=by
 intro a s E H Q I h;obtain⟨tg,t,k,G⟩:=c;obtain rfl:G=0:=ha;obtain⟨cl,W,R,V⟩:=sH X.env scope λx P D=>I.ok.has x.1<|S.free x P D;rw[arm_eval_SetComp];show ah _ X.A (ip _ scope X.env _ (newSet<|.type "set") B6 (aM t X.env)) _ _ s;refine G6 (use:=AX) (g:=⟨tg,t,k,0⟩) (gs:=jA) AU hs W S.kind S.names<|Bo (pi a s E H _ I h) λv s1 h1=>Bo h1 λdu s2 U=>?_;obtain⟨it,u,tn,J,H2,rfl,n,T,x8,f2,K⟩:=U;refine wpAny_newSet_of (knd:=me X.prog X.w) λled Y=>?_;refine za (RR:=λj C=>KE (ai X.prog X.w) X.A X.xe AX (EP X a E Q) j C) (.inr ⟨_,_,_,_,rfl⟩) AU S hc AU l7 q9 R V n T x8 f2 (n.laid (t':=s2.toks) (o:= .set (λ_=>B6) 0) (λb ob q=>jT _ q) (kc _) Y) K λd M z l L σ' s4 O N p q=>?_;obtain⟨m,F,_⟩:=id p.loc;exact⟨m,F,λh' Z=>⟨.ref d,L,BG O N p Z,rfl,q⟩⟩
def Uh(d:iE)(e:TE):TB:=λc U N=>e c U λy a=> ∃k S n,y= .int k/\a d=J (.set S n)/\n+1<i9/\N c (upd a d<|.set (λb=>S b||decide (b=k)) (if S k then n else n+1))
def aen{a:iK}{c:qI}{j:jG}{p:bu}{depth:Nat}{d:iE}{l:TE}(E:c[depth+1]?=AX)(C:PE X a l):PB X (jI (.SetComp a c j p) depth (.ref d) X.env) (Uh d l):=by
 intro f s m H N I h
 have r:jI (.SetComp a c j p) depth (.ref d) X.env=(do let v <-aM a X.env;cb a.pos;let _ <-call (.builtin "set.add") [.ref d,v]):=by unfold jI;simp -iota only[clausesOf.eq_def];rw[E]
 rw[r];refine iF<|Bo (C f s m H _ I h) λu s1 a'=>?_;obtain⟨y,U,g,G,k,S,n,z,hd,Q,q⟩:=a';subst z;obtain⟨t,rfl⟩:=G;have A:s1.heap.SetOf (me X.prog X.w) d S n:=g.hok d _ hd;refine iF<|yG<|iF<|call_set_add (knd:=me X.prog X.w) (k:=k) (intKind_is _ _ k t) AU A Q λM T i=>iP ⟨m,_,?_,q⟩;refine g.write (x:=d) (e:=d) (by rw[hd];exact trivial) (.inl AU) (λb u B O=>by rw[T.2 b B];exact O) ?_ i;obtain⟨o,_,_,_,L,_⟩:=i;exact⟨o,L⟩
end
end L2
namespace PX
open L2 PySem.SeqAt
noncomputable def BM(f:F):FB:=λa b=>(f b).bind λp=>match p.1.1 with
 | .int k=>if (A0 a)+1<i9 then J (a++[.int k],p.2) else C
 |_=>C
section
variable {X:Cx}{A:kK}{d:iE}{c:iK}{f:F}
def acY{j:qI}{J:jG}{p:bu}{depth:Nat}(E:j[depth+1]?=AX)(y:PX X c f):PB X (jI (.SetComp c j J p) depth (.ref d) X.env) (KU B8 X.K A d<|BM f):=PB.imp' (aen E y) λm H N I=>by
 obtain⟨w,T,g,Y,M,B,e,k⟩:=I;obtain⟨⟨r,h⟩,h1,e⟩:=iC e;obtain⟨O,Q⟩:=r
 cases O with
 |int i=>
  obtain⟨U,e⟩:=jf e;obtain⟨rfl,rfl⟩:=rJ e;refine⟨w,T,(.int i,Q),h,B.er,h1,λv s P=>?_⟩;obtain⟨q,G⟩:=P.rep B.er;have hv:v= .int i:=G.int;have t:SK A m w H m h s:=P.1.sk;have x:=B.step t q;have C:=QH g (λ_=>B6,0);refine⟨i,_,_,hv,x.at',by unfold nU;lia,k m _ ?_ ?_⟩
  .have:Kw A d m h s m h (upd s d<|.set (λu=>(nU g).1 u||decide (u=i)) (if(nU g).1 i then(nU g).2 else(nU g).2+1)):=⟨λa o e n L=>by rw[ji L];exact e,λi a z=> .inl z,λa z=>by
    by_cases l:a=d
    .subst l;rw[jl];simp
    .rw[ji l];exact z,λ_ _=>rfl⟩
   exact t.N6.trans this
  .refine⟨q.mono (λb o e n=>by rw[ji<|by intro z;subst z;exact n B.td];exact e) (λ_ _ z=>z) λa z=>?_,B.td,?_⟩
   .by_cases l:a=d
    .subst l;rw[jl];trivial
    .rw[ji l];exact q.dom a z
   .show upd _ _ _ _=_;rw[jl,Cy]
 |_=>cases e
end
def uV(b:kb)(k:Nat)(d:Fi)(e:Tg)(ti:FT)(c:FB):F:=λf=>(d f).bind λp=>(km p.2<|b.map .slot).bind λa=>if(jm (b.map .slot) a).Nodup then(ku e ti c p.1 []<|a.map J++ac k C).bind λq=>J ((.int (nU q.1).2,Y),wb (b.map .slot) a (jw a q.2) p.2) else C
def adF{K:jb}{b:kb}{k:Nat}{f:Fi}{g:Tg}{ti:FT}{e:FB}{j:L2.St}{U:Hp}{Q:VK}(h:tF K (uV b k f g ti e) j U Q):
  D7 (tI K (λi=>i∉b) f) (tG K (λi=>A0 b<=i) g) (tT K ti) (λd=>KU I K (λi=>A0 b<=i) d e) (yN b k) j U (λx c=> ∃S n,∃a,x= .ref a/\c a=J (.set S n)/\Q (.int n) c):=C8 (S:=I) h
section
variable {X:Cx}{j:iK}{c:pk}{jA:qI}{scope:jG}{f l p:bu}{L:jh}{b:kb}{k:Nat}{B:Fi}{y:Tg}{ti:FT}{A:FB}
def adL:kG X (.builtin "len") (λi U Q=> ∃S n,∃a,i=[.ref a]/\U a=J (.set S n)/\Q (.int n) U):=by
 intro g s G U i T Q N r h;obtain⟨S,n,a,rfl,e,q⟩:=h;obtain⟨u,rfl,M⟩:=sU r;cases M;obtain⟨o,m,E,t,z,hex,hd,_,_,O,v,x⟩:=(show s.heap.SetOf (me X.prog X.w) a S n from N.hok a _ e)
 have d:(m.size:Int)<2^63:=by
  have:i9=4096:=rfl
  lia
 refine call_len_set z hex hd v d ⟨.int n,U,?_,⟨_,by rw[x]⟩,q⟩;exact(N.tok _)
def adw{z:aw}(C:EL X L scope b k)(hc:X.calm=I)(ha:c.is_async=0)(l7: ∀M,jA[0]?=A7 M->M.is_async=0)
  (hs: ∀x,ax c.iter X.env x=pure x)(pi:MV X (λi=>i∉b) c.target c.iter B)
  (q9: ∀(cl:kT) (C:iE) (s3:iJ) (H3:Hp) (fp:kB) (o:ju),let r:=X.comp L scope cl C s3 H3 fp o
   MW r (λi=>A0 b<=i) c.target y/\Ky r c.ifs (tT X.K ti)/\ ∀d,PB r (jI (.SetComp j (c::jA) scope f) 0 (.ref d) r.env)<|KU I X.K (λi=>A0 b<=i) d A)
  (hg:Gl X z)(hm:X.mg z=AX)(hv:aA z=A7 (.builtin "len"))(hn:z≠"__name__")(i8:(z==("__debug__":aw))=B6)
  (h1:ag [.SetComp j (c::jA) scope f] X.env=(B6,aM (.SetComp j (c::jA) scope f) X.env)::ag [] X.env)(f7:(aQ l<|ag [] X.env).any (·.1)=B6):
  PX X (.Call (.Name z p) [.SetComp j (c::jA) scope f] [] l) (uV b k B y ti A):=
 PX.imp (uh adL hg hm hv (lD (aei (g:=tG X.K (λi=>A0 b<=i) y) (ti:=tT X.K ti) (tb:=λd=>KU I X.K (λi=>A0 b<=i) d A) C.Nx hc ha l7 hs pi q9) oK h1) hn i8 h1 f7) λN H Q h=>by
  have q:=adF h
  have mono: ∀{t u:VK},(∀v H,t v H->u v H)->D7 (tI X.K (λi=>i∉b) B) (tG X.K (λi=>A0 b<=i) y) (tT X.K ti) (λd=>KU I X.K (λi=>A0 b<=i) d A) (yN b k) N H t->D7 (tI X.K (λi=>i∉b) B) (tG X.K (λi=>A0 b<=i) y) (tT X.K ti) (λd=>KU I X.K (λi=>A0 b<=i) d A) (yN b k) N H u:=by
   rintro t u hq ⟨δ,T,ds,I',E,h1,kk⟩;refine⟨δ,T,ds,I',E,h1,λJ G D U ok d hd=>?_⟩;obtain⟨W,F,step⟩:=kk J G D U ok d hd;refine⟨W,F,λi m O Y w=>?_⟩;rcases step i m O Y w with⟨s1,s2⟩|s
   .exact .inl ⟨s1,hq _ _ s2⟩
   .exact .inr s
  exact mono (λv G a'=>by obtain⟨S,n,a,e,h2,h3⟩:=a';exact ⟨S,n,a,by rw[e],h2,h3⟩) q
end
end PX
namespace HT
open L2
section
variable {a:ja}{w:iW}{A:iY}{E:jt}{s:iJ}
end
end HT
namespace L2
section
variable {X:Cx}{e st:iK}{c b:TE}{a d:bu}
end
end L2
namespace PX
open L2 PySem.SeqAt
section
variable {X:Cx}{a st:iK}{d fs:FO}{b c:bu}
end
section
variable {b:kD}{a:df}
end
end PX
namespace TT
noncomputable def S:Nat->Nat
 |0=>0
 |n+1=>5*S n+1
theorem J9(m:Nat): ∀n:Nat,S (m+n)=5^n*S m+S n
 |0=>by simp[S]
 |n+1=>by rw[<-yt,S,J9 m n,S,rC,vZ,<-rB,vY 5 (5^n)];lia
theorem Bq: ∀n:Nat,∃c,5^n=4*c+1
 |0=>⟨0,rfl⟩
 |n+1=>by obtain⟨c,e⟩:=Bq n;exact⟨5*c+1,by rw[rC,e];lia⟩
theorem PY: ∀k:Nat,∃c,S (2^k)=2^k*(2*c+1)
 |0=>⟨0,rfl⟩
 |k+1=>by
  obtain⟨c,e⟩:=PY k;obtain⟨d,f⟩:=Bq (2^k)
  have h:S (2^(k+1))=(5^2^k+1)*S (2^k):=by rw[rC,Nat.mul_two,J9,GR,GQ]
  refine⟨2*(d*c)+d+c,?_⟩;rw[h,f,e,rC];have:4*d+1+1=2*(2*d+1):=by lia
  rw[this,rB 2,vY (2*d+1),rB (2^k),rB (2^k),<-rB 2 (2^k),vY 2 (2^k),rB (2^k) 2]
  congr 2
  rw[GR,vZ,GQ,yn,rB 2 c,DC c 2 d,vY c d]
  lia
def ae3(k n:Nat):S (2^k+n)%2^k=S n%2^k:=by obtain⟨c,e⟩:=PY k;rw[J9,e,DC,ta]
def J8: ∀(k e:Nat),e<2^k-> ∃n,n<2^k/\S n%2^k=e:=by
 intro u
 induction u with
 |zero=>intro e h;exact⟨0,by simp,by simp at h;subst h;rfl⟩
 |succ k t=>
  intro e h;have l:0<2^k:=s8 k;obtain⟨n,z,s⟩:=t (e%2^k)<|ym _ l;obtain⟨c,m⟩:=PY k;obtain⟨d,o⟩:=Bq n
  have b:S (2^k+n)=2^(k+1)*(4*d*c+2*d+c)+2^k+S n:=by
   rw[J9,m,o,rC,DC,rB (2^k) 2]
   have:(4*d+1)*(2*c+1)=2*(4*d*c+2*d+c)+1:=by rw[GR,vZ,GQ,yn,DC (4*d) 2 c];lia
   rw[this,vZ,yn]
  rw[rC] at h b ⊢;generalize 2^k=P at*;have j:=tc (S n) P;have i:=tc e P;rw[s] at j;have A:e / P<2:=Nat.div_lt_of_lt_mul (by rw[vY] at h;lia)
  have mk: ∀a q x,a=P*2*q+x->x<P*2->a%(P*2)=x:=λa q x h1 b=>by rw[h1,ta,Nat.mod_eq_of_lt b]
  have y:=ym e l;have v:S n / P=2*(S n / P / 2)+S n / P%2:=by lia
  have g:S n=P*2*(S n / P / 2)+(P*(S n / P%2)+e%P):=by rw[rB,<-yt,<-vZ,<-v];exact j.symm
  generalize S n / P / 2=q at g;have w:S n / P%2<2:=ym _ (by decide);generalize S n / P%2=r at g w;generalize e / P=f at*;by_cases p:r=f
  .exact⟨n,by lia,mk _ q _ (by rw[g,p,i]) h⟩
  .refine⟨P+n,by lia,mk _ (4*d*c+2*d+c+q+r) _ ?_ h⟩;rw[b,g,vZ (P*2) _ r,vZ (P*2) _ q];rcases(show r=0\/r=1 by lia) with rfl|rfl
   .have:f=1:=by lia
    subst this;rw[GP,GP];rw[yn] at i;lia
   .have:f=0:=by lia
    subst this;rw[yn,yn];rw[GP] at i;lia
noncomputable def ls(mask:Nat)(h:Int):Nat->Nat×Nat
 |0=>(aJ h%(mask+1),aJ h)
 |k+1=>cq mask (ls mask h k).1 (ls mask h k).2
def Sq(h:Int):aJ h<2^64:=by
 unfold aJ;have:=GO h (show(0:Int)<2^64 by decide);have:=GN h (show(2^64:Int)≠0 by decide)
 lia
def Jz(mask:Nat)(h:Int): ∀k,(ls mask h k).1<=mask
 |0=>by have:=ym (aJ h) (show 0<mask+1 by lia);show _%(mask+1)<=_;lia
 |k+1=>by show(_%(mask+1))<=_;have:=ym ((ls mask h k).1*5+1+(ls mask h k).2 / 32) (show 0<mask+1 by lia);lia
theorem Jy(mask:Nat)(h:Int): ∀k,(ls mask h k).2=aJ h / 32^k
 |0=>by simp[ls]
 |k+1=>by show(ls mask h k).2 / 32=_;rw[Jy mask h k,rC,Nat.div_div_eq_div_mul]
def RA(mask:Nat)(h:Int)(k:Nat)(hk:13<=k):(ls mask h k).2=0:=by rw[Jy];refine Nat.div_eq_of_lt<|nM (Sq h) ?_;exact mT (show 2^64<=32^13 by decide)<|DA (by decide) hk
theorem Od(mask:Nat)(h:Int)(m:Nat)(a:(ls mask h 13).1=S m%(mask+1)): ∀n,(ls mask h (13+n)).1=S (m+n)%(mask+1)
 |0=>a
 |n+1=>by show(((ls mask h (13+n)).1*5+1+(ls mask h (13+n)).2 / 32)%(mask+1))=_;rw[RA mask h _ (by lia),Od mask h m a n,Nat.zero_div,hH,<-yt m n 1,S,Gc,Nat.mod_mul_mod,<-Gc,vY 5]
def FU(hk:mask+1=2^k)(h:Int)(g:e<=mask): ∃n,n<mask+14/\(ls mask h n).1=e:=by
 have i:=Jz mask h 13;obtain⟨m,c,b⟩:=J8 k (ls mask h 13).1 (by lia);obtain⟨q,d,eq⟩:=J8 k e (by lia);rw[<-hk] at b eq c d;have a:=Od mask h m b.symm;by_cases f:m<=q
 .exact⟨13+(q-m),by lia,by rw[a,show m+(q-m)=q by lia];exact eq⟩
 .refine⟨13+(q+(mask+1)-m),by lia,?_⟩;rw[a,show m+(q+(mask+1)-m)=2^k+q by lia,hk,ae3,<-hk];exact eq
def Hx(mask i:Nat)(h:i<=mask):i<=aE mask i/\aE mask i<=mask/\aE mask i<=i+9:=by unfold aE;split<;>lia
noncomputable def tm(mask:Nat)(h:Int):Nat->Nat
 |0=>0
 |k+1=>tm mask h k+(aE mask (ls mask h k).1-(ls mask h k).1)+1
theorem SQ(mask:Nat)(h:Int): ∀k,tm mask h k<=10*k
 |0=>kc _
 |k+1=>by have:=SQ mask h k;have:=Hx mask _ (Jz mask h k);unfold tm;lia
noncomputable def at_(mask:Nat)(h:Int)(k t:Nat):SetTable.Probe:=⟨(ls mask h k).1+t,aE mask (ls mask h k).1-(ls mask h k).1-t,(ls mask h k).1,(ls mask h k).2,C⟩
theorem wH(mask:Nat)(h:Int): ∀k t,t<=aE mask (ls mask h k).1-(ls mask h k).1->pr mask h (tm mask h k+t)=at_ mask h k t
 |0,0,_=>rfl
 |k+1,0,_=>by have e:=wH mask h k (aE mask (ls mask h k).1-(ls mask h k).1)<|kc _;show M4 mask (pr mask h<|tm mask h k+(aE mask (ls mask h k).1-(ls mask h k).1))=_;rw[e];unfold M4 at_;simp only[Nat.sub_self,qR,jX,gt_iff_lt];rfl
 |k,t+1,a=>by
  have e:=wH mask h k t (by lia);show M4 mask (pr mask h<|tm mask h k+t)=_;rw[e];unfold M4 at_;rw[iQ (show aE mask (ls mask h k).1-(ls mask h k).1-t>0 by lia)];simp only[SetTable.Probe.mk.injEq,and_true,true_and]
  lia
def aec(hk:mask+1=2^k)(h:Int)(a:e<=mask): ∃n,n<10*(mask+14)/\(pr mask h n).j=e:=by obtain⟨r,b,er⟩:=FU hk h a;have:=SQ mask h r;refine⟨tm mask h r,by lia,?_⟩;have:=wH mask h r 0<|lX _;rw[hH] at this;rw[this];exact er
theorem NA(mask:Nat)(h:Int): ∀n,(pr mask h n).dummy=C
 |0=>rfl
 |n+1=>by show(M4 mask<|pr mask h n).dummy=C;unfold M4;split<;>exact NA mask h n
theorem FC(mask:Nat)(h:Int): ∀n,∃k t,n=tm mask h k+t/\t<=aE mask (ls mask h k).1-(ls mask h k).1
 |0=>⟨0,0,rfl,lX _⟩
 |n+1=>by
  obtain⟨k,t,e,b⟩:=FC mask h n;by_cases a:t+1<=aE mask (ls mask h k).1-(ls mask h k).1
  .exact⟨k,t+1,by lia,a⟩
  .exact⟨k+1,0,by unfold tm;lia,lX _⟩
def Nz(mask:Nat)(h:Int)(n:Nat):(pr mask h n).j<=mask:=by obtain⟨k,t,e,a⟩:=FC mask h n;rw[e,wH mask h k t a];have:=Hx mask _ (Jz mask h k);show(ls mask h k).1+t<=mask;lia
def Ee{c:Array Nat}(g:c.toList.Pairwise (· < ·)){i j:Nat}{a b:Nat}(h:i<j)(h1:c[i]?=J a)(d:c[j]?=J b):a<b:=by rw[<-ml] at h1 d;obtain⟨e,rfl⟩:=uD.mp h1;obtain⟨f,rfl⟩:=uD.mp d;exact P5.mp g i j e f h
def ae7{c:Array Nat}(o:c.toList.Pairwise (· < ·))(j:Nat): ∀(d lo b:Nat),lo<=b->b<=c.size->b-lo<=d->
  (∀i a,i<lo->c[i]?=J a->a<j)->(∀i a,b<=i->c[i]?=J a->j<=a)->
  let p:=SetTable.below.go c j d lo b
  p<=c.size/\(∀i a,i<p->c[i]?=J a->a<j)/\(∀i a,p<=i->c[i]?=J a->j<=a):=by
 intro u
 induction u with
 |zero=>
  intro lo b h1 g t h k;have:lo=b:=by lia
  subst this;exact⟨g,h,k⟩
 |succ d r=>
  intro lo b h1 g t h k;unfold SetTable.below.go;by_cases q:lo<b
  .rw[iQ q];have n:(lo+b) / 2<c.size:=by lia
   have m:c[(lo+b) / 2]?=J c[(lo+b) / 2]:=qh n;have hd:c.getD ((lo+b) / 2) j=c[(lo+b) / 2]:=by simp[f9,n]
   dsimp only;rw[hd];by_cases l:c[(lo+b) / 2]<j
   .rw[iQ l];refine r ((lo+b) / 2+1) b (by lia) g (by lia) (λi a s f=>?_) k;by_cases e:i=(lo+b) / 2
    .subst e;rw[m] at f;cases f;exact l
    .exact DP (Ee o (by lia) f m) l
   .rw[jc l];refine r lo ((lo+b) / 2) (by lia) (by lia) (by lia) h λi a s f=>?_;by_cases e:i=(lo+b) / 2
    .subst e;rw[m] at f;cases f;lia
    .have:=Ee o (show(lo+b) / 2<i by lia) m f;lia
  .rw[jc q];have:lo=b:=by lia
   subst this;exact⟨g,h,k⟩
def qa{b:Array Nat}(d:b.toList.Pairwise (· < ·))(j:Nat):am b j<=b.size/\(∀i a,i<am b j->b[i]?=J a->a<j)/\(∀i a,am b j<=i->b[i]?=J a->j<=a):=
 ae7 d j b.size 0 b.size (lX _) (kc _) (by lia) (λi a h=>by lia) (λi a h1 c=>by have:=(Lx.mp c).1;lia)
def BJ{a:Array Nat}(c:a.toList.Pairwise (· < ·)){i j:Nat}(h:a[i]?=J j):am a j=i:=by
 obtain⟨h1,d,e⟩:=qa c j;by_cases g:i<am a j
 .exact absurd (d i j g h) (qR _)
 .by_cases f:am a j<i
  .have k:=(Lx.mp h).1;have b:a[am a j]?=J a[am a j]:=qh (by omega);have:=e _ _ (kc _) b;have:=Ee c f b h;omega
  .omega
theorem EB(j:Nat):SetTable.has #[] j=Y:=rfl
def qX{t:mQ}(a:t.place.toList.Pairwise (· < ·)){i j:Nat}(h:t.place[i]?=J j):t.slot j= .live i:=by unfold mj;dsimp only;rw[BJ a h,h];simp
def acC{t:mQ}(hd:t.dummies= #[]){j:Nat}(h:j∉t.place.toList):t.slot j= .empty:=by
 unfold mj;dsimp only
 have:(t.place[am t.place j]?==J j)=Y:=by rw[wR];intro e;rw[<-ml] at e;exact h<|mS e
 rw[this,hd,EB];rfl
def PQ(t:mQ)(p:cN):t.advance p=M4 t.mask p:=by unfold SetTable.advance M4;split<;>rfl
def aeE{k:iR}{t:mQ}(ok:D4 k t)(hashAt:Nat->Int)(h:Int): ∀(a n:Nat),(∃M,n<=M/\M<n+a/\(pr t.mask h M).j∉t.place.toList)->
    ∃m,n<=m/\(∀q,n<=q->q<m-> ∃i,t.place[i]?=J (pr t.mask h q).j/\hashAt i≠h)/\
      (((pr t.mask h m).j∉t.place.toList/\dP t hashAt h a (pr t.mask h n)=J (.empty (pr t.mask h m).j C))\/
       (∃i,t.place[i]?=J (pr t.mask h m).j/\hashAt i=h/\dP t hashAt h a (pr t.mask h n)=J (.candidate (pr t.mask h m).j i<|pr t.mask h<|m+1))):=by
  intro o
  induction o with
  |zero=>
    rintro n ⟨M,h1,f,g⟩
    lia
  |succ a l=>
    rintro n ⟨M,h1,f,g⟩;unfold dP;by_cases d:(pr t.mask h n).j∈t.place.toList
    · obtain⟨i,c⟩:=vp d
      rw[ml] at c;rw[qX ok.ris c];dsimp only;by_cases b:hashAt i=h
      · refine⟨n,kc _,λq h1 f=>by lia,.inr ⟨i,c,b,?_⟩⟩
        rw[iQ<|by simpa using b,PQ];rfl
      · rw[jc<|by simpa using b,PQ]
        have r:M≠n:=λe=>g<|e▸d;obtain⟨m,g1,g2,g3⟩:=l (n+1) ⟨M,by lia,by lia,g⟩;refine⟨m,by lia,λq s p=>?_,g3⟩;by_cases e:q=n
        · subst e;exact⟨i,c,b⟩
        · exact g2 q (by lia) p
    · rw[acC ok.dum d]
      dsimp only;rw[NA];exact⟨n,kc _,λq h1 f=>by lia,.inl ⟨d,rfl⟩⟩
def FX: ∀(n:Nat) (l:kb),A0 l<=n-> ∃e,e<=n/\e∉l:=by
 intro d
 induction d with
 |zero=>intro l h;exact⟨0,kc _,by cases l with|nil=>simp|cons _ _=>simp at h⟩
 |succ n c=>
  intro l h;by_cases a:n+1∈l
  .obtain⟨e,h1,b⟩:=c (l.erase<|n+1) (by rw[List.length_erase_of_mem a];lia);exact⟨e,by lia,λz=>b<|(GL<|by lia).mpr z⟩
  .exact⟨n+1,kc _,a⟩
def D4.free(ok:D4 f t)(h:Int): ∃M,M<10*(t.mask+14)/\(pr t.mask h M).j∉t.place.toList:=by
 obtain⟨k,_,_,hk⟩:=ok.pow
 have h1:(A0 t.place.toList)<=t.mask:=by have:=ok.len;have:=ok.room;rw[kF];lia
 obtain⟨e,c,d⟩:=FX t.mask _ h1;obtain⟨n,a,b⟩:=aec hk h c;exact⟨n,a,by rw[b];exact d⟩
def my{b:Type}(a:Array b)(p:Nat)(x:b):(aB a p x).toList=a.toList.take p++x::a.toList.drop p:=by unfold aB;simp[Array.toList_extract,List.extract];rw[yu<|by simp]
def acD(h:xs.toList.Pairwise (· < ·))(n:j∉xs.toList):(aB xs (am xs j) j).toList.Pairwise (· < ·):=by
 obtain⟨h1,l,k⟩:=qa h j;rw[my,uC];refine⟨h.sublist<|yC _ _,?_,?_⟩
 .rw[E6];refine⟨λa d=>?_,h.sublist<|GW _ _⟩;obtain⟨i,c⟩:=vp d;rw[eW] at c;have m:=k _ _ (show am xs j<=am xs j+i by lia) (by rw[<-ml];exact c);have:a≠j:=λe=>n (e▸mS c)
  lia
 .intro a d b g
  have f:a<j:=by
   obtain⟨i,c⟩:=vp d;rw[List.getElem?_take] at c;split at c
   .rename_i o;exact l i a o (by rw[<-ml];exact c)
   .cases c
  rcases kW.mp g with rfl|g
  .exact f
  .obtain⟨i,c⟩:=vp g;rw[eW] at c;have m:=k _ _ (show am xs j<=am xs j+i by lia) (by rw[<-ml];exact c)
   lia
def D4.fresh(finger moves:Nat)(led:Bool):D4 [] (ka finger moves led) where
 pow:=⟨3,by lia,by lia,rfl⟩
 dum:=rfl
 len:=rfl
 room:=by show 5*0<3*7;lia
 ris:= .nil
 bd:=λj h=>by simp[ka] at h
 road:=λi h j h1=>by simp at h1
def D4.put(ok:D4 g t)(A:(pr t.mask h n).j∉t.place.toList)(z: ∀m,m<n->(pr t.mask h m).j∈t.place.toList)(T:5*(A0 g+1)<3*t.mask)(Q:j=(pr t.mask h n).j)(E:p=am t.place j):
  D4 (g.take p++h::g.drop p) (t.put j).1/\(t.put j).2=p:=by
 subst Q;subst E
 have v:(t.put (pr t.mask h n).j).1={t with place:=aB t.place (am t.place (pr t.mask h n).j) (pr t.mask h n).j,dummies:= #[]}:=by unfold nf;dsimp only;rw[ok.dum,EB];rfl
 obtain⟨h1,_,_⟩:=qa ok.ris (pr t.mask h n).j;have U:=ok.len
 have c: ∀x,x∈t.place.toList->x∈(aB t.place (am t.place (pr t.mask h n).j) (pr t.mask h n).j).toList:=λx a=>by
  rw[my];rw[<-wj (am t.place (pr t.mask h n).j) t.place.toList] at a;rcases sQ.mp a with a|a
  .exact sQ.mpr (.inl a)
  .exact sQ.mpr (.inr<|jZ _ a)
 refine⟨?_,rfl⟩;rw[v];generalize y:am t.place (pr t.mask h n).j=P at*;refine⟨ok.pow,rfl,?_,?_,?_,λx a=>?_,λi f k g1 g2=>?_⟩
 .show(aB t.place P (pr t.mask h n).j).size=_;rw[<-kF,my];simp only[mR,lh,qP,dF,kF];lia
 .show 5*_<3*t.mask;simp only[mR,lh,qP,dF];lia
 .have:=acD ok.ris A;rw[y] at this;exact this
 .have s:x∈(aB t.place P (pr t.mask h n).j).toList:=a;rw[my] at s;show x<=t.mask;rcases sQ.mp s with a|a
  .exact ok.bd x (we a)
  .rcases kW.mp a with rfl|a
   .exact Nz _ _ _
   .exact ok.bd x (Al a)
 .have b:(aB t.place P (pr t.mask h n).j).toList[i]?=J k:=by rw[ml];exact g2
  rw[my] at b;show ∃u,(pr t.mask f u).j=k/\ ∀m,m<u->(pr t.mask f m).j∈(aB t.place P (pr t.mask h n).j).toList;have w:(t.place.toList.take P).length=P:=by rw[qP,kF];lia
  have l:(g.take P).length=P:=by rw[qP];lia
  by_cases B:i<P
  .rw[sP<|by lia,Mt B] at g1 b;rw[ml] at b;obtain⟨q,o,r⟩:=ok.road i f k g1 b;exact⟨q,o,λm e=>c _ (r m e)⟩
  .rw[qN<|by lia,w] at b;rw[qN<|by lia,l] at g1
   cases hd:i-P with
   |zero=>rw[hd] at g1 b;simp at g1 b;subst g1;subst b;exact⟨n,rfl,λm e=>c _ (z m e)⟩
   |succ d=>rw[hd] at g1 b;simp only[Dz,eW] at g1 b;rw[ml] at b;obtain⟨q,o,r⟩:=ok.road _ f k g1 b;exact⟨q,o,λm e=>c _ (r m e)⟩
def Kg(ow:wQ)(j:Nat):Prop:= ∃i,ow.getD j C=J i
def EC{ow:wQ}{j:Nat}{d:Option Nat}(h:j<ow.size):ow.getD j d=ow.getD j C:=by simp[f9,h]
def adz{mask:Nat}{ow:wQ}(U:ow.size=mask+1)(h:Int): ∀(a k:Nat),(∃r,k<=r/\r<k+a/\ ¬Kg ow (ls mask h r).1)->(∀m,m<tm mask h k->Kg ow (pr mask h m).j)->
  ∃n,bA mask ow a (ls mask h k).1 (ls mask h k).2=J (pr mask h n).j/\ ¬Kg ow (pr mask h n).j/\ ∀m,m<n->Kg ow (pr mask h m).j:=by
 intro A
 induction A with
 |zero=>
  rintro k ⟨r,h1,v,_⟩ _
  lia
 |succ a z=>
  rintro k ⟨r,h1,v,g⟩ l;unfold bA;have x:=Jz mask h k;have y:=Hx mask _ x
  cases c:(au<|aE mask (ls mask h k).1+1-(ls mask h k).1).find? λt=>(ow.getD ((ls mask h k).1+t)<|J 0).isNone with
  |some t=>
   rw[List.find?_range_eq_some] at c;obtain⟨a1,q,s⟩:=c;rw[yh] at q;have p:t<=aE mask (ls mask h k).1-(ls mask h k).1:=by lia
   have e:=wH mask h k t p;refine⟨tm mask h k+t,by rw[e];rfl,?_,λm o=>?_⟩
   .rw[e];rintro⟨i,w⟩;rw[EC (by show(ls mask h k).1+t<_;lia)] at a1;have u:ow.getD ((ls mask h k).1+t) C=J i:=w;rw[u] at a1;simp at a1
   .by_cases f:m<tm mask h k
    .exact l m f
    .have b:=wH mask h k (m-tm mask h k) (by lia);rw[show tm mask h k+(m-tm mask h k)=m by lia] at b;rw[b];have:=s (m-tm mask h k) (by lia);rw[EC (by show(ls mask h k).1+(m-tm mask h k)<_;lia)] at this;show Kg ow ((ls mask h k).1+(m-tm mask h k));unfold Kg
     cases d:ow.getD ((ls mask h k).1+(m-tm mask h k)) C with
     |none=>rw[d] at this;simp at this
     |some i=>exact⟨i,rfl⟩
  |none=>
   rw[List.find?_range_eq_none] at c
   have all: ∀t,t<=aE mask (ls mask h k).1-(ls mask h k).1->Kg ow ((ls mask h k).1+t):=λt p=>by
    have:=c t (by lia);rw[EC<|by lia] at this;unfold Kg
    cases d:ow.getD ((ls mask h k).1+t) C with
    |none=>rw[d] at this;simp at this
    |some i=>exact⟨i,rfl⟩
   have B:r≠k:=λe=>g (by subst e;have:=all 0<|lX _;simpa using this)
   have:=z (k+1) ⟨r,by lia,by lia,g⟩ (λm o=>by
    by_cases f:m<tm mask h k
    .exact l m f
    .unfold tm at o;have b:=wH mask h k (m-tm mask h k) (by lia);rw[show tm mask h k+(m-tm mask h k)=m by lia] at b;rw[b];exact all _ (by lia))
   exact this
def Gb{a e:Type}{f g:a->Option e}: ∀{l:List a},(∀x∈l,f x=g x)->l.filterMap f=l.filterMap g:=by
 intro d
 induction d with
 |nil=>intro _;exact H
 |cons x l c=>intro h;rw[vF,vF,h x jY,c λy b=>h y<|jZ _ b]
noncomputable def pV(mask:Nat)(ow:wQ):List (Nat×Nat):=(au<|mask+1).filterMap λj=>(ow.getD j C).map (j,·)
def P9:(j,i)∈pV mask ow↔j<=mask/\ow.getD j C=J i:=by
 unfold pV;simp only[c7,yh,gy,Prod.mk.injEq];constructor
 .rintro⟨a,h1,b,c,rfl,rfl⟩;exact⟨by lia,c⟩
 .rintro⟨h1,c⟩;exact⟨j,by lia,i,c,rfl,rfl⟩
def aeW(mask:Nat)(ow:wQ):((pV mask ow).map (·.1)).Pairwise (· < ·):=by unfold pV;rw[List.map_filterMap,List.pairwise_filterMap];refine Wr.imp λ{a b} e x c y d=>?_;simp only[Option.mem_def,Option.map_map,gy,bo] at c d;obtain⟨_,_,rfl⟩:=c;obtain⟨_,_,rfl⟩:=d;exact e
def aeV{mask:Nat}{ow:wQ}(f:ow.size=mask+1){j k:Nat}(d:j<=mask)(c:ow.getD j C=C):(pV mask<|ow.setIfInBounds j<|J k).Perm ((j,k)::pV mask ow):=by
 have g: ∀i,(ow.setIfInBounds j<|J k).getD i C=if i=j then J k else ow.getD i C:=λi=>by
  simp only[vX,Dy];by_cases e:i=j
  .subst e;simp[show i<ow.size by lia]
  .rw[jc λz=>e z.symm,jc e]
 have split:au (mask+1)=au j++j::(au<|mask-j).map (λx=>j+1+x):=by rw[show mask+1=j+(mask-j+1) by lia,List.range_add,dX];simp[rK,yt,z7 1]
 unfold pV;rw[split,L8,L8,vF,vF];simp only[g,c,iQ H,Option.map_none,Option.map_some]
 have a1:(au j).filterMap (λi=>(if i=j then J k else ow.getD i C).map (i,·))=(au j).filterMap (λi=>(ow.getD i C).map (i,·)):=
  Gb λi a=>by rw[yh] at a;rw[jc<|by lia]
 have b:((au<|mask-j).map λx=>j+1+x).filterMap (λi=>(if i=j then J k else ow.getD i C).map (i,·))=((au<|mask-j).map λx=>j+1+x).filterMap (λi=>(ow.getD i C).map (i,·)):=
  Gb λi a=>by obtain⟨x,_,rfl⟩:=mw.mp a;rw[jc<|by lia]
 rw[a1,b];exact P6
structure HI(mask:Nat)(hs:iR)(ow:wQ):Prop where
 size:ow.size=mask+1
 perm:((pV mask ow).map (·.2)).Perm (au<|A0 hs)
 road: ∀j i h,ow.getD j AX=A7 i->hs[i]?=A7 h-> ∃n,(pr mask h n).j=j/\ ∀m,m<n->Kg ow (pr mask h m).j
def Ju(h:Kg ow x):Kg (ow.setIfInBounds j<|J k) x:=by
 obtain⟨i,a⟩:=h;unfold Kg;simp only[vX,Dy] at a ⊢;by_cases e:j=x
 .subst e;rw[iQ H];split
  .exact⟨k,rfl⟩
  .rename_i b;rw[Dx<|by lia] at a;simp at a
 .rw[jc e];exact⟨i,a⟩
def HI.step{mask k:Nat}(hk:mask+1=2^k){a:iR}{ow:wQ}(ok:HI mask a ow)(h:Int)(E:(A0 a)<=mask):
  ∃j,bA mask ow (bS mask) (aJ h%(mask+1)) (aJ h)=J j/\HI mask (a++[h]) (ow.setIfInBounds j<|J<|A0 a):=by
 have o:(pV mask ow).length=(A0 a):=by have:=ok.perm.length_eq;simpa using this
 obtain⟨e,l,x⟩:=FX mask ((pV mask ow).map (·.1)) (by rw[jM];lia)
 have s: ¬Kg ow e:=by rintro⟨i,f⟩;exact x<|mw.mpr ⟨(e,i),P9.mpr ⟨l,f⟩,rfl⟩
 obtain⟨r,A,u⟩:=FU hk h l;obtain⟨n,f1,f2,t⟩:=adz ok.size h (bS mask) 0 ⟨r,lX _,by unfold bS;lia,by rw[u];exact s⟩ (λm c=>by simp[tm] at c);have w:=Nz mask h n
 have p:ow.getD (pr mask h n).j C=C:=by
  cases y:ow.getD (pr mask h n).j C with
  |none=>rfl
  |some i=>exact absurd ⟨i,y⟩ f2
 refine⟨_,f1,⟨by rw[Array.size_setIfInBounds];exact ok.size,?_,λj i v g1 g2=>?_⟩⟩
 .refine((aeV ok.size w p).map _).trans ?_;rw[jU,mR,yA,List.range_succ];exact(i7 _ ok.perm).trans (L7 _ _).symm
 .by_cases b:j=(pr mask h n).j
  .subst b
   have:i=(A0 a):=by simp only[vX,Dy,iQ H] at g1;rw[iQ bg,iQ<|by rw[ok.size];lia] at g1;exact(kL g1).symm
   subst this;rw[qN<|kc _] at g2;simp at g2;subst g2;exact⟨n,rfl,λm c=>Ju<|t m c⟩
  .have d:ow.getD j C=J i:=by simp only[vX,Dy] at g1 ⊢;rw[jc λz=>b z.symm] at g1;exact g1
   have f:i<(A0 a):=by
    have g:j<=mask:=by
     by_cases q:j<ow.size
     .have:=ok.size;lia
     .rw[vX,Dx<|by lia] at d;simp at d
    have:=ok.perm.mem_iff.mp<|mw.mpr ⟨(j,i),P9.mpr ⟨g,d⟩,rfl⟩;exact yh.mp this
   rw[sP f] at g2;obtain⟨q,B,U⟩:=ok.road j i v d g2;exact⟨q,B,λm c=>Ju<|U m c⟩
def HI.start(mask:Nat):HI mask [] (fU (mask+1) C) where
 size:=by simp
 perm:=by
  have:pV mask (fU (mask+1) C)=[]:=by unfold pV;refine List.filterMap_eq_nil_iff.mpr λj a=>?_;rw[vX,L6];split<;>rfl
  rw[this];exact wa _
 road:=λj i h h1=>by rw[vX,L6] at h1;split at h1<;>cases h1
noncomputable def xD(mask:Nat)(a:Option (Array (Option Nat)×Nat))(h:Int):Option (Array (Option Nat)×Nat):=do
 let(owner,k) <-a
 let j <-bA mask owner (bS mask) (aJ h%(mask+1)) (aJ h)
 pure (owner.setIfInBounds j<|J k,k+1)
def ae0{mask k:Nat}(hk:mask+1=2^k): ∀(l a:iR) (ow:wQ),HI mask a ow->A0 a+A0 l<=mask+1->
  ∃c,l.foldl (xD mask) (J (ow,A0 a))=J (c,A0 a+A0 l)/\HI mask (a++l) c:=by
 intro m
 induction m with
 |nil=>intro a ow ok _;exact⟨ow,rfl,by rw[yD];exact ok⟩
 |cons h l i=>
  intro a ow ok g;rw[lh] at g;obtain⟨j,e,d⟩:=ok.step hk h (by lia);obtain⟨c,f,b⟩:=i (a++[h]) _ d (by rw[mR,yA];lia);refine⟨c,?_,by rw[qj] at b;exact b⟩;rw[vA]
  have:xD mask (J (ow,A0 a)) h=J (ow.setIfInBounds j<|J<|A0 a,A0 a+1):=by unfold xD;show(bA mask ow (bS mask) (aJ h%(mask+1)) (aJ h)>>=_)=_;rw[e];rfl
  rw[this];rw[mR,yA] at f;rw[f,lh]
  congr 2;lia
def ab7(hk:mask+1=2^k)(a:iR)(c:(A0 a)<=mask): ∃ow,hD mask a.toArray=J ow/\HI mask a ow:=by
 obtain⟨ow,e,ok⟩:=ae0 hk a [] _ (HI.start mask) (by simp;lia);refine⟨ow,?_,by simpa using ok⟩;unfold hD;rw[<-Array.foldl_toList];show wn _ (eY (xD mask) _ a)=_;have b:eY (xD mask) (J (fU (mask+1) C,0)) a=J (ow,A0 a):=by simpa using e
 rw[b];rfl
def RM(hk:mask+1=2^k)(w:3<=k)(o:k<=11)(finger moves:Nat)(led plain:Bool)(d:iR)(E:5*(A0 d)<3*mask):
  ∃t c,mm mask finger moves led plain d.toArray=J (t,c)/\c.toList.Perm (au<|A0 d)/\D4 (c.toList.map λi=>d.getD i 0) t/\t.plain=plain/\t.led=led:=by
 obtain⟨ow,e,ok⟩:=ab7 hk d (by lia);refine⟨{mask,place:=((pV mask ow).map (·.1)).toArray,dummies:= #[],finger,led,moves,plain},((pV mask ow).map (·.2)).toArray,?_,by simpa using ok.perm,?_,rfl,rfl⟩
 .unfold mm;rw[e];rfl
 .have g:(pV mask ow).length=(A0 d):=by have:=ok.perm.length_eq;simpa using this
  refine⟨⟨k,w,o,hk⟩,rfl,by simp,by simp[g];lia,by simpa using aeW mask ow,λj z=>?_,λi h j g1 g2=>?_⟩
  .have v:j∈(pV mask ow).map (·.1):=by simpa using z
   obtain⟨⟨a,b⟩,q,rfl⟩:=mw.mp v;exact(P9.mp q).1
  .have r:((pV mask ow).map (·.2)).map (λi=>d.getD i 0)=(((pV mask ow).map (·.2)).toArray).toList.map λi=>d.getD i 0:=by simp
   rw[<-r,kZ,kZ] at g1;have f:((pV mask ow).map (·.1))[i]?=J j:=by simpa using g2
   rw[kZ] at f
   cases l:(pV mask ow)[i]? with
   |none=>rw[l] at f;cases f
   |some p=>
    obtain⟨a,b⟩:=p;rw[l] at g1 f;simp at g1 f;subst f;have q:=P9.mp<|mS l
    have x:b<(A0 d):=by have:=ok.perm.mem_iff.mp<|mw.mpr ⟨(a,b),mS l,rfl⟩;exact yh.mp this
    have y:d[b]?=J h:=by rw[jx x] at g1 ⊢;simpa using g1
    obtain⟨n,B,U⟩:=ok.road a b h q.2 y;refine⟨n,B,λm u=>?_⟩;obtain⟨A,s⟩:=U m u;show(pr mask h m).j∈(((pV mask ow).map (·.1)).toArray).toList;have:(pr mask h m).j∈(pV mask ow).map (·.1):=mw.mpr ⟨(_,A),P9.mpr ⟨Nz mask h m,s⟩,rfl⟩;simpa using this
def abQ: ∀n,n<2048-> ∃k,3<=k/\k<=11/\ey n=2^k/\n<2^k:=by
 intro n h
 have step: ∀(f k:Nat),3<=k->k<=11->11<k+f-> ∃b,3<=b/\b<=11/\SetTable.sizeAbove.go n f (2^k)=2^b/\n<2^b:=by
  intro f
  induction f with
  |zero=>intro k h1 c d;lia
  |succ f g=>
   intro k h1 c d;unfold SetTable.sizeAbove.go;by_cases a:2^k<=n
   .rw[iQ a,<-rC];have:k≠11:=λe=>by subst e;lia
    exact g (k+1) (by lia) (by lia) (by lia)
   .rw[jc a];exact⟨k,h1,c,rfl,by lia⟩
 exact step 64 3 (by lia) (by lia) (by lia)
open PyProof.Rows PySem.SeqAt
def ady{g:iR}{t:mQ}(ok:D4 g t){hashAt:Nat->Int}{h:Int}{p:cN}{n:Nat}(f:p=pr t.mask h n)(e: ∀m,m<n->(pr t.mask h m).j∈t.place.toList):
    ∃m,n<=m/\m<10*(t.mask+14)/\(∀q,n<=q->q<m-> ∃i,t.place[i]?=J (pr t.mask h q).j/\hashAt i≠h)/\
      (((pr t.mask h m).j∉t.place.toList/\t.probe hashAt h p=J (.empty (pr t.mask h m).j C))\/
       (∃i,t.place[i]?=J (pr t.mask h m).j/\hashAt i=h/\t.probe hashAt h p=J (.candidate (pr t.mask h m).j i<|pr t.mask h<|m+1))):=by
  subst f;obtain⟨M,h1,a⟩:=ok.free h
  have c:n<=M:=by
    by_cases b:M<n
    · exact absurd (e M b) a
    · lia
  obtain⟨m,g1,g2,g3⟩:=aeE ok hashAt h (10*bS t.mask) n ⟨M,c,by unfold bS;lia,a⟩
  have k:m<=M:=by
    by_cases b:M<m
    · obtain⟨i,d,_⟩:=g2 M c b
      rw[<-ml] at d;exact absurd (mS d) a
    · lia
  exact⟨m,g1,by lia,g2,g3⟩
section
variable {prog:ja}{w:iW}{A:iY}{E:jt}{s:iJ}
structure Ll(A:iY)(s:iJ)(a:iE)(es:uY)(n:Nat)(t:mQ)(x:iN)(h:Int)(eqs:Nat->Bool):Prop where
 at_: ∃o,s.heap.get? a=A7 o/\o.data= .set es n t
 tab:D4 (es.toList.map (·.1)) t
 refs: ∀(i:Nat) (e:Int×iN),es[i]?=A7 e-> ∃b,e.2= .ref b
 eq: ∀(i:Nat) (e:Int×iN),es[i]?=A7 e->EqAt A s e.2 x (eqs i)
 hash: ∀(i:Nat) (e:Int×iN),es[i]?=A7 e->eqs i=B8->e.1=h
 quiet: ∀(l:jF) (prog:ja) (w:iW) (E:jt) (Q:tE),(∀v∈l,∃e∈es.toList,e.2=v)->Q B6 s->ah (ai prog w) A (v7 x l) Q E s
def ad7(ok:D4 c t):t.gaveWay=Y:=by
 obtain⟨k,h1,_,b⟩:=ok.pow;obtain⟨a,rfl⟩: ∃a,k=a+1:=⟨k-1,by lia⟩
 rw[rC] at b;unfold SetTable.gaveWay;rw[wR];lia
def JQ(ok:D4 a t)(h:(A0 a)=n):t.fits n=I:=by have:=ok.len;have:=ok.room;unfold mo ms;rw[ok.dum];simp only[lA,Gq,vo];exact⟨by lia,by show _+0<=_;lia⟩
def Ll.fits{a b n t x h eqs}(S:Ll A s a b n t x h eqs):t.fits b.size=I:=JQ S.tab (by simp)
def acd{a:iE}{k:uY}{nn:Nat}{t:mQ}{x:iN}{h:Int}{c:Nat->Bool}{adding:Bool}(S:Ll A s a k nn t x h c){Q:SetFound->Shared->Prop}
  (H: ∀i r,c i=B8->i<k.size->(r=AX\/r=A7 i)->(adding=B6->r=A7 i)->Q (.there r) s)
  (l5:(∀i,i<k.size->c i=B6)-> ∀n,(pr t.mask h n).j∉t.place.toList->(∀m,m<n->(pr t.mask h m).j∈t.place.toList)->Q (.free (pr t.mask h n).j B6) s):
  ∀(l n:Nat) (u:Option cN),u.getD (t.probeStart h)=pr t.mask h n->(∀q,q<n-> ∃i,t.place[i]?=A7 (pr t.mask h q).j/\c i=B6)->10*(t.mask+14)<n+l->n<=10*(t.mask+14)->
   ah (ai prog w) A (OO a x h adding l u) Q E s:=by
 intro iV
 induction iV with
 |zero=>
  intro n u _ _ W Z
  lia
 |succ l iH=>
  intro n u l9 U W Z;obtain⟨o,T,hd⟩:=S.at_
  have Kg: ∀m,m<n->(pr t.mask h m).j∈t.place.toList:=λm X=>by obtain⟨i,g,_⟩:=U m X;rw[<-ml] at g;exact mS g
  unfold OO;refine iF<|vg T hd S.fits ?_;dsimp only;rw[ad7 S.tab];simp only[jK,↓reduceIte];generalize V:t.probe _ h _=P;obtain⟨m,m1,m2,m3,F⟩:=ady S.tab l9 Kg (hashAt:=λi=>(k[i]?.map (·.1)).getD 0);have O:t.probe (λi=>(k[i]?.map (·.1)).getD 0) h (u.getD<|t.probeStart h)=P:=V;rw[O] at F
  have N: ∀(i:Nat) (j:Nat),t.place[i]?=A7 j-> ∃e,k[i]?=A7 e/\(k[i]?.map (·.1)).getD 0=e.1:=λi j g=>by have h1:=(Lx.mp g).1;have L:=S.tab.len;rw[jM,kF] at L;exact⟨k[i],qh<|by lia,by rw[qh<|by lia];rfl⟩
  have ne: ∀(i:Nat) (j:Nat),t.place[i]?=A7 j->(k[i]?.map (·.1)).getD 0≠h->c i=B6:=λi j g J=>by
   obtain⟨e,f,Y⟩:=N i j g
   cases d:c i with
   |false=>rfl
   |true=>exact absurd (Y.trans<|S.hash i e f d) J
  have seen: ∀q,q<m-> ∃i,t.place[i]?=A7 (pr t.mask h q).j/\c i=B6:=λq d=>by
   by_cases p:q<n
   .exact U q p
   .obtain⟨i,g,J⟩:=m3 q (by lia) d;exact⟨i,g,ne i _ g J⟩
  rcases F with⟨a1,a2⟩|⟨i,a1,a2,a3⟩
  .subst a2;dsimp only;refine iP<|l5 (λi g=>?_) m a1 λq d=>?_
   .cases d:c i with
    |false=>rfl
    |true=>
     exfalso;have f:k[i]?=A7 k[i]:=qh g;have h1:=S.hash i _ f d;have L:=S.tab.len;rw[jM,kF] at L;have C:t.place[i]?=A7 t.place[i]:=qh (by lia);obtain⟨M,K,r2⟩:=S.tab.road i h t.place[i] (by rw[kZ,ml,f];exact ox A7 h1) C
     have:M<m:=by
      by_cases p:M<m
      .exact p
      .exfalso;rcases mN (P7.mp p) with p|heq
       .exact a1 (r2 m p)
       .subst heq;rw[<-ml] at C;rw[K] at a1;exact a1<|mS C
     obtain⟨i',g1,g2⟩:=seen M this;rw[K] at g1;have:i'=i:=by rw[<-BJ S.tab.ris g1,BJ S.tab.ris C]
     rw[this,d] at g2;cases g2
   .obtain⟨i,g,_⟩:=seen q d;rw[<-ml] at g;exact mS g
  .subst a3;dsimp only;obtain⟨e,f,Y⟩:=N i _ a1;obtain⟨h',y⟩:=e;obtain⟨b,D⟩:=S.refs i _ f;dsimp only at D;subst D;have I:t.sameMemory t.moves t.mask=A7 B8:=by simp[SetTable.sameMemory]
   have B:i<k.size:=(Lx.mp f).1;cases hl:t.led
   .simp only[Aj,↓reduceIte];refine iF<|S.quiet _ _ _ _ _ (λv hv=>?_) ?_
    .obtain⟨e,R,rfl⟩:=mw.mp hv;exact⟨e,(Wq.mp (by simpa using(Array.mem_filter.mp<|Wq.mp R).1) |> λz=>by simpa using z),rfl⟩
    simp only[jK,↓reduceIte];rw[f];dsimp only;refine iF<|mn<|S.eq i _ f _ _ _ _ ?_;refine iF<|vg T hd S.fits ?_;dsimp only
    cases d:c i with
    |true=>
     cases adding with
     |true=>simp only[gz,↓reduceIte];exact iP<|H i AX d B (.inl AU) (λz=>by cases z)
     |false=>simp only[ez,jK,↓reduceIte,I,qX S.tab.ris a1,f];refine iF<|Dw ?_;simp only[↓reduceIte];exact iF<|iP<|iP<|H i _ d B (.inr AU) λ_=>rfl
    |false=>
     simp only[eC,jK,↓reduceIte,I,qX S.tab.ris a1,f];refine iF<|Dw ?_;simp only[↓reduceIte];refine iF<|iP ?_
     exact iH (m+1) _ rfl (λq G=>by
      by_cases e:q=m
      .subst e;exact⟨i,a1,d⟩
      .exact seen q (by lia)) (by lia) (by lia)
   .simp only[pz,jK,↓reduceIte];rw[f];dsimp only;refine iF<|mn<|S.eq i _ f _ _ _ _ ?_;refine iF<|vg T hd S.fits ?_;dsimp only
    cases d:c i with
    |true=>
     cases adding with
     |true=>simp only[gz,↓reduceIte];exact iP<|H i AX d B (.inl AU) (λz=>by cases z)
     |false=>simp only[ez,jK,↓reduceIte,I,qX S.tab.ris a1,f];refine iF<|Dw ?_;simp only[↓reduceIte];exact iF<|iP<|iP<|H i _ d B (.inr AU) λ_=>rfl
    |false=>
     simp only[eC,jK,↓reduceIte,I,qX S.tab.ris a1,f];refine iF<|Dw ?_;simp only[↓reduceIte];refine iF<|iP ?_
     exact iH (m+1) _ rfl (λq G=>by
      by_cases e:q=m
      .subst e;exact⟨i,a1,d⟩
      .exact seen q (by lia)) (by lia) (by lia)
end
noncomputable abbrev kR(a:uY)(n:Nat)(t:mQ):Obj:={cls:= .type "set",data:= .set a n t}
section
variable {c:ja}{w:iW}{A:iY}{E:jt}{s:iJ}
def Fl{h:iX}{a:iE}{b es':uY}{n:Nat}{t t':mQ}(d:h.get? a=J (kR b n t)):(h.update a<|mu es' t').get? a=J (kR es' (n+1) t'):=by have:=sO (mu es' t') d (by rw[putSet_of es' t' H];rfl);rw[putSet_of es' t' H] at this;exact this
def aew{b:Type}(a:Array b):(au a.size).filterMap (λi=>a[i]?)=a.toList:=by
 have: ∀(l:List b),(au<|A0 l).filterMap (λi=>l[i]?)=l:=by
  intro l
  induction l with
  |nil=>rfl
  |cons x l d=>rw[lh,dX,vF];simp only[dI,k6,rK,Dz,d]
 have h:=this a.toList;simpa using h
def R7{a:uY}: ∀(l:kb),(∀i∈l,i<a.size)->(l.filterMap λi=>a[i]?).map (·.1)=l.map λi=>(a.toList.map (·.1)).getD i 0:=by
 intro f
 induction f with
 |nil=>intro _;exact H
 |cons i l e=>
  intro h;have b:=h i jY;rw[vF,qh b];simp only[jU];rw[e λj d=>h j<|jZ _ d]
  congr 1
  simp[b]
def aet{a:iE}{d:uY}{n:Nat}{t:mQ}(g:s.heap.get? a=J (kR d n t))(v:t.fits d.size=I)(U:5<=d.size)(L:d.size<=500){Q:Unit->Shared->Prop}
  (h: ∀f es' O t',aP a s.heap f->f.get? a=J (kR es' O t')->es'.toList.Perm d.toList->D4 (es'.toList.map (·.1)) t'->t'.plain=t.plain->t'.led=t.led->Q () {s with heap:=f}):
  ah (ai c w) A (setRelay a<|fL d.size) Q E s:=by
 have x:fL d.size=d.size*4:=by unfold fL;rw[jc<|by lia]
 obtain⟨k,B,j,u,lk⟩:=abQ (d.size*4) (by lia);have z:ey (d.size*4)-1+1=2^k:=by have:=s8 k;lia
 obtain⟨t',b,o,e,p,q,r⟩:=RM z B j t.finger (t.movedTo<|ey (d.size*4)-1) t.led t.plain (d.toList.map (·.1)) (by rw[jM,kF];lia);rw[jM,kF] at e
 have er:t.relaid (d.map (·.1)) (d.size*4)=J (t',b):=by unfold SetTable.relaid;rw[<-o,<-Array.toList_map]
 have m: ∀i∈b.toList,i<d.size:=λi y=>yh.mp<|e.mem_iff.mp y;have l:(b.filterMap (d[·]?)).toList=b.toList.filterMap (λi=>d[i]?):=by simp
 have perm:(b.filterMap (d[·]?)).toList.Perm d.toList:=by rw[l];refine(e.filterMap _).trans ?_;rw[aew]
 have sz:(b.filterMap (d[·]?)).size=d.size:=by rw[<-kF,perm.length_eq,kF]
 rw[x];unfold setRelay;refine iF<|vg g H v ?_;dsimp only
 have T:2^k<=sizeLine:=by have:2^k<=2^11:=DA (by decide) j;rw[jQ];lia
 rw[jc<|by rw[u];lia,er];refine iF ?_;change ah _ _ (if((b.filterMap (d[·]?)).size !=d.size)=I then _ else _) _ _ _;rw[jc<|by rw[sz];simp];refine iP ?_;dsimp only;refine vw g H ?_ (by rw[sz,jQ];lia);refine h _ (b.filterMap (d[·]?)) (n+1) t' (sM s.heap a _) (Fl g) perm ?_ q r;rw[l,R7 _ m];exact p
def qo{b:Type}(a:Array b)(p:Nat)(x:b):(aB a p x).toList.Perm (x::a.toList):=by rw[my];refine P6.trans ?_;rw[wj]
def Y8{a b:iE}{d:uY}{n:Nat}{t:mQ}{h:Int}{p:Nat->Bool}(S:Ll A s a d n t (.ref b) h p)(H:s.heap.get? a=A7 (kR d n t))(f7:t.plain=B8)(hz:d.size+1<=500)
  (J: ∀(U:tE),U B8 s->ah (ai c w) A (c4 8<|.ref b) U E s){Q:tE}
  (y:(∃i,i<d.size/\p i=B8)->Q B6 s)
  (m5:(∀i,i<d.size->p i=B6)-> ∀h' es' N t',aP a s.heap h'->h'.get? a=A7 (kR es' N t')->es'.toList.Perm ((h,.ref b)::d.toList)->D4 (es'.toList.map (·.1)) t'->t'.plain=B8->t'.led=t.led->Q B8 {s with heap:=h'}):
  ah (ai c w) A (UF a (.ref b) h) Q E s:=by
 unfold UF setAddHashedIn;refine mn<|iF<|vg H AU S.fits ?_;dsimp only;have G:byScan (.ref b) d=B6:=rfl;rw[G];simp only[jK,↓reduceIte]
 have hm:t.mask+1<=2048:=by
  obtain⟨k,_,R,V⟩:=S.tab.pow;have:2^k<=2^11:=DA (by decide) R
  lia
 refine iF<|acd S (adding:=B8) (λi r h1 T _ _=>?_) (λY m h1 T=>?_) 100000 0 AX AU (λq hq=>by lia) (by lia) (by lia)
 .dsimp only;exact iP<|y ⟨i,T,h1⟩
 .dsimp only;refine iF<|vg H AU S.fits ?_;dsimp only
  have x:(t.put (pr t.mask h m).j).1={t with place:=aB t.place (am t.place (pr t.mask h m).j) (pr t.mask h m).j,dummies:= #[]}:=by unfold nf;dsimp only;rw[S.tab.dum,EB];rfl
  have P:(t.put (pr t.mask h m).j).2=am t.place (pr t.mask h m).j:=rfl;have O:(t.put (pr t.mask h m).j).1.plain=B8:=by rw[x];exact f7
  rw[iQ O];refine iF<|J _ ?_;simp only[↓reduceIte]
  have v:(aB d (t.put (pr t.mask h m).j).2 (h,aX b)).size=d.size+1:=by rw[<-kF,(qo d _ _).length_eq,lh,kF]
  refine iF<|vw H AU ?_ (by rw[v,jQ];lia);have F:=Fl (es':=aB d (t.put (pr t.mask h m).j).2 (h,aX b)) (t':=(t.put (pr t.mask h m).j).1) H;have C:=sM s.heap a<|mu (aB d (t.put (pr t.mask h m).j).2 (h,aX b)) (t.put (pr t.mask h m).j).1;have f:(A0 d.toList)=d.size:=kF;have o:=S.tab.len;rw[jM,f] at o
  have l:(t.put (pr t.mask h m).j).1.place.size=d.size+1:=by rw[x];show(aB t.place _ _).size=_;rw[<-kF,(qo t.place _ _).length_eq,lh,kF,o]
  have L:(t.put (pr t.mask h m).j).1.fill=d.size+1:=by unfold ms;rw[l,x];rfl
  have I:(t.put (pr t.mask h m).j).1.mask=t.mask:=by rw[x]
  have g:(t.put (pr t.mask h m).j).1.led=t.led:=by rw[x]
  by_cases e:(t.put (pr t.mask h m).j).1.tooFull=B8
  .rw[e];simp only[Aj,gz,↓reduceIte];have u:=S.tab.room;rw[jM,f] at u
   have D:3*t.mask<=5*(d.size+1):=by unfold il at e;rw[L,I] at e;have:=of_decide_eq_true e;lia
   have m7:7<=t.mask:=by
    obtain⟨k,k3,_,V⟩:=S.tab.pow;have:2^3<=2^k:=DA (by decide) k3
    lia
   have K:(t.put (pr t.mask h m).j).1.fits (aB d (t.put (pr t.mask h m).j).2 (h,aX b)).size=B8:=by unfold mo;rw[l,v,L,I];simp only[BEq.rfl,dw,vo];lia
   rw[<-v];refine iF<|aet F K (by rw[v];lia) (by rw[v];lia) λh' es' N t' g1 g2 g3 W X Z=>?_;exact iP<|m5 Y h' es' N t' (C.trans g1) g2 (g3.trans<|qo d _ _) W (by rw[X];exact O) (by rw[Z];exact g)
  .have B:(t.put (pr t.mask h m).j).1.tooFull=B6:=by simpa using e
   rw[B];simp only[eC,jK,↓reduceIte]
   have M:5*(d.size+1)<3*t.mask:=by
    unfold il at e;rw[L,I] at e;have: ¬(d.size+1)*5>=t.mask*3:=λz=>e<|mJ z
    lia
   obtain⟨p1,p2⟩:=S.tab.put h1 T (by rw[jM,f];exact M) AU AU;refine iP<|m5 Y _ _ _ _ C F (qo d _ _) ?_ O g;rw[my,qg,jU,<-eV,<-u9] at*;rw[P];exact p1
end
end TT
namespace PX
open L2 PySem.SeqAt TS
def D.Kt: ∀l:List D,D.HG l=l.map D.hash:=by
 intro b
 induction b with
 |nil=>rw[D.HG];rfl
 |cons d l a=>rw[D.HG,a];rfl
def Ef: ∀{l:List D} {d:D},D.KS l=I->d∈l->D.pr d=I:=by
 intro c
 induction c with
 |nil=>intro d _ h;simp at h
 |cons e l b=>
  intro d a h;rw[D.KS,lA] at a;rcases kW.mp h with rfl|h
  .exact a.1
  .exact b a.2 h
def sA: ∀{l:List D} {d:D},d∈l->d.dep<=D.BZ l:=λ{l d} h=>by obtain⟨j,a⟩:=vp h;exact D.El a
section
variable {X:Cx}{c:ju}{f:L2.St}{H:Hp}{s:iJ}
def Il(X:Cx)(H:Hp)(O:BL)(d:List D)(a:jF):Prop:= ∃b,AF X.K H O d b/\Vals b a
def Il.cons(h:Il X H O (d::ds) (v::e)):(∃x,Rep X.K H O d x/\RelV x v)/\Il X H O ds e:=by
 obtain⟨k,r,vs⟩:=h;rw[AF] at r;obtain⟨x,j,rfl,g,i⟩:=r
 cases vs with
 |cons a b=>exact⟨⟨x,g,a⟩,j,i,b⟩
def Il.nil_of{O:BL}{a:List D}(h:Il X H O a []):a=[]:=by
 obtain⟨g,r,b⟩:=h;cases b
 cases a with
 |nil=>rfl
 |cons d a=>rw[AF] at r;obtain⟨_,_,e,_⟩:=r;cases e
def Il.cons_of(h:Il X H O a (v::e)): ∃d b,a=d::b:=by
 cases a with
 |nil=>obtain⟨i,r,g⟩:=h;rw[AF] at r;subst r;cases g
 |cons d a=>exact⟨d,a,rfl⟩
def VI: ∀(n:Nat) {s:iJ} (I:Inv X c f H s) (d:D) (v:V) (u:iN) (O:BL) (A:iY) (E:jt) (Q:Int->Shared->Prop),Rep X.K H O d v->RelV v u->D.pr d=B8->d.dep<=n->A.units+n<aS->(∀j,s.toks<=j->Q d.hash {s with toks:=j})->
  ah (ai X.prog X.w) A (pyHash u) Q E s:=by
 intro n
 induction n with
 |zero=>
  intro s I d v u O A E Q g L m hd R p
  cases d with
  |int i=>have:=g.int;subst this;obtain⟨t,rfl⟩:=L;have:=p (s.toks+1)<|DQ _;rw[D.hash] at this;exact Hk this
  |tup l=>rw[D.dep] at hd;lia
  |_=>simp[D.pr] at m
 |succ n ih=>
  intro s I d v u O A E Q g L m hd R p
  cases d with
  |int i=>have:=g.int;subst this;obtain⟨t,rfl⟩:=L;have:=p (s.toks+1)<|DQ _;rw[D.hash] at this;exact Hk this
  |tup l=>
   rw[D.pr] at m;rw[D.dep] at hd;obtain⟨a,xs,rfl,q,r⟩:=g.tup;cases L;obtain⟨Z,vs,⟨o,N,S,nn,Y⟩,_⟩:=I.tuple q.sq;have z:s.TypeIs (.ref a) "tuple":=⟨o,N,S⟩
   have W:A.units<cLine:=by lia
   unfold pyHash;unfold pyHashByItsType;refine iF<|wpAny_cRoomFor_or (.inr W) ?_;refine iF<|yk z Iy.lookup ?_;show ah _ _ (if(A7 (cA "tuple.__hash__")==A7 ap)=B8 then _ else _) Q E s;rw[jc<|by rw[beq_builtin_none];exact ki];refine iF<|yk z Iy.lookup ?_;show ah _ _ (callSpecialIfBoundUnlessNone? (.ref a) "__hash__" _>>=_) Q E s;refine iF<|wpAny_callSpecialIfBoundUnlessNone?_slot z Iy<|qM Iy z PySem.F.entry_tuple_hash ?_<|PySem.F.args_tuple_hash_1 _;show ah _ _ (cx (.ref a)>>=_) _ _ s;refine iF<|wpAny_tupleItemsOf N Y ?_;refine iF ?_;rw[<-Dv]
   refine yq _
    (λjA (b:Array Int) G=> ∃done left,l=done++left/\Il X H (λa=>O a) left jA/\b.toList=done.map D.hash/\ ∃j,s.toks<=j/\G={s with toks:=j})
    _ ?_ ?_ _ _ ⟨[],l,rfl,⟨xs,r,by simpa using vs⟩,rfl,s.toks,kc _,rfl⟩
   .rintro x jA b G ⟨done,left,rfl,C',B,j,T,rfl⟩;obtain⟨d,left,rfl⟩:=C'.cons_of;obtain⟨⟨y,h1,P⟩,J⟩:=C'.cons;have M:d∈done++d::left:=by simp
    have aW:=sA M;refine iF<|ih (I.kept (h':=s.heap) (t':=j) λ_ _ e=>e) d y x O A.in1 E _ h1 P (Ef m M) (by lia) (by show A.units+1+n<aS;lia) λU k=>?_
    first
     |exact iP ⟨done++[d],left,by simp,J,by simp[B],U,mT T k,rfl⟩
     |exact iF<|iP<|iP ⟨done++[d],left,by simp,J,by simp[B],U,mT T k,rfl⟩
   .rintro b G ⟨done,left,rfl,C',B,j,T,rfl⟩;have:=C'.nil_of;subst this;have h:=p (j+1)<|nF T;rw[D.hash,D.Kt,yD] at h;show ah _ _ (retInt<|aY b.toList) _ _ _;rw[B];refine wpAny_ret_mkInt ?_;show ah _ _ (if(decide (-(2:Int)^63<=aY (done.map D.hash))&&decide (aY (done.map D.hash)<2^63))=B8 then _ else _) Q E _;unfold reduceHash at h;by_cases g:(decide (-(2:Int)^63<=aY (done.map D.hash))&&decide (aY (done.map D.hash)<2^63))=B8
    .rw[iQ g];rw[iQ g] at h;exact iP h
    .rw[jc g];rw[jc g] at h;exact iF<|vt<|iP h
  |_=>simp[D.pr] at m
def Yq(I:Inv X c f H s): ∀(n:Nat) (d:D) (v:V) (u:iN) (O:BL) (A:iY) (E:jt) (Q:tE),Rep X.K H O d v->RelV v u->D.pr d=B8->d.dep<=n->Q B8 s->ah (ai X.prog X.w) A (c4 n u) Q E s:=by
 intro n
 induction n with
 |zero=>
  intro d v u O A E Q g j b hd e
  cases d with
  |int i=>have:=g.int;subst this;obtain⟨t,rfl⟩:=j;exact qJ (show c4 0 (.int i t)=pure B8 by simp[c4]) e
  |tup l=>rw[D.dep] at hd;lia
  |_=>simp[D.pr] at b
 |succ n U=>
  intro d v u O A E Q g j b hd e
  cases d with
  |int i=>have:=g.int;subst this;obtain⟨t,rfl⟩:=j;exact qJ (show c4 (n+1) (.int i t)=pure B8 by simp[c4]) e
  |tup l=>
   rw[D.pr] at b;rw[D.dep] at hd;obtain⟨a,F,rfl,q,r⟩:=g.tup;cases j;obtain⟨m,Y,⟨o,C,N,R,T⟩,_⟩:=I.tuple q.sq;have M:s.TypeIs (.ref a) "tuple":=⟨o,C,N⟩
   unfold c4;refine iF<|yk M Iy.lookup ?_;dsimp only;refine iF<|sN C T ?_;refine iF ?_;show ah _ _ (forIn m.toArray _ _) _ _ s;rw[<-Dv];refine yq _ (λjA L p=>L.1=AX/\p=s/\ ∃left,(∀d∈left,d∈l)/\Il X H O left jA) _ ?_ ?_ _ _ ⟨rfl,rfl,l,λd h=>h,F,r,by simpa using Y⟩
   .rintro x jA L p ⟨k,rfl,left,hm,B⟩;obtain⟨d,left,rfl⟩:=B.cons_of;obtain⟨⟨y,h1,G⟩,J⟩:=B.cons;have z:=hm d jY;have P:=sA z;refine iF<|U d y x O A E _ h1 G (Ef b z) (by lia) ?_;simp -iota only[pz,jK,jX];exact iP ⟨rfl,rfl,left,λd h=>hm d<|jZ _ h,J⟩
   .rintro⟨S,W⟩ p ⟨k,rfl,_⟩;simp only at k;subst k;exact iP e
  |_=>simp[D.pr] at b
def QV{P:ja}{W:iW}(I:Inv X c f H s): ∀(n:Nat) (d:D) (v:V) (u:iN) (O:BL) (A:iY) (E:jt) (Q:tE),Rep X.K H O d v->RelV v u->D.pr d=B8->d.dep<=n->Q B8 s->ah (ai P W) A (wS n u) Q E s:=by
 intro n
 induction n with
 |zero=>
  intro d v u O A E Q g j b hd e
  cases d with
  |int i=>have:=g.int;subst this;obtain⟨t,rfl⟩:=j;exact qJ (v9 0 AU) e
  |tup l=>rw[D.dep] at hd;omega
  |_=>simp[D.pr] at b
 |succ n N=>
  intro d v u O A E Q g j b hd e
  cases d with
  |int i=>have:=g.int;subst this;obtain⟨t,rfl⟩:=j;exact qJ (v9 (n+1) AU) e
  |tup l=>
   rw[D.pr] at b;rw[D.dep] at hd;obtain⟨a,Y,rfl,q,r⟩:=g.tup;cases j;obtain⟨m,U,⟨o,C,M,S,T⟩,_⟩:=I.tuple q.sq;have z:s.TypeIs (.ref a) "tuple":=⟨o,C,M⟩
   unfold wS;refine iF<|yk z PySem.F.slot_tuple_eq.lookup ?_;show ah _ _ (t7 (.ref a) (.type "tuple")>>=_) _ _ s;refine iF<|yv z isSubtype_tuple_tuple ?_;simp -iota only[pz,jK,jX];refine iF<|sN C T ?_;refine iF ?_;show ah _ _ (forIn m.toArray _ _) _ _ s;rw[<-Dv];refine yq _ (λjA L p=>L.1=AX/\p=s/\ ∃left,(∀d∈left,d∈l)/\Il X H O left jA) _ ?_ ?_ _ _ ⟨rfl,rfl,l,λd h=>h,Y,r,by simpa using U⟩
   .rintro x jA L p ⟨k,rfl,left,hm,B⟩;obtain⟨d,left,rfl⟩:=B.cons_of;obtain⟨⟨y,h1,G⟩,J⟩:=B.cons;have w:=hm d jY;have R:=sA w;refine iF<|N d y x O A E _ h1 G (Ef b w) (by omega) ?_;simp -iota only[pz,jK,jX];exact iP ⟨rfl,rfl,left,λd h=>hm d<|jZ _ h,J⟩
   .rintro⟨Z,r2⟩ p ⟨k,rfl,_⟩;simp only at k;subst k;exact iP e
  |_=>simp[D.pr] at b
def ac4{P:ja}{W:iW}(I:Inv X c f H s): ∀(n:Nat) (d:D) (v:V) (u:iN) (O:BL) (A:iY) (E:jt) (Q:tE),Rep X.K H O d v->RelV v u->D.pr d=B8->d.dep<=n->Q B6 s->ah (ai P W) A (bM n u) Q E s:=by
 intro n
 induction n with
 |zero=>
  intro d v u O A E Q g j b hd e
  cases d with
  |int i=>have:=g.int;subst this;obtain⟨t,rfl⟩:=j;exact qJ (show bM 0 (.int i t)=pure B6 by simp[bM]) e
  |tup l=>rw[D.dep] at hd;omega
  |_=>simp[D.pr] at b
 |succ n N=>
  intro d v u O A E Q g j b hd e
  cases d with
  |int i=>have:=g.int;subst this;obtain⟨t,rfl⟩:=j;exact qJ (show bM (n+1) (.int i t)=pure B6 by simp[bM]) e
  |tup l=>
   rw[D.pr] at b;rw[D.dep] at hd;obtain⟨a,Y,rfl,q,r⟩:=g.tup;cases j;obtain⟨m,U,⟨o,B,M,R,L⟩,_⟩:=I.tuple q.sq;have J:s.TypeIs (.ref a) "tuple":=⟨o,B,M⟩
   unfold bM;refine iF<|tH J ?_;dsimp only;rw[iQ<|by decide];refine iF<|iP ?_;simp -iota only[pz,jK,jX];refine iF<|sN B L ?_;dsimp only;refine iF ?_;show ah _ _ (forIn m.toArray _ _) _ _ s;rw[<-Dv];refine yq _ (λjA C p=>C.1=AX/\p=s/\ ∃left,(∀d∈left,d∈l)/\Il X H O left jA) _ ?_ ?_ _ _ ⟨rfl,rfl,l,λd h=>h,Y,r,by simpa using U⟩
   .rintro x jA C p ⟨k,rfl,left,hm,z⟩;obtain⟨d,left,rfl⟩:=z.cons_of;obtain⟨⟨y,h1,T⟩,G⟩:=z.cons;have w:=hm d jY;have F:=sA w;refine iF<|N d y x O A E _ h1 T (Ef b w) (by omega) ?_;simp -iota only[jK,jX];exact iP ⟨rfl,rfl,left,λd h=>hm d<|jZ _ h,G⟩
   .rintro⟨S,Z⟩ p ⟨k,rfl,_⟩;simp only at k;subst k;exact iP e
  |_=>simp[D.pr] at b
end
end PX
namespace TT
open PySem.SeqAt
def abk:o8 IP "set.__iter__"=J bz.«frozenset.__iter__»:=J4 (id':="frozenset.__iter__") (by kernel_rfl) H (by decide+kernel) (by kernel_rfl)
def oF:Slot "set_iterator" "__next__" "set_iterator.__next__":= .of (owner:="set_iterator") (n:="__next__") (by rw[GK,GJ];kernel_rfl) (by decide+kernel) (by decide+kernel) (by decide+kernel) (by first|exact .inl (by decide+kernel)|exact .inr<|by decide+kernel) (by rw[Du];kernel_rfl)
def xb:Slot "set_iterator" "__iter__" "set_iterator.__iter__":= .of (owner:="set_iterator") (n:="__iter__") (by rw[GK,GJ];kernel_rfl) (by decide+kernel) (by decide+kernel) (by decide+kernel) (by first|exact .inl (by decide+kernel)|exact .inr<|by decide+kernel) (by rw[Du];kernel_rfl)
def vQ:o8 IP "set_iterator.__next__"=J bz.«set_iterator.__next__»:=entryFor_of_fast (by kernel_rfl)
def abC:o8 IP "set_iterator.__iter__"=J bz.«dict_keyiterator.__iter__»:=J4 (id':="dict_keyiterator.__iter__") (by kernel_rfl) H (by decide+kernel) (by kernel_rfl)
def yf(a:iN):Ms "set_iterator.__next__" ⟨[a],[]⟩:=by unfold Ms;kernel_rfl
def abO(a:iN):Ms "set_iterator.__iter__" ⟨[a],[]⟩:=by unfold Ms;kernel_rfl
theorem tf{a:Type}: ∀(l:List a) {i:Nat} (h:i<A0 l),(l[i]::l.eraseIdx i).Perm l
 |x::l,0,_=>by simp
 |x::l,i+1,h=>by have:=tf l (i:=i) (by simpa using h);simp only[List.getElem_cons_succ,gO];exact(i5 x _ _).trans (i7 x this)
def abR{d:Type}(next:Nat->Nat): ∀(a k:Nat) (left:List d) (b:Array d),A0 left<=a->(pickOrder.go next a k left b).toList.Perm (b.toList++left):=by
 intro f
 induction f with
 |zero=>intro k left b h;have:left=[]:=SJ.mp (by lia);subst this;unfold pickOrder.go;simp
 |succ a e=>
  intro k left b h;unfold pickOrder.go
  cases left with
  |nil=>simp
  |cons y l=>have c:next k%(y::l).length<(y::l).length:=ym _ (by simp);rw[jx c];dsimp only;refine(e (k+1) _ _ (by rw[Dt,iQ c];simp at h ⊢;lia)).trans ?_;rw[e8,qj];refine L5 _ ?_;exact tf _ c
def aa6{b:Type}(next:Nat->Nat)(a:Array b):(gm next a).toList.Perm a.toList:=by unfold gm;have:=abR next a.size 0 a.toList #[] (by simp);simpa using this
noncomputable def oB(w:iW)(a:iE)(n:Nat)(b:uY):Array (Int×iN):=if w.params.followText "set-order"=I then gm (w.params.setOrder a n) b else b
def Gr(w:iW)(a:iE)(n:Nat)(b:uY):(oB w a n b).toList.Perm b.toList:=by
 unfold oB;split
 .exact aa6 _ _
 .exact wa _
def pG(w:iW)(a:iE)(n:Nat)(b:uY):(oB w a n b).size=b.size:=by rw[<-kF,(Gr w a n b).length_eq,kF]
noncomputable def IU(t:mQ):Nat->Nat
 |0=>0
 |i+1=>t.place.getD i 0+1
noncomputable def mO(w:iW)(t:mQ)(i:Nat):Nat:=if w.params.followText "set-order"=I then 0 else IU t i
structure ED(w:iW)(h:iX)(a:iE)(es:uY)(n:Nat)(t:mQ):Prop where
 at_:h.get? a=A7 (kR es n t)
 tab:D4 (es.toList.map (·.1)) t
 plain:t.plain=B8
 led:t.led=!w.params.followText "set-order"
def Em(w:iW)(h:iX)(c a:iE)(t:mQ)(b n i:Nat):Prop:= ∃o,h.get? c=J o/\o.cls= .type "set_iterator"/\o.data= .fields #[.int (mO w t i) 0,.int i 0,.ref a,.int b 0,.int n 0]
section
variable {prog:ja}{w:iW}{A:iY}{E:jt}{s:iJ}
def ED.fits{h a b n t}(S:ED w h a b n t):t.fits b.size=I:=JQ S.tab (by simp)
def acN(c:t.place.toList.Pairwise (· < ·))(j:i<=t.place.size):am t.place (IU t i)=i:=by
 cases i with
 |zero=>
  obtain⟨h1,a,_⟩:=qa c 0
  cases g:am t.place 0 with
  |zero=>exact g
  |succ k=>
   have h:0<t.place.size:=by lia
   have:=a 0 _ (by lia) (qh h)
   lia
 |succ i=>
  have hd:t.place.getD i 0=t.place[i]:=by simp[f9,show i<t.place.size by lia]
  show am t.place (t.place.getD i 0+1)=i+1;rw[hd];have e:t.place[i]?=J t.place[i]:=qh (by lia);obtain⟨h1,a,f⟩:=qa c<|t.place[i]+1;by_cases l:am t.place (t.place[i]+1)<i+1
  .have:=f i _ (by lia) e;lia
  .by_cases b:i+1<am t.place (t.place[i]+1)
   .have d:t.place[i+1]?=J t.place[i+1]:=qh (by lia);have:=a (i+1) _ b d;have:=Ee c (rH i) e d
    lia
   .lia
def AM{a:iE}{b:uY}{n:Nat}{t:mQ}(S:ED w s.heap a b n t){i:Nat}(q:i<=b.size){Q:Option (iN×Nat)->Shared->Prop}
  (h1: ∀e,(oB w a n b)[i]?=J e->Q (J (e.2,mO w t<|i+1)) s)(h:i=b.size->Q C s):ah (ai prog w) A (setNext a (mO w t i) i n) Q E s:=by
 have p:=S.tab.len;rw[jM,kF] at p;unfold setNext;refine iF<|vg S.at_ H S.fits ?_;dsimp only;unfold t0;refine iF<|iF<|yz<|iP ?_;by_cases c:w.params.followText "set-order"=I
 .have f:(ai prog w).w.params.followText "set-order"=I:=c;rw[iQ f,jc<|by simp];unfold setWalk t0;refine iF<|iF<|vg S.at_ H S.fits ?_;dsimp only;refine iF<|iF<|yz<|iP ?_;rw[iQ f];refine iF<|yz<|iP<|iP ?_;have g:oB w a n b=gm (w.params.setOrder a n) b:=by unfold oB;rw[iQ c]
  have d: ∀k,mO w t k=0:=λk=>by unfold mO;rw[iQ c]
  show Q (((gm (w.params.setOrder a n) b)[i]?).map λe=>(e.2,mO w t i)) s;rw[<-g];rw[d] at h1;rw[d]
  cases j:(oB w a n b)[i]? with
  |some e=>exact h1 e j
  |none=>have:=Wi.mp j;rw[pG] at this;exact h (by lia)
 .have f: ¬(ai prog w).w.params.followText "set-order"=I:=c;rw[jc f];change ah _ _ (if(!t.plain&&decide (b.size>1))=I then _ else _) _ _ _;rw[jc<|by rw[S.plain];simp];have m:t.led=I:=by rw[S.led];simpa using c
  refine iF ?_;change ah _ _ (if(!t.led&&!b.isEmpty)=I then _ else _) _ _ _;rw[jc<|by rw[m];simp];refine iP ?_;have g:oB w a n b=b:=by unfold oB;rw[jc c]
  have d: ∀k,mO w t k=IU t k:=λk=>by unfold mO;rw[jc c]
  have l:am t.place (mO w t i)=i:=by rw[d];exact acN S.tab.ris (by lia)
  rw[l];rw[g] at h1;by_cases o:i<b.size
  .have g1:b[i]?=J b[i]:=qh o;have g2:t.place[i]?=J t.place[i]:=qh (by lia);rw[g1,g2];have:=h1 b[i] g1;rw[d] at this;rw[show IU t (i+1)=t.place.getD i 0+1 from H] at this;have hd:t.place.getD i 0=t.place[i]:=by simp[f9,show i<t.place.size by lia]
   rw[hd] at this;exact iP this
  .rw[Dx<|by lia];exact iP<|h (by lia)
def ED.typeIs{a b n t}(S:ED w s.heap a b n t):s.TypeIs (.ref a) "set":=⟨_,S.at_,rfl⟩
def Em.typeIs{it a t z n i}(S:Em w s.heap it a t z n i):s.TypeIs (.ref it) "set_iterator":=let⟨o,c,b,_⟩:=S;⟨o,c,b⟩
def aeI(S:ED w s.heap a d n t) 
  (f: ∀c,Em w c s.heap.objs.size a t d.size n 0->(∀b o,s.heap.get? b=J o->c.get? b=J o)->c.objs.size=s.heap.objs.size+1->Q (.ref s.heap.objs.size) {s with heap:=c}):
  ah (ai prog w) A (dD<|.ref a) Q E s:=by
 refine GI S.typeIs L4<|qM L4 S.typeIs abk ?_<|PySem.F.args_set_iter_1 _;unfold bz.«frozenset.__iter__» pC o3;simp -iota only[dH,pz,jK,↓reduceIte,tP,vf,vz];unfold rc p0;refine iF<|iP ?_;dsimp only;refine iF<|iP ?_;refine iF<|iF<|GH S.at_ H S.fits<|iP ?_;unfold setDrawn t0;refine iF<|iF<|vg S.at_ H S.fits ?_;dsimp only;refine iF<|iF<|yz<|iP ?_;refine iP ?_;change ah _ _ (if(!w.params.followText "set-order"&&(!t.plain&&decide (d.size>1)))=I then _ else _) _ _ _;rw[jc<|by rw[S.plain];simp];refine iF<|iP ?_;unfold setEpoch;refine iF<|iF<|vg S.at_ H S.fits<|iP ?_;refine iF<|nr<|iP ⟨_,rfl,"set_iterator",_,⟨_,kh _ rfl,rfl⟩,oF.lookup,?_⟩;refine f _ ⟨_,kh _ rfl,rfl,?_⟩ (λb o e=>jT _ e) (qK _ _);have:mO w t 0=0:=by unfold mO;split<;>rfl
 rw[this];rfl
def abj{c a:iE}{b:uY}{n:Nat}{t:mQ}(S:ED w s.heap a b n t){i:Nat}(f:Em w s.heap c a t b.size n i)(x:c≠a){e:Int×iN}(j:(oB w a n b)[i]?=J e){Q:Iw}
  (p: ∀d,Em w d c a t b.size n (i+1)->aP c s.heap d->Q (J e.2) {s with heap:=d}):ah (ai prog w) A (b6<|.ref c) Q E s:=by
 obtain⟨o,g,q,hd⟩:=id f;have r:i<b.size:=by have:=(Lx.mp j).1;rw[pG] at this;exact this
 unfold b6;refine iF<|rE<|tQ (name:=bD "__next__") f.typeIs oF<|qM oF f.typeIs vQ ?_<|yf _;unfold bz.«set_iterator.__next__» o3;simp only[dH,pz,jK,↓reduceIte,tP,vf,vz];refine iF<|iP ?_;unfold fieldsOf;simp only[tP];refine iF<|yF g ?_;rw[hd];refine iF<|iP ?_;dsimp only;refine iF<|GH S.at_ H S.fits ?_;rw[jc<|by simp];have h1:((mO w t i:Nat):Int).toNat=mO w t i:=tJ _;have l:((i:Nat):Int).toNat=i:=tJ _;have m:((n:Nat):Int).toNat=n:=tJ _;rw[h1,l,m];refine iF (AM S (tU r) (λv h=>?_) λz=>by lia);rw[j] at h;cases h;dsimp only;refine iF<|wm g hd (by simp) ?_;have k:=sO (gD λu=>u.setIfInBounds 0<|cP<|mO w t<|i+1) g<|DK<|vn hd _;refine iF<|wm k (vn hd _) (by simp)<|iP ⟨_,rfl,iP<|p _ ?_ ((sM ..).trans (sM ..))⟩;refine⟨_,sO _ k (DK<|vn (vn hd _) _),?_,?_⟩
 .rw[DJ,DJ];exact q
 .rw[vn<|vn hd _];simp[cP]
def abX(k:A.handled=C)(S:ED w s.heap a c n t)(d:Em w s.heap it a t c.size n c.size)(q:it≠a) 
  (j: ∀e,fR it s.heap e->Q C {s with heap:=e}):ah (ai prog w) A (b6<|.ref it) Q E s:=by
 obtain⟨o,f,p,hd⟩:=id d;unfold b6;refine iF<|rE<|tQ (name:=bD "__next__") d.typeIs oF<|qM oF d.typeIs vQ ?_<|yf _;unfold bz.«set_iterator.__next__» o3;simp only[dH,pz,jK,↓reduceIte,tP,vf,vz];refine iF<|iP ?_;unfold fieldsOf;simp only[tP];refine iF<|yF f ?_;rw[hd];refine iF<|iP ?_;dsimp only;refine iF<|GH S.at_ H S.fits ?_;rw[jc<|by simp];have h1:((mO w t c.size:Nat):Int).toNat=mO w t c.size:=tJ _;have h:((c.size:Nat):Int).toNat=c.size:=tJ _;have i:((n:Nat):Int).toNat=n:=tJ _;rw[h1,h,i];refine iF<|AM S (kc _) (λl g=>?_) λ_=>?_
 .have:=(Lx.mp g).1;rw[pG] at this;omega
 dsimp only;refine iF<|wm f hd (by simp) ?_;show ah _ _ (l6 (.type "StopIteration") []>>=_) _ _ _;refine iF ?_;simp -iota only[l6,IX];refine iF<|nr ?_ (by size_fits);refine iF (m:=cF _ _)<|qJ (a:=ap) (by first|rfl|(simp -iota only[cF];rfl)) ?_;refine nr ?_ (by size_fits);simp -iota only[IR];refine iF<|G4 ?_;rw[show A.in1.handled=C from k];refine iF<|iP<|G3 ?_;refine iF<|yv (T:="StopIteration") (b:=I) ⟨_,kh _ rfl,rfl⟩ GZ ?_;exact iP<|j _ (((sM ..).extBut.push _).push _)
def acR(b:Em w s.heap it a t z n i)(c:Q (.ref it) s):ah (ai prog w) A (dD<|.ref it) Q E s:=by refine GI b.typeIs xb<|qM xb b.typeIs abC ?_<|abO _;unfold bz.«dict_keyiterator.__iter__» o3;simp -iota only[dH,pz,jK,↓reduceIte,tP,vf,vz];exact iF<|iP<|iP ⟨_,rfl,"set_iterator",_,b.typeIs,oF.lookup,c⟩
def ED.Ca{a b n t}(S:ED w h a b n t)(k: ∀o,h.get? a=J o->c.get? a=J o):ED w c a b n t:=⟨k _ S.at_,S.tab,S.plain,S.led⟩
def adn(q:A.handled=C)(U a:iE)(j:U≠a)(c:uY)(n:Nat)(t:mQ):
  Walks prog w A U [U,a] [U] c.size (λi v=> ∃e,(oB w a n c)[i]?=J e/\v=e.2) (λi h=>Em w h U a t c.size n i/\ED w h a c n t) where
 sub:=λb d=>by simp at d;simp[d]
 frame:=λ_ _ _ st hk=>⟨(by obtain⟨o,h1,p⟩:=st.1;exact⟨o,hk U (by simp) o h1,p⟩),st.2.Ca λo e=>hk a (by simp) o e⟩
 item:=λi s Q E r st f=>by
  have u:i<(oB w a n c).size:=by rw[pG];exact r
  have l:(oB w a n c)[i]?=J (oB w a n c)[i]:=qh u;refine abj st.2 st.1 j l λg x k=>?_;exact f _ g s.toks ⟨_,l,rfl⟩ ⟨x,st.2.Ca λo e=>k.extBut a o (λh=>j h.symm) e⟩ λb o d e=>k.extBut b o (λh=>d<|by simp[h]) e
 done:=λs Q E st f=>abX q st.2 st.1 j λg m=>f g s.toks λb o d e=>m b o (λh=>d<|by simp[h]) e
 self:=λ_ _ _ _ st f=>acR st.1 f
def Sk(hh:A.handled=AX)(S:ED w s.heap a d n t)(hn:d.size<=sizeLine) 
  (hQ: ∀i tk,(∀b o,s.heap.get? b=A7 o->i.get? b=A7 o)->Q ((oB w a n d).toList.map (·.2)) {s with heap:=i,toks:=tk}):ah (ai prog w) A (fZ<|.ref a) Q E s:=by
 have v:a<s.heap.objs.size:=jW S.at_;have r:a≠s.heap.objs.size:=jH v;have J:a≠s.heap.objs.size+1:=jH<|vq v;have y:s.heap.objs.size≠s.heap.objs.size+1:=jH<|rH _;unfold fZ;refine iF<|DL<|ou L0 ?_;rw[pB LZ _];show ah _ A.in1 (lS []>>=λl=>again<|.builtin "list.__iadd__" ⟨[l,.ref a],[]⟩) _ _ s;refine iF<|nr ?_;refine iP ⟨qi Ds _,ou LY ?_⟩;rw[pB Ds _];show ah _ A.in1 (bO (.ref s.heap.objs.size) (.ref a)<|.ref s.heap.objs.size) _ _ _;generalize z:({cls:= .type "list",data:= .seq ([]:List iN).toArray}:eE)=g;have p:ED w (s.heap.push g) a d n t:=S.Ca λo e=>jT _ e;unfold bO;refine iF<|tH (T:="set") (s:={s with heap:=s.heap.push g}) p.typeIs ?_;have h1:b3 (.ref s.heap.objs.size) (.ref a)=B6:=by simp only[b3,wR];exact r.symm
 have c:(bi "set"==bi "list")=B6:=by decide
 have R:(bi "set"==bi "tuple")=B6:=by decide
 simp -iota only[h1,c,R,vb,jK,jX];refine iF<|aeI (s:={s with heap:=s.heap.push g}) p λc u q z2=>?_;have x:(s.heap.push g).objs.size=s.heap.objs.size+1:=qK _ _;have h:ED w c a d n t:=p.Ca λo e=>q _ _ e;refine iF<|mn ?_;unfold eU;refine iF<|yk (T:="set") (s:={s with heap:=c}) h.typeIs PySem.F.slot_set_len.lookup ?_;generalize H:("set.__len__":String)=id0;dsimp only;rw[show T2 id0=A7 ("set","__len__") from by subst H;decide+kernel];dsimp only;refine iF<|yv (T:="set") (s:={s with heap:=c}) (b:=B8) h.typeIs (by rw[Du];kernel_rfl) ?_;simp -iota only[pz,jK,jX];change ah _ _ (if _=B8 then _ else _) _ _ _;rw[iQ<|by subst H;decide+kernel];refine iF<|tH (T:="set") (s:={s with heap:=c}) h.typeIs ?_;dsimp only;refine iP ?_;change ah _ _ (if _=B8 then _ else _) _ _ _;rw[iQ<|by decide+kernel];refine iF<|vt ?_;have C:c.get? s.heap.objs.size=A7 g:=q _ _ (kh _ (by subst z;rfl));subst z;refine iF ?_;show ah _ A.in1 (e9 s.heap.objs.size (·.push .none)>>=λ_=>e9 s.heap.objs.size (·.pop)) _ _ _;refine iF<|vW (s:={s with heap:=c}) C AU ?_;have B:=sO (aF (·.push ap)) C AU;refine vW B AU ?_;have V:=sO (aF (·.pop)) B AU
 have BU: ∀b o,b≠s.heap.objs.size->c.get? b=A7 o->((c.update s.heap.objs.size (aF (·.push ap))).update s.heap.objs.size (aF (·.pop))).get? b=A7 o:=
  λb o f e=>(vC _ _ (nL f)).trans<|(vC _ _ (nL f)).trans e
 have W:=(adn (prog:=prog) (w:=w) (A:=A.in1) (by show A.handled=AX;exact hh) (s.heap.objs.size+1) a J.symm d n t).toS;rw[x] at u;refine iP ⟨qi LX _,?_⟩;rw[x];refine LW W hn s.heap.objs.size (by simp -iota only[kW,mh,nq,pA];exact⟨y,r.symm⟩) _ d.size 0 _ _ _ rfl (lX _) ?_ V (ItemsOf.nil _) λL m c' k Z X=>?_
 .refine⟨?_,h.Ca λo e=>BU a o r e⟩;obtain⟨o,g1,g2⟩:=u;exact⟨o,BU _ o y.symm g1,g2⟩
 show ah _ A (load s.heap.objs.size>>=_) _ _ L;refine iF<|yF Z ?_;obtain⟨i,K,M,o6,G⟩:=L;have Y:K=s.gens:=k.gens;have U:M=s.drawn:=k.drawn;have D:G=s.os:=k.os;subst Y;subst U;subst D
 have N:m.toList=(oB w a n d).toList.map (·.2):=by
  obtain⟨a1,O⟩:=X;apply yy
  .rw[jM,kF,kF,a1,pG]
  .intro j g1 g2;have P:m[j]?=A7 m.toList[j]:=by rw[<-ml];exact jx g1
   obtain⟨e,I,hv⟩:=O j _ P;rw[hv];rw[jM,kF] at g2;rw[yx];rw[<-ml,jx<|by rw[kF];exact g2] at I;cases I;rfl
 refine iP ?_;show Q m.toList _;rw[N];refine hQ i o6 λb o e=>?_;have f:=jW e;exact k.heap b o (by simp -iota only[kW,mh,nq,pA];exact⟨jH f,jH<|vq f⟩)<|BU b o (jH f)<|q _ _ (jT _ e)
end
section
variable {a:ja}{w:iW}{A:iY}{R:hG->Shared->Prop}{I:iE}{d c:kB}{G:Array et->Array et->Prop}{n:Nat}{P:Nat->iN->Prop}{St:Nat->Shared->Prop}
def adZ(W:WalksS a w A.in1 I d c G n P St)(S:iE)(L:S∉d)(s0:iJ)(j:Nat->iX->Prop)(Ca: ∀i h g,j i h->(∀o,h.get? S=A7 o->g.get? S=A7 o)->j i g)
  (step: ∀i v (f:iJ) (Q:tE) (E:jt),i<n->P i v->j i f.heap->pw (S::c) G s0 f->(∀r g y,f.toks<=y->aP S f.heap g->j (i+1) g->Q r {f with heap:=g,toks:=y})->ah (ai a w) A.in1 (t5 S v) Q E f):
  ∀(k i:Nat) (s:iJ),n-i=k->i<=n->St i s->j i s.heap->pw (S::c) G s0 s->(∀f,pw (S::c) G s0 f->j n f.heap->R (.ok<|.ret .none) f)->
   bP (ai a w) A (.builtin "set.update.loop" ⟨[.ref S,.ref I],[]⟩) R s:=by
 have z:S∉c:=λh=>L<|W.sub _ h;have C: ∀b∈c,b∈S::c:=λb l=>jZ _ l;intro k
 induction k with
 |zero=>
  intro i s hk U x t p q;have T:i=n:=by lia
  subst T;refine ou LU ?_;rw[pB GG _];show ah _ A.in1 (b6 (.ref I)>>=_) _ _ s;refine iF<|W.done s _ _ x λf m=>?_;show ah _ A.in1 (ret ap) _ _ f;exact iP<|q f (Dr W.gtrans p<|m.mono C)<|Ca _ _ _ t λo e=>m.heap S o z e
 |succ k Y'=>
  intro i s hk U x t p q;have u:i<n:=by lia
  refine ou LU ?_;rw[pB GG _];show ah _ A.in1 (b6 (.ref I)>>=_) _ _ s;refine iF<|W.item i s _ _ u x λv f M J m=>?_;have B:=Dr W.gtrans p<|m.mono C;show ah _ A.in1 (bB [v] (t5 S v)>>=_) _ _ f;refine iF<|mn<|step i v f _ _ u M (Ca _ _ _ t λo e=>m.heap S o z e) B λr g y O H N=>?_;refine iP ⟨qi GG _,Y' (i+1) _ (by lia) u (W.frame _ f _ _ J O λb l o e=>?_) N (B.then_heap O λb o l e=>?_) q⟩
  .rw[H.2 b λh:b=S=>L<|by rw[<-h];exact l];exact e
  .rw[H.2 b λh:b=S=>l<|by rw[h];exact jY];exact e
end
section
variable {f:ja}{w:iW}{A:iY}{E:jt}{s:iJ}
def Rw(a:iN)(h:Q₁ (.ref s.heap.objs.size) {s with heap:=s.heap.push (kR #[] 0 (.fresh 0 0 (!w.params.followText "set-order")))}):
  bP (ai f w) A (.call (.builtin "set.__new__") ⟨[.type "set",a],[]⟩) (wants Q₁ E) s:=by
 refine Au ?_;show ah _ A.in1 (do gn "set.__new__" ⟨[.type "set",a],[]⟩;again (.builtin "set.__new__" ⟨[.type "set",a],[]⟩)) _ _ s;refine iF<|qJ (PySem.F.newCall_set_1 a)<|iP ⟨qi LQ _,ou PySem.F.entry_set_new ?_⟩;rw[pB LQ _];unfold bz.«set.__new__» qs;have c:=sub_set_self;obtain⟨b,g,d,e,os⟩:=s;dsimp only
 wp_walk
 refine yz<|iP ?_;dsimp only;simp only[newObj];refine iF<|wpAny_alloc<|iP ?_;exact iP h
noncomputable abbrev mf(w:iW):SetTable:= .fresh 0 0 (!w.params.followText "set-order")
def Wk{h:iX}{a:iE}(e:h.get? a=J (kR #[] 0 (mf w))):ED w h a #[] 0 (mf w):=⟨e,D4.fresh _ _ _,rfl,rfl⟩
set_option maxHeartbeats 8000000 in
def Wm{l:iE}{a:lI}{Q:jt}(hh:A.handled=AX)(p:s.heap.IsList l a\/s.heap.IsTuple l a)(m:Nat->iX->Prop)
  (Ca: ∀i h d,m i h->(∀o,h.get? s.heap.objs.size=A7 o->d.get? s.heap.objs.size=A7 o)->m i d)
  (nN: ∀d,d.get? s.heap.objs.size=A7 (kR #[] 0 (mf w))->m 0 d)
  (step: ∀i v (g:iJ) (B:iY) (Q:tE) (E:jt),B.units<=A.units+20->a[i]?=A7 v->m i g.heap->(∀b o,s.heap.get? b=A7 o->g.heap.get? b=A7 o)->g.gens=s.gens->g.drawn=s.drawn->g.os=s.os->
   (∀r d y,g.toks<=y->aP s.heap.objs.size g.heap d->m (i+1) d->Q r {g with heap:=d,toks:=y})->ah (ai f w) B (t5 s.heap.objs.size v) Q E g)
  (h: ∀(d:iX) (y:Nat),m a.size d->(∀b o,s.heap.get? b=A7 o->d.get? b=A7 o)->Q (.ref s.heap.objs.size) {s with heap:=d,toks:=y}):
  ah (ai f w) A (call (.type "set") [.ref l]) Q E s:=by
 obtain⟨c,tl,P⟩:=Mx.mro;have O:=Mx.made;have o9:=Mx.sub;refine Av<|Au ?_;show ah _ _ (callAny (.type "set") _) _ _ _;refine iP ⟨Code.quiet_builtin _ (by decide+kernel),ou PySem.F.entry_type_call ?_⟩;rw[Around.under_plain (weight_type_call_type "set" [.ref l] []) AU];have h1:=Mx.notType;have h2:=Mx.canCreate;have hct:=PySem.F.typeCall_set_1<|.ref l
 repeat (any_goals (first|assumption|wp_step))
 refine vE (Rw (.ref l) (E:=E) (Q₁:=λobj q=>obj= .ref s.heap.objs.size/\q={s with heap:=s.heap.push (kR #[] 0 (mf w))}) ⟨rfl,rfl⟩) λr q T=>?_
 cases r with
 |error e=>exact T
 |ok fl=>
  cases fl with
  |ret obj=>
   obtain⟨rfl,rfl⟩:=T;have K:(s.heap.push<|kR #[] 0 (mf w)).get? s.heap.objs.size=A7 (kR #[] 0 (mf w)):=kh _ rfl;have hT:eD {s with heap:=s.heap.push (kR #[] 0 (mf w))} (.ref s.heap.objs.size) "set":=⟨_,K,rfl⟩
   have hli:=Mx.init.lookup;have hbi:=Mx.init.bind<|.ref s.heap.objs.size
   repeat (any_goals (first|assumption|wp_step))
   refine vE (GF (R:=wants (λr t=>r= .none/\ ∃d y,t={s with heap:=d,toks:=y}/\m a.size d/\(∀b o,s.heap.get? b=A7 o->d.get? b=A7 o)) E) Mx.init.plain PySem.F.entry_set_init<|check_set_init_1 hT ?_) λC t H=>?_
   .obtain⟨c,hc,ol,U,Z,nl,M⟩: ∃c,(c="list"\/c="tuple")/\ ∃o,s.heap.get? l=A7 o/\o.cls= .type c/\ ∃n,o.data= .seq a n:=p.elim (λh=>⟨_,.inl AU,h⟩) (λh=>⟨_,.inr AU,h⟩)
    obtain⟨X,V,l4⟩:isSubtype (.type c) (.type "set")=pure B6/\isSubtype (.type c) (.type "frozenset")=pure B6/\(bi c==bi "dict")=B6:=by
     rcases hc with rfl|rfl
     .exact⟨PySem.F.sub_list_set,PySem.F.sub_list_frozenset,by decide⟩
     .exact⟨PySem.F.sub_tuple_set,PySem.F.sub_tuple_frozenset,by decide⟩
    obtain⟨ocls,x,J,k⟩:=ol;simp only at Z M;subst Z;subst M;have S:(s.heap.push<|kR #[] 0 (mf w)).get? l=A7 {cls:= .type c,dict:=x,data:= .seq a nl,slots:=k}:=jT _ U;have D:l<s.heap.objs.size:=jW U;have Y:A.in1.in1.in1.handled=AX:=by simp[hh]
    have sz:(s.heap.push<|kR #[] 0 (mf w)).objs.size=s.heap.objs.size+1:=qK _ _;have N:l≠(s.heap.push<|kR #[] 0 (mf w)).objs.size:=by rw[sz];exact jH<|vq D
    have u6:s.heap.objs.size∉[(s.heap.push<|kR #[] 0 (mf w)).objs.size,l]:=by rw[sz];simp only[kW,mh,nq,pA];exact⟨jH<|rH _,pD D⟩
    obtain⟨St,W,o0,h0,I⟩: ∃St,Walks f w A.in1.in1.in1 (s.heap.push<|kR #[] 0 (mf w)).objs.size [(s.heap.push<|kR #[] 0 (mf w)).objs.size,l] [(s.heap.push<|kR #[] 0 (mf w)).objs.size] a.size (λi v=>a[i]?=A7 v) St/\ ∃o0,St 0 ((s.heap.push<|kR #[] 0 (mf w)).push o0)/\
      ∀{A':iY} {Q:jt} {E},Q (.ref (s.heap.push<|kR #[] 0 (mf w)).objs.size) {s with heap:=(s.heap.push<|kR #[] 0 (mf w)).push o0}->ah (ai f w) A' (dD<|.ref l) Q E {s with heap:=s.heap.push (kR #[] 0 (mf w))}:=by
     rcases p with p|p
     .exact⟨_,DM Y _ l N a,_,⟨⟨_,kh _ rfl,rfl,rfl⟩,(p.push _).push _⟩,λh=>yE (p.push _) h⟩
     .exact⟨_,Walks.tuple Y _ l N a,_,⟨⟨_,kh _ rfl,rfl,rfl⟩,(p.push _).push _⟩,λh=>Hh (p.push _) h⟩
    unfold bz.«set.__init__» noKeywords px;generalize L:dD=PI
    wp_walk
    subst L;refine I ?_;refine iF<|DL ?_;refine adZ W.toS s.heap.objs.size u6 _ m Ca (λi v g Q' E' hi hP hJ j hk=>?_) (a.size-0) 0 _ (by lia) (lX _) h0 (nN _ (jT _ K)) (w6 λ_=>rfl) ?hR
    .refine step i v g _ Q' E' ?_ hP hJ (λb o e=>?_) j.gens j.drawn j.os hk
     .show A.units+1+1+1<=A.units+20;lia
     .have z:=jW e;exact j.heap b o (by rw[sz];simp only[kW,mh,nq,pA];exact⟨jH z,jH<|vq z⟩)<|jT _ (jT _ e)
    case hR=>intro g j G;obtain⟨d,g',d',o6,bI⟩:=g;have eg:g'=s.gens:=j.gens;have ed:d'=s.drawn:=j.drawn;have eo:bI=s.os:=j.os;subst eg;subst ed;subst eo;show ah _ _ _ _ _ _;refine iP ?_;show ah _ _ (ret ap) _ _ _;refine iP ⟨rfl,d,o6,rfl,G,λb o e=>?_⟩;have z:=jW e;exact j.heap b o (by rw[sz];simp only[kW,mh,nq,pA];exact⟨jH z,jH<|vq z⟩)<|jT _ (jT _ e)
   .cases C with
    |error e=>exact H
    |ok u=>
     cases u with
     |ret r=>
      obtain⟨rfl,d,y,rfl,G,ef⟩:=H
      repeat (any_goals (first|assumption|wp_step))
      exact h _ _ G ef
     |_=>exact H.elim
  |_=>exact T.elim
end
end TT
namespace PX
open L2 PySem.SeqAt TS
def Gn:D->Bool
 | .tup l=>D.KS l&&decide (D.BZ l<=6)
 |_=>Y
def sd(h:Gn d=I): ∃l,d= .tup l:=by cases d<;>first|exact⟨_,rfl⟩|(simp[Gn] at h)
def wJ(h:Gn d=I):D.pr d=I:=by obtain⟨l,rfl⟩:=sd h;simp only[Gn,lA] at h;rw[D.pr];exact h.1
def uR(h:Gn d=I):d.dep<=7:=by obtain⟨l,rfl⟩:=sd h;simp -iota only[Gn,lA,vo] at h;rw[D.dep];lia
def acF(h1:D.pr x=I)(a:D.pr y=I):D.BY x y=I↔x=y:=by
 rw[Ic x y h1 a];constructor
 .intro h;exact ye x y h1 a (by simpa using h)
 .rintro rfl;rw[J2];rfl
def uA(a:List D)(d:D):List D:=if a.any (D.BY · d)=I then a else a++[d]
def qG(l:List D):List D:=l.foldl uA []
def Sx(h1:b.all Gn=I)(a:Gn d=I):(uA b d).all Gn=I:=by
 unfold uA;split
 .exact h1
 .rw[List.all_append,h1];simp[a]
def afb(a:List D)(d:D):(uA a d).length<=A0 a+1:=by unfold uA;split<;>simp
def mU{d i:Type}(f:d->i){g m:List i}(h:g.Perm m): ∀l:List d,m=l.map f-> ∃c:List d,c.Perm l/\g=c.map f:=by
 induction h with
 |nil=>
  intro l e;have:l=[]:=by simpa using e.symm
  subst this;exact⟨[],.refl _,rfl⟩
 |cons x _ n=>
  intro l e
  cases l with
  |nil=>simp at e
  |cons y l=>simp -iota only[jU,dh] at e;obtain⟨c,p,q⟩:=n l e.2;exact⟨y::c,p.cons y,by rw[q,e.1];rfl⟩
 |swap x y w=>
  intro l e
  cases l with
  |nil=>simp at e
  |cons a l=>
   cases l with
   |nil=>simp at e
   |cons b l=>simp -iota only[jU,dh] at e;exact⟨b::a::l,.swap a b l,by rw[e.1,e.2.1,e.2.2];rfl⟩
 |trans _ _ k j=>intro l e;obtain⟨o,s,u⟩:=j l e;obtain⟨r,t,v⟩:=k o u;exact⟨r,t.trans s,v⟩
def zj{b d:Type}{F:b->d->Prop}{c m:List d}(h:c.Perm m): ∀{z:List b},Paired F z m-> ∃a:List b,Paired F a c/\a.Perm z:=by
 induction h with
 |nil=>intro z p;exact⟨z,p,.refl _⟩
 |cons x _ i=>
  intro z p
  cases p with
  |cons r t=>obtain⟨a,h1,g⟩:=i t;exact⟨_::a,.cons r h1,g.cons _⟩
 |swap x y s=>
  intro z p
  cases p with
  |cons r t=>
   cases t with
   |cons o t=>exact⟨_,.cons o<|.cons r t,.swap _ _ _⟩
 |trans _ _ f e=>intro z p;obtain⟨u,j,l⟩:=e p;obtain⟨q,k,n⟩:=f j;exact⟨q,k,n.trans l⟩
def AF.zip{K U}{O:BL}: ∀{l:List D} {b:List V},AF K U O l b-> ∀p∈l.zip b,Rep K U O p.1 p.2:=by
 intro f
 induction f with
 |nil=>intro b h p a;simp at a
 |cons d l e=>
  intro b h p a;rw[AF] at h;obtain⟨v,r,rfl,h1,c⟩:=h;rw[vh] at a;rcases kW.mp a with rfl|a
  .exact h1
  .exact e c p a
def AF.M9{K U}{O:BL}: ∀{l:List (D×V)},(∀p∈l,Rep K U O p.1 p.2)->AF K U O (l.map (·.1)) (l.map (·.2)):=by
 intro c
 induction c with
 |nil=>intro _;exact AF.nil
 |cons p l b=>intro h;exact AF.cons (h p jY)<|b λq a=>h q<|jZ _ a
abbrev hv(p:D×V):Int×V:=(D.hash p.1,p.2)
theorem Ay: ∀(b:List D) (a:List V),(D.HG b).zip a=(b.zip a).map hv
 |[],a=>by simp[D.HG]
 |d::b,[]=>by simp
 |d::b,u::a=>by rw[D.HG,vh,vh,jU,Ay b a]
section
variable {X:Cx}{pins:ju}{σ:L2.St}{H:Hp}{s:iJ}
structure FP(X:Cx)(H:Hp)(O:BL)(h:iX)(a:iE)(vs:List D)(es:uY)(n:Nat)(t:mQ)(l:List (D×V)):Prop where
 is:TT.ED X.w h a es n t
 perm:(l.map (·.1)).Perm vs
 rep: ∀p∈l,Rep X.K H O p.1 p.2
 par:Paired (λ(z:Int×V) (e:Int×iN)=>z.1=e.1/\RelV z.2 e.2) (l.map hv) es.toList
def FP.Ca{a c b n t l}(S:FP X H O h a c b n t l)(k: ∀o,h.get? a=J o->d.get? a=J o):FP X H O d a c b n t l:=⟨S.is.Ca k,S.perm,S.rep,S.par⟩
def aci{d c:Type}{F:d->c->Prop}{l:List d}{m:List c}(h:Paired F l m): ∀{i:Nat} {b:c},m[i]?=J b-> ∃a,l[i]?=J a/\F a b:=by
 induction h with
 |nil=>intro i b h;simp at h
 |cons r t f=>
  intro i b h
  cases i with
  |zero=>simp at h;subst h;exact⟨_,rfl,r⟩
  |succ i=>obtain⟨a,h1,e⟩:=f (i:=i) (b:=b) (by simpa using h);exact⟨a,by simpa using h1,e⟩
def ach{a b:Type}{F:a->b->Prop}: ∀{l:List a} {m:List b},Paired F l m->A0 l=(A0 m):=tV
def AV{l:List (Int×V)}{m:List (Int×iN)}(h:Paired (λ(z:Int×V) (e:Int×iN)=>z.1=e.1/\RelV z.2 e.2) l m):l.map (·.1)=m.map (·.1):=by
 induction h with
 |nil=>rfl
 |cons r t a=>rw[jU,jU,r.1,a]
def FP.srch(I:Inv X pins σ H s){O U:BL}{a:iE}{vs:List D}{G n t l}(S:FP X H O s.heap a vs G n t l)(hok:vs.all Gn=B8){d:D}{v:V}{u:iN}(hd:kg X.K H U d v)(ru:RelV v u)(N:Gn d=B8){A:iY}(hA:A.units+60<aS):
  ∃b,u= .ref b/\TT.Ll A s a G n t u d.hash (λi=>match l[i]? with|some p=>D.BY p.1 d|none=>B6):=by
 obtain⟨ld,rfl⟩:=sd N;obtain⟨b,xs,rfl,q,r⟩:=lq hd;cases ru;have hdp:=uR N;have gC:=wJ N;have h: ∀p∈l,Gn p.1=B8:=λp J=>lY.mp hok _ (S.perm.mem_iff.mp<|tL J)
 have at_: ∀(i:Nat) (e:Int×iN),G[i]?=A7 e-> ∃p,l[i]?=A7 p/\p∈l/\D.hash p.1=e.1/\RelV p.2 e.2:=λi e m=>by
  obtain⟨z,h1,f,C⟩:=aci S.par (i:=i) (b:=e) (by rw[ml];exact m);rw[kZ] at h1
  cases Z:l[i]? with
  |none=>rw[Z] at h1;cases h1
  |some p=>rw[Z] at h1;cases h1;exact⟨p,rfl,mS Z,f,C⟩
 have M: ∀(e:D) (y:V) (T:iN) (x:BL) (B:iY) (P:ja) (W:iW) (Q:tE) (E:jt),Gn e=B8->kg X.K H x e y->RelV y T->Q B8 s->ah (ai P W) B (wS 8 T) Q E s:=λe y T x B P W Q E L hv hr o=>by
  obtain⟨le,rfl⟩:=sd L;rcases hv with hv|⟨_,_,hv⟩
  .exact QV I 8 _ _ _ x B E Q hv hr (wJ L) (by have:=uR L;lia) o
  .exact hv.elim
 have k8: ∀(e:D) (y:V) (T:iN) (x:BL) (B:iY) (P:ja) (W:iW) (Q:tE) (E:jt),Gn e=B8->kg X.K H x e y->RelV y T->Q B6 s->ah (ai P W) B (bM 8 T) Q E s:=λe y T x B P W Q E L hv hr o=>by
  obtain⟨le,rfl⟩:=sd L;rcases hv with hv|⟨_,_,hv⟩
  .exact ac4 I 8 _ _ _ x B E Q hv hr (wJ L) (by have:=uR L;lia) o
  .exact hv.elim
 refine⟨b,rfl,⟨_,S.is.at_,rfl⟩,S.is.tab,λi e m=>?_,λi e m=>?_,λi e m o=>?_,λls g w E Q hls o=>?_⟩
 .obtain⟨p,h1,f,C,j⟩:=at_ i e m;obtain⟨lp,J⟩:=sd<|h p f;have:=S.rep p f;rw[J] at this;obtain⟨c,xs,F,_⟩:=this.tup;rw[F] at j;exact⟨c,j⟩
 .obtain⟨p,h1,f,C,j⟩:=at_ i e m;rw[h1];have:=uR<|h p f;exact Bz I 50 p.1 (.tup ld) p.2 (.ref b) _ _ O U A (.inl<|S.rep p f) hd j rfl (by lia) (by lia) (by lia)
 .obtain⟨p,h1,f,C,j⟩:=at_ i e m;rw[h1] at o;rw[(acF (wJ<|h p f) gC).mp o] at C;exact C.symm
 .unfold v7;refine iF ?_;refine yq _ (λjA rr s'=>rr.1=AX/\s'=s/\ ∀v∈jA,∃e∈G.toList,e.2=v) _ ?_ ?_ _ _ ⟨rfl,rfl,hls⟩
  .rintro y jA rr s' ⟨R,rfl,hm⟩;have k: ∀v∈jA,∃e∈G.toList,e.2=v:=λv hv=>hm v<|jZ _ hv;obtain⟨e,m,rfl⟩:=hm y jY;obtain⟨i,hi⟩:=vp m;rw[ml] at hi;obtain⟨p,h1,f,C,j⟩:=at_ i e hi;obtain⟨lp,J⟩:=sd<|h p f;have Y:=S.rep p f
   obtain⟨c,ec⟩: ∃c,e.2= .ref c:=by rw[J] at Y;obtain⟨c,xs,F,_⟩:=Y.tup;rw[F] at j;exact⟨c,j⟩
   rw[ec] at j ⊢;dsimp only;split
   .exact iP ⟨rfl,rfl,k⟩
   .refine iF (M _ _ _ U A g w _ _ N hd rfl ?_);simp -iota only[pz,jK,jX];refine iF<|M _ _ _ O A g w _ _ (h p f) (.inl Y) j ?_;simp -iota only[pz,jK,jX];refine iF<|k8 _ _ _ U A g w _ _ N hd rfl ?_;simp -iota only[jK,jX];refine iF<|k8 _ _ _ O A g w _ _ (h p f) (.inl Y) j ?_;simp -iota only[jK,jX];exact iP ⟨rfl,rfl,k⟩
  .rintro⟨r1,r2⟩ s' ⟨R,rfl,_⟩;simp only at R;subst R;exact iP o
def Ey.setV(U:Inv X pins σ H s)(h:Ey X.K (H a) .set o f us)(r:AF X.K H O f us): ∃b n t l,FP X H O s.heap a f b n t l:=by
 obtain⟨_,m,e,p⟩:=h;obtain⟨b,n,t,h1,c,g,i,j⟩:=(show B9 X.prog X.w H s.heap a (.BH m) from U.hok a _ e)
 rw[Ay] at p;obtain⟨l,d,rfl⟩:=mU hv p _ rfl;refine⟨b,n,t,l,⟨h1,by rw[<-AV c];exact g,i,j⟩,?_,λq k=>r.zip q<|d.mem_iff.mp k,c⟩;have:=d.map (·.1);rw[n7<|by rw[r.length];exact kc _] at this;exact this
def FP.O9{b n t l}(S:FP X H O h a d b n t l):B9 X.prog X.w c h a (.BH<|l.map hv):=
 ⟨b,n,t,S.is.at_,S.par,by rw[AV S.par];exact S.is.tab,S.is.plain,S.is.led⟩
def FP.OH{b n t l}(S:FP X H O h a c b n t l):b.size=A0 c/\(A0 l)=(A0 c):=by
 have h1:=ach S.par;have d:=S.perm.length_eq;simp only[jM,kF] at h1 d
 lia
def FP.BU{O:BL}{h:iX}{a:iE}{vs:List D}{g n t l}(S:FP X H O h a vs g n t l){K c}{f:BL}(k: ∀p∈l,Rep K c f p.1 p.2)(i:c a=J (.BH<|l.map hv)): ∃us,Ey K (c a) .set [] vs us/\AF K c f vs us:=by
 obtain⟨b,d,e⟩:=mU (·.1) S.perm.symm l AU;refine⟨b.map (·.2),⟨rfl,l.map hv,i,?_⟩,?_⟩
 .rw[e,Ay]
  have:(b.map (·.1)).zip (b.map (·.2))=b:=by
   clear d e
   induction b with
   |nil=>rfl
   |cons x l m=>rw[jU,jU,vh,m]
  rw[this];exact(d.map hv).symm
 .rw[e];exact AF.M9 λp j=>k p<|d.mem_iff.mp j
def FP.add(I:Inv X pins σ H s){y n t l}(S:FP X H O s.heap a c y n t l)(L:c.all Gn=B8)(hd:kg X.K H O' d v)(N:Rep X.K H O d v)(q:RelV v u)(o:Gn d=B8)(hz:(A0 c)<500)
  (hA:A.units+60<aS) 
  (h: ∀r h' f g J' t' T,s.toks<=f->aP a s.heap h'->FP X H O h' a (uA c d) g J' t' T->Q r {s with heap:=h',toks:=f}):ah (ai X.prog X.w) A (t5 a u) Q E s:=by
 obtain⟨br,v8⟩:=S.OH;unfold t5;refine mn<|iF<|VI 50 I d v u O A E _ N q (wJ o) (by have:=uR o;lia) (by lia) λf F=>?_;have U:Inv X pins σ H {s with toks:=f}:=I.kept (h':=s.heap) (t':=f) λ_ _ e=>e;obtain⟨b,rfl,R⟩:=FP.srch (s:={s with toks:=f}) U S L hd q o hA;have G: ∀p∈l,p.1∈c:=λp j=>S.perm.mem_iff.mp<|tL j;refine TT.Y8 R S.is.at_ S.is.plain (by lia) (λP k=>Yq U 8 d v _ O A E P N q (wJ o) (by have:=uR o;lia) k) (λ⟨i,B,k⟩=>?_) λcf h' g J' t' g1 g2 g3 g4 g5 g6=>?_
 .have:uA c d=c:=by
   unfold uA
   cases C:l[i]? with
   |none=>rw[C] at k;cases k
   |some p=>rw[C] at k;rw[iQ<|List.any_eq_true.mpr ⟨p.1,G p<|mS C,k⟩]
  exact h B6 s.heap f y n t l F (DO a s.heap) (by rw[this];exact S)
 .have W:c.any (D.BY · d)=B6:=by rw[List.any_eq_false];intro x hx;have Z:=S.perm.mem_iff.mpr hx;obtain⟨p,j,rfl⟩:=mw.mp Z;obtain⟨i,B⟩:=vp j;have:=cf i (by have:=(uD.mp B).1;lia);rw[B] at this;simpa using this
  have m:uA c d=c++[d]:=by unfold uA;rw[W,jc ki]
  have M:Paired (λ(z:Int×V) (e:Int×iN)=>z.1=e.1/\RelV z.2 e.2) (((d,v)::l).map hv) ((d.hash,aX b)::y.toList):= .cons ⟨rfl,q⟩ S.par;obtain⟨z',p1,p2⟩:=zj g3 M;obtain⟨T,Y,rfl⟩:=mU hv p2 _ rfl;refine h B8 h' f g J' t' T F g1 ⟨⟨g2,g4,g5,g6.trans S.is.led⟩,?_,λp j=>?_,p1⟩
  .rw[m];refine(Y.map (·.1)).trans ?_;rw[jU];exact(S.perm.cons d).trans (L7 d c).symm
  .rcases kW.mp (Y.mem_iff.mp j) with rfl|j
   .exact N
   .exact S.rep p j
def RW:D->Option (D×Bool)
 | .lst l| .tup l=>if l.all Gn=I/\(A0 l)<500 then J (.BU .set []<|qG l,I) else C
 |_=>C
def acG{l:List D}{i:Nat}{d:D}(h:l[i]?=J d):qG (l.take<|i+1)=uA (qG<|l.take i) d:=by unfold qG;rw[DE,h,G5];rfl
def afk: ∀(l a:List D),l.all Gn=I->a.all Gn=I->(l.foldl uA a).all Gn=I:=by
 intro e
 induction e with
 |nil=>intro a _ h;exact h
 |cons d l c=>intro a h1 b;rw[tN,lA] at h1;exact c _ h1.2 (Sx b h1.1)
def adE: ∀(l a:List D),(l.foldl uA a).length<=A0 a+(A0 l):=by
 intro c
 induction c with
 |nil=>intro a;simp
 |cons d l b=>intro a;have:=b<|uA a d;have:=afb a d;simp only[vA,lh];lia
def ae8{l:List D}(h:l.all Gn=I)(i:Nat):(l.take i).all Gn=I:=by rw[lY] at h ⊢;exact λx a=>h x<|we a
def adI(hc:X.calm=B8)(hu:X.A.units+90<aS):kG X (.type "set") (Ib X.K<|g1 RW):=nI λpins s σ H x u Q O d z I ru np hd f G=>by
 obtain⟨l,p,c,a,rfl,r,v,E,f⟩: ∃l p c a,x= .ref p/\AF X.K H O l c/\Vals c a/\(s.heap.IsList p a.toArray\/s.heap.IsTuple p a.toArray)/\(if l.all Gn=B8/\l.length<500 then A7 (D.BU .set []<|qG l,B8) else AX)=A7 z:=by
  cases d with
  |lst l=>obtain⟨p,c,rfl,q,r⟩:=ke hd;obtain⟨a,v,E,_⟩:=I.list q;exact⟨l,p,c,a,rfl,r,v,.inl E.isList,f⟩
  |tup l=>obtain⟨p,c,rfl,q,r⟩:=lq hd;obtain⟨a,v,E,_⟩:=I.tuple q;exact⟨l,p,c,a,rfl,r,v,.inr E,f⟩
  |_=>cases f
 obtain⟨⟨C,hz⟩,rfl⟩:=jf f;cases ru;have e1:=r.length;have e2:=v.length;have hh:X.A.handled=AX:=I.ok.hd hc;have L:=I.fresh
 refine TT.Wm hh E (λi h=> ∃j n t g,FP X H O h s.heap.objs.size (qG<|l.take i) j n t g) (λi h h' ⟨j,n,t,g,S⟩ k=>⟨j,n,t,g,S.Ca k⟩)
  (λh' e=>⟨#[],0,_,[],⟨TT.Wk e,by simp[qG],λp M=>by simp at M,.nil⟩⟩) (λi w s' B Q' E' hB W J hk f y P m=>?_) (λh' tk J hk=>?_)
 .obtain⟨j,n,t,g,S⟩:=J
  have hil:i<a.length:=by have:=(Lx.mp W).1;simpa using this
  have hw:a[i]?=A7 w:=by simpa using W
  have R:c[i]?=A7 c[i]:=jx (by lia);have V:l[i]?=A7 l[i]:=jx (by lia);obtain⟨w',Z,w2⟩:=v.get R;rw[hw] at Z;cases Z;have F:Rep X.K H O l[i] c[i]:=r.views V R;have y9:Gn l[i]=B8:=lY.mp C _ (GD _);obtain⟨h1,g1,dr1,eL,os1⟩:=s';dsimp only at hk f y P m S;subst f;subst y;subst P;have I':Inv X pins σ H {s with heap:=h1,toks:=eL}:=I.kept hk;refine FP.add I' S (afk _ _ (ae8 C i) rfl) (.inl F) F w2 y9 ?_ (by lia) λrr h2 fW T n' t' U a1 a2 Y=>?_
  .have:=adE (l.take i) [];rw[qP] at this;unfold qG;simp only[vf] at this
   lia
  .rw[<-acG V] at Y;exact m rr h2 fW a1 a2 ⟨T,n',t',U,Y⟩
 .obtain⟨j,n,t,g,S⟩:=J;have N:a.toArray.size=l.length:=by simp;lia
  rw[N,GC] at S;refine⟨.ref s.heap.objs.size,upd H s.heap.objs.size<|.BH<|g.map hv,I.laid hk (kc _) S.O9,rfl,?_⟩;refine G s.heap.objs.size _ L (lQ L) ?_;exact S.BU (λp M=>Rep.mono (λb o e _=>lQ L b o e) (λb hb z=>z.elim id λz=>absurd (z▸L) hb)<|S.rep p M) jl
end
def adR(a:l.Perm m)(b: ∀x∈l,D.pr x=I):mK EO l=mK EO m:=KG (λx c=>b x<|a.mem_iff.mpr c) ((kH EO l).trans a)<|ph l
def adm{k:Nat}{l:List D}(h:Hv k l):nR l=I:=by
 unfold nR;rw[yo];right
 cases l with
 |nil=>rfl
 |cons x m=>simp only[lA,lY,vo];refine⟨⟨by rw[h.hd x jY];rfl,λy a=>⟨⟨?_,h.pr y a⟩,h.dp y a⟩⟩,λy a z b=>h.cm y a z b⟩;rw[h.hd x jY,h.hd y a];simp
def aca(b:l.Perm m)(h:nR m=I):nR l=I:=by
 rcases Cv h with c|⟨k,B⟩
 .unfold nR;rw[yo];left;rw[b.length_eq];simpa using c
 .exact adm (k:=k) ⟨λx a=>B.hd x<|b.mem_iff.mp a,λx a=>B.pr x<|b.mem_iff.mp a,λx a=>B.dp x<|b.mem_iff.mp a,λx a y d=>B.cm x (b.mem_iff.mp a) y<|b.mem_iff.mp d⟩
def rm(d:D):Option (D×Bool):=match d with
 | .BU .set [] a=>if a.all Gn=I then kN a else C
 |_=>lR d
section
variable {X:Cx}
def abM(hc:X.calm=B8)(L:X.A.units+62<aS):kG X (.builtin "sorted") (Ib X.K<|g1 rm):=nI λg s σ H x u Q O d z I M np hd C G=>by
 by_cases E: ∃h,d= .BU .set [] h
 .obtain⟨h,rfl⟩:=E;have e:(if h.all Gn=B8 then kN h else AX)=A7 z:=C;split at e
  .rename_i y;obtain⟨a,us,rfl,q,r⟩:=pH hd;cases M;obtain⟨i,n,t,l,S⟩:=q.setV I r;obtain⟨N,v8⟩:=S.OH;have wp:=TT.Gr X.w a n i;obtain⟨z',o,T⟩:=zj wp S.par;obtain⟨c,B,rfl⟩:=mU hv T _ rfl;have J:AF X.K H O (c.map (·.1)) (c.map (·.2)):=AF.M9 λp V=>S.rep p (B.mem_iff.mp V)
   have vv:Vals (c.map (·.2)) ((TT.oB X.w a n i).toList.map (·.2)):=by
    clear T B J wp;generalize (TT.oB X.w a n i).toList=m at o;revert o;generalize f:c.map hv=zz;intro o
    induction o generalizing c with
    |nil=>
      have:c=[]:=by simpa using f
      subst this;exact .nil
    |cons r t ih=>
     cases c with
     |nil=>simp at f
     |cons p c=>simp only[jU,dh] at f;rw[jU,jU];refine .cons ?_<|ih c f.2;have:=r.2;rw[<-f.1] at this;exact this
   have v:(c.map (·.1)).Perm h:=(B.map (·.1)).trans S.perm
   have U:kN (c.map (·.1))=A7 z:=by unfold kN at e ⊢;obtain⟨⟨h1,F⟩,rfl⟩:=jf e;rw[iQ ⟨aca v h1,by rw[v.length_eq];exact F⟩,adR v λx W=>wJ<|lY.mp y x<|v.mem_iff.mp W]
   have R:X.A.handled=AX:=I.ok.hd hc
   have f:i.size<=sizeLine:=by unfold kN at e;rw[N];exact(jf e).1.2
   exact qV L I J vv U G λQ' E' A' Y P=>TT.Sk (by rw[Y];exact R) S.is f λD Z k=>P D Z k
  .cases e
 .have e:g1 lR [d]=A7 z:=by
   have:rm d=lR d:=by
    unfold rm;split
    .exact absurd ⟨_,rfl⟩ E
    .rfl
   show lR d=A7 z;rw[<-this];exact C
  exact nJ L g s σ H [x] [u] Q I (.cons M .nil) ⟨O,[d],z,np,rfl,(λj d' v' a b=>by
   cases j with
   |zero=>simp at a b;subst a;subst b;exact hd
   |succ j=>simp at a),e,G⟩
end
end PX
namespace L2
section
variable {κ:Type}[DecidableEq κ]
def tj(a:List (κ×V))(k:κ):Option V:=(a.find? λb=>decide<|b.1=k).map (·.2)
def tw(a:List (κ×V))(k:κ)(v:V):List (κ×V):=
 if(a.any λb=>decide<|b.1=k)=I then a.map (λb=>if b.1=k then(b.1,v) else b) else a++[(k,v)]
theorem tY{p:κ×V}{r:List (κ×V)}{k:κ}(e:p.1=k):tj (p::r) k=J p.2:=by simp[tj,yj,e]
theorem pJ{p:κ×V}{r:List (κ×V)}{k:κ}(e: ¬p.1=k):tj (p::r) k=tj r k:=by simp[tj,yj,e]
theorem Ff(k:κ): ∀a:List (κ×V),(a.any λb=>decide<|b.1=k)=(tj a k).isSome
 |[]=>rfl
 |p::r=>by
  rw[wo];by_cases e:p.1=k
  .simp only[tY e,mJ e,wv,eM]
  .rw[pJ e,lj e,vl];exact Ff k r
theorem zr(a:List (κ×V))(k:κ)(v:V):(tw a k v).length<=A0 a+1:=by
 unfold tw;split
 .rw[jM];lia
 .rw[mR,lh,vf];lia
theorem Kx.En{o:Option V}{u:Option iN}(r:Kx o u):o.isSome=u.isSome:=by
 cases o with
 |none=>cases u with
  |none=>rfl
  |some _=>exact(show False from r).elim
 |some _=>cases u with
  |none=>exact(show False from r).elim
  |some _=>rfl
theorem KV.val{kvs:List (κ×V)}{d:List (κ×iN)}(r:KV kvs d)(k:κ):Kx (tj kvs k) (gU d k):=by
 unfold KV at r
 induction r with
 |nil=>exact bg
 | @cons p q i c h t g=>
  obtain⟨h1,f⟩:=h;by_cases e:p.1=k
  .have a:q.1=k:=h1.symm.trans e;have b:gU (q::c) k=J q.2:=by simp[gU,yj,a]
   rw[tY e,b];exact f
  .have a: ¬q.1=k:=λz=>e<|h1.trans z;have b:gU (q::c) k=gU c k:=by simp[gU,yj,a]
   rw[pJ e,b];exact g
theorem KV.any{a:List (κ×V)}{vs:List (κ×iN)}(r:KV a vs)(k:κ):(a.any λb=>decide<|b.1=k)=vs.any λb=>decide (b.1=k):=by
 unfold KV at r
 induction r with
 |nil=>rfl
 |cons h t c=>rw[wo,wo,c,h.1]
theorem KV.N9{b:List (κ×V)}{c:List (κ×iN)}(r:KV b c)(k:κ){y:V}{u:iN}(g:RelV y u):
  KV (b.map λa=>if a.1=k then(a.1,y) else a) (c.map λa=>if a.1=k then(a.1,u) else a):=by
 unfold KV at r ⊢
 induction r with
 |nil=>exact .nil
 | @cons p q i j h t f=>
  rw[jU,jU];refine .cons ?_ f;obtain⟨h1,d⟩:=h;by_cases e:p.1=k
  .rw[iQ e,iQ<|h1.symm.trans e];exact⟨h1,g⟩
  .rw[jc e,jc λz=>e<|h1.trans z];exact⟨h1,d⟩
theorem KV.put{a:List (κ×V)}{b:List (κ×iN)}(r:KV a b)(k:κ){y:V}{u:iN}(c:RelV y u):KV (tw a k y) (stored b k u):=by
 unfold tw stored;rw[r.any k];by_cases e:(b.any λd=>decide<|d.1=k)=I
 .rw[iQ e,iQ e];exact r.N9 k c
 .rw[jc e,jc e];exact Paired.snoc r ⟨rfl,c⟩
theorem KV.length{a:List (κ×V)}{vs:List (κ×iN)}(r:KV a vs):(A0 a)=(A0 vs):=tV r
end
def CU{P:ja}{w:iW}{k:Key}{u:iN}(r:RelV (kV k) u):(kJ P w).is k u=I:=by
 cases k with
 |inl i=>obtain⟨t,e⟩:=(show ∃t,u=gu i t from r);subst e;exact ab5 P w i t
 |inr x=>obtain⟨t,e⟩:=(show ∃t,u=mi x t from r);subst e;exact ab4 P w x t
theorem CV{P:ja}{w:iW}: ∀{a:List Key} {b:jF},Vals (a.map kV) b->ItemsAre (kJ P w) a b
 |[],_,r=>by rw[rL] at r;cases r;exact .nil
 |k::a,_,r=>by
  rw[jU] at r
  cases r with
  |cons h t=>exact .cons (CU h)<|CV t
abbrev KT(U:Hp):List (List Key×V)->List (List Key×iE×iN)->Prop:=Paired λp q=>p.1=q.1/\U q.2.1=J (.tup<|p.1.map kV)/\RelV p.2 q.2.2
def KT.val{U:Hp}{kvs:List (List Key×V)}{d:List (List Key×iE×iN)}(r:KT U kvs d)(k:List Key):Kx (tj kvs k) ((g7 d k).map (·.2)):=by
 induction r with
 |nil=>exact bg
 | @cons p q i c h t g=>
  obtain⟨h1,_,f⟩:=h;by_cases e:p.1=k
  .have a:q.1=k:=h1.symm.trans e;have b:g7 (q::c) k=J q.2:=by simp[g7,yj,a]
   rw[tY e,b];exact f
  .have a: ¬q.1=k:=λz=>e<|h1.trans z;have b:g7 (q::c) k=g7 c k:=by simp[g7,yj,a]
   rw[pJ e,b];exact g
def KT.N9{U:Hp}{a:List (List Key×V)}{d:List (List Key×iE×iN)}(r:KT U a d)(k:List Key){y:V}{u:iN}(i:RelV y u):
  KT U (a.map λb=>if b.1=k then(b.1,y) else b) (d.map<|putAt k u):=by
 induction r with
 |nil=>exact .nil
 | @cons p q j l h t g=>
  rw[jU,jU];refine .cons ?_ g;obtain⟨h1,c,f⟩:=h;unfold putAt;by_cases e:p.1=k
  .rw[iQ e,iQ<|h1.symm.trans e];exact⟨h1,c,i⟩
  .rw[jc e,jc λz=>e<|h1.trans z];exact⟨h1,c,f⟩
def KT.put{U:Hp}{a:List (List Key×V)}{c:List (List Key×iE×iN)}(r:KT U a c)(k:List Key){b:iE}{y:V}{u:iN}(f:U b=J (.tup<|k.map kV))(d:RelV y u):
  KT U (tw a k y) (storedH c k b u):=by
 have e:(a.any λg=>decide<|g.1=k)=(g7 c k).isSome:=by rw[Ff,(r.val k).En,GB]
 unfold tw storedH;rw[e];by_cases q:(g7 c k).isSome=I
 .rw[iQ q,iQ q];exact r.N9 k d
 .rw[jc q,jc q];exact Paired.snoc r ⟨rfl,f,d⟩
def KT.keeps{U c:Hp}{a:List (List Key×V)}{d:List (List Key×iE×iN)}(r:KT U a d)(f: ∀b e,U b=J (.tup e)->c b=J (.tup e)):KT c a d:=
 Paired.OG r λ_ _ z=>⟨z.1,f _ _ z.2.1,z.2.2⟩
section
variable {P:ja}{w:iW}{H:Hp}{h:iX}{a:iE}
def S0{u:HO}(ok:Ft P w H h)(e:Rd H a u):B9 P w H h a u:=e.ok ok
def Pk{b:List (Key×V)}(ok:Ft P w H h)(e:Rd H a (.dK b)):(A0 b)<=sizeLine/\(a==bp)=Y/\ ∃c,KV b c/\h.DictOf (kJ P w) a c:=
 show B9 P w H h a (.dK b) from S0 ok e
def Pl{b:List (Key×V)}(ok:Ft P w H h)(e:H a=J (.dK b)):(A0 b)<=sizeLine/\(a==bp)=Y/\ ∃c,KV b c/\h.DictOf (kJ P w) a c:=Pk ok<|.inl e
def uo{c:List Key}(ok:Ft P w H h)(e:H a=J (.tup<|c.map kV)):(ca<|kJ P w).is h c a:=by
 obtain⟨_,b,r,o,h1,d,n,f⟩:=(show B9 P w H h a (.tup<|c.map kV) from ok a _ e)
 exact⟨o,b.toArray,n,h1,d,f,by simpa using CV r⟩
def Ph{b:List (List Key×V)}(ok:Ft P w H h)(e:Rd H a (.dT b)):(A0 b)<=sizeLine/\(a==bp)=Y/\
  ∃d,KT H b d/\h.DictOfH (ca<|kJ P w) a d:=by
 apply FL;intro A v;obtain⟨z,y,d,r,o,i,g,h1,j,k,n,s⟩:=(show B9 P w H h a (.dT b) from S0 ok e);apply v;refine⟨z,y,d,r,o,i,g,h1,j,k,n,λx c=>?_,s⟩
 have all: ∀{l:List (List Key×V)} {m:List (List Key×iE×iN)},KT H l m-> ∀x∈m,(ca<|kJ P w).is h x.1 x.2.1:=by
  intro l m q
  induction q with
  |nil=>intro x c;exact nomatch c
  | @cons p q B U f t u=>
   intro x c;rcases kW.mp c with e|c
   .subst e;exact uo ok (by rw[<-f.1];exact f.2.1)
   .exact u x c
 exact all r x c
def Pj{b:List (List Key×V)}(ok:Ft P w H h)(e:H a=J (.dT b)):(A0 b)<=sizeLine/\(a==bp)=Y/\
  ∃c,KT H b c/\h.DictOfH (ca<|kJ P w) a c:=Ph ok<|.inl e
end
def K8(U:Hp)(a:iE)(y:V)(r:Option V):Prop:=
 (∃c k,Rd U a (.dK c)/\y=kV k/\r=tj c k)\/ ∃c k b,Rd U a (.dT c)/\y= .ref b/\U b=J (.tup<|k.map kV)/\r=tj c k
def K7(U:Hp)(a:iE)(y v:V)(c:Hp):Prop:=
 (∃kvs k,U a=J (.dK kvs)/\y=kV k/\(A0 kvs)<sizeLine/\c=upd U a (.dK<|tw kvs k v))\/
 ∃kvs k b,U a=J (.dT kvs)/\y= .ref b/\U b=J (.tup<|k.map kV)/\(A0 kvs)<sizeLine/\c=upd U a (.dT<|tw kvs k v)
def K8.k{U:Hp}{a:iE}{kvs:List (Key×V)}{k:Key}(e:U a=J (.dK kvs)):K8 U a (kV k) (tj kvs k):= .inl ⟨kvs,k,.inl e,rfl,rfl⟩
def K8.t{U:Hp}{a b:iE}{kvs:List (List Key×V)}{k:List Key}(e:U a=J (.dT kvs))(c:U b=J (.tup<|k.map kV)):K8 U a (.ref b) (tj kvs k):= .inr ⟨kvs,k,b,.inl e,rfl,c,rfl⟩
def K7.k{U:Hp}{a:iE}{kvs:List (Key×V)}{k:Key}{v:V}(e:U a=J (.dK kvs))(b:(A0 kvs)<sizeLine):K7 U a (kV k) v (upd U a<|.dK<|tw kvs k v):= .inl ⟨kvs,k,e,rfl,b,rfl⟩
def K7.t{U:Hp}{a b:iE}{kvs:List (List Key×V)}{k:List Key}{v:V}(e:U a=J (.dT kvs))(c:U b=J (.tup<|k.map kV))(d:(A0 kvs)<sizeLine):
  K7 U a (.ref b) v (upd U a<|.dT<|tw kvs k v):= .inr ⟨kvs,k,b,e,rfl,c,d,rfl⟩
section
variable {X:Cx}{d:ju}{f:St}{H:Hp}{s:iJ}{a:iE}{y v:V}{u r:iN}{o:Option V}{A:iY}{E:jt}
def Inv.big(U:Inv X d f H s):bp<s.heap.objs.size:=by have h:aj<s.heap.objs.size:=(U.mod.glob.keeps U.bk).lt;exact DP (by decide) h
def YG{Q:jt}(t:A.units+1<aS)(U:Inv X d f H s)(g:K8 H a y o)(m:RelV y u)(h: ∀n,Inv X d f H n->Q (.bool o.isSome) n):
  ah (ai X.prog X.w) A (av .In u<|.ref a) Q E s:=by
 rcases g with⟨j,k,e,i,l⟩|⟨j,k,b,e,i,p,l⟩
 .subst i;obtain⟨z,hd,x,c,dd⟩:=Pk U.hok e;refine wpAny_in_of (CU m) hd dd.mapOf ?_;rw[<-(c.val k).En,<-l];exact h _ (U.tok _)
 .subst i;cases(show u=aX b from m);obtain⟨z,hd,B,c,dd⟩:=Ph U.hok e;refine Op (Ai t) (uo U.hok p) hd dd ?_;have q:=(c.val k).En;rw[GB] at q;rw[<-q,<-l];exact h _ (U.tok _)
def JV{Q:jt}(t:A.units+1<aS)(U:Inv X d f H s)(g:K8 H a y o)(m:RelV y u)(h: ∀n,Inv X d f H n->Q (.bool (!o.isSome)) n):
  ah (ai X.prog X.w) A (av .NotIn u<|.ref a) Q E s:=by
 rcases g with⟨j,k,e,i,l⟩|⟨j,k,b,e,i,p,l⟩
 .subst i;obtain⟨z,hd,x,c,dd⟩:=Pk U.hok e;refine G1 (CU m) hd dd.mapOf ?_;rw[<-(c.val k).En,<-l];exact h _ (U.tok _)
 .subst i;cases(show u=aX b from m);obtain⟨z,hd,B,c,dd⟩:=Ph U.hok e;refine y6 (Ai t) (uo U.hok p) hd dd ?_;have q:=(c.val k).En;rw[GB] at q;rw[<-q,<-l];exact h _ (U.tok _)
def Ae{h':iX}{t':Nat}{c:HO}(U:Inv X d f H s)(j:Og (H a))(i:aP a s.heap h')(h: ∃q,h'.get? a=J q)(new:B9 X.prog X.w (upd H a c) h' a c):
  Inv X d f (upd H a c) {s with heap:=h',toks:=t'}:=
 U.write (x:=a) (e:=a) j (.inl AU) (λb q g z=>(i.2 b g).trans z) h new
def V2{P:ja}{w:iW}{h:Hp}{g:iX}{b:List (Key×V)}{e:List (Key×iN)}(z:(A0 b)<=sizeLine)(hd:(a==bp)=Y)(c:KV b e)(dd:g.DictOf (kJ P w) a e):
  B9 P w h g a (.dK b):=⟨z,hd,e,c,dd⟩
def yY{L:Hp}{Q:Unit->Shared->Prop}(hu:A.units+1<aS)(I:Inv X d f H s)(g:K7 H a y v L)(M:RelV y u)(J:RelV v r)(h: ∀N,Inv X d f L N->Q () N):
  ah (ai X.prog X.w) A (li (.ref a) u r) Q E s:=by
 rcases g with⟨i,k,e,t,l,p⟩|⟨i,k,b,e,t,O,l,p⟩
 .subst t p;obtain⟨z,hd,S,j,dd⟩:=Pl I.hok e;have C:S.length<=sizeLine:=by rw[<-j.length];exact z
  have x:(tw i k v).length<=sizeLine:=by have:=zr i k v;lia
  refine wpAny_setItem_pairs (hsz:=C) (CU M) dd λG m B=>h _ ?_;have R: ∃q,G.get? a=A7 q:=let⟨q,_,_,n,_⟩:=m;⟨q,n⟩
  exact Ae I (by rw[e];exact bg) B R<|V2 x hd (j.put k J) m
 .subst t p;cases(show u=aX b from M);obtain⟨z,hd,V,j,dd⟩:=Pj I.hok e;have C:V.length<=sizeLine:=by rw[<-tV j];exact z
  have x:(tw i k v).length<=sizeLine:=by have:=zr i k v;lia
  refine wpAny_setItem_heap (hsz:=C) (Ai hu) (uo I.hok O) dd λG m B=>h _ ?_;obtain⟨q,Y,U,n,D,F,K,_,P⟩:=m;refine Ae I (by rw[e];exact bg) B ⟨q,n⟩ ⟨x,hd,_,(j.put k O J).keeps λc W T=>?_,q,Y,U,n,D,F,K,P⟩;rw[ji<|Tb T e (λz=>nomatch z)];exact T
end
def afi{P:ja}{w:iW}{U:Hp}(h:iX)(a:bp<h.objs.size):B9 P w U (h.push {cls:= .type "dict",data:= .dict #[]}) h.objs.size (.dK []):=
 ⟨lX _,wR.mpr<|nL<|jH a,[],.nil,Heap.DictOf.new h⟩
def Ui:TE:=λ_ U Q=> ∀p,U p=C->Q (.ref p) (upd U p<|.dK [])
section
variable {X:Cx}{b:bu}
def ael:PE X (.Dict [] [] b) Ui:=λc s d U Q T h=>wpAny_Dict_empty ⟨.ref s.heap.objs.size,_,T.laid (a:=s.heap.objs.size) (o:= .dK []) (t':=s.toks) (λ_ _ q=>jT _ q) (kc _)<|afi s.heap T.big,rfl,h _ (T.hok.fresh<|kc _)⟩
end
end L2
namespace PX
open L2 PySem.SeqAt TS
noncomputable def zL:D->Option Key
 | .int i=>J<|.inl i
 | .str x=>J<|.inr x
 |_=>C
noncomputable def Cc:List D->Option (List Key)
 |[]=>J []
 |d::l=>(zL d).bind λk=>(Cc l).map (k:: ·)
noncomputable def zK:D->Option (List Key)
 | .tup l=>Cc l
 |_=>C
def rk(h:zL d=J k):d=kf k:=by
 cases d<;>simp[zL] at h<;>subst h<;>rfl
def aeG: ∀{l:List D} {a:List Key},Cc l=J a->l=a.map kf:=by
 intro e
 induction e with
 |nil=>intro a h;cases h;rfl
 |cons d l c=>intro a h;rw[Cc] at h;obtain⟨k,h1,h⟩:=iC h;obtain⟨m,b,rfl⟩:=jB h;rw[rk h1,c b];rfl
def xF(h:zK d=J a):d= .tup (a.map kf):=by
 cases d with
 |tup l=>rw[aeG (show Cc l=J a from h)]
 |_=>cases h
def xX(a b:Key):D.BY (kf a) (kf b)=decide (a=b):=by
 cases a with
 |inl i=>cases b with
  |inl j=>simp only[kf,D.BY,OB]
  |inr y=>simp only[kf,D.BY,OA]
 |inr x=>cases b with
  |inl j=>simp only[kf,D.BY,Ox]
  |inr y=>simp only[kf,D.BY,Ov];rfl
theorem uX: ∀a b:List Key,D.D8 (a.map kf) (b.map kf)=decide (a=b)
 |[],[]=>by simp[D.D8]
 |[],_::_=>by simp[D.D8]
 |_::_,[]=>by simp[D.D8]
 |x::a,y::b=>by simp only[jU];rw[D.D8,xX,uX a b];simp only[dh,fX]
def nj:List D->List D->D->Option D
 |a::b,v::c,k=>if D.BY a k=I then J v else nj b c k
 |_,_,_=>C
def vI:List D->List D->D->D->List D
 |b::c,v::a,k,w=>(if D.BY b k=I then w else v)::vI c a k w
 |_,a,_,_=>a
def va(a b:List D)(k w:D):List D×List D:=if a.any (D.BY · k)=I then(a,vI a b k w) else(a++[k],b++[w])
noncomputable def xH(a:List D)(k:D):Bool:=((zL k).isSome&&a.all λx=>(zL x).isSome)||((zK k).isSome&&a.all λx=>(zK x).isSome)
section
variable {K:jb}{H:Hp}{O:BL}
def Fw(h:Rep K H O (kf k) v):v=kV k:=by
 cases k with
 |inl i=>exact Rep.int h
 |inr x=>exact Rep.str h
def adu: ∀{b:List Key} {a:List V},AF K H O (b.map kf) a->a=b.map kV:=by
 intro e
 induction e with
 |nil=>intro a h;rw[rL,AF] at h;exact h
 |cons k b d=>intro a h;rw[jU,AF] at h;obtain⟨v,r,rfl,h1,c⟩:=h;rw[Fw h1,d c];rfl
def uH(hk:zL d=J k)(h:kg K H O d v):v=kV k:=by
 rw[rk hk] at h;rcases h with h|⟨a,rfl,h⟩
 .exact Fw h
 .cases k<;>exact h.elim
def qU(hk:zK d=J c)(h:kg K H O d v): ∃b,v= .ref b/\H b=J (.tup<|c.map kV):=by
 rw[xF hk] at h;rcases h with h|⟨a,rfl,h⟩
 .obtain⟨b,xs,rfl,q,r⟩:=h.tup;rw[adu r] at q;exact⟨b,rfl,q.1⟩
 .exact h.elim
theorem Of{k:Key}: ∀{a:List (Key×V)} {b:List D},AF K H O b (a.map (·.2))->(∀d,nj (a.map λp=>kf p.1) b (kf k)=J d-> ∃v,tj a k=J v/\Rep K H O d v)/\(nj (a.map λp=>kf p.1) b (kf k)=C->tj a k=C)
 |[],b,_=>⟨λd h=>by cases b<;>simp[nj] at h,λ_=>rfl⟩
 |(c,v)::a,[],h=>by rw[jU,AF] at h;cases h
 |(c,v)::a,m::b,h=>by
  rw[jU,AF] at h;obtain⟨w,r,e,h1,f⟩:=h;obtain⟨rfl,rfl⟩:=wd e;obtain⟨j,l⟩:=Of (k:=k) f;simp only[jU,nj,xX];by_cases hk:c=k
  .simp only[hk,decide_true,kE];exact⟨λd h=>by cases h;exact⟨v,tY (p:=(k,v)) AU,h1⟩,λh=>by cases h⟩
  .simp only[hk,decide_false,jK,jX];refine⟨λd h=>?_,λh=>?_⟩
   .obtain⟨u,g,i⟩:=j d h;exact⟨u,by rw[pJ (p:=(c,v)) hk];exact g,i⟩
   .rw[pJ (p:=(c,v)) hk];exact l h
theorem Oe{k:List Key}: ∀{a:List (List Key×V)} {b:List D},AF K H O b (a.map (·.2))->(∀d,nj (a.map λp=> .tup (p.1.map kf)) b (.tup<|k.map kf)=J d-> ∃v,tj a k=J v/\Rep K H O d v)/\(nj (a.map λp=> .tup (p.1.map kf)) b (.tup<|k.map kf)=C->tj a k=C)
 |[],b,_=>⟨λd h=>by cases b<;>simp[nj] at h,λ_=>rfl⟩
 |(c,v)::a,[],h=>by rw[jU,AF] at h;cases h
 |(c,v)::a,m::b,h=>by
  rw[jU,AF] at h;obtain⟨w,r,e,h1,f⟩:=h;obtain⟨rfl,rfl⟩:=wd e;obtain⟨j,l⟩:=Oe (k:=k) f;simp only[jU,nj,D.BY,uX];by_cases hk:c=k
  .simp only[hk,decide_true,kE];exact⟨λd h=>by cases h;exact⟨v,tY (p:=(k,v)) AU,h1⟩,λh=>by cases h⟩
  .simp only[hk,decide_false,jK,jX];refine⟨λd h=>?_,λh=>?_⟩
   .obtain⟨u,g,i⟩:=j d h;exact⟨u,by rw[pJ (p:=(c,v)) hk];exact g,i⟩
   .rw[pJ (p:=(c,v)) hk];exact l h
end
section
variable {P:ja}{w:iW}{H H':Hp}{h:iX}{a:iE}
def Tp(x:B9 P w H h a (.dT [])):B9 P w H' h a (.dK []):=by
 obtain⟨z,y,k,r,o,b,c,h1,d,f,g,j⟩:=x;cases r
 have:b= #[]:=by
  have:b.toList=[]:=by simpa using g
  exact Wo.mp this
 subst this;refine⟨z,y,[],.nil,o,#[],c,h1,d,f,?_,?_,sL⟩
 .first|exact λe i=>by simp at i|(intro;simp)
 .first|exact .nil|trivial|simp[Pairs]
def Tq(x:B9 P w H h a (.dK [])):B9 P w H' h a (.dT []):=by
 obtain⟨z,y,n,r,o,c,d,h1,f,g,k,b,m⟩:=x;cases r
 have:c= #[]:=by
  have j:(A0 c.toList)=0:=by
   first
    |simpa using (A0 b)
    |simpa using(tV b)
    |(
      cases i:c.toList with
      |nil=>rfl
      |cons e l=>rw[i] at b;cases b)
  exact Wo.mp<|SJ.mp j
 subst this;exact⟨z,y,[],.nil,o,#[],d,h1,f,g,rfl,sL⟩
end
section
variable {X:Cx}{f:ju}{g:L2.St}{H:Hp}{s:iJ}
def acT{A:iY}{E:jt}(U:Inv X f g H s){H':Hp}{a:iE}{k:Key}{u:iN}{Q:jt}(x:B9 X.prog X.w H' s.heap a (.dK []))(d:RelV (kV k) u)(b:Bool)(h: ∀e,Inv X f g H e->Q (.bool b) e):
  ah (ai X.prog X.w) A (av (if b=I then .NotIn else .In) u<|.ref a) Q E s:=by
 obtain⟨z,hd,i,c,dd⟩:=x;cases c
 cases b with
 |false=>exact wpAny_in_of (CU d) hd dd.mapOf<|h _ (U.tok _)
 |true=>exact G1 (CU d) hd dd.mapOf<|h _ (U.tok _)
def acS{A:iY}{E:jt}(e:A.units+1<aS)(U:Inv X f g H s){H':Hp}{a b:iE}{k:List Key}{Q:jt}(x:B9 X.prog X.w H' s.heap a (.dT []))(d:H b=J (.tup<|k.map kV))(c:Bool)(h: ∀i,Inv X f g H i->Q (.bool c) i):
  ah (ai X.prog X.w) A (av (if c=I then .NotIn else .In) (.ref b)<|.ref a) Q E s:=by
 obtain⟨z,hd,u,r,o,l,j,h1,m,n,p,q⟩:=x;cases r;have dd:s.heap.DictOfH (ca<|kJ X.prog X.w) a []:=⟨o,l,j,h1,m,n,p,(λx (t:x∈[])=>by simp at t),q⟩
 cases c with
 |false=>exact Op (Ai e) (uo U.hok d) hd dd<|h _ (U.tok _)
 |true=>exact y6 (Ai e) (uo U.hok d) hd dd<|h _ (U.tok _)
def xG(h:xH d k=I):(∃e,zL k=J e/\ ∀x∈d,∃c,zL x=J c)\/(∃i,zK k=J i/\ ∀x∈d,∃c,zK x=J c):=by
 unfold xH at h;rw[yo,lA,lA,lY,lY] at h;rcases h with⟨h1,a⟩|⟨h1,a⟩
 .exact .inl ⟨_,(Kb.mp h1).choose_spec,λx b=>Kb.mp<|a x b⟩
 .exact .inr ⟨_,(Kb.mp h1).choose_spec,λx b=>Kb.mp<|a x b⟩
def IJ{a:List Key}{c:Key}(h:zL (.tup<|a.map kf)=J c):False:=by cases h
def F1(h:zK (kf k)=J c):False:=by cases k<;>cases h
def YF(z:A.units+1<aS)(I:Inv X f g H s)(q:Ey X.K (H a) .dct ks n us)(r:AF X.K H O n us)(hk:xH ks k=B8)(T:kg X.K H O k y)(o:RelV y u)(l:Bool)
  (h: ∀j,Inv X f g H j->Q (.bool<|xor l (nj ks n k).isSome) j):ah (ai X.prog X.w) A (av (if l=B8 then .NotIn else .In) u<|.ref a) Q E s:=by
 have nil: ∀n:List D,nj [] n k=C:=λn=>by cases n<;>rfl
 rcases q with⟨i,e,rfl,rfl⟩|⟨i,e,rfl,rfl⟩
 .rcases xG hk with⟨B,h1,_⟩|⟨C',h1,M⟩
  .have:=uH h1 T;subst this;have G:=rk h1;subst G;obtain⟨F,P⟩:=Of (k:=B) r
   have Y:(tj i B).isSome=(nj (i.map λp=>kf p.1) n<|kf B).isSome:=by
    cases x:nj (i.map λp=>kf p.1) n (kf B) with
    |none=>rw[P x];rfl
    |some d=>obtain⟨v,N,_⟩:=F d x;rw[N];rfl
   rw[<-Y] at h
   cases l with
   |false=>exact YG z I (K8.k e) o λj m=>by simpa using h j m
   |true=>exact JV z I (K8.k e) o λj m=>by simpa using h j m
  .have J:i=[]:=by
    cases i with
    |nil=>rfl
    |cons p i=>obtain⟨c,U⟩:=M (kf p.1) (by simp);exact(F1 U).elim
   subst J;obtain⟨b,rfl,L⟩:=qU h1 T;cases o;rw[rL,nil] at h;exact acS z I (Tq (H':=H)<|I.hok a _ e) L l λj m=>by simpa using h j m
 .rcases xG hk with⟨B,h1,M⟩|⟨C',h1,_⟩
  .have J:i=[]:=by
    cases i with
    |nil=>rfl
    |cons p i=>obtain⟨c,U⟩:=M (.tup<|p.1.map kf) (by simp);exact(IJ U).elim
   subst J;have:=uH h1 T;subst this;rw[rL,nil] at h;exact acT I (Tp (H':=H)<|I.hok a _ e) o l λj m=>by simpa using h j m
  .obtain⟨b,rfl,L⟩:=qU h1 T;have G:=xF h1;subst G;obtain⟨F,P⟩:=Oe (k:=C') r
   have Y:(tj i C').isSome=(nj (i.map λp=> .tup (p.1.map kf)) n<|.tup<|C'.map kf).isSome:=by
    cases x:nj (i.map λp=> .tup (p.1.map kf)) n (.tup<|C'.map kf) with
    |none=>rw[P x];rfl
    |some d=>obtain⟨v,N,_⟩:=F d x;rw[N];rfl
   rw[<-Y] at h
   cases l with
   |false=>exact YG z I (K8.t e L) o λj m=>by simpa using h j m
   |true=>exact JV z I (K8.t e L) o λj m=>by simpa using h j m
end
section
variable {X:Cx}
noncomputable def Tn:F:=λa=>J ((.BU .dct [] [],I),a)
end
section
variable {K:jb}{T:BL}{d:L2.St}{c:Dn}{H:Hp}{i:Nat}{g d':D}{a:iE}{o:HO}
def BW.HR{j:Nat}{b:iE}(hd:c[i]?=J (J (g,I)))(h:BW d (c.set i<|J (d',I)) j b):BW d c j b:=by
 obtain⟨e,h1,f⟩:=h;rcases mq h1 with⟨rfl,_,_⟩|⟨_,q⟩
 .exact⟨_,hd,f⟩
 .exact⟨e,q,f⟩
def ER.HR(E:ER K H T d c)(hd:c[i]?=J (J (g,I)))(p:d[i]?=J (J<|.ref a))(r:EU K (upd H a o) (λb=>AZ d c b\/T b) d' a):
  ER K (upd H a o) T d (c.set i<|J (d',I))/\Cj d c H (c.set i<|J (d',I)) (upd H a o):=by
 have M:i<(A0 c):=(uD.mp hd).1;have s:AZ d c a:=⟨i,_,hd,p⟩
 have B: ∀b,AZ d (c.set i<|J (d',I)) b->AZ d c b:=λb a'=>by
  obtain⟨j,e,h1,m⟩:=a'
  obtain⟨N,t,v⟩:=BW.HR hd ⟨e,h1,m⟩;exact⟨j,N,t,v⟩
 have A: ∀b u,H b=J u-> ¬(AZ d c b\/T b)->upd H a o b=J u:=λb u e n=>by rw[ji<|by intro z;subst z;exact n<|.inl s];exact e
 have C: ∀b,H b≠AX->upd H a o b≠AX:=λb z=>by
  by_cases y:b=a
  .subst y;rw[jl];simp
  .rw[ji y];exact z
 have sub: ∀b,(AZ d (c.set i<|J (d',I)) b\/T b)->AZ d c b\/T b:=λb z=>z.imp (B b) id;refine⟨⟨by rw[vB];exact E.len,λj e h=>?_,λj e h=>?_,λj k e f b h hk h1 m=>?_,λb z=>E.nT b<|B b z,λb z=>by have ne:b≠a:=λe=>E.nT a s<|e▸z;rw[ji ne];exact E.dom b z⟩,⟨λb u e n=>by rw[ji<|by intro z;subst z;exact n s];exact e,λj b z=>BW.HR hd z,C⟩⟩
 .rcases mq h with⟨_,_,q⟩|⟨_,q⟩
  .cases q
  .obtain⟨w,l,x⟩:=E.val j e q;exact⟨w,l,Rep.mono A (λb _ z=>sub b z) x⟩
 .rcases mq h with⟨rfl,_,q⟩|⟨ne,q⟩
  .cases q;exact⟨a,p,r.mono (λ_ _ e _=>e) (λb _ z=>sub b z) λ_ e=>e⟩
  .obtain⟨b,l,x⟩:=E.own j e q;refine⟨b,l,x.mono A (λb _ z=>sub b z) λu Q=>?_⟩;rw[ji]
   .exact Q
   .intro z;subst z;exact ne<|E.inj i j _ _ _ hd q p l
 .obtain⟨L,t,v⟩:=BW.HR hd ⟨e,h,h1⟩;obtain⟨O,G,U⟩:=BW.HR hd ⟨f,hk,m⟩;exact E.inj j k L O b t G v U
end
section
variable {X:Cx}{c:ju}{d:L2.St}{H:Hp}{s:iJ}{a:iE}
def Ux(U:Inv X c d H s)(e:H a=J (.dT [])):Inv X c d (upd H a<|.dK []) s:=by have:=Ae (t':=s.toks) (h':=s.heap) U (by rw[e];exact bg) (DO a s.heap) (by obtain⟨z,y,g,r,o,f,b,h1,_⟩:=(show B9 X.prog X.w H s.heap a (.dT []) from U.hok a _ e);exact⟨o,h1⟩)<|Tp (H':=upd H a<|.dK [])<|U.hok a _ e;exact this
def Uw(U:Inv X c d H s)(e:H a=J (.dK [])):Inv X c d (upd H a<|.dT []) s:=by have:=Ae (t':=s.toks) (h':=s.heap) U (by rw[e];exact bg) (DO a s.heap) (by obtain⟨z,y,g,r,o,f,b,h1,_⟩:=(show B9 X.prog X.w H s.heap a (.dK []) from U.hok a _ e);exact⟨o,h1⟩)<|Tq (H':=upd H a<|.dT [])<|U.hok a _ e;exact this
def XO:SF:=λo i v H Q=> ∃a,o= .ref a/\((∃e,K7 H a i v e/\Q e)\/(∃f,H a=J (.dT [])/\i=kV f/\Q (upd H a<|.dK [(f,v)]))\/
 (∃g b,H a=J (.dK [])/\i= .ref b/\H b=J (.tup<|g.map kV)/\Q (upd H a<|.dT [(g,v)])))
def adV(j:X.A.units+1<aS):Wg X XO:=by
 intro c s d H o i v E T u Q U x l m h;obtain⟨a,rfl,h⟩:=h;cases x;rcases h with⟨r,g,q⟩|⟨y,e,rfl,q⟩|⟨B,b,e,rfl,n,q⟩
 .exact yY j U g l m λp f=>⟨r,f,q⟩
 .refine yY j (Ux U e) (K7.k (k:=y) (v:=v) jl<|by rw[jQ];decide) l m λp f=>⟨_,f,?_⟩
  rw[IH];exact q
 .have w:b≠a:=Tb n e (λz=>nomatch z);refine yY j (Uw U e) (K7.t (k:=B) (v:=v) (b:=b) jl (by rw[ji w];exact n)<|by rw[jQ];decide) l m λp f=>⟨_,f,?_⟩
  rw[IH];exact q
end
section
variable {K:jb}{H:Hp}{O:BL}
theorem Nf{k:Key}{w:D}{v:V}(d:Rep K H O w v): ∀{a:List (Key×V)} {b:List D},AF K H O b (a.map (·.2))->AF K H O (vI (a.map λp=>kf p.1) b (kf k) w) ((a.map λc=>if c.1=k then(c.1,v) else c).map (·.2))
 |[],b,h=>by cases b<;>simpa[vI] using h
 |(f,u)::a,[],h=>by rw[jU,AF] at h;cases h
 |(f,u)::a,i::b,h=>by
  rw[jU,AF] at h;obtain⟨x,r,e,h1,g⟩:=h;obtain⟨rfl,rfl⟩:=wd e;simp only[jU,vI,xX];refine AF.cons ?_<|Nf d g;by_cases hk:f=k
  .simp only[hk,decide_true,kE];exact d
  .simp only[hk,decide_false,jK,jX];exact h1
theorem Nd{k:List Key}{w:D}{v:V}(d:Rep K H O w v): ∀{a:List (List Key×V)} {b:List D},AF K H O b (a.map (·.2))->AF K H O (vI (a.map λp=> .tup (p.1.map kf)) b (.tup<|k.map kf) w) ((a.map λc=>if c.1=k then(c.1,v) else c).map (·.2))
 |[],b,h=>by cases b<;>simpa[vI] using h
 |(f,u)::a,[],h=>by rw[jU,AF] at h;cases h
 |(f,u)::a,i::b,h=>by
  rw[jU,AF] at h;obtain⟨x,r,e,h1,g⟩:=h;obtain⟨rfl,rfl⟩:=wd e;simp only[jU,vI,D.BY,uX];refine AF.cons ?_<|Nd d g;by_cases hk:f=k
  .simp only[hk,decide_true,kE];exact d
  .simp only[hk,decide_false,jK,jX];exact h1
def S8(a:Rep K H O w v)(h:AF K H O b (kvs.map (·.2))):
  (va (kvs.map λp=>kf p.1) b (kf k) w).1=(tw kvs k v).map (λp=>kf p.1)/\AF K H O (va (kvs.map λp=>kf p.1) b (kf k) w).2 ((tw kvs k v).map (·.2)):=by
 have c:(kvs.map λp=>kf p.1).any (D.BY · (kf k))=kvs.any λd=>decide (d.1=k):=by rw[DN];congr 1;funext p;exact xX _ _
 unfold va tw;rw[c];split
 .refine⟨?_,Nf a h⟩;rw[jP];apply qf;intro p _;simp only[bo];split<;>rfl
 .exact⟨by simp,by rw[qg];exact h.append<|AF.one a⟩
def S7{k:List Key}{w:D}{v:V}(b:Rep K H O w v){kvs:List (List Key×V)}{a:List D}(h:AF K H O a (kvs.map (·.2))):
  (va (kvs.map λp=> .tup (p.1.map kf)) a (.tup<|k.map kf) w).1=(tw kvs k v).map (λp=> .tup (p.1.map kf))/\AF K H O (va (kvs.map λp=> .tup (p.1.map kf)) a (.tup<|k.map kf) w).2 ((tw kvs k v).map (·.2)):=by
 have c:(kvs.map λp=>D.tup<|p.1.map kf).any (D.BY · (.tup<|k.map kf))=kvs.any λd=>decide (d.1=k):=by rw[DN];congr 1;funext p;simp only[bo,D.BY,uX]
 unfold va tw;rw[c];split
 .refine⟨?_,Nd b h⟩;rw[jP];apply qf;intro p _;simp only[bo];split<;>rfl
 .exact⟨by simp,by rw[qg];exact h.append<|AF.one b⟩
end
def Fu(i:Nat)(f:F)(g:FO):FS:=λc=>(f c).bind λp=>match p.2[i]? with
 |some (J _)=>(g p.2).bind λq=>match res q.2 q.1,q.2[i]? with
  |some k,J (J (.BU .dct a b,I))=>if xH a k=I/\(A0 a)<10000 then J (.nx<|q.2.set i<|J (.BU .dct (va a b k p.1.1).1 (va a b k p.1.1).2,I)) else C
  |_,_=>C
 |_=>C
section
variable {X:Cx}{e c:iK}{f:F}{g:FO}{b h a d:bu}{i:Nat}{x:aw}{A:kK}{L:LL}{j:Hp}
end
end PX
namespace TT
open PySem.SeqAt
structure HJ(h:iX)(d:iE)(es:Array ew)(ep:Nat):Prop where
 at_: ∃o,h.get? d=A7 o/\o.ExactDict/\o.data= .dict es ep
def HJ.Ca{d b a}(x:HJ h d b a)(k: ∀o,h.get? d=J o->c.get? d=J o):HJ c d b a:=let⟨o,h1,r⟩:=x.at_;⟨o,k _ h1,r⟩
section
variable {prog:ja}{w:iW}{A:iY}{E:jt}{s:iJ}
def HJ.typeIs{d b a}(x:HJ s.heap d b a):s.TypeIs (.ref d) "dict":=let⟨o,h1,r,_⟩:=x.at_;⟨o,h1,r.1⟩
def JM(hd:(d==bp)=Y)(c:HJ s.heap d g f)
  (h:Q (.ref s.heap.objs.size) {s with heap:=s.heap.push {cls:= .type "dict_keyiterator",data:= .fields #[.ref d,.int 0 0,.int g.size 0,.int f 0]}}):ah (ai prog w) A (dD<|.ref d) Q E s:=by
 have a:=c.typeIs;obtain⟨o,e,i,b⟩:=c.at_;refine GI a LP<|qM LP a PySem.F.entry_dict_iter ?_<|PySem.F.args_dict_iter_1 _;unfold bz.«dict.__iter__»;refine iF ?_;unfold Do;refine iF<|LO a ?_;change ah _ _ (pure<|aX d) _ _ s;refine iP ?_;change ah _ _ (fS d>>=_) _ _ s;unfold fS;rw[jc<|by rw[hd];exact ki];refine iF<|iP ?_;refine iF<|GA e b ?_;refine iF<|Gz e b ?_;refine iF<|nr<|iP ⟨_,rfl,"dict_keyiterator",_,⟨_,kh _ rfl,rfl⟩,Cr.lookup,?_⟩;simpa[cP] using h
def aa4{b d:iE}{i f:Nat}{c:Array ew}{e:ew}{Q:Iw}(a:s.heap.IsKeyIter b d i c.size f)(q:HJ s.heap d c f)(r:c[i]?=J e)
  (n: ∀g,g.IsKeyIter b d (i+1) c.size f->aP b s.heap g->Q (J e.key) {s with heap:=g}):ah (ai prog w) A (b6<|.ref b) Q E s:=by
 obtain⟨o,h,p,hd⟩:=id a;obtain⟨u,k,t,j⟩:=q.at_;unfold b6;refine iF<|rE<|tQ (name:=bD "__next__") a.typeIs Cr<|qM Cr a.typeIs LN ?_<|LM _;refine iF<|iP ?_;refine iF ?_;refine iF ?_;refine iF<|Dq a.typeIs<|iP ?_;refine iF<|Ix h hd ?_;have m:Builtin.Dict_items.ownsTuple "dict_keyiterator"=Y:=by decide
 simp only[m,jK,jX];change ah _ _ (if(aX d==ap)=I then _ else _) _ _ s;rw[jc (show ¬((aX d==ap)=I) from ki)];refine iF<|iP ?_;refine iF<|GA k j ?_;rw[jc<|by simp];refine iF<|iP ?_;refine iF<|Gz k j ?_;rw[jc<|by simp];refine iP ?_;simp only[show ¬((i:Int)<0) from by lia,jX,tJ,r];refine iF ?_;refine iF<|Dq a.typeIs<|iP ?_;refine iF<|LK a.typeIs ?_;change ah _ _ (setField (.ref b) 1 (cP<|(i:Int)+1)>>=_) _ _ s;refine iF<|wm h hd (by simp) ?_
 have l:(s.heap.update b (gD (·.setIfInBounds 1 (cP<|(i:Int)+1)))).IsKeyIter b d (i+1) c.size f:=
  ⟨_,sO _ h (DK<|vn hd _),(DJ ..).trans p,by rw[vn hd];simp[cP]⟩
 refine iF<|mn ?_;refine iF (LK (s:={s with heap:=s.heap.update b (gD (·.setIfInBounds 1 (cP<|(i:Int)+1)))}) l.typeIs ?_);change ah _ _ (pure e.key) _ _ _;exact iP<|iP ⟨_,rfl,iP<|n _ l (sM ..)⟩
def abx(n:A.handled=C)(c:s.heap.IsKeyIter it d e.size e.size k)(p:HJ s.heap d e k)
  (l: ∀h,fR it s.heap h->Q C {s with heap:=h}):ah (ai prog w) A (b6<|.ref it) Q E s:=by
 obtain⟨o,i,q,hd⟩:=id c;obtain⟨t,g,r,f⟩:=p.at_;unfold b6;refine iF<|rE<|tQ (name:=bD "__next__") c.typeIs Cr<|qM Cr c.typeIs LN ?_<|LM _;refine iF<|iP ?_;refine iF ?_;refine iF ?_;refine iF<|Dq c.typeIs<|iP ?_;refine iF<|Ix i hd ?_;have j:Builtin.Dict_items.ownsTuple "dict_keyiterator"=Y:=by decide
 simp only[j,jK,jX];change ah _ _ (if(aX d==ap)=I then _ else _) _ _ s;rw[jc (show ¬((aX d==ap)=I) from ki)];refine iF<|iP ?_;refine iF<|GA g f ?_;rw[jc<|by simp];refine iF<|iP ?_;refine iF<|Gz g f ?_;rw[jc<|by simp];refine iP ?_;simp only[show ¬((e.size:Int)<0) from by lia,jX,tJ,Dx<|kc e.size];refine iF ?_;refine iF<|Dq c.typeIs<|iP ?_;change ah _ _ (setField (.ref it) 0 .none>>=_) _ _ s;refine iF<|wm i hd (by simp) ?_;change ah _ _ (l6 (.type "StopIteration") []>>=_) _ _ _;refine iF ?_;simp -iota only[l6,IX];refine iF<|nr ?_ (by size_fits);refine iF (m:=cF _ _)<|qJ (a:=ap) (by first|rfl|(simp -iota only[cF];rfl)) ?_;refine nr ?_ (by size_fits);simp -iota only[IR];refine iF<|G4 ?_;rw[show A.in1.handled=C from n];refine iF<|iP<|G3 ?_;refine iF<|yv (T:="StopIteration") (b:=I) ⟨_,kh _ rfl,rfl⟩ GZ ?_;exact iP<|l _ (((sM ..).extBut.push _).push _)
def Gs(n:A.handled=C)(U d:iE)(q:U≠d)(a:Array ew)(k:Nat):Walks prog w A U [U,d] [U] a.size (λi v=> ∃e,a[i]?=J e/\v=e.key) (λi h=>h.IsKeyIter U d i a.size k/\HJ h d a k) where
 sub:=λb c=>by simp at c;simp[c]
 frame:=λ_ _ _ st hk=>⟨st.1.at λo e=>hk U (by simp) o e,st.2.Ca λo e=>hk d (by simp) o e⟩
 item:=λi s Q E p st f=>by have l:a[i]?=J a[i]:=qh p;refine aa4 st.1 st.2 l λg r j=>?_;exact f _ g s.toks ⟨_,l,rfl⟩ ⟨r,st.2.Ca λo e=>j.extBut d o (λh=>q h.symm) e⟩ λb o c e=>j.extBut b o (λh=>c<|by simp[h]) e
 done:=λs Q E st f=>abx n st.1 st.2 λg m=>f g s.toks λb o c e=>m b o (λh=>c<|by simp[h]) e
 self:=λ_ _ _ _ st f=>wpAny_pyIter_keyiter st.1 f
def Pu(hd:(a==bp)=B6)(hh:A.handled=AX)(S:HJ s.heap a d n)(hn:d.size<=sizeLine) 
  (hQ: ∀i tk,(∀b o,s.heap.get? b=A7 o->i.get? b=A7 o)->Q (d.toList.map (·.key)) {s with heap:=i,toks:=tk}):ah (ai prog w) A (fZ<|.ref a) Q E s:=by
 have v:a<s.heap.objs.size:=let⟨_,h1,_⟩:=S.at_;jW h1;have t:a≠s.heap.objs.size:=jH v;have J:a≠s.heap.objs.size+1:=jH<|vq v;have y:s.heap.objs.size≠s.heap.objs.size+1:=jH<|rH _;unfold fZ;refine iF<|DL<|ou L0 ?_;rw[pB LZ _];show ah _ A.in1 (lS []>>=λl=>again<|.builtin "list.__iadd__" ⟨[l,.ref a],[]⟩) _ _ s;refine iF<|nr ?_;refine iP ⟨qi Ds _,ou LY ?_⟩;rw[pB Ds _];show ah _ A.in1 (bO (.ref s.heap.objs.size) (.ref a)<|.ref s.heap.objs.size) _ _ _;generalize z:({cls:= .type "list",data:= .seq ([]:List iN).toArray}:eE)=f;have p:HJ (s.heap.push f) a d n:=S.Ca λo e=>jT _ e;unfold bO;refine iF<|tH (T:="dict") (s:={s with heap:=s.heap.push f}) p.typeIs ?_;have h1:b3 (.ref s.heap.objs.size) (.ref a)=B6:=by simp only[b3,wR];exact t.symm
 have c:(bi "dict"==bi "list")=B6:=by decide
 have R:(bi "dict"==bi "tuple")=B6:=by decide
 simp -iota only[h1,c,R,vb,jK,jX];refine iF<|JM (s:={s with heap:=s.heap.push f}) hd p ?_;obtain⟨c,q⟩: ∃c,c=(s.heap.push f).push {cls:= .type "dict_keyiterator",data:= .fields #[.ref a,.int 0 0,.int d.size 0,.int n 0]}:=⟨_,rfl⟩
 have u:c.IsKeyIter (s.heap.push f).objs.size a 0 d.size n:=by rw[q];exact⟨_,kh _ rfl,rfl,rfl⟩
 have r: ∀b o,(s.heap.push f).get? b=A7 o->c.get? b=A7 o:=λb o e=>by rw[q];exact jT _ e
 rw[<-q];have x:(s.heap.push f).objs.size=s.heap.objs.size+1:=qK _ _;have h:HJ c a d n:=p.Ca λo e=>r _ _ e;refine iF<|mn ?_;unfold eU;refine iF<|yk (T:="dict") (s:={s with heap:=c}) h.typeIs PySem.F.slot_dict_len.lookup ?_;generalize H:("dict.__len__":String)=id0;dsimp only;rw[show T2 id0=A7 ("dict","__len__") from by subst H;decide+kernel];dsimp only;refine iF<|yv (T:="dict") (s:={s with heap:=c}) (b:=B8) h.typeIs (by rw[Du];kernel_rfl) ?_;simp -iota only[pz,jK,jX];change ah _ _ (if _=B8 then _ else _) _ _ _;rw[iQ<|by subst H;decide+kernel];refine iF<|tH (T:="dict") (s:={s with heap:=c}) h.typeIs ?_;dsimp only;refine iP ?_;change ah _ _ (if _=B8 then _ else _) _ _ _;rw[iQ<|by decide+kernel];refine iF<|vt ?_;have C:c.get? s.heap.objs.size=A7 f:=r _ _ (kh _ (by subst z;rfl));subst z;refine iF ?_;show ah _ A.in1 (e9 s.heap.objs.size (·.push .none)>>=λ_=>e9 s.heap.objs.size (·.pop)) _ _ _;refine iF<|vW (s:={s with heap:=c}) C AU ?_;have B:=sO (aF (·.push ap)) C AU;refine vW B AU ?_;have V:=sO (aF (·.pop)) B AU
 have BU: ∀b o,b≠s.heap.objs.size->c.get? b=A7 o->((c.update s.heap.objs.size (aF (·.push ap))).update s.heap.objs.size (aF (·.pop))).get? b=A7 o:=
  λb o g e=>(vC _ _ (nL g)).trans<|(vC _ _ (nL g)).trans e
 have W:=(Gs (prog:=prog) (w:=w) (A:=A.in1) (by show A.handled=AX;exact hh) (s.heap.objs.size+1) a J.symm d n).toS;rw[x] at u;refine iP ⟨qi LX _,?_⟩;rw[x];refine LW W hn s.heap.objs.size (by simp -iota only[kW,mh,nq,pA];exact⟨y,t.symm⟩) _ d.size 0 _ _ _ rfl (lX _) ?_ V (ItemsOf.nil _) λL m c' k Z X=>?_
 .refine⟨?_,h.Ca λo e=>BU a o t e⟩;obtain⟨o,g1,g2⟩:=u;exact⟨o,BU _ o y.symm g1,g2⟩
 show ah _ A (load s.heap.objs.size>>=_) _ _ L;refine iF<|yF Z ?_;obtain⟨i,K,M,o6,G⟩:=L;have Y:K=s.gens:=k.gens;have U:M=s.drawn:=k.drawn;have D:G=s.os:=k.os;subst Y;subst U;subst D
 have N:m.toList=d.toList.map (·.key):=by
  obtain⟨a1,O⟩:=X;apply yy
  .rw[jM,kF,kF,a1]
  .intro j g1 g2;have P:m[j]?=A7 m.toList[j]:=by rw[<-ml];exact jx g1
   obtain⟨e,I,hv⟩:=O j _ P;rw[hv];rw[jM,kF] at g2;rw[yx];rw[<-ml,jx<|by rw[kF];exact g2] at I;cases I;rfl
 refine iP ?_;show Q m.toList _;rw[N];refine hQ i o6 λb o e=>?_;have g:=jW e;exact k.heap b o (by simp -iota only[kW,mh,nq,pA];exact⟨jH g,jH<|vq g⟩)<|BU b o (jH g)<|r _ _ (jT _ e)
end
end TT
namespace PX
open L2 PySem.SeqAt TS
def aeO(d:D):Option (D×Bool):=match d with
 | .BU .dct a b=>if(a.all λk=>(zL k).isSome)=I/\a≠[] then kN a else C
 |_=>rm d
section
variable {X:Cx}
def Ct{P:ja}{w:iW}{e:List ew}{f:List (Key×iN)}{a:List (Key×V)}(h:Pairs (kJ P w) e f)(q:KV a f):Vals (a.map λp=>kV p.1) (e.map (·.key)):=by
 induction h generalizing a with
 |nil=>cases q;exact .nil
 |cons h1 j t g=>
  obtain _|⟨r,q⟩:=q;refine .cons ?_<|g q;dsimp only;rw[r.1];rcases kX (show Be _ _=I from h1) with⟨i,d,b,c⟩|⟨x,d,b,c⟩
  .rw[b,c];exact⟨d,rfl⟩
  .rw[b,c];exact⟨d,rfl⟩
theorem yM{K:jb}{U:Hp}{O:BL}: ∀(a:List (Key×V)),AF K U O (a.map λp=>kf p.1)<|a.map λp=>kV p.1
 |[]=>AF.nil
 |(k,v)::a=>by
  refine AF.cons ?_<|yM a
  cases k with
  |inl i=>exact Rep.mkInt
  |inr x=>exact Rep.mkStr
def Q3(a:Gl X x)(b:X.mg x=J (.int i t))(hd:(x==("__debug__":aw))=Y):PX X (.Name x pos) (fC<|.int i):=PX.imp (Jl (v:= .int i) a b ⟨t,rfl⟩ hd) λf U Q h=>by obtain⟨d,T,r,c,E,e,k⟩:=h;cases e;exact k _ _ (CK.val .refl E Rep.mkInt)
noncomputable def Ed:FS:=λ_=>C
end
noncomputable def uW(i:Nat)(f:F):F:=λa=>match a[i]? with
 |some (J (.lst _,I))=>(f a).bind λp=>match p.1,p.2[i]? with
  |(.lst m,I),J (J (.lst l,I))=>if (A0 l)+A0 m<=sizeLine then J ((.B7,Y),p.2.set i<|J (.lst<|l++m,I)) else C
  |_,_=>C
 |_=>C
section
variable {X:Cx}{e:iK}{f:F}{b d a c:bu}{i:Nat}{x:aw}
end
structure PXs(X:Cx)(es:kD)(fs:List F):Prop where
 pa:PA X es (tA X.K<|fs.map iL)
section
variable {X:Cx}{e:iK}{b:kD}{f:F}{fs:List F}{a:bu}
end
structure QX(X:Cx)(e:iK)(f:F):Prop where
 h:PX X e f
structure QO(X:Cx)(e:iK)(f:FO):Prop where
 h:PX.PO X e f
structure QA(X:Cx)(es:kD)(fs:List FO):Prop where
 h:PA X es (tA X.K fs)
structure QL(X:Cx)(es:kD)(fs:List F):Prop where
 h:PXs X es fs
structure QT(X:Cx)(e:iK)(f:FT):Prop where
 h:Oc X e f
structure QW(X:Cx)(e:iK)(f:FT):Prop where
 h:PWX X e f
structure QG(X:Cx)(A:kK)(e:iK)(t:Tg):Prop where
 h:MW X A e t
structure QI(X:Cx)(B:SB)(tg e:iK)(f:Fi):Prop where
 h:MV X B tg e f
structure QF(X:Cx)(es:kD)(f:FT):Prop where
 h:Ky X es (tT X.K f)
structure QB(X:Cx)(A:kK)(d:iE)(e:iK)(n:Nat)(f:FB):Prop where
 h:PB X (jI e n (.ref d) X.env) (KU B6 X.K A d f)
structure QS(X:Cx)(A:kK)(L:LL)(H0:Hp)(st:bn)(f:FS):Prop where
 h:Nh X A L H0 st f
structure QQ(X:Cx)(A:kK)(L:LL)(H0:Hp)(st:List bn)(f:FS):Prop where
 h:Iv X A L H0 st f
structure QC(X:Cx)(v:iN)(g:List D->Option (D×Bool)):Prop where
 h:kG X v (Ib X.K g)
structure QP(X:Cx)(o:zf)(g:D->D->Option (D×Bool)):Prop where
 h:ES X o (rD X.K g)
abbrev SE(X:Cx)(e:iK)(a:kD):Prop:=ag (e::a) X.env=(Y,aM e X.env)::ag a X.env
abbrev BA(X:Cx)(p:bu)(a:kD):Prop:=(aQ p<|ag a X.env).any (·.1)=Y
abbrev DB(x:aw):Prop:=(x==("__debug__":aw))=Y
abbrev un(A:iY)(n:Nat):Prop:=A.units+n<aS
structure ZZ where
 P:ja
 w:iW
 K:jb
 mg:aw->Option iN
 base:iX
def Oz(Z:ZZ)(k:Nat)(x:aw)(b:jh)(c:Cn):Prop:= ∃f a,Eg Z.P Z.w Z.K Z.mg Z.base Im k f a b (Ko Z.K c)/\Z.mg x=J (.ref f)/\bG Z.K (.ref f)=I/\Binds Z.K a b []
def Oz.up{Z:ZZ}{k j:Nat}{x:aw}{d:jh}{c:Cn}(o:Oz Z k x d c)(h:k<=j:=by decide):Oz Z j x d c:=let⟨f,e,a,b⟩:=o;⟨f,e,a.mono h,b⟩
noncomputable abbrev zX(X:Cx):ZZ:=⟨X.prog,X.w,X.K,X.mg,X.base⟩
noncomputable def Kv:List (aw×iN):=[("len",.builtin "len"),("abs",.builtin "abs"),("int",.type "int"),("tuple",.type "tuple"),("list",.type "list"),("bool",.type "bool"),("max",.builtin "max"),("min",.builtin "min"),("all",.builtin "all"),("any",.builtin "any"),("sorted",.builtin "sorted"),("set",.type "set")]
def btA{c:ly}(T:Tx c): ∀p∈Kv,c p.1=C/\aA p.1=J p.2:=by
 have h: ∀p∈Kv,aA p.1=J p.2:=by decide+kernel
 intro p b;refine⟨?_,h p b⟩;have a:p∈Kv:=b;unfold Kv at a;simp only[kW,mh,nq] at a;rcases a with rfl|rfl|rfl|rfl|rfl|rfl|rfl|rfl|rfl|rfl|rfl|rfl
 .exact T.n_len
 .exact T.n_abs
 .exact T.n_int
 .exact T.n_tuple
 .exact T.n_list
 .exact T.n_bool
 .exact T.n_max
 .exact T.n_min
 .exact T.n_all
 .exact T.n_any
 .exact T.n_sorted
 .exact T.n_set
theorem HM{z:aw}{v:iN}: ∀{l:List (aw×iN)},l.lookup z=J v->(z,v)∈l
 |[],h=>by cases h
 |(y,u)::l,h=>by
  rw[oV] at h;split at h
  .rename_i q;cases h;rw[vD q];exact .head _
  .exact .tail _ (HM h)
def MQ{a:ly}{z:aw}{v:iN}(T:Tx a)(h:Kv.lookup z=J v):a z=C:=(btA T _ (HM h)).1
def Nb{z:aw}{v:iN}(h:Kv.lookup z=J v):aA z=J v:=(show ∀p∈Kv,aA p.1=J p.2 from by decide+kernel) _ (HM h)
section
variable {X:Cx}{x z:aw}{e a b c st lo J:iK}{M:kD}{Y fb fc fo fl fh:FO}{f g:F}{ft fu:FT}{p p2 p3 G U apos:bu}{A:kK}{L:LL}{B:SB}{H0:Hp}{fs:List FO}{cw:List F}{i j k:Nat}{tg:iK}{S:bn}{Ss Ts:List bn}{u v:FS}
def xV(h1:X.N[i]?=A7 x:=by rfl)(l:NG X.env.scope x:=by first|exact bf rfl|exact bh (bf H)|exact bh<|bh H)(m:DB x:=by decide)(n:(x==("__classdict__":aw))=B6:=by decide):QO X (.Name x G) (iG i):=⟨PE.imp' (yO h1 l m n) λw O Q h=>by
 obtain⟨r,T,o,s,E,e,k⟩:=h;unfold iG at e
 cases J:r[i]? with
 |none=>rw[J] at e;cases e
 |some q=>
  cases q with
  |none=>rw[J] at e;cases e
  |some p=>obtain⟨d,b⟩:=p;rw[J] at e;obtain⟨rfl,rfl⟩:=jd e;obtain⟨t,v,h1,l⟩:=E.freeze J;exact⟨v,h1,k v O ⟨.refl,E,h1⟩⟩⟩
def xW(h1:X.N[i]?=A7 x:=by rfl)(l:NG X.env.scope x:=by first|exact bf rfl|exact bh (bf H)|exact bh<|bh H)(n:DB x:=by decide)(q:(x==("__classdict__":aw))=B6:=by decide):QX X (.Name x G) (kI i):=⟨PX.imp (yO h1 l n q) λw O Q h=>by
 obtain⟨s,T,r,t,E,e,k⟩:=h;unfold kI at e
 cases J:s[i]? with
 |none=>rw[J] at e;cases e
 |some o=>
  cases o with
  |none=>rw[J] at e;cases e
  |some p=>obtain⟨d,b⟩:=p;rw[J] at e;cases e;obtain⟨m,v,h1,l⟩:=E.freeze J;exact⟨v,h1,k v O<|CK.val .set m l⟩⟩
def xO(h:QX X e f):QO X e (iL f):=⟨PX.po h.h⟩
def x1{j}:QX X (.Constant .none j G) (fC .B7):=⟨PX.imp U4 λm O Q h=>by obtain⟨l,T,r,d,E,e,k⟩:=h;cases e;exact k _ _ (CK.val .refl E (by first|exact Rep.mkInt|exact Rep.KL|exact Rep.Ig|exact Rep.mkStr))⟩
def x2{i j}:QX X (.Constant (.bool i) j G) (fC<|.bl i):=⟨S6⟩
def x3{i j}:QX X (.Constant (.int i) j G) (fC<|.int i):=⟨PX.imp U6 λm O Q h=>by obtain⟨l,T,r,d,E,e,k⟩:=h;cases e;exact k _ _ (CK.val .refl E (by first|exact Rep.mkInt|exact Rep.KL|exact Rep.Ig|exact Rep.mkStr))⟩
def x4{i j}:QX X (.Constant (.str i) j G) (fC<|.str i):=⟨PX.imp U1 λm O Q h=>by obtain⟨l,T,r,d,E,e,k⟩:=h;cases e;exact k _ _ (CK.val .refl E (by first|exact Rep.mkInt|exact Rep.KL|exact Rep.Ig|exact Rep.mkStr))⟩
def x5{i:Int}(h: ∃t,X.mg x=A7 (.int i t))(g:Gl X x:=by rfl)(d:DB x:=by decide):QX X (.Name x G) (fC<|.int i):=let⟨_,h⟩:=h;⟨Q3 g h d⟩
def x7:QX X (.Dict [] [] G) Tn:=⟨PX.imp ael λo O Q h=>by obtain⟨n,T,m,l,E,e,k⟩:=h;cases e;intro p d;have B:=Ops.nil E;exact(B.done k) p _ d (lQ d) ⟨[],.inl ⟨[],jl,rfl,rfl⟩,AF.nil⟩⟩
def ll{d:Operator}{g:D->D->Option (D×Bool)}(o:QP X (bw d) g)(l:QO X a Y)(m:QO X b fb):QX X (.BinOp a d b G) (iZ g Y fb):=⟨px2<|XW o.h l.h m.h⟩
def zD(d:QO X a Y):QX X (.UnaryOp .USub a G) (lL zO Y):=⟨px1<|XU Qr d.h⟩
def Zo(q:QX X a f):QX X (.UnaryOp .Not a G) (VV f):=⟨PX.imp (U3 q.h) λN O Q s=>by obtain⟨w,T,r,y,E,e,k⟩:=s;obtain⟨p,h1,e⟩:=iC e;obtain⟨⟨c,C⟩,n,m⟩:=iC e;obtain⟨o,rfl⟩:=BN n;obtain⟨rfl,rfl⟩:=jd m;refine⟨w,T,_,_,E,h1,λv l P=>?_⟩;obtain⟨d,t⟩:=P.rep E;exact⟨c,t.bl,k _ l (CK.val P.1 d Rep.KL)⟩⟩
def Ke{d:cO}{g:D->D->Option (D×Bool)}(o:QP X (av d) g)(l:QO X a Y)(m:QO X b fb)(n:cW d b=B6:=by first|exact N5 _|with_unfolding_all rfl):QX X (.Compare a [d] [b] G) (iZ g Y fb):=⟨px2<|Ri o.h l.h m.h n⟩
def Cb{d:cO}{g:D->D->Option (D×Bool)}(o:QP X (av d) g)(l:QO X a Y)(m:QO X b fb)(n:cW d b=B6:=by first|exact N5 _|with_unfolding_all rfl):QT X (.Compare a [d] [b] G) (fT<|iZ g Y fb):=⟨
 PT.imp' (Q8 o.h l.h m.h n) λr T Q q=>Rt XQ<|SR q⟩
def xCh{d l:cO}(m:QO X a Y)(n:QO X b fb)(o:QO X c fc)(s:CW d:=by first|exact .inl rfl|exact .inr (.inl H)|exact .inr (.inr<|.inl H)|exact .inr<|.inr<|.inr H)(t:CW l:=by first|exact .inl rfl|exact .inr (.inl H)|exact .inr (.inr<|.inl H)|exact .inr<|.inr<|.inr H)(q:lastMarks [d,l] [b,c]=B6:=by with_unfolding_all rfl):QX X (.Compare a [d,l] [b,c] G) (Bv d l Y fb fc):=⟨
 PX.imp (aem (Js s) (Js t) m.h n.h o.h q) λw T Q r=>adG r⟩
def Nj{op}(d:QX X a f):QX X (.BoolOp op [a] G) f:=⟨U2 d.h⟩
def ME(C:QX X a f)(I:QX X (.BoolOp .And (b::M) G) g):QX X (.BoolOp .And (a::b::M) G) (EJ f g):=⟨PX.imp (U8 C.h I.h) λF H Q O=>by
 obtain⟨D,T,r,l,E,e,k⟩:=O;obtain⟨p,h1,e⟩:=iC e;obtain⟨⟨c,m⟩,y,d⟩:=iC e;obtain⟨o,rfl⟩:=BN y;refine⟨D,T,_,_,E,h1,λv q P=>?_⟩;obtain⟨n,N⟩:=P.rep E;refine⟨c,N.bl,?_⟩
 cases c with
 |true=>rw[iQ AU] at d;rw[iQ AU];exact⟨m,T,r,l,n,d,λw s t=>k w s<|t.pre P.1⟩
 |false=>rw[jc ki] at d;rw[jc ki];obtain⟨rfl,rfl⟩:=jd d;exact k _ q (CK.val P.1 n Rep.KL)⟩
def MM(w:QT X a ft)(y:QW X (.BoolOp .And (b::M) G) fu):QW X (.BoolOp .And (a::b::M) G) (pZ ft fu):=⟨PW.imp' (UO w.h y.h) λO N Q C=>by
 obtain⟨I,T,c,l,E,e,k⟩:=C;obtain⟨⟨o,d⟩,h1,e⟩:=iC e;refine⟨I,T,o,d,E,h1,λr n m=>?_⟩
 cases o with
 |true=>rw[iQ H] at e;rw[iQ H];exact⟨d,T,c,l,m,e,λs t q=>k s (n.trans t) q⟩
 |false=>rw[jc ki] at e;rw[jc ki];obtain⟨rfl,rfl⟩:=jd e;exact k r n m⟩
def Nn(w:QT X a ft)(y:QW X (.BoolOp .Or (b::M) G) fu):QW X (.BoolOp .Or (a::b::M) G) (Ge ft fu):=⟨PW.imp' (XT w.h y.h) λO N Q C=>by
 obtain⟨I,T,c,l,E,e,k⟩:=C;obtain⟨⟨o,d⟩,h1,e⟩:=iC e;refine⟨I,T,o,d,E,h1,λr n m=>?_⟩
 cases o with
 |true=>rw[iQ H] at e;rw[iQ H];obtain⟨rfl,rfl⟩:=jd e;exact k r n m
 |false=>rw[jc ki] at e;rw[jc ki];exact⟨d,T,c,l,m,e,λs t q=>k s (n.trans t) q⟩⟩
def Fc(d:QT X a ft):QW X (.BoolOp .And [a] G) ft:=⟨Q6 d.h⟩
def Qq(d:QT X a ft):QW X (.BoolOp .Or [a] G) ft:=⟨UN d.h⟩
def tW{op}(h:QW X (.BoolOp op M G) ft):QT X (.BoolOp op M G) ft:=⟨PW.pt h.h⟩
def KR(m:QT X a ft):QT X (.UnaryOp .Not a G) (vO ft):=⟨PT.imp' (UR m.h) λr O Q n=>by obtain⟨o,T,c,q,E,e,k⟩:=n;obtain⟨⟨l,d⟩,h1,e⟩:=iC e;obtain⟨rfl,rfl⟩:=jd e;exact⟨o,T,l,d,E,h1,k⟩⟩
def BV(h:QX X e f)(l: ∀d,isTrue e X.env d=(do let v <-d;cb e.pos;bB [v] (lf v)):=by intro _;rfl):QT X e (fT f):=⟨PT.imp' (UQ h.h l) λn T Q m=>SR m⟩
def xIf(y:QT X c ft)(s:QX X a f)(t:QX X b g):QX X (.IfExp c a b G) (Lq ft f g):=⟨PX.imp (aek y.h s.h t.h) λN H Q C=>by
 obtain⟨I,T,r,l,E,e,k⟩:=C;obtain⟨⟨c,d⟩,h1,e⟩:=iC e;refine⟨I,T,c,d,E,h1,λO q o=>?_⟩
 cases c with
 |true=>rw[iQ AU] at e;rw[iQ AU];exact⟨d,T,r,l,o,e,λw m n=>k w m<|n.pre q⟩
 |false=>rw[jc ki] at e;rw[jc ki];exact⟨d,T,r,l,o,e,λw m n=>k w m<|n.pre q⟩⟩
def F2(d:QO X a Y)(l:QO X b fb)(m:Ka b:=by exact λ_ _=>rfl):QX X (.Subscript a b G) (iZ Ep Y fb):=⟨px2<|XX Yk d.h l.h m⟩
def Zk(r:QO X a Y)(s:QO X lo fl):QX X (.Subscript a (.Slice (A7 lo) AX AX p2) G) (JR Y fl):=⟨
 PX.imp (FE XB r.h (Jh s.h) Ji) λP H Q w=>by
  obtain⟨O,T,K,N,E,e,k⟩:=w;unfold JR at e;obtain⟨⟨o,d⟩,h1,e⟩:=iC e;obtain⟨⟨I,m⟩,q,e⟩:=iC e;dsimp only at e;split at e
  .rename_i i J;obtain⟨x,y,e⟩:=iC e;obtain⟨z,C,e⟩:=iC e;obtain⟨rfl,rfl⟩:=jd e;refine⟨O,T,o,d,E,h1,λv D l=>⟨d,Co T o v,I,m,l.er E,q,λu F n=>?_⟩⟩;have B:=Ops.cons E l<|Ops.cons (l.er E) n<|Ops.nil<|n.er<|l.er E;exact⟨i,jr<|B.view (j:=1) AU AU J,_,x,z,λp t=>B.np t,B.view (j:=0) AU AU y,C,B.done k⟩
  .cases e⟩
def T6(r:QO X a Y)(s:QO X J fh):QX X (.Subscript a (.Slice AX (A7 J) AX p2) G) (Br Y fh):=⟨
 PX.imp (FE XB r.h Ji<|Jh s.h) λP H Q w=>by
  obtain⟨O,T,K,N,E,e,k⟩:=w;unfold Br at e;obtain⟨⟨o,d⟩,h1,e⟩:=iC e;obtain⟨⟨I,m⟩,q,e⟩:=iC e;dsimp only at e;split at e
  .rename_i i J;obtain⟨x,y,e⟩:=iC e;obtain⟨z,C,e⟩:=iC e;obtain⟨rfl,rfl⟩:=jd e;refine⟨O,T,o,d,E,h1,λv D l=>⟨d,Co T o v,I,m,l.er E,q,λu F n=>?_⟩⟩;have B:=Ops.cons E l<|Ops.cons (l.er E) n<|Ops.nil<|n.er<|l.er E;exact⟨i,jr<|B.view (j:=1) AU AU J,_,x,z,λp t=>B.np t,B.view (j:=0) AU AU y,C,B.done k⟩
  .cases e⟩
def D5:QL X [] []:=⟨⟨Eh⟩⟩
def xL(d:QX X e f)(l:QL X M cw)(m:SE X e M:=by rfl):QL X (e::M) (f::cw):=⟨⟨xh (PX.po d.h) l.h.pa m⟩⟩
def BD:QA X [] []:=⟨Eh⟩
def xA(d:QO X e Y)(l:QA X M fs)(m:SE X e M:=by rfl):QA X (e::M) (Y::fs):=⟨xh d.h l.h m⟩
def ng{k}(h:QL X M cw):QX X (.Tuple M k G) (nh cw):=⟨UG h.h.pa⟩
def qe(h:QL X M cw):QX X (.List M G) (nC cw):=⟨UL h.h.pa⟩
def xB{id:String}{g:List D->Option (D×Bool)}(T:Tx X.mg)(hv:Kv.lookup z=A7 (.builtin id))(m:QC X (.builtin id) g)(l:QA X (e::M) fs)(o:Gl X z:=by rfl)(q:z≠"__name__":=by decide)(r:DB z:=by decide)(n:SE X e M:=by rfl)(d:BA X G M:=by rfl):QX X (.Call (.Name z p) (e::M) [] G) (jq g fs):=⟨Je m.h o (MQ T hv) (Nb hv) l.h q r n d⟩
def xT{id:String}{g:List D->Option (D×Bool)}(T:Tx X.mg)(hv:Kv.lookup z=A7 (.type id))(m:QC X (.type id) g)(l:QA X (e::M) fs)(o:Gl X z:=by rfl)(q:z≠"__name__":=by decide)(r:DB z:=by decide)(n:SE X e M:=by rfl)(d:BA X G M:=by rfl):QX X (.Call (.Name z p) (e::M) [] G) (jq g fs):=⟨Jc m.h o (MQ T hv) (Nb hv) l.h q r n d⟩
def xI{t:Ty}(T:Tx X.mg)(d:Kv.lookup z=A7 (.type t.n))(o:QO X e Y)(q:Gl X "isinstance":=by rfl)(l:Gl X z:=by rfl)(r:z≠"__name__":=by decide)(s:DB z:=by decide)
  (s1:SE X e [.Name z p2]:=by rfl)(w:SE X (.Name z p2) []:=by rfl)(m:BA X G [.Name z p2]:=by rfl):
  QX X (.Call (.Name "isinstance" p) [e,.Name z p2] [] G) (lL (wM [t]) Y):=⟨UM o.h q T.n_isinstance l (MQ T d) (Nb d) r s ot s1 w m⟩
def xI2{t q:Ty}{d:aw}{p4:bu}{l}(T:Tx X.mg)(o:Kv.lookup z=A7 (.type t.n))(m:Kv.lookup d=A7 (.type q.n))(E:QO X e Y)(H:Gl X "isinstance":=by rfl)(r:Gl X z:=by rfl)(I:z≠"__name__":=by decide)(O:DB z:=by decide)(w:Gl X d:=by rfl)(s:d≠"__name__":=by decide)(y:DB d:=by decide)
  (s1:SE X e [.Tuple [.Name z p2,.Name d p3] l p4]:=by rfl)(Q:SE X (.Tuple [.Name z p2,.Name d p3] l p4) []:=by rfl)
  (N:SE X (.Name z p2) [.Name d p3]:=by rfl)(s4:SE X (.Name d p3) []:=by rfl)
  (C:BA X G [.Tuple [.Name z p2,.Name d p3] l p4]:=by rfl):
  QX X (.Call (.Name "isinstance" p) [e,.Tuple [.Name z p2,.Name d p3] l p4] [] G) (lL (wM [t,q]) Y):=⟨Q0 E.h H T.n_isinstance r (MQ T o) (Nb o) I O w (MQ T m) (Nb m) s y ot s1 Q N s4 C⟩
def xU{k:Nat}{y:jh}{d:Cn}(O:Oz (zX X) k x y d)(s:C2 k X.A)(n:QA X (e::M) fs)(q:Gl X x:=by rfl)(t:DB x:=by decide)
  (o:SE X e M:=by rfl)(m:BA X G M:=by rfl):QX X (.Call (.Name x p) (e::M) [] G) (jg d fs):=
 let⟨_,_,ok,r,w,l⟩:=O;⟨QY ok s q r w l n.h t o m⟩
def Zl{T:String}{mk:List D->D}{o:Bool}(d:Tx X.mg)(hv:Kv.lookup z=A7 (.type T))(r:QA X [a,b] [Y,fb])(q:(T="list"/\mk= .lst/\o=I)\/(T="tuple"/\mk= .tup/\o=B6):=by first|exact .inl ⟨rfl,rfl,rfl⟩|exact .inr ⟨rfl,rfl,rfl⟩)(s:X.calm=I:=by rfl)(t:Gl X z:=by rfl)(w:z≠"__name__":=by decide)(y:DB z:=by decide)(m:Gl X "range":=by rfl)
  (s1:SE X (.Call (.Name "range" p2) [a,b] [] p3) []:=by rfl)(Q:SE X a [b]:=by rfl)
  (n:BA X G []:=by rfl)(l:BA X p3 [b]:=by rfl):
  QX X (.Call (.Name z p) [.Call (.Name "range" p2) [a,b] [] p3] [] G) (jq (NU mk o) [Y,fb]):=⟨UH q s t (MQ d hv) (Nb hv) w y m d.n_range r.h s1 Q n l⟩
def Kf(hv:QO X (.Name x U) (iG i))(he:QX X e f)(i3:bN (.Name x U) "append" X.env (aM (.Name x U) X.env)=aM (.Name x U) X.env:=by rfl)
  (n4:((aQ G<|ag [e] X.env).all (λx=>!x.1)&&(f4 G<|dM [] X.env).all (λx=>x.1.isSome)&&decide ([e].length+([]:List cG).length+(if([]:List cG).isEmpty then 0 else 1)<30))=B8:=by rfl)
  (h9:(apos.endLine==G.line)=B8:=by rfl)(C:SE X e []:=by rfl)(g0:BA X G []:=by rfl):QX X (.Call (.Attribute (.Name x U) "append" apos) [e] [] G) (mE i f):=⟨
 PX.imp (Jn Ah PySem.F.slot_list_append PySem.F.type_list_append ac9 hv.h (lD he.h oK C) i3 n4 h9 C g0) λσ H Q V=>by
 obtain⟨n,T,rr,δ',E,e,k⟩:=V;unfold mE at e;split at e
 .rename_i l0 t;obtain⟨⟨r,o⟩,h1,e⟩:=iC e;dsimp only at e;split at e
  .rename_i l w;obtain⟨W,e⟩:=jf e;obtain⟨rfl,rfl⟩:=rJ e;refine⟨n,T,.slot i,n,E,by unfold iG;rw[t],λv H1 P=>?_⟩;obtain⟨D,m,d⟩:=P;obtain⟨a,g1,R,g2,g3⟩:=m.own i _ t;rw[d] at g1;cases g1;refine⟨.inl ⟨rfl,R,Fp.of g2⟩,n,T,r,o,m,h1,λy H2 s=>?_⟩;obtain⟨q,ry⟩:=s.rep m;obtain⟨a',I,xs,Z,O⟩:=q.own i _ w;rw[d] at I;cases I;refine⟨_,xs,y,rfl,rfl,Z,by rw[O.length];exact W,?_⟩;obtain⟨N,K⟩:=q.write w d<|O.append<|AF.one ry;exact k _ _ (CK.val ((D.trans s.1).trans K) N Rep.Ig)
  .cases e
 .cases e⟩
def Zq(hv:QO X (.Name x U) (iG i))(he:QX X e f)(i3:bN (.Name x U) "extend" X.env (aM (.Name x U) X.env)=aM (.Name x U) X.env:=by rfl)
  (n4:((aQ G<|ag [e] X.env).all (λx=>!x.1)&&(f4 G<|dM [] X.env).all (λx=>x.1.isSome)&&decide ([e].length+([]:List cG).length+(if([]:List cG).isEmpty then 0 else 1)<30))=B8:=by rfl)
  (h9:(apos.endLine==G.line)=B8:=by rfl)(I:SE X e []:=by rfl)(g0:BA X G []:=by rfl):QX X (.Call (.Attribute (.Name x U) "extend" apos) [e] [] G) (uW i f):=⟨
 PX.imp (Jn Ah PySem.F.slot_list_extend PySem.F.type_list_extend ac8 hv.h (lD he.h oK I) i3 n4 h9 I g0) λσ H Q hw=>by
 obtain⟨s,T,rr,δ',E,e,k⟩:=hw;unfold uW at e;split at e
 .rename_i l0 w;obtain⟨⟨r,n⟩,h1,e⟩:=iC e;dsimp only at e;split at e
  .rename_i m l C;obtain⟨hz,e⟩:=jf e;obtain⟨rfl,rfl⟩:=rJ e;refine⟨s,T,.slot i,s,E,by unfold iG;rw[w],λv H1 P=>?_⟩;obtain⟨Z,o,d⟩:=P;obtain⟨a,g1,cy,g2,g3⟩:=o.own i _ w;rw[d] at g1;cases g1;refine⟨.inl ⟨rfl,cy,Fp.of g2⟩,s,T,_,n,o,h1,λy W q=>?_⟩;obtain⟨t,ry⟩:=q.rep o;obtain⟨p,rfl,hp,eJ,R,o1,O⟩:=q.2;obtain⟨a',N,xs,q2,D⟩:=t.own i _ C;rw[d] at N;cases N;have gA:AF X.K W (λb=>AZ σ n b\/T b) m R:=AF.mono (λ_ _ e _=>e) (λb _ z=>z.elim bf λz=>bh<|bf z) O;refine⟨_,p,xs,R,rfl,rfl,q2,o1,by rw[D.length,O.length];exact hz,?_⟩;obtain⟨V,K3⟩:=t.write C d<|D.append gA;exact k _ _ (CK.val ((Z.trans q.1).trans K3) V Rep.Ig)
  .cases e
 .cases e⟩
def Zn(hv:QO X (.Name x U) (iG i))(he:QO X e fo)(i3:bN (.Name x U) "pop" X.env (aM (.Name x U) X.env)=aM (.Name x U) X.env:=by rfl)
  (n4:((aQ G<|ag [e] X.env).all (λx=>!x.1)&&(f4 G<|dM [] X.env).all (λx=>x.1.isSome)&&decide ([e].length+([]:List cG).length+(if([]:List cG).isEmpty then 0 else 1)<30))=B8:=by rfl)
  (h9:(apos.endLine==G.line)=B8:=by rfl)(hs:SE X e []:=by rfl)(g0:BA X G []:=by rfl):QX X (.Call (.Attribute (.Name x U) "pop" apos) [e] [] G) (Bt i fo):=⟨
 PX.imp (Jn Ah LJ LH ad9 hv.h (lD he.h oK hs) i3 n4 h9 hs g0) λσ H Q hw=>by
 obtain⟨C,T,rr,δ',E,e,k⟩:=hw;unfold Bt at e;split at e
 .rename_i l0 N;obtain⟨⟨o,q⟩,h1,e⟩:=iC e;dsimp only at e;split at e
  .rename_i R l hk D;split at e
   case isFalse=>cases e
   rename_i F;obtain⟨j,hj,e⟩:=iC e;obtain⟨d,hd,e⟩:=iC e;obtain⟨rfl,rfl⟩:=jd e;refine⟨C,T,.slot i,C,E,by unfold iG;rw[N],λv H1 P=>?_⟩;obtain⟨K1,r,m⟩:=P;obtain⟨a,g1,cy,g2,g3⟩:=r.own i _ N;rw[m] at g1;cases g1;refine⟨.inl ⟨rfl,cy,Fp.of g2⟩,C,T,o,q,r,h1,λy H2 O=>?_⟩;have B:=Ops.cons r O<|Ops.nil<|O.er r;have vy:=jr<|B.view (j:=0) AU AU hk;have I:ER X.K H2 T σ q:=B.er.mono (λ_ _ e _=>e) (λb _ z=>B.tt b z) λa z=>B.er.dom a<|B.tt a z;obtain⟨a',V,W,q2,t⟩:=I.own i _ D;rw[m] at V;cases V;obtain⟨w,w1,w2⟩:=t.get hd;have hl:=t.length;have gH:Ir W.length R=A7 j:=by rw[hl];exact hj
   obtain⟨s1,s2,s3,s4⟩:=Ew gH;obtain⟨Z,s⟩:=I.write D m<|AF.erase j t;refine⟨_,W,R,j,w,rfl,by rw[vy],q2,F.1,F.2,s1,w1,?_⟩;exact k _ _ (CK.val ((K1.trans B.keep).trans s) Z<|Rep.mono (λb o e n=>s.kp b o e λz=>n<|.inl z) (λb _ z=>z.imp (s.ow b) id) w2)
  .cases e
 .cases e⟩
def PU(T:Tx X.mg)(t:QA X [a] [Y])(w:Gl X "range":=by rfl)(C:ag [a] X.env=[(B6,aM a X.env)]:=by rfl):QI X B tg (.Call (.Name "range" p) [a] [] G) (HQ Y):=⟨PI.imp' (acX w T.n_range t.h C) λF H R I=>by
 obtain⟨O,T,D,Q,E,e,k⟩:=I;obtain⟨⟨os,l⟩,h1,e⟩:=iC e;refine⟨O,T,os,l,E,h1,λn o N B=>?_⟩;dsimp only at e;split at e
 .rename_i j m;obtain⟨⟨q,s⟩,e⟩:=jf e;obtain⟨rfl,rfl⟩:=rJ e;have hv:=uI B m (j:=0) AU;obtain⟨y,_⟩:=pR m
  have:n=[.int j]:=by
   have d:=B.len
   cases n with
   |nil=>simp at hv
   |cons v r=>
    cases r with
    |nil=>simp at hv;rw[hv]
    |cons _ _=>simp at y d;lia
  exact⟨j,this,q,s,k _ o B.keep (B.er.mono (λ_ _ e _=>e) (λb _ z=>B.tt b z) λa z=>B.er.dom a<|B.tt a z) (Bg 0 j.toNat)⟩
 .cases e⟩
def PR(T:Tx X.mg)(w:QA X [a,b] [Y,fb])(C:Gl X "range":=by rfl)(O:ag [a,b] X.env=[(B6,aM a X.env),(B6,aM b X.env)]:=by rfl)(t:ag [b] X.env=[(B6,aM b X.env)]:=by rfl):QI X B tg (.Call (.Name "range" p) [a,b] [] G) (zM Y fb):=⟨PI.imp' (acW C T.n_range w.h O t) λP H R Q=>by
 obtain⟨N,T,K,D,E,e,k⟩:=Q;obtain⟨⟨os,n⟩,h1,e⟩:=iC e;refine⟨N,T,os,n,E,h1,λo q F B=>?_⟩;dsimp only at e;split at e
 .rename_i i j m;obtain⟨s,e⟩:=jf e;obtain⟨rfl,rfl⟩:=rJ e;have hv:=uI B m (j:=0) AU;have l:=uI B m (j:=1) AU;obtain⟨I,_⟩:=pR m
  have:o=[.int i,.int j]:=by
   have d:=B.len
   match o,hv,l with
   |[x,y],hv,l=>simp at hv l;rw[hv,l]
   |x::y::z::r,_,_=>simp at I d;lia
  exact⟨i,j,this,s,k _ q B.keep (B.er.mono (λ_ _ e _=>e) (λb _ z=>B.tt b z) λa z=>B.er.dom a<|B.tt a z) (Bg i (j-i).toNat)⟩
 .cases e⟩
def iS(h:QX X e f):QI X B tg e (kM f):=⟨PI.imp' (FD (B:=B) (PX.po h.h) Qx) λq T R l=>by
 have:kM f=Bf (iL f):=funext λm=>by
  unfold kM Bf iL
  cases f m with
  |none=>rfl
  |some p=>obtain⟨⟨d,o⟩,n⟩:=p;cases d<;>rfl
 rwa [this] at l⟩
def iSV(h:QO X e (iG i))(d:B i:=by decide):QI X B tg e (Bf<|iG i):=⟨FD h.h<|D9 d⟩
def iZV{d:kD}{w:Nat}{y:bu}(T:Tx X.mg)(q:QO X a (iG i))(r:QO X b (iG j))(l:B i:=by decide)(m:B j:=by decide)(s:Gl X "zip":=by rfl)(t:SE X a [b]:=by rfl)(n:SE X b []:=by rfl)(o:BA X G [b]:=by rfl):
  QI X B (.Tuple d w y) (.Call (.Name "zip" p) [a,b] [] G) (uq (iG i)<|iG j):=⟨aed s T.n_zip q.h r.h (D9 l) (D9 m) t n o⟩
def gN(l:X.N.Nodup)(J:X.N[i]?=A7 x:=by rfl)(q:Loc X.env.scope x:=by first|exact bf rfl|exact bh H)(n:X.fn x=I\/X.env.scope.names.lookup x=A7 .local:=by first|exact bf rfl|exact bh H)(m:A i:=by decide):QG X A (.Name x G) (iT i):=⟨PG.imp' (Jj l J q n) λv w O Q o=>by obtain⟨t,T,d,s,E,r,e,k⟩:=o;obtain⟨J,rfl⟩:=jf e;obtain⟨h1,h⟩:=AJ (A:=A) (r:=(d,B6)) (v:=v) E (CK.val .refl E r) J m;exact k _ h1 h⟩
def gT{d l:Tg}{k:Nat}(h1:QG X A a d)(m:QG X A b l)(n:X.calm=I:=by rfl)(r:(aU [a,b] X.env).map (·.2)=cg a X.env::(aU [b] X.env).map (·.2):=by rfl)(s:(aU [b] X.env).map (·.2)=cg b X.env::(aU [] X.env).map (·.2):=by rfl)
  (o:(aU [a,b] X.env).length=2:=by rfl)(q:(aU [a,b] X.env).findIdx? (·.1)=C:=by rfl):QG X A (.Tuple [a,b] k G) (IK [d,l]):=⟨Rg n (CC h1.h (CC m.h aef s) r) o H q⟩
def f0:QF X [] kr:=⟨λd s m O Q N h=>by obtain⟨n,T,b,l,E,e,k⟩:=h;cases e;exact Rb d s m O Q N<|k O .refl E⟩
def f1(h:QT X e ft):QF X [e] ft:=⟨Ra h.h⟩
def bE{m:qI}{sc:jG}{d:iE}{n:Nat}(he:QX X e f)(hn:m[n+1]?=AX:=by rfl):QB X A d (.ListComp e m sc p) n (kd f):=⟨PB.imp' (Rk hn he.h) λw H N D=>by
 obtain⟨I,T,Q,Z,W,B,e,k⟩:=D;obtain⟨⟨r,l⟩,h1,e⟩:=iC e;obtain⟨K,e⟩:=jf e;obtain⟨rfl,rfl⟩:=rJ e;refine⟨I,T,r,l,B.er,h1,λv q P=>?_⟩;obtain⟨y,V⟩:=P.rep B.er;have C:SK A w I H w l q:=P.1.sk;have O:=B.step C y;obtain⟨t,F,E⟩:=O.at';refine⟨t,F,by rw[E.length];exact K,k w _ ?_ ?_⟩
 .have:Kw A d w l q w l (upd q d<|.lst<|t++[v]):=⟨λa o e n R=>by rw[ji R];exact e,λi a z=> .inl z,λa z=>by
   by_cases s:a=d
   .subst s;rw[jl];simp
   .rw[ji s];exact z,λ_ _=>rfl⟩
  exact C.N6.trans this
 .have hk: ∀b o,q b=A7 o-> ¬T b->upd q d (.lst<|t++[v]) b=A7 o:=λb o e n=>by rw[ji<|by intro z;subst z;exact n B.td];exact e
  have hd: ∀a,T a->Ow (upd q d (.lst<|t++[v]) a):=λa z=>by
   by_cases s:a=d
   .subst s;rw[jl];trivial
   .rw[ji s];exact y.dom a z
  refine⟨y.mono hk (λ_ _ z=>z) hd,B.td,t++[v],jl,?_⟩;exact AF.mono (λb o e n=>hk b o e λz=>n<|.inr z) (λ_ _ z=>z)<|E.append<|AF.one V⟩
def bF{l:qI}{q:jG}{d:iE}{n:Nat}{c:pk}{o:Fi}{tt:Tg}{fb:FB}(y:l[n+1]?=A7 c)(O:QI X (λ_=>False) c.target c.iter o)(Q:QG X A c.target tt)(s:QF X c.ifs ft)(T:QB X A d (.ListComp e l q p) (n+1) fb)(r:X.xe=λ_ _=>False:=by rfl)(w:X.calm=I:=by rfl)
  (t:c.is_async=0:=by rfl)(E: ∀m,l[n+1+1]?=A7 m->m.is_async=0:=by intro m h;cases h;try rfl)(N: ∀x,ax c.iter X.env x=pure x:=by intro _;rfl):QB X A d (.ListComp e l q p) n (PK o tt ft fb):=⟨Rj r w (bf ⟨_,_,_,_,rfl⟩) y t E N O.h Q.h s.h T.h⟩
def K6{N P:jh}{l scope:jG}{N':jh}{d:kb}(S:AY N P l)(h:EM N l scope N' d k=I:=by decide+kernel)(m:X.N=N:=by rfl)(n:X.env.scope=l:=by rfl):EL X N' scope d k:=Pr m n h
def xC{c:pk}{jA:qI}{r:iK}{scope:jG}{t:Fi}{tt:Tg}{w:FT}{fb:FB}{m:kb}{N':jh}(C:EL X N' scope m k)(O:N'.Nodup)(Q:QI X (λi=>i∉m) c.target c.iter t)
  (T: ∀(cl:kT) (C:iE) (q:iJ) (n:Hp) (o:kB) (l:ju),(X.comp N' scope cl C q n o l).N.Nodup->
   QG (X.comp N' scope cl C q n o l) (λi=>A0 m<=i) c.target tt/\QF (X.comp N' scope cl C q n o l) c.ifs w/\ ∀d,QB (X.comp N' scope cl C q n o l) (λi=>A0 m<=i) d (.ListComp r (c::jA) scope G) 0 fb)
  (E:X.calm=B8:=by rfl)(y:c.is_async=0:=by rfl)(I: ∀s,jA[0]?=A7 s->s.is_async=0:=by intro s h;cases h;try rfl)(H: ∀x,ax c.iter X.env x=pure x:=by intro _;rfl):QX X (.ListComp r (c::jA) scope G) (jL m k t tt w fb):=⟨Q4 C E y I H Q.h λcl C q n o l=>let⟨a,b,c⟩:=T cl C q n o l O;⟨a.h,b.h,λd=>(c d).h⟩⟩
def sC{c:pk}{jA:qI}{n:iK}{scope:jG}{t:Fi}{tt:Tg}{E:FT}{fb:FB}{m:kb}{N':jh}{y w:bu}(O:X.N.Nodup)(C:EL X N' scope m k)(nd:N'.Nodup)(pi:QI X (λi=>i∉m) c.target c.iter t)
  (q9: ∀(cl:kT) (C:iE) (r:iJ) (o:Hp) (q:kB) (l:ju),(X.comp N' scope cl C r o q l).N.Nodup->
   QG (X.comp N' scope cl C r o q l) (λi=>A0 m<=i) c.target tt/\QF (X.comp N' scope cl C r o q l) c.ifs E/\ ∀d,QB (X.comp N' scope cl C r o q l) (λi=>A0 m<=i) d (.ListComp n (c::jA) scope G) 0 fb)
  (H:bJ (.ListComp n (c::jA) scope G) (A7<|.Name x y) w.line X.env=pure B8:=by rfl)(J:X.N[i]?=A7 x:=by rfl)(hx:X.env.scope.names.lookup x=A7 .local:=by rfl)(hf:X.fn x=B8:=by rfl)(I:A i:=by decide)
  (T:X.calm=B8:=by rfl)(Q:c.is_async=0:=by rfl)(l7: ∀s,jA[0]?=A7 s->s.is_async=0:=by intro s h;cases h;try rfl)(hs: ∀x,ax c.iter X.env x=pure x:=by intro _;rfl):QS X A L H0 (.Assign [.Name x y] (.ListComp n (c::jA) scope G) w) (kx i<|jL m k t tt E fb):=⟨aeA H C T Q l7 hs pi.h (Jj O J (bf hx)<|bf hf) I λcl C r o q l=>let⟨a,b,c⟩:=q9 cl C r o q l nd;⟨a.h,b.h,λd=>(c d).h⟩⟩
def s0:QQ X A L H0 [] jk:=⟨Io.imp' Jf λD l Q d=>by obtain⟨n,T,h,E,m,e,k⟩:=d;cases e;exact k l Q .refl E⟩
def s1(h:QS X A L H0 S u)(O:QQ X A L H0 Ss v):QQ X A L H0 (S::Ss) (iU u v):=⟨Io.imp' (ug h.h O.h) λD P H Q=>by
 obtain⟨N,T,w,E,y,e,k⟩:=Q;obtain⟨o,I,e⟩:=iC e;refine⟨N,T,o,E,y,I,?_⟩
 cases o with
 |nx l=>
  intro F K t C;refine⟨l,T,w,C,y.step t,e,?_⟩
  cases w with
  |nx q=>exact λd m n s=>k d m (t.trans n) s
  |bk q=>exact λd m n s=>k d m (t.trans n) s
  |ct q=>exact λd m n s=>k d m (t.trans n) s
  |rt r q=>exact λv d m n R2=>k v d m (t.trans n) R2
 |rt r l=>cases e;exact k
 |bk l=>cases e;exact k
 |ct l=>cases e;exact k⟩
def sX:QS X A L H0 S Ed:=⟨λd s o Q D O h=>by obtain⟨n,T,l,E,m,e,k⟩:=h;cases e⟩
def sR(h:QX X e f):QS X A L H0 (.Return (A7 e) G) (lz f):=⟨PS.imp' (Nv h.h) λD O Q s=>by
 obtain⟨w,T,t,E,n,e,k⟩:=s;obtain⟨p,l,e⟩:=iC e;cases e;refine⟨w,T,p.1,p.2,E,l,λv m P=>k v O m P.1.sk ?_⟩;obtain⟨⟨d,o⟩,y⟩:=p
 cases o with
 |false=>exact P.2
 |true=>obtain⟨q,h1,r,l⟩:=P.2;exact⟨q,h1,n.fresh r,l⟩⟩
def PJ(hl: ¬L.p i)(h1:X.N[i]?=A7 x:=by rfl)(r:NG X.env.scope x:=by first|exact bf rfl|exact bh (bf AU)|exact bh<|bh AU)(h3:DB x:=by decide)(h4:(x==("__classdict__":aw))=B6:=by decide):QS X A L H0 (.Return (A7<|.Name x p) G) (qm i):=⟨PS.imp' (Nv<|yO h1 r h3 h4) λD o H V=>by
 obtain⟨n,T,W,E,P,e,k⟩:=V;unfold qm at e
 cases J:n[i]? with
 |none=>rw[J] at e;cases e
 |some q=>
  cases q with
  |none=>rw[J] at e;cases e
  |some p=>
   obtain⟨d,b⟩:=p;have R:i<(A0 n):=(uD.mp J).1
   cases b with
   |false=>rw[J] at e;cases e;obtain⟨v,h1,r⟩:=E.val i d J;exact⟨v,h1,k v o H .refl ⟨E,r⟩⟩
   |true=>
    rw[J] at e;cases e;obtain⟨a,h1,r⟩:=E.own i d J
    have h: ∀j b,BW o (n.set i AX) j b->i≠j/\BW o n j b:=λj b a'=>by
     obtain⟨m,g1,g2⟩:=a'
     rcases mq g1 with⟨_,_,q⟩|⟨ne,q⟩
     .cases q
     .exact⟨ne,m,q,g2⟩
    have l: ∀b,AZ o (n.set i AX) b->AZ o n b/\b≠a:=λb a'=>by
     obtain⟨j,m,g1,g2⟩:=a'
     obtain⟨ne,y,g3,O⟩:=h j b ⟨m,g1,g2⟩;exact⟨⟨j,y,g3,O⟩,λz=>ne<|by subst z;exact E.inj i j d y _ J g3 h1 O⟩
    have Q:AZ o n a:=⟨i,d,J,h1⟩
    have sub: ∀b,H b≠AX->(AZ o (n.set i AX) b\/(T b\/b=a))->(AZ o n b\/T b):=λb _ z=>by
     rcases z with z|z|z
     .exact .inl (l b z).1
     .exact .inr z
     .subst z;exact .inl Q
    refine⟨.ref a,h1,k (.ref a) o H ⟨λ_ _ e _=>e,λj b z=> .inl (h j b z).2,λ_ z=>z,λ_ _=>rfl⟩ ⟨a,rfl,?_,?_,r.mono (λ_ _ e _=>e) sub λ_ e=>e⟩⟩
    .rcases P.ow i a ⟨d,J,h1⟩ with z|z
     .exact absurd z hl
     .exact z
    .refine⟨by rw[vB];exact E.len,λj m s=>?_,λj m s=>?_,λj k m K b s hk g1 g2=>?_,λb z t=>?_,λb z=>?_⟩
     .rcases mq s with⟨_,_,q⟩|⟨ne,q⟩
      .cases q
      .obtain⟨w,C,I⟩:=E.val j m q;exact⟨w,C,Rep.mono (λ_ _ e _=>e) sub I⟩
     .rcases mq s with⟨_,_,q⟩|⟨ne,q⟩
      .cases q
      .obtain⟨w,C,I⟩:=E.own j m q;exact⟨w,C,I.mono (λ_ _ e _=>e) sub λ_ e=>e⟩
     .obtain⟨_,y,Z,q2⟩:=h j b ⟨m,s,g1⟩;obtain⟨_,F,q3,q4⟩:=h k b ⟨K,hk,g2⟩;exact E.inj j k y F b Z q3 q2 q4
     .obtain⟨z1,z2⟩:=l b z;rcases t with t|t
      .exact E.nT b z1 t
      .exact z2 t
     .rcases z with z|z
      .exact E.dom b z
      .subst z;exact E.Kp Q⟩
def sE(h:QX X e f)(m:bJ e C G.line X.env=pure B6:=by rfl):QS X A L H0 (.Expr e G) (nO f):=⟨PS.imp' (Jg h.h m) λD r Q n=>by obtain⟨q,T,o,E,s,e,k⟩:=n;obtain⟨p,l,e⟩:=iC e;cases e;exact⟨q,T,p.1,p.2,E,l,λv d P=>k r d P.1.sk (P.rep E).1⟩⟩
def sI(m:QT X c ft)(d:QQ X A L H0 Ss u)(l:QQ X A L H0 Ts v):QS X A L H0 (.If c Ss Ts G) (FH ft u v):=⟨US m.h d.h l.h⟩
def sW{n:Nat}(l:QT X c ft)(d:QQ X A L H0 Ss u)(m:fg (ai X.prog X.w) X.A X.env X.xe:=by exact PassesOwn.never):QS X A L H0 (.While c Ss [] G) (nZ ft u n):=⟨adx m l.h d.h⟩
def sF{d:Fi}{t:Tg}(J:QI X (λ_=>False) tg e d)(n:QG X A tg t)(l:QQ X A L H0 Ss u)(o:fg (ai X.prog X.w) X.A X.env X.xe:=by exact PassesOwn.never)(m:X.calm=I:=by rfl)(q: ∀x,ax e X.env x=pure x:=by intro _;rfl):QS X A L H0 (.For tg e Ss [] G) (tu d t u):=⟨Q9 o m J.h n.h l.h q⟩
def sS(o:X.N.Nodup)(s:QX X e f)(J:X.N[i]?=A7 x:=by rfl)(C:Loc X.env.scope x:=by first|exact bf rfl|exact bh AU)(t:X.fn x=B8\/X.env.scope.names.lookup x=A7 .local:=by first|exact bf rfl|exact bh AU)(q:A i:=by decide)(w:bJ e (A7<|.Name x p) G.line X.env=pure B6:=by rfl):QS X A L H0 (.Assign [.Name x p] e G) (kx i f):=⟨PS.imp' (Nu o J C s.h w t) λD F H y=>by obtain⟨O,T,I,E,Q,e,k⟩:=y;obtain⟨⟨r,d⟩,n,e⟩:=iC e;obtain⟨J,rfl⟩:=jf e;refine⟨O,T,r,d,E,n,λv l P=>?_⟩;obtain⟨h1,m⟩:=AJ (A:=A) E P J q;exact k _ l h1 m⟩
def sT{t:Tg}{pt:bu}(C:QX X e f)(I:QG X A (.Tuple M k pt) t)(O:fA [.Tuple M k pt] e G.line X.env=pure B6:=by rfl)(l:fF [.Tuple M k pt] e X.env=pure AX:=by rfl)(h1:(aU [.Tuple M k pt] X.env).map (·.2)=[cg (.Tuple M k pt) X.env]:=by rfl):QS X A L H0 (.Assign [.Tuple M k pt] e G) (QJ t f):=⟨PS.imp' (HB C.h I.h O l h1) λD R H l=>by obtain⟨F,T,Q,E,K,e,k⟩:=l;obtain⟨⟨r,d⟩,h1,e⟩:=iC e;obtain⟨m,y,e⟩:=iC e;cases e;refine⟨F,T,r,d,E,h1,λv s P=>?_⟩;obtain⟨q,N⟩:=P.rep E;exact⟨d,T,r.1,m,q,N,y,λn w o=>k n s (P.1.sk.trans w) o⟩⟩
def Ci{m:bu}(hv:QO X (.Name x U) (iG i))(he:QX X e f)(J:QO X a fo)
  (ha: ∀v,cg (.Subscript (.Name x U) a m) X.env v=(do
   let w <-bB [v] (aM (.Name x U) X.env)
   let C' <-bB [v,w] (aM a X.env)
   cb m
   bB [v,w,C'] (li w C' v)
   UV [v,w,C'] []):=by intro _;rfl)
  (hs:fA [.Subscript (.Name x U) a m] e G.line X.env=pure B6:=by rfl)(y:fF [.Subscript (.Name x U) a m] e X.env=pure C:=by rfl)
  (h1:(aU [.Subscript (.Name x U) a m] X.env).map (·.2)=[cg (.Subscript (.Name x U) a m) X.env]:=by rfl):QS X A L H0 (.Assign [.Subscript (.Name x U) a m] e G) (wD i f fo):=⟨PS.imp' (HB he.h (NH hv.h J.h adU ha) hs y h1) λD I H y=>by
 obtain⟨P,T,out,E,fi,e,k⟩:=y;obtain⟨⟨r,d⟩,h1,e⟩:=iC e;dsimp only at e;split at e
 case h_2=>cases e
 rename_i y0 h0;obtain⟨⟨o,t⟩,h2,e⟩:=iC e;dsimp only at e;split at e
 .rename_i kk l hk Q;obtain⟨j,hj,e⟩:=iC e;cases e;refine⟨P,T,r,d,E,h1,λv V n=>⟨d,MR T r v,.slot i,d,n.er E,by unfold iG;rw[h0],λv2 H2 q=>⟨d,MR T r v,o,t,q.er<|n.er E,h2,λv3 W P3=>?_⟩⟩⟩;have iw:HH X.K T I P H (.val r) d v V:=n;have B:=Ops.cons E iw<|Ops.cons (n.er E) q<|Ops.cons (q.er<|n.er E) P3<|Ops.nil<|P3.er<|q.er<|n.er E;have O:ER X.K W T I t:=B.er.mono (λ_ _ e _=>e) (λb _ z=>B.tt b z) λa z=>B.er.dom a<|B.tt a z;have s:I[i]?=A7 (A7 v2):=q.2.2;obtain⟨a,N,xs,q2,F⟩:=O.own i _ Q;rw[s] at N;cases N;have vk:=jr<|B.view (j:=2) AU AU hk;have rv:=B.rep E (j:=0) (r:=r) AU AU;refine⟨a,xs,kk,j,rfl,vk,q2,by rw[F.length];exact hj,?_⟩;obtain⟨R,Z⟩:=O.write Q s<|AF.set rv j F;exact k _ _ (B.keep.trans Z).sk R
 .cases e⟩
def sDP{C:bu}(hu:un X.A 1)(hv:QO X (.Name x U) (iG i))(he:QX X e f)(J:QO X a fo)
  (ha: ∀v,cg (.Subscript (.Name x U) a C) X.env v=(do
   let ov <-bB [v] (aM (.Name x U) X.env)
   let iv <-bB [v,ov] (aM a X.env)
   cb C
   bB [v,ov,iv] (li ov iv v)
   UV [v,ov,iv] []):=by intro _;rfl)
  (hs:fA [.Subscript (.Name x U) a C] e G.line X.env=pure B6:=by rfl)(hw:fF [.Subscript (.Name x U) a C] e X.env=pure AX:=by rfl)
  (h1:(aU [.Subscript (.Name x U) a C] X.env).map (·.2)=[cg (.Subscript (.Name x U) a C) X.env]:=by rfl):QS X A L H0 (.Assign [.Subscript (.Name x U) a C] e G) (Fu i f fo):=⟨PS.imp' (HB he.h (NH hv.h J.h (adV hu) ha) hs hw h1) λD O H hw=>by
 obtain⟨δ,T,out,E,fi,e,k⟩:=hw;obtain⟨⟨r,d⟩,h1,e⟩:=iC e;dsimp only at e;split at e
 case h_2=>cases e
 rename_i y0 h0;obtain⟨⟨o,l⟩,h2,e⟩:=iC e;dsimp only at e;split at e
 .rename_i R V W hk h3;obtain⟨⟨P,m⟩,e⟩:=jf e;cases e;refine⟨δ,T,r,d,E,h1,λv H1 Q=>⟨d,MR T r v,.slot i,d,Q.er E,by unfold iG;rw[h0],λv2 H2 F=>⟨d,MR T r v,o,l,F.er<|Q.er E,h2,λv3 N P3=>?_⟩⟩⟩;have iw:HH X.K T O δ H (.val r) d v H1:=Q;have B:=Ops.cons E iw<|Ops.cons (Q.er E) F<|Ops.cons (F.er<|Q.er E) P3<|Ops.nil<|P3.er<|F.er<|Q.er E;have E3:ER X.K N T O l:=B.er.mono (λ_ _ e _=>e) (λb _ z=>B.tt b z) λa z=>B.er.dom a<|B.tt a z;have y:O[i]?=A7 (A7 v2):=F.2.2;obtain⟨a,q1,us,q2,q3⟩:=E3.own i _ h3;rw[y] at q1;cases q1;have vk:=B.view (j:=2) AU AU hk;have rv:=B.rep E (j:=0) (r:=r) AU AU;have oa:AZ O l a:=⟨i,_,h3,y⟩
  have kp: ∀(q:HO) b u,N b=A7 u-> ¬(AZ O l b\/T b)->upd N a q b=A7 u:=λq b u e n=>by rw[ji<|by intro z;subst z;exact n<|.inl oa];exact e
  have ks10:10000<sizeLine:=by rw[jQ];decide
  have fin: ∀q Z,Ey X.K (A7 q) .dct (va V W R r.1).1 (va V W R r.1).2 Z->AF X.K N (λa=>AZ O l a\/T a) (va V W R r.1).2 Z->D.nx O (upd N a q):=λq Z g1 g2=>by obtain⟨E4,K4⟩:=E3.HR (o:=q) (d':= .BU .dct (va V W R r.1).1 (va V W R r.1).2) h3 y ⟨Z,by rw[jl];exact g1,AF.mono (kp q) (λ_ _ z=>z) g2⟩;exact k _ _ (B.keep.trans K4).sk E4
  refine⟨a,rfl,?_⟩;rcases q2 with⟨kvs,eH,rfl,rfl⟩|⟨kvs,eH,rfl,rfl⟩
  .rw[jM] at m;rcases xG P with⟨κ,g1,_⟩|⟨τ,g1,g2⟩
   .have w:=uH g1 vk;have s:=rk g1;subst s;obtain⟨I,p2⟩:=S8 (k:=κ) rv q3;refine .inl ⟨_,by rw[w];exact K7.k eH<|by lia,fin _ _ (.inl ⟨_,rfl,I,rfl⟩) p2⟩
   .have cS:kvs=[]:=by
     cases kvs with
     |nil=>rfl
     |cons p kvs=>obtain⟨c,hc⟩:=g2 (kf p.1) (by simp);exact(F1 hc).elim
    subst cS;obtain⟨b,w,eb⟩:=qU g1 vk;have s:=xF g1;subst s;obtain⟨I,p2⟩:=S7 (k:=τ) (kvs:=[]) rv q3;exact .inr<|.inr ⟨τ,b,eH,w,eb,fin _ _ (.inr ⟨[(τ,v)],rfl,I,rfl⟩) p2⟩
  .rw[jM] at m;rcases xG P with⟨κ,g1,g2⟩|⟨τ,g1,_⟩
   .have cS:kvs=[]:=by
     cases kvs with
     |nil=>rfl
     |cons p kvs=>obtain⟨c,hc⟩:=g2 (.tup<|p.1.map kf) (by simp);exact(IJ hc).elim
    subst cS;have w:=uH g1 vk;have s:=rk g1;subst s;obtain⟨I,p2⟩:=S8 (k:=κ) (kvs:=[]) rv q3;exact .inr<|.inl ⟨κ,eH,w,fin _ _ (.inl ⟨[(κ,v)],rfl,I,rfl⟩) p2⟩
   .obtain⟨b,w,eb⟩:=qU g1 vk;have s:=xF g1;subst s;obtain⟨I,p2⟩:=S7 (k:=τ) rv q3;refine .inl ⟨_,by rw[w];exact K7.t eH eb<|by lia,fin _ _ (.inr ⟨_,rfl,I,rfl⟩) p2⟩
 .cases e⟩
end
def Fz(K:jb)(b:ly)(x:aw)(st:bn):Prop:= ∃f a,b x=J (.ref f)/\KY K x x st f a
def fz{K:jb}{h:iX}{e:ly}{x:aw}{st:bn}{f:iE}{i:iN}{j g:Option iE}{n:ze}{kV b m d ct:iN}(X:K.In h)(G:h.Ns aj e)(a:aO K aj x=J (J<|.ref f))
  (l:K.lookup f=J ⟨i,j,.func<|b4 x x (sD st) (lV st) (iI st) .none kV b m g d ct,n⟩)(c:eh K d x=I)(k:bG K (.ref f)=I):Fz K e x st:=⟨f,_,nb X G a,OY l c k⟩
def Lv(x:aw)(st:bn)(c:jh):Prop:= ∀(kV a f:iN) (d:Option iE) (e ct:iN) (b:jF),A0 b=A0 c->e7 (b4 x x (sD st) (lV st) (iI st) .none kV a f d e ct) ⟨b,[]⟩=pure (c.zip b)
def Fh{N P:jh}{a:jG}(h1:a.kind= .function:=by rfl)(b:a.isCoroutine=Y:=by rfl)(c:a.isGenerator=Y:=by rfl)(d:N.Nodup:=by decide+kernel)(e:N.take P.length=P:=by rfl)(f: ∀x∈P,a.names.lookup x=J .local\/a.names.lookup x=J .cell:=by decide+kernel)(g: ∀y∈a.names,y.2≠ .free:=by decide+kernel):AY N P a:=⟨h1,b,c,d,e,f,g⟩
def Bd(Z:ZZ)(k:Nat)(x:aw)(st:bn)(N d:jh)(c:kb)(fs:FS):Prop:= ∀(f:iE) (b:iN) (A:iY) (a:List df) (s:iJ) (U:Hp) (E:XK) (L:LL),(∀i,L.p i->i<A0 d)->C2 k (A.deeper<|aR x (iI st) s.heap.objs.size f b)->
 un (A.deeper<|aR x (iI st) s.heap.objs.size f b) 60->un (A.deeper<|aR x (iI st) s.heap.objs.size f b) 1->un (A.deeper<|aR x (iI st) s.heap.objs.size f b) 62->un (A.deeper<|aR x (iI st) s.heap.objs.size f b) 90->N.Nodup->
 QQ (rn Im Z.P Z.w Z.K Z.mg Z.base N x (iI st) f b A a s U E).Kh (λi=>i∈c) L U (lV st) fs
def fnB{Z:ZZ}{k:Nat}{x:aw}{st:bn}{N c:jh}{b:kb}{fs:FS}{f:iE}{d:mI}(F:KY Z.K x x st f d)(S:AY N c (iI st))(j:Bd Z k x st N c b fs):Eg Z.P Z.w Z.K Z.mg Z.base Im (k+1) f d c (Ko Z.K<|Cg (A0 N) (A0 c) b fs):=
 VM F S λg A a s U E L i e=>by have:=e.un;exact(j f g A a s U E L i e (by unfold un;omega) (by unfold un;omega) (by unfold un;omega) (by unfold un;omega) S.nd).h
def PL{Z:ZZ}{k:Nat}{x:aw}{st:bn}{N c:jh}{asg:kb}{fs:FS}(a:Fz Z.K Z.mg x st)(S:AY N c (iI st))(b:Lv x st c)(e:Bd Z k x st N c asg fs):Oz Z (k+1) x c (Cg (A0 N) (A0 c) asg fs):=
 let⟨f,d,m,F⟩:=a;⟨f,d,fnB F S e,m,F.kp,F.binds b⟩
def NO{P:List iN->Prop}(h:P []): ∀b:List iN,A0 b=0->P b:=λb e=>by cases b with|nil=>exact h|cons a l=>cases e
def N2{P:List iN->Prop}{n:Nat}(h: ∀a,∀b:List iN,A0 b=n->P (a::b)): ∀b:List iN,A0 b=n+1->P b:=λb e=>by cases b with|nil=>cases e|cons a l=>exact h a l<|Nat.succ.inj e
def oz0{Z:ZZ}{x:aw}{st:bn}{c:jh}(a:Fz Z.K Z.mg x st)(b:Lv x st c):Oz Z 0 x c (λ_=>C):=
 let⟨f,d,m,F⟩:=a;⟨f,d,R6,m,F.kp,F.binds b⟩
def mgI{K:jb}{h:iX}{b:ly}{x:aw}{i:Int}{t:wl}(X:K.In h)(G:h.Ns aj b)(a:aO K aj x=J (J<|.int i t)): ∃t,b x=J (.int i t):=⟨t,nb X G a⟩
def txK{K:jb}{h:iX}{g:ly}(X:K.In h)(G:h.Ns aj g)(i:aO K aj "len"=J C)(j:aO K aj "abs"=J C)(k:aO K aj "int"=J C)(l:aO K aj "tuple"=J C)(m:aO K aj "list"=J C)(n:aO K aj "range"=J C)(o:aO K aj "isinstance"=J C)(p:aO K aj "bool"=J C)(q:aO K aj "max"=J C)(r:aO K aj "min"=J C)(a:aO K aj "all"=J C)(b:aO K aj "any"=J C)(c:aO K aj "sorted"=J C)(d:aO K aj "enumerate"=J C)(e:aO K aj "zip"=J C)(f:aO K aj "set"=J C):Tx g:=⟨oU X G i,oU X G j,oU X G k,oU X G l,oU X G m,oU X G n,oU X G o,oU X G p,oU X G q,oU X G r,oU X G a,oU X G b,oU X G c,oU X G d,oU X G e,oU X G f⟩
end PX
namespace L2
open PySem.W
structure NL(P:ja)(w:iW)(outer:List df)(H:Hp)(s:iJ)(C:iE)(H':Hp)(ea:iE)(s':iJ)(h0 B:iX)(F:kB):Prop where
 os:s'.os=s.os
 bare:dW s'.gens
 un:Un (HC outer) [] H H' s.heap h0
 hok:Ft P w H' h0
 fr: ∀b∈F,H' b=AX/\(b∈HC outer\/s.heap.objs.size<=b)
 st: ∀b o,h0.get? b=A7 o->b∉F->B.get? b=A7 o
 fl: ∃a0,Heap.FlyingW B outer ea (.ref C) a0 s'.heap
 up:h0.UpToSlots s'.heap
 ne:h0.get? ea=AX
def Kl(P:ja)(w:iW):Kn:=λa U s E e f=> ∃T b c d B F,e= .ref c/\NL P w a U s T b c f d B F/\E (.ref T) C b
section
variable {P:ja}{w:iW}{c:List df}{H h:Hp}{s s':iJ}{C i:iE}{g B d:iX}{F:kB}
def NL.end(f:NL P w c H s C h i s' g B F)(t: ∀b∈HC c,∃o,s.heap.get? b=J o/\(∀O,o.data≠ .fields O)/\H b=AX)(E:B.StaysIn d)(v:g.UpToSlots d):Un (HC c) [] H h s.heap d/\Ft P w h d:=by
 have keep: ∀b o,g.get? b=J o->b∉F->d.get? b=J o:=λb o e n=>E b o<|f.st b o e n
 have x: ∀b o,s.heap.get? b=J o->b∉HC c->b∉F:=λb o e n z=>by
  rcases(f.fr b z).2 with q|q
  .exact n q
  .exact absurd (jW e) (P7.mpr q)
 refine⟨⟨λb o e n j k=>keep b o (f.un.keep b o e n j k)<|x b o e j,λb o e n j k=>?_,f.un.free,λb o e k=>?_,f.un.tups,f.un.frzs,f.un.tbls⟩,λa o e=>?_⟩
 .obtain⟨U,m,r,_⟩:=t b j;rw[e] at m;cases m;obtain⟨L,l⟩:=f.un.slot b o e n j k;obtain⟨A,p⟩:=v b _ l r;exact⟨A,p⟩
 .by_cases j:b∈HC c
  .obtain⟨U,m,r,n⟩:=t b j;rw[e] at m;cases m;obtain⟨L,l⟩:=f.un.slot b o e n j k;obtain⟨A,p⟩:=v b _ l r;exact⟨_,p⟩
  .obtain⟨y,l⟩:=f.un.there b o e k;exact⟨y,keep b y l<|x b o e j⟩
 .refine(f.hok a o e).Ca (λb u j q=>keep b u q λz=>?_) (λ_ q=>q) λ_ _ q=>q;have:=(f.fr b z).1;rcases j with rfl|j
  .rw[e] at this;cases this
  .rw[j] at this;cases this
end
section
variable {X:Cx}{g:ju}{k:St}{H:Hp}{s s':iJ}{C j:iE}
def Inv.OR(U:Inv X g k H s): ∀b∈HC X.stack,∃o,s.heap.get? b=J o/\(∀d,o.data≠ .fields d)/\H b=AX:=λb a=>by obtain⟨_,o,c,hd⟩:=U.stack.mem a;exact⟨o,c,hd,U.Ht b a⟩
def HU(X:Cx)(P:ja)(w:iW)(d:List df)(i:Hp)(s0:iJ)(E:XK):Prop:=X.prog=P/\X.w=w/\X.stack=X.env::d/\X.outer=d/\X.H₀=i/\X.s₀=s0/\X.ex=[]/\X.env.frame=J X.env.locals/\
 ∀e s',ah (ai P w) X.A (Wp X.env e) (λ_ a=>Kl P w d i s0 E e a) (λb a=>Kl P w d i s0 E b a) s'->X.xe e s'
def uE{P:ja}{w:iW}{K:jb}{a:ly}{base:iX}{N:jh}{qual:aw}{scope:jG}{f:iE}{cd:iN}{A:iY}{d:List df}{s:iJ}{H:Hp}{E:XK}:
  HU (rn (Kl P w) P w K a base N qual scope f cd A d s H E) P w d H s E:=⟨rfl,rfl,rfl,rfl,rfl,rfl,rfl,rfl,λ_ _ h=>h⟩
variable {P:ja}{w:iW}{d:List df}{i:Hp}{s0:iJ}{E:XK}
def adf{r:Hp}{u:iX}{L:iE}(a:Un (HC d) [] i H s0.heap s.heap)(b:Un (L::HC d) [] H r s.heap u)(A:s0.heap.objs.size<=L):Un (HC d) [] i r s0.heap u where
 keep:=λc o q n h e=>b.keep c o (a.keep c o q n h e) (a.free c o q n e) (λz=>(kW.mp z).elim (λz=>by subst z;exact absurd (jW q)<|P7.mpr A) h) e
 slot:=λc o q n h e=>by obtain⟨Q,f⟩:=a.slot c o q n h e;obtain⟨y,m⟩:=b.slot c _ f (a.free c o q n e) (jZ _ h) e;exact⟨y,m⟩
 free:=λc o q n e=>by obtain⟨p,f⟩:=a.there c o q e;exact b.free c p f (a.free c o q n e) e
 there:=λc o q e=>by obtain⟨p,f⟩:=a.there c o q e;exact b.there c p f e
 tups:=λc l q=>b.tups c l<|a.tups c l q
 frzs:=λc o l q=>b.frzs c o l<|a.frzs c o l q
 tbls:=λc O q=>by obtain⟨B,f⟩:=a.tbls c O q;obtain⟨U,m⟩:=b.tbls c _ f;exact⟨B++U,by rw[m,Hj]⟩
def Bp{a:df}{L:iE}(h:a.frame=J L):HC (a::d)=L::HC d:=by unfold HC;rw[vF,h]
def HU.made(x:HU X P w d i s0 E)(U:Inv X g k H s){r:iX}{f:jF}(p:Heap.MadeExcOf s.heap r j (.ref C) f)(q:E (.ref C) AX H):X.xe (.ref j) {s with heap:=r}:=by
 obtain⟨rfl,rfl,c,B,rfl,rfl,hex,u,v⟩:=x;refine v _ _ (wpAny_leaves_madeW (base:=hideAll s.heap<|HC X.stack) (h:=s.heap) (L:=X.env.locals) (U.ok.frames.trans<|by rw[c]) u (λb o e=>of_hideAll _ e) ?_ p λO t y _ _ up=>?_)
 .rw[<-c];exact funFrames_hide U.stack λm A a z=>c7.mpr ⟨m,A,z⟩
 .refine⟨C,H,j,s.heap,_,HC X.stack,rfl,⟨U.os,U.bare,?_,U.hok,λb l=>⟨U.Ht b l,?_⟩,λb o e n=>hideAll_get _ e n,⟨_,y⟩,(Heap.UpToSlots.of_keeps p.keeps).trans up,p.new⟩,q⟩
  .have:=U.base;unfold Cx.fs at this
   rwa [B,hex] at this
  .rw[c,Bp u] at l;rcases kW.mp l with rfl|l
   .exact .inr U.ok.above
   .exact .inl l
def HU.pass(x:HU X P w d i s0 E):EX (Kl P w) X E:=λg k H s e s' U h=>by
 obtain⟨rfl,rfl,c,v,rfl,rfl,hex,l,r⟩:=x;obtain⟨C,o,j,u,B,F,rfl,f,q⟩:=h;obtain⟨p,m⟩:=f.fl;rw[c] at m;refine r _ _ (wpAny_leaves_onW (L:=X.env.locals) (U.ok.frames.trans<|by rw[c]) l m λy t up=>?_);refine⟨C,o,j,u,B,F,rfl,⟨f.os.trans U.os,f.bare,?_,f.hok,λb n=>⟨(f.fr b n).1,?_⟩,f.st,⟨p,t⟩,f.up.trans up,f.ne⟩,q⟩
 .have a:=U.base;unfold Cx.fs at a;rw[v,hex] at a;have b:=f.un;rw[c,Bp l] at b;exact adf a b U.ok.above
 .rcases(f.fr b n).2 with z|z
  .rw[c,Bp l] at z;rcases kW.mp z with rfl|z
   .exact .inr U.ok.above
   .exact .inl z
  .exact .inr (mT U.sz z)
end
abbrev Ot:List Value:=[.type "ValueError",.type "Exception",.type "BaseException",.type "object"]
def Sm{K:Frag}{h:iX}{U:iE}{b:jF}{e:String}(c:K.In h)(q:excIn K U b e=I):
  ∃a N nm g bs hd sn sub ab col dd k0 k1 k2 k3 k5 j,h.get? U=J (excClassObj nm g U N bs a hd sn sub ab col dd k0 k1 k2 k3 k5 e)/\h.Ns N j/\j "__init__"=C/\OwnTail h b a:=by
 unfold excIn at q;split at q
 case h_2=>cases q
 rename_i dd cd i lk;split at q
 case h_2=>cases q
 rename_i y a k0 k1 k2 k3 n k5 p r;rw[lA,lA,lA,lA,lA] at q;obtain⟨⟨⟨⟨⟨t,u⟩,v⟩,w⟩,k⟩,x⟩:=q;cases Gq.mp t;cases Gq.mp u;obtain⟨nm,bs,f,s,g,hd,sn,sub,ab,col,d⟩:=cd;have l:f= .ref U::a:=p;have m:d=Y:=by simpa using v
 obtain⟨i⟩:=i;have o:i=[k0,k1,k2,k3,J<|.builtin e,k5]:=r;subst l m o;exact⟨a,s,nm,g,bs,hd,sn,sub,ab,col,dd,k0,k1,k2,k3,k5,_,c _ _ lk,.of_isNs<|isNs_of_in c k,nsMap_none_of_in c k<|Gq.mp x,tail_of_in c w⟩
section
variable {X:Cx}{P:ja}{w:iW}{b:List df}{g:Hp}{s0:iJ}{E:XK}{x:aw}{C:iE}{a:iK}{d:TE}{np f c:bu}
def aeC(G:HU X P w b g s0 E)(z:X.calm=B8)(t:excIn X.K C Ot "ValueError.__new__"=B8)(B:X.mg x=A7 (.ref C))(A:Gl X x)(y:PE X a d)(hd:(x==("__debug__":aw))=B6)
  (n:ag [a] X.env=[(B6,aM a X.env)]):PS X (.Raise (A7<|.Call (.Name x np) [a] [] f) AX c) (λD k H'=>d k H' λ_ l=>E (.ref C) AX l):=by
 intro i s k H' D I h;apply FL;intro J O;obtain⟨M,N,nm,T,bs,o,sn,sub,ab,col,dd,k0,k1,k2,k3,k5,Y,h1,p,r,m⟩:=Sm I.ok.mod.kin t;apply O;have L:(aQ f<|ag [a] X.env).any (·.1)=B6:=by rw[n];rfl
 refine wpAny_Raise_call_subT (nm:=nm) (q:=T) (N:=N) (bs:=bs) (hdct:=o) (sn:=sn) (sub:=sub) (ab:=ab) (col:=col) (dd:=dd) (k0:=k0) (k1:=k1) (k2:=k2) (k3:=k3) (k5:=k5) PySem.F.excBase_ValueError (m.hasType<|by decide) (I.ok.hd z) L r<|xy I A B ⟨rfl,?_⟩ hd;rw[n];refine Mk<|Hf (Bo (y i s k H' _ I h) λu s1 a'=>by obtain⟨v,l,j,r1,Q⟩:=a';exact Hg ⟨rfl,(show 1<=sizeLine by decide),j.bk _ _ h1,p.keeps j.bk,m.keeps j.bk,λU e mk=>G.made j mk Q⟩)
end
def yU(q:aw):HO:= .tbl #[.str q 0]
structure MZ(TB:List (iE×aw))(H:Hp):Prop where
 one: ∀b,H b=AX\/(∃o xs,H b=A7 (.EG o<|.lst xs))\/ ∃q,(b,q)∈TB/\H b=A7 (yU q)
 all: ∀p∈TB,H p.1=A7 (yU p.2)
def adb{P:ja}{w:iW}{K:jb}{C mb:ly}{CX:Kn}{k:Nat}{fa a:iE}{fd:mI}{x:aw}{sp:Sp}{c:iJ}{O:jF}{Q:iR}{TB:List (iE×aw)}
  (KX:K.In c.heap)(aq:c.heap.Ns aj C)(g:c.heap.Ns gZ mb)(hbb: ∀x:aw,x≠"__name__"->mb x=aA x)(Y:c.heap.NoLimit)(hg:c.gens= #[])
  (M: ∀p∈TB,c.heap.get? p.1=A7 (tabObj #[]))(fO: ∀p∈TB,K.lookup p.1=AX)(fN: ∀p∈TB,isCodeTable c.heap p.1)(eA:(TB.map (·.1)).Nodup)(U: ∀p∈TB,c.heap.BuiltinsAt C p.1)
  (N:c.heap.get? a=A7 {cls:= .type "list",data:= .seq O.toArray})(hi:dQ O Q)(hl:Q.length<=sizeLine)(hr:C2 k f3)
  (F: ∀base:iX,K.In base->base.Ns aj C->(∀p∈TB,base.BuiltinsAt C p.1)->Eg P w K C base CX k fa fd [x] sp)(n6: ∀(s:iJ) (u:iN),f5 s fd ⟨[u],[]⟩ [(x,u)])
  (cH: ∀H8:Hp,MZ TB H8->Fp K H8 a (Q.map V.int)->sp [.ref a] H8 (λv H'=>v= .bl B8/\ ∀p∈TB,H' p.1=A7 (yU p.2)) λ_ _ _=>False)
  (hCX: ∀H8 e j,CX [] H8 c (λ_ _ _=>False) e j->False):
  bP (ai P w) f3 (.call (.ref fa) ⟨[.ref a],[]⟩) (λr j=>r= .ok (.ret<|.bool B8)/\OldK c.heap j.heap/\j.os=c.os/\dW j.gens) c:=by
 have rv:=ade hi;have R:=hi.length
 have Z: ∀p∈TB,p.1≠a:=λp f e=>by have:=M p f;rw[e,N] at this;cases this
 have t: ∀H8:Hp,MZ TB H8->Fp K H8 a (Q.map V.int)->Ft P w H8 c.heap->(∀b,H8 b≠AX->b=a\/ ∃p∈TB,b=p.1)->(H8 a≠AX->K.lookup a=AX)->
   bP (ai P w) f3 (.call (.ref fa) ⟨[.ref a],[]⟩) (λr j=>r= .ok (.ret<|.bool B8)/\OldK c.heap j.heap/\j.os=c.os/\dW j.gens) c:=by
  intro H8 hO hS D hA hK;have r0: ∀{b:iE} {o:eE},c.heap.get? b=A7 o->H8 b=AX->(Cd c.heap H8).get? b=A7 o:=λe n=>aeN e n
  have bj: ∀{b:iE} {o:eE},c.heap.get? b=A7 o->(∀its n,o.data≠ .seq its n)->(∀I,o.data≠ .fields I)->H8 b=AX:=λ{b o} e d d2=>by
   cases q:H8 b with
   |none=>rfl
   |some u=>
    rcases hA b (by rw[q];simp) with rfl|⟨p,f,rfl⟩
    .rw[N] at e;cases e;exact absurd H<|d _ _
    .rw[M p f] at e;cases e;exact absurd H<|d2 _
  have X: ∀{b:iE} {m:ly},c.heap.Ns b m->(Cd c.heap H8).Ns b m:=λ{b m} ⟨o,es,ep,e,d,r⟩=>⟨o,es,ep,r0 e (bj e (λ_ _ z=>by rw[d] at z;cases z) λ_ z=>by rw[d] at z;cases z),d,r⟩
  have J:K.In (Cd c.heap H8):=λb o e=>r0 (KX b o e) (by
   cases q:H8 b with
   |none=>rfl
   |some u=>
    rcases hA b (by rw[q];simp) with rfl|⟨p,f,rfl⟩
    .rw[hK<|by rw[q];simp] at e;cases e
    .rw[fO p f] at e;cases e)
  have hBA: ∀p∈TB,(Cd c.heap H8).BuiltinsAt C p.1:=λp f=>by obtain⟨bm,o,h1,h2,h3,h4,h5,h6,h7,h8⟩:=U p f;exact⟨bm,o,h1,h2,h3,h4,r0 h5 (bj h5 (λ_ _ z=>by rw[h8] at z;cases z) λ_ z=>by rw[h8] at z;cases z),h6,h7,h8⟩
  have hM:Mod K C (Cd c.heap H8):=⟨J,X aq,⟨mb,X g,hbb⟩,let⟨mc,h1,h2⟩:=Y;⟨mc,X h1,h2⟩⟩
  have e0:Kk P w K C (Cd c.heap H8) f3 [] c H8:=⟨rfl,hM,λb o e=>Ru e,zx<|acU _ _,trivial,λb g=>absurd (show b∈([]:List iE) from g)<|by simp,D,.of_eq hg⟩
  refine vE ((F _ J (X aq) hBA).run f3 [] c H8 ⟨[.ref a],[]⟩ [.ref a] [.ref a] _ _ hr e0 (n6 c<|.ref a) (.cons H .nil) (cH H8 hO hS)) λr j h=>?_
  cases r with
  |error e=>exact(hCX H8 e j h).elim
  |ok fl=>
   cases fl with
   |next=>exact aH h
   |brk=>exact aH h
   |cont=>exact aH h
   |ret u=>
    obtain⟨v,H',os,T,un,B,r',q,L⟩:=h;subst q;obtain rfl:u=eR B8:=r'
    have W: ∀p∈TB,∃I,j.heap.get? p.1=A7 (tabObj I):=λp f=>by
     obtain⟨_,_,I,_,e,_⟩:=(show B9 P w H' j.heap p.1 (.tbl #[.str p.2 0]) from B _ _ (L p f))
     exact⟨I,e⟩
    have keep: ∀b o,c.heap.get? b=A7 o->(∀p∈TB,b≠p.1)->j.heap.get? b=A7 o:=λb o e n=>by
     cases q:H8 b with
     |none=>exact un.keep b o e q (by intro z;exact absurd (show b∈([]:List iE) from z)<|by simp) (by simp)
     |some u=>
      rcases hO.one b with z|⟨ob,xs,z⟩|⟨qq,hm,z⟩
      .rw[q] at z;cases z
      .have z2:=un.frzs b ob _ z;obtain⟨e1,_⟩:=D b _ z;obtain⟨G,_⟩:=B b _ z2;rw[e] at e1;cases e1;exact G
      .exact absurd H (n _ hm)
    refine⟨rfl,⟨λb o e=>?_,λb o e=>?_⟩,os,T⟩
    .by_cases g: ∃p∈TB,b=p.1
     .obtain⟨p,f,rfl⟩:=g;obtain⟨I,G⟩:=W p f;rw[M p f] at e;cases e;refine .inr<|.inl ⟨fN p f,rfl,#[],I,rfl,?_⟩;rw[G];simp
     .exact .inl (keep b o e λp f z=>g ⟨p,f,z⟩)
    .by_cases g: ∃p∈TB,b=p.1
     .obtain⟨p,f,rfl⟩:=g;obtain⟨I,G⟩:=W p f;exact⟨_,G⟩
     .exact⟨o,keep b o e λp f z=>g ⟨p,f,z⟩⟩
 have A: ∀{b q},TB.lookup b=A7 q->(b,q)∈TB:=λh=>by
  revert h;generalize TB=l
  induction l with
  |nil=>intro h;simp at h
  |cons x l ih=>
   intro h;rw[oV] at h;split at h
   .rename_i g;cases h;rw[Gq.mp g];exact jY
   .exact jZ _ (ih h)
 have S: ∀p∈TB,TB.lookup p.1=A7 p.2:=by
  clear A t Z cH fO fN U F M
  induction TB with
  |nil=>intro p f;simp at f
  |cons x l ih=>
   intro p f;rw[jU,yH] at eA;rw[oV];rcases kW.mp f with rfl|f
   .simp
   .have:(p.1==x.1)=B6:=by rw[wR];exact λe=>eA.1 (e▸tL f)
    rw[this];exact ih eA.2 p f
 have E: ∀(H8:Hp) (b:iE) (q:aw),(b,q)∈TB->B9 P w H8 c.heap b (yU q):=λH8 b q hm=>⟨q,0,#[],rfl,M _ hm,trivial,λpos cv z=>by simp[en] at z⟩
 cases hk:K.lookup a with
 |some o=>
  have e:=KX a o hk;rw[N] at e;cases e;refine t (λb=>(TB.lookup b).map yU) ⟨λb=>?_,λp f=>by rw[S p f];rfl⟩ (.inr ⟨_,O.toArray,_,hk,rfl,rfl,rfl,by rw[jy,R];exact hl,by simpa using rv⟩) (λb u z=>?_) (λb z=>?_) λz=>?_
  .cases q:TB.lookup b with
   |none=>exact .inl H
   |some y=>exact .inr<|.inr ⟨y,A q,rfl⟩
  .have i:(TB.lookup b).map yU=A7 u:=z
   cases q:TB.lookup b with
   |none=>rw[q] at i;cases i
   |some y=>rw[q] at i;cases i;exact E _ b y (A q)
  .have i:(TB.lookup b).map yU≠AX:=z
   cases q:TB.lookup b with
   |none=>rw[q] at i;exact absurd H i
   |some y=>exact .inr ⟨_,A q,rfl⟩
  .have i:(TB.lookup a).map yU≠AX:=z
   cases q:TB.lookup a with
   |none=>rw[q] at i;exact absurd H i
   |some y=>exact absurd H<|Z _ (A q)
 |none=>
  have gX: ∀p∈TB,(if p.1=a then A7 (HO.EG {cls:= .type "list",data:= .seq O.toArray}<|.lst<|Q.map V.int) else(TB.lookup p.1).map yU)=A7 (yU p.2):=λp f=>by rw[jc<|Z p f,S p f];rfl
  refine t (λb=>if b=a then A7 (.EG {cls:= .type "list",data:= .seq O.toArray}<|.lst<|Q.map V.int) else(TB.lookup b).map yU) ⟨λb=>?_,gX⟩ (.inl<|.inr ⟨{cls:= .type "list",data:= .seq O.toArray},iQ H⟩) (λb u z=>?_) (λb z=>?_) λ_=>hk
  .by_cases g:b=a
   .exact .inr (.inl ⟨_,_,iQ g⟩)
   .cases q:TB.lookup b with
    |none=>exact .inl (by simp[g,q])
    |some y=>exact .inr<|.inr ⟨y,A q,by simp[g,q]⟩
  .by_cases g:b=a
   .have i:=(iQ g).symm.trans z;cases i;subst g;exact⟨N,by rw[jM];exact hl,O,_,rv,N⟩
   .have i:=(jc g).symm.trans z
    cases q:TB.lookup b with
    |none=>rw[q] at i;cases i
    |some y=>rw[q] at i;cases i;exact E _ b y (A q)
  .by_cases g:b=a
   .exact .inl g
   .cases q:TB.lookup b with
    |none=>exact absurd (by simp[g,q]) z
    |some y=>exact .inr ⟨_,A q,rfl⟩
end L2
namespace PX
open L2
def RI{TB:List (iE×aw)}{K:jb}{k:Cn}{U:Hp}{a:iE}{f:iR}(m: ∀p∈TB,U p.1=J (yU p.2))(l:Fp K U a (f.map V.int)){o:Bool}{c:Dn}(h:k [(.lst<|f.map .int,Y)]=J ((.bl I,o),c)):Ko K k [.ref a] U (λv g=>v= .bl I/\ ∀p∈TB,g p.1=J (yU p.2)) λ_ _ _=>False:=by
 have no: ∀b,¬AZ [J<|V.ref a] [J (D.lst<|f.map .int,Y)] b:=λb T=>by
  obtain⟨i,d,h1,q⟩:=T
  cases i with
  |zero=>simp at h1
  |succ i=>simp at h1
 refine⟨λ_=>False,[(.lst<|f.map .int,Y)],_,c,⟨rfl,λi d hd=>?_,λi d hd=>?_,λi j d e b h1=>?_,λb z=>absurd z<|no b,λb z=>z.elim⟩,h,λv g P=>?_⟩
 .cases i with
  |zero=>simp at hd;subst hd;refine⟨_,rfl,Rep.OF (a:=a) (xs:=f.map V.int) ?_<|adt f⟩;exact l.imp (λz=>⟨z,λz=>z.elim (no a) id⟩) id
  |succ i=>simp at hd
 .cases i with
  |zero=>simp at hd
  |succ i=>simp at hd
 .cases i with
  |zero=>simp at h1
  |succ i=>simp at h1
 .refine⟨?_,λp n=>P.1.kp _ _ (m p n) (no _)⟩
  cases o with
  |false=>exact P.2.2.bl
  |true=>obtain⟨p,_,_,_,ok⟩:=P.2;exact ok.elim
end PX
namespace L2
open PySem.W
theorem wZ{a b:Int}{t u:Nat}{c:iN}: ∀l:List iN,j5 l->j5 (l++[.int a t,.int b u,c])
 |[],_=>trivial
 | .int _ _:: .int _ _::_::jA,h=>wZ jA h
theorem BO{a b:Int}{t u:Nat}{e:bu}{c f:iN}: ∀l:List iN,j5 l->en e (l++[.int a t,.int b u,c])=J f->en e l=J f\/f=c
 |[],_,h=>by
  simp only[tK,en] at h;split at h
  .exact .inr (kL h).symm
  .cases h
 | .int i _:: .int j _::d::jA,h0,h=>by
  simp only[dL,en] at h ⊢;split at h
  .rename_i q;rw[iQ q];exact .inl h
  .rename_i q;rw[jc q];exact BO jA h0 h
structure KD(q:aw)(params:cc)(body:iK)(scope:jG)(b9:kT)(H:Hp)(h:iX)(fl:iE):Prop where
 fn: ∃pm c' n9,h.get? fl=A7 (kla_obj "<lambda>" q params body scope b9 pm c' n9)/\ ∃ob u vs t,H c'=A7 (.EG ob u)/\ob.data= .fields vs/\vs[1]?=A7 (.str q t)
 un:H fl=AX
section
variable {X:Cx}{i:ju}{m:St}{H:Hp}{s:iJ}{P c:iE}{f:cc}{g:iK}{scope:jG}{j:kT}{l:bu}
def Jv{h:iX}{a:iE}(e:h.objs.size<=a):h.get? a=C:=by
 cases q:h.get? a with
 |none=>rfl
 |some o=>exact absurd (jW q)<|P7.mpr e
def ae1{M:gx}{A:iY}{E:jt}{Q:jt}(I:Inv X i m H s){more:lI}(N:H P=A7 (.tbl (#[.str (X.env.qual++"<lambda>") 0]++more)))(hc:X.env.code= .ref c)(C:CodeHd X.base c P)(hB:X.base.BuiltinsAt X.mg P)(gL:aj≠P)
  (k8:u3 scope X.env=pure j)(aV:uu f X.env=([],[]))
  (k: ∀s1 T fl,Inv X i m T s1->(∀b o,H b=A7 o->T b=A7 o)->KD (X.env.qual++"<lambda>") f g scope j T s1.heap fl->(∀b o,s.heap.get? b=A7 o->H b=AX->s1.heap.get? b=A7 o)->(∀b o,s.heap.get? b=A7 o->H b=AX->T b=AX)->s.heap.get? fl=AX->Q (.ref fl) s1):
  ah M A (aM (.Lambda f g scope l) X.env) Q E s:=by
 refine kla_eval aV ?_;obtain⟨qq,tq,ps,J,B,Y,hm⟩:=(show B9 X.prog X.w H s.heap P (.tbl (#[.str (X.env.qual++"<lambda>") 0]++more)) from I.hok P _ N)
 have W:qq=X.env.qual++"<lambda>":=by rw[Array.getElem?_append_left<|by simp] at J;simp at J;exact J.1.symm
 subst W;have af:s.heap.BuiltinsAt X.mg P:=let⟨bm,o,h1,F,K,R,h5,h6⟩:=hB;⟨bm,o,h1,F,K,R,I.bk _ _ h5,h6⟩
 have hg:s.heap.Ns aj X.mg:=I.ok.mod.glob.keeps I.bk
 cases S:en l ps.toList with
 |some cv=>refine kla_makeFunctionHit k8 I.ok.glob hg hc (C.keeps I.bk) B Y S af λh v D p sz=>?_;obtain⟨a,ob,u,vs,t,rfl,F,K,R⟩:=hm l cv S;have dr: ∀b o,s.heap.get? b=A7 o->(v.push<|kla_obj "<lambda>" (X.env.qual++"<lambda>") f g scope j ((X.mg "__name__").getD .none) a h).get? b=A7 o:=λb o e=>jT _ (p b o e);exact k _ H _ (I.kept (t':=D) dr) (λ_ _ e=>e) ⟨⟨_,a,h,kh _ rfl,ob,u,vs,t,F,K,R⟩,I.hok.fresh sz⟩ (λb o e _=>dr b o e) (λ_ _ _ n=>n) (Jv sz)
 |none=>
  refine kla_makeFunction k8 I.ok.glob hg hc (C.keeps I.bk) B Y S gL af λa h v D ex G x cr tb=>?_;obtain⟨c0,r,vs,t,ec,dY,dG,hq⟩:=cr;cases ec;have nc:H a=AX:=I.hok.fresh G;have p: ∀b o,b≠P->s.heap.get? b=A7 o->(v.push<|kla_obj "<lambda>" (X.env.qual++"<lambda>") f g scope j ((X.mg "__name__").getD .none) a h).get? b=A7 o:=λb o n e=>jT _ (ex b o n e);have up: ∀b o,H b=A7 o->upd H a (.EG r<|.own 0) b=A7 o:=λb o e=>by rw[ji<|la e nc];exact e
  have Z: ∀b,H b=AX->b≠P:=λb n z=>by rw[z,N] at n;cases n
  have y:=jT (kla_obj "<lambda>" (X.env.qual++"<lambda>") f g scope j ((X.mg "__name__").getD .none) a h) tb
  have un:Un (HC X.stack) [] H (upd H a<|.EG r<|.own 0) s.heap (v.push<|kla_obj "<lambda>" (X.env.qual++"<lambda>") f g scope j ((X.mg "__name__").getD .none) a h):=
   ⟨λb o e n _ _=>p b o (Z b n) e,λb o e n _ _=>⟨o.slots,p b o (Z b n) e⟩,λb o e n _=>by rw[ji<|jH<|nM (jW e) G];exact n,λb o e _=>by
    by_cases z:b=P
    .subst z;exact⟨_,y⟩
    .exact⟨o,p b o z e⟩,λb xs e=>up b _ e,λb o xs e=>up b _ e,λb ps e=>⟨#[],by rw[up b _ e];simp⟩⟩
  have V:Ft X.prog X.w (upd H a<|.EG r<|.own 0) (v.push<|kla_obj "<lambda>" (X.env.qual++"<lambda>") f g scope j ((X.mg "__name__").getD .none) a h):=λb u e=>by
   by_cases U:b=a
   .subst U;rw[jl] at e;cases e;exact⟨jT _ dY,⟨r,jT _ dY⟩⟩
   .rw[ji U] at e;by_cases L:b=P
    .subst L;rw[N] at e;cases e;refine⟨_,tq,_,J,y,?_,λO cv z=>?_⟩
     .rw[LG];exact wZ _ Y
     .rw[LG] at z;rcases BO _ Y z with z|z
      .obtain⟨x,ob,u,vs,t,r1,r2,r3,r4⟩:=hm O cv z;exact⟨x,ob,u,vs,t,r1,up _ _ r2,r3,r4⟩
      .exact⟨a,r,_,vs,t,z,jl,dG,hq⟩
    .refine(I.hok b u e).Ca (λd w hd q=>p d w (λz=>?_) q) (λd q=>up d _ q) (λd xs q=>up d _ q) λd _ _ q=>up d _ q;subst z;rcases hd with z|z
     .exact L z.symm
     .rw[N] at z;cases z
  have I1:Inv X i m (upd H a<|.EG r<|.own 0) {s with heap:=v.push<|kla_obj "<lambda>" (X.env.qual++"<lambda>") f g scope j ((X.mg "__name__").getD .none) a h,toks:=D}:=I.call (g':=s.gens) (d':=s.drawn) (t':=D) un V I.bare λb U=>absurd U (by simp);refine k _ _ _ I1 up ⟨⟨_,a,h,kh _ rfl,r,_,vs,t,jl,dG,hq⟩,?_⟩ (λb o e n=>p b o (Z b n) e) (λb o e n=>un.free b o e n<|by simp) (Jv<|tU<|Gy G x);rw[ji<|pD x];exact I.hok.fresh<|tU<|Gy G x
end
def BC(q:aw)(scope:jG)(L fl:iE)(cd:iN)(a:kT):Env:=
 newEnv scope L aj a (q++".<locals>.") (J fl) cd C gZ
def BE(CX:Kn)(P:ja)(w:iW)(K:Frag)(d:ly)(base:iX)(N:jh)(q:aw)(scope:jG)(fl:iE)(cd:iN)(b:kT)(A:iY)(a:List df)(s:iJ)(U:Hp)(E:XK):Cx where
 prog:=P
 w:=w
 K:=K
 mg:=d
 base:=base
 A:=A.deeper<|BC q scope s.heap.objs.size fl cd b
 N:=N
 s₀:=s
 H₀:=U
 env:=BC q scope s.heap.objs.size fl cd b
 outer:=a
 stack:=BC q scope s.heap.objs.size fl cd b::a
 ex:=[]
 calm:=I
 fn:=λ_=>Y
 pn:=[]
 xe:=λe h=>ah (ai P w) (A.deeper<|BC q scope s.heap.objs.size fl cd b) (Wp (BC q scope s.heap.objs.size fl cd b) e) (λ_ c=>CX a U s E e c) (λg c=>CX a U s E g c) h
structure FR(scope:jG):Prop where
 kind:scope.kind= .function
 co:scope.isCoroutine=B6
 gen:scope.isGenerator=B6
 cell: ∀y∈scope.names,y.2≠ .cell
structure Ea(N:jh)(scope:jG)(b9:kT)(σ:St)(H:Hp)(h:iX):Prop where
 inj: ∀x y c,b9.lookup x=A7 c->b9.lookup y=A7 c->x=y
 has: ∀x,scope.names.lookup x=A7 .free-> ∃c,b9.lookup x=A7 c
 cell: ∀x c,b9.lookup x=A7 c->(∃v,h.IsCell c v)/\H c=AX
 val: ∀(i:Nat) (x:aw) (v:V),N[i]?=A7 x->σ[i]?=A7 (A7 v)->scope.names.lookup x=A7 .free/\ ∃c u,b9.lookup x=A7 c/\h.IsCell c (A7 u)/\RelV v u
 len:(A0 σ)=(A0 N)
section
variable {CX:Kn}{P:ja}{w:iW}{K:Frag}{g:ly}{base:iX}{N:jh}{q:aw}{scope:jG}{fl:iE}{cd:iN}{d:kT}{A:iY}{a:List df}{s:iJ}{H:Hp}{E:XK}{f:St}
def RT(S:FR scope)(hd:A.handled=C)(e:Kk P w K g base A a s H)(U:Ea N scope d f H s.heap){h1:iX}{t1:Nat}(l:h1.Ns s.heap.objs.size (λ_=>C))(hk: ∀b o,s.heap.get? b=J o->h1.get? b=J o):
  Inv (BE CX P w K g base N q scope fl cd d A a s H E) [] f H {s with heap:=h1,toks:=t1}:=by
 have k: ∀b:iE,b∉(BE CX P w K g base N q scope fl cd d A a s H E).ex:=λb z=>absurd (show b∈([]:List iE) from z) (by simp)
 refine⟨⟨e.mod,S.kind,rfl,rfl,kc _,U.inj,λy j=>?_,λy c z _=>absurd z<|by simp[BE],λ_=>hd,Mu e.frames,.inr ⟨rfl,rfl⟩,λb z=>absurd z<|k b,e.bs,e.bsz,λb _ _=>k b,λb z=>absurd z<|k b,e.HA,e.frf⟩,
  rfl,e.bare,Un.kept hk,⟨_,l,λi y v h1 m _=>?_⟩,λy c h=>?_,e.hok.fresh<|kc _,λy c h=>(U.cell y c h).2,λp x=>absurd (show p∈([]:List (iE×eE)) from x)<|by simp,e.hok.kept hk,U.len⟩
 .have j:scope.names.lookup y=J .cell\/scope.names.lookup y=J .free:=j;rcases j with j|j
  .exact absurd AU (S.cell _ (qO j))
  .exact U.has y j
 .obtain⟨t,c,u,n,B,r⟩:=U.val i y v h1 m;exact⟨u,r,.inr ⟨.inr t,c,n,B.keeps hk⟩⟩
 .obtain⟨⟨v,hv⟩,_⟩:=U.cell y c h;exact⟨v,hv.keeps hk⟩
def RL{h:cc}{c:iK}{k:Nat}{t:TE}{Q:VK}(S:FR scope)(n:C2 (k+1) A)(m:Kk P w K g base A a s H)(C:Ea N scope d f H s.heap)(L:KD q h c scope d H s.heap fl)
  (n6: ∀B i z,e7 (kla_fn "<lambda>" q h c scope d B (.ref i) z) ⟨[],[]⟩=pure [])
  (Y: ∀i:iE,C2 k (A.deeper<|BC q scope s.heap.objs.size fl (.ref i) d)->PE (BE CX P w K g base N q scope fl (.ref i) d A a s H E) c t)(ht:t f H Q):
  bP (ai P w) A (.call (.ref fl) ⟨[],[]⟩) (CR CX a P w H s Q E) s:=by
 obtain⟨B,i,z,D,V,u,vs,tk,h1,M,U⟩:=L.fn;have R:s.heap.CodeRec (.ref i) q:=⟨i,V,vs,tk,rfl,(m.hok i _ h1).1,M,U⟩
 have r:s.heap.NoLimit:=m.mod.nolimit.keeps λb o e=>(m.bs b o e).1;refine kla_callFunE n.depth D AU S.co S.gen AU R ?_;rw[n6];refine iP<|wpAny_newFunctionEnv S.cell (by intro y F;simp at F) (λl G O=>⟨r.fresh _ O,?_⟩) S.kind;show bP _ _ (.expr c<|BC q scope s.heap.objs.size fl (.ref i) d) _ _;have j: ∀b o,s.heap.get? b=A7 o->l.get? b=A7 o:=λb o e=>O.extBut b o (jH<|jW e)<|jT _ e;have I:=RT (CX:=CX) (q:=q) (fl:=fl) (cd:= .ref i) (E:=E) (t1:=s.toks+([]:List (aw×iN)).length) S n.hd m C (by simpa using G) j;refine kla_codeExpr<|oW (Y i (n.deeper _) [] _ f H Q I ht) (λv Z p=>?_) λe Z p=>p;obtain⟨x,T,J,X,W⟩:=p;exact⟨x,T,J.os,J.bare,J.base,J.hok,X,W⟩
end
open PySem.Calls Builtin Builtin.ObjectAttr Builtin.Getset_descriptor
structure NM(K:Frag)(C:iE):Prop where
 ga:findIn K (.ref C) "__getattribute__"=A7 (A7<|.builtin "BaseException.__getattribute__")
 gb:findIn K (.ref C) "__getattr__"=A7 AX
 mrB:mroIn K C (.type "BaseException")=A7 B8
 dct:hasDictIn K C=B8
 fnd:findIn K (.ref C) "__class__"=A7 (A7<|.builtin "object.__class__")
 spc:specialIn K (.builtin "object.__class__") "__get__"=A7 (A7<|.builtin "getset_descriptor.__get__")
 tks:takesIn K (.builtin "object.__class__")=A7 B8
 mro:mroIn K C (.type "object")=A7 B8
section
variable {K:Frag}{C x:iE}{o:eE}
def aff{M:gx}{h:iX}(Z:NM K C)(X:K.In h):Looks M h (find (.ref x) (.ref C) "__class__") (.bind (.builtin "getset_descriptor.__get__")<|.builtin "object.__class__"):=by have a:=looks_takesIn (M:=M) X Z.tks;exact(looks_findIn X Z.fnd).andThen ((show Looks M h (getOf<|J<|.builtin "object.__class__") _ from looks_specialIn X Z.spc).andThen<|(show Looks M h (dataDescriptor? (J<|.builtin "object.__class__")<|J<|.builtin "getset_descriptor.__get__") (J (.builtin "getset_descriptor.__get__",.builtin "object.__class__")) from a.andThen .now).andThen<|Looks.tag .now)
def ae2(Z:NM K C)(v:o.cls= .ref C):KitX K (.ref x) (.ref C) λh=>h.get? x=A7 o:=by
 have ty: ∀(M:gx) (h:iX),h.get? x=A7 o->Looks M h (k9<|.ref x) (.ref C):=λM h e=>v▸(Looks.ld e).andThen .now;obtain⟨r,f,_⟩:=any_some Z.dct;unfold clsIn at f;split at f
 case h_2=>cases f
 rename_i U Y p D i;refine⟨λM h _ e=>ty M h e,λM h X _=>?_,λh I dd B n S X m=>?_,λ{a w A E Q s} X e k=>?_⟩
 .intro L N O R H q;unfold isType loadHead;exact iF<|wpAny_loadPart (H _ _ (X _ _ i))<|iP q
 .refine na.mpr λq=>?_;have e:C=I:=Value.ref.inj<|Gq.mp q;subst e;have z:=(X _ _ i).symm.trans m;cases z
 .obtain⟨y,g,d,t,os⟩:=s;have T0:=ty (ai a w) y e;have j:=looks_findIn (M:=ai a w) X Z.ga;have l:=looks_findIn (M:=ai a w) X Z.gb;have T:=aff (x:=x) (M:=ai a w) Z X;have G:=looks_mroIn (M:=ai a w) X Z.mro;unfold I0 getAttrBy? getAttrBy;refine iF<|wpAny_mkText<|iF<|rE<|mn<|iF<|T0.at<|iF<|j.at ?_;have J:=looks_mroIn (M:=ai a w) X Z.mrB;have u:(cA "BaseException.__getattribute__"==cA "object.__getattribute__")=B6:=by decide+kernel
  show ah _ _ (if onTheHeap (aX C)&&cA "BaseException.__getattribute__"==cA "object.__getattribute__" then _ else B4 _ _ _ _ _ _) _ _ _;rw[jc<|by rw[u];simp];unfold B4;refine iF<|(show Looks _ _ (hookBefore<|.ref C) AX from l).at<|iF<|rE<|mn ?_;show ah _ _ (L3 (.builtin "BaseException.__getattribute__") (.ref x)<|.str "__class__" _) _ _ _;unfold L3;rw[show bindSpecial (.builtin "BaseException.__getattribute__") (.ref x)=pure (.builtin "BaseException.__getattribute__",[.ref x]) from Wn.ga.bind _];refine iF<|iP<|Av<|GF Wn.ga.plain F.entry_bexc_ga ?_;have hk:builtinKind "BaseException.__getattribute__"=A7 .slot:=by decide+kernel
  have b:T2 "BaseException.__getattribute__"=A7 ("BaseException","__getattribute__"):=by decide+kernel
  have P:=F.args_bexc_ga (.ref x)<|.str "__class__" t;simp only[gn,hk,b];refine iF ?_;unfold t7
  repeat lk
  refine wpAny_run (h:=AX) (c:= .call (.builtin "getset_descriptor.__get__") ⟨[.builtin "object.__class__",.ref x,.ref C],[]⟩) ?_;refine GF KF.slot_gs.plain KF.entry_gs<|KF.slot_gs.check _ _ _ _ _ _ _ _ (show eD _ (.builtin "object.__class__") "getset_descriptor" from KF.type_class) (KF.args_gs _ _ _) ?_;unfold bz.«getset_descriptor.__get__» descrGet;rw[dga_obj];refine iF<|iP ?_;unfold descrGetter descrCheckInstance descrNameAndClass t7;simp only[KF.owner_class]
  repeat lk
  refine⟨Code.quiet_builtin _ (by decide+kernel),ou KF.entry_class ?_⟩;unfold bz.«object.__class__» shownTypeOf
  repeat lk
  exact k
end
section
variable {X:Cx}{f:ju}{h g:St}{H:Hp}{s:iJ}{a:iE}{o:eE}{j:iX}
def Inv.Np(U:Inv X f h H s)(L:H a=C)(B:X.s₀.heap.get? a=C)(r:s.heap.get? a=J o)(T: ∀v,o.data≠ .cell v)(E:a≠X.env.locals)(O: ∀p∈X.pn++f,p.1≠a):Inv X f h (upd H a<|.EG o<|.own 0) s:=by
 have up: ∀b u,H b=J u->upd H a (.EG o<|.own 0) b=J u:=λb u e=>by rw[ji<|la e L];exact e
 refine⟨U.ok,U.os,U.bare,⟨U.base.keep,U.base.slot,λb k e n i=>?_,U.base.there,λb y e=>up _ _ (U.base.tups b y e),λb k u e=>up _ _ (U.base.frzs b k u e),λb Q e=>?_⟩,U.loc,U.cell,?_,λx c i=>?_,λp w=>?_,λb u e=>?_,U.len⟩
 .rw[ji (λz=>by subst z;rw[B] at e;cases e)];exact U.base.free b k e n i
 .obtain⟨m,d⟩:=U.base.tbls b Q e;exact⟨m,up _ _ d⟩
 .rw[ji<|nL E];exact U.free
 .rw[ji λz=>?_];exact U.freeC x c i;obtain⟨v,k,d,l⟩:=U.cell x c i;subst z;rw[r] at d;cases d;exact T v l
 .obtain⟨d,l,A⟩:=U.pin p w;exact⟨d,by rw[ji<|O p w];exact l,A⟩
 .by_cases t:b=a
  .subst t;rw[jl] at e;cases e;exact⟨r,⟨o,r⟩⟩
  .rw[ji t] at e;exact(U.hok b u e).Ca (λ_ _ _ q=>q) (λc q=>up c _ q) (λc y q=>up c _ q) λc _ _ q=>up c _ q
def Inv.names(I:Inv X f h H s){t':Nat}(L:aP X.env.locals s.heap j)(U:(A0 g)=A0 h)(w: ∀(i:Nat) v,g[i]?=A7 (A7 v)->h[i]?=A7 (A7 v))
  (Y: ∀m,s.heap.Ns X.env.locals m-> ∃B,j.Ns X.env.locals B/\ ∀(i:Nat) x v,X.N[i]?=A7 x->g[i]?=A7 (A7 v)->B x=m x):Inv X f g H {s with heap:=j,toks:=t'}:=by
 obtain⟨m,D,G⟩:=id I.loc;obtain⟨B,T,E⟩:=Y m D;have BU: ∀b l,b≠X.env.locals->s.heap.get? b=A7 l->j.get? b=A7 l:=λb l n e=>(L.2 b n).trans e;have O: ∀{b l},X.s₀.heap.get? b=A7 l->b≠X.env.locals:=λe=>jH<|nM (jW e) I.ok.above;refine⟨I.ok,I.os,I.bare,⟨λb l e n C A=>BU b l (O e)<|I.base.keep b l e n C A,λb l e n C A=>?_,I.base.free,λb l e A=>?_,I.base.tups,I.base.frzs,I.base.tbls⟩,⟨B,T,λi x v t Q J=>?_⟩,λx c e=>?_,I.free,I.freeC,λp F=>?_,λb u e=>?_,U.trans I.len⟩
 .obtain⟨R,t⟩:=I.base.slot b l e n C A;exact⟨R,BU b _ (O e) t⟩
 .obtain⟨P,t⟩:=I.base.there b l e A;exact⟨P,BU b _ (O e) t⟩
 .obtain⟨u,r,q⟩:=G i x v t (w i v Q) J;refine⟨u,r,?_⟩;rcases q with⟨k,z⟩|⟨k,c,z,y⟩
  .exact .inl ⟨k,(E i x v t Q).trans z⟩
  .exact .inr ⟨k,c,z,y.sameBut L<|I.Lr x c z⟩
 .obtain⟨v,z⟩:=I.cell x c e;exact⟨v,z.sameBut L<|I.Lr x c e⟩
 .obtain⟨e,n,ne,K,d⟩:=I.pin p F;exact⟨BU _ _ ne e,n,ne,K,d⟩
 .refine(I.hok b u e).Ca (λc v M q=>BU c v (λz=>?_) q) (λ_ q=>q) λ_ _ q=>q;subst z;rcases M with z|z
  .subst z;rw[I.free] at e;cases e
  .rw[I.free] at z;cases z
def Cx.mark(X:Cx)(e:iN)(E:jt):Cx:={X with A:=X.A.mark<|J e,calm:=Y,xe:=E}
def Inv.mark(U:Inv X f h H s)(e:iN)(E:jt):Inv (X.mark e E) f h H s:=
 ⟨⟨U.ok.mod,U.ok.kind,U.ok.glob,U.ok.blt,U.ok.above,U.ok.inj,U.ok.has,U.ok.cab,(λz=>by cases z),U.ok.frames,U.ok.stk,U.ok.exf,U.ok.bs,U.ok.bsz,U.ok.noex,U.ok.exfs,U.ok.HA,U.ok.frf⟩,U.os,U.bare,U.base,U.loc,U.cell,U.free,U.freeC,U.pin,U.hok,U.len⟩
def Inv.unmark{e:iN}{E:jt}(U:Inv (X.mark e E) f h H s)(hd:X.calm=I->X.A.handled=C):Inv X f h H s:=
 ⟨⟨U.ok.mod,U.ok.kind,U.ok.glob,U.ok.blt,U.ok.above,U.ok.inj,U.ok.has,U.ok.cab,hd,U.ok.frames,U.ok.stk,U.ok.exf,U.ok.bs,U.ok.bsz,U.ok.noex,U.ok.exfs,U.ok.HA,U.ok.frf⟩,U.os,U.bare,U.base,U.loc,U.cell,U.free,U.freeC,U.pin,U.hok,U.len⟩
end
def B9.there{P:ja}{w:iW}{U:Hp}{h:iX}{a:iE}{o:HO}(x:B9 P w U h a o): ∃c,h.get? a=J c:=by
 cases o with
 |lst d=>obtain⟨_,_,_,_,e⟩:=x;exact⟨_,e⟩
 |tup d=>obtain⟨_,_,_,c,e,_⟩:=x;exact⟨_,e⟩
 |dK b=>obtain⟨_,_,_,_,o,_,_,e,_⟩:=x;exact⟨_,e⟩
 |dT b=>obtain⟨_,_,_,_,o,_,_,e,_⟩:=x;exact⟨_,e⟩
 |set S n=>obtain⟨o,_,_,_,e,_⟩:=x;exact⟨_,e⟩
 |BH k=>obtain⟨_,_,_,e,_⟩:=x;exact⟨_,e⟩
 |ins T g fs=>obtain⟨_,_,_,e,_⟩:=x;exact⟨_,e⟩
 |own y=>exact x
 |xd fs=>obtain⟨_,⟨_,_,_,e,_⟩,_⟩:=x;exact⟨_,e⟩
 |rng lo i=>obtain⟨_,_,_,e⟩:=x;exact⟨_,e⟩
 |EG c u=>exact⟨_,x.1⟩
 |tbl j=>obtain⟨_,_,_,_,e,_⟩:=x;exact⟨_,e⟩
 |met f y=>exact⟨_,x⟩
 |ext l=>exact x.2.1
section
variable {X:Cx}{c:ju}{g:St}{H d:Hp}{s s':iJ}{C a:iE}{n B h':iX}{F:kB}{r:iN}
def NL.inv(U:Inv X c g H s)(f:NL X.prog X.w X.stack H s C d a s' n B F)(h:B.StaysIn h')(j:n.UpToSlots h'):Inv X c g d {s' with heap:=h'}:=by obtain⟨un,e⟩:=f.end U.OR h j;exact U.MO (s':={s' with heap:=h'}) f.os un e f.bare λb i=>absurd i (by simp)
def NL.fresh(U:Inv X c g H s)(hex:X.ex=[])(f:NL X.prog X.w X.stack H s C d a s' n B F):d a=AX/\X.s₀.heap.get? a=AX/\s.heap.get? a=AX:=by
 have h:s.heap.get? a=AX:=by
  cases e:s.heap.get? a with
  |none=>rfl
  |some o=>obtain⟨i,b⟩:=f.un.there a o e (by simp);rw[f.ne] at b;cases b
 refine⟨?_,?_,h⟩
 .cases e:d a with
  |none=>rfl
  |some o=>obtain⟨j,z⟩:=(f.hok a o e).there;rw[f.ne] at z;cases z
 .cases e:X.s₀.heap.get? a with
  |none=>rfl
  |some o=>obtain⟨i,b⟩:=U.base.there a o e (by rw[hex];simp);rw[h] at b;cases b
def aap{E:XK}{e:iN}{xr xx t:aw}{CR:iE}{i j:Nat}{D:Ends}{p4 p5 p6 p7 p8:bu}(l9:X.stack=X.env::X.outer)(eu:X.env.frame=A7 X.env.locals)(hex:X.ex=[])(I:Inv X c g H s)(h:Kl X.prog X.w X.stack H s E e s')
  (hg:Gl X xr)(hm:X.mg xr=A7 (.ref CR))(i8:(xr==("__debug__":aw))=Y)(cX: ∀C d,E (.ref C) AX d->exmOne X.K (.ref C) (.ref CR)=A7 B8)
  (hN:X.N.Nodup)(hi:X.N[i]?=A7 xx)(hj:X.N[j]?=A7 t)(m9:i≠j)(lx:X.env.scope.names.lookup xx=A7 .local)(ln:X.env.scope.names.lookup t=A7 .local)(gQ:(t==("__debug__":aw))=Y)(gS:(t==("__classdict__":aw))=Y)
  (bK:bJ (.Name t p6) (A7<|.Name xx p5) p7.line X.env=pure Y)
  (k: ∀C d a o,E (.ref C) AX d->d a=AX->o.cls= .ref C->D.nx ((g.set j AX).set i<|A7<|.ref a) (upd d a<|.EG o<|.own 0)):
  ah (ai X.prog X.w) X.A (jp e X.env) (λ_ U=>ah (ai X.prog X.w) X.A (setFlight e AX) (λ_ Y'=>ah (ai X.prog X.w) X.A (handleBy e X.env [.ExceptHandler (A7<|.Name xr p4) (A7 t) [.Assign [.Name xx p5] (.Name t p6) p7] p8]) (SP X c D) X.xe Y') X.xe U) X.xe s':=by
 obtain⟨C,d,a,n,B,F,rfl,f,q⟩:=h;obtain⟨r,V⟩:=f.fl;obtain⟨n1,n2,n3⟩:=f.fresh I hex;rw[l9] at V;have fK:i<(A0 g):=by rw[I.len];exact(uD.mp hi).1
 have gG:j<(A0 g):=by rw[I.len];exact(uD.mp hj).1
 have bU:(X.env.scope.kind== .class||(X.env.scope.kind== .module&&X.env.locals !=X.env.globals))=Y:=by rw[I.ok.kind];rfl
 refine wpAny_looks_onW (I.ok.frames.trans<|by rw[l9]) eu V λh2 J bZ=>?_;refine wpAny_landsW J λh3 ie dJ=>?_;have I3:Inv X c g d {s' with heap:=h3}:=f.inv I ie.1<|f.up.trans<|bZ.trans dJ;obtain⟨ob3,he3,hc3⟩:=ie.there;refine wpAny_handleBy_cons (codeAny_handlers_test ?_) (by intro q;cases q);refine xy (X:=X.mark (.ref a) λ_ _=>False) (I3.mark _ _) hg hm ?_ i8;refine(exm_one (M:=ai X.prog X.w) I3.HN (hc3▸(Looks.ld he3).andThen .now)<|cX C d q).here ?_;refine codeAny_handlers_suite_as ?_;obtain⟨g1,g2,g3,g4⟩:=id ie;refine wpAny_setFlight_noneW g1 g3 g4 λh4 k1 k2 k3 k4=>?_;have up4:h3.UpToSlots h4:=λb o hb W=>⟨o.slots,k4 b o hb W⟩
 have I4:Inv X c g d {s' with heap:=h4}:=f.inv I k1<|f.up.trans<|bZ.trans<|dJ.trans up4;obtain⟨oe,vs,T,oT,ts,he,⟨y,_⟩,hd,_⟩:=id k3
 have I5:Inv X c g (upd d a<|.EG oe<|.own 0) {s' with heap:=h4}:=by
  refine I4.Np n1 n2 he (λv z=>by rw[hd] at z;cases z) (λz=>?_) λp hp z=>?_
  .have:=I.lt;obtain⟨m,⟨o,_,_,ho,_⟩,_⟩:=id I.loc;rw[<-z,n3] at ho;cases ho
  .obtain⟨S,_⟩:=I.pin p hp;rw[z,n3] at S;cases S
 refine AI I5 hN hj (.inl ln) (v:= .ref a) AU (λs6 I6=>?_)<|.inr ln;have ps:=λE0:iN->Shared->Prop=>ug (X:=X.mark (.ref a) E0) (Nu (X:=X.mark (.ref a) E0) hN hi (.inl lx) (yO (X:=X.mark (.ref a) E0) hj (.inl ln) gQ gS) bK<|.inr lx)<|Jf (X:=X.mark (.ref a) E0);refine Bo (ps _ c s6 _ _ {nx:=λP H7=>P=(g.set j<|A7<|.ref a).set i (A7<|.ref a)/\H7=upd d a (.EG oe<|.own 0),rt:=λ_ _=>False} (I6.mark (.ref a) _) ⟨.ref a,by rw[oX gG],rfl,rfl⟩) λV s7 Z=>?_
 cases V with
 |ret u=>obtain⟨_,_,_,_,_,z⟩:=Z;exact z.elim
 |brk=>obtain⟨_,_,_,z⟩:=Z;exact z.elim
 |cont=>obtain⟨_,_,_,z⟩:=Z;exact z.elim
 |next=>
  obtain⟨P,H7,R,rfl,rfl⟩:=Z;have R:=R.unmark I.ok.hd;obtain⟨m,W,_⟩:=id R.loc;refine iF<|wpAny_bindName<|Mw ln W (λh₁ L Q=>?_) bU;unfold unbindBehindTheSuite;refine Ap ?_;unfold unbindName;refine iF<|wpAny_point<|iF ?_;unfold deleteName;have ln':X.env.kindOf t=A7 .local:=ln;simp only[ln',bU];rw[jc<|by decide];refine iF<|wpAny_nsDel_keeps L λh₂ v₂ O G=>?_;simp only[kE,eM,pz,jK,jX];refine iP<|wpAny_point ⟨(g.set j AX).set i<|A7<|.ref a,_,R.names (Q.trans G) (by simp) (λl v z=>?_) λm0 bR=>?_,k C d a oe q n1 y⟩
  .by_cases hl:l=i
   .subst hl;rw[oX<|by simpa using fK] at z ⊢;exact z
   .rw[nK<|nL hl] at z ⊢;by_cases v8:l=j
    .subst v8;rw[oX gG] at z;cases z
    .rw[nK<|nL v8] at z ⊢;exact z
  .refine⟨_,O,λl x v S e2=>?_⟩
   have hx:x≠t:=λz=>by subst z;have:=A6 hN S hj;subst this;rw[nK m9,oX gG] at e2;cases e2
   simp only[hx,jX];obtain⟨o1,es1,ep1,z1,z2,_,z3⟩:=id W;obtain⟨o2,es2,ep2,y1,y2,_,y3⟩:=id bR;rw[z1] at y1;cases y1;rw[z2] at y2;cases y2;exact(z3 x).symm.trans (y3 x)
end
end L2
namespace PX
open L2 PySem.SeqAt PySem.W
abbrev XS:=Dn->Option aw
def tZ(K:jb)(f:ly)(E:XK)(x:XS):L2.St->Hp->Prop:=λe U=> ∃b T c,ER K U T e b/\(∀a,¬AZ e b a)/\x b=J c/\ ∀d Q,(∀a o,U a=J o->d a=J o)->f c=J (.ref Q)->E (.ref Q) C d
def PZ(X:Cx)(E:XK)(st:bn)(x:XS):Prop:=PS X st λ_=>tZ X.K X.mg E x
def NJ(X:Cx)(E:XK)(st:List bn)(x:XS):Prop:=Io X st λ_=>tZ X.K X.mg E x
def Pp(X:Cx)(E:XK)(e:iK)(x:XS):Prop:=PE X e λa U _=>tZ X.K X.mg E x a U
def tZo(K:jb)(f:ly)(E:XK)(x:XS):L2.St->Hp->Prop:=λe U=> ∃d T c,ER K U T e d/\x d=J c/\ ∀b Q,(∀a o,U a=J o-> ¬AZ e d a->b a=J o)->(∀a,U a≠C->b a≠C)->f c=J (.ref Q)->E (.ref Q) C b
def Po(X:Cx)(E:XK)(e:iK)(x:XS):Prop:=PE X e λa U _=>tZo X.K X.mg E x a U
def Nw(K:jb)(f:ly)(h:List D->Option aw):Sp:=λg U _ E=> ∃T e c,ER K U T (g.map J) ((e.map λd=>(d,Y)).map J)/\h e=J c/\ ∀Q b,(∀a o,U a=J o->b a=J o)->f c=J (.ref Q)->E (.ref Q) C b
def NN(n np:Nat)(x:XS):List D->Option Str:=λa=>if (A0 a)=np/\np<=n then x (((a.map λd=>(d,Y)).map J)++ac (n-np) C) else C
def zg(b:List D->Option aw)(fs:List FO):XS:=λc=>(kO fs c).bind λp=>(km p.2 p.1).bind λargs=>if(args.all λa=>!a.2)=I then b (args.map (·.1)) else C
def Hn(c:aw)(f:F):XS:=λa=>(f a).bind λ_=>J c
def R0(a:Dn):Bool:=a.all λx=>match x with
 |some (_,I)=>Y
 |_=>I
def Ni(t:FT)(x y:XS):XS:=λa=>(t a).bind λp=>if R0 p.2=I then(if p.1=I then x p.2 else y p.2) else C
def zNo:XS:=λ_=>C
def JP{b:Dn}(h:R0 b=I)(c:L2.St)(a:iE): ¬AZ c b a:=λU=>by
 obtain⟨i,d,h1,_⟩:=U
 have:=lY.mp h _ (mS h1);simp at this
def R5{b:List (D×Bool)}(h:(b.all λa=>!a.2)=I): ∀a∈b,a=(a.1,Y):=λa c=>by
 have:=lY.mp h a c;obtain⟨d,f⟩:=a
 cases f with
 |false=>rfl
 |true=>cases this
theorem Ga: ∀(os:List Cm) (b:List (D×Bool)),(∀a∈b,a=(a.1,Y))->jm os b=[]
 |[],b,_=>by cases b<;>simp[jm]
 |o::os,[],_=>by simp[jm]
 |o::os,a::b,h=>by have c:=h a jY;obtain⟨d,f⟩:=a;cases c;cases o<;>simp[jm,Ga os b λa e=>h a<|jZ _ e]
section
variable {X:Cx}{P:ja}{w:iW}{i:List df}{O:Hp}{s0:iJ}{E:XK}{A:kK}{st:bn}{L a b:List bn}{x y:XS}{e:iK}{g:bu}
def Y9:NJ X E L zNo:=λc s d U D T h=>by obtain⟨_,_,_,_,_,e,_⟩:=h;cases e
def UT:Io X L λ_ _ _=>False:=λ_ _ _ _ _ _ h=>h.elim
def Hm(h:PZ X E st x):NJ X E (st::L) x:=Io.imp' (ug h UT) λ_ _ _ h=>h
def Qe{z:aw}{M:iE}{a:iK}{f:F}{np n:bu}(N:HU X P w i O s0 E)(t:X.calm=I)(p:excIn X.K M Ot "ValueError.__new__"=I)(j:X.mg z=J (.ref M))(u:Gl X z)(s:PX X a f)(hd:(z==("__debug__":aw))=Y)
  (B:ag [a] X.env=[(Y,aM a X.env)]):PZ X E (.Raise (J<|.Call (.Name z np) [a] [] n) C g) (Hn z f):=PS.imp' (aeC N t p j u s hd B) λD G U h=>by
 obtain⟨Q,T,c,E0,no,e,k⟩:=h;obtain⟨⟨r,d⟩,h1,e⟩:=iC e;cases e;exact⟨Q,T,r,d,E0,h1,λv l m=>k l M (λa o q=>m.1.kp a o q<|no a) j⟩
def Za{c:iK}{f:FT}(u:Oc X c f)(r:NJ X E a x)(s:NJ X E b y):PZ X E (.If c a b g) (Ni f x y):=PS.imp' (S9 u r s) λD j U h=>by
 obtain⟨Q,T,c,E0,no,e,k⟩:=h;obtain⟨⟨t,d⟩,h1,e⟩:=iC e;dsimp only at e;split at e
 case isFalse=>cases e
 rename_i fz;refine⟨Q,T,t,d,E0,h1,λn p l=>?_⟩;have fin: ∀z:XS,z d=J c->tZ X.K X.mg E z j n:=λz B=>⟨d,T,c,l,JP fz j,B,λm M N v=>k m M (λa o q=>N a o<|p.kp a o q<|no a) v⟩
 cases t with
 |true=>exact VC<|fin x (by simpa using e)
 |false=>exact VD<|fin y (by simpa using e)
def Tw(h:Pp X E e x)(c:bJ e C g.line X.env=pure Y):PZ X E (.Expr e g) x:=PS.imp' (Jg h c) λ_ _ _ h=>h
variable {k:Nat}{f:iE}{u:mI}{m:jh}{l:List D->Option aw}{j:kD}{fs:List FO}{z:aw}{p:bu}
def Iz(xk:HU X P w i O s0 E)(F:Eg X.prog X.w X.K X.mg X.base (Kl P w) k f u m (Nw X.K X.mg l))(hr:C2 k X.A)(hg:Gl X z)(hm:X.mg z=A7 (.ref f))(hk:bG X.K (.ref f)=B8)(hb:Binds X.K u m [])
  (t:PA X (e::j) (tA X.K fs))(i8:(z==("__debug__":aw))=B6)(he:ag (e::j) X.env=(B6,aM e X.env)::ag j X.env)(Y:(aQ g<|ag j X.env).any (·.1)=B6):
  Po X E (.Call (.Name z p) (e::j) [] g) (zg l fs):=PE.imp' (Jm F hr hg hm hk hb (.nil) xk.pass t i8 he Y) λσ H Q h=>by
 obtain⟨Z,T,c,E0,e,S⟩:=h;obtain⟨⟨os,v⟩,h1,e⟩:=iC e;obtain⟨r,J,e⟩:=iC e;dsimp only at e J;split at e
 case isFalse=>cases e
 rename_i D;refine⟨Z,T,os,v,E0,h1,λV G T1 B=>?_⟩;show Nw X.K X.mg l (V++[]) G Q E;rw[yD];have M:=R5 D
 have s:r=(r.map (·.1)).map λd=>(d,B6):=by
  rw[jP]
  conv=>lhs;rw[<-qt r]
  exact qf λa t=>M a t
 have I:=Af E0 B J (by rw[Ga os r M];exact sL);rw[s] at I
 exact⟨_,r.map (·.1),c,I,e,λC U N R=>S U C (λa o q n=>N a o<|B.keep.kp a o q n) (λa q=>by
  cases h:G a with
  |none=>exact absurd h<|B.keep.dm a q
  |some o=>rw[N a o h];simp) R⟩
def Tz(N:HU X P w i O s0 E)(F:Eg X.prog X.w X.K X.mg X.base (Kl P w) k f u m (Nw X.K X.mg l))(I:C2 k X.A)(B:Gl X z)(d:X.mg z=A7 (.ref f))(hk:bG X.K (.ref f)=B8)(t:Binds X.K u m [])
  (s:PA X (e::j) (tA X.K fs))(G:(z==("__debug__":aw))=B6)(v:ag (e::j) X.env=(B6,aM e X.env)::ag j X.env)(r:(aQ g<|ag j X.env).any (·.1)=B6):
  Pp X E (.Call (.Name z p) (e::j) [] g) (zg l fs):=PE.imp' (Iz N F I B d hk t s G v r) λY H Q h=>by
 obtain⟨U,T,c,E0,no,e,J⟩:=h;exact⟨U,T,c,E0,e,λn C M _ d=>J n C (λa o q=>M a o q<|no a) d⟩
end
def RY{P:ja}{w:iW}{K:jb}{j:ly}{base:iX}{x qual:aw}{st:bn}{f:iE}{n:mI}{N b:jh}{k:Nat}{t:XS}(F:KY K x qual st f n)(S:AY N b (iI st))
  (G: ∀(i:iN) (A:iY) (a:List df) (s:iJ) (H:Hp) (E:XK),C2 k (A.deeper<|aR qual (iI st) s.heap.objs.size f i)->NJ (rn (Kl P w) P w K j base N qual (iI st) f i A a s H E) E (lV st) t):
  Eg P w K j base (Kl P w) (k+1) f n b (Nw K j<|NN (A0 N) (A0 b) t):=by
 obtain⟨U,Y,kV,v,D,M,i,ct,R,e,lk,J⟩:=F.ex;subst e;refine Pc lk J S (λr H Q E h=>?_) λA a s H r Q E I h=>?_
 .obtain⟨T,l,c,E0,e,_⟩:=h;unfold NN at e;split at e
  case isFalse=>cases e
  rename_i q;have:=E0.len;simp at this;rw[this,q.1]
 .obtain⟨T,l,c,E0,e,L⟩:=h;unfold NN at e;split at e
  case isFalse=>cases e
  rename_i q;have o:=E0.len;simp at o;refine⟨_,G i A a s H E I,((l.map λd=>(d,B6)).map A7)++ac (A0 N-A0 b) AX,T,c,?_,?_,e,λu C O y=>L C u O y⟩
  .have:=E0.pad (m:=A0 N-A0 b);unfold L2.nN;rw[show (A0 r)=(A0 b) by rw[o,q.1]];exact this
  .refine JP ?_ _;unfold R0;rw[lY];intro z g;rcases sQ.mp g with g|g
   .obtain⟨p,B,rfl⟩:=mw.mp g;obtain⟨d,_,rfl⟩:=mw.mp B;rfl
   .rw[(List.mem_replicate.mp g).2]
end PX
namespace L2
open PySem.W
def Yx{CX:Kn}{P:ja}{w:iW}{K:Frag}{B:ly}{base:iX}{k:Nat}{f:iE}{j qual:aw}{c:cc}{d:List bn}{scope:jG}{Y kV p pm l ct oc:iN}{U od:Option iE}
  {r6:ze}{N C:jh}{A:iY}{a:List df}{s:iJ}{H:Hp}{i:Args}{us:jF}{vs:List V}{Q:VK}{E:XK}(lk:K.lookup f=A7 ⟨oc,od,.func<|fnOf j qual c d scope Y kV p pm U l ct,r6⟩)(n5:codeIn K l qual=B8)(S:AY N C scope)
  (L:C2 (k+1) A)(z:Kk P w K B base A a s H)(hb:f5 s (fnOf j qual c d scope Y kV p pm U l ct) i (C.zip us))(r:Vals vs us)(hl:(A0 vs)=A0 C)
  (l8:C2 k (A.deeper<|aR qual scope s.heap.objs.size f l)-> ∃t,Io (rn CX P w K B base N qual scope f l A a s H E) d t/\t {nx:=λ_ h=>Q .B7 h,rt:=Q} (nN N vs) H):
  bP (ai P w) A (.call (.ref f) i) (CR CX a P w H s Q E) s:=by
 have M:K.In s.heap:=z.mod.kin.keeps λb o e=>(z.bs b o e).1;have O:s.heap.NoLimit:=z.mod.nolimit.keeps λb o e=>(z.bs b o e).1
 have D: ∀y∈C.zip us,scope.names.lookup y.1=A7 .local\/(scope.names.lookup y.1=A7 .cell/\((be (s.heap.objs.size+1) scope.names []).lookup y.1).isSome=B8):=λ⟨n,v⟩ hy=>by
  rcases S.par n (DU hy).1 with q|q
  .exact .inl q
  .exact .inr ⟨q,cellsFrom_some _ _ _ (.inl q)⟩
 refine Mq L.depth (M _ _ lk) AU S.co S.gen AU (codeRec_of M n5)<|hb _ _ _ _ ?_;refine Mp S.kind D λF W s1 x=>?_;subst W;refine⟨O.keeps x.toInCall.keep,WP ?_⟩;obtain⟨t,Z,X⟩:=l8<|L.deeper _;have I:Inv (rn CX P w K B base N qual scope f l A a s H E) [] (nN N vs) H s1:=CY S L.hd z hl r x;refine oW (Z [] s1 (nN N vs) H _ I X) (λR G m=>?_) λe G m=>m
 have fin: ∀{g:St} {h:Hp} {v:V} {u:iN},Inv (rn CX P w K B base N qual scope f l A a s H E) [] g h G->RelV v u->Q v h->CE a P w H s Q u G:=
  λ{g h v u} J T q=>⟨v,h,J.os,J.bare,J.base,J.hok,T,q⟩
 cases R with
 |ret u=>obtain⟨v,g,h,J,T,q⟩:=m;exact fin J T q
 |next=>obtain⟨g,h,J,q⟩:=m;exact fin (v:=V.B7) (u:=ap) J AU q
 |brk=>obtain⟨_,_,_,q⟩:=m;exact aH q
 |cont=>obtain⟨_,_,_,q⟩:=m;exact aH q
section
variable {fs:kB}{N:jh}{scope:jG}{d:kT}{j:St}{H g:Hp}{h h':iX}{q:aw}{a:cc}{b:iK}{f:iE}
def Ea.keep(U:Ea N scope d j H h)(u:Un fs [] H g h h')(n: ∀x c,d.lookup x=J c->c∉fs):Ea N scope d j g h':=by
 have p: ∀{x c v},d.lookup x=J c->h.IsCell c v->h'.IsCell c v:=λ{x c v} e z=>by obtain⟨o,k,l⟩:=z;exact⟨o,u.keep c o k (U.cell x c e).2 (n x c e)<|by simp,l⟩
 refine⟨U.inj,U.has,λx c e=>?_,λi x v h1 s=>?_,U.len⟩
 .obtain⟨⟨v,o,k,l⟩,y⟩:=U.cell x c e;exact⟨⟨v,p e ⟨o,k,l⟩⟩,u.free c o k y<|by simp⟩
 .obtain⟨t,c,w,m,A,r⟩:=U.val i x v h1 s;exact⟨t,c,w,m,p m A,r⟩
def KD.keep(L:KD q a b scope d H h f)(u:Un fs [] H g h h')(n:f∉fs):KD q a b scope d g h' f:=by obtain⟨m,c,k,e,l,w,o,t,h1,i⟩:=L.fn;exact⟨⟨m,c,k,u.keep f _ e L.un n (by simp),l,w,o,t,u.frzs _ _ _ h1,i⟩,u.free f _ e L.un (by simp)⟩
end
section
variable {X:Cx}{N:jh}{scope:jG}{b9:kT}{σl:St}{q:aw}{params:cc}{body:iK}{fl:iE}{k:Nat}{t:XK->TE}
structure N1(X:Cx)(N:jh)(scope:jG)(b9:kT)(σl:St)(q:aw)(params:cc)(body:iK)(fl:iE)(k:Nat)(t:XK->TE):Prop where
 sc:FR scope
 cel:Ea N scope b9 σl X.H₀ X.s₀.heap
 lam:KD q params body scope b9 X.H₀ X.s₀.heap fl
 nfl:fl∉X.fs
 ncl: ∀x c,b9.lookup x=A7 c->c∉X.fs
 bnd: ∀pm c' n9,e7 (kla_fn "<lambda>" q params body scope b9 pm (.ref c') n9) ⟨[],[]⟩=pure []
 run: ∀(E:XK) (c':iE) (s:iJ) (H:Hp),C2 k (X.A.deeper<|BC q scope s.heap.objs.size fl (.ref c') b9)->PE (BE (Kl X.prog X.w) X.prog X.w X.K X.mg X.base N q scope fl (.ref c') b9 X.A X.stack s H E) body (t E)
def UU{m B O c:aw}{CR:iE}{l i j:Nat}{Y p2 p3 p4 p5 p6 p7 p8 p9:bu}(L:N1 X N scope b9 σl q params body fl k t)(l9:X.stack=X.env::X.outer)(eu:X.env.frame=A7 X.env.locals)(hex:X.ex=[])(hr:C2 (k+1) X.A)
  (hc:X.N[l]?=A7 m)(vc:NG X.env.scope m)(dG:(m==("__debug__":aw))=B6)(fM:(m==("__classdict__":aw))=B6)
  (J:bJ (.Call (.Name m Y) [] [] p2) C p3.line X.env=pure B6)
  (hg:Gl X B)(hm:X.mg B=A7 (.ref CR))(i8:(B==("__debug__":aw))=B6)
  (hN:X.N.Nodup)(hi:X.N[i]?=A7 O)(hj:X.N[j]?=A7 c)(m9:i≠j)(lx:X.env.scope.names.lookup O=A7 .local)(ln:X.env.scope.names.lookup c=A7 .local)(gQ:(c==("__debug__":aw))=B6)(gS:(c==("__classdict__":aw))=B6)
  (bK:bJ (.Name c p6) (A7<|.Name O p5) p7.line X.env=pure B6):
  PS X (.Try [.Expr (.Call (.Name m Y) [] [] p2) p3] [.ExceptHandler (A7<|.Name B p4) (A7 c) [.Assign [.Name O p5] (.Name c p6) p7] p8] [] [] p9)
   (λD d H'=>d[l]?=A7 (A7<|.ref fl)/\ ∃E:XK,t E σl H' (λ_ a=>D.nx d a)/\(∀C' a,E (.ref C') C a->exmOne X.K (.ref C') (.ref CR)=A7 B8)/\
    ∀C' a G o,E (.ref C') C a->a G=C->o.cls= .ref C'->D.nx ((d.set j C).set i<|A7<|.ref G) (upd a G<|.EG o<|.own 0)):=by
 intro x s d H' D I h;apply FL;intro T b;obtain⟨W,E,ht,S,hk⟩:=h;apply b;have un:Un X.fs [] X.H₀ H' X.s₀.heap s.heap:=by have:=I.base;rwa [hex] at this
 have C1:=L.cel.keep un L.ncl;have L1:=L.lam.keep un L.nfl;refine wpAny_Try_except ?_;refine wE<|IN ?_ I.quiet J;refine wt ?_;refine oW (yO (X:=X.Kh) hc vc dG fM x s d H' (λv a=>v= .ref fl/\a=H') (I.Hy _) ⟨.ref fl,W,rfl,rfl⟩) (λf s1 Z=>?_) λ_ _ z=>aH z;apply FL;intro T b;obtain⟨v,M,g,rv,rfl,rfl⟩:=Z;apply b;cases rv;have g:=g.FK;have y:Un X.fs [] X.H₀ M X.s₀.heap s1.heap:=by have:=g.base;rwa [hex] at this
 have F:=L.cel.keep y L.ncl;have n:=L.lam.keep y L.nfl;apply FL;intro T b;obtain⟨pm,U,n9,e,_⟩:=id n.fn;apply b;refine callWith_F0 ⟨_,_,_,_,e⟩<|Av<|vE (RL (CX:=Kl X.prog X.w) (E:=E) (t:=t E) (Q:=λ_ a=>D.nx d a) L.sc hr g.NC F n L.bnd (λU V=>L.run E U s1 M V) ht) λr s2 p=>?_
 cases r with
 |error e=>exact aap l9 eu hex g p hg hm i8 S hN hi hj m9 lx ln gQ gS bK hk
 |ok f=>
  cases f with
  |next=>exact aH p
  |brk=>exact aH p
  |cont=>exact aH p
  |ret u=>apply FL;intro T b;obtain⟨v,P,R,_,qq⟩:=g.after p;apply b;exact Ax<|Ax ⟨d,P,R,qq⟩
end
end L2
namespace PX
open L2 PySem.SeqAt PySem.W
def sim:D->Bool
 | .B7| .bl _| .int _| .str _=>I
 |_=>Y
def Qy{K c:Frag}{U a:Hp}{O e:BL}{d:D}{v:V}(h:sim d=I)(r:Rep K U O d v):Rep c a e d v:=by
 cases d with
 |B7=>rw[Rep] at r ⊢;exact r
 |bl b=>rw[Rep] at r ⊢;exact r
 |int b=>rw[Rep] at r ⊢;exact r
 |str b=>rw[Rep] at r ⊢;exact r
 |_=>cases h
def Fj(n i:Nat)(fs:FS)(d:D):Option D:=match fs ((ac n C).set i<|J (d,Y)) with
 |some (.rt (r,Y) _)=>if sim r=I then J r else C
 |_=>C
def Aa{n i:Nat}{d:D}(c:L2.St)(a:iE): ¬AZ c ((ac n C).set i<|J (d,Y)) a:=λU=>by
 obtain⟨j,e,h1,_⟩:=U
 by_cases b:j=i
 .subst b;rw[wq] at h1;split at h1
  .split at h1<;>simp at h1
  .rename_i z;exact z H
 .rw[nK<|nL b,rP] at h1;split at h1<;>cases h1
def VZ{K:Frag}{U:Hp}{f:L2.St}{n i:Nat}{d:D}{v:V}(o:(A0 f)=n)(k:f[i]?=J (J v))(r:Rep K U (λ_=>False) d v):ER K U (λ_=>False) f ((ac n C).set i<|J (d,Y)):=by
 have c: ∀{j:Nat} {e:D} {b:Bool},((ac n C).set i<|J (d,Y))[j]?=J (J (e,b))->j=i/\e=d/\b=Y:=λ{j e b} h=>by
  by_cases m:j=i
  .subst m;rw[oX<|by rw[Mr,<-o];exact(uD.mp k).1] at h;cases h;exact⟨rfl,rfl,rfl⟩
  .rw[nK<|nL m,rP] at h;split at h<;>cases h
 refine⟨by simp[o],λj e h=>?_,λj e h=>?_,λj l e g a h=>?_,λa z=>absurd z<|Aa f a,λ_ z=>z.elim⟩
 .obtain⟨rfl,rfl,_⟩:=c h;exact⟨v,k,Rep.mono (λ_ _ e _=>e) (λb _ z=>z.elim (Aa f b) id) r⟩
 .obtain⟨_,_,z⟩:=c h;cases z
 .obtain⟨_,_,z⟩:=c h;cases z
structure ClK(K:Frag)(C CR:iE):Prop where
 k:NM K C
 ty: ∀n∈["int","bool","str","tuple","list","dict"],kitOne K (.ref C) (.type n)=A7 B6
 up:exmOne K (.ref C) (.ref CR)=A7 B8
section
variable {X:Cx}
def Px{T:BL}{g:L2.St}{l:Dn}{U:Hp}{d:kb}{f:List (D×Bool)}{K:Frag}(m:ER K U T g l)(r:km l (d.map .slot)=J f):
  ∃vs:List V,yN d 0 g=vs.map J/\Ops K T g l U (d.map Cm.slot) vs l U T:=by
 obtain⟨u,s⟩:=qc r
 have there: ∀(i j:Nat),d[i]?=J j-> ∃v,g[j]?=J (J v):=λi j e=>by
  have t:i<(A0 f):=by have:=(uD.mp e).1;simp at u;lia
  obtain⟨o,q,k⟩:=s i _ (jx t);rw[kZ,e] at q;cases q;have n:=rl k;generalize f[i]=y at n;obtain⟨x,b⟩:=y
  cases b with
  |false=>obtain⟨v,h,_⟩:=m.val j x n;exact⟨v,h⟩
  |true=>obtain⟨a,h,_⟩:=m.own j x n;exact⟨_,h⟩
 refine⟨d.map λj=>((g[j]?).join).getD .B7,?_,by simp,.refl,m,λ_ z=>z,λj x v e=>?_,λj x v e=>?_,λj i v e hv=>?_⟩
 .unfold yN;rw[eO,yD];apply Ar;intro i;rw[kZ,kZ,kZ]
  cases e:d[i]? with
  |none=>rfl
  |some j=>obtain⟨v,hv⟩:=there i j e;simp[hv]
 .rw[kZ] at e;obtain⟨_,_,z⟩:=jB e;cases z
 .rw[kZ] at e;obtain⟨_,_,z⟩:=jB e;cases z
 .rw[kZ] at e;obtain⟨c,p,z⟩:=jB e;cases z;obtain⟨w,k⟩:=there j i p;rw[kZ,p] at hv;simp[k] at hv;rw[k,hv]
end
section
variable {X:Cx}{Pt c:iE}{params:cc}{body:iK}{scope:jG}{pos s9 pf:bu}{caps:kb}{N' NR:jh}{fB:F}{xB:XS}{ay:FS}{CI:aw->Option Nat}{asg:kb}{st:bn}{fr:iE}{dg:mI}{xf xc xr xx xn:aw}{CR:iE}{i j k:Nat}
structure Kr(X:Cx)(st:bn)(NR:jh)(fr:iE)(xf xc xr xx xn:aw)(CR:iE)(i j k:Nat)(asg:kb)(ay:FS):Prop where
 sc:AY NR [xc] (iI st)
 as0:0∉asg
 hi:NR[i]?=A7 xx
 hj:NR[j]?=A7 xn
 ij:i≠j
 j0:j≠0
 lc:(iI st).names.lookup xc=A7 .local
 lx:(iI st).names.lookup xx=A7 .local
 ln:(iI st).names.lookup xn=A7 .local
 gl:(iI st).names.lookup xr=A7 .globalImplicit
 mg:X.mg xr=A7 (.ref CR)
 db:(xc==("__debug__":aw))=B6/\(xc==("__classdict__":aw))=B6/\(xn==("__debug__":aw))=B6/\(xn==("__classdict__":aw))=B6/\(xr==("__debug__":aw))=B6
 body: ∃p1 p2 p3 p4 p5 p6 p7 p8 p9 S1 jA,lV st=S1:: .Try [.Expr (.Call (.Name xc p1) [] [] p2) p3] [.ExceptHandler (A7<|.Name xr p4) (A7 xn) [.Assign [.Name xx p5] (.Name xn p6) p7] p8] [] [] p9::jA/\
  ∀(b7:iN) (A:iY) (outer:List df) (s:iJ) (H:Hp) (L:LL),(∀i,L.p i->i<1)->C2 k (A.deeper<|aR xf (iI st) s.heap.objs.size fr b7)->
   bJ (.Call (.Name xc p1) [] [] p2) AX p3.line (aR xf (iI st) s.heap.objs.size fr b7)=pure B6/\bJ (.Name xn p6) (A7<|.Name xx p5) p7.line (aR xf (iI st) s.heap.objs.size fr b7)=pure B6/\
   Nh (rn Im X.prog X.w X.K X.mg X.base NR xf (iI st) fr b7 A outer s H L2.E0).Kh (λi=>i∈asg) L H S1 (kx i<|fC .B7)/\Iv (rn Im X.prog X.w X.K X.mg X.base NR xf (iI st) fr b7 A outer s H L2.E0).Kh (λi=>i∈asg) L H jA ay
end
open TS
noncomputable abbrev NF(i:Int):Int:=if i<0 then -i else i
section
variable {d:ja}{w:iW}{A:iY}{E:jt}{s:iJ}
def adQ{a:iE}{f:jF}{r:iR}{n:Nat}{P:Ch->Shared->Prop}(N:s.heap.get? a=J (bc "list" f.toArray n))(hi:dQ f r)(h64:f.length<64)
  (h: ∀g y J' c,(∀b o,b≠a->s.heap.get? b=J o->g.get? b=J o)->g.get? a=J (bc "list" J' c)->KskOut B6 (r.map NF) f J'.toList->P (.done<|.ret .none) {s with heap:=g,toks:=y}):
  ah (ai d w) A (ksk_tree a (.builtin "abs") B6) P E s:=by
 have ha:a<s.heap.objs.size:=jW N;have Z:=hi.length;have T: ∀k,k<=f.length->k<=sizeLine:=λk hk=>by rw[jQ];omega
 unfold ksk_tree;refine iF<|GV N AU<|iF<|wc N AU ?_ (T _ (by simp))<|lX _;obtain⟨C,t8⟩: ∃C,(s.heap.update a<|aF λ_=>(#[]:Array iN)).get? a=J (bc "list" #[] C):=⟨_,yp N λ_=> #[]⟩
 refine iF<|Ak t8 AU<|iF<|G2 ?_<|T _ (by simp);refine iF<|DD ?_<|lX _;refine mn ?_
 let h1:=ql s.heap a f
 let m:Addr:=((s.heap.update a<|aF λ_=>(#[]:Array iN)).push<|bc "tuple" f.toArray 0).objs.size
 have hk:m=s.heap.objs.size+1:=by show _=_;simp -iota only[m];rw[size_push',Heap.size_update]
 have L:a≠m:=by rw[hk];exact jH<|vq ha
 have W: ∀b o,b≠a->s.heap.get? b=J o->h1.get? b=J o:=λb o z e=>jT _ (jT _ (by rw[GU _ _ _ _ z];exact e));have K:h1.get? a=J (bc "list" #[] C):=jT _ (jT _ t8);have S:h1.get? m=J (bc "list" #[] 0):=kh _ rfl;show ah (ai d w) A (ksk_rest a (.builtin "abs") B6 f.toArray C<|.ref m) P E {s with heap:=h1};unfold ksk_rest;refine iF<|vt ?_;rw[List.forIn_toArray];refine iF<|ksk_fold (λi Y=> ∃g y l e,Y={s with heap:=g,toks:=y}/\(∀b o,b≠m->h1.get? b=J o->g.get? b=J o)/\g.get? m=J (bc "list" l e)/\dQ l.toList ((r.map NF).take i)) f 0 _ ⟨h1,s.toks,#[],0,rfl,λ_ _ _ e=>e,S,.nil⟩ (λj x Y hx F=>?_) λY F=>?_
 .obtain⟨g,y,l,e,rfl,U,G,p⟩:=F;have X:j<f.length:=(uD.mp hx).1;obtain⟨t,ht⟩:=hi.get j r[j]<|jx (by omega);rw[hx] at ht;cases ht
  have q:l.size<=f.length:=by have:=p.length;rw[kF,qP] at this;omega
  refine iF<|rE<|call_abs_int λu fW=>?_;dsimp only;have s1:=sM g m (aF (·.push (.int (NF r[j]) u)));refine iF<|wc (s:={s with heap:=g,toks:=fW}) G AU ?_ (T _ q)<|mT (zx (Array.size_push ..)) (by rw[jQ];omega);refine iP ⟨rfl,_,_,l.push<|.int (NF r[j]) u,_,rfl,λb o z e=>(s1.2 b z).trans<|U b o z e,yp G _,?_⟩;rw[ek,List.take_add_one,kZ,jx (show j<r.length by omega),e8];rw[ek] at p;exact p.append<|.cons _ _ .nil
 .obtain⟨g,y,l,e,rfl,U,G,p⟩:=F;have p:dQ l.toList (r.map NF):=by rwa [ek,yu<|by simp;omega] at p
  have q:l.size=f.length:=by have:=p.length;rw[kF,jM] at this;omega
  have M:(l.zip f.toArray).size=f.length:=by rw[sx,q,jy,Nat.min_self]
  refine iF<|GV (s:={s with heap:=g,toks:=y}) G AU ?_
  have v: ∀st:tD,(fQ st).Perm (l.zip f.toArray)->SortedTo (fQ st) (fQ st).size->f8 st=AX->ah (ai d w) A (ksk_tail a B6 C (.ref m) st) P E {s with heap:=g,toks:=y}:=λst O V R=>by
   have s1:=sM g m<|aF λ_=>(#[]:Array iN);have D:(g.update m<|aF λ_=>(#[]:Array iN)).get? a=J (bc "list" #[] C):=(s1.2 a L).trans<|U a _ L K;have s2:=sM (g.update m<|aF λ_=>(#[]:Array iN)) a (aF λ_=>(fQ st).map (·.2));unfold ksk_tail;simp -iota only[jK,jX];refine iF<|wc (s:={s with heap:=g,toks:=y}) G AU ?_ (T _ (by omega))<|lX _;refine iF (wk (iF (Ak D AU (iF (wc D AU ?_ (lX _) (nF (show((fQ st).map (·.2)).size<=sizeLine from T _ (by rw[sB,O.size_eq,M];exact kc _))))))));rw[R];simp -iota only[vz,jK,jX];refine iP<|h _ _ _ _ (λb o z e=>?_) (yp D _) (ksk_out (b:=B6) p O V);have I:b≠m:=by rw[hk];exact jH<|vq<|jW e
   exact(s2.2 b z).trans ((s1.2 b I).trans<|U b o I<|W b o z e)
  unfold ksk_end;simp -iota only[jK,jX];by_cases H:f.toArray.size<2
  .rw[iQ H,iQ H];refine iF<|iP ?_;rw[GY];refine iF<|iP<|v _ (Array.Perm.refl _) (λi j m9 X=>?_) rfl;have dA:j<(l.zip f.toArray).size:=X;rw[M] at dA;rw[jy] at H;have:i=j:=by omega
   subst this;exact Int.le_refl _
  .rw[jc H,jc H];rw[jy] at H;rw[ksk_kind p<|by rw[q];omega];refine iF (iP ?_)
   refine iF (oW (wpS_sortRuns (a₀:=l.zip f.toArray) (st:=SortSt.mk' M2 (l.zip f.toArray) #[] 7 AX) (Q:=λ_ B=>(fQ B).Perm (l.zip f.toArray)/\f8 B=AX/\SortedTo (fQ B) (l.zip f.toArray).size)
    (ksk_intKeys p) ⟨Array.Perm.refl _,rfl,rfl,rfl⟩ (by rw[M];omega) (by rw[M];exact h64) λB a1 a2 a3=>⟨a1,a2,a3⟩) ?_ λ_ _ e=>e)
   rintro⟨⟨⟩,B⟩ Y ⟨rfl,O,R,V⟩;exact v B O (by rw[O.size_eq];exact V) R
end
noncomputable def aD:D->Int
 | .int i=>NF i
 |_=>0
noncomputable def MJ:D->Bool
 | .int _=>I
 |_=>Y
noncomputable def KP(x y:D):Bool:=decide<|aD x<aD y
noncomputable def wL:D->Option (D×Bool)
 | .lst l=>if l.all MJ=I/\(l.map aD).Nodup/\(A0 l)<64 then J (.lst<|mK KP l,I) else C
 |_=>C
def aeM{x:D}: ∀{l:List D},l.Pairwise (λa b=>aD a<=aD b)->(Ez KP x l).Pairwise λa b=>aD a<=aD b:=by
 intro g
 induction g with
 |nil=>intro _;simp[Ez]
 |cons y l f=>
  intro h;obtain⟨h1,e⟩:=E6.mp h;unfold Ez;by_cases d:aD y<aD x
  .rw[iQ<|by simpa[KP] using d];refine E6.mpr ⟨λz c=>?_,f e⟩;rcases kW.mp ((uT KP x l).mem_iff.mp c) with rfl|c
   .omega
   .exact h1 z c
  .rw[jc<|by simpa[KP] using d];refine E6.mpr ⟨λz c=>?_,h⟩;rcases kW.mp c with rfl|c
   .omega
   .have:=h1 z c;omega
def Cw: ∀l:List D,(mK KP l).Pairwise λa b=>aD a<=aD b:=by
 intro d
 induction d with
 |nil=>exact .nil
 |cons _ l c=>exact aeM<|c
theorem CJ: ∀{l:List D},(l.map aD).Nodup-> ∀a∈l,∀b∈l,aD a=aD b->a=b
 |x::l,h,a,d,b,f,e=>by
  rw[jU,yH] at h;rcases kW.mp d with h1|h1<;>rcases kW.mp f with c|c
  .rw[h1,c]
  .exact absurd (h1▸e▸tL c) h.1
  .exact absurd (c▸e▸tL h1) h.1
  .exact CJ h.2 a h1 b c e
def adT{l m:List D}(c:m.Perm l)(g:m.Pairwise λa b=>aD a<=aD b)(f:(l.map aD).Nodup):m=mK KP l:=by refine(c.trans (kH KP l).symm).eq_of_pairwise (le:=λa b=>aD a<=aD b) (λa b d e x y=>CJ f a (c.mem_iff.mp d) b ((kH KP l).mem_iff.mp e)<|by omega) g (Cw l)
section
variable {X:Cx}{f:ju}{g:L2.St}{H:Hp}{s:iJ}
def XE{O:BL}: ∀{l:List D} {j:List V} {c:jF},l.all MJ=I->AF X.K H O l j->Vals j c-> ∃e:List Int,l=e.map .int/\dQ c e:=by
 intro n
 induction n with
 |nil=>intro j c _ r v;rw[AF] at r;subst r;cases v;exact⟨[],rfl,.nil⟩
 |cons d l m=>
  intro j c h r v;rw[AF] at r;obtain⟨x,q,rfl,o,p⟩:=r;rw[tN,lA] at h
  cases d with
  |int i=>
   cases v with
   |cons a b=>obtain⟨e,rfl,k⟩:=m h.2 p b;rw[jr<|.inl o] at a;obtain⟨t,rfl⟩:=a;exact⟨i::e,rfl,.cons _ _ k⟩
  |_=>exact absurd h.1 (by simp[MJ])
theorem Ws: ∀{l:List D} {a:iR} {xs:List V} {its:jF},l=a.map .int->A0 xs=A0 l->A0 its=A0 l->(a.map NF).zip its=(l.zip<|xs.zip its).map λt=>(aD t.1,t.2.2)
 |[],[],_,_,_,_,_=>by simp
 |d::l,i::a,x::xs,u::its,h,h1,b=>by obtain⟨rfl,c⟩:=wd h;have:=Ws (xs:=xs) (its:=its) c (by simpa using h1) (by simpa using b);simp -iota only[jU,vh,this];rfl
def acA{u:iN}{Q:VK}{O:BL}{d:D}{z:D×Bool}{x:V}(I:Inv X f g H s)(ru:RelV x u)(np: ∀p,¬Ow (H p)-> ¬O p)(hd:kg X.K H O d x)(N:wL d=A7 z)(G:Gen X.K H O z Q):
  ah (ai X.prog X.w) X.A (call (.builtin "sorted") [u] [(bD "key",.builtin "abs")]) (EP X f g Q) X.xe s:=by
 cases d with
 |lst l=>
  obtain⟨⟨hI,hn,hz⟩,rfl⟩:=jf N;obtain⟨p,xs,rfl,q,L⟩:=ke hd;cases ru;obtain⟨j,v,pl,_⟩:=I.list q;have e1:=L.length;have e2:=v.length;obtain⟨ns,S,r⟩:=XE hI L v;have hl:j.length<=sizeLine:=by rw[jQ];omega
  obtain⟨o,ho,hc,n,W⟩:=pl.isList;refine call_function_entry_kw kind_sorted YP entry_sorted (ksk_s1 _ _) ?_;unfold bz.«sorted»;refine iF (m:=checkCount "sorted" 1 1 _)<|iP ?_;refine iF<|GS p (.inl AU) ho hc W (λh1 k1=>?_) (by rw[jy];omega);rw[List.toList_toArray];refine iF<|DD ?_ hl;have J:(h1.push<|bc "list" j.toArray 0).get? h1.objs.size=A7 (bc "list" j.toArray 0):=kh _ rfl;have T:Inv X f g H {s with heap:=h1}:=I.kept k1;refine iF<|mn<|wpAny_call_entry_kw (s:={s with heap:=h1.push (bc "list" j.toArray 0)}) MB ⟨_,J,rfl⟩ F0 ?body<|ksk_l1 _ _
  case body=>
   show ah _ _ (bz.«list.sort» ⟨[.ref h1.objs.size],[(bD "key",.builtin "abs")]⟩) _ _ _;rw[ksk_t4];refine adQ (s:={s with heap:=h1.push (bc "list" j.toArray 0)}) J r (by omega) λh' tk E c k2 k3 ko=>⟨_,rfl,iP ⟨_,rfl,?_⟩⟩
   obtain⟨ps,Y,k,F⟩:=ko;rw[Ws S (by omega)<|by omega] at Y;obtain⟨a,P,rfl⟩:=mU _ Y _ rfl;rw[jP] at k
   have Z: ∀t∈a,Rep X.K H O t.1 t.2.1/\RelV t.2.1 t.2.2:=λt hm=>by obtain⟨i,hi⟩:=vp<|P.mem_iff.mp hm;obtain⟨B,dB⟩:=EZ.mp hi;obtain⟨y,C⟩:=EZ.mp dB;obtain⟨w,R,w2⟩:=v.get y;rw[C] at R;cases R;exact⟨L.views B y,w2⟩
   have M:a.map (·.1)=mK KP l:=by
    refine adT ?_ (by rw[oD] at F ⊢;exact F.imp λh=>by simpa using h) hn;have:=P.map (·.1)
    rwa [n7<|by simp;omega] at this
   have hR: ∀a:List (D×V×iN),(∀t∈a,Rep X.K H O t.1 t.2.1/\RelV t.2.1 t.2.2)->AF X.K H O (a.map (·.1)) (a.map (·.2.1))/\Vals (a.map (·.2.1)) (a.map (·.2.2)):=λa=>by
    induction a with
    |nil=>exact λ_=>⟨.nil,.nil⟩
    |cons t a ih=>intro h;obtain⟨i1,i2⟩:=ih λx hx=>h x<|jZ _ hx;exact⟨.cons (h t jY).1 i1,.cons (h t jY).2 i2⟩
   obtain⟨r1,r2⟩:=hR a Z;have keep: ∀b o,h1.get? b=A7 o->h'.get? b=A7 o:=λb o e=>k2 b o (jH<|jW e)<|jT _ e;have U:a.length=l.length:=by have:=ox de M;rw[(kH KP l).length_eq,jM] at this;exact this
   refine⟨.ref h1.objs.size,_,T.laid (t':=tk) keep (kc _) (show B9 X.prog X.w _ _ _ (.lst (a.map (·.2.1))) from⟨by rw[jM,jQ];omega,E.toList,c,?_,?_⟩),rfl,?_⟩
   .rw[k];exact r2
   .rw[LF];exact k3
   .refine G.lst T.fresh ?_;rw[<-M];exact r1
 |_=>cases N
def aeh{a:iK}{i:TA}{p b w v:bu}(c:Gl X "sorted")(r:X.mg "sorted"=C)(k:Gl X "abs")(m:X.mg "abs"=C)(n:PA X [a] i)
  (o:aQ b (ag [a] X.env)=(Y,aM a X.env)::aQ b (ag [] X.env))(l:(aQ b<|ag [a] X.env).any (·.1)=Y):
  PE X (.Call (.Name "sorted" p) [a] [⟨J "key",.Name "abs" w,v⟩] b) (Nr (Ib X.K<|g1 wL) i):=by
 intro f s g H Q U h;refine wt<|um U c r adN<|callWith_kw (Bo (n b f s g H _ U h) λT s1 ⟨E,B,e,y,t⟩=>kws_cons<|um e k m V9<|kws_nil ?_) o l AU AU;obtain⟨O,j,z,np,q,hv,c,G⟩:=t
 match j,c with
 |[d],c=>obtain⟨x,rfl⟩:=Jt q AU;obtain⟨u,rfl,A⟩:=sU y;exact acA e A np (hv 0 d x AU AU) c G
def aex{a:iK}{c:FO}{p b n m:bu}(k:Gl X "sorted")(l:X.mg "sorted"=C)(d:Gl X "abs")(h:X.mg "abs"=C)(i:PA X [a] (tA X.K [c]))
  (j:aQ b (ag [a] X.env)=(Y,aM a X.env)::aQ b (ag [] X.env))(e:(aQ b<|ag [a] X.env).any (·.1)=Y):
  PX X (.Call (.Name "sorted" p) [a] [⟨J "key",.Name "abs" n,m⟩] b) (jq (g1 wL) [c]):=pxn<|aeh k l d h i j e
end
noncomputable def K5(i:Nat):F:=λa=>match a[i]? with
 |some (J (.lst l,I))=>(l[A0 l-1]?).bind λd=>J ((d,Y),a.set i<|J (.lst l.dropLast,I))
 |_=>C
def AF.dropLast{K U}{O:BL}{l:List D}{a:List V}(r:AF K U O l a):AF K U O l.dropLast a.dropLast:=by rw[LD,LD,r.length];exact r.take _
section
variable {X:Cx}{x:aw}{i:Nat}{f c g:bu}
def UI(hv:PO X (.Name x f) (iG i))(B:bN (.Name x f) "pop" X.env (aM (.Name x f) X.env)=aM (.Name x f) X.env)(u:(c.endLine==g.line)=I):
  PX X (.Call (.Attribute (.Name x f) "pop" c) [] [] g) (K5 i):=
 PX.imp (U7 Ah LJ LH Vn hv B u) λU N Q A=>by
 obtain⟨r,T,G,L,E,e,k⟩:=A;unfold K5 at e;split at e
 .rename_i l m;obtain⟨d,hd,e⟩:=iC e;obtain⟨rfl,rfl⟩:=jd e;refine⟨r,T,.slot i,r,E,by unfold iG;rw[m],λv O P=>?_⟩;obtain⟨t,p,h⟩:=P;obtain⟨a,g1,q,g2,g3⟩:=p.own i _ m;rw[h] at g1;cases g1;obtain⟨w,C,M⟩:=g3.get hd;have y:=g3.length;obtain⟨s,j⟩:=p.write m h<|AF.dropLast g3;refine⟨.inl ⟨rfl,q,Fp.of g2⟩,_,q,w,rfl,rfl,g2,by rw[y];exact C,?_⟩;exact k _ _ (CK.val (t.trans j) s<|Rep.mono (λb o e n=>j.kp b o e λz=>n<|.inl z) (λb _ z=>z.imp (j.ow b) id) M)
 .cases e
end
section
variable {X:Cx}
variable {a:iK}{e:FO}{p b f g d c:bu}{x:aw}{i:Nat}
def xSA(T:Tx X.mg)(l:QA X [a] [e])(n:Gl X "sorted":=by rfl)(j:Gl X "abs":=by rfl)(m:aQ b (ag [a] X.env)=(Y,aM a X.env)::aQ b (ag [] X.env):=by rfl)(k:BA X b [a]:=by rfl):
  QX X (.Call (.Name "sorted" p) [a] [⟨J "key",.Name "abs" f,g⟩] b) (jq (g1 wL) [e]):=⟨aex n (MQ T (z:="sorted") H) j (MQ T (z:="abs") H) l.h m k⟩
def Xi(hv:QO X (.Name x d) (iG i))(k:bN (.Name x d) "pop" X.env (aM (.Name x d) X.env)=aM (.Name x d) X.env:=by rfl)(j:(c.endLine==b.line)=I:=by rfl):
  QX X (.Call (.Attribute (.Name x d) "pop" c) [] [] b) (K5 i):=⟨UI hv.h k j⟩
end
section
variable {X:Cx}{a:ju}{b:L2.St}{H:Hp}{s:iJ}
theorem I9{K:jb}{O:BL}: ∀(c:List Key),AF K H O (c.map kf)<|c.map kV
 |[]=>AF.nil
 |k::c=>by
  refine AF.cons ?_<|I9 c
  cases k with
  |inl i=>exact Rep.mkInt
  |inr x=>exact Rep.mkStr
theorem wG{K:jb}{O:BL}(np: ∀p,¬Ow (H p)-> ¬O p): ∀{c:List (List Key×V)} {d:List (List Key×iE×iN)},L2.KT H c d->AF K H O (c.map λp=> .tup (p.1.map kf)) (d.map λx=>V.ref x.2.1)
 |_,_,.nil=>AF.nil
 |_,_,.cons h t=>by refine AF.cons (Rep.Kq ⟨h.2.1,np _ λz=>z.nt _ h.2.1⟩<|I9 _)<|wG np t
def AE{P:ja}{w:iW}(c:List (List Key×iE×iN)):Vals (c.map λx=>V.ref x.2.1) ((c.map<|ut<|ca<|kJ P w).map (·.key)):=by
 induction c with
 |nil=>exact .nil
 |cons x c d=>exact .cons AU d
end
def EE(d:D):Option (D×Bool):=match d with
 | .BU .dct a _=>J (.lst a,I)
 |_=>Bj d
def ad4{b:ja}{w:iW}{a:iE}{c:Array ew}{d:Nat}(hd:(a==bp)=Y):PySem.W.KdlSrc b w "dict" a a c.size (λi v=> ∃e,c[i]?=J e/\v=e.key) (λh=>TT.HJ h a c d) where
 type:=λs x=>x.typeIs
 there:=λh x=>let⟨_,h1,_⟩:=x.at_;⟨jW h1,jW h1⟩
 keep:=λh j x k=>x.Ca λo e=>k a (.inl H) o e
 notList:=by decide
 notTuple:=by decide
 hint:=λA E s Q x h=>PySem.W.kdl_hint_dict x.typeIs h
 iter:=λA s g x=>by have f:a<s.heap.objs.size:=let⟨_,h1,_⟩:=x.at_;jW h1;exact⟨_,_,λE Q h=>TT.JM hd x h,TT.Gs g s.heap.objs.size a (pD f) c d,⟨⟨_,kh _ rfl,rfl,rfl⟩,x.Ca λo e=>jT _ e⟩⟩
section
variable {X:Cx}{b:ju}{f:L2.St}{H:Hp}{s:iJ}
def xu(p:X.A.handled=C)(U:Inv X b f H s){a:iE}{g:Array ew}{n:Nat}{O:BL}{k:List D}{j:List V}{Q:VK}(hd:(a==bp)=Y)(S:TT.HJ s.heap a g n)(l:g.size<=sizeLine)
  (x:AF X.K H O k j)(v:Vals j (g.toList.map (·.key)))(G:Gen X.K H O (.lst k,I) Q):ah (ai X.prog X.w) X.A (call (.type "list") [.ref a]) (EP X b f Q) X.xe s:=by
 refine PySem.W.kdl_call (ad4 hd) p S l λz y d c t r m=>?_
 have o:d.toList=g.toList.map (·.key):=by
  apply Ar;intro i;rw[ml,kZ,ml]
  cases h:d[i]? with
  |some u=>obtain⟨e,h1,rfl⟩:=m.2 i u h;rw[h1];rfl
  |none=>have:=Wi.mp h;rw[Wi.mpr<|by rw[<-m.1];exact this];rfl
 have q:=v.length;refine⟨.ref s.heap.objs.size,_,U.laid (t':=y) t (kc _) (show B9 X.prog X.w _ _ _ (.lst j) from⟨by rw[q,jM,kF];exact l,d.toList,c,by rw[o];exact v,by rw[LF];exact r⟩),rfl,?_⟩;exact G.lst U.fresh x
def acL(M:X.calm=B8):kG X (.type "list") (Ib X.K<|g1 EE):=nI λb s f H x u Q O d z I B np hd t G=>by
 by_cases y: ∃l C,d= .BU .dct l C
 .obtain⟨l,C,rfl⟩:=y;cases(show A7 (D.lst l,B8)=A7 z from t);obtain⟨a,P,rfl,q,r⟩:=pH hd;cases B;have v:X.A.handled=AX:=I.ok.hd M;rcases q with⟨h,e,rfl,rfl⟩|⟨h,e,rfl,rfl⟩
  .obtain⟨U,m,N,c,o,n,T,h1,g,i,k,p,J⟩:=Pl I.hok e;have E:=Ct p c;have w:=E.length;simp only[jM,kF] at w;exact xu v I m ⟨o,h1,g,i⟩ (by lia) (yM h) E G
  .obtain⟨U,m,L,c,o,n,T,h1,g,i,k,p,J⟩:=Pj I.hok e;have w:=tV c;have F:n.size=L.length:=B1 k;exact xu v I m ⟨o,h1,g,i⟩ (by lia) (wG np c) (by rw[k];exact AE L) G
 .have:EE d=Bj d:=by
   unfold EE;split
   .exact absurd ⟨_,_,rfl⟩ y
   .rfl
  exact acK b s f H [x] [u] Q I (.cons B .nil) ⟨O,[d],z,np,rfl,λj Y R h1 g=>by
   cases j with
   |zero=>cases h1;cases g;exact hd
   |succ j=>simp at h1,by show Bj d=A7 z;rw[<-this];exact t,G⟩
end
def F7(d e:D):Option (D×Bool):=match d,e with
 | .lst l,.int k=>if 0<=k/\k<1000/\(A0 l)*k.toNat<=sizeLine then J (.lst (ac k.toNat l).flatten,I) else C
 |_,_=>pW d e
theorem AF.rep{K U}{O:BL}{l:List D}{a:List V}(r:AF K U O l a): ∀n:Nat,AF K U O (ac n l).flatten (ac n a).flatten
 |0=>AF.nil
 |n+1=>by rw[rN,rN,yB,yB];exact r.append<|AF.rep r n
section
variable {X:Cx}
def aep:ES X (bw .Mult) (rD X.K F7):=by
 intro g s σ H x y v u Q I M i h;obtain⟨O,d,e,z,np,h1,A,B,G⟩:=h;by_cases C: ∃l k,d= .lst l/\e= .int k
 .obtain⟨l,k,rfl,rfl⟩:=C;obtain⟨⟨V,W,E⟩,rfl⟩:=jf (show(if 0<=k/\k<1000/\l.length*k.toNat<=sizeLine then A7 (D.lst (ac k.toNat l).flatten,B8) else AX)=A7 z from B);obtain⟨p,xs,rfl,q,r⟩:=ke h1;cases M;rw[jr A] at i;obtain⟨t,rfl⟩:=i;obtain⟨b,J,pl,_⟩:=I.list q;obtain⟨⟨R,dd,o,N⟩,n,e,L,_,j⟩:=pl;simp only at L j;subst L j;have w:=r.length;have S:=J.length;have f:b.toArray.size*k.toNat<=sizeLine:=by rw[jy,<-S,w];exact E
  have c: ¬b.toArray.size*k.toNat>(2^63-1) / 8:=by
   have:(sizeLine:Nat)<=(2^63-1) / 8:=by decide
   lia
  have P: ¬(!abw k)=B8:=by rw[I8 (by lia)<|by lia];exact ki
  have Y: ¬bT (b.toArray.size*k.toNat)=B8:=by rw[FN f];exact ki
  have Z:eY (λx1 x2=>x1++x2) #[] (ac (if b.toArray.isEmpty=B8 then 0 else k.toNat) b.toArray)=(ac k.toNat b).flatten.toArray:=by
   have f0: ∀m:Nat,eY (λx1 x2=>x1++x2) #[] (ac m b.toArray)=(ac m b).flatten.toArray:=λm=>by
    have:=CZ b m []
    rwa [tK] at this
   rw[f0]
   cases b with
   |nil=>simp
   |cons a r'=>rw[jc<|by simp]
  refine wpAny_binaryOp_repeat_ref (T:="list") (U:="int") (by decide) ⟨_,e,rfl⟩ (λs'=>tz s' k t) noFill_list_mul F.fills_int_mul F.slot_int_rmul repeat_list F.slot_int_index.lookup
   (rM F.slot_int_rmul (tz s k t) F.entry_int_rmul (F.args_int_rmul_2 _ _) (lm_int_rmul_list_any k t p b.toArray n dd N)
    ⟨e,rfl,⟨_,e,rfl⟩,rM F.slot_list_mul ⟨_,e,rfl⟩ F.entry_list_mul (F.args_list_mul_2 _ _) (lm_list_mul_any p b.toArray n dd N k t P c Y) ⟨e,?_⟩⟩)
  rw[Z];exact⟨.ref _,_,I.M1 (t':=s.toks) (J.rep k.toNat)<|by rw[RC,vY,w];exact E,rfl,G.lst I.fresh<|r.rep k.toNat⟩
 .have:F7 d e=pW d e:=by
   unfold F7;split
   .exact absurd ⟨_,_,rfl,rfl⟩ C
   .rfl
  exact oo g s σ H x y v u Q I M i ⟨O,d,e,z,np,h1,A,by rw[<-this];exact B,G⟩
end
section
variable {a:ja}{w:iW}{A:iY}{E:jt}{I:iE}{c b:kB}{n:Nat}{P:Nat->iN->Prop}{St:Nat->iX->Prop}
end
section
variable {X:Cx}{A:kK}{a:bu}{c:kD}{b:List Tg}
end
section
variable {X:Cx}{A:kK}{a b:iK}{j:bu}
variable {e g:iK}{f:F}{x z:aw}{p n l m:bu}{i k:Nat}{L:LL}{o:Hp}
def xLS{c:pk}{scope:jG}{w:Fi}{tt:Tg}{y:FT}{r:kb}{N':jh}{s:bu}(T:Tx X.mg)(C:EL X N' scope r k)(Q:N'.Nodup)(G:QI X (λi=>i∉r) c.target c.iter w)
  (U: ∀(cl:kT) (C:iE) (v:iJ) (t:Hp) (u:kB) (q:ju),(X.comp N' scope cl C v t u q).N.Nodup->
   QG (X.comp N' scope cl C v t u q) (λi=>A0 r<=i) c.target tt/\QF (X.comp N' scope cl C v t u q) c.ifs y/\QX (X.comp N' scope cl C v t u q) g f)
  (H:X.calm=B8:=by rfl)(E:c.is_async=0:=by rfl)(O: ∀x,ax c.iter X.env x=pure x:=by intro _;rfl)(I:Gl X "len":=by rfl)
  (h1:ag [.SetComp g [c] scope j] X.env=(Y,aM (.SetComp g [c] scope j) X.env)::ag [] X.env:=by rfl)(B:(aQ s<|ag [] X.env).any (·.1)=Y:=by rfl):
  QX X (.Call (.Name "len" p) [.SetComp g [c] scope j] [] s) (uV r k w tt y<|BM f):=
 ⟨adw C H E (by intro M h;cases h) O G.h (λcl C v t u q=>let⟨a,b,c⟩:=U cl C v t u q Q;⟨a.h,b.h,λd=>acY AU c.h⟩) I T.n_len V8 (by decide) (by decide) h1 B⟩
end
def xK(d:D):Option (D×Bool):=match d with
 | .BU .dct a _=>kN a
 |_=>C
def qp(d e:D):Option (D×Bool):=match e with
 | .BU .dct a b=>if xH a d=I then J (.bl (!(nj a b d).isSome),Y) else C
 |_=>C
section
variable {X:Cx}{b:ju}{c:L2.St}{H:Hp}{s:iJ}
def AW(o:X.A.units+62<aS):ES X (av .NotIn) (rD X.K qp):=by
 intro b s c H x y v u Q U m n h;obtain⟨O,d,e,z,np,h1,l,f,G⟩:=h;by_cases j: ∃g i,e= .BU .dct g i
 .obtain⟨g,i,rfl⟩:=j;obtain⟨hk,rfl⟩:=jf (show(if xH g d=I then J (D.bl (!(nj g i d).isSome),Y) else C)=J z from f);obtain⟨a,t,rfl,q,r⟩:=pH l;cases n;exact YF (by lia) U q r hk h1 m I λp k=>⟨.bl _,H,k,by simp[L2.RelV],G.bl⟩
 .unfold qp at f;split at f
  .exact absurd ⟨_,_,rfl⟩ j
  .cases f
def abN(hc:X.calm=B8)(J:X.A.units+62<aS):kG X (.builtin "sorted") (Ib X.K<|g1 xK):=nI λb s c H x u Q O d z I W np hd h G=>by
 by_cases T: ∃t N,d= .BU .dct t N
 .obtain⟨t,N,rfl⟩:=T;have M:kN t=A7 z:=h;obtain⟨a,us,rfl,q,r⟩:=pH hd;cases W;have E:X.A.handled=AX:=I.ok.hd hc;rcases q with⟨g,e,rfl,rfl⟩|⟨g,e,rfl,rfl⟩
  .obtain⟨zl,v,Z,f,o,B,S,h1,l,m,n,C,V⟩:=Pl I.hok e;have U:=Ct C f;have L:=U.length;simp only[jM,kF] at L;exact qV J I (yM (O:=O) g) U M G λR F D i p=>TT.Pu v (by rw[i];exact E) ⟨o,h1,l,m⟩ (by lia) λj y k=>p j y k
  .obtain⟨zl,v,Y,f,o,B,S,h1,l,m,n,C,V⟩:=Pj I.hok e;have L:=tV f;have hz:B.size=Y.length:=B1 n;refine qV J I (wG np f) (AE (P:=X.prog) (w:=X.w) Y) M G λR F D i p=>TT.Pu v (by rw[i];exact E) ⟨o,h1,l,m⟩ (by lia) λj y k=>?_;rw[n];exact p j y k
 .unfold xK at h;split at h
  .exact absurd ⟨_,_,rfl⟩ T
  .cases h
end
def iD:D->Int
 | .int i=>i
 |_=>0
def VJ:D->Option (D×Bool)
 | .lst l=>if l.all MJ=I then J (.int<|lw (λj=>iD<|l.getD j .B7)<|A0 l,Y) else C
 |_=>C
theorem Bi: ∀{c:jF} {b:iR},dQ c b-> ∃a:List (Int×wl),c=a.map (λp=>gu p.1 p.2)/\b=a.map (·.1)
 |_,_,.nil=>⟨[],rfl,rfl⟩
 |_,_,.cons n t r=>let⟨a,h1,d⟩:=Bi r;⟨(n,t)::a,by rw[h1];rfl,by rw[d];rfl⟩
theorem zi{f g:Nat->Int}: ∀n,(∀j,j<n->f j=g j)->lw f n=lw g n
 |0,_=>rfl
 |n+1,h=>by rw[lw,lw,zi n λj a=>h j<|by lia,h n<|by lia]
section
variable {X:Cx}
def adH(i:X.calm=I):kG X (.builtin "sum") (Ib X.K<|g1 VJ):=nI λe s U N x u Q O d z M B np hd b G=>by
 cases d with
 |lst l=>
  obtain⟨h,rfl⟩:=jf b;obtain⟨p,T,rfl,q,r⟩:=ke hd;cases B;obtain⟨t,v,y,_⟩:=M.list q;obtain⟨L,c,n⟩:=XE h r v;obtain⟨f,g,a⟩:=Bi n;have k:X.A.handled=AX:=M.ok.hd i
  have o:s.heap.IsList p (intItems f.toArray):=by have:=y.isList;rw[g] at this;simpa[intItems] using this
  refine sum_intListG k o λE C t' w=>?_;refine⟨.int<|lw (λj=>iD<|l.getD j .B7)<|A0 l,N,M.kept (t':=C) w,⟨t',?_⟩,G.int⟩;have:(A0 l)=(A0 f):=by rw[c,a];simp
  rw[this,jy]
  congr 1
  refine zi _ λj m=>?_;rw[c,a];simp[numAt,iD,lW,m]
 |_=>cases b
def VO(l:List D):Option Nat:=(qr l).bind λbs=>bs.findIdx? id
def Se(i:Nat):F:=λa=>match a[i]? with
 |some (J (.lst l,I))=>(VO l).bind λj=>if (A0 l)<=1000 then J ((.int j,Y),a) else C
 |_=>C
def aam(x:V)(b:List V)(U:Hp)(Q:VK):Prop:= ∃(l:iE) (a:List V) (bs:List Bool) (j:Nat),x= .ref l/\b=[.bl I]/\U l=J (.lst a)/\a=bs.map V.bl/\bs.findIdx? id=J j/\(A0 bs)<=1000/\Q (.int j) U
theorem IF: ∀{bs:List Bool} {a:jF},Vals (bs.map V.bl) a->a=bs.map eR
 |[],_,.nil=>rfl
 |b::bs,_,.cons r t=>by cases r;rw[IF t];rfl
def aea:Oh X "list.index" aam:=by
 intro c s U N x T v O Q M C B h;obtain⟨l,G,bs,j,rfl,rfl,g,rfl,k,E,q⟩:=h;cases C;obtain⟨u,rfl,w⟩:=B.one;cases w;obtain⟨z,t,n,r,a,e⟩:=M.Ki g;have i:=IF r;subst i;obtain⟨h1,d,f⟩:=List.findIdx?_eq_some_iff_getElem.mp k
 refine rM F.slot_list_index ⟨_,e,rfl⟩ F.entry_list_index (F.args_list_index_2 _ _)
  (list_indexAt l (bs.map eR).toArray n AX #[] (.bool I) (λy=>match y with| .bool b=>b|_=>Y) j (by simpa using h1) (by lia) (by simpa using d) (λm L p=>?_)) ⟨e,λy o=>?_,⟨.int j,N,M.tok _,⟨_,rfl⟩,q⟩⟩
 .have:=f m p;simpa using this
 .obtain⟨b,_,rfl⟩:=mw.mp<|List.mem_toArray.mp o;have:=im (A:=X.A.in1) (s:=s) b I;cases b<;>simpa using this
variable {B w c o f:bu}{i:Nat}{x:aw}{g:Nat}
theorem Ja{K:jb}{U:Hp}{O:BL}: ∀{l:List D} {bs:List Bool} {a:List V},qr l=J bs->AF K U O l a->a=bs.map V.bl
 |[],bs,a,h,r=>by cases h;rw[AF] at r;exact r
 | .bl b::l,bs,a,h,r=>by obtain⟨d,h1,rfl⟩:=jB h;rw[AF] at r;obtain⟨v,k,rfl,e,j⟩:=r;rw[e.bl,Ja h1 j];rfl
theorem Df: ∀{l:List D} {bs:List Bool},qr l=J bs->A0 bs=A0 l
 |[],_,h=>by cases h;rfl
 | .bl b::l,_,h=>by obtain⟨a,h1,rfl⟩:=jB h;simp[Df h1]
def aey(hv:PO X (.Name x w) (iG i))(G:bN (.Name x w) "index" X.env (aM (.Name x w) X.env)=aM (.Name x w) X.env)
  (J:((aQ o<|ag [.Constant (.bool B8) g f] X.env).all (λx=>!x.1)&&(f4 o<|dM [] X.env).all (λx=>x.1.isSome)&&decide ([Expr.Constant (.bool B8) g f].length+([]:List cG).length+(if([]:List cG).isEmpty then 0 else 1)<30))=B8)
  (C:(c.endLine==o.line)=B8)(s:ag [.Constant (.bool B8) g f] X.env=(B6,aM (.Constant (.bool B8) g f) X.env)::ag [] X.env)(A:(aQ o<|ag [] X.env).any (·.1)=B6):
  PX X (.Call (.Attribute (.Name x w) "index" c) [.Constant (.bool B8) g f] [] o) (Se i):=
 PX.imp (Jn Ah PySem.F.slot_list_index PySem.F.type_list_index aea hv (lD S6 oK s) G J C s A) λW H Q L=>by
 obtain⟨d,T,V,D,E,e,k⟩:=L;unfold Se at e;split at e
 .rename_i l m;obtain⟨j,n,e⟩:=iC e;obtain⟨bs,r,n⟩:=iC n;obtain⟨I,e⟩:=jf e;obtain⟨rfl,rfl⟩:=rJ e;refine⟨d,T,.slot i,d,E,by unfold iG;rw[m],λv K P=>?_⟩;obtain⟨u,h,b⟩:=P;obtain⟨a,g1,z,g2,g3⟩:=h.own i _ m;rw[b] at g1;cases g1;refine⟨.inl ⟨rfl,z,Fp.of g2⟩,d,T,_,d,h,rfl,λy R q=>?_⟩;obtain⟨p,U⟩:=q.rep h;have O:=U.bl;subst O;obtain⟨S,t,Y,M,N⟩:=p.own i _ m;rw[b] at t;cases t;refine⟨_,Y,bs,j,rfl,rfl,M,Ja r N,n,by rw[Df r];exact I,?_⟩;exact k _ _ (CK.val (u.trans q.1) p Rep.mkInt)
 .cases e
end
def zP(a:kb)(b:Nat):D->Option (D×Bool)
 | .BU (.exc U) _ _=>if a.contains U=I then J (.bl<|U==b,Y) else C
 |_=>C
def VL(a:kb):D->Option (D×Bool)
 | .BU (.exc U) _ _=>if a.contains U=I then J (.bl I,Y) else C
 |_=>C
section
variable {X:Cx}{e:iK}{fa:FO}{pos p p2:bu}{z:aw}{CL:kb}{D0:Nat}
def VG{g:D->Option (D×Bool)}{f:iN}{i:V}(M:RelV i f)(E: ∀l,RelV i l->l=f)(B: ∀d t,g d=A7 t-> ∃C' b j m,d= .BU (.exc C') j m/\t=(.bl b,B6)/\kitOne X.K (.ref C') f=A7 b):
  kG X (.builtin "isinstance") (λn H' Q=> ∃(O:BL) (d:D) (x:V) (b:Bool),n=[x,i]/\kg X.K H' O d x/\g d=A7 (.bl b,B6)/\Q (.bl b) H'):=by
 intro k s Y H' n T Q I r h;obtain⟨O,d,x,b,rfl,hd,c,q⟩:=h;obtain⟨u,U,rfl,L,v⟩:=wY r;have:=E _ v;subst this;obtain⟨C',G,j,m,rfl,y,hk⟩:=B _ _ c;cases y;obtain⟨a,T,rfl,BU,_⟩:=pH hd;cases L;obtain⟨_,o,e,h1,A,J⟩:=BU;exact kia_one (A a) I.HN (show B9 X.prog X.w H' s.heap a (.EG o<|.own 0) from I.hok a _ e).1 hk (λz=>nomatch z) λN=>⟨.bl _,H',I.tok _,rfl,q⟩
def Jd{g:D->Option (D×Bool)}{w2:V}{h:iN}{a:iK}(y:PO X e fa)(c:PE X a (tC w2))(f:RelV w2 h)(I: ∀s,RelV w2 s->s=h)(q: ∀d i,g d=A7 i-> ∃C' b r t,d= .BU (.exc C') r t/\i=(.bl b,B6)/\kitOne X.K (.ref C') h=A7 b)
  (u:Gl X "isinstance")(A:X.mg "isinstance"=C)(hv:aA "isinstance"=A7 (.builtin "isinstance"))(s1:ag [e,a] X.env=(B6,aM e X.env)::ag [a] X.env)(O:ag [a] X.env=(B6,aM a X.env)::ag [] X.env)(w:(aQ pos<|ag [a] X.env).any (·.1)=B6):
  PX X (.Call (.Name "isinstance" p) [e,a] [] pos) (lL g fa):=by
 refine PX.imp (uh (VG (X:=X) f I q) u A hv (lD y (lD c oK O) s1) (by decide) (by decide) s1 w) λY H Q f=>?_;apply FL;intro M L;obtain⟨G,T,U,J,E,e,k⟩:=f;obtain⟨⟨o,l⟩,h1,e⟩:=iC e;obtain⟨x,c,e⟩:=iC e;obtain⟨i,n,e⟩:=iC e;obtain⟨rfl,rfl⟩:=jd e;obtain⟨C',b,r,t,rfl,rfl,hk⟩:=q _ _ n;apply L;refine⟨G,T,o,l,E,h1,λv N m=>?_⟩;have B:=Ops.cons E m<|Ops.nil<|m.er E;exact⟨_,_,v,b,rfl,B.view (j:=0) AU AU c,n,(B.done k).bl⟩
structure ClT(K:Frag)(mg:ly)(CL:kb)(D0:Nat)(z:aw):Prop where
 mg:mg z=A7 (.ref D0)
 is: ∀C∈CL,kitOne K (.ref C) (.ref D0)=A7 (C==D0)
def xE(T:Tx X.mg)(c:ClT X.K X.mg CL D0 z)(g:QO X e fa)(b:Gl X "isinstance":=by rfl)(a:Gl X z:=by rfl)(j:DB z:=by decide)(s1:ag [e,.Name z p2] X.env=(Y,aM e X.env)::ag [.Name z p2] X.env:=by rfl)(l:SE X (.Name z p2) []:=by rfl)(f:BA X pos [.Name z p2]:=by rfl):
  QX X (.Call (.Name "isinstance" p) [e,.Name z p2] [] pos) (lL (zP CL D0) fa):=⟨Jd (w2:= .ref D0) g.h (Jl a c.mg H j) H (λu h=>by cases h;rfl) (λd n h=>by
 unfold zP at h;split at h
 .rename_i U k m;obtain⟨i,rfl⟩:=jf h;exact⟨U,_,k,m,rfl,rfl,c.is U<|by simpa using i⟩
 .cases h) b T.n_isinstance ot s1 l f⟩
def xEV(T:Tx X.mg)(b:X.mg "ValueError"=C)(hk: ∀U∈CL,kitOne X.K (.ref U) (.type "ValueError")=J I)(g:QO X e fa)(c:Gl X "isinstance":=by rfl)(a:Gl X "ValueError":=by rfl)(s1:ag [e,.Name "ValueError" p2] X.env=(Y,aM e X.env)::ag [.Name "ValueError" p2] X.env:=by rfl)(k:SE X (.Name "ValueError" p2) []:=by rfl)(f:BA X pos [.Name "ValueError" p2]:=by rfl):
  QX X (.Call (.Name "isinstance" p) [e,.Name "ValueError" p2] [] pos) (lL (VL CL) fa):=⟨Jd (w2:= .ty "ValueError") g.h (zV (v:= .ty "ValueError") a b (by decide+kernel) H (by decide)<|by decide) H (λu h=>by cases h;rfl) (λd m h=>by
 unfold VL at h;split at h
 .rename_i U j l;obtain⟨i,rfl⟩:=jf h;exact⟨U,_,j,l,rfl,rfl,hk U<|by simpa using i⟩
 .cases h) c T.n_isinstance ot s1 k f⟩
variable {x:aw}{i kk:Nat}{c8 apos:bu}{a:iK}{f:F}
def Zp(hv:QO X (.Name x c8) (iG i))(g:bN (.Name x c8) "index" X.env (aM (.Name x c8) X.env)=aM (.Name x c8) X.env:=by rfl)
  (j:((aQ pos<|ag [.Constant (.bool I) kk p2] X.env).all (λx=>!x.1)&&(f4 pos<|dM [] X.env).all (λx=>x.1.isSome)&&decide ([Expr.Constant (.bool I) kk p2].length+([]:List cG).length+(if([]:List cG).isEmpty then 0 else 1)<30))=I:=by rfl)
  (c:(apos.endLine==pos.line)=I:=by rfl)(d:SE X (.Constant (.bool I) kk p2) []:=by rfl)(b:BA X pos []:=by rfl):QX X (.Call (.Attribute (.Name x c8) "index" apos) [.Constant (.bool I) kk p2] [] pos) (Se i):=⟨aey hv.h g j c d b⟩
end
def Oy(Z:ZZ)(k:Nat)(x:aw)(b:jh)(c:List D->Option aw):Prop:= ∃f a,Eg Z.P Z.w Z.K Z.mg Z.base (Kl Z.P Z.w) k f a b (Nw Z.K Z.mg c)/\Z.mg x=J (.ref f)/\keepIn Z.K (.ref f)=I/\Binds Z.K a b []
def Oy.up{Z:ZZ}{k j:Nat}{x:aw}{c:jh}{d:List D->Option aw}(o:Oy Z k x c d)(h:k<=j:=by decide):Oy Z j x c d:=let⟨f,e,a,b⟩:=o;⟨f,e,a.mono h,b⟩
def oyB{Z:ZZ}{k:Nat}{x:aw}{st:bn}{N e:jh}{xs:XS}(a:Fz Z.K Z.mg x st)(S:AY N e (iI st))(b:Lv x st e)
  (i: ∀(f:iE) (d:iN) (A:iY) (c:List df) (s:iJ) (U:Hp) (E:XK),C2 k (A.deeper<|aR x (iI st) s.heap.objs.size f d)->un (A.deeper<|aR x (iI st) s.heap.objs.size f d) 60->un (A.deeper<|aR x (iI st) s.heap.objs.size f d) 1->un (A.deeper<|aR x (iI st) s.heap.objs.size f d) 62->N.Nodup->
   NJ (rn (Kl Z.P Z.w) Z.P Z.w Z.K Z.mg Z.base N x (iI st) f d A c s U E) E (lV st) xs):Oy Z (k+1) x e (NN (A0 N) (A0 e) xs):=
 let⟨f,h,m,F⟩:=a
 ⟨f,h,RY F S λd A c s U E g=>by have:=g.un;exact i f d A c s U E g (by unfold un;omega) (by unfold un;omega) (by unfold un;omega) S.nd,m,F.kp,F.binds b⟩
def ClX(Z:ZZ)(z:aw):Prop:= ∃U,Z.mg z=J (.ref U)/\excIn Z.K U Ot "ValueError.__new__"=I
section
variable {X:Cx}{P:ja}{w:iW}{g:List df}{o:Hp}{s0:iJ}{E:XK}{A:kK}{st:bn}{n b:List bn}{x y:XS}{e:iK}{d p r:bu}{f:FS}{z:aw}{a:iK}{m:F}{k:Nat}{q:jh}{j:List D->Option aw}{i:kD}{fs:List FO}{l:FT}{c:iK}
def zR(U:HU X P w g o s0 E)(c:ClX (zX X) z)(t:QX X a m)(u:X.calm=I:=by rfl)(v:Gl X z:=by rfl)(hd:DB z:=by decide)(T:ag [a] X.env=[(Y,aM a X.env)]:=by rfl):PZ X E (.Raise (J<|.Call (.Name z p) [a] [] r) C d) (Hn z m):=
 let⟨_,B,s⟩:=c;Qe U u s B v t.h hd T
def zI(t:QT X c l)(s:NJ X E n x):PZ X E (.If c n b d) (Ni l x zNo):=Za t.h s Y9
def zC(T:HU X P w g o s0 E)(O:Oy (zX X) k z q j)(N:C2 k X.A)(t:QA X (e::i) fs)(B:Gl X z:=by rfl)(Q:DB z:=by decide)(v:SE X e i:=by rfl)(s:BA X d i:=by rfl)(U:X.prog=P:=by rfl)(L:X.w=w:=by rfl):Pp X E (.Call (.Name z p) (e::i) [] d) (zg j fs):=by subst U;subst L;obtain⟨f,G,F,M,hk,u⟩:=O;exact Tz T F N B M hk u t.h Q v s
def zE(h:Pp X E e x)(s:bJ e C d.line X.env=pure Y:=by rfl):PZ X E (.Expr e d) x:=Tw h s
end
def adW{P:ja}{w:iW}{K:Frag}{d:ly}{base:iX}{N:jh}{q:aw}{scope:jG}{c:iE}{cd:iN}{b:kT}{A:iY}{a:List df}{s:iJ}{U:Hp}{E:XK}:
  HU (BE (Kl P w) P w K d base N q scope c cd b A a s U E) P w a U s E:=⟨rfl,rfl,rfl,rfl,rfl,rfl,rfl,rfl,λ_ _ h=>h⟩
def SD(q:aw)(a:iE)(U:Hp):Prop:= ∃more,U a=J (.tbl (#[.str q 0]++more))
def spT(TB:List (iE×aw))(a:Sp):Sp:=λb U Q E=>(∀p∈TB,SD p.2 p.1 U)/\a b U Q E
structure Oa(X:Cx)(Pt:iE):Prop where
 t:SD (X.env.qual++"<lambda>") Pt X.H₀
 c: ∃c,X.env.code= .ref c/\CodeHd X.base c Pt
 b:X.base.BuiltinsAt X.mg Pt
 g:aj≠Pt
def Rf(Z:ZZ)(st:bn)(h:jh)(a f n o m:aw)(i j k:Nat)(c:kb)(l:FS)(g:aw->Option Nat):Prop:=
 ∃d e CR,KY Z.K a a st d e/\Binds Z.K e [f] []/\Z.mg a=J (.ref d)/\(∀X:Cx,zX X=Z->Kr X st h d a f n o m CR i j (k+1) c l)/\ ∀z b,g z=J b->Z.mg z=J (.ref b)/\ClK Z.K b CR
def HP(scope:jG):Bool:=decide (scope.kind= .function)&&!scope.isCoroutine&&!scope.isGenerator&&(scope.names.all λy=>y.2 != .cell)
def Yi{scope:jG}(h:HP scope=I):FR scope:=by unfold HP at h;simp only[lA,lY,vo,fv,bne_iff_ne] at h;exact⟨h.1.1.1,h.1.1.2,h.1.2,h.2⟩
def walkT{l:OpenLaw}{q:ja}{m:jh}{XP:(aw->Option iN)->iX->Prop}{E:iW->iX->Prop}{d:DefRec}{K:Params->Frag}{LV:Nat}{x:aw}{Q:Cn}{TB:List (iE×aw)}(hk:C2 LV f3)(hn:l.most=A7 63)(cY:d.params.defaults=[])(hY: ∀(w:iW) (h:iX),E w h->(K w.params).In h)
  (L: ∀(w:iW) (h:iX),E w h-> ∀p∈TB,h.get? p.1=A7 (tabObj #[]))(fO: ∀(w:iW),∀p∈TB,(K w.params).lookup p.1=AX)(eA:(TB.map (·.1)).Nodup)
  (F: ∀(w:iW) (n:ly) (v:iE) (h:iX),(K w.params).In h->h.Ns aj n->n d.name=A7 (.ref v)-> ∃I':mI,(∀(s:iJ) (u:iN),f5 s I' ⟨[u],[]⟩ [(x,u)])/\(∀p∈TB,∃c,codeHdIn (K w.params) c p.1=I)/\ ∀base:iX,(K w.params).In base->base.Ns aj n->(∀p∈TB,base.BuiltinsAt n p.1)->Eg l.prog w (K w.params) n base Im LV v I' [x] (spT TB<|Ko (K w.params) Q))
  (M: ∀A:List Int,A0 A<=63-> ∃o j,Q [(.lst<|A.map .int,B6)]=A7 ((.bl I,o),j)):WalkO q m XP E l.row.toRowW d [] (λf B=>wT f B):=by
 refine Att.Sv hn cY λw U D n mb v o pm cd S a B A G Y ho hd n5 O R k i hg=>?_;have C:=hY w _ Y;obtain⟨I',hb,fN,hF⟩:=F w n v _ C G.T.g O;have N:=L w _ Y;refine adb (TB:=TB) C G.T.g G.T.b G.T.builtins G.T.nolimit hg N (fO w) (λp t=>?_) eA (λp t=>?_) R k (mT i<|by decide) hk hF hb (λH J hS=>?_) λH e s' z=>z
 .obtain⟨c,hc⟩:=fN p t;obtain⟨o,B,_,_,_,_,_,_,_,V,W,X,Z,_⟩:=codeHd_of_K C hc;exact⟨c,o,B,V,W,X,Z⟩
 .obtain⟨P,ob,h1,h2,r,h4,h5,y⟩:=G.T.bmain;refine⟨P,ob,h1,h2,λz=>?_,λz=>?_,r,h4,h5,y⟩
  .obtain⟨o',es,ep,e,dd,_⟩:=G.T.g;rw[z,e] at r;cases r;rw[dd] at y;cases y
  .rw[z,N p t] at r;cases r;cases y
 .obtain⟨o,j,e⟩:=M A i;exact⟨λp t=>⟨#[],by rw[J.all p t];rfl⟩,RI J.all hS e⟩
def aaH(TB:List (iE×aw))(U:Hp):Prop:= ∀p∈TB,SD p.2 p.1 U
def fnU{Z:ZZ}{k:Nat}{x:aw}{st:bn}{N d:jh}{c:kb}{fs:FS}{f:iE}{e:mI}{TB:List (iE×aw)}(F:KY Z.K x x st f e)(S:AY N d (iI st))
  (m: ∀(b:iN) (A:iY) (a:List df) (s:iJ) (U:Hp) (E:XK) (L:LL),(∀i,L.p i->i<A0 d)->C2 k (A.deeper<|aR x (iI st) s.heap.objs.size f b)->
   un (A.deeper<|aR x (iI st) s.heap.objs.size f b) 60->un (A.deeper<|aR x (iI st) s.heap.objs.size f b) 1->un (A.deeper<|aR x (iI st) s.heap.objs.size f b) 62->un (A.deeper<|aR x (iI st) s.heap.objs.size f b) 90->N.Nodup->
   b=e.code->aaH TB U->QQ (rn Im Z.P Z.w Z.K Z.mg Z.base N x (iI st) f b A a s U E).Kh (λi=>i∈c) L U (lV st) fs):
  Eg Z.P Z.w Z.K Z.mg Z.base Im (k+1) f e d (spT TB<|Ko Z.K<|Cg (A0 N) (A0 d) c fs):=by
 obtain⟨r,t,kV,j,u,q,b,ct,v,rfl,lk,n⟩:=F.ex;refine Pc lk n S (λo U Q E h=>IT h.2) λA a s U o Q E g h=>?_;obtain⟨L,h1,l⟩:=MY h.2;have:=g.un;exact⟨_,((m b A a s U E L h1 g (by unfold un;omega) (by unfold un;omega) (by unfold un;omega) (by unfold un;omega) S.nd H h.1).h).Kh,l⟩
def aaE{Z:ZZ}{k:Nat}{x q:aw}{st:bn}{N e:jh}{asg:kb}{fs:FS}{f c d:iE}{g:mI}{TB:List (iE×aw)}(F:KY Z.K x x st f g)(u:g.code= .ref c)(n:CodeHd Z.base c d)(m:Z.base.BuiltinsAt Z.mg d)(y:aj≠d)(z:(d,q)∈TB)(S:AY N e (iI st))
  (t: ∀(f:iE) (b:iN) (A:iY) (a:List df) (s:iJ) (U:Hp) (E:XK) (L:LL),(∀i,L.p i->i<A0 e)->C2 k (A.deeper<|aR x (iI st) s.heap.objs.size f b)->
   un (A.deeper<|aR x (iI st) s.heap.objs.size f b) 60->un (A.deeper<|aR x (iI st) s.heap.objs.size f b) 1->un (A.deeper<|aR x (iI st) s.heap.objs.size f b) 62->un (A.deeper<|aR x (iI st) s.heap.objs.size f b) 90->N.Nodup->
   Oa (rn Im Z.P Z.w Z.K Z.mg Z.base N x (iI st) f b A a s U E).Kh d->QQ (rn Im Z.P Z.w Z.K Z.mg Z.base N x (iI st) f b A a s U E).Kh (λi=>i∈asg) L U (lV st) fs)
  (B: ∀(L f:iE) (cd:iN),(aR x (iI st) L f cd).qual++"<lambda>"=q:=by exact λ_ _ _=>rfl):Eg Z.P Z.w Z.K Z.mg Z.base Im (k+1) f g e (spT TB<|Ko Z.K<|Cg (A0 N) (A0 e) asg fs):=
 fnU F S λb A a s U E L o Q h1 h j l T v r=>t f b A a s U E L o Q h1 h j l T ⟨by show SD ((aR x (iI st) s.heap.objs.size f b).qual++"<lambda>") d U;rw[B];exact r _ z,⟨c,v.trans u,n⟩,m,y⟩
def Om(K:Frag)(d:ly)(x:aw)(st:bn)(b:iE):Prop:= ∃f a c,d x=J (.ref f)/\KY K x x st f a/\a.code= .ref c/\codeHdIn K c b=I
def fzT{K:Frag}{h:iX}{g:ly}{x:aw}{st:bn}{f c d:iE}{m:iN}{n i:Option iE}{p:ze}{kV b o ct:iN}(X:K.In h)(G:h.Ns aj g)(a:nsIn K aj x=J (J<|.ref f))
  (l:K.lookup f=J ⟨m,n,.func<|fnOf x x (sD st) (lV st) (iI st) .none kV b o i (.ref c) ct,p⟩)(e:codeIn K (.ref c) x=I)(k:keepIn K (.ref f)=I)(j:codeHdIn K c d=I):Om K g x st d:=⟨f,_,c,mg_of X G a,OY l e k,rfl,j⟩
def Om.cd{K:Frag}{d:ly}{x:aw}{st:bn}{b:iE}(a:Om K d x st b): ∃c,codeHdIn K c b=I:=let⟨_,_,c,_,_,_,h⟩:=a;⟨c,h⟩
section
variable {X:Cx}{k:Nat}{f:iE}{g:mI}{d:jh}{x:aw}{p b:bu}{e a:iK}{j:kD}{i:Cn}{fs:List FO}{c:FO}{TB:List (iE×aw)}
def Zj(r:X.mg "sum"=C)(m:QA X [a] [c])(n:X.calm=I:=by rfl)(q:Gl X "sum":=by rfl)(o:SE X a []:=by rfl)(l:BA X b []:=by rfl):QX X (.Call (.Name "sum" p) [a] [] b) (jq (g1 VJ) [c]):=
 ⟨Je (adH n) q r (by decide+kernel) m.h (by decide) (by decide) o l⟩
end
structure Hr(K:Frag)(mg:ly)(ct rs:List (aw×Nat))(CR:Nat):Prop where
 m: ∀p∈ct,mg p.1=A7 (.ref p.2)
 mr: ∀p∈rs,mg p.1=A7 (.ref p.2)
 is: ∀p∈rs,∀r∈ct,kitOne K (.ref p.2) (.ref r.2)=A7 (p.2==r.2)
 ve: ∀p∈rs,kitOne K (.ref p.2) (.type "ValueError")=A7 B8
 ck: ∀p∈rs,ClK K p.2 CR
 ex: ∀p∈rs,excIn K p.2 Ot "ValueError.__new__"=B8
 su:mg "sum"=AX
 vm:mg "ValueError"=AX
 re:mg "RiddleError"=A7 (.ref CR)
def aN{a:Type}{P:a->Prop}: ∀p∈([]:List a),P p:=λ_ h=>nomatch h
def aC{b:Type}{P:b->Prop}{a:b}{l:List b}(h:P a)(r: ∀p∈l,P p): ∀p∈a::l,P p:=List.forall_mem_cons.mpr ⟨h,r⟩
def Ku(ct:List (aw×Nat))(z:aw):Nat:=(ct.lookup z).getD 0
section
variable {Z:ZZ}{ct a:List (aw×Nat)}{CR:Nat}
def NP{z:aw}{U:Nat}(h:ct.lookup z=J U):(z,U)∈ct:=qO h
def Hr.x(c:Hr Z.K Z.mg ct a CR)(z:aw)(h:(a.lookup z).isSome=I:=by decide):ClX Z z:=by obtain⟨U,b⟩:=Kb.mp h;exact⟨U,c.mr _ (NP b),c.ex _ (NP b)⟩
def Hr.t(c:Hr Z.K Z.mg ct a CR)(z:aw)(h:(ct.lookup z).isSome=I:=by decide):ClT Z.K Z.mg (a.map (·.2)) (Ku ct z) z:=by
 obtain⟨U,b⟩:=Kb.mp h;have:Ku ct z=U:=by unfold Ku;rw[b];rfl
 rw[this];refine⟨c.m _ (NP b),λD d=>?_⟩;obtain⟨p,e,rfl⟩:=mw.mp d;exact c.is p e _ (NP b)
def Hr.v(c:Hr Z.K Z.mg ct a CR): ∀U∈a.map (·.2),kitOne Z.K (.ref U) (.type "ValueError")=J I:=λD b=>by obtain⟨p,d,rfl⟩:=mw.mp b;exact c.ve p d
def Hr.ci(c:Hr Z.K Z.mg ct a CR): ∀z b,a.lookup z=J b->Z.mg z=J (.ref b)/\ClK Z.K b CR:=λz U h=>⟨c.mr _ (NP h),c.ck _ (NP h)⟩
end
def aaA{K:Frag}{j:ly}{x y:aw}{st:bn}{i h:iE}(a:Om K j x st h)(n:j x=J (.ref i))(b:Lv x st [y]): ∃d c,KY K x x st i d/\d.code= .ref c/\codeHdIn K c h=I/\ ∀(s:iJ) (v:iN),f5 s d ⟨[v],[]⟩ [(y,v)]:=by obtain⟨f,d,c,m,F,h1,o⟩:=a;have e:=n.symm.trans m;cases e;refine⟨d,c,F,h1,o,?_⟩;obtain⟨q,r,kV,g,p,k,l,ct,t,e,_⟩:=F.ex;exact λs v=>by subst e;exact .of_eq<|b kV g p k l ct [v] H
section
variable {X:Cx}{x y a b c d:iK}{u v z:aw}{s r q p:FO}{f k j i p4 h:bu}{o n m:Nat}{l g e:cO}
end
end PX
namespace TT
section
variable {a:ja}{w:iW}{A:iY}{E:jt}{s:iJ}
end
end TT
namespace PX
open L2 PySem.SeqAt
def VU(a:FO):FT:=λb=>(a b).bind λp=>match res p.2 p.1 with
 |some (.lst l)=>J (!l.isEmpty,p.2)
 |_=>C
section
variable {X:Cx}{e:iK}{f:F}{c:FO}{g n d m p:bu}{i:Nat}{x:aw}
def Q7(h:PO X e c)(y: ∀s,isTrue e X.env s=(do let v <-s;cb e.pos;bB [v] (lf v))):Oc X e (VU c):=PT.imp' (aez h y) λO U Q M=>by
 obtain⟨N,T,b,L,E,e,k⟩:=M;obtain⟨⟨o,t⟩,h1,e⟩:=iC e;refine⟨N,T,o,t,E,h1,λv w P=>?_⟩;dsimp only at e;split at e
 .rename_i l A;obtain⟨rfl,rfl⟩:=jd e;have B:=Ops.cons E P<|Ops.nil<|P.er E;obtain⟨a,u,rfl,q,r⟩:=ke<|B.view (j:=0) H H A;refine⟨!l.isEmpty,.inl ⟨u,q,?_⟩,k w B.keep<|B.er.mono (λ_ _ e _=>e) (λb _ z=>B.tt b z) λa z=>B.er.dom a<|B.tt a z⟩;have:=r.length;cases l<;>cases u<;>simp_all
 .cases e
def tTr(h:QO X e c)(b: ∀a,isTrue e X.env a=(do let v <-a;cb e.pos;bB [v] (lf v)):=by exact λ_=>rfl):QT X e (VU c):=⟨Q7 h.h b⟩
end
open PySem.W
section
variable {X:Cx}{E:XK}{A:kK}{c iter:iK}{a:List bn}{d:Fi}{t:Tg}{e:FS}{x:XS}{b:bu}
end
section
variable {X:Cx}{k:iK}{c:FO}{a b:bu}{j:Nat}
end
section
variable {X:Cx}{b:ju}{d:L2.St}{H:Hp}{s:iJ}
variable {a:iK}{g:FO}{c p:bu}{k:iK}{f:FO}{e:bu}{j:Nat}
end
end PX
namespace TT
open PySem.SeqAt
def C6:o8 IP "dict.update.loop"=J bz.«dict.update.loop»:=entryFor_of_tree (by kernel_rfl)
def uO:plainId "dict.update.loop"=I:=by decide+kernel
section
variable {prog:ja}{w:iW}{A:iY}{R:hG->Shared->Prop}{I:iE}{c a:kB}{G:Array et->Array et->Prop}{n:Nat}{P:Nat->iN->Prop}{St:Nat->Shared->Prop}
def adD(W:WalksS prog w A.in1 I c a G n P St)(S:iE)(J:S∉c)(s0:iJ)(j:Nat->iX->Prop)(Ca: ∀i h f,j i h->(∀o,h.get? S=A7 o->f.get? S=A7 o)->j i f)
  (step: ∀i v (d:iJ),i<n->P i v->j i d.heap->pw (S::a) G s0 d-> ∃p k x,v= .ref p/\d.heap.IsTuple p #[k,x]/\ ∀(Q:Unit->Shared->Prop) (E:jt),(∀f z,d.toks<=z->aP S d.heap f->j (i+1) f->Q () {d with heap:=f,toks:=z})->ah (ai prog w) A.in1 (WF S k x) Q E d):
  ∀(k i:Nat) (s:iJ),n-i=k->i<=n->St i s->j i s.heap->pw (S::a) G s0 s->(∀d,pw (S::a) G s0 d->j n d.heap->R (.ok<|.ret .none) d)->
   bP (ai prog w) A (.builtin "dict.update.loop" ⟨[.ref S,.ref I,cP i,.none],[]⟩) R s:=by
 have B:S∉a:=λh=>J<|W.sub _ h;have O: ∀b∈a,b∈S::a:=λb l=>jZ _ l;intro k
 induction k with
 |zero=>
  intro i s hk X y t q r;have U:i=n:=by lia
  subst U;refine ou C6 ?_;rw[pB uO _];show ah _ A.in1 (b6 (.ref I)>>=_) _ _ s;refine iF<|W.done s _ _ y λd m=>?_;show ah _ A.in1 (Ev S []>>=λ_=>ret ap) _ _ d;exact iF<|iP<|iP<|r d (Dr W.gtrans q<|m.mono O)<|Ca _ _ _ t λo e=>m.heap S o B e
 |succ k ih=>
  intro i s hk X y t q r;have u:i<n:=by lia
  refine ou C6 ?_;rw[pB uO _];show ah _ A.in1 (b6 (.ref I)>>=_) _ _ s;refine iF<|W.item i s _ _ u y λv d D Y m=>?_;have C:=Dr W.gtrans q<|m.mono O;obtain⟨p,L,x,rfl,Z,g⟩:=step i v d u D (Ca _ _ _ t λo e=>m.heap S o B e) C;show ah _ A.in1 (bB [.ref p] _>>=_) _ _ d;refine iF<|mn ?_;obtain⟨o,H,V,n',N⟩:=Z;have F:d.TypeIs (.ref p) "tuple":=⟨o,H,V⟩
  refine iF<|Ag ?_;unfold Db;refine iF<|tH F ?_;show ah _ _ (gj (.ref p)>>=_) _ _ _;refine iF<|sN H N ?_;refine iP ?_;show ah _ _ (bB [L,x]<|WF S L x) _ _ _;refine mn<|g _ _ λf z M T K=>?_;refine iP ⟨qi uO _,ih (i+1) _ (by lia) u (W.frame _ d _ _ Y M λb l o e=>?_) K (C.then_heap M λb o l e=>?_) r⟩
  .rw[T.2 b λh:b=S=>J<|by rw[<-h];exact l];exact e
  .rw[T.2 b λh:b=S=>l<|by rw[h];exact jY];exact e
end
end TT
namespace PX
open L2 PySem.SeqAt TS
section
variable {prog:ja}{w:iW}{A:iY}{E:jt}{s:iJ}
def Rv:tv (.type "list") "keys"=pure C:=by rw[GK,GJ];kernel_rfl
def Vo{a:iE}{o:eE}{q:lI}{k:Nat}{Q:Iw}(m:s.heap.get? a=J o)(l:o.cls= .type "list")(f:o.data= .seq q k)(hd:o.dict=C)(t:A.handled=C)
  (h: ∀b p e,Heap.NewExcOf s.heap b e "AttributeError"->Q C {s with heap:=b,toks:=p}):ah (ai prog w) A (I0 (.ref a) "keys") Q E s:=by
 obtain⟨c,dct,r,v⟩:=o;simp only at l f hd;subst l f hd;obtain⟨u,g,d,p,os⟩:=s;have j: ∀n,(⟨u,g,d,n,os⟩:Shared).TypeIs (.ref a) "list":=λ_=>⟨_,m,rfl⟩
 have f1:=sub_AttributeError;have x:=Qb.lookup;have y:=Qb.bind<|.ref a;have z:=am_list_getattr_none;unfold I0 getAttrBy? getAttrBy
 repeat (any_goals (first|assumption|exact j _|((with_reducible show ah _ _ (call (cA "list.__getattribute__") _ _) _ _ _);refine rM Qb (j _) am_entry_list_getattribute (F.args_list_getattribute_2 _ _) (meets_getattribute_miss_list a q k v "keys" _ Rv (by decide+kernel)) ⟨m,t,λb n e i=>?_⟩)|wp_step))
 obtain⟨T,U,B⟩:=i.there;show ah _ _ (ul _ _ _ _ _ _ _) _ _ _;unfold ul
 repeat (any_goals (first|assumption|wp_step))
 exact h _ _ _ i.of
end
end PX
namespace TT
open PySem.SeqAt
section
variable {prog:ja}{w:iW}{A:iY}{E:jt}{s:iJ}
noncomputable abbrev Ih:Obj:={cls:= .type "dict",data:= .dict #[]}
def Tr{l:iE}{a:lI}{n:Nat}{q:eE}{Q:jt}(T:A.handled=AX)(J:s.heap.get? l=A7 q)(t:q.cls= .type "list")(C:q.data= .seq a n)(gE:q.dict=AX)(j:Nat->iX->Prop)
  (Ca: ∀i h d,j i h->(∀o,h.get? s.heap.objs.size=A7 o->d.get? s.heap.objs.size=A7 o)->j i d)
  (nN: ∀d,d.get? s.heap.objs.size=A7 Ih->j 0 d)
  (step: ∀i v (c:iJ) (B:iY),B.units<=A.units+20->a[i]?=A7 v->j i c.heap->(∀b o,s.heap.get? b=A7 o->c.heap.get? b=A7 o)->c.gens=s.gens->c.drawn=s.drawn->c.os=s.os->
   ∃p k x,v= .ref p/\c.heap.IsTuple p #[k,x]/\ ∀(Q:Unit->Shared->Prop) (E:jt),(∀d r,c.toks<=r->aP s.heap.objs.size c.heap d->j (i+1) d->Q () {c with heap:=d,toks:=r})->ah (ai prog w) B (WF s.heap.objs.size k x) Q E c)
  (h: ∀(d:iX) (r:Nat),j a.size d->(∀b o,s.heap.get? b=A7 o->d.get? b=A7 o)->Q (.ref s.heap.objs.size) {s with heap:=d,toks:=r}):
  ah (ai prog w) A (call (.type "dict") [.ref l]) Q E s:=by
 refine Ls (Q₁:=λobj g=>obj= .ref s.heap.objs.size/\g={s with heap:=s.heap.push Ih}) F.kt_called_dict (F.kt_typeCall_dict_1 _) F.entry_dict_init (kt_code_dict_new _ ⟨rfl,rfl⟩) ?_;rintro obj g ⟨rfl,rfl⟩;have I:(s.heap.push Ih).get? s.heap.objs.size=A7 Ih:=kh _ rfl;have O:eD {s with heap:=s.heap.push Ih} (.ref s.heap.objs.size) "dict":=⟨_,I,rfl⟩
 have u:(s.heap.push Ih).get? l=A7 q:=jT _ J;have z:eD {s with heap:=s.heap.push Ih} (.ref l) "list":=⟨_,u,t⟩
 refine⟨O,F.args_dict_init_2 _ _,?_⟩;unfold bz.«dict.__init__»;refine iF ?_;unfold abv;refine iF<|LO O ?_;show ah _ _ (pure (s.heap.objs.size,[aX l])) _ _ _;refine iP ?_;show ah _ _ (fy "dict.__init__" s.heap.objs.size (.ref l) [] .none) _ _ _;unfold fy;refine iF<|tH z ?_;rw[iQ<|by decide];refine iF<|PX.Vo u t C gE (by simp[T]) λh1 eL e1 y=>?_;have m:h1.IsList l a:=⟨_,y.keeps _ _ u,t,n,C⟩
 have H:=y.keeps _ _ I;have gF:l<s.heap.objs.size:=jW J;have L:s.heap.objs.size<h1.objs.size:=jW H;have N:l≠h1.objs.size:=by lia
 have u6:s.heap.objs.size∉[h1.objs.size,l]:=by simp only[kW,mh,nq,pA];lia
 have P:A.in1.in1.handled=AX:=by simp[T]
 have W:=DM (prog:=prog) (w:=w) P h1.objs.size l N a;show ah _ _ (rule _>>=λ_=>dD (.ref l)>>=λZ=>again<|.builtin "dict.update.loop" ⟨[.ref s.heap.objs.size,Z,cP 0,.none],[]⟩) _ _ _;refine iF<|vt ?_;refine iF<|yE m ?_;refine iP ⟨qi uO _,?_⟩
 have ext: ∀{G:Array et->Array et->Prop} {s0 c:iJ},(∀b o,h1.get? b=A7 o->s0.heap.get? b=A7 o)->pw (s.heap.objs.size::[h1.objs.size]) G s0 c-> ∀b o,s.heap.get? b=A7 o->c.heap.get? b=A7 o:=λ{G s0 c} S f b o e=>by have hb:=jW e;exact f.heap b o (by simp only[kW,mh,nq,pA];lia)<|S _ _ (y.keeps _ _ (jT _ e))
 refine adD W.toS s.heap.objs.size u6 _ j Ca ?st (a.size-0) 0 _ (by lia) (lX _) ⟨⟨_,kh _ rfl,rfl,rfl⟩,m.push _⟩ (nN _ (jT _ H)) (w6 λ_=>rfl) ?hR
 case st=>exact λi v c hi X V f=>step i v c _ (by show A.units+1+1<=A.units+20;lia) X V (ext (λ_ _ e=>jT _ e) f) f.gens f.drawn f.os
 case hR=>intro c f n8;have ex:=ext (λ_ _ e=>jT _ e) f;obtain⟨d,R,U,o6,M⟩:=c;have D:R=s.gens:=f.gens;have Y:U=s.drawn:=f.drawn;have K:M=s.os:=f.os;subst D;subst Y;subst K;exact⟨rfl,h d o6 n8 ex⟩
end
end TT
namespace PX
open L2 PySem.SeqAt
noncomputable def kyT:D->Option (List Key)
 | .tup [k,.bl I]=>zK k
 |_=>C
noncomputable def KZ:List D->Option (List<|List Key)
 |[]=>J []
 |d::l=>(kyT d).bind λk=>(KZ l).map (k:: ·)
def Bk:D->Option (D×Bool)
 | .lst l=>(KZ l).bind λa=>if (A0 a)<=1000/\a.Nodup then J (.BU .dct (a.map λk=> .tup (k.map kf))<|a.map λ_=> .bl I,I) else C
 |_=>C
noncomputable abbrev OL(a:List (List Key)):List (List Key×V):=a.map λk=>(k,V.bl I)
def RN: ∀{l:List D} {a:List (List Key)},KZ l=J a->A0 l=A0 a/\ ∀(i:Nat) k,a[i]?=J k-> ∃d,zK d=J k/\l[i]?=J (.tup [d,.bl I]):=by
 intro j
 induction j with
 |nil=>intro a h;cases h;exact⟨rfl,λi p h=>by simp at h⟩
 |cons d l g=>
  intro a h;obtain⟨p,h1,h⟩:=iC h;obtain⟨m,f,rfl⟩:=jB h;obtain⟨c,e⟩:=g f;refine⟨by simp[c],λi q b=>?_⟩
  cases i with
  |zero=>
   simp at b;subst b;unfold kyT at h1;split at h1
   .exact⟨_,h1,rfl⟩
   .cases h1
  |succ i=>simpa using e i q (by simpa using b)
def Yj{P:ja}{w:iW}{U:Hp}{h:iX}(ok:Ft P w U h): ∀{l:List (List Key×V)} {m:List (List Key×iE×iN)},L2.KT U l m-> ∀x∈m,(ca<|kJ P w).is h x.1 x.2.1:=by
 intro l m q
 induction q with
 |nil=>intro x a;exact nomatch a
 | @cons p q d f b t c=>
  intro x a;rcases kW.mp a with e|a
  .subst e;exact uo ok (by rw[<-b.1];exact b.2.1)
  .exact c x a
def JI{U:Hp}{l:List (List Key×V)}{m:List (List Key×iE×iN)}(q:L2.KT U l m):m.map (·.1)=l.map (·.1):=by
 induction q with
 |nil=>rfl
 |cons a t b=>rw[jU,jU,b,a.1]
def RO{U:Hp}{l:List (List Key×V)}{m:List (List Key×iE×iN)}{p q}(h:L2.KT U l m)(a:p.1=q.1/\U q.2.1=J (.tup<|p.1.map kV)/\RelV p.2 q.2.2):L2.KT U (l++[p]) (m++[q]):=by
 induction h with
 |nil=>exact .cons a .nil
 |cons h t b=>exact .cons h b
def RP{U b:Hp}{l:List (List Key×V)}{m:List (List Key×iE×iN)}(c: ∀a u,U a=J u->b a=J u)(h:L2.KT U l m):L2.KT b l m:=by
 induction h with
 |nil=>exact .nil
 |cons h t d=>exact .cons ⟨h.1,c _ _ h.2.1,h.2.2⟩ d
def Uy{K:jb}{U:Hp}{O:BL}: ∀a:List (List Key),AF K U O (a.map λ_=> .bl I) ((OL a).map (·.2)):=by
 intro c
 induction c with
 |nil=>exact AF.nil
 |cons _ a b=>exact AF.cons Rep.KL<|b
def DIs(P:ja)(w:iW)(U:Hp)(S:iE)(c:List (List Key))(h:iX):Prop:= ∃m:List (List Key×iE×iN),L2.KT U (OL c) m/\ ∃o a b,h.get? S=J o/\o.ExactDict/\o.data= .dict a b/\a.toList=m.map (ut<|ca<|kJ P w)/\(m.map (·.1)).Nodup
section
variable {X:Cx}
def acM(hu:X.A.units+62<aS)(hc:X.calm=B8):kG X (.type "dict") (Ib X.K<|g1 Bk):=nI λE s σ H x u Q O d z I ru np hd L G=>by
 cases d with
 |lst l=>
  obtain⟨f,P,L⟩:=iC L;obtain⟨⟨hz,fG⟩,rfl⟩:=jf L;obtain⟨p,xs,rfl,q,r⟩:=ke hd;cases ru;obtain⟨n,v,⟨ol,nn,dv,cQ,gE,fI⟩,_⟩:=I.list q;obtain⟨e0,y⟩:=RN P;have e1:=r.length;have e2:=v.length;have hh:X.A.handled=AX:=I.ok.hd hc;have S:=I.fresh
  refine TT.Tr hh dv cQ fI gE (λi h=>DIs X.prog X.w H s.heap.objs.size (f.take i) h)
   (λi h h' ⟨m,k,o,N,M,e,c⟩ st=>⟨m,k,o,N,M,st _ e,c⟩) (λh' e=>⟨[],.nil,_,#[],0,e,⟨rfl,rfl,rfl⟩,rfl,rfl,sL⟩) (λi w s' B hB hi ⟨m,hk,hd⟩ T eg ed eo=>?_) (λh' tk ⟨m,hk,hd⟩ T=>?_)
  .have hil:i<n.length:=by have:=(Lx.mp hi).1;simpa using this
   have hw:n[i]?=A7 w:=by simpa using hi
   have C:f[i]?=A7 f[i]:=jx (by lia);have dU:xs[i]?=A7 xs[i]:=jx (by lia);obtain⟨w',w1,w2⟩:=v.get dU;rw[hw] at w1;cases w1;obtain⟨dk,Y,F⟩:=y i _ C;have bL:Rep X.K H O (.tup [dk,.bl B8]) xs[i]:=r.views F dU;obtain⟨h1,g1,dr1,eL,os1⟩:=s';dsimp only at T eg ed eo hd;subst eg;subst ed;subst eo;have J:Inv X E σ H {s with heap:=h1,toks:=eL}:=I.kept T;obtain⟨a,ys,ea,sq,g⟩:=lq<|.inl bL;rw[ea] at w2;cases w2;obtain⟨b8,v2,cE,_⟩:=J.tuple sq;rw[AF] at g;obtain⟨y1,r1,rfl,p1,g⟩:=g;rw[AF] at g;obtain⟨y2,r2,rfl,p2,g⟩:=g;rw[AF] at g;subst g;obtain⟨b,rfl,hb⟩:=qU Y<|.inl p1;rw[Rep] at p2;subst p2;obtain⟨u1,u2,rfl,V,W⟩:=wY v2;cases V;refine⟨a,_,_,rfl,cE,λQ' E' hq=>?_⟩;obtain⟨o,N,M,g1,g2,g3,g4,g5⟩:=hd
   have hm:f[i]∉m.map (·.1):=by rw[JI hk];intro Z;rw[jP] at Z;obtain⟨x,hx,e⟩:=mw.mp Z;obtain⟨j,D,e3⟩:=DG hx;rw[qP] at D;rw[List.getElem_take] at e3;have l4:=P5.mp fG j i (by lia) (by lia) (by lia);exact l4<|e3.trans e
   have gX:g7 m f[i]=AX:=atKey_none_of_get λj p' D=>hm<|mw.mpr ⟨_,mS D,rfl⟩
   have hml:m.length<=1000:=by have:=ox de<|JI hk;simp at this;lia
   refine wpAny_dictSet_heap (knd:=ca<|kJ X.prog X.w) (k:=f[i]) (show(ca<|kJ X.prog X.w).room B from(by show B.units<aS;lia)) (uo J.hok hb) (xs:=m) ⟨o,N,M,g1,g2,g3,g4,Yj J.hok hk,g5⟩ (λh2 t r8=>hq h2 _ (Nat.le_add_right _ _) r8 ?_) (by rw[jQ];lia);rw[storedH_new gX] at t;obtain⟨o',U,eF,k1,k2,k3,k4,_,k5⟩:=t;refine⟨_,?_,o',U,eF,k1,k2,k3,k4,k5⟩;rw[DE,C];show L2.KT H (gg _ (f.take i++[f[i]])) _;rw[qg];exact RO hk ⟨rfl,hb,W⟩
  .have R:n.toArray.size=f.length:=by simp;lia
   rw[R,GC] at hk;refine⟨.ref s.heap.objs.size,upd H s.heap.objs.size<|.dT<|OL f,I.laid T (kc _) ⟨?_,?_,m,RP (λa u e=>by rw[ji<|la e S];exact e) hk,hd⟩,rfl,?_⟩
   .rw[jM,jQ];lia
   .have:=I.big;simp only[wR,ne_eq]
    lia
   .refine G s.heap.objs.size _ S (lQ S) ⟨(OL f).map (·.2),.inr ⟨OL f,jl,?_,rfl⟩,?_⟩
    .rw[jP];rfl
    .exact Uy _
 |_=>cases L
variable {a:iK}{g:FO}{p f:bu}
def Zr(k:X.A.units+62<aS)(j:X.mg "dict"=C)(c:QA X [a] [g])(d:X.calm=I:=by rfl)(i:Gl X "dict":=by rfl)(e:SE X a []:=by rfl)(b:BA X f []:=by rfl):QX X (.Call (.Name "dict" p) [a] [] f) (jq (g1 Bk) [g]):=
 ⟨Jc (acM k d) i j (by decide+kernel) c.h (by decide) (by decide) e b⟩
end
section
variable {K:jb}{T g:BL}{d:L2.St}{e c:Dn}{H h i:Hp}{os:List Cm}{f:List V}{b:List (D×Bool)}{a:Dn}{r:D×Bool}{v:V}
end
section
variable {X:Cx}{e:iK}{d:kD}{fs:List FO}{a p:bu}{k:Nat}{b:jh}{c:Cn}{x:aw}
end
open PySem.W
noncomputable def Bs(j:Nat)(x:XS)(n i:Nat)(fs:FS)(b:aw->Option Nat):F:=λa=>match a[j]? with
 |some (J (d,I))=>(x [J (d,I)]).bind λc=>(b c).bind λU=>(Fj n i fs<|.BU (.exc U) [] []).bind λr=>J ((r,Y),a.set j C)
 |_=>C
noncomputable abbrev qL(X:Cx):Str:=X.env.qual++"<lambda>"
noncomputable abbrev cxL(X:Cx)(N:jh)(scope:jG)(d:iE)(b:kT)(c:iE)(A:iY)(a:List df)(s:iJ)(U:Hp)(E:XK):Cx:=BE (Kl X.prog X.w) X.prog X.w X.K X.mg X.base N (qL X) scope d (.ref c) b A a s U E
def FF{c:L2.St}{b:Dn}{i j:Nat}{a:iE}(h:BW c (b.set j C) i a):BW c b i a/\i≠j:=by
 obtain⟨d,h1,f⟩:=h;by_cases e:j=i
 .subst e;rw[wq] at h1;split at h1
  .split at h1<;>cases h1
  .rename_i z;exact absurd H z
 .rw[nK e] at h1;exact⟨⟨d,h1,f⟩,λz=>e z.symm⟩
def CD{c:L2.St}{b:Dn}{j:Nat}{a:iE}(h:AZ c (b.set j C) a):AZ c b a:=by obtain⟨i,d,h1,f⟩:=h;obtain⟨⟨e,g,k⟩,_⟩:=FF ⟨d,h1,f⟩;exact⟨i,e,g,k⟩
def ER.drop{K:Frag}{U m:Hp}{T:BL}{f:L2.St}{c:Dn}{j:Nat}{d:D}{a:iE}(E:ER K U T f c)(t:c[j]?=J (J (d,I)))(s:f[j]?=J (J<|.ref a))(k: ∀b o,U b=J o->b≠a->m b=J o):ER K m T f (c.set j C):=by
 have w:AZ f c a:=⟨j,d,t,s⟩
 have u: ∀b o,U b=J o-> ¬(AZ f c b\/T b)->m b=J o:=λb o e n=>k b o e λz=>n<|.inl<|z▸w;have r: ∀b,U b≠C->AZ f (c.set j C) b\/T b->AZ f c b\/T b:=λb _ z=>z.imp CD id
 have ne: ∀{i:Nat} {p:D×Bool},(c.set j C)[i]?=J (J p)->c[i]?=J (J p)/\i≠j:=λ{i p} h=>by
  by_cases e:j=i
  .subst e;rw[wq] at h;split at h
   .split at h<;>cases h
   .rename_i z;exact absurd H z
  .rw[nK e] at h;exact⟨h,λz=>e z.symm⟩
 refine⟨by rw[vB];exact E.len,λi x h=>?_,λi x h=>?_,λi l x y b h1 g A B=>E.inj i l x y b (ne h1).1 (ne g).1 A B,λb z=>E.nT b<|CD z,λb z=>(E.dom b z).up λo e=>k b o e λq=>E.nT a w<|q▸z⟩
 .obtain⟨v,h1,g⟩:=E.val i x (ne h).1;exact⟨v,h1,Rep.mono u r g⟩
 .obtain⟨b,h1,g⟩:=E.own i x (ne h).1;exact⟨b,h1,g.mono u r λo e=>k b o e λz=>(ne h).2<|E.inj i j x d b (ne h).1 t h1<|z▸s⟩
section
variable {X:Cx}{P:ja}{w:iW}{a:List df}{i:Hp}{s0:iJ}{E:XK}{k:Nat}{g:jh}{d:List D->Option aw}{e:iK}{c:kD}{fs:List FO}{z:aw}{p b:bu}
def zCO(v:HU X P w a i s0 E)(O:Oy (zX X) k z g d)(s:C2 k X.A)(l:QA X (e::c) fs)(o:Gl X z:=by rfl)(u:DB z:=by decide)(n:SE X e c:=by rfl)(j:BA X b c:=by rfl)(r:X.prog=P:=by rfl)(t:X.w=w:=by rfl):Po X E (.Call (.Name z p) (e::c) [] b) (zg d fs):=by subst r;subst t;obtain⟨f,x,F,q,hk,m⟩:=O;exact Iz v F s o q hk m l.h u n j
end
section
variable {X:Cx}{N c:iE}{g:cc}{p:iK}{scope:jG}{G Y pf:bu}{O:Nat}{U t:jh}{xB:XS}{ay:FS}{CI:aw->Option Nat}{M:kb}{st:bn}{J:iE}{dg:mI}{B xc xr xx xn:aw}{CR:iE}{i j k:Nat}
def QZ{more:lI}(R:Kr X st t J B xc xr xx xn CR i j (k+1) M ay)(F:KY X.K B B st J dg)(gW:Binds X.K dg [xc] [])(gK:Gl X B)(hmf:X.mg B=A7 (.ref J))(cY:(B==("__debug__":aw))=B6)
  (cV: ∀x,X.fn x=B8)(hr:C2 (k+2) X.A)(hTb:X.H₀ N=A7 (.tbl (#[.str (qL X) 0]++more)))(n5:X.env.code= .ref c)(C:CodeHd X.base c N)(hB:X.base.BuiltinsAt X.mg N)(gL:aj≠N)
  (CO:EL X U scope [O] 0)(LS:FR scope)(aV:uu g X.env=([],[]))(n6: ∀b9 pm c' n9,e7 (kla_fn "<lambda>" (qL X) g p scope b9 pm (.ref c') n9) ⟨[],[]⟩=pure [])
  (he:ag [.Lambda g p scope Y] X.env=(B6,aM (.Lambda g p scope Y) X.env)::ag [] X.env)(f7:(aQ G<|ag [] X.env).any (·.1)=B6)
  (hV: ∀z C0,CI z=A7 C0->X.mg z=A7 (.ref C0)/\ClK X.K C0 CR)
  (hb: ∀(fl:iE) (b9:kT) (c':iE) (A:iY) (outer:List df) (s:iJ) (H:Hp) (E:XK),C2 k (A.deeper<|BC (qL X) scope s.heap.objs.size fl (.ref c') b9)->
   Po (cxL X U scope fl b9 c' A outer s H E) E p xB):
  PX X (.Call (.Name B pf) [.Lambda g p scope Y] [] G) (Bs O xB (A0 t) i ay CI):=by
 intro pins s σ H Q I hw;obtain⟨S,T,r,δ',E1,e,kq⟩:=hw;unfold Bs at e;split at e
 case h_2=>cases e
 rename_i d0 fJ;obtain⟨cn,hx,e⟩:=iC e;obtain⟨C0,hC0,e⟩:=iC e;obtain⟨d,hd,e⟩:=iC e;obtain⟨rfl,rfl⟩:=jd e;obtain⟨a0,da,_⟩:=E1.own O d0 fJ;have ha:km S ([O].map .slot)=A7 [(d0,B8)]:=by simp[km,vT,fJ]
 obtain⟨vs,fj,B0⟩:=Px E1 ha;have Ec:=Af E1 B0 ha (by simp[jm]);obtain⟨ba,hclo,j6,k7⟩:=sH X.env scope λx hx hf=>I.ok.has x.1<|CO.free x hx hf;obtain⟨more2,hP⟩:=I.base.tbls N _ hTb;rw[Hj] at hP;refine wt<|xy I gK hmf ?_ cY;refine callWith_K (h₀:=X.base) I.ok.mod.kin F.kp ?_ he f7;rw[he];show ah _ _ (Uf ((B6,aM (.Lambda g p scope Y) X.env)::aQ G (ag [] X.env))) _ _ s;refine Hf<|ae1 I hP n5 C hB gL hclo aV λs1 W fl Z up L kp fr0 new=>?_;refine Hg ⟨Z.HN,?_⟩
 have nst: ∀x c,ba.lookup x=A7 c->c∉HC X.stack:=λx c e z=>by
  rcases kW.mp (I.Ia c z) with q|q
  .exact I.Lr x c (j6 x c e) q
  .obtain⟨_,o,ho,_⟩:=I.ok.HA.mem q;exact absurd (jW ho)<|P7.mpr<|I.ok.cab x c (cV x)<|j6 x c e
 have nfl:fl∉HC X.stack:=λz=>by obtain⟨_,o,ho,_⟩:=I.stack.mem z;rw[new] at ho;cases ho
 have LC:Ea U scope ba (vs.map A7) W s1.heap:=by
  rw[<-fj];refine⟨λx y c h1 h2=>I.ok.inj x y c (j6 x c h1)<|j6 y c h2,λx hx=>k7 x<|qO hx,λx c h=>⟨Z.cell x c<|j6 x c h,Z.freeC x c<|j6 x c h⟩,λl x v h1 h2=>?_,CO.Nx.len σ⟩;obtain⟨hf,jj,hj,hv⟩:=CO.Nx.pre σ l v x h2 h1;refine⟨hf,?_⟩;obtain⟨m,hn,hl⟩:=Z.loc;have l5:=CO.free (x,.free) (qO hf) AU;obtain⟨u,r,q⟩:=hl jj x v hj hv (by rcases l5 with z|z;exact .inr<|.inl z;exact .inr<|.inr z);rcases q with⟨ef,_⟩|⟨_,c,hc,j7⟩
  .have cp:X.env.scope.names.lookup x=A7 .local:=ef;rcases l5 with z|z<;>(have z':X.env.scope.names.lookup x=_:=z;rw[cp] at z';cases z')
  .obtain⟨c',ae⟩:=k7 x<|qO hf;have:=j6 x c' ae;rw[hc] at this;cases this;exact⟨c,u,ae,j7,r⟩
 have fm:vs.map A7=[A7<|.ref a0]:=by rw[<-fj];simp[yN,da]
 have onT: ∀a,a≠a0-> ¬AZ (vs.map A7) ([(d0,B8)].map A7) a:=λa n a'=>by
  obtain⟨l,e,h1,h2⟩:=a'
  rw[fm] at h2
  cases l with
  |zero=>simp at h2;exact n h2.symm
  |succ l=>simp at h2
 obtain⟨oc,od,kV,doc,pm,an,b7,ct,r6,rfl,lkr,hcdr⟩:=F.ex;have hbt:=gW s1 [.ref fl] Z.HN AU;refine Bo (Av<|vE (Yx (CX:=Im) (E:=L2.E0) (Q:=λv H'=>CK X.K T σ S H (d,B6) (S.set O AX) v H') (vs:=[.ref fl]) lkr hcdr R.sc hr Z.NC hbt (.cons AU .nil) AU λfw=>?_) (R:=L2.CR Im X.stack X.prog X.w W s1 (λv H'=>CK X.K T σ S H (d,B6) (S.set O AX) v H') L2.E0) λrr s2 hq=>?_) (Q:=EP X pins σ λv H'=>CK X.K T σ S H (d,B6) (S.set O AX) v H') λv s2 ⟨x,H2,I2,rx,q⟩=>⟨x,H2,I2,rx,kq x H2 q⟩
 .obtain⟨p1,p2,p3,p4,p5,p6,p7,p8,p9,S1,jA,bW,hq⟩:=R.body;obtain⟨sw1,sw2,fP,hRest⟩:=hq b7 X.A X.stack s1 W ⟨λ_=>False,AX⟩ (λ_ z=>z.elim) fw
  have nl: ∀{n:Nat} {a:iE} {σ:L2.St},¬AZ σ (ac n AX) a:=λ{n a σ} a'=>by
   obtain⟨l,e,h1,_⟩:=a'
   rw[rP] at h1;split at h1<;>cases h1
  have hlen:(L2.nN t [V.ref fl]).length=(A0 t):=by
   have:1<=(A0 t):=by have:=ox de R.sc.pre;rw[qP] at this;simp at this;lia
   unfold L2.nN;simp;lia
  have fin: ∀(z:D) (H2:Hp) (P:L2.St) (v0:V),Fj (A0 t) i ay z=A7 d->(∀a o,W a=A7 o->a≠a0->H2 a=A7 o)->(∀a,W a≠AX->H2 a≠AX)->P.length=A0 t->P[i]?=A7 (A7 v0)->Rep X.K H2 (λ_=>False) z v0->
    tS X.K (λi=>i∈M) ⟨λ_=>False,AX⟩ W ay {nx:=λ_ H'=>CK X.K T σ S H (d,B6) (S.set O AX) .B7 H',rt:=λv H'=>CK X.K T σ S H (d,B6) (S.set O AX) v H'} P H2:=λz H2 P v0 ht bZ dm2 v8 dB rz=>by
   unfold Fj at ht;split at ht
   case h_2=>cases ht
   rename_i rr δr gM;obtain⟨hs,rfl⟩:=jf ht;refine⟨_,λ_=>False,_,VZ v8 dB rz,⟨λl a ⟨d,h1,h2⟩=>absurd ⟨l,d,h1,h2⟩<|Aa P a,dm2,λ_ _ z=>z,λ_ h=>nomatch h⟩,gM,λv σ3 H3 S3 hrv=>?_⟩;have ext: ∀a o,H a=A7 o->a≠a0->H3 a=A7 o:=λa o q n=>S3.kp a o (bZ a o (up a o q) n)<|Aa P a;refine⟨⟨λa o q n=>ext a o q λz=>n<|z▸⟨O,d0,fJ,da⟩,λl a z=>(FF z).1,λa q=>?_⟩,E1.drop fJ da ext,Qy hs hrv.2⟩
   cases hh:H a with
   |none=>exact absurd hh q
   |some o=>exact S3.dm a<|dm2 a (by rw[up a o hh];simp)
  rw[bW]
  have run: ∀(E:XK) (c':iE) (s:iJ) (H:Hp),C2 k ((X.A.deeper<|aR B (iI st) s1.heap.objs.size J b7).deeper<|BC (qL X) scope s.heap.objs.size fl (.ref c') ba)->
    PE (cxL X U scope fl ba c' (X.A.deeper<|aR B (iI st) s1.heap.objs.size J b7) (aR B (iI st) s1.heap.objs.size J b7::X.stack) s H E) p (λσ H _=>tZo X.K X.mg E xB σ H):=λE c' s H gB=>hb fl ba c' _ _ s H E gB
  have LI:N1 (rn Im X.prog X.w X.K X.mg X.base t B (iI st) J b7 X.A X.stack s1 W L2.E0).Kh U scope ba (vs.map A7) (qL X) g p fl k (λE σ H _=>tZo X.K X.mg E xB σ H):=⟨LS,LC,L,nfl,nst,n6 ba,run⟩
  have h0:t[0]?=A7 xc:=by have:=ox (λl=>l[0]?) R.sc.pre;simpa using this
  have pt:=UU (p4:=p4) (p8:=p8) (p9:=p9) LI AU AU AU fw h0 (.inl R.lc) R.db.1 R.db.2.1 sw1 R.gl R.mg R.db.2.2.2.2 R.sc.nd R.hi R.hj R.ij R.lx R.ln R.db.2.2.1 R.db.2.2.2.1 sw2;refine⟨_,(ug fP<|ug pt hRest).Kh,?_⟩;have hiN:i<(A0 t):=(uD.mp R.hi).1;refine⟨ac (A0 t) AX,λ_=>False,.nx<|(ac (A0 t) AX).set i<|A7 (.B7,B6),⟨by simp[hlen],λl d h=>?_,λl d h=>?_,λl m d e a h=>?_,λa z=>absurd z nl,λ_ z=>z.elim⟩,⟨λl a ⟨d,h1,h2⟩=>absurd ⟨l,d,h1,h2⟩ nl,λ_ z=>z,λ_ _ z=>z,λ_ h=>nomatch h⟩,?_,λσ1 H2 K1 ER1=>?_⟩
  .rw[rP] at h;split at h<;>cases h
  .rw[rP] at h;split at h<;>cases h
  .rw[rP] at h;split at h<;>cases h
  .show(if i<(ac (A0 t) (AX:Sl)).length then A7 (Out.nx _) else AX)=_;rw[iQ<|by simpa using hiN]
  .have bZ: ∀a o,W a=A7 o->H2 a=A7 o:=λa o q=>K1.kp a o q nl;have br:(A0 σ1)=(A0 t):=by have:=ER1.len;simpa using this
   have hs0:σ1[0]?=A7 (A7<|V.ref fl):=by rw[K1.as 0 R.as0];unfold L2.nN;rfl
   have Ec2:ER X.K H2 (Tc T σ S vs [(d0,B8)]) (vs.map A7) ([(d0,B8)].map A7):=Ec.mono (λb o q _=>bZ b o<|up b o q) (λ_ _ z=>z) λa z=>(Ec.dom a z).up λo q=>bZ a o<|up a o q;obtain⟨hmC,ck⟩:=hV cn C0 hC0;refine⟨hs0,λcls _ H'=>cls= .ref C0/\(∀a o,H2 a=A7 o->a≠a0->H' a=A7 o)/\ ∀a,H2 a≠AX->H' a≠AX,⟨_,_,cn,Ec2,hx,λH' C' gk ik fH=>?_⟩,λC' H' ⟨q,_⟩=>?_,λC' H' ea o ⟨q,gk,ik⟩ hn ho=>?_⟩
   .rw[hmC] at fH;cases fH;exact⟨rfl,λa o q n=>gk a o q<|onT a n,ik⟩
   .cases q;exact ck.up
   .cases q;have dJ: ∀a o',H' a=A7 o'->upd H' ea (.EG o<|.own 0) a=A7 o':=λa o' q=>by rw[ji<|la q hn];exact q
    refine fin (.BU (.exc C0) [] []) _ _ (.ref ea) hd (λa o' q n=>dJ a o'<|gk a o' (bZ a o' q) n) (λa q=>?_) (by simp[br]) (by rw[oX<|by simpa[br] using hiN]) (Rep.MD (us:=[]) (λz=>z) ⟨⟨rfl,rfl,rfl⟩,o,jl,ho,λa=>ae2 ck.k ho,ck.ty⟩ AF.nil)
    cases hh:H' a with
    |none=>exact absurd hh<|ik a<|K1.dm a q
    |some o'=>rw[dJ a o' hh];simp
 .cases rr with
  |error e=>exact aH hq
  |ok f=>
   cases f with
   |ret u=>exact Z.after hq
   |_=>exact aH hq
end
def Zm{X:Cx}{z:iE}{a:cc}{d:iK}{scope:jG}{f v pf:bu}{u:Nat}{N' p:jh}{xB:XS}{q:FS}{o:aw->Option Nat}{asg:kb}{st:bn}{n xc xr xx xn:aw}{i j k:Nat}
  (R:Rf (zX X) st p n xc xr xx xn i j k asg q o)(m:Oa X z)(hr:C2 (k+2) X.A)(w:EL X N' scope [u] 0)(y:HP scope=B8)
  (M: ∀(r:iE) (h:kT) (l:iE) (A:iY) (e:List df) (s:iJ) (H:Hp) (E:XK),C2 k (A.deeper<|BC (qL X) scope s.heap.objs.size r (.ref l) h)->
   Po (cxL X N' scope r h l A e s H E) E d xB)
  (O:Gl X n:=by rfl)(I:DB n:=by decide)(C: ∀x,X.fn x=B8:=by exact λ_=>rfl)(B:uu a X.env=([],[]):=by rfl)(n6: ∀h pm l n9,e7 (kla_fn "<lambda>" (qL X) a d scope h pm (.ref l) n9) ⟨[],[]⟩=pure []:=by exact λ_ _ _ _=>rfl)
  (U:SE X (.Lambda a d scope v) []:=by rfl)(L:BA X f []:=by rfl):
  QX X (.Call (.Name n pf) [.Lambda a d scope v] [] f) (Bs u xB (A0 p) i q o):=by
 apply FL;intro P K;obtain⟨V,S,CR,F,Q,Y,G,J⟩:=R;obtain⟨more,D⟩:=m.t;obtain⟨c,N,T⟩:=m.c;apply K;exact⟨QZ (G X AU) F Q O Y I C hr D N T m.b m.g w (Yi y) B n6 U L J M⟩
section
variable {prog:ja}{w:iW}{A:iY}{R:hG->Shared->Prop}{I S:iE}{d a:kB}{n:Nat}{P:Nat->iN->Prop}{St:Nat->iX->Prop}{s:iJ}{bt:Qa}
def vU(s:iJ)(h:iX):Prop:= ∀b o,s.heap.get? b=J o->h.get? b=J o
def Rz(W:Walks prog w A.in1 I d a n P St)(E: ∀i j Y' vj h p,vU s h->P i Y'->P j vj->Iu .Lt A.in1 {s with heap:=h,toks:=p} Y' vj (bt i j))(U:S∉d)(nw: ∀b∈a,s.heap.get? b=AX)(nS:s.heap.get? S=AX)
  (hR: ∀v h p,P (dN bt<|n-1) v->vU s h->R (.ok<|.ret v) {s with heap:=h,toks:=p}): ∀(k j:Nat) (h:iX) (p:Nat) (l:iN) (c:Nat),n-(j+1)=k->j+1<=n->St (j+1) h->P (dN bt j) l->h.get? S=A7 {cls:= .type "list",dict:=AX,data:= .seq #[l,l] c,slots:= #[]}->vU s h->
  bP (ai prog w) A (.builtin "min.loop" ⟨[.ref I,.none,.ref S],[]⟩) R {s with heap:=h,toks:=p}:=by
 have T:S∉a:=λz=>U<|W.sub _ z;have y: ∀{h r:iX},vU s h->(∀b o,b∉a->h.get? b=A7 o->r.get? b=A7 o)->vU s r:=λf g b o e=>g b o (λz=>by rw[nw b z] at e;cases e)<|f b o e;have B: ∀{h:iX} (f:eE->eE),vU s h->vU s (h.update S f):=λf g b o e=>(vC _ _ λz=>by rw[<-z,nS] at e;cases e).trans<|g b o e;intro k
 induction k with
 |zero=>
  intro j h p l c hk D st C t f;have Q:j+1=n:=by omega
  refine ou Gx ?_;rw[pB vV _];refine iF (m:=gj<|.ref S)<|sN t AU ?_;refine iF (m:=tryCatch (b6<|.ref I) _)<|Ag<|W.done _ _ _ (Q▸st) λr x u=>?_;refine iF (m:=e9 S λ_=> #[])<|vW (u S _ T t) AU<|iF<|wk<|iP ?_;exact hR l _ x (by rw[<-Q];exact C) (B _ (y f u))
 |succ k M=>
  intro j h p l c hk D st C t f;have L:j+1<n:=by omega
  refine ou Gx ?_;rw[pB vV _];refine iF (m:=gj<|.ref S)<|sN t AU ?_;refine iF (m:=tryCatch (b6<|.ref I) _)<|Ag<|W.item (j+1) _ _ _ L st λv r x pv G u=>?_;have O:=u S _ T t;have H:=y f u;refine iF (m:=tryCatch (bB [v,v]<|richCompare .Lt v l>>=_) _)<|Ag<|mn<|iF<|E (j+1) (dN bt j) v l r x H pv C _ _ _ _ ?_;refine iF<|mn<|tR<|iF<|wk<|iP ?_;have N:(toString "min"++toString ".loop":String)="min.loop":=by decide
  cases J:bt (j+1) (dN bt j) with
  |true=>simp only[kE];refine iF<|vW O AU<|iF<|wk ?_;rw[N];exact iP ⟨qi vV _,M (j+1) _ x v _ (by omega) L (W.frame _ _ _ G λb q o e=>(vC _ _ λz=>U<|by rw[z];exact q).trans e) (by simp only[dN,J,kE];exact pv) (sO _ O rfl) (B _ H)⟩
  |false=>simp only[jK,jX];refine iF<|wk ?_;rw[N];exact iP ⟨qi vV _,M (j+1) _ x l c (by omega) L G (by simp only[dN,J,jK,jX];exact C) O H⟩
def aeb{E:jt}{Q:jt}{l:iE}{c:lI}(U:A.handled=AX)(t:s.heap.IsList l c)(B:0<c.size)
  (r: ∀i j J' M h x,vU s h->c[i]?=J J'->c[j]?=J M->Iu .Lt A.in1 {s with heap:=h,toks:=x} J' M (bt i j))
  (k: ∀v h x,c[dN bt<|c.size-1]?=J v->vU s h->Q v {s with heap:=h,toks:=x}):ah (ai prog w) A (call (.builtin "min") [.ref l]) Q E s:=by
 have T:(toString "min"++toString ".loop":String)="min.loop":=by decide
 have u:l<s.heap.objs.size:=by obtain⟨_,e,_⟩:=t;exact jW e
 refine call_function_tree F.kind_min F.plain_min F.entry_min (F.args_min1 _) ?_;refine iF (m:=Builtin.Builtins.bindParams "min" ["key","default"] 0 ⟨[],[]⟩)<|qJ (show Builtin.Builtins.bindParams "min" ["key","default"] 0 ⟨[],[]⟩=pure [AX,AX] from AU)<|iF<|iP<|iF<|yE t ?_;refine iF<|nr ?_;rw[T];refine iP ⟨qi vV _,?_⟩;obtain⟨h1,g⟩: ∃h1,h1=s.heap.push {cls:= .type "list_iterator",data:= .fields #[.ref l,.int 0 0]}:=⟨_,rfl⟩
 obtain⟨f,p⟩: ∃f,f=h1.push {cls:= .type "list",data:= .seq #[]}:=⟨_,rfl⟩
 have sz:h1.objs.size=s.heap.objs.size+1:=by rw[g];exact qK ..
 show bP (ai prog w) A (.builtin "min.loop" ⟨[.ref s.heap.objs.size,.none,.ref (s.heap.push {cls:= .type "list_iterator",data:= .fields #[.ref l,.int 0 0]}).objs.size],[]⟩) _ {s with heap:=(s.heap.push {cls:= .type "list_iterator",data:= .fields #[.ref l,.int 0 0]}).push {cls:= .type "list",data:= .seq #[]}};rw[<-g,<-p];have W:=DM (prog:=prog) (w:=w) (A:=A.in1) U s.heap.objs.size l (jH u) c
 have H: ∀b∈[s.heap.objs.size],s.heap.get? b=AX:=λb z=>by rw[E7.mp z];exact Jv<|kc _
 have L:s.heap.get? h1.objs.size=AX:=Jv (by lia);have G:h1.objs.size∉[s.heap.objs.size,l]:=by simp;lia
 have f2:vU s f:=λb o e=>by rw[p,g];exact jT _ (jT _ e)
 have y:f.get? h1.objs.size=J {cls:= .type "list",data:= .seq #[]}:=by rw[p];exact kh _ rfl
 have Y:f.IsListIter s.heap.objs.size l 0/\f.IsList l c:=by rw[p,g];exact⟨⟨_,jT _ (kh _ rfl),rfl,rfl⟩,(t.push _).push _⟩
 refine ou Gx ?_;rw[pB vV _];refine iF (m:=gj<|.ref h1.objs.size)<|sN y AU ?_;refine iF (m:=tryCatch (b6<|.ref s.heap.objs.size) _)<|Ag<|W.item 0 _ _ _ B Y λv K D pv N C=>?_;have O:=C h1.objs.size _ (by simp;lia) y;refine iF (m:=e9 h1.objs.size λ_=> #[v,v])<|vW O AU ?_;rw[T];have ne: ∀b o,s.heap.get? b=J o->b≠h1.objs.size/\b∉[s.heap.objs.size]:=λb o e=>⟨λz=>by(rw[z,L] at e;cases e),λz=>by(rw[H b z] at e;cases e)⟩
 exact iP ⟨qi vV _,Rz W r G H L k _ 0 _ D v _ rfl B (W.frame _ _ _ N λb q o e=>(vC _ _ λz=>G<|by rw[z];exact q).trans e) pv (sO _ O rfl) λb o e=>(vC _ _ (nL (ne b o e).1)).trans<|C b o (ne b o e).2<|f2 b o e⟩
end
def ltB(x y:D):Bool:=(mH .Lt x y).getD Y
def qB:List D->D
 |[]=> .B7
 |x::l=>l.foldl (λb y=>if ltB y b=I then y else b) x
def F8:D->Option (D×Bool)
 | .lst l=>if l≠[]/\(l.all λx=>decide (x.dep<=50)&&l.all λy=>(mH .Lt x y).isSome)=I then J (qB l,Y) else C
 |_=>C
def ae6{l:List D}{bt:Qa}(c: ∀i j x y,l[i]?=J x->l[j]?=J y->bt i j=ltB x y): ∀k,k<A0 l->l[dN bt k]?=J (qB<|l.take<|k+1):=by
 intro k
 induction k with
 |zero=>intro h;cases l with
  |nil=>simp at h
  |cons x l=>simp[dN,qB]
 |succ k d=>
  intro h;have e:=d (by lia);have a:l[k+1]?=J l[k+1]:=jx h
  have b:qB (l.take<|k+1+1)=if ltB l[k+1] (qB<|l.take<|k+1)=I then l[k+1] else qB (l.take<|k+1):=by
   cases l with
   |nil=>simp at h
   |cons x l=>simp at h;simp only[List.take_succ_cons,qB];rw[List.take_succ_eq_append_getElem h,G5];rfl
  rw[dN,c _ _ _ _ a e,b];split
  .exact a
  .exact e
section
variable {X:Cx}
def Dc(hc:X.calm=B8)(hu:X.A.units+62<aS):kG X (.builtin "min") (Ib X.K<|g1 F8):=nI λJ s σ H x u Q O d z I ru np hd L G=>by
 cases d with
 |lst l=>
  obtain⟨⟨Z,t⟩,rfl⟩:=jf (show(if l≠[]/\(l.all λx=>decide (x.dep<=50)&&l.all λy=>(mH .Lt x y).isSome)=B8 then A7 (qB l,B6) else AX)=A7 z from L);obtain⟨p,xs,rfl,q,r⟩:=ke hd;cases ru;obtain⟨b,v,pl,_⟩:=I.list q;have e1:=r.length;have e2:=v.length;have dz:0<l.length:=My.mpr Z
  have get: ∀{i:Nat} {u:iN},b[i]?=A7 u-> ∃x d,l[i]?=A7 d/\Rep X.K H O d x/\RelV x u:=λ{i u} e=>by have T:=(uD.mp e).1;obtain⟨x,h1,g⟩:=r.get<|jx (show i<l.length by lia);obtain⟨w,E,R⟩:=v.get h1;rw[e] at E;cases E;exact⟨x,_,jx (show i<l.length by lia),g,R⟩
  have ok:=λ{x:D} (W:x∈l)=>by have:=lY.mp t x W;simp only[lA,vo,lY] at this;exact this
  refine aeb (bt:=λi j=>ltB (l.getD i .B7)<|l.getD j .B7) (I.ok.hd hc) pl.isList (by simp;lia) (λi j N U h M f T S=>?_) λu h M a f=>?_
  .obtain⟨xi,C,a1,k,m⟩:=get (by simpa using T);obtain⟨xj,o,n,Y,F⟩:=get (by simpa using S);have h1:=ok<|mS a1;have g:=ok<|mS n;obtain⟨c,B⟩:=Kb.mp<|h1.2 o<|mS n;rw[lW,lW,a1,n];show Iu .Lt X.A.in1 _ N U (ltB C o);unfold ltB;rw[B];have j9:X.A.in1.units=X.A.units+1:=rfl;exact Hz (.inl AU) (I.kept (t':=M) f) 50 C o xi xj N U O O X.A.in1 c (.inl k) (.inl Y) m F h1.1 (by lia) (by lia) B
  .have V:b.toArray.size-1=l.length-1:=by simp;lia
   rw[V,hL] at a;obtain⟨y,dy,a1,k,m⟩:=get a;have P:=ae6 (l:=l) (bt:=λi j=>ltB (l.getD i .B7)<|l.getD j .B7) (λi j x y h1 g=>by rw[lW,lW,h1,g];rfl) (l.length-1) (by lia);rw[P] at a1;rw[show l.length-1+1=l.length by lia,GC] at a1;cases a1;exact⟨y,H,I.kept f,m,G _ H (λ_ _ e=>e) k⟩
 |_=>cases L
end
def HE{Z:ZZ}{k:Nat}{x:aw}{st:bn}{N d:jh}{c:kb}{fs:FS}(a:Fz Z.K Z.mg x st)(S:AY N d (iI st))(e:Bd Z k x st N d c fs)(b:Lv x st d:=by intro _ _ _ _ _ _;repeat' (first|exact NO rfl|refine N2 λ_=>?_)):Oz Z (k+1) x d (Cg (A0 N) (A0 d) c fs):=PL a S b e
end PX
set_option backward.eqns.nonrecursive true
namespace PV
open L2 PX
noncomputable abbrev YR:Nat:=100000
abbrev RD:Nat:=6
def zu:FS:=iU (lz<|EJ (lL (wM [.int])<|iG 0)<|VV<|lL (wM [.bool])<|iG 0) jk
def oA:Cn:=Cg 1 1 [] zu
def sv:FS:=iU (lz<|EJ (jg oA [iG 0])<|Bv .LtE .LtE (iG 1) (iG 0)<|iG 2) jk
def nG:Cn:=Cg 3 3 [] sv
abbrev oE:=iL<|fC<|.int 1
def Bn:FS:=iU (lz<|jg nG [iG 1,oE,iG 0]) jk
def sy:Cn:=Cg 2 2 [] Bn
def wN:FS:=iU (lz<|EJ (jg oA [iG 1])<|jg sy [iG 0,iL<|jq (g1 Cf) [iG 1]]) jk
def oi:Cn:=Cg 2 2 [] wN
abbrev Kd:=kM<|kI 1
abbrev DZ:=iU (lz<|fC<|.bl Y) jk
def mV:FS:=iU (FH (Ge (vO<|fT<|lL (wM [.tuple])<|iG 1)<|fT<|iZ Hq (iL<|jq (g1 ur) [iG 1])<|iG 0) DZ jk)<|iU (FH (vO<|fT<|jq (g1 EF) [iL<|jL [0] 1 Kd (iT 1) kr<|kd<|jg oi [iG 0,iG 1]]) DZ jk)<|iU (lz<|iZ HD (iL<|uV [] 1 Kd (iT 0) kr<|BM<|jq (g1 Cf) [iG 0])<|iG 0) jk
def kY:Cn:=Cg 2 2 [] mV
abbrev wU:=iL<|fC<|.int 0
def zt:FS:=iU (lz<|Lq (fT<|iZ (uv .Gt) (iG 1) wU) (iZ Ep (iG 0)<|iL<|iZ KN (iG 1) oE)<|lL zO<|iL<|iZ Ep (iG 0)<|iL<|iZ KN (iL<|lL zO<|iG 1) oE) jk
def oz:Cn:=Cg 2 2 [] zt
abbrev TH:=iL<|jq (g1 ur) [iG 0]
def pX:FS:=iU (FH (fT<|iZ (uv .Lt) (iG 1) TH) (iU (lz<|iZ Ep (iG 0)<|iG 1) jk) jk)<|iU (lz<|fC<|.int 0) jk
def mB:Cn:=Cg 2 2 [] pX
abbrev AA:=fC<|.bl I
abbrev WS:=iL<|iZ OQ (iL<|fC<|.int 10)<|iL<|fC<|.int 18
def sj:FS:=iU (kx 2<|jg mB [iG 0,iG 1])<|iU (FH (fT<|iZ (uv .GtE) (iG 2) WS) (iU (lz<|nC [iZ KN (iG 2) WS,AA]) jk) jk)<|iU (lz<|nC [iZ Ce (iG 2)<|iL<|fC<|.int 2147483647,fC<|.bl Y]) jk
def nD:Cn:=Cg 3 2 [2] sj
abbrev TK:=iZ Ep (iG 0) oE
abbrev Az:=iL<|iZ Ep (iG 0) wU
def uw:FS:=iU (FH (fT TK) (iU (kx 2<|iZ Ce Az<|iG 1)<|iU (wD 0 (iZ OW Az<|iG 1) wU)<|iU (qm 2) jk) jk)<|iU (wD 0 (iZ Ce (iL<|iZ nB (iL<|iZ pW Az<|iL<|fC<|.int 48271)<|iL<|fC<|.int 29)<|iL<|fC<|.int 2147483647) wU)<|iU (kx 3<|iZ Ce (iL<|iZ nB (iL<|iZ nB (iL<|iZ pW Az Az)<|iL<|iZ pW (iL<|fC<|.int 39373) Az)<|iL<|fC<|.int 7)<|iL<|fC<|.int 2147483629)<|iU (kx 3<|iZ Ce (iL<|iZ nB (iL<|iZ pW (iG 3)<|iG 3)<|iL<|iZ pW (iL<|fC<|.int 16807)<|iG 3)<|iL<|fC<|.int 2147483587)<|iU (lz<|iZ Ce (iL<|iZ OW (iG 3)<|iL<|fC<|.int 8)<|iG 1) jk
def jS:Cn:=Cg 4 2 [2,3] uw
abbrev Qg:=lL zO oE
abbrev Qi:=iL<|iZ nB (iG 1) oE
abbrev TY:=iL<|jg jS [iG 0,iL<|fC<|.int 2]
abbrev WT:=iL<|nC [fC<|.int 1,Qg]
abbrev W2:=Bt 2<|iL<|jg jS [iG 0,iL<|jq (g1 ur) [iG 2]]
abbrev T4:=iZ Ep WT TY
abbrev T5:=iL T4
def abt:FS:=iU (kx 2<|jq (NU .lst I) [oE,Qi])<|iU (kx 3<|nC [])<|iU (tu (HQ<|iG 1) (iT 4)<|iU (nO<|mE 3<|iZ pW (iL W2) T5) jk)<|iU (lz<|jq (g1 oN) [iG 3]) jk
def mz:Cn:=Cg 5 2 [2,3,4] abt
def oZ:FS:=iU (lz<|iZ pW (iL<|iZ Ep (iG 0)<|iL<|iZ KN (iL<|jq (g1 Cf) [iG 1]) oE)<|iL<|iZ Ep WT<|iL<|jq (g1 OU) [iL<|iZ (uv .Lt) (iG 1) wU]) jk
def lH:Cn:=Cg 2 2 [] oZ
abbrev zB:=IK [iT 0,iT 1]
def kn(ev:Cn):FS:=iU (FH (fT<|lL (wM [.tuple,.list])<|iG 1) (iU (FH (Ge (fT<|iZ Hq (iL<|lL (wM [.tuple])<|iG 0)<|iL<|lL (wM [.tuple])<|iG 1)<|fT<|iZ Hq (iL<|lL (wM [.list])<|iG 0)<|iL<|lL (wM [.list])<|iG 1) DZ jk)<|iU (lz<|EJ (iZ HD TH<|iL<|jq (g1 ur) [iG 1])<|jq (g1 EF) [iL<|jL [] 2 (uq (iG 0)<|iG 1) zB kr<|kd<|jg ev [iG 0,iG 1]]) jk) jk)<|iU (lz<|EJ (iZ HD (iG 0)<|iG 1)<|iZ HD (iL<|lL (wM [.bool])<|iG 0)<|iL<|lL (wM [.bool])<|iG 1) jk
def je:Nat->Cn
 |0=>λ_=>C
 |m+1=>Cg 2 2 []<|kn<|je m
abbrev WQ:=vO<|fT<|jg kY [iG 0,iG 1]
def nY:FS:=iU (FH WQ (iU Ed jk) jk) jk
def mG:Cn:=Cg 2 2 [] nY
def abA:FS:=iU (lz<|jq (g1 oN) [iL<|jq (g1 wL) [iL<|jL [1] 1 (kM<|kI 0) (iT 1) kr<|kd<|jg oz [iG 0,iG 1]]]) jk
def mW:Cn:=Cg 2 2 [] abA
abbrev MA:=IK [iT 2,iT 3]
abbrev WI:=QJ MA<|kI 0
def VN:FS:=iU WI<|iU (nO<|jg mG [iG 2,iG 1])<|iU (lz<|nh [kI 2,jq (g1 oN) [iL<|jq (g1 lR) [iL<|jL [1] 1 (kM<|kI 3) (iT 1) kr<|kd<|jg mW [(iG 1),(iG 0)]]]]) jk
def Bx:Cn:=Cg 4 2 [2,3] VN
abbrev WD:=iZ (uv .Gt) (iG 3) wU
abbrev WV:=iZ KN (iL<|jq (g1 Cf) [iG 3]) oE
abbrev zC6:=iU (wD 1 (Lq (fT WD) (kI 2)<|lL zO<|iG 2)<|iL WV) jk
def RZ:FS:=iU (kx 1<|jq (g1 Bj) [iG 0])<|iU (tu (VF 1<|kI 0) MA zC6)<|iU (lz<|jq (g1 oN) [iG 1]) jk
def Sg:Cn:=Cg 4 1 [1,2,3] RZ
abbrev W6:=fT<|iZ HD TY wU
def xM:FS:=iU (kx 2<|jL [0] 1 (zM oE Qi) (iT 1) W6<|kd<|iZ pW (iG 1) T5)<|iU (FH (fT<|iZ HD (iG 2)<|iL<|nC []) (iU (kx 2<|nC [iZ pW (iL<|iZ nB oE<|iL<|jg jS [iG 0,iG 1]) T5]) jk) jk)<|iU (lz<|jq (g1 oN) [iG 2]) jk
def nE:Cn:=Cg 3 2 [2] xM
abbrev Kc:=kd<|kI 1
abbrev TQ:=jg lH [iG 0,iG 1]
abbrev Xd:=kd<|nh [jq (g1 Cf) [iL TQ],TQ]
def tx:FS:=iU (kx 2<|jL [1] 1 (kM<|kI 0) (iT 1) kr Xd)<|iU (lz<|jq (g1 oN) [iL<|jL [] 2 (kM<|jq (g1 lR) [iG 2]) zB kr Kc]) jk
def jz:Cn:=Cg 3 2 [2] tx
abbrev Zb:=iZ HD (iG 1) wU
abbrev Qh:=fT Zb
abbrev Wz:=jg nE [iG 0,iG 1]
abbrev TN:=iL<|iZ nB (iG 2) oE
abbrev W5:=iU (Fu 3 AA<|iL Wz) jk
abbrev Xe:=iU (FH (fT<|iZ qp (iG 7)<|iG 3) (iU (Fu 3 AA<|iG 7)<|iU (nO<|mE 6<|kI 7) jk) jk) jk
def yX:FS:=iU (FH Qh (iU (lz<|nh [fC<|.int 0,nh []]) jk) jk)<|iU (kx 2<|iZ Ep (iL<|nC [fC<|.int 3,fC<|.int 5,fC<|.int 12])<|iL<|jg jS [iG 0,iL<|fC<|.int 3])<|iU (kx 3 Tn)<|iU (tu (HQ<|iL<|jg jS [iG 0,TN]) (iT 4) W5)<|iU (kx 5<|jg mz [iG 0,iG 1])<|iU (kx 6<|iZ F7 (iL<|jq (g1 EE) [iG 3])<|iL<|iZ Ep (iL<|nC [fC<|.int 1,fC<|.int 0]) TY)<|iU (nZ (fT<|iZ Hq (iG 6)<|iL<|nC []) (iU (kx 7<|jg jz [iL<|K5 6,iG 5]) Xe) YR)<|iU (lz<|nh [kI 1,jq (g1 oN) [iL<|Br (iL<|jq (g1 xK) [iG 3])<|iL<|fC<|.int 30]]) jk
def lM:Cn:=Cg 8 2 [2,3,4,5,6,7] yX
abbrev Qf:=lL zO<|iG 0
abbrev TM:=iL<|iZ nB (iG 0) oE
def abK:FS:=iU (lz<|jL [] 1 (zM (iL Qf) TM) (iT 0) (fT<|iZ Hq (iG 0) wU)<|kd<|kI 0) jk
def pe:Cn:=Cg 1 1 [] abK
abbrev TF:=iZ qC (iG 2)<|iG 1
abbrev Wy:=iZ nB (iG 1)<|iL<|nh [kI 2]
abbrev Zf:=iZ qC (iL<|lL zO<|iG 2)<|iG 1
abbrev TX:=fT Zf
def yV:FS:=iU (lz<|jL [0] 2 Kd (iT 1) kr<|PK (kM<|jg pe [iG 0]) (iT 2) (pZ (fT TF) TX)<|kd Wy) jk
def og:Cn:=Cg 2 2 [] yV
abbrev WJ:=iL<|jg mW [iG 2,iG 1]
abbrev TU:=kM<|jg og [iG 2,iG 4]
abbrev Xa:=iZ HD (iL<|jq (g1 Cf) [iL<|iZ Ep (iG 1)<|iL Qg])<|iG 0
abbrev Xg:=fT<|jq (g1 EF) [iL<|jL [0,2] 1 Kd (iT 2) kr<|kd<|iZ NW WJ<|iG 0]
abbrev zC7:=kx 6<|jL [5] 1 (kM<|kI 3) (iT 1) (fT Xa) Kc
def yW:FS:=iU WI<|iU (kx 4<|nC [nh []])<|iU (tu (zM oE TN) (iT 5)<|iU zC7<|iU (kx 4<|jL [1,6] 1 TU (iT 2) Xg<|kd<|kI 2) jk)<|iU (qm 4) jk
def oh:Cn:=Cg 7 2 [2,3,4,5,6] yW
abbrev WC:=iL<|iZ Ep (iG 1) oE
abbrev Zi:=iZ HD (iL<|jq (g1 ur) [iL TK])<|iL<|jq (g1 ur) [WC]
abbrev Ql:=fT Zi
def abu:FS:=iU (lz<|Lq Ql (jg oh [iG 0,WC])<|nC []) jk
def nH:Cn:=Cg 2 2 [] abu
def abz:FS:=iU (lz<|jg nH [iG 0,iG 0]) jk
def qE:Cn:=Cg 1 1 [] abz
noncomputable def CT:List (aw×Nat):=[("NoName",37),("NoBit",49),("NoTurning",61),("NoAnswer",73),("NoNumber",85),("NoClause",97),("NoPutting",109),("TooMany",121),("NoRiddle",133),("BadNote",145)]
def lb(ct a:List (aw×Nat)):FS:=(iU (FH (fT<|iZ Pd (iG 1)<|iL<|fC .B7) (iU (lz<|fC .B7) jk) jk) (iU (kx 3 (nC [(lL (zP (a.map (·.2))<|Ku ct "NoName")<|iG 1),(lL (zP (a.map (·.2))<|Ku ct "NoBit")<|iG 1),(lL (zP (a.map (·.2))<|Ku ct "NoTurning")<|iG 1)])) (iU (kx 3 (iZ nB (iG 3) (iL (nC [(lL (zP (a.map (·.2))<|Ku ct "NoAnswer")<|iG 1),(lL (zP (a.map (·.2))<|Ku ct "NoNumber")<|iG 1),(lL (zP (a.map (·.2))<|Ku ct "NoClause")<|iG 1)])))) (iU (kx 3 (iZ nB (iG 3) (iL (nC [(lL (zP (a.map (·.2))<|Ku ct "NoPutting")<|iG 1),(lL (zP (a.map (·.2))<|Ku ct "TooMany")<|iG 1),(lL (zP (a.map (·.2))<|Ku ct "NoRiddle")<|iG 1)])))) (iU (nO (mE 3 (lL (zP (a.map (·.2))<|Ku ct "BadNote")<|iG 1))) (iU (FH (Ge (vO (fT (lL (VL (a.map (·.2)))<|iG 1)))<|fT<|iZ Hq (iL<|jq (g1 VJ) [iL<|jL [] 1 (Bf<|iG 3) (iT 0) kr<|kd<|jq (g1 OU) [iG 0]]) oE) (iU (lz<|fC<|.str "none of these") jk) jk)<|iU (kx 4<|nC [fC<|.str "name",fC<|.str "bit",fC<|.str "turning",fC<|.str "answer",fC<|.str "number",fC<|.str "clause",fC<|.str "putting",fC<|.str "many",fC<|.str "riddle",fC<|.str "note"])<|iU (lz<|iZ Ep (iG 4)<|iL<|Se 3) jk))))))
abbrev Zd:=iZ (uv .Gt) (iG 0)<|iL<|fC<|.int 4
abbrev Qk:=fT Zd
def lT:FS:=iU (FH Qk (iU Ed jk) jk) jk
def lU:Cn:=Cg 1 1 [] lT
def lP:XS:=Ni Qk (Hn "TooMany" (fC<|.str "the riddle has more than four names")) zNo
def pE:List D->Option Str:=NN 1 1 lP
abbrev TC:=iZ qC (iG 1)<|iG 0
abbrev Ze:=iZ qC (iL<|lL zO<|iG 1)<|iG 0
abbrev WM:=kd<|iZ nB (iG 0)<|iL<|nh [kI 1]
abbrev TV:=fT Ze
abbrev T3:=zM oE TM
def zQ:FS:=iU (kx 1<|nC [nh []])<|iU (tu (HQ<|iG 0) (iT 2)<|iU (kx 3<|nC [])<|iU (tu Kd (iT 4)<|iU (kx 5<|jL [4] 1 T3 (iT 1) (pZ (fT TC) TV) Kc)<|iU (nO<|uW 3<|jL [4] 1 (kM<|jq (g1 lR) [iL<|iZ nB (iG 5)<|iL<|jL [] 1 (kM<|kI 5) (iT 0) kr<|kd Qf]) (iT 1) kr WM) jk)<|iU (kx 1<|kI 3) jk)<|iU (qm 1) jk
def oP:Cn:=Cg 6 1 [1,2,3,4,5] zQ
abbrev WH:=kM TK
abbrev W0:=iZ qp (iL<|jg jz [iG 3,iG 2])<|iG 1
abbrev Xf:=iU (FH (fT W0) DZ jk) jk
def oO:FS:=iU (tu WH (iT 3) Xf)<|iU (lz AA) jk
def oQ:Cn:=Cg 4 3 [3] oO
abbrev WB:=iL<|iZ Ep (iG 1) wU
abbrev W8:=iZ Hq Az WB
def F9:FS:=iU (FH (fT W8) (iU (lz<|fC .B7) jk) jk)<|iU (kx 2<|jg nH [iG 0,iG 1])<|iU (lz<|Lq (VU<|iG 2) (iZ Ep (iG 2) wU)<|fC .B7) jk
def uy:Cn:=Cg 3 2 [2] F9
def zS:FS:=iU (lz<|jg qE [iL<|nh [kI 0,nh []]]) jk
def oR:Cn:=Cg 1 1 [] zS
abbrev Ww:=kd<|jg Bx [iG 0,iG 1]
abbrev WZ:=kM<|jg oR [Az]
def vN:FS:=iU (nO<|jg lU [Az])<|iU (lz<|jq (g1 F8) [iL<|jL [0] 1 WZ (iT 1) kr Ww]) jk
def oq:Cn:=Cg 1 1 [] vN
def vG:XS:=zg pE [Az]
def om:List D->Option Str:=NN 1 1 vG
def acv:FS:=iU (lz<|nh [iZ Ep (iG 0) wU,jq (g1 oN) [iL<|jq (g1 lR) [iL<|jL [1] 1 WH (iT 1) kr<|kd<|jg jz [(iG 1),(iG 0)]]]]) jk
def lg:Cn:=Cg 2 2 [] acv
def BQ:List (aw×Nat):=[("TooMany",121)]
abbrev Mz:=iL<|fC<|.int 5
abbrev TJ:=iZ Hq (iG 3)<|iL<|nh []
abbrev TL:=jg lM [iG 0,iG 2]
abbrev WG:=iL<|iZ nB (iG 5) oE
abbrev TR:=iL<|jg mz [iG 0,iG 2]
abbrev TZ:=iL<|iZ Ep (iG 4)<|iL Qg
abbrev WW:=iL<|JR (iG 3) WG
abbrev WY:=kx 5<|jg jS [iG 0,iL<|jq (g1 ur) [iG 3]]
abbrev WX:=iL<|iZ nB (iL<|Br (iG 3)<|iG 5)<|iL<|nh [kI 6]
abbrev W4:=jq (g2 JO) [TN,Mz]
abbrev zC3:=jq (g1 oN) [iL<|jq (g1 rm) [iL<|jq (g1 RW) [iL<|iZ nB WX WW]]]
abbrev zC0:=nO<|mE 4<|nh [kI 2,zC3]
def abB:FS:=iU (QJ MA<|kI 1)<|iU (kx 4<|nC [jg lg [iG 1,TR],TL])<|iU (FH (fT TJ) (iU WY<|iU (kx 6<|jg jz [iL<|iZ Ep (iG 3)<|iG 5,TR])<|iU zC0<|iU (nO<|mE 4<|jg lg [TZ,TR]) jk) jk)<|iU (nO<|mE 4<|nh [W4,kI 3])<|iU (qm 4) jk
def qF:Cn:=Cg 7 2 [2,3,4,5,6] abB
abbrev Wu:=kd<|nh [kI 0,AA]
abbrev WO:=jg oQ [iG 0,iG 4,iG 5]
abbrev W7:=iZ HD Az WB
abbrev Xh:=iU (FH (pZ (fT<|iZ Pd (iG 3)<|iL<|fC .B7)<|fT WO) (iU (kx 3<|kI 5) jk) jk) jk
abbrev zC1:=pZ (fT W7) Ql
def nX:FS:=iU (kx 3<|fC .B7)<|iU (kx 4<|jq (g1 Bk) [iL<|jL [] 1 (kM<|iZ Ep (iG 1) oE) (iT 0) kr Wu])<|iU (FH zC1 (iU (tu (kM<|kI 2) (iT 5) Xh) jk) jk)<|iU (lz<|jg (je RD) [iL<|jg uy [iG 0,iG 1],iG 3]) jk
def mF:Cn:=Cg 6 3 [3,4,5] nX
abbrev MC:=iL<|nh [fC<|.int 0,nh []]
abbrev Wv:=kx 5<|jg oP [iG 3]
abbrev Wx:=fT<|iZ HD (iG 3) Mz
abbrev Zc:=iZ (uv .Lt) (iG 3) Mz
abbrev WA:=kd<|jg lg [iG 0,iG 1]
abbrev WL:=kx 2<|jg nD [iG 0,iG 1]
abbrev WK:=kM<|jg qF [iG 2,iG 4]
abbrev Qj:=fT Zc
abbrev WN:=kx 4<|jg lM [iG 2,iG 3]
abbrev WR:=iL<|jg jS [iG 2,iL<|fC<|.int 4]
abbrev WU:=iL<|jg lM [iG 0,Mz]
abbrev W3:=iZ HD (iL<|jg jS [iG 2,iL<|fC<|.int 6]) wU
abbrev W9:=iL<|nC [jg jS [iG 2,Mz],fC<|.int 2,fC<|.int 3,fC<|.int 4]
abbrev Zg:=iU (kx 4<|nh [fC<|.int 5,Br (iL<|iZ Ep (iG 4) oE)<|iL<|fC<|.int 6]) jk
abbrev Xb:=iU (FH (vO<|fT<|jg mF [iG 4,iG 6,iG 5]) DZ jk) jk
abbrev Xc:=fT<|iZ Hq (iL<|jg uy [MC,MC])<|iL<|nh []
abbrev Zh:=pZ Qh<|fT W3
abbrev zC9:=FH Wx Zg jk
abbrev zC8:=iU (FH (vO<|fT<|jg (je RD) [iL<|jg oq [iG 4],iL<|jq (g1 F8) [iG 7]]) DZ jk) jk
abbrev zC5:=FH Zh (iU (kx 3<|fC<|.int 5) jk) jk
abbrev zC2:=Ge (fT<|iZ OT (iL<|jg uy [MC,iL<|nh [fC<|.int 1,nh []]])<|iL<|fC .B7)<|fT<|iZ Hq (iL<|jg oq [MC]) MC
def Bm:FS:=iU (FH (Ge Xc zC2) DZ jk)<|iU (tu (HQ<|iL<|jq (g2 OS) [oE,iL<|jq (g2 JO) [TH,iL<|fC<|.int 4]]) (iT 1)<|iU WL<|iU (kx 3<|iZ Ep W9 WR)<|iU zC5<|iU WN<|iU zC9<|iU Wv<|iU (tu WK (iT 6) Xb)<|iU (FH Qj (iU (kx 7<|jL [4] 1 (kM<|kI 5) (iT 1) kr WA) zC8) jk)<|iU (FH (fT<|iZ Hq (iL<|Bs 2 (zg om [WU]) 5 1 (lb CT BQ) (λz=>BQ.lookup z))<|iL (fC (.str "many"))) DZ jk) jk)<|iU (lz AA) jk
def vP:Cn:=Cg 8 1 [1,2,3,4,5,6,7] Bm
end PV
namespace K83
open L2 PX PV
noncomputable def top(i:Nat):Stmt:=PySem.Challenge.pw_twinriddles_k83_alike_and_least_names.main.body.getD i<|.Pass ⟨0,0,0,0⟩
abbrev TB83:List (iE×aw):=[(352,"law.<locals>.<lambda>")]
section
variable {Z:ZZ}{k:Nat}
noncomputable abbrev wC:Stmt:=top 14
abbrev wK(Z:ZZ)(k:Nat):Prop:=Oz Z k "is_whole" ["thing"] oA
def ab3(a:Fz Z.K Z.mg "is_whole" wC)(T:Tx Z.mg):wK Z (k+1):=by have S:AY ["thing"] ["thing"] (iI wC):=Fh;refine HE a S λf c A b s U E L d e g i h j l=>?_;exact(s1 (sR<|ME (xI T H xV)<|Nj<|Zo<|xI T H xV) s0)
noncomputable abbrev ue:Stmt:=top 15
abbrev zp(Z:ZZ)(k:Nat):Prop:=Oz Z k "is_number" ["thing","least","most"] nG
def abV(a:Fz Z.K Z.mg "is_number" ue)(T:Tx Z.mg)(d:wK Z k):zp Z (k+1):=by have S:AY ["thing","least","most"] ["thing","least","most"] (iI ue):=Fh;refine HE a S λf e A b s U E L g c h j i l m=>?_;exact(s1 (sR<|ME (xU d c<|xA xV BD)<|Nj<|xCh xV xV xV) s0)
noncomputable abbrev yL:Stmt:=top 16
abbrev CH(Z:ZZ)(k:Nat):Prop:=Oz Z k "is_name" ["names","thing"] sy
def aco(a:Fz Z.K Z.mg "is_name" yL)(T:Tx Z.mg)(b:zp Z k):CH Z (k+1):=by have S:AY ["names","thing"] ["names","thing"] (iI yL):=Fh;refine HE a S λf e A c s U E L g d h j i l m=>?_;exact(s1 (sR<|xU b d<|xA xV<|xA (xO x3)<|xA xV BD) s0)
noncomputable abbrev yK:Stmt:=top 17
abbrev CG(Z:ZZ)(k:Nat):Prop:=Oz Z k "is_sign" ["names","thing"] oi
def acn(a:Fz Z.K Z.mg "is_sign" yK)(T:Tx Z.mg)(e:wK Z k)(b:CH Z k):CG Z (k+1):=by have S:AY ["names","thing"] ["names","thing"] (iI yK):=Fh;refine HE a S λf g A c s U E L h d i l j m n=>?_;exact(s1 (sR<|ME (xU e d<|xA xV BD)<|Nj<|xU b d<|xA xV<|xA (xO<|xB T H ⟨rp⟩<|xA xV BD) BD) s0)
abbrev lr:Stmt:=top 18
def pK:AY ["names"] ["names"] (iI lr):=Fh
abbrev nA(Z:ZZ)(k:Nat):Prop:=Oz Z k "check_few_names" ["names"] lU
def qb:Lv "check_few_names" lr ["names"]:=λ_ _ _ _ _ _=>N2 λ_=>NO H
abbrev qk(Z:ZZ)(k:Nat):Prop:=Oy Z k "check_few_names" ["names"] pE
def wx{CR:Nat}(a:Fz Z.K Z.mg "check_few_names" lr)(T:Tx Z.mg)(c:Hr Z.K Z.mg CT BQ CR)(d: ∃t,Z.mg "FEW_NAMES"=J (.int 4 t)):qk Z (k+1):=by have S:=pK;have m:= @uE;refine oyB (xs:=lP) a S qb λf g A b s U E h e j i l=>?_;exact(Hm<|zI (Cb ⟨rZ (.inr<|.inr<|.inl H) e⟩ xV<|xO<|x5 d)<|Hm<|zR uE (c.x "TooMany") x4)
def wI(a:Fz Z.K Z.mg "check_few_names" lr)(T:Tx Z.mg)(c: ∃t,Z.mg "FEW_NAMES"=J (.int 4 t)):nA Z (k+1):=by have S:=pK;refine PL (asg:=[]) (fs:=lT) a S qb λf e A b s U E L g h d j i l m=>?_;exact(s1 (sI (Cb ⟨rZ (.inr<|.inr<|.inl H) d⟩ xV<|xO<|x5 c) (s1 sX s0) s0) s0)
noncomputable abbrev rX:Stmt:=top 20
abbrev xt(Z:ZZ)(k:Nat):Prop:=Oz Z k "is_turning" ["names","thing"] kY
def abi(a:Fz Z.K Z.mg "is_turning" rX)(T:Tx Z.mg)(b:CG Z k):xt Z (k+1):=by have S:AY ["names","thing"] ["names","thing"] (iI rX):=Fh;refine HE a S λf h A d s U E L i g e l j m c=>?_;exact(s1 (sI (tW<|Nn (KR<|BV<|xI T H xV)<|Qq<|Cb ⟨pT e⟩ (xO<|xB T H ⟨lN⟩<|xA xV BD) xV) (s1 (sR x2) s0) s0)<|s1 (sI (KR<|BV<|xB T H ⟨zc H⟩<|xA (xO<|by exact xC (N':=["names","sign"]) (K6 S) (by decide+kernel) (iS xW) λ_ _ _ _ _ _ c=>⟨gN c,f0,λ_=>bE<|xU b g<|xA xV<|xA xV BD⟩) BD) (s1 (sR x2) s0) s0)<|s1 (sR<|Ke ⟨ny e⟩ (xO<|by exact xLS (N':=["sign"]) T (K6 S) (by decide+kernel) (iS xW) λ_ _ _ _ _ _ c=>⟨gN c,f0,xB T H ⟨rp⟩<|xA xV BD⟩) xV) s0)
noncomputable abbrev oJ:Stmt:=top 21
abbrev sZ(Z:ZZ)(k:Nat):Prop:=Oz Z k "check_turning" ["names","thing"] mG
def yS(a:Fz Z.K Z.mg "check_turning" oJ)(T:Tx Z.mg)(b:xt Z k):sZ Z (k+1):=by have S:AY ["names","thing"] ["names","thing"] (iI oJ):=Fh;refine HE a S λf e A c s U E L g d h j i l m=>?_;exact(s1 (sI (KR<|BV<|xU b d<|xA xV<|xA xV BD) (s1 sX s0) s0) s0)
noncomputable abbrev wA:Stmt:=top 22
abbrev A4(Z:ZZ)(k:Nat):Prop:=Oz Z k "led_sign" ["turning","sign"] oz
def ab1(a:Fz Z.K Z.mg "led_sign" wA)(T:Tx Z.mg):A4 Z (k+1):=by have S:AY ["turning","sign"] ["turning","sign"] (iI wA):=Fh;refine HE a S λf d A b s U E L e g c i h j l=>?_;exact(s1 (sR<|xIf (Cb ⟨rZ (.inr<|.inr<|.inl H) c⟩ xV<|xO x3) (F2 xV<|xO<|ll ⟨zW⟩ xV<|xO x3)<|zD<|xO<|F2 xV<|xO<|ll ⟨zW⟩ (xO<|zD xV)<|xO x3) s0)
noncomputable abbrev rT:Stmt:=top 23
abbrev se(Z:ZZ)(k:Nat):Prop:=Oz Z k "led_clause" ["clause","turning"] mW
def abq(a:Fz Z.K Z.mg "led_clause" rT)(T:Tx Z.mg)(b:A4 Z k):se Z (k+1):=by have S:AY ["clause","turning"] ["clause","turning"] (iI rT):=Fh;refine HE a S λf g A c s U E L h e i l j m d=>?_;exact(s1 (sR<|xT T H ⟨lO⟩<|xA (xO<|xSA T<|xA (xO<|by exact xC (N':=["turning","sign"]) (K6 S) (by decide+kernel) (iS xW) λ_ _ _ _ _ _ d=>⟨gN d,f0,λ_=>bE<|xU b e<|xA xV<|xA xV BD⟩) BD) BD) s0)
noncomputable abbrev Na:Stmt:=top 24
abbrev N3(Z:ZZ)(k:Nat):Prop:=Oz Z k "led" ["riddle","turning"] Bx
def Vj(a:Fz Z.K Z.mg "led" Na)(T:Tx Z.mg)(b:sZ Z k)(h:se Z k):N3 Z (k+1):=by have S:AY ["riddle","turning","names","clauses"] ["riddle","turning"] (iI Na):=Fh;refine HE a S λf i A d s U E L j e l m g n c=>?_;exact(s1 (sT xW<|gT (gN c)<|gN c)<|s1 (sE<|xU b e<|xA xV<|xA xV BD)<|s1 (sR<|ng<|xL xW<|xL (xT T H ⟨lO⟩<|xA (xO<|xB T H ⟨nJ g⟩<|xA (xO<|by exact xC (N':=["turning","clause"]) (K6 S) (by decide+kernel) (iS xW) λ_ _ _ _ _ _ c=>⟨gN c,f0,λ_=>bE<|xU h e<|xA xV<|xA xV BD⟩) BD) BD) D5) s0)
abbrev uf:Stmt:=top 26
abbrev zq(Z:ZZ)(k:Nat):Prop:=Oz Z k "all_signs" ["names"] pe
def abW(a:Fz Z.K Z.mg "all_signs" uf)(T:Tx Z.mg):zq Z (k+1):=by have S:AY ["names"] ["names"] (iI uf):=Fh;refine HE a S λf e A b s U E L g h d j i l c=>?_;exact(s1 (sR<|by exact xC (N':=["sign"]) (K6 S) (by decide+kernel) (PR T<|xA (xO<|zD xV)<|xA (xO<|ll ⟨kQ⟩ xV<|xO x3) BD) λ_ _ _ _ _ _ c=>⟨gN c,f1<|Cb ⟨pT d⟩ xV<|xO x3,λ_=>bE xW⟩) s0)
abbrev oG:Stmt:=top 27
abbrev sV(Z:ZZ)(k:Nat):Prop:=Oz Z k "longer_by_one" ["names","begun"] og
def yP(a:Fz Z.K Z.mg "longer_by_one" oG)(T:Tx Z.mg)(b:zq Z k):sV Z (k+1):=by have S:AY ["names","begun"] ["names","begun"] (iI oG):=Fh;refine HE a S λf h A d s U E L i g e l j m c=>?_;exact(s1 (sR<|by exact xC (N':=["names","begin","sign"]) (K6 S) (by decide+kernel) (iS xW) λ_ _ _ _ _ _ c=>⟨gN c,f0,λ_=>bF H (iS<|xU b g<|xA xV BD) (gN c) (f1<|tW<|MM (Cb ⟨uP e⟩ xV xV)<|Fc<|Cb ⟨uP e⟩ (xO<|zD xV) xV)<|bE<|ll ⟨kQ⟩ xV<|xO<|ng<|xL xW D5⟩) s0)
abbrev oH:Stmt:=top 28
abbrev sY(Z:ZZ)(k:Nat):Prop:=Oz Z k "leading_among" ["riddle","others"] oh
def yQ(a:Fz Z.K Z.mg "leading_among" oH)(T:Tx Z.mg)(b:sV Z k)(j:se Z k):sY Z (k+1):=by have S:AY ["riddle","others","names","clauses","begun","name","ready"] ["riddle","others"] (iI oH):=Fh;refine HE a S λf l A d s U E L i e g n m o c=>?_;exact(s1 (sT xW<|gT (gN c)<|gN c)<|s1 (sS c<|qe<|xL (ng D5) D5)<|s1 (sF (PR T<|xA (xO x3)<|xA (xO<|ll ⟨kQ⟩ xV<|xO x3) BD) (gN c)<|s1 (sS c<|by exact xC (N':=["name","clause"]) (K6 S) (by decide+kernel) (iS xW) λ_ _ _ _ _ _ c=>⟨gN c,f1<|Cb ⟨ny g⟩ (xO<|xB T H ⟨rp⟩<|xA (xO<|F2 xV<|xO<|zD<|xO x3) BD) xV,λ_=>bE xW⟩)<|s1 (sC (N':=["others","ready","begin"]) c (K6 S) (by decide+kernel) (iS<|xU b e<|xA xV<|xA xV BD) λ_ _ _ _ _ _ c=>⟨gN c,f1<|BV<|xB T H ⟨zc H⟩<|xA (xO<|by exact xC (N':=["others","begin","clause"]) (Pr H H<|by with_unfolding_all rfl) (by decide+kernel) (iS xW) λ_ _ _ _ _ _ c=>⟨gN c,f0,λ_=>bE<|Ke ⟨Va g⟩ (xO<|xU j e<|xA xV<|xA xV BD) xV⟩) BD,λ_=>bE xW⟩) s0)<|s1 (PJ λh=>absurd (i _ h)<|by decide) s0)
abbrev qx:Stmt:=top 29
abbrev qA(Z:ZZ)(k:Nat):Prop:=Oz Z k "all_leading" ["one","other"] nH
def aa3(a:Fz Z.K Z.mg "all_leading" qx)(T:Tx Z.mg)(b:sY Z k):qA Z (k+1):=by have S:AY ["one","other"] ["one","other"] (iI qx):=Fh;refine HE a S λf g A c s U E L h d e j i l m=>?_;exact(s1 (sR<|xIf (Cb ⟨ny e⟩ (xO<|xB T H ⟨lN⟩<|xA (xO<|F2 xV<|xO x3) BD)<|xO<|xB T H ⟨lN⟩<|xA (xO<|F2 xV<|xO x3) BD) (xU b d<|xA xV<|xA (xO<|F2 xV<|xO x3) BD)<|qe D5) s0)
abbrev rR:Stmt:=top 30
abbrev xm(Z:ZZ)(k:Nat):Prop:=Oz Z k "likenesses" ["riddle"] qE
def abp(a:Fz Z.K Z.mg "likenesses" rR)(T:Tx Z.mg)(d:qA Z k):xm Z (k+1):=by have S:AY ["riddle"] ["riddle"] (iI rR):=Fh;refine HE a S λf e A b s U E L g c h j i l m=>?_;exact(s1 (sR<|xU d c<|xA xV<|xA xV BD) s0)
abbrev Eb:Stmt:=top 32
abbrev Eo(Z:ZZ)(k:Nat):Prop:=Oz Z k "alike" ["one","other"] uy
def aer(a:Fz Z.K Z.mg "alike" Eb)(T:Tx Z.mg)(e:qA Z k):Eo Z (k+1):=by have S:AY ["one","other","found"] ["one","other"] (iI Eb):=Fh;refine HE a S λf h A b s U E L i c d l j m g=>?_;exact(s1 (sI (Cb ⟨pT d⟩ (xO<|F2 xV<|xO x3)<|xO<|F2 xV<|xO x3) (s1 (sR x1) s0) s0)<|s1 (sS g<|xU e c<|xA xV<|xA xV BD)<|s1 (sR<|xIf (tTr xV) (F2 xV<|xO x3) x1) s0)
abbrev pP:Stmt:=top 33
abbrev pU(Z:ZZ)(k:Nat):Prop:=Oz Z k "all_turnings" ["names"] oR
def zJ(a:Fz Z.K Z.mg "all_turnings" pP)(T:Tx Z.mg)(b:xm Z k):pU Z (k+1):=by have S:AY ["names"] ["names"] (iI pP):=Fh;refine HE a S λf e A c s U E L g d h j i l m=>?_;exact(s1 (sR<|xU b d<|xA (xO<|ng<|xL xW<|xL (ng D5) D5) BD) s0)
abbrev nv:Stmt:=top 34
def vH:AY ["riddle"] ["riddle"] (iI nv):=Fh
abbrev xo(Z:ZZ)(k:Nat):Prop:=Oz Z k "least_name" ["riddle"] oq
def vS:Lv "least_name" nv ["riddle"]:=λ_ _ _ _ _ _=>N2 λ_=>NO H
abbrev wV(Z:ZZ)(k:Nat):Prop:=Oy Z k "least_name" ["riddle"] om
def abn{CR:Nat}(a:Fz Z.K Z.mg "least_name" nv)(T:Tx Z.mg)(i:Hr Z.K Z.mg CT BQ CR)(c:nA Z k)(d:pU Z k)(e:N3 Z k)(b:qk Z k):wV Z (k+1):=by have S:=vH;have p:= @uE;refine oyB (xs:=vG) a S vS λf j A g s U E h l n m o=>?_;exact(Hm<|zE<|zC uE b h<|xA (xO<|F2 xV<|xO x3) BD)
def abr(a:Fz Z.K Z.mg "least_name" nv)(T:Tx Z.mg)(b:nA Z k)(c:pU Z k)(d:N3 Z k):xo Z (k+1):=by have S:=vH;refine PL (asg:=[]) (fs:=vN) a S vS λf j A g s U E L l e m n i o h=>?_;exact(s1 (sE<|xU b e<|xA (xO<|F2 xV<|xO x3) BD)<|s1 (sR<|xB T H ⟨Dc H i⟩<|xA (xO<|by exact xC (N':=["riddle","turning"]) (K6 S) (by decide+kernel) (iS<|xU c e<|xA (xO<|F2 xV<|xO x3) BD) λ_ _ _ _ _ _ h=>⟨gN h,f0,λ_=>bE<|xU d e<|xA xV<|xA xV BD⟩) BD) s0)
noncomputable abbrev qw:Stmt:=top 36
abbrev vL(Z:ZZ)(k:Nat):Prop:=Oz Z k "_law_cell_at" ["_law_script","_law_k"] mB
def aa9(a:Fz Z.K Z.mg "_law_cell_at" qw)(T:Tx Z.mg):vL Z (k+1):=by have S:AY ["_law_script","_law_k"] ["_law_script","_law_k"] (iI qw):=Fh;refine HE a S λf d A b s U E L e g c i h j l=>?_;exact(s1 (sI (Cb ⟨rZ (.inl H) c⟩ xV<|xO<|xB T H ⟨lN⟩<|xA xV BD) (s1 (sR<|F2 xV xV) s0) s0)<|s1 (sR x3) s0)
noncomputable abbrev uc:Stmt:=top 37
abbrev zm(Z:ZZ)(k:Nat):Prop:=Oz Z k "_law_state" ["_law_script","_law_k"] nD
def abT(a:Fz Z.K Z.mg "_law_state" uc)(T:Tx Z.mg)(b:vL Z k):zm Z (k+1):=by have S:AY ["_law_script","_law_k","_law_cell"] ["_law_script","_law_k"] (iI uc):=Fh;refine HE a S λf h A c s U E L i d e l j m g=>?_;exact(s1 (sS g<|xU b d<|xA xV<|xA xV BD)<|s1 (sI (Cb ⟨rZ (.inr<|.inr<|.inr H) e⟩ xV<|xO<|ll ⟨Jp⟩ (xO x3)<|xO x3) (s1 (sR<|qe<|xL (ll ⟨zW⟩ xV<|xO<|ll ⟨Jp⟩ (xO x3)<|xO x3)<|xL x2 D5) s0) s0)<|s1 (sR<|qe<|xL (ll ⟨uQ⟩ xV<|xO x3)<|xL x2 D5) s0)
noncomputable abbrev wB:Stmt:=top 38
abbrev nW(Z:ZZ)(k:Nat):Prop:=Oz Z k "_law_take" ["_law_state_here","_law_many"] jS
def ab2(a:Fz Z.K Z.mg "_law_take" wB)(T:Tx Z.mg):nW Z (k+1):=by have S:AY ["_law_state_here","_law_many","_law_found","_law_mixed"] ["_law_state_here","_law_many"] (iI wB):=Fh;refine HE a S λf e A c s U E L d g i l j m b=>?_;exact(s1 (sI (BV<|F2 xV<|xO x3) (s1 (sS b<|ll ⟨uQ⟩ (xO<|F2 xV<|xO x3) xV)<|s1 (Ci xV (ll ⟨Jq⟩ (xO<|F2 xV<|xO x3) xV)<|xO x3)<|s1 (PJ λh=>absurd (d _ h)<|by decide) s0) s0)<|s1 (Ci xV (ll ⟨uQ⟩ (xO<|ll ⟨kQ⟩ (xO<|ll ⟨oo⟩ (xO<|F2 xV<|xO x3)<|xO x3)<|xO x3)<|xO x3)<|xO x3)<|s1 (sS b<|ll ⟨uQ⟩ (xO<|ll ⟨kQ⟩ (xO<|ll ⟨kQ⟩ (xO<|ll ⟨oo⟩ (xO<|F2 xV<|xO x3)<|xO<|F2 xV<|xO x3)<|xO<|ll ⟨oo⟩ (xO x3)<|xO<|F2 xV<|xO x3)<|xO x3)<|xO x3)<|s1 (sS b<|ll ⟨uQ⟩ (xO<|ll ⟨kQ⟩ (xO<|ll ⟨oo⟩ xV xV)<|xO<|ll ⟨oo⟩ (xO x3) xV)<|xO x3)<|s1 (sR<|ll ⟨uQ⟩ (xO<|ll ⟨Jq⟩ xV<|xO x3) xV) s0)
noncomputable abbrev qv:Stmt:=top 39
abbrev qz(Z:ZZ)(k:Nat):Prop:=Oz Z k "_law_turning" ["_law_state_here","_law_names"] mz
def aa7(a:Fz Z.K Z.mg "_law_turning" qv)(T:Tx Z.mg)(d:nW Z k):qz Z (k+1):=by have S:AY ["_law_state_here","_law_names","_law_rest","_law_found","_law_turn"] ["_law_state_here","_law_names"] (iI qv):=Fh;refine HE a S λf g A c s U E L h e i l j m b=>?_;exact(s1 (sS b<|Zl T H<|xA (xO x3)<|xA (xO<|ll ⟨kQ⟩ xV<|xO x3) BD)<|s1 (sS b<|qe D5)<|s1 (sF (PU T<|xA xV BD) (gN b)<|s1 (sE<|Kf xV<|ll ⟨oo⟩ (xO<|Zn xV<|xO<|xU d e<|xA xV<|xA (xO<|xB T H ⟨lN⟩<|xA xV BD) BD)<|xO<|F2 (xO<|qe<|xL x3<|xL (zD<|xO x3) D5)<|xO<|xU d e<|xA xV<|xA (xO x3) BD) s0)<|s1 (sR<|xT T H ⟨lO⟩<|xA xV BD) s0)
noncomputable abbrev pN:Stmt:=top 40
abbrev uj(Z:ZZ)(k:Nat):Prop:=Oz Z k "_law_led_sign" ["_law_turning_here","_law_sign"] lH
def zG(a:Fz Z.K Z.mg "_law_led_sign" pN)(T:Tx Z.mg):uj Z (k+1):=by have S:AY ["_law_turning_here","_law_sign"] ["_law_turning_here","_law_sign"] (iI pN):=Fh;refine HE a S λf d A b s U E L e g c i h j l=>?_;exact(s1 (sR<|ll ⟨oo⟩ (xO<|F2 xV<|xO<|ll ⟨zW⟩ (xO<|xB T H ⟨rp⟩<|xA xV BD)<|xO x3)<|xO<|F2 (xO<|qe<|xL x3<|xL (zD<|xO x3) D5)<|xO<|xT T H ⟨Dd⟩<|xA (xO<|Ke ⟨rZ (.inl H) c⟩ xV<|xO x3) BD) s0)
noncomputable abbrev rW:Stmt:=top 41
abbrev xq(Z:ZZ)(k:Nat):Prop:=Oz Z k "_law_clause" ["_law_state_here","_law_names"] nE
def abh(a:Fz Z.K Z.mg "_law_clause" rW)(T:Tx Z.mg)(b:nW Z k):xq Z (k+1):=by have S:AY ["_law_state_here","_law_names","_law_signs"] ["_law_state_here","_law_names"] (iI rW):=Fh;refine HE a S λf h A e s U E L i c g l j m d=>?_;exact(s1 (sC (N':=["_law_state_here","_law_name"]) d (K6 S) (by decide+kernel) (PR T<|xA (xO x3)<|xA (xO<|ll ⟨kQ⟩ xV<|xO x3) BD) λ_ _ _ _ _ _ d=>⟨gN d,f1<|Cb ⟨ny g⟩ (xO<|xU b c<|xA xV<|xA (xO x3) BD)<|xO x3,λ_=>bE<|ll ⟨oo⟩ xV<|xO<|F2 (xO<|qe<|xL x3<|xL (zD<|xO x3) D5)<|xO<|xU b c<|xA xV<|xA (xO x3) BD⟩)<|s1 (sI (Cb ⟨ny g⟩ xV<|xO<|qe D5) (s1 (sS d<|qe<|xL (ll ⟨oo⟩ (xO<|ll ⟨kQ⟩ (xO x3)<|xO<|xU b c<|xA xV<|xA xV BD)<|xO<|F2 (xO<|qe<|xL x3<|xL (zD<|xO x3) D5)<|xO<|xU b c<|xA xV<|xA (xO x3) BD) D5) s0) s0)<|s1 (sR<|xT T H ⟨lO⟩<|xA xV BD) s0)
noncomputable abbrev nV:Stmt:=top 42
abbrev lJ(Z:ZZ)(k:Nat):Prop:=Oz Z k "_law_led_clause" ["_law_clause_here","_law_turning_here"] jz
def xl(a:Fz Z.K Z.mg "_law_led_clause" nV)(T:Tx Z.mg)(b:uj Z k):lJ Z (k+1):=by have S:AY ["_law_clause_here","_law_turning_here","_law_row"] ["_law_clause_here","_law_turning_here"] (iI nV):=Fh;refine HE a S λf h A d s U E L i e j l g m c=>?_;exact(s1 (sC (N':=["_law_turning_here","_law_sign"]) c (K6 S) (by decide+kernel) (iS xW) λ_ _ _ _ _ _ c=>⟨gN c,f0,λ_=>bE<|ng<|xL (xB T H ⟨rp⟩<|xA (xO<|xU b e<|xA xV<|xA xV BD) BD)<|xL (xU b e<|xA xV<|xA xV BD) D5⟩)<|s1 (sR<|xT T H ⟨lO⟩<|xA (xO<|by exact xC (N':=["_law_name","_law_sign"]) (K6 S) (by decide+kernel) (iS<|xB T H ⟨nJ g⟩<|xA xV BD) λ_ _ _ _ _ _ c=>⟨gT (gN c)<|gN c,f0,λ_=>bE xW⟩) BD) s0)
abbrev yJ:Stmt:=top 43
abbrev yT(Z:ZZ)(k:Nat):Prop:=Oz Z k "_law_led" ["_law_riddle","_law_turning_here"] lg
def acm(a:Fz Z.K Z.mg "_law_led" yJ)(T:Tx Z.mg)(d:lJ Z k):yT Z (k+1):=by have S:AY ["_law_riddle","_law_turning_here"] ["_law_riddle","_law_turning_here"] (iI yJ):=Fh;refine HE a S λf h A b s U E L i e j l g m c=>?_;exact(s1 (sR<|ng<|xL (F2 xV<|xO x3)<|xL (xT T H ⟨lO⟩<|xA (xO<|xB T H ⟨nJ g⟩<|xA (xO<|by exact xC (N':=["_law_turning_here","_law_clause_here"]) (K6 S) (by decide+kernel) (iS<|F2 xV<|xO x3) λ_ _ _ _ _ _ c=>⟨gN c,f0,λ_=>bE<|xU d e<|xA xV<|xA xV BD⟩) BD) BD) D5) s0)
abbrev oI:Stmt:=top 44
abbrev oM(Z:ZZ)(k:Nat):Prop:=Oz Z k "_law_riddle_of" ["_law_state_here","_law_names"] lM
def yR(a:Fz Z.K Z.mg "_law_riddle_of" oI)(T:Tx Z.mg)(e:nW Z k)(b:xq Z k)(m:qz Z k)(l:lJ Z k):oM Z (k+1):=by have S:AY ["_law_state_here","_law_names","_law_most","_law_some","_law_turn","_law_turning_here","_law_fresh","_law_clause_here"] ["_law_state_here","_law_names"] (iI oI):=Fh;refine HE a S λf n A g s U E L o c h j i p d=>?_;exact(s1 (sI (Cb ⟨ny h⟩ xV<|xO x3) (s1 (sR<|ng<|xL x3<|xL (ng D5) D5) s0) s0)<|s1 (sS d<|F2 (xO<|qe<|xL x3<|xL x3<|xL x3 D5)<|xO<|xU e c<|xA xV<|xA (xO x3) BD)<|s1 (sS d x7)<|s1 (sF (PU T<|xA (xO<|xU e c<|xA xV<|xA (xO<|ll ⟨kQ⟩ xV<|xO x3) BD) BD) (gN d)<|s1 (sDP j xV x2<|xO<|xU b c<|xA xV<|xA xV BD) s0)<|s1 (sS d<|xU m c<|xA xV<|xA xV BD)<|s1 (sS d<|ll ⟨aep⟩ (xO<|xT T H ⟨acL H⟩<|xA xV BD)<|xO<|F2 (xO<|qe<|xL x3<|xL x3 D5)<|xO<|xU e c<|xA xV<|xA (xO x3) BD)<|s1 (sW (Cb ⟨pT h⟩ xV<|xO<|qe D5)<|s1 (sS d<|xU l c<|xA (xO<|Xi xV)<|xA xV BD)<|s1 (sI (Cb ⟨AW i⟩ xV xV) (s1 (sDP j xV x2 xV)<|s1 (sE<|Kf xV xW) s0) s0) s0)<|s1 (sR<|ng<|xL xW<|xL (xT T H ⟨lO⟩<|xA (xO<|T6 (xO (xB T H ⟨abN H i⟩ (xA xV BD))) (xO x3)) BD) D5) s0)
abbrev pL:Stmt:=top 45
abbrev ui(Z:ZZ)(k:Nat):Prop:=Oz Z k "_law_turnings" ["_law_names"] oP
def zF(a:Fz Z.K Z.mg "_law_turnings" pL)(T:Tx Z.mg):ui Z (k+1):=by have S:AY ["_law_names","_law_found","_law_turn","_law_longer","_law_row","_law_rest"] ["_law_names"] (iI pL):=Fh;refine HE a S λf i A c s U E L e j d l g m b=>?_;exact(s1 (sS b<|qe<|xL (ng D5) D5)<|s1 (sF (PU T<|xA xV BD) (gN b)<|s1 (sS b<|qe D5)<|s1 (sF (iS xW) (gN b)<|s1 (sC (N':=["_law_row","_law_name"]) b (K6 S) (by decide+kernel) (PR T<|xA (xO x3)<|xA (xO<|ll ⟨kQ⟩ xV<|xO x3) BD) λ_ _ _ _ _ _ b=>⟨gN b,f1<|tW<|MM (Cb ⟨uP d⟩ xV xV)<|Fc<|Cb ⟨uP d⟩ (xO<|zD xV) xV,λ_=>bE xW⟩)<|s1 (sE<|Zq xV<|by exact xC (N':=["_law_row","_law_sign"]) (K6 S) (by decide+kernel) (iS<|xB T H ⟨nJ g⟩<|xA (xO<|ll ⟨kQ⟩ xV<|xO<|by exact xC (N':=["_law_name"]) (K6 S) (by decide+kernel) (iS xW) λ_ _ _ _ _ _ b=>⟨gN b,f0,λ_=>bE (zD xV)⟩) BD) λ_ _ _ _ _ _ b=>⟨gN b,f0,λ_=>bE<|ll ⟨kQ⟩ xV<|xO<|ng<|xL xW D5⟩) s0)<|s1 (sS b xW) s0)<|s1 (PJ λh=>absurd (e _ h)<|by decide) s0)
abbrev pM:Stmt:=top 46
abbrev A5(Z:ZZ)(k:Nat):Prop:=Oz Z k "_law_same" ["_law_found","_law_due"] (je RD)
def zy:Lv "_law_same" pM ["_law_found","_law_due"]:=λ_ _ _ _ _ _=>N2 λ_=>N2 λ_=>NO H
def abS{c:Cn}(a:Fz Z.K Z.mg "_law_same" pM)(T:Tx Z.mg)(h:Oz Z k "_law_same" ["_law_found","_law_due"] c):Oz Z (k+1) "_law_same" ["_law_found","_law_due"] (Cg 2 2 []<|kn c):=by have S:AY ["_law_found","_law_due"] ["_law_found","_law_due"] (iI pM):=Fh;refine PL (asg:=[]) (fs:=kn c) a S zy λf i A e s U E L j g b m l n d=>?_;exact(s1 (sI (BV<|xI2 T H H xV) (s1 (sI (tW<|Nn (Cb ⟨pT b⟩ (xO<|xI T H xV)<|xO<|xI T H xV)<|Qq<|Cb ⟨pT b⟩ (xO<|xI T H xV)<|xO<|xI T H xV) (s1 (sR x2) s0) s0)<|s1 (sR<|ME (Ke ⟨ny b⟩ (xO<|xB T H ⟨lN⟩<|xA xV BD)<|xO<|xB T H ⟨lN⟩<|xA xV BD)<|Nj<|xB T H ⟨zc H⟩<|xA (xO<|by exact xC (N':=["_law_one","_law_other"]) (K6 S) (by decide+kernel) (iZV T xV xV) λ_ _ _ _ _ _ d=>⟨gT (gN d)<|gN d,f0,λ_=>bE<|xU h g<|xA xV<|xA xV BD⟩) BD) s0) s0)<|s1 (sR<|ME (Ke ⟨ny b⟩ xV xV)<|Nj<|Ke ⟨ny b⟩ (xO<|xI T H xV)<|xO<|xI T H xV) s0)
theorem zk(a:Fz Z.K Z.mg "_law_same" pM)(T:Tx Z.mg): ∀m,Oz Z m "_law_same" ["_law_found","_law_due"] (je m)
 |0=>oz0 a zy
 |m+1=>abS a T<|zk a T m
abbrev ma:Stmt:=top 47
def abm:Lv "_law_refused" ma ["_law_call"]:=λ_ _ _ _ _ _=>N2 λ_=>NO H
abbrev vJ(Z:ZZ)(k:Nat):Prop:=Rf Z ma ["_law_call","_law_error","e","_law_sorts","_law_words"] "_law_refused" "_law_call" "RiddleError" "_law_error" "e" 1 2 k [1,2,3,4] (lb CT BQ) (λz=>BQ.lookup z)
def aa8{CR:Nat}(a:Fz Z.K Z.mg "_law_refused" ma)(T:Tx Z.mg)(b:Hr Z.K Z.mg CT BQ CR):vJ Z k:=by
 have S:AY ["_law_call","_law_error","e","_law_sorts","_law_words"] ["_law_call"] (iI ma):=Fh;obtain⟨f,g,m,F⟩:=a;refine⟨f,g,CR,F,F.binds abm,m,λX i=>?_,b.ci⟩;subst i;refine⟨S,by decide,rfl,rfl,by decide,by decide,rfl,rfl,rfl,rfl,b.re,by decide,_,_,_,_,_,_,_,_,_,_,_,rfl,λe A d s U L n j=>?_⟩;have c:=S.nd;have o:=j.un;have l:un (A.deeper<|aR "_law_refused" (iI ma) s.heap.objs.size f e) 60:=by unfold un;omega
 refine⟨rfl,rfl,QS.h (show QS _ _ _ _ _ _ from(sS c x1)),QQ.h (show QQ _ _ _ _ _ (lb CT BQ) from(s1 (sI (Cb ⟨NV⟩ xV<|xO x1) (s1 (sR x1) s0) s0)<|s1 (sS c<|qe<|xL (xE T (b.t "NoName") xV)<|xL (xE T (b.t "NoBit") xV)<|xL (xE T (b.t "NoTurning") xV) D5)<|s1 (sS c<|ll ⟨kQ⟩ xV<|xO<|qe<|xL (xE T (b.t "NoAnswer") xV)<|xL (xE T (b.t "NoNumber") xV)<|xL (xE T (b.t "NoClause") xV) D5)<|s1 (sS c<|ll ⟨kQ⟩ xV<|xO<|qe<|xL (xE T (b.t "NoPutting") xV)<|xL (xE T (b.t "TooMany") xV)<|xL (xE T (b.t "NoRiddle") xV) D5)<|s1 (sE<|Kf xV<|xE T (b.t "BadNote") xV)<|s1 (sI (tW<|Nn (KR<|BV<|xEV T b.vm b.v xV)<|Qq<|Cb ⟨pT l⟩ (xO<|Zj b.su<|xA (xO<|by exact xC (N':=["_law_kind"]) (K6 S) (by decide+kernel) (iSV xV) λ_ _ _ _ _ _ c=>⟨gN c,f0,λ_=>bE<|xT T H ⟨Dd⟩ (xA xV BD)⟩) BD)<|xO x3) (s1 (sR x4) s0) s0)<|s1 (sS c<|qe<|xL x4<|xL x4<|xL x4<|xL x4<|xL x4 (xL x4 (xL x4 (xL x4 (xL x4 (xL x4 D5))))))<|s1 (sR<|F2 xV<|xO<|Zp xV) s0))⟩
abbrev rV:Stmt:=top 48
abbrev xp(Z:ZZ)(k:Nat):Prop:=Oz Z k "_law_others" ["_law_state_here","_law_riddle"] qF
def abg(a:Fz Z.K Z.mg "_law_others" rV)(T:Tx Z.mg)(d:qz Z k)(g:yT Z k)(n:oM Z k)(i:nW Z k)(j:lJ Z k):xp Z (k+1):=by have S:AY ["_law_state_here","_law_riddle","_law_names","_law_clauses","_law_found","_law_at","_law_bent"] ["_law_state_here","_law_riddle"] (iI rV):=Fh;refine HE a S λf q A e s U E L l b m r o p c=>?_;exact(s1 (sT xW<|gT (gN c)<|gN c)<|s1 (sS c<|qe<|xL (xU g b<|xA xV<|xA (xO<|xU d b<|xA xV<|xA xV BD) BD)<|xL (xU n b<|xA xV<|xA xV BD) D5)<|s1 (sI (Cb ⟨pT m⟩ xV<|xO<|ng D5) (s1 (sS c<|xU i b<|xA xV<|xA (xO<|xB T H ⟨lN⟩<|xA xV BD) BD)<|s1 (sS c<|xU j b<|xA (xO<|F2 xV xV)<|xA (xO<|xU d b<|xA xV<|xA xV BD) BD)<|s1 (sE<|Kf xV<|ng<|xL xW<|xL (xT T H ⟨lO⟩<|xA (xO<|xB T H ⟨abM H o⟩<|xA (xO<|xT T H ⟨adI H p⟩ (xA (xO (ll ⟨kQ⟩ (xO (ll ⟨kQ⟩ (xO (T6 xV xV)) (xO (ng (xL xW D5))))) (xO (Zk xV (xO (ll ⟨kQ⟩ xV (xO x3))))))) BD)) BD) BD) D5)<|s1 (sE<|Kf xV<|xU g b<|xA (xO<|F2 xV<|xO<|zD<|xO x3)<|xA (xO<|xU d b<|xA xV<|xA xV BD) BD) s0) s0)<|s1 (sE<|Kf xV<|ng<|xL (xB T H ⟨BI H⟩<|xA (xO<|ll ⟨kQ⟩ xV<|xO x3)<|xA (xO x3) BD)<|xL xW D5)<|s1 (PJ λh=>absurd (l _ h)<|by decide) s0)
abbrev pO:Stmt:=top 49
abbrev uk(Z:ZZ)(k:Nat):Prop:=Oz Z k "_law_leads_to" ["_law_riddle","_law_there","_law_turning_here"] oQ
def zH(a:Fz Z.K Z.mg "_law_leads_to" pO)(T:Tx Z.mg)(c:lJ Z k):uk Z (k+1):=by have S:AY ["_law_riddle","_law_there","_law_turning_here","_law_clause_here"] ["_law_riddle","_law_there","_law_turning_here"] (iI pO):=Fh;refine HE a S λf h A b s U E L i d j l e m g=>?_;exact(s1 (sF (iS<|F2 xV<|xO x3) (gN g)<|s1 (sI (Cb ⟨AW e⟩ (xO<|xU c d<|xA xV<|xA xV BD) xV) (s1 (sR x2) s0) s0) s0)<|s1 (sR x2) s0)
abbrev ud:Stmt:=top 50
abbrev zo(Z:ZZ)(k:Nat):Prop:=Oz Z k "_law_right" ["_law_riddle","_law_other","_law_turnings_here"] mF
def abU(a:Fz Z.K Z.mg "_law_right" ud)(T:Tx Z.mg)(l:Z.mg "dict"=C)(b:uk Z k)(j:Eo Z k)(h:A5 Z k):zo Z (k+1):=by have S:AY ["_law_riddle","_law_other","_law_turnings_here","_law_due","_law_there","_law_turning_here"] ["_law_riddle","_law_other","_law_turnings_here"] (iI ud):=Fh;refine HE a S λf m A e s U E L n d g o i p c=>?_;exact(s1 (sS c x1)<|s1 (sS c<|Zr i l<|xA (xO<|by exact xC (N':=["_law_clause_here"]) (K6 S) (by decide+kernel) (iS<|F2 xV<|xO x3) λ_ _ _ _ _ _ c=>⟨gN c,f0,λ_=>bE<|ng<|xL xW<|xL x2 D5⟩) BD)<|s1 (sI (tW<|MM (Cb ⟨ny g⟩ (xO<|F2 xV<|xO x3)<|xO<|F2 xV<|xO x3)<|Fc<|Cb ⟨ny g⟩ (xO<|xB T H ⟨lN⟩<|xA (xO<|F2 xV<|xO x3) BD)<|xO<|xB T H ⟨lN⟩<|xA (xO<|F2 xV<|xO x3) BD) (s1 (sF (iS xW) (gN c)<|s1 (sI (tW<|MM (Cb ⟨NV⟩ xV<|xO x1)<|Fc<|BV<|xU b d<|xA xV<|xA xV<|xA xV BD) (s1 (sS c xW) s0) s0) s0) s0) s0)<|s1 (sR<|xU h d<|xA (xO<|xU j d<|xA xV<|xA xV BD)<|xA xV BD) s0)
noncomputable abbrev IV:Stmt:=top 51
def Wd:Lv "law" IV ["_law_script"]:=λ_ _ _ _ _ _=>N2 λ_=>NO H
def Vk{f c:iE}{I:mI}(F:KY Z.K "law" "law" IV f I)(M:I.code= .ref c)(J:PySem.W.CodeHd Z.base c 352)(G:Z.base.BuiltinsAt Z.mg 352)(T:Tx Z.mg)(y:Eo Z k)(l:xo Z k)(r:zm Z k)(v:nW Z k)(a:oM Z k)(e:ui Z k)(i:xp Z k)(p:zo Z k)(x:yT Z k)(u:A5 Z k)(g:vJ Z k)(m:wV Z k):Eg Z.P Z.w Z.K Z.mg Z.base Im (k+3) f I ["_law_script"] (spT TB83<|Ko Z.K vP):=by have S:AY ["_law_script","_law_k","_law_state_here","_law_names","_law_riddle","_law_turnings_here","_law_other","_law_every"] ["_law_script"] (iI IV):=Fh;have Q:=y.up (j:=k+2) (by omega);have b:=l.up (j:=k+2) (by omega);have o:=r.up (j:=k+2) (by omega);have C:=v.up (j:=k+2) (by omega);have N:=a.up (j:=k+2) (by omega);have d:=e.up (j:=k+2) (by omega);have h:=i.up (j:=k+2) (by omega);have n:=p.up (j:=k+2) (by omega);have D:=x.up (j:=k+2) (by omega);have U:=u.up (j:=k+2) (by omega);refine aaE (q:="law.<locals>.<lambda>") (asg:=[1,2,3,4,5,6,7]) (fs:=Bm) F M J G (by decide) (by decide) S λf V A O s _ E L X t B j9 Y l3 z R=>?_;exact(s1 (sI (tW<|Nn (Cb ⟨pT B⟩ (xO<|xU Q t<|xA (xO<|ng<|xL x3<|xL (ng D5) D5)<|xA (xO<|ng<|xL x3<|xL (ng D5) D5) BD)<|xO<|ng D5)<|Nn (Cb ⟨ac0⟩ (xO<|xU Q t<|xA (xO<|ng<|xL x3<|xL (ng D5) D5)<|xA (xO<|ng<|xL x3<|xL (ng D5) D5) BD)<|xO x1)<|Qq<|Cb ⟨pT B⟩ (xO<|xU b t<|xA (xO<|ng<|xL x3<|xL (ng D5) D5) BD)<|xO<|ng<|xL x3<|xL (ng D5) D5) (s1 (sR x2) s0) s0)<|s1 (sF (PU T<|xA (xO<|xB T AU ⟨acJ AU⟩<|xA (xO x3)<|xA (xO<|xB T AU ⟨BI AU⟩<|xA (xO<|xB T AU ⟨lN⟩<|xA xV BD)<|xA (xO x3) BD) BD) BD) (gN z)<|s1 (sS z<|xU o t<|xA xV<|xA xV BD)<|s1 (sS z<|F2 (xO<|qe<|xL (xU C t<|xA xV<|xA (xO x3) BD)<|xL x3<|xL x3<|xL x3 D5)<|xO<|xU C t<|xA xV<|xA (xO x3) BD)<|s1 (sI (tW<|MM (Cb ⟨ny B⟩ xV<|xO x3)<|Fc<|Cb ⟨ny B⟩ (xO<|xU C t<|xA xV<|xA (xO x3) BD)<|xO x3) (s1 (sS z x3) s0) s0)<|s1 (sS z<|xU N t<|xA xV<|xA xV BD)<|s1 (sI (Cb ⟨ny B⟩ xV<|xO x3) (s1 (sS z<|ng<|xL x3<|xL (T6 (xO<|F2 xV<|xO x3)<|xO x3) D5) s0) s0)<|s1 (sS z<|xU d t<|xA xV BD)<|s1 (sF (iS<|xU h t<|xA xV<|xA xV BD) (gN z)<|s1 (sI (KR<|BV<|xU n t<|xA xV (xA xV (xA xV BD))) (s1 (sR x2) s0) s0) s0)<|s1 (sI (Cb ⟨rZ (.inl AU) B⟩ xV<|xO x3) (s1 (sC (N':=["_law_riddle","_law_one"]) z (K6 S) (by decide+kernel) (iS xW) λ_ _ _ _ _ _ z=>⟨gN z,f0,λ_=>bE<|xU D t<|xA xV<|xA xV BD⟩)<|s1 (sI (KR<|BV<|xU U t (xA (xO (xU b t (xA xV BD))) (xA (xO (xB T AU ⟨Dc AU Y⟩ (xA xV BD))) BD))) (s1 (sR x2) s0) s0) s0) s0)<|s1 (sI (Cb ⟨pT B⟩ (xO<|Zm (N':=["_law_state_here"]) g R t (K6 S) (by decide+kernel) λ_ _ _ _ _ _ _ _ t=>zCO adW m t<|xA (xO (xU a t (xA xV (xA (xO x3) BD)))) BD)<|xO x4) (s1 (sR x2) s0) s0) s0)<|s1 (sR x2) s0)
end
def all_mk{l:PySem.W.OpenLaw}{w:iW}{K:jb}{a:ly}{fa:iE}(gP:a "law"=A7 (.ref fa))(T:Tx a)
  (a0:Fz K a "is_whole" wC)
  (a1:Fz K a "is_number" ue)
  (a2:Fz K a "is_name" yL)
  (a3:Fz K a "is_sign" yK)
  (a4:Fz K a "check_few_names" lr)
  (a5:Fz K a "is_turning" rX)
  (a6:Fz K a "check_turning" oJ)
  (a7:Fz K a "led_sign" wA)
  (a8:Fz K a "led_clause" rT)
  (a9:Fz K a "led" Na)
  (N:Fz K a "all_signs" uf)
  (U:Fz K a "longer_by_one" oG)
  (Y:Fz K a "leading_among" oH)
  (a13:Fz K a "all_leading" qx)
  (a14:Fz K a "likenesses" rR)
  (a15:Fz K a "alike" Eb)
  (a16:Fz K a "all_turnings" pP)
  (j:Fz K a "least_name" nv)
  (a18:Fz K a "_law_cell_at" qw)
  (a19:Fz K a "_law_state" uc)
  (a20:Fz K a "_law_take" wB)
  (a21:Fz K a "_law_turning" qv)
  (a22:Fz K a "_law_led_sign" pN)
  (a23:Fz K a "_law_clause" rW)
  (a24:Fz K a "_law_led_clause" nV)
  (a25:Fz K a "_law_led" yJ)
  (a26:Fz K a "_law_riddle_of" oI)
  (a27:Fz K a "_law_turnings" pL)
  (a28:Fz K a "_law_same" pM)
  (a29:Fz K a "_law_refused" ma)
  (a30:Fz K a "_law_others" rV)
  (a31:Fz K a "_law_leads_to" pO)
  (a32:Fz K a "_law_right" ud)
  (m:Om K a "law" IV 352)
  (u7:a "dict"=AX)
  (r:Hr K a CT BQ 24)
  (g8: ∃t,a "FEW_NAMES"=A7 (.int 4 t))
  : ∃q:mI,(∀(s:iJ) (v:iN),f5 s q ⟨[v],[]⟩ [("_law_script",v)])/\(∀p∈TB83,∃c,PySem.W.codeHdIn K c p.1=B8)/\ ∀base:iX,K.In base->base.Ns aj a->(∀p∈TB83,base.BuiltinsAt a p.1)->Eg l.prog w K a base Im 12 fa q ["_law_script"] (spT TB83<|Ko K vP):=by
 obtain⟨q,c,F,hc,hC,hb⟩:=aaA m gP Wd;refine⟨q,hb,aC m.cd<|aN,λbase KB _ V=>?_⟩
 let z:ZZ:=⟨l.prog,w,K,a,base⟩
 have D:=ab3 (Z:=z) (k:=0) a0 T;have X:=abV (Z:=z) (k:=1) a1 T D.up;have O2:=aco (Z:=z) (k:=2) a2 T X.up;have O3:=acn (Z:=z) (k:=3) a3 T D.up O2.up;have P:=wI (Z:=z) (k:=0) a4 T g8;have Y4:=wx (Z:=z) (k:=0) a4 T r g8;have O5:=abi (Z:=z) (k:=4) a5 T O3.up;have O6:=yS (Z:=z) (k:=5) a6 T O5.up;have O7:=ab1 (Z:=z) (k:=0) a7 T;have R:=abq (Z:=z) (k:=1) a8 T O7.up;have S:=Vj (Z:=z) (k:=6) a9 T O6.up R.up;have u:=abW (Z:=z) (k:=0) N T;have x:=yP (Z:=z) (k:=1) U T u.up;have y:=yQ (Z:=z) (k:=2) Y T x.up R.up;have b:=aa3 (Z:=z) (k:=3) a13 T y.up;have A:=abp (Z:=z) (k:=4) a14 T b.up;have d:=aer (Z:=z) (k:=4) a15 T b.up;have e:=zJ (Z:=z) (k:=5) a16 T A.up;have B:=abr (Z:=z) (k:=7) j T P.up e.up S.up;have M:=abn (Z:=z) (k:=7) j T r P.up e.up S.up Y4.up;have C:=aa9 (Z:=z) (k:=0) a18 T;have E:=abT (Z:=z) (k:=1) a19 T C.up;have n:=ab2 (Z:=z) (k:=0) a20 T;have f:=aa7 (Z:=z) (k:=1) a21 T n.up;have H:=zG (Z:=z) (k:=0) a22 T;have I:=abh (Z:=z) (k:=1) a23 T n.up;have o:=xl (Z:=z) (k:=1) a24 T H.up;have g:=acm (Z:=z) (k:=2) a25 T o.up;have h:=yR (Z:=z) (k:=2) a26 T n.up I.up f.up o.up;have L:=zF (Z:=z) (k:=0) a27 T;have i:=zk (Z:=z) a28 T RD;have O:=aa8 (Z:=z) (k:=9) a29 T r;have Q:=abg (Z:=z) (k:=3) a30 T f.up g.up h.up n.up o.up;have G:=zH (Z:=z) (k:=2) a31 T o.up;have J:=abU (Z:=z) (k:=8) a32 T u7 G.up d.up i.up;exact Vk (Z:=z) (k:=9) F hc (PySem.W.codeHd_of_K KB hC) (V _ jY) T d.up B.up E.up n.up h.up L.up Q.up J.up g.up i.up O M.up
end K83
namespace PV
open L2 PX
@[simp] theorem aad(d:D)(δ:Dn):fC d δ=J ((d,Y),δ):=rfl
@[simp] theorem UB(f:F)(δ:Dn):iL f δ=(f δ).bind λp=>J (.val p.1,p.2):=rfl
@[simp] theorem Y1(x:D×Bool)(a:Dn):iG 0 (J x::a)=J (.slot 0,J x::a):=rfl
@[simp] theorem Y0(a:Sl)(x:D×Bool)(b:Dn):iG 1 (a::J x::b)=J (.slot 1,a::J x::b):=rfl
@[simp] theorem YZ(a b:Sl)(x:D×Bool)(c:Dn):iG 2 (a::b::J x::c)=J (.slot 2,a::b::J x::c):=rfl
@[simp] theorem YY(a b c:Sl)(x:D×Bool)(d:Dn):iG 3 (a::b::c::J x::d)=J (.slot 3,a::b::c::J x::d):=rfl
@[simp] theorem YX(a b c d:Sl)(x:D×Bool)(e:Dn):iG 4 (a::b::c::d::J x::e)=J (.slot 4,a::b::c::d::J x::e):=rfl
@[simp] theorem YW(a b c d e:Sl)(x:D×Bool)(f:Dn):iG 5 (a::b::c::d::e::J x::f)=J (.slot 5,a::b::c::d::e::J x::f):=rfl
@[simp] theorem YV(a b c d e f:Sl)(x:D×Bool)(g:Dn):iG 6 (a::b::c::d::e::f::J x::g)=J (.slot 6,a::b::c::d::e::f::J x::g):=rfl
@[simp] theorem YU(a b c d e f g:Sl)(x:D×Bool)(h:Dn):iG 7 (a::b::c::d::e::f::g::J x::h)=J (.slot 7,a::b::c::d::e::f::g::J x::h):=rfl
@[simp] theorem YT(a b c d e f g h:Sl)(x:D×Bool)(i:Dn):iG 8 (a::b::c::d::e::f::g::h::J x::i)=J (.slot 8,a::b::c::d::e::f::g::h::J x::i):=rfl
@[simp] theorem Nk(δ:Dn)(r:D×Bool):res δ (.val r)=J r.1:=rfl
@[simp] theorem Z0(x:D×Bool)(a:Dn):res (J x::a) (.slot 0)=J x.1:=rfl
@[simp] theorem ZY(a:Sl)(x:D×Bool)(b:Dn):res (a::J x::b) (.slot 1)=J x.1:=rfl
@[simp] theorem ZX(a b:Sl)(x:D×Bool)(c:Dn):res (a::b::J x::c) (.slot 2)=J x.1:=rfl
@[simp] theorem ZW(a b c:Sl)(x:D×Bool)(d:Dn):res (a::b::c::J x::d) (.slot 3)=J x.1:=rfl
@[simp] theorem ZV(a b c d:Sl)(x:D×Bool)(e:Dn):res (a::b::c::d::J x::e) (.slot 4)=J x.1:=rfl
@[simp] theorem ZU(a b c d e:Sl)(x:D×Bool)(f:Dn):res (a::b::c::d::e::J x::f) (.slot 5)=J x.1:=rfl
@[simp] theorem ZT(a b c d e f:Sl)(x:D×Bool)(g:Dn):res (a::b::c::d::e::f::J x::g) (.slot 6)=J x.1:=rfl
@[simp] theorem ZS(a b c d e f g:Sl)(x:D×Bool)(h:Dn):res (a::b::c::d::e::f::g::J x::h) (.slot 7)=J x.1:=rfl
@[simp] theorem ZR(a b c d e f g h:Sl)(x:D×Bool)(i:Dn):res (a::b::c::d::e::f::g::h::J x::i) (.slot 8)=J x.1:=rfl
@[simp] theorem aaa(g:D->Option (D×Bool))(a:FO)(b:Dn):lL g a b=(a b).bind λp=>(res p.2 p.1).bind λx=>(g x).bind λz=>J (z,p.2):=rfl
@[simp] theorem Z9(g:D->D->Option (D×Bool))(a b:FO)(c:Dn):iZ g a b c=(a c).bind λp=>(b p.2).bind λq=>(res q.2 p.1).bind λx=>(res q.2 q.1).bind λy=>(g x y).bind λz=>J (z,q.2):=rfl
@[simp] theorem XH(a:Dn):kO [] a=J ([],a):=rfl
@[simp] theorem Y6(f:FO)(fs:List FO)(a:Dn):kO (f::fs) a=(f a).bind λp=>(kO fs p.2).bind λq=>J (p.1::q.1,q.2):=rfl
@[simp] theorem QN(a:Dn):uZ a []=J []:=rfl
@[simp] theorem UA(a:Dn)(o:Cm)(os:List Cm):uZ a (o::os)=(res a o).bind λd=>(uZ a os).bind λl=>J (d::l):=rfl
@[simp] theorem Y5(g:List D->Option (D×Bool))(fs:List FO)(a:Dn):jq g fs a=(kO fs a).bind λp=>(uZ p.2 p.1).bind λb=>(g b).bind λz=>J (z,p.2):=rfl
@[simp] theorem YS:qu []=J []:=rfl
@[simp] theorem ZI(r:D×Bool)(os:List Cm):qu (.val r::os)=(qu os).map (r.1:: ·):=rfl
@[simp] theorem UD(fs:List F)(b:Dn):nh fs b=(kO (fs.map iL) b).bind λp=>(qu p.1).bind λa=>if (A0 a)<=sizeLine then J ((.tup a,Y),p.2) else C:=rfl
@[simp] theorem aac(fs:List F)(b:Dn):nC fs b=(kO (fs.map iL) b).bind λp=>(qu p.1).bind λa=>if (A0 a)<=sizeLine then J ((.lst a,I),p.2) else C:=rfl
@[simp] theorem aaW(b o:Bool)(a:Dn):Lu ((.bl b,o),a)=J (b,a):=rfl
@[simp] theorem aa2(f:F)(a:Dn):fT f a=(f a).bind Lu:=rfl
@[simp] theorem Y7(f g:FT)(a:Dn):pZ f g a=(f a).bind λp=>if p.1=I then g p.2 else J (Y,p.2):=rfl
@[simp] theorem Z8(f g:FT)(a:Dn):Ge f g a=(f a).bind λp=>if p.1=I then J (I,p.2) else g p.2:=rfl
@[simp] theorem Y3(f:FT)(a:Dn):vO f a=(f a).bind λp=>J (!p.1,p.2):=rfl
@[simp] theorem Nl(f g:F)(a:Dn):EJ f g a=(f a).bind λp=>(Lu p).bind λq=>if q.1=I then g q.2 else J ((.bl Y,Y),q.2):=rfl
@[simp] theorem aaU(f g:F)(a:Dn):fOr f g a=(f a).bind λp=>(Lu p).bind λq=>if q.1=I then J ((.bl I,Y),q.2) else g q.2:=rfl
@[simp] theorem aab(f:F)(a:Dn):VV f a=(f a).bind λp=>(Lu p).bind λq=>J ((.bl (!q.1),Y),q.2):=rfl
@[simp] theorem XG(t:FT)(f g:F)(a:Dn):Lq t f g a=(t a).bind λp=>if p.1=I then f p.2 else g p.2:=rfl
@[simp] theorem ZP(a:Dn):jk a=J (.nx a):=rfl
noncomputable def nxt(g:FS):Out->Option Out
 | .nx a=>g a
 |o=>J o
@[simp] theorem Z2(g:FS)(a:Dn):nxt g (.nx a)=g a:=rfl
@[simp] theorem Z1(g:FS)(r:D×Bool)(a:Dn):nxt g (.rt r a)=J (.rt r a):=rfl
@[simp] theorem ZN(f g:FS)(a:Dn):iU f g a=(f a).bind (nxt g):=by
 unfold iU
 cases f a with
 |none=>rfl
 |some o=>cases o<;>rfl
@[simp] theorem QM(f:F)(a:Dn):nO f a=(f a).bind λp=>J (.nx p.2):=rfl
@[simp] theorem ZO(f:F)(a:Dn):lz f a=(f a).bind λp=>J (.rt p.1 p.2):=rfl
@[simp] theorem aaN(t:FT)(f g:FS)(a:Dn):FH t f g a=(t a).bind λp=>if p.1=I then f p.2 else g p.2:=rfl
@[simp] theorem ZM(i:Nat)(f:F)(a:Dn):kx i f a=(f a).bind λp=>if i<(A0 p.2) then J (.nx<|p.2.set i<|J p.1) else C:=rfl
@[simp] theorem ZL(b:Tg)(f:F)(c:Dn):QJ b f c=(f c).bind λp=>(b p.1.1 p.2).bind λa=>J (.nx a):=rfl
@[simp] theorem aa1(g:D->Option (D×Bool))(d:D):g1 g [d]=g d:=rfl
@[simp] theorem aa0(g:D->D->Option (D×Bool))(d e:D):g2 g [d,e]=g d e:=rfl
@[simp] theorem XJ(i j:Int):nB (.int i) (.int j)=J (.int<|i+j,Y):=rfl
@[simp] theorem aaM(i j:Int):PX.KN (.int i) (.int j)=J (.int<|i-j,Y):=rfl
@[simp] theorem aaO(i:Int):zO (.int i)=J (.int (-i),Y):=rfl
@[simp] theorem XM(i:Int):Cf (.int i)=J (.int (if i<0 then -i else i),Y):=rfl
@[simp] theorem UC(l:List D):ur (.tup l)=J (.int<|A0 l,Y):=rfl
@[simp] theorem Z5(l:List D):ur (.lst l)=J (.int<|A0 l,Y):=rfl
@[simp] theorem ZK(l:List D):oN (.lst l)=J (.tup l,Y):=rfl
@[simp] theorem ZJ(l:List D):oN (.tup l)=J (.tup l,Y):=rfl
@[simp] theorem Z3(l:List D):Bj (.tup l)=J (.lst l,I):=rfl
@[simp] theorem Z4(l:List D):Bj (.lst l)=J (.lst l,I):=rfl
@[simp] theorem Z7(b:Bool):OU (.bl b)=J (.int (if b then 1 else 0),Y):=rfl
@[simp] theorem Z6(b:Int):OU (.int b)=J (.int b,Y):=rfl
@[simp] theorem aaS(i j:Int):OS (.int i) (.int j)=J (.int (if j>i then j else i),Y):=rfl
@[simp] theorem aaR(i j:Int):JO (.int i) (.int j)=J (.int (if j<i then j else i),Y):=rfl
@[simp] theorem aaT(a:List Ty)(d:D):wM a d=J (.bl<|a.any<|KA d,Y):=rfl
@[simp] theorem Nm(i j:Int):HD (.int i) (.int j)=J (.bl<|i==j,Y):=by unfold HD;rw[iQ<|by simp[D.dep]];simp[D.BY]
@[simp] theorem aaP(i j:Int):Hq (.int i) (.int j)=J (.bl (!(i==j)),Y):=by unfold Hq;rw[iQ<|by simp[D.dep]];simp[D.BY]
@[simp] theorem aaV(i j:Bool):HD (.bl i) (.bl j)=J (.bl<|i==j,Y):=by unfold HD;rw[iQ<|by simp[D.dep]];simp[D.BY]
@[simp] theorem aaQ(i j:Bool):Hq (.bl i) (.bl j)=J (.bl (!(i==j)),Y):=by unfold Hq;rw[iQ<|by simp[D.dep]];simp[D.BY]
@[simp] theorem aaX(i j:Int):uv .Lt (.int i) (.int j)=J (.bl<|decide<|i<j,Y):=by simp[uv,mH,mv,D.dep]
@[simp] theorem aaY(i j:Int):uv .LtE (.int i) (.int j)=J (.bl<|decide<|i<=j,Y):=by simp[uv,mH,mv,D.dep]
@[simp] theorem XF(i j:Int):uv .Gt (.int i) (.int j)=J (.bl<|decide<|i>j,Y):=by simp[uv,mH,mv,D.dep]
@[simp] theorem aaZ(i j:Int):uv .GtE (.int i) (.int j)=J (.bl<|decide<|i>=j,Y):=by simp[uv,mH,mv,D.dep]
@[simp] theorem Jb(f:F)(δ:Dn):kM f δ=(f δ).bind λp=>match p.1.1 with| .lst l=>J (l,p.2)| .tup l=>J (l,p.2)|_=>C:=rfl
@[simp] theorem ZQ(b:Fi)(c:Tg)(a:FS)(d:Dn):tu b c a d=(b d).bind λp=>oy c a p.1 p.2:=rfl
@[simp] theorem uN(a:Dn):kr a=J (I,a):=rfl
@[simp] theorem rY(f:F)(a:List D)(b:Dn):kd f a b=(f b).bind λp=>if (A0 a)<sizeLine then J (a++[p.1.1],p.2) else C:=rfl
def pd(h:n<=10000):n<=sizeLine:=by rw[jQ];lia
def uL(h:n<=10000):n<sizeLine:=by rw[jQ];lia
noncomputable abbrev enc(t:iR):D×Bool:=(.tup<|t.map .int,Y)
noncomputable abbrev ii(n:Int):Sl:=J (.int n,Y)
noncomputable abbrev eN(t:iR):Sl:=J<|enc t
noncomputable abbrev pI(n:Int):D×Bool:=(.int n,Y)
noncomputable abbrev pS(a:Int)(b:Bool):D×Bool:=(.lst [.int a,.bl b],I)
def Lh(i:Nat):([i]:List Nat).Nodup:=by simp
noncomputable abbrev BH(a:Int)(b:Bool):Sl:=J (.lst [.int a,.bl b],I)
noncomputable abbrev Ck(l:iR):Sl:=J (.lst<|l.map .int,I)
@[simp] theorem Y2(b:Cn)(fs:List FO)(c:Dn):jg b fs c=(kO fs c).bind λp=>(km p.2 p.1).bind λa=>if(jm p.1 a).Nodup then(b a).bind λq=>J (q.1,wb p.1 a q.2 p.2) else C:=rfl
@[simp] theorem CB(δ:Dn):km δ []=J []:=rfl
@[simp] theorem XI(b:Dn)(o:Cm)(os:List Cm):km b (o::os)=(vT b o).bind λa=>(km b os).bind λl=>J (a::l):=rfl
@[simp] theorem aae(a:Dn)(r:D×Bool):vT a (.val r)=J (r.1,Y):=rfl
@[simp] theorem aaf(a:Dn)(i:Nat):vT a (.slot i)=(a[i]?).join:=rfl
def uK(a:Int)(b:Bool)(m:Int)(c:0<m)(d:m<1073741824):
  ∃v e,0<=v/\v<m/\jS [pS a b,pI m]=J ((.int v,Y),[J (.lst [.int e,.bl b],I),ii m]):=by
 cases b
 .have h1: ∀x:Int, -18446744073709551616<x%2147483647/\x%2147483647<18446744073709551616:=λx=>by lia
  have f: ∀x:Int, -18446744073709551616<x%2147483629/\x%2147483629<18446744073709551616:=λx=>by lia
  simp only[jS,uw];simp[Cg,Ep,KC,Ir,Ce,gI,OW,pW,OQ,wD,qm,jw,jm,wb,Lw,EY,HL,c,d,h1,f];exact⟨GN _ (by lia),GO _ c⟩
 .simp only[jS,uw];simp[Cg,Ep,KC,Ir,Ce,gI,OW,pW,OQ,wD,qm,jw,jm,wb,Lw,EY,HL,c,d];exact⟨GN _ (by lia),GO _ c⟩
theorem mZ(x y:Int):(x==y)=decide (x=y):=rfl
def ux{g:List D->Option (D×Bool)}{fs:List FO}{δ a:Dn}{os:List Cm}{ds:List D}{z:D×Bool}(h1:kO fs δ=J (os,a))(b:uZ a os=J ds)(c:g ds=J z):jq g fs δ=J (z,a):=by unfold jq;rw[h1];simp only[jJ];rw[b];simp only[jJ];rw[c];rfl
def kU(h1:(A0 args)=np/\np<=n/\(args.zipIdx.all λp=>!(p.1.2&&asg.contains p.2))=I)(a:f (args.map J++ac (n-np) C)=J (.rt r δ)):Cg n np asg f args=J (r,jw args δ):=by unfold Cg;rw[iQ h1,a]
def iO(h:f δ=J (.nx δ1)):iU f g δ=g δ1:=by unfold iU;rw[h];rfl
def jN{r}(h:f δ=J (.rt r δ1)):iU f g δ=J (.rt r δ1):=by unfold iU;rw[h];rfl
def lC{r}(h:f δ=J (r,δ1)):lz f δ=J (.rt r δ1):=by unfold lz;rw[h];rfl
def kz{r}(h:f δ=J (r,δ1))(a:i<A0 δ1):kx i f δ=J (.nx<|δ1.set i<|J r):=by unfold kx;rw[h];simp only[jJ];rw[iQ a]
def lu(h:f δ=J ((.bl b,o),δ1)):fT f δ=J (b,δ1):=by unfold fT;rw[h];rfl
def jn{r}(h:f δ=J (r,δ1)):iL f δ=J (.val r,δ1):=by unfold iL;rw[h];rfl
def lG(h1:a δ=J (o1,δ1))(c:b δ1=J (o2,δ2))(d:res δ2 o1=J x)(e:res δ2 o2=J y)(f:g x y=J z):iZ g a b δ=J (z,δ2):=by unfold iZ;rw[h1];simp only[jJ];rw[c];simp only[jJ];rw[d,e];simp only[jJ];rw[f];rfl
def kj{b:Cn}{fs:List FO}{δ δ1:Dn}{os:List Cm}{args:List (D×Bool)}{r:D×Bool}{a:Dn}(h1:kO fs δ=J (os,δ1))(c:km δ1 os=J args)(d:(jm os args).Nodup)(e:b args=J (r,a)):jg b fs δ=J (r,wb os args a δ1):=by unfold jg;rw[h1];simp only[jJ];rw[c];simp only[jJ];rw[iQ d,e];rfl
def Bu(h:f δ=J (b,δ1)):vO f δ=J (!b,δ1):=by unfold vO;rw[h];rfl
def ni(h:t δ=J (Y,δ1)):FH t f g δ=g δ1:=by unfold FH;rw[h];rfl
def qZ(h:t δ=J (I,δ1)):FH t f g δ=f δ1:=by unfold FH;rw[h];rfl
def qD{a b:FO}{δ δ1 δ2:Dn}{c d:Cm}(h1:a δ=J (c,δ1))(e:b δ1=J (d,δ2)):kO [a,b] δ=J ([c,d],δ2):=by simp only[kO];rw[h1];simp only[jJ];rw[e];rfl
def Bw{a:FO}{δ δ1:Dn}{o1:Cm}(h1:a δ=J (o1,δ1)):kO [a] δ=J ([o1],δ1):=by simp only[kO];rw[h1];rfl
def mY(h:a δ=J (ds,δ1)):tu a tg fb δ=oy tg fb ds δ1:=by unfold tu;rw[h];rfl
def acw{os}(h1:b d=J (o1,δ1))(c:kO fs δ1=J (os,a)):kO (b::fs) d=J (o1::os,a):=by simp only[kO];rw[h1];simp only[jJ];rw[c];rfl
def EI{fs:List F}{δ δ1:Dn}{os:List Cm}{ds:List D}(h1:kO (fs.map iL) δ=J (os,δ1))(a:qu os=J ds)(b:(A0 ds)<=sizeLine):nC fs δ=J ((.lst ds,I),δ1):=by unfold nC;rw[h1];simp only[jJ];rw[a];simp only[jJ];rw[iQ b]
def Sn(a:iR)(k:Nat): ∃c,mB [(.lst<|a.map .int,Y),pI k]=J ((.int c,Y),[J (.lst<|a.map .int,Y),ii k]):=by
 by_cases hk:k<A0 a
 .refine⟨a[k],?_⟩;simp[mB,pX,Cg,Ep,KC,Ir,jw,hk]
 .refine⟨0,?_⟩;simp[mB,pX,Cg,jw,hk]
def Ta:OQ (.int 10) (.int 18)=ii 1000000000000000000:=by
 have:EY 10 18:=by unfold EY;decide+kernel
 show((if EY 10 18 then J (D.int (10^(18:Int).toNat)) else C).map λz=>(z,Y))=_;rw[iQ this];rfl
def ad3(d:iR)(k:Nat): ∃a b,nD [(.lst<|d.map .int,Y),pI k]=J ((.lst [.int a,.bl b],I),[J (.lst<|d.map .int,Y),ii k]):=by
 obtain⟨c,e⟩:=Sn d k;by_cases h:c>=1000000000000000000
 .refine⟨c-1000000000000000000,I,?_⟩;simp[nD,sj,Cg,e,jm,wb,Ta,h,jQ,jw]
 .refine⟨c%2147483647,Y,?_⟩;simp[nD,sj,Cg,e,jm,wb,Ta,h,jQ,jw,Ce,gI]
noncomputable def st(n:Nat):List Int:=(au n).map λ(k:Nat)=>(1+(k:Int))
def Uk(n:Nat):(st n).map D.int=jD 1 n:=by simp[st,jD]
noncomputable def vK:Nat->List Int->List Int->List (List Int)
 |0,_,f=>[f]
 |k+1,r,f=>(au<|A0 r).flatMap λv=>vK k (r.eraseIdx v) (f++[r.getD v 0*1])++vK k (r.eraseIdx v) (f++[r.getD v 0* -1])
theorem C4(f:Int->D): ∀(l:iR) (k:Nat),(l.map f).eraseIdx k=(l.eraseIdx k).map f
 |[],k=>by simp
 |x::l,0=>by simp
 |x::l,k+1=>by simp[C4 f l k]
def adC{i:Nat}{f:FO}{a δ1:Dn}{o:Cm}{n l:List D}{k:Int}{j:Nat}{d:D}(b:a[i]?=J (J (.lst n,I)))(h1:f a=J (o,δ1))(c:res δ1 o=J (.int k))(e:δ1[i]?=J (J (.lst l,I)))(g: -(2^63)<=k/\k<2^63)(h:Ir (A0 l) k=J j)(m:l[j]?=J d):
  Bt i f a=J ((d,Y),δ1.set i<|J (.lst<|l.eraseIdx j,I)):=by
 unfold Bt;rw[b];simp only[];rw[h1];simp only[jJ];rw[c,e];simp only[];rw[iQ g,h];simp only[jJ];rw[m];rfl
def pY{i:Nat}{f:F}{δ δ1:Dn}{r:D×Bool}{l0 l:List D}(a:δ[i]?=J (J (.lst l0,I)))(h1:f δ=J (r,δ1))(b:δ1[i]?=J (J (.lst l,I)))(c:(A0 l)<sizeLine):
  mE i f δ=J ((.B7,Y),δ1.set i<|J (.lst<|l++[r.1],I)):=by
 unfold mE;rw[a];simp only[];rw[h1];simp only[jJ];rw[b];simp only[];rw[iQ c]
def pQ{r}(h:f δ=J (r,δ1)):nO f δ=J (.nx δ1):=by unfold nO;rw[h];rfl
noncomputable abbrev K5:F:=W2
abbrev YB:F:=T4
abbrev fbT:FS:=iU (nO<|mE 3<|iZ pW (iL K5)<|iL YB) jk
def UX(a:Int)(b:Bool)(n:Sl)(r f:iR)(x:Sl)(i:0<A0 r)(l:(A0 r)<=5): ∃v c,v<A0 r/\K5 [BH a b,n,Ck r,Ck f,x]=J ((.int<|r.getD v 0,Y),[BH c b,n,Ck<|r.eraseIdx v,Ck f,x]):=by
 obtain⟨v,c,h,hv,e⟩:=uK a b (A0 r) (by lia) (by lia);have d:v.toNat<(A0 r):=by lia
 refine⟨v.toNat,c,d,?_⟩;have g:(Ck (r.eraseIdx v.toNat):Sl)=J (.lst<|(r.map D.int).eraseIdx v.toNat,I):=by rw[C4]
 rw[g];refine adC (k:=v) (δ1:=[BH c b,n,Ck r,Ck f,x]) H (jn (r:=(.int v,Y))<|kj (δ1:=[BH a b,n,Ck r,Ck f,x]) (os:=[.slot 0,.val (.int<|A0 r,Y)]) (args:=[pS a b,pI<|A0 r]) ?_ H (show([0]:List Nat).Nodup from by decide) e) H H ⟨by lia,by lia⟩ (j:=v.toNat) ?_ ?_
 .show J ([Cm.slot 0,Cm.val (D.int ((r.map D.int).length:Nat),Y)],_)=_;rw[jM]
 .unfold Ir;rw[iQ h,iQ<|by simpa using hv]
 .simp[d]
def Up(a:Int)(b:Bool)(n y z x:Sl): ∃s c,(s=1\/s= -1)/\YB [BH a b,n,y,z,x]=J ((.int s,Y),[BH c b,n,y,z,x]):=by obtain⟨v,c,f,hv,e⟩:=uK a b 2 (by lia) (by lia);have d: ∀δ:Dn,nC [fC<|.int 1,Qg] δ=J ((.lst [.int 1,.int (-1)],I),δ):=λδ=>rfl;refine⟨if v=0 then 1 else -1,c,by split<;>simp,?_⟩;refine lG (δ1:=[BH a b,n,y,z,x]) (jn<|d _) (jn (δ1:=[BH c b,n,y,z,x])<|kj (δ1:=[BH a b,n,y,z,x]) (os:=[.slot 0,.val (.int 2,Y)]) (args:=[pS a b,pI 2]) H H (show([0]:List Nat).Nodup from by decide) e) H H ?_;rcases(show v=0\/v=1 by lia) with rfl|rfl<;>rfl
def VP(a:Int)(b:Bool)(n:Sl)(r f:iR)(x:Sl)(j:0<A0 r)(k:(A0 r)<=5)(m:(A0 f)<=5): ∃v s c,v<A0 r/\(s=1\/s= -1)/\fbT [BH a b,n,Ck r,Ck f,x]=J (.nx [BH c b,n,Ck<|r.eraseIdx v,Ck<|f++[r.getD v 0*s],x]):=by
 obtain⟨v,a1,hv,e⟩:=UX a b n r f x j k;obtain⟨s,d,q,g⟩:=Up a1 b n (Ck<|r.eraseIdx v) (Ck f) x;refine⟨v,s,d,hv,q,?_⟩
 have p:pW (.int<|r.getD v 0) (.int s)=ii (r.getD v 0*s):=by have:HL (r.getD v 0) s:= .inr (by lia);show((if HL (r.getD v 0) s then J (D.int<|r.getD v 0*s) else C).map λz=>(z,Y))=_;rw[iQ this];rfl
 have o:(f.map D.int).length<sizeLine:=by rw[jM];exact Gy m (by decide)
 have h:=pY (i:=3) (δ:=[BH a b,n,Ck r,Ck f,x]) (l0:=f.map .int) H (lG (jn e) (jn g) H H p) (l:=f.map .int) H o;refine(iO<|pQ h).trans ?_;simp[jk,Ck]
def Ys(b:Bool)(n:Sl): ∀(c:List D) (a:Int) (r f:iR) (x:Sl),A0 c=A0 r->A0 f+A0 r<=5->
  ∃g t i j,t∈vK (A0 c) r f/\oy (iT 4) fbT c [BH a b,n,Ck r,Ck f,x]=J (.nx [BH g b,n,Ck i,Ck t,j]):=by
 intro p
 induction p with
 |nil=>intro a r f x _ _;exact⟨a,f,r,x,by simp[vK],rfl⟩
 |cons d c o=>
  intro a r f x h w;simp only[lh] at h;apply FL;intro u q;obtain⟨v,s,a1,hv,m,e⟩:=VP a b n r f (J (d,Y)) (by lia) (by lia) (by lia);obtain⟨g,t,i,j,k,l⟩:=o a1 (r.eraseIdx v) (f++[r.getD v 0*s]) (J (d,Y)) (by rw[Dt,iQ hv];lia) (by rw[Dt,iQ hv,mR];simp only[lh,vf];lia);apply q;refine⟨g,t,i,j,?_,?_⟩
  .simp only[lh,vK,E8,sQ,yh];refine⟨v,hv,?_⟩;rcases m with rfl|rfl
   .exact .inl k
   .exact .inr k
  .unfold oy;rw[show iT 4 d [BH a b,n,Ck r,Ck f,x]=J [BH a b,n,Ck r,Ck f,J (d,Y)] from H];simp only[jJ];rw[e];simp only[jJ];exact l
def Uv(n:Nat)(b:n<=5):NU .lst I [.int 1,.int<|(n:Int)+1]=J (.lst<|(st n).map .int,I):=by
 have:n=0\/n=1\/n=2\/n=3\/n=4\/n=5:=by lia
 have h1:HV 1 ((n:Int)+1):=by rcases this with rfl|rfl|rfl|rfl|rfl|rfl<;>decide+kernel
 have a:((n:Int)+1-1).toNat=n:=by lia
 show(if HV 1 ((n:Int)+1) then J (D.lst<|jD 1 ((n:Int)+1-1).toNat,I) else C)=_;rw[iQ h1,a,<-Uk]
def xJ{f:FO}{δ δ1:Dn}{o:Cm}{n:Nat}(h1:f δ=J (o,δ1))(a:res δ1 o=J (.int n))(e:n<=63):HQ f δ=J (jD 0 n,δ1):=by
 have d:(-(2^62)<=(n:Int)/\(n:Int)<2^62):=⟨by lia,by lia⟩
 have b:kO [f] δ=J ([o],δ1):=by simp[kO,h1]
 have c:uZ δ1 [o]=J [.int n]:=by simp[uZ,a]
 unfold HQ;rw[b];simp only[jJ];rw[c];simp only[];rw[iQ d];rfl
def AG(a:Int)(b:Bool)(n:Nat)(f:n<=5): ∃d t,t∈vK n (st n) []/\mz [pS a b,pI n]=J (enc t,[BH d b,ii n]):=by
 have c:(jD 0 n).length=n:=by simp[jD]
 have h:(st n).length=n:=by simp[st]
 obtain⟨d,t,j,k,g,e⟩:=Ys b (ii n) (jD 0 n) a (st n) [] C (by rw[c,h]) (by rw[h];simpa using f);rw[c] at g;refine⟨d,t,g,?_⟩;refine kU (δ:=[BH d b,ii n,Ck j,Ck t,k]) ⟨rfl,by decide,rfl⟩ ?_;refine(iO (δ1:=[BH a b,ii n,Ck<|st n,C,C])<|kz (i:=2) (δ1:=[BH a b,ii n,C,C,C]) (ux (os:=[.val (.int 1,Y),.val (.int<|(n:Int)+1,Y)]) H H<|Uv n f) (show 2<5 by decide)).trans ?_;refine(iO (δ1:=[BH a b,ii n,Ck<|st n,Ck [],C]) H).trans ?_;refine(iO<|(mY<|xJ (o:= .slot 1) H H<|by lia).trans e).trans ?_;exact jN<|lC<|ux (os:=[.slot 3]) H H H
def xY: ∀t:List Int,D.BZ (t.map .int)=0:=by
 intro b
 induction b with
 |nil=>simp[D.BZ]
 |cons s t a=>simp[D.BZ,D.dep,a]
theorem By: ∀a b:List Int,D.D8 (a.map .int) (b.map .int)=decide (a=b)
 |[],[]=>by simp[D.D8]
 |[],_::_=>by simp[D.D8]
 |_::_,[]=>by simp[D.D8]
 |x::a,y::b=>by simp[D.D8,D.BY,By a b,fX,mZ]
@[simp] theorem La(a b:iR):HD (.lst<|a.map .int) (.lst<|b.map .int)=J (.bl<|decide<|a=b,Y):=by unfold HD;rw[iQ<|by simp[D.dep,xY]];simp[D.BY,By]
def Jw: ∀(l m:iR),l.Nodup->(∀x∈l,x∈m)->A0 m<=A0 l->l.Perm m:=by
 intro j
 induction j with
 |nil=>intro m _ _ h;have:m=[]:=SJ.mp (by simpa using h);subst this;exact wa _
 |cons x l i=>
  intro m a c h;rw[yH] at a;have g:=c x jY;have b:=LB g;refine((i (m.erase x) a.2 (λy d=>?_) ?_).cons x).trans b.symm
  .have f:=c y<|jZ _ d;have k:y≠x:=λe=>a.1<|e▸d;exact(GL k).mpr f
  .have:=b.length_eq;simp only[lh] at this h
   lia
def Km:x∈st n↔1<=x/\x<=n:=by
 simp only[st,mw,yh];constructor
 .rintro⟨k,h,rfl⟩;lia
 .rintro⟨h1,a⟩;exact⟨(x-1).toNat,by lia,by lia⟩
def SU(n:Nat):(st n).Pairwise (· < ·):=by simp only[st];rw[oD];exact Wr.imp λh=>by lia
def SV(n:Nat):(st n).Nodup:=(SU n).imp λh=>by lia
def Jk{n:Nat}{l:iR}:l.Perm (st n)↔(A0 l)=n/\(∀x∈l,1<=x/\x<=n)/\l.Nodup:=by
 constructor
 .intro h;refine⟨by rw[h.length_eq];simp[st],λx a=>Km.mp<|h.mem_iff.mp a,h.symm.nodup<|SV n⟩
 .rintro⟨h1,b,c⟩;exact Jw l (st n) c (λx a=>Km.mpr<|b x a) (by simp[st,h1])
def adM(h1:EO (.int i) (.int j)=Y)(c:EO (.int j) (.int i)=Y):i=j:=by
 rw[rh] at h1 c;simp only[cT] at h1 c;by_cases a:i<j
 .simp[a] at h1
 .by_cases b:j<i
  .simp[b] at c
  .lia
def abZ{l:iR}{m:List D}(h:m.Perm (l.map D.int)): ∃k:List Int,m=k.map .int:=by
 refine⟨m.map λd=>match d with|D.int i=>i|_=>0,?_⟩;rw[jP]
 symm
 rw[qf (g:=id),qt];intro d hd;obtain⟨i,_,rfl⟩:=mw.mp<|h.mem_iff.mp hd;rfl
def acb(l:iR):nR (l.map .int)=I:=by
 unfold nR
 cases l with
 |nil=>rfl
 |cons x l=>rw[yo];right;simp only[jU];simp[lK,D.pr,D.dep,show ∀i j:Int,mH .Lt (.int i) (.int j)=J (mv .Lt i j) from λ_ _=>rfl]
def abJ(l:iR)(a:(A0 l)<64):lR (.lst<|l.map .int)=J (.lst<|mK EO<|l.map .int,I):=by simp only[lR,AN,jJ,kN];rw[iQ ⟨acb l,by first|(simpa using a)|(rw[jQ];simp;lia)⟩]
def ado: ∀l:List Int,(∀k,(nU<|l.reverse.map .int).1 k=decide (k∈l.reverse))/\(nU<|l.reverse.map .int).2<=A0 l/\((nU<|l.reverse.map .int).2=(A0 l)↔l.Nodup):=by
 intro e
 induction e with
 |nil=>exact⟨λk=>by simp[nU],by simp[nU],by simp[nU]⟩
 |cons x l d=>
  obtain⟨h1,f,c⟩:=d;rw[List.reverse_cons,qg,jU,rL,Cy];refine⟨λk=>?_,?_,?_⟩
  .dsimp only;rw[h1 k];by_cases a:k∈l.reverse<;>by_cases b:k=x<;>simp_all
  .dsimp only;rw[lh];split<;>lia
  .dsimp only;rw[h1 x,yH];by_cases a:x∈l
   .simp only[dE,a,decide_true,kE,not_true_eq_false,false_and,iff_false,lh];lia
   .simp only[dE,a,decide_false,jK,jX,not_false_eq_true,true_and,lh];rw[<-c];lia
def QE(l:iR):(nU<|l.map .int).2=(A0 l)↔l.Nodup:=by have:=(ado l.reverse).2.2;rw[List.reverse_reverse,Mb,An l |>.nodup_iff] at this;exact this
def D6(pre:Dn)(x:Sl)(d:D):iT (A0 pre) d (pre++[x])=J (pre++[J (d,Y)]):=by unfold iT;rw[iQ<|by simp];simp[ss]
def Wb(f:F)(g:D->D)(pre:Dn): ∀(l a:List D) (x:Sl),(∀d∈l,∃o,f (pre++[J (d,Y)])=J ((g d,o),pre++[J (d,Y)]))->A0 a+A0 l<=sizeLine->
  ∃b,ku (iT<|A0 pre) kr (kd f) l a (pre++[x])=J (a++l.map g,pre++[b]):=by
 intro n
 induction n with
 |nil=>intro a x _ _;exact⟨x,by simp[ku]⟩
 |cons d l m=>
  intro a x h c;obtain⟨o,hd⟩:=h d jY;obtain⟨b,e⟩:=m (a++[g d]) (J (d,Y)) (λi j=>h i<|jZ _ j) (by simp at c ⊢;lia);refine⟨b,?_⟩;have k:(A0 a)<sizeLine:=by simp at c;lia
  rw[ku,D6];simp only[jJ,uN,kE,rY];rw[hd];simp only[jJ];rw[iQ k];simp only[jJ];rw[e];simp
def Wa(f:F)(g:D->Int)(pre:Dn): ∀(l a:List D) (x:Sl),(∀d∈l,∃o,f (pre++[J (d,Y)])=J ((.int<|g d,o),pre++[J (d,Y)]))->A0 a+A0 l<=1000->
  ∃b,ku (iT<|A0 pre) kr (BM f) l a (pre++[x])=J (a++l.map λd=> .int (g d),pre++[b]):=by
 intro n
 induction n with
 |nil=>intro a x _ _;exact⟨x,by simp[ku]⟩
 |cons d l m=>
  intro a x h c;obtain⟨o,hd⟩:=h d jY;obtain⟨b,e⟩:=m (a++[.int<|g d]) (J (d,Y)) (λi j=>h i<|jZ _ j) (by simp at c ⊢;lia);refine⟨b,?_⟩;have p:i9=4096:=rfl;have k:(A0 a)+1<scanBound:=by simp at c;lia
  rw[ku,D6];simp only[jJ,uN,kE,BM];rw[hd];simp only[jJ];rw[iQ k];simp only[jJ];rw[e];simp
def adO(p:D->Bool): ∀l:List D,qr (l.map λd=> .bl (p d))=J (l.map p):=by
 intro b
 induction b with
 |nil=>exact H
 |cons d l a=>simp[qr,a]
def vd(p:D->Bool)(l:List D):EF (.lst<|l.map λd=> .bl (p d))=J (.bl<|l.all p,Y):=by simp[EF,adO,fq,rK]
noncomputable def ab(s:Int):Int:=if s<0 then -s else s
noncomputable def wh:D->Bool
 | .int _=>I
 |_=>Y
noncomputable def sg(n:Int):D->Bool
 | .int s=>decide (1<=ab s)&&decide (ab s<=n)
 |_=>Y
noncomputable def Fo:D->Int
 | .int s=>s
 |_=>0
def wW(d:D):oA [(d,Y)]=J ((.bl<|wh d,Y),[J (d,Y)]):=by
 cases d<;>simp[oA,zu,Cg,jw,wh,KA]
def ac5(d:D)(lo a:Int):nG [(d,Y),(.int lo,Y),(.int a,Y)]=J ((.bl (match d with| .int s=>decide (lo<=s)&&decide (s<=a)|_=>Y),Y),[J (d,Y),J (.int lo,Y),J (.int a,Y)]):=by
 cases d with
 |int s=>by_cases h:lo<=s<;>simp[nG,sv,Cg,jw,wW,wh,jm,wb,Bv,mv,h]
 |_=>simp[nG,sv,Cg,jw,wW,wh,jm,wb]
def Jx(d:D)(n:Int):sy [(.int n,Y),(d,Y)]=J ((.bl (match d with| .int s=>decide (1<=s)&&decide (s<=n)|_=>Y),Y),[J (.int n,Y),J (d,Y)]):=by simp[sy,Bn,Cg,jw,ac5,jm,wb]
def Qz(n:Int)(d:D):oi [pI n,(d,Y)]=J ((.bl<|sg n d,Y),[ii n,J (d,Y)]):=by
 cases d with
 |int s=>simp[oi,wN,Cg,jw,wW,Jx,wh,jm,wb,sg,ab];rfl
 |_=>simp[oi,wN,Cg,jw,wW,Jx,wh,jm,wb,sg,ab]
def Hw(h:sg n d=I):d= .int (Fo d):=by cases d<;>simp_all [sg,Fo]
def Ua(h:wh d=I):d= .int (Fo d):=by cases d<;>simp_all [wh,Fo]
noncomputable def tB(n:Nat):D->Bool
 | .tup l=>decide (A0 l=n)&&(l.all (sg n)&&decide ((l.map λd=>ab<|Fo d).Nodup))
 |_=>Y
noncomputable def lB(n:Nat):D->Bool
 | .tup l=>l.all wh&&decide ((l.map λd=>ab<|Fo d).Perm<|st n)
 |_=>Y
def Xy(n:Nat)(d:D):tB n d=lB n d:=by
 cases d with
 |tup l=>
  rw[tB,lB,Gw];simp only[lA,vo,lY,Jk,jM,mw];constructor
  .rintro⟨h1,a,b⟩;refine⟨λd hd=>?_,h1,?_,b⟩
   .rw[Hw<|a d hd];rfl
   .rintro x ⟨d,hd,rfl⟩;have:=a d hd;rw[Hw this] at this;simpa[sg] using this
  .rintro⟨h1,a,b,c⟩;refine⟨a,λd hd=>?_,c⟩;have:=b _ ⟨d,hd,rfl⟩;rw[Ua<|h1 d hd];simpa[sg] using this
 |_=>rfl
def aa5(n:Nat)(d:D)(hd: ∀l,d= .tup l->A0 l<=60):kY [pI n,(d,Y)]=J ((.bl<|tB n d,Y),[ii n,J (d,Y)]):=by
 cases d with
 |tup l=>
  have i:=hd l H;by_cases h1:(A0 l)=n
  .obtain⟨x1,b⟩:=Wb (jg oi [iG 0,iG 1]) (λd=> .bl (sg n d)) [ii n] l [] C (λd _=>⟨Y,by simp[Qz,jm,wb]⟩) (by rw[jQ];simp;lia);simp only[dL,tK,lh,vf,ek] at b;by_cases a:l.all (sg n)=I
   .have h: ∀d∈l,∃o,jq (g1 Cf) [iG 0] ([]++[J (d,Y)])=J ((.int<|ab<|Fo d,o),([]++[J (d,Y)]:Dn)):=λd hd=>⟨Y,by rw[lY] at a;rw[Hw<|a d hd];rfl⟩
    obtain⟨x2,c⟩:=Wa (jq (g1 Cf) [iG 0]) (λd=>ab<|Fo d) [] l [] C h (by simp;lia);simp only[dL,tK,lh,vf] at c
    have e:(nU<|l.map λd=>D.int<|ab<|Fo d).2=(A0 l)↔(l.map λd=>ab<|Fo d).Nodup:=by have:=QE<|l.map λd=>ab<|Fo d;rw[jP,jM] at this;exact this
    have g:(((nU<|l.map λd=>D.int<|ab<|Fo d).2:Int)==(n:Int))=decide ((l.map λd=>ab<|Fo d).Nodup):=by
     rw[mZ,<-h1];by_cases q:(l.map λd=>ab<|Fo d).Nodup
     .rw[mJ q,e.mpr q];simp
     .rw[lj q];simp only[decide_eq_false_iff_not,Int.natCast_inj];exact λz=>q<|e.mp z
    simp[kY,mV,Cg,KA,h1,jL,uV,kI,b,c,vd,a,jw,jm,wb,tB,g]
   .have f:l.all (sg n)=Y:=by simpa using a
    simp[kY,mV,Cg,KA,h1,jL,uV,kI,b,vd,f,jw,jm,wb,tB]
  .have: ¬(((A0 l):Int)=(n:Int)):=by lia
   simp[kY,mV,Cg,KA,this,h1,jw,jm,wb,tB]
 |_=>simp[kY,mV,Cg,KA,jw,tB]
def OkD(d:D):Prop:= ∀l,d= .tup l->A0 l<=60
def PN{t:iR}{v:Int}(a:0<=v)(h:v<A0 t):Ep (.tup<|t.map .int) (.int v)=ii (t.getD v.toNat 0):=by
 have h1:v.toNat<(A0 t):=by lia
 simp[Ep,KC,Ir,a,h,h1]
def aar{t:iR}{v:Int}(a:0<=v)(h:v<A0 t):Ep (.lst<|t.map .int) (.int v)=ii (t.getD v.toNat 0):=by
 have h1:v.toNat<(A0 t):=by lia
 simp[Ep,KC,Ir,a,h,h1]
def YO(h1:(A0 l)<=1000)(a:(A0 m)<=1000):nB (.tup l) (.tup m)=J (.tup<|l++m,Y):=by simp only[nB];rw[iQ<|by rw[jQ];lia]
def rQ(a:Int)(b:Bool)(m:Int)(j:0<m)(f:m<1073741824): ∃v c,0<=v/\v<m/\ ∀(d:FO) (δ:Dn) (o:Cm),d (BH a b::δ)=J (o,BH a b::δ)->vT (BH a b::δ) o=ii m->jg jS [iG 0,d] (BH a b::δ)=J ((.int v,Y),BH c b::δ):=by
 obtain⟨v,c,g,h1,e⟩:=uK a b m j f;refine⟨v,c,g,h1,λd δ o h i=>?_⟩;refine(kj (os:=[.slot 0,o]) (args:=[pS a b,pI m]) (qD H h) ?_ ?_ e).trans ?_
 .simp[i]
 .cases o<;>simp[jm]
 .cases o<;>simp[wb]
noncomputable def led(u:iR)(s:Int):Int:=if 0<s then u.getD (s-1).toNat 0 else -(u.getD (-s-1).toNat 0)
def Vt(u:iR)(s:Int)(a:s≠0)(h1: -((A0 u):Int)<=s)(b:s<=A0 u):
  oz [enc u,pI s]=J ((.int<|led u s,Y),[eN u,ii s]):=by
 simp only[oz,zt];by_cases h:0<s
 .have:=PN (t:=u) (v:=s-1) (by lia) (by lia);simp only[Cg];simp[h,led,this,jw]
 .have:=PN (t:=u) (v:= -s-1) (by lia) (by lia);simp only[Cg];simp[h,led,this,jw]
def Ya(x:Int):pW (.int x) (.int 1)=ii x:=by have:HL x 1:= .inr (by lia);show((if HL x 1 then J (D.int<|x*1) else C).map λz=>(z,Y))=_;rw[iQ this,Aw];rfl
def X9(x:Int):pW (.int x) (.int (-1))=ii (-x):=by have:HL x (-1):= .inr (by lia);show((if HL x (-1) then J (D.int<|x*(-1)) else C).map λz=>(z,Y))=_;rw[iQ this,Go,Aw];rfl
theorem pm0:Ep (.lst [.int 1,.int (-1)]) (.int 0)=ii 1:=rfl
theorem pm1:Ep (.lst [.int 1,.int (-1)]) (.int 1)=ii (-1):=rfl
def RB(u:iR)(s:Int)(b:s≠0)(h1: -((A0 u):Int)<=s)(c:s<=A0 u):
  lH [enc u,pI s]=J ((.int<|led u s,Y),[eN u,ii s]):=by
 simp only[lH,oZ];by_cases h:0<s
 .have:=PN (t:=u) (v:=s-1) (by lia) (by lia);have a: ¬s<0:=by lia
  simp only[Cg];simp[h,a,led,this,jw,jQ,pm0,Ya]
 .have:=PN (t:=u) (v:= -s-1) (by lia) (by lia);have a:s<0:=by lia
  simp only[Cg];simp[h,a,led,this,jw,jQ,pm1,X9]
def AH(a:Int)(b:Bool)(m:Int)(n:0<m)(i:m<1073741824): ∃v g,0<=v/\v<m/\ ∀(h:FO) (c d:Sl) (f:Dn) (o:Cm),h (c::d::BH a b::f)=J (o,c::d::BH a b::f)->vT (c::d::BH a b::f) o=ii m->jg jS [iG 2,h] (c::d::BH a b::f)=J ((.int v,Y),c::d::BH g b::f):=by
 obtain⟨v,g,j,h1,e⟩:=uK a b m n i;refine⟨v,g,j,h1,λh c d f o k l=>?_⟩;refine(kj (os:=[.slot 2,o]) (args:=[pS a b,pI m]) (qD H k) ?_ ?_ e).trans ?_
 .simp[l]
 .cases o<;>simp[jm]
 .cases o<;>simp[wb]
def Bl(n:Nat)(c:iR):Prop:=c≠[]/\(c.map ab).Pairwise (· < ·)/\ ∀s∈c,1<=ab s/\ab s<=n
def CA(j:Int)(c:iR):Prop:=(c.map ab).Pairwise (· < ·)/\ ∀s∈c,1<=ab s/\ab s<j
def sJ(h:0<=i):ab i=i:=by unfold ab;rw[jc<|by lia]
def EV(h:0<=i):ab (-i)=i:=by unfold ab;split<;>lia
def CA.snoc{j s:Int}{c:iR}(h:CA j c)(h1:ab s=j)(e:1<=j):CA (j+1) (c++[s]):=by
 refine⟨?_,λx a=>?_⟩
 .rw[qg,uC];refine⟨h.1,by simp,λx a y b=>?_⟩;obtain⟨z,d,rfl⟩:=mw.mp a;simp at b;subst b;have:=h.2 z d;lia
 .rcases sQ.mp a with a|a
  .have:=h.2 x a;lia
  .simp at a;subst a;lia
def CA.up(h:CA j c):CA (j+1) c:=⟨h.1,λx a=>by have:=h.2 x a;lia⟩
def acx{i:Nat}{f:F}{a δ1:Dn}{r:D×Bool}{l0 l:List D}(b:a[i]?=J (J (.lst l0,I)))(h1:f a=J (r,δ1))(c:δ1[i]?=J (J (.lst l,I)))(d:(A0 l)<=10000):
  iU (nO<|mE i f) jk a=J (.nx<|δ1.set i<|J (.lst<|l++[r.1],I)):=
 (iO<|pQ<|pY b h1 c<|uL d).trans rfl
def Ex(h1:f δ=J (o1,δ1))(a:g δ1=J (o2,δ2))(b:res δ2 o1=J (.int i))(c:res δ2 o2=J (.int j))(d:0<=i/\i<=1000)(e:0<=j/\j<=1000):zM f g δ=J (jD i (j-i).toNat,δ2):=by unfold zM;rw[qD h1 a];simp only[jJ,UA,QN,b,c];rw[iQ ⟨by lia,by lia,by lia,by lia⟩]
def md(h:f δ=J ((.lst l,o),δ1)):kM f δ=J (l,δ1):=by unfold kM;rw[h];rfl
def HK{b:Type}[BEq b][LawfulBEq b]: ∀(l m:List b),l.Nodup->(∀x∈l,x∈m)->A0 l<=(A0 m):=by
 intro k
 induction k with
 |nil=>intro m _ _;exact lX _
 |cons x l j=>
  intro m a c;rw[yH] at a;have i:=c x jY;have h:=LB i
  have:=j (m.erase x) a.2 (λy d=>by have f:=c y<|jZ _ d;have n:y≠x:=λe=>a.1<|e▸d;exact(GL n).mpr f)
  have g:=h.length_eq;simp only[lh] at g ⊢
  lia
def FA{l:iR}(h:l.Pairwise (· < ·)):l.Nodup:=h.imp λh=>by lia
def Bl.len{n:Nat}{c:iR}(h:Bl n c):(A0 c)<=n:=by
 have:=HK (c.map ab) (st n) (FA h.2.1) (λx b=>by obtain⟨s,a,rfl⟩:=mw.mp b;exact Km.mpr<|h.2.2 s a)
 simpa[st] using this
def TOk(n:Nat)(t:iR):Prop:=A0 t=n/\ ∀x∈t,1<=ab x/\ab x<=n
def pj(i:Int):ab (-i)=ab i:=by unfold ab;split<;>split<;>lia
def mD{l:iR}{k:Nat}(h:k<A0 l):l.getD k 0∈l:=by rw[lW,jx h];exact GD h
def Vu{n:Nat}{t:iR}(b:TOk n t){s:Int}(h1:1<=ab s)(a:ab s<=n):1<=ab (led t s)/\ab (led t s)<=n:=by
 unfold led;unfold ab at h1 a;have c:=b.1;split
 .rename_i h;rw[jc<|by omega] at h1 a;exact b.2 _ (mD<|by omega)
 .rename_i h;rw[pj];split at h1
  .rw[iQ<|by assumption] at a;exact b.2 _ (mD<|by omega)
  .omega
noncomputable abbrev cD(c:iR):D:= .tup (c.map .int)
def Ie(c:iR):D.dep (cD c)=1:=by simp[D.dep,xY]
def Ad: ∀a:List (List Int),D.BZ (a.map cD)<=1:=by
 intro d
 induction d with
 |nil=>simp[D.BZ]
 |cons c a b=>have:=b;simp only[jU,D.BZ,Ie];lia
def Pg(a b:iR):D.BY (cD a) (cD b)=decide (a=b):=by simp[D.BY,By]
def Iq(c:iR): ∀a:List (List Int),(a.map cD).any (λd=>D.BY d<|cD c)=decide (c∈a):=by
 intro f
 induction f with
 |nil=>simp
 |cons x a b=>
  simp only[jU,wo,b,Pg,kW];by_cases h:x=c
  .simp[h]
  .have: ¬c=x:=λe=>h e.symm;simp[h,this]
def ad8(c:iR)(a:jo):qC (cD c) (.lst<|a.map cD)=J (.bl (!decide (c∈a)),Y):=by
 have:inD (cD c) (.lst<|a.map cD)=J (decide<|c∈a):=by have hd:=Ad a;show(if D.BZ (a.map cD)<=50/\(cD c).dep<=50 then J ((a.map cD).any λd=>D.BY d<|cD c) else C)=_;rw[iQ ⟨by lia,by rw[Ie];lia⟩,Iq]
 unfold qC;rw[this];rfl
noncomputable def BP:Nat->List (List Int)
 |0=>[[]]
 |k+1=>BP k++((BP k).map λc=>c++[(k:Int)+1])++((BP k).map λc=>c++[-((k:Int)+1)])
def ae9: ∀(k:Nat) (c:iR),(c.map ab).Pairwise (· < ·)->(∀s∈c,1<=ab s/\ab s<=k)->c∈BP k:=by
 intro j
 induction j with
 |zero=>
  intro c _ h
  cases c with
  |nil=>simp[BP]
  |cons s c=>have:=h s jY;lia
 |succ k f=>
  intro c b h;simp only[BP,sQ,mw];by_cases d:c=[]
  .subst d;exact .inl<|.inl<|f [] (by simp) (by simp)
  .have hd:=LA d;generalize c.dropLast=i at hd;generalize c.getLast d=s at hd;subst hd;rw[qg,uC] at b;have l:=h s (by simp);have g: ∀x∈i,1<=ab x/\ab x<ab s:=λx a=>⟨(h x<|by simp[a]).1,b.2.2 (ab x) (tL a) (ab s)<|by simp⟩
   by_cases q:ab s<=k
   .refine .inl (.inl<|f _ ?_ λx a=>?_)
    .rw[qg,uC];exact b
    .rcases sQ.mp a with a|a
     .have:=g x a;lia
     .simp at a;subst a;lia
   .have e:ab s=(k:Int)+1:=by lia
    have hk:=f i b.1 λx a=>by have:=g x a;lia
    unfold ab at e;split at e
    .exact .inr ⟨i,hk,by rw[show s= -((k:Int)+1) by lia]⟩
    .exact .inl (.inr ⟨i,hk,by rw[show s=((k:Int)+1) by lia]⟩)
def adP: ∀(k:Nat) (n:Nat),n<=k->(BP n).length<=(BP k).length:=by
 intro b
 induction b with
 |zero=>intro n h;rw[show n=0 by lia];exact kc _
 |succ k a=>
  intro n h;by_cases e:n=k+1
  .subst e;exact kc _
  .have:=a n (by lia);simp only[BP,mR,jM];lia
def Ej(n:Nat)(cs:jo):Prop:=cs.Nodup/\ ∀c∈cs,Bl n c
def Ej.len(b:n<=5)(h:Ej n cs):(A0 cs)<=243:=by
 have h1:=HK cs (BP n) h.1 λc a=>ae9 n c (h.2 c a).2.1 (h.2 c a).2.2;have d:=adP 5 n b;have e:(BP 5).length=243:=by decide
 lia
def Ej.snoc{n:Nat}{b:jo}{c:iR}(h:Ej n b)(f:Bl n c)(g:c∉b):Ej n (b++[c]):=by
 refine⟨?_,λx a=>?_⟩
 .rw[Gp];exact⟨h.1,by simp,λx a y d e=>by simp at d;subst d;subst e;exact g a⟩
 .rcases sQ.mp a with a|a
  .exact h.2 x a
  .simp at a;subst a;exact f
noncomputable abbrev K9(cs:jo):Sl:=J (.lst<|cs.map cD,I)
noncomputable def qd(a:jo)(c:iR):List (List Int):=if c∈a then a else a++[c]
noncomputable def dd(a:jo):List (List Int):=a.foldl qd []
def Sy(a:jo)(c:iR):uA (a.map cD) (cD c)=(qd a c).map cD:=by unfold uA qd;rw[show(a.map cD).any (D.BY · (cD c))=decide (c∈a) from Iq c a];by_cases h:c∈a<;>simp[h]
def afl: ∀(b a:jo),(b.map cD).foldl uA (a.map cD)=(b.foldl qd a).map cD:=by
 intro e
 induction e with
 |nil=>intro a;exact H
 |cons c b d=>intro a;rw[jU,vA,vA,Sy,d]
def afc:x∈qd a c↔x∈a\/x=c:=by
 unfold qd;by_cases h:c∈a
 .rw[iQ h];constructor
  .exact .inl
  .rintro(h1|rfl)
   .exact h1
   .exact h
 .rw[jc h];simp
def adA: ∀(b a:jo) (x:iR),x∈b.foldl qd a↔x∈a\/x∈b:=by
 intro e
 induction e with
 |nil=>intro a x;simp
 |cons c b d=>intro a x;rw[vA,d,afc,kW,or_assoc]
def Sz(h:f.Nodup):(qd f c).Nodup:=by
 unfold qd;split
 .exact h
 .rename_i b;rw[Gp];exact⟨h,by simp,λx d y a e=>by simp at a;subst a;subst e;exact b d⟩
def afe: ∀(b a:jo),a.Nodup->(b.foldl qd a).Nodup:=by
 intro e
 induction e with
 |nil=>intro a h;exact h
 |cons c b d=>intro a h;rw[vA];exact d _ (Sz h)
def AR: ∀l:List Int,D.KS (l.map .int)=I:=by
 intro b
 induction b with
 |nil=>simp[D.KS]
 |cons x l a=>simp[D.KS,D.pr,a]
def Vl(c:iR):Gn (cD c)=I:=by simp[Gn,AR,xY]
def N0(a:jo):(a.map cD).all Gn=I:=by rw[lY];intro d hd;obtain⟨c,_,rfl⟩:=mw.mp hd;exact Vl c
theorem zb(c:cO): ∀a b:List Int,(oS c (a.map .int)<|b.map .int).isSome=I
 |[],b=>by simp[oS]
 |x::a,[]=>by simp[oS]
 |x::a,y::b=>by
  simp only[jU,oS];split
  .exact zb c a b
  .simp[mH]
def qW(cs:jo)(h: ∀c∈cs,c≠[]):nR (cs.map cD)=I:=by
 have hk: ∀c:List Int,c≠[]->lK (cD c)=J 1:=λc g=>by
  cases c with
  |nil=>exact absurd H g
  |cons=>rfl
 unfold nR
 cases cs with
 |nil=>rfl
 |cons c cs=>
  rw[yo];right;simp only[jU];rw[lA,lA,hk c<|h c jY];refine⟨⟨rfl,?_⟩,?_⟩
  .rw[lY];intro d hd;rw[<-jU (f:=cD)] at hd;obtain⟨x,b,rfl⟩:=mw.mp hd;rw[hk x<|h x b,Ie];simp[D.pr,AR]
  .rw[lY];intro d hd;rw[lY];intro e a;rw[<-jU (f:=cD)] at hd a;obtain⟨x,b,rfl⟩:=mw.mp hd;obtain⟨y,i,rfl⟩:=mw.mp a;rw[mH,iQ H];exact zb _ _ _
noncomputable def Ks:D->List Int
 | .tup l=>l.map Fo
 |_=>[]
def nQ(c:iR):Ks (cD c)=c:=by simp only[Ks,jP];rw[qf (g:=id),qt];intro x _;rfl
def BF(h:m.Perm (cs.map cD)): ∃a:List (List Int),m=a.map cD/\a.Perm cs:=by
 refine⟨m.map Ks,?_,?_⟩
 .rw[jP]
  symm
  rw[qf (g:=id),qt];intro d hd;obtain⟨c,_,rfl⟩:=mw.mp<|h.mem_iff.mp hd;simp only[bo,nQ];rfl
 .have:=h.map Ks;rw[jP] at this;rw[show gg (Ks∘cD) cs=gg id cs from qf λc _=>nQ c,qt] at this;exact this
def Kj(c:jo):Prop:=c.Pairwise λa b=>EO (cD b) (cD a)=Y
def ZF{n:Nat}{a:jo}(j: ∀c∈a,Bl n c)(l:(A0 a)<500): ∃k b:List (List Int),Ej n b/\Kj b/\(∀c,c∈b↔c∈a)/\(A0 b)<=A0 a/\RW (.lst<|a.map cD)=J (.BU .set []<|k.map cD,I)/\aeO (.BU .set []<|k.map cD)=J (.lst<|b.map cD,I):=by
 have f: ∀c,c∈dd a↔c∈a:=λc=>by unfold dd;rw[adA];simp
 have i:(dd a).Nodup:=afe a [] (by simp);obtain⟨b,e,g⟩:=BF<|kH EO<|(dd a).map cD;have d:(dd a).length<=(A0 a):=HK _ _ i λc h=>(f c).mp h;refine⟨dd a,b,⟨g.symm.nodup i,λc h=>j c<|(f c).mp<|g.mem_iff.mp h⟩,?_,λc=>g.mem_iff.trans<|f c,by rw[g.length_eq];exact d,?_,?_⟩
 .have:=ph<|(dd a).map cD;rw[e,oD] at this;exact this
 .show(if(a.map cD).all Gn=I/\(a.map cD).length<500 then J (D.BU .set []<|qG<|a.map cD,I) else C)=_;rw[iQ ⟨N0 a,by simpa using l⟩];unfold qG;rw[show([]:List D)=([]:List (List Int)).map cD from H,afl];rfl
 .show(if((dd a).map cD).all Gn=I then kN ((dd a).map cD) else C)=_;rw[iQ<|N0 _];unfold kN;rw[iQ ⟨qW _ λc h=>(j c<|(f c).mp h).1,by rw[jQ];simp;lia⟩,e]
def V5(a:jo)(v:Nat): ∃m,m<=v/\PX.yZ (a.map cD) C (J (v:Int))=(a.take m).map cD:=by refine⟨min v<|A0 a,by lia,?_⟩;unfold PX.yZ;rw[HT.QK,HT.SY,eV,jM,th,y8]
def Kj.take(h:Kj a)(m:Nat):Kj (a.take m):=z8 (yC m a) h
def Ej.take(h:Ej n a)(m:Nat):Ej n (a.take m):=⟨List.Nodup.sublist (yC m a) h.1,λc b=>h.2 c<|we b⟩
def nk(n:Nat)(a:jo):Prop:=n<=5/\Ej n a/\Kj a/\(A0 a)<=30
noncomputable abbrev BX(n:Nat)(a:jo):D:= .tup [.int n,.tup<|a.map cD]
noncomputable abbrev rS(n:Nat)(a:jo):Sl:=J (BX n a,Y)
noncomputable abbrev lv(L:List D):Sl:=J (.lst L,I)
noncomputable abbrev EG(a:List D):Dn:=a.map λd=>J (d,Y)
theorem xv: ∀(os:List Cm) (a:List D),jm os (a.map λd=>(d,Y))=[]
 |[],_=>by simp[jm]
 |_::_,[]=>by simp[jm]
 |o::os,d::a=>by cases o<;>simp[jm,xv os a]
theorem IE: ∀(os:List Cm) (b:List D) (a c:Dn),wb os (b.map λd=>(d,Y)) a c=c
 |[],_,_,_=>by simp[wb]
 |_::_,[],_,_=>by simp[wb]
 |_::_,_::_,[],_=>by simp[wb]
 |o::os,d::b,x::xs,c=>by cases o<;>simp[wb,IE os b xs]
def YK{f:F}{ti:FT}{g:D->D}{p:D->Bool}{pre:Dn}: ∀(l a:List D) (x:Sl),(∀d∈l,ti (pre++[J (d,Y)])=J (p d,pre++[J (d,Y)])/\(p d=I-> ∃o,f (pre++[J (d,Y)])=J ((g d,o),pre++[J (d,Y)])))->A0 a+A0 l<=sizeLine->
  ∃b,ku (iT<|A0 pre) ti (kd f) l a (pre++[x])=J (a++(l.filter p).map g,pre++[b]):=by
 intro r
 induction r with
 |nil=>intro a x _ _;exact⟨x,by simp[ku]⟩
 |cons d l m=>
  intro a x h j;obtain⟨h1,n⟩:=h d jY;have q:(A0 a)<sizeLine:=by simp at j;lia
  rw[ku,D6];simp only[jJ];rw[h1]
  cases k:p d with
  |false=>obtain⟨b,e⟩:=m a (J (d,Y)) (λc i=>h c<|jZ _ i) (by simp at j ⊢;lia);exact⟨b,by simp[e,k]⟩
  |true=>obtain⟨o,hd⟩:=n k;obtain⟨b,e⟩:=m (a++[g d]) (J (d,Y)) (λc i=>h c<|jZ _ i) (by simp at j ⊢;lia);refine⟨b,?_⟩;simp only[jJ,kE,rY];rw[hd];simp only[jJ];rw[iQ q];simp only[jJ];rw[e];simp[k]
def EK{caps:kb}{fi:Fi}{f:F}{ti:FT}{δ δ1:Dn}{l args:List D}(g:D->D)(p:D->Bool)(h1:fi δ=J (l,δ1))(a:km δ1 (caps.map .slot)=J (args.map λd=>(d,Y)))(b:(A0 args)=A0 caps)
  (h: ∀d∈l,ti (EG args++[J (d,Y)])=J (p d,EG args++[J (d,Y)])/\(p d=I-> ∃o,f (EG args++[J (d,Y)])=J ((g d,o),EG args++[J (d,Y)])))(c:(A0 l)<=10000):
  jL caps 1 fi (iT<|A0 caps) ti (kd f) δ=J ((.lst<|(l.filter p).map g,I),δ1):=by
 obtain⟨i,e⟩:=YK (f:=f) (ti:=ti) (g:=g) (p:=p) (pre:=EG args) l [] C h (by rw[jQ];simp;lia);unfold jL;rw[h1];simp only[jJ];rw[a];simp only[jJ,xv,sL,kE,jP,IE];rw[show iT (A0 caps)=iT (EG args).length from by rw[jM,b]];rw[show((args.map<|J∘λd=>(d,Y))++ac 1 C:Dn)=EG args++[C] from H,e];simp
def sG{caps:kb}{fi:Fi}{f:F}{δ δ1:Dn}{l args:List D}(g:D->D)(h1:fi δ=J (l,δ1))(a:km δ1 (caps.map .slot)=J (args.map λd=>(d,Y)))(b:(A0 args)=A0 caps)
  (h: ∀d∈l,∃o,f (EG args++[J (d,Y)])=J ((g d,o),EG args++[J (d,Y)]))(c:(A0 l)<=10000):
  jL caps 1 fi (iT<|A0 caps) kr (kd f) δ=J ((.lst<|l.map g,I),δ1):=by
 rw[EK g (λ_=>I) h1 a b (λd hd=>⟨rfl,λ_=>h d hd⟩) c,Wh.mpr λ_ _=>rfl]
def afm{caps:kb}{fi:Fi}{f:F}{δ δ1:Dn}{l args:List D}(p:D->Bool)(h1:fi δ=J (l,δ1))(a:km δ1 (caps.map .slot)=J (args.map λd=>(d,Y)))(b:(A0 args)=A0 caps)
  (h: ∀d∈l,∃o,f (EG args++[J (d,Y)])=J ((.bl<|p d,o),EG args++[J (d,Y)]))(c:(A0 l)<=10000):
  jq (g1 EF) [iL<|jL caps 1 fi (iT<|A0 caps) kr<|kd f] δ=J ((.bl<|l.all p,Y),δ1):=
 ux (Bw<|jn<|sG (λd=> .bl (p d)) h1 a b h c) rfl (vd p l)
def xN{tg:Tg}{fb:FS}(U:List D->Dn->Prop)(step: ∀d ds δ,U (d::ds) δ-> ∃δ1 δ2,tg d δ=J δ1/\fb δ1=J (.nx δ2)/\U ds δ2): ∀(ds:List D) (δ:Dn),U ds δ-> ∃a,U [] a/\oy tg fb ds δ=J (.nx a):=by
 intro i
 induction i with
 |nil=>intro δ h;exact⟨δ,h,rfl⟩
 |cons d ds g=>intro δ h;obtain⟨δ1,δ2,h1,b,c⟩:=step d ds δ h;obtain⟨a,e,f⟩:=g δ2 c;refine⟨a,e,?_⟩;unfold oy;rw[h1];simp only[jJ];rw[b];exact f
def xR{caps:kb}{k:Nat}{fi:Fi}{d:Tg}{ti:FT}{c:FB}{δ δ1 b:Dn}{l a:List D}{args:List (D×Bool)}(h1:fi δ=J (l,δ1))(e:km δ1 (caps.map .slot)=J args)(f:(jm (caps.map .slot) args).Nodup)(g:ku d ti c l [] (args.map J++ac k C)=J (a,b)):
  jL caps k fi d ti c δ=J ((.lst a,I),wb (caps.map .slot) args (jw args b) δ1):=by
 unfold jL;rw[h1];simp only[jJ];rw[e];simp only[jJ];rw[iQ f,g];rfl
def H9(h:f δ=J ((.bl I,o),δ1)):EJ f g δ=g δ1:=by rw[Nl,h];rfl
def VY(h:f δ=J ((.bl Y,o),δ1)):EJ f g δ=J ((.bl Y,Y),δ1):=by rw[Nl,h];rfl
def adB(p:D->Bool)(L:jo):((L.map cD).filter p).map (λd=>d)=(L.filter λt=>p<|cD t).map cD:=by rw[wr,Dp];rfl
def YN(x:Int)(c:iR):(c.map D.int).any (λd=>D.BY d<|.int x)=c.contains x:=by
 induction c with
 |nil=>rfl
 |cons y c a=>rw[jU,wo,a,List.contains_cons];simp[D.BY,mZ,eq_comm]
def zZ(x:Int)(c:iR):qC (.int x) (cD c)=J (.bl (!c.contains x),Y):=by
 have:inD (.int x) (cD c)=J (c.contains x):=by show(if D.BZ (c.map .int)<=50/\(D.int x).dep<=50 then J ((c.map D.int).any λd=>D.BY d<|.int x) else C)=_;rw[iQ ⟨by rw[xY];lia,by simp[D.dep]⟩,YN]
 unfold qC;rw[this];rfl
def Ym(c:iR)(a:jo):NW (cD c) (.lst<|a.map cD)=J (.bl<|decide<|c∈a,Y):=by
 have h:=ad8 c a;unfold qC at h;unfold NW
 cases d:inD (cD c) (.lst<|a.map cD) with
 |none=>rw[d] at h;cases h
 |some b=>rw[d] at h;simp at h ⊢;cases b<;>simp at h ⊢ <;>exact h
def aeQ{d:D}(h:d.dep<=50):HD d d=J (.bl I,Y):=by unfold HD;rw[iQ ⟨h,h⟩,D.Eu]
def aeP{d:D}(h:d.dep<=50):Hq d d=J (.bl Y,Y):=by unfold Hq;rw[iQ ⟨h,h⟩,D.Eu];rfl
def Si(L:jo):(D.lst<|L.map cD).dep<=50:=by have:=Ad L;rw[D.dep];lia
def V3(n:Nat)(a:jo):(BX n a).dep<=50:=by have:=Ad a;simp only[D.dep,D.BZ];lia
def V4(l:List D)(v:Nat):PX.yZ l C (J (v:Int))=l.take v:=by
 unfold PX.yZ;rw[HT.QK,HT.SY,th,y8];by_cases h:v<=A0 l
 .rw[wg h]
 .rw[Nat.min_eq_right<|by omega,yu<|kc _,yu<|by omega]
def KG{n:Nat}{k l:jo}(h1:nk n k)(d:nk n l)(h: ∀c,c∈k↔c∈l):k=l:=by
 have i:k.Perm l:=(Lz h1.2.1.1 d.2.1.1).mpr h;refine i.eq_of_pairwise (le:=λa b=>EO (cD b) (cD a)=Y) (λa b _ _ x y=>?_) h1.2.2.1 d.2.2.1;rw[rh] at x y;have g: ∀x:List Int,D.pr (cD x)=I:=λx=>by simp[D.pr,AR]
 have e:cT (cD a) (cD b)= .eq:=by
  rw[yd] at x
  cases f:cT (cD a) (cD b) with
  |lt=>exact absurd f y
  |gt=>rw[f] at x;exact absurd H x
  |eq=>rfl
 have:=ye _ _ (g a) (g b) e;simpa[nQ] using ox Ks this
def TT(n:Nat)(t:iR):Prop:=(t.map ab).Perm<|st n
def SG(n:Nat)(s:Int):Prop:=1<=ab s/\ab s<=n
def Lf(t u:iR):List Int:=t.map<|led u
def TT.len{n:Nat}{t:iR}(h:TT n t):(A0 t)=n:=by simpa using(Jk.mp h).1
def TT.sg{n:Nat}{t:iR}(h:TT n t){x:Int}(a:x∈t):SG n x:=(Jk.mp h).2.1 _ (tL a)
def TT.tok{n:Nat}{t:iR}(h:TT n t):TOk n t:=⟨h.len,λx a=>h.sg a⟩
def XC{n:Nat}{s:Int}(h:SG n s):s≠0:=by rintro rfl;have:=h.1;simp[ab] at this
def Uq{n:Nat}{s:Int}(h:SG n s):SG n (-s):=by unfold SG;rw[pj];exact h
def nu{n:Nat}{s:Int}(h:SG n s): ∃k:Nat,k<n/\(s=(k:Int)+1\/s= -((k:Int)+1)):=by
 have:=h;unfold SG ab at this;split at this
 .exact⟨(-s-1).toNat,by omega,.inr<|by omega⟩
 .exact⟨(s-1).toNat,by omega,.inl<|by omega⟩
def M7{n k:Nat}(h:k<n):SG n ((k:Int)+1):=by unfold SG;rw[sJ<|by lia];lia
def lF(t:iR)(k:Nat):led t ((k:Int)+1)=t.getD k 0:=by unfold led;rw[iQ<|by lia,show((k:Int)+1-1).toNat=k by lia]
def lZ(t:iR)(k:Nat):led t (-((k:Int)+1))= -t.getD k 0:=by unfold led;rw[jc<|by lia,show(- -((k:Int)+1)-1).toNat=k by lia]
def Ab{n:Nat}(t:iR){s:Int}(h:SG n s):led t (-s)= -led t s:=by
 obtain⟨k,_,rfl|rfl⟩:=nu h
 .rw[lF,lZ]
 .rw[Gg,lF,lZ,Gg]
def EW{n:Nat}{t:iR}(a:(A0 t)=n){s:Int}(h:SG n s):ab (led t s)=(t.map ab).getD ((ab s).toNat-1) 0:=by
 obtain⟨k,hk,rfl|rfl⟩:=nu h
 .rw[lF,sJ (i:=(k:Int)+1)<|by lia,show(((k:Int)+1).toNat-1)=k by lia];simp[lW,a,hk]
 .rw[lZ,pj,EV<|by lia,show(((k:Int)+1).toNat-1)=k by lia];simp[lW,a,hk]
def TT.led{n:Nat}{t:iR}(h:TT n t){s:Int}(a:SG n s):SG n (led t s):=Vu h.tok a.1 a.2
def JH{n:Nat}{t:iR}(h:TT n t)(u:iR){s:Int}(b:SG n s):PV.led (Lf t u) s=PV.led u (PV.led t s):=by
 obtain⟨k,hk,rfl|rfl⟩:=nu b
 .rw[lF,lF];simp[Lf,lW,h.len,hk]
 .have a:t.getD k 0∈t:=mD (by rw[h.len];exact hk);rw[lZ,lZ,Ab u<|h.sg a];simp[Lf,lW,h.len,hk]
def TT.Lf{n:Nat}{t u:iR}(h:TT n t)(a:TT n u):TT n (Lf t u):=by
 unfold TT
 have e:(PV.Lf t u).map ab=(t.map ab).map λj=>(u.map ab).getD (j.toNat-1) 0:=by unfold PV.Lf;rw[jP,jP];refine qf λx d=>?_;exact EW a.len<|h.sg d
 rw[e];refine(h.map _).trans (io (Gv ?_) a);apply yy
 .simp[st,a.len]
 .intro i h1 f;have c:i<n:=by simpa[st] using h1
  have b:((1:Int)+(i:Int)).toNat-1=i:=by lia
  simp only[st,jP,yx,List.getElem_range,bo,b];simp[lW,a.len,c]
def JG{n:Nat}{t:iR}(h:TT n t){s r:Int}(g:SG n s)(f:SG n r)(e:PV.led t s=PV.led t r):s=r:=by
 have k:=(Jk.mp h).2.2
 have c: ∀{i j:Nat},i<n->j<n->ab (t.getD i 0)=ab (t.getD j 0)->i=j:=λ{i j} a b e=>by
  have l:=h.len
  have:=(DX (xs:=t.map ab) (i:=i) (j:=j) (h₀:=by simpa[l] using a) (h₁:=by simpa[l] using b) k).mp (by simp only[yx];simpa[lW,l,a,b] using e)
  exact this
 have d: ∀{i:Nat},i<n->t.getD i 0≠0:=λ{i} a=>XC<|h.sg<|mD (by rw[h.len];exact a);obtain⟨i,a,rfl|rfl⟩:=nu g<;>obtain⟨j,b,rfl|rfl⟩:=nu f
 .rw[lF,lF] at e;rw[c a b<|by rw[e]]
 .rw[lF,lZ] at e;have:=c a b (by rw[e,pj]);subst this;exact absurd (show t.getD i 0=0 by lia)<|d a
 .rw[lF,lZ] at e;have:=c a b (by rw[<-e,pj]);subst this;exact absurd (show t.getD i 0=0 by lia)<|d a
 .rw[lZ,lZ] at e;rw[c a b<|by rw[show t.getD i 0=t.getD j 0 by lia]]
def RG{n:Nat}{t u:iR}(h1:(A0 t)=n)(a:(A0 u)=n)(h: ∀s,SG n s->PV.led t s=PV.led u s):t=u:=by apply yy (by rw[h1,a]);intro i b c;have:=h _ (M7 (n:=n) (k:=i)<|by lia);rw[lF,lF] at this;simpa[lW,b,c] using this
def AK(n:Nat):(st n).length=n:=by simp[st]
def XA(n:Nat):TT n (st n):=by
 have:(st n).map ab=st n:=by
  conv=>rhs;rw[<-qt (st n)]
  refine qf λx a=>?_;have:=Km.mp a;exact sJ (by lia)
 unfold TT;rw[this]
def Oi{n:Nat}{s:Int}(h:SG n s):PV.led (st n) s=s:=by
 obtain⟨k,hk,rfl|rfl⟩:=nu h
 .rw[lF];simp[st,lW,hk];lia
 .rw[lZ];simp[st,lW,hk];lia
def BK(n:Nat)(t w:iR):Prop:=A0 w=n/\ ∀s,SG n s->PV.led w (PV.led t s)=s
def BK.tt{n:Nat}{t w:iR}(h:BK n t w)(f:TT n t):TT n w:=by
 refine(Jw (st n) (w.map ab) (SV n) (λx g=>?_)<|by simp[AK,h.1]).symm;have i:=Km.mp g;have c:SG n x:=by unfold SG;rw[sJ<|by lia];lia
 have e:=h.2 x c;have a:=f.led c;have b:ab (PV.led w<|PV.led t x)=x:=by rw[e,sJ<|by lia]
 rw[EW h.1 a] at b;rw[<-b];have d:(ab<|PV.led t x).toNat-1<(w.map ab).length:=by have:=a.2;have:=a.1;rw[jM,h.1];lia
 exact mD d
def BK.Nt{n:Nat}{t w:iR}(h:BK n t w)(b:TT n t):Lf t w=st n:=
 RG (n:=n) (by simp[Lf,b.len]) (AK n) λs a=>by rw[JH b w a,h.2 s a,Oi a]
def acj: ∀(k:Nat) (r f t:iR),A0 r=k->(∀x∈r,0<=x)->t∈vK k r f->(t.map ab).Perm (f.map ab++r):=by
 intro m
 induction m with
 |zero=>intro r f t d _ h;simp[vK] at h;subst h;rw[SJ.mp d];simp
 |succ k i=>
  intro r f t d b h;simp only[vK,E8,sQ,yh] at h;obtain⟨v,hv,h⟩:=h;have c:(r.eraseIdx v).length=k:=by rw[Dt,iQ hv];lia
  have g: ∀x∈r.eraseIdx v,0<=x:=λx a=>b x<|List.mem_of_mem_eraseIdx a;have a:=b _ (mD hv)
  have fin: ∀y:Int,ab y=r.getD v 0->(gg ab (f++[y])++r.eraseIdx v).Perm (f.map ab++r):=λy l=>by
   rw[qg,qj];refine L5 _ ?_;simp only[jU,rL,dL,tK,l];have e:r.getD v 0=r[v]:=by simp[lW,hv]
   rw[e];rw[List.eraseIdx_eq_take_drop_succ];have j:r=r.take v++r[v]::r.drop (v+1):=by rw[<-yw hv,wj]
   conv=>rhs;rw[j]
   exact P6.symm
  rcases h with h|h
  .exact(i _ _ t c g h).trans (fin _ (by rw[Aw];exact sJ a))
  .exact(i _ _ t c g h).trans (fin _ (by rw[Go,Aw];exact EV a))
def II{n:Nat}{t:iR}(h:t∈vK n (st n) []):TT n t:=by have:=acj n (st n) [] t (AK n) (λx a=>by have:=Km.mp a;lia) h;unfold TT;simpa using this
noncomputable def lc(t c:iR):List Int:=(mK KP<|(c.map<|led t).map D.int).map Fo
def M8(t c d:iR):Prop:=d.Perm (c.map<|led t)/\(d.map ab).Pairwise (· < ·)
def F4{m:List D}{l:iR}(h:m.Perm (l.map D.int)):m=(m.map Fo).map D.int/\(m.map Fo).Perm l:=by
 obtain⟨k,rfl⟩:=abZ h;have e:(k.map D.int).map Fo=k:=by rw[jP];exact qt k
 rw[e];refine⟨rfl,?_⟩;have:=h.map Fo
 rwa [e,jP,show gg (Fo∘D.int) l=l from qt l] at this
def zd{n:Nat}{t c:iR}(g:TT n t)(h1:(c.map ab).Nodup)(f: ∀s∈c,SG n s):((c.map<|led t).map ab).Nodup:=by
 rw[jP,e6,oD];rw[e6,oD] at h1;refine h1.imp_of_mem λ{a b} j k i e=>i ?_;have e:ab (led t a)=ab (led t b):=e;have h:=f a j;have d:=f b k;by_cases q:led t a=led t b
 .rw[JG g h d q]
 .have:led t a=led t (-b):=by rw[Ab t d];unfold ab at e;split at e<;>split at e<;>lia
  rw[JG g h (Uq d) this,pj]
def sh{n:Nat}{t c:iR}(j:TT n t)(g:Bl n c):M8 t c (lc t c)/\(mK KP<|(c.map<|led t).map D.int)=(lc t c).map D.int:=by
 obtain⟨e,i⟩:=F4<|kH KP<|(c.map<|led t).map D.int;refine⟨⟨i,?_⟩,e⟩;have k:=zd j (FA g.2.1) λs f=>g.2.2 s f;have d:((lc t c).map ab).Nodup:=(i.map ab).symm.nodup k;have f:=Cw<|(c.map<|led t).map D.int;rw[e,oD] at f;rw[oD];rw[e6,oD] at d;refine(f.and d).imp λ{a b} h=>?_;have h1:ab a<=ab b:=h.1;have l:ab a≠ab b:=h.2
 lia
def M8.uniq{n:Nat}{t c d e:iR}(h1:M8 t c d)(f:M8 t c e):d=e:=by have g:=h1.2;have h:=f.2;rw[oD] at g h;refine(h1.1.trans f.1.symm).eq_of_pairwise (le:=λa b=>ab a<ab b) (λa b _ _ x y=>absurd x<|by lia) g h
def M8.cl{n:Nat}{t c d:iR}(h:M8 t c d)(f:TT n t)(a:Bl n c):Bl n d:=by
 refine⟨λe=>a.1 ?_,h.2,λs b=>?_⟩
 .have:=h.1.length_eq;rw[e] at this;simp at this;exact SJ.mp this.symm
 .obtain⟨x,g,rfl⟩:=mw.mp<|h.1.mem_iff.mp b;exact f.led<|a.2.2 x g
def CQ{n:Nat}{t c:iR}(b:TT n t)(a:Bl n c):Bl n (lc t c):=(sh b a).1.cl b a
def Yh{n:Nat}{t u c:iR}(b:TT n t)(e:TT n u)(a:Bl n c):lc u (lc t c)=lc (Lf t u) c:=by have h1:=(sh b a).1;have d:=(sh e<|CQ b a).1;refine M8.uniq (n:=n) (t:=Lf t u) (c:=c) ⟨d.1.trans ?_,d.2⟩ (sh (b.Lf e) a).1;refine(h1.1.map _).trans (Gv ?_);rw[jP];exact qf λs f=>(JH b u<|a.2.2 s f).symm
def Yg{n:Nat}{c:iR}(a:Bl n c):lc (st n) c=c:=by
 refine M8.uniq (n:=n) (t:=st n) (c:=c) (sh (XA n) a).1 ⟨Gv ?_,a.2.1⟩
 conv=>lhs;rw[<-qt c]
 exact qf λs b=>(Oi<|a.2.2 s b).symm
def Ti{n:Nat}{t w c:iR}(a:TT n t)(d:BK n t w)(b:Bl n c):lc w (lc t c)=c:=by rw[Yh a (d.tt a) b,d.Nt a,Yg b]
def LR(t:iR)(cs a:jo):Prop:=a.Perm (cs.map<|lc t)/\Kj a
def LR.rd{n:Nat}{t w:iR}{i j:jo}(h:LR t i j)(g:TT n t)(k:BK n t w)(f:nk n i):nk n j:=by
 refine⟨f.1,⟨h.1.symm.nodup ?_,λd hd=>?_⟩,h.2,by rw[h.1.length_eq,jM];exact f.2.2.2⟩
 .have q:=f.2.1.1;rw[e6,oD];refine q.imp_of_mem λ{a b} o p m e=>m ?_;rw[<-Ti g k (f.2.1.2 a o),e,Ti g k<|f.2.1.2 b p]
 .obtain⟨c,l,rfl⟩:=mw.mp<|h.1.mem_iff.mp hd;exact CQ g<|f.2.1.2 c l
def LR.uniq{n:Nat}{t w:iR}{cs a b:jo}(h1:LR t cs a)(d:LR t cs b)(f:TT n t)(g:BK n t w)(e:nk n cs):a=b:=
 KG (h1.rd f g e) (d.rd f g e) λc=>h1.1.mem_iff.trans d.1.mem_iff.symm
def RJ(b:FO)(a:Dn)(d:D):Prop:= ∃o,b a=J (o,a)/\res a o=J d
def FJ(b:FO)(a:Dn)(d:D):Prop:= ∃o,b a=J (o,a)/\res a o=J d/\vT a o=J (d,Y)
def FJ.r{c:FO}{δ:Dn}{d:D}(h:FJ c δ d):RJ c δ d:=let⟨o,a,b,_⟩:=h;⟨o,a,b⟩
def jV{i:Nat}{δ:Dn}{d:D}(h:δ[i]?=J (J (d,Y))):FJ (iG i) δ d:=⟨.slot i,by unfold iG;rw[h],by unfold res;simp[h],by simp[h]⟩
def jR{i:Nat}{δ:Dn}{d:D}{b:Bool}(h:δ[i]?=J (J (d,b))):RJ (iG i) δ d:=⟨.slot i,by unfold iG;rw[h],by unfold res;simp[h]⟩
def jE{f:F}{δ:Dn}{d:D}{b:Bool}(h:f δ=J ((d,b),δ)):FJ (iL f) δ d:=⟨.val (d,b),jn h,rfl,rfl⟩
def NS{c:Cn}{e:FO}{δ:Dn}{a:D}{r:D×Bool}{b:Dn}(h:c [(a,Y)]=J (r,b))(g:FJ e δ a):jg c [e] δ=J (r,δ):=by obtain⟨o,h1,_,f⟩:=g;refine(kj (Bw h1) (args:=[a].map λd=>(d,Y)) (by simp[f]) (by rw[xv];exact sL) h).trans ?_;rw[IE]
def Ip{c:Cn}{e f:FO}{δ:Dn}{a b:D}{r:D×Bool}{outs:Dn}(h:c [(a,Y),(b,Y)]=J (r,outs))(i:FJ e δ a)(j:FJ f δ b):jg c [e,f] δ=J (r,δ):=by obtain⟨o,h1,_,g⟩:=i;obtain⟨m,k,_,l⟩:=j;refine(kj (qD h1 k) (args:=[a,b].map λd=>(d,Y)) (by simp[g,l]) (by rw[xv];exact sL) h).trans ?_;rw[IE]
def jO{g:D->D->Option (D×Bool)}{c d:FO}{δ:Dn}{a b:D}{r:D×Bool}(h:g a b=J r)(f:RJ c δ a)(i:RJ d δ b):iZ g c d δ=J (r,δ):=by obtain⟨o,h1,e⟩:=f;obtain⟨l,j,k⟩:=i;exact lG h1 j e k h
def jC{g:D->Option (D×Bool)}{b:FO}{δ:Dn}{a:D}{r:D×Bool}(h:g a=J r)(d:RJ b δ a):jq (g1 g) [b] δ=J (r,δ):=by obtain⟨o,h1,c⟩:=d;exact ux (ds:=[a]) (Bw h1) (by simp[c]) h
def Fv{f:F}{np:Nat}{args:List (D×Bool)}{r:D×Bool}{δ:Dn}(h1:(A0 args)=np/\np<=np/\(args.zipIdx.all λp=>!(p.1.2&&([]:List Nat).contains p.2))=I)(a:f (args.map J++ac (np-np) C)=J (r,δ)):Cg np np [] (iU (lz f) jk) args=J (r,jw args δ):=
 kU h1 (jN<|lC a)
def SW{n:Nat}{s:Int}(h:SG n s):s≠0/\ -(n:Int)<=s/\s<=n:=by obtain⟨k,hk,rfl|rfl⟩:=nu h<;>lia
def Yf{n:Nat}{u:iR}(d:(A0 u)=n){s:Int}(h:SG n s):oz [enc u,pI s]=J ((.int<|led u s,Y),[eN u,ii s]):=by obtain⟨a,b,c⟩:=SW h;exact Vt u s a (by rw[d];exact b) (by rw[d];exact c)
def aeU(f:Int->Int)(l:iR):(l.map D.int).map (λd=>D.int<|f<|Fo d)=(l.map f).map D.int:=by rw[jP,jP];rfl
def C7{a:kb}{c:Fi}{f:F}{e b:Dn}{l:iR}{args:List D}(g:Int->Int)(h1:c e=J (l.map D.int,b))(i:km b (a.map .slot)=J (args.map λd=>(d,Y)))(j:(A0 args)=A0 a)
  (h: ∀x∈l,∃o,f (EG args++[ii x])=J ((.int<|g x,o),EG args++[ii x]))(k:(A0 l)<=10000):
  jL a 1 c (iT<|A0 a) kr (kd f) e=J ((.lst<|(l.map g).map D.int,I),b):=by
 rw[sG (λd=> .int (g<|Fo d)) h1 i j (λd hd=>by obtain⟨x,m,rfl⟩:=mw.mp hd;exact h x m)<|by simpa using k,aeU]
def ab9{n:Nat}(b:n<=5){t:iR}(a:TT n t):kY [pI n,enc t]=J ((.bl I,Y),[ii n,eN t]):=by
 have h:tB n (cD t)=I:=by rw[Xy];simp only[lB,lA,lY,vo,jP];refine⟨λd hd=>?_,a⟩;obtain⟨x,_,rfl⟩:=mw.mp hd;rfl
 rw[aa5 n (cD t) (λl e=>by cases e;rw[jM,a.len];lia),h]
def Pw{n:Nat}(a:n<=5){t:iR}(b:TT n t):mG [pI n,enc t]=J ((.B7,Y),[ii n,eN t]):=by
 have:FH WQ (iU Ed jk) jk [ii n,eN t]=J (.nx [ii n,eN t]):=
  (ni<|Bu<|lu<|Ip (ab9 a b) (jV H)<|jV H).trans rfl
 have e:nY [ii n,eN t]=J (.nx [ii n,eN t]):=(iO this).trans H;simp only[mG,Cg];rw[iQ ⟨rfl,by decide,rfl⟩];show(match nY [ii n,J<|enc t] with|some (.rt r δ)=>J (r,jw _ δ)|some (.nx δ)=>J ((D.B7,Y),jw _ δ)|_=>C)=_;rw[e];rfl
noncomputable def N7(t:iR)(j:Nat):Int:=if t.getD j 0>0 then(j:Int)+1 else -((j:Int)+1)
def Oj(n:Nat)(t:iR)(k:Nat)(w:iR):Prop:=A0 w=n/\ ∀j,j<k->w.getD ((ab<|t.getD j 0).toNat-1) 0=N7 t j
def VB{n:Nat}{t w:iR}(a:TT n t)(h:Oj n t n w):BK n t w:=by
 refine⟨h.1,λs g=>?_⟩
 have one: ∀j,j<n->led w (t.getD j 0)=(j:Int)+1:=λj b=>by
  have c:=a.sg<|mD (l:=t) (k:=j) (by rw[a.len];exact b);have e:=h.2 j b;unfold N7 at e;unfold led;unfold SG at c;by_cases d:t.getD j 0>0
  .rw[iQ d] at e ⊢;rw[sJ<|by lia] at e;rw[show(t.getD j 0-1).toNat=(t.getD j 0).toNat-1 by lia,e]
  .have f:ab (t.getD j 0)= -t.getD j 0:=by unfold ab;split<;>lia
   rw[jc d] at e ⊢;rw[f] at e c;rw[show(-t.getD j 0-1).toNat=(-t.getD j 0).toNat-1 by lia,e]
   lia
 obtain⟨k,hk,rfl|rfl⟩:=nu g
 .rw[lF];exact one k hk
 .rw[Ab t<|M7 hk,Ab w<|a.led<|M7 hk,lF,one k hk]
def aeH{n:Nat}{t w:iR}(a:TT n t){k:Nat}(hk:k<n)(h:Oj n t k w):Oj n t (k+1) (w.set ((ab<|t.getD k 0).toNat-1)<|N7 t k):=by
 have b: ∀j,j<n->1<=ab (t.getD j 0)/\ab (t.getD j 0)<=n:=λj c=>a.sg<|mD (l:=t) (k:=j) (by rw[a.len];exact c);refine⟨by simp[h.1],λj c=>?_⟩;have d:=b k hk;have f:=b j (by lia);by_cases e:j=k
 .subst e;rw[lW,oX<|by rw[h.1];lia];rfl
 .have ne:ab (t.getD j 0)≠ab (t.getD k 0):=λq=>e (by
   have l:=a.len
   have:=(DX (xs:=t.map ab) (i:=j) (j:=k) (h₀:=by simp[l];lia) (h₁:=by simp[l];lia) (Jk.mp a).2.2).mp (by simp only[yx];simpa[lW,l,hk,show j<n by lia] using q)
   exact this)
  rw[lW,nK<|by lia,<-lW];exact h.2 j (by lia)
abbrev fbB:FS:=zC6
def VT{n:Nat}{t w:iR}(c:TT n t){k:Nat}(hk:k<n)(f:(A0 w)=n):fbB [eN t,Ck w,ii<|(k:Int)+1,ii<|t.getD k 0]=J (.nx [eN t,Ck<|w.set ((ab<|t.getD k 0).toNat-1)<|N7 t k,ii<|(k:Int)+1,ii<|t.getD k 0]):=by
 have b:=c.sg<|mD (l:=t) (k:=k) (by rw[c.len];exact hk)
 have d:Lq (fT WD) (kI 2) (lL zO<|iG 2) [eN t,Ck w,ii<|(k:Int)+1,ii<|t.getD k 0]=J ((.int<|N7 t k,Y),[eN t,Ck w,ii<|(k:Int)+1,ii<|t.getD k 0]):=by
  rw[XG,lu (o:=Y)<|jO (XF _ _) (jV H).r (jE H).r];simp only[jJ];unfold N7;by_cases a:t.getD k 0>0
  .rw[iQ<|by simpa using a,iQ a];rfl
  .rw[jc<|by simpa using a,jc a];rfl
 have e:iL WV [eN t,Ck w,ii<|(k:Int)+1,ii<|t.getD k 0]=J (.val (.int<|ab (t.getD k 0)-1,Y),[eN t,Ck w,ii<|(k:Int)+1,ii<|t.getD k 0]):=rfl
 have g:Ir (w.map D.int).length (ab (t.getD k 0)-1)=J ((ab<|t.getD k 0).toNat-1):=by
  have:=b.1;have:=b.2;unfold Ir;rw[jM,f,iQ<|by lia,iQ<|by lia]
  congr 1;lia
 refine(iO (δ1:=[eN t,Ck<|w.set ((ab<|t.getD k 0).toNat-1)<|N7 t k,ii<|(k:Int)+1,ii<|t.getD k 0]) ?_).trans rfl;unfold wD;rw[d];simp only[jJ,Dz,dI];rw[e];simp only[jJ,Nk,Dz,dI];rw[g];simp[Ck,List.map_set]
def aaC{n:Nat}{t:iR}(f:TT n t): ∀(m k:Nat) (w:iR) (x y:Sl),k+m=n->Oj n t k w-> ∃b c d,Oj n t n b/\oy MA fbB ((bv k m).map λ(j:Nat)=> .tup [.int<|(j:Int)+1,.int<|t.getD j 0]) [eN t,Ck w,x,y]=J (.nx [eN t,Ck b,c,d]):=by
 intro i
 induction i with
 |zero=>intro k w x y h a;exact⟨w,x,y,by rw[show k=n by lia] at a;exact a,rfl⟩
 |succ m g=>intro k w x y h a;obtain⟨b,c,d,h1,e⟩:=g (k+1) _ (ii<|(k:Int)+1) (ii<|t.getD k 0) (by lia) (aeH f (by lia) a);refine⟨b,c,d,h1,?_⟩;rw[Ao,jU];unfold oy;rw[show MA (.tup [.int<|(k:Int)+1,.int<|t.getD k 0]) [eN t,Ck w,x,y]=J [eN t,Ck w,ii<|(k:Int)+1,ii<|t.getD k 0] from H];simp only[jJ];rw[VT f (by lia) a.1];exact e
def V1(t:iR):(((t.map D.int).zipIdx).map λq=>D.tup [.int (1+q.2),q.1])=(bv 0<|A0 t).map λ(j:Nat)=> .tup [.int<|(j:Int)+1,.int<|t.getD j 0]:=by
 apply yy
 .simp
 .intro i h1 b;have a:i<(A0 t):=by simpa using h1
  simp[lW,a,Int.add_comm]
def Su{n:Nat}{t:iR}(b:TT n t): ∃w,BK n t w/\Sg [enc t]=J (enc w,[eN t]):=by
 obtain⟨w,x,y,h,e⟩:=aaC b n 0 t C C (by lia) ⟨b.len,λj c=>absurd c<|by lia⟩;refine⟨w,VB b h,?_⟩;refine kU (δ:=[eN t,Ck w,x,y]) ⟨rfl,by decide,rfl⟩ ?_;refine(iO (δ1:=[eN t,Ck t,C,C]) H).trans ((iO<|(mY (δ1:=[eN t,Ck t,C,C]) (ds:=(bv 0 n).map λ(j:Nat)=> .tup [.int<|(j:Int)+1,.int<|t.getD j 0]) ?_).trans e).trans ?_)
 .show J (((t.map D.int).zipIdx).map λq=>D.tup [.int (1+q.2),q.1],([eN t,Ck t,C,C]:Dn))=_;rw[V1,b.len]
 .exact jN (lC<|jC (a:= .lst (w.map D.int)) H<|jR H)
def Qo{c:FT}{b:FS}{k:Nat}{d a δ2:Dn}(h:c d=J (I,a))(e:b a=J (.nx δ2)):nZ c b (k+1) d=nZ c b k δ2:=by rw[nZ,h];simp only[jJ,kE];rw[e];rfl
def Qp{b:FT}{d:FS}{k:Nat}{c a:Dn}(h:b c=J (Y,a)):nZ b d (k+1) c=J (.nx a):=by rw[nZ,h];rfl
def adS{n:Nat}{t c:iR}(h:n<=5)(b:TT n t)(a:Bl n c):wL (.lst<|(c.map<|led t).map D.int)=J (.lst<|(lc t c).map D.int,I):=by
 have:=a.len;show(if((c.map<|led t).map D.int).all MJ=I/\(((c.map<|led t).map D.int).map aD).Nodup/\((c.map<|led t).map D.int).length<64 then J (D.lst<|mK KP<|(c.map<|led t).map D.int,I) else C)=_
 have e:((c.map<|led t).map D.int).all MJ=I:=by rw[lY];intro d hd;obtain⟨x,_,rfl⟩:=mw.mp hd;rfl
 have f:(((c.map<|led t).map D.int).map aD).Nodup:=by rw[jP];exact zd b (FA a.2.1) λs g=>a.2.2 s g
 rw[iQ ⟨e,f,by simp;lia⟩,(sh b a).2]
def RE{n:Nat}(f:n<=5){t c:iR}(e:TT n t)(d:Bl n c):mW [enc c,enc t]=J (enc<|lc t c,[eN c,eN t]):=by have:=d.len;refine Fv ⟨rfl,by decide,rfl⟩<|jC (a:= .lst ((lc t c).map D.int)) H (jE (b:=I)<|jC (adS f e d) (jE (b:=I)<|C7 (args:=[cD t]) (led t) H H H (λx g=>⟨Y,?_⟩)<|by lia).r).r;exact Ip (Yf e.len<|d.2.2 x g) (jV H)<|jV H
def JW{a:kb}{b:Fi}{f:F}{δ δ1:Dn}{l:jo}{args:List D}(g:List Int->List Int)(h1:b δ=J (l.map cD,δ1))(c:km δ1 (a.map .slot)=J (args.map λd=>(d,Y)))(e:(A0 args)=A0 a)
  (h: ∀x∈l,∃o,f (EG args++[J (cD x,Y)])=J ((cD<|g x,o),EG args++[J (cD x,Y)]))(i:(A0 l)<=10000):
  jL a 1 b (iT<|A0 a) kr (kd f) δ=J ((.lst<|(l.map g).map cD,I),δ1):=by
 rw[sG (λd=>cD<|g<|Ks d) h1 c e (λd hd=>by obtain⟨x,j,rfl⟩:=mw.mp hd;rw[nQ];exact h x j)<|by simpa using i];rw[jP,jP,qf (g:=cD∘g) λx _=>by simp only[bo,nQ]]
def zU{cs:jo}(h:nR (cs.map cD)=I)(b:(A0 cs)<=10000): ∃a:List (List Int),a.Perm cs/\Kj a/\kN (cs.map cD)=J (.lst<|a.map cD,I):=by
 obtain⟨a,e,c⟩:=BF<|kH EO<|cs.map cD;refine⟨a,c,?_,?_⟩
 .have:=ph<|cs.map cD;rw[e,oD] at this;exact this
 .unfold kN;rw[iQ ⟨h,by rw[jM];exact pd b⟩,e]
def xQ{f g:F}{δ:Dn}{a b:D×Bool}(h1:f δ=J (a,δ))(c:g δ=J (b,δ)):nh [f,g] δ=J ((.tup [a.1,b.1],Y),δ):=by rw[UD,show[f,g].map iL=[iL f,iL g] from H,qD (jn h1)<|jn c];simp[jQ]
def Ye{n:Nat}{t:iR}{cs:jo}(g:TT n t)(f:nk n cs): ∃d,LR t cs d/\Bx [(BX n cs,Y),enc t]=J ((BX n d,Y),[rS n cs,eN t]):=by
 have i:=f.1;have j:=f.2.2.2
 obtain⟨d,m,o,e⟩:=zU (cs:=cs.map<|lc t) (qW _ λc k=>by obtain⟨x,h,rfl⟩:=mw.mp k;exact(CQ g<|f.2.1.2 x h).1) (by simp;lia)
 refine⟨d,⟨m,o⟩,?_⟩;refine kU (δ:=[rS n cs,eN t,ii n,J (.tup<|cs.map cD,Y)]) ⟨rfl,by decide,rfl⟩ ?_;refine(iO (δ1:=[rS n cs,eN t,ii n,J (.tup<|cs.map cD,Y)]) H).trans ?_;refine(iO<|pQ<|Ip (Pw i g) (jV H)<|jV H).trans (jN<|lC<|xQ (a:=(.int n,Y)) (b:=(.tup<|d.map cD,Y)) H<|jC (a:= .lst (d.map cD)) H (jE (b:=I)<|jC e (jE (b:=I)<|JW (l:=cs) (args:=[cD t]) (lc t) H H H (λx h=>⟨Y,?_⟩)<|by lia).r).r);exact Ip (RE i g<|f.2.1.2 x h) (jV H)<|jV H
theorem PC: ∀(l:jo) (a:List D) (x y:Sl),(∀p∈l,∃i j,p=[i,j])->A0 a+A0 l<=1000-> ∃b c,ku zB kr Kc (l.map cD) a [x,y]=J (a++l.map λp=>D.int<|p.getD 1 0,[b,c])
 |[],a,x,y,_,_=>⟨x,y,by simp[ku]⟩
 |p::l,a,x,y,h,d=>by obtain⟨i,j,rfl⟩:=h p jY;obtain⟨b,c,e⟩:=PC l (a++[.int j]) (ii i) (ii j) (λq f=>h q<|jZ _ f) (by simp at d ⊢;lia);refine⟨b,c,?_⟩;rw[jU,ku];rw[show zB (cD [i,j]) [x,y]=J [ii i,ii j] from H];simp only[jJ,uN,kE,rY];rw[show kI 1 [ii i,ii j]=J ((.int j,Y),[ii i,ii j]) from H];simp only[jJ];rw[iQ<|uL<|by simp at d;lia];simp only[jJ];rw[e];simp
def So{a s b r:Int}(h:EO (cD [b,r]) (cD [a,s])=Y):a<=b:=by
 rw[rh] at h;by_cases q:b<a
 .exact absurd (by simp[cT,cL,q]) h
 .lia
def Es{n:Nat}(N:n<=5){t c:iR}(o:TT n t)(k:Bl n c): ∃L,jz [enc c,enc t]=J (enc<|lc t c,[eN c,L])/\L=eN t:=by
 have M:=k.len
 let pr:Int->List Int:=λs=>[ab<|led t s,led t s]
 obtain⟨f,m,C,e⟩:=zU (cs:=c.map pr) (qW _ λx E=>by obtain⟨y,_,rfl⟩:=mw.mp E;simp[pr]) (by simp;lia)
 have z:jL [1] 1 (kM<|kI 0) (iT 1) kr Xd [eN c,eN t,AX]=J ((.lst<|(c.map pr).map cD,B8),[eN c,eN t,AX]):=by
  refine(sG (caps:=[1]) (args:=[cD t]) (l:=c.map D.int) (δ1:=[eN c,eN t,AX]) (λd=>cD<|pr<|Fo d) AU AU AU (λd hd=>?_)<|by simp;lia).trans ?_
  rotate_left
  .rw[jP,jP];rfl
  .obtain⟨x,E,rfl⟩:=mw.mp hd;obtain⟨a1,O,z⟩:=SW<|k.2.2 x E;have j:TQ (EG [cD t]++[ii x])=J ((.int<|led t x,Y),EG [cD t]++[ii x]):=Ip (RB t x a1 (by rw[o.len];exact O)<|by rw[o.len];exact z) (jV AU)<|jV AU;exact⟨Y,xQ (jC (XM _) (jE j).r) j⟩
 have A: ∀v:Sl,∃u w,ku zB kr Kc (f.map cD) [] [AX,AX]=J (f.map λp=>D.int<|p.getD 1 0,[u,w]):=λv=>by
  obtain⟨u,w,e⟩:=PC f [] AX AX (λp B=>by obtain⟨y,_,rfl⟩:=mw.mp<|m.mem_iff.mp B;exact⟨_,_,rfl⟩) (by rw[m.length_eq];simp;lia)
  exact⟨u,w,by simpa using e⟩
 obtain⟨u,w,A⟩:=A AX
 have Q:(f.map λp=>p.getD 1 0)=lc t c:=by
  have j:(f.map λp=>p.getD 1 0).Perm (c.map<|led t):=by
   have:=m.map λp=>p.getD 1 0
   rwa [jP] at this
  have g: ∀p∈f,p=[ab<|p.getD 1 0,p.getD 1 0]:=λp B=>by obtain⟨y,_,rfl⟩:=mw.mp<|m.mem_iff.mp B;rfl
  refine M8.uniq (n:=n) (t:=t) (c:=c) ⟨j,?_⟩ (sh o k).1;have I:((f.map λp=>p.getD 1 0).map ab).Nodup:=(j.map ab).symm.nodup<|zd o (FA k.2.1) λs C=>k.2.2 s C;rw[jP,oD];rw[jP,e6,oD] at I;refine(AT C I).imp_of_mem λ{p q} h1 G h=>?_;have H:=h.1;rw[g p h1,g q G] at H;have:=So H;have U:=h.2;simp only[bo] at U ⊢
  lia
 refine⟨_,?_,rfl⟩;refine kU (δ:=[eN c,eN t,J (.lst<|(c.map pr).map cD,B8)]) ⟨rfl,by decide,rfl⟩ ?_;refine(iO<|kz (i:=2) z (show 2<3 by decide)).trans (jN<|lC<|jC (a:= .lst ((lc t c).map D.int)) AU (jE (b:=B8) ?_).r);rw[xR (l:=f.map cD) (δ1:=[eN c,eN t,J (.lst<|(c.map pr).map cD,B8)]) (args:=[]) (fi:=kM<|jq (g1 lR) [iG 2]) ?_ AU (by simp[jm]) A]
 .have T:(f.map λp=>D.int<|p.getD 1 0)=(lc t c).map D.int:=by rw[<-Q,jP];rfl
  rw[T];rfl
 .rw[Jb,jC (show lR (.lst<|(c.map pr).map cD)=J (.lst<|f.map cD,B8) from e)<|jR AU];rfl
abbrev OP:F:=T4
def M6(a:Int)(b:Bool): ∃(s c:Int),(s=1\/s= -1)/\ ∀δ:Dn,OP (BH a b::δ)=J ((.int s,Y),BH c b::δ):=by obtain⟨v,c,d,f,e⟩:=rQ a b 2 (by lia) (by lia);refine⟨if v=0 then 1 else -1,c,by split<;>simp,λδ=>?_⟩;refine lG (o1:= .val (.lst [.int 1,.int (-1)],I)) (δ1:=BH a b::δ) H (jn<|e _ δ _ rfl rfl) H H ?_;rcases(show v=0\/v=1 by lia) with rfl|rfl<;>rfl
def Te{x s:Int}(h:s=1\/s= -1): ∃y,(y=x\/y= -x)/\pW (.int x) (.int s)=ii y:=by
 rcases h with rfl|rfl
 .exact⟨x,.inl H,Ya x⟩
 .exact⟨-x,.inr H,X9 x⟩
abbrev P1:FT:=W6
theorem Tt(b:Bool): ∀(m j:Nat) (a:Int) (c:iR) (x:Sl),1<=j->CA j c->A0 c+m<=10-> ∃f d i,CA (j+m:Nat) d/\(A0 d)<=10/\ku (iT 1) P1 (kd<|iZ pW (iG 1)<|iL OP) ((bv j m).map λ(k:Nat)=>D.int (k:Int)) (c.map .int) [BH a b,x]=J (d.map .int,[BH f b,i])
 |0,j,a,c,x,_,l,t=>⟨a,c,x,by simpa using l,by lia,rfl⟩
 |m+1,j,a,c,x,E,l,t=>by
  obtain⟨v,a1,U,T,n⟩:=rQ a b 2 (by lia) (by lia)
  have Q:P1 [BH a b,ii j]=J (v==0,[BH a1 b,ii j]):=
   lu (o:=Y) (lG (o1:= .val (.int v,Y)) (δ1:=[BH a1 b,ii j]) (o2:= .val (.int 0,Y)) (jn<|n _ [ii j] _ rfl rfl) H H H<|Nm _ _)
  rw[Ao,jU]
  have st: ∀(g:Int) (h:iR),CA (j+1:Nat) h->A0 h+m<=10->(if(v==0)=I then kd (iZ pW (iG 1)<|iL OP) (c.map .int) [BH a1 b,ii j] else J (c.map .int,[BH a1 b,ii j]))=J (h.map .int,[BH g b,ii j])->
    ∃f d i,CA (j+(m+1):Nat) d/\(A0 d)<=10/\ku (iT 1) P1 (kd<|iZ pW (iG 1)<|iL OP) (D.int j::(bv (j+1) m).map λ(k:Nat)=>D.int (k:Int)) (c.map .int) [BH a b,x]=J (d.map .int,[BH f b,i]):=λg h h1 r e=>by
   obtain⟨f,d,i,z,A,B⟩:=Tt b m (j+1) g h (ii j) (by lia) h1 r;refine⟨f,d,i,by rw[show j+(m+1)=j+1+m by lia];exact z,A,?_⟩;rw[ku,show iT 1 (.int j) [BH a b,x]=J [BH a b,ii j] from H];simp only[jJ];rw[Q];simp only[jJ];rw[e];exact B
  by_cases hv:v=0
  .obtain⟨s,g,u,p⟩:=M6 a1 b;obtain⟨y,w,q⟩:=Te (x:=j) u;refine st g (c++[y]) (by have:=l.snoc (s:=y) (by rcases w with rfl|rfl;exact sJ (by lia);exact EV<|by lia) (by lia);simpa using this) (by simp;lia) ?_;rw[hv,iQ (show((0:Int)==0)=I from H),rY,lG (o1:= .slot 1) (δ1:=[BH a1 b,ii j]) H (jn<|p [ii j]) H H q];simp only[jJ];rw[iQ<|uL<|by simp;lia];simp
  .refine st a1 c (by simpa using l.up) (by lia) ?_;rw[jc<|by simpa using hv]
def Cz(n:Nat):jD 1 n=(bv 1 n).map λ(k:Nat)=>D.int (k:Int):=by unfold jD;rw[List.range'_eq_map_range,jP];exact qf λk _=>by simp
def acI(a:Int)(b:Bool)(n:Nat)(h1:1<=n)(E:n<=5): ∃t c,Bl n c/\nE [pS a b,pI n]=J (enc c,[BH t b,ii n]):=by
 obtain⟨a1,c,x,p,U,u⟩:=Tt b n 1 a [] C (by lia) ⟨by simp,by simp⟩ (by simp;lia)
 have Q:zM oE Qi [BH a b,ii n,C]=J ((bv 1 n).map λ(k:Nat)=>D.int (k:Int),[BH a b,ii n,C]):=by rw[Ex (o1:= .val (.int 1,Y)) (o2:= .val (.int<|(n:Int)+1,Y)) (i:=1) (j:=(n:Int)+1) H H H H (by lia)<|by lia,show((n:Int)+1-1).toNat=n by lia,Cz]
 have pre: ∀g,iU (kx 2<|jL [0] 1 (zM oE Qi) (iT 1) P1<|kd<|iZ pW (iG 1)<|iL OP) g [BH a b,ii n,C]=g [BH a1 b,ii n,Ck c]:=λg=>iO<|kz (i:=2) (δ1:=[BH a1 b,ii n,C]) ((xR (caps:=[0]) (args:=[pS a b]) Q H (Lh 0) u).trans H) (show 2<3 by decide)
 have f:fT (iZ HD (iG 2)<|iL<|nC []) [BH a1 b,ii n,Ck c]=J (decide<|c=[],[BH a1 b,ii n,Ck c]):=
  lu (o:=Y) (lG (o1:= .slot 2) (o2:= .val (.lst [],I)) (δ2:=[BH a1 b,ii n,Ck c]) H (jn<|by simp[jQ]) H H<|La c [])
 by_cases e:c=[]
 .obtain⟨i,m,T,L,v⟩:=rQ a1 b n (by lia) (by lia);obtain⟨s,d,l,w⟩:=M6 m b;obtain⟨y,B,A⟩:=Te (x:=1+i) l;have h:ab y=1+i:=by rcases B with rfl|rfl;exact sJ (by lia);exact EV (by lia)
  refine⟨d,[y],⟨by simp,by simp,λz q=>by simp at q;subst q;rw[h];lia⟩,?_⟩;refine kU (δ:=[BH d b,ii n,Ck [y]]) ⟨rfl,by decide,rfl⟩<|(pre _).trans ?_;rw[e] at f;rw[e];refine(iO<|(qZ f).trans<|(iO (δ1:=[BH d b,ii n,Ck [y]])<|kz (i:=2) (δ1:=[BH d b,ii n,Ck []]) (r:=(.lst [.int y],I)) ?_ (show 2<3 by decide)).trans H).trans (jN<|lC<|jC (a:= .lst [.int y]) H<|jR H);refine EI (os:=[.val (.int y,Y)]) (Bw<|jn<|lG (o1:= .val (.int (1+i),Y)) (δ1:=[BH m b,ii n,Ck []]) (jn<|lG (o1:= .val (.int 1,Y)) (δ1:=[BH a1 b,ii n,Ck []]) H (jn<|v _ [ii n,Ck []] (.slot 1) rfl rfl) H H<|XJ _ _) (jn<|w [ii n,Ck []]) H H A) H<|pd (by simp)
 .refine⟨a1,c,⟨e,p.1,λs l=>by have:=p.2 s l;lia⟩,?_⟩;refine kU (δ:=[BH a1 b,ii n,Ck c]) ⟨rfl,by decide,rfl⟩<|(pre _).trans ?_;rw[lj e] at f;exact(iO<|(ni f).trans H).trans (jN<|lC<|jC (a:= .lst (c.map D.int)) H<|jR H)
noncomputable def dC(cs:jo):D:= .BU .dct (cs.map cD) (cs.map λ_=> .bl I)
theorem CS: ∀l:List Int,(Cc<|l.map .int).isSome=I
 |[]=>rfl
 |x::l=>by
  have:=CS l;simp only[jU,Cc,zL]
  cases h:Cc (l.map D.int) with
  |none=>rw[h] at this;cases this
  |some k=>rfl
def JK(c:iR):(zK<|cD c).isSome=I:=CS c
def RQ(a:jo):((a.map cD).all λk=>(zK k).isSome)=I:=by rw[lY];intro d hd;obtain⟨c,_,rfl⟩:=mw.mp hd;exact JK c
def Bc(a:jo)(c:iR):xH (a.map cD) (cD c)=I:=by unfold xH;rw[JK,RQ];simp
theorem Nc(c:iR): ∀a:List (List Int),vI (a.map cD) (a.map λ_=> .bl I) (cD c) (.bl I)=a.map λ_=> .bl I
 |[]=>rfl
 |x::a=>by simp[vI,Nc c a]
def UP(a:jo)(c:iR):D.BU .dct (va (a.map cD) (a.map λ_=> .bl I) (cD c)<|.bl I).1 (va (a.map cD) (a.map λ_=> .bl I) (cD c)<|.bl I).2=dC (qd a c):=by
 unfold va qd dC;rw[Iq];by_cases h:c∈a
 .rw[iQ<|by simpa using h,iQ h,Nc]
 .rw[jc<|by simpa using h,jc h];simp
theorem Er(c:iR): ∀a:List (List Int),(nj (a.map cD) (a.map λ_=> .bl I)<|cD c).isSome=decide (c∈a)
 |[]=>rfl
 |x::a=>by
  simp only[jU,nj,Pg];by_cases h:x=c
  .simp[h]
  .have: ¬c=x:=λe=>h e.symm;simp[h,this,Er c a]
def ac7(c:iR)(cs:jo):qp (cD c) (dC cs)=J (.bl (!decide (c∈cs)),Y):=by show(if xH (cs.map cD) (cD c)=I then J (D.bl (!(nj (cs.map cD) (cs.map λ_=>D.bl I)<|cD c).isSome),Y) else C)=_;rw[iQ<|Bc cs c,Er]
def Ej.add{n:Nat}{a:jo}{c:iR}(h:Ej n a)(b:Bl n c):Ej n (qd a c):=by
 unfold qd;split
 .exact h
 .exact h.snoc b (by assumption)
def JU{i:Nat}{f:F}{g:FO}{a δ1 δ2:Dn}{o:Cm}{x:D×Bool}{b:Bool}{cs:jo}{c:iR}(h1:f a=J ((.bl I,b),δ1))(d:δ1[i]?=J (J x))(e:g δ1=J (o,δ2))(h:res δ2 o=J (cD c))(j:δ2[i]?=J (J (dC cs,I)))(k:(A0 cs)<10000):Fu i f g a=J (.nx<|δ2.set i<|J (dC<|qd cs c,I)):=by unfold Fu;rw[h1];simp only[jJ];rw[d];simp only[];rw[e];simp only[jJ];rw[h,j];unfold dC;simp only[];rw[iQ ⟨Bc cs c,by simpa using k⟩,UP];rfl
abbrev fbD:FS:=W5
def VS(a:Int)(b:Bool){n:Nat}(h1:1<=n)(k:n<=5){d:jo}(l:Ej n d)(f g:Sl): ∃h j,Ej n j/\fbD [BH a b,ii n,f,J (dC d,I),g,C,C,C]=J (.nx [BH h b,ii n,f,J (dC j,I),g,C,C,C]):=by
 obtain⟨h,c,o,e⟩:=acI a b n h1 k;refine⟨h,qd d c,l.add o,(iO (δ1:=[BH h b,ii n,f,J (dC<|qd d c,I),g,C,C,C]) ?_).trans H⟩
 have m:iL Wz [BH a b,ii n,f,J (dC d,I),g,C,C,C]=J (.val<|enc c,[BH h b,ii n,f,J (dC d,I),g,C,C,C]):=
  jn (kj (δ1:=[BH a b,ii n,f,J (dC d,I),g,C,C,C]) (os:=[.slot 0,.slot 1]) (args:=[pS a b,pI n]) H H (Lh 0) e)
 exact JU (i:=3) (b:=Y) H H m H H (by have:=l.len k;lia)
def aaB(b:Bool){n:Nat}(h1:1<=n)(q:n<=5)(g:Sl)(l:List D)(a:Int)(cs:jo)(c:Sl)(m:Ej n cs): ∃i f o,Ej n f/\oy (iT 4) fbD l [BH a b,ii n,g,J (dC cs,I),c,C,C,C]=J (.nx [BH i b,ii n,g,J (dC f,I),o,C,C,C]):=by
 obtain⟨s,⟨i,f,o,k,rfl⟩,e⟩:=xN (fb:=fbD) (tg:=iT 4) (λ_ δ=> ∃a cs c,Ej n cs/\δ=[BH a b,ii n,g,J (dC cs,I),c,C,C,C]) (λd l δ h=>by obtain⟨a,cs,c,m,rfl⟩:=h;obtain⟨a1,j,r,p⟩:=VS a b h1 q m g<|J (d,Y);exact⟨_,_,rfl,p,a1,j,_,r,rfl⟩) l _ ⟨a,cs,c,m,rfl⟩
 exact⟨i,f,o,k,e⟩
abbrev ftF:FT:=fT<|iZ Hq (iG 6)<|iL<|nC []
abbrev fbF:FS:=iU (kx 7<|jg jz [iL<|PX.K5 6,iG 5]) Xe
def RX(fs:jo):Hq (.lst<|fs.map cD) (.lst [])=J (.bl (!decide (fs=[])),Y):=by unfold Hq;rw[iQ ⟨Si fs,by decide⟩];cases fs<;>simp[D.BY,D.D8]
def VR{n:Nat}(m:n<=5){t:iR}(q:TT n t){cs fs:jo}{c:iR}(p:Ej n cs)(v:(A0 fs)<=1000)(s:Bl n c)(a d f g j:Sl):
  fbF [a,d,f,J (dC cs,I),g,eN t,K9<|fs++[c],j]=J (.nx [a,d,f,J (dC<|qd cs<|lc t c,I),g,eN t,K9 (if lc t c∈cs then fs else fs++[lc t c]),eN<|lc t c]):=by
 obtain⟨_,e,rfl⟩:=Es m q s
 have u:iL (PX.K5 6) [a,d,f,J (dC cs,I),g,eN t,K9<|fs++[c],j]=J (.val<|enc c,[a,d,f,J (dC cs,I),g,eN t,K9 fs,j]):=by refine jn ?_;unfold PX.K5;simp[K9]
 refine(iO (δ1:=[a,d,f,J (dC cs,I),g,eN t,K9 fs,eN<|lc t c])<|kz (i:=7) (δ1:=[a,d,f,J (dC cs,I),g,eN t,K9 fs,j]) (kj (δ1:=[a,d,f,J (dC cs,I),g,eN t,K9 fs,j]) (os:=[.val<|enc c,.slot 5]) (args:=[enc c,enc t]) (qD u H) H (by simp[jm]) e) (show 7<8 by decide)).trans ?_
 have k:fT (iZ qp (iG 7)<|iG 3) [a,d,f,J (dC cs,I),g,eN t,K9 fs,eN<|lc t c]=J (!decide (lc t c∈cs),[a,d,f,J (dC cs,I),g,eN t,K9 fs,eN<|lc t c]):=
  lu (jO (ac7 _ _) (jV H).r<|jR H)
 by_cases h:lc t c∈cs
 .rw[mJ h] at k;refine(iO<|(ni k).trans H).trans ?_;rw[iQ h,show qd cs (lc t c)=cs from iQ h];rfl
 .rw[lj h] at k;refine(iO (δ1:=[a,d,f,J (dC<|qd cs<|lc t c,I),g,eN t,K9<|fs++[lc t c],eN<|lc t c])<|(qZ k).trans<|(iO (δ1:=[a,d,f,J (dC<|qd cs<|lc t c,I),g,eN t,K9 fs,eN<|lc t c]) ?_).trans<|(acx (i:=6) (l0:=fs.map cD) (l:=fs.map cD) (r:=enc<|lc t c) (δ1:=[a,d,f,J (dC<|qd cs<|lc t c,I),g,eN t,K9 fs,eN<|lc t c]) H H H<|by simp;lia).trans ?_).trans ?_
  .exact JU (i:=3) (b:=Y) (o:= .slot 7) (cs:=cs) (δ1:=[a,d,f,J (dC cs,I),g,eN t,K9 fs,eN<|lc t c]) (δ2:=[a,d,f,J (dC cs,I),g,eN t,K9 fs,eN<|lc t c]) H H H H H (by have:=p.len m;lia)
  .simp[K9]
  .rw[jc h];rfl
theorem ML{n:Nat}(s:n<=5){t:iR}(u:TT n t)(d f g i:Sl): ∀(a:Nat) (cs fs:jo) (j:Sl),Ej n cs->(∀c∈fs,Bl n c)->A0 fs<=500->2*(243-A0 cs)+A0 fs<a-> ∃l w v,Ej n l/\nZ ftF fbF a [d,f,g,J (dC cs,I),i,eN t,K9 fs,j]=J (.nx [d,f,g,J (dC l,I),i,eN t,w,v])
 |0,_,_,_,_,_,_,h=>by lia
 |a+1,cs,fs,j,r,hf,T,h=>by
  have p:ftF [d,f,g,J (dC cs,I),i,eN t,K9 fs,j]=J (!decide (fs=[]),[d,f,g,J (dC cs,I),i,eN t,K9 fs,j]):=
   lu (o:=Y) (lG (o1:= .slot 6) (o2:= .val (.lst [],I)) (δ2:=[d,f,g,J (dC cs,I),i,eN t,K9 fs,j]) H (jn<|by simp[jQ]) H H<|RX fs)
  by_cases b:fs=[]
  .rw[mJ b] at p;exact⟨cs,_,j,r,Qp p⟩
  .rw[lj b] at p;have e:=LA b;have A:(A0 fs.dropLast)+1=(A0 fs):=by rw[Mf];have:=My.mpr b;lia
   have B:=hf _ (List.getLast_mem b);have y:=VR s u r (fs:=fs.dropLast) (by lia) B d f g i j;rw[e] at y;have Q:=CQ u B;have x:=r.add Q;have m:=x.len s
   obtain⟨l,w,v,E,U⟩:=ML s u d f g i a _ (if lc t (fs.getLast b)∈cs then fs.dropLast else fs.dropLast++[lc t<|fs.getLast b]) (eN<|lc t<|fs.getLast b) x (λc k=>by
    have dl: ∀c∈fs.dropLast,Bl n c:=λc k=>hf c<|List.dropLast_subset _ k;split at k
    .exact dl c k
    .rcases sQ.mp k with z|z
     .exact dl c z
     .cases E7.mp z;exact Q) (by split<;>simp<;>lia) (by
    unfold qd at m ⊢;split
    .rename_i q;simp only[q,kE] at m ⊢;lia
    .rename_i q;simp only[q,jX] at m ⊢;simp at m ⊢;lia)
   exact⟨l,w,v,E,(Qo p y).trans U⟩
def aan(cs:jo)(a:(A0 cs)<=243){k:Int}(h:k=0\/k=1): ∃fs:List (List Int),(∀c∈fs,c∈cs)/\(A0 fs)<=243/\F7 (.lst<|cs.map cD) (.int k)=J (.lst<|fs.map cD,I):=by
 have b:=pd (n:=243) (by decide);rcases h with rfl|rfl
 .refine⟨[],by simp,by simp,?_⟩;show(if(0:Int)<=0/\(0:Int)<1000/\(cs.map cD).length*0<=sizeLine then J (D.lst (ac 0<|cs.map cD).flatten,I) else C)=_;rw[iQ ⟨by decide,by decide,by simp⟩];rfl
 .refine⟨cs,λ_ h=>h,a,?_⟩;show(if(0:Int)<=1/\(1:Int)<1000/\(cs.map cD).length*1<=sizeLine then J (D.lst (ac 1<|cs.map cD).flatten,I) else C)=_;rw[iQ ⟨by decide,by decide,by simp;exact mT a b⟩];simp
def wF(a:Int)(b:Bool)(n:Nat)(f:n<=5): ∃I' d,nk n d/\lM [pS a b,pI n]=A7 ((BX n d,B6),[BH I' b,ii n]):=by
 have E: ∀δ:Dn,Qh (BH a b::ii n::δ)=A7 (decide<|(n:Int)=0,BH a b::ii n::δ):=λδ=>lu (o:=B6)<|jO ((Nm _ _).trans<|by rw[mZ]) (jV AU).r (jE AU).r
 by_cases V:n=0
 .subst V;refine⟨a,[],⟨by lia,⟨by simp,by simp⟩,cK,by simp⟩,?_⟩;refine kU (δ:=[BH a b,ii (0:Nat),AX,AX,AX,AX,AX,AX]) ⟨rfl,by decide,rfl⟩<|jN<|(qZ<|E _).trans<|jN<|lC ?_;exact xQ (a:=(.int 0,B6)) (b:=(.tup [],B6)) AU (by simp)
 .have W:1<=n:=by lia
  obtain⟨u,a1,X,Z,T⟩:=rQ a b 3 (by lia) (by lia)
  let p:List Int:=[3,5,12]
  let m:=p.getD u.toNat 0
  have hm:0<m/\m<=12:=by rcases(show u=0\/u=1\/u=2 by lia) with rfl|rfl|rfl<;>decide
  obtain⟨q,B,q0,q1,G⟩:=rQ a1 b (m+1) (by lia) (by lia);obtain⟨s,rfl⟩: ∃s:Nat,q=s:=⟨q.toNat,by lia⟩
  obtain⟨w,cs,e,x,J⟩:=aaB b W f (ii m) (jD 0 s) B [] AX ⟨by simp,by simp⟩;obtain⟨g,t,z,M⟩:=AG w b n f;have z:=II z;obtain⟨v,j,v0,v1,N⟩:=rQ g b 2 (by lia) (by lia);have L:=x.len f;obtain⟨fs,K,R,U⟩:=aan cs L (k:=if v=0 then 1 else 0) (by split<;>simp);obtain⟨A,O,Q,l,Y⟩:=ML f z (BH j b) (ii n) (ii m) e YR cs fs AX x (λc h=>x.2 c<|K c h) (by lia) (by show _<100000;lia);have y:=l.len f;obtain⟨d,C,S,D⟩:=zU (cs:=A) (qW _ λc P=>(l.2 c P).1) (by lia);have hk:Ej n d:=⟨C.symm.nodup l.1,λc h=>l.2 c<|C.mem_iff.mp h⟩
  refine⟨j,d.take 30,⟨f,hk.take 30,S.take 30,by rw[qP];lia⟩,?_⟩;refine kU (δ:=[BH j b,ii n,ii m,A7 (dC A,I),e,eN t,O,Q]) ⟨rfl,by decide,rfl⟩ ?_;have H:=E [AX,AX,AX,AX,AX,AX];rw[lj (show ¬(n:Int)=0 by lia)] at H;refine(iO<|(ni H).trans AU).trans ?_;refine(iO<|kz (i:=2) (δ1:=[BH a1 b,ii n,AX,AX,AX,AX,AX,AX]) (lG (o1:= .val (.lst<|p.map .int,I)) (o2:= .val (.int u,B6)) (jn (δ1:=[BH a b,ii n,AX,AX,AX,AX,AX,AX])<|by simp[p,jQ]) (jn<|T _ [ii n,AX,AX,AX,AX,AX,AX] _ rfl rfl) AU AU<|aar X<|by simpa[p] using Z) (show 2<8 by decide)).trans ?_;refine(iO (δ1:=[BH a1 b,ii n,ii m,A7 (dC [],I),AX,AX,AX,AX]) AU).trans ?_;refine(iO<|(mY<|xJ (o:= .val (.int s,B6)) (δ1:=[BH B b,ii n,ii m,A7 (dC [],I),AX,AX,AX,AX]) (jn<|G _ [ii n,ii m,A7 (dC [],I),AX,AX,AX,AX] (.val (.int<|m+1,B6)) rfl rfl) AU<|by lia).trans J).trans ?_;refine(iO<|kz (i:=5) (δ1:=[BH g b,ii n,ii m,A7 (dC cs,I),e,AX,AX,AX]) (kj (δ1:=[BH w b,ii n,ii m,A7 (dC cs,I),e,AX,AX,AX]) (os:=[.slot 0,.slot 1]) (args:=[pS w b,pI n]) AU AU (Lh 0) M) (show 5<8 by decide)).trans ?_;refine(iO<|kz (i:=6) (δ1:=[BH j b,ii n,ii m,A7 (dC cs,I),e,eN t,AX,AX]) (lG (o1:= .val (.lst<|cs.map cD,I)) (o2:= .val (.int (if v=0 then 1 else 0),B6)) (δ1:=[BH g b,ii n,ii m,A7 (dC cs,I),e,eN t,AX,AX]) AU (jn<|lG (o1:= .val (.lst [.int 1,.int 0],I)) (δ1:=[BH g b,ii n,ii m,A7 (dC cs,I),e,eN t,AX,AX]) AU (jn<|N _ [ii n,ii m,A7 (dC cs,I),e,eN t,AX,AX] _ rfl rfl) AU AU ?_) AU AU U) (show 6<8 by decide)).trans ?_
  .rcases(show v=0\/v=1 by lia) with rfl|rfl<;>rfl
  refine(iO Y).trans (jN<|lC<|xQ (a:=(.int n,B6)) (b:=(.tup<|(d.take 30).map cD,B6)) AU<|jC (a:= .lst ((d.take 30).map cD)) AU (jE (b:=I) ?_).r);have F:xK (dC A)=A7 (.lst<|d.map cD,I):=D;unfold Br;rw[jn<|jC F<|jR AU];simp only[jJ,UB,aad,Nk];rw[show Pb AX (A7 30) (.lst<|d.map cD)=A7 (.lst<|PX.yZ (d.map cD) AX<|A7 ((30:Nat):Int),I) from AU,V4,eV];rfl
def no{t:FT}{f:FS}{δ:Dn}(g:FS)(h:t δ=J (Y,δ)):iU (FH t f jk) g δ=g δ:=iO<|(ni h).trans H
def Vr(a:jo):ur (.tup<|a.map cD)=ii (A0 a):=by rw[UC,jM]
def zA(ev:Cn)(d:D):Prop:=ev [(d,Y),(d,Y)]=J ((.bl I,Y),[J (d,Y),J (d,Y)])
theorem blU{ev:Cn}: ∀(l a:List D) (x y:Sl),(∀d∈l,zA ev d)->A0 a+A0 l<=10000-> ∃b c,ku zB kr (kd<|jg ev [iG 0,iG 1]) ((l.zip l).map λp=> .tup [p.1,p.2]) a [x,y]=J (a++l.map λ_=> .bl I,[b,c])
 |[],a,x,y,_,_=>⟨x,y,by simp[ku]⟩
 |d::l,a,x,y,h,f=>by
  obtain⟨b,c,e⟩:=blU l (a++[.bl I]) (J (d,Y)) (J (d,Y)) (λg i=>h g<|jZ _ i) (by simp at f ⊢;lia);refine⟨b,c,?_⟩;have j:(A0 a)<sizeLine:=by rw[jQ];simp at f;lia
  simp only[vh,jU,ku];rw[show zB (.tup [d,d]) [x,y]=J [J (d,Y),J (d,Y)] from H];simp only[jJ,uN,kE,rY];rw[Ip (h d jY) (jV H)<|jV H];simp only[jJ];rw[iQ j];simp only[jJ];rw[e];simp
def Ur{ev:Cn}{l:List D}(h: ∀d∈l,zA ev d)(f:(A0 l)<=1000):zA (Cg 2 2 []<|kn ev) (.tup l):=by
 obtain⟨g,i,e⟩:=blU (ev:=ev) l [] C C h (by simp;lia)
 let δ:Dn:=[J (.tup l,Y),J (.tup l,Y)]
 have c:jL [] 2 (uq (iG 0)<|iG 1) zB kr (kd<|jg ev [iG 0,iG 1]) δ=J ((.lst<|l.map λ_=> .bl I,I),δ):=by unfold jL;rw[show uq (iG 0) (iG 1) δ=J ((l.zip l).map λp=> .tup [p.1,p.2],δ) from H];simp only[jJ,rL,CB,jm,sL,kE,tK,rN,eO];rw[e];rfl
 have b:jq (g1 EF) [iL<|jL [] 2 (uq (iG 0)<|iG 1) zB kr<|kd<|jg ev [iG 0,iG 1]] δ=J ((.bl I,Y),δ):=
  jC (a:= .lst (l.map λ_=> .bl I)) (by rw[vd λ_=>I];simp) (jE c).r
 refine kU (δ:=δ) ⟨rfl,by decide,rfl⟩<|jN<|(qZ (δ1:=δ) H).trans ?_;refine(iO<|(ni (δ1:=δ)<|by simp[δ,KA]).trans H).trans (jN<|lC<|(H9 (δ1:=δ) (o:=Y) ?_).trans b);simp[δ]
def Yl(ev:Cn)(i:Int):zA (Cg 2 2 []<|kn ev) (.int i):=by simp[zA,kn,Cg,jw,KA]
def rdU(n:Nat){a:jo}(b:(A0 a)<=1000)(h: ∀c∈a,A0 c<=1000):zA (je RD) (BX n a):=
 Ur (ev:=je 5) (λd hd=>by
  rcases kW.mp hd with rfl|hd
  .exact Yl (je 4) n
  .cases E7.mp hd
   exact Ur (ev:=je 4) (λd hd=>by
    obtain⟨t,e,rfl⟩:=mw.mp hd
    exact Ur (ev:=je 3) (λd hd=>by obtain⟨i,_,rfl⟩:=mw.mp hd;exact Yl (je 2) i)<|by simpa using h t e)<|by simpa using b) (by simp)
def Wt{t:FT}{x y:XS}{a:Dn}(h:t a=J (I,a))(b:R0 a=I):Ni t x y a=x a:=by unfold Ni;rw[h];simp only[jJ];rw[iQ b];rfl
def PT(n m:Nat)(p:iR):Prop:=A0 p=m/\(∀x∈p,SG n x)/\(p.map ab).Nodup
def PT.tt{n:Nat}{t:iR}(h:PT n n t):TT n t:=Jk.mpr ⟨by simp[h.1],λx a=>by obtain⟨y,b,rfl⟩:=mw.mp a;exact h.2.1 y b,h.2.2⟩
def Vm{n m:Nat}{p c:iR}(h:PT n m p)(d:Bl m c):((c.map<|led p).map ab).Nodup:=by
 rw[jP];have f:=FA d.2.1;rw[List.nodup_iff_pairwise_ne] at f ⊢;rw[oD] at f ⊢;refine At ?_ f;intro a b g i l e;simp only[bo] at e;rw[EW h.1<|d.2.2 a g,EW h.1<|d.2.2 b i] at e;have h1:=d.2.2 a g;have o:=d.2.2 b i;have j:(ab a).toNat-1<(p.map ab).length:=by simp[h.1];lia
 have k:(ab b).toNat-1<(p.map ab).length:=by simp[h.1];lia
 simp only[lW,jx j,jx k,kl] at e;have:=(DX h.2.2).mp e
 lia
def RH(p c:iR):mK KP ((c.map<|led p).map D.int)=(lc p c).map D.int:=(F4<|kH KP _).1
def Vs{n m:Nat}(l:m<=5){p c:iR}(h:PT n m p)(e:Bl m c):mW [enc c,enc p]=J (enc<|lc p c,[eN c,eN p]):=by
 have k:=e.len
 have i:wL (.lst<|(c.map<|led p).map D.int)=J (.lst<|(lc p c).map D.int,I):=by
  show(if((c.map<|led p).map D.int).all MJ=I/\(((c.map<|led p).map D.int).map aD).Nodup/\((c.map<|led p).map D.int).length<64 then J (D.lst<|mK KP<|(c.map<|led p).map D.int,I) else C)=_
  have f:((c.map<|led p).map D.int).all MJ=I:=by rw[lY];intro d hd;obtain⟨x,_,rfl⟩:=mw.mp hd;rfl
  have g:(((c.map<|led p).map D.int).map aD).Nodup:=by rw[jP];exact Vm h e
  rw[iQ ⟨f,g,by simp;lia⟩,RH]
 refine Fv ⟨rfl,by decide,rfl⟩<|jC (a:= .lst ((lc p c).map D.int)) H (jE (b:=I)<|jC i (jE (b:=I)<|C7 (args:=[cD p]) (led p) H H H (λx j=>⟨Y,?_⟩)<|by lia).r).r;exact Ip (Yf h.1<|e.2.2 x j) (jV H)<|jV H
def RF{m:Nat}{p:iR}(a:(A0 p)=m)(r:iR){s:Int}(h:SG m s):led (p++r) s=led p s:=by
 obtain⟨k,hk,rfl|rfl⟩:=nu h
 .rw[lF,lF];simp[lW,sP (show k<(A0 p) by lia)]
 .rw[lZ,lZ];simp[lW,sP (show k<(A0 p) by lia)]
def Vw{m:Nat}{p c:iR}(b:(A0 p)=m)(r:iR)(a:Bl m c):lc (p++r) c=lc p c:=by unfold lc;rw[qf λs d=>RF b r<|a.2.2 s d]
noncomputable def Lg(n:Nat):List Int:=((au (2*n+1)).map λ(k:Nat)=> -(n:Int)+k).filter λs=>!(s==0)
noncomputable def K0(n:Nat)(t:iR):List Int:=(Lg n).filter λs=>!t.contains s&&!t.contains (-s)
noncomputable def Ii(n:Nat)(L:jo):List (List Int):=L.flatMap λt=>(K0 n t).map λs=>t++[s]
noncomputable def kP(n:Nat):Nat->List (List Int)
 |0=>[[]]
 |m+1=>Ii n<|kP n m
def P8{n:Nat}{s:Int}:s∈Lg n↔SG n s:=by
 unfold Lg SG;simp only[Cq,mw,yh];constructor
 .rintro⟨⟨k,hk,rfl⟩,b⟩;unfold ab;simp at b;split<;>lia
 .rintro⟨h1,a⟩;unfold ab at h1 a;refine⟨⟨(s+n).toNat,by split at a<;>lia,by split at a<;>lia⟩,by simp;split at h1<;>lia⟩
def rA{n:Nat}: ∀{m:Nat} {t:iR},t∈kP n m->PT n m t:=by
 intro r
 induction r with
 |zero=>intro t h;simp[kP] at h;subst h;exact⟨rfl,λx c=>by simp at c,sL⟩
 |succ m q=>
  intro t h;simp only[kP,Ii,E8,mw] at h;obtain⟨p,o,s,d,rfl⟩:=h;obtain⟨h1,j,k⟩:=q o;unfold K0 at d;simp only[Cq,lA,fv,List.contains_eq_mem,decide_eq_false_iff_not] at d;obtain⟨d,f,g⟩:=d;have sg:=P8.mp d;refine⟨by simp[h1],λx c=>?_,?_⟩
  .rcases sQ.mp c with c|c
   .exact j x c
   .simp at c;subst c;exact sg
  .rw[qg,Gp];refine⟨k,by simp,λa l b i e=>?_⟩;simp at i;subst i;subst e;obtain⟨x,c,e⟩:=mw.mp l;unfold ab at e;have:x=s\/x= -s:=by split at e<;>split at e<;>lia
   rcases this with rfl|rfl
   .exact f c
   .exact g c
def yg: ∀n,n<6-> ∀m,m<6->(kP n m).length<=3840:=by decide+kernel
def Ul: ∀n,n<6->st n∈kP n n:=by decide+kernel
def VE{f g:FO}{δ δ1 δ2:Dn}{o1 o2:Cm}{i j:Int}(h1:f δ=J (o1,δ1))(a:g δ1=J (o2,δ2))(b:res δ2 o1=J (.int i))(c:res δ2 o2=J (.int j))(d: -1000<=i/\i<=1000)(e: -1000<=j/\j<=1000):zM f g δ=J (jD i (j-i).toNat,δ2):=by unfold zM;rw[qD h1 a];simp only[jJ,uZ,b,c];rw[iQ<|by lia]
def abP{n:Nat}(b:n<=5):pe [pI n]=J ((.lst<|(Lg n).map .int,I),[ii n]):=by
 have e:=EK (caps:=[]) (fi:=zM (iL Qf) TM) (f:=kI 0) (ti:=fT<|iZ Hq (iG 0) wU) (δ:=[ii n]) (δ1:=[ii n]) (l:=jD (-(n:Int)) (2*n+1)) (args:=[]) (λd=>d) (λd=>!(Fo d==0)) ?_ H H (λd hd=>?_) (by simp[jD];lia)
 .have a:((jD (-(n:Int)) (2*n+1)).filter λd=>!(Fo d==0)).map (λd=>d)=(Lg n).map .int:=by rw[wr];unfold jD Lg;rw[show(λ(k:Nat)=>D.int (-(n:Int)+k))=D.int∘(λ(k:Nat)=> -(n:Int)+k) from H,<-jP,Dp];rfl
  rw[a] at e;exact Fv ⟨rfl,by decide,rfl⟩ e
 .rw[VE (o1:= .val (.int (-n),Y)) (o2:= .val (.int<|n+1,Y)) (δ1:=[ii n]) (δ2:=[ii n]) H H H H (by lia)<|by lia,show((n:Int)+1- -n).toNat=2*n+1 by lia]
 .obtain⟨k,_,rfl⟩:=mw.mp hd;exact⟨by simp[Fo],λ_=>⟨Y,rfl⟩⟩
abbrev Nq:FT:=pZ (fT TF) TX
abbrev fE:F:=Wy
def Ud(n:Nat)(t:iR)(s:Int):Nq [ii n,eN t,ii s]=J (!t.contains s&&!t.contains (-s),[ii n,eN t,ii s]):=by
 have h1:fT TF [ii n,eN t,ii s]=J (!t.contains s,[ii n,eN t,ii s]):=lu<|jO (zZ s t) (jV H).r (jV H).r;have a:TX [ii n,eN t,ii s]=J (!t.contains (-s),[ii n,eN t,ii s]):=lu<|jO (zZ (-s) t) (jE (b:=Y) H).r (jV H).r;unfold Nq pZ;rw[h1];simp only[jJ];cases t.contains s
 .simp only[Aj,kE,dw];exact a
 .rfl
def YD(n:Nat)(t:iR)(a:(A0 t)<=100)(s:Int):fE [ii n,eN t,ii s]=J ((cD<|t++[s],Y),[ii n,eN t,ii s]):=by refine jO (b:= .tup [.int s]) ?_ (jV H).r (jE (b:=Y)<|by simp[jQ,kI]).r;show nB (.tup<|t.map .int) (.tup [.int s])=_;simp only[nB];rw[iQ<|pd<|by simp;lia,<-kA,<-qg]
theorem PF{n:Nat}(e:n<=5): ∀(L:jo) (a:List D) (x y:Sl),(∀t∈L,A0 t<=100)->A0 a+10*(A0 L)<=sizeLine->
  ∃u b,ku (iT 1) kr (PK (kM<|jg pe [iG 0]) (iT 2) Nq<|kd fE) (L.map cD) a [ii n,x,y]=J (a++(Ii n L).map cD,[ii n,u,b])
 |[],a,x,y,_,_=>⟨x,y,by simp[ku,Ii]⟩
 |t::L,a,x,y,h,o=>by
  have q:(Lg n).length<=10:=by have:=yi (λs:Int=>!(s==0))<|(au (2*n+1)).map λ(k:Nat)=> -(n:Int)+k;rcases(show n=0\/n=1\/n=2\/n=3\/n=4\/n=5 by lia) with rfl|rfl|rfl|rfl|rfl|rfl<;>decide
  simp only[lh] at o
  obtain⟨b,c⟩:=YK (f:=fE) (ti:=Nq) (g:=λd=>cD<|t++[Fo d]) (p:=λd=>!t.contains (Fo d)&&!t.contains (-(Fo d))) (pre:=[ii n,eN t]) ((Lg n).map .int) a y (λd hd=>by obtain⟨s,_,rfl⟩:=mw.mp hd;exact⟨Ud n t s,λ_=>⟨Y,YD n t (h t jY) s⟩⟩) (by simp;lia)
  have j:(((Lg n).map D.int).filter λd=>!t.contains (Fo d)&&!t.contains (-(Fo d))).map (λd=>cD<|t++[Fo d])=((K0 n t).map λs=>t++[s]).map cD:=by rw[Dp,jP,jP];rfl
  rw[j] at c
  have m:((K0 n t).map λs=>t++[s]).length<=10:=by rw[jM];exact mT (yi _ _) q
  obtain⟨x2,v,i⟩:=PF e L (a++((K0 n t).map λs=>t++[s]).map cD) (eN t) b (λr l=>h r<|jZ _ l) (by rw[mR,jM];lia);refine⟨x2,v,?_⟩;rw[jU,ku];rw[show iT 1 (cD t) [ii n,x,y]=J [ii n,eN t,y] from H];simp only[jJ,uN,kE];unfold PK;rw[md<|NS (abP e)<|jV H];simp only[jJ];rw[show ku (iT 2) Nq (kd fE) ((Lg n).map .int) a [ii n,eN t,y]=_ from c];simp only[jJ];refine(show _=_ from i).trans ?_;simp[Ii]
def ada{n:Nat}(a:n<=5)(L:jo)(h: ∀t∈L,A0 t<=100)(b:(A0 L)<=4000):og [pI n,(.lst<|L.map cD,I)]=J ((.lst<|(Ii n L).map cD,I),[ii n,J (.lst<|L.map cD,Y)]):=by obtain⟨c,d,e⟩:=PF a L [] C C h (by rw[jQ];simp;lia);refine kU (δ:=[ii n,J (.lst<|L.map cD,Y)]) ⟨rfl,by decide,rfl⟩<|jN<|lC ?_;exact(xR (caps:=[0]) (l:=L.map cD) (δ1:=[ii n,J (.lst<|L.map cD,Y)]) (args:=[pI n]) (md (o:=Y) H) H sL e).trans H
def ln(c:iR):Nat:=(ab<|c.getLastD 0).toNat
def JD{n:Nat}{c:iR}(h:Bl n c):1<=ln c/\ln c<=n/\Bl (ln c) c:=by
 obtain⟨b,h1,d⟩:=h;rcases DI c with rfl|⟨l,x,rfl⟩
 .exact absurd H b
 rw[DH] at b h1 d ⊢;have e:ln (l++[x])=(ab x).toNat:=by simp[ln,gr]
 have f:=d x (by simp);rw[e];refine⟨by lia,by lia,b,h1,λs a=>⟨(d s a).1,?_⟩⟩;rcases sQ.mp a with a|a
 .rw[qg,uC] at h1;have:=h1.2.2 (ab s) (tL a) (ab x) (by simp)
  lia
 .simp at a;subst a;lia
def Bl.up{n m:Nat}{c:iR}(h:Bl n c)(b:n<=m):Bl m c:=⟨h.1,h.2.1,λs a=>by have:=h.2.2 s a;lia⟩
def RK{n:Nat}{c:iR}(h:Bl n c):Ep (cD c) (.int (-1))=ii (c.getLastD 0):=by
 rcases DI c with rfl|⟨l,x,rfl⟩
 .exact absurd H h.1
 simp only[DH];simp[Ep,KC,Ir,gr];rw[iQ<|by lia,show(-1+(((A0 l):Int)+1)).toNat=(A0 l) by lia];simp
def VH(c:iR)(a:jo):NW (cD c) (.tup<|a.map cD)=J (.bl<|decide<|c∈a,Y):=Ym c a
def HZ(js a:jo)(m:Nat)(t:iR):Bool:=a.all λc=>!decide (ln c<=m)||decide (lc t c∈js)
def Lc(a:jo)(m:Nat):List (List Int):=a.filter λc=>ln c==m
theorem C3{d e:Type}{P:d->Bool}{Q R:e->Bool}{f:d->List e}: ∀L:List d,(∀t∈L,∀u∈f t,R u=(P t&&Q u))->((L.filter P).flatMap f).filter Q=(L.flatMap f).filter R
 |[],_=>rfl
 |t::L,h=>by
  have g:=C3 L λt b=>h t<|jZ _ b;have b:=h t jY;rw[Gu,kS,<-g]
  cases a:P t with
  |true=>
   rw[Dm a,Gu,kS]
   congr 1
   exact m8 λu c=>by rw[b u c,a];rfl
  |false=>
   rw[Dl<|by rw[a];decide];have:(f t).filter R=[]:=List.filter_eq_nil_iff.mpr λu c=>by rw[b u c,a,ez];exact ki
   rw[this];rfl
def ad6{n m:Nat}{b a:jo}(hk: ∀c∈a,Bl n c){t:iR}(f:(A0 t)=m)(s:Int):HZ b a (m+1) (t++[s])=(HZ b a m t&&(Lc a<|m+1).all λc=>decide<|lc (t++[s]) c∈b):=by
 unfold HZ Lc
 induction a with
 |nil=>rfl
 |cons c a g=>
  have e:=JD<|hk c jY;rw[tN,tN,g λc h=>hk c<|jZ _ h];by_cases h1:ln c=m+1
  .rw[Dm<|by simp[h1],tN,mJ (show ln c<=m+1 by lia),lj (show ¬ln c<=m by lia)];simp only[pz,vl,Aj,wv,dw];cases decide (lc (t++[s]) c∈b)<;>cases(a.all λc=>!decide (ln c<=m)||decide (lc t c∈b))<;>rfl
  .rw[Dl<|by simpa using h1];by_cases d:ln c<=m
   .rw[mJ (show ln c<=m+1 by lia),mJ d,Vw f [s]<|e.2.2.up d,gi]
   .rw[lj (show ¬ln c<=m+1 by lia),lj d,gi];rfl
def afh{n m:Nat}{js a:jo}(hk: ∀c∈a,Bl n c):(Ii n<|(kP n m).filter<|HZ js a m).filter (λu=>(Lc a<|m+1).all λc=>decide<|lc u c∈js)=(kP n<|m+1).filter (HZ js a<|m+1):=by refine C3 _ λt b u d=>?_;obtain⟨s,_,rfl⟩:=mw.mp d;exact ad6 hk (rA b).1 s
def X7{n:Nat}{js a:jo}(hk: ∀c∈a,Bl n c)(t:iR):HZ js a 0 t=I:=lY.mpr λc b=>by rw[lj (by have:=(JD<|hk c b).1;lia)];rfl
def X6{n:Nat}{js a:jo}(hk: ∀c∈a,Bl n c)(t:iR):HZ js a n t=a.all λc=>decide (lc t c∈js):=by unfold HZ;rw[Gw,lY,lY];refine forall_congr' λc=>forall_congr' λb=>?_;rw[mJ (JD<|hk c b).2.1];rfl
abbrev Qt:FT:=Xg
abbrev Yy:FS:=iU zC7<|iU (kx 4<|jL [1,6] 1 TU (iT 2) Qt<|kd<|kI 2) jk
noncomputable abbrev Ek(L:jo)(o:Bool):Sl:=J (.lst<|L.map cD,o)
noncomputable abbrev HY(L:jo):Sl:=J (.tup<|L.map cD,Y)
def Qs{n m:Nat}(e:m<=5){js rd:jo}(g: ∀c∈rd,Bl m c)(i:(A0 rd)<=30){t:iR}(h:PT n m t)(o:Bool):Qt [HY js,Ek rd o,eN t]=J (rd.all λc=>decide<|lc t c∈js,[HY js,Ek rd Y,eN t]):=by
 have c:=afm (caps:=[0,2]) (fi:=kM<|kI 1) (f:=iZ NW WJ<|iG 0) (δ:=[HY js,Ek rd o,eN t]) (δ1:=[HY js,Ek rd Y,eN t]) (l:=rd.map cD) (args:=[.tup<|js.map cD,cD t]) (λd=>decide<|lc t (Ks d)∈js) (by cases o<;>exact md (o:=Y) H) H H (λd hd=>by obtain⟨c,a,rfl⟩:=mw.mp hd;rw[nQ];exact⟨Y,jO (b:= .tup (js.map cD)) (VH _ _) (jE (b:=Y)<|Ip (Vs e h<|g c a) (jV H)<|jV H).r (jV H).r⟩) (by simp;lia)
 rw[show(rd.map cD).all (λd=>decide<|lc t (Ks d)∈js)=rd.all λc=>decide (lc t c∈js) by rw[fq];simp only[rK,nQ]] at c;exact lu c
theorem PD{n m:Nat}(g:m<=5){js rd:jo}(i: ∀c∈rd,Bl m c)(f:(A0 rd)<=30): ∀(L:jo) (a:List D) (o:Bool) (x:Sl),(∀t∈L,PT n m t)->A0 a+A0 L<=sizeLine->
  ∃b d,ku (iT 2) Qt (kd<|kI 2) (L.map cD) a [HY js,Ek rd o,x]=J (a++(L.filter λt=>rd.all λc=>decide<|lc t c∈js).map cD,[HY js,Ek rd b,d])
 |[],a,o,x,_,_=>⟨o,x,by simp[ku]⟩
 |t::L,a,o,x,h,q=>by
  have l:=Qs g i f (h t jY) (js:=js) o;have j: ∀t∈L,PT n m t:=λt r=>h t<|jZ _ r;simp only[lh] at q;rw[jU,ku,show iT 2 (cD t) [HY js,Ek rd o,x]=J [HY js,Ek rd o,eN t] from H];simp only[jJ];rw[l];simp only[jJ]
  cases k:rd.all λc=>decide (lc t c∈js) with
  |false=>obtain⟨b,d,e⟩:=PD g i f L a Y (eN t) j (by lia);exact⟨b,d,by rw[jc ki,Dl (p:=λt=>rd.all λc=>decide<|lc t c∈js)<|by rw[k];exact ki];exact e⟩
  |true=>obtain⟨b,d,e⟩:=PD g i f L (a++[cD t]) Y (eN t) j (by simp;lia);refine⟨b,d,?_⟩;rw[iQ H,Dm (p:=λt=>rd.all λc=>decide<|lc t c∈js) k];simp only[rY];rw[show kI 2 [HY js,Ek rd Y,eN t]=J ((cD t,Y),[HY js,Ek rd Y,eN t]) from H];simp only[jJ];rw[iQ<|by lia];simp only[jJ];rw[e];simp
def HX{t:FT}{f g:F}{δ δ1:Dn}{b:Bool}(h:t δ=J (b,δ1)):Lq t f g δ=if b=I then f δ1 else g δ1:=by unfold Lq;rw[h];rfl
theorem xS{n:Nat}(a:n<=5): ∀L:List (List Int),(Ii n L).length<=10*(A0 L)
 |[]=>by simp[Ii]
 |t::L=>by
  have:=xS a L
  have b:((K0 n t).map λs=>t++[s]).length<=10:=by rw[jM];refine mT (yi _ _) ?_;rcases(show n=0\/n=1\/n=2\/n=3\/n=4\/n=5 by lia) with rfl|rfl|rfl|rfl|rfl|rfl<;>decide
  unfold Ii at*;rw[Gu,mR,lh]
  lia
section
variable {n:Nat}{ks js:jo}(g:n<=5)(hk: ∀c∈ks,Bl n c)(j:ks.length<=30)
include g hk j
abbrev Lk(n:Nat)(ks js L:jo)(x y:Sl):Dn:=[J (BX n ks,Y),HY js,ii n,HY ks,Ek L I,x,y]
theorem R8{m:Nat}(T:m+1<=n)(y:Sl): ∃O,Yy (Lk n ks js ((kP n m).filter<|HZ js ks m) (ii<|(m:Int)+1) y)=J (.nx<|Lk n ks js ((kP n<|m+1).filter<|HZ js ks<|m+1) (ii<|(m:Int)+1) O):=by
 have q:=EK (caps:=[5]) (fi:=kM<|kI 3) (f:=kI 1) (ti:=fT Xa) (δ:=Lk n ks js ((kP n m).filter<|HZ js ks m) (ii<|(m:Int)+1) y) (δ1:=Lk n ks js ((kP n m).filter<|HZ js ks m) (ii<|(m:Int)+1) y) (l:=ks.map cD) (args:=[.int<|(m:Int)+1]) (λd=>d) (λd=>ln (Ks d)==m+1) H H H (λd hd=>by
  obtain⟨c,s,rfl⟩:=mw.mp hd;rw[nQ];refine⟨lu (o:=Y)<|jO (a:= .int (ab<|c.getLastD 0)) ?_ (jE (b:=Y)<|jC H (jE (b:=Y)<|jO (RK<|hk c s) (jV H).r (jE (b:=Y) H).r).r).r (jV H).r,λ_=>⟨Y,rfl⟩⟩;have Q:0<=ab (c.getLastD 0):=by unfold ab;split<;>lia
  have:(ln c==m+1)=decide (ab (c.getLastD 0)=(m:Int)+1):=by
   unfold ln;generalize ab (c.getLastD 0)=x at*;by_cases h:x=(m:Int)+1
   .rw[mJ h,h];simp
   .rw[lj h];simp;lia
  rw[this];generalize ab (c.getLastD 0)=x;simp[HD,D.BY,D.dep,mZ]) (by simp;lia)
 rw[adB] at q;have er:(ks.filter λt=>ln (Ks<|cD t)==m+1)=Lc ks (m+1):=by simp only[nQ];rfl
 rw[er] at q
 have L: ∀c∈Lc ks (m+1),Bl (m+1) c:=λc s=>by obtain⟨h1,v⟩:=Cq.mp s;have:=JD<|hk c h1;rw[Gq] at v;rw[<-v];exact this.2.2
 have z:(Lc ks<|m+1).length<=30:=mT (yi _ _) j;have A: ∀t∈(kP n m).filter (HZ js ks m),PT n m t:=λt k=>rA (Cq.mp k).1;have B:((kP n m).filter<|HZ js ks m).length<=3840:=mT (yi _ _)<|yg n (by lia) m (by lia)
 have M: ∀t∈Ii n ((kP n m).filter<|HZ js ks m),PT n (m+1) t:=λt k=>by refine rA (m:=m+1) ?_;obtain⟨p,U,N⟩:=E8.mp k;exact E8.mpr ⟨p,(Cq.mp U).1,N⟩
 have E:(Ii n<|(kP n m).filter<|HZ js ks m).length<=38400:=by
  have:=xS g<|(kP n m).filter<|HZ js ks m
  lia
 obtain⟨u,G,e⟩:=PD (n:=n) (m:=m+1) (by lia) (js:=js) L z (Ii n<|(kP n m).filter<|HZ js ks m) [] I C M (by rw[jQ];simp;lia);rw[tK,afh hk] at e;refine⟨Ek (Lc ks<|m+1) u,?_⟩
 have w:jL [1,6] 1 TU (iT 2) Qt (kd<|kI 2) (Lk n ks js ((kP n m).filter<|HZ js ks m) (ii<|(m:Int)+1)<|Ek (Lc ks<|m+1) I)=J ((.lst<|((kP n<|m+1).filter<|HZ js ks<|m+1).map cD,I),[rS n ks,HY js,ii n,HY ks,Ek ((kP n m).filter<|HZ js ks m) Y,ii<|(m:Int)+1,Ek (Lc ks<|m+1) u]):=by
  refine(xR (caps:=[1,6]) (args:=[(.tup<|js.map cD,Y),(.lst<|(Lc ks<|m+1).map cD,I)]) (δ1:=[rS n ks,HY js,ii n,HY ks,Ek ((kP n m).filter<|HZ js ks m) Y,ii<|(m:Int)+1,Ek (Lc ks<|m+1) I]) (md (o:=I) ?_) H (Lh 6) e).trans ?_
  .exact kj (δ1:=Lk n ks js ((kP n m).filter<|HZ js ks m) (ii<|(m:Int)+1)<|Ek (Lc ks<|m+1) I) (os:=[.slot 2,.slot 4]) (args:=[pI n,(.lst<|((kP n m).filter<|HZ js ks m).map cD,I)]) H H (Lh 4) (ada g _ (λt k=>by have:=(A t k).1;lia) (by lia))
  .cases u<;>rfl
 exact(iO<|kz q (show 6<7 by decide)).trans ((iO<|kz (i:=4) w (show 4<7 by decide)).trans H)
theorem Bb:oh [(BX n ks,Y),(.tup<|js.map cD,Y)]=J ((.lst<|((kP n n).filter λt=>ks.all λc=>decide<|lc t c∈js).map cD,I),[rS n ks,HY js]):=by
 obtain⟨_,⟨m,x,y,i,rfl⟩,e⟩:=xN (tg:=iT 5) (fb:=Yy) (λds δ=> ∃(m:Nat) (x y:Sl),(m<=n/\ds=(bv (m+1)<|n-m).map λ(k:Nat)=>D.int (k:Int))/\δ=Lk n ks js ((kP n m).filter<|HZ js ks m) x y) (λd ds δ U=>by
  obtain⟨m,x,y,⟨h1,a⟩,h⟩:=U
  subst h
  have l:m<n:=by
   rcases zn m n with h|h
   .exact h
   .rw[show n-m=0 by lia] at a;cases a
  rw[show n-m=(n-(m+1))+1 by lia,Ao,jU] at a;obtain⟨rfl,rfl⟩:=wd a;obtain⟨o,e⟩:=R8 (js:=js) g hk j (m:=m) (by lia) y
  exact⟨_,_,rfl,e,m+1,_,o,⟨l,rfl⟩,rfl⟩) ((bv 1 n).map λ(k:Nat)=>D.int (k:Int)) (Lk n ks js [[]] C C) ⟨0,C,C,⟨lX _,rfl⟩,by rw[Wh.mpr λt _=>X7 hk t];rfl⟩
 obtain⟨p,f⟩:=i
 have b:m=n:=by
  rcases zn m n with h|h
  .rw[show n-m=(n-(m+1))+1 by lia,Ao] at f;cases f
  .lia
 subst b;rw[m8 λt _=>X6 hk t] at e;refine kU (δ:=[rS m ks,HY js,ii m,HY ks,C,x,y]) ⟨rfl,by decide,rfl⟩ ?_;refine(iO (δ1:=[rS m ks,HY js,ii m,HY ks,C,C,C]) H).trans ((iO (δ1:=Lk m ks js [[]] C C)<|by simp[jQ]).trans ?_);refine(iO<|(mY (ds:=(bv 1 m).map λ(k:Nat)=>D.int (k:Int)) (δ1:=Lk m ks js [[]] C C) ?_).trans e).trans (jN ?_)
 .rw[Ex (o1:= .val (.int 1,Y)) (o2:= .val (.int<|(m:Int)+1,Y)) (δ2:=Lk m ks js [[]] C C) H H H H (by lia)<|by lia,show((m:Int)+1-1).toNat=m by lia,Cz]
 .rfl
theorem aby:qE [(BX n ks,Y)]=J ((.lst<|((kP n n).filter λt=>ks.all λc=>decide<|lc t c∈ks).map cD,I),[rS n ks]):=by
 refine Fv ⟨rfl,by decide,rfl⟩<|Ip (b:=BX n ks) (outs:=[rS n ks,rS n ks]) ?_ (jV H)<|jV H;refine Fv ⟨rfl,by decide,rfl⟩ (δ:=[rS n ks,rS n ks])<|(HX (b:=I) (δ1:=[rS n ks,rS n ks])<|lu (o:=Y)<|jO (a:= .int (A0 ks)) (aeQ<|by simp[D.dep]) (jE (b:=Y)<|jC ?_ (jE (b:=Y)<|jO H (jV H).r (jE H).r).r).r (jE (b:=Y)<|jC ?_ (jE (b:=Y)<|jO H (jV H).r (jE H).r).r).r).trans ?_
 .simp[ur]
 .simp[ur]
 .exact Ip (Bb g hk j) (jV H) (jE (b:=Y)<|jO H (jV H).r (jE H).r)
end
noncomputable abbrev dS(n:Nat)(a b:Sl)(F:jo)(c d:Sl):Dn:=[ii n,a,b,Ek F I,c,d]
def Vz: ∀c:List Int,Cc (c.map .int)=J (c.map cJ):=by
 intro b
 induction b with
 |nil=>exact H
 |cons x c a=>simp only[jU,Cc,zL,jJ];rw[a];rfl
def Vx: ∀a:List (List Int),KZ (a.map λc=> .tup [cD c,.bl I])=J (a.map λc=>c.map cJ):=by
 intro d
 induction d with
 |nil=>exact H
 |cons c a b=>simp only[jU,KZ,kyT];rw[b,show zK (cD c)=J (c.map cJ) from Vz c];rfl
def aeR{d:jo}(h:d.Nodup)(g:(A0 d)<=1000):Bk (.lst<|d.map λc=> .tup [cD c,.bl I])=J (dC d,I):=by
 show((KZ<|d.map λc=> .tup [cD c,.bl I]).bind λd=>if (A0 d)<=1000/\d.Nodup then J (D.BU .dct (d.map λk=> .tup (k.map kf))<|d.map λ_=> .bl I,I) else C)=_;rw[Vx];simp only[jJ];have i:(d.map λc=>c.map (cJ:Int->Key)).Nodup:=z9 _ (λa b f e=>f<|(List.map_inj_right λ_ _ e=>Sum.inl.inj e).mp e) h;rw[iQ ⟨by simpa using g,i⟩];unfold dC;rw[jP,jP]
 have:((λk:List Key=>D.tup<|k.map kf)∘λc:List Int=>c.map cJ)=cD:=by funext c;simp only[bo,jP,cD];rfl
 rw[this];rfl
abbrev fDc(i:Nat):F:=jq (g1 Bk) [iL<|jL [] 1 (kM<|iZ Ep (iG i) oE) (iT 0) kr Wu]
def VW{n i:Nat}{a:jo}{δ:Dn}(c:δ[i]?=J (rS n a))(h:a.Nodup)(g:(A0 a)<=1000):fDc i δ=J ((dC a,I),δ):=by
 refine jC (aeR h g) (jE (b:=I) ?_).r;have e:=sG (caps:=[]) (fi:=kM<|iZ Ep (iG i) oE) (f:=nh [kI 0,AA]) (δ:=δ) (δ1:=δ) (l:=a.map cD) (args:=[]) (λd=> .tup [d,.bl I]) ?_ H H (λd hd=>⟨Y,by simp[jQ,kI]⟩) (by simp;lia)
 .rw[jP] at e;exact e
 .rw[Jb,jO (r:=(.tup<|a.map cD,Y)) H (jV c).r (jE H).r];rfl
section
variable {n:Nat}{a:jo}(h:nk n a){d:D}(hd:OkD d)
include h hd
end
section
variable {n:Nat}{a:jo}(h:nk n a)
include h
end
def adk{l m:iR}(h:l.Perm m)(e:m.Pairwise (· < ·)):mK EO (l.map .int)=m.map .int:=by
 have d:(m.map D.int).Pairwise (λa b=>EO b a=Y):=by
  rw[oD];refine e.imp λ{a b} h=>?_;have h1: ¬b<a:=by lia
  have c: ¬b=a:=by lia
  rw[rh];simp[cT,h1,c]
 refine L9 (λx y f g h1 c=>?_) (ph _) d<|(kH EO _).trans<|h.map _;obtain⟨i,_,rfl⟩:=mw.mp<|(kH EO<|l.map D.int).mem_iff.mp f;obtain⟨j,_,rfl⟩:=mw.mp g;rw[adM c h1]
abbrev MN(t:iR)(s:Int):Bool:=!t.contains s&&!t.contains (-s)
def qy(n:Nat)(t:iR):List Int:=(st n).filter<|MN t
def Uo: ∀n,n<6->(Lg n).Pairwise (· < ·):=by decide+kernel
def OZ{n:Nat}(a:n<=5)(t:iR):(K0 n t).Pairwise (· < ·):=(Uo n<|by lia).filter _
def R3{n:Nat}(k:n<=5)(t:iR):(qy n t++(qy n t).map (- ·)).Perm (K0 n t):=by
 have h1:(qy n t).Nodup:=((SU n).imp λ{a b} h=>by omega).filter _;have d: ∀x,x∈qy n t↔(1<=x/\x<=n)/\MN t x=I:=λx=>by unfold qy;rw[Cq,Km]
 refine(Lz ?_ ?_).mpr λx=>?_
 .refine Gp.mpr ⟨h1,?_,λa g b i e=>?_⟩
  .show List.Pairwise (· ≠ ·) _;rw[oD];exact AC (λ{a b} h e=>h<|by omega) h1
  .apply FL;intro m l;obtain⟨c,j,rfl⟩:=mw.mp i;apply l;have:=((d a).mp g).1;have:=((d c).mp j).1;omega
 .exact(OZ k t).imp λ{a b} h=>by omega
 .unfold K0;rw[sQ,mw,Cq,P8];constructor
  .rintro(h|⟨y,h,rfl⟩)
   .have:=(d x).mp h;refine⟨?_,this.2⟩;unfold SG ab;split<;>omega
   .have:=(d y).mp h;refine⟨?_,by simpa[MN,vr] using this.2⟩;unfold SG ab;split<;>omega
  .rintro⟨h1,f⟩;unfold SG ab at h1;by_cases o:0<=x
   .left;exact(d x).mpr ⟨by split at h1<;>omega,f⟩
   .right;exact⟨-x,(d (-x)).mpr ⟨by split at h1<;>omega,by simpa[MN,vr] using f⟩,by omega⟩
def ad5{n:Nat}(a:n<=5)(t:iR):mK EO ((qy n t++(qy n t).map (- ·)).map .int)=(K0 n t).map .int:=adk (R3 a t)<|OZ a t
def p4(t:iR):D->Bool
 | .int s=>MN t s
 |_=>Y
abbrev P2:FT:=pZ (fT TC) TV
def Ue(t:iR)(s:Int):P2 [eN t,ii s]=J (MN t s,[eN t,ii s]):=by
 have h1:fT TC [eN t,ii s]=J (!t.contains s,[eN t,ii s]):=lu<|jO (zZ s t) (jV H).r (jV H).r;have a:TV [eN t,ii s]=J (!t.contains (-s),[eN t,ii s]):=lu<|jO (zZ (-s) t) (jE (b:=Y) H).r (jV H).r;unfold P2 pZ MN;rw[h1];simp only[jJ];cases t.contains s
 .simp only[Aj,kE,dw];exact a
 .rfl
abbrev fR4:F:=jL [4] 1 T3 (iT 1) P2 Kc
def Uu{n:Nat}(h:n<=5)(a b:Sl)(F:jo)(t:iR)(e:Sl):fR4 (dS n a b F (eN t) e)=J ((.lst<|(qy n t).map .int,I),dS n a b F (eN t) e):=by
 have g:T3 (dS n a b F (eN t) e)=J ((st n).map .int,dS n a b F (eN t) e):=by refine(Ex (o1:= .val (.int 1,Y)) (o2:= .val (.int<|(n:Int)+1,Y)) (i:=1) (j:=(n:Int)+1) H H H H (by lia)<|by lia).trans ?_;rw[show((n:Int)+1-1).toNat=n by lia];simp[jD,st]
 have c:=EK (caps:=[4]) (f:=kI 1) (ti:=P2) (args:=[cD t]) (l:=(st n).map .int) id (p4 t) g H H (λd hd=>by obtain⟨s,_,rfl⟩:=mw.mp hd;exact⟨Ue t s,λ_=>⟨Y,rfl⟩⟩) (by simp[AK];lia)
 refine c.trans ?_;rw[qt,Dp];rfl
abbrev fN4:F:=jL [] 1 (kM<|kI 5) (iT 0) kr<|kd Qf
abbrev fS4:F:=jq (g1 lR) [iL<|iZ nB (iG 5)<|iL fN4]
abbrev fX4:F:=jL [4] 1 (kM fS4) (iT 1) kr WM
abbrev d5(n:Nat)(a b:Sl)(F:jo)(t:iR)(o:Bool):Dn:=dS n a b F (eN t)<|J (.lst<|(qy n t).map .int,o)
def IW(n:Nat)(t:iR):(qy n t).length<=n:=by have:=yi (MN t)<|st n;rw[AK] at this;exact this
def Ry{n:Nat}(e:n<=5)(a b:Sl)(F:jo)(t:iR):fN4 (d5 n a b F t I)=J ((.lst (((qy n t).map (- ·)).map .int),I),d5 n a b F t Y):=by
 have c:=sG (caps:=[]) (fi:=kM<|kI 5) (f:=lL zO<|iG 0) (δ:=d5 n a b F t I) (δ1:=d5 n a b F t Y) (l:=(qy n t).map .int) (args:=[]) (λd=>match d with| .int s=> .int (-s)|d=>d) (md (o:=Y) H) H H (λd hd=>by obtain⟨s,_,rfl⟩:=mw.mp hd;exact⟨Y,rfl⟩) (by have:=IW n t;simp;lia)
 refine c.trans ?_;simp[jP,rK]
def Qv{n:Nat}(d:n<=5)(b c:Sl)(F:jo)(t:iR):fS4 (d5 n b c F t I)=J ((.lst<|(K0 n t).map .int,I),d5 n b c F t Y):=by
 have e:=IW n t
 have a:iZ nB (iG 5) (iL fN4) (d5 n b c F t I)=J ((.lst ((qy n t++(qy n t).map (- ·)).map .int),I),d5 n b c F t Y):=by unfold iZ;rw[show iG 5 (d5 n b c F t I)=J (.slot 5,d5 n b c F t I) from H];simp only[jJ];rw[jn<|Ry d b c F t];simp only[jJ];rw[show res (d5 n b c F t Y) (.slot 5)=J (.lst<|(qy n t).map .int) from H];simp only[jJ,res];rw[qg];simp only[nB];rw[iQ<|pd<|by simp;lia];rfl
 refine ux (os:=[.val (.lst ((qy n t++(qy n t).map (- ·)).map .int),I)]) (ds:=[.lst ((qy n t++(qy n t).map (- ·)).map .int)]) ?_ H ?_
 .simp only[kO];rw[jn a];rfl
 .show lR _=_;rw[abJ _ (by simp;lia),ad5 d t]
def Sf{n:Nat}(h:n<=5)(e g:Sl)(F:jo){t:iR}(j:(A0 t)<=100):fX4 (d5 n e g F t I)=J ((.lst<|((K0 n t).map λs=>t++[s]).map cD,I),d5 n e g F t Y):=by
 have i:(K0 n t).length<=10:=by have:=xS h [t];simpa[Ii] using this
 have c:=sG (caps:=[4]) (fi:=kM fS4) (f:=iZ nB (iG 0)<|iL<|nh [kI 1]) (δ:=d5 n e g F t I) (δ1:=d5 n e g F t Y) (l:=(K0 n t).map .int) (args:=[cD t]) (λd=>match d with| .int s=>cD (t++[s])|d=>d) (md<|Qv h e g F t) H H (λd hd=>by obtain⟨s,_,rfl⟩:=mw.mp hd;refine⟨Y,?_⟩;refine jO (a:=cD t) (b:= .tup [.int s]) ?_ (jV H).r (jE (b:=Y)<|by simp[jQ,kI,EG]).r;show nB (.tup<|t.map .int) (.tup [.int s])=_;simp only[nB];rw[iQ<|pd<|by simp;lia,<-kA,<-qg]) (by simp;lia)
 refine c.trans ?_;simp[jP,rK]
abbrev Sb:FS:=iU (kx 5 fR4)<|iU (nO<|uW 3 fX4) jk
def Sa{n:Nat}(c:n<=5)(a b:Sl){t:iR}(f:(A0 t)<=100)(F:jo)(h:F.length<=90000)(d:Sl): ∃g,Sb (dS n a b F (eN t) d)=J (.nx<|dS n a b (F++(K0 n t).map λs=>t++[s]) (eN t) g):=by
 have i:(K0 n t).length<=10:=by have:=xS c [t];simpa[Ii] using this
 refine⟨J (.lst<|(qy n t).map .int,Y),(iO<|kz (Uu c a b F t d)<|by simp).trans<|(iO (δ1:=dS n a b (F++(K0 n t).map λs=>t++[s]) (eN t)<|J (.lst<|(qy n t).map .int,Y)) ?_).trans H⟩;show nO (uW 3 fX4) (d5 n a b F t I)=_;rw[QM];unfold uW;rw[Sf c a b F f];have e:F.length+(K0 n t).length<=16777216:=by lia
 simp[jQ,e]
def Yv{n:Nat}(p:n<=5)(b c:Sl)(k:FS)(g: ∀{t:iR},A0 t<=100-> ∀F:List (List Int),F.length<=90000-> ∀a:Sl,∃f,k (dS n b c F (eN t) a)=J (.nx<|dS n b c (F++(K0 n t).map λs=>t++[s]) (eN t) f)): ∀(L F:jo) (d a:Sl),(∀t∈L,A0 t<=100)->F.length+10*(A0 L)<=80000-> ∃j f,oy (iT 4) k (L.map cD) (dS n b c F d a)=J (.nx<|dS n b c (F++Ii n L) j f):=by
 intro r
 induction r with
 |nil=>intro F d a _ _;exact⟨d,a,by simp[oy,Ii]⟩
 |cons t L q=>
  intro F d a h o;simp only[lh] at o;obtain⟨u,m⟩:=g (h t jY) F (by lia) a;have l:=xS p [t];have i:Ii n [t]=(K0 n t).map λs=>t++[s]:=by simp[Ii]
  rw[i] at l;simp only[yA] at l;obtain⟨j,f,e⟩:=q (F++(K0 n t).map λs=>t++[s]) (eN t) u (λt i=>h t<|jZ _ i) (by rw[mR];lia);refine⟨j,f,?_⟩;rw[jU];unfold oy;rw[show iT 4 (cD t) (dS n b c F d a)=J (dS n b c F (eN t) a) from H];simp only[jJ];rw[m];refine(show _=_ from e).trans ?_;simp[Ii]
def Yw{n:Nat}(e:n<=5)(a b:Sl)(L F:jo)(d c:Sl)(h: ∀t∈L,A0 t<=100)(g:F.length+10*(A0 L)<=80000): ∃k j,oy (iT 4) Sb (L.map cD) (dS n a b F d c)=J (.nx<|dS n a b (F++Ii n L) k j):=Yv e a b Sb (λi F f c=>Sa e a b i F f c) L F d c h g
abbrev YA:FS:=iU (kx 3<|nC [])<|iU (tu Kd (iT 4) Sb)<|iU (kx 1<|kI 3) jk
def Sd{n:Nat}(i:n<=5)(L:jo)(h: ∀t∈L,A0 t<=100)(j:(A0 L)<=4000)(o:Bool)(a g b c:Sl): ∃f d,YA [ii n,Ek L o,a,g,b,c]=J (.nx [ii n,Ek (Ii n L) Y,a,Ek (Ii n L) Y,f,d]):=by obtain⟨f,d,e⟩:=Yw i (Ek L Y) a L [] b c h (by simp;lia);refine⟨f,d,(iO (δ1:=[ii n,Ek L o,a,Ek [] I,b,c])<|by simp[jQ]).trans<|(iO<|(mY<|md (o:=Y) (by cases o<;>rfl)).trans e).trans H⟩
def ab8{n:Nat}(j:n<=5): ∃o,oP [pI n]=J ((.lst<|(kP n n).map cD,o),[ii n]):=by
 obtain⟨_,⟨m,o,f,a,b,c,g,rfl⟩,e⟩:=xN (tg:=iT 2) (fb:=YA) (λds δ=> ∃(m:Nat) (o:Bool) (f a b c:Sl),(m+A0 ds=n)/\δ=[ii n,Ek (kP n m) o,f,a,b,c]) (λd ds δ i=>by obtain⟨m,o,f,a,b,c,h1,h⟩:=i;subst h;simp only[lh] at h1;obtain⟨p,l,e⟩:=Sd j (kP n m) (λt k=>by have:=(rA k).1;lia) (by have:=yg n (by lia) m (by lia);lia) o (J (d,Y)) a b c;exact⟨_,_,rfl,e,m+1,Y,_,_,_,_,by lia,rfl⟩) (jD 0 n) [ii n,Ek [[]] I,C,C,C,C] ⟨0,I,C,C,C,C,by simp[jD],rfl⟩
 simp only[vf,hH] at g;subst g;refine⟨o,?_⟩;cases o
 .refine kU (δ:=[ii m,Ek (kP m m) Y,f,a,b,c]) ⟨rfl,by decide,rfl⟩ ((iO (δ1:=[ii m,Ek [[]] I,C,C,C,C])<|by simp[jQ]).trans<|(iO<|(mY ?_).trans e).trans<|jN H);exact xJ (o:= .slot 0) H H (by lia)
 .refine kU (δ:=[ii m,C,f,a,b,c]) ⟨rfl,by decide,rfl⟩ ((iO (δ1:=[ii m,Ek [[]] I,C,C,C,C])<|by simp[jQ]).trans<|(iO<|(mY ?_).trans e).trans<|jN H);exact xJ (o:= .slot 0) H H (by lia)
def ac6(c:iR)(a:jo):qp (cD c) (dC a)=J (.bl (!decide (c∈a)),Y):=by unfold qp dC;simp only;rw[iQ<|Bc a c,Er]
abbrev HW:FS:=Xf
def Yt{n:Nat}(s:n<=5){t:iR}(u:TT n t)(a:jo)(b:Bool)(f:Sl): ∀(g:jo) (x:Sl),(∀c∈g,Bl n c)-> ∃j,oy (iT 3) HW (g.map cD) [f,J (dC a,b),eN t,x]=if(g.all λc=>decide<|lc t c∈a)=I then J (.nx [f,J (dC a,b),eN t,j]) else J (.rt (.bl Y,Y) [f,J (dC a,b),eN t,j]):=by
 intro w
 induction w with
 |nil=>intro x _;exact⟨x,rfl⟩
 |cons c g v=>
  intro x h;have p:=h c jY;obtain⟨y,q,rfl⟩:=Es s u p;have i:fT W0 [f,J (dC a,b),eN t,eN c]=J (!decide (lc t c∈a),[f,J (dC a,b),eN t,eN c]):=lu<|jO (b:=dC a) (ac6 _ _) (jE (b:=Y)<|Ip q (jV H)<|jV H).r<|jR H
  have l:oy (iT 3) HW ((c::g).map cD) [f,J (dC a,b),eN t,x]=(HW [f,J (dC a,b),eN t,eN c]).bind λo=>match o with
   | .nx d=>oy (iT 3) HW (g.map cD) d
   | .ct d=>oy (iT 3) HW (g.map cD) d
   | .bk d=>J<|.nx d
   | .rt r d=>J (.rt r d):=rfl
  rw[l,tN];by_cases k:lc t c∈a
  .rw[mJ k] at i ⊢;obtain⟨j,e⟩:=v (eN c) λc m=>h c<|jZ _ m;refine⟨j,?_⟩;have s1:HW [f,J (dC a,b),eN t,eN c]=J (.nx [f,J (dC a,b),eN t,eN c]):=(iO<|(ni i).trans H).trans H;rw[s1];exact e
  .rw[lj k] at i ⊢;refine⟨eN c,?_⟩;have s1:HW [f,J (dC a,b),eN t,eN c]=J (.rt (.bl Y,Y) [f,J (dC a,b),eN t,eN c]):=jN<|(qZ i).trans H;rw[s1];rfl
def acq{n:Nat}(i:n<=5){t:iR}(j:TT n t)(d a:jo)(hk: ∀c∈a,Bl n c)(b:Bool):oQ [(BX n a,Y),(dC d,b),enc t]=J ((.bl<|a.all λc=>decide<|lc t c∈d,Y),[J (BX n a,Y),J (dC d,b),eN t]):=by
 obtain⟨x,e⟩:=Yt i j d b (J (BX n a,Y)) a C hk;have h: ∀x,jw [(BX n a,Y),(dC d,b),enc t] [J (BX n a,Y),J (dC d,b),eN t,x]=[J (BX n a,Y),J (dC d,b),eN t]:=λx=>by cases b<;>rfl
 cases g:a.all λc=>decide (lc t c∈d) with
 |true=>
  rw[g,iQ H] at e;have q:=kU (n:=4) (np:=3) (asg:=[3]) (f:=oO) (args:=[(BX n a,Y),(dC d,b),enc t]) (r:=(.bl I,Y)) (δ:=[J (BX n a,Y),J (dC d,b),eN t,x]) ⟨rfl,by decide,by cases b<;>rfl⟩<|(iO<|(mY H).trans e).trans<|jN H
  rwa [h] at q
 |false=>
  rw[g,jc ki] at e;have q:=kU (n:=4) (np:=3) (asg:=[3]) (f:=oO) (args:=[(BX n a,Y),(dC d,b),enc t]) (r:=(.bl Y,Y)) (δ:=[J (BX n a,Y),J (dC d,b),eN t,x]) ⟨rfl,by decide,by cases b<;>rfl⟩<|jN<|(mY H).trans e
  rwa [h] at q
section
variable {d:D}{lo a:Int}
end
section
variable {n m:Nat}{V R:jo}{d:D}
end
section
variable {n:Nat}{L a V R:jo}{d:D}
end
section
variable {a b c:D}
end
section
variable {n:Nat}{d:D}
end
section
variable {n:Nat}{L a c V F:jo}{d:D}{b:iR}
end
section
variable {n:Nat}{c:jo}(h:nk n c)
include h
omit h in
theorem Wl:Qk [ii n]=J (decide<|(n:Int)>4,[ii n]):=lu (o:=Y)<|jO (a:= .int n) (b:= .int 4) (XF _ _) (jV H).r (jE H).r
omit h in
theorem V6(a:n<=4):lU [pI n]=J ((.B7,Y),[ii n]):=by have e:lT [ii n]=J (.nx [ii n]):=(no (δ:=[ii n]) _ (Wl.trans<|by rw[lj<|by lia])).trans H;simp only[lU,Cg];rw[iQ ⟨rfl,by decide,rfl⟩];show(match lT [ii n] with|some (.rt r δ)=>J (r,jw _ δ)|some (.nx δ)=>J ((D.B7,Y),jw _ δ)|_=>C)=_;rw[e];rfl
end
def aau(ev:Cn)(i j:Int):Cg 2 2 [] (kn ev) [pI i,pI j]=J ((.bl<|decide<|i=j,Y),[ii i,ii j]):=by
 have e:iZ HD (iG 0) (iG 1) [ii i,ii j]=J ((.bl<|decide<|i=j,Y),[ii i,ii j]):=jO ((Nm i j).trans<|by rw[mZ]) (jV H).r (jV H).r;refine kU (δ:=[ii i,ii j]) ⟨rfl,by decide,rfl⟩<|(iO<|(ni (δ1:=[ii i,ii j]) H).trans H).trans<|jN<|lC ?_
 cases h:decide (i=j) with
 |false=>rw[h] at e;exact VY e
 |true=>rw[h] at e;exact(H9 e).trans H
def blZ{ev:Cn}(h: ∀i j,ev [pI i,pI j]=J ((.bl<|decide<|i=j,Y),[ii i,ii j])): ∀(a b:iR) (c:List D) (x y:Sl),A0 c+A0 a<=10000-> ∃d f,ku zB kr (kd<|jg ev [iG 0,iG 1]) (((a.map D.int).zip<|b.map D.int).map λp=> .tup [p.1,p.2]) c [x,y]=J (c++(a.zip b).map λp=> .bl (decide<|p.1=p.2),[d,f]):=by
 intro a
 induction a with
 |nil=>intro b c x y _;exact⟨x,y,by simp[ku]⟩
 |cons i a l=>
  intro b c x y g
  cases b with
  |nil=>exact⟨x,y,by simp[ku]⟩
  |cons j b=>
   obtain⟨d,f,e⟩:=l b (c++[.bl<|decide<|i=j]) (ii i) (ii j) (by simp at g ⊢;lia);refine⟨d,f,?_⟩;have k:(A0 c)<sizeLine:=by rw[jQ];simp at g;lia
   simp only[jU,vh,ku];rw[show zB (.tup [.int i,.int j]) [x,y]=J [ii i,ii j] from H];simp only[jJ,uN,kE,rY];rw[Ip (h i j) (jV H)<|jV H];simp only[jJ];rw[iQ k];simp only[jJ];rw[e];simp
abbrev fZ4:F:=jL [] 2 (uq (iG 0)<|iG 1) zB kr<|kd<|jg (je 5) [iG 0,iG 1]
def XD(a b:iR)(g:(A0 a)=A0 b)(m:(A0 a)<=1000):je RD [enc a,enc b]=J ((.bl<|decide<|a=b,Y),[eN a,eN b]):=by
 obtain⟨n,q,e⟩:=blZ (ev:=je 5) (aau<|je 4) a b [] C C (by simp;lia)
 let δ:Dn:=[eN a,eN b]
 have k:fZ4 δ=J ((.lst<|(a.zip b).map λp=> .bl (decide<|p.1=p.2),I),δ):=by unfold fZ4 jL;rw[show uq (iG 0) (iG 1) δ=J (((a.map D.int).zip<|b.map D.int).map λp=> .tup [p.1,p.2],δ) from H];simp only[jJ,rL,CB,jm,sL,kE,tK,rN,eO];rw[e];rfl
 have f: ∀a b:List Int,A0 a=A0 b->(a.zip b).all (λp=>decide<|p.1=p.2)=decide (a=b):=by
  intro a
  induction a with
  |nil=>intro b h;cases b<;>simp_all
  |cons i a l=>
   intro b h
   cases b with
   |nil=>simp at h
   |cons j b=>rw[vh,tN,l b<|by simpa using h];simp[fX]
 have c:jq (g1 EF) [iL fZ4] δ=J ((.bl<|decide<|a=b,Y),δ):=
  jC (a:= .lst ((a.zip b).map λp=> .bl (decide<|p.1=p.2))) (by have:=vd (λd=>match d with| .bl b=>b|_=>Y)<|(a.zip b).map λp=> .bl (decide<|p.1=p.2);rw[jP,fq] at this;refine Eq.trans this ?_;rw[<-f a b g];rfl) (jE k).r
 refine kU (δ:=δ) ⟨rfl,by decide,rfl⟩<|jN<|(qZ (δ1:=δ) H).trans ?_;refine(iO<|(ni (δ1:=δ)<|by simp[δ,KA]).trans H).trans (jN<|lC<|(H9 (δ1:=δ) (o:=Y) ?_).trans c);simp[δ,g]
section
variable {n:Nat}{a:jo}(h:nk n a)
include h
end
def Vq{n:Nat}{t:iR}{cs:jo}(h:TT n t)(f:nk n cs): ∃d,LR t cs d/\lg [(BX n cs,Y),enc t]=J ((BX n d,Y),[rS n cs,eN t]):=by
 have m:=f.1;have i:=f.2.2.2
 obtain⟨d,o,p,e⟩:=zU (cs:=cs.map<|lc t) (qW _ λc j=>by obtain⟨x,g,rfl⟩:=mw.mp j;exact(CQ h<|f.2.1.2 x g).1) (by simp;lia)
 refine⟨d,⟨o,p⟩,Fv ⟨rfl,by decide,rfl⟩<|xQ (a:=(.int n,Y)) (b:=(.tup<|d.map cD,Y)) H<|jC (a:= .lst (d.map cD)) H (jE (b:=I)<|jC e (jE (b:=I)<|JW (l:=cs) (args:=[cD t]) (lc t) H H H (λx g=>⟨Y,?_⟩)<|by lia).r).r⟩;obtain⟨_,k,rfl⟩:=Es m h<|f.2.1.2 x g;exact Ip k (jV H)<|jV H
def JF{n:Nat}{t:iR}{a:jo}(c:TT n t)(d:nk n a): ∃b,nk n b/\Bx [(BX n a,Y),enc t]=J ((BX n b,Y),[rS n a,eN t])/\lg [(BX n a,Y),enc t]=J ((BX n b,Y),[rS n a,eN t]):=by obtain⟨w,e,_⟩:=Su c;obtain⟨b,f,g⟩:=Ye c d;obtain⟨j,i,h⟩:=Vq c d;cases f.uniq i c e d;exact⟨b,f.rd c e d,g,h⟩
theorem Ba: ∀(l:List D) (x:D),l.foldl (λb y=>if ltB y b=I then y else b) x∈x::l
 |[],x=>by simp
 |y::l,x=>by
  rw[vA];have:=Ba l (if ltB y x=I then y else x);rcases kW.mp this with h|h
  .rw[h];split<;>simp
  .simp[h]
theorem JY: ∀a b:List (List Int),(oS .Lt (a.map cD)<|b.map cD).isSome=I
 |[],b=>by simp[oS]
 |x::a,[]=>by simp[oS]
 |x::a,y::b=>by
  simp only[jU,oS];split
  .exact JY a b
  .rw[mH,iQ H];exact zb _ _ _
def Vp{n:Nat}{L:List (List<|List Int)}(h:L≠[]): ∃c∈L,F8 (.lst<|L.map<|BX n)=J (BX n c,Y):=by
 cases L with
 |nil=>exact absurd H h
 |cons x L=>
  have g:=Ba (L.map<|BX n)<|BX n x;rw[<-jU (f:=BX n)] at g;obtain⟨c,hk,e⟩:=mw.mp g;refine⟨c,hk,?_⟩;show(if _ then J (qB<|(x::L).map<|BX n,Y) else C)=_;rw[iQ,show qB ((x::L).map<|BX n)=BX n c from e.symm];refine⟨by simp,lY.mpr λd hd=>?_⟩;obtain⟨a,_,rfl⟩:=mw.mp hd;rw[mJ<|V3 n a,dw,lY];intro d hd;obtain⟨b,_,rfl⟩:=mw.mp hd;have i:D.BY (.int n) (.int n)=I:=D.Eu _;rw[mH,iQ H,oS,iQ i,oS];split
  .rfl
  .rw[mH,iQ H];exact JY a b
def abF{n:Nat}(d:n<=5):oR [pI n]=J ((.lst<|(kP n n).map cD,I),[ii n]):=by have:=aby (ks:=[]) d (by simp) (by simp);rw[show((kP n n).filter λt=>([]:List (List Int)).all λc=>decide<|lc t c∈([]:List (List Int)))=kP n n from Wh.mpr λ_ _=>rfl] at this;exact Fv ⟨rfl,by decide,rfl⟩<|NS this<|jE (b:=Y)<|xQ (a:=(.int n,Y)) (b:=(.tup [],Y)) H (by simp[jQ])
def aeY{n:Nat}(m:n<=4){a:jo}(j:nk n a): ∃(g:List Int->List (List Int)) (c:jo),nk n c/\(∀t∈kP n n,lg [(BX n a,Y),enc t]=J ((BX n<|g t,Y),[rS n a,eN t]))/\F8 (.lst<|(kP n n).map λt=>BX n<|g t)=J (BX n c,Y)/\oq [(BX n a,Y)]=J ((BX n c,Y),[rS n a]):=by
 have p:=j.1
 have: ∀t,∃c,TT n t->nk n c/\Bx [(BX n a,Y),enc t]=J ((BX n c,Y),[rS n a,eN t])/\lg [(BX n a,Y),enc t]=J ((BX n c,Y),[rS n a,eN t]):=λt=>by
  by_cases f:TT n t
  .obtain⟨c,h⟩:=JF f j;exact⟨c,λ_=>h⟩
  .exact⟨[],λh=>absurd h f⟩
 obtain⟨g,i⟩:=Classical.skolem.mp this;have tt: ∀t∈kP n n,TT n t:=λt f=>(rA f).tt
 have ne:(kP n n).map g≠[]:=λz=>by have:=Ul n (by lia);rw[List.map_eq_nil_iff.mp z] at this;cases this
 obtain⟨c,hd,e⟩:=Vp (n:=n) ne;rw[jP] at e;refine⟨g,c,?_,λt f=>(i t<|tt t f).2.2,e,?_⟩
 .obtain⟨t,f,rfl⟩:=mw.mp hd;exact(i t<|tt t f).1
 .have k:jL [0] 1 WZ (iT 1) kr Ww [rS n a]=J ((.lst<|(kP n n).map λt=>BX n<|g t,I),[rS n a]):=by
   refine(sG (caps:=[0]) (args:=[BX n a]) (l:=(kP n n).map cD) (δ1:=[rS n a]) (λd=>BX n<|g<|Ks d) (md (o:=I)<|NS (abF p)<|jE (b:=Y)<|jO H (jV H).r (jE H).r) H H (λd hd=>?_) ?_).trans ?_
   .obtain⟨t,f,rfl⟩:=mw.mp hd;rw[nQ];exact⟨Y,Ip (i t<|tt t f).2.1 (jV H)<|jV H⟩
   .have:=yg n (by lia) n (by lia);simp;lia
   .rw[jP];simp only[rK,nQ]
  refine kU (δ:=[rS n a]) ⟨rfl,by decide,rfl⟩<|(iO<|pQ<|NS (V6 m)<|jE (b:=Y)<|jO H (jV H).r (jE H).r).trans<|jN<|lC<|jC e (jE k).r
def Lp(d:D)(l:List D):Ep (.lst (d::l)) (.int 0)=J (d,Y):=by
 have:(0:Int)<(d::l).length:=by simp
 simp only[Ep,KC,Ir];rw[iQ<|by decide,iQ this];rfl
def Ny:Option (List Int)->D
 |none=> .B7
 |some t=>cD t
abbrev OJ(n:Nat)(a js:jo):List (List Int):=(kP n n).filter λt=>a.all λc=>decide<|lc t c∈js
def ND(n m:Nat)(a js:jo):D:=if n=m/\(A0 a)=(A0 js) then Ny (OJ n a js).head? else .B7
def aeZ{n m:Nat}{c d:jo}(e:nk n c):nH [(BX n c,Y),(BX m d,Y)]=J ((.lst<|(if (A0 c)=(A0 d) then OJ n c d else[]).map cD,I),[rS n c,rS m d]):=by
 have f:Ql [rS n c,rS m d]=J (decide<|A0 c=A0 d,[rS n c,rS m d]):=by
  refine lu (o:=Y)<|jO (a:= .int (A0 c)) (b:= .int (A0 d)) ?_ (jE (b:=Y)<|jC ?_ (jE (b:=Y)<|jO H (jV H).r (jE H).r).r).r (jE (b:=Y)<|jC ?_ (jE (b:=Y)<|jO H (jV H).r (jE H).r).r).r
  .simp[HD,D.BY,D.dep,mZ];lia
  .simp[ur]
  .simp[ur]
 refine Fv ⟨rfl,by decide,rfl⟩ (δ:=[rS n c,rS m d])<|(HX f).trans ?_;by_cases h:(A0 c)=A0 d
 .rw[mJ h,iQ H,iQ h];exact Ip (Bb e.1 e.2.1.2 e.2.2.2) (jV H)<|jE (b:=Y)<|jO H (jV H).r (jE H).r
 .rw[lj h,jc ki,jc h];simp[jQ]
def afa{n m:Nat}{c js:jo}(g:nk n c):uy [(BX n c,Y),(BX m js,Y)]=J ((ND n m c js,Y),[rS n c,rS m js]):=by
 have d:fT W8 [rS n c,rS m js,C]=J (!decide (n=m),[rS n c,rS m js,C]):=by
  refine lu (o:=Y)<|jO (a:= .int n) (b:= .int m) ?_ (jE (b:=Y)<|jO H (jV H).r (jE H).r).r (jE (b:=Y)<|jO H (jV H).r (jE H).r).r;have:((n:Int)==(m:Int))=decide (n=m):=by rw[Gw];simp;lia
  simp[Hq,D.BY,D.dep,this]
 unfold ND;by_cases h:n=m
 .rw[mJ h] at d
  let L:=if (A0 c)=(A0 js) then OJ n c js else[]
  have f:(if n=m/\(A0 c)=(A0 js) then Ny (OJ n c js).head? else .B7)=Ny L.head?:=by
   simp only[L];by_cases q:(A0 c)=A0 js
   .rw[iQ ⟨h,q⟩,iQ q]
   .rw[jc λz=>q z.2,jc q];rfl
  rw[f]
  have e:F9 [rS n c,rS m js,C]=J (.rt (Ny L.head?,Y) [rS n c,rS m js,Ek L I]):=by
   refine(no _ d).trans ((iO<|kz (i:=2) (δ1:=[rS n c,rS m js,C]) (Ip (aeZ g) (jV H)<|jV H) (show 2<3 by decide)).trans<|jN<|lC ?_);show Lq _ _ _ [rS n c,rS m js,Ek L I]=_
   cases f:L with
   |nil=>rfl
   |cons t L=>exact(HX (b:=I) H).trans<|jO (a:= .lst (cD t::L.map cD)) (b:= .int 0) (Lp _ _) (jR H) (jE H).r
  exact kU (δ:=[rS n c,rS m js,Ek L I]) ⟨rfl,by decide,rfl⟩ e
 .rw[lj h] at d;rw[jc λz=>h z.1];exact kU (δ:=[rS n c,rS m js,C]) ⟨rfl,by decide,rfl⟩<|jN<|(qZ d).trans H
def We{f g:FT}{δ δ1:Dn}(h:f δ=J (Y,δ1)):pZ f g δ=J (Y,δ1):=by unfold pZ;rw[h];rfl
def SA{f g:FT}{δ δ1:Dn}(h:f δ=J (I,δ1)):pZ f g δ=g δ1:=by unfold pZ;rw[h];rfl
theorem X8(a:Cn):zA (Cg 2 2 []<|kn a) .B7:=rfl
abbrev Le:FS:=Xh
abbrev KQ(n m:Nat)(a js L:jo)(o:Bool)(x:Option (List Int))(y:Sl):Dn:=[rS n a,rS m js,Ek L o,J (Ny x,Y),J (dC js,I),y]
section
variable {n m:Nat}{d js:jo}(g:nk n d)
include g
theorem Yu(P:jo): ∀(L:jo) (x:Option (List Int)) (y:Sl),(∀t∈L,TT n t)-> ∃a,oy (iT 5) Le (L.map cD) (KQ n m d js P Y x y)=J (.nx<|KQ n m d js P Y (x.or (L.filter λt=>d.all λc=>decide<|lc t c∈js).head?) a):=by
 intro L
 induction L with
 |nil=>intro x y _;exact⟨y,by cases x<;>rfl⟩
 |cons t L q=>
  intro x y h;have l: ∀t∈L,TT n t:=λt r=>h t<|jZ _ r
  have k: ∀b,Le (KQ n m d js P Y x<|eN t)=J (.nx b)->oy (iT 5) Le ((t::L).map cD) (KQ n m d js P Y x y)=oy (iT 5) Le (L.map cD) b:=λb e=>by show(Le<|KQ n m d js P Y x<|eN t).bind _=_;rw[e];rfl
  cases x with
  |some u=>obtain⟨a,e⟩:=q (J u) (eN t) l;refine⟨a,(k _ ?_).trans e⟩;exact(iO<|(ni<|We (δ1:=KQ n m d js P Y (J u)<|eN t) H).trans H).trans H
  |none=>
   have s:fT WO (KQ n m d js P Y C<|eN t)=J (d.all λc=>decide<|lc t c∈js,KQ n m d js P Y C<|eN t):=lu (o:=Y)<|kj (δ1:=KQ n m d js P Y C<|eN t) (os:=[.slot 0,.slot 4,.slot 5]) (args:=[(BX n d,Y),(dC js,I),enc t]) H H (Lh 4)<|acq g.1 (h t jY) js d g.2.1.2 I;have j:=(SA (δ1:=KQ n m d js P Y C<|eN t) (f:=fT<|iZ Pd (iG 3)<|iL<|fC .B7) (δ:=KQ n m d js P Y C<|eN t) H).trans s
   cases i:d.all λc=>decide (lc t c∈js) with
   |false=>rw[i] at j;obtain⟨a,e⟩:=q C (eN t) l;refine⟨a,(k _ ((iO<|(ni j).trans H).trans H)).trans ?_⟩;rw[Dl (p:=λt=>d.all λc=>decide<|lc t c∈js)<|by rw[i];exact ki];exact e
   |true=>rw[i] at j;obtain⟨a,e⟩:=q (J t) (eN t) l;refine⟨a,(k _ ((iO<|(qZ j).trans H).trans H)).trans ?_⟩;rw[Dm (p:=λt=>d.all λc=>decide<|lc t c∈js) i];exact e
theorem ads(u:nk m js)(o:Bool): ∃c,mF [(BX n d,Y),(BX m js,Y),(.lst<|(kP n n).map cD,o)]=J ((.bl I,Y),[rS n d,rS m js,Ek (kP n n) c]):=by
 let P:=kP n n
 have s: ∀t∈P,TT n t:=λt x=>(rA x).tt;have A:=g.1;have h1:kx 4 (fDc 1) [rS n d,rS m js,Ek P o,J (.B7,Y),C,C]=J (.nx<|KQ n m d js P o C C):=kz (i:=4) (δ1:=[rS n d,rS m js,Ek P o,J (.B7,Y),C,C]) (VW (n:=m) H u.2.1.1 (by have:=u.2.2.2;lia)) (show 4<6 by decide)
 have k:fT W7 (KQ n m d js P o C C)=J (decide<|n=m,KQ n m d js P o C C):=by refine lu (o:=Y)<|jO (a:= .int n) (b:= .int m) ?_ (jE (b:=Y)<|jO H (jV H).r (jE H).r).r (jE (b:=Y)<|jO H (jV H).r (jE H).r).r;simp[HD,D.BY,D.dep,mZ];lia
 have v:Ql (KQ n m d js P o C C)=J (decide<|A0 d=A0 js,KQ n m d js P o C C):=by
  refine lu (o:=Y)<|jO (a:= .int (A0 d)) (b:= .int (A0 js)) ?_ (jE (b:=Y)<|jC ?_ (jE (b:=Y)<|jO H (jV H).r (jE H).r).r).r (jE (b:=Y)<|jC ?_ (jE (b:=Y)<|jO H (jV H).r (jE H).r).r).r
  .simp[HD,D.BY,D.dep,mZ];lia
  .simp[ur]
  .simp[ur]
 have y:zA (je RD) (ND n m d js):=by
  unfold ND;split
  .cases w:(OJ n d js).head? with
   |none=>exact X8<|je 5
   |some t=>have:=(s t (Cq.mp<|List.mem_of_head? w).1).len;have z:=XD t t H (by lia);rw[mJ H] at z;exact z
  .exact X8 (je 5)
 have p: ∃c j,FH zC1 (iU (tu (kM<|kI 2) (iT 5) Le) jk) jk (KQ n m d js P o C C)=J (.nx [rS n d,rS m js,Ek P c,J (ND n m d js,Y),J (dC js,I),j]):=by
  unfold ND;by_cases h:n=m
  .rw[mJ h] at k;have l:=(SA k).trans v;by_cases q:(A0 d)=A0 js
   .rw[mJ q] at l;obtain⟨j,e⟩:=Yu (m:=m) (js:=js) g P P C C s;refine⟨Y,j,(qZ l).trans ?_⟩;rw[iQ ⟨h,q⟩];exact(iO<|(mY (ds:=P.map cD) (δ1:=KQ n m d js P Y C C) (by cases o<;>rfl)).trans e).trans H
   .rw[lj q] at l;exact⟨o,C,(ni l).trans<|by rw[jc λz=>q z.2];rfl⟩
  .rw[lj h] at k;exact⟨o,C,(ni<|We k).trans<|by rw[jc λz=>h z.1];rfl⟩
 obtain⟨c,j,e⟩:=p
 let δ:Dn:=[rS n d,rS m js,Ek P c,J (ND n m d js,Y),J (dC js,I),j]
 have fin:nX [rS n d,rS m js,Ek P o,C,C,C]=J (.rt (.bl I,Y) δ):=by refine(iO (δ1:=[rS n d,rS m js,Ek P o,J (.B7,Y),C,C]) H).trans ((iO h1).trans<|(iO e).trans<|jN<|lC (δ:=δ)<|Ip y (jE (b:=Y)<|Ip (afa g) (jV H)<|jV H)<|jV H)
 have q:=kU (n:=6) (np:=3) (asg:=[3,4,5]) (f:=nX) (args:=[(BX n d,Y),(BX m js,Y),(.lst<|P.map cD,o)]) ⟨rfl,by decide,by cases o<;>rfl⟩ fin
 cases o with
 |true=>exact⟨c,q⟩
 |false=>exact⟨Y,q⟩
end
def YI{a:jo}{v:Nat}(h:v<=A0 a):PX.yZ (a.map cD) C (J (v:Int))=(a.take v).map cD:=by unfold PX.yZ;rw[HT.QK,HT.SY];simp[eV,wg h]
def YH{a:jo}{v:Nat}(h:v<=A0 a):PX.yZ (a.map cD) (J (v:Int)) C=(a.drop v).map cD:=by unfold PX.yZ;rw[HT.QK,HT.SY];simp[u9,wg h];rw[yu];simp
def MS(l:List D):Prop:= ∀d∈l,∃m a,nk m a/\d=BX m a
def MS.add{l:List D}{m:Nat}{a:jo}(h:MS l)(k:nk m a):MS (l++[BX m a]):=λd hd=>by
 rcases sQ.mp hd with z|z
 .exact h d z
 .cases E7.mp z;exact⟨m,a,k,rfl⟩
abbrev dO(a:Int)(b:Bool)(n:Nat)(c:jo)(l:List D)(x y:Sl):Dn:=[BH a b,rS n c,ii n,HY c,lv l,x,y]
abbrev OX:F:=jg mz [iG 0,iG 2]
section
variable {n:Nat}{g:jo}(h:nk n g)
include h
theorem SO(a:Int)(b:Bool): ∃d t,TT n t/\ ∀c:Dn,OX (BH a b::rS n g::ii n::c)=J (enc t,BH d b::rS n g::ii n::c):=by obtain⟨d,t,f,e⟩:=AG a b n h.1;exact⟨d,t,II f,λc=>kj (δ1:=BH a b::rS n g::ii n::c) (os:=[.slot 0,.slot 2]) (args:=[pS a b,pI n]) H H (Lh 0) e⟩
theorem Th(a:Int)(b:Bool){i:jo}(k:nk n i)(f:FO)(δ:Dn){o:Cm}(l:f (BH a b::rS n g::ii n::δ)=J (o,BH a b::rS n g::ii n::δ))(m: ∀a,vT (BH a b::rS n g::ii n::δ) o=J (BX n i,Y)): ∃c d,nk n d/\jg lg [f,iL OX] (BH a b::rS n g::ii n::δ)=J ((BX n d,Y),BH c b::rS n g::ii n::δ):=by
 obtain⟨c,t,p,e⟩:=SO h a b;obtain⟨d,hd,_,j⟩:=JF p k;refine⟨c,d,hd,(kj (δ1:=BH c b::rS n g::ii n::δ) (os:=[o,.val<|enc t]) (args:=[(BX n i,Y),enc t]) (qD l<|jn<|e δ) ?_ ?_ j).trans ?_⟩
 .unfold km;rw[m];rfl
 .cases o<;>simp[jm]
 .cases o<;>rfl
theorem aao(a:Int)(b:Bool)(l:List D)(q:MS l)(h2:(A0 l)<=2): ∃C' k x y,MS k/\(A0 k)<=4/\FH (fT TJ) (iU WY<|iU (kx 6<|jg jz [iL<|iZ Ep (iG 3)<|iG 5,iL OX])<|iU zC0<|iU (nO<|mE 4<|jg lg [TZ,iL OX]) jk) jk (dO a b n g l C C)=A7 (.nx<|dO C' b n g k x y):=by
 have u:=h.1;have J:=h.2.2.2;by_cases j:g=[]
 .subst j;exact⟨a,l,C,C,q,by lia,(ni (δ1:=dO a b n [] l C C) AU).trans AU⟩
 have s:0<(A0 g):=My.mpr j
 have E:fT TJ (dO a b n g l C C)=A7 (B8,dO a b n g l C C):=by
  refine lu (o:=B6)<|jO (a:= .tup (g.map cD)) (b:= .tup []) ?_ (jV AU).r (jE (b:=B6)<|by simp[jQ]).r
  cases g with
  |nil=>exact absurd AU j
  |cons c d=>unfold Hq;rw[iQ ⟨(by have:=Ad (c::d);rw[D.dep];lia),by decide⟩];simp[D.BY,D.D8]
 obtain⟨A,a1,R,V,I⟩:=rQ a b (A0 g) (by lia) (by lia);obtain⟨v,rfl⟩: ∃v:Nat,A=v:=⟨A.toNat,by lia⟩
 have hv:v<(A0 g):=by lia
 obtain⟨e,t,w,L⟩:=SO h a1 b;have f:=h.2.1.2 g[v]<|GD hv;obtain⟨_,O,rfl⟩:=Es u w f;have F:=CQ w f
 have N:Ep (.tup<|g.map cD) (.int v)=A7 (cD g[v],B6):=by show(KC (g.map cD) v).map _=_;unfold KC Ir;rw[iQ R,iQ<|by simpa using V];simp[hv]
 let S:=(g.take v++[lc t g[v]])++g.drop (v+1)
 have M: ∀c∈S,Bl n c:=λc f=>by
  rcases sQ.mp f with z|z
  .rcases sQ.mp z with z|z
   .exact h.2.1.2 c (we z)
   .cases E7.mp z;exact F
  .exact h.2.1.2 c (Al z)
 have X:S.length=(A0 g):=by simp[S];lia
 obtain⟨B,d,U,Y,_,W,K,P⟩:=ZF M (by lia);have p:nk n d:=⟨u,U,Y,by lia⟩
 obtain⟨m,H,hd,Q⟩:=Th h e b p TZ [HY g,lv<|l++[BX n d],ii v,eN<|lc t g[v]] (o:= .val (BX n d,B6)) (jn<|jO (a:= .lst (l++[BX n d])) (b:= .int (-1)) (by show(KC (l++[BX n d]) (-1)).map _=_;unfold KC Ir;rw[jc<|by decide,iQ<|by simp;lia];show((l++[BX n d])[((-1:Int)+((l++[BX n d]).length:Nat)).toNat]?).map _=_;rw[show((-1:Int)+((l++[BX n d]).length:Nat)).toNat=(A0 l) by simp;lia];simp) (jR AU) (jE (b:=B6) AU).r) λ_=>rfl
 refine⟨m,l++[BX n d]++[BX n H],ii v,eN<|lc t g[v],(q.add p).add hd,by simp;lia,(qZ E).trans ?_⟩;refine(iO<|kz (i:=5) (δ1:=dO a1 b n g l C C) (I _ _ (.val (.int<|A0 g,B6)) (jn<|jC (Vr g) (jV AU).r) rfl) (show 5<7 by decide)).trans ?_;refine(iO<|kz (i:=6) (δ1:=dO e b n g l (ii v) C) (kj (δ1:=dO e b n g l (ii v) C) (os:=[.val (cD g[v],B6),.val<|enc t]) (args:=[enc g[v],enc t]) (qD (jn<|jO N (jV AU).r (jV AU).r)<|jn<|L _) AU sL O) (show 6<7 by decide)).trans ?_
 let δ:=dO e b n g l (ii v)<|eN<|lc t g[v]
 have f1:Br (iG 3) (iG 5) δ=A7 ((.tup<|(g.take v).map cD,B6),δ):=by show A7 ((D.tup<|PX.yZ (g.map cD) C<|A7 (v:Int),B6),δ)=_;rw[YI<|by lia]
 have f2:JR (iG 3) WG δ=A7 ((.tup<|(g.drop<|v+1).map cD,B6),δ):=by show A7 ((D.tup<|PX.yZ (g.map cD) (A7 ((v+1:Nat):Int)) C,B6),δ)=_;rw[YH<|by lia]
 have T:iZ nB WX WW δ=A7 ((.tup<|S.map cD,B6),δ):=by refine jO (a:= .tup ((g.take v).map cD++[cD<|lc t g[v]])) ((YO (by simp;lia)<|by simp;lia).trans<|by simp[S]) (jE (b:=B6)<|jO (b:= .tup [cD<|lc t g[v]]) (YO (by simp;lia)<|by simp) (jE f1).r (jE (b:=B6) ?_).r).r (jE f2).r;show(if[cD<|lc t g[v]].length<=sizeLine then A7 ((D.tup [cD<|lc t g[v]],B6),δ) else C)=_;rw[iQ<|pd<|by simp]
 have G:nh [kI 2,zC3] δ=A7 ((BX n d,B6),δ):=xQ (a:=(.int n,B6)) (b:=(.tup<|d.map cD,B6)) AU<|jC (a:= .lst (d.map cD)) AU (jE (b:=B8)<|jC (show rm (.BU .set []<|B.map cD)=A7 (.lst<|d.map cD,B8) from P) (jE (b:=B8)<|jC (show RW (.tup<|S.map cD)=A7 (.BU .set []<|B.map cD,B8) from K) (jE T).r).r).r;refine(iO<|pQ<|pY (i:=4) (δ1:=δ) AU G (l:=l) AU<|uL<|by lia).trans ?_;exact(iO<|pQ<|pY (i:=4) (l0:=l++[BX n d]) (δ1:=dO m b n g (l++[BX n d]) (ii v)<|eN<|lc t g[v]) AU Q (l:=l++[BX n d]) AU<|uL<|by simp;lia).trans AU
theorem acZ(a:Int)(b:Bool): ∃p l,MS l/\qF [pS a b,(BX n g,Y)]=J ((.lst l,I),[BH p b,rS n g]):=by
 have z:=h.1
 let δ:Int->Dn:=λa=>[BH a b,rS n g,ii n,HY g,C,C,C]
 obtain⟨a1,ds,hd,q⟩:=Th h a b h (iG 1) [HY g,C,C,C] H λ_=>rfl;obtain⟨j,f,m,r⟩:=wF a1 b n z;have k:TL (δ a1)=J ((BX n f,Y),δ j):=kj (δ1:=δ a1) (os:=[.slot 0,.slot 2]) (args:=[pS a1 b,pI n]) H H (Lh 0) r
 obtain⟨e,l,x,y,v,A,s⟩:=aao h j b [BX n ds,BX n f] (λd o=>by
  rcases kW.mp o with rfl|o
  .exact⟨n,ds,hd,rfl⟩
  .cases E7.mp o;exact⟨n,f,m,rfl⟩) (by simp)
 have w:nk (min (n+1) 5) g:=⟨sa _ _,⟨h.2.1.1,λc m=>(h.2.1.2 c m).up<|by lia⟩,h.2.2⟩
 have u:nh [W4,kI 3] (dO e b n g l x y)=J ((BX (min (n+1) 5) g,Y),dO e b n g l x y):=by refine xQ (a:=(.int ((min (n+1) 5:Nat):Int),Y)) (b:=(.tup<|g.map cD,Y)) ?_ H;show J ((D.int (if(5:Int)<(n:Int)+1 then 5 else(n:Int)+1),Y),dO e b n g l x y)=_;rw[show(if(5:Int)<(n:Int)+1 then 5 else(n:Int)+1)=((min (n+1) 5:Nat):Int) by split<;>lia]
 have t:nC [jg lg [iG 1,iL OX],TL] (δ a)=J ((.lst [BX n ds,BX n f],I),δ j):=EI (os:=[.val (BX n ds,Y),.val (BX n f,Y)]) (qD (δ1:=δ a1) (jn q)<|jn k) H<|pd (by simp);refine⟨e,l++[BX (min (n+1) 5) g],v.add w,kU (δ:=[BH e b,rS n g,ii n,HY g,C,x,y]) ⟨rfl,by decide,rfl⟩ ?_⟩;refine(iO (δ1:=δ a) H).trans ((iO<|kz (i:=4) (δ1:=δ j) t (show 4<7 by decide)).trans<|(iO s).trans ?_);exact(iO<|pQ<|pY (i:=4) (δ1:=dO e b n g l x y) H u (l:=l) H<|uL<|by lia).trans (jN H)
end
def aeX(b:jo):om [BX 5 b]=J ("TooMany":aw):=by have a:Qk [ii 5]=J (I,[ii 5]):=Wl (n:=5);show lP [ii 5]=J ("TooMany":aw);unfold lP;rw[Wt a H];rfl
def Zs:Fj 5 1 (lb CT BQ) (.BU (.exc 121) [] [])=J (.str "many"):=by kernel_rfl
def ZG:(λz=>BQ.lookup z) ("TooMany":aw)=J 121:=by kernel_rfl
abbrev fX8:F:=iZ Ep W9 WR
abbrev YC:F:=Bs 2 (zg om [WU]) 5 1 (lb CT BQ) λz=>BQ.lookup z
def afg{j n i:Nat}{x:XS}{fs:FS}{b:aw->Option Nat}{a:Dn}{d r:D}{c:aw}{U:Nat}(e:a[j]?=J (J (d,I)))(h1:x [J (d,I)]=J c)(f:b c=J U)(g:Fj n i fs (.BU (.exc U) [] [])=J r):Bs j x n i fs b a=J ((r,Y),a.set j C):=by unfold Bs;rw[e];simp only;rw[h1];simp only[jJ];rw[f];simp only[jJ];rw[g];rfl
def ZH(a:Int)(b:Bool)(z0 z1:Sl)(c:Dn):YC (z0::z1::BH a b::c)=J ((.str "many",Y),z0::z1::C::c):=by obtain⟨f,ds,_,e⟩:=wF a b 5 (by lia);refine afg (d:= .lst [.int a,.bl b]) H ?_ ZG Zs;unfold zg;rw[Bw<|jn<|kj (δ1:=[BH a b]) (os:=[.slot 0,.val (.int 5,Y)]) (args:=[pS a b,pI (5:Nat)]) H H (Lh 0) e];exact aeX ds
abbrev VQ:FS:=Xb
abbrev YE:F:=jL [4] 1 (kM<|kI 5) (iT 1) kr WA
abbrev WE:=iZ Hq (iL YC)<|iL<|fC<|.str "many"
abbrev zC4:=iU (kx 7 YE) zC8
abbrev Yz:FS:=iU WL<|iU (kx 3 fX8)<|iU zC5<|iU WN<|iU zC9<|iU Wv<|iU (tu WK (iT 6) VQ)<|iU (FH Qj zC4 jk)<|iU (FH (fT WE) DZ jk) jk
section
variable {z0 z1:Sl}{n:Nat}{f:jo}(j:nk n f)
include j
abbrev d8(z0 z1:Sl)(a:Int)(b:Bool)(n:Nat)(f:jo)(o:Bool)(x y:Sl):Dn:=[z0,z1,BH a b,ii n,rS n f,Ek (kP n n) o,x,y]
theorem aaD(a:Int)(b o:Bool)(x y:Sl){l:List D}(q:MS l): ∃c i,oy (iT 6) VQ l (d8 z0 z1 a b n f o x y)=J (.nx<|d8 z0 z1 a b n f c i y):=by
 obtain⟨_,⟨_,c,i,rfl⟩,e⟩:=xN (tg:=iT 6) (fb:=VQ) (λds k=>MS ds/\ ∃o x,k=d8 z0 z1 a b n f o x y) (λd ds k U=>by
  obtain⟨h1,o,x,h⟩:=U
  subst h;obtain⟨m,g,p,rfl⟩:=h1 d jY;obtain⟨c,e⟩:=ads j p o;refine⟨_,d8 z0 z1 a b n f (if o=I then c else o) (rS m g) y,rfl,?_,λd hd=>h1 d<|jZ _ hd,_,_,rfl⟩;have r:jg mF [iG 4,iG 6,iG 5] (d8 z0 z1 a b n f o (rS m g) y)=J ((.bl I,Y),d8 z0 z1 a b n f (if o=I then c else o) (rS m g) y):=(kj (δ1:=d8 z0 z1 a b n f o (rS m g) y) (os:=[.slot 4,.slot 6,.slot 5]) (args:=[(BX n f,Y),(BX m g,Y),(.lst<|(kP n n).map cD,o)]) H H (by cases o<;>simp[jm]) e).trans (by cases o<;>rfl);exact(iO<|(ni<|Bu (b:=I)<|lu (o:=Y) r).trans H).trans H) l _ ⟨q,o,x,rfl⟩
 exact⟨c,i,e⟩
theorem Vv(a:Int)(b o:Bool)(x y:Sl): ∃v w,FH Qj zC4 jk (d8 z0 z1 a b n f o x y)=J (.nx<|d8 z0 z1 a b n f v x w):=by
 have k:Qj (d8 z0 z1 a b n f o x y)=J (decide<|(n:Int)<5,d8 z0 z1 a b n f o x y):=lu (o:=Y)<|jO (a:= .int n) (b:= .int 5) H (jV H).r (jE H).r;by_cases h:(n:Int)<5
 .rw[mJ h] at k;obtain⟨g,ds,hd,q,s,e⟩:=aeY (by lia) j
  have m:YE (d8 z0 z1 a b n f o x y)=J ((.lst<|(kP n n).map λt=>BX n<|g t,I),d8 z0 z1 a b n f Y x y):=by
   refine(sG (caps:=[4]) (args:=[BX n f]) (l:=(kP n n).map cD) (δ1:=d8 z0 z1 a b n f Y x y) (λd=>BX n<|g<|Ks d) (md (o:=Y) (by cases o<;>rfl)) H H (λd hd=>?_) ?_).trans ?_
   .obtain⟨t,u,rfl⟩:=mw.mp hd;rw[nQ];exact⟨Y,Ip (q t u) (jV H)<|jV H⟩
   .have:=yg n (by lia) n (by lia);simp;lia
   .rw[jP];simp only[rK,nQ]
  refine⟨Y,J (.lst<|(kP n n).map λt=>BX n<|g t,I),(qZ k).trans<|(iO<|kz (i:=7) m (show 7<8 by decide)).trans ?_⟩;refine(no (δ:=d8 z0 z1 a b n f Y x<|J (.lst<|(kP n n).map λt=>BX n<|g t,I)) _ (Bu (b:=I)<|lu (o:=Y)<|Ip (rdU n (by have:=hd.2.2.2;lia) λc p=>by have:=(hd.2.1.2 c p).len;lia) (jE (b:=Y)<|NS e<|jV H)<|jE (b:=Y)<|jC s<|jR H)).trans H
 .rw[lj h] at k;exact⟨o,y,(ni k).trans H⟩
end
def R9(H:iR)(k:Nat)(s q c t j f:Sl): ∃Y' d3 d4 d5 d6 d7,Yz [A7 (.lst<|H.map .int,Y),ii k,s,q,c,t,j,f]=A7 (.nx [A7 (.lst<|H.map .int,Y),ii k,Y',d3,d4,d5,d6,d7]):=by
 let z0:Sl:=A7 (.lst<|H.map .int,Y)
 obtain⟨a,b,F⟩:=ad3 H k;obtain⟨v,a1,v0,v1,K⟩:=AH a b 5 (by lia) (by lia);obtain⟨w,p,w0,w1,P⟩:=AH a1 b 4 (by lia) (by lia);obtain⟨n,J⟩: ∃n:Nat,(if w=0 then v else w+1)=n:=⟨(if w=0 then v else w+1).toNat,by split<;>lia⟩
 have hn:n<=4:=by split at J<;>lia
 obtain⟨u,L,u0,u1,R⟩:=AH p b 6 (by lia) (by lia)
 let δ:Int->Sl->Sl->Dn:=λa x y=>[z0,ii k,BH a b,x,y,t,j,f]
 have hx:fX8 (δ a q c)=A7 ((.int n,Y),δ p q c):=by refine lG (o1:= .val (.lst [.int v,.int 2,.int 3,.int 4],B8)) (o2:= .val (.int w,Y)) (δ1:=δ a1 q c) (jn<|EI (os:=[.val (.int v,Y),.val (.int 2,Y),.val (.int 3,Y),.val (.int 4,Y)]) (ds:=[.int v,.int 2,.int 3,.int 4]) (acw (jn<|K _ z0 (ii k) [q,c,t,j,f] (.val (.int 5,Y)) rfl rfl) AU) AU<|pd (by show 4<=10000;decide)) (jn<|P _ z0 (ii k) [q,c,t,j,f] (.val (.int 4,Y)) rfl rfl) AU AU (z:=(.int n,Y)) ?_;rw[<-J];rcases(show w=0\/w=1\/w=2\/w=3 by lia) with rfl|rfl|rfl|rfl<;>rfl
 have Q: ∃(A:Int) (m:Nat),m<=5/\zC5 (δ p (ii n) c)=A7 (.nx<|δ A (ii m) c):=by
  have e:Qh (δ p (ii n) c)=A7 (decide<|(k:Int)=0,δ p (ii n) c):=lu (o:=Y)<|jO (a:= .int k) (b:= .int 0) (by simp[HD,D.BY,D.dep,mZ]) (jV AU).r (jE AU).r;by_cases hk:(k:Int)=0
  .rw[mJ hk] at e;have s:fT W3 (δ p (ii n) c)=A7 (decide<|u=0,δ L (ii n) c):=lu (o:=Y)<|lG (o1:= .val (.int u,Y)) (o2:= .val (.int 0,Y)) (jn<|R _ z0 (ii k) [ii n,c,t,j,f] (.val (.int 6,Y)) rfl rfl) AU AU AU (by simp[HD,D.BY,D.dep,mZ]);by_cases U:u=0
   .rw[mJ U] at s;exact⟨L,5,by lia,(qZ<|(SA e).trans s).trans AU⟩
   .rw[lj U] at s;exact⟨L,n,by lia,(ni<|(SA e).trans s).trans AU⟩
  .rw[lj hk] at e;exact⟨p,n,by lia,(ni<|We e).trans AU⟩
 obtain⟨A,m,N,Q⟩:=Q;obtain⟨d,g,C,S⟩:=wF A b m N
 have T: ∃h,nk m h/\zC9 (δ d (ii m)<|rS m g)=A7 (.nx<|δ d (ii m)<|rS m h):=by
  have e:Wx (δ d (ii m)<|rS m g)=A7 (decide<|(m:Int)=5,δ d (ii m)<|rS m g):=lu (o:=Y)<|jO (a:= .int m) (b:= .int 5) (by simp[HD,D.BY,D.dep,mZ]) (jV AU).r (jE AU).r;by_cases M:(m:Int)=5
  .rw[mJ M] at e;obtain rfl:m=5:=by lia
   obtain⟨E,_,ct⟩:=V5 g 6;refine⟨g.take E,⟨by lia,C.2.1.take E,C.2.2.1.take E,by have:=C.2.2.2;simp;lia⟩,(qZ e).trans<|(iO<|kz (i:=4) (δ1:=δ d (ii 5)<|rS 5 g) (xQ (a:=(.int 5,Y)) (b:=(.tup<|(g.take E).map cD,Y)) AU ?_) (show 4<8 by decide)).trans AU⟩;show A7 ((D.tup<|PX.yZ (g.map cD) AX<|A7 ((6:Nat):Int),Y),δ d (ii 5)<|rS 5 g)=_;rw[ct]
  .rw[lj M] at e;exact⟨g,C,(ni e).trans AU⟩
 obtain⟨h,O,T⟩:=T;obtain⟨o,V⟩:=ab8 N;obtain⟨B,l,hl,W⟩:=acZ O d b;obtain⟨o',I,X⟩:=aaD (z0:=z0) (z1:=ii k) O B b o j f hl;obtain⟨o2,G,Z⟩:=Vv (z0:=z0) (z1:=ii k) O B b o' I f;refine⟨AX,ii m,rS m h,Ek (kP m m) o2,I,G,?_⟩;refine(iO<|kz (i:=2) (δ1:=[z0,ii k,s,q,c,t,j,f]) (Ip F (jV AU)<|jV AU) (show 2<8 by decide)).trans ?_;refine(iO<|kz (i:=3) (δ1:=δ p q c) hx (show 3<8 by decide)).trans ((iO Q).trans ?_);refine(iO<|kz (i:=4) (δ1:=δ d (ii m) c) (kj (δ1:=δ A (ii m) c) (os:=[.slot 2,.slot 3]) (args:=[pS A b,pI m]) AU AU (Lh 2) S) (show 4<8 by decide)).trans ((iO T).trans ?_);refine(iO<|kz (i:=5) (δ1:=δ d (ii m)<|rS m h) (NS V<|jV AU) (show 5<8 by decide)).trans ?_;refine(iO<|(mY (ds:=l) (δ1:=d8 z0 (ii k) B b m h o j f)<|md (o:=B8)<|kj (δ1:=d8 z0 (ii k) d b m h o j f) (os:=[.slot 2,.slot 4]) (args:=[pS d b,(BX m h,Y)]) AU AU (Lh 2) W).trans X).trans ((iO Z).trans ?_);have t9:fT WE (d8 z0 (ii k) B b m h o2 I G)=A7 (Y,[z0,ii k,AX,ii m,rS m h,Ek (kP m m) o2,I,G]):=lu (o:=Y)<|lG (o1:= .val (.str "many",Y)) (o2:= .val (.str "many",Y)) (jn<|ZH B b z0 (ii k) _) AU AU AU<|aeP (by simp[D.dep]);exact(iO<|(ni t9).trans AU).trans AU
abbrev δ83(a:Sl):Dn:=[a,C,C,C,C,C,C,C]
def c83(a:Sl):Ge Xc zC2 (δ83 a)=J (Y,δ83 a):=by kernel_rfl
def Wj(a:iR)(u:(A0 a)<=63): ∃o l,vP [(.lst<|a.map .int,Y)]=J ((.bl I,o),l):=by
 let b:Sl:=J (.lst<|a.map .int,Y)
 let N:Nat:=if 1<min (A0 a) 4 then min (A0 a) 4 else 1
 obtain⟨_,⟨m,c,f,g,d5,i,j,_,rfl⟩,e⟩:=xN (tg:=iT 1) (fb:=Yz) (λds δ=> ∃m c f g d5 i j,(∀d∈ds,∃k:Nat,d= .int k)/\δ=[b,m,c,f,g,d5,i,j]) (λd ds δ U=>by
  obtain⟨m,c,f,g,d5,i,j,h1,h⟩:=U
  subst h;obtain⟨k,rfl⟩:=h1 d jY;obtain⟨g2,g3,q,r,s,t,e⟩:=R9 a k c f g d5 i j
  exact⟨_,_,rfl,e,_,_,_,_,_,_,_,λx p=>h1 x<|jZ _ p,rfl⟩) (jD 0 N) (δ83 b) ⟨C,C,C,C,C,C,C,λd hd=>by obtain⟨k,_,rfl⟩:=mw.mp hd;exact⟨k,by simp⟩,rfl⟩
 refine⟨Y,_,kU (δ:=[b,m,c,f,g,d5,i,j]) ⟨rfl,by decide,rfl⟩ ?_⟩;refine(no (δ:=δ83 b) _ (c83 b)).trans ?_;refine(iO<|(mY (ds:=jD 0 N) (δ1:=δ83 b) ?_).trans e).trans (jN H);refine xJ (o:= .val (.int N,Y)) (jn ?_) H (by simp only[N];split<;>lia)
 have n:(N:Int)=if(if(4:Int)<(A0 a) then 4 else((A0 a):Int))>1 then(if(4:Int)<(A0 a) then 4 else((A0 a):Int)) else 1:=by simp only[N];split<;>split<;>split<;>lia
 rw[n];simp[b,δ83]
end PV
def K83.main(b:iR)(c:(A0 b)<=63): ∃o a,PV.vP [(.lst<|b.map .int,Y)]=J ((.bl I,o),a):=PV.Wj b c
structure PySem.W.Fast:Prop where(tw14948974768889554827 tw16821818418396972925 tw4015139685399355777 tw1132613499874448156 tw1040524712568616152 tw12868738688631502647 tw17259254289666361749 tw8235522171357935391 tw5445278188007009460 tw6809808621338615543 tw8650818961444457798 tw1441126811776756958 tw6166780725272276007 tw2507951086917345476 tw15162489753331651624 tw1564181294725897307 tw17281224739762873136 tw17804703314269929871 tw10424949578620510465 tw1617350622286964776 tw1452433210893439659 tw14249597407012273519 tw467833813573843927 tw2134047708362612377 tw11016491964826949456 tw12826635946037841308 tw11815238573303812460 tw9459520972268533125 tw7887721765636962469 tw17573046419252603914 tw8255389338781325640 tw6721170488550446814 tw8029995054560345742 tw9531347163692182325 tw2689342319224573072 tw8880652354831572549 tw4439328242659280305 tw15087417711756257813 tw13975422803315704955 tw15483136454268408278 tw2979410262121833705 tw10378924631274527368 tw18186924606531810385 tw1272990437528909168 tw14410300815930269248 tw18269280077806289084 tw7174666645925088315 tw3756078172311486742 tw11690698047741967930 tw9236286702300654233 tw11912892413380441720 tw1040728509958497215 tw13709190584718239624 tw9129426819454737247 tw4341545328465550073 tw15748311320113706490 tw11551657070277467536 tw11844966620051847073 tw887456125129001146 tw6050690380777075303 tw438840834955850394 tw15177475014359425263 tw13676123994677886204 tw8054430755555545949 tw10976443682904011968 tw6627826341448333946 tw9351446702857146674 tw5396971388903968118 tw6955356408357250364 tw3646155398387514384 tw1576539699459896054 tw6754607857753457313 tw11939880446920690699 tw7920877397393751989 tw6441175270057589698 tw15817954551075999235 tw8912707178466111385 tw14622327212941945569 tw14024958877259232484 tw1606074380265770862 tw14530358263042217634 tw17251336111525402649 tw13997011592947533544 tw5537015010980354426 tw2403843012072181322 tw1696974360871169148 tw397012337090991547 tw10077311242912779841 tw6513861903919834830 tw15688919754942746766 tw10211998342603789128 tw18117789010103665161 tw17487957479855332295 tw13400538761615586489 tw8084661772059596370 tw2542711244639931571 tw1024412679761016856 tw7353792930013424891 tw15650362177885301454 tw13392204918865567094 tw7010110556780630784 tw8953973764494465408 tw17900770885379402608 tw14977738840883182381 tw14121767683830664017 tw4176417521276274850 tw7327455539735091137 tw3958272212644964486 tw12235251160183799066 tw9078561399562422433 tw8198947244080335978 tw508211477442948667 tw13301234931172076821 tw17639040572384216336 tw1785139832643287395 tw14414719079512206106 tw12615589033308741264 tw11837337204677932263 tw7651573980166030487 tw5404477173694206569 tw5371880672945322093 tw296590380737002614 tw2491995736123802272 tw16229269357445738038 tw1457422557916620262 tw12454683502010507689 tw11701339556778491010 tw14723286580539855176 tw10408033909425052975 tw2640168507668813104 tw1496873898643072354 tw6477004930223144822 tw18232393944543580187 tw4635683513804334612 tw344766449898449572 tw8987010028917073720 tw16954742668044302104 tw14266047432825261133 tw13923679532387039880 tw13016884824679381208 tw6377679833909785160 tw15252104966495766534 tw2732522143681600806 tw11428373806736610845 tw2820543648965375473 tw7226330059865173011 tw6215174780989020300 tw17188026347781589097 tw13756522475750960805 tw5438692542840258434 tw12933849659902647612 tw12576249481478456801 tw1921582355841204575 tw13388009373534029615 tw13249498495761410008 tw14791747803059296945 tw11067328044481565448 tw14095449726343688413 tw8228441090963439697 tw3213855343819207384 tw5339926765102958632 tw7871816650830712023 tw10262782058475456977 tw8187507302150723814 tw14947296329765862461 tw9789641363172305015 tw9184953172612675488 tw14445435448457572137 tw11556858056133419510 tw4207763932800292506 tw17827243184583934972 tw13708637208923883929 tw1406929705892332028 tw7123434939549733985 tw14526880180250523375 tw10624331241364273314 tw332118425860482933 tw4301599866781181403 tw4847235133553346433 tw18078162006745143561 tw5764892188779413430 tw15128234902343805052 tw10456511785412450920 tw2477744633835940887 tw14484903376582946120 tw7695936967856765235 tw12778519247429417690 tw12441966702880546377 tw338609025318898950 tw8526882970226010061 tw6571406587727496251 tw568473550487358277 tw11715031391733235418 tw18068818818811458418 tw17753652519177425691 tw17057677118421493635 tw998225074360311789 tw15342946020033323594 tw6302210986752335536 tw5048559748501831165 tw10325406395773573623 tw11841041346934233122 tw15219065018831197238 tw2849559811584500004 tw1637286818544182710 tw13877797931868822864 tw13811532393424935190 tw12186185198444864423 tw15398889977160589857 tw9257115872266394853 tw2134423241620201470 tw4362677492134241409 tw4275018011154313645 tw14111899017646346602 tw89547678747745150 tw6960216712496816542 tw614368900400261032 tw3557159125609079957 tw2540365837144768014 tw18078146884496586175 tw17559085568483862355 tw12790272436204504185 tw10095587046314203088 tw8132187447784206126 tw3805827125003605643 tw3844724380702187496 tw160675487910168045 tw15848328748169593740 tw14138299022056542312 tw2303117289518685629 tw13755874236117557551 tw9223011478269693832 tw12811828249182852477 tw5295224947477753479 tw16746946527613818227 tw15132895319125246619 tw13507309888782200295 tw10299404740819100401 tw9760844555603354057 tw8843065385468233203 tw789116301741500430 tw6847680647424058315 tw6420568187337384235 tw5745181559043325023 tw3263838556114454386 tw18172698513657787091 tw17944200679611243074 tw17004437605428978104 tw10683091086144805841 tw1043037737498875441:True)
open PySem PySem.W PyProof.Rows PX
set_option maxRecDepth 100000 in
set_option maxHeartbeats 0 in
theorem PySem.Challenge.cw_twinriddles_k83_alike_and_least_names_holds : PySem.Challenge.rw_twinriddles_k83_alike_and_least_names.Holds := by
  w_on; o_law; k_head; (case hw => w_witness2)
  k_fill
  refine walkT (TB := K83.TB83) (l := PySem.Challenge.rw_twinriddles_k83_alike_and_least_names) (LV := 12) (x := "_law_script") ⟨rfl, by decide, by decide, rfl⟩ rfl rfl (fun w h Y => km_in_of Y) (fun w h Y => aC (km_tabs_of Y _ List.mem_cons_self) aN) (fun w => aC ?K aN) (by decide) ?F K83.main
  case K => show List.lookup 352 _ = none; kernel_rfl
  case F =>
   intro w mg fa h KX G hmg
   refine' K83.all_mk hmg (txK KX G ?_ ?_ ?_ ?_ ?_ ?_ ?_ ?_ ?_ ?_ ?_ ?_ ?_ ?_ ?_ ?_) ?_ ?_ ?_ ?_ ?_ ?_ ?_ ?_ ?_ ?_ ?_ ?_ ?_ ?_ ?_ ?_ ?_ ?_ ?_ ?_ ?_ ?_ ?_ ?_ ?_ ?_ ?_ ?_ ?_ ?_ ?_ ?_ ?_ (fzT KX G ?_ ?_ ?_ ?_ ?_) (mg_none_of KX G ?_) ⟨(aC (mg_of KX G ?_) (aC (mg_of KX G ?_) (aC (mg_of KX G ?_) (aC (mg_of KX G ?_) (aC (mg_of KX G ?_) (aC (mg_of KX G ?_) (aC (mg_of KX G ?_) (aC (mg_of KX G ?_) (aC (mg_of KX G ?_) (aC (mg_of KX G ?_) aN)))))))))), (aC (mg_of KX G ?_) aN), (aC (aC ?_ (aC ?_ (aC ?_ (aC ?_ (aC ?_ (aC ?_ (aC ?_ (aC ?_ (aC ?_ (aC ?_ aN)))))))))) aN), (aC ?_ aN), (aC (show ClK _ 121 24 from ⟨⟨?_, ?_, ?_, ?_, ?_, ?_, ?_, ?_⟩, (aC ?_ (aC ?_ (aC ?_ (aC ?_ (aC ?_ (aC ?_ aN)))))), ?_⟩) aN), (aC (show excIn _ 121 _ _ = true from ?_) aN), mg_none_of KX G ?_, mg_none_of KX G ?_, mg_of KX G ?_⟩ (mgI KX G ?_)<;>try first|refine' fz KX G ?_ ?_ ?_ ?_<;>try k_is|k_is|kernel_rfl
