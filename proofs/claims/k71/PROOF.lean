import PyProof.Rows.All
import Wide.All
import OpenK.AllK
import Wide.FinOn
import PyProof.EqAt
import PyProof.EqKinds
import PyProof.TupleCall
import Lean
import PySem.Challenge.RW_twinriddles_k71_clauses_that_may_be_put
set_option Elab.async false
set_option linter.all false
set_option maxRecDepth 100000
set_option maxHeartbeats 8000000
set_option compiler.extract_closed false
set_option backward.eqns.nonrecursive false
noncomputable section
open List renaming length->Ix
namespace RfL
theorem r{a:α}:a=a:=rfl
end RfL
open RfL renaming r->I,r->H8
open Option renaming some->Y,some->FM,none->J,none->F2
open Bool renaming true->U,true->Gc,false->C,false->Go
open Array renaming length_toList->kG,getElem?_toList->nk,getElem?_eq_getElem->qp,getElem?_eq_some_iff->L8,getD_eq_getD_getElem?->wC,getElem?_setIfInBounds->DU,getElem?_eq_none->DT,forIn_toList->DM,getElem?_replicate->Mx,mem_toList_iff->WL,toList_eq_nil_iff->WK,toList_push->ez,replicate->eY,getD->fr,size_zip->me,size_map->mi,toList->n5,ext->t6
open Bool renaming false_eq_true->jF,false_ne_true->kF,and_eq_true->kJ,not_true->rg,true_and->uk,false_and->zh,and_false->za,or_eq_true->yQ,eq_iff_iff->yK,eq_false_iff->Ma,not_false->fv,or_false->fH,and_self->fI,not_eq_true'->i5,not_eq_true->j5,noConfusion->j7,decide_and->l9,and_assoc->m5
open False renaming elim->cc
open ForInStep renaming yield->bB
open Function renaming comp_def->rh,comp->bc
open Int renaming toNat_natCast->uv,mul_one->AV,emod_lt_of_pos->G3,emod_nonneg->G2,neg_neg->gi,natCast_inj->m4,ediv_one->sa,mul_neg->t5
open LawfulBEq renaming eq_of_beq->wc
open LawfulMonad renaming bind_assoc->sA,pure_bind->r8
open List renaming map_cons->jx,mem_map->mS,mem_cons->ku,getElem?_eq_getElem->jt,size_toArray->jw,length_map->jz,mem_cons_self->jP,mem_cons_of_mem->jU,map_map->jZ,length_cons->kI,all_eq_true->lG,not_mem_nil->ll,mem_append->rY,getElem?_eq_some_iff->xN,getD_eq_getElem?_getD->lR,nodup_nil->lX,getElem?_map->mv,map_nil->nj,length_append->nG,mem_of_getElem?->nK,pairwise_cons->AA,map_id->oJ,length_nil->pv,pairwise_map->qt,map_congr_left->ph,pairwise_append->wA,map_append->pR,nil_append->pQ,mem_range->vm,lookup_cons->qr,mem_append_right->rq,length_take->rp,getElem?_append_right->rn,append_assoc->rm,getElem?_set_ne->tU,mem_filter->Fu,getElem?_of_mem->uo,getElem?_set_self->wj,getElem?_append_left->wd,mem_map_of_mem->qI,cons_append->qH,filterMap_cons->sG,nodup_cons->zk,length_set->sD,getElem?_cons_succ->rZ,foldl_cons->uB,exists_cons_of_length_pos->uz,zip_cons_cons->uy,getElem?_cons_zero->ux,length_eq_zero_iff->MU,append_nil->wO,mem_singleton->KA,all_cons->wN,ext_getElem->wM,take_append_drop->wI,mem_of_mem_take->wH,mem_flatMap->wB,take_sublist->ze,length_singleton->zb,find?_cons->yX,any_cons->yW,getElem?_zip_eq_some->Fs,any_map->yU,drop_eq_getElem_cons->yT,pairwise_reverse->HD,length_pos_iff->QN,length_drop->AS,reverse_cons->AQ,getElem_map->AN,drop_eq_nil_of_le->AM,range'_succ->AL,length_reverse->AK,reverse_perm->AJ,eq_nil_of_length_eq_zero->AI,mem_of_mem_drop->AH,length_eraseIdx->AF,isEmpty_nil->AE,nodup_append->AD,length_filter_le->AB,mem_append_left->En,getElem?_set->Eg,ext_getElem?->Ef,perm_middle->QE,pairwise_iff_getElem->QD,getElem_of_mem->D4,extract_eq_take_drop->D3,take_succ->D2,mem_erase_of_ne->DV,getElem_mem->DL,getElem_inj->HB,of_mem_zip->Hy,getElem?_zipIdx->Hg,drop_sublist->G9,perm_cons_erase->GU,getElem?_take_of_lt->MR,pairwise_singleton->ME,eq_nil_or_concat->MD,concat_eq_append->MC,perm_append_comm->TN,length_erase_of_mem->MA,pairwise_lt_range->WM,filterMap_append->Mz,perm_append_singleton->My,dropLast_concat_getLast->Mf,mem_of_mem_eraseIdx->Me,filter_eq_self->WJ,nodup_iff_pairwise_ne->TM,replicate->ah,range->aj,range'->bU,map->cn,replicate_zero->cY,replicate_succ->cZ,length->c9,mem_reverse->dq,getElem?_replicate->dr,take_of_length_le->dv,range_succ_eq_map->dw,all_map->dz,forIn_cons->dJ,mem_filterMap->ew,getElem?_drop->ey,length_range->eK,take_take->fu,getElem?_eq_none->f3,zip_nil_right->gD,filterMap_map->gE,Nodup->gG,foldl_append->i3,any_eq_false->i4,zipIdx_cons->js,take_length->j0,map_fst_zip->j2,any_eq_true->j4,set_append->l8,tail_cons->mA,forIn_nil->mL,map_take->n4,map_set->pc,foldl->t0
open List.Pairwise renaming nil->ci,sublist->ro,of_map->rs,map->r0,imp_of_mem->r3
open List.Perm renaming refl->wF,eq_of_pairwise->MB,append_left->Mw,swap->gg,cons->gh,trans->B0,of_eq->B1
open List.cons renaming inj->sh,injEq->db
open Nat renaming le_refl->jQ,ne_of_lt->jG,le_trans->ly,zero_le->mr,lt_of_lt_of_le->pz,ne_of_gt->pT,lt_irrefl->rB,lt_succ_of_lt->vY,pow_succ->qJ,lt_succ_self->sv,mul_assoc->sd,zero_add->uA,mul_add->wD,le_of_lt->zj,le_succ->zc,add_assoc->yS,mul_comm->yP,mul_one->yO,mod_lt->yN,pow_le_pow_right->yM,lt_trans->Ei,mul_left_comm->DX,lt_asymm->Hk,add_sub_cancel_left->Ha,one_mul->G5,mul_zero->G4,min_eq_left->dL,add_mul->fe,add_zero->fY,sub_add_cancel->ib,not_lt->ij,lt_or_eq_of_le->im,add_sub_cancel->io,le_succ_of_le->jp,le_of_not_lt->l7,two_pow_pos->mo,mul_add_mod->ms,div_add_mod->mu,le_of_eq->re,le_zero->tv,add_mod->tz
open Ne renaming symm->rA
open Option renaming bind_some->jv,isSome_iff_exists->Mb,isSome_map->Hh,map_eq_some_iff->dc,map_some->eV,bind->fL,isSome_some->ga,getD_some->gA,getD_none->gC,map->o6
open Option.some renaming inj->kP
open Or renaming inl->bn,inr->bt
open Ordering renaming swap->fc
open Prod.mk renaming inj->sy
open PyProof.Rows renaming SortSt->ui,slot_tuple_getitem->xK,listUpdate_at->wG,get?_update_seq->yR,callWith_type1->AU,seqEpoch_at->AG,boot_range->Em,slicePart_none->Ej,entry_tuple_getitem->Hr,args_tuple_getitem->Hq,tupleItemsOf_->Ho,listItems_at->G8,subscriptTail_builtinR->MQ,seqObj->bg,envOfC->cW,IntsAre->d0,AllBare->ee,Keyed->ei,subscriptTail->eT,arrOf->eU,failedOf->fq,IsTup->gz,SortKind->l3,Subscript_->n3,wpAny_notIn_heap->rc,lt_int->ta,le_int->tc,gt_int->te,ge_int->th,entry_list_sort->tp,callWith_builtin1->ts,slot_list_sort->v8,oneType'->v9,keyLt'->wf,slicePart_int->y8,reverseSlice'->y9,tuples'->AT,plain_sorted->A1,entry_sorted->A2,call_abs_int->Bn,kind_sorted->Fk
open PyProof.Rows.F renaming plain_set_update_loop->GX,entry_set_update_loop->Mn
open PyProof.Rows.IsTup renaming new->AR
open PySem renaming Shared->il,Program->iU,Around->iP,World->iK,SetTable->nh,Value->iC,Comprehension->pP,FuncData->oI,Heap->iO,Addr->hV,wpAny_bind->hU,wpAny_pure->iq,sizeLine_eq->jI,wpAny_holding->lZ,wpAny_newObj_type->mT,wpAny_field->oh,wpAny_call_entry->oM,wpAny_mono->pU,codeAny_builtin->qq,wpAny_of_eq->rk,wpAny_typeOf->tR,wpAny_callSpecial?_slot->ur,wpAny_rule->uq,wpAny_setState_of->um,wpAny_truthy_bool->wg,codeAny_mono->we,plainId_quiet->vX,wpAny_setField_rec->vV,wpAny_seqItems->sj,wpAny_attempt->si,wpAny_forIn_list->se,mem_of_lookup->uC,wpAny_specialOf->uw,wpAny_standAt->wR,wpAny_passesOwn->wQ,wpAny_setField->wK,wpAny_isInstance->wJ,wpAny_load->zi,wpAny_pyIter_list->zg,wpAny_Call_Name_kw->zf,wpAny_askSetting->yZ,codeAny_of_tree->yY,tupleKind_room_in1->yV,call_meets->AO,concat_meets->Ek,wpAny_runValue->Ed,wpAny_newTuple->D9,wpAny_letGo->D8,isSubtype_stop->D6,wpAny_onRaise->D5,richCompare_meets_room->DZ,wpAny_newList->DY,wpAny_isSame_ref_self->DS,isSubtype_type->DR,wpAny_updateSeq->DP,wpAny_typeNameOfWhole_keyiter->DN,wpAny_pyHash_int->HC,wpAny_execs_nil->HA,wpAny_pyIter_tuple->Hz,noFill_tuple_add->Hx,seq_tuple_add->Hw,wpAny_sequenceKey->Hs,evalPart_none->Hn,seqIndex_of->Hm,seqIndex_neg->Hl,wpAny_comprehension_free->Hj,wpAny_handled->He,wpAny_throw->Hd,codeAny_call_builtin->Hc,wpAny_collect_seq->G6,typeLookup_type->G1,builtinLookup_eq_fast->G0,wpAny_pyIter_slot->GZ,wpAny_setEntries_of->GY,wpAny_dictEntries->GW,wpAny_dictEpoch->GV,weight_type_call_type->MI,wpAny_updateSeq_pair->MF,codeAny_extend_loopS->Mp,wpAny_notOrdered_dict->Mk,wpAny_isOneOf_keyiter->Mh,starEach->ac,wpAny->ae,model->ag,mainGlobals->ao,compareOp->ap,foldedSetIterable->aw,bootBuiltins->aH,backTo->aJ,eval->aM,assignEach->aU,Str->aW,cLine->aX,Builtin->aZ,cellsFrom->bm,holding->bo,keywordEach->bq,binaryOp->bv,Pos->bC,wpAny_loadPart'->bI,ofAClassStatement->bJ,assign->bW,sysModules->b3,pyNext->b6,Stmt->b7,clausesOf->cd,behindInMarks->ce,Keyword->cf,backToKw->ck,standAt->cq,rawInt->cr,IsPair->cv,swapsWithSole->cw,swappedStores->cx,attributeBase->cy,CmpOp->cz,tupleKind->cE,firstArgMember->cF,codeAny->cG,swapsWith->cR,getItem->c0,sliceBounds->c4,hashByValue->c5,NameKind->c7,pyIter->c8,Sem->dF,IsPart->dG,checkBuiltinCall->dN,GenState->dO,IsEnum->dX,letOwnedTupleGo->ef,IsZip->eh,Obj->en,lastMarks->eC,callerA->eD,PassesOwn->eF,DictEntry->eG,Env->eO,valueAt->fj,setItem->fk,collect->fm,BindsTo->fo,pickOrder->fw,Arguments->fy,atKey->fB,typeLookup->fM,newFunctionEnv->fO,entryFor->fP,argsOk->fQ,Meets->fV,comprehension->gc,call->gf,updateSeq->gj,scanBound->gk,list_append->gl,field->gn,compStart->gq,bindL->gr,bindC->gu,Model->gw,IsEnumOut->gx,release->gJ,relabel->gK,newList->gP,newExc->gV,intKind->gW,Result->h7,ItemsOf->ia,unsupported->ka,subscripted->kl,slotArgs->kv,setField->kA,newTuple->kS,compTurn->k0,ZipApart->k7,Moved->k8,wpAny_call->na,wpAny_Name->nb,setsByText->nm,setAdd->nt,getattributeRaised->nw,builtinsNs->nz,Tok->nL,wpAny_storeSet_of->n6,wpAny_pyIter_enum->n7,table->n8,slot_list_getitem->n9,searchCouldBeSeen->on,eqIsQuiet_byValue->oC,wpAny_pyIter_zip->pf,seqIndex?->pp,noteFrame->pw,eqIsQuiet->px,beq_builtin_none->pL,wpAny_stack_any->sf,theWindowsPlace->sm,pushCells_keeps->sn,Fin->ss,wpAny_tryCatch->t7,wpAny_notIn_of->ul,wpAny_fieldsOf->ut,wants->uu,typeOf->u3,raiseNew->u5,entryFor_alias->u6,contains->u8,compPost->vl,cellOf->vr,callType_codes->vu,bindArgs->v6,Params->v7,wpAny_notedAt->wl,wpAny_in_heap->wn,sub_enumerate->wr,setSearchFrom->wv,rangeSize_one->ww,intBits_le_64->wE,evalPart_some->wL,checkTypeCall->wP,call_list_seq->wS,unaryOp->zn,spliced->zx,setAddHashed->z0,name_of_addr->z7,dictSet->z8,call_range_2->z9,callType_new->At,IsRange->AC,wpAny_in_of->B2,wpAny_alloc->B4,wpAny_Slice->Ch,setContains->CI,interactive->CL,IsRangeIter->EQ
open PySem.Around renaming under_plainId->tQ,under_plain->f8
open PySem.AutoSeq1 renaming sub_tuple_tuple->D1,list_extend_list_list_0->Fa
open PySem.Builtin.Dict renaming updateFrom->eP,showsAll->eW,selfAndRest->sx,pairItems->sB,dictSlotNone->sK,addKeywords->s8
open PySem.Builtin.Frozenset renaming addrOf->dZ,withSetAsKey->k9,updateFrom->lf,slot0->li,sizeOf->lm,oneOther->ln,newClass->lw
open PySem.Builtin.List renaming listExtendWith->bO,listSameRef->b9,listTooLong->cO,listLengthHint->el
open PySem.Builtin.Range renaming rangeSize->eJ,small->q9
open PySem.Builtin.Slice renaming slicePlaces->aS,sliceAdjust->bf,sliceApplied->bT,sliceFields->eu,slicePartIndex->p7
open PySem.Builtin.SmallTypes renaming nextOf->aP,fitsIndex->bh,ownedTupleHandOut->bi,ownedTupleIsFree->bj
open PySem.Builtin.Tuple renaming tupleExact->aF,tupleHashOf->be,tupleCompareSizes->bA,tupleItemsOf->bR,tupleIsExact->ek
open PySem.Calls renaming Name_function_global->MS
open PySem.Data renaming cell->eS,fields->f5,seq->mm
open PySem.F renaming called_set->MT,slot_dict_keyiterator_next->CS,slot_tuple_hash->Jr,slot_enumerate_next->D7,plain_list_iadd->DQ,slot_tuple_add->Hv,entry_tuple_add->Hu,args_tuple_add_2->Ht,plainAttrs_list->Hf,called_tuple->QM,slot_set_contains->L9,slot_list_getattribute->QK,entry_list_append->MP,args_list_append_2->MO,entry_object_init->MN,args_object_init_2->MM,slot_tuple_iterator_next->ML,entry_enumerate_next->MK,args_enumerate_next_1->MJ,entry_enumerate_new->MH,slot_set_iter->Mv,entry_proto_collect->Mu,plain_proto_collect->Mt,entry_list_iadd->Mr,plain_extend_loop->Mq,plain_set_new->Mm,slot_dict_iter->Ml,entry_dict_keyiterator_next->Mj,args_dict_keyiterator_next_1->Mi
open PySem.Heap renaming get?_push_of_some->jS,lt_size->jl,get?_push_size->kh,size_push->rl,get?_update_self->wa,get?_update_other->zd,get?_update_ne->G7,SameBut->aC,ExtBut->dW
open PySem.Heap.SameBut renaming update->tP,refl->Eh
open PySem.Moved renaming trans->DO,refl->p6
open PySem.NameKind renaming free->aK,cell->cB
open PySem.Obj renaming data_mapFields->vW,isFreed_of_fields->Eb,cls_mapFields->Ea,mapSeq->aE,mapFields->fJ,putSet->h9
open PySem.Paired renaming length->AW
open PySem.SeqAt.EqAt renaming str_int->fD,int_str->fF,same->fK,str_str->wT,str_none->w5,str_bool->xc,none_str->xf,none_int->xn,none_bool->xx,int_none->xz,int_int->x0,int_bool->x8,bool_str->y3,bool_none->y4,bool_int->y6,bool_bool->y7
open PySem.SetTable renaming below->ai,insertAt->ay,runEnd->aB,bits->aL,turns->bZ,leap->cA,Probe->cN,sizeAbove->dR,grown->eQ,layClean->fU,tooFull->f4,fresh->gv,slot->hH,laid->hL,fits->hZ,fill->h6,put->i8,sameMemory->Db,relaid->Do,has->D0,gaveWay->Ec,advance->Ev
open PySem.SetTable.layClean renaming free->bD
open PySem.SetTable.probe renaming go->dt
open PySem.Str renaming ofString->ba
open PySem.Value renaming none->am,ref->bb,type->bx,notImplemented->cH,bool->c6,builtin->fx,str->hD,int->hF,isStrOf->mj,isInt->o3
open PySem.W renaming Frag->iM,mg_none_of->pe,kia_one->su,cellsFrom_some->El,nsIn->aQ,fnOf->ca,keepIn->cu,kitOne->dA,codeIn->dB,methodObj->ej,OpenLaw->eM,mg_of->i6,WalkO->i7
open PySem.Walks renaming list->Ee
open StateT renaming run_pure->Hb
open Sum renaming inl->cI,inr->eL
open True renaming intro->bV
section
open PySem PySem.Spec PyProof.Rows
abbrev jf:=iC->il->Prop
abbrev ji:=List<|hV×en
abbrev jo:=List<|List Int
abbrev iu:=List Int
abbrev jN:=List iC
abbrev nJ:=aW->Option iC
abbrev ky:=List Nat
abbrev vP:=Array<|Int×iC
abbrev nI:=Array iC
abbrev jr:=List aW
abbrev kn:=List Expr
abbrev uj:=Bool->il->Prop
abbrev CQ:=Option iC->il->Prop
abbrev zS:=iC->iC->dF iC
abbrev xM:=Array<|Option Nat
abbrev zR:=Array<|Option iC
abbrev mq:=List<|aW×hV
abbrev qo:=List pP
abbrev CP:=Array ei
abbrev kg:=Nat->Prop
abbrev kH:=List hV
abbrev km:=Scope
abbrev iA:=Expr
end
section
open PySem PySem.Spec PyProof.Rows PySem.SeqAt
theorem iF:type_of% @if_pos:=@if_pos
theorem iL:type_of% @if_neg:=@if_neg
theorem kb:type_of% @if_false:=@if_false
theorem kr:type_of% @if_true:=@if_true
theorem lY:type_of% @or_false:=@or_false
theorem mB:type_of% @decide_eq_false:=@decide_eq_false
theorem ni:type_of% @decide_eq_true_eq:=@decide_eq_true_eq
def nM:=@congrArg
theorem oK:type_of% @decide_eq_true:=@decide_eq_true
theorem pk:type_of% @not_or:=@not_or
theorem vZ:type_of% @bne_self_eq_false:=@bne_self_eq_false
theorem Ai:type_of% @beq_eq_false_iff_ne:=@beq_eq_false_iff_ne
theorem yL:type_of% @decide_true:=@decide_true
end
namespace TT
open PySem
noncomputable def adv(mask:Nat)(p:cN):SetTable.Probe:=
 if p.more>0 then {p with j:=p.j+1,more:=p.more-1} else
 {p with j:=(cA mask p.i p.perturb).1,more:=aB mask (cA mask p.i p.perturb).1-(cA mask p.i p.perturb).1,i:=(cA mask p.i p.perturb).1,perturb:=(cA mask p.i p.perturb).2}
noncomputable def stt(mask:Nat)(h:Int):SetTable.Probe:={j:=aL h%(mask+1),more:=aB mask (aL h%(mask+1))-aL h%(mask+1),i:=aL h%(mask+1),perturb:=aL h,dummy:=J}
noncomputable def pr(mask:Nat)(h:Int):Nat->cN
 |0=>stt mask h
 |n+1=>adv mask<|pr mask h n
structure TabOk(hs:iu)(t:nh):Prop where
 pow: ∃k,3<=k/\k<=11/\t.mask+1=2^k
 dum:t.dummies= #[]
 len:t.place.size=Ix hs
 room:5*(Ix hs)<3*t.mask
 ris:t.place.toList.Pairwise (· < ·)
 bd: ∀j∈t.place.toList,j<=t.mask
 road: ∀(i:Nat) (h:Int) (j:Nat),hs[i]?=FM h->t.place[i]?=FM j-> ∃n,(pr t.mask h n).j=j/\ ∀m,m<n->(pr t.mask h m).j∈t.place.toList
end TT
namespace L2
open PySem PySem.Spec PyProof.Rows
abbrev Key:=Sum Int aW
noncomputable def By:Key->iC->Bool
 | .inl k,v=>o3 k v
 | .inr x,v=>mj x v
noncomputable def ZH(w:iK):Key->Int
 | .inl k=>hashInt k
 | .inr x=>hashStr w x
def kU: ∀{k:Key} {v:iC},By k v=U->(∃i t,k=cI i/\v=hF i t)\/(∃x t,k=eL x/\v=hD x t)
 | .inl i,v,h=>by obtain⟨t,e⟩:=Value.isInt_shape (k:=i) (v:=v) h;exact .inl ⟨i,t,rfl,e⟩
 | .inr x,v,h=>by obtain⟨t,e⟩:=Value.isStrOf_shape (x:=x) (v:=v) h;exact .inr ⟨x,t,rfl,e⟩
def Lz(i:Int)(t:nL):By (.inl i) (.int i t)=U:=by simp[By,o3]
def Ly(x:aW)(t:nL):By (.inr x) (.str x t)=U:=by simp[By,mj]
def Ph(a b:Int):decide ((cI a:Key)=cI b)=(a==b):=by
 by_cases e:a=b
 .subst e;simp
 .have h: ¬(cI a:Key)=cI b:=λq=>e<|Sum.inl.inj q;rw[mB h];exact(Ai.mpr e).symm
def Pe(a b:aW):decide ((eL a:Key)=eL b)=decide (a=b):=by
 by_cases e:a=b
 .subst e;simp
 .have h: ¬(eL a:Key)=eL b:=λq=>e<|Sum.inr.inj q;rw[mB h,mB e]
def Pg(a:Int)(b:aW):decide ((cI a:Key)=eL b)=C:=mB (λq=>nomatch q)
def Pf(a:aW)(b:Int):decide ((eL a:Key)=cI b)=C:=mB (λq=>nomatch q)
noncomputable def kR(d:iU)(w:iK):PySem.KeyKind d w Key where
 is:=By
 hash:=ZH w
 inj:=λv a b g f=>by
  rcases kU g with⟨i,t,rfl,rfl⟩|⟨x,t,rfl,rfl⟩
  .rcases kU f with⟨j,u,rfl,e⟩|⟨y,u,rfl,e⟩
   .injection e with c _;rw[c]
   .exact nomatch e
  .rcases kU f with⟨j,u,rfl,e⟩|⟨y,u,rfl,e⟩
   .exact nomatch e
   .injection e with c _;rw[c]
 byValue:=λk v h=>by rcases kU h with⟨i,t,rfl,rfl⟩|⟨x,t,rfl,rfl⟩<;>rfl
 pyHash:=λhv h=>by
  rcases kU hv with⟨i,t,rfl,rfl⟩|⟨x,t,rfl,rfl⟩
  .exact HC h
  .exact wpAny_pyHash_str h
 eqBool:=λl hv h=>by
  rcases kU l with⟨i,t,rfl,rfl⟩|⟨x,t,rfl,rfl⟩
  .rcases kU hv with⟨j,u,rfl,rfl⟩|⟨y,u,rfl,rfl⟩
   .rw[Ph] at h;exact wpAny_eqBool_int h
   .rw[Pg] at h;exact fF i t y u _ _ _ _ h
  .rcases kU hv with⟨j,u,rfl,rfl⟩|⟨y,u,rfl,rfl⟩
   .rw[Pf] at h;exact fD x t j u _ _ _ _ h
   .rw[Pe] at h;exact wpAny_eqBool_str h
 «strs»:=λk x t v h=>by
  rcases kU h with⟨i,u,rfl,e⟩|⟨y,u,rfl,e⟩
  .exact nomatch e
  .injection e with c _
   subst c;cases v<;>rfl
def Gf(a:iU)(w:iK)(i:Int)(t:nL):(kR a w).is (.inl i) (.int i t)=U:=Lz i t
def Ge(a:iU)(w:iK)(x:aW)(t:nL):(kR a w).is (.inr x) (.str x t)=U:=Ly x t
inductive V where
 |non|bl(b:Bool)|int(i:Int)|str(x:aW)|byt(b:Array UInt8)|flt(b:UInt64)|ref(a:hV)|ty(n:String)
 deriving DecidableEq
def RelV:V->iC->Prop
 | .non,u=>u=am
 | .bl b,u=>u=c6 b
 | .int i,u=> ∃t,u=hF i t
 | .str x,u=> ∃t,u=hD x t
 | .byt b,u=> ∃t,u=Value.bytes b t
 | .flt b,u=> ∃t,u=Value.float b t
 | .ref a,u=>u=bb a
 | .ty n,u=>u=bx n
abbrev Vals:List V->List iC->Prop:=Paired RelV
def Vals.length{xs:List V}{a:jN}(r:Vals xs a):(Ix xs)=(Ix a):=AW r
def Vals.get{xs:List V}{a:jN}{i:Nat}{x:V}(h:Vals xs a)(e:xs[i]?=Y x): ∃u,a[i]?=Y u/\RelV x u:=by
 induction h generalizing i with
 |nil=>simp at e
 |cons r t b=>
  cases i with
  |zero=>simp at e;subst e;exact⟨_,rfl,r⟩
  |succ i=>simpa using b (by simpa using e)
theorem Vals.set{x:V}{u:iC}(r:RelV x u): ∀{xs:List V} {a:jN} (i:Nat),Vals xs a->Vals (xs.set i x) (a.set i u)
 |_,_,_,.nil=> .nil
 |_,_,0,.cons _ t=> .cons r t
 |_,_,i+1,.cons q t=> .cons q (Vals.set r i t)
def Vals.append{c d:List V}{a b:jN}(h:Vals c a)(s:Vals d b):Vals (c++d) (a++b):=by
 induction h with
 |nil=>exact s
 |cons r t e=>exact .cons r e
theorem Vals.take: ∀{xs:List V} {a:jN} (n:Nat),Vals xs a->Vals (xs.take n) (a.take n)
 |_,_,0,_=> .nil
 |_,_,_+1,.nil=> .nil
 |_,_,n+1,.cons r t=> .cons r (Vals.take n t)
theorem Vals.drop: ∀{b:List V} {a:jN} (n:Nat),Vals b a->Vals (b.drop n) (a.drop n)
 |_,_,0,r=>r
 |_,_,_+1,.nil=> .nil
 |_,_,n+1,.cons _ t=>Vals.drop n t
def RelO:Option V->Option iC->Prop
 |some v,Y u=>RelV v u
 |none,J=>True
 |_,_=>False
def KV{a:Type}:List (a×V)->List (a×iC)->Prop:=Paired λ(p:a×V) (q:a×iC)=>p.1=q.1/\RelV p.2 q.2
noncomputable def kV:Key->V
 | .inl i=> .int i
 | .inr x=> .str x
inductive HO where
 /-- a list -/
 |lst(xs:List V)
 /-- a tuple(never changes) -/
 |tup(xs:List V)
 /-- a dict whose keys are ints and texts;one whose keys are tuples of ints and texts(the empty one is both) -/
 |dK(kvs:List (Key×V))|dT(kvs:List (List Key×V))
 /-- a set of ints:its members,its size -/
 |set (S:Int->Bool) (n:Nat)
 |stt (zs:List (Int×V))
 /-- an instance of the class at C,its dict at dx,its attributes -/
 |ins (C dx:hV) (fs:List (aW×V))
 /-- the dict of the instance at x -/
 |own (x:hV)
 /-- the dict of an exception -/
 |xd (fs:List (aW×V))
 /-- a bound method,f of x -/
 |met (f x:hV)
 /-- a range object lo,lo+1,.. below hi -/
 |rng (lo hi:Int)
 /-- a thing that is known to the object (the script;a dict while a loop walks it):read,never written while it is so -/
 |frz (o:en) (u:HO)
 /-- a code object's n8 -/
 |tbl (ps:nI)
 /-- any other thing,by what is Gc of its one object (a def of one's own:SetO a S n:=HO.ext λh=> ..) -/
 |ext (φ:iO->Prop)
abbrev Hp:=hV->Option HO
noncomputable def upd(T:Hp)(a:hV)(o:HO):Hp:=λb=>if b=a then Y o else T b
def jm{T:Hp}{a:hV}{o:HO}:upd T a o a=Y o:=by unfold upd;rw[iF I]
def jk{T:Hp}{a b:hV}{o:HO}(h:b≠a):upd T a o b=T b:=by unfold upd;rw[iL h]
def Jx{T:Hp}{a:hV}{o u:HO}:upd (upd T a o) a u=upd T a u:=by funext b;unfold upd;split<;>rfl
def Uh{T:Hp}{a b:hV}{o u:HO}(h:T a=Y o)(c:T b=Y u)(d:o≠u):a≠b:=by intro e;subst e;rw[h] at c;exact d<|kP c
def mD{T:Hp}{a b:hV}{o:HO}(h:T a=Y o)(c:T b=J):a≠b:=by intro e;subst e;rw[h] at c;cases c
section
variable(P:iU)(w:iK)
def ObjOk(T:Hp)(h:iO)(a:hV):HO->Prop
 | .lst g=>Ix g<=sizeLine/\ ∃(b:jN) (n:Nat),Vals g b/\h.get? a=Y {cls:= .type "list",data:= .seq b.toArray n}
 | .tup g=>Ix g<=sizeLine/\ ∃b:List iC,Vals g b/\gz h a b.toArray
 | .dK d=>Ix d<=sizeLine/\(a==b3)=C/\ ∃k,KV d k/\h.DictOf (kR P w) a k
 | .dT d=>Ix d<=sizeLine/\(a==b3)=C/\ ∃g:List (List Key×hV×iC),
   Paired (λ(p:List Key×V) (q:List Key×hV×iC)=>p.1=q.1/\T q.2.1=Y (.tup<|p.1.map kV)/\RelV p.2 q.2.2) d g/\
   ∃o j Q,h.get? a=Y o/\o.ExactDict/\o.data= .dict j Q/\j.toList=g.map (entryOfKey<|cE<|kR P w)/\(g.map (·.1)).Nodup
 | .set S n=>h.SetOf (gW P w) a S n
 | .stt E=> ∃(j:vP) (n:Nat) (t:nh),h.get? a=Y {cls:= .type "set",data:= .set j n t}/\Paired (λ(z:Int×V) (e:Int×iC)=>z.1=e.1/\RelV z.2 e.2) E j.toList/\
   TT.TabOk (E.map (·.1)) t/\t.plain=U/\t.led=!w.params.followText "set-order"
 | .ins N l fs=>T l=Y (.own a)/\(Ix fs)<=1000/\l≠a/\h.get? a=Y (PySem.W.instObj N l)/\
   ∃i,h.Ns1 l i/\(∀f,RelO (fs.lookup f)<|i f)/\PySem.Within i (fs.map (·.1))
 | .own _=> ∃o,h.get? a=Y o
 | .xd fs=> ∃i,h.Ns1 a i/\ ∀f,RelO (fs.lookup f)<|i f
 | .rng lo L=> ∃t u v,h.get? a=Y {cls:= .type "range",data:= .fields #[.int lo t,.int L u,.int 1 v]}
 | .frz o u=>h.get? a=Y o/\ObjOk T h a u
 | .tbl O=> ∃q t r,O[0]?=Y (.str q t)/\h.get? a=Y {cls:= .none,data:= .fields r}/\TriplesOk r.toList/\ ∀m y,codeAmong m r.toList=Y y-> ∃c B u k t,y= .ref c/\T c=Y (.frz B u)/\B.data= .fields k/\k[1]?=Y (.str q t)
 | .met f x=>h.get? a=Y (ej (.ref f)<|.ref x)
 | .ext s=>s h/\(∃o,h.get? a=Y o)/\ ∀h1 A:iO,s h1->(∀o,h1.get? a=Y o->A.get? a=Y o)->s A
def HOk(T:Hp)(h:iO):Prop:= ∀a o,T a=Y o->ObjOk P w T h a o
end
section
variable {P:iU}{w:iK}{H g:Hp}{h h':iO}{a:hV}{o:HO}
def ObjOk.lt(x:ObjOk P w H h a o):a<h.objs.size:=by
 cases o with
 |lst c=>obtain⟨_,_,_,_,e⟩:=x;exact jl e
 |tup c=>obtain⟨_,_,_,p⟩:=x;exact p.lt
 |dK b=>obtain⟨_,_,_,_,o,_,_,e,_⟩:=x;exact jl e
 |dT b=>obtain⟨_,_,_,_,o,_,_,e,_⟩:=x;exact jl e
 |set S n=>obtain⟨o,_,_,_,e,_⟩:=x;exact jl e
 |stt l=>obtain⟨_,_,_,e,_⟩:=x;exact jl e
 |ins T d fs=>obtain⟨_,_,_,e,_⟩:=x;exact jl e
 |own y=>obtain⟨_,e⟩:=x;exact jl e
 |xd fs=>obtain⟨_,⟨_,_,_,e,_⟩,_⟩:=x;exact jl e
 |rng lo i=>obtain⟨_,_,_,e⟩:=x;exact jl e
 |frz j u=>obtain⟨e,_⟩:=x;exact jl e
 |tbl k=>obtain⟨_,_,_,_,e,_⟩:=x;exact jl e
 |met f y=>exact jl (show h.get? a=Y _ from x)
 |ext m=>obtain⟨_,⟨_,e⟩,_⟩:=x;exact jl e
def Paired.mapP{e i:Type}{F G:e->i->Prop}{c:List e}{d:List i}(h:Paired F c d)(f: ∀a b,F a b->G a b):Paired G c d:=by
 induction h with
 |nil=>exact .nil
 |cons r t j=>exact .cons (f _ _ r) j
def ObjOk.stay(x:ObjOk P w H h a o)(k: ∀b u,(b=a\/H b=FM (.own a))->h.get? b=FM u->h'.get? b=FM u)
  (N: ∀b,H b=FM (.own a)->g b=FM (.own a))(U: ∀b A,H b=FM (.tup A)->g b=FM (.tup A))(Y: ∀b i u,H b=FM (.frz i u)->g b=FM (.frz i u):=by exact λ_ _ _ q=>q):ObjOk P w g h' a o:=by
 induction o with
 |lst A=>obtain⟨z,s,n,r,e⟩:=x;exact⟨z,s,n,r,k _ _ (.inl H8) e⟩
 |tup A=>obtain⟨z,s,r,i,e,c⟩:=x;exact⟨z,s,r,i,k _ _ (.inl H8) e,c⟩
 |dK B=>obtain⟨z,y,O,r,i,j,l,e,c⟩:=x;exact⟨z,y,O,r,i,j,l,k _ _ (.inl H8) e,c⟩
 |dT B=>obtain⟨z,y,A,r,i,j,l,e,c⟩:=x;exact⟨z,y,A,Paired.mapP r λp q z=>⟨z.1,U _ _ z.2.1,z.2.2⟩,i,j,l,k _ _ (.inl H8) e,c⟩
 |set S n=>obtain⟨i,j,l,t,e,c⟩:=x;exact⟨i,j,l,t,k _ _ (.inl H8) e,c⟩
 |stt zs=>obtain⟨j,n,t,e,c⟩:=x;exact⟨j,n,t,k _ _ (.inl H8) e,c⟩
 |ins C' dx fs=>obtain⟨d,z,ne,e,E,⟨I,j,l,G,c⟩,r⟩:=x;exact⟨N _ d,z,ne,k _ _ (.inl H8) e,E,⟨I,j,l,k _ _ (.inr d) G,c⟩,r⟩
 |own y=>obtain⟨i,e⟩:=x;exact⟨i,k _ _ (.inl H8) e⟩
 |xd fs=>obtain⟨E,⟨I,j,l,e,c⟩,r⟩:=x;exact⟨E,⟨I,j,l,k _ _ (.inl H8) e,c⟩,r⟩
 |rng lo hi=>obtain⟨t,u,v,e⟩:=x;exact⟨t,u,v,k _ _ (.inl H8) e⟩
 |frz i u ih=>obtain⟨e,q⟩:=x;exact⟨k _ _ (.inl H8) e,ih q⟩
 |tbl ps=>obtain⟨q,t,D,T,e,F,m⟩:=x;exact⟨q,t,D,T,k _ _ (.inl H8) e,F,λL Q z=>let⟨c,i,u,O,t,h1,J',M⟩:=m L Q z;⟨c,i,u,O,t,h1,Y _ _ _ J',M⟩⟩
 |met f y=>have e:h.get? a=FM (ej (.ref f)<|.ref y):=x;show h'.get? a=FM (ej (.ref f)<|.ref y);exact k a _ (.inl H8) e
 |ext φ=>obtain⟨p,⟨o,e⟩,st⟩:=x;exact⟨st _ _ p λo q=>k _ _ (.inl H8) q,⟨o,k _ _ (.inl H8) e⟩,st⟩
def HOk.lt(x:HOk P w H h)(e:H a=Y o):a<h.objs.size:=(x a o e).lt
def HOk.fresh(x:HOk P w H h)(e:h.objs.size<=a):H a=J:=by
 cases q:H a with
 |none=>rfl
 |some u=>exact absurd (pz (x.lt q) e)<|rB _
def HOk.kept(x:HOk P w H h)(k: ∀b u,h.get? b=Y u->h'.get? b=Y u):HOk P w H h':=λa o e=>(x a o e).stay (λb u _ q=>k b u q) (λ_ q=>q) λ_ _ q=>q
def HOk.laid(x:HOk P w H h)(k: ∀b u,h.get? b=Y u->h'.get? b=Y u)(i:h.objs.size<=a)(new:ObjOk P w (upd H a o) h' a o):HOk P w (upd H a o) h':=λb u e=>by
 have d:=x.fresh i;by_cases f:b=a
 .subst f;rw[jm] at e;cases e;exact new
 .rw[jk f] at e;exact(x b u e).stay (λc v _ q=>k c v q) (λc q=>by rw[jk<|mD q d];exact q) (λc xs q=>by rw[jk<|mD q d];exact q) λc _ _ q=>by rw[jk<|mD q d];exact q
end
def Rd(T:Hp)(a:hV)(u:HO):Prop:=T a=Y u\/ ∃o,T a=Y (.frz o u)
def Rd.ok{P:iU}{w:iK}{T:Hp}{h:iO}{a:hV}{u:HO}(r:Rd T a u)(x:HOk P w T h):ObjOk P w T h a u:=by
 rcases r with r|⟨o,r⟩
 .exact x a u r
 .obtain⟨_,q⟩:=x a _ r;exact q
def Mut:Option HO->Prop
 |some (.lst _)=>True
 |some (.dK _)=>True
 |some (.dT _)=>True
 |some (.set _ _)=>True
 |some (.stt _)=>True
 |some (.ins _ _ _)=>True
 |some (.ext _)=>True
 |_=>False
section
variable {P:iU}{w:iK}{H:Hp}{h a:iO}{x e:hV}{d:HO}
def HOk.write(ok:HOk P w H h)(g:Mut (H x))(o:e=x\/H e=Y (.own x))(k: ∀b u,b≠e->h.get? b=Y u->a.get? b=Y u)(s: ∃u,a.get? e=Y u)
  (new:ObjOk P w (upd H x d) a x d):HOk P w (upd H x d) a:=λb u q=>by
 have f: ∀c y,H c=Y (.own y)->c≠x:=λc y r z=>by subst z;rw[r] at g;exact g
 have i: ∀c n,H c=Y (.tup n)->c≠x:=λc n r z=>by subst z;rw[r] at g;exact g
 by_cases l:b=x
 .subst l;rw[jm] at q;cases q;exact new
 .rw[jk l] at q;by_cases j:b=e
  .have p:H b=Y (.own x):=by
    rcases o with z|z
    .exact absurd (j.trans z) l
    .rw[j];exact z
   rw[q] at p;cases p;obtain⟨v,hv⟩:=s;exact⟨v,by rw[j];exact hv⟩
  .refine(ok b u q).stay (λc v m r=>k c v ?_ r) (λc r=>by rw[jk<|f c b r];exact r) (λc n r=>by rw[jk<|i c n r];exact r) λc _ _ r=>by rw[jk λz=>by subst z;rw[r] at g;exact g];exact r
   rcases m with rfl|m
   .exact j
   .rintro rfl;rcases o with z|z
    .exact f c b m z
    .rw[m] at z;cases z;exact l I
end
structure Un(fs ex:kH)(H H':Hp)(h h':iO):Prop where
 keep: ∀b o,h.get? b=FM o->H b=F2->b∉fs->b∉ex->h'.get? b=FM o
 slot: ∀b o,h.get? b=FM o->H b=F2->b∈fs->b∉ex-> ∃sl,h'.get? b=FM {o with slots:=sl}
 free: ∀b o,h.get? b=FM o->H b=F2->b∉ex->H' b=F2
 there: ∀b o,h.get? b=FM o->b∉ex-> ∃o',h'.get? b=FM o'
 tups: ∀b xs,H b=FM (.tup xs)->H' b=FM (.tup xs)
 frzs: ∀b o u,H b=FM (.frz o u)->H' b=FM (.frz o u)
 tbls: ∀b ps,H b=FM (.tbl ps)-> ∃more,H' b=FM (.tbl<|ps++more)
section
variable {fs g ex c:kH}{H d i:Hp}{h h1 f h':iO}{a x e:hV}{o:HO}
def Un.any(u:Un fs ex H d h h1){b:hV}{j:en}(q:h.get? b=Y j)(n:H b=J)(l:b∉ex): ∃m,h1.get? b=Y {j with slots:=m}:=by
 by_cases k:b∈fs
 .exact u.slot b j q n k l
 .exact⟨j.slots,u.keep b j q n k l⟩
def Un.kept(k: ∀b u,h.get? b=Y u->h'.get? b=Y u):Un fs ex H H h h':=
 ⟨λb j q _ _ _=>k b j q,λb j q _ _ _=>⟨j.slots,k b j q⟩,λ_ _ _ n _=>n,λb j q _=>⟨j,k b j q⟩,λ_ _ q=>q,λ_ _ _ q=>q,λ_ l q=>⟨#[],by rw[q];simp⟩⟩
def Un.refl:Un fs ex H H h h:=Un.kept λ_ _ q=>q
def Un.laid(k: ∀b u,h.get? b=Y u->h'.get? b=Y u)(r:h.objs.size<=a)(j:H a=J):Un fs ex H (upd H a o) h h' where
 keep:=λb u q _ _ _=>k b u q
 slot:=λb u q _ _ _=>⟨u.slots,k b u q⟩
 free:=λb u q n _=>by rw[jk<|jG<|pz (jl q) r];exact n
 there:=λb u q _=>⟨u,k b u q⟩
 tups:=λb xs q=>by rw[jk<|mD q j];exact q
 frzs:=λb u xs q=>by rw[jk<|mD q j];exact q
 tbls:=λb s q=>⟨#[],by rw[jk<|mD q j,q];simp⟩
def Un.write(j:Mut (H x))(v:e=x\/H e=Y (.own x))(k: ∀b u,b≠e->h.get? b=Y u->h'.get? b=Y u)(t: ∃u,h'.get? e=Y u):Un fs ex H (upd H x o) h h':=by
 have s: ∀b,H b=J->b≠x:=λb n z=>by subst z;rw[n] at j;exact j
 have p: ∀b,H b=J->b≠e:=λb n z=>by
  subst z;rcases v with r|r
  .exact s b n r
  .rw[n] at r;cases r
 have l: ∀b u,H b=Y u-> ¬Mut (Y u)->b≠x:=λb u q w z=>by subst z;rw[q] at j;exact w j
 refine⟨λb u q n _ _=>k b u (p b n) q,λb u q n _ _=>⟨u.slots,k b u (p b n) q⟩,λb u q n _=>by rw[jk<|s b n];exact n,λb u q _=>?_,
  λb y q=>by rw[jk<|l b _ q λz=>z];exact q,λb u y q=>by rw[jk<|l b _ q λz=>z];exact q,λb A q=>⟨#[],by rw[jk<|l b _ q λz=>z,q];simp⟩⟩
 by_cases m:b=e
 .subst m;exact t
 .exact⟨u,k b u m q⟩
end
noncomputable def trk(h:iO)(T:Hp):List Addr:=(aj h.objs.size).filter λa=>(T a).isSome
noncomputable def E6(h:iO)(T:Hp):Heap:=PySem.W.hideAll h<|trk h T
def LH(h:iO)(T:Hp):(E6 h T).objs.size=h.objs.size:=PySem.W.hideAll_size _ _
def PF{h:iO}{T:Hp}{b:hV}{o:en}(e:h.get? b=Y o)(n:T b=J):(E6 h T).get? b=Y o:=
 PySem.W.hideAll_get _ e λa=>by have q:(T b).isSome=U:=(Fu.mp a).2;rw[n] at q;simp at q
def So{h:iO}{T:Hp}{b:hV}{o:en}(e:(E6 h T).get? b=Y o):h.get? b=Y o/\T b=J:=by
 have a:h.get? b=Y o:=PySem.W.of_hideAll (trk h T) e;refine⟨a,?_⟩
 cases q:T b with
 |none=>rfl
 |some x=>have c:b∈trk h T:=Fu.mpr ⟨vm.mpr<|jl a,by simp[q]⟩;have z:(E6 h T).get? b=J:=PySem.W.hideAll_none (trk h T) c;rw[z] at e;cases e
noncomputable def Tz(g h:iO)(L:hV):List (hV×en):=(aj h.objs.size).filterMap λa=>if a=L\/(g.get? a).isSome=U then J else(h.get? a).map λo=>(a,o)
noncomputable def iW(g h:iO)(L d:hV):List (hV×en):=(Tz g h L).filter λp=>decide<|p.1≠d
structure Mod(K:iM)(mg:nJ)(base:iO):Prop where
 kin:K.In base
 glob:base.Ns ao mg
 blt: ∃mb,base.Ns nz mb/\ ∀x:aW,x≠"__name__"->mb x=aH x
 nolimit:base.NoLimit
structure Cx where
 prog:iU
 w:iK
 K:iM
 mg:aW->Option iC
 base:iO
 A:iP
 N:List aW
 s₀:il
 H₀:Hp
 env:eO
 outer:List eO
 stack:List eO
 ex:List hV
 fn:aW->Bool
 calm:Bool
 pn:List (hV×en)
 xe:iC->il->Prop
noncomputable def frs(l:List eO):List Addr:=l.filterMap (·.frame)
abbrev Cx.fs(X:Cx):List Addr:=frs X.outer
def Vis(a:km)(x:aW):Prop:=a.names.lookup x=Y .local\/a.names.lookup x=Y .cell\/a.names.lookup x=Y .free
def Loc(a:km)(x:aW):Prop:=a.names.lookup x=Y .local\/a.names.lookup x=Y .cell
def ZX(a:eO)(h:iO)(m:nJ)(x:aW)(u:iC):Prop:=
 (a.kindOf x=Y .local/\m x=Y u)\/((a.kindOf x=Y .cell\/a.kindOf x=Y .free)/\ ∃c,a.cells.lookup x=Y c/\h.IsCell c (Y u))
structure Cx.Ok(X:Cx):Prop where
 mod:Mod X.K X.mg X.base
 kind:X.env.scope.kind= .function
 glob:X.env.globals=ao
 blt:X.env.builtins=nz
 above:X.s₀.heap.objs.size<=X.env.locals
 inj: ∀x y c,X.env.cells.lookup x=FM c->X.env.cells.lookup y=FM c->x=y
 has: ∀x,(X.env.kindOf x=FM .cell\/X.env.kindOf x=FM .free)-> ∃c,X.env.cells.lookup x=FM c
 cab: ∀x c,X.fn x=Gc->X.env.cells.lookup x=FM c->X.s₀.heap.objs.size<=c
 hd:X.calm=Gc->X.A.handled=F2
 frames:X.A.frames=FM X.stack
 stk:X.stack=X.outer\/(X.stack=X.env::X.outer/\X.env.frame=FM X.env.locals)
 exf: ∀b∈X.ex,b≠X.env.locals/\ ∀x c,X.env.cells.lookup x=FM c->c≠b
 bs: ∀b o,X.base.get? b=FM o->X.s₀.heap.get? b=FM o/\X.H₀ b=F2
 bsz:X.base.objs.size<=X.s₀.heap.objs.size
 noex: ∀b o,X.base.get? b=FM o->b∉X.ex
 exfs: ∀b∈X.ex,b∉X.fs
 funs:X.s₀.heap.FunFrames X.base X.outer
 frf: ∀b∈X.fs,X.H₀ b=F2
structure Inv(X:Cx)(pins:ji)(σ:List (Option V))(H:Hp)(s:il):Prop where
 ok:X.Ok
 os:s.os=X.s₀.os
 bare:ee s.gens
 base:Un X.fs X.ex X.H₀ H X.s₀.heap s.heap
 loc: ∃m,s.heap.Ns X.env.locals m/\ ∀(i:Nat) (x:aW) (v:V),X.N[i]?=FM x->σ[i]?=FM (FM v)->Vis X.env.scope x-> ∃u,RelV v u/\ZX X.env s.heap m x u
 cell: ∀x c,X.env.cells.lookup x=FM c-> ∃v,s.heap.IsCell c v
 free:H X.env.locals=F2
 freeC: ∀x c,X.env.cells.lookup x=FM c->H c=F2
 pin: ∀p∈X.pn++pins,s.heap.get? p.1=FM p.2/\H p.1=F2/\p.1≠X.env.locals/\p.1∉X.fs/\ ∀v,p.2.data≠ .cell v
 hok:HOk X.prog X.w H s.heap
 len:(Ix σ)=X.N.length
section
variable {X:Cx}{f:ji}{g:List (Option V)}{H B:Hp}{s:il}{h':iO}
def Cx.Ok.nofr(ok:X.Ok){b:hV}{o:en}(e:X.base.get? b=Y o):b∉X.fs:=λa=>by have:=(ok.funs.mem a).1;rw[e] at this;cases this
def Inv.bs(T:Inv X f g H s): ∀b o,X.base.get? b=Y o->s.heap.get? b=Y o/\H b=J:=λb o e=>⟨T.base.keep b o (T.ok.bs b o e).1 (T.ok.bs b o e).2 (T.ok.nofr e)<|T.ok.noex b o e,T.base.free b o (T.ok.bs b o e).1 (T.ok.bs b o e).2<|T.ok.noex b o e⟩
def Inv.bk(T:Inv X f g H s): ∀b o,X.base.get? b=Y o->s.heap.get? b=Y o:=λb o e=>(T.bs b o e).1
def Inv.mod(T:Inv X f g H s):Mod X.K X.mg X.base:=T.ok.mod
def Inv.kIn(T:Inv X f g H s):X.K.In s.heap:=T.ok.mod.kin.keeps T.bk
def Inv.lt(T:Inv X f g H s):X.env.locals<s.heap.objs.size:=let⟨_,a,_⟩:=T.loc;a.lt
def Inv.sz(T:Inv X f g H s):X.s₀.heap.objs.size<=s.heap.objs.size:=ly T.ok.above<|zj T.lt
def Inv.nofs(T:Inv X f g H s){a:hV}(h:s.heap.objs.size<=a):a∉X.fs:=λb=>by obtain⟨_,o,c,_⟩:=T.ok.funs.mem b;exact absurd (pz (jl c)<|ly T.sz h)<|rB _
def Inv.cne(T:Inv X f g H s): ∀x c,X.env.cells.lookup x=Y c->c≠X.env.locals:=λx c e z=>by obtain⟨v,o,a,hd⟩:=T.cell x c e;obtain⟨m,⟨j,i,h,b,d,_⟩,_⟩:=T.loc;rw[z,b] at a;cases a;rw[d] at hd;cases hd
def Inv.funs(T:Inv X f g H s):s.heap.FunFrames X.base X.outer:=by
 have all: ∀(l:List eO),(∀b∈frs l,b∈X.fs)->X.s₀.heap.FunFrames X.base l->s.heap.FunFrames X.base l:=by
  intro l
  induction l with
  |nil=>intro _ _;trivial
  |cons i r p=>intro h j;obtain⟨hk,⟨L,o,d,k,m,hd⟩,n⟩:=j;have a:L∈X.fs:=h L (by unfold frs;rw[sG,d];exact jP);obtain⟨q,e⟩:=T.base.slot L o m (T.ok.frf L a) a λz=>T.ok.exfs L z a;exact⟨hk,⟨L,_,d,k,e,hd⟩,p (λb c=>h b<|by unfold frs;rw[sG,d];exact jU _ c) n⟩
 exact all X.outer (λ_ c=>c) T.ok.funs
def Inv.stack(T:Inv X f g H s):s.heap.FunFrames X.base X.stack:=by
 rcases T.ok.stk with e|⟨e,hf⟩
 .rw[e];exact T.funs
 .rw[e];obtain⟨m,a,_⟩:=T.loc;refine .cons (by rw[T.ok.kind];decide) hf a ?_ T.funs;exact Heap.get?_none_of_le<|ly T.ok.bsz T.ok.above
def Inv.stkSub(T:Inv X f g H s): ∀b∈frs X.stack,b∈X.env.locals::X.fs:=λb a=>by
 rcases T.ok.stk with e|⟨e,hf⟩
 .rw[e] at a;exact jU _ a
 .rw[e] at a;unfold frs at a;rw[sG,hf] at a;exact a
def Inv.stkFree(T:Inv X f g H s): ∀b∈frs X.stack,H b=J:=λb a=>by
 rcases ku.mp (T.stkSub b a) with e|a
 .rw[e];exact T.free
 .obtain⟨_,o,c,_⟩:=T.ok.funs.mem a;exact T.base.free b o c (T.ok.frf b a) λz=>T.ok.exfs b z a
def Inv.step{g':Array dO}{t':Nat}{d':Drawn}{ch:kH}(I:Inv X f g H s)
  (L: ∀b∈ch,(b∈X.ex\/X.s₀.heap.objs.size<=b)/\b≠X.env.locals/\(∀x c,X.env.cells.lookup x=FM c->c≠b)/\ ∀p∈X.pn++f,p.1≠b)
  (keep: ∀b o,b≠X.env.locals->b∉X.fs->b∉ch->s.heap.get? b=FM o->H b=F2->h'.get? b=FM o)
  (slot: ∀b o,b≠X.env.locals->b∈X.fs->b∉ch->s.heap.get? b=FM o->H b=F2-> ∃sl,h'.get? b=FM {o with slots:=sl})(free: ∀b o,b∉ch->s.heap.get? b=FM o->H b=F2->B b=F2)
  (A: ∀b o,b∉ch->s.heap.get? b=FM o-> ∃G,h'.get? b=FM G)
  (M: ∀b t,H b=FM (.tup t)->B b=FM (.tup t))(Q: ∀b o u,H b=FM (.frz o u)->B b=FM (.frz o u))(J: ∀b U',H b=FM (.tbl U')-> ∃more,B b=FM (.tbl<|U'++more))
  (ns: ∀m,s.heap.Ns X.env.locals m->h'.Ns X.env.locals m)(Y:HOk X.prog X.w B h')(hg:ee g'):
  Inv X f g B {s with heap:=h',gens:=g',drawn:=d',toks:=t'}:=by
 have T: ∀b o,X.s₀.heap.get? b=FM o->b≠X.env.locals:=λb o e=>jG<|pz (jl e) I.ok.above
 have N: ∀b o,X.s₀.heap.get? b=FM o->b∉X.ex->b∉ch:=λb o e a y=>by
  rcases(L b y).1 with z|z
  .exact a z
  .exact absurd (pz (jl e) z) (rB _)
 have h: ∀x c,X.env.cells.lookup x=FM c-> ∀v,s.heap.IsCell c v->h'.IsCell c v:=λx c e v a'=>by
  obtain⟨o,C',hd⟩:=a'
  have E:c∉ch:=λz=>(L c z).2.2.1 x c e H8;by_cases F:c∈X.fs
  .obtain⟨sl,q⟩:=slot c o (I.cne x c e) F E C'<|I.freeC x c e;exact⟨_,q,hd⟩
  .exact⟨o,keep c o (I.cne x c e) F E C'<|I.freeC x c e,hd⟩
 refine⟨I.ok,I.os,hg,⟨λb o e n y a=>?_,λb o e n y a=>?_,λb o e n a=>?_,λb o e a=>?_,λb t e=>M b t<|I.base.tups b t e,λb o t e=>Q b o t<|I.base.frzs b o t e,λb U' e=>?_⟩,?_,λx c e=>?_,?_,λx c e=>?_,λp K=>?_,Y,I.len⟩
 .exact keep b o (T b o e) y (N b o e a) (I.base.keep b o e n y a) (I.base.free b o e n a)
 .obtain⟨sl,j⟩:=I.base.slot b o e n y a;obtain⟨D,O⟩:=slot b _ (T b o e) y (N b o e a) j (I.base.free b o e n a);exact⟨D,O⟩
 .obtain⟨G,j⟩:=I.base.there b o e a;exact free b G (N b o e a) j<|I.base.free b o e n a
 .obtain⟨G,j⟩:=I.base.there b o e a;exact A b G (N b o e a) j
 .obtain⟨W,j⟩:=I.base.tbls b U' e;obtain⟨Z,O⟩:=J b _ j;exact⟨W++Z,by rw[O,Array.append_assoc]⟩
 .obtain⟨m,V,S⟩:=I.loc;refine⟨m,ns m V,λi x v j O R=>?_⟩;obtain⟨u,r,l⟩:=S i x v j O R;refine⟨u,r,?_⟩;rcases l with l|⟨k,c,e,z⟩
  .exact .inl l
  .exact .inr ⟨k,c,e,h x c e _ z⟩
 .obtain⟨v,z⟩:=I.cell x c e;exact⟨v,h x c e v z⟩
 .obtain⟨m,⟨o,_,_,C',_⟩,_⟩:=I.loc;exact free _ o (λz=>(L _ z).2.1 H8) C' I.free
 .obtain⟨v,o,C',hd⟩:=I.cell x c e;exact free c o (λz=>(L c z).2.2.1 x c e H8) C'<|I.freeC x c e
 .obtain⟨e,n,ne,P,d⟩:=I.pin p K;have E:p.1∉ch:=λz=>(L p.1 z).2.2.2 p K H8;exact⟨keep p.1 p.2 ne P E e n,free p.1 p.2 E e n,ne,P,d⟩
def Inv.un{t':Nat}(T:Inv X f g H s)(u:Un X.fs [] H B s.heap h')(d:HOk X.prog X.w B h'):Inv X f g B {s with heap:=h',toks:=t'}:=by
 obtain⟨m,⟨o,t,q,i,r⟩,_⟩:=id T.loc;obtain⟨y,k⟩:=u.any i T.free (by simp)
 exact T.step (g':=s.gens) (d':=s.drawn) (ch:=[]) (λ_ z=>nomatch z) (λb o _ c _ e n=>u.keep b o e n c<|by simp) (λb o _ c _ e n=>u.slot b o e n c<|by simp) (λb o _ e n=>u.free b o e n<|by simp) (λb o _ e=>u.there b o e<|by simp) u.tups u.frzs u.tbls (λv l=>by obtain⟨x,a,j,h,p⟩:=l;rw[i] at h;cases h;exact⟨_,a,j,k,p⟩) d T.bare
def Inv.call{g':Array dO}{t':Nat}{d':Drawn}{ch:kH}(T:Inv X f g H s)(u:Un (frs X.stack) ch H B s.heap h')(i:HOk X.prog X.w B h')(v:ee g')
  (k: ∀b∈ch,(b∈X.ex\/X.s₀.heap.objs.size<=b)/\b≠X.env.locals/\(∀x c,X.env.cells.lookup x=Y c->c≠b)/\ ∀p∈X.pn++f,p.1≠b):
  Inv X f g B {s with heap:=h',gens:=g',drawn:=d',toks:=t'}:=by
 obtain⟨m,⟨o,E,N,l,r⟩,_⟩:=id T.loc;obtain⟨Q,h⟩:=u.any l T.free λz=>(k _ z).2.1 I
 exact T.step (ch:=ch) k (λb o h t a e n=>u.keep b o e n (λz=>(ku.mp<|T.stkSub b z).elim h t) a) (λb o _ _ a e n=>u.any e n a) (λb o a e n=>u.free b o e n a) (λb o a e=>u.there b o e a) u.tups u.frzs u.tbls (λL y=>by obtain⟨O,d,q,j,A⟩:=y;rw[l] at j;cases j;exact⟨_,d,q,h,A⟩) i v
def Inv.turned{t':Nat}{it:hV}(T:Inv X f g H s)(k: ∀b o,b≠it->s.heap.get? b=Y o->h'.get? b=Y o)(A:H it=J)(h:it≠X.env.locals)
  (h1:it∈X.ex\/X.s₀.heap.objs.size<=it)(l: ∀x c,X.env.cells.lookup x=Y c->c≠it)(t: ∀p∈X.pn++f,p.1≠it):Inv X f g H {s with heap:=h',toks:=t'}:=by
 have d: ∀b u,H b=Y u->b≠it:=λb u e z=>by rw[z,A] at e;cases e
 refine T.step (g':=s.gens) (d':=s.drawn) (ch:=[it]) (λb w=>?_) (λb o _ _ a e _=>k b o (λz=>a<|by simp[z]) e) (λb o _ _ a e _=>⟨o.slots,k b o (λz=>a<|by simp[z]) e⟩) (λ_ _ _ _ n=>n)
  (λb o a e=>⟨o,k b o (λz=>a<|by simp[z]) e⟩) (λ_ _ e=>e) (λ_ _ _ e=>e) (λb E e=>⟨#[],by rw[e];simp⟩) (λm y=>?_) (λb u e=>?_) T.bare
 .have e:b=it:=by simpa using w
  subst e;exact⟨h1,h,l,t⟩
 .obtain⟨o,j,i,Q,r⟩:=y;exact⟨o,j,i,k _ o (rA h) Q,r⟩
 .refine(T.hok b u e).stay (λc v a q=>k c v ?_ q) (λ_ q=>q) λ_ _ q=>q;rcases a with z|z
  .rw[z];exact d b u e
  .exact d c _ z
def Inv.tok(T:Inv X f g H s)(t:Nat):Inv X f g H {s with toks:=t}:=T.un (h':=s.heap) (t':=t) Un.refl T.hok
def Inv.kept{t':Nat}(T:Inv X f g H s)(k: ∀b u,s.heap.get? b=Y u->h'.get? b=Y u):Inv X f g H {s with heap:=h',toks:=t'}:=T.un (Un.kept k)<|T.hok.kept k
def Inv.laid{a:hV}{o:HO}{t':Nat}(T:Inv X f g H s)(k: ∀b u,s.heap.get? b=Y u->h'.get? b=Y u)(c:s.heap.objs.size<=a)(new:ObjOk X.prog X.w (upd H a o) h' a o):
  Inv X f g (upd H a o) {s with heap:=h',toks:=t'}:=T.un (Un.laid k c<|T.hok.fresh c)<|T.hok.laid k c new
def Inv.write{x e:hV}{o:HO}{h:Nat}(T:Inv X f g H s)(d:Mut (H x))(c:e=x\/H e=Y (.own x))(k: ∀b u,b≠e->s.heap.get? b=Y u->h'.get? b=Y u)(a: ∃u,h'.get? e=Y u)
  (new:ObjOk X.prog X.w (upd H x o) h' x o):Inv X f g (upd H x o) {s with heap:=h',toks:=h}:=T.un (Un.write d c k a)<|T.hok.write d c k a new
def Inv.pins_of{a:ji}(T:Inv X f g H s)(h: ∀p∈a,s.heap.get? p.1=Y p.2/\H p.1=J/\p.1≠X.env.locals/\p.1∉X.fs/\ ∀v,p.2.data≠ .cell v):Inv X a g H s:=
 ⟨T.ok,T.os,T.bare,T.base,T.loc,T.cell,T.free,T.freeC,λp b=>(rY.mp b).elim (λz=>T.pin p<|En _ z)<|h p,T.hok,T.len⟩
def Ga{N:jr}(e:N.Nodup){i j:Nat}{x:aW}(a:N[i]?=Y x)(b:N[j]?=Y x):i=j:=by obtain⟨h1,c⟩:=xN.mp a;obtain⟨h,d⟩:=xN.mp b;exact(HB e).mp (c.trans d.symm)
def KI{M:gw}{A:iP}{E:jf}{i:Nat}{x:aW}{v:V}{u:iC}{Q:Unit->il->Prop}(I:Inv X f g H s)(hN:X.N.Nodup)(hi:X.N[i]?=FM x)(O:Loc X.env.scope x)(r:RelV v u)
  (h: ∀s',Inv X f (g.set i<|FM v) H s'->(∃a,aC a s.heap s'.heap/\(a=X.env.locals\/X.env.cells.lookup x=FM a))->Q () s')(hf:X.fn x=Gc\/X.env.scope.names.lookup x=FM .local:=by first|exact .inl rfl|exact .inr rfl|assumption):ae M A (storeName X.env x u) Q E s:=by
 obtain⟨m,Z,hl⟩:=id I.loc;have D:(X.env.scope.kind== .class||(X.env.scope.kind== .module&&X.env.locals !=X.env.globals))=Go:=by rw[I.ok.kind];rfl
 have G:i<(Ix g):=by rw[I.len];exact(xN.mp hi).1
 have cne:=I.cne
 have C: ∀{a:hV} {h':iO},(∃o,s.heap.get? a=FM o/\H a=F2)->aC a s.heap h'->HOk X.prog X.w H h':=λ{a h'} ha l b ob e=>by
  obtain⟨_,_,p9⟩:=ha;refine(I.hok b ob e).stay (λc R L q=>(l.2 c ?_).trans q) (λ_ q=>q) λ_ _ q=>q;rintro rfl;rcases L with rfl|L
  .rw[p9] at e;cases e
  .rw[p9] at L;cases L
 rcases O with hk|hk
 .refine wpAny_storeName_local hk Z (λh' hn' l=>?_) D;obtain⟨oL,_,_,eX,_⟩:=id Z;refine h _ ⟨I.ok,I.os,I.bare,⟨λb o e n J O=>?_,λb o e n J O=>?_,I.base.free,λb o e O=>?_,I.base.tups,I.base.frzs,I.base.tbls⟩,⟨_,hn',λj y v' t T S=>?_⟩,λy c e=>?_,I.free,I.freeC,λp hp=>?_,C ⟨oL,eX,I.free⟩ l,by simpa using I.len⟩ ⟨_,l,.inl H8⟩
  .exact(l.2 b<|jG<|pz (jl e) I.ok.above).trans (I.base.keep b o e n J O)
  .obtain⟨sl,t⟩:=I.base.slot b o e n J O;exact⟨sl,(l.2 b<|jG<|pz (jl e) I.ok.above).trans t⟩
  .obtain⟨o',t⟩:=I.base.there b o e O;exact⟨o',(l.2 b<|jG<|pz (jl e) I.ok.above).trans t⟩
  .by_cases U:j=i
   .subst U;rw[hi] at t;cases t;rw[wj G] at T;cases T;exact⟨u,r,.inl ⟨hk,by simp⟩⟩
   .rw[tU<|rA U] at T;obtain⟨u',r',q⟩:=hl j y v' t T S;refine⟨u',r',?_⟩;rcases q with⟨k,e⟩|⟨k,c,e,z⟩
    .refine .inl ⟨k,?_⟩;have:y≠x:=λe=>U<|Ga hN t<|e▸hi;simp[this,e]
    .exact .inr ⟨k,c,e,z.sameBut l<|cne y c e⟩
  .obtain⟨R,z⟩:=I.cell y c e;exact⟨R,z.sameBut l<|cne y c e⟩
  .obtain⟨e,n,ne,nf,d⟩:=I.pin p hp;exact⟨(l.2 p.1 ne).trans e,n,ne,nf,d⟩
 .have W:X.fn x=Gc:=by
   rcases hf with z|z
   .exact z
   .rw[z] at hk;cases hk
  obtain⟨c,L⟩:=I.ok.has x<|.inl hk;obtain⟨R,z⟩:=I.cell x c L;refine wpAny_storeName_cell I.ok.kind hk L z λh' cM l=>?_;obtain⟨oc,F,K⟩:=id z;refine h {s with heap:=h'} ⟨I.ok,I.os,I.bare,⟨λb o e n J O=>?_,λb o e n J O=>?_,I.base.free,λb o e O=>?_,I.base.tups,I.base.frzs,I.base.tbls⟩,⟨m,Z.sameBut l<|rA<|cne x c L,λj y v' t T S=>?_⟩,λy P e=>?_,I.free,I.freeC,λp hp=>?_,C ⟨oc,F,I.freeC x c L⟩ l,by simpa using I.len⟩ ⟨c,l,.inr L⟩
  .exact(l.2 b<|jG<|pz (jl e)<|I.ok.cab x c W L).trans (I.base.keep b o e n J O)
  .obtain⟨sl,t⟩:=I.base.slot b o e n J O;exact⟨sl,(l.2 b<|jG<|pz (jl e)<|I.ok.cab x c W L).trans t⟩
  .obtain⟨o',t⟩:=I.base.there b o e O;exact⟨o',(l.2 b<|jG<|pz (jl e)<|I.ok.cab x c W L).trans t⟩
  .by_cases U:j=i
   .subst U;rw[hi] at t;cases t;rw[wj G] at T;cases T;exact⟨u,r,.inr ⟨.inl hk,c,L,cM⟩⟩
   .rw[tU<|rA U] at T;obtain⟨u',r',q⟩:=hl j y v' t T S;refine⟨u',r',?_⟩;rcases q with q|⟨k,P,e,z'⟩
    .exact .inl q
    .refine .inr ⟨k,P,e,z'.sameBut l ?_⟩;rintro rfl;exact U<|Ga hN t<|I.ok.inj _ _ _ e L▸hi
  .by_cases Y:P=c
   .subst Y;exact⟨_,cM⟩
   .obtain⟨w2,z2⟩:=I.cell y P e;exact⟨w2,z2.sameBut l Y⟩
  .obtain⟨e,n,ne,nf,d⟩:=I.pin p hp;refine⟨(l.2 p.1 ?_).trans e,n,ne,nf,d⟩;intro q;rw[q,F] at e;have q':oc=p.2:=kP e;exact d R (by rw[<-q'];exact K)
def FH{M:gw}{A:iP}{E:jf}{i:Nat}{x:aW}{v:V}{u:iC}{Q:Unit->il->Prop}(T:Inv X f g H s)(c:X.N.Nodup)(e:X.N[i]?=Y x)(j:Loc X.env.scope x)(r:RelV v u)
  (h: ∀a,Inv X f (g.set i<|Y v) H a->Q () a)(d:X.fn x=U\/X.env.scope.names.lookup x=Y .local:=by first|exact .inl rfl|exact .inr rfl|assumption):ae M A (storeName X.env x u) Q E s:=
 KI T c e j r (λa b _=>h a b) d
def Inv.call'{s':il}{ch:kH}(T:Inv X f g H s)(i:s'.os=s.os)(u:Un (frs X.stack) ch H B s.heap s'.heap)(a:HOk X.prog X.w B s'.heap)(h:ee s'.gens)
  (d: ∀b∈ch,(b∈X.ex\/X.s₀.heap.objs.size<=b)/\b≠X.env.locals/\(∀x c,X.env.cells.lookup x=Y c->c≠b)/\ ∀p∈X.pn++f,p.1≠b):Inv X f g B s':=by
 obtain⟨h',g',d',t',j⟩:=s';have e:j=s.os:=i;subst e;exact T.call (g':=g') (t':=t') (d':=d') u a h d
end
abbrev XK:=iC->Option hV->Hp->Prop
abbrev St:=List<|Option V
abbrev VK:=V->Hp->Prop
abbrev TE:=St->Hp->VK->Prop
abbrev TT:=St->Hp->(Bool->Hp->Prop)->Prop
abbrev TA:=St->Hp->(List V->Hp->Prop)->Prop
structure Ends where
 nx:St->Hp->Prop
 rt:VK
 bk:St->Hp->Prop:=λ_ _=>False
 ct:St->Hp->Prop:=λ_ _=>False
abbrev TS:=Ends->St->Hp->Prop
def EP(X:Cx)(a:ji)(d:St)(Q:VK)(u:iC)(c:il):Prop:= ∃v b,Inv X a d b c/\RelV v u/\Q v b
def TP(X:Cx)(a:ji)(e:St)(Q:Bool->Hp->Prop)(b:Bool)(d:il):Prop:= ∃c,Inv X a e c d/\Q b c
def AP(X:Cx)(a:ji)(f:St)(Q:List V->Hp->Prop)(e:jN)(d:il):Prop:= ∃c b,Inv X a f b d/\Vals c e/\Q c b
def SP(X:Cx)(b:ji)(D:Ends)(f:Flow)(d:il):Prop:=
 match f with
 | .next=> ∃a c,Inv X b a c d/\D.nx a c
 | .brk=> ∃a c,Inv X b a c d/\D.bk a c
 | .cont=> ∃a c,Inv X b a c d/\D.ct a c
 | .ret u=> ∃v a c,Inv X b a c d/\RelV v u/\D.rt v c
def PE(X:Cx)(e:iA)(t:TE):Prop:=
 ∀(a:ji) (s:il) (b:St) (T:Hp) (Q:VK),Inv X a b T s->t b T Q->ae (ag X.prog X.w) X.A (aM e X.env) (EP X a b Q) X.xe s
def PT(X:Cx)(e:iA)(t:TT):Prop:=
 ∀(a:ji) (s:il) (b:St) (T:Hp) (Q:Bool->Hp->Prop),Inv X a b T s->t b T Q->ae (ag X.prog X.w) X.A (isTrue e X.env<|aM e X.env) (TP X a b Q) X.xe s
def PW(X:Cx)(e:iA)(t:TT):Prop:=
 ∀(b:dF iC) (a:ji) (s:il) (c:St) (T:Hp) (Q:Bool->Hp->Prop),Inv X a c T s->t c T Q->ae (ag X.prog X.w) X.A (isTrue e X.env b) (TP X a c Q) X.xe s
def PW.pt{X:Cx}{e:iA}{t:TT}(h:PW X e t):PT X e t:=h _
def PA(X:Cx)(d:kn)(t:TA):Prop:=
 ∀(b:bC) (a:ji) (s:il) (c:St) (T:Hp) (Q:List V->Hp->Prop),Inv X a c T s->t c T Q->ae (ag X.prog X.w) X.A (zx<|aJ b<|ac d X.env) (AP X a c Q) X.xe s
def PS(X:Cx)(st:b7)(t:TS):Prop:=
 ∀(a:ji) (s:il) (b:St) (T:Hp) (D:Ends),Inv X a b T s->t D b T->ae (ag X.prog X.w) X.A (exec st X.env) (SP X a D) X.xe s
def PSs(X:Cx)(st:List b7)(t:TS):Prop:=
 ∀(a:ji) (s:il) (b:St) (T:Hp) (D:Ends),Inv X a b T s->t D b T->ae (ag X.prog X.w) X.A (execs st X.env) (SP X a D) X.xe s
def thn{c:Type}{t:dF c}{Q b:c->il->Prop}{M:gw}{A:iP}{E:jf}{s:il}(h:ae M A t Q E s)(d: ∀a s,Q a s->b a s):ae M A t b E s:=pU h d λ_ _ x=>x
section
variable {X:Cx}
def YQ(i:Nat):TE:=λa T Q=> ∃v,a[i]?=Y (Y v)/\Q v T
noncomputable def tC(v:V):TE:=λ_ T Q=>Q v T
def Ie{i:Nat}{x:aW}{f:bC}(g:X.N[i]?=Y x)(hv:Vis X.env.scope x)(hd:(x==("__debug__":aW))=C:=by decide)(n:(x==("__classdict__":aW))=C:=by decide):PE X (.Name x f) (YQ i):=by
 intro a s o T Q O h;obtain⟨v,e,h⟩:=h;obtain⟨m,k,j⟩:=O.loc;obtain⟨u,r,l⟩:=j i x v g e hv;have fin:EP X a o Q u s:=⟨v,T,O,r,h⟩
 rcases l with⟨hk,hm⟩|⟨hk,c,b,d⟩
 .exact nb (wpAny_loadName_local O.ok.kind hk k hm fin) hd
 .rcases hk with hk|hk
  .exact nb (wpAny_loadName_cell O.ok.kind hk b d fin) hd
  .exact nb (wpAny_loadName_free O.ok.kind hk b d fin n) hd
def Of{i j f}:PE X (.Constant (.int i) j f) (tC<|.int i):=λ_ _ _ T _ Q h=>wpAny_Constant_int ⟨.int i,T,Q.tok _,⟨_,rfl⟩,h⟩
def Xr{b j f}:PE X (.Constant (.bool b) j f) (tC<|.bl b):=λ_ _ _ T _ Q h=>Constant_bool ⟨.bl b,T,Q,rfl,h⟩
def VE{j f}:PE X (.Constant .none j f) (tC .non):=λ_ _ _ T _ Q h=>Constant_none ⟨.non,T,Q,rfl,h⟩
def VB{x j f}:PE X (.Constant (.str x) j f) (tC<|.str x):=λ_ _ _ T _ Q h=>Calls.Constant_str ⟨.str x,T,Q.tok _,⟨_,rfl⟩,h⟩
def Gl(X:Cx)(x:aW):Prop:=X.env.kindOf x=Y .globalImplicit
def J8{E:jf}{a:ji}{s:il}{d:St}{T:Hp}{x:aW}{u:iC}{f:bC}{Q:jf}(O:Inv X a d T s)(b:Gl X x)(c:X.mg x=Y u)(h:Q u s)
  (hd:(x==("__debug__":aW))=C:=by decide):ae (ag X.prog X.w) X.A (aM (.Name x f) X.env) Q E s:=
 MS O.ok.kind b (Calls.loadGlobal_global (by rw[O.ok.glob];exact O.mod.glob.keeps O.bk) c h) hd
def qV{E:jf}{a:ji}{s:il}{g:St}{T:Hp}{x:aW}{u:iC}{f:bC}{Q:jf}(O:Inv X a g T s)(c:Gl X x)(d:X.mg x=J)(hv:aH x=Y u)(h:Q u s)
  (e:x≠"__name__":=by decide)(hd:(x==("__debug__":aW))=C:=by decide):ae (ag X.prog X.w) X.A (aM (.Name x f) X.env) Q E s:=by
 obtain⟨i,h1,b⟩:=O.mod.blt;exact MS O.ok.kind c (Calls.loadGlobal_builtin (by rw[O.ok.glob];exact O.mod.glob.keeps O.bk) d (by rw[O.ok.blt];exact h1.keeps O.bk) ((b x e).trans hv) h) hd
def R3{x:aW}{v:V}{u:iC}{f:bC}(a:Gl X x)(b:X.mg x=Y u)(r:RelV v u)(hd:(x==("__debug__":aW))=C:=by decide):PE X (.Name x f) (tC v):=
 λ_ _ _ T _ Q h=>J8 Q a b ⟨v,T,Q,r,h⟩ hd
def R7{x:aW}{v:V}{u:iC}{f:bC}(a:Gl X x)(b:X.mg x=J)(hv:aH x=Y u)(r:RelV v u)(c:x≠"__name__":=by decide)(hd:(x==("__debug__":aW))=C:=by decide):PE X (.Name x f) (tC v):=
 λ_ _ _ T _ Q h=>qV Q a b hv ⟨v,T,Q,r,h⟩ c hd
def t2I(g d:TE)(k:Int->Int->Hp->Prop):St->Hp->Prop:=λa T=>g a T λx b=>d a b λy c=> ∃i j,x= .int i/\y= .int j/\k i j c
variable {a b:iA}{g tb:TE}{f:bC}
noncomputable def tCmp(p:Int->Int->Bool)(g tb:TE):TE:=λd T Q=>t2I g tb (λi j c=>Q (.bl<|p i j) c) d T
noncomputable def tB(t:TE):TT:=λe T Q=>t e T λx d=> ∃c,x= .bl c/\Q c d
def Vq{e:iA}{t:TE}(h:PE X e t)(l: ∀c,isTrue e X.env c=(do let v <-c;cq e.pos;bo [v] (truthy v)):=by intro _;rfl):PT X e (tB t):=by intro i s p T Q O m;refine isTrue_plain (thn (h i s p T _ O m) λv s1 N=>?_)<|l _;obtain⟨x,j,k,o,n⟩:=N;obtain⟨d,rfl,q⟩:=n;cases o;exact wg ⟨j,k,q⟩
variable {tA n:TT}{iW:kn}
noncomputable def Y0(t u:TT):TT:=λe T Q=>t e T λc d=>if c=U then u e d Q else Q C d
noncomputable def tOr(t u:TT):TT:=λe T Q=>t e T λc d=>if c=U then Q U d else u e d Q
noncomputable def tNot(t:TT):TT:=λe T Q=>t e T λc d=>Q (!c) d
def RF(i:PT X a tA):PW X (.BoolOp .And [a] f) tA:=by
 intro wh d s j T Q O h;refine isTrue_and<|thn (i d s j T Q O h) λc s1 e=>?_
 cases c with
 |true=>exact isTrue_and_nil e
 |false=>exact e
def Vn(i:PT X a tA):PW X (.BoolOp .Or [a] f) tA:=by
 intro wh d s j T Q O h;refine isTrue_or<|thn (i d s j T Q O h) λc s1 e=>?_
 cases c with
 |false=>exact isTrue_or_nil e
 |true=>exact e
def Vo(l:PT X a tA)(m:PW X (.BoolOp .And (b::iW) f) n):PW X (.BoolOp .And (a::b::iW) f) (Y0 tA n):=by
 intro wh d s k T Q O h;refine isTrue_and<|thn (l d s k T _ O h) λc s1 N=>?_;obtain⟨e,i,j⟩:=N
 cases c with
 |true=>exact m wh d s1 k e Q i j
 |false=>exact⟨e,i,j⟩
def Xn(l:PT X a tA)(m:PW X (.BoolOp .Or (b::iW) f) n):PW X (.BoolOp .Or (a::b::iW) f) (tOr tA n):=by
 intro wh d s k T Q O h;refine isTrue_or<|thn (l d s k T _ O h) λc s1 N=>?_;obtain⟨e,i,j⟩:=N
 cases c with
 |true=>exact⟨e,i,j⟩
 |false=>exact m wh d s1 k e Q i j
def Vr(i:PT X a tA):PT X (.UnaryOp .Not a f) (tNot tA):=by intro d s j T Q O h;exact isTrue_not<|i d s j T (λc e=>Q (!c) e) O h
def W7(g tb:TE):TE:=λe T Q=>g e T λx d=> ∃c,x= .bl c/\if c=U then tb e d Q else Q (.bl C) d
def WZ(g:TE):TE:=λe T Q=>g e T λx d=> ∃c,x= .bl c/\Q (.bl (!c)) d
def VC{op}{t:TE}(h:PE X a t):PE X (.BoolOp op [a] f) t:=λc s e T Q O d=>BoolOp_one<|h c s e T Q O d
def VG(l:PE X a g)(m:PE X (.BoolOp .And (b::iW) f) tb):PE X (.BoolOp .And (a::b::iW) f) (W7 g tb):=by
 intro d s k T Q O h;refine BoolOp_and<|thn (l d s k T _ O h) λv s1 N=>?_;obtain⟨x,i,j,o,e⟩:=N;obtain⟨c,rfl,e⟩:=e;cases o;refine wg ?_
 cases c with
 |true=>exact m d s1 k i Q j e
 |false=>exact⟨.bl C,i,j,rfl,e⟩
def VD(k:PE X a g):PE X (.UnaryOp .Not a f) (WZ g):=by intro d s m T Q O h;refine UnaryOp_<|thn (k d s m T _ O h) λv s1 N=>?_;obtain⟨x,i,j,l,e⟩:=N;obtain⟨c,rfl,e⟩:=e;cases l;exact not_of<|wg ⟨.bl (!c),i,j,rfl,e⟩
noncomputable def tIf(t:TT)(g tb:TE):TE:=λd T Q=>t d T λc e=>if c=U then g d e Q else tb d e Q
def Og{c:iA}(p:PT X c tA)(m:PE X a g)(o:PE X b tb):PE X (.IfExp c a b f) (tIf tA g tb):=by
 intro e s i T Q O h;refine wpAny_IfExp<|thn (p e s i T _ O h) λd s1 N=>?_;obtain⟨j,k,l⟩:=N
 cases d with
 |true=>exact m e s1 i j Q k l
 |false=>exact o e s1 i j Q k l
end
def SqL(K:iM)(T:Hp)(a:hV)(xs:List V):Prop:=
 Rd T a (.lst xs)\/
  ∃(o:en) (b:nI) (n:Nat),K.lookup a=Y o/\o.cls= .type "list"/\o.dict=J/\o.data= .seq b n/\b.size<=sizeLine/\Vals xs b.toList
def SqT(K:iM)(T:Hp)(a:hV)(c:List V):Prop:=
 Rd T a (.tup c)\/
  ∃(o:en) (b:nI) (n:Nat),K.lookup a=Y o/\o.cls= .type "tuple"/\o.data= .seq b n/\b.size<=sizeLine/\Vals c b.toList
noncomputable def ZU:iC->Option V
 | .none=>Y .non
 | .bool b=>Y<|.bl b
 | .int i _=>Y<|.int i
 | .str x _=>Y<|.str x
 | .bytes b _=>Y<|.byt b
 | .float b _=>Y<|.flt b
 | .ref a=>Y<|.ref a
 | .type n=>Y<|.ty n
 |_=>J
def RelV.abs{x:V}{u:iC}(r:RelV x u):ZU u=Y x:=by
 cases x with
 |non=>cases r;rfl
 |bl _=>cases r;rfl
 |int _=>obtain⟨t,rfl⟩:=r;rfl
 |str _=>obtain⟨t,rfl⟩:=r;rfl
 |byt _=>obtain⟨t,rfl⟩:=r;rfl
 |flt _=>obtain⟨t,rfl⟩:=r;rfl
 |ref _=>cases r;rfl
 |ty _=>cases r;rfl
def RelV.inj{x y:V}{u:iC}(r:RelV x u)(q:RelV y u):x=y:=kP<|r.abs.symm.trans q.abs
def Vals.inj{c a:List V}{b:jN}(h:Vals c b)(q:Vals a b):c=a:=by
 induction h generalizing a with
 |nil=>cases q;rfl
 |cons r t d=>obtain _|⟨e,f⟩:=q;rw[r.inj e,d f]
section
variable {X:Cx}{b:ji}{c:St}{H:Hp}{s:il}{a:hV}{xs f:List V}
def SqL.of{K:iM}(h:H a=Y (.lst xs)):SqL K H a xs:= .inl (.inl h)
def Inv.list(T:Inv X b c H s)(h:SqL X.K H a xs): ∃d:List iC,Vals xs d/\PlainL s.heap a d.toArray/\xs.length<=sizeLine:=by
 rcases h with h|⟨o,d,n,hk,g,hd,i,j,r⟩
 .obtain⟨z,d,n,r,e⟩:=h.ok T.hok;exact⟨d,r,⟨_,n,e,rfl,rfl,rfl⟩,z⟩
 .refine⟨d.toList,r,⟨o,n,T.kIn a o hk,g,hd,by simpa using i⟩,?_⟩;have e:=r.length;simp only[kG] at e
  lia
def Inv.tuple(T:Inv X b c H s)(h:SqT X.K H a xs): ∃d:List iC,Vals xs d/\gz s.heap a d.toArray/\xs.length<=sizeLine:=by
 rcases h with h|⟨o,d,n,hk,g,i,j,r⟩
 .obtain⟨z,d,r,p⟩:=h.ok T.hok;exact⟨d,r,p,z⟩
 .refine⟨d.toList,r,⟨o,T.kIn a o hk,g,n,by simpa using i⟩,?_⟩;have e:=r.length;simp only[kG] at e
  lia
def Inv.list_inj(T:Inv X b c H s)(h:SqL X.K H a xs)(m:SqL X.K H a f):xs=f:=by
 obtain⟨i,r,⟨o,n,e,_,_,d⟩,_⟩:=T.list h;obtain⟨g,p,⟨t,q,k,_,_,j⟩,_⟩:=T.list m;rw[e] at k;cases k;rw[d] at j;injection j with l _
 have:i=g:=by simpa using nM n5 l
 subst this;exact r.inj p
def Inv.tuple_inj(T:Inv X b c H s)(h:SqT X.K H a xs)(m:SqT X.K H a f):xs=f:=by
 obtain⟨i,r,⟨o,e,_,n,d⟩,_⟩:=T.tuple h;obtain⟨g,p,⟨t,k,_,q,j⟩,_⟩:=T.tuple m;rw[e] at k;cases k;rw[d] at j;injection j with l _
 have:i=g:=by simpa using nM n5 l
 subst this;exact r.inj p
end
noncomputable abbrev Cx.wish(X:Cx)(E:jf):Cx:={X with xe:=E}
noncomputable abbrev Cx.nox(X:Cx):Cx:=X.wish λ_ _=>False
def Cx.Ok.wish{X:Cx}(ok:X.Ok)(E:jf):(X.wish E).Ok:=
 ⟨ok.mod,ok.kind,ok.glob,ok.blt,ok.above,ok.inj,ok.has,ok.cab,ok.hd,ok.frames,ok.stk,ok.exf,ok.bs,ok.bsz,ok.noex,ok.exfs,ok.funs,ok.frf⟩
def Cx.Ok.unwish{X:Cx}{E:jf}(ok:(X.wish E).Ok):X.Ok:=
 ⟨ok.mod,ok.kind,ok.glob,ok.blt,ok.above,ok.inj,ok.has,ok.cab,ok.hd,ok.frames,ok.stk,ok.exf,ok.bs,ok.bsz,ok.noex,ok.exfs,ok.funs,ok.frf⟩
section
variable {X:Cx}{a:ji}{b:St}{H:Hp}{s:il}{E:jf}
def Inv.wish(T:Inv X a b H s)(E:jf):Inv (X.wish E) a b H s:=⟨T.ok.wish E,T.os,T.bare,T.base,T.loc,T.cell,T.free,T.freeC,T.pin,T.hok,T.len⟩
def Inv.unwish(T:Inv (X.wish E) a b H s):Inv X a b H s:=⟨T.ok.unwish,T.os,T.bare,T.base,T.loc,T.cell,T.free,T.freeC,T.pin,T.hok,T.len⟩
def SP.unwish{D:Ends}{f:Flow}{e:il}(h:SP (X.wish E) a D f e):SP X a D f e:=by
 cases f with
 |next=>obtain⟨c,d,T,q⟩:=h;exact⟨c,d,T.unwish,q⟩
 |brk=>obtain⟨c,d,T,q⟩:=h;exact⟨c,d,T.unwish,q⟩
 |cont=>obtain⟨c,d,T,q⟩:=h;exact⟨c,d,T.unwish,q⟩
 |ret u=>obtain⟨v,c,d,T,r,q⟩:=h;exact⟨v,c,d,T.unwish,r,q⟩
def PSs.nox{st:List b7}{t:TS}(h:PSs X.nox st t):PSs X st t:=λa s b H D T c=>pU (h a s b H D (T.wish _) c) (λ_ _ q=>q.unwish) λ_ _ z=>cc z
end
section
variable {X:Cx}{st:b7}{iW:List b7}{t u:TS}{e:iA}{i:TE}{g:bC}
noncomputable def W0:TS:=λD a T=>D.nx a T
noncomputable def YS(t u:TS):TS:=λD a T=>t {D with nx:=u D} a T
def RQ:PSs X [] W0:=λ_ _ a T _ Q h=>HA ⟨a,T,Q,h⟩
def NS(h1:PS X st t)(j:PSs X iW u):PSs X (st::iW) (YS t u):=by
 intro a s k T D Q h;refine wpAny_execs_cons<|thn (h1 a s k T {D with nx:=u D} Q h) λf s1 q=>?_
 cases f with
 |next=>obtain⟨b,c,d,q⟩:=q;exact j a s1 b c D d q
 |ret v=>exact q
 |brk=>exact q
 |cont=>exact q
def Inv.quiet{a:ji}{b:St}{T:Hp}{s:il}(Q:Inv X a b T s):CL X.env=C:=by simp[CL,Q.ok.kind]
noncomputable def W3(i:TE):TS:=λD a T=>i a T λ_ b=>D.nx a b
def RS(f:PE X e i)(j:cR e J g.line X.env=pure C:=by rfl):PS X (.Expr e g) (W3 i):=by intro a s b T D Q h;exact wpAny_Expr_any (thn (f a s b T _ Q h) λv s1 O=>by obtain⟨x,c,d,l,k⟩:=O;exact ⟨b,c,d,k⟩) Q.quiet j
noncomputable def YU(i:TE):TS:=λD a T=>i a T D.rt
def NU(f:PE X e i):PS X (.Return (Y e) g) (YU i):=by intro a s b T D Q h;exact wpAny_Return_some (thn (f a s b T _ Q h) λv s1 O=>by obtain⟨x,c,d,k,j⟩:=O;exact ⟨x,b,c,d,k,j⟩)
noncomputable def YX(c:TT)(t u:TS):TS:=λD a T=>c a T λb d=>if b=U then t D a d else u D a d
def Xo{c:iA}{a b:List b7}{n:TT}(q:PT X c n)(o:PSs X a t)(p:PSs X b u):PS X (.If c a b g) (YX n t u):=by
 intro f s j T D Q h;refine wpAny_If<|thn (q f s j T _ Q h) λd s1 O=>?_;obtain⟨k,l,m⟩:=O
 cases d with
 |true=>exact o f s1 j k D l m
 |false=>exact p f s1 j k D l m
end
abbrev TG:=V->St->Hp->(St->Hp->Prop)->Prop
abbrev TGs:=List V->St->Hp->(St->Hp->Prop)->Prop
def PG(X:Cx)(a:iA)(t:TG):Prop:=
 ∀(b:ji) (s:il) (e:St) (T:Hp) (v:V) (u:iC) (Q:St->Hp->Prop),Inv X b e T s->RelV v u->t v e T Q->
  ae (ag X.prog X.w) X.A (bW a X.env u) (λ_ f=> ∃c d,Inv X b c d f/\Q c d) X.xe s
def PGs(X:Cx)(h:kn)(t:TGs):Prop:=
 ∀(a:ji) (s:il) (f:St) (T:Hp) (e:List V) (d:jN) (Q:St->Hp->Prop),Inv X a f T s->Vals e d->t e f T Q->
  ae (ag X.prog X.w) X.A (assignInOrder ((aU h X.env).map (·.2)) d) (λ_ g=> ∃b c,Inv X a b c g/\Q b c) X.xe s
abbrev TK:=V->V->V->Hp->(Hp->Prop)->Prop
def WB(X:Cx)(t:TK):Prop:=
 ∀(a:ji) (s:il) (e:St) (T:Hp) (o i v:V) (d c u:iC) (Q:Hp->Prop),Inv X a e T s->RelV o d->RelV i c->RelV v u->t o i v T Q->
  ae (ag X.prog X.w) X.A (fk d c u) (λ_ f=> ∃b,Inv X a e b f/\Q b) X.xe s
section
variable {X:Cx}{d:bC}
noncomputable def Gx(i:Nat):TG:=λv a T Q=>Q (a.set i<|Y v) T
def JL{i:Nat}{x:aW}(c:X.N.Nodup)(f:X.N[i]?=Y x)(g:Loc X.env.scope x)(e:X.fn x=U\/X.env.scope.names.lookup x=Y .local:=by first|exact .inl rfl|exact .inr rfl|assumption):PG X (.Name x d) (Gx i):=by intro a s k T v u Q O r h;exact wpAny_assign_Name<|FH O c f g r (λj b=>⟨_,T,b,h⟩) e
noncomputable def ZO:TGs:=λa b T Q=>a=[]/\Q b T
def X2(t:TG)(u:TGs):TGs:=λc e T Q=> ∃v r,c=v::r/\t v e T λa b=>u r a b Q
def R0:PGs X [] ZO:=by intro a s b T f c Q O r h;obtain⟨e,h⟩:=h;subst e;cases r;exact assignInOrder_nil ⟨b,T,O,h⟩
def Oa{e:iA}{b:kn}{t:TG}{u:TGs}(h1:PG X e t)(j:PGs X b u)
  (k:(aU (e::b) X.env).map (·.2)=bW e X.env::(aU b X.env).map (·.2):=by rfl):PGs X (e::b) (X2 t u):=by
 intro a s n T q o Q O r h;obtain⟨v,p,i,h⟩:=h;subst i
 cases r with
 |cons r m=>rw[k];refine assignInOrder_cons<|thn (h1 a s n T _ _ _ O r h) λ_ s1 N=>?_;obtain⟨c,f,g,l⟩:=N;exact j a s1 c f _ _ Q g m l
def ZN(K:iM)(n:Nat)(t:TGs):TG:=λv c T Q=> ∃a b,v= .ref a/\SqT K T a b/\(Ix b)=n/\t b c T Q
def Vz{f:kn}{k:Nat}{t:TGs}{n:Nat}(q:X.calm=U)(h:PGs X f t)
  (x:(aU f X.env).length=n:=by rfl)(N:(aU f X.env).findIdx? (·.1)=J:=by rfl):PG X (.Tuple f k d) (ZN X.K n t):=by
 intro c s j T v u Q O r g;obtain⟨a,E,m,y,w,g⟩:=g;subst m;cases r;obtain⟨B,i,z,L⟩:=O.tuple y;refine assign_Tuple_tuple (O.ok.hd q) z (by simp[x,<-w,i.length]) N λp A=>?_;have l:Inv X c j T {s with heap:=p}:=O.kept (t':=s.toks) λb o e=>A b o (jG<|jl e) e;exact h c _ j T E _ Q l (by simpa using i) g
noncomputable def gSub(g f:TE)(t:TK):TG:=λv a T Q=>g a T λo b=>f a b λi c=>t o i v c λe=>Q a e
def Ob{o i:iA}{g f:TE}{t:TK}(z:PE X o g)(w:PE X i f)(A:WB X t)
  (q: ∀v,bW (.Subscript o i d) X.env v=(do
   let b <-bo [v] (aM o X.env)
   let c <-bo [v,b] (aM i X.env)
   cq d
   bo [v,b,c] (fk b c v)
   gJ [v,b,c] []):=by intro _;rfl):PG X (.Subscript o i d) (gSub g f t):=by
 intro a s e N v u Q M r h;rw[q];refine hU<|lZ<|thn (z a s e N _ M h) λb s1 a'=>?_;obtain⟨x,j,m,L,B⟩:=a';refine hU<|lZ<|thn (w a s1 e j _ m B) λc T a'=>?_;obtain⟨y,k,n,O,C'⟩:=a';refine hU<|wR<|hU<|lZ<|thn (A a T e k x y v b c u _ n L O r C') λ_ G a'=>?_;obtain⟨l,p,E⟩:=a';exact wpAny_release ⟨e,l,p,E⟩
noncomputable def UG(c:TE)(g:TG):TS:=λD a T=>c a T λx b=>g x a b D.nx
def HZ{b e:iA}{c:TE}{g:TG}(k:PE X e c)(l:PG X b g)(m:cw [b] e d.line X.env=pure C:=by rfl)(n:cx [b] e X.env=pure J:=by rfl)
  (h1:(aU [b] X.env).map (·.2)=[bW b X.env]:=by rfl):PS X (.Assign [b] e d) (UG c g):=by
 intro a s f T D Q h;refine wpAny_Assign_stores (thn (k a s f T _ Q h) λv s1 O=>?_) m n;obtain⟨x,i,j,p,o⟩:=O;rw[h1];exact thn (l a s1 f i x v _ j p o) λ_ r q=>q
def Vt{i:Nat}{x:aW}{e:iA}{c:TE}{a:bC}(k:X.N.Nodup)(n:X.N[i]?=Y x)(p:Loc X.env.scope x)(l:PE X e c)(o:cR e (Y<|.Name x a) d.line X.env=pure C:=by rfl)(m:X.fn x=U\/X.env.scope.names.lookup x=Y .local:=by first|exact .inl rfl|exact .inr rfl|assumption):
  PS X (.Assign [.Name x a] e d) (UG c<|Gx i):=by
 intro b s t T D Q h;refine wpAny_Assign_Name (thn (l b s t T _ Q h) λv s1 O=>?_) o;obtain⟨y,f,g,r,q⟩:=O;exact FH g k n p r (λu j=>⟨_,f,j,q⟩) m
def UC(c:TT)(i:TS):TS:=λD a T=> ∃W:Nat->St->Hp->Prop,(∃m,W m a T)/\ ∀m a T,W m a T->
 c a T λb g=>if b=U then ∃N:St->Hp->Prop,(∀e f,N e f-> ∃h,h<m/\W h e f)/\i {D with nx:=N,ct:=N,bk:=D.nx} a g else D.nx a g
def NT{c:iA}{i:List b7}{L:TT}{E:TS}(C:eF (ag X.prog X.w) X.A X.env X.xe)(T:PT X c L)(Q:PSs X i E):PS X (.While c i [] d) (UC L E):=by
 intro a s F H D I h;obtain⟨W,⟨G,U⟩,k⟩:=h;refine wpAny_While<|codeAny_whileLoop (λn J=> ∃l x,Inv X a l x J/\W n l x) ?_ G ⟨F,H,I,U⟩;rintro n s1 ⟨g,H1,O,Y'⟩;refine wQ C<|thn (T a s1 g H1 _ O (k n g H1 Y')) λb M a'=>?_;obtain⟨y,z,m⟩:=a'
 cases b with
 |true=>
  obtain⟨N,B,m⟩:=m;rw[iF H8];refine wQ C<|thn (Q a M g y _ z m) λf K o=>?_
  cases f with
  |next=>obtain⟨e,j,p,t⟩:=o;obtain⟨r,q,u⟩:=B e j t;exact⟨r,q,e,j,p,u⟩
  |cont=>obtain⟨e,j,p,t⟩:=o;obtain⟨r,q,u⟩:=B e j t;exact⟨r,q,e,j,p,u⟩
  |brk=>exact o
  |ret v=>exact o
 |false=>rw[iL kF];exact HA ⟨g,y,z,m⟩
end
structure It where
 go:Nat->Hp->Prop
 yld:Nat->Hp->V->Hp->Prop
 stop:Nat->Hp->Prop
def vh(X:Cx)(a:ji)(T:Hp)(b:hV):Prop:=
 T b=J/\b≠X.env.locals/\b∉X.fs/\(b∈X.ex\/X.s₀.heap.objs.size<=b)/\(∀x c,X.env.cells.lookup x=Y c->c≠b)/\ ∀p∈X.pn++a,p.1≠b
def Inv.fpOk{X:Cx}{a:ji}{i:St}{T f:Hp}{s:il}{b:hV}(Q:Inv X a i T s)(d:s.heap.objs.size<=b)(g:f b=J):vh X a f b:=by
 refine⟨g,pT<|pz Q.lt d,Q.nofs d,.inr<|ly Q.sz d,λx c e z=>?_,λp h z=>?_⟩
 .obtain⟨v,q⟩:=Q.cell x c e;exact absurd (pz q.lt<|by rw[z];exact d)<|rB _
 .exact absurd (pz (jl (Q.pin p h).1)<|by rw[z];exact d) (rB _)
structure Turn(P:iU)(w:iK)(K:iM)(tg:iA)(J:It)(fp:kH)(it:hV)(tn:Nat->iO->Prop):Prop where
 mem:it∈fp
 obj: ∀i h,tn i h-> ∀b∈fp,∃o,h.get? b=FM o/\ ∀v,o.data≠ .cell v
 keep: ∀i h h',tn i h->(∀b∈fp,∀o,h.get? b=FM o->h'.get? b=FM o)->tn i h'
 item: ∀(X:Cx),X.prog=P->X.w=w->X.K=K->X.calm=Gc-> ∀(i:Nat) (pins:ji) (s:il) (σ:St) (H:Hp) (E:jf),Inv X pins σ H s->(∀b∈fp,vh X pins H b)->tn i s.heap->J.go i H->
  ae (ag P w) X.A (b6<|.ref it) (λr s1=> ∃u,r=FM u/\
   ae (ag P w) X.A (ef tg (.ref it) u) (λ_ s2=> ∃x H',Inv X pins σ H' s2/\RelV x u/\J.yld i H x H'/\tn (i+1) s2.heap/\ ∀b∈fp,H' b=F2) E s1) E s
 done: ∀(X:Cx),X.prog=P->X.w=w->X.K=K->X.calm=Gc-> ∀(i:Nat) (pins:ji) (s:il) (σ:St) (H:Hp) (E:jf),Inv X pins σ H s->(∀b∈fp,vh X pins H b)->tn i s.heap->J.stop i H->
  ae (ag P w) X.A (b6<|.ref it) (λr s1=>r=F2/\Inv X pins σ H s1) E s
 self: ∀(A:iP) (i:Nat) (s:il) (Q:jf) (E:jf),tn i s.heap->Q (.ref it) s->ae (ag P w) A (c8<|.ref it) Q E s
abbrev TI:=St->Hp->(It->Hp->Prop)->Prop
def PIE(X:Cx)(a:ji)(j:St)(i:iA)(R:It->Hp->Prop)(h:iC)(f:il):Prop:=
 ∃(e:hV) (d:kH) (g:Nat->iO->Prop) (T:It) (c:Hp),h= .ref e/\Inv X a j c f/\Turn X.prog X.w X.K i T d e g/\g 0 f.heap/\(∀b∈d,vh X a c b)/\R T c
def PI(X:Cx)(tg iter:iA)(c:TI):Prop:=
 ∀(a:ji) (s:il) (b:St) (T:Hp) (R:It->Hp->Prop),Inv X a b T s->c b T R->
  ae (ag X.prog X.w) X.A (aM iter X.env) (λv s1=>ae (ag X.prog X.w) X.A (c8 v) (PIE X a b tg R) X.xe s1) X.xe s
def PJ{M:gw}{A:iP}{E:jf}{s:il}{c:iA}{b:hV}{u:iC}{o:en}{n:String}{d:nI}{Q:Unit->il->Prop}(g:s.heap.get? b=Y o)(e:o.cls= .type n)(hd:o.data= .fields d)
  (f:["enumerate","zip","dict_itemiterator","dict_reverseitemiterator","odict_iterator","itertools.zip_longest","itertools.pairwise"].contains n=C)(a:Q () s):ae M A (ef c (.ref b) u) Q E s:=by
 unfold ef
 cases c<;>first
  |exact iq a
  |(cases u<;>first
    |exact iq a
    |(
      refine hU<|zi g ?_;rw[e,hd];show ae M A (if(["enumerate","zip","dict_itemiterator","dict_reverseitemiterator","odict_iterator","itertools.zip_longest","itertools.pairwise"].contains n&&d[0]?==Y (cr _))=U then _ else _) Q E s;rw[iL (by intro h;rw[f,zh] at h;cases h)];exact iq a))
noncomputable def Itl(K:iM)(a:hV):It:=
 ⟨λi T=> ∃b x,SqL K T a b/\b[i]?=Y x,λi T x c=>c=T/\ ∀b,SqL K T a b->b[i]?=Y x,λi T=> ∃b,SqL K T a b/\(Ix b)<=i⟩
noncomputable def Itt(K:iM)(a:hV):It:=
 ⟨λi T=> ∃b x,SqT K T a b/\b[i]?=Y x,λi T x c=>c=T/\ ∀b,SqT K T a b->b[i]?=Y x,λi T=> ∃b,SqT K T a b/\(Ix b)<=i⟩
noncomputable def Itr(lo:Int)(n:Nat):It:=⟨λi _=>i<n,λi T x a=>a=T/\x= .int (lo+i),λi _=>n<=i⟩
def KG{P:iU}{w:iK}{K:iM}{tg:iA}(a j:hV):Turn P w K tg (Itl K a) [j] j (λi h=>h.IsListIter j a i) where
 mem:=by simp
 obj:=λi h st b g=>by
  have e:b=j:=by simpa using g
  subst e;obtain⟨o,e,c,d⟩:=st;exact⟨o,e,λv z=>by rw[d] at z;cases z⟩
 keep:=λi h l st k=>st.at λo e=>k j (by simp) o e
 item:=by intro X A C y G i f s J H E I m st B;subst A C y;obtain⟨S,x,n,L⟩:=B;obtain⟨O,Q,p,D⟩:=I.list n;obtain⟨u,U,F⟩:=Q.get L;obtain⟨f0,f1,f2,q,r,t⟩:=m j (by simp);refine wpAny_pyNext_list_item st p.isList (x:=u) (by simpa using U) λl T R=>?_;have M:Inv X f J H {s with heap:=l}:=I.turned (t':=s.toks) (λb o g e=>(R.2 b g).trans e) f0 f1 q r t;obtain⟨o,e,c,d⟩:=id T;exact⟨u,rfl,PJ (s:={s with heap:=l}) e c d (by decide) ⟨x,H,M,F,⟨rfl,λW Y=>by rw[I.list_inj Y n];exact L⟩,T,λb g=>(m b g).1⟩⟩
 done:=by intro X A C y G i f s J H E I m st B;subst A C y;obtain⟨S,n,L⟩:=B;obtain⟨O,Q,p,D⟩:=I.list n;obtain⟨f0,f1,f2,q,r,t⟩:=m j (by simp);have V:=Q.length;exact wpAny_pyNext_list_end (I.ok.hd G) st p.isList (by simp;lia) λl N=>⟨rfl,I.turned (t':=s.toks) (λb o g e=>N b o g e) f0 f1 q r t⟩
 self:=λ_ _ _ _ _ st h=>wpAny_pyIter_listiter st h
def HG{P:iU}{w:iK}{K:iM}{tg:iA}(a j:hV):Turn P w K tg (Itt K a) [j] j (λi h=>h.IsTupleIter j a i) where
 mem:=by simp
 obj:=λi h st b g=>by
  have e:b=j:=by simpa using g
  subst e;obtain⟨o,e,c,d⟩:=st;exact⟨o,e,λv z=>by rw[d] at z;cases z⟩
 keep:=λi h m st k=>st.at λo e=>k j (by simp) o e
 item:=by intro X B L A G i f s J H E I n st C;subst B L A;obtain⟨S,x,q,O⟩:=C;obtain⟨l,Q,p,D⟩:=I.tuple q;obtain⟨u,U,F⟩:=Q.get O;obtain⟨f0,f1,f2,r,t,y⟩:=n j (by simp);refine wpAny_pyNext_tuple_item st (show s.heap.IsTuple a l.toArray from p) (x:=u) (by simpa using U) λm T R=>?_;have M:Inv X f J H {s with heap:=m}:=I.turned (t':=s.toks) (λb o g e=>(R.2 b g).trans e) f0 f1 r t y;obtain⟨o,e,c,d⟩:=id T;exact⟨u,rfl,PJ (s:={s with heap:=m}) e c d (by decide) ⟨x,H,M,F,⟨rfl,λW Y=>by rw[I.tuple_inj Y q];exact O⟩,T,λb g=>(n b g).1⟩⟩
 done:=by intro X B L A G i f s J H E I n st C;subst B L A;obtain⟨S,q,O⟩:=C;obtain⟨l,Q,p,D⟩:=I.tuple q;obtain⟨f0,f1,f2,r,t,y⟩:=n j (by simp);have V:=Q.length;exact wpAny_pyNext_tuple_end (I.ok.hd G) st (show s.heap.IsTuple a l.toArray from p) (by simp;lia) λm N=>⟨rfl,I.turned (t':=s.toks) (λb o g e=>N b o g e) f0 f1 r t y⟩
 self:=λ_ _ _ _ _ st h=>wpAny_pyIter_tupleiter st h
def HH{P:iU}{w:iK}{K:iM}{Q:iA}(a:hV)(lo:Int)(n:Nat):Turn P w K Q (Itr lo n) [a] a (λi h=>EQ h a (lo+(i:Nat)*1) ((n:Int)-(i:Nat)) 1) where
 mem:=by simp
 obj:=λi h st b d=>by
  have e:b=a:=by simpa using d
  subst e
  exact⟨_,st,λv z=>by have T:f5 _=eS v:=z;cases T⟩
 keep:=λi h f st k=>k a (by simp) _ st
 item:=by intro X q x p r i c s B N E M g st u;subst q x p;obtain⟨f0,f1,f2,j,l,m⟩:=g a (by simp);have W:=Walks.range (prog:=X.prog) (w:=X.w) (M.ok.hd r) a lo 1 n;refine W.item i s _ _ u st λv f A hv y O=>?_;obtain⟨t,rfl⟩:=hv;have G:Inv X c B N {s with heap:=f,toks:=A}:=M.turned (λb o d e=>O b o (by simpa using d) e) f0 f1 j l m;refine⟨_,rfl,PJ (s:={s with heap:=f,toks:=A}) (n:="range_iterator") y I I (by decide) ⟨.int<|lo+i,N,G,⟨t,?_⟩,⟨rfl,rfl⟩,y,λb d=>(g b d).1⟩⟩;rw[AV]
 done:=by intro X q x p r i c s B N E M g st u;subst q x p;obtain⟨f0,f1,f2,j,l,m⟩:=g a (by simp);exact wpAny_pyNext_range_end (M.ok.hd r) st (by have:n<=i:=u;lia) λf L=>⟨rfl,M.turned (t':=s.toks) (λb o d e=>L b o d e) f0 f1 j l m⟩
 self:=λ_ _ _ _ _ st h=>wpAny_pyIter_rangeiter st h
section
variable {X:Cx}{tg:iA}
def XX(K:iM)(c:TE):TI:=λe T R=>c e T λx b=> ∃a,x= .ref a/\(∃d,SqL K b a d)/\R (Itl K a) b
def ZL(K:iM)(c:TE):TI:=λe T R=>c e T λx b=> ∃a,x= .ref a/\(∃d,SqT K b a d)/\R (Itt K a) b
def RY{l:iA}{f:TE}(j:PE X l f):PI X tg l (XX X.K f):=by
 intro c s t T R Q h;refine thn (j c s t T _ Q h) λv s1 O=>?_;obtain⟨x,g,d,r,n⟩:=O;obtain⟨a,e,⟨y,k⟩,q⟩:=n;subst e;cases r;obtain⟨m,w,p,u⟩:=d.list k;refine zg p.isList ?_;refine⟨s1.heap.objs.size,[s1.heap.objs.size],_,_,g,rfl,d.kept (t':=s1.toks) λb o e=>jS _ e,KG a _,⟨_,kh _ rfl,rfl,rfl⟩,λb i=>?_,q⟩;have e:b=s1.heap.objs.size:=by simpa using i
 subst e;exact d.fpOk (jQ _)<|d.hok.fresh<|jQ _
def Vy{l:iA}{g:TE}(k:PE X l g):PI X tg l (ZL X.K g):=by
 intro c s t T R Q h;refine thn (k c s t T _ Q h) λv s1 O=>?_;obtain⟨x,i,d,r,n⟩:=O;obtain⟨a,e,⟨y,m⟩,q⟩:=n;subst e;cases r;obtain⟨f,w,p,u⟩:=d.tuple m;refine Hz (show s1.heap.IsTuple a f.toArray from p) ?_;refine⟨s1.heap.objs.size,[s1.heap.objs.size],_,_,i,rfl,d.kept (t':=s1.toks) λb o e=>jS _ e,HG a _,⟨_,kh _ rfl,rfl,rfl⟩,λb j=>?_,q⟩;have e:b=s1.heap.objs.size:=by simpa using j
 subst e;exact d.fpOk (jQ _)<|d.hok.fresh<|jQ _
def FY{c:ji}{g:St}{T:Hp}{s:il}{R:It->Hp->Prop}{E:jf}{lo a:Int}{t u v:nL}{f:Nat}(Q:Inv X c g T s)(h1: -(2^62)<=lo)(j:lo<2^62)(k: -(2^62)<=a)(l:a<2^62)
  (q:R (Itr lo (a-lo).toNat) T):ae (ag X.prog X.w) X.A (c8<|.ref s.heap.objs.size) (PIE X c g tg R) E {s with heap:=s.heap.push {cls:= .type "range",data:= .fields #[.int lo t,.int a u,.int 1 v]},toks:=f}:=by
 refine wpAny_pyIter_range (IsRange.new ..) (small_one h1 j k l) ?_;have d:Inv X c g T {s with heap:=s.heap.push {cls:= .type "range",data:= .fields #[.int lo t,.int a u,.int 1 v]},toks:=f}:=Q.kept λb o e=>jS _ e
 refine⟨(s.heap.push {cls:= .type "range",data:= .fields #[.int lo t,.int a u,.int 1 v]}).objs.size,[(s.heap.push {cls:= .type "range",data:= .fields #[.int lo t,.int a u,.int 1 v]}).objs.size],_,_,T,rfl,
  d.kept (t':=f) λb o e=>jS _ e,HH _ lo (a-lo).toNat,?_,λb m=>?_,q⟩
 .have h:lo+((0:Nat):Int)*1=lo:=by simp
  have i:(((a-lo).toNat:Nat):Int)-((0:Nat):Int)=eJ lo a 1:=by rw[ww];split<;>lia
  show EQ _ _ (lo+((0:Nat):Int)*1) ((((a-lo).toNat:Nat):Int)-((0:Nat):Int)) 1;rw[h,i];exact kh _ rfl
 .have e:b=(s.heap.push {cls:= .type "range",data:= .fields #[.int lo t,.int a u,.int 1 v]}).objs.size:=by simpa using m
  subst e;exact d.fpOk (jQ _)<|d.hok.fresh<|jQ _
def XW(b:TA):TI:=λd T R=>b d T λc a=> ∃j:Int,c=[.int j]/\ -(2^62)<=j/\j<2^62/\R (Itr 0 j.toNat) a
def XU(b:TA):TI:=λd T R=>b d T λc a=> ∃i j:Int,c=[.int i,.int j]/\(-(2^62)<=i/\i<2^62/\ -(2^62)<=j/\j<2^62)/\R (Itr i (j-i).toNat) a
def Lh{a:iA}{f:TA}{p c:bC}(k:Gl X "range")(l:X.mg "range"=J)(i:PA X [a] f)(m:ac [a] X.env=[(C,aM a X.env)]:=by rfl):PI X tg (.Call (.Name "range" p) [a] [] c) (XW f):=by
 intro b s v T R Q h;refine Call_<|qV Q k l Em<|AU (thn (i c b s v T _ Q h) λx s1 O=>?_) m I;obtain⟨y,w,g,o,d⟩:=O;obtain⟨j,e,d,n,q⟩:=d;subst e
 cases o with
 |cons r u=>
  cases u;obtain⟨t,rfl⟩:=r;exact call_range_1<|FY g (by lia) (by lia) d n (by simpa using q)
def Lg{a b:iA}{l:TA}{p d:bC}(o:Gl X "range")(u:X.mg "range"=J)(n:PA X [a,b] l)(v:ac [a,b] X.env=[(C,aM a X.env),(C,aM b X.env)]:=by rfl)(k:ac [b] X.env=[(C,aM b X.env)]:=by rfl):
  PI X tg (.Call (.Name "range" p) [a,b] [] d) (XU l):=by
 intro c s B T R Q h;refine Call_<|qV Q o u Em<|AU (thn (n d c s B T _ Q h) λL s1 M=>?_) (by rw[v,k]) (by rw[k];rfl);obtain⟨O,N,m,A,f⟩:=M;obtain⟨i,j,e,⟨f,w,x,y⟩,q⟩:=f;subst e
 cases A with
 |cons r g=>
  cases g with
  |cons z g=>
   cases g;obtain⟨t,rfl⟩:=r;obtain⟨E,rfl⟩:=z;exact z9<|FY m f w x y q
def YY(k:TI)(g:TG)(j:TS):TS:=λD a T=>k a T λQ f=> ∃W:Nat->Nat->St->Hp->Prop,(∃m,W 0 m a f)/\ ∀i m a T,W i m a T->
 (Q.stop i T/\D.nx a T)\/(Q.go i T/\ ∃N:St->Hp->Prop,(∀c b,N c b-> ∃e,e<m/\W (i+1) e c b)/\ ∀x b,Q.yld i T x b->g x a b λd h=>j {D with nx:=N,ct:=N,bk:=D.nx} d h)
noncomputable def Bi(a:kH)(h:iO):List (hV×en):=a.filterMap λb=>(h.get? b).map λo=>(b,o)
def sY{a:kH}{h:iO}{b:hV}{o:en}(c:b∈a)(e:h.get? b=Y o):(b,o)∈Bi a h:=ew.mpr ⟨b,c,by rw[e];rfl⟩
def Lp{a:kH}{h:iO}{p:hV×en}(f:p∈Bi a h):p.1∈a/\h.get? p.1=Y p.2:=by
 obtain⟨b,d,e⟩:=ew.mp f
 cases q:h.get? b with
 |none=>rw[q] at e;cases e
 |some o=>rw[q] at e;have c:(b,o)=p:=kP e;subst c;exact⟨d,q⟩
def Inv.pinned{a:ji}{h:St}{T:Hp}{s:il}{c:kH}(Q:Inv X a h T s)(i: ∀b∈c,vh X a T b)(j: ∀b∈c,∃o,s.heap.get? b=Y o/\ ∀v,o.data≠ .cell v):Inv X (a++Bi c s.heap) h T s:=
 Q.pins_of λp k=>(rY.mp k).elim (λz=>Q.pin p<|rq _ z) λz=>by obtain⟨g,e⟩:=Lp z;obtain⟨f0,f1,f2,_⟩:=i p.1 g;obtain⟨o,f,d⟩:=j p.1 g;rw[e] at f;cases f;exact⟨e,f0,f1,f2,d⟩
def Inv.unpinned{a d:ji}{b:St}{T:Hp}{s:il}(Q:Inv X (a++d) b T s):Inv X a b T s:=Q.pins_of λp c=>Q.pin p<|rq _ (En _ c)
def Vu{iter:iA}{y:List b7}{wi:TI}{g:TG}{tb:TS}{M:bC}(C:eF (ag X.prog X.w) X.A X.env X.xe)(hc:X.calm=Gc)(hi:PI X tg iter wi)(hg:PG X tg g)(l:PSs X y tb)
  (hs: ∀x,aw iter X.env x=pure x:=by intro _;rfl):PS X (.For tg iter y [] M) (YY wi g tb):=by
 intro a s P H D I h;refine wpAny_For (thn (hi a s P H _ I h) λv s1 h1=>thn h1 λda s2 h2=>?_) hs;obtain⟨it,B,K,J,R,e,S,T,V,f2,W,⟨m0,w0⟩,L⟩:=h2;subst e;have Y: ∀{t:Hp},(∀b∈B,t b=F2)-> ∀b∈B,vh X a t b:=λhn b l=>⟨hn b l,(f2 b l).2⟩
 refine codeAny_forLoop_any (λn F=> ∃i p t,Inv X a p t F/\K i F.heap/\(∀b∈B,t b=F2)/\W i n p t) ?_ m0 ⟨0,P,R,S,V,λb l=>(f2 b l).1,w0⟩;rintro n s3 ⟨i,q,O,I3,dE,du,w3⟩;rcases L i n q O w3 with⟨stop,qn⟩|⟨go,N,hN,step⟩
 .refine wQ C (thn (T.done X H8 H8 H8 hc i a s3 q O X.xe I3 (Y du) dE stop) λr s4 a'=>?_);obtain⟨G,I4⟩:=a';subst G;exact HA ⟨q,O,I4,qn⟩
 .refine wQ C (thn (T.item X H8 H8 H8 hc i a s3 q O X.xe I3 (Y du) dE go) λr s4 a'=>?_);obtain⟨u,G,h4⟩:=a';subst G;refine wQ C<|thn h4 λ_ s5 a'=>?_;obtain⟨x,H5,I5,r5,y5,Q,gL⟩:=a';have Z:=I5.pinned (Y gL)<|T.obj _ _ Q;refine wQ C<|thn (hg _ s5 q H5 x u _ Z r5 (step x H5 y5)) λ_ s6 a'=>?_;obtain⟨σ6,H6,I6,q6⟩:=a';refine wQ C (thn (l _ s6 σ6 H6 _ I6 q6) λf U z=>?_)
  have again: ∀{c:St} {j:Hp},Inv X (a++Bi B s5.heap) c j U->N c j-> ∃m,m<n/\ ∃i p t,Inv X a p t U/\K i U.heap/\(∀b∈B,t b=F2)/\W i m p t:=λ{c j} k E=>by obtain⟨m',hm,w7⟩:=hN c j E;refine⟨m',hm,i+1,c,j,k.unpinned,T.keep _ _ _ Q λb l o e=>(k.pin (b,o)<|rq _ (rq _ (sY l e))).1,λb l=>?_,w7⟩;obtain⟨o,e,d⟩:=T.obj _ _ Q b l;exact(k.pin (b,o)<|rq _ (rq _ (sY l e))).2.1
  cases f with
  |next=>obtain⟨c,j,k,E⟩:=z;exact again k E
  |cont=>obtain⟨c,j,k,E⟩:=z;exact again k E
  |brk=>obtain⟨c,j,k,z⟩:=z;exact⟨c,j,k.unpinned,z⟩
  |ret v=>obtain⟨x7,c,j,k,r7,z⟩:=z;exact⟨x7,c,j,k.unpinned,r7,z⟩
end
abbrev R2:=V->V->Hp->VK->Prop
def OpR(X:Cx)(f:zS)(r:R2):Prop:=
 ∀(a:ji) (s:il) (b:St) (T:Hp) (x y:V) (v u:iC) (Q:VK),Inv X a b T s->RelV x v->RelV y u->r x y T Q->
  ae (ag X.prog X.w) X.A (f v u) (EP X a b Q) X.xe s
def UnR(X:Cx)(f:iC->dF iC)(r:V->Hp->VK->Prop):Prop:=
 ∀(a:ji) (s:il) (b:St) (T:Hp) (x:V) (v:iC) (Q:VK),Inv X a b T s->RelV x v->r x T Q->
  ae (ag X.prog X.w) X.A (f v) (EP X a b Q) X.xe s
def kQ(X:Cx)(f:iC)(r:List V->Hp->VK->Prop):Prop:=
 ∀(a:ji) (s:il) (c:St) (T:Hp) (xs:List V) (b:jN) (Q:VK),Inv X a c T s->Vals xs b->r xs T Q->
  ae (ag X.prog X.w) X.A (call f b) (EP X a c Q) X.xe s
noncomputable def tOp(r:R2)(d e:TE):TE:=λa T Q=>d a T λx b=>e a b λy c=>r x y c Q
def tUn(r:V->Hp->VK->Prop)(b:TE):TE:=λc T Q=>b c T λx a=>r x a Q
def rI(O:Int->Int->Prop)(g:Int->Int->V):R2:=λx y T Q=> ∃i j,x= .int i/\y= .int j/\O i j/\Q (g i j) T
def rI0(g:Int->Int->V):R2:=λx y T Q=> ∃i j,x= .int i/\y= .int j/\Q (g i j) T
def rU(g:Int->V):V->Hp->VK->Prop:=λx T Q=> ∃i,x= .int i/\Q (g i) T
section
variable {X:Cx}{a b c:iA}{l tb n:TE}{m:bC}
def Wv(r:PE X a l)(t:PE X b tb){d:ji}{s:il}{g:St}{T:Hp}{R:V->V->Hp->Prop}(O:Inv X d g T s)
  (h:l g T λx o=>tb g o λy e=>R x y e){Q:jf}{f:zS}
  (z: ∀v u k x y e,Inv X d g e k->RelV x v->RelV y u->R x y e->ae (ag X.prog X.w) X.A (f v u) Q X.xe k):
  ae (ag X.prog X.w) X.A (aM a X.env) (λv i=>ae (ag X.prog X.w) X.A (aM b X.env) (λu j=>ae (ag X.prog X.w) X.A (f v u) Q X.xe j) X.xe i) X.xe s:=by
 refine thn (r d s g T _ O h) λv s1 M=>?_;obtain⟨x,o,p,E,B⟩:=M;refine thn (t d s1 g o _ p B) λu k M=>?_;obtain⟨y,e,q,L,N⟩:=M;exact z v u k x y e q E L N
def Xq{e:Operator}{r:R2}(k:OpR X (bv e) r)(i:PE X a l)(j:PE X b tb):PE X (.BinOp a e b m) (tOp r l tb):=by intro d s w T Q O h;exact wpAny_BinOp<|Wv i j O h λv u t x y f g o p q=>k d t w f x y v u Q g o p q
def Xp{e:UnaryOp}{r:V->Hp->VK->Prop}(k:UnR X (zn e) r)(j:PE X a l):PE X (.UnaryOp e a m) (tUn r l):=by intro d s f T Q O h;exact UnaryOp_ (thn (j d s f T _ O h) λv s1 N=>by obtain⟨x,g,i,p,o⟩:=N;exact k d s1 f g x v Q i p o)
def opI{f:zS}{N:Int->Int->Prop}{g:Int->Int->Int}
  (rule: ∀(i j:Int) (t u:nL) (s:il) (Q:jf) (E:jf),N i j->Q (.int (g i j) s.toks) {s with toks:=s.toks+1}->ae (ag X.prog X.w) X.A (f (.int i t)<|.int j u) Q E s):
  OpR X f (rI N λi j=> .int (g i j)):=by
 intro d s r T x y v u Q O k o h;obtain⟨i,j,rfl,rfl,e,q⟩:=h;obtain⟨t,rfl⟩:=k;obtain⟨p,rfl⟩:=o;exact rule i j t p s _ _ e ⟨.int<|g i j,T,O.tok _,⟨_,rfl⟩,q⟩
def Xy{f:zS}{g:Int->Int->Int}
  (rule: ∀(i j:Int) (t u:nL) (s:il) (Q:jf) (E:jf),Q (.int (g i j) s.toks) {s with toks:=s.toks+1}->ae (ag X.prog X.w) X.A (f (.int i t)<|.int j u) Q E s):
  OpR X f (rI0 λi j=> .int (g i j)):=by
 intro d s p T x y v u Q O e k h;obtain⟨i,j,rfl,rfl,q⟩:=h;obtain⟨t,rfl⟩:=e;obtain⟨o,rfl⟩:=k;exact rule i j t o s _ _ ⟨.int<|g i j,T,O.tok _,⟨_,rfl⟩,q⟩
def Sg{f:zS}{g:Int->Int->Bool}
  (rule: ∀(i j:Int) (t u:nL) (s:il) (Q:jf) (E:jf),Q (.bool<|g i j) s->ae (ag X.prog X.w) X.A (f (.int i t)<|.int j u) Q E s):
  OpR X f (rI0 λi j=> .bl (g i j)):=by
 intro d s p T x y v u Q O e k h;obtain⟨i,j,rfl,rfl,q⟩:=h;obtain⟨t,rfl⟩:=e;obtain⟨o,rfl⟩:=k;exact rule i j t o s _ _ ⟨.bl<|g i j,T,O,rfl,q⟩
def L7(i j:Int):Prop:=0<j/\j<1073741824
def Ar(i j:Int):Prop:=0<=j/\j<=1000000/\i.natAbs<2^64
def CMul(i j:Int):Prop:=(-(2^64)<i/\i<2^64)\/(-(2^64)<j/\j<2^64)
def CMul.ok{i j:Int}(h:CMul i j):IntMulOk i j:=by
 rcases h with⟨h1,d⟩|⟨h1,d⟩
 .exact .of_left (wE h1 d)
 .exact .of_right (wE h1 d)
def VP:OpR X (bv .Add) (rI0 λi j=> .int (i+j)):=Xy λ_ _ _ _ _ _ _ q=>add_int q
def VI:OpR X (bv .Sub) (rI0 λi j=> .int (i-j)):=Xy λ_ _ _ _ _ _ _ q=>sub_int q
def VM:OpR X (bv .Mult) (rI CMul λi j=> .int (i*j)):=opI λ_ _ _ _ _ _ _ d q=>mul_int q d.ok
def Se:OpR X (bv .FloorDiv) (rI L7 λi j=> .int (i / j)):=opI λi j _ _ _ _ _ d q=>by have h1:(0:Int)<j:=d.1;have e:j<1073741824:=d.2;exact floordiv_int (by lia) (by rw[Int.fdiv_eq_ediv_of_nonneg i<|by lia];exact q)<|.inl<|PyProof.noPylong_small (by lia)
def VN:OpR X (bv .Mod) (rI (λ_ j=>0<j) λi j=> .int (i%j)):=opI λi j _ _ _ _ _ d q=>by have h1:(0:Int)<j:=d;exact mod_int' (by lia) (by rw[Int.fmod_eq_emod_of_nonneg i<|by lia];exact q)
def VJ:OpR X (bv .Pow) (rI Ar λi j=> .int (i^j.toNat)):=opI λ_ _ _ _ _ _ _ d q=>pow_int_small d.1 d.2.1 d.2.2 q
def unI{f:iC->dF iC}{g:Int->Int}
  (rule: ∀(i:Int) (t:nL) (s:il) (Q:jf) (E:jf),Q (.int (g i) s.toks) {s with toks:=s.toks+1}->ae (ag X.prog X.w) X.A (f<|.int i t) Q E s):
  UnR X f (rU λi=> .int (g i)):=by
 intro d s j T x v Q O e h;obtain⟨i,rfl,q⟩:=h;obtain⟨t,rfl⟩:=e;exact rule i t s _ _ ⟨.int<|g i,T,O.tok _,⟨_,rfl⟩,q⟩
def UA:UnR X (zn .USub) (rU λi=> .int (-i)):=unI λ_ _ _ _ _ q=>neg_int q
def PU{d:ji}{g:St}{T:Hp}{s:il}{Q:VK}{k f:Bool}(O:Inv X d g T s)(q:Q (.bl k) T)(e:k=f):EP X d g Q (.bool f) s:=by subst e;exact⟨.bl k,T,O,rfl,q⟩
def Xu:OpR X (ap .Lt) (rI0 λi j=> .bl (decide<|i<j)):=Sg λ_ _ _ _ _ _ _ q=>lt_int q
def Xv:OpR X (ap .LtE) (rI0 λi j=> .bl (decide<|i<=j)):=Sg λ_ _ _ _ _ _ _ q=>le_int q
def Xw:OpR X (ap .Gt) (rI0 λi j=> .bl (decide<|j<i)):=Sg λ_ _ _ _ _ _ _ q=>gt_int q
def Xx:OpR X (ap .GtE) (rI0 λi j=> .bl (decide<|j<=i)):=Sg λ_ _ _ _ _ _ _ q=>ge_int q
def Ox:OpR X (ap .Is) (λx y T Q=>y= .non/\Q (.bl<|decide<|x= .non) T):=by
 intro d s g T x y v u Q O e f h;obtain⟨rfl,q⟩:=h;cases f;refine is_none_gen<|PU O q ?_
 cases x<;>first
  |(cases e;rfl)
  |(obtain⟨t,rfl⟩:=e;rfl)
def OH(b:iA){d:cz}(h:d≠ .In:=by decide)(g:d≠ .NotIn:=by decide):ce d b=C:=by
 have e:(d==cz.In)=C:=by cases d<;>first|rfl|exact absurd I h
 have f:(d==CmpOp.NotIn)=C:=by cases d<;>first|rfl|exact absurd I g
 cases b<;>simp[ce,e,f]
def R5{e:cz}{r:R2}(o:OpR X (ap e) r)(i:PE X a l)(j:PE X b tb)(k:ce e b=C):PE X (.Compare a [e] [b] m) (tOp r l tb):=by intro d s z T Q O h;exact wpAny_Compare1 (Wv i j O h λv u w x y f g p t q=>o d w z f x y v u Q g p t q) k
def TV(t:TE):TT:=λe T Q=>t e T λx d=> ∃k,x= .bl k/\Q k d
def RL{g:cz}{r:R2}(E:OpR X (ap g) r)(A:PE X a l)(B:PE X b tb)(C:ce g b=Go):PT X (.Compare a [g] [b] m) (TV<|tOp r l tb):=by intro d s i H Q I h;refine wpAny_isTrue_Compare1 (thn (A d s i H _ I h) λv s1 f=>?_) C;obtain⟨x,j,q,G,L⟩:=f;refine thn (B d s1 i j _ q L) λu N f=>?_;obtain⟨y,o,t,J,O⟩:=f;refine thn (E d N i o x y v u _ t G J O) λc U f=>?_;obtain⟨z,p,w,M,k,e,T⟩:=f;subst e;cases M;exact wg ⟨p,w,T⟩
def HI(r i:R2)(l tb n:TE):TE:=λd T Q=>l d T λx f=>tb d f λy g=>r x y g λz e=> ∃k,z= .bl k/\
 (if k=U then n d e λj h=>i y j h Q else Q (.bl C) e)
def Oi{o j:cz}{r w:R2}(Y:OpR X (ap o) r)(G:OpR X (ap j) w)(J:PE X a l)(M:PE X b tb)(N:PE X c n)
  (U:eC [o,j] [b,c]=Go:=by with_unfolding_all rfl):PE X (.Compare a [o,j] [b,c] m) (HI r w l tb n):=by
 intro f s i H Q I h;refine Compare_chain (thn (J f s i H _ I h) λv s1 g=>?_) U;obtain⟨x,B,L,K,D⟩:=g;refine chain_link<|thn (M f s1 i B _ L D) λu R g=>?_;obtain⟨y,C,O,A,F⟩:=g;refine thn (Y f R i C x y v u _ O K A F) λd S g=>?_;obtain⟨z,p,q,P,k,e,t⟩:=g;subst e;cases P;refine wg ?_
 cases k with
 |false=>exact ite_ff ⟨.bl Go,p,q,rfl,t⟩
 |true=>exact ite_tt<|chain_last (thn (N f S i p _ q t) λw' s4 a'=>by obtain⟨z',E,T,r4,q4⟩:=a';exact G f s4 i E y z' u w' Q T A r4 q4)
def NM{o j:cz}{r w:R2}(ho:OpR X (ap o) r)(M:OpR X (ap j) w)(Y:PE X a l)(hb:PE X b tb)(hc:PE X c n)
  (hm:eC [o,j] [b,c]=Go:=by with_unfolding_all rfl):PT X (.Compare a [o,j] [b,c] m) (TV<|HI r w l tb n):=by
 intro f s i H Q I h;refine isTrue_chain (thn (Y f s i H _ I h) λv s1 g=>?_) hm;obtain⟨x,B,O,S,F⟩:=g;refine test_link<|thn (hb f s1 i B _ O F) λu s2 g=>?_;obtain⟨y,C,T,A,K⟩:=g;refine thn (ho f s2 i C x y v u _ T S A K) λd s3 g=>?_;obtain⟨z,p,q,V,k,e,t⟩:=g;subst e;cases V;refine wg ?_
 cases k with
 |false=>obtain⟨k',N,D⟩:=t;cases N;exact ite_ff ⟨p,q,D⟩
 |true=>refine ite_tt<|test_last<|thn (hc f s3 i p _ q t) λw' s4 g=>?_;obtain⟨z',E,G,W,P⟩:=g;refine thn (M f s4 i E y z' u w' _ G A W P) λd' s5 g=>?_;obtain⟨z2,L,J,Z,k2,U,R⟩:=g;subst U;cases Z;exact wg ⟨L,J,R⟩
def EX:(sizeLine:Nat)<2^63:=by rw[jI];decide
def Io:OpR X (bv .Add) (λx y T Q=> ∃i j,x= .str i/\y= .str j/\i.length+j.length<=sizeLine/\Q (.str<|i++j) T):=by intro d s o T x y v u Q O f g h;obtain⟨i,j,rfl,rfl,e,q⟩:=h;obtain⟨t,rfl⟩:=f;obtain⟨t',rfl⟩:=g;exact add_str (λt' k=>⟨.str<|i++j,T,O.tok _,⟨_,rfl⟩,q⟩) e
def qu{x:V}{d:jN}(r:Vals [x] d): ∃u,d=[u]/\RelV x u:=by
 cases r with
 |cons e f=>cases f;exact⟨_,rfl,e⟩
def CT{x y:V}{d:jN}(r:Vals [x,y] d): ∃u e,d=[u,e]/\RelV x u/\RelV y e:=by
 cases r with
 |cons f g=>
  cases g with
  |cons h i=>cases i;exact⟨_,_,rfl,f,h⟩
def Qi:kQ X (.builtin "abs") (λe T Q=> ∃i,e=[.int i]/\Q (.int (if i<0 then -i else i)) T):=by intro d s j T e g Q O r h;obtain⟨i,rfl,q⟩:=h;obtain⟨u,rfl,t,rfl⟩:=qu r;exact Bn λu f=>⟨.int (if i<0 then -i else i),T,O.tok _,⟨_,rfl⟩,q⟩
def LY(g:X.calm=U):kQ X (.builtin "max") (λf T Q=> ∃i j,f=[.int i,.int j]/\Q (.int (if j>i then j else i)) T):=by
 intro e s y T f w Q O r h;obtain⟨i,j,rfl,q⟩:=h;obtain⟨u,x,rfl,⟨t,rfl⟩,⟨p,rfl⟩⟩:=CT r;refine max_two_ints (O.ok.hd g) λo v k=>⟨_,T,O.kept k,?_,q⟩
 by_cases d:j>i
 .rw[iF d,iF d];exact⟨_,rfl⟩
 .rw[iL d,iL d];exact⟨_,rfl⟩
def LX(g:X.calm=U):kQ X (.builtin "min") (λf T Q=> ∃i j,f=[.int i,.int j]/\Q (.int (if j<i then j else i)) T):=by
 intro e s y T f w Q O r h;obtain⟨i,j,rfl,q⟩:=h;obtain⟨u,x,rfl,⟨t,rfl⟩,⟨p,rfl⟩⟩:=CT r;refine min_two_ints (O.ok.hd g) λo v k=>⟨_,T,O.kept k,?_,q⟩
 by_cases d:j<i
 .rw[iF d,iF d];exact⟨_,rfl⟩
 .rw[iL d,iL d];exact⟨_,rfl⟩
def DC:kQ X (.type "int") (λd T Q=>(∃i,d=[.int i]/\Q (.int i) T)\/ ∃k,d=[.bl k]/\Q (.int (if k then 1 else 0)) T):=by
 intro e s j T d g Q O r h;rcases h with⟨i,rfl,q⟩|⟨k,rfl,q⟩
 .obtain⟨u,rfl,t,rfl⟩:=qu r;exact call_int_int ⟨.int i,T,O,⟨_,rfl⟩,q⟩
 .obtain⟨u,rfl,f⟩:=qu r;cases f;exact call_int_bool ⟨.int (if k then 1 else 0),T,O.tok _,⟨_,rfl⟩,q⟩
end
section
variable {a:iU}{w:iK}{A:iP}{E:jf}{s:il}{K:iM}{x d C f:hV}{c:nJ}{b:aW}{v:iC}
end
def RelO.some_of{v:V}{o:Option iC}(r:RelO (Y v) o): ∃u,o=Y u/\RelV v u:=by
 cases o with
 |none=>exact(show False from r).elim
 |some u=>exact⟨u,rfl,r⟩
section
variable {P:iU}{w:iK}{H e:Hp}{h b:iO}{a C d:hV}{fs c:List (aW×V)}
end
section
variable {X:Cx}{b:ji}{c:St}{H:Hp}{s:il}{a C d:hV}{fs:List (aW×V)}{f:aW}{v:V}{A:iP}{E:jf}
end
section
variable {X:Cx}{o e a:iA}{f:aW}{c b h:bC}{g d:TE}
end
section
variable {X:Cx}{a:ji}{d:St}{H:Hp}{s:il}{A:iP}{E:jf}{Q:jf}{c:iC}{b:Bool}
end
structure Room(k:Nat)(A:iP):Prop where
 hd:A.handled=F2
 dp:A.depth+3*k+5<recursionLimit
 un:A.units+16*k+200<aX
 gd:A.guards=FM []:=by rfl
def Room.mono{j k:Nat}{A:iP}(r:Room k A)(h:j<=k):Room j A:=⟨r.hd,by have:=r.dp;lia,by have:=r.un;lia,r.gd⟩
def Room.deeper{k:Nat}{A:iP}(r:Room (k+1) A)(a:eO):Room k (A.deeper a):=
 ⟨r.hd,by have:=r.dp;show A.depth+1+3*k+5<_;lia,by have:=r.un;show A.units+3+16*k+200<_;lia,r.gd⟩
def Room.depth{k:Nat}{A:iP}(r:Room k A):A.depth<recursionLimit:=by have:=r.dp;lia
noncomputable def YV:TA:=λ_ T Q=>Q [] T
noncomputable def W4(d:TE)(e:TA):TA:=λa T Q=>d a T λx b=>e a b λf c=>Q (x::f) c
section
variable {X:Cx}{e:iA}{c:kn}{d:TE}{t:TA}{a:bC}
def uP:PA X [] YV:=λ_ _ _ _ T Q O h=>Calls.spliced_nil ⟨[],T,O,.nil,h⟩
def pB(l:PE X e d)(m:PA X c t)(n:ac (e::c) X.env=(C,aM e X.env)::ac c X.env:=by rfl):PA X (e::c) (W4 d t):=by intro a b s f T Q O h;rw[n];show ae _ _ (zx ((C,aM e X.env)::aJ a (ac c X.env))) _ _ s;refine Calls.spliced_cons<|thn (l b s f T _ O h) λu s1 N=>?_;obtain⟨x,g,j,q,o⟩:=N;exact thn (m a b s1 f g _ j o) λy w ⟨v,i,k,r,p⟩=>⟨x::v,i,k,.cons q r,p⟩
noncomputable def YR(t:TA):TE:=λg T Q=>t g T λf b=>Ix f<=sizeLine/\ ∀p,b p=J->Q (.ref p) (upd b p<|.tup f)
noncomputable def YW(t:TA):TE:=λg T Q=>t g T λf b=>Ix f<=sizeLine/\ ∀p,b p=J->Q (.ref p) (upd b p<|.lst f)
def VA{x1}(h:PA X c t):PE X (.Tuple c x1 a) (YR t):=by intro f s n T Q O k;refine wpAny_Tuple_spliced<|thn (h a f s n T _ O k) λl s1 ⟨m,g,i,r,z,q⟩=>⟨by rw[<-r.length];exact z,?_⟩;have j:g s1.heap.objs.size=J:=i.hok.fresh<|jQ _;refine⟨.ref s1.heap.objs.size,upd g s1.heap.objs.size<|.tup m,i.laid (t':=s1.toks) (λb u e=>jS _ e) (jQ _) ?_,rfl,q _ j⟩;exact⟨z,l,r,⟨_,kh _ rfl,rfl,_,rfl⟩⟩
def VF(h:PA X c t):PE X (.List c a) (YW t):=by intro f s n T Q O k;refine wpAny_List_spliced<|thn (h a f s n T _ O k) λl s1 ⟨m,g,i,r,z,q⟩=>⟨by rw[<-r.length];exact z,?_⟩;have j:g s1.heap.objs.size=J:=i.hok.fresh<|jQ _;refine⟨.ref s1.heap.objs.size,upd g s1.heap.objs.size<|.lst m,i.laid (t':=s1.toks) (λb u e=>jS _ e) (jQ _) ?_,rfl,q _ j⟩;exact⟨z,l,0,r,kh _ rfl⟩
end
abbrev Sp:=List V->Hp->VK->XK->Prop
abbrev CXT:=List eO->Hp->il->XK->iC->il->Prop
structure Env0(P:iU)(w:iK)(K:iM)(mg:nJ)(base:iO)(A:iP)(outer:List eO)(s:il)(H:Hp):Prop where
 frames:A.frames=FM outer
 mod:Mod K mg base
 bs: ∀b o,base.get? b=FM o->s.heap.get? b=FM o/\H b=F2
 bsz:base.objs.size<=s.heap.objs.size
 funs:s.heap.FunFrames base outer
 frf: ∀b∈frs outer,H b=F2
 hok:HOk P w H s.heap
 bare:ee s.gens
def CE(a:List eO)(P:iU)(w:iK)(T:Hp)(s:il)(Q:VK)(u:iC)(b:il):Prop:=
 ∃v c,b.os=s.os/\ee b.gens/\Un (frs a) [] T c s.heap b.heap/\HOk P w c b.heap/\RelV v u/\Q v c
def CR(c:CXT)(a:List eO)(P:iU)(w:iK)(T:Hp)(s:il)(Q:VK)(E:XK)(r:h7)(b:il):Prop:=
 match r with
 | .ok (.ret u)=>CE a P w T s Q u b
 | .ok _=>False
 | .error e=>c a T s E e b
structure FnOk(P:iU)(w:iK)(K:iM)(mg:nJ)(base:iO)(CX:CXT)(k:Nat)(f:hV)(fd:oI)(ps:jr)(sp:Sp):Prop where
 len: ∀vs H Q E,sp vs H Q E->Ix vs=Ix ps
 run: ∀(A:iP) (outer:List eO) (s:il) (H:Hp) (args:Args) (us:jN) (vs:List V) (Q:VK) (E:XK),Room k A->Env0 P w K mg base A outer s H->fo s fd args (ps.zip us)->Vals vs us->sp vs H Q E->
  cG (ag P w) A (.call (.ref f) args) (CR CX outer P w H s Q E) s
def FnOk.mono{P:iU}{w:iK}{K:iM}{e:nJ}{base:iO}{c:CXT}{j k:Nat}{f:hV}{d:oI}{g:jr}{i:Sp}(F:FnOk P w K e base c j f d g i)(h:j<=k):
  FnOk P w K e base c k f d g i:=⟨F.len,λA a s T b m n Q E l=>F.run A a s T b m n Q E<|l.mono h⟩
section
variable {X:Cx}{a:ji}{c:St}{H:Hp}{s e:il}
def Inv.env0(T:Inv X a c H s):Env0 X.prog X.w X.K X.mg X.base X.A X.stack s H:=
 ⟨T.ok.frames,T.ok.mod,T.bs,ly T.ok.bsz T.sz,T.stack,T.stkFree,T.hok,T.bare⟩
def Inv.after{Q:VK}{u:iC}(T:Inv X a c H s)(h:CE X.stack X.prog X.w H s Q u e):EP X a c Q u e:=by obtain⟨v,j,os,f,un,i,r,q⟩:=h;obtain⟨l,g,d,t,k⟩:=e;obtain rfl:k=s.os:=os;exact⟨v,j,T.call (h':=l) (g':=g) (d':=d) (t':=t) (ch:=[]) un i f λb z=>absurd z<|by simp,r,q⟩
end
noncomputable def W5(c:Sp)(b:List V)(E:XK)(t:TA):TE:=λe T Q=>t e T λd a=>c (d++b) a Q E
def Binds(K:iM)(d:oI)(c:jr)(b:jN):Prop:=
 ∀(s:il) (a:jN),K.In s.heap->(a++b).length=Ix c->fo s d ⟨a,[]⟩ (c.zip<|a++b)
def Binds.all{K:iM}{c:oI}{b:jr}(h: ∀a:List iC,Ix a=Ix b->v6 c ⟨a,[]⟩=pure (b.zip a)):Binds K c b []:=λs a _ d=>by rw[wO] at d ⊢;exact .of_eq<|h a d
def Jq(c:CXT)(X:Cx)(E:XK):Prop:= ∀(a:ji) (d:St) (T:Hp) (s:il) (e:iC) (b:il),Inv X a d T s->c X.stack T s E e b->X.xe e b
section
variable {X:Cx}{l:CXT}{k:Nat}{f C:hV}{j:oI}{d:jr}{i:Sp}{c:List V}{b:jN}{E:XK}{x m:aW}{p a n:bC}{e o:iA}{g:kn}{v:TE}{t:TA}
def UQ{q:ji}{L:St}{H:Hp}{s:il}{Q:VK}{y:jN}{B:List V}(F:FnOk X.prog X.w X.K X.mg X.base l k f j d i)(M:Room k X.A)(G:Binds X.K j d b)(hd:Vals c b)(N:Jq l X E)
  (I:Inv X q L H s)(r:Vals B y)(h:i (B++c) H Q E):ae (ag X.prog X.w) X.A (call (.ref f) y) (EP X q L Q) X.xe s:=by
 have O:Vals (B++c) (y++b):=r.append hd;have J:(y++b).length=d.length:=by rw[<-O.length];exact F.len _ _ _ _ h
 refine na<|we (F.run X.A X.stack s H ⟨y,[]⟩ (y++b) (B++c) Q E M I.env0 (G s y I.kIn J) O h) λr U z=>?_
 cases r with
 |error e=>exact N q L H s e U I z
 |ok T=>
  cases T with
  |ret u=>exact I.after z
  |next=>exact cc z
  |brk=>exact cc z
  |cont=>exact cc z
def R6(F:FnOk X.prog X.w X.K X.mg X.base l k f j d i)(G:Room k X.A)(O:Gl X x)(T:X.mg x=Y (.ref f))(hk:cu X.K (.ref f)=Gc)(B:Binds X.K j d b)(hd:Vals c b)(J:Jq l X E)
  (z:PA X (e::g) t)(N:(x==("__debug__":aW))=Go:=by decide)(L:ac (e::g) X.env=(Go,aM e X.env)::ac g X.env:=by rfl)(M:(aJ a<|ac g X.env).any (·.1)=Go:=by rfl):
  PE X (.Call (.Name x p) (e::g) [] a) (W5 i c E t):=by
 intro u s U H Q I h;refine zf<|J8 I O T ?_ N;refine PySem.W.callWith_K (h₀:=X.base) I.ok.mod.kin hk (thn (z a u s U H _ I h) λus s1 ⟨vs,Y',y,r,q⟩=>⟨y.kIn,?_⟩) L M;exact UQ F G B hd J y r q
end
section
variable {X:Cx}{w:CXT}{k:Nat}{f C:hV}{s:oI}{l q:jr}{j:Sp}{E:XK}{x m:aW}{p c b a:bC}{e o:iA}{u:kn}{v:List cf}{h i:TE}{t d:TA}{n:Option aW}
variable {g:List iC->List iC->List iC}{r:List V->List V->List V}
end
structure FnScope(N P:jr)(sc:km):Prop where
 kind:sc.kind= .function
 co:sc.isCoroutine=Go
 gen:sc.isGenerator=Go
 nd:N.Nodup
 pre:N.take P.length=P
 par: ∀x∈P,sc.names.lookup x=FM .local\/sc.names.lookup x=FM .cell
 nofree: ∀y∈sc.names,y.2≠ .free
theorem DF{kindOf:aW->Option c7}{x:aW}: ∀{binds:List (aW×iC)} {m:nJ},(∀v,(x,v)∉binds)->gr kindOf binds m x=m x
 |[],_,_=>rfl
 |(n,v)::r,m,h=>by
  unfold gr;rw[DF λw a=>h w<|jU _ a];split
  .have:x≠n:=by rintro rfl;exact h v jP
   simp[this]
  .rfl
theorem DH{kindOf:aW->Option c7}{x:aW}: ∀{binds:List (aW×iC)} {m:nJ},(∀v,(x,v)∉binds)->gu kindOf binds m x=m x
 |[],_,_=>rfl
 |(n,v)::r,m,h=>by
  unfold gu;rw[DH λw a=>h w<|jU _ a];split
  .rfl
  .have:x≠n:=by rintro rfl;exact h v jP
   simp[this]
theorem DG{kindOf:aW->Option c7}{x:aW}{v:iC}: ∀{P:jr} {a:jN} {i:Nat} {m:nJ},P.Nodup->P[i]?=Y x->a[i]?=Y v->kindOf x=Y .local->
  gr kindOf (P.zip a) m x=Y v
 |[],_,_,_,_,h,_,_=>by simp at h
 |_::_,[],_,_,_,_,h,_=>by simp at h
 |p::P,w::a,0,m,c,h1,b,hk=>by simp at h1 b;subst h1;subst b;show gr kindOf ((p,w)::P.zip a) m p=_;unfold gr;rw[DF λv hv=>(zk.mp c).1 (Hy hv).1,iF hk];simp
 |p::P,w::a,i+1,m,c,h1,b,hk=>by show gr kindOf ((p,w)::P.zip a) m x=_;unfold gr;exact DG (i:=i) (zk.mp c).2 (by simpa using h1) (by simpa using b) hk
theorem DI{kindOf:aW->Option c7}{x:aW}{v:iC}: ∀{P:jr} {a:jN} {i:Nat} {m:nJ},P.Nodup->P[i]?=Y x->a[i]?=Y v->kindOf x≠Y .local->
  gu kindOf (P.zip a) m x=Y v
 |[],_,_,_,_,h,_,_=>by simp at h
 |_::_,[],_,_,_,_,h,_=>by simp at h
 |p::P,w::a,0,m,c,h1,b,hk=>by simp at h1 b;subst h1;subst b;show gu kindOf ((p,w)::P.zip a) m p=_;unfold gu;rw[DH λv hv=>(zk.mp c).1 (Hy hv).1,iL hk];simp
 |p::P,w::a,i+1,m,c,h1,b,hk=>by show gu kindOf ((p,w)::P.zip a) m x=_;unfold gu;exact DI (i:=i) (zk.mp c).2 (by simpa using h1) (by simpa using b) hk
noncomputable def qL(N:jr)(a:List V):St:=a.map Y++ah (Ix N-Ix a) J
noncomputable def GI(d:CXT)(P:iU)(w:iK)(K:iM)(g:nJ)(base:iO)(N:jr)(qual:aW)(scope:km)(f:hV)(b:iC)(A:iP)(a:List eO)(s:il)(T:Hp)(E:XK):Cx where
 prog:=P
 w:=w
 K:=K
 mg:=g
 base:=base
 A:=A.deeper<|cW qual scope s.heap.objs.size f b
 N:=N
 s₀:=s
 H₀:=T
 env:=cW qual scope s.heap.objs.size f b
 outer:=a
 stack:=cW qual scope s.heap.objs.size f b::a
 ex:=[]
 calm:=U
 fn:=λ_=>U
 pn:=[]
 xe:=λe j=>ae (ag P w) (A.deeper<|cW qual scope s.heap.objs.size f b) (leaving (cW qual scope s.heap.objs.size f b) e) (λ_ c=>d a T s E e c) (λi c=>d a T s E i c) j
def GN{a:km}{n:Nat}{x:aW}(h:a.names.lookup x=Y .cell): ∃c,(bm n a.names []).lookup x=Y c:=by have q:=El a.names n []<|.inl h;exact Mb.mp q
def LD{T:CXT}{P:iU}{w:iK}{K:iM}{O:nJ}{base:iO}{N m:jr}{qual:aW}{scope:km}{f:hV}{C:iC}{A:iP}{d:List eO}{s s1:il}{H:Hp}{E:XK}{Q:jN}{o:List V}
  (S:FnScope N m scope)(hd:A.handled=F2)(j:Env0 P w K O base A d s H)(Y:(Ix o)=Ix m)(r:Vals o Q)
  (x:InCallC s s.heap.objs.size (gr (cW qual scope s.heap.objs.size f C).kindOf (m.zip Q) λ_=>F2) (bm (s.heap.objs.size+1) scope.names []) (gu (cW qual scope s.heap.objs.size f C).kindOf (m.zip Q) λ_=>F2) s1):
  Inv (GI T P w K O base N qual scope f C A d s H E) [] (qL N o) H s1:=by
 have D:(Ix m)<=(Ix N):=by have:=nM c9 S.pre;rw[rp] at this;lia
 obtain⟨h1,F,rfl,hk⟩:=x.done;have L: ∀b:hV,b∉(GI T P w K O base N qual scope f C A d s H E).ex:=λb z=>absurd (show b∈([]:List hV) from z) (by simp)
 refine⟨⟨j.mod,S.kind,rfl,rfl,jQ _,λy z c h1 g=>?_,λy l=>?_,λy c _ h=>?_,λ_=>hd,Around.frames_deeper j.frames,.inr ⟨rfl,rfl⟩,λb z=>absurd z<|L b,j.bs,j.bsz,λb _ _=>L b,λb z=>absurd z<|L b,j.funs,j.frf⟩,
  rfl,j.bare,Un.kept hk,⟨_,x.toInCall.ns,λi y v h1 g U=>?_⟩,λy c h=>⟨_,x.cell y c h⟩,j.hok.fresh<|jQ _,λy c h=>?_,λp t=>absurd (show p∈([]:List (hV×en)) from t)<|by simp,j.hok.kept hk,?_⟩
 .exact z7 x.apart (uC h1) (uC g)
 .have l:scope.names.lookup y=FM .cell\/scope.names.lookup y=FM .free:=l;rcases l with l|l
  .exact GN l
  .exact absurd H8 (S.nofree _ (uC l))
 .exact zj (x.above y c<|uC h)
 .have I:i<(Ix o):=by
   unfold qL at g;by_cases I:i<Ix o
   .exact I
   .rw[rn<|by simpa using I] at g;rw[dr] at g;split at g<;>cases g
  have J:o[i]?=FM v:=by
   unfold qL at g;rw[wd<|by simpa using I,mv] at g
   cases e:o[i]? with
   |none=>rw[e] at g;cases g
   |some a=>rw[e] at g;cases g;rfl
  obtain⟨u,G,M⟩:=r.get J
  have t:m[i]?=FM y:=by rw[<-S.pre,MR<|by lia];exact h1
  have B:m.Nodup:=by rw[<-S.pre];exact S.nd.sublist<|ze _ _
  refine⟨u,M,?_⟩;rcases S.par y (nK t) with k|k
  .exact .inl ⟨k,DG B t G k⟩
  .obtain⟨c,e⟩:=GN (n:=s.heap.objs.size+1) k;refine .inr ⟨.inl k,c,e,?_⟩;have q:=x.cell y c e;rw[DI B t G (by show scope.names.lookup y≠_;rw[k];decide)] at q;exact q
 .exact j.hok.fresh (zj<|x.above y c<|uC h)
 .unfold qL;show _=Ix N;rw[nG,jz,List.length_replicate]
  lia
def Yb{C:CXT}{P:iU}{w:iK}{K:iM}{L:nJ}{base:iO}{k:Nat}{f:hV}{j qual:aW}{c:fy}{d:List b7}{scope:km}{dV kV z pm l ct oc:iC}{an od:Option hV}
  {aT:zR}{N O:jr}{Y:Sp}(lk:K.lookup f=FM ⟨oc,od,.func<|ca j qual c d scope dV kV z pm an l ct,aT⟩)(w6:dB K l qual=Gc)(S:FnScope N O scope)
  (len: ∀g H Q E,Y g H Q E->Ix g=Ix O)
  (w9: ∀(A:iP) (a:List eO) (s:il) (H:Hp) (g:List V) (Q:VK) (E:XK),Room k (A.deeper<|cW qual scope s.heap.objs.size f l)->Y g H Q E->
   ∃t,PSs (GI C P w K L base N qual scope f l A a s H E) d t/\t {nx:=λ_ i=>Q .non i,rt:=Q} (qL N g) H):
  FnOk P w K L base C (k+1) f (ca j qual c d scope dV kV z pm an l ct) O Y:=by
 refine⟨len,λA a s H F us g Q E T B hb r R=>?_⟩;have hl:=len _ _ _ _ R;have D:K.In s.heap:=B.mod.kin.keeps λb o e=>(B.bs b o e).1;have G:s.heap.NoLimit:=B.mod.nolimit.keeps λb o e=>(B.bs b o e).1
 have m: ∀y∈O.zip us,scope.names.lookup y.1=FM .local\/(scope.names.lookup y.1=FM .cell/\((bm (s.heap.objs.size+1) scope.names []).lookup y.1).isSome=Gc):=λ⟨n,v⟩ hy=>by
  rcases S.par n (Hy hy).1 with q|q
  .exact .inl q
  .exact .inr ⟨q,El _ _ _ (.inl q)⟩
 refine codeAny_call_function T.depth (D _ _ lk) H8 S.co S.gen H8 (PySem.W.codeRec_of D w6)<|hb _ _ _ _ ?_;refine wpAny_newFunctionEnv_cells S.kind m λX he s1 x=>?_;subst he;refine⟨G.keeps x.toInCall.keep,codeAny_func ?_⟩;obtain⟨t,ht,hq⟩:=w9 A a s H g Q E (T.deeper _) R;have I:Inv (GI C P w K L base N qual scope f l A a s H E) [] (qL N g) H s1:=LD S T.hd B hl r x;refine pU (ht [] s1 (qL N g) H _ I hq) (λZ U p=>?_) λe U p=>p
 have fin: ∀{h:St} {i:Hp} {v:V} {u:iC},Inv (GI C P w K L base N qual scope f l A a s H E) [] h i U->RelV v u->Q v i->CE a P w H s Q u U:=
  λ{h i v u} J M q=>⟨v,i,J.os,J.bare,J.base,J.hok,M,q⟩
 cases Z with
 |ret u=>obtain⟨v,h,i,J,M,q⟩:=p;exact fin J M q
 |next=>obtain⟨h,i,J,q⟩:=p;exact fin (v:=V.non) (u:=am) J H8 q
 |brk=>obtain⟨_,_,_,q⟩:=p;exact cc q
 |cont=>obtain⟨_,_,_,q⟩:=p;exact cc q
section
variable {X:Cx}{x:aW}{p a:bC}{e:iA}{b:kn}{t:TA}{id T:String}{r:List V->Hp->VK->Prop}
def tCB(r:List V->Hp->VK->Prop)(t:TA):TE:=λf O Q=>t f O λd c=>r d c Q
def Bk(j:kQ X (.builtin id) r)(l:Gl X x)(m:X.mg x=J)(hv:aH x=Y (.builtin id))(i:PA X (e::b) t)(n:x≠"__name__":=by decide)(q:(x==("__debug__":aW))=C:=by decide)
  (k:ac (e::b) X.env=(C,aM e X.env)::ac b X.env:=by rfl)(o:(aJ a<|ac b X.env).any (·.1)=C:=by rfl):PE X (.Call (.Name x p) (e::b) [] a) (tCB r t):=by
 intro c s d O Q N h;refine zf<|qV N l m hv ?_ n q;exact ts (thn (i a c s d O _ N h) λw s1 M=>by obtain⟨y,f,g,v,u⟩:=M;exact j c s1 d f y w Q g v u) k o
def rJ(j:kQ X (.type T) r)(l:Gl X x)(m:X.mg x=J)(hv:aH x=Y (.type T))(i:PA X (e::b) t)(n:x≠"__name__":=by decide)(q:(x==("__debug__":aW))=C:=by decide)
  (k:ac (e::b) X.env=(C,aM e X.env)::ac b X.env:=by rfl)(o:(aJ a<|ac b X.env).any (·.1)=C:=by rfl):PE X (.Call (.Name x p) (e::b) [] a) (tCB r t):=by
 intro c s d O Q N h;refine zf<|qV N l m hv ?_ n q;exact AU (thn (i a c s d O _ N h) λw s1 M=>by obtain⟨y,f,g,v,u⟩:=M;exact j c s1 d f y w Q g v u) k o
end
end L2
namespace HT
open PySem PyProof.Rows
section
open PySem.SeqAt
open PySem.AutoSeq1 (wpAny_loadPart')
open PySem.MeetsSeq PySem.MeetsSeq2 PySem.MeetsSeq3
end
section
variable {a:iU}{w:iK}{A:iP}{E:jf}{s:il}
def Yn{t b:hV}{d c:jN}{Q:jf}(y:gz s.heap t d.toArray)(x:gz s.heap b c.toArray)(hv:d≠[])
  (h1:c=[]->Q (.ref t) s)(v:c≠[]->Q (.ref s.heap.objs.size) {s with heap:=s.heap.push {cls:= .type "tuple",data:= .seq (d++c).toArray}})
  (l:(Ix d)+Ix c<=sizeLine):ae (ag a w) A (bv .Add (.ref t)<|.ref b) Q E s:=by
 obtain⟨⟨k,dd,f,q⟩,h,m,n,hd⟩:=id y;obtain⟨⟨z,u,data2,r⟩,j,p,o,g⟩:=id x;simp only at m hd p g;subst m hd p g;have e:d.toArray++c.toArray=(d++c).toArray:=by simp
 by_cases i:c=[]
 .exact Ek ⟨_,h,rfl⟩ ⟨_,j,rfl⟩ Hx Hw Hv Hu (Ht _ _)
   (tuple_addW1 t b d.toArray c.toArray n o dd u q r (by simpa using hv)<|by simp[i]) ⟨h,j,h1 i⟩
 .refine Ek ⟨_,h,rfl⟩ ⟨_,j,rfl⟩ Hx Hw Hv Hu (Ht _ _)
   (tuple_addW2 t b d.toArray c.toArray n o dd u q r (by simpa using hv) (by simpa using i)<|by rw[jw,jw];exact l) ⟨h,j,?_⟩
  rw[e];exact v i
noncomputable def sIx(n d:Nat):Option Int->Nat
 |none=>d
 |some v=>if v<0 then(v+(n:Int)).toNat else min v.toNat n
theorem UO(n d:Nat):sIx n d J=d:=rfl
def WD(n d k:Nat):sIx n d (Y (k:Int))=min k n:=by show(if(k:Int)<0 then((k:Int)+(n:Int)).toNat else min (k:Int).toNat n)=min k n;rw[iL<|by lia,uv]
def UP(n d:Nat)(hd:d<=n)(o:Option Int):sIx n d o<=n:=by
 cases o with
 |none=>exact hd
 |some v=>
  show(if v<0 then(v+(n:Int)).toNat else min v.toNat n)<=n;by_cases hv:v<0
  .rw[iF hv];lia
  .rw[iL hv];exact Nat.min_le_right _ _
def Ko(v:Int)(n d:Nat):(if v<0 then max (v+(n:Int)) 0 else min v (n:Int))=((sIx n d (Y v):Nat):Int):=by
 show(if v<0 then max (v+(n:Int)) 0 else min v (n:Int))=(((if v<0 then(v+(n:Int)).toNat else min v.toNat n):Nat):Int)
 by_cases hv:v<0
 .simp only[iF hv];lia
 .simp only[iL hv];lia
def Jo(lo b:Option Int)(n:Nat):bf lo b 1 (n:Int)=(((sIx n 0 lo:Nat):Int),((sIx n n b:Nat):Int)):=by
 have h1: ¬((1:Int)<0):=by lia
 unfold bf;simp only[h1,kb];refine Prod.ext ?_ ?_
 .cases lo with
  |none=>rfl
  |some v=>exact Ko v n 0
 .cases b with
  |none=>rfl
  |some v=>exact Ko v n n
def Ia(i j:Nat):aS (i:Int) (j:Int) 1=j-i:=by
 unfold aS;have h1:(1:Int)>0:=by lia
 simp only[h1,kr,sa];split<;>lia
def A8{v:iC}{o:Option Int}{Q:Option Int->il->Prop}(p:dG v o)(h:Q o s):ae (ag a w) A (p7 v) Q E s:=by
 cases p with
 |none=>exact Ej h
 |int i t=>exact y8 h
def rG{g:hV}{d e:iC}{lo b:Option Int}{n:Nat}{Q:Int×Int×Nat->il->Prop}(i:s.heap.IsSliceOf g d e .none)(j:dG d lo)(k:dG e b)
  (h:Q (((sIx n 0 lo:Nat):Int),1,sIx n n b-sIx n 0 lo) s):ae (ag a w) A (bT (.ref g)<|pure (n:Int)) Q E s:=by
 obtain⟨os,f,l,c⟩:=id i;unfold bT eu;refine hU<|hU<|oh f c (x:=d) I<|hU<|oh f c (x:=e) I<|hU<|oh f c (x:= .none) I<|iq ?_;refine hU<|Ej ?_;show ae _ _ (if((1:Int)==0)=U then _ else _) _ _ s;rw[iL<|by decide];refine hU<|A8 j<|hU<|A8 k<|hU<|iq ?_;show ae _ _ (match bf lo b 1 (n:Int) with|(lo,b)=>pure (lo,(1:Int),aS lo b 1)) _ _ s;rw[Jo lo b n];show ae _ _ (pure (((sIx n 0 lo:Nat):Int),(1:Int),aS ((sIx n 0 lo:Nat):Int) ((sIx n n b:Nat):Int) 1)) _ _ s;rw[Ia];exact iq h
def N5(b:nI)(i k:Nat):((aj k).filterMap λ(m:Nat)=>b[((i:Int)+(m:Int)*1).toNat]?).toArray=((b.toList.drop i).take k).toArray:=by
 have e:(λ(m:Nat)=>b[((i:Int)+(m:Int)*1).toNat]?)=λm=>b[i+m]?:=by
  funext m;have:((i:Int)+(m:Int)*1).toNat=i+m:=by lia
  rw[this]
 rw[e];have:=pick_run b i k;rw[gE] at this;have c:((λx=>b[x]?)∘λx=>i+x)=λm=>b[i+m]?:=rfl;rw[c] at this;rw[this]
def IH{t f:hV}{b:nI}{i j:iC}{lo c:Option Int}{Q:jf}(d:gz s.heap t b)(g:s.heap.IsSliceOf f i j .none)(r:dG i lo)(u:dG j c)
  (p: ¬(sIx b.size 0 lo=0/\sIx b.size b.size c=b.size))
  (h:Q (.ref s.heap.objs.size) {s with heap:=s.heap.push {cls:= .type "tuple",data:= .seq ((b.toList.drop<|sIx b.size 0 lo).take<|sIx b.size b.size c-sIx b.size 0 lo).toArray}})
  (o:b.size<=sizeLine):ae (ag a w) A (c0 (.ref t)<|.ref f) Q E s:=by
 have e:sizeOk (.seq ((b.toList.drop<|sIx b.size 0 lo).take<|sIx b.size b.size c-sIx b.size 0 lo).toArray):=by show((b.toList.drop<|sIx b.size 0 lo).take<|sIx b.size b.size c-sIx b.size 0 lo).toArray.size<=sizeLine;rw[jw,rp,AS,kG];omega
 have y:sIx b.size b.size c<=b.size:=UP _ _ (jQ _) c;obtain⟨os,v,l,x⟩:=id g;have n:s.TypeIs (.ref f) "slice":=⟨os,v,l⟩
 unfold c0
 try with_reducible refine lZ ?_
 first|refine hU (iq ?_)|skip
 refine hU<|Hs d.typeIs (by decide) ?_
 refine hU (ur (name:=ba "__getitem__") d.typeIs xK
  (oM xK d.typeIs Hr ?_<|Hq _ _))
 show ae _ _ (bR (.ref t)>>=_) _ _ s;refine hU<|Ho d ?_;refine hU<|tR n ?_;rw[iF<|by decide];refine hU<|rG g r u ?_
 have k: ¬((((sIx b.size 0 lo:Nat):Int)==0&&(1:Int)==1&&(sIx b.size b.size c-sIx b.size 0 lo)==b.size)=U):=by intro q;rw[kJ,kJ] at q;have z:((sIx b.size 0 lo:Nat):Int)=0:=wc q.1.1;have B:sIx b.size b.size c-sIx b.size 0 lo=b.size:=wc q.2;exact p ⟨by omega,by omega⟩
 show ae _ _ (if(((sIx b.size 0 lo:Nat):Int)==0&&(1:Int)==1&&(sIx b.size b.size c-sIx b.size 0 lo)==b.size)=U then _ else _) _ _ s;rw[iL k,N5]
 first
  |exact hU (m:=aF _)<|mT (iq ⟨_,rfl,iq h⟩) e
  |exact hU (m:=aF _)<|mT (hU<|iq<|iq ⟨_,rfl,iq h⟩) e
  |exact hU<|hU (m:=aF _)<|mT (iq<|iq ⟨_,rfl,iq h⟩) e
  |exact hU<|hU (m:=aF _)<|mT (iq ⟨_,rfl,iq h⟩) e
end
end HT
namespace L2
open PySem PySem.Spec PyProof.Rows
abbrev TO:=St->Hp->(Option Int->Hp->Prop)->Prop
def PO(X:Cx)(e:Option Expr)(t:TO):Prop:=
 ∀(a:ji) (s:il) (b:St) (T:Hp) (Q:Option Int->Hp->Prop),Inv X a b T s->t b T Q->
  ae (ag X.prog X.w) X.A (evalPart e X.env) (λu d=> ∃o c,Inv X a b c d/\dG u o/\Q o c) X.xe s
noncomputable def Q3:TO:=λ_ T Q=>Q J T
def WY(t:TE):TO:=λb T Q=>t b T λx a=> ∃i,x= .int i/\Q (Y i) a
section
variable {X:Cx}{e:iA}{d:TE}{lo c:Option Expr}{f g:TO}{k j:bC}
def JK:PO X J Q3:=by intro a s b T Q O h;rw[Hn];exact iq ⟨J,T,O,.none,h⟩
def JJ(h:PE X e d):PO X (Y e) (WY d):=by intro a s p T Q O m;rw[wL];refine thn (h a s p T _ O m) λu s1 N=>?_;obtain⟨x,b,l,o,n⟩:=N;obtain⟨i,rfl,q⟩:=n;obtain⟨t,rfl⟩:=o;exact⟨Y i,b,l,.int i t,q⟩
def SlR(X:Cx)(r:V->Option Int->Option Int->Hp->VK->Prop):Prop:=
 ∀(a:ji) (s:il) (l:St) (O:Hp) (x:V) (v h i:iC) (lo c:Option Int) (b:hV) (Q:VK),Inv X a l O s->RelV x v->s.heap.IsSliceOf b h i .none->dG h lo->dG i c->r x lo c O Q->
  ∃T id,fM (.type T) "__getitem__"=pure (Y<|.builtin id)/\s.TypeIs v T/\ae (ag X.prog X.w) X.A (c0 v<|.ref b) (EP X a l Q) X.xe s
def tSl(r:V->Option Int->Option Int->Hp->VK->Prop)(d:TE)(f g:TO):TE:=λa T Q=>d a T λx b=>f a b λl h=>g a h λu i=>r x l u i Q
def F1{r:V->Option Int->Option Int->Hp->VK->Prop}(M:SlR X r)(O:PE X e d)(J:PO X lo f)(U:PO X c g):PE X (.Subscript e (.Slice lo c F2 j) k) (tSl r d f g):=by intro a s m H Q I h;refine n3<|thn (O a s m H _ I h) λv s1 a'=>?_;obtain⟨x,t,z,r1,q1⟩:=a';refine Ch<|thn (J a s1 m t _ z q1) λn s2 ⟨l,y,B,Y',q2⟩=>thn (U a s2 m y _ B q2) λo i a'=>?_;obtain⟨u,p,C',pu,q3⟩:=a';rw[Hn];refine iq ?_;have E:Inv X a m p {i with heap:=i.heap.push {cls:= .type "slice",data:= .fields #[n,o,.none]}}:=C'.kept (t':=i.toks) λb D q=>jS _ q;obtain⟨T,id,L,N,G⟩:=M a {i with heap:=i.heap.push {cls:= .type "slice",data:= .fields #[n,o,.none]}} m p x v n o l u i.heap.objs.size Q E r1 (Heap.IsSliceOf.new ..) Y' pu q3;show ae (ag X.prog X.w) X.A (eT e (.Slice lo c F2 j) v<|.ref i.heap.objs.size) (EP X a m Q) X.xe {i with heap:=i.heap.push {cls:= .type "slice",data:= .fields #[n,o,.none]}};exact tail_any (ops:=[.ref i.heap.objs.size,v]) N L G (by with_unfolding_all rfl)
noncomputable def GJ(a:List V)(lo c:Option Int):List V:=(a.drop<|HT.sIx (Ix a) 0 lo).take<|HT.sIx (Ix a) (Ix a) c-HT.sIx (Ix a) 0 lo
def Ah(a:List V)(lo c:Option Int):(GJ a lo c).length<=(Ix a):=by
 unfold GJ;rw[rp,AS]
 lia
def Zx(K:iM):V->Option Int->Option Int->Hp->VK->Prop:=λx lo c T Q=> ∃a b,x= .ref a/\SqT K T a b/\
 ¬(HT.sIx (Ix b) 0 lo=0/\HT.sIx (Ix b) (Ix b) c=Ix b)/\ ∀p,T p=J->Q (.ref p) (upd T p<|.tup<|GJ b lo c)
def UL:SlR X (Zx X.K):=by
 intro t s T N x v L O lo c E Q M B u z A h;obtain⟨a,l,rfl,y,w,q⟩:=h;cases B;obtain⟨m,r,n,p⟩:=M.tuple y;have i:m.toArray.size=(Ix l):=by rw[jw];exact r.length.symm
 refine⟨"tuple",_,xK.lookup,n.typeIs,?_⟩;refine HT.IH n u z A (by rw[i];exact w) ?_ (by rw[i];exact p);rw[i];refine⟨.ref s.heap.objs.size,_,M.laid (t':=s.toks) (o:= .tup (GJ l lo c)) (λb G q=>jS _ q) (jQ _) ?_,rfl,q _ (M.hok.fresh<|jQ _)⟩;exact⟨ly (Ah l lo c) p,_,(r.drop<|HT.sIx (Ix l) 0 lo).take<|HT.sIx (Ix l) (Ix l) c-HT.sIx (Ix l) 0 lo,AR _ _⟩
def Xj(K:iM):R2:=λx y T Q=> ∃a b i h,x= .ref a/\y= .ref b/\SqT K T a i/\SqT K T b h/\i≠[]/\(Ix i)+Ix h<=sizeLine/\
 (h=[]->Q (.ref a) T)/\(h≠[]-> ∀p,T p=J->Q (.ref p) (upd T p<|.tup<|i++h))
def Vals.nil_iff{b:List V}{a:jN}(r:Vals b a):a=[]↔b=[]:=by
 cases r with
 |nil=>simp
 |cons _ _=>simp
def Sf:OpR X (bv .Add) (Xj X.K):=by intro n s N H x y v u Q I L O h;obtain⟨a,b,T,G,rfl,rfl,p,r,t,m,C,E⟩:=h;cases L;cases O;obtain⟨A,l,B,_⟩:=I.tuple p;obtain⟨J,i,j,_⟩:=I.tuple r;refine HT.Yn B j (λz=>t<|l.nil_iff.mp z) (λz=>⟨.ref a,H,I,rfl,C<|i.nil_iff.mp z⟩) (λz=>?_) (by rw[<-l.length,<-i.length];exact m);refine⟨.ref s.heap.objs.size,_,I.laid (t':=s.toks) (o:= .tup (T++G)) (λb M q=>jS _ q) (jQ _) ?_,rfl,E (λw=>z<|i.nil_iff.mpr w) _ (I.hok.fresh<|jQ _)⟩;exact⟨by rw[nG];exact m,_,l.append i,AR _ _⟩
end
noncomputable def ixN(n:Nat)(i:Int):Option Nat:=if 0<=i then(if i<n then Y i.toNat else J) else if -(n:Int)<=i then Y (i+n).toNat else J
noncomputable def atI{b:Type}(a:List b)(i:Int):Option b:=(ixN (Ix a) i).bind λj=>a[j]?
def EZ{n:Nat}{i:Int}{j:Nat}(h:ixN n i=Y j):pp i n=Y j/\j<n/\ -(n:Int)<=i/\i<n:=by
 unfold ixN at h;by_cases a:0<=i
 .rw[iF a] at h;by_cases h1:i<n
  .rw[iF h1] at h;have e:i.toNat=j:=kP h;exact⟨by rw[Hm a h1,e],by lia,by lia,h1⟩
  .rw[iL h1] at h;cases h
 .rw[iL a] at h;by_cases h1: -(n:Int)<=i
  .rw[iF h1] at h;have e:(i+n).toNat=j:=kP h;exact⟨by rw[Hl (by lia) h1,e],by lia,h1,by lia⟩
  .rw[iL h1] at h;cases h
def Kw{b:Type}{a:List b}{i:Int}{v:b}(h:atI a i=Y v): ∃j,pp i (Ix a)=Y j/\a[j]?=Y v/\j<Ix a/\ -((Ix a):Int)<=i/\i<(Ix a):=by
 unfold atI at h
 cases e:ixN (Ix a) i with
 |none=>rw[e] at h;cases h
 |some j=>rw[e] at h;obtain⟨h1,c,d,f⟩:=EZ e;exact⟨j,h1,h,c,d,f⟩
def yJ(b:iA):Prop:= ∀o i,kl b C o i=operate [o,i] (c0 o i)
def IxR(X:Cx)(r:R2):Prop:=
 ∀(b slice:iA) (a:ji) (s:il) (c:St) (T:Hp) (x y:V) (v u:iC) (Q:VK),Inv X a c T s->RelV x v->RelV y u->r x y T Q->
  kl slice C v u=operate [v,u] (c0 v u)->ae (ag X.prog X.w) X.A (eT b slice v u) (EP X a c Q) X.xe s
def MtR(X:Cx)(id:String)(r:V->List V->Hp->VK->Prop):Prop:=
 ∀(a:ji) (s:il) (d:St) (T:Hp) (x:V) (c:List V) (v:iC) (b:jN) (Q:VK),Inv X a d T s->RelV x v->Vals c b->r x c T Q->
  ae (ag X.prog X.w) X.A (call (.builtin id) (v::b)) (EP X a d Q) X.xe s
section
variable {X:Cx}{a b:iA}{O L:TE}{E:bC}
def Uc{r:R2}(i:IxR X r)(f:PE X a O)(g:PE X b L)(j:yJ b):PE X (.Subscript a b E) (tOp r O L):=by intro c s n T Q N h;exact n3<|Wv f g N h λv u m x y d e k l q=>i a b c m n d x y v u Q e k l q<|j _ _
def ZD(K:iM):R2:=λx y T Q=> ∃p c i v,x= .ref p/\y= .int i/\SqL K T p c/\atI c i=Y v/\Q v T
def ZC(K:iM):R2:=λx y T Q=> ∃p c i v,x= .ref p/\y= .int i/\SqT K T p c/\atI c i=Y v/\Q v T
def SQ:IxR X (ZD X.K):=by
 intro g slice c s n H x y v u Q I J M h m;obtain⟨p,P,i,z,rfl,rfl,G,C,q⟩:=h;cases J;obtain⟨t,rfl⟩:=M;obtain⟨e,r,f,F⟩:=I.list G;obtain⟨j,h1,o,Y,A,B⟩:=Kw C;obtain⟨w,k,U⟩:=r.get o;have T:=r.length;have D:=EX;have fin:EP X c n Q w s:=⟨z,H,I,U,q⟩
 by_cases l:0<=i
 .have d:i.toNat=j:=by rw[Hm l B] at h1;exact kP h1
  exact item_listR f.isList l (by lia) (by rw[d];simpa using k) fin m
 .have d:(i+(e.toArray.size:Int)).toNat=j:=by rw[Hl (by lia) A] at h1;rw[jw,<-T];exact kP h1
  exact MQ (x:=w) f.isList.typeIs n9.lookup
   (wpAny_getItem_list_neg (Q:=λr N=>r=w/\EP X c n Q r N) f.isList (by lia) (by rw[jw]<;>lia) (by lia) (by rw[d];simpa using k) ⟨rfl,fin⟩) m
def V4:IxR X (ZC X.K):=by
 intro d slice c s f H x y v u Q I B C h o;obtain⟨p,D,i,z,rfl,rfl,n,l,q⟩:=h;cases B;obtain⟨t,rfl⟩:=C;obtain⟨A,r,e,Y⟩:=I.tuple n;obtain⟨j,h1,k,J,M,N⟩:=Kw l;obtain⟨w,g,G⟩:=r.get k;have m:=r.length;have U:=EX;have fin:EP X c f Q w s:=⟨z,H,I,G,q⟩
 exact MQ (x:=w) e.typeIs xK.lookup
  (getItem_tuple (j:=j) (Q:=λr T=>r=w/\EP X c f Q r T) e (by lia) (by lia) (by rw[jw,<-m];exact h1) (by simpa using g) ⟨rfl,fin⟩) o
def Iw(c:jN)(n j:Nat)(u:iC):aE (·.setIfInBounds j u) {cls:= .type "list",data:= .seq c.toArray n}={cls:= .type "list",data:= .seq (c.set j u).toArray n}:=by simp[aE]
def Inv.lst{d:ji}{f:St}{T:Hp}{s:il}{p:hV}{xs:List V}(Q:Inv X d f T s)(h:T p=Y (.lst xs)):
  ∃(c:jN) (n:Nat),Vals xs c/\s.heap.get? p=Y {cls:= .type "list",data:= .seq c.toArray n}/\(Ix xs)<=sizeLine:=by
 obtain⟨z,c,n,r,e⟩:=Q.hok p _ h;exact⟨c,n,r,e,z⟩
def Inv.lstUpd{d:ji}{l:St}{T:Hp}{s:il}{p:hV}{w j:List V}{g c:jN}{n i:Nat}{f:en->en}(Q:Inv X d l T s)(h:T p=Y (.lst w))
  (o:s.heap.get? p=Y {cls:= .type "list",data:= .seq g.toArray n})(k:f {cls:= .type "list",data:= .seq g.toArray n}={cls:= .type "list",data:= .seq c.toArray i})(r:Vals j c)(v:(Ix j)<=sizeLine)(t:Nat):
  Inv X d l (upd T p<|.lst j) {s with heap:=s.heap.update p f,toks:=t}:=by
 have e:(s.heap.update p f).get? p=Y {cls:= .type "list",data:= .seq c.toArray i}:=by rw[wa f o<|by rw[k]<;>rfl,k]
 refine Q.write (x:=p) (e:=p) (by rw[h];trivial) (.inl I) (λb u m q=>(zd _ _ (rA m)).trans q) ⟨_,e⟩ ?_;exact⟨v,c,i,r,e⟩
def Xg:V->V->V->Hp->(Hp->Prop)->Prop:=λo i v T Q=> ∃p c k j,o= .ref p/\i= .int k/\T p=Y (.lst c)/\ixN (Ix c) k=Y j/\Q (upd T p<|.lst<|c.set j v)
def Nr:WB X Xg:=by
 intro d s G H o i v U N u Q I B A C h;obtain⟨p,T,k,j,rfl,rfl,x,y,q⟩:=h;cases B;obtain⟨t,rfl⟩:=A;obtain⟨c,n,r,f,z⟩:=I.lst x;obtain⟨h1,J,m,w⟩:=EZ y;have e:=r.length;have M:=EX
 have g:Inv X d G (upd H p<|.lst<|T.set j v) {s with heap:=s.heap.update p (aE (·.setIfInBounds j u))}:=
  I.lstUpd x f (Iw c n j u) (r.set C j) (by rw[sD];exact z) s.toks
 by_cases l:0<=k
 .have hk:k.toNat=j:=by rw[Hm l w] at h1;exact kP h1
  exact PySem.W.ki_setAt f l (by lia) (by rw[jw,<-e];exact w) (by rw[hk];exact⟨_,g,q⟩)
 .have hk:(k+(c.toArray.size:Int)).toNat=j:=by rw[Hl (by lia) m] at h1;rw[jw,<-e];exact kP h1
  exact PySem.W.ki_setBack f (by lia) (by rw[jw,<-e];exact m) (by lia) (by rw[hk];exact⟨_,g,q⟩)
def Ez(lo c:Option Int)(n:Nat):(c4 lo c J n).1=((HT.sIx n 0 lo:Nat):Int)/\(c4 lo c J n).2.1=((HT.sIx n n c:Nat):Int)/\(c4 lo c J n).2.2=1:=by
 refine⟨?_,?_,rfl⟩
 .cases lo with
  |none=>simp[c4,HT.sIx]
  |some i=>
   simp only[c4,HT.sIx,gC,show(1:Int)>0 by decide,kr];by_cases h:i<0
   .simp only[h,kr]<;>lia
   .simp only[h,kb]<;>lia
 .cases c with
  |none=>simp[c4,HT.sIx]
  |some i=>
   simp only[c4,HT.sIx,gC,show(1:Int)>0 by decide,kr];by_cases h:i<0
   .simp only[h,kr]<;>lia
   .simp only[h,kb]<;>lia
def Cn(c:jN)(lo d:Option Int):slicePick c.toArray lo d J=((c.drop<|HT.sIx (Ix c) 0 lo).take<|HT.sIx (Ix c) (Ix c) d-HT.sIx (Ix c) 0 lo).toArray:=by obtain⟨h1,e,f⟩:=Ez lo d c.toArray.size;unfold slicePick;rw[h1,e,f];simp only[sliceRange_one,pick_run,jw]<;>rfl
def Zy(K:iM):V->Option Int->Option Int->Hp->VK->Prop:=λx lo d T Q=> ∃a c,x= .ref a/\SqL K T a c/\ ∀p,T p=J->Q (.ref p) (upd T p<|.lst<|GJ c lo d)
def Q7:SlR X (Zy X.K):=by intro g s z T x v w y lo e u Q N p i m n h;obtain⟨a,c,rfl,j,q⟩:=h;cases p;obtain⟨l,r,f,k⟩:=N.list j;have d:=r.length;refine⟨"list",_,n9.lookup,f.isList.typeIs,?_⟩;refine wpAny_getItem_list_slice f.isList i m n .none (by simp) ?_ (by rw[jw]<;>lia);rw[Cn,<-d];refine⟨.ref s.heap.objs.size,_,N.laid (t':=s.toks) (o:= .lst (GJ c lo e)) (λb t q=>jS _ q) (jQ _) ?_,rfl,q _ (N.hok.fresh<|jQ _)⟩;exact⟨ly (Ah c lo e) k,_,0,(r.drop<|HT.sIx c.length 0 lo).take<|HT.sIx c.length c.length e-HT.sIx c.length 0 lo,kh _ rfl⟩
noncomputable def Um:V->Bool
 | .non=>U
 | .bl _=>U
 | .int _=>U
 | .str _=>U
 |_=>C
noncomputable def eqV:V->V->Bool
 | .non,.non=>U
 | .bl a,.bl b=>a==b
 | .bl a,.int b=>(if a then 1 else 0)==b
 | .int a,.bl b=>a==(if b then 1 else 0)
 | .int a,.int b=>a==b
 | .str a,.str b=>a==b
 |_,_=>C
def ng{A:iP}{s:il}{y x:V}{u v:iC}(f:RelV y u)(c:RelV x v)(g:Um y=U)(e:Um x=U):SeqAt.EqAt A s u v (eqV y x):=by
 cases y with
 |non=>
  cases f
  cases x with
  |non=>cases c;exact fK _
  |bl b=>cases c;exact xx b
  |int b=>obtain⟨t,rfl⟩:=c;exact xn b t
  |str b=>obtain⟨t,rfl⟩:=c;exact xf b t
  |_=>exact absurd (show C=U from e) kF
 |bl a=>
  cases f
  cases x with
  |non=>cases c;exact y4 a
  |bl b=>cases c;exact y7 a b
  |int b=>obtain⟨t,rfl⟩:=c;exact y6 a b t
  |str b=>obtain⟨t,rfl⟩:=c;exact y3 a b t
  |_=>exact absurd (show C=U from e) kF
 |int a=>
  obtain⟨d,rfl⟩:=f
  cases x with
  |non=>cases c;exact xz a d
  |bl b=>cases c;exact x8 a d b
  |int b=>obtain⟨t,rfl⟩:=c;exact x0 a d b t
  |str b=>obtain⟨t,rfl⟩:=c;exact fF a d b t
  |_=>exact absurd (show C=U from e) kF
 |str a=>
  obtain⟨d,rfl⟩:=f
  cases x with
  |non=>cases c;exact w5 a d
  |bl b=>cases c;exact xc a d b
  |int b=>obtain⟨t,rfl⟩:=c;exact fD a d b t
  |str b=>obtain⟨t,rfl⟩:=c;exact wT a d b t
  |_=>exact absurd (show C=U from e) kF
 |_=>exact absurd (show C=U from g) kF
def yC:kQ X (.builtin "len") (λk T Q=> ∃p d,k=[.ref p]/\(SqL X.K T p d\/SqT X.K T p d)/\Q (.int d.length) T):=by
 intro j s t T k o Q N r h;obtain⟨p,d,rfl,e,q⟩:=h;obtain⟨u,rfl,m⟩:=qu r;cases m;have n:=EX;rcases e with e|e
 .obtain⟨f,i,g,l⟩:=N.list e;have c:=i.length;exact Calls.call_len_list g.isList (by simp only[jw]<;>lia) ⟨.int d.length,T,N.tok _,⟨s.toks+1,by rw[jw,c]⟩,q⟩
 .obtain⟨f,i,g,l⟩:=N.tuple e;have c:=i.length;exact len_tuple g (by simp only[jw]<;>lia) ⟨.int d.length,T,N.tok _,⟨s.toks+1,by rw[jw,c]⟩,q⟩
def yB:kQ X (.type "list") (λB N Q=> ∃p i,B=[.ref p]/\(SqL X.K N p i\/SqT X.K N p i)/\ ∀l,N l=J->Q (.ref l) (upd N l<|.lst i)):=by
 intro v s T N B G Q M r h;obtain⟨p,i,rfl,k,q⟩:=h;obtain⟨u,rfl,C⟩:=qu r;cases C
 have fin: ∀(c:jN),Vals i c->i.length<=sizeLine-> ∀(d:iO) (f:Nat),(∀b A,s.heap.get? b=Y A->d.get? b=Y A)->
   d.get? s.heap.objs.size=Y {cls:= .type "list",dict:=J,data:= .seq c.toArray f,slots:= #[]}->EP X v T Q (.ref s.heap.objs.size) {s with heap:=d}:=λc g m d f t e=>
  ⟨.ref s.heap.objs.size,_,M.laid (t':=s.toks) t (jQ _) (show ObjOk X.prog X.w _ d _ (.lst i) from⟨m,c,f,g,e⟩),rfl,q _ (M.hok.fresh<|jQ _)⟩
 rcases k with k|k
 .obtain⟨c,g,z,m⟩:=M.list k;have j:=g.length;obtain⟨o,y,x,n,hd⟩:=z.isList;exact wS p (.inl I) y x hd (λd f t e=>fin c g m d f t e) (by simp only[jw]<;>omega)
 .obtain⟨c,g,z,m⟩:=M.tuple k;have j:=g.length;obtain⟨o,y,x,n,hd⟩:=z;exact wS p (.inr I) y x hd (λd f t e=>fin c g m d f t e) (by simp only[jw]<;>omega)
def wz:kQ X (.type "tuple") (λv T Q=> ∃p f,v=[.ref p]/\((SqL X.K T p f/\ ∀l,T l=J->Q (.ref l) (upd T l<|.tup f))\/(SqT X.K T p f/\Q (.ref p) T))):=by
 intro c s x T v B Q N r h;obtain⟨p,f,rfl,h⟩:=h;obtain⟨u,rfl,A⟩:=qu r;cases A;rcases h with⟨i,q⟩|⟨i,q⟩
 .obtain⟨d,k,j,t⟩:=N.list i;have n:=k.length;refine call_tuple_list j.isList (λg z=>?_) (by simp only[jw]<;>lia);have m:Inv X c x T {s with heap:=g}:=N.kept (t':=s.toks) z
  have y:Inv X c x (upd T g.objs.size<|.tup f) {s with heap:=g.push {cls:= .type "tuple",data:= .seq d.toArray}}:=
   m.laid (t':=s.toks) (λb o e=>jS _ e) (jQ _) (show ObjOk X.prog X.w _ _ _ (.tup f) from⟨t,d,k,AR _ _⟩)
  exact⟨.ref g.objs.size,_,y,rfl,q _ (m.hok.fresh<|jQ _)⟩
 .obtain⟨d,k,j,t⟩:=N.tuple i;exact call_tuple_same j ⟨.ref p,T,N,rfl,q⟩
def tyV(K:iM)(T:String)(x:V)(Q:Hp):Prop:=match x with
 | .str _=>T="str"
 | .int _=>T="int"
 | .ref p=>(T="list"/\ ∃d,SqL K Q p d)\/(T="tuple"/\ ∃o,K.lookup p=Y o/\o.cls= .type "tuple"/\o.dict=J)\/
   (T="dict"/\((∃c,Q p=Y (.dK c))\/ ∃c,Q p=Y (.dT c)))\/(T="set"/\ ∃S n,Q p=Y (.set S n))
 |_=>False
def UB{d:ji}{q:St}{Q:Hp}{s:il}{T:String}{x:V}{v:iC}(N:Inv X d q Q s)(r:RelV x v)(ty:tyV X.K T x Q):
  s.TypeIs v T/\ ∀a,v= .ref a-> ∃h,s.heap.get? a=Y h/\h.dict=J:=by
 cases x with
 |str z=>obtain⟨t,rfl⟩:=r;cases(show T="str" from ty);exact⟨typeIs_str s z t,λ_ e=>nomatch e⟩
 |int i=>obtain⟨t,rfl⟩:=r;cases(show T="int" from ty);exact⟨typeIs_int s i t,λ_ e=>nomatch e⟩
 |ref p=>
  cases r;rcases ty with⟨rfl,u,l⟩|⟨rfl,o,hk,k,hd⟩|⟨rfl,hk⟩|⟨rfl,S,n,hk⟩
  .obtain⟨m,_,j,_⟩:=N.list l;refine⟨j.isList.typeIs,λa e=>?_⟩;cases e;obtain⟨o,n,e,c,hd,_⟩:=j;exact⟨o,e,hd⟩
  .refine⟨⟨o,N.kIn p o hk,k⟩,λa e=>?_⟩;cases e;exact⟨o,N.kIn _ o hk,hd⟩
  .have z: ∃o,s.heap.get? p=Y o/\o.ExactDict:=by
    rcases hk with⟨g,hk⟩|⟨g,hk⟩
    .obtain⟨_,_,_,_,o,_,_,e,ex,_⟩:=N.hok p _ hk;exact⟨o,e,ex⟩
    .obtain⟨_,_,_,_,o,_,_,e,ex,_⟩:=N.hok p _ hk;exact⟨o,e,ex⟩
   obtain⟨o,e,ex⟩:=z;refine⟨⟨o,e,ex.1⟩,λa f=>?_⟩;cases f;exact⟨o,e,ex.2.1⟩
  .obtain⟨o,_,_,_,e,ex,_⟩:=N.hok p _ hk;refine⟨⟨o,e,ex.1⟩,λa f=>?_⟩;cases f;exact⟨o,e,ex.2.1⟩
 |_=>exact cc ty
def tBM(K:iM)(T:String)(r:V->List V->Hp->VK->Prop)(M:TE)(t:TA):TE:=λd N Q=>M d N λx c=>tyV K T x c/\t d c λf e=>r x f e Q
variable {o e:iA}{g:kn}{C:TE}{t:TA}{d:aW}{m B:bC}{T id:String}{r:V->List V->Hp->VK->Prop}
def Oj(U:PlainAttrs T)(slot:Slot T d id)(f:u3 (.builtin id)=pure (.type "method_descriptor"))(z:MtR X id r)(A:PE X o C)(y:PA X (e::g) t)
  (M:cy o d X.env (aM o X.env)=aM o X.env:=by rfl)
  (N:((aJ B<|ac (e::g) X.env).all (λx=>!x.1)&&(ck B<|bq [] X.env).all (λx=>x.1.isSome)
   &&decide ((e::g).length+([]:List cf).length+(if([]:List cf).isEmpty then 0 else 1)<30))=Gc:=by rfl)
  (J:(m.endLine==B.line)=Gc:=by rfl)(G:ac (e::g) X.env=(Go,aM e X.env)::ac g X.env:=by rfl)(u:(aJ B<|ac g X.env).any (·.1)=Go:=by rfl):
  PE X (.Call (.Attribute o d m) (e::g) [] B) (tBM X.K T r C t):=by
 intro c s i H Q I h;refine wpAny_Call_method_late M N J H8<|thn (A c s i H _ I h) λv s1 a'=>?_;obtain⟨x,n,j,l,ty,Y'⟩:=a';obtain⟨h1,w⟩:=UB j l ty;refine⟨T,id,U,slot,f,h1,w,?_⟩;have k:=y B c s1 i n _ j Y';rw[G] at k ⊢;refine Calls.callWith_builtin (by show(Go||(aJ B<|ac g X.env).any (·.1))=Go;rw[u]<;>rfl)<|Calls.evalArgs_plain ?_;exact thn k λus s2 ⟨vs,p,q,r2,q2⟩=>z c s2 i p x vs v us Q q l r2 q2
end
def MtM(X:Cx)(id:String)(r:V->List V->Hp->VK->Prop):Prop:=
 ∀(a:ji) (s:il) (d:St) (T:Hp) (x:V) (c:List V) (v:iC) (b:jN) (Q:VK),Inv X a d T s->RelV x v->Vals c b->r x c T Q->
  ae (ag X.prog X.w) X.A (call (.builtin id) (v::b)) (EP X a d Q) X.xe s
def Vals.one{x:V}{a:jN}:Vals [x] a-> ∃u,a=[u]/\RelV x u:=qu
theorem Vals.eraseIdx: ∀{b:List V} {a:jN} (i:Nat),Vals b a->Vals (b.eraseIdx i) (a.eraseIdx i)
 |_,_,_,.nil=> .nil
 |_,_,0,.cons _ t=>t
 |_,_,i+1,.cons r t=> .cons r (Vals.eraseIdx i t)
def Vals.reverse{b:List V}{a:jN}(h:Vals b a):Vals b.reverse a.reverse:=by
 induction h with
 |nil=>exact .nil
 |cons r t c=>rw[AQ,AQ];exact Vals.append c<|.cons r .nil
theorem Di{a:Type}: ∀(l:List a) (i:Nat),(l.eraseIdx i).length<=Ix l
 |[],_=>jQ _
 |_::_,0=>zc _
 |_::r,i+1=>Nat.succ_le_succ<|Di r i
section
variable {X:Cx}{a:ji}{c:St}{H:Hp}{s:il}{l b:hV}{xs d g:List V}
def Inv.lset{h its':jN}{n:Nat}{f:Array iC->Array iC}{p:Nat}(T:Inv X a c H s)(i:H l=Y (.lst xs))
  (e:s.heap.get? l=Y {cls:= .type "list",data:= .seq h.toArray n})(k:f h.toArray=its'.toArray)(hv:Vals d its')(o:(Ix d)<=sizeLine):
  Inv X a c (upd H l<|.lst d) {s with heap:=s.heap.update l<|aE f,toks:=p}:=by
 have q:=PySem.IsL.update e f;rw[k] at q;refine T.write (x:=l) (e:=l) (by rw[i];exact trivial) (.inl I) (λr u j m=>(zd s.heap (aE f)<|rA j).trans m) ⟨_,q⟩ ?_;exact⟨o,its',_,hv,q⟩
def Inv.lnew{e:jN}{t':Nat}(T:Inv X a c H s)(hv:Vals d e)(f:(Ix d)<=sizeLine):
  Inv X a c (upd H s.heap.objs.size<|.lst d) {s with heap:=s.heap.push {cls:= .type "list",data:= .seq e.toArray},toks:=t'}:=
 T.laid (λ_ _ q=>jS _ q) (jQ _) ⟨f,e,0,hv,kh _ rfl⟩
def Inv.fresh(T:Inv X a c H s):H s.heap.objs.size=J:=T.hok.fresh<|jQ _
def Inv.lstM(T:Inv X a c H s)(h:H l=Y (.lst xs)):xs.length<=sizeLine/\ ∃(f:jN) (n:Nat),Vals xs f/\xs.length=f.length/\s.heap.get? l=Y {cls:= .type "list",data:= .seq f.toArray n}:=by obtain⟨z,f,n,r,e⟩:=T.hok l _ h;exact⟨z,f,n,r,r.length,e⟩
def OF{n:Nat}(h:n<=sizeLine):cO n=C:=by unfold cO;exact mB (by lia)
end
section
variable {X:Cx}
def Rm:V->List V->Hp->VK->Prop:=λx b T Q=> ∃l a y,x= .ref l/\b=[y]/\T l=Y (.lst a)/\(Ix a)<sizeLine/\Q .non (upd T l<|.lst<|a++[y])
def Lv:MtM X "list.append" Rm:=by
 intro c s p T x m v k Q O g f h;obtain⟨l,o,y,rfl,rfl,b,j,q⟩:=h;cases g;obtain⟨u,rfl,d⟩:=f.one;obtain⟨z,a,n,r,i,e⟩:=O.lstM b;refine AO F.slot_list_append ⟨_,e,rfl⟩ MP (MO _ _) (gl l a.toArray n u<|by rw[jw];lia) ⟨e,?_⟩;refine⟨.non,_,O.lset (its':=a++[u]) b e (by simp) (r.append<|.cons d .nil) ?_,rfl,q⟩;rw[nG,zb]
 lia
def Rl:V->List V->Hp->VK->Prop:=λx d T Q=> ∃l b a c,x= .ref l/\d=[.ref b]/\T l=Y (.lst a)/\T b=Y (.lst c)/\(Ix a)+Ix c<=sizeLine/\Q .non (upd T l<|.lst<|a++c)
def Lu:MtM X "list.extend" Rl:=by
 intro i s G N x E v C Q M w t h;obtain⟨l,b,L,T,rfl,rfl,g,k,B,q⟩:=h;cases w;obtain⟨u,rfl,p⟩:=t.one;cases p;obtain⟨z,a,n,r,A,e⟩:=M.lstM g;obtain⟨O,d,m,o,y,j⟩:=M.lstM k;have f:a.toArray.size+d.toArray.size<=sizeLine:=by rw[jw,jw];lia
 have c: ¬(!a.toArray.isEmpty&&cO (a.toArray.size+d.toArray.size))=U:=by rw[OF f,za];exact kF
 refine AO F.slot_list_extend ⟨_,e,rfl⟩ F.entry_list_extend (F.args_list_extend_2 _ _)
  (Fa l a.toArray n b d.toArray m c (by rw[jw];lia)<|by lia) ⟨e,j,?_⟩
 refine⟨.non,_,M.lset (its':=a++d) g e (by simp) (r.append o) ?_,rfl,q⟩;rw[nG]
 lia
def U3:V->List V->Hp->VK->Prop:=λx b T Q=> ∃l a i k y,x= .ref l/\b=[.int i]/\T l=Y (.lst a)/\ -(2^63)<=i/\i<2^63/\pp i (Ix a)=Y k/\a[k]?=Y y/\Q y (upd T l<|.lst<|a.eraseIdx k)
def OI:MtM X "list.pop" U3:=by
 intro c s L T x E v N Q O p o h;obtain⟨l,A,i,k,y,rfl,rfl,b,h1,d,hk,j,q⟩:=h;cases p;obtain⟨u,rfl,m⟩:=o.one;obtain⟨t,rfl⟩:=m;obtain⟨z,a,n,r,f,e⟩:=O.lstM b;obtain⟨w,g,B⟩:=r.get j
 refine AO F.slot_list_pop ⟨_,e,rfl⟩ F.entry_list_pop (F.args_list_pop_2 _ _)
  (MeetsSeq.list_pop_at l a.toArray n i t k w (fitsIndex_both h1 d) (by rw[jw,<-f];exact hk) (by rw[<-nk];exact g)<|by rw[jw];lia) ⟨e,?_⟩
 refine⟨y,_,O.lset (its':=a.eraseIdx k) b e ?_ (r.eraseIdx k) ?_,B,q⟩
 .show a.toArray.eraseIdxIfInBounds k=(a.eraseIdx k).toArray;rw[List.eraseIdxIfInBounds_toArray]
 .have:=Di A k
  lia
end
section
variable {a:iU}{w:iK}{A:iP}{E:jf}{s:il}
end
section
variable {X:Cx}
end
end L2
namespace Att
open PySem PySem.W PySem.Calls PyProof.Rows
def Ao{P:v7}{h:iO}: ∀(c:iu) (d:jN),WellAll P h d (c.map WData.int)->d0 d c:=by
 intro c
 induction c with
 |nil=>intro d w;rw[nj] at w;cases w;exact .nil
 |cons n c e=>
  intro d w;rw[jx] at w
  cases w with
  |cons a b=>
   cases a;exact .cons _ _ (e _ b)
def KS{l:OpenLaw}{n:Nat}(v:l.most=Y n){P:v7}{h:iO}{b:List WData}{e:jN}
  (j:l.row.toRowW.claim.pre b=U)(s:WellAll P h e b):
  ∃a m c,e=[bb a]/\b=[WData.list<|c.map WData.int]/\h.get? a=Y {cls:= .type "list",data:= .seq m.toArray}/\d0 m c/\(Ix c)<=n:=by
 have p:WShape.hasAll [] b [.list .int]=U:=(pre_splitW j).1;have k:l.pre.holds [] {args:=b}=U:=(pre_splitW j).2;obtain⟨d,r,rfl,h1,t⟩:=hasAllW_cons p;obtain rfl:=hasAllW_nil t;obtain⟨A,rfl,u⟩:=hasW_list h1;obtain⟨c,rfl⟩:=items_int u
 have f:(Ix c)<=n:=by
  unfold OpenLaw.pre at k
  have g:(WTm.not<|.lt (.lit<|.int (n:Int))<|.len<|.arg 0).holds [] {args:=[.list<|c.map .int]}=U:=by have g:=(holds_andW k).1;rw[v] at g;exact g
  have i:=condW_of g<|w_not<|w_lt w_lit<|w_len_list<|w_arg I;rw[jz] at i;refine l7 λq=>?_;have x:(n:Int)<(((Ix c):Nat):Int):=by omega
  first
   |(rw[oK x] at i;exact absurd i<|by decide)
   |(simp at i;omega)
 cases s with
 |cons y z=>
  cases z
  cases y with
  |list w o=>exact⟨_,_,c,rfl,rfl,w,Ao c _ o,f⟩
def Ld(l:OpenLaw)(a:List WData):l.row.toRowW.claim.post a (.bool U) a=U:=
 postW_of (r:=l.row.toRowW) (X:=U==U)
  (show WShape.has [] (.bool U) .bool=U by first|rfl|decide|simp[WShape.has,WShape.arms,WShape.armsAll])
  (show(WTm.eq .res<|.lit<|.bool U).value [] {args:=a,res:=Y<|.bool U,after:=a}=Y (.bool<|U==U) from w_eq_bool (w_res I) w_lit) rfl
def Tu{l:OpenLaw}{n:Nat}{q:iU}{c:jr}{y:(aW->Option iC)->iO->Prop}{z:iK->iO->Prop}{d:DefRec}
  (hn:l.most=FM n)(O:d.params.defaults=[])
  (call: ∀(w:iK) (e b:il) (p v:nJ) (j:hV) (o:en) (x m g:iC) (a:hV) (i:jN) (s:iu),
   Ground q c [] y w e p v b.heap->z w b.heap->
   b.heap.get? j=FM o->o.data= .func (docDef d.name d.params d.body d.scope x m g)->b.heap.CodeRec m d.name->p d.name=FM (.ref j)->
   b.heap.get? a=FM {cls:= .type "list",data:= .seq i.toArray}->d0 i s->Ix s<=n->b.gens= #[]->
   cG (ag l.prog w) eD (.call (.ref j) ⟨[.ref a],[]⟩) (λr t=>r= .ok (.ret<|.bool Gc)/\OldK b.heap t.heap/\t.os=b.os/\ee t.gens) b):
  WalkO q c y z l.row.toRowW d [] (λf i=>gf f i):=by
 intro w e b p v G Y j o x m g L kV F hd R B u N A E S H C P Q U;obtain rfl:L= .none:=Dflts.none B O;obtain rfl:kV= .none:=Dflts.noKw B;obtain⟨a,i,s,rfl,rfl,I,h,k⟩:=KS hn H Q;refine enter_call<|we (call w e b p v j o x m g a i s G Y F (fd_plain hd) R u I h k N) λr t K=>?_;obtain⟨rfl,T,J,M⟩:=K;exact⟨.inl ⟨.bool Gc,.bool Gc,[],rfl,λ_=>rfl,.bool Gc,Ld l _,λ_=>⟨ci,λ_ D=>(nomatch D)⟩⟩,T,J,M⟩
section
variable {a:iU}{w:iK}{A:iP}{E:jf}{s:il}{K:Frag}
end
end Att
namespace L2
open PySem PySem.Spec PyProof.Rows
def KD{b:jN}{a:iu}(h:d0 b a):Vals (a.map V.int) b:=by
 induction h with
 |nil=>exact .nil
 |cons n t h c=>exact .cons ⟨t,rfl⟩ c
def WC(T:Hp):Prop:= ∀b,T b=J\/ ∃o a,T b=Y (.frz o<|.lst a)
def Pc{P:iU}{w:iK}{K:iM}{O Y:nJ}{CX:CXT}{k:Nat}{N a:hV}{fd:oI}{x:aW}{sp:Sp}{c:il}{p:jN}{Q:iu}
  (KX:K.In c.heap)(bQ:c.heap.Ns ao O)(g:c.heap.Ns nz Y)(U: ∀x:aW,x≠"__name__"->Y x=aH x)(C:c.heap.NoLimit)(hg:c.gens= #[])
  (J:c.heap.get? a=FM {cls:= .type "list",data:= .seq p.toArray})(hi:d0 p Q)(hl:Q.length<=sizeLine)(hr:Room k eD)
  (F: ∀base:iO,K.In base->base.Ns ao O->FnOk P w K O base CX k N fd [x] sp)(l: ∀(s:il) (u:iC),fo s fd ⟨[u],[]⟩ [(x,u)])
  (bP: ∀H:Hp,WC H->SqL K H a (Q.map V.int)->sp [.ref a] H (λv _=>v= .bl Gc) λ_ _ _=>False)
  (gH: ∀H e i,CX [] H c (λ_ _ _=>False) e i->False):
  cG (ag P w) eD (.call (.ref N) ⟨[.ref a],[]⟩) (λr i=>r= .ok (.ret<|.bool Gc)/\OldK c.heap i.heap/\i.os=c.os/\ee i.gens) c:=by
 have W:=KD hi;have L:=hi.length
 have j: ∀H:Hp,WC H->SqL K H a (Q.map V.int)->HOk P w H c.heap->(∀b,H b≠F2->b=a)->(H a≠F2->K.lookup a=F2)->
   cG (ag P w) eD (.call (.ref N) ⟨[.ref a],[]⟩) (λr i=>r= .ok (.ret<|.bool Gc)/\OldK c.heap i.heap/\i.os=c.os/\ee i.gens) c:=by
  intro H S hS E R hK;have f: ∀{b:hV} {o:en},c.heap.get? b=FM o->H b=F2->(E6 c.heap H).get? b=FM o:=λe n=>PF e n
  have Z: ∀{b:hV} {o:en} {A:Array eG} {y:Nat},c.heap.get? b=FM o->o.data= .dict A y->H b=F2:=λ{b o A y} e d=>by
   cases q:H b with
   |none=>rfl
   |some u=>have M:b=a:=R b (by rw[q];simp);subst M;rw[J] at e;cases e;have X:mm p.toArray _=Data.dict A y:=d;cases X
  have G: ∀{b:hV} {m:nJ},c.heap.Ns b m->(E6 c.heap H).Ns b m:=λ{b m} ⟨o,A,y,e,d,r⟩=>⟨o,A,y,f e<|Z e d,d,r⟩
  have B:K.In (E6 c.heap H):=λb o e=>f (KX b o e) (by
   cases q:H b with
   |none=>rfl
   |some u=>have M:b=a:=R b (by rw[q];simp);subst M;rw[hK<|by rw[q];simp] at e;cases e)
  have hM:Mod K O (E6 c.heap H):=⟨B,G bQ,⟨Y,G g,U⟩,let⟨mc,h1,h2⟩:=C;⟨mc,G h1,h2⟩⟩
  have e0:Env0 P w K O (E6 c.heap H) eD [] c H:=⟨rfl,hM,λb o e=>So e,re<|LH _ _,trivial,λb g=>absurd (show b∈([]:List hV) from g)<|by simp,E,.of_eq hg⟩
  refine we ((F _ B (G bQ)).run eD [] c H ⟨[.ref a],[]⟩ [.ref a] [.ref a] _ _ hr e0 (l c<|.ref a) (.cons H8 .nil) (bP H S hS)) λr i h=>?_
  cases r with
  |error e=>exact(gH H e i h).elim
  |ok fl=>
   cases fl with
   |next=>exact cc h
   |brk=>exact cc h
   |cont=>exact cc h
   |ret u=>
    obtain⟨v,H',os,t,un,I,r',q⟩:=h;have q':v= .bl Gc:=q;subst q';obtain rfl:u=c6 Gc:=r';refine⟨rfl,OldK.of_keep λb o e=>?_,os,t⟩
    cases q:H b with
    |none=>exact un.keep b o e q (by intro z;exact absurd (show b∈([]:List hV) from z)<|by simp) (by simp)
    |some u=>
     rcases S b with z|⟨ob,xs,z⟩
     .rw[q] at z;cases z
     .have z2:=un.frzs b ob _ z;obtain⟨D,_⟩:=E b _ z;obtain⟨e2,_⟩:=I b _ z2;rw[e] at D;cases D;exact e2
 cases hk:K.lookup a with
 |some o=>have e:=KX a o hk;rw[J] at e;cases e;refine j (λ_=>F2) (λ_=> .inl rfl) (.inr ⟨_,p.toArray,_,hk,rfl,rfl,rfl,by rw[jw,L];exact hl,by simpa using W⟩) (λb u z=>by have T:(F2:Option HO)=FM u:=z;cases T) (λb z=>absurd H8 z) λz=>absurd H8 z
 |none=>
  refine j (λb=>if b=a then FM (.frz {cls:= .type "list",data:= .seq p.toArray}<|.lst<|Q.map V.int) else F2) (λb=>?_) (.inl<|.inr ⟨{cls:= .type "list",data:= .seq p.toArray},iF H8⟩) (λb u z=>?_) (λb z=>?_) λ_=>hk
  .by_cases g:b=a
   .exact .inr ⟨_,_,iF g⟩
   .exact .inl (iL g)
  .by_cases g:b=a
   .have T:=(iF g).symm.trans z;cases T;subst g;exact⟨J,by rw[jz];exact hl,p,_,W,J⟩
   .have T:=(iL g).symm.trans z;cases T
  .by_cases g:b=a
   .exact g
   .exact absurd (iL g) z
def WU{l:eM}{n k:Nat}{q:iU}{j:jr}{L:(aW->Option iC)->iO->Prop}{C:iK->iO->Prop}{d:DefRec}{K:v7->iM}{CX:iK->CXT}{sp:iK->Sp}{x:aW}
  (hn:l.most=FM n)(N:n<=sizeLine)(M:d.params.defaults=[])(hr:Room k eD)
  (hY: ∀(w:iK) (h:iO),C w h->(K w.params).In h)
  (F: ∀(w:iK) (m:nJ) (r:hV) (h:iO),(K w.params).In h->h.Ns ao m->m d.name=FM (.ref r)->
   ∃y:oI,(∀(s:il) (u:iC),fo s y ⟨[u],[]⟩ [(x,u)])/\
    ∀base:iO,(K w.params).In base->base.Ns ao m->FnOk l.prog w (K w.params) m base (CX w) k r y [x] (sp w))
  (O: ∀(w:iK) (H:Hp) (a:hV) (t:iu),Ix t<=n->WC H->SqL (K w.params) H a (t.map V.int)->sp w [.ref a] H (λv _=>v= .bl Gc) λ_ _ _=>False)
  (U: ∀(w:iK) (H:Hp) (s:il) (e:iC) (A:il),CX w [] H s (λ_ _ _=>False) e A->False):
  i7 q j L C l.row.toRowW d [] (λf I'=>gf f I'):=by
 refine Att.Tu hn M λw E p m mb r o pm Z J a I' t G Y ho hd w6 z Q i c X=>?_;have B:=hY w _ Y;obtain⟨y,S,D⟩:=F w m r _ B G.T.g z;exact Pc B G.T.g G.T.b G.T.builtins G.T.nolimit X Q i (ly c N) hr D S (λH P R=>O w H a t c P R) λH e A=>U w H p e A
noncomputable def vM(s:b7):Arguments:=match s with
 | .FunctionDef _ a _ _ _ _ _ _ _ _=>a
 |_=>{posonlyargs:=[],args:=[],vararg:=J,kwonlyargs:=[],kw_defaults:=[],kwarg:=J,defaults:=[]}
noncomputable def pH(s:b7):List Stmt:=match s with
 | .FunctionDef _ _ b _ _ _ _ _ _ _=>b
 |_=>[]
noncomputable def ip(s:b7):Scope:=match s with
 | .FunctionDef _ _ _ _ _ _ a _ _ _=>a
 |_=>{kind:= .function,names:=[],isGenerator:=C,isCoroutine:=C}
abbrev CX0:CXT:=λ_ _ _ _ _ _=>False
abbrev E0:XK:=λ_ _ _=>False
def Xt{X:Cx}:Jq CX0 X E0:=λ_ _ _ _ _ _ _ h=>h.elim
structure Fun(K:iM)(x qual:aW)(st:b7)(f:hV)(fd:oI):Prop where
 ex: ∃(oc:iC) (od:Option hV) (kV doc pm:iC) (an:Option hV) (f6 ct:iC) (aT:zR),
  fd=ca x qual (vM st) (pH st) (ip st) .none kV doc pm an f6 ct/\K.lookup f=FM ⟨oc,od,.func fd,aT⟩/\dB K f6 qual=Gc
 kp:cu K (.ref f)=Gc
section
variable {P:iU}{w:iK}{K:iM}{a:nJ}{base:iO}
def Fun.ok{x qual:aW}{st:b7}{f:hV}{i:oI}{N e:jr}{k:Nat}{g:Sp}(F:Fun K x qual st f i)(S:FnScope N e (ip st))(len: ∀c T Q E,g c T Q E->Ix c=Ix e)
  (p: ∀(d:iC) (A:iP) (b:List eO) (s:il) (T:Hp) (c:List V) (Q:VK) (E:XK),Room k (A.deeper<|cW qual (ip st) s.heap.objs.size f d)->g c T Q E->
   ∃t,PSs (GI CX0 P w K a base N qual (ip st) f d A b s T E).nox (pH st) t/\t {nx:=λ_ j=>Q .non j,rt:=Q} (qL N c) T):FnOk P w K a base CX0 (k+1) f i e g:=by
 obtain⟨v,y,kV,m,z,u,d,ct,r,rfl,lk,o⟩:=F.ex;refine Yb lk o S len λA b s T c Q E n l=>?_;obtain⟨t,h,q⟩:=p d A b s T c Q E n l;exact⟨t,h.nox,q⟩
def Fun.binds{x qual:aW}{st:b7}{f:hV}{j:oI}{g:jr}(F:Fun K x qual st f j)
  (h: ∀(kV b e:iC) (c:Option hV) (d ct:iC) (i:jN),Ix i=Ix g->v6 (ca x qual (vM st) (pH st) (ip st) .none kV b e c d ct) ⟨i,[]⟩=pure (g.zip i)):Binds K j g []:=by
 obtain⟨l,m,kV,b,e,c,d,ct,k,rfl,lk,n⟩:=F.ex;exact .all<|h kV b e c d ct
def V9{x qual:aW}{st:b7}{f:hV}{i:iC}{j e:Option hV}{h:zR}{kV b g d ct:iC}(l:K.lookup f=Y ⟨i,j,.func<|ca x qual (vM st) (pH st) (ip st) .none kV b g e d ct,h⟩)
  (c:dB K d qual=U)(k:cu K (.ref f)=U):Fun K x qual st f (ca x qual (vM st) (pH st) (ip st) .none kV b g e d ct):=⟨⟨i,j,kV,b,g,e,d,ct,h,rfl,l,c⟩,k⟩
end
section
variable {X:Cx}
end
def XT{A B:Prop}(h:B):if C=U then A else B:=by rw[iL kF];exact h
def XR{A B:Prop}(h:A):if U=U then A else B:=by rw[iF I];exact h
theorem xG(b:eO): ∀(l:List (aW×c7)) (g:mq),(∀x∈l,x.2= .free-> ∃c,b.cells.lookup x.1=Y c)->(∀x c,g.lookup x=Y c->b.cells.lookup x=Y c)->
  ∃cl,(forIn l g λx r=>if x.2==aK then do let a <-vr b x.1;pure (bB ((x.1,a)::r)) else pure (bB r))=(pure cl:dF (List<|aW×hV))/\
   (∀x c,cl.lookup x=Y c->b.cells.lookup x=Y c)/\(∀x,(x,aK)∈l-> ∃c,cl.lookup x=Y c)/\ ∀x c,g.lookup x=Y c-> ∃c,cl.lookup x=Y c
 |[],g,_,m=>⟨g,rfl,m,λx h=>by simp at h,λx c h=>⟨c,h⟩⟩
 |(n,k)::l,g,h,m=>by
  by_cases hk:k= .free
  .subst hk;obtain⟨c,e⟩:=h (n,.free) jP I;have q:b.cells.lookup n=Y c:=e
   obtain⟨cl,h1,o,p,j⟩:=xG b l ((n,c)::g) (λx f=>h x<|jU _ f) (λx d f=>by
    rw[qr] at f
    cases i:x==n with
    |true=>rw[i] at f;have:=wc i;subst this;cases f;exact q
    |false=>rw[i] at f;exact m x d f)
   refine⟨cl,?_,o,λx f=>?_,λx d f=>?_⟩
   .rw[dJ];have:vr b n=pure c:=by unfold vr;rw[q]
    simp -iota only[this,r8,beq_self_eq_true,kr];exact h1
   .rcases ku.mp f with z|z
    .cases z;exact j n c (by simp[qr])
    .exact p x z
   .cases i:x==n with
    |true=>have:=wc i;subst this;exact j x c (by simp[qr])
    |false=>exact j x d (by rw[qr,i];exact f)
  .obtain⟨cl,h1,o,p,j⟩:=xG b l g (λx f=>h x<|jU _ f) m;have i:(k==aK)=C:=by simpa using hk
   refine⟨cl,?_,o,λx f=>?_,j⟩
   .rw[dJ];simp -iota only[i,jF,kb,r8];exact h1
   .rcases ku.mp f with z|z
    .cases z;exact absurd I hk
    .exact p x z
def xF(b:eO)(scope:km)(h: ∀x∈scope.names,x.2= .free-> ∃c,b.cells.lookup x.1=Y c):
  ∃cl,closureFor scope b=pure cl/\(∀x c,cl.lookup x=Y c->b.cells.lookup x=Y c)/\ ∀x,(x,aK)∈scope.names-> ∃c,cl.lookup x=Y c:=by
 obtain⟨cl,h1,d,e,_⟩:=xG b scope.names [] h (λx c f=>by simp at f);refine⟨cl,?_,d,e⟩;unfold closureFor;have:(forIn scope.names ([]:List (aW×hV)) λx r=>if x.2==aK then do let a <-vr b x.1;pure (bB ((x.1,a)::r)) else pure (bB r))=(pure cl:dF (List<|aW×hV)):=h1
 first
  |exact(nM (· >>=λr=>pure r) this).trans (r8 _ _)
  |(simp -iota only[bind_pure];exact this)
  |exact this
theorem nv: ∀(b:List (aW×c7)) (n:Nat) (a:mq),bm n b a=bm n b []++a
 |[],_,_=>rfl
 |(x,k)::r,n,a=>by
  unfold bm;split
  .rw[nv r (n+1) ((x,n)::a),nv r (n+1) [(x,n)],rm];rfl
  .exact nv r n a
theorem rd{x:aW}{c:hV}: ∀(a:List (aW×c7)) (n:Nat),(x,c)∈bm n a []->(x,cB)∈a
 |[],_,h=>by simp[bm] at h
 |(y,k)::r,n,h=>by
  unfold bm at h;split at h
  .rename_i hk;rw[nv] at h;rcases rY.mp h with z|z
   .exact jU _ (rd r _ z)
   .cases KA.mp z;rw[wc hk];exact jP
  .exact jU _ (rd r _ h)
structure BCls(cells:mq)(scope:km)(C:hV)(h:iO)(cl:mq):Prop where
 one: ∀x c,cl.lookup x=FM c->(cells.lookup x=FM c/\scope.names.lookup x≠FM .cell)\/(C<c/\scope.names.lookup x=FM .cell/\h.IsCell c F2)
 all: ∀x,(x,aK)∈scope.names\/(x,cB)∈scope.names-> ∃c,cl.lookup x=FM c
 inj: ∀x y c,C<c->cl.lookup x=FM c->cl.lookup y=FM c->(∀z d,cells.lookup z=FM d->d<C)->x=y
 ex: ∀x c,cl.lookup x=FM c->cells.lookup x=FM c\/C<c
def Sv{M:gw}{A:iP}{E:jf}{s:il}{scope:km}{globals:hV}{a:eO}{cl:mq}{qual:aW}{Q:eO->il->Prop}(v: ∀y∈scope.names,y.2= .cell->scope.names.lookup y.1=Y .cell)
  (m: ∀x c,cl.lookup x=Y c->a.cells.lookup x=Y c)(O: ∀x,(x,aK)∈scope.names-> ∃c,cl.lookup x=Y c)
  (B: ∀k r,k.Ns s.heap.objs.size (λ_=>J)->(∀b o,s.heap.get? b=Y o->k.get? b=Y o)->BCls a.cells scope s.heap.objs.size k r->
   Q {scope,locals:=s.heap.objs.size,globals,cells:=r,qual,func:=J,code:=a.code,frame:=a.frame,builtins:=a.builtins} {s with heap:=k}):
  ae M A (fO scope globals cl [] qual J .none<|Y a) Q E s:=by
 simp -iota only[fO,ga,kr];refine hU<|B4 ?_;refine hU<|wpAny_layCells _ (λu j i=>by cases n:j==cB<;>simp[n]) _ _ _ _ ?_;have ok:=cellsFrom_ok scope.names (s.heap.push {cls:= .type "dict",data:= .dict #[]}) (s.heap.objs.size+1) [] ⟨λ_ _ N=>(nomatch N),ci⟩ (by rw[rl];exact jQ _);rw[rl] at ok;rw[show({s with heap:=s.heap.push {cls:= .type "dict",data:= .dict #[]}}:il).heap.objs.size=s.heap.objs.size+1 from rl ..];simp -iota only[mL];have g: ∀x,(bm (s.heap.objs.size+1) scope.names cl).lookup x=((bm (s.heap.objs.size+1) scope.names []).lookup x).or (cl.lookup x):=λx=>by rw[nv,List.lookup_append]
 have f: ∀x c,(bm (s.heap.objs.size+1) scope.names cl).lookup x=Y c->(cl.lookup x=Y c/\(bm (s.heap.objs.size+1) scope.names []).lookup x=J)\/(x,c)∈bm (s.heap.objs.size+1) scope.names []:=λx c h=>by
  rw[g] at h
  cases p:(bm (s.heap.objs.size+1) scope.names []).lookup x with
  |none=>rw[p] at h;exact .inl ⟨h,rfl⟩
  |some d=>rw[p] at h;cases h;exact .inr<|uC p
 have lo: ∀{x:aW} {c:hV},(x,c)∈bm (s.heap.objs.size+1) scope.names []->s.heap.objs.size<c:=λ{x c} h=>(ok.empty x c h).2;refine hU<|iq<|iq<|B _ _ ((Heap.Ns.new s.heap<|.type "dict").keeps<|sn _ _) (λb o e=>sn _ _ b o (jS _ e)) ⟨λx c h=>?_,λx h=>?_,λx y c l h1 w t=>?_,λx c h=>?_⟩
 .rcases f x c h with⟨z,T⟩|z
  .refine .inl ⟨m x c z,λe=>?_⟩;have:=El scope.names (s.heap.objs.size+1) []<|.inl e;rw[T] at this;cases this
  .exact .inr ⟨lo z,v _ (rd _ _ z) rfl,(ok.empty x c z).1⟩
 .rcases h with h|h
  .obtain⟨c,l⟩:=O x h;rw[g,l];cases(bm (s.heap.objs.size+1) scope.names []).lookup x<;>exact⟨_,rfl⟩
  .have:=El scope.names (s.heap.objs.size+1) cl<|.inl<|v _ h rfl;exact Mb.mp this
 .rcases f x c h1 with⟨z,_⟩|z
  .exact absurd (t x c<|m x c z) (Hk l)
  .rcases f y c w with⟨q,_⟩|q
   .exact absurd (t y c<|m y c q) (Hk l)
   .exact z7 ok.apart z q
 .rcases f x c h with⟨z,_⟩|z
  .exact .inl (m x c z)
  .exact .inr (lo z)
noncomputable def Cx.comp(X:Cx)(d:jr)(scope:km)(cl:mq)(T:hV)(f:il)(c:Hp)(e:kH)(a:ji):Cx:=
 {X with N:=d,s₀:=f,H₀:=c,env:=compEnvC scope cl T X.env,outer:=X.stack,stack:=X.stack,ex:=e,fn:=λx=>scope.names.lookup x==Y .cell,pn:=X.pn++a,xe:=λ_ _=>False}
abbrev TB:=St->Hp->(St->Hp->Prop)->Prop
def PB(X:Cx)(code:dF Unit)(t:TB):Prop:=
 ∀(a:ji) (s:il) (d:St) (T:Hp) (N:St->Hp->Prop),Inv X a d T s->t d T N->
  ae (ag X.prog X.w) X.A code (λ_ e=> ∃b c,Inv X a b c e/\N b c) X.xe s
def PIf(X:Cx)(b:kn)(t:TT):Prop:=
 ∀(a:ji) (s:il) (d:St) (T:Hp) (Q:Bool->Hp->Prop),Inv X a d T s->t d T Q->
  ae (ag X.prog X.w) X.A (forIn b U λc r=>if r=U then do let ok <-isTrue c X.env (aM c X.env);pure (bB ok) else pure (bB r)) (TP X a d Q) X.xe s
noncomputable def WX:TT:=λ_ T Q=>Q U T
section
variable {X:Cx}
def RX:PIf X [] WX:=λa s b T Q O h=>wpAny_tests_nil ⟨T,O,h⟩
def RW{c:iA}{t:TT}(h:PT X c t):PIf X [c] t:=λa s d T Q O b=>wpAny_tests_one<|h a s d T Q O b
noncomputable def jA(e:iA)(depth:Nat)(acc:iC)(a:eO):dF Unit:=
 match(cd e)[depth+1]? with
 |some c=>do
  let x <-aM c.iter a
  cq c.iter.pos
  let x <-aw c.iter a x
  let _ <-runOwn (.compStart e (depth+1) (<-bo [x] (c8 x)) acc a) a
 |none=>match e with
  | .ListComp b _ _ _=>do let _ <-call (.builtin "list.append") [acc,<-aM b a]
  | .SetComp b _ _ _=>do let v <-aM b a;cq b.pos;let _ <-call (.builtin "set.add") [acc,v]
  |_=>ka "no"
def JA(Q:It)(g:TG)(n:TT)(l:TB):TB:=λd T N=> ∃W:Nat->Nat->St->Hp->Prop,(∃m,W 0 m d T)/\ ∀i m d T,W i m d T->
 (Q.stop i T/\N d T)\/(Q.go i T/\ ∀x f,Q.yld i T x f->g x d f λa j=>n a j λb h=>if b=U then l a h λe k=> ∃c,c<m/\W (i+1) c e k else ∃c,c<m/\W (i+1) c a h)
def Fl(e:iA)(depth:Nat)(k f:iC)(b:eO)(g:pP)(q:(∃d a i p,e= .ListComp d a i p)\/(∃d a i p,e= .SetComp d a i p))
  (j:(cd e)[depth]?=Y g)(o:g.is_async=0)(l: ∀h,(cd e)[depth+1]?=Y h->h.is_async=0):
  k0 e depth k f b=(do
   cq g.iter.pos
   match <-b6 k with
   |none=>pure<|.done .next
   |some v=>
    ef g.target k v
    bW g.target b v
    let ok <-forIn g.ifs U λc r=>if r=U then do let ok <-isTrue c b (aM c b);pure (bB ok) else pure (bB r)
    if ok=U then jA e depth f b
    again (.compLoop e depth k f b)):=by
 rcases q with⟨d,a,i,p,rfl⟩|⟨d,a,i,p,rfl⟩
 .have m:a[depth]?=Y g:=j;unfold k0 jA;simp only[clausesOf.eq_def] at j l ⊢;rw[m];simp only[o]
  cases n:a[depth+1]? with
  |none=>rfl
  |some h=>
   have:=l h n;simp only[this,vZ,jF,kb]
   congr 1;funext _;congr 1;funext r
   cases r with
   |none=>rfl
   |some v=>
    dsimp only
    congr 1;funext _;congr 1;funext _;congr 1;funext ok
    cases ok with
    |false=>rfl
    |true=>simp only[kr,sA];rfl
 .have m:a[depth]?=Y g:=j;unfold k0 jA;simp only[clausesOf.eq_def] at j l ⊢;rw[m];simp only[o]
  cases n:a[depth+1]? with
  |none=>rfl
  |some h=>
   have:=l h n;simp only[this,vZ,jF,kb]
   congr 1;funext _;congr 1;funext r
   cases r with
   |none=>rfl
   |some v=>
    dsimp only
    congr 1;funext _;congr 1;funext _;congr 1;funext ok
    cases ok with
    |false=>rfl
    |true=>simp only[kr,sA];rfl
def Qb 
  (d:(∃b a c p,e= .ListComp b a c p)\/(∃b a c p,e= .SetComp b a c p))
  (h:ae (ag prog w) A ((k0 e depth it acc env).onRaise (λx=>do pw x env;theTreesLotGoes x)) Q E s):
  ae (ag prog w) (A.under<|.compLoop e depth it acc env) ((ag prog w).den<|.compLoop e depth it acc env) Q E s:=by
 rcases d with⟨b,a,c,p,rfl⟩|⟨b,a,c,p,rfl⟩
 .exact h
 .exact h
def JX{e:iA}{depth:Nat}{acc:iC}{c:pP}{g:TG}{ti:TT}{tb:TB}{J:It}{y:kH}{it:hV}{tn:Nat->iO->Prop}(cp:X.xe=λ_ _=>False)(hc:X.calm=Gc)
  (hl:(∃B k sc p,e= .ListComp B k sc p)\/(∃B k sc p,e= .SetComp B k sc p))(hg:(cd e)[depth]?=Y c)(ha:c.is_async=0)(l4: ∀g',(cd e)[depth+1]?=Y g'->g'.is_async=0)
  (T:Turn X.prog X.w X.K c.target J y it tn)(pg:PG X c.target g)(bu:PIf X c.ifs ti)(pb:PB X (jA e depth acc X.env) tb)
  {a:ji}{s:il}{σ:St}{H:Hp}{N:St->Hp->Prop}(I:Inv X a σ H s)(f2: ∀b∈y,vh X a H b)(st:tn 0 s.heap)(h:JA J g ti tb σ H N):
  cG (ag X.prog X.w) X.A (.compLoop e depth (.ref it) acc X.env) (λr s'=>r= .ok .next/\ ∃f j,Inv X a f j s'/\(∀b∈y,j b=F2)/\N f j) s:=by
 obtain⟨W,⟨m0,w0⟩,G⟩:=h;have P: ∀{j:Hp},(∀b∈y,j b=F2)-> ∀b∈y,vh X a j b:=λhn b v=>⟨hn b v,(f2 b v).2⟩
 have D: ∀{Z:Type} {t:dF Z} {Q:Z->il->Prop} {E:jf} {s:il},ae (ag X.prog X.w) X.A t Q X.xe s->ae (ag X.prog X.w) X.A t Q E s:=λh=>pU h (λ_ _ x=>x) λ_ _ z=>by rw[cp] at z;exact z.elim
 refine codeAny_loop H8 (λn s'=> ∃i f j,Inv X a f j s'/\tn i s'.heap/\(∀b∈y,j b=F2)/\W i n f j) (λn V hI=>?_) m0 ⟨0,σ,H,I,st,λb v=>(f2 b v).1,w0⟩;refine Qb hl ?_;refine wpAny_noted ?_;rw[Fl e depth (.ref it) acc X.env c hl hg ha l4];obtain⟨i,l,U,R,S,F,w3⟩:=hI;refine hU<|wR ?_;rcases G i n l U w3 with⟨stop,qn⟩|⟨go,step⟩
 .refine hU (thn (T.done X H8 H8 H8 hc i a V l U _ R (P F) S stop) λr s4 a'=>?_);obtain⟨hr,I4⟩:=a';subst hr;exact iq ⟨rfl,l,U,I4,F,qn⟩
 .refine hU (thn (T.item X H8 H8 H8 hc i a V l U _ R (P F) S go) λr s4 a'=>?_);obtain⟨u,hr,h4⟩:=a';subst hr;refine hU<|thn h4 λ_ s5 a'=>?_;obtain⟨x,H5,I5,r5,y5,bX,gL⟩:=a';have gY:=I5.pinned (P gL)<|T.obj _ _ bX;refine hU<|thn (D<|pg _ s5 l H5 x u _ gY r5 (step x H5 y5)) λ_ s6 a'=>?_;obtain⟨M,H6,I6,q6⟩:=a';refine hU<|thn (D<|bu _ s6 M H6 _ I6 q6) λok s7 a'=>?_;obtain⟨H7,I7,q7⟩:=a'
  have again: ∀{O:il} {q:St} {C':Hp},Inv X (a++Bi y s5.heap) q C' O->(∃Y',Y'<n/\W (i+1) Y' q C')-> ∃m,m<n/\ ∃i f j,Inv X a f j O/\tn i O.heap/\(∀b∈y,j b=F2)/\W i m f j:=λ{O q C'} L a'=>by
   obtain⟨Y',hm,w8⟩:=a'
   refine⟨Y',hm,i+1,q,C',L.unpinned,T.keep _ _ _ bX λb v o e=>(L.pin (b,o)<|rq _ (rq _ (sY v e))).1,λb v=>?_,w8⟩;obtain⟨o,e,d⟩:=T.obj _ _ bX b v;exact(L.pin (b,o)<|rq _ (rq _ (sY v e))).2.1
  cases ok with
  |false=>rw[iL kF] at q7;exact iq ⟨rfl,again I7 q7⟩
  |true=>rw[iF H8] at q7;simp -iota only[kr];refine hU<|thn (D<|pb _ s7 M H7 _ I7 q7) λ_ O a'=>?_;obtain⟨q,C',L,q8⟩:=a';exact iq ⟨rfl,again L q8⟩
def W2(d:hV)(e:TE):TB:=λc T N=>e c T λy b=> ∃a,b d=Y (.lst a)/\(Ix a)<sizeLine/\N c (upd b d<|.lst<|a++[y])
def R9{b:iA}{a:qo}{i:km}{p:bC}{depth:Nat}{d:hV}{j:TE}(o:a[depth+1]?=J)(m:PE X b j):PB X (jA (.ListComp b a i p) depth (.ref d) X.env) (W2 d j):=by
 intro f s k T N Q h
 have l:jA (.ListComp b a i p) depth (.ref d) X.env=(do let _ <-call (.builtin "list.append") [.ref d,<-aM b X.env]):=by unfold jA;simp -iota only[clausesOf.eq_def];rw[o]
 rw[l];refine hU<|thn (m f s k T _ Q h) λu s1 O=>?_;obtain⟨y,v,g,t,A,hd,x,q⟩:=O;obtain⟨z,c,n,r,w,e⟩:=g.lstM hd;refine hU<|AO F.slot_list_append ⟨_,e,rfl⟩ MP (MO _ _) (gl d c.toArray n u<|by rw[jw];lia) ⟨e,?_⟩;refine iq ⟨k,_,g.lset (its':=c++[u]) hd e (by simp) (r.append<|.cons t .nil) ?_,q⟩;rw[nG,zb]
 lia
def FL{b:iU}{w:iK}{A:iP}{e:iA}{depth:Nat}{i acc:iC}{d:eO}{R:h7->il->Prop}{s:il}{c:pP}
  (r:(∃g a j p,e= .ListComp g a j p)\/(∃g a j p,e= .SetComp g a j p))(q:(cd e)[depth]?=Y c)(o:c.is_async=0)
  (m:cG (ag b w) A (.compLoop e depth i acc d) R s)
  (k: ∀(Q:jf) (E:jf),Q i s->ae (ag b w) A (c8 i) Q E s):
  cG (ag b w) A (.compStart e depth i acc d) R s:=by
 have h:ae (ag b w) A (gq e depth i acc d) (λfin l=>match fin with| .done f=>R (.ok f) l| .again n=>n.quiet=U/\cG (ag b w) A n R l) (notedBy (ag b w) A d λx l=>R (.error x) l) s:=by
  unfold gq;rw[q];simp only[Option.elim,o,vZ,jF,kb];refine hU<|yZ<|wpAny_ite ?_;split
  .first
    |exact hU<|iq<|iq<|And.intro I m
    |exact iq<|And.intro I m
  .exact hU (uq<|hU<|wR<|hU<|k _ _ (iq<|And.intro I m))
 rcases r with⟨g,a,j,p,rfl⟩|⟨g,a,j,p,rfl⟩
 .refine yY ?_;show ae _ A ((gq (.ListComp g a j p) depth i acc d).onRaise (λx=>do pw x d;cq sm)) _ _ s;exact wl h
 .refine yY ?_;show ae _ A ((gq (.SetComp g a j p) depth i acc d).onRaise (λx=>do pw x d;cq sm)) _ _ s;exact wl h
noncomputable def Nf(e:TI)(g:TG)(d:TT)(c:TB):TB:=λa T N=>e a T λQ b=>JA Q g d c a b N
def VH{e:iA}{depth:Nat}{b:iC}{c:pP}{w:TI}{g:TG}{u:TT}{t:TB}(L:X.xe=λ_ _=>False)(M:X.calm=Gc)
  (o:(∃d a j p,e= .ListComp d a j p)\/(∃d a j p,e= .SetComp d a j p))(i:(cd e)[depth+1]?=FM c)(n:c.is_async=0)(l4: ∀m,(cd e)[depth+1+1]?=FM m->m.is_async=0)
  (hs: ∀x,aw c.iter X.env x=pure x)(pi:PI X c.target c.iter w)(pg:PG X c.target g)(C:PIf X c.ifs u)(pb:PB X (jA e (depth+1) b X.env) t):
  PB X (jA e depth b X.env) (Nf w g u t):=by
 intro f s K H N I h
 have O:jA e depth b X.env=(do
  let x <-aM c.iter X.env
  cq c.iter.pos
  let x <-aw c.iter X.env x
  let _ <-runOwn (.compStart e (depth+1) (<-bo [x] (c8 x)) b X.env) X.env):=by
  unfold jA;rw[i]
 rw[O];refine hU<|thn (pi f s K H _ I h) λv s1 h1=>hU<|wR<|hU<|rk (hs v)<|hU<|lZ<|thn h1 λR F G=>?_;obtain⟨V,S,Z,J,P,rfl,z,T,l,f2,D⟩:=G;refine hU<|wpAny_runOwn ?_;refine FL o i n ?_ λQ E U=>T.self X.A 0 F Q E l U;refine we (JX L M o i n l4 T pg C pb z f2 l D) λr W Y=>?_;obtain⟨rfl,k,y,B,_,q⟩:=Y;exact iq ⟨k,y,B,q⟩
end
theorem pA{a:eO}: ∀{b:List (aW×c7)} {x:aW},b.lookup x=Y .free->
  (b.map λ(n,k)=>if(k==aK&&a.scope.kind== .function&&a.kindOf n==Y .cell) then(n,cB) else(n,k)).lookup x=Y .cell\/
  (b.map λ(n,k)=>if(k==aK&&a.scope.kind== .function&&a.kindOf n==Y .cell) then(n,cB) else(n,k)).lookup x=Y .free
 |[],_,h=>by simp at h
 |(n,k)::r,x,h=>by
  have e:= @pA a r x;rw[jx]
  cases c:x==n with
  |true=>
   simp only[qr,c] at h;cases h;by_cases d:(aK==aK&&a.scope.kind== .function&&a.kindOf n==Y .cell)=U
   .left;simp only[d,kr,qr,c]
   .right;simp only[d,kb,qr,c,jF]
  |false=>
   simp only[qr,c] at h;by_cases d:(k==aK&&a.scope.kind== .function&&a.kindOf n==Y .cell)=U
   .simp only[d,kr,qr,c];exact e h
   .simp only[d,kb,qr,c,jF];exact e h
theorem lK{a:eO}: ∀{b:List (aW×c7)} {x:aW} {g:c7},
  (b.map λ(n,k)=>if(k==aK&&a.scope.kind== .function&&a.kindOf n==Y .cell) then(n,cB) else(n,k)).lookup x=Y g-> ∃k,(x,k)∈b/\(k=g\/k= .free)
 |[],_,_,h=>by simp at h
 |(n,k)::r,x,g,h=>by
  rw[jx] at h
  cases d:x==n with
  |true=>
   have e:=wc d;subst e;by_cases c:(k==aK&&a.scope.kind== .function&&a.kindOf x==Y .cell)=U
   .refine⟨k,jP,.inr ?_⟩
    have h1:(k==aK)=U:=by
     cases hk:(k==aK) with
     |true=>rfl
     |false=>rw[hk] at c;simp at c
    exact wc h1
   .simp only[c,kb,qr,d,jF] at h;exact⟨k,jP,.inl<|by simpa using h⟩
  |false=>
   by_cases c:(k==aK&&a.scope.kind== .function&&a.kindOf n==Y .cell)=U
   .simp only[c,kr,qr,d] at h;obtain⟨i,h1,f⟩:=lK h;exact⟨i,jU _ h1,f⟩
   .simp only[c,kb,qr,d,jF] at h;obtain⟨i,h1,f⟩:=lK h;exact⟨i,jU _ h1,f⟩
structure CompScope(X:Cx)(N':jr)(scope:km)(pre:St->St):Prop where
 cell: ∀y∈scope.names,y.2= .cell->scope.names.lookup y.1=FM .cell
 kind:scope.kind= .function
 names: ∀y∈scope.names,y.2= .local->scope.names.lookup y.1=FM .local
 free: ∀y∈scope.names,y.2= .free->X.env.scope.names.lookup y.1=FM .cell\/X.env.scope.names.lookup y.1=FM .free
 len: ∀σ:St,(pre σ).length=Ix N'
 pre: ∀(σ:St) (i:Nat) (v:V) (x:aW),(pre σ)[i]?=FM (FM v)->N'[i]?=FM x->scope.names.lookup x=FM .free/\ ∃j:Nat,X.N[j]?=FM x/\σ[j]?=FM (FM v)
section
variable {X:Cx}
def Ti{Q:jr}{scope:km}{pre:St->St}(S:CompScope X Q scope pre){d:ji}{f:il}{L:St}{t:Hp}{E:kH}{cl:mq}{H:iO}{t':Nat}(I:Inv X d L t f)
  (B:BCls X.env.cells scope f.heap.objs.size H cl)
  (C: ∀b∈E,vh X d t b)(G: ∀b∈E,b<f.heap.objs.size)
  (U:H.Ns f.heap.objs.size (λ_=>F2))(hk: ∀b o,f.heap.get? b=FM o->H.get? b=FM o):
  Inv (X.comp Q scope cl f.heap.objs.size f t E d) [] (pre L) t {f with heap:=H,toks:=t'}:=by
 have O: ∀b∈frs X.stack,t b=F2:=I.stkFree;have w: ∀b,b≠X.env.locals->b∉X.fs->b∉frs X.stack:=λb h1 a z=>(ku.mp<|I.stkSub b z).elim h1 a;have A: ∀x c,X.env.cells.lookup x=FM c->c<f.heap.objs.size:=λx c e=>(I.cell x c e).elim λ_ z=>z.lt
 refine⟨⟨I.ok.mod,?_,I.ok.glob,I.ok.blt,jQ _,λx y c h1 a=>?_,λx h=>?_,λx c q e=>?_,I.ok.hd,I.ok.frames,.inl H8,λb g=>?_,
  I.bs,ly I.ok.bsz I.sz,λb o e g=>?_,λb g=>w b (C b g).2.1 (C b g).2.2.1,I.stack,O⟩,rfl,I.bare,Un.kept hk,⟨_,U,λi x v h1 a J=>?_⟩,λx c h=>?_,I.hok.fresh<|jQ _,λx c h=>?_,λp V=>?_,I.hok.kept hk,S.len L⟩
 .show(gK scope X.env).kind= .function;simp[gK,S.kind]
 .rcases B.ex x c h1 with z|z
  .rcases B.ex y c a with s|s
   .exact I.ok.inj x y c z s
   .exact absurd (A x c z) (Hk s)
  .exact B.inj x y c z h1 a A
 ·
  have N:(gK scope X.env).names.lookup x=FM .cell\/(gK scope X.env).names.lookup x=FM .free:=h;refine B.all x ?_;rcases N with z|z
  .obtain⟨k,h1,a⟩:=lK z;rcases a with a|a<;>subst a
   .exact .inr h1
   .exact .inl h1
  .obtain⟨k,h1,a⟩:=lK z;rcases a with a|a<;>(subst a;exact .inl h1)
 .rcases B.one x c e with⟨_,z⟩|⟨z,_⟩
  .exact absurd (wc q) z
  .exact zj z
 .refine⟨jG<|G b g,λx c h=>?_⟩;rcases B.ex x c h with z|z
  .exact(C b g).2.2.2.2.1 x c z
  .exact pT (Ei (G b g) z)
 ·
  have W:b∈E:=g;rcases(C b W).2.2.2.1 with z|z
  .exact I.ok.noex b o e z
  .exact absurd (pz (jl e)<|ly I.ok.bsz z) (rB _)
 .obtain⟨q,j,P,hv⟩:=S.pre L i v x a h1;obtain⟨m,hn,R⟩:=I.loc;have M:=S.free (x,.free) (uC q) H8;obtain⟨u,r,l⟩:=R j x v P hv (by rcases M with z|z;exact .inr<|.inl z;exact .inr<|.inr z);refine⟨u,r,.inr ⟨pA q,?_⟩⟩;rcases l with⟨fZ,_⟩|⟨_,c,K,Z⟩
  .have F:X.env.scope.names.lookup x=FM .local:=fZ;rcases M with z|z<;>(have s:X.env.scope.names.lookup x=_:=z;rw[F] at s;cases s)
  .obtain⟨Y,T⟩:=B.all x<|.inl<|uC q;rcases B.one x Y T with⟨this,_⟩|⟨_,z,_⟩
   .rw[K] at this;cases this;exact⟨c,T,Z.keeps hk⟩
   .rw[q] at z;cases z
 .rcases B.one x c h with⟨z,_⟩|⟨_,_,z⟩
  .obtain⟨v,hv⟩:=I.cell x c z;exact⟨v,hv.keeps hk⟩
  .exact⟨_,z⟩
 .rcases B.ex x c h with z|z
  .exact I.freeC x c z
  .exact I.hok.fresh (zj z)
 .have D:p∈X.pn++d:=by simpa[Cx.comp] using V
  obtain⟨e,n,h1,a,J⟩:=I.pin p D;exact⟨hk _ _ e,n,jG<|jl e,w _ h1 a,J⟩
def BU{q:jr}{scope:km}{a:ji}{f g:il}{n k:St}{i l:Hp}{j:kH}{cl:mq}{m:iO}(T:Inv X a n i f)(h: ∀b∈j,vh X a i b)
  (Q:Inv (X.comp q scope cl f.heap.objs.size f i j a) [] k l g)(t:aC f.heap.objs.size g.heap m):Inv X a n l {g with heap:=m}:=by
 have K:=T.call' (s':=g) (ch:=j) Q.os Q.base Q.hok Q.bare λb d=>⟨(h b d).2.2.2.1,(h b d).2.1,(h b d).2.2.2.2.1,(h b d).2.2.2.2.2⟩
 have r:X.env.locals<f.heap.objs.size:=T.lt;refine K.turned (it:=f.heap.objs.size) (t':=g.toks) (λb o d e=>by rw[t.2 b d];exact e) Q.free (pT r) (.inr T.sz) (λx c u z=>?_) λp s z=>?_
 .obtain⟨v,o,e,_⟩:=T.cell x c u;exact absurd (jl e) (by rw[z];exact rB _)
 .obtain⟨e,_⟩:=T.pin p s;exact absurd (jl e) (by rw[z];exact rB _)
def JB(o:HO)(O:It)(g:TG)(c:TT)(b:hV->TB)(pre:St->St)(e:St)(T:Hp)(Q:VK):Prop:=
 ∀d,T d=J->JA O g c (b d) (pre e) (upd T d o) λ_ a=>Q (.ref d) a
def YZ(O:It)(g:TG)(b:TT)(a:hV->TB)(pre:St->St)(c:St)(T:Hp)(Q:VK):Prop:=JB (.lst []) O g b a pre c T Q
def zM{e:iA}{o:HO}{l:en}{c:pP}{iW:qo}{scope:km}{u:jr}{pre:St->St}{g:TG}{ti:TT}{tb:hV->TB}{Y:mq}{J:It}{i:kH}{it:hV}{tn:Nat->iO->Prop}
  (hl:(∃M k sc p,e= .ListComp M k sc p)\/ ∃M k sc p,e= .SetComp M k sc p)(hg:cd e=c::iW)
  (S:CompScope X u scope pre)(hc:X.calm=Gc)(ha:c.is_async=0)(l4: ∀I',iW[0]?=FM I'->I'.is_async=0)
  (v5: ∀(cl:mq) (C:hV) (s:il) (t:Hp) (i:kH) (a:ji),let H':=X.comp u scope cl C s t i a
   PG H' c.target g/\PIf H' c.ifs ti/\ ∀d,PB H' (jA e 0 (.ref d) H'.env)<|tb d)
  (p4: ∀x c,Y.lookup x=FM c->X.env.cells.lookup x=FM c)(l6: ∀x,(x,aK)∈scope.names-> ∃c,Y.lookup x=FM c)
  {a:ji}{f:il}{L:St}{m:Hp}{Q:VK}{E:jf}{RR:iC->hV->h7->il->Prop}(I2:Inv X a L m f)(T:Turn X.prog X.w X.K c.target J i it tn)(av:tn 0 f.heap)(f2: ∀b∈i,vh X a m b)
  (G:Inv X a L (upd m f.heap.objs.size o) {f with heap:=f.heap.push l})
  (h:JB o J g ti tb pre L m Q)
  (hRR: ∀(d:hV) (cl:mq) (s:il) (t O:Hp) (σ':St) (s4:il),Inv X a L t s->(∀b∈i,vh X a t b)->Inv (X.comp u scope cl s.heap.objs.size s t i a) [] σ' O s4->Q (.ref d) O->RR (.ref d) s.heap.objs.size (.ok .next) s4):
  ae (ag X.prog X.w) X.A (fO scope X.env.globals Y [] X.env.qual F2 .none<|FM X.env) (λn y=>
   cG (ag X.prog X.w) X.A (.compStart e 0 (.ref it) (.ref f.heap.objs.size) {n with scope:=gK scope X.env}) (RR (.ref f.heap.objs.size) n.locals) y) E {f with heap:=f.heap.push l}:=by
 have P: ∀b∈i,b<f.heap.objs.size:=λb j=>by obtain⟨o,e,_⟩:=T.obj _ _ av b j;exact jl e
 have N: ∀b∈i,vh X a (upd m f.heap.objs.size o) b:=λb j=>⟨by rw[jk<|jG<|P b j];exact(f2 b j).1,(f2 b j).2⟩
 refine Sv S.cell p4 l6 λh1 cl bQ F B=>?_;have hk: ∀b o,(f.heap.push l).get? b=FM o->h1.get? b=FM o:=F;have D: ∀b∈i,b<(f.heap.push l).objs.size:=λb j=>by rw[rl];exact vY<|P b j
 have J0:=Ti (t':=f.toks) S G B N D bQ hk;obtain⟨pg,bu,pb⟩:=v5 cl (f.heap.push l).objs.size {f with heap:=f.heap.push l} (upd m f.heap.objs.size o) i a;have v:tn 0 h1:=T.keep _ _ _ av λb j o e=>hk b o<|jS _ e;have hw:=h f.heap.objs.size<|I2.hok.fresh<|jQ _
 have U: ∀b∈i,vh (X.comp u scope cl (f.heap.push l).objs.size {f with heap:=f.heap.push l} (upd m f.heap.objs.size o) i a) []
   (upd m f.heap.objs.size o) b:=λb j=>by
  obtain⟨z1,z2,z3,z4,z5,z6⟩:=N b j;refine⟨z1,jG<|D b j,λz=>(ku.mp<|G.stkSub b z).elim z2 z3,.inl j,λx c hx=>(B.ex x c hx).elim (z5 x c) λz=>pT<|Ei (D b j) z,λp hp=>z6 p<|by simpa[Cx.comp] using hp⟩
 have R:(cd e)[0]?=FM c:=by rw[hg];rfl
 refine FL hl R ha ?_ λQ' W hq=>T.self X.A 0 _ Q' W v hq
 refine we (JX (X:=X.comp u scope cl (f.heap.push l).objs.size {f with heap:=f.heap.push l} (upd m f.heap.objs.size o) i a)
  (depth:=0) (acc:= .ref f.heap.objs.size) rfl hc hl R ha (λI' V=>l4 I'<|by rw[hg] at V;exact V) T pg bu (pb _) J0 U v hw) λr s4 hr=>?_
 obtain⟨rfl,σ4,O,Z,_,q⟩:=hr;exact hRR _ _ _ _ _ _ _ G N Z q
noncomputable def Ng(e:TI)(g:TG)(d:TT)(c:hV->TB)(pre:St->St):TE:=λa T Q=>e a T λO b=>YZ O g d c pre a b Q
def Oe{b:iA}{c:pP}{iW:qo}{scope:km}{e:bC}{o:jr}{pre:St->St}{y:TI}{g:TG}{ti:TT}{tb:hV->TB}
  (S:CompScope X o scope pre)(hc:X.calm=Gc)(Y:c.is_async=0)(l4: ∀t,iW[0]?=FM t->t.is_async=0)
  (hs: ∀x,aw c.iter X.env x=pure x)(pi:PI X c.target c.iter y)
  (v5: ∀(cl:mq) (C:hV) (u:il) (k:Hp) (r:kH) (a:ji),let f:=X.comp o scope cl C u k r a
   PG f c.target g/\PIf f c.ifs ti/\ ∀d,PB f (jA (.ListComp b (c::iW) scope e) 0 (.ref d) f.env)<|tb d):
  PE X (.ListComp b (c::iW) scope e) (Ng y g ti tb pre):=by
 intro a s z H Q I h;obtain⟨tg,p,j,G⟩:=c;obtain rfl:G=0:=Y;obtain⟨cl,W,V,R⟩:=xF X.env scope λx P D=>I.ok.has x.1<|S.free x P D;rw[eval_ListComp];show ae _ X.A (gc _ scope X.env _ (gP []) Go (aM p X.env)) _ _ s;refine Hj (use:=F2) (g:=⟨tg,p,j,0⟩) (gs:=iW) H8 hs W S.kind S.names<|thn (pi a s z H _ I h) λv s1 h1=>thn h1 λda Z U=>?_;obtain⟨it,r,tn,J,H2,rfl,l,T,O,f2,K⟩:=U;refine mT<|zM (RR:=λi C=>vl (ag X.prog X.w) X.A X.xe F2 (EP X a z Q) i C) (.inl ⟨_,_,_,_,rfl⟩) H8 S hc H8 l4 v5 V R l T O f2 (l.lnew (t':=Z.toks) .nil<|by simp) K λd M u k B σ' s4 E N n q=>?_;obtain⟨m,F,_⟩:=id n.loc;exact⟨m,F,λh' L=>⟨.ref d,B,BU E N n L,rfl,q⟩⟩
def NV{f:iA}{c:pP}{iW:qo}{scope:km}{j g0 k:bC}{N':jr}{pre:St->St}{wi:TI}{g:TG}{ti:TT}{tb:hV->TB}{y:aW}{i:Nat}
  (dM:cR (.ListComp f (c::iW) scope j) (FM<|.Name y k) g0.line X.env=pure Gc)
  (S:CompScope X N' scope pre)(hc:X.calm=Gc)(ha:c.is_async=0)(l4: ∀g',iW[0]?=FM g'->g'.is_async=0)
  (hs: ∀x,aw c.iter X.env x=pure x)(pi:PI X c.target c.iter wi)(fG:PG X (.Name y k) (Gx i))
  (v5: ∀(cl:mq) (C:hV) (l:il) (H3:Hp) (fp:kH) (a:ji),let u:=X.comp N' scope cl C l H3 fp a
   PG u c.target g/\PIf u c.ifs ti/\ ∀d,PB u (jA (.ListComp f (c::iW) scope j) 0 (.ref d) u.env)<|tb d):
  PS X (.Assign [.Name y k] (.ListComp f (c::iW) scope j) g0) (UG (Ng wi g ti tb pre)<|Gx i):=by
 intro a s E H D I h;obtain⟨V,M,t,az⟩:=c;obtain rfl:az=0:=ha;obtain⟨cl,p5,p4,l6⟩:=xF X.env scope λx Y hf=>I.ok.has x.1<|S.free x Y hf;rw[exec_Assign_Name_used _ _ _ _ dM];refine hU<|wR<|hU ?_;show ae _ X.A (do let _ <-gc (.ListComp f (⟨V,M,t,0⟩::iW) scope j) scope X.env _ (gP []) Go (aM M X.env) (FM<|bW (.Name y k) X.env)) _ _ s
 refine hU (pU (Hj (use:=FM<|bW (.Name y k) X.env) (g:=⟨V,M,t,0⟩) (gs:=iW) (Q:=λ_ B=>SP X a D .next B) H8 hs p5 S.kind S.names
  (thn (pi a s E H _ I h) λv s1 h1=>thn h1 λda s2 h2=>?_)) (λ_ B hq=>iq<|iq hq) λ_ _ e=>e)
 obtain⟨it,fp,tn,J,H2,rfl,P,T,av,f2,hw⟩:=h2;refine mT<|zM (RR:=λG C=>vl (ag X.prog X.w) X.A X.xe (FM<|bW (.Name y k) X.env) (λ_ B=>SP X a D .next B) G C) (.inl ⟨_,_,_,_,rfl⟩) H8 S hc H8 l4 v5 p4 l6 P T av f2 (P.lnew (t':=s2.toks) .nil<|by simp) hw λd cl' l H3 L σ' K n ff O q=>?_;obtain⟨m,hn,_⟩:=id O.loc;obtain⟨F,es,ep,ho,hd,hr⟩:=id hn;have R:Inv X a E L K:=BU n ff O (Eh ..);have r:l.heap.objs.size≠X.env.locals:=pT n.lt;have N:l.heap.objs.size∉X.fs:=λz=>n.nofs (jQ _) z
 have W:Inv X (a++[(l.heap.objs.size,F)]) E L K:=R.pins_of λp U=>by
  rcases rY.mp U with z|z
  .exact R.pin p (rq _ z)
  .rcases KA.mp z with rfl
   exact⟨ho,O.free,r,N,λv z=>by rw[hd] at z;cases z⟩
 show ae _ X.A (bW (.Name y k) X.env<|.ref d) _ _ _;refine thn (fG _ K E L (.ref d) (.ref d) _ W rfl q) λ_ s5 a'=>?_;obtain⟨σ5,H5,I5,q5⟩:=a';have pC:=I5.pin (l.heap.objs.size,F) (by simp);refine⟨m,⟨F,es,ep,pC.1,hd,hr⟩,λh' Z=>⟨σ5,H5,?_,q5⟩⟩;refine I5.unpinned.turned (it:=l.heap.objs.size) (t':=s5.toks) (λb o hb e=>by rw[Z.2 b hb];exact e) pC.2.1 r (.inr n.sz) (λx c Y z=>?_) λp U z=>?_
 .obtain⟨v,o,e,_⟩:=n.cell x c Y;exact absurd (jl e) (by rw[z];exact rB _)
 .obtain⟨e,_⟩:=n.pin p U;exact absurd (jl e) (by rw[z];exact rB _)
end
section
variable {κ:Type}[DecidableEq κ]
noncomputable def ud(a:List (κ×V))(k:κ):Option V:=(a.find? λb=>decide<|b.1=k).map (·.2)
noncomputable def ue(a:List (κ×V))(k:κ)(v:V):List (κ×V):=
 if(a.any λb=>decide<|b.1=k)=U then a.map (λb=>if b.1=k then(b.1,v) else b) else a++[(k,v)]
theorem uD{p:κ×V}{r:List (κ×V)}{k:κ}(e:p.1=k):ud (p::r) k=Y p.2:=by simp[ud,yX,e]
theorem pX{p:κ×V}{r:List (κ×V)}{k:κ}(e: ¬p.1=k):ud (p::r) k=ud r k:=by simp[ud,yX,e]
theorem FD(k:κ): ∀a:List (κ×V),(a.any λb=>decide<|b.1=k)=(ud a k).isSome
 |[]=>rfl
 |p::r=>by
  rw[yW];by_cases e:p.1=k
  .simp only[uD e,oK e,Bool.true_or,ga]
  .rw[pX e,mB e,Bool.false_or];exact FD k r
theorem Ac(a:List (κ×V))(k:κ)(v:V):(ue a k v).length<=Ix a+1:=by
 unfold ue;split
 .rw[jz];lia
 .rw[nG,kI,pv];lia
theorem RelO.isSome_eq{o:Option V}{u:Option iC}(r:RelO o u):o.isSome=u.isSome:=by
 cases o with
 |none=>cases u with
  |none=>rfl
  |some _=>exact(show False from r).elim
 |some _=>cases u with
  |none=>exact(show False from r).elim
  |some _=>rfl
theorem KV.val{kvs:List (κ×V)}{d:List (κ×iC)}(r:KV kvs d)(k:κ):RelO (ud kvs k) (fj d k):=by
 unfold KV at r
 induction r with
 |nil=>exact bV
 | @cons p q i c h t g=>
  obtain⟨h1,f⟩:=h;by_cases e:p.1=k
  .have a:q.1=k:=h1.symm.trans e;have b:fj (q::c) k=Y q.2:=by simp[fj,yX,a]
   rw[uD e,b];exact f
  .have a: ¬q.1=k:=λz=>e<|h1.trans z;have b:fj (q::c) k=fj c k:=by simp[fj,yX,a]
   rw[pX e,b];exact g
theorem KV.any{a:List (κ×V)}{c:List (κ×iC)}(r:KV a c)(k:κ):(a.any λb=>decide<|b.1=k)=c.any λb=>decide (b.1=k):=by
 unfold KV at r
 induction r with
 |nil=>rfl
 |cons h t d=>rw[yW,yW,d,h.1]
theorem KV.repl{b:List (κ×V)}{c:List (κ×iC)}(r:KV b c)(k:κ){y:V}{u:iC}(g:RelV y u):
  KV (b.map λa=>if a.1=k then(a.1,y) else a) (c.map λa=>if a.1=k then(a.1,u) else a):=by
 unfold KV at r ⊢
 induction r with
 |nil=>exact .nil
 | @cons p q i j h t f=>
  rw[jx,jx];refine .cons ?_ f;obtain⟨h1,d⟩:=h;by_cases e:p.1=k
  .rw[iF e,iF<|h1.symm.trans e];exact⟨h1,g⟩
  .rw[iL e,iL λz=>e<|h1.trans z];exact⟨h1,d⟩
theorem KV.put{a:List (κ×V)}{b:List (κ×iC)}(r:KV a b)(k:κ){y:V}{u:iC}(c:RelV y u):KV (ue a k y) (stored b k u):=by
 unfold ue stored;rw[r.any k];by_cases e:(b.any λd=>decide<|d.1=k)=U
 .rw[iF e,iF e];exact r.repl k c
 .rw[iL e,iL e];exact Paired.snoc r ⟨rfl,c⟩
theorem KV.length{a:List (κ×V)}{b:List (κ×iC)}(r:KV a b):(Ix a)=(Ix b):=AW r
end
def BC{P:iU}{w:iK}{k:Key}{u:iC}(r:RelV (kV k) u):(kR P w).is k u=U:=by
 cases k with
 |inl i=>obtain⟨t,e⟩:=(show ∃t,u=hF i t from r);subst e;exact Gf P w i t
 |inr x=>obtain⟨t,e⟩:=(show ∃t,u=hD x t from r);subst e;exact Ge P w x t
theorem Dk{P:iU}{w:iK}: ∀{a:List Key} {b:jN},Vals (a.map kV) b->ItemsAre (kR P w) a b
 |[],_,r=>by rw[nj] at r;cases r;exact .nil
 |k::a,_,r=>by
  rw[jx] at r
  cases r with
  |cons h t=>exact .cons (BC h)<|Dk t
abbrev KT(T:Hp):List (List Key×V)->List (List Key×hV×iC)->Prop:=Paired λp q=>p.1=q.1/\T q.2.1=Y (.tup<|p.1.map kV)/\RelV p.2 q.2.2
def KT.val{T:Hp}{kvs:List (List Key×V)}{d:List (List Key×hV×iC)}(r:KT T kvs d)(k:List Key):RelO (ud kvs k) ((fB d k).map (·.2)):=by
 induction r with
 |nil=>exact bV
 | @cons p q i c h t g=>
  obtain⟨h1,_,f⟩:=h;by_cases e:p.1=k
  .have a:q.1=k:=h1.symm.trans e;have b:fB (q::c) k=Y q.2:=by simp[fB,yX,a]
   rw[uD e,b];exact f
  .have a: ¬q.1=k:=λz=>e<|h1.trans z;have b:fB (q::c) k=fB c k:=by simp[fB,yX,a]
   rw[pX e,b];exact g
def KT.repl{T:Hp}{a:List (List Key×V)}{d:List (List Key×hV×iC)}(r:KT T a d)(k:List Key){y:V}{u:iC}(i:RelV y u):
  KT T (a.map λb=>if b.1=k then(b.1,y) else b) (d.map<|putAt k u):=by
 induction r with
 |nil=>exact .nil
 | @cons p q j l h t g=>
  rw[jx,jx];refine .cons ?_ g;obtain⟨h1,c,f⟩:=h;unfold putAt;by_cases e:p.1=k
  .rw[iF e,iF<|h1.symm.trans e];exact⟨h1,c,i⟩
  .rw[iL e,iL λz=>e<|h1.trans z];exact⟨h1,c,f⟩
def KT.put{T:Hp}{a:List (List Key×V)}{c:List (List Key×hV×iC)}(r:KT T a c)(k:List Key){b:hV}{y:V}{u:iC}(f:T b=Y (.tup<|k.map kV))(d:RelV y u):
  KT T (ue a k y) (storedH c k b u):=by
 have e:(a.any λg=>decide<|g.1=k)=(fB c k).isSome:=by rw[FD,(r.val k).isSome_eq,Hh]
 unfold ue storedH;rw[e];by_cases q:(fB c k).isSome=U
 .rw[iF q,iF q];exact r.repl k d
 .rw[iL q,iL q];exact Paired.snoc r ⟨rfl,f,d⟩
def KT.keeps{T c:Hp}{a:List (List Key×V)}{d:List (List Key×hV×iC)}(r:KT T a d)(f: ∀b e,T b=Y (.tup e)->c b=Y (.tup e)):KT c a d:=
 Paired.mapP r λ_ _ z=>⟨z.1,f _ _ z.2.1,z.2.2⟩
section
variable {P:iU}{w:iK}{H:Hp}{h:iO}{a:hV}
def T4{u:HO}(ok:HOk P w H h)(e:Rd H a u):ObjOk P w H h a u:=e.ok ok
def Kk{b:List (Key×V)}(ok:HOk P w H h)(e:Rd H a (.dK b)):(Ix b)<=sizeLine/\(a==b3)=C/\ ∃c,KV b c/\h.DictOf (kR P w) a c:=
 show ObjOk P w H h a (.dK b) from T4 ok e
def Up{b:List (Key×V)}(ok:HOk P w H h)(e:H a=Y (.dK b)):(Ix b)<=sizeLine/\(a==b3)=C/\ ∃c,KV b c/\h.DictOf (kR P w) a c:=Kk ok<|.inl e
def sZ{c:List Key}(ok:HOk P w H h)(e:H a=Y (.tup<|c.map kV)):(cE<|kR P w).is h c a:=by
 obtain⟨_,b,r,o,h1,d,n,f⟩:=(show ObjOk P w H h a (.tup<|c.map kV) from ok a _ e)
 exact⟨o,b.toArray,n,h1,d,f,by simpa using Dk r⟩
def Kj{b:List (List Key×V)}(ok:HOk P w H h)(e:Rd H a (.dT b)):(Ix b)<=sizeLine/\(a==b3)=C/\
  ∃d,KT H b d/\h.DictOfH (cE<|kR P w) a d:=by
 obtain⟨z,y,d,r,o,i,g,h1,j,k,n,s⟩:=(show ObjOk P w H h a (.dT b) from T4 ok e)
 refine⟨z,y,d,r,o,i,g,h1,j,k,n,λx c=>?_,s⟩
 have all: ∀{l:List (List Key×V)} {m:List (List Key×hV×iC)},KT H l m-> ∀x∈m,(cE<|kR P w).is h x.1 x.2.1:=by
  intro l m q
  induction q with
  |nil=>intro x c;exact nomatch c
  | @cons p q v A f t u=>
   intro x c;rcases ku.mp c with e|c
   .subst e;exact sZ ok (by rw[<-f.1];exact f.2.1)
   .exact u x c
 exact all r x c
def Yj{b:List (List Key×V)}(ok:HOk P w H h)(e:H a=Y (.dT b)):(Ix b)<=sizeLine/\(a==b3)=C/\
  ∃c,KT H b c/\h.DictOfH (cE<|kR P w) a c:=Kj ok<|.inl e
end
def DGet(T:Hp)(a:hV)(y:V)(r:Option V):Prop:=
 (∃c k,Rd T a (.dK c)/\y=kV k/\r=ud c k)\/ ∃c k b,Rd T a (.dT c)/\y= .ref b/\T b=Y (.tup<|k.map kV)/\r=ud c k
def DPut(T:Hp)(a:hV)(y v:V)(c:Hp):Prop:=
 (∃kvs k,T a=Y (.dK kvs)/\y=kV k/\(Ix kvs)<sizeLine/\c=upd T a (.dK<|ue kvs k v))\/
 ∃kvs k b,T a=Y (.dT kvs)/\y= .ref b/\T b=Y (.tup<|k.map kV)/\(Ix kvs)<sizeLine/\c=upd T a (.dT<|ue kvs k v)
def DGet.k{T:Hp}{a:hV}{kvs:List (Key×V)}{k:Key}(e:T a=Y (.dK kvs)):DGet T a (kV k) (ud kvs k):= .inl ⟨kvs,k,.inl e,rfl,rfl⟩
def DGet.t{T:Hp}{a b:hV}{kvs:List (List Key×V)}{k:List Key}(e:T a=Y (.dT kvs))(c:T b=Y (.tup<|k.map kV)):DGet T a (.ref b) (ud kvs k):= .inr ⟨kvs,k,b,.inl e,rfl,c,rfl⟩
def DPut.k{T:Hp}{a:hV}{kvs:List (Key×V)}{k:Key}{v:V}(e:T a=Y (.dK kvs))(b:(Ix kvs)<sizeLine):DPut T a (kV k) v (upd T a<|.dK<|ue kvs k v):= .inl ⟨kvs,k,e,rfl,b,rfl⟩
def DPut.t{T:Hp}{a b:hV}{kvs:List (List Key×V)}{k:List Key}{v:V}(e:T a=Y (.dT kvs))(c:T b=Y (.tup<|k.map kV))(d:(Ix kvs)<sizeLine):
  DPut T a (.ref b) v (upd T a<|.dT<|ue kvs k v):= .inr ⟨kvs,k,b,e,rfl,c,d,rfl⟩
section
variable {X:Cx}{d:ji}{f:St}{H:Hp}{s:il}{a:hV}{y v:V}{u r:iC}{o:Option V}{A:iP}{E:jf}
def Inv.big(T:Inv X d f H s):b3<s.heap.objs.size:=by have h:ao<s.heap.objs.size:=(T.mod.glob.keeps T.bk).lt;exact Ei (by decide) h
def Du{Q:jf}(O:A.units+1<aX)(N:Inv X d f H s)(g:DGet H a y (Y v))(t:RelV y u)(h: ∀i x,Inv X d f H x->RelV v i->Q i x):
  ae (ag X.prog X.w) A (c0 (.ref a) u) Q E s:=by
 rcases g with⟨n,k,e,j,l⟩|⟨n,k,b,e,j,M,l⟩
 .subst j;obtain⟨z,hd,T,c,dd⟩:=Kk N.hok e;obtain⟨i,m,q⟩:=RelO.some_of (v:=v) (o:=fj T k) (by rw[l];exact c.val k);exact wpAny_getItem_of (BC t) dd.mapOf m<|h i _ (N.tok _) q
 .subst j;cases(show u=bb b from t);obtain⟨z,hd,G,c,dd⟩:=Kj N.hok e;obtain⟨i,m,q⟩:=RelO.some_of (v:=v) (o:=(fB G k).map (·.2)) (by rw[l];exact c.val k);obtain⟨p,L,B⟩:=dc.mp m;refine wpAny_getItem_heap (yV O) (sZ N.hok M) dd L ?_;rw[B];exact h i _ (N.tok _) q
def Yl{Q:jf}(t:A.units+1<aX)(T:Inv X d f H s)(g:DGet H a y o)(m:RelV y u)(h: ∀n,Inv X d f H n->Q (.bool o.isSome) n):
  ae (ag X.prog X.w) A (ap .In u<|.ref a) Q E s:=by
 rcases g with⟨j,k,e,i,l⟩|⟨j,k,b,e,i,p,l⟩
 .subst i;obtain⟨z,hd,x,c,dd⟩:=Kk T.hok e;refine B2 (BC m) hd dd.mapOf ?_;rw[<-(c.val k).isSome_eq,<-l];exact h _ (T.tok _)
 .subst i;cases(show u=bb b from m);obtain⟨z,hd,B,c,dd⟩:=Kj T.hok e;refine wn (yV t) (sZ T.hok p) hd dd ?_;have q:=(c.val k).isSome_eq;rw[Hh] at q;rw[<-q,<-l];exact h _ (T.tok _)
def Km{Q:jf}(t:A.units+1<aX)(T:Inv X d f H s)(g:DGet H a y o)(m:RelV y u)(h: ∀n,Inv X d f H n->Q (.bool (!o.isSome)) n):
  ae (ag X.prog X.w) A (ap .NotIn u<|.ref a) Q E s:=by
 rcases g with⟨j,k,e,i,l⟩|⟨j,k,b,e,i,p,l⟩
 .subst i;obtain⟨z,hd,x,c,dd⟩:=Kk T.hok e;refine ul (BC m) hd dd.mapOf ?_;rw[<-(c.val k).isSome_eq,<-l];exact h _ (T.tok _)
 .subst i;cases(show u=bb b from m);obtain⟨z,hd,B,c,dd⟩:=Kj T.hok e;refine rc (yV t) (sZ T.hok p) hd dd ?_;have q:=(c.val k).isSome_eq;rw[Hh] at q;rw[<-q,<-l];exact h _ (T.tok _)
def Az{h':iO}{t':Nat}{c:HO}(T:Inv X d f H s)(j:Mut (H a))(i:aC a s.heap h')(h: ∃q,h'.get? a=Y q)(new:ObjOk X.prog X.w (upd H a c) h' a c):
  Inv X d f (upd H a c) {s with heap:=h',toks:=t'}:=
 T.write (x:=a) (e:=a) j (.inl I) (λb q g z=>(i.2 b g).trans z) h new
def Wm{P:iU}{w:iK}{h:Hp}{g:iO}{b:List (Key×V)}{e:List (Key×iC)}(z:(Ix b)<=sizeLine)(hd:(a==b3)=C)(c:KV b e)(dd:g.DictOf (kR P w) a e):
  ObjOk P w h g a (.dK b):=⟨z,hd,e,c,dd⟩
def zL{L:Hp}{Q:Unit->il->Prop}(hu:A.units+1<aX)(I:Inv X d f H s)(g:DPut H a y v L)(M:RelV y u)(J:RelV v r)(h: ∀N,Inv X d f L N->Q () N):
  ae (ag X.prog X.w) A (fk (.ref a) u r) Q E s:=by
 rcases g with⟨i,k,e,t,l,p⟩|⟨i,k,b,e,t,O,l,p⟩
 .subst t p;obtain⟨z,hd,S,j,dd⟩:=Up I.hok e;have C:S.length<=sizeLine:=by rw[<-j.length];exact z
  have x:(ue i k v).length<=sizeLine:=by have:=Ac i k v;lia
  refine wpAny_setItem_pairs (hsz:=C) (BC M) dd λG m B=>h _ ?_;have R: ∃q,G.get? a=FM q:=let⟨q,_,_,n,_⟩:=m;⟨q,n⟩
  exact Az I (by rw[e];exact bV) B R<|Wm x hd (j.put k J) m
 .subst t p;cases(show u=bb b from M);obtain⟨z,hd,V,j,dd⟩:=Yj I.hok e;have C:V.length<=sizeLine:=by rw[<-AW j];exact z
  have x:(ue i k v).length<=sizeLine:=by have:=Ac i k v;lia
  refine wpAny_setItem_heap (hsz:=C) (yV hu) (sZ I.hok O) dd λG m B=>h _ ?_;obtain⟨q,Y,U,n,D,F,K,_,P⟩:=m;refine Az I (by rw[e];exact bV) B ⟨q,n⟩ ⟨x,hd,_,(j.put k O J).keeps λc W T=>?_,q,Y,U,n,D,F,K,P⟩;rw[jk<|Uh T e (λz=>nomatch z)];exact T
end
def P8{P:iU}{w:iK}{T:Hp}(h:iO)(a:b3<h.objs.size):ObjOk P w T (h.push {cls:= .type "dict",data:= .dict #[]}) h.objs.size (.dK []):=
 ⟨mr _,Ai.mpr<|rA<|jG a,[],.nil,Heap.DictOf.new h⟩
noncomputable def UE:TE:=λ_ T Q=> ∀p,T p=J->Q (.ref p) (upd T p<|.dK [])
section
variable {X:Cx}{b:bC}
def Oh:PE X (.Dict [] [] b) UE:=λc s d T Q O h=>wpAny_Dict_empty ⟨.ref s.heap.objs.size,_,O.laid (a:=s.heap.objs.size) (o:= .dK []) (t':=s.toks) (λ_ _ q=>jS _ q) (jQ _)<|P8 s.heap O.big,rfl,h _ (O.hok.fresh<|jQ _)⟩
end
end L2
namespace PX
open PySem PySem.Spec PyProof.Rows L2
inductive OK where
 |dct|set|fn(i:Nat)|exc(c:Nat)
 deriving DecidableEq
inductive D where
 |non|bl(b:Bool)|int(i:Int)|str(x:aW)|tup(l:List D)|lst(l:List D)|oth(k:OK)(ks vs:List D)
mutual
/-- the hash of ints and of tuples of such -/
noncomputable def D.hash:D->Int
 | .int i=>hashInt i
 | .tup l=>reduceHash<|be<|D.hashL l
 |_=>0
noncomputable def D.hashL:List D->List Int
 |[]=>[]
 |d::l=>D.hash d::D.hashL l
end
noncomputable def ke:Key->D
 | .inl i=> .int i
 | .inr x=> .str x
def ZY(K:iM)(o:en)(T:Nat):Prop:=o.cls= .ref T/\(∀a:hV,PySem.W.KitX K (.ref a) (.ref T) λh=>h.get? a=Y o)/\ ∀n∈["int","bool","str","tuple","list","dict"],dA K (.ref T) (.type n)=Y C
def OthB(K:iM)(h:Option HO)(k:OK)(a c:List D)(b:List V):Prop:=
 match k with
 | .dct=>(∃kvs:List (Key×V),h=Y (.dK kvs)/\a=kvs.map (λp=>ke p.1)/\b=kvs.map (·.2))\/
   (∃kvs:List (List Key×V),h=Y (.dT kvs)/\a=kvs.map (λp=> .tup (p.1.map ke))/\b=kvs.map (·.2))
 | .set=>a=[]/\ ∃d:List (Int×V),h=Y (.stt d)/\d.Perm ((D.hashL c).zip b)
 | .exc T=>(a=[]/\c=[]/\b=[])/\ ∃o,h=Y (.frz o<|.own 0)/\ZY K o T
 |_=>False
def OthB.ex{K h k a b us}(x:OthB K h k a b us): ∃o,h=Y o:=by
 cases k with
 |dct=>rcases x with⟨_,e,_⟩|⟨_,e,_⟩<;>exact⟨_,e⟩
 |set=>obtain⟨_,_,e,_⟩:=x;exact⟨_,e⟩
 |exc T=>obtain⟨_,_,e,_⟩:=x;exact⟨_,e⟩
 |_=>exact x.elim
def OthB.keep{K k a b us}(x:OthB K h k a b us)(c: ∀o,h=Y o->h'=Y o):OthB K h' k a b us:=by obtain⟨o,e⟩:=x.ex;rw[c o e,<-e];exact x
abbrev AP':=hV->Prop
def KT(K:iM)(a:hV)(xs:List V):Prop:= ∃(o:en) (b:nI) (n:Nat),K.lookup a=Y o/\o.cls= .type "tuple"/\o.data= .seq b n/\b.size<=sizeLine/\Vals xs b.toList
def KL(K:iM)(a:hV)(c:List V):Prop:= ∃(o:en) (b:nI) (n:Nat),K.lookup a=Y o/\o.cls= .type "list"/\o.dict=J/\o.data= .seq b n/\b.size<=sizeLine/\Vals c b.toList
def SqTO(K:iM)(T:Hp)(O:AP')(a:hV)(b:List V):Prop:=T a=Y (.tup b)/\ ¬O a
def SqLO(K:iM)(T:Hp)(O:AP')(a:hV)(b:List V):Prop:=(Rd T a (.lst b)/\ ¬O a)\/KL K a b
def SqTO.sq{K T O a xs}(h:SqTO K T O a xs):SqT K T a xs:= .inl (.inl h.1)
def SqLO.sq{K T O a xs}(h:SqLO K T O a xs):SqL K T a xs:=h.elim (λz=> .inl z.1) .inr
def Rd.mono{a u}(h:Rd T a u)(k: ∀o,T a=Y o->b a=Y o):Rd b a u:=by
 rcases h with h|⟨o,h⟩
 .exact .inl (k _ h)
 .exact .inr ⟨o,k _ h⟩
def SqTO.mono{K T c}{a xs}(h:SqTO K T O a xs)(k: ∀b o,T b=Y o-> ¬O b->c b=Y o)(e: ∀b,T b≠J->d b->O b):SqTO K c d a xs:=
 ⟨k a _ h.1 h.2,λz=>h.2<|e a (by rw[h.1];simp) z⟩
def SqLO.mono{K T c}{a xs}(h:SqLO K T O a xs)(k: ∀b o,T b=Y o-> ¬O b->c b=Y o)(f: ∀b,T b≠J->d b->O b):SqLO K c d a xs:=by
 rcases h with⟨r,n⟩|h
 .refine .inl ⟨Rd.mono r λo e=>k a o e n,λz=>n<|f a ?_ z⟩;rcases r with r|⟨_,r⟩<;>(rw[r];simp)
 .exact .inr h
mutual
/-- v is the datum,in H;nothing of it stands at an address of O -/
def Rep(K:iM)(T:Hp)(O:AP'):D->V->Prop
 | .non,v=>v= .non
 | .bl b,v=>v= .bl b
 | .int i,v=>v= .int i
 | .str x,v=>v= .str x
 | .tup l,v=> ∃a xs,v= .ref a/\SqTO K T O a xs/\RepL K T O l xs
 | .lst l,v=> ∃a xs,v= .ref a/\SqLO K T O a xs/\RepL K T O l xs
 | .oth k e d,v=> ∃a c,v= .ref a/\(¬O a/\OthB K (T a) k e d c)/\RepL K T O d c
def RepL(K:iM)(T:Hp)(O:AP'):List D->List V->Prop
 |[],a=>a=[]
 |d::l,a=> ∃v r,a=v::r/\Rep K T O d v/\RepL K T O l r
end
mutual
theorem Rep.mono{K T g}{O i:AP'}(k: ∀b o,T b=Y o-> ¬O b->g b=Y o)(c: ∀b,T b≠J->i b->O b): ∀{d:D} {v:V},Rep K T O d v->Rep K g i d v
 | .non,_,h=>h
 | .bl _,_,h=>h
 | .int _,_,h=>h
 | .str _,_,h=>h
 | .tup l,_,h=>by rw[Rep] at h ⊢;obtain⟨a,f,e,s,r⟩:=h;exact⟨a,f,e,s.mono k c,RepL.mono k c r⟩
 | .lst l,_,h=>by rw[Rep] at h ⊢;obtain⟨a,f,e,s,r⟩:=h;exact⟨a,f,e,s.mono k c,RepL.mono k c r⟩
 | .oth m n p,_,h=>by rw[Rep] at h ⊢;obtain⟨a,j,e,s,r⟩:=h;exact⟨a,j,e,⟨λz=>s.1<|c a (by obtain⟨o,q⟩:=s.2.ex;rw[q];simp) z,s.2.keep λo q=>k a o q s.1⟩,RepL.mono k c r⟩
theorem RepL.mono{K T a}{O c:AP'}(k: ∀b o,T b=Y o-> ¬O b->a b=Y o)(f: ∀b,T b≠J->c b->O b): ∀{l:List D} {g:List V},RepL K T O l g->RepL K a c l g
 |[],_,h=>h
 |d::l,_,h=>by rw[RepL] at h ⊢;obtain⟨v,r,e,h1,i⟩:=h;exact⟨v,r,e,Rep.mono k f h1,RepL.mono k f i⟩
end
def Rep.mkInt{K T O i}:Rep K T O (.int i) (.int i):=by rw[Rep]
def Rep.mkBl{K T O i}:Rep K T O (.bl i) (.bl i):=by rw[Rep]
def Rep.mkNon{K T O}:Rep K T O .non .non:=by rw[Rep]
def Rep.mkStr{K T O i}:Rep K T O (.str i) (.str i):=by rw[Rep]
def Rep.int{K T O i v}(h:Rep K T O (.int i) v):v= .int i:=by rwa [Rep] at h
def Rep.bl{K T O i v}(h:Rep K T O (.bl i) v):v= .bl i:=by rwa [Rep] at h
def Rep.non{K T O v}(h:Rep K T O .non v):v= .non:=by rwa [Rep] at h
def Rep.str{K T O i v}(h:Rep K T O (.str i) v):v= .str i:=by rwa [Rep] at h
def Rep.tup{K T O l v}(h:Rep K T O (.tup l) v): ∃a xs,v= .ref a/\SqTO K T O a xs/\RepL K T O l xs:=by rwa [Rep] at h
def Rep.lst{K T O l v}(h:Rep K T O (.lst l) v): ∃a xs,v= .ref a/\SqLO K T O a xs/\RepL K T O l xs:=by rwa [Rep] at h
def Rep.oth{K T O k c b v}(h:Rep K T O (.oth k c b) v): ∃a d,v= .ref a/\(¬O a/\OthB K (T a) k c b d)/\RepL K T O b d:=by rwa [Rep] at h
def Rep.mkOth{K T O k c b a us}(n: ¬O a)(h:OthB K (T a) k c b us)(r:RepL K T O b us):Rep K T O (.oth k c b) (.ref a):=by rw[Rep];exact⟨a,us,rfl,⟨n,h⟩,r⟩
def Rep.mkTup{K T O l a xs}(h:SqTO K T O a xs)(r:RepL K T O l xs):Rep K T O (.tup l) (.ref a):=by rw[Rep];exact⟨a,xs,rfl,h,r⟩
def Rep.mkLst{K T O l a xs}(h:SqLO K T O a xs)(r:RepL K T O l xs):Rep K T O (.lst l) (.ref a):=by rw[Rep];exact⟨a,xs,rfl,h,r⟩
theorem RepL.length{K T O}: ∀{l:List D} {a:List V},RepL K T O l a->Ix a=Ix l
 |[],a,h=>by rw[RepL] at h;rw[h];rfl
 |d::l,a,h=>by rw[RepL] at h;obtain⟨v,r,rfl,_,b⟩:=h;simp[RepL.length b]
theorem RepL.get{K T O}: ∀{l:List D} {a:List V} {i:Nat} {d:D},RepL K T O l a->l[i]?=Y d-> ∃v,a[i]?=Y v/\Rep K T O d v
 |[],_,_,_,_,e=>by simp at e
 |d::l,a,0,b,h,e=>by rw[RepL] at h;obtain⟨v,r,rfl,h1,_⟩:=h;simp at e;subst e;exact⟨v,rfl,h1⟩
 |d::l,a,i+1,b,h,e=>by rw[RepL] at h;obtain⟨v,r,rfl,_,c⟩:=h;obtain⟨w,f,g⟩:=RepL.get (i:=i) c (by simpa using e);exact⟨w,by simpa using f,g⟩
def RepL.append{K T O}: ∀{l m:List D} {a c:List V},RepL K T O l a->RepL K T O m c->RepL K T O (l++m) (a++c):=by
 intro g
 induction g with
 |nil=>intro _ a _ h b;rw[RepL] at h;subst h;exact b
 |cons d l f=>intro _ a _ h b;rw[RepL] at h;obtain⟨v,r,rfl,h1,e⟩:=h;show RepL K T O (d::(l++_)) _;rw[RepL];exact⟨v,_,rfl,h1,f e b⟩
def RepL.one{K T O}{d:D}{v:V}(h:Rep K T O d v):RepL K T O [d] [v]:=by rw[RepL];exact⟨v,[],rfl,h,by rw[RepL]⟩
def RepL.nil{K T O}:RepL K T O [] []:=by rw[RepL]
def RepL.cons{K T O}{l a}(h:Rep K T O d v)(h':RepL K T O l a):RepL K T O (d::l) (v::a):=by rw[RepL];exact⟨v,a,rfl,h,h'⟩
theorem RepL.take{K T O}: ∀{l:List D} {a:List V} (n:Nat),RepL K T O l a->RepL K T O (l.take n) (a.take n)
 |_,_,0,_=>by simp[RepL]
 |[],a,n+1,h=>by rw[RepL] at h;subst h;simp[RepL]
 |d::l,a,n+1,h=>by rw[RepL] at h;obtain⟨v,r,rfl,h1,b⟩:=h;exact RepL.cons h1<|RepL.take n b
theorem RepL.drop{K T O}: ∀{l:List D} {a:List V} (n:Nat),RepL K T O l a->RepL K T O (l.drop n) (a.drop n)
 |_,_,0,h=>h
 |[],a,n+1,h=>by rw[RepL] at h;subst h;simp[RepL]
 |d::l,a,n+1,h=>by rw[RepL] at h;obtain⟨v,r,rfl,h1,b⟩:=h;exact RepL.drop n b
theorem RepL.set{K T O}{d:D}{v:V}(hv:Rep K T O d v): ∀{l:List D} {a:List V} (i:Nat),RepL K T O l a->RepL K T O (l.set i d) (a.set i v)
 |[],a,i,h=>by rw[RepL] at h;subst h;simp[RepL]
 |e::l,a,0,h=>by rw[RepL] at h;obtain⟨w,r,rfl,h1,b⟩:=h;exact RepL.cons hv b
 |e::l,a,i+1,h=>by rw[RepL] at h;obtain⟨w,r,rfl,h1,b⟩:=h;exact RepL.cons h1<|RepL.set hv i b
abbrev Sl:=Option<|D×Bool
abbrev Dn:=List Sl
def OwnA(b:L2.St)(δ:Dn)(a:hV):Prop:= ∃(i:Nat) (d:D),δ[i]?=Y (Y (d,U))/\b[i]?=Y (Y<|V.ref a)
def OwnOk(K:iM)(T:Hp)(O:AP'):D->hV->Prop
 | .lst l,a=> ∃d,T a=Y (.lst d)/\RepL K T O l d
 | .oth k e c,a=> ∃b,OthB K (T a) k e c b/\RepL K T O c b
 |_,_=>False
def OwnOk.mono{K T c}(h:OwnOk K T O d a)(k: ∀b o,T b=Y o-> ¬O b->c b=Y o)(f: ∀b,T b≠J->i b->O b)(g: ∀o,T a=Y o->c a=Y o):OwnOk K c i d a:=by
 cases d with
 |lst l=>obtain⟨m,e,r⟩:=h;exact⟨m,g _ e,RepL.mono k f r⟩
 |oth n p q=>obtain⟨j,e,r⟩:=h;exact⟨j,e.keep g,RepL.mono k f r⟩
 |_=>exact h
def OwnOk.rep{K T}(h:OwnOk K T O d a)(g: ¬c a)(f: ∀b,T b≠J->c b->O b):Rep K T c d (.ref a):=by
 cases d with
 |lst l=>obtain⟨i,e,r⟩:=h;rw[Rep];exact⟨a,i,rfl,.inl ⟨.inl e,g⟩,RepL.mono (λb o e _=>e) f r⟩
 |oth j k n=>obtain⟨m,e,r⟩:=h;exact Rep.mkOth g e<|RepL.mono (λb o e _=>e) f r
 |_=>exact h.elim
def Ow:Option HO->Prop
 |none=>False
 |some (.tup _)=>False
 |_=>True
def Ow.ne{o:Option HO}(h:Ow o):o≠J:=λe=>by rw[e] at h;exact h
def Ow.up{o a:Option HO}(h:Ow o)(k: ∀x,o=Y x->a=Y x):Ow a:=by
 cases o with
 |none=>exact h.elim
 |some x=>rw[k x I];exact h
def nOw{o:Option HO}(h:o=J): ¬Ow o:=λz=>z.ne h
def OwnOk.ow{K T}{O:AP'}{d:D}{a:hV}(h:OwnOk K T O d a):Ow (T a):=by
 cases d with
 |lst l=>obtain⟨g,e,_⟩:=h;rw[e];trivial
 |oth k b f=>
  obtain⟨c,e,_⟩:=h
  cases k with
  |dct=>rcases e with⟨_,e,_⟩|⟨_,e,_⟩<;>(rw[e];trivial)
  |set=>obtain⟨_,_,e,_⟩:=e;rw[e];trivial
  |exc Q=>obtain⟨_,_,e,_⟩:=e;rw[e];trivial
  |_=>exact e.elim
 |_=>exact h.elim
structure ER(K:iM)(H:Hp)(T:AP')(σ:L2.St)(δ:Dn):Prop where
 len:(Ix σ)=Ix δ
 val: ∀(i:Nat) (d:D),δ[i]?=FM (FM (d,Go))-> ∃v,σ[i]?=FM (FM v)/\Rep K H (λa=>OwnA σ δ a\/T a) d v
 own: ∀(i:Nat) (d:D),δ[i]?=FM (FM (d,Gc))-> ∃a,σ[i]?=FM (FM<|V.ref a)/\OwnOk K H (λa=>OwnA σ δ a\/T a) d a
 inj: ∀(i j:Nat) (d e:D) (a:hV),δ[i]?=FM (FM (d,Gc))->δ[j]?=FM (FM (e,Gc))->σ[i]?=FM (FM<|V.ref a)->σ[j]?=FM (FM<|V.ref a)->i=j
 nT: ∀a,OwnA σ δ a-> ¬T a
 dom: ∀a,T a->Ow (H a)
def ER.ownOw{K Q T σ e}(E:ER K Q T σ e)(h:OwnA σ e a):Ow (Q a):=by obtain⟨i,d,h1,f⟩:=h;obtain⟨b,c,g⟩:=E.own i d h1;rw[f] at c;cases c;exact g.ow
def ER.ownDom{K Q T σ δ}(E:ER K Q T σ δ)(h:OwnA σ δ a):Q a≠J:=(E.ownOw h).ne
def ER.mono{K Q c σ δ}(E:ER K Q T σ δ)(k: ∀b o,Q b=Y o-> ¬T b->c b=Y o)(g: ∀b,Q b≠J->T' b->T b)(hd: ∀a,T' a->Ow (c a)):ER K c T' σ δ where
 len:=E.len
 val:=λi d h=>by obtain⟨v,h1,f⟩:=E.val i d h;exact⟨v,h1,Rep.mono (λb o e n=>k b o e λz=>n<|.inr z) (λb j z=>z.elim .inl λz=> .inr (g b j z)) f⟩
 own:=λi d h=>by obtain⟨a,h1,f⟩:=E.own i d h;exact⟨a,h1,f.mono (λb o e n=>k b o e λz=>n<|.inr z) (λb j z=>z.elim .inl λz=> .inr (g b j z)) λo e=>k a o e<|E.nT a ⟨i,d,h,h1⟩⟩
 inj:=E.inj
 nT:=λa h z=>E.nT a h<|g a (E.ownDom h) z
 dom:=hd
def OwnA.set(h:OwnA σ (δ.set i<|Y (d,C)) a):OwnA σ δ a:=by
 obtain⟨j,e,h1,b⟩:=h;rw[Eg] at h1;split at h1
 .split at h1<;>simp at h1
 .exact⟨j,e,h1,b⟩
def ER.freeze{K Q T σ m}(E:ER K Q T σ m){i:Nat}{d:D}{b:Bool}(h:m[i]?=Y (Y (d,b))):ER K Q T σ (m.set i<|Y (d,C))/\ ∃v,σ[i]?=Y (Y v)/\Rep K Q (λa=>OwnA σ (m.set i<|Y (d,C)) a\/T a) d v:=by
 have o:i<(Ix m):=(xN.mp h).1
 have p: ∃v,σ[i]?=Y (Y v)/\Rep K Q (λa=>OwnA σ (m.set i<|Y (d,C)) a\/T a) d v:=by
  cases b with
  |false=>obtain⟨v,h1,l⟩:=E.val i d h;exact⟨v,h1,Rep.mono (λ_ _ e _=>e) (λb _ z=>z.elim (λz=> .inl z.set) .inr) l⟩
  |true=>
   obtain⟨a,h1,l⟩:=E.own i d h;refine⟨.ref a,h1,l.rep (λz=>?_) λb _ z=>z.elim (λz=> .inl z.set) .inr⟩;rcases z with⟨j,e,n,q⟩|z
   .rw[Eg] at n;split at n
    .first
      |(split at n<;>simp at n)
      |simp at n
    .rename_i r;exact r<|E.inj i j d e a h n h1 q
   .exact E.nT a ⟨i,d,h,h1⟩ z
 refine⟨⟨by rw[sD];exact E.len,λj e c=>?_,λj e c=>?_,λj k e f a c hk h1 l=>?_,λa z=>E.nT a z.set,E.dom⟩,p⟩
 .by_cases g:i=j
  .subst g;rw[wj o] at c;cases c;exact p
  .rw[tU g] at c;obtain⟨v,h1,l⟩:=E.val j e c;exact⟨v,h1,Rep.mono (λ_ _ e _=>e) (λb _ z=>z.elim (λz=> .inl z.set) .inr) l⟩
 .by_cases g:i=j
  .subst g;rw[wj o] at c;cases c
  .rw[tU g] at c;obtain⟨a,h1,l⟩:=E.own j e c;exact⟨a,h1,l.mono (λ_ _ e _=>e) (λb _ z=>z.elim (λz=> .inl z.set) .inr) λ_ e=>e⟩
 .have g1:m[j]?=Y (Y (e,U)):=by
   by_cases g:i=j
   .subst g;rw[wj o] at c;cases c
   .rwa [tU g] at c
  have g2:m[k]?=Y (Y (f,U)):=by
   by_cases g:i=k
   .subst g;rw[wj o] at hk;cases hk
   .rwa [tU g] at hk
  exact E.inj j k e f a g1 g2 h1 l
def OwnI(b:L2.St)(δ:Dn)(i:Nat)(a:hV):Prop:= ∃d:D,δ[i]?=Y (Y (d,U))/\b[i]?=Y (Y<|V.ref a)
structure Keep(σ:L2.St)(δ:Dn)(H:Hp)(δ':Dn)(H':Hp):Prop where
 kp: ∀a o,H a=FM o-> ¬OwnA σ δ a->H' a=FM o
 owi: ∀i a,OwnI σ δ' i a->OwnI σ δ i a
 dm: ∀a,H a≠F2->H' a≠F2
def Keep.ow{σ c T b f}(k:Keep σ c T b f)(a:hV)(h:OwnA σ b a):OwnA σ c a:=by obtain⟨i,d,h1,g⟩:=h;obtain⟨e,j,l⟩:=k.owi i a ⟨d,h1,g⟩;exact⟨i,e,j,l⟩
def Keep.refl{σ a T}:Keep σ a T a T:=⟨λ_ _ e _=>e,λ_ _ z=>z,λ_ z=>z⟩
def Keep.trans{σ δ δ1 δ2 T H1 b}(x:Keep σ δ T δ1 H1)(y:Keep σ δ1 H1 δ2 b):Keep σ δ T δ2 b:=
 ⟨λa o e n=>y.kp a o (x.kp a o e n) λz=>n<|x.ow a z,λi a z=>x.owi i a<|y.owi i a z,λa z=>y.dm a<|x.dm a z⟩
def Keep.ext{σ δ T H1}(k: ∀a o,T a=Y o->H1 a=Y o):Keep σ δ T δ H1:=⟨λa o e _=>k a o e,λ_ _ z=>z,λa z=>by
 cases h:T a with
 |none=>exact absurd h z
 |some o=>rw[k a o h];simp⟩
def OwnI.set(h:OwnI σ (δ.set i<|Y (d,C)) j a):OwnI σ δ j a:=by
 obtain⟨e,h1,b⟩:=h;rw[Eg] at h1;split at h1
 .split at h1<;>simp at h1
 .exact⟨e,h1,b⟩
def Keep.set{σ δ T i d}:Keep σ δ T (δ.set i<|Y (d,C)) T:=⟨λ_ _ e _=>e,λ_ _ z=>z.set,λ_ z=>z⟩
def Post(K:iM)(T:AP')(e:L2.St)(f:Dn)(Q:Hp)(r:D×Bool)(b:Dn)(v:V)(c:Hp):Prop:=
 Keep e f Q b c/\
 match r with
 |(d,C)=>ER K c T e b/\Rep K c (λa=>OwnA e b a\/T a) d v
 |(d,U)=> ∃p,v= .ref p/\Q p=J/\ER K c (λa=>T a\/a=p) e b/\OwnOk K c (λa=>OwnA e b a\/T a\/a=p) d p
abbrev F:=Dn->Option ((D×Bool)×Dn)
def tF(K:iM)(f:F):TE:=λd O Q=> ∃b T r a,ER K O T d b/\f b=Y (r,a)/\ ∀v c,Post K T d b O r a v c->Q v c
def PX(X:Cx)(e:iA)(f:F):Prop:=PE X e<|tF X.K f
noncomputable def Tmp(T:AP')(r:D×Bool)(v:V):AP':=λa=>T a\/(r.2=U/\v= .ref a)
section
variable {K:iM}{T:AP'}{c:L2.St}{δ δ1 δ2:Dn}{H f g:Hp}{x y:D×Bool}{v u:V}
def Post.er(E:ER K H T c δ)(P:Post K T c δ H x δ1 v f):ER K f (Tmp T x v) c δ1:=by
 obtain⟨d,b⟩:=x
 cases b with
 |false=>
  refine P.2.1.mono (λ_ _ e _=>e) (λb _ z=>z.elim id λz=>absurd z.1<|by simp) λa z=>?_;rcases z with z|z
  .exact P.2.1.dom a z
  .exact absurd z.1 (by simp)
 |true=>
  obtain⟨p,rfl,i,h,j⟩:=P.2;refine h.mono (λ_ _ e _=>e) (λb _ z=>z.elim .inl λz=> .inr (by have:=z.2;cases this;rfl)) λa z=>?_;rcases z with z|z
  .exact h.dom a (.inl z)
  .have:=z.2;cases this;exact h.dom _ (.inr I)
def Post.rep(E:ER K H T c δ)(P:Post K T c δ H x δ1 v f):ER K f T c δ1/\Rep K f (λa=>OwnA c δ1 a\/T a) x.1 v:=by
 obtain⟨d,b⟩:=x
 cases b with
 |false=>exact P.2
 |true=>
  obtain⟨p,rfl,i,h,j⟩:=P.2;refine⟨h.mono (λ_ _ e _=>e) (λb _ z=> .inl z) λa z=>h.dom a<|.inl z,j.rep (λz=>?_) λb _ z=>z.elim .inl λz=> .inr (.inl z)⟩;rcases z with z|z
  .exact h.nT p z (.inr I)
  .exact(E.dom p z).ne i
def Post.val(k:Keep c δ H δ2 g)(E:ER K g T c δ2)(r:Rep K g (λa=>OwnA c δ2 a\/T a) d w):Post K T c δ H (d,C) δ2 w g:=⟨k,E,r⟩
end
def iQ{e f:Type}{a c:e}{b d:f}(h:Y (a,b)=Y (c,d)):a=c/\b=d:=by cases h;exact⟨rfl,rfl⟩
noncomputable def fC(d:D):F:=λδ=>Y ((d,C),δ)
noncomputable def iI(i:Nat):F:=λδ=>match δ[i]? with
 |some (Y (d,_))=>Y ((d,C),δ.set i<|Y (d,C))
 |_=>J
section
variable {X:Cx}{a b c:iA}{g:bC}{n m l:F}
def PX.imp(h:PE X e t)(k: ∀i T Q,tF X.K f i T Q->t i T Q):PX X e f:=λd s i T Q O j=>h d s i T Q O<|k i T Q j
def Vh{i j}:PX X (.Constant (.int i) j g) (fC<|.int i):=PX.imp Of λo O Q h=>by obtain⟨f,T,r,d,E,e,k⟩:=h;cases e;exact k _ _ (Post.val .refl E (by first|exact Rep.mkInt|exact Rep.mkBl|exact Rep.mkNon|exact Rep.mkStr))
def Xm{i j}:PX X (.Constant (.bool i) j g) (fC<|.bl i):=PX.imp Xr λo O Q h=>by obtain⟨f,T,r,d,E,e,k⟩:=h;cases e;exact k _ _ (Post.val .refl E (by first|exact Rep.mkInt|exact Rep.mkBl|exact Rep.mkNon|exact Rep.mkStr))
def Vc{j}:PX X (.Constant .none j g) (fC .non):=PX.imp VE λi O Q h=>by obtain⟨f,T,r,d,E,e,k⟩:=h;cases e;exact k _ _ (Post.val .refl E (by first|exact Rep.mkInt|exact Rep.mkBl|exact Rep.mkNon|exact Rep.mkStr))
def U6{i j}:PX X (.Constant (.str i) j g) (fC<|.str i):=PX.imp VB λo O Q h=>by obtain⟨f,T,r,d,E,e,k⟩:=h;cases e;exact k _ _ (Post.val .refl E (by first|exact Rep.mkInt|exact Rep.mkBl|exact Rep.mkNon|exact Rep.mkStr))
def U4{i:Nat}{x:aW}(s:X.N[i]?=Y x)(hv:Vis X.env.scope x)(hd:(x==("__debug__":aW))=C)(t:(x==("__classdict__":aW))=C):PX X (.Name x g) (iI i):=PX.imp (Ie s hv hd t) λy O Q h=>by
 obtain⟨u,T,r,w,E,e,k⟩:=h;unfold iI at e
 cases f:u[i]? with
 |none=>rw[f] at e;cases e
 |some o=>
  cases o with
  |none=>rw[f] at e;cases e
  |some p=>obtain⟨d,b⟩:=p;rw[f] at e;cases e;obtain⟨j,v,h1,q⟩:=E.freeze f;exact⟨v,h1,k v O<|Post.val .set j q⟩
end
inductive Opd where
 |val(r:D×Bool)|slot(i:Nat)
noncomputable def res(δ:Dn):Opd->Option D
 | .val r=>Y r.1
 | .slot i=>match δ[i]? with
  |some (Y (d,_))=>Y d
  |_=>J
def kj(K:iM)(T:Hp)(O:AP')(d:D)(v:V):Prop:=Rep K T O d v\/ ∃a,v= .ref a/\OwnOk K T O d a
abbrev FO:=Dn->Option (Opd×Dn)
def PostO(K:iM)(T:AP')(b:L2.St)(d:Dn)(Q:Hp)(o:Opd)(a:Dn)(v:V)(c:Hp):Prop:=
 match o with
 | .val r=>Post K T b d Q r a v c
 | .slot i=>Keep b d Q a c/\ER K c T b a/\b[i]?=Y (Y v)
noncomputable def Cj(T:AP')(o:Opd)(v:V):AP':=match o with
 | .val r=>Tmp T r v
 | .slot _=>T
def tO(K:iM)(f:FO):TE:=λd O Q=> ∃b T o a,ER K O T d b/\f b=Y (o,a)/\ ∀v c,PostO K T d b O o a v c->Q v c
def PO(X:Cx)(e:iA)(f:FO):Prop:=PE X e<|tO X.K f
noncomputable def hG(f:F):FO:=λδ=>(f δ).bind λp=>Y (.val p.1,p.2)
noncomputable def gZ(i:Nat):FO:=λδ=>match δ[i]? with
 |some (Y _)=>Y (.slot i,δ)
 |_=>J
def PE.imp'(h:PE X e t)(k: ∀b T Q,d b T Q->t b T Q):PE X e d:=λa s b T Q O c=>h a s b T Q O<|k b T Q c
section
variable {X:Cx}{a:bC}
def PX.po(h:PX X e f):PO X e (hG f):=PE.imp' h λj O Q g=>by
 obtain⟨c,T,o,i,E,e,k⟩:=g;unfold hG at e
 cases h1:f c with
 |none=>rw[h1] at e;cases e
 |some p=>obtain⟨r,b⟩:=p;rw[h1] at e;obtain⟨rfl,rfl⟩:=iQ e;exact⟨c,T,r,b,E,h1,λv d P=>k v d P⟩
def Vw{i:Nat}{x:aW}(f:X.N[i]?=Y x)(hv:Vis X.env.scope x)(hd:(x==("__debug__":aW))=C)(g:(x==("__classdict__":aW))=C):PO X (.Name x a) (gZ i):=PE.imp' (Ie f hv hd g) λr O Q h=>by
 obtain⟨j,T,o,l,E,e,k⟩:=h;unfold gZ at e
 cases c:j[i]? with
 |none=>rw[c] at e;cases e
 |some q=>
  cases q with
  |none=>rw[c] at e;cases e
  |some p=>obtain⟨d,b⟩:=p;rw[c] at e;obtain⟨rfl,rfl⟩:=iQ e;obtain⟨m,v,h1,n⟩:=E.freeze c;exact⟨v,h1,k v O ⟨.refl,E,h1⟩⟩
end
structure Ops(K:iM)(T:AP')(σ:L2.St)(δ:Dn)(H:Hp)(os:List Opd)(vs:List V)(δ':Dn)(H':Hp)(T':AP'):Prop where
 len:os.length=Ix vs
 keep:Keep σ δ H δ' H'
 er:ER K H' T' σ δ'
 tt: ∀a,T a->T' a
 val: ∀(j:Nat) (d:D) (v:V),os[j]?=FM (.val (d,Go))->vs[j]?=FM v->Rep K H' (λa=>OwnA σ δ' a\/T a) d v
 tmp: ∀(j:Nat) (d:D) (v:V),os[j]?=FM (.val (d,Gc))->vs[j]?=FM v-> ∃p,v= .ref p/\T' p/\H p=F2/\OwnOk K H' (λa=>OwnA σ δ' a\/T a) d p
 slt: ∀(j i:Nat) (v:V),os[j]?=FM (.slot i)->vs[j]?=FM v->σ[i]?=FM (FM v)
section
variable {K:iM}{T T':AP'}{b:L2.St}{δ a c:Dn}{H H' f:Hp}{os:List Opd}{e:List V}{o:Opd}{v:V}
def Ops.nil(E:ER K H T b δ):Ops K T b δ H [] [] δ H T:=⟨rfl,.refl,E,λ_ z=>z,λj d v h=>by simp at h,λj d v h=>by simp at h,λj i v h=>by simp at h⟩
def PostO.keep(P:PostO K T b δ H o a v H'):Keep b δ H a H':=by
 cases o with
 |val r=>exact P.1
 |slot i=>exact P.1
def PostO.er(E:ER K H T b δ)(P:PostO K T b δ H o a v H'):ER K H' (Cj T o v) b a:=by
 cases o with
 |val r=>exact Post.er E P
 |slot i=>exact P.2.1
end
def Gen(K:iM)(T:Hp)(O:AP')(z:D×Bool)(Q:VK):Prop:=
 match z with
 |(d,C)=> ∀w b,(∀a o,T a=Y o->b a=Y o)->Rep K b O d w->Q w b
 |(d,U)=> ∀p b,T p=J->(∀a o,T a=Y o->b a=Y o)->OwnOk K b (λa=>O a\/a=p) d p->Q (.ref p) b
section
variable {K:iM}{T s:AP'}{f:L2.St}{δ δ1 c δ2:Dn}{H t H' h:Hp}{os:List Opd}{m:List V}{o:Opd}{v:V}{z:D×Bool}{Q:VK}
def Ops.cons(E:ER K H T f δ)(P:PostO K T f δ H o δ1 v t)(B:Ops K (Cj T o v) f δ1 t os m δ2 h s):Ops K T f δ H (o::os) (v::m) δ2 h s:=by
 have N:=P.er E;have y:=B.keep.kp;have A:=B.keep.ow
 have u: ∀a,T a->Cj T o v a:=λa z=>by
  cases o with
  |val r=>exact .inl z
  |slot i=>exact z
 refine⟨by simp[B.len],P.keep.trans B.keep,B.er,λa z=>B.tt a<|u a z,λj d w h1 g=>?_,λj d w h1 g=>?_,λj i w h1 g=>?_⟩
 .cases j with
  |zero=>simp at h1 g;subst h1;subst g;have q:Post K T f δ H (d,C) δ1 v t:=P;exact Rep.mono (λb k e n=>y b k e λz=>n<|.inl z) (λb _ z=>z.elim (λz=>bn<|A b z) bt) (q.rep E).2
  |succ j=>exact Rep.mono (λ_ _ e _=>e) (λb _ z=>z.elim bn λz=>bt<|u b z)<|B.val j d w (by simpa using h1) (by simpa using g)
 .cases j with
  |zero=>simp at h1 g;subst h1;subst g;have q:Post K T f δ H (d,U) δ1 v t:=P;obtain⟨p,rfl,x,L,ok⟩:=q.2;have l:Cj T (.val (d,U)) (V.ref p) p:= .inr ⟨rfl,rfl⟩;refine⟨p,rfl,B.tt p l,x,ok.mono (λb k e n=>y b k e λz=>n<|.inl z) (λb _ z=>z.elim (λz=>bn<|A b z) λz=>bt<|bn z) λk e=>y p k e λz=>N.nT p z l⟩
  |succ j=>
   obtain⟨p,rfl,l,x,ok⟩:=B.tmp j d w (by simpa using h1) (by simpa using g);refine⟨p,rfl,l,?_,ok.mono (λ_ _ e _=>e) (λb _ z=>z.elim bn λz=>bt<|u b z) λ_ e=>e⟩
   cases O:H p with
   |none=>rfl
   |some k=>exact absurd x<|P.keep.dm p (by rw[O];simp)
 .cases j with
  |zero=>simp at h1 g;subst h1;subst g;exact P.2.2
  |succ j=>exact B.slt j i w (by simpa using h1) (by simpa using g)
def Ops.view(B:Ops K T f δ H os m c H' s){j:Nat}{d:D}(h1:os[j]?=Y o)(n:m[j]?=Y v)(g:res c o=Y d):kj K H' (λa=>OwnA f c a\/T a) d v:=by
 cases o with
 |val r=>
  obtain⟨e,b⟩:=r;have hd:e=d:=kP g;subst hd
  cases b with
  |false=>exact .inl<|B.val j e v h1 n
  |true=>obtain⟨p,rfl,_,_,ok⟩:=B.tmp j e v h1 n;exact .inr ⟨p,rfl,ok⟩
 |slot i=>
  have x:=B.slt j i v h1 n;unfold res at g;dsimp only at g
  cases l:c[i]? with
  |none=>rw[l] at g;cases g
  |some q=>
   cases q with
   |none=>rw[l] at g;cases g
   |some p=>
    obtain⟨e,b⟩:=p;rw[l] at g;have hd:e=d:=kP g;subst hd
    cases b with
    |false=>obtain⟨w,k,u⟩:=B.er.val i e l;rw[x] at k;cases k;exact .inl<|Rep.mono (λ_ _ e _=>e) (λb _ z=>z.elim bn λz=>bt<|B.tt b z) u
    |true=>obtain⟨a,k,u⟩:=B.er.own i e l;rw[x] at k;cases k;exact .inr ⟨a,rfl,u.mono (λ_ _ e _=>e) (λb _ z=>z.elim bn λz=>bt<|B.tt b z) λ_ e=>e⟩
def Ops.done(B:Ops K T f δ H os m c H' s)(k: ∀v h,Post K T f δ H z c v h->Q v h):Gen K H' (λa=>OwnA f c a\/T a) z Q:=by
 obtain⟨d,b⟩:=z;have i: ∀{h:Hp},(∀a o,H' a=Y o->h a=Y o)-> ∀a,T a->Ow (h a):=λ{h} g a z=>(B.er.dom a<|B.tt a z).up<|g a
 cases b with
 |false=>intro w h g r;exact k w h ⟨B.keep.trans<|.ext g,B.er.mono (λb o e _=>g b o e) (λb _ z=>B.tt b z)<|i g,r⟩
 |true=>
  intro p h l g ok
  have j:H p=J:=by
   cases n:H p with
   |none=>rfl
   |some u=>exact absurd l<|B.keep.dm p (by rw[n];simp)
  refine k (.ref p) h ⟨B.keep.trans<|.ext g,p,rfl,j,B.er.mono (λb o e _=>g b o e) (λb q z=>z.elim (B.tt b) λz=>absurd (z▸l) q) λa z=>?_,ok.mono (λ_ _ e _=>e) (λb _ z=>?_) λ_ e=>e⟩
  .rcases z with z|z
   .exact i g a z
   .subst z;exact ok.ow
  .rcases z with z|z|z
   .exact bn (bn z)
   .exact bn (bt z)
   .exact bt z
def Gen.int(g:Gen K H O (.int i,C) Q):Q (.int i) H:=g _ H (λ_ _ e=>e) Rep.mkInt
def Gen.bl(g:Gen K H O (.bl i,C) Q):Q (.bl i) H:=g _ H (λ_ _ e=>e) Rep.mkBl
def lS{H:Hp}{p:hV}{o:HO}(b:H p=J): ∀a u,H a=Y u->upd H p o a=Y u:=λa u e=>by rw[jk (by intro z;subst z;rw[e] at b;cases b)];exact e
def Gen.lst{O:AP'}{l:List D}{xs:List V}{p:hV}(g:Gen K H O (.lst l,U) Q)(a:H p=J)(r:RepL K H O l xs):Q (.ref p) (upd H p<|.lst xs):=
 g p _ a (lS a) ⟨xs,jm,RepL.mono (λb o e _=>lS a b o e) (λb d z=>z.elim id λz=>absurd (z▸a) d) r⟩
def Gen.tup(g:Gen K H O (.tup l,C) Q)(a:H p=J)(np: ¬O p)(r:RepL K H O l xs):Q (.ref p) (upd H p<|.tup xs):=
 g _ _ (lS a) (Rep.mkTup ⟨jm,np⟩<|RepL.mono (λb o e _=>lS a b o e) (λb d z=>z) r)
def Ops.np(B:Ops K T f δ H os m c H' s)(a: ¬Ow (H' p)): ¬(OwnA f c p\/T p):=λz=>a<|z.elim (λz=>B.er.ownOw z) λz=>B.er.dom p<|B.tt p z
end
noncomputable def kN(g:D->Option (D×Bool))(a:FO):F:=λδ=>(a δ).bind λp=>(res p.2 p.1).bind λx=>(g x).bind λz=>Y (z,p.2)
noncomputable def ie(g:D->D->Option (D×Bool))(a fb:FO):F:=λδ=>(a δ).bind λp=>(fb p.2).bind λq=>(res q.2 p.1).bind λx=>(res q.2 q.1).bind λy=>(g x y).bind λz=>Y (z,q.2)
noncomputable def kx:List FO->Dn->Option (List Opd×Dn)
 |[],δ=>Y ([],δ)
 |f::fs,δ=>(f δ).bind λp=>(kx fs p.2).bind λq=>Y (p.1::q.1,q.2)
noncomputable def xg(a:Dn):List Opd->Option (List D)
 |[]=>Y []
 |o::os=>(res a o).bind λd=>(xg a os).bind λl=>Y (d::l)
noncomputable def ir(g:List D->Option (D×Bool))(fs:List FO):F:=λδ=>(kx fs δ).bind λp=>(xg p.2 p.1).bind λds=>(g ds).bind λz=>Y (z,p.2)
def tA(K:iM)(fs:List FO):TA:=λe O Q=> ∃b T os a,ER K O T e b/\kx fs b=Y (os,a)/\ ∀d c f,Ops K T e b O os d a c f->Q d c
section
variable {X:Cx}{e a b:iA}{m:kn}{i n:FO}{fs:List FO}{c:bC}
def hJ{d g:Type}{x:Option d}{f:d->Option g}{b:g}(h:x.bind f=Y b): ∃a,x=Y a/\f a=Y b:=by
 cases x with
 |none=>cases h
 |some a=>exact⟨a,rfl,h⟩
def ZW(K:iM)(r:V->Hp->VK->Prop)(g:D->Option (D×Bool)):Prop:=
 ∀x z v T (O:AP') (Q:VK),(∀p,¬Ow (T p)-> ¬O p)->kj K T O x v->g x=Y z->Gen K T O z Q->r v T Q
def WA(K:iM)(r:R2)(g:D->D->Option (D×Bool)):Prop:=
 ∀x y z v u T (O:AP') (Q:VK),(∀p,¬Ow (T p)-> ¬O p)->kj K T O x v->kj K T O y u->g x y=Y z->Gen K T O z Q->r v u T Q
def ZV(K:iM)(r:List V->Hp->VK->Prop)(g:List D->Option (D×Bool)):Prop:=
 ∀ds z f T (O:AP') (Q:VK),(∀p,¬Ow (T p)-> ¬O p)->Ix ds=Ix f->(∀(j:Nat) d v,ds[j]?=Y d->f[j]?=Y v->kj K T O d v)->g ds=Y z->Gen K T O z Q->r f T Q
def Va{r:V->Hp->VK->Prop}{g:D->Option (D×Bool)}(h:PE X e (tUn r<|tO X.K i))(u:ZW X.K r g):PX X e (kN g i):=PX.imp h λN O Q w=>by obtain⟨y,T,M,A,E,e,k⟩:=w;obtain⟨⟨o,d⟩,h1,e⟩:=hJ e;obtain⟨x,q,e⟩:=hJ e;obtain⟨z,s,e⟩:=hJ e;obtain⟨rfl,rfl⟩:=iQ e;refine⟨y,T,o,d,E,h1,λv l f=>?_⟩;have B:=Ops.cons E f<|Ops.nil<|f.er E;exact u x z v l _ Q (λp t=>B.np t) (B.view (j:=0) I I q) s (B.done k)
def U9{r:R2}{g:D->D->Option (D×Bool)}(h:PE X e (tOp r (tO X.K i)<|tO X.K n))(L:WA X.K r g):PX X e (ie g i n):=PX.imp h λY H Q O=>by obtain⟨J,T,U,M,E,e,k⟩:=O;obtain⟨⟨o,d⟩,h1,e⟩:=hJ e;obtain⟨⟨G,l⟩,t,e⟩:=hJ e;obtain⟨x,w,e⟩:=hJ e;obtain⟨y,A,e⟩:=hJ e;obtain⟨z,C,e⟩:=hJ e;obtain⟨rfl,rfl⟩:=iQ e;refine⟨J,T,o,d,E,h1,λv N f=>⟨d,Cj T o v,G,l,f.er E,t,λu s q=>?_⟩⟩;have B:=Ops.cons E f<|Ops.cons (f.er E) q<|Ops.nil<|q.er<|f.er E;exact L x y z v u s _ Q (λp I=>B.np I) (B.view (j:=0) H8 H8 w) (B.view (j:=1) H8 H8 A) C (B.done k)
def xZ:PA X [] (tA X.K []):=λc d s g O Q N h=>by obtain⟨j,T,os,f,E,e,k⟩:=h;obtain⟨rfl,rfl⟩:=iQ e;exact uP c d s g O Q N<|k [] O T<|Ops.nil E
def rK(t:PO X e i)(u:PA X m (tA X.K fs))(w:ac (e::m) X.env=(C,aM e X.env)::ac m X.env):PA X (e::m) (tA X.K (i::fs)):=λc d s z O Q N h=>by obtain⟨x,T,os,y,E,e,k⟩:=h;unfold kx at e;obtain⟨⟨o,f⟩,h1,e⟩:=hJ e;obtain⟨⟨g,j⟩,r,e⟩:=hJ e;obtain⟨rfl,rfl⟩:=iQ e;exact pB t u w c d s z O Q N ⟨x,T,o,f,E,h1,λv A l=>⟨f,Cj T o v,g,j,l.er E,r,λM p q B=>k _ p q (Ops.cons E l B)⟩⟩
def qc{k:Dn}: ∀{os:List Opd} {f:List D},xg k os=Y f->Ix f=os.length/\ ∀(j:Nat) d,f[j]?=Y d-> ∃o,os[j]?=Y o/\res k o=Y d:=by
 intro t
 induction t with
 |nil=>intro f h;cases h;exact⟨rfl,λj d h=>by simp at h⟩
 |cons o os s=>
  intro f h;unfold xg at h;obtain⟨d,h1,h⟩:=hJ h;obtain⟨l,p,h⟩:=hJ h;cases h;obtain⟨q,r⟩:=s p;refine⟨by simp[q],λj e g=>?_⟩
  cases j with
  |zero=>simp at g;subst g;exact⟨o,rfl,h1⟩
  |succ j=>obtain⟨u,v,w⟩:=r j e (by simpa using g);exact⟨u,by simpa using v,w⟩
def RA{r:List V->Hp->VK->Prop}{g:List D->Option (D×Bool)}(h:PE X e (tCB r<|tA X.K fs))(C:ZV X.K r g):PX X e (ir g fs):=PX.imp h λN H Q I=>by obtain⟨O,T,M,G,E,e,k⟩:=I;obtain⟨⟨os,l⟩,h1,e⟩:=hJ e;obtain⟨s,t,e⟩:=hJ e;obtain⟨z,u,e⟩:=hJ e;obtain⟨rfl,rfl⟩:=iQ e;obtain⟨w,x⟩:=qc t;refine⟨O,T,os,l,E,h1,λL q J B=>?_⟩;refine C s z L q _ Q (λp A=>B.np A) (w.trans B.len) (λj d v hd hv=>?_) u (B.done k);obtain⟨o,y,f⟩:=x j d hd;exact B.view y hv f
end
open PySem.SeqAt
mutual
/-- ==of data -/
noncomputable def D.eqb:D->D->Bool
 | .non,.non=>U
 | .bl a,.bl b=>a==b
 | .bl a,.int b=>(if a then 1 else 0)==b
 | .int a,.bl b=>a==(if b then 1 else 0)
 | .int a,.int b=>a==b
 | .str a,.str b=>a==b
 | .tup l,.tup m=>D.eqbL l m
 | .lst l,.lst m=>D.eqbL l m
 | .oth _ _ _,.oth _ _ _=>U
 |_,_=>C
noncomputable def D.eqbL:List D->List D->Bool
 |[],[]=>U
 |a::l,b::m=>D.eqb a b&&D.eqbL l m
 |_,_=>C
end
mutual
noncomputable def D.dep:D->Nat
 | .tup l=>D.depL l+1
 | .lst l=>D.depL l+1
 | .oth _ _ _=>20000
 |_=>0
noncomputable def D.depL:List D->Nat
 |[]=>0
 |d::l=>max (D.dep d)<|D.depL l
end
mutual
theorem D.eqb_refl: ∀d:D,D.eqb d d=U
 | .non=>rfl
 | .bl a=>by simp[D.eqb]
 | .int a=>by simp[D.eqb]
 | .str a=>by simp[D.eqb]
 | .tup l=>by rw[D.eqb];exact D.eqbL_refl l
 | .lst l=>by rw[D.eqb];exact D.eqbL_refl l
 | .oth _ _ _=>by rw[D.eqb]
theorem D.eqbL_refl: ∀l:List D,D.eqbL l l=U
 |[]=>rfl
 |d::l=>by rw[D.eqbL,D.eqb_refl d,D.eqbL_refl l];rfl
end
theorem D.dep_mem{d:D}: ∀{l:List D} {j:Nat},l[j]?=Y d->d.dep<=D.depL l
 |[],j,h=>by simp at h
 |e::l,0,h=>by simp at h;subst h;rw[D.depL];exact Nat.le_max_left _ _
 |e::l,j+1,h=>by rw[D.depL];exact ly (D.dep_mem<|by simpa using h)<|Nat.le_max_right _ _
noncomputable def ve(l m:List D)(j:Nat):Bool:=match l[j]?,m[j]? with
 |some d,Y e=>D.eqb d e
 |_,_=>U
theorem oD: ∀l m:List D,((aj<|min (Ix l)<|Ix m).all (ve l m)&&(Ix l)==Ix m)=D.eqbL l m
 |[],[]=>rfl
 |[],e::m=>by simp[D.eqbL]
 |d::l,[]=>by simp[D.eqbL]
 |d::l,e::m=>by
  rw[D.eqbL,<-oD l m];simp only[kI,Nat.succ_min_succ,dw,wN,dz,rh];have a:ve (d::l) (e::m) 0=D.eqb d e:=rfl;have h1:(λx=>ve (d::l) (e::m)<|Nat.succ x)=ve l m:=by funext x;simp[ve]
  rw[a];simp only[h1,m5]
  congr 2
  simp
section
variable {X:Cx}{pins:ji}{σ:L2.St}{H:Hp}{s:il}
def ma(h:kj X.K H O (.tup l) v): ∃a xs,v= .ref a/\SqT X.K H a xs/\RepL X.K H O l xs:=by
 rcases h with h|⟨a,rfl,h⟩
 .obtain⟨a,xs,e,q,r⟩:=h.tup;exact⟨a,xs,e,q.sq,r⟩
 .exact h.elim
def lg(h:kj X.K H O (.lst l) v): ∃a xs,v= .ref a/\SqL X.K H a xs/\RepL X.K H O l xs:=by
 rcases h with h|⟨a,rfl,h⟩
 .obtain⟨a,xs,e,q,r⟩:=h.lst;exact⟨a,xs,e,q.sq,r⟩
 .obtain⟨xs,e,r⟩:=h;exact⟨a,xs,rfl,.inl<|.inl e,r⟩
def RepL.views{O:AP'}{l:List D}{xs:List V}(r:RepL X.K H O l xs){j:Nat}{d:D}{v:V}(h1:l[j]?=Y d)(b:xs[j]?=Y v):Rep X.K H O d v:=by obtain⟨w,a,c⟩:=r.get h1;rw[b] at a;cases a;exact c
def Ot(T:Inv X pins σ H s)(h:OthB X.K (H a) k l i us): ∃o,s.heap.get? a=Y o/\(o.cls= .type "dict"\/o.cls= .type "set"\/ ∃Q,o.cls= .ref Q):=by
 cases k with
 |dct=>
  rcases h with⟨b,e,_⟩|⟨b,e,_⟩
  .obtain⟨_,_,i,_,o,d,g,h1,c,_⟩:=(show ObjOk X.prog X.w H s.heap a (.dK b) from T.hok a _ e)
   exact⟨o,h1,.inl c.1⟩
  .obtain⟨_,_,m,_,o,d,g,h1,c,_⟩:=(show ObjOk X.prog X.w H s.heap a (.dT b) from T.hok a _ e)
   exact⟨o,h1,.inl c.1⟩
 |set=>
  obtain⟨_,j,e,_⟩:=h;obtain⟨d,n,t,h1,_⟩:=(show ObjOk X.prog X.w H s.heap a (.stt j) from T.hok a _ e)
  exact⟨_,h1,.inr<|.inl I⟩
 |exc Q=>
  obtain⟨_,o,e,h1,_⟩:=h;obtain⟨f,_⟩:=(show ObjOk X.prog X.w H s.heap a (.frz o<|.own 0) from T.hok a _ e)
  exact⟨o,f,.inr<|.inr ⟨Q,h1⟩⟩
 |_=>exact h.elim
def FN(T:Inv X pins σ H s)(h1:SqT X.K H a xs)(f:SqL X.K H a k):False:=by obtain⟨g,_,⟨o,e,c,_⟩,_⟩:=T.tuple h1;obtain⟨h,_,⟨j,i,d,b,_⟩,_⟩:=T.list f;rw[e] at d;cases d;rw[c] at b;exact absurd b (by simp)
def Sa(T:Inv X pins σ H s)(h1:SqT X.K H a xs)(f:OthB X.K (H a) k h j us):False:=by obtain⟨g,_,⟨o,e,c,_⟩,_⟩:=T.tuple h1;obtain⟨i,d,b⟩:=Ot T f;rw[e] at d;cases d;rw[c] at b;rcases b with b|b|⟨Q,b⟩<;>exact absurd b (by simp)
def Sb(T:Inv X pins σ H s)(h1:SqL X.K H a xs)(f:OthB X.K (H a) k h j us):False:=by obtain⟨g,_,⟨o,n,e,c,_⟩,_⟩:=T.list h1;obtain⟨i,d,b⟩:=Ot T f;rw[e] at d;cases d;rw[c] at b;rcases b with b|b|⟨Q,b⟩<;>exact absurd b (by simp)
mutual
theorem Rep.inj(T:Inv X pins σ H s): ∀{d e:D} {v:V},d.dep<20000->Rep X.K H O d v->Rep X.K H u e v->d=e
 | .non,e,v,i,h,c=>by
  have:=h.non;subst this
  cases e with
  |non=>rfl
  |bl b=>have:=c.bl;cases this
  |int b=>have:=c.int;cases this
  |str b=>have:=c.str;cases this
  |tup m=>obtain⟨a,f,z,_⟩:=c.tup;cases z
  |lst m=>obtain⟨a,f,z,_⟩:=c.lst;cases z
  |oth m n o=>obtain⟨a,f,z,_⟩:=c.oth;cases z
 | .bl b,e,v,i,h,c=>by
  have:=h.bl;subst this
  cases e with
  |non=>have:=c.non;cases this
  |bl b=>have:=c.bl;cases this;rfl
  |int b=>have:=c.int;cases this
  |str b=>have:=c.str;cases this
  |tup m=>obtain⟨a,f,z,_⟩:=c.tup;cases z
  |lst m=>obtain⟨a,f,z,_⟩:=c.lst;cases z
  |oth m n o=>obtain⟨a,f,z,_⟩:=c.oth;cases z
 | .int b,e,v,i,h,c=>by
  have:=h.int;subst this
  cases e with
  |non=>have:=c.non;cases this
  |bl b=>have:=c.bl;cases this
  |int b=>have:=c.int;cases this;rfl
  |str b=>have:=c.str;cases this
  |tup m=>obtain⟨a,f,z,_⟩:=c.tup;cases z
  |lst m=>obtain⟨a,f,z,_⟩:=c.lst;cases z
  |oth m n o=>obtain⟨a,f,z,_⟩:=c.oth;cases z
 | .str b,e,v,i,h,c=>by
  have:=h.str;subst this
  cases e with
  |non=>have:=c.non;cases this
  |bl b=>have:=c.bl;cases this
  |int b=>have:=c.int;cases this
  |str b=>have:=c.str;cases this;rfl
  |tup m=>obtain⟨a,f,z,_⟩:=c.tup;cases z
  |lst m=>obtain⟨a,f,z,_⟩:=c.lst;cases z
  |oth m n o=>obtain⟨a,f,z,_⟩:=c.oth;cases z
 | .tup l,e,v,i,h,c=>by
  rw[D.dep] at i;obtain⟨a,f,rfl,q,r⟩:=h.tup
  cases e with
  |non=>have:=c.non;cases this
  |bl b=>have:=c.bl;cases this
  |int b=>have:=c.int;cases this
  |str b=>have:=c.str;cases this
  |tup m=>obtain⟨k,p,z,g,j⟩:=c.tup;cases z;have:=T.tuple_inj q.sq g.sq;subst this;rw[RepL.inj T (by lia) r j]
  |lst m=>obtain⟨k,p,z,g,j⟩:=c.lst;cases z;exact(FN T q.sq g.sq).elim
  |oth m n o=>obtain⟨k,t,z,g,j⟩:=c.oth;cases z;exact(Sa T q.sq g.2).elim
 | .lst l,e,v,i,h,c=>by
  rw[D.dep] at i;obtain⟨a,f,rfl,q,r⟩:=h.lst
  cases e with
  |non=>have:=c.non;cases this
  |bl b=>have:=c.bl;cases this
  |int b=>have:=c.int;cases this
  |str b=>have:=c.str;cases this
  |tup m=>obtain⟨k,p,z,g,j⟩:=c.tup;cases z;exact(FN T g.sq q.sq).elim
  |lst m=>obtain⟨k,p,z,g,j⟩:=c.lst;cases z;have:=T.list_inj q.sq g.sq;subst this;rw[RepL.inj T (by lia) r j]
  |oth m n o=>obtain⟨k,t,z,g,j⟩:=c.oth;cases z;exact(Sb T q.sq g.2).elim
 | .oth _ _ _,e,v,i,h,c=>by rw[D.dep] at i;lia
theorem RepL.inj(T:Inv X pins σ H s){O c:AP'}: ∀{l m:List D} {b:List V},D.depL l<20000->RepL X.K H O l b->RepL X.K H c m b->l=m
 |[],m,b,_,h,a=>by
  rw[RepL] at h;subst h
  cases m with
  |nil=>rfl
  |cons e m=>rw[RepL] at a;obtain⟨_,_,z,_⟩:=a;cases z
 |d::l,m,b,j,h,a=>by
  rw[D.depL] at j;rw[RepL] at h;obtain⟨v,r,rfl,h1,f⟩:=h
  cases m with
  |nil=>rw[RepL] at a;cases a
  |cons e m=>rw[RepL] at a;obtain⟨n,k,z,g,i⟩:=a;cases z;rw[Rep.inj T (by lia) h1 g,RepL.inj T (by lia) f i]
end
def yu(h:kj X.K H O d v)(hd:d.dep=0)(c: ∀l,d≠ .tup l)(b: ∀l,d≠ .lst l):Rep X.K H O d v:=by
 rcases h with h|⟨a,rfl,h⟩
 .exact h
 .cases d with
  |lst l=>exact absurd I<|b l
  |oth _ _ _=>rw[D.dep] at hd;lia
  |_=>exact h.elim
inductive Sh(X:Cx)(H:Hp)(s:il)(O:AP'):D->V->iC->Prop
 |non:Sh X H s O .non .non .none
 |bl (b:Bool):Sh X H s O (.bl b) (.bl b) (.bool b)
 |int (i:Int) (t:nL):Sh X H s O (.int i) (.int i) (.int i t)
 |str (x:aW) (t:nL):Sh X H s O (.str x) (.str x) (.str x t)
 |tup {l:List D} {p:hV} {xs:List V} {its:jN} (q:SqT X.K H p xs) (r:RepL X.K H O l xs) (v:Vals xs its) (pl:gz s.heap p its.toArray):Sh X H s O (.tup l) (.ref p) (.ref p)
 |lst {l:List D} {p:hV} {xs:List V} {its:jN} (q:SqL X.K H p xs) (r:RepL X.K H O l xs) (v:Vals xs its) (pl:s.heap.IsList p its.toArray):Sh X H s O (.lst l) (.ref p) (.ref p)
def vo(T:Inv X pins σ H s)(h:kj X.K H O d v)(b:RelV v a)(i:d.dep<20000):Sh X H s O d v a:=by
 cases d with
 |oth m k n=>rw[D.dep] at i;omega
 |tup l=>obtain⟨p,j,rfl,q,r⟩:=ma h;cases b;obtain⟨e,g,f,_⟩:=T.tuple q;exact .tup q r g f
 |lst l=>obtain⟨p,j,rfl,q,r⟩:=lg h;cases b;obtain⟨e,g,f,_⟩:=T.list q;exact .lst q r g f.isList
 |non=>have:=(yu h I (by simp)<|by simp).non;subst this;cases b;exact .non
 |bl c=>have:=(yu h I (by simp)<|by simp).bl;subst this;cases b;exact .bl c
 |int c=>have:=(yu h I (by simp)<|by simp).int;subst this;obtain⟨t,rfl⟩:=b;exact .int c t
 |str c=>have:=(yu h I (by simp)<|by simp).str;subst this;obtain⟨t,rfl⟩:=b;exact .str c t
def Ds(I:Inv X pins σ H s)(n:Nat)
  (ih: ∀(d e:D) (v u:V) (a b:iC) (O O':AP') (A:iP),kj X.K H O d v->kj X.K H O' e u->RelV v a->RelV u b->d.dep+1<=n->e.dep<20000->A.units+n<aX+1->EqAt A s a b (D.eqb d e)):
  ∀(d e:D) (v u:V) (a b:iC) (O O':AP') (A:iP),kj X.K H O d v->kj X.K H O' e u->RelV v a->RelV u b->d.dep<=n->e.dep<20000->A.units+n<aX->EqAt A s a b (D.eqb d e):=by
 intro d e v u a b O O' A hd he o t N t8 hA;have h:A.units<cLine:=by lia
 have p5:aX=9900:=rfl
 have L: ∀(l m:List D) (T G:List V) (c C':jN) (R S:AP'),D.depL l+1<=n->D.depL m<20000->RepL X.K H R l T->RepL X.K H S m G->Vals T c->Vals G C'->
   ∀j (h1:j<c.toArray.size) (Q:j<C'.toArray.size),EqAt A.in1 s c.toArray[j] C'.toArray[j] (ve l m j):=λl m T G c C' R S F P r1 i M k j h1 Q=>by
  have e1:=M.length;have e2:=k.length;have e3:=r1.length;have e4:=i.length;simp only[jw] at h1 Q;have hx:T[j]?=Y T[j]:=jt (by lia);have hy:G[j]?=Y G[j]:=jt (by lia);have Z:l[j]?=Y l[j]:=jt (by lia);have W:m[j]?=Y m[j]:=jt (by lia);obtain⟨w,w1,w2⟩:=M.get hx;obtain⟨w',w3,w4⟩:=k.get hy
  have i1:c.toArray[j]=w:=by have:c[j]?=Y c[j]:=jt (by lia);rw[this] at w1;simpa using w1
  have i2:C'.toArray[j]=w':=by have:C'[j]?=Y C'[j]:=jt (by lia);rw[this] at w3;simpa using w3
  rw[i1,i2];have hj:ve l m j=D.eqb l[j] m[j]:=by unfold ve;rw[Z,W]
  rw[hj];have aA:=D.dep_mem Z;have hdep2:=D.dep_mem W;exact ih _ _ _ _ _ _ R S A.in1 (.inl<|r1.views Z hx) (.inl<|i.views W hy) w2 w4 (by lia) (by lia) (by show A.units+1+n<aX+1;lia)
 have h1:=vo I hd o (by lia);have Q:=vo I he t t8
 cases h1 with
 |non=>
  cases Q with
  |non=>exact ng o t H8 H8
  |bl g=>exact ng o t H8 H8
  |int g x=>exact ng o t H8 H8
  |str g x=>exact ng o t H8 H8
  |tup B i k f=>exact EqAt.none_tuple f h
  |lst B i k f=>exact EqAt.none_list f h
 |bl J'=>
  cases Q with
  |non=>exact ng o t H8 H8
  |bl g=>exact ng o t H8 H8
  |int g x=>exact ng o t H8 H8
  |str g x=>exact ng o t H8 H8
  |tup B i k f=>exact EqAt.bool_tuple J' f h
  |lst B i k f=>exact EqAt.bool_list J' f h
 |int J' Y'=>
  cases Q with
  |non=>exact ng o t H8 H8
  |bl g=>exact ng o t H8 H8
  |int g x=>exact ng o t H8 H8
  |str g x=>exact ng o t H8 H8
  |tup B i k f=>exact EqAt.int_tuple J' Y' f h
  |lst B i k f=>exact EqAt.int_list J' Y' f h
 |str J' Y'=>
  cases Q with
  |non=>exact ng o t H8 H8
  |bl g=>exact ng o t H8 H8
  |int g x=>exact ng o t H8 H8
  |str g x=>exact ng o t H8 H8
  |tup B i k f=>exact EqAt.str_tuple J' Y' f h
  |lst B i k f=>exact EqAt.str_list J' Y' f h
 | @tup l p T c q r M y=>
  cases Q with
  |non=>exact EqAt.tuple_none y h
  |bl g=>exact EqAt.tuple_bool g y h
  |int g x=>exact EqAt.tuple_int g x y h
  |str g x=>exact EqAt.tuple_str g x y h
  | @tup m p2 G C' B i k f=>
   by_cases U:p=p2
   .subst U;have:=I.tuple_inj q B;subst this;rw[RepL.inj I (by rw[D.dep] at N;lia) r i,D.eqb_refl];exact fK _
   .refine .of_refs U ?_;have F:D.depL l+1<=n:=by rw[D.dep] at N;exact N
    have P:D.depL m<20000:=by rw[D.dep] at t8;lia
    have z:=RcAt.tuples y f h<|L l m T G c C' _ _ F P r i M k;have e1:=M.length;have e2:=k.length;have e3:=r.length;have e4:=i.length;simp only[jw] at z;rw[show c.length=l.length by lia,show C'.length=m.length by lia,oD] at z;rw[D.eqb];exact z
  |lst B i k f=>exact EqAt.tuple_list y f h
 | @lst l p T c q r M y=>
  cases Q with
  |non=>exact EqAt.list_none y h
  |bl g=>exact EqAt.list_bool g y h
  |int g x=>exact EqAt.list_int g x y h
  |str g x=>exact EqAt.list_str g x y h
  |tup B i k f=>exact EqAt.list_tuple y f h
  | @lst m p2 G C' B i k f=>
   by_cases U:p=p2
   .subst U;have:=I.list_inj q B;subst this;rw[RepL.inj I (by rw[D.dep] at N;lia) r i,D.eqb_refl];exact fK _
   .refine .of_refs U ?_;have F:D.depL l+1<=n:=by rw[D.dep] at N;exact N
    have P:D.depL m<20000:=by rw[D.dep] at t8;lia
    have e1:=M.length;have e2:=k.length;have e3:=r.length;have e4:=i.length;have al:=oD l m;by_cases E:l.length=m.length
    .have z:=RcAt.lists y f (by simp only[jw];lia) h<|L l m T G c C' _ _ F P r i M k;simp only[jw] at z;rw[show c.length=min l.length m.length by lia] at z;rw[D.eqb,<-al,E];rw[E] at z;simpa using z
    .have z:=RcAt.lists_lengths y f (by simp only[jw,bne_iff_ne,ne_eq];lia) h;rw[D.eqb,<-al];rw[show(l.length==m.length)=C by simpa using E];simpa using z
def BP(T:Inv X pins σ H s): ∀(n:Nat) (d e:D) (v u:V) (a b:iC) (O c:AP') (A:iP),kj X.K H O d v->kj X.K H c e u->RelV v a->RelV u b->d.dep<=n->e.dep<20000->A.units+n<aX->EqAt A s a b (D.eqb d e):=by
 intro n
 induction n with
 |zero=>intro d e v u a b O c A hd f h i g j k;exact Ds T 0 (λd e v u a b O c A hd f h i g j k=>absurd g<|by lia) d e v u a b O c A hd f h i g j k
 |succ n l=>intro d e v u a b O c A hd f h i g j k;exact Ds T (n+1) (λd e v u a b O c A hd f h i g j k=>l d e v u a b O c A hd f h i (by lia) j<|by lia) d e v u a b O c A hd f h i g j k
end
section
variable {X:Cx}{c:ji}{f:L2.St}{H:Hp}{s:il}
def GC(I:Inv X c f H s){A:iP}{n:Nat}(U:A.units+n<aX): ∀(l m:List D) (d e:List V) (a b:jN) (g h:AP'),D.depL l+1<=n->D.depL m<20000->RepL X.K H g l d->RepL X.K H h m e->Vals d a->Vals e b->
   ∀j (h1:j<a.toArray.size) (p:j<b.toArray.size),EqAt A.in1 s a.toArray[j] b.toArray[j] (ve l m j):=λl m d e a b g h Y F t u v x j h1 p=>by
 have G:=v.length;have J:=x.length;have M:=t.length;have N:=u.length;simp only[jw] at h1 p;have q:d[j]?=FM d[j]:=jt (by omega);have r:e[j]?=FM e[j]:=jt (by omega);have k:l[j]?=FM l[j]:=jt (by omega);have i:m[j]?=FM m[j]:=jt (by omega);obtain⟨w,y,O⟩:=v.get q;obtain⟨L,z,Q⟩:=x.get r
 have C:a.toArray[j]=w:=by have:a[j]?=FM a[j]:=jt (by omega);rw[this] at y;simpa using y
 have E:b.toArray[j]=L:=by have:b[j]?=FM b[j]:=jt (by omega);rw[this] at z;simpa using z
 rw[C,E];have B:ve l m j=D.eqb l[j] m[j]:=by unfold ve;rw[k,i]
 rw[B];have T:=D.dep_mem k;have o:=D.dep_mem i;exact BP I (n-1) _ _ _ _ _ _ g h A.in1 (.inl<|t.views k q) (.inl<|u.views i r) O Q (by omega) (by omega) (by show A.units+1+(n-1)<aX;omega)
def UY(I:Inv X c f H s)(hd:kj X.K H O d v)(he:kj X.K H O' e u)(ra:RelV v a)(rb:RelV u b)(G:d.dep<=n)(N:e.dep<20000)(hA:A.units+n<aX):RcAt A s a b (D.eqb d e):=by
 have j:A.units<cLine:=by lia
 have B:=GC I hA;have W:aX=9900:=rfl;have h1:=vo I hd ra (by lia);have L:=vo I he rb N
 cases h1 with
 |non=>
  cases L with
  |non=>exact RcAt.none_none
  |bl g=>exact RcAt.none_bool g
  |int g i=>exact RcAt.none_int g i
  |str g i=>exact RcAt.none_str g i
  |tup E o t h=>exact RcAt.none_tuple h j
  |lst E o t h=>exact RcAt.none_list h j
 |bl k=>
  cases L with
  |non=>exact RcAt.bool_none k
  |bl g=>exact RcAt.bool_bool k g
  |int g i=>exact RcAt.bool_int k g i
  |str g i=>exact RcAt.bool_str k g i
  |tup E o t h=>exact RcAt.bool_tuple k h j
  |lst E o t h=>exact RcAt.bool_list k h j
 |int k x=>
  cases L with
  |non=>exact RcAt.int_none k x
  |bl g=>exact RcAt.int_bool k x g
  |int g i=>exact RcAt.int_int k x g i
  |str g i=>exact RcAt.int_str k x g i
  |tup E o t h=>exact RcAt.int_tuple k x h j
  |lst E o t h=>exact RcAt.int_list k x h j
 |str k x=>
  cases L with
  |non=>exact RcAt.str_none k x
  |bl g=>exact RcAt.str_bool k x g
  |int g i=>exact RcAt.str_int k x g i
  |str g i=>exact RcAt.str_str k x g i
  |tup E o t h=>exact RcAt.str_tuple k x h j
  |lst E o t h=>exact RcAt.str_list k x h j
 | @tup l p U' C' q r Q w=>
  cases L with
  |non=>exact RcAt.tuple_none w j
  |bl g=>exact RcAt.tuple_bool g w j
  |int g i=>exact RcAt.tuple_int g i w j
  |str g i=>exact RcAt.tuple_str g i w j
  | @tup m p2 Y' T E o t h=>
   have J:D.depL l+1<=n:=by rw[D.dep] at G;exact G
   have M:D.depL m<20000:=by rw[D.dep] at N;lia
   have P:=Q.length;have R:=t.length;have S:=r.length;have V:=o.length;have z:=RcAt.tuples w h j<|B l m U' Y' C' T _ _ J M r o Q t;simp only[jw] at z;rw[show C'.length=l.length by lia,show T.length=m.length by lia,oD] at z;rw[D.eqb];exact z
  |lst E o t h=>exact RcAt.tuple_list w h j
 | @lst l p U' C' q r Q w=>
  cases L with
  |non=>exact RcAt.list_none w j
  |bl g=>exact RcAt.list_bool g w j
  |int g i=>exact RcAt.list_int g i w j
  |str g i=>exact RcAt.list_str g i w j
  |tup E o t h=>exact RcAt.list_tuple w h j
  | @lst m p2 Y' T E o t h=>
   have J:D.depL l+1<=n:=by rw[D.dep] at G;exact G
   have M:D.depL m<20000:=by rw[D.dep] at N;lia
   have P:=Q.length;have R:=t.length;have S:=r.length;have V:=o.length;have F:=oD l m;by_cases y:l.length=m.length
   .have z:=RcAt.lists w h (by simp only[jw];lia) j<|B l m U' Y' C' T _ _ J M r o Q t;simp only[jw] at z;rw[show C'.length=min l.length m.length by lia] at z;rw[D.eqb,<-F,y];rw[y] at z;simpa using z
   .have z:=RcAt.lists_lengths w h (by simp only[jw,bne_iff_ne,ne_eq];lia) j;rw[D.eqb,<-F];rw[show(l.length==m.length)=C by simpa using y];simpa using z
def NB(I:Inv X c f H s)(hd:kj X.K H O d v)(he:kj X.K H O' e u)(ra:RelV v a)(rb:RelV u b)(G:d.dep<=n)(N:e.dep<20000)(hA:A.units+n<aX):RcNeAt A s a b (!D.eqb d e):=by
 have j:A.units<cLine:=by lia
 have B:=GC I hA;have W:aX=9900:=rfl;have h1:=vo I hd ra (by lia);have L:=vo I he rb N
 cases h1 with
 |non=>
  cases L with
  |non=>exact RcNeAt.none_none
  |bl g=>exact RcNeAt.none_bool g
  |int g i=>exact RcNeAt.none_int g i
  |str g i=>exact RcNeAt.none_str g i
  |tup E o t h=>exact RcNeAt.none_tuple h j
  |lst E o t h=>exact RcNeAt.none_list h j
 |bl k=>
  cases L with
  |non=>exact RcNeAt.bool_none k
  |bl g=>exact RcNeAt.bool_bool k g
  |int g i=>exact RcNeAt.bool_int k g i
  |str g i=>exact RcNeAt.bool_str k g i
  |tup E o t h=>exact RcNeAt.bool_tuple k h j
  |lst E o t h=>exact RcNeAt.bool_list k h j
 |int k x=>
  cases L with
  |non=>exact RcNeAt.int_none k x
  |bl g=>exact RcNeAt.int_bool k x g
  |int g i=>exact RcNeAt.int_int k x g i
  |str g i=>exact RcNeAt.int_str k x g i
  |tup E o t h=>exact RcNeAt.int_tuple k x h j
  |lst E o t h=>exact RcNeAt.int_list k x h j
 |str k x=>
  cases L with
  |non=>exact RcNeAt.str_none k x
  |bl g=>exact RcNeAt.str_bool k x g
  |int g i=>exact RcNeAt.str_int k x g i
  |str g i=>exact RcNeAt.str_str k x g i
  |tup E o t h=>exact RcNeAt.str_tuple k x h j
  |lst E o t h=>exact RcNeAt.str_list k x h j
 | @tup l p U' C' q r Q w=>
  cases L with
  |non=>exact RcNeAt.tuple_none w j
  |bl g=>exact RcNeAt.tuple_bool g w j
  |int g i=>exact RcNeAt.tuple_int g i w j
  |str g i=>exact RcNeAt.tuple_str g i w j
  | @tup m p2 Y' T E o t h=>
   have J:D.depL l+1<=n:=by rw[D.dep] at G;exact G
   have M:D.depL m<20000:=by rw[D.dep] at N;lia
   have P:=Q.length;have R:=t.length;have S:=r.length;have V:=o.length;have z:=RcNeAt.tuples w h j<|B l m U' Y' C' T _ _ J M r o Q t;simp only[jw] at z;rw[show C'.length=l.length by lia,show T.length=m.length by lia,oD] at z;rw[D.eqb];exact z
  |lst E o t h=>exact RcNeAt.tuple_list w h j
 | @lst l p U' C' q r Q w=>
  cases L with
  |non=>exact RcNeAt.list_none w j
  |bl g=>exact RcNeAt.list_bool g w j
  |int g i=>exact RcNeAt.list_int g i w j
  |str g i=>exact RcNeAt.list_str g i w j
  |tup E o t h=>exact RcNeAt.list_tuple w h j
  | @lst m p2 Y' T E o t h=>
   have J:D.depL l+1<=n:=by rw[D.dep] at G;exact G
   have M:D.depL m<20000:=by rw[D.dep] at N;lia
   have P:=Q.length;have R:=t.length;have S:=r.length;have V:=o.length;have F:=oD l m;by_cases y:l.length=m.length
   .have z:=RcNeAt.lists w h (by simp only[jw];lia) j<|B l m U' Y' C' T _ _ J M r o Q t;simp only[jw] at z;rw[show C'.length=min l.length m.length by lia] at z;rw[D.eqb,<-F,y];rw[y] at z;simpa using z
   .have z:=RcNeAt.lists_lengths w h (by simp only[jw,bne_iff_ne,ne_eq];lia) j;rw[D.eqb,<-F];rw[show(l.length==m.length)=C by simpa using y];simpa using z
def VO(j:X.A.units+60<aX):OpR X (ap .Eq) (λx y H Q=> ∃O d e,kj X.K H O d x/\kj X.K H O e y/\(d.dep<=50/\e.dep<=50)/\Q (.bl<|D.eqb d e) H):=by intro c s f H x y v u Q T g i h;obtain⟨O,d,e,h1,a,b,q⟩:=h;exact UY (A:=X.A) T h1 a g i b.1 (by lia) (by lia) _ _ _ _ ⟨.bl _,H,T,rfl,q⟩
def VL(j:X.A.units+60<aX):OpR X (ap .NotEq) (λx y H Q=> ∃O d e,kj X.K H O d x/\kj X.K H O e y/\(d.dep<=50/\e.dep<=50)/\Q (.bl (!D.eqb d e)) H):=by intro c s f H x y v u Q T g i h;obtain⟨O,d,e,h1,a,b,q⟩:=h;exact NB (A:=X.A) T h1 a g i b.1 (by lia) (by lia) _ _ _ _ ⟨.bl _,H,T,rfl,q⟩
end
def jh{e:Type}{c:Prop}[Decidable c]{a b:e}(h:(if c then Y a else J)=Y b):c/\a=b:=by
 split at h
 .rename_i d;exact⟨d,kP h⟩
 .cases h
section
variable {X:Cx}{c:ji}{f:L2.St}{H:Hp}{s:il}
def PC(I:Inv X c f H s){A:iP}{l:List D}{o:List V}{a:jN}{O C:AP'}{b:D}{T:V}{x:iC}(r:RepL X.K H O l o)(v:Vals o a)(hx:kj X.K H C b T)(rx:RelV T x)(hn:D.depL l<=50)(hxn:b.dep<=50)(hA:A.units+60<aX):
  ∃e:iC->Bool,(∀y∈a,EqAt A.in1 s y x<|e y)/\a.any e=l.any λd=>D.eqb d b:=by
 let e:iC->Bool:=λy=>match(a.zip l).find? (λp=>p.1==y) with
  |some p=>D.eqb p.2 b
  |none=>Go
 have W:=v.length;have Z:=r.length
 have m: ∀(j:Nat) (g:j<a.length) (h:j<l.length),e a[j]=D.eqb l[j] b:=λj g h=>by
  show(match(a.zip l).find? (λp=>p.1==a[j]) with|some p=>D.eqb p.2 b|none=>Go)=_
  cases t:(a.zip l).find? (λp=>p.1==a[j]) with
  |none=>
   have:=List.find?_eq_none.mp t (a[j],l[j]) (by
    have:(a.zip l)[j]?=FM (a[j],l[j]):=by simp[Fs,jt g,jt h]
    exact nK this)
   simp at this
  |some p=>
   have F:=List.find?_some t;have Y:=List.mem_of_find?_eq_some t;obtain⟨i,Q⟩:=uo Y;obtain⟨R,p2⟩:=p;rw[Fs] at Q;have M:R=a[j]:=wc F;obtain⟨h1,k⟩:=Q;have L:i<o.length:=by have:=(xN.mp h1).1;lia
   obtain⟨w,n,B⟩:=v.get<|jt L;have q:j<o.length:=by lia
   obtain⟨w',G,S⟩:=v.get<|jt q;rw[h1] at n;cases n;rw[jt g] at G;cases G;subst M;have hv:=B.inj S;have a1:=r.views k<|jt L;have J:=r.views (jt h)<|jt q;rw[hv] at a1;have gy:=D.dep_mem k;have:=Rep.inj I (by lia) a1 J;exact nM (λz=>D.eqb z b) this
 refine⟨e,λy P=>?_,?_⟩
 .obtain⟨j,g⟩:=uo P;have u:=(xN.mp g).1;have q:=(xN.mp g).2;have h:j<l.length:=by lia
  have E:j<o.length:=by lia
  obtain⟨w,n,B⟩:=v.get<|jt E;rw[g] at n;cases n;have hk:=m j u h;rw[q] at hk;rw[hk];have hd:=D.dep_mem<|jt h;exact BP I 50 _ _ _ _ _ _ O C A.in1 (.inl<|r.views (jt h)<|jt E) hx B rx (by lia) (by lia) (by show A.units+1+50<aX;lia)
 .have:a.map e=l.map λd=>D.eqb d b:=by
   apply wM
   .simp;lia
   .intro j h1 k;simp only[jz] at h1 k;simp only[AN];exact m j h1 k
  have N:a.any e=(a.map e).any id:=by rw[yU];rfl
  have U:(l.any λd=>D.eqb d b)=(l.map λd=>D.eqb d b).any id:=by rw[yU];rfl
  rw[N,U,this]
noncomputable def inD(x:D):D->Option Bool
 | .tup l=>if D.depL l<=50/\x.dep<=50 then Y (l.any λd=>D.eqb d x) else J
 | .lst l=>if D.depL l<=50/\x.dep<=50 then Y (l.any λd=>D.eqb d x) else J
 |_=>J
def C6(B:X.A.units+60<aX):OpR X (ap .NotIn) (λx y H Q=> ∃O d e b,kj X.K H O d x/\kj X.K H O e y/\inD d e=Y b/\Q (.bl (!b)) H):=by
 intro c s f H x y v u Q T N E h;obtain⟨O,d,e,b,h1,z,j,q⟩:=h
 cases e with
 |tup l=>
  obtain⟨i,rfl⟩:=jh j
  .skip
   obtain⟨a,L,rfl,n,r⟩:=ma z;cases E;obtain⟨g,t,p,_⟩:=T.tuple n;obtain⟨e,m,k⟩:=PC (A:=X.A) T r t h1 N i.1 i.2 B;refine notIn_tupleAt e p (λw o=>m w<|by simpa using o) ⟨.bl _,H,T,rfl,?_⟩;rw[show g.toArray.any e=g.any e by simp,k];exact q
 |lst l=>
  obtain⟨i,rfl⟩:=jh j
  .skip
   obtain⟨a,L,rfl,n,r⟩:=lg z;cases E;obtain⟨g,t,p,_⟩:=T.list n;obtain⟨e,m,k⟩:=PC (A:=X.A) T r t h1 N i.1 i.2 B;refine notIn_listAt e p.isList (λw o=>m w<|by simpa using o) ⟨.bl _,H,T,rfl,?_⟩;rw[show g.toArray.any e=g.any e by simp,k];exact q
 |_=>cases j
end
def rD1(K:iM)(g:D->Option (D×Bool)):V->Hp->VK->Prop:=λx T Q=> ∃(O:AP') (d:D) (z:D×Bool),(∀p,¬Ow (T p)-> ¬O p)/\kj K T O d x/\g d=Y z/\Gen K T O z Q
def rD(K:iM)(g:D->D->Option (D×Bool)):R2:=λx y T Q=> ∃(O:AP') (d e:D) (z:D×Bool),(∀p,¬Ow (T p)-> ¬O p)/\kj K T O d x/\kj K T O e y/\g d e=Y z/\Gen K T O z Q
def rDn(K:iM)(g:List D->Option (D×Bool)):List V->Hp->VK->Prop:=λb T Q=> ∃(O:AP') (a:List D) (z:D×Bool),(∀p,¬Ow (T p)-> ¬O p)/\(Ix a)=Ix b/\(∀(j:Nat) d v,a[j]?=Y d->b[j]?=Y v->kj K T O d v)/\g a=Y z/\Gen K T O z Q
section
variable {X:Cx}{e a b:iA}{c fb:FO}{fs:List FO}{k:bC}
def px1(h:PE X e (tUn (rD1 X.K g)<|tO X.K c)):PX X e (kN g c):=Va h λx z v T O Q np f d G=>⟨O,x,z,np,f,d,G⟩
def px2(h:PE X e (tOp (rD X.K g) (tO X.K c)<|tO X.K fb)):PX X e (ie g c fb):=U9 h λx y z v u T O Q np f i d G=>⟨O,x,y,z,np,f,i,d,G⟩
def pxn(h:PE X e (tCB (rDn X.K g)<|tA X.K fs)):PX X e (ir g fs):=RA h λd z j T O Q np i hv f G=>⟨O,d,z,np,i,hv,f,G⟩
def jd{K T}{O:AP'}{i:Int}{v:V}(h:kj K T O (.int i) v):v= .int i:=h.elim (λh=>h.int) λ⟨_,_,h⟩=>h.elim
def Jw{K T}(h:kj K T O (.bl i) v):v= .bl i:=h.elim (λh=>h.bl) λ⟨_,_,h⟩=>h.elim
def A4{K T}(h:kj K T O (.str i) v):v= .str i:=h.elim (λh=>h.str) λ⟨_,_,h⟩=>h.elim
def M3{K T}(h:kj K T O .non v):v= .non:=h.elim (λh=>h.non) λ⟨_,_,h⟩=>h.elim
def Gen.str{K T}(g:Gen K T O (.str i,C) Q):Q (.str i) T:=g _ T (λ_ _ e=>e) Rep.mkStr
noncomputable def gI(f:Int->Int->Option D):D->D->Option (D×Bool)
 | .int i,.int j=>(f i j).map λz=>(z,C)
 |_,_=>J
def Ay{f:Int->Int->Option D}{d e:D}{z:D×Bool}(h:gI f d e=Y z): ∃i j y,d= .int i/\e= .int j/\f i j=Y y/\z=(y,C):=by
 cases d with
 |int i=>
  cases e with
  |int j=>
   cases g:f i j with
   |none=>simp only[gI,g] at h;cases h
   |some y=>simp only[gI,g] at h;cases h;exact⟨i,j,y,rfl,rfl,g,rfl⟩
  |_=>cases h
 |_=>cases h
def Av{f:zS}{M:Int->Int->Prop}[∀i j,Decidable<|M i j]{g:Int->Int->Int}(q:OpR X f (rI M λi j=> .int (g i j))):OpR X f (rD X.K (gI λi j=>if M i j then Y (.int<|g i j) else J)):=by intro l s A T x y v u Q N r t h;obtain⟨O,d,e,z,np,h1,m,p,G⟩:=h;obtain⟨i,j,w,rfl,rfl,o,rfl⟩:=Ay p;obtain⟨n,rfl⟩:=jh o;exact q l s A T x y v u Q N r t ⟨i,j,jd h1,jd m,n,G.int⟩
def Ov{f:zS}{g:Int->Int->Int}(p:OpR X f (rI0 λi j=> .int (g i j))):OpR X f (rD X.K<|gI λi j=>Y<|.int<|g i j):=by intro l s t T x y v u Q N q r h;obtain⟨O,d,e,z,np,h1,m,o,G⟩:=h;obtain⟨i,j,w,rfl,rfl,n,rfl⟩:=Ay o;cases n;exact p l s t T x y v u Q N q r ⟨i,j,jd h1,jd m,G.int⟩
instance(i j:Int):Decidable (CMul i j):=by unfold CMul;exact inferInstance
instance(i j:Int):Decidable (L7 i j):=by unfold L7;exact inferInstance
instance(i j:Int):Decidable (Ar i j):=by unfold Ar;exact inferInstance
noncomputable def gSub:=gI λi j=>Y<|.int<|i-j
noncomputable def ug:=gI λi j=>if CMul i j then Y (.int<|i*j) else J
noncomputable def PL:=gI λi j=>if L7 i j then Y (.int<|i / j) else J
noncomputable def yn:=gI λi j=>if 0<j then Y (.int<|i%j) else J
noncomputable def Fb:=gI λi j=>if Ar i j then Y (.int<|i^j.toNat) else J
def mM:OpR X (bv .Sub) (rD X.K gSub):=Ov VI
def qw:OpR X (bv .Mult) (rD X.K ug):=Av VM
def JO:OpR X (bv .FloorDiv) (rD X.K PL):=Av Se
def sQ:OpR X (bv .Mod) (rD X.K yn):=Av VN
def Au:OpR X (bv .Pow) (rD X.K Fb):=Av VJ
noncomputable def jY:D->D->Option (D×Bool)
 | .int i,.int j=>Y (.int<|i+j,C)
 | .str i,.str j=>if i.length+j.length<=sizeLine then Y (.str<|i++j,C) else J
 | .tup l,.tup m=>if l.length+m.length<=sizeLine then Y (.tup<|l++m,C) else J
 | .lst l,.lst m=>if l.length+m.length<=sizeLine then Y (.lst<|l++m,U) else J
 |_,_=>J
def ja:OpR X (bv .Add) (rD X.K jY):=by
 intro o s σ H x y v u Q I J M h;obtain⟨O,d,e,z,np,h1,N,q,G⟩:=h
 cases d with
 |int i=>
  cases e with
  |int j=>cases q;exact VP o s σ H x y v u Q I J M ⟨i,j,jd h1,jd N,G.int⟩
  |_=>cases q
 |str i=>
  cases e with
  |str j=>obtain⟨W,rfl⟩:=jh q;exact Io o s σ H x y v u Q I J M ⟨i,j,A4 h1,A4 N,W,G.str⟩
  |_=>cases q
 |tup l=>
  cases e with
  |tup m=>
   obtain⟨W,rfl⟩:=jh q;have k1:Rep X.K H O (.tup l) x:=h1.elim id λ⟨_,_,z⟩=>z.elim;have k2:Rep X.K H O (.tup m) y:=N.elim id λ⟨_,_,z⟩=>z.elim;obtain⟨U,xs,rfl,Y,L⟩:=k1.tup;obtain⟨C,ys,rfl,D,T⟩:=k2.tup;have l1:=L.length;have l2:=T.length;by_cases hx:xs=[]
   .subst hx;have:l=[]:=by simpa using l1.symm
    subst this;cases J;cases M;obtain⟨g,P,S,_⟩:=I.tuple Y.sq;obtain⟨r,v2,V,_⟩:=I.tuple D.sq;have e1:g=[]:=by have:=P.length;simpa using this.symm
    subst e1;obtain⟨⟨R,dd,t,sl⟩,w,E,n,hd⟩:=id S;obtain⟨⟨cV,u9,data2,u4⟩,B,A,Z,f⟩:=id V;simp only at E hd A f;subst E hd A f
    refine Ek ⟨_,w,rfl⟩ ⟨_,B,rfl⟩ Hx Hw Hv Hu (Ht _ _)
     (tuple_addW0 U C #[] r.toArray n Z dd u9 sl u4 (by simp)) ⟨w,B,⟨.ref C,H,I,rfl,?_⟩⟩
    exact G _ H (λ_ _ e=>e) (by simpa using k2)
   .refine Sf o s σ H _ _ v u Q I J M ⟨U,C,xs,ys,rfl,rfl,Y.sq,D.sq,hx,by lia,λhy=>?_,λhy p hp=>?_⟩
    .subst hy;have:m=[]:=by simpa using l2.symm
     subst this;exact G _ H (λ_ _ e=>e) (by simpa using k1)
    .exact G.tup hp (np p<|nOw hp) (L.append T)
  |_=>cases q
 |lst l=>
  cases e with
  |lst m=>
   obtain⟨W,rfl⟩:=jh q;obtain⟨U,xs,rfl,Y,L⟩:=lg h1;obtain⟨C,ys,rfl,D,T⟩:=lg N;have l1:=L.length;have l2:=T.length;cases J;cases M;obtain⟨g,P,S,_⟩:=I.list Y;obtain⟨r,v2,V,_⟩:=I.list D;have e1:=P.length;have e2:=v2.length;obtain⟨⟨R,dd,t,sl⟩,w,E,n,hd⟩:=id S.isList;obtain⟨⟨cV,u9,data2,u4⟩,B,A,Z,f⟩:=id V.isList;simp only at E hd A f;subst E hd A f
   refine Ek ⟨_,w,rfl⟩ ⟨_,B,rfl⟩ noFill_list_add seq_list_add PySem.F.slot_list_add PySem.F.entry_list_add (PySem.F.args_list_add_2 _ _)
    (list_addW U C g.toArray r.toArray n Z dd u9 sl u4<|by simp only[jw];lia) ⟨w,B,?_⟩
   rw[show g.toArray++r.toArray=(g++r).toArray by simp];exact⟨.ref _,_,I.lnew (t':=s.toks) (P.append v2)<|by rw[nG];lia,rfl,G.lst I.fresh<|L.append T⟩
  |_=>cases q
 |_=>cases q
noncomputable def gEq(d e:D):Option (D×Bool):=if d.dep<=50/\e.dep<=50 then Y (.bl<|D.eqb d e,C) else J
noncomputable def gNe(d e:D):Option (D×Bool):=if d.dep<=50/\e.dep<=50 then Y (.bl (!D.eqb d e),C) else J
noncomputable def mY(d e:D):Option (D×Bool):=(inD d e).map λb=>(.bl (!b),C)
def qT(l:X.A.units+60<aX):OpR X (ap .Eq) (rD X.K gEq):=by intro f s o T x y v u Q N m n h;obtain⟨O,d,e,z,np,h1,g,j,G⟩:=h;obtain⟨i,rfl⟩:=jh j;exact VO l f s o T x y v u Q N m n ⟨O,d,e,h1,g,i,G.bl⟩
def Im(l:X.A.units+60<aX):OpR X (ap .NotEq) (rD X.K gNe):=by intro f s o T x y v u Q N m n h;obtain⟨O,d,e,z,np,h1,g,j,G⟩:=h;obtain⟨i,rfl⟩:=jh j;exact VL l f s o T x y v u Q N m n ⟨O,d,e,h1,g,i,G.bl⟩
def jB{d g:Type}{x:Option d}{f:d->g}{b:g}(h:x.map f=Y b): ∃a,x=Y a/\f a=b:=by
 cases x with
 |none=>cases h
 |some a=>exact⟨a,rfl,kP h⟩
def zA(l:X.A.units+60<aX):OpR X (ap .NotIn) (rD X.K mY):=by intro f s o T x y v u Q N m n h;obtain⟨O,d,e,z,np,h1,g,j,G⟩:=h;obtain⟨b,i,rfl⟩:=jB j;exact C6 l f s o T x y v u Q N m n ⟨O,d,e,b,h1,g,i,G.bl⟩
noncomputable def mN:D->Option (D×Bool)
 | .int i=>Y (.int (-i),C)
 |_=>J
def Q0:UnR X (zn .USub) (rD1 X.K mN):=by
 intro f s l T x v Q N j h;obtain⟨O,d,z,np,h1,g,G⟩:=h
 cases d with
 |int i=>cases g;exact UA f s l T x v Q N j ⟨i,jd h1,G.int⟩
 |_=>cases g
noncomputable def gIx:D->D->Option (D×Bool)
 | .tup l,.int i=>(atI l i).map λd=>(d,C)
 | .lst l,.int i=>(atI l i).map λd=>(d,C)
 |_,_=>J
def Kv{K T}{O:AP'}{l:List D}{f:List V}{i:Int}{d:D}(r:RepL K T O l f)(h:atI l i=Y d): ∃v,atI f i=Y v/\Rep K T O d v:=by unfold atI at h ⊢;rw[r.length];obtain⟨j,h1,g⟩:=hJ h;rw[h1];exact r.get g
def Ul:IxR X (rD X.K gIx):=by
 intro f slice g s L T x y v u Q N M E h B;obtain⟨O,d,e,z,np,h1,A,j,G⟩:=h
 cases d with
 |tup l=>
  cases e with
  |int i=>obtain⟨w,n,rfl⟩:=jB j;obtain⟨p,t,rfl,q,r⟩:=ma h1;obtain⟨o,hv,m⟩:=Kv r n;exact V4 f slice g s L T _ _ v u Q N M E ⟨p,t,i,o,rfl,jd A,q,hv,G _ T (λ_ _ e=>e) m⟩ B
  |_=>cases j
 |lst l=>
  cases e with
  |int i=>obtain⟨w,n,rfl⟩:=jB j;obtain⟨p,t,rfl,q,r⟩:=lg h1;obtain⟨o,hv,m⟩:=Kv r n;exact SQ f slice g s L T _ _ v u Q N M E ⟨p,t,i,o,rfl,jd A,q,hv,G _ T (λ_ _ e=>e) m⟩ B
  |_=>cases j
 |_=>cases j
def Vj(h:OpR X (bv op) (rD X.K g))(d:PO X a c)(f:PO X b fb):PX X (.BinOp a op b k) (ie g c fb):=px2<|Xq h d f
def Vi{d:cz}{g:D->D->Option (D×Bool)}(j:OpR X (ap d) (rD X.K g))(f:PO X a c)(h:PO X b fb)(i:ce d b=C):PX X (.Compare a [d] [b] k) (ie g c fb):=px2<|R5 j f h i
def Vd(d:PO X a c):PX X (.UnaryOp .USub a k) (kN mN c):=px1<|Xp Q0 d
def Xk(d:PO X a c)(f:PO X b fb)(g:yJ b):PX X (.Subscript a b k) (ie gIx c fb):=px2<|Uc Ul d f g
end
noncomputable def nN:List Opd->Option (List D)
 |[]=>Y []
 | .val r::os=>(nN os).map (r.1:: ·)
 | .slot _::_=>J
noncomputable def jD(fs:List F):F:=λδ=>(kx (fs.map hG) δ).bind λp=>(nN p.1).bind λds=>if (Ix ds)<=sizeLine then Y ((.tup ds,C),p.2) else J
noncomputable def lj(fs:List F):F:=λδ=>(kx (fs.map hG) δ).bind λp=>(nN p.1).bind λa=>if (Ix a)<=sizeLine then Y ((.lst a,U),p.2) else J
section
variable {K:iM}{T n:AP'}{g:L2.St}{m e:Dn}{H f:Hp}{os:List Opd}{c:List V}
def Ops.rep(E:ER K H T g m)(B:Ops K T g m H os c e f n){j:Nat}{r:D×Bool}{v:V}(h1:os[j]?=Y (.val r))(h:c[j]?=Y v):Rep K f (λa=>OwnA g e a\/T a) r.1 v:=by
 obtain⟨d,b⟩:=r
 cases b with
 |false=>exact B.val j d v h1 h
 |true=>
  obtain⟨p,rfl,k,i,ok⟩:=B.tmp j d v h1 h;refine ok.rep (λz=>?_) λb _ z=>z;rcases z with z|z
  .exact B.er.nT p z k
  .exact(E.dom p z).ne i
theorem wW{O:AP'}: ∀{os:List Opd} {c:List V} {d:List D},nN os=Y d->os.length=Ix c->(∀(j:Nat) (r:D×Bool) (v:V),os[j]?=Y (.val r)->c[j]?=Y v->Rep K f O r.1 v)->RepL K f O d c
 |[],c,d,h,o,_=>by
  cases h;have:c=[]:=by simpa using o.symm
  subst this;exact RepL.nil
 | .slot i::os,c,d,h,_,_=>by cases h
 | .val r::os,c,d,h,o,k=>by
  obtain⟨l,h1,rfl⟩:=jB h
  cases c with
  |nil=>simp at o
  |cons v c=>exact RepL.cons (k 0 r v I I)<|wW h1 (by simpa using o) λj p q a b=>k (j+1) p q (by simpa using a) (by simpa using b)
end
section
variable {X:Cx}{e a b:iA}{m:kn}{n fb:FO}{fs:List F}{c:bC}
def U5{x1}(h:PA X m (tA X.K<|fs.map hG)):PX X (.Tuple m x1 c) (jD fs):=PX.imp (VA h) λy O Q l=>by obtain⟨o,T,w,q,E,e,k⟩:=l;obtain⟨⟨os,d⟩,h1,e⟩:=hJ e;obtain⟨u,g,e⟩:=hJ e;obtain⟨i,e⟩:=jh e;obtain⟨rfl,rfl⟩:=sy e;refine⟨o,T,os,d,E,h1,λx s t B=>?_⟩;have r:=wW g B.len λj r v a b=>B.rep E a b;exact⟨by rw[r.length];exact i,λp f=>(B.done k).tup f (B.np<|nOw f) r⟩
def Ve(h:PA X m (tA X.K<|fs.map hG)):PX X (.List m c) (lj fs):=PX.imp (VF h) λy O Q l=>by obtain⟨o,T,w,q,E,e,k⟩:=l;obtain⟨⟨os,d⟩,h1,e⟩:=hJ e;obtain⟨u,f,e⟩:=hJ e;obtain⟨g,e⟩:=jh e;obtain⟨rfl,rfl⟩:=sy e;refine⟨o,T,os,d,E,h1,λx s t B=>?_⟩;have r:=wW f B.len λj r v a b=>B.rep E a b;exact⟨by rw[r.length];exact g,λp i=>(B.done k).lst i r⟩
def JP{g:List D}{f:List V}{d:D}(h:(Ix g)=Ix f)(hd:g=[d]): ∃v,f=[v]:=by
 subst hd
 cases f with
 |nil=>simp at h
 |cons v r=>
  cases r with
  |nil=>exact⟨v,rfl⟩
  |cons _ _=>simp at h
noncomputable def g1(g:D->Option (D×Bool)):List D->Option (D×Bool)
 |[d]=>g d
 |_=>J
noncomputable def g2(g:D->D->Option (D×Bool)):List D->Option (D×Bool)
 |[d,e]=>g d e
 |_=>J
def pd{f:iC}{g:D->Option (D×Bool)}(h: ∀(i:ji) (s:il) (j:L2.St) (T:Hp) (x:V) (u:iC) (Q:VK) (O:AP') (d:D) (z:D×Bool),Inv X i j T s->RelV x u->(∀p,¬Ow (T p)-> ¬O p)->kj X.K T O d x->g d=Y z->Gen X.K T O z Q->
  ae (ag X.prog X.w) X.A (call f [u]) (EP X i j Q) X.xe s):kQ X f (rDn X.K<|g1 g):=by
 intro i s j T xs y Q N r q;obtain⟨O,l,z,np,o,hv,k,G⟩:=q
 match l,k with
 |[d],k=>obtain⟨v,rfl⟩:=JP o I;obtain⟨u,rfl,t⟩:=qu r;exact h i s j T v u Q O d z N t np (hv 0 d v I I) k G
def Qh{f:iC}{g:D->D->Option (D×Bool)}(h: ∀(i:ji) (s:il) (k:L2.St) (T:Hp) (x y:V) (j:jN) (Q:VK) (O:AP') (d e:D) (z:D×Bool),Inv X i k T s->Vals [x,y] j->(∀p,¬Ow (T p)-> ¬O p)->kj X.K T O d x->kj X.K T O e y->g d e=Y z->Gen X.K T O z Q->
  ae (ag X.prog X.w) X.A (call f j) (EP X i k Q) X.xe s):kQ X f (rDn X.K<|g2 g):=by
 intro i s k T u j Q N r t;obtain⟨O,o,z,np,q,hv,l,G⟩:=t;rcases o with _|⟨d,_|⟨e,_|⟨_,_⟩⟩⟩<;>try cases l
 rcases u with _|⟨x,_|⟨y,_|⟨_,_⟩⟩⟩<;>try cases q
 exact h i s k T x y j Q O d e z N r np (hv 0 d x I I) (hv 1 e y I I) l G
noncomputable def oz:D->Option (D×Bool)
 | .tup l=>Y (.int<|Ix l,C)
 | .lst l=>Y (.int<|Ix l,C)
 |_=>J
def la:kQ X (.builtin "len") (rDn X.K<|g1 oz):=pd λf s j T x u Q O d z N i np hd g G=>by
 cases d with
 |tup l=>
  cases g;obtain⟨p,h,rfl,q,r⟩:=ma hd;refine yC f s j T [_] [u] Q N (.cons i .nil) ⟨p,h,rfl,.inr q,?_⟩;rw[r.length];exact G.int
 |lst l=>
  cases g;obtain⟨p,h,rfl,q,r⟩:=lg hd;refine yC f s j T [_] [u] Q N (.cons i .nil) ⟨p,h,rfl,.inl q,?_⟩;rw[r.length];exact G.int
 |_=>cases g
noncomputable def mF:D->Option (D×Bool)
 | .int i=>Y (.int (if i<0 then -i else i),C)
 |_=>J
def lb:kQ X (.builtin "abs") (rDn X.K<|g1 mF):=pd λf s j T x u Q O d z N h np hd g G=>by
 cases d with
 |int i=>cases g;exact Qi f s j T [x] [u] Q N (.cons h .nil) ⟨i,by rw[jd hd],G.int⟩
 |_=>cases g
noncomputable def IK:D->Option (D×Bool)
 | .int i=>Y (.int i,C)
 | .bl b=>Y (.int (if b then 1 else 0),C)
 |_=>J
def zP:kQ X (.type "int") (rDn X.K<|g1 IK):=pd λf s j T x u Q O d z N h np hd g G=>by
 cases d with
 |int i=>cases g;exact DC f s j T [x] [u] Q N (.cons h .nil)<|.inl ⟨i,by rw[jd hd],G.int⟩
 |bl i=>
  cases g;refine DC f s j T [x] [u] Q N (.cons h .nil)<|.inr ⟨i,by rw[Jw hd],?_⟩;have:=G.int;cases i<;>exact this
 |_=>cases g
noncomputable def ml:D->Option (D×Bool)
 | .tup l=>Y (.tup l,C)
 | .lst l=>Y (.tup l,C)
 |_=>J
def kX:kQ X (.type "tuple") (rDn X.K<|g1 ml):=pd λf s o T x u Q O d z N k np hd g G=>by
 cases d with
 |tup l=>
  cases g;have j:Rep X.K T O (.tup l) x:=hd.elim id λ⟨_,_,z⟩=>z.elim;obtain⟨p,h,rfl,q,r⟩:=j.tup;exact wz f s o T [_] [u] Q N (.cons k .nil) ⟨p,h,rfl,.inr ⟨q.sq,G _ T (λ_ _ e=>e) j⟩⟩
 |lst l=>
  cases g;obtain⟨p,h,rfl,q,r⟩:=lg hd;exact wz f s o T [_] [u] Q N (.cons k .nil) ⟨p,h,rfl,.inl ⟨q,λt i=>G.tup i (np t<|nOw i) r⟩⟩
 |_=>cases g
noncomputable def Ae:D->Option (D×Bool)
 | .tup l=>Y (.lst l,U)
 | .lst l=>Y (.lst l,U)
 |_=>J
def qk:kQ X (.type "list") (rDn X.K<|g1 Ae):=pd λf s k T x u Q O d z N j np hd g G=>by
 cases d with
 |tup l=>
  cases g;obtain⟨p,i,rfl,q,r⟩:=ma hd;exact yB f s k T [_] [u] Q N (.cons j .nil) ⟨p,i,rfl,.inr q,λt h=>G.lst h r⟩
 |lst l=>
  cases g;obtain⟨p,i,rfl,q,r⟩:=lg hd;exact yB f s k T [_] [u] Q N (.cons j .nil) ⟨p,i,rfl,.inl q,λt h=>G.lst h r⟩
 |_=>cases g
end
abbrev FT:=Dn->Option (Bool×Dn)
def tT(K:iM)(f:FT):TT:=λe O Q=> ∃d T b a,ER K O T e d/\f d=Y (b,a)/\ ∀c,Keep e d O a c->ER K c T e a->Q b c
def PTX(X:Cx)(e:iA)(f:FT):Prop:=PT X e<|tT X.K f
def PWX(X:Cx)(e:iA)(f:FT):Prop:=PW X e<|tT X.K f
noncomputable def asB:(D×Bool)×Dn->Option (Bool×Dn)
 |((.bl b,_),a)=>Y (b,a)
 |_=>J
noncomputable def fT(f:F):FT:=λδ=>(f δ).bind asB
def B8(h:asB p=Y q): ∃o,p=((.bl q.1,o),q.2):=by
 obtain⟨⟨d,o⟩,a⟩:=p
 cases d with
 |bl b=>cases h;exact⟨o,rfl⟩
 |_=>cases h
def Nd{K:iM}{f:F}{a:L2.St}{O:Hp}{Q:Bool->Hp->Prop}(h:tT K (fT f) a O Q):tF K f a O λx i=> ∃c,x= .bl c/\Q c i:=by obtain⟨l,T,b,m,E,e,k⟩:=h;obtain⟨p,h1,j⟩:=hJ e;obtain⟨o,rfl⟩:=B8 j;refine⟨l,T,_,_,E,h1,λv g P=>?_⟩;obtain⟨d,r⟩:=P.rep E;exact⟨b,r.bl,k g P.1 d⟩
section
variable {X:Cx}{e a b c:iA}{m:kn}{A fb:FO}{f g:F}{l n:FT}{i:bC}
def PT.imp'(h:PT X e t)(k: ∀j T Q,p j T Q->t j T Q):PT X e p:=λd s j T Q O o=>h d s j T Q O<|k j T Q o
def PW.imp'(h:PW X e t)(k: ∀j T Q,p j T Q->t j T Q):PW X e p:=λwh d s j T Q O o=>h wh d s j T Q O<|k j T Q o
def RH(h:PX X e f)(j: ∀d,isTrue e X.env d=(do let v <-d;cq e.pos;bo [v] (truthy v))):PTX X e (fT f):=PT.imp' (Vq h j) λo T Q k=>Nd k
def Si{r:R2}{g:D->D->Option (D×Bool)}(J:WA X.K r g){t:L2.St}{H:Hp}{Q:VK}(M:tF X.K (ie g A fb) t H Q):tOp r (tO X.K A) (tO X.K fb) t H Q:=by obtain⟨U,T,P,Y,E,e,k⟩:=M;obtain⟨⟨o,d⟩,h1,e⟩:=hJ e;obtain⟨⟨N,q⟩,C,e⟩:=hJ e;obtain⟨x,I,e⟩:=hJ e;obtain⟨y,L,e⟩:=hJ e;obtain⟨z,O,e⟩:=hJ e;obtain⟨rfl,rfl⟩:=iQ e;refine⟨U,T,o,d,E,h1,λv F h=>⟨d,Cj T o v,N,q,h.er E,C,λu w s=>?_⟩⟩;have B:=Ops.cons E h<|Ops.cons (h.er E) s<|Ops.nil<|s.er<|h.er E;exact J x y z v u w _ Q (λp G=>B.np G) (B.view (j:=0) H8 H8 I) (B.view (j:=1) H8 H8 L) O (B.done k)
def Xi{K:iM}{g:D->D->Option (D×Bool)}:WA K (rD K g) g:=λx y z v u T O Q np h j d G=>⟨O,x,y,z,np,h,j,d,G⟩
def RK{d:cz}{g:D->D->Option (D×Bool)}(o:OpR X (ap d) (rD X.K g))(h:PO X a A)(j:PO X b fb)(k:ce d b=C):PTX X (.Compare a [d] [b] i) (fT<|ie g A fb):=
 PT.imp' (RL o h j k) λq T Q p=>Si Xi<|Nd p
noncomputable def BN(f g:FT):FT:=λd=>(f d).bind λp=>if p.1=U then g p.2 else Y (C,p.2)
noncomputable def qW(f g:FT):FT:=λδ=>(f δ).bind λp=>if p.1=U then Y (U,p.2) else g p.2
noncomputable def kW(f:FT):FT:=λδ=>(f δ).bind λp=>Y (!p.1,p.2)
def NK(d:PTX X a l):PWX X (.BoolOp .And [a] i) l:=RF d
def RD(d:PTX X a l):PWX X (.BoolOp .Or [a] i) l:=Vn d
def RE(u:PTX X a l)(v:PWX X (.BoolOp .And (b::m) i) n):PWX X (.BoolOp .And (a::b::m) i) (BN l n):=PW.imp' (Vo u v) λy O Q w=>by
 obtain⟨x,T,c,h,E,e,k⟩:=w;obtain⟨⟨p,d⟩,h1,e⟩:=hJ e;refine⟨x,T,p,d,E,h1,λr o j=>?_⟩
 cases p with
 |true=>rw[iF I] at e;rw[iF I];exact⟨d,T,c,h,j,e,λs t q=>k s (o.trans t) q⟩
 |false=>rw[iL kF] at e;rw[iL kF];obtain⟨rfl,rfl⟩:=iQ e;exact k r o j
def Vm(u:PTX X a l)(v:PWX X (.BoolOp .Or (b::m) i) n):PWX X (.BoolOp .Or (a::b::m) i) (qW l n):=PW.imp' (Xn u v) λy O Q w=>by
 obtain⟨x,T,c,h,E,e,k⟩:=w;obtain⟨⟨p,d⟩,h1,e⟩:=hJ e;refine⟨x,T,p,d,E,h1,λr o j=>?_⟩
 cases p with
 |true=>rw[iF I] at e;rw[iF I];obtain⟨rfl,rfl⟩:=iQ e;exact k r o j
 |false=>rw[iL kF] at e;rw[iL kF];exact⟨d,T,c,h,j,e,λs t q=>k s (o.trans t) q⟩
def RI(j:PTX X a l):PTX X (.UnaryOp .Not a i) (kW l):=PT.imp' (Vr j) λr O Q o=>by obtain⟨p,T,c,q,E,e,k⟩:=o;obtain⟨⟨h,d⟩,h1,e⟩:=hJ e;obtain⟨rfl,rfl⟩:=iQ e;exact⟨p,T,h,d,E,h1,k⟩
noncomputable def vc(f g:F):F:=λδ=>(f δ).bind λp=>(asB p).bind λq=>if q.1=U then g q.2 else Y ((.bl C,C),q.2)
noncomputable def fOr(f g:F):F:=λd=>(f d).bind λp=>(asB p).bind λq=>if q.1=U then Y ((.bl U,C),q.2) else g q.2
noncomputable def P5(f:F):F:=λd=>(f d).bind λp=>(asB p).bind λq=>Y ((.bl (!q.1),C),q.2)
def Post.pre{K:iM}{T:AP'}{h:L2.St}{δ δ1 δ2:Dn}{Q j q:Hp}{r:D×Bool}{v:V}(k:Keep h δ Q δ1 j)(P:Post K T h δ1 j r δ2 v q):Post K T h δ Q r δ2 v q:=by
 refine⟨k.trans P.1,?_⟩;obtain⟨d,o⟩:=r
 cases o with
 |false=>exact P.2
 |true=>
  obtain⟨p,h1,s,t⟩:=P.2;refine⟨p,h1,?_,t⟩
  cases u:Q p with
  |none=>rfl
  |some w=>exact absurd s<|k.dm p (by rw[u];simp)
def Vk(y:PX X a f)(z:PX X (.BoolOp .And (b::m) i) g):PX X (.BoolOp .And (a::b::m) i) (vc f g):=PX.imp (VG y z) λL O Q B=>by
 obtain⟨N,T,r,h,E,e,k⟩:=B;obtain⟨p,h1,e⟩:=hJ e;obtain⟨⟨c,j⟩,x,d⟩:=hJ e;obtain⟨o,rfl⟩:=B8 x;refine⟨N,T,_,_,E,h1,λv s P=>?_⟩;obtain⟨q,M⟩:=P.rep E;refine⟨c,M.bl,?_⟩
 cases c with
 |true=>rw[iF I] at d;rw[iF I];exact⟨j,T,r,h,q,d,λw t u=>k w t<|u.pre P.1⟩
 |false=>rw[iL kF] at d;rw[iL kF];obtain⟨rfl,rfl⟩:=iQ d;exact k _ s (Post.val P.1 q Rep.mkBl)
def RB{op}(d:PX X a f):PX X (.BoolOp op [a] i) f:=VC d
def Vb(s:PX X a f):PX X (.UnaryOp .Not a i) (P5 f):=PX.imp (VD s) λz O Q t=>by obtain⟨w,T,r,x,E,e,k⟩:=t;obtain⟨p,h1,e⟩:=hJ e;obtain⟨⟨c,y⟩,q,j⟩:=hJ e;obtain⟨o,rfl⟩:=B8 q;obtain⟨rfl,rfl⟩:=iQ j;refine⟨w,T,_,_,E,h1,λv h P=>?_⟩;obtain⟨d,u⟩:=P.rep E;exact⟨c,u.bl,k _ h (Post.val P.1 d Rep.mkBl)⟩
noncomputable def fIf(t:FT)(f g:F):F:=λd=>(t d).bind λp=>if p.1=U then f p.2 else g p.2
def Xl(u:PTX X c l)(s:PX X a f)(t:PX X b g):PX X (.IfExp c a b i) (fIf l f g):=PX.imp (Og u s t) λz O Q v=>by
 obtain⟨x,T,r,h,E,e,k⟩:=v;obtain⟨⟨c,d⟩,h1,e⟩:=hJ e;refine⟨x,T,c,d,E,h1,λy q p=>?_⟩
 cases c with
 |true=>rw[iF I] at e;rw[iF I];exact⟨d,T,r,h,p,e,λw j o=>k w j<|o.pre q⟩
 |false=>rw[iL kF] at e;rw[iL kF];exact⟨d,T,r,h,p,e,λw j o=>k w j<|o.pre q⟩
end
inductive Out where
 |nx(δ:Dn)|rt(r:D×Bool)(δ:Dn)|bk(δ:Dn)|ct(δ:Dn)
abbrev FS:=Dn->Option Out
structure SK(A:kg)(σ:L2.St)(δ:Dn)(H:Hp)(σ':L2.St)(δ':Dn)(H':Hp):Prop where
 kp: ∀a o,H a=FM o-> ¬OwnA σ δ a->H' a=FM o
 owi: ∀i a,OwnI σ' δ' i a->OwnI σ δ i a\/H a=F2
 dm: ∀a,H a≠F2->H' a≠F2
 as: ∀i,¬A i->σ'[i]?=σ[i]?
structure FI(L:kg)(H0:Hp)(σ:L2.St)(δ:Dn)(H:Hp):Prop where
 ow: ∀i a,OwnI σ δ i a->L i\/H0 a=F2
 dm: ∀a,H0 a≠F2->H a≠F2
def RV(K:iM)(T:AP')(f:Hp)(r:D×Bool)(c:L2.St)(b:Dn)(v:V)(e:Hp):Prop:=
 match r with
 |(d,C)=>ER K e T c b/\Rep K e (λa=>OwnA c b a\/T a) d v
 |(d,U)=> ∃p,v= .ref p/\f p=J/\ER K e (λa=>T a\/a=p) c b/\OwnOk K e (λa=>OwnA c b a\/T a\/a=p) d p
section
variable {A:kg}{c b l:L2.St}{δ δ1 δ2:Dn}{H j g m:Hp}{L:kg}{K:iM}{T:AP'}
def SK.refl:SK A c δ H c δ H:=⟨λ_ _ e _=>e,λ_ _ z=> .inl z,λ_ z=>z,λ_ _=>rfl⟩
def SK.ow(k:SK A c δ H b δ1 g)(a:hV)(h:OwnA b δ1 a):OwnA c δ a\/H a=J:=by
 obtain⟨i,d,h1,f⟩:=h;rcases k.owi i a ⟨d,h1,f⟩ with⟨e,n,o⟩|z
 .exact .inl ⟨i,e,n,o⟩
 .exact .inr z
def SK.trans(x:SK A c δ H b δ1 g)(y:SK A b δ1 g l δ2 m):SK A c δ H l δ2 m where
 kp:=λa o e n=>y.kp a o (x.kp a o e n) λz=>(x.ow a z).elim n λz=>by rw[z] at e;cases e
 owi:=λi a z=>(y.owi i a z).elim (x.owi i a) λz=> .inr (by
  cases h:H a with
  |none=>rfl
  |some o=>exact absurd z<|x.dm a<|by rw[h];simp)
 dm:=λa z=>y.dm a<|x.dm a z
 as:=λi h=>(y.as i h).trans<|x.as i h
def Keep.sk(k:Keep c δ H δ1 g):SK A c δ H c δ1 g:=⟨k.kp,λi a z=> .inl (k.owi i a z),k.dm,λ_ _=>rfl⟩
def FI.step(f:FI L j c δ H)(k:SK A c δ H b δ1 g):FI L j b δ1 g where
 ow:=λi a z=>(k.owi i a z).elim (f.ow i a) λz=> .inr (by
  cases h:j a with
  |none=>rfl
  |some o=>exact absurd z<|f.dm a<|by rw[h];simp)
 dm:=λa z=>k.dm a<|f.dm a z
def FI.fresh(f:FI L j c δ H)(a:H p=J):j p=J:=by
 cases h:j p with
 |none=>rfl
 |some o=>exact absurd a<|f.dm p (by rw[h];simp)
end
def tS(K:iM)(A L:kg)(h:Hp)(f:FS):TS:=λD e Q=> ∃d T g,ER K Q T e d/\FI L h e d Q/\f d=Y g/\
 match g with
 | .nx b=> ∀a c,SK A e d Q a b c->ER K c T a b->D.nx a c
 | .bk b=> ∀a c,SK A e d Q a b c->ER K c T a b->D.bk a c
 | .ct b=> ∀a c,SK A e d Q a b c->ER K c T a b->D.ct a c
 | .rt r b=> ∀v a c,SK A e d Q a b c->RV K T h r a b v c->D.rt v c
def PSX(X:Cx)(A L:kg)(a:Hp)(st:b7)(f:FS):Prop:=PS X st<|tS X.K A L a f
def Fq(X:Cx)(A L:kg)(a:Hp)(st:List b7)(f:FS):Prop:=PSs X st<|tS X.K A L a f
noncomputable def iB:FS:=λδ=>Y<|.nx δ
noncomputable def ig(f g:FS):FS:=λδ=>(f δ).bind λo=>match o with
 | .nx δ1=>g δ1
 |o=>Y o
noncomputable def nS(f:F):FS:=λa=>(f a).bind λp=>Y<|.nx p.2
noncomputable def jK(f:F):FS:=λδ=>(f δ).bind λp=>Y<|.rt p.1 p.2
noncomputable def mw(i:Nat):FS:=λa=>match a[i]? with
 |some (Y (d,U))=>Y<|.rt (d,U)<|a.set i J
 |some (Y (d,C))=>Y<|.rt (d,C) a
 |_=>J
noncomputable def sIf(t:FT)(f g:FS):FS:=λδ=>(t δ).bind λp=>if p.1=U then f p.2 else g p.2
noncomputable def iY(i:Nat)(f:F):FS:=λδ=>(f δ).bind λp=>if i<(Ix p.2) then Y (.nx<|p.2.set i<|Y p.1) else J
section
variable {X:Cx}{A L:kg}{i:Hp}{st:b7}{sts:List b7}{f g:FS}{l:F}{m:FT}{e c:iA}{j:bC}
def PS.imp'(h:PS X st t)(k: ∀D b T,n D b T->t D b T):PS X st n:=λa s b T D Q d=>h a s b T D Q<|k D b T d
def PSs.imp'(h:PSs X sts t)(k: ∀D b T,n D b T->t D b T):PSs X sts n:=λa s b T D Q d=>h a s b T D Q<|k D b T d
def NQ:Fq X A L i [] iB:=PSs.imp' RQ λD d Q a=>by obtain⟨n,T,b,E,h,e,k⟩:=a;cases e;exact k d Q .refl E
def Lb(h1:PSX X A L i st f)(w:Fq X A L i sts g):Fq X A L i (st::sts) (ig f g):=PSs.imp' (NS h1 w) λD O Q y=>by
 obtain⟨z,T,s,E,t,e,k⟩:=y;obtain⟨o,x,e⟩:=hJ e;refine⟨z,T,o,E,t,x,?_⟩
 cases o with
 |nx b=>
  intro B N q u;refine⟨b,T,s,u,t.step q,e,?_⟩
  cases s with
  |nx n=>exact λa d h p=>k a d (q.trans h) p
  |bk n=>exact λa d h p=>k a d (q.trans h) p
  |ct n=>exact λa d h p=>k a d (q.trans h) p
  |rt r n=>exact λv a d h R2=>k v a d (q.trans h) R2
 |rt r b=>cases e;exact k
 |bk b=>cases e;exact k
 |ct b=>cases e;exact k
def NN(h:PX X e l)(d:cR e J j.line X.env=pure C):PSX X A L i (.Expr e j) (nS l):=PS.imp' (RS h d) λD r Q n=>by obtain⟨q,T,o,E,s,e,k⟩:=n;obtain⟨p,b,e⟩:=hJ e;cases e;exact⟨q,T,p.1,p.2,E,b,λv a P=>k r a P.1.sk (P.rep E).1⟩
def RO(h:PX X e l):PSX X A L i (.Return (Y e) j) (jK l):=PS.imp' (NU h) λD x Q s=>by
 obtain⟨u,T,t,E,n,e,k⟩:=s;obtain⟨p,a,e⟩:=hJ e;cases e;refine⟨u,T,p.1,p.2,E,a,λv b P=>k v x b P.1.sk ?_⟩;obtain⟨⟨d,o⟩,w⟩:=p
 cases o with
 |false=>exact P.2
 |true=>obtain⟨q,h1,r,a⟩:=P.2;exact⟨q,h1,n.fresh r,a⟩
def Vs(Q:PTX X c m)(I:Fq X A L i a f)(O:Fq X A L i b g):PSX X A L i (.If c a b j) (sIf m f g):=PS.imp' (Xo Q I O) λD w N J=>by
 obtain⟨y,T,q,E,M,e,k⟩:=J;obtain⟨⟨c,n⟩,h1,e⟩:=hJ e;refine⟨y,T,c,n,E,h1,λx B z=>?_⟩;have u:SK A w y N w n x:=B.sk
 have fin: ∀(h:FS),h n=Y q->tS X.K A L i h D w x:=λh G=>by
  refine⟨n,T,q,z,M.step u,G,?_⟩
  cases q with
  |nx s=>exact λd o p t=>k d o (u.trans p) t
  |bk s=>exact λd o p t=>k d o (u.trans p) t
  |ct s=>exact λd o p t=>k d o (u.trans p) t
  |rt r s=>exact λv d o p R2=>k v d o (u.trans p) R2
 cases c with
 |true=>rw[iF H8] at e;exact(show(if U=U then tS X.K A L i f D w x else _) from by rw[iF H8];exact fin f e)
 |false=>rw[iL kF] at e;exact(show(if C=U then _ else tS X.K A L i g D w x) from by rw[iL kF];exact fin g e)
end
def mx{b:Type}{l:List b}{i j:Nat}{x y:b}(h:(l.set i x)[j]?=Y y):(i=j/\i<Ix l/\y=x)\/(i≠j/\l[j]?=Y y):=by
 rw[Eg] at h;split at h
 .rename_i a;split at h
  .rename_i c;exact .inl ⟨a,c,(kP h).symm⟩
  .cases h
 .rename_i a;exact .inr ⟨a,h⟩
section
variable {K:iM}{T:AP'}{f:L2.St}{l c:Dn}{H g:Hp}{x:D×Bool}{v:V}{i:Nat}
def OwnI.store{j:Nat}{a:hV}(h:OwnI (f.set i<|Y v) (l.set i<|Y x) j a):(i≠j/\OwnI f l j a)\/(i=j/\x.2=U/\v= .ref a):=by
 obtain⟨d,h1,m⟩:=h;rcases mx h1 with⟨e,_,q⟩|⟨ne,q⟩
 .rcases mx m with⟨_,_,k⟩|⟨b,_⟩
  .right;cases q;exact⟨e,rfl,(kP k).symm⟩
  .exact absurd e b
 .rcases mx m with⟨n,_,_⟩|⟨_,k⟩
  .exact absurd n ne
  .exact .inl ⟨ne,d,q,k⟩
def OwnA.store(h:OwnA (f.set i<|Y v) (l.set i<|Y x) a):OwnA f l a\/(x.2=U/\v= .ref a):=by
 obtain⟨j,d,h1,k⟩:=h;rcases OwnI.store ⟨d,h1,k⟩ with⟨_,e,b,m⟩|⟨_,b⟩
 .exact .inl ⟨j,e,b,m⟩
 .exact .inr b
def ER.store(h:ER K g (Tmp T x v) f c)(E:i<Ix c)(u:match x with|(d,C)=>Rep K g (λa=>OwnA f c a\/T a) d v|(d,U)=> ∃p,v= .ref p/\ ¬T p/\OwnOk K g (λa=>OwnA f c a\/T a\/a=p) d p):
  ER K g T (f.set i<|Y v) (c.set i<|Y x):=by
 have r:i<(Ix f):=by rw[h.len];exact E
 have sub: ∀b,g b≠J->(OwnA (f.set i<|Y v) (c.set i<|Y x) b\/T b)->(OwnA f c b\/Tmp T x v b):=λb _ z=>by
  rcases z with z|z
  .rcases z.store with z|z
   .exact .inl z
   .exact .inr (.inr z)
  .exact .inr (.inl z)
 refine⟨by rw[sD,sD];exact h.len,λj d o=>?_,λj d o=>?_,λj k d e a o hk h1 n=>?_,λa z=>?_,λa z=>h.dom a<|.inl z⟩
 .rcases mx o with⟨rfl,_,q⟩|⟨ne,q⟩
  .have q:=kP q;subst q
   exact⟨v,wj r,Rep.mono (λ_ _ e _=>e) (λb O z=>by
    rcases z with z|z
    .rcases z.store with z|z
     .exact .inl z
     .exact absurd z.1 (by simp)
    .exact .inr z) u⟩
  .obtain⟨w,h1,n⟩:=h.val j d q;exact⟨w,by rw[tU ne];exact h1,Rep.mono (λ_ _ e _=>e) sub n⟩
 .rcases mx o with⟨rfl,_,q⟩|⟨ne,q⟩
  .have q:=kP q;subst q;obtain⟨p,rfl,np,ok⟩:=u;refine⟨p,wj r,ok.mono (λ_ _ e _=>e) (λb O z=>?_) λ_ e=>e⟩;rcases z with z|z
   .rcases z.store with z|z
    .exact .inl z
    .have:=z.2;cases this;exact .inr<|.inr I
   .exact .inr (.inl z)
  .obtain⟨a,h1,n⟩:=h.own j d q;exact⟨a,by rw[tU ne];exact h1,n.mono (λ_ _ e _=>e) sub λ_ e=>e⟩
 .rcases OwnI.store ⟨d,o,h1⟩ with⟨L,y,g1,g2⟩|⟨B,g1,g2⟩
  .rcases OwnI.store ⟨e,hk,n⟩ with⟨Q,s,g3,m⟩|⟨A,g3,m⟩
   .exact h.inj j k y s a g1 g3 g2 m
   .exact absurd (bt ⟨g3,m⟩) (h.nT a ⟨j,y,g1,g2⟩)
  .rcases OwnI.store ⟨e,hk,n⟩ with⟨Q,s,g3,m⟩|⟨A,g3,m⟩
   .exact absurd (bt ⟨g1,g2⟩) (h.nT a ⟨k,s,g3,m⟩)
   .exact B.symm.trans A
 .rcases z.store with z|z
  .exact λt=>h.nT a z<|.inl t
  .obtain⟨d,b⟩:=x
   cases b with
   |false=>exact absurd z.1 (by simp)
   |true=>obtain⟨p,rfl,np,_⟩:=u;have:=z.2;cases this;exact np
def SK.store(k:Keep f l H c g)(b:A i)(h:x.2=U-> ∀p,v= .ref p->H p=J):SK A f l H (f.set i<|Y v) (c.set i<|Y x) g where
 kp:=k.kp
 owi:=λj a z=>by
  rcases z.store with⟨_,z⟩|⟨_,m,n⟩
  .exact .inl (k.owi j a z)
  .exact .inr (h m a n)
 dm:=k.dm
 as:=λj d=>tU λ(e:i=j)=>d (by subst e;exact b)
end
section
variable {X:Cx}{A L:kg}{m:Hp}{l:F}{e c:iA}{g f:bC}
def A6{K:iM}{T:AP'}{b:L2.St}{n a:Dn}{Q j:Hp}{r:D×Bool}{v:V}{i:Nat}(E:ER K Q T b n)(P:Post K T b n Q r a v j)(u:i<Ix a)(t:A i):
  SK A b n Q (b.set i<|Y v) (a.set i<|Y r) j/\ER K j T (b.set i<|Y v) (a.set i<|Y r):=by
 have w:r.2=U-> ∀p,v= .ref p->Q p=J:=λh p hv=>by
  obtain⟨d,o⟩:=r
  cases o with
  |false=>cases h
  |true=>obtain⟨q,h1,k,_⟩:=P.2;rw[hv] at h1;cases h1;exact k
 refine⟨SK.store P.1 t w,ER.store (P.er E) u ?_⟩;obtain⟨d,o⟩:=r
 cases o with
 |false=>exact P.2.2
 |true=>obtain⟨p,rfl,k,x,s⟩:=P.2;exact⟨p,rfl,λz=>(E.dom p z).ne k,s⟩
def RN{i:Nat}{x:aW}(n:X.N.Nodup)(a:X.N[i]?=Y x)(u:Loc X.env.scope x)(p:PX X e l)(s:cR e (Y<|.Name x f) g.line X.env=pure C)(q:X.fn x=U\/X.env.scope.names.lookup x=Y .local)(o:A i):
  PSX X A L m (.Assign [.Name x f] e g) (iY i l):=PS.imp' (Vt n a u p s q) λD B Q t=>by
 obtain⟨y,T,w,E,z,e,k⟩:=t;obtain⟨⟨r,b⟩,j,e⟩:=hJ e;obtain⟨a,rfl⟩:=jh e;refine⟨y,T,r,b,E,j,λv d P=>?_⟩;obtain⟨h1,h⟩:=A6 (A:=A) E P a o;exact k _ d h1 h
def HY{i:Nat}{x:aW}(Y:X.N[i]?=FM x)(hv:Vis X.env.scope x)(hd:(x==("__debug__":aW))=Go)(w6:(x==("__classdict__":aW))=Go)(hl: ¬L i):PSX X A L m (.Return (FM<|.Name x f) g) (mw i):=PS.imp' (NU<|Ie Y hv hd w6) λD u H K=>by
 obtain⟨s,T,P,E,U,e,k⟩:=K;unfold mw at e
 cases o:s[i]? with
 |none=>rw[o] at e;cases e
 |some q=>
  cases q with
  |none=>rw[o] at e;cases e
  |some p=>
   obtain⟨d,b⟩:=p;have F:i<(Ix s):=(xN.mp o).1
   cases b with
   |false=>rw[o] at e;cases e;obtain⟨v,h1,C⟩:=E.val i d o;exact⟨v,h1,k v u H .refl ⟨E,C⟩⟩
   |true=>
    rw[o] at e;cases e;obtain⟨a,h1,C⟩:=E.own i d o
    have h: ∀j b,OwnI u (s.set i F2) j b->i≠j/\OwnI u s j b:=λj b a'=>by
     obtain⟨r,g1,g2⟩:=a'
     rcases mx g1 with⟨_,_,q⟩|⟨ne,q⟩
     .cases q
     .exact⟨ne,r,q,g2⟩
    have n: ∀b,OwnA u (s.set i F2) b->OwnA u s b/\b≠a:=λb a'=>by
     obtain⟨j,r,g1,g2⟩:=a'
     obtain⟨ne,B,g3,Q⟩:=h j b ⟨r,g1,g2⟩;exact⟨⟨j,B,g3,Q⟩,λz=>ne<|by subst z;exact E.inj i j d B _ o g3 h1 Q⟩
    have G:OwnA u s a:=⟨i,d,o,h1⟩
    have sub: ∀b,H b≠F2->(OwnA u (s.set i F2) b\/(T b\/b=a))->(OwnA u s b\/T b):=λb _ z=>by
     rcases z with z|z|z
     .exact .inl (n b z).1
     .exact .inr z
     .subst z;exact .inl G
    refine⟨.ref a,h1,k (.ref a) u H ⟨λ_ _ e _=>e,λj b z=> .inl (h j b z).2,λ_ z=>z,λ_ _=>rfl⟩ ⟨a,rfl,?_,?_,C.mono (λ_ _ e _=>e) sub λ_ e=>e⟩⟩
    .rcases U.ow i a ⟨d,o,h1⟩ with z|z
     .exact absurd z hl
     .exact z
    .refine⟨by rw[sD];exact E.len,λj r y=>?_,λj r y=>?_,λj k r M b y hk g1 g2=>?_,λb z t=>?_,λb z=>?_⟩
     .rcases mx y with⟨_,_,q⟩|⟨ne,q⟩
      .cases q
      .obtain⟨w,I,O⟩:=E.val j r q;exact⟨w,I,Rep.mono (λ_ _ e _=>e) sub O⟩
     .rcases mx y with⟨_,_,q⟩|⟨ne,q⟩
      .cases q
      .obtain⟨w,I,O⟩:=E.own j r q;exact⟨w,I,O.mono (λ_ _ e _=>e) sub λ_ e=>e⟩
     .obtain⟨_,B,R,S⟩:=h j b ⟨r,y,g1⟩;obtain⟨_,J,V,W⟩:=h k b ⟨M,hk,g2⟩;exact E.inj j k B J b R V S W
     .obtain⟨Z,z2⟩:=n b z;rcases t with t|t
      .exact E.nT b Z t
      .exact z2 t
     .rcases z with z|z
      .exact E.dom b z
      .subst z;exact E.ownOw G
end
abbrev Tg:=D->Dn->Option Dn
def tG(K:iM)(A:kg)(g:Tg):TG:=λv f O Q=> ∃e T d b,ER K O T f e/\Rep K O (λa=>OwnA f e a\/T a) d v/\g d e=Y b/\ ∀c,SK A f e O c b O->ER K O T c b->Q c O
def PGX(X:Cx)(A:kg)(e:iA)(a:Tg):Prop:=PG X e<|tG X.K A a
noncomputable def hW(i:Nat):Tg:=λd δ=>if i<(Ix δ) then Y (δ.set i<|Y (d,C)) else J
noncomputable def Jz:List Tg->List D->Dn->Option Dn
 |[],[],a=>Y a
 |t::b,d::ds,a=>(t d a).bind<|Jz b ds
 |_,_,_=>J
noncomputable def oN(a:List Tg):Tg
 | .tup ds,δ=>Jz a ds δ
 |_,_=>J
def tGs(K:iM)(A:kg)(g:List Tg):TGs:=λh e O Q=> ∃d T f b,ER K O T e d/\RepL K O (λa=>OwnA e d a\/T a) f h/\Jz g f d=Y b/\ ∀c,SK A e d O c b O->ER K O T c b->Q c O
section
variable {X:Cx}{A:kg}{g:bC}{e:iA}{f:kn}{t:Tg}{c:List Tg}
def PG.imp'{t d:TG}(h:PG X e t)(k: ∀v b T Q,d v b T Q->t v b T Q):PG X e d:=λa s b T v u Q O r i=>h a s b T v u Q O r<|k v b T Q i
def PGs.imp'{t d:TGs}(h:PGs X f t)(k: ∀v b T Q,d v b T Q->t v b T Q):PGs X f d:=λa s b T v u Q O r i=>h a s b T v u Q O r<|k v b T Q i
def N8{i:Nat}{x:aW}(h:X.N.Nodup)(a:X.N[i]?=Y x)(n:Loc X.env.scope x)(l:X.fn x=U\/X.env.scope.names.lookup x=Y .local)(j:A i):PGX X A (.Name x g) (hW i):=PG.imp' (JL h a n l) λv q O Q m=>by obtain⟨p,T,d,o,E,r,e,k⟩:=m;obtain⟨a,rfl⟩:=jh e;obtain⟨h1,b⟩:=A6 (A:=A) (r:=(d,C)) (v:=v) E (Post.val .refl E r) a j;exact k _ h1 b
def N9:PGs X [] (tGs X.K A []):=PGs.imp' R0 λv h O Q b=>by
 obtain⟨i,T,a,d,E,r,e,k⟩:=b
 cases a with
 |nil=>
  cases e;rw[RepL] at r;exact⟨r,k h .refl E⟩
 |cons _ _=>cases e
def C5(h1:PGX X A e t)(p:PGs X f (tGs X.K A c))(u:(aU (e::f) X.env).map (·.2)=bW e X.env::(aU f X.env).map (·.2)):PGs X (e::f) (tGs X.K A (t::c)):=PGs.imp' (Oa h1 p u) λv O N Q w=>by
 obtain⟨M,T,h,i,E,r,e,k⟩:=w
 cases h with
 |nil=>cases e
 |cons d h=>rw[RepL] at r;obtain⟨B,G,rfl,x,y⟩:=r;obtain⟨a,q,e⟩:=hJ e;refine⟨B,G,rfl,M,T,d,a,E,x,q,λL l m=>⟨a,T,h,i,m,?_,e,λj o n=>k j (l.trans o) n⟩⟩;exact RepL.mono (λ_ _ e _=>e) (λb s z=>z.elim (λz=>(l.ow b z).elim bn λz=>absurd z s) bt) y
def RZ{k:Nat}(o:X.calm=U)(h:PGs X f (tGs X.K A c)){n:Nat}(s:(aU f X.env).length=n)(p:c.length=n)(x:(aU f X.env).findIdx? (·.1)=J):PGX X A (.Tuple f k g) (oN c):=PG.imp' (Vz o h s x) λv z O Q u=>by
 obtain⟨i,T,d,j,E,r,e,k⟩:=u
 cases d with
 |tup b=>
  obtain⟨a,y,rfl,q,m⟩:=r.tup;refine⟨a,y,rfl,q.sq,?_,i,T,b,j,E,m,e,k⟩
  have: ∀(c:List Tg) (b:List D) (i:Dn),Jz c b i=Y j->b.length=c.length:=by
   intro c
   induction c with
   |nil=>intro b i h;cases b with|nil=>rfl|cons _ _=>cases h
   |cons t c w=>
    intro b i h
    cases b with
    |nil=>cases h
    |cons d b=>obtain⟨l,_,h⟩:=hJ h;simp[w b l h]
  rw[m.length,this c b i e,p]
 |_=>cases e
end
abbrev SB:=Nat->Prop
def OwB(B:SB)(T:AP')(c:L2.St)(b:Dn):AP':=λa=>(∃i,¬B i/\OwnI c b i a)\/T a
def OwB.own(h:OwB B T σ δ a):OwnA σ δ a\/T a:=h.imp (λQ=>by obtain⟨i,_,d,h1,b⟩:=Q;exact ⟨i,d,h1,b⟩) id
structure ItOk(K:iM)(J:It)(ds:List D)(P O:AP')(H1:Hp):Prop where
 go: ∀(i:Nat) d Hi,ds[i]?=FM d->(∀a o,H1 a=FM o-> ¬P a->Hi a=FM o)->J.go i Hi/\ ∀x H',J.yld i Hi x H'->(∀a o,Hi a=FM o->H' a=FM o)/\
  ∀O':AP',(∀b,H1 b≠F2->O' b->O b)->(∀b,Hi b=F2-> ¬O' b)->Rep K H' O' d x
 stop: ∀(i:Nat) Hi,Ix ds<=i->(∀a o,H1 a=FM o-> ¬P a->Hi a=FM o)->J.stop i Hi
abbrev FIt:=Dn->Option (List D×Dn)
def tI(K:iM)(B:SB)(g:FIt):TI:=λc Q R=> ∃e T f b,ER K Q T c e/\g e=Y (f,b)/\ ∀O d,Keep c e Q b d->ER K d T c b->ItOk K O f (OwB B T c b) (λa=>OwnA c b a\/T a) d->R O d
def PIX(X:Cx)(B:SB)(tg iter:iA)(a:FIt):Prop:=PI X tg iter<|tI X.K B a
noncomputable def tV:D->Option (List D)
 | .tup l=>Y l
 | .lst l=>Y l
 |_=>J
noncomputable def IE(f:FO):FIt:=λa=>(f a).bind λp=>(res p.2 p.1).bind λd=>(tV d).bind λl=>Y (l,p.2)
noncomputable def iJ(f:F):FIt:=λδ=>(f δ).bind λp=>match p.1.1 with
 | .lst l=>Y (l,p.2)
 | .tup l=>Y (l,p.2)
 |_=>J
noncomputable def iX(lo:Int)(n:Nat):List D:=(aj n).map λ(k:Nat)=> .int (lo+k)
noncomputable def uf(f:FO):FIt:=λδ=>(kx [f] δ).bind λp=>match xg p.2 p.1 with
 |some [.int j]=>if -(2^62)<=j/\j<2^62 then Y (iX 0 j.toNat,p.2) else J
 |_=>J
def SlB(B:SB)(f:FO):Prop:= ∀b i a,f b=Y (.slot i,a)->B i
def EA:SlB B (hG f):=λb i a h=>by obtain⟨p,_,h⟩:=hJ h;cases h
noncomputable def isL:D->Bool
 | .lst _=>U
 |_=>C
def SqA(b:Bool)(K:iM)(T:Hp)(P:AP')(a:hV)(c:List V):Prop:=if b=U then SqLO K T P a c else SqTO K T P a c
def SqA.mono{K T c}{P P':AP'}(q:SqA b K T P a xs)(k: ∀b o,T b=Y o-> ¬P b->c b=Y o)(d: ∀b,P' b->P b):SqA b K c P' a xs:=by
 cases b with
 |true=>exact SqLO.mono q k λb _=>d b
 |false=>exact SqTO.mono (K:=K) q k λb _=>d b
def SqA.l{K T}(q:SqA U K T P a xs):SqL K T a xs:=SqLO.sq q
def SqA.t{K T}(q:SqA C K T P a xs):SqT K T a xs:=SqTO.sq (K:=K) q
def C2{K T}(h:tV d=Y l)(r:Rep K T O d v): ∃a b,v= .ref a/\SqA (isL d) K T O a b/\RepL K T O l b:=by
 cases d with
 |tup m=>cases h;obtain⟨a,b,rfl,q,c⟩:=r.tup;exact⟨a,b,rfl,q,c⟩
 |lst m=>cases h;obtain⟨a,b,rfl,q,c⟩:=r.lst;exact⟨a,b,rfl,q,c⟩
 |_=>cases h
def Ops.seq{K:iM}{T G:AP'}{h:L2.St}{A c:Dn}{N n:Hp}{os:List Opd}{y:List V}(E:ER K N T h A)(W:Ops K T h A N os y c n G){j:Nat}(h1:os[j]?=Y o)(x:y[j]?=Y v)(s:res c o=Y d)(t:tV d=Y l)(L: ∀i,o= .slot i->B i):
  ∃a g,v= .ref a/\SqA (isL d) K n (OwB B T h c) a g/\RepL K n (λa=>OwnA h c a\/T a) l g:=by
 have fin:Rep K n (λa=>OwnA h c a\/T a) d v-> ∃a g,v= .ref a/\SqA (isL d) K n (OwB B T h c) a g/\RepL K n (λa=>OwnA h c a\/T a) l g:=λr=>by obtain⟨a,g,rfl,q,u⟩:=C2 t r;exact⟨a,g,rfl,q.mono (λ_ _ e _=>e) λa z=>z.own,u⟩
 cases o with
 |val r=>cases s;exact fin<|W.rep E h1 x
 |slot i=>
  have hk:=W.slt j i _ h1 x
  have hd: ∃f,c[i]?=Y (Y (d,f)):=by
   unfold res at s;dsimp only at s;split at s<;>cases s
   exact⟨_,by assumption⟩
  obtain⟨f,hd⟩:=hd
  cases f with
  |false=>obtain⟨w,p,M⟩:=W.er.val i _ hd;rw[hk] at p;cases p;exact fin<|Rep.mono (λ_ _ e _=>e) (λb _ z=>z.imp id<|W.tt b) M
  |true=>
   obtain⟨a,p,ok⟩:=W.er.own i _ hd;rw[hk] at p;cases p
   cases d with
   |lst m=>
    cases t;obtain⟨g,e,u⟩:=ok;exact⟨a,g,rfl,.inl ⟨.inl e,λz=>z.elim (λa'=>by obtain⟨k,O,Q,g1,g2⟩:=a';exact O<|W.er.inj i k _ _ a hd g1 hk g2▸L i I) λz=>W.er.nT a ⟨i,_,hd,hk⟩<|W.tt a z⟩,RepL.mono (λ_ _ e _=>e) (λb _ z=>z.imp id<|W.tt b) u⟩
   |tup m=>exact ok.elim
   |_=>cases t
section
variable {X:Cx}{B:SB}{tg e:iA}{f:F}{c:FO}{g p:bC}
def PI.imp'(h:PI X tg e t)(k: ∀b T R,i b T R->t b T R):PI X tg e i:=λa s b T R Q d=>h a s b T R Q<|k b T R d
def PI.or(h:PI X tg e t)(d:PI X tg e j):PI X tg e (λb T R=>t b T R\/j b T R):=λa s b T R Q i=>i.elim (h a s b T R Q)<|d a s b T R Q
noncomputable def ItS(b:Bool)(K:iM)(a:hV):It:=if b=U then Itl K a else Itt K a
def Pu{K:iM}{P O:AP'}{m:Hp}{a:hV}{k:List V}{l:List D}(q:SqA b K m P a k)(r:RepL K m O l k)(v: ∀a,P a->O a):ItOk K (ItS b K a) l P O m:=by
 cases b<;>(
  refine⟨λi d Hi hd j=>?_,λi Hi w j=>?_⟩
  .have h:=SqA.mono q j λ_ z=>z
   first|replace h:=h.l|replace h:=h.t
   obtain⟨x,u,A⟩:=r.get hd;refine⟨⟨k,x,h,u⟩,λy Q s=>?_⟩;obtain⟨rfl,s⟩:=s;have:=s k h;rw[u] at this;cases this;exact⟨λ_ _ e=>e,λE h1 T=>Rep.mono (λb o e n=>j b o e λz=>n<|v b z) h1 A⟩
  .exact⟨k,by first|exact(SqA.mono q j λ_ z=>z).l|exact(SqA.mono q j λ_ z=>z).t,by rw[r.length];exact w⟩)
def BD{K:iM}{P O:AP'}{b:Hp}(lo:Int)(n:Nat):ItOk K (Itr lo n) (iX lo n) P O b:=by
 refine⟨λi d Hi hd j=>?_,λi Hi a j=>?_⟩
 .unfold iX at hd;rw[mv] at hd;obtain⟨k,h1,h⟩:=jB hd;have a:i<n:=by have:=(xN.mp h1).1;simpa using this
  have hk:k=i:=by rw[List.getElem?_range a] at h1;exact(kP h1).symm
  subst hk;refine⟨a,λy m l=>?_⟩;obtain⟨rfl,rfl⟩:=l;refine⟨λ_ _ e=>e,λo _ _=>?_⟩;rw[<-h];exact Rep.mkInt
 .unfold iX at a;have:n<=i:=by simpa using a
  exact this
def N1(h:PO X e c)(I:SlB B c):PIX X B tg e (IE c):=PI.imp' (PI.or (RY (tg:=tg) h)<|Vy h) λA N R O=>by
 obtain⟨x,T,J,G,E,e,k⟩:=O;obtain⟨⟨o,w⟩,h1,e⟩:=hJ e;obtain⟨d,M,e⟩:=hJ e;obtain⟨l,y,e⟩:=hJ e;obtain⟨rfl,rfl⟩:=iQ e
 have u: ∀v n,PostO X.K T A x N o w v n-> ∃a s,v= .ref a/\SqA (isL d) X.K n (OwB B T A w) a s/\R (ItS (isL d) X.K a) n:=λv n P=>by have W:=Ops.cons E P<|Ops.nil<|P.er E;obtain⟨a,s,rfl,q,Q⟩:=W.seq E (j:=0) H8 H8 M y λi L=>I _ _ _ (L▸h1);exact⟨a,s,rfl,q,k _ n W.keep (W.er.mono (λ_ _ e _=>e) (λb _ z=>W.tt b z) λa z=>W.er.dom a<|W.tt a z) (Pu q Q λa z=>z.own)⟩
 cases d with
 |lst m=>exact .inl ⟨x,T,_,_,E,h1,λv n P=>let⟨a,s,e,q,r⟩:=u v n P;⟨a,e,⟨s,q.l⟩,r⟩⟩
 |tup m=>exact .inr ⟨x,T,_,_,E,h1,λv n P=>let⟨a,s,e,q,r⟩:=u v n P;⟨a,e,⟨s,q.t⟩,r⟩⟩
 |_=>cases y
def RU(h:PX X e f):PIX X B tg e (iJ f):=PI.imp' (N1 (B:=B) (PX.po h) EA) λj T R a=>by
 have:iJ f=IE (hG f):=funext λb=>by
  unfold iJ IE hG
  cases f b with
  |none=>rfl
  |some p=>obtain⟨⟨d,o⟩,i⟩:=p;cases d<;>rfl
 rwa [this] at a
end
noncomputable def kZ(c:Tg)(b:FS):List D->FS
 |[],δ=>Y<|.nx δ
 |d::ds,δ=>(c d δ).bind λδ1=>(b δ1).bind λo=>match o with
  | .nx a=>kZ c b ds a
  | .ct a=>kZ c b ds a
  | .bk a=>Y<|.nx a
  | .rt r a=>Y<|.rt r a
noncomputable def mX(fi:FIt)(tg:Tg)(fb:FS):FS:=λδ=>(fi δ).bind λp=>kZ tg fb p.1 p.2
section
variable {X:Cx}{A L:kg}{l:Hp}{g iter:iA}{c:List b7}{j:FIt}{t:Tg}{f:FS}{h:bC}
def RP(hp:eF (ag X.prog X.w) X.A X.env X.xe)(hc:X.calm=Gc)(hi:PIX X (λ_=>False) g iter j)(hg:PGX X A g t)(G:Fq X A L l c f)(hs: ∀x,aw iter X.env x=pure x):
  PSX X A L l (.For g iter c [] h) (mX j t f):=PS.imp' (Vu hp hc hi hg G hs) λD M H hw=>by
 obtain⟨δ,T,R,E,gO,e,k⟩:=hw;obtain⟨⟨u,q⟩,h1,e⟩:=hJ e;refine⟨δ,T,u,q,E,h1,λJ Y K1 E1 ok=>?_⟩;have V:SK A M δ H M q Y:=K1.sk;refine⟨λi m s C'=>m=Ix u-i/\i<=Ix u/\ ∃p,SK A M q Y s p C'/\ER X.K C' T s p/\kZ t f (u.drop i) p=FM R,⟨Ix u,by simp,mr _,q,.refl,E1,by simpa using e⟩,?_⟩;rintro i m O H2 ⟨rfl,hle,I',S2,N,e2⟩;have aR: ∀a o,Y a=FM o-> ¬OwB (λ_=>False) T M q a->H2 a=FM o:=λa o ea n=>S2.kp a o ea λ⟨i,d,z⟩=>n<|.inl ⟨i,id,d,z⟩;by_cases Z:i<Ix u
 .refine .inr ?_;have hd:u[i]?=FM u[i]:=jt Z;obtain⟨go,yl⟩:=ok.go i _ H2 hd aR;rw[yT Z] at e2;obtain⟨S,h3,e3⟩:=hJ e2;obtain⟨o,h4,W⟩:=hJ e3;refine⟨go,λs C'=> ∃p,SK A M q Y s p C'/\ER X.K C' T s p/\kZ t f (u.drop<|i+1) p=FM R,λs C' ⟨p,q1,q2,q3⟩=>⟨Ix u-(i+1),by omega,rfl,Z,p,q1,q2,q3⟩,λx C' hy=>?_⟩;obtain⟨ext,rep⟩:=yl x C' hy;have eA:ER X.K C' T O I':=N.mono (λb ob eb _=>ext b ob eb) (λ_ _ z=>z) λa z=>(N.dom a z).up<|ext a;have gQ:SK A M q Y O I' C':=S2.trans (Keep.ext ext).sk;have rx:=rep (λa=>OwnA O I' a\/T a) (λb G z=>z.elim (λz=>(S2.ow b z).elim bn λz=>absurd z G) bt) λb G z=>z.elim (λz=>N.ownDom z G) λz=>(N.dom b z).ne G;refine⟨I',T,u[i],S,eA,rx,h3,λσ3 S3 E3=>?_⟩;have P:=gQ.trans S3;refine⟨S,T,o,E3,(gO.step V).step P,h4,?_⟩
  cases o with
  |nx y=>exact λB F Q U=>⟨y,P.trans Q,U,W⟩
  |ct y=>exact λB F Q U=>⟨y,P.trans Q,U,W⟩
  |bk y=>cases W;exact λB F Q U=>k B F (V.trans<|P.trans Q) U
  |rt r y=>cases W;exact λv B F Q R4=>k v B F (V.trans<|P.trans Q) R4
 .refine .inl ⟨ok.stop i H2 (by omega) aR,?_⟩;rw[AM<|by omega] at e2;cases e2;exact k O H2 (V.trans S2) N
end
noncomputable def qi(c:FT)(b:FS):Nat->FS
 |0,_=>J
 |n+1,d=>(c d).bind λp=>if p.1=U then(b p.2).bind λo=>(match o with
   | .nx a=>qi c b n a
   | .ct a=>qi c b n a
   | .bk a=>Y<|.nx a
   | .rt r a=>Y<|.rt r a) else Y (.nx p.2)
noncomputable def IF(f g:FO):FIt:=λδ=>(kx [f,g] δ).bind λp=>match xg p.2 p.1 with
 |some [.int i,.int j]=>if -(2^62)<=i/\i<2^62/\ -(2^62)<=j/\j<2^62 then Y (iX i (j-i).toNat,p.2) else J
 |_=>J
section
variable {X:Cx}{A L:kg}{C:Hp}{B:SB}{t e c a b:iA}{d:List b7}{g:FT}{l:FS}{s u:FO}{f p:bC}
def K8{n:Nat}(hp:eF (ag X.prog X.w) X.A X.env X.xe)(hc:PTX X c g)(hb:Fq X A L C d l):PSX X A L C (.While c d [] f) (qi g l n):=PS.imp' (NT hp hc hb) λD F H hw=>by
 obtain⟨Y,T,J,E,Z,e,k⟩:=hw;refine⟨λm i I=> ∃h,SK A F Y H i h I/\ER X.K I T i h/\qi g l m h=FM J,⟨n,Y,.refl,E,e⟩,?_⟩;rintro m M H2 ⟨δ2,S2,E2,e2⟩
 cases m with
 |zero=>cases e2
 |succ m=>
  obtain⟨⟨S,z⟩,h3,N⟩:=hJ e2;refine⟨δ2,T,S,z,E2,h3,λR V P=>?_⟩;have O:SK A F Y H M z R:=S2.trans V.sk
  cases S with
  |false=>rw[iL kF] at N;cases N;exact XT<|k M R O P
  |true=>
   rw[iF H8] at N;obtain⟨o,h4,U⟩:=hJ N;refine XR ⟨λi I=> ∃h,SK A F Y H i h I/\ER X.K I T i h/\qi g l m h=FM J,λi I q=>⟨m,sv _,q⟩,z,T,o,P,Z.step O,h4,?_⟩
   cases o with
   |nx j=>exact λx G y Q=>⟨j,O.trans y,Q,U⟩
   |ct j=>exact λx G y Q=>⟨j,O.trans y,Q,U⟩
   |bk j=>cases U;exact λx G y Q=>k x G (O.trans y) Q
   |rt r j=>cases U;exact λv x G y W=>k v x G (O.trans y) W
def vp{K:iM}{T v:AP'}{E:L2.St}{z m:Dn}{Q r:Hp}{os:List Opd}{k:List V}{n:List D}(B:Ops K T E z Q os k m r v)(h:xg m os=Y n){j:Nat}{i:Int}(hd:n[j]?=Y (.int i)):k[j]?=Y (.int i):=by
 obtain⟨h1,w⟩:=qc h;obtain⟨o,q,x⟩:=w j _ hd;have y:j<(Ix k):=by have:=(xN.mp q).1;have:=B.len;lia
 have hv:k[j]?=Y k[j]:=jt y;have:=jd<|B.view q hv x;rw[hv,this]
def Ic(y:Gl X "range")(O:X.mg "range"=F2)(x:PA X [a] (tA X.K [s]))(Q:ac [a] X.env=[(Go,aM a X.env)]):PIX X B t (.Call (.Name "range" p) [a] [] f) (uf s):=PI.imp' (Lh y O x Q) λY H R G=>by
 obtain⟨J,T,U,M,E,e,k⟩:=G;obtain⟨⟨os,i⟩,h1,e⟩:=hJ e;refine⟨J,T,os,i,E,h1,λn o N B=>?_⟩;dsimp only at e;split at e
 .rename_i j m;obtain⟨⟨q,w⟩,e⟩:=jh e;obtain⟨rfl,rfl⟩:=sy e;have hv:=vp B m (j:=0) H8;obtain⟨I,_⟩:=qc m
  have:n=[.int j]:=by
   have h:=B.len
   cases n with
   |nil=>simp at hv
   |cons v r=>
    cases r with
    |nil=>simp at hv;rw[hv]
    |cons _ _=>simp at I h;lia
  exact⟨j,this,q,w,k _ o B.keep (B.er.mono (λ_ _ e _=>e) (λb _ z=>B.tt b z) λa z=>B.er.dom a<|B.tt a z) (BD 0 j.toNat)⟩
 .cases e
def Ib(Q:Gl X "range")(J:X.mg "range"=F2)(O:PA X [a,b] (tA X.K [s,u]))(M:ac [a,b] X.env=[(Go,aM a X.env),(Go,aM b X.env)])(w:ac [b] X.env=[(Go,aM b X.env)]):PIX X B t (.Call (.Name "range" p) [a,b] [] f) (IF s u):=PI.imp' (Lg Q J O M w) λP H R N=>by
 obtain⟨U,T,F,Y,E,e,k⟩:=N;obtain⟨⟨os,o⟩,h1,e⟩:=hJ e;refine⟨U,T,os,o,E,h1,λq v D B=>?_⟩;dsimp only at e;split at e
 .rename_i i j n;obtain⟨I,e⟩:=jh e;obtain⟨rfl,rfl⟩:=sy e;have hv:=vp B n (j:=0) H8;have m:=vp B n (j:=1) H8;obtain⟨G,_⟩:=qc n
  have:q=[.int i,.int j]:=by
   have h:=B.len
   match q,hv,m with
   |[x,y],hv,m=>simp at hv m;rw[hv,m]
   |x::y::z::r,_,_=>simp at G h;lia
  exact⟨i,j,this,I,k _ v B.keep (B.er.mono (λ_ _ e _=>e) (λb _ z=>B.tt b z) λa z=>B.er.dom a<|B.tt a z) (BD i (j-i).toNat)⟩
 .cases e
end
abbrev EvF:=List (D×Bool)->Option ((D×Bool)×Dn)
def spF(K:iM)(e:EvF):Sp:=λd O Q _=> ∃T a r b,ER K O T (d.map Y) (a.map Y)/\e a=Y (r,b)/\ ∀v c,Post K T (d.map Y) (a.map Y) O r b v c->Q v c
noncomputable def iN(args:List (D×Bool))(δ:Dn):Dn:=args.zipIdx.map λp=>if p.1.2=U then(δ[p.2]?).join else Y p.1
noncomputable def evF(n np:Nat)(a:ky)(f:FS):EvF:=λargs=>
 if (Ix args)=np/\np<=n/\(args.zipIdx.all λp=>!(p.1.2&&a.contains p.2))=U then
  match f (args.map Y++ah (n-np) J) with
  |some (.rt r δ)=>Y (r,iN args δ)
  |some (.nx δ)=>Y ((.non,C),iN args δ)
  |_=>J
 else J
def Oq(a:List (D×Bool))(b:Dn)(i:Nat):(iN a b)[i]?=a[i]?.map λx=>if x.2=U then(b[i]?).join else Y x:=by
 unfold iN;rw[mv,Hg]
 cases a[i]? with
 |none=>rfl
 |some x=>simp
def vF(h:x.join=Y p):x=Y (Y p):=by
 cases x with
 |none=>cases h
 |some y=>exact nM Y h
section
variable {K:iM}{T:AP'}{A:kg}{k:List V}{f:List (D×Bool)}{H q:Hp}{m:Nat}{l:L2.St}{g:Dn}{r:D×Bool}{v:V}
def Ft{b:Type}{a:List b}{m i:Nat}{y:b}:(a.map Y++ah m J)[i]?=Y (Y y)↔a[i]?=Y y:=by
 by_cases h:i<Ix a
 .rw[wd<|by simpa using h,mv];cases a[i]?<;>simp
 .rw[rn<|by simpa using h];constructor
  .intro e;rw[dr] at e;split at e<;>cases e
  .intro e;exact absurd (xN.mp e).1 h
def vH{b:Type}{a:List b}{i:Nat}{y:b}:(a.map Y)[i]?=Y (Y y)↔a[i]?=Y y:=by rw[mv];cases a[i]?<;>simp
def Mc{i:Nat}{a:hV}:OwnI (k.map Y++ah m J) (f.map Y++ah m J) i a↔OwnI (k.map Y) (f.map Y) i a:=by unfold OwnI;simp only[Ft,vH]
def F3:OwnA σ b a↔ ∃i,OwnI σ b i a:=Iff.rfl
def Oo:OwnA (k.map Y++ah m J) (f.map Y++ah m J) a↔OwnA (k.map Y) (f.map Y) a:=by rw[F3,F3];exact exists_congr λi=>Mc
def ER.pad(E:ER K H T (k.map Y) (f.map Y)):ER K H T (k.map Y++ah m J) (f.map Y++ah m J):=by
 have len:(Ix k)=(Ix f):=by simpa using E.len
 refine⟨by simp[len],λi d h=>?_,λi d h=>?_,λi j d e a h1 o p s=>?_,λa z=>E.nT a<|Oo.mp z,E.dom⟩
 .obtain⟨w,c,n⟩:=E.val i d<|vH.mpr<|Ft.mp h;exact⟨w,Ft.mpr<|vH.mp c,Rep.mono (λ_ _ e _=>e) (λb _ z=>z.imp Oo.mp id) n⟩
 .obtain⟨w,c,n⟩:=E.own i d<|vH.mpr<|Ft.mp h;exact⟨w,Ft.mpr<|vH.mp c,n.mono (λ_ _ e _=>e) (λb _ z=>z.imp Oo.mp id) λ_ e=>e⟩
 .exact E.inj i j d e a (vH.mpr<|Ft.mp h1) (vH.mpr<|Ft.mp o) (vH.mpr<|Ft.mp p) (vH.mpr<|Ft.mp s)
def JN{J:AP'}(E:ER K H T (k.map FM) (f.map FM))(S:SK A (k.map FM++ah m F2) (f.map FM++ah m F2) H l g q)(hA: ∀(i:Nat) d,f[i]?=FM (d,Gc)-> ¬A i)
  (Q:ER K q J l g)(hT: ∀b,H b≠F2->J b->T b):ER K q J (k.map FM) (iN f g)/\(∀b,OwnA (k.map FM) (iN f g) b->OwnA l g b)/\Keep (k.map FM) (f.map FM) H (iN f g) q:=by
 have len:(Ix k)=(Ix f):=by simpa using E.len
 have s: ∀(i:Nat) d w,f[i]?=FM (d,Gc)->k[i]?=FM w->l[i]?=FM (FM w):=λi d w h1 p=>by rw[S.as i<|hA i d h1];exact Ft.mpr p
 have t: ∀(i:Nat) d b,(iN f g)[i]?=FM (FM (d,b))->(∃e,f[i]?=FM (e,Gc)/\g[i]?=FM (FM (d,b)))\/(b=Go/\f[i]?=FM (d,Go)):=λi d b h=>by
  rw[Oq] at h;obtain⟨⟨e,c⟩,h1,p⟩:=jB h
  cases c with
  |true=>left;exact⟨e,h1,vF<|by simpa using p⟩
  |false=>
   right;have:FM (e,Go)=FM (d,b):=by simpa using p
   cases this;exact⟨rfl,h1⟩
 have B: ∀i a,OwnI (k.map FM) (iN f g) i a->OwnI l g i a/\OwnI (k.map FM) (f.map FM) i a:=λi a a'=>by
  obtain⟨d,h1,p⟩:=a'
  rcases t i d Gc h1 with⟨e,u,x⟩|⟨z,_⟩
  .exact⟨⟨d,x,s i e _ u (vH.mp p)⟩,⟨e,vH.mpr u,p⟩⟩
  .cases z
 have G: ∀b,OwnA (k.map FM) (iN f g) b->OwnA l g b:=λb a'=>by
  obtain⟨i,d,h1,p⟩:=a'
  obtain⟨⟨e,I,L⟩,_⟩:=B i b ⟨d,h1,p⟩;exact⟨i,e,I,L⟩
 have C: ∀b,OwnA (k.map FM) (iN f g) b->OwnA (k.map FM) (f.map FM) b:=λb a'=>by
  obtain⟨i,d,h1,p⟩:=a'
  obtain⟨_,⟨e,I,L⟩⟩:=B i b ⟨d,h1,p⟩;exact⟨i,e,I,L⟩
 have U: ∀a o,H a=FM o-> ¬OwnA (k.map FM) (f.map FM) a->q a=FM o:=λa o e n=>S.kp a o e λz=>n<|Oo.mp z;refine⟨⟨?_,λi d h=>?_,λi d h=>?_,λi j d e a h1 p u x=>?_,λa z=>Q.nT a<|G a z,Q.dom⟩,G,⟨U,λi a z=>(B i a z).2,S.dm⟩⟩
 .simp[iN,len]
 .have M:i<(Ix k):=by
   have:=(xN.mp h).1;simp[iN] at this
   lia
  have hv:k[i]?=FM k[i]:=jt M;rcases t i d Go h with⟨e,u,x⟩|⟨_,u⟩
  .obtain⟨w,y,O⟩:=Q.val i d x;rw[s i e _ u hv] at y;cases y;exact⟨_,vH.mpr hv,Rep.mono (λ_ _ e _=>e) (λb _ z=>z.imp (G b) id) O⟩
  .obtain⟨w,y,O⟩:=E.val i d<|vH.mpr u;exact⟨w,y,Rep.mono (λb o e n=>U b o e λz=>n<|.inl z) (λb F z=>z.imp (C b)<|hT b F) O⟩
 .have M:i<(Ix k):=by
   have:=(xN.mp h).1;simp[iN] at this
   lia
  have hv:k[i]?=FM k[i]:=jt M;rcases t i d Gc h with⟨e,u,x⟩|⟨z,_⟩
  .obtain⟨w,y,O⟩:=Q.own i d x;rw[s i e _ u hv] at y;have N:k[i]=V.ref w:=by simpa using y
   exact⟨w,by rw[<-N];exact vH.mpr hv,O.mono (λ_ _ e _=>e) (λb _ z=>z.imp (G b) id) λ_ e=>e⟩
  .cases z
 .obtain⟨_,⟨Y,I,L⟩⟩:=B i a ⟨d,h1,u⟩;obtain⟨_,⟨D,P,R⟩⟩:=B j a ⟨e,p,x⟩;exact E.inj i j Y D a I P L R
def vN(E:ER K H T (k.map Y) (f.map Y))(S:SK A (k.map Y++ah m J) (f.map Y++ah m J) H l g q)(j: ∀(i:Nat) d,f[i]?=Y (d,U)-> ¬A i)
  (R:RV K T H r l g v q):Post K T (k.map Y) (f.map Y) H r (iN f g) v q:=by
 obtain⟨d,b⟩:=r
 cases b with
 |false=>obtain⟨a,s⟩:=R;obtain⟨c,ow,h⟩:=JN E S j a λ_ _ z=>z;exact⟨h,c,Rep.mono (λ_ _ e _=>e) (λb _ z=>z.imp (ow b) id) s⟩
 |true=>obtain⟨p,rfl,n,a,ok⟩:=R;obtain⟨c,ow,h⟩:=JN E S j a (λb o z=>z.elim id λz=>by subst z;exact absurd n o);exact⟨h,p,rfl,n,c,ok.mono (λ_ _ e _=>e) (λb _ z=>z.imp (ow b) id) λ_ e=>e⟩
end
section
variable {P:iU}{w:iK}{K:iM}{g:nJ}{base:iO}{N:jr}{m:Nat}{b:ky}{fs:FS}{c:List V}{H:Hp}{Q:VK}{E:XK}
def Q5(h:spF K (evF (Ix N) m b fs) c H Q E):(Ix c)=m:=by
 obtain⟨T,a,r,d,E0,e,_⟩:=h;unfold evF at e;split at e
 .rename_i f;have:=E0.len;simp at this;rw[this];exact f.1
 .cases e
def UK(h:spF K (evF (Ix N) m b fs) c H Q E): ∃L:Nat->Prop,(∀i,L i->i<m)/\tS K (λi=>i∈b) L H fs {nx:=λ_ k=>Q .non k,rt:=Q} (L2.qL N c) H:=by
 obtain⟨T,f,r,u,E0,e,t⟩:=h;unfold evF at e;split at e
 .rename_i C;obtain⟨h1,M,B⟩:=C;have l:(Ix c)=(Ix f):=by simpa using E0.len
  refine⟨λi=> ∃d,f[i]?=Y (d,U),λi ⟨d,hd⟩=>by have:=(xN.mp hd).1;lia,?_⟩;have J:L2.qL N c=c.map Y++ah (Ix N-m) F2:=by unfold L2.qL;rw[l,h1]
  have s: ∀(i:Nat) d,f[i]?=Y (d,U)-> ¬(i∈b):=λi d hd I=>by
   have O:(f.zipIdx)[i]?=Y ((d,U),i):=by rw[Hg,hd];simp
   have:=lG.mp B _ (nK O);simp at this;exact this I
  rw[J]
  have A:FI (λi=> ∃d,f[i]?=Y (d,U)) H (c.map Y++ah (Ix N-m) F2) (f.map Y++ah (Ix N-m) F2) H:=⟨λi a z=>by obtain⟨d,G,_⟩:=Mc.mp z;exact .inl ⟨d,vH.mp G⟩,λ_ z=>z⟩
  cases p:fs (f.map Y++ah (Ix N-m) F2) with
  |none=>rw[p] at e;cases e
  |some n=>
   rw[p] at e;refine⟨_,T,n,E0.pad,A,p,?_⟩
   cases n with
   |rt U' j=>obtain⟨rfl,rfl⟩:=iQ e;exact λv q k o y=>t v k<|vN E0 o s y
   |nx j=>obtain⟨rfl,rfl⟩:=iQ e;exact λq k o x=>t .non k<|vN (r:=(.non,Go)) E0 o s ⟨x,Rep.mkNon⟩
   |bk j=>cases e
   |ct j=>cases e
 .cases e
def V8{x qual:aW}{st:b7}{f:hV}{j:oI}{e:jr}{k:Nat}(F:Fun K x qual st f j)(S:FnScope N e (ip st))
  (o: ∀(d:iC) (A:iP) (a:List eO) (s:il) (H:Hp) (E:XK) (L:kg),(∀i,L i->i<Ix e)->Room k (A.deeper<|cW qual (ip st) s.heap.objs.size f d)->
   Fq (GI CX0 P w K g base N qual (ip st) f d A a s H E).nox (λi=>i∈b) L H (pH st) fs):FnOk P w K g base CX0 (k+1) f j e (spF K<|evF (Ix N) (Ix e) b fs):=
 F.ok S (λc H Q E h=>Q5 h) λd A a s H c Q E n h=>let⟨L,h1,l⟩:=UK h;⟨_,o d A a s H E L h1 n,l⟩
end
noncomputable def B9(a:Dn):Opd->Option (D×Bool)
 | .val r=>Y (r.1,C)
 | .slot i=>(a[i]?).join
noncomputable def kE(δ:Dn):List Opd->Option (List<|D×Bool)
 |[]=>Y []
 |o::os=>(B9 δ o).bind λa=>(kE δ os).bind λl=>Y (a::l)
noncomputable def iR:List Opd->List (D×Bool)->List Nat
 | .slot i::os,(_,U)::as=>i::iR os as
 |_::os,_::as=>iR os as
 |_,_=>[]
noncomputable def wb:List Opd->List (D×Bool)->Dn->Dn->Dn
 | .slot i::os,(_,U)::as,o::outs,δ=>wb os as outs<|δ.set i o
 |_::os,_::as,_::outs,δ=>wb os as outs δ
 |_,_,_,δ=>δ
noncomputable def ik(a:EvF)(fs:List FO):F:=λδ=>(kx fs δ).bind λp=>(kE p.2 p.1).bind λargs=>if(iR p.1 args).Nodup then(a args).bind λq=>Y (q.1,wb p.1 args q.2 p.2) else J
def tN{δ:Dn}: ∀{os:List Opd} {b:List (D×Bool)},kE δ os=Y b->Ix b=os.length/\ ∀(j:Nat) a,b[j]?=Y a-> ∃o,os[j]?=Y o/\B9 δ o=Y a:=by
 intro m
 induction m with
 |nil=>intro b h;cases h;exact⟨rfl,λj d h=>by simp at h⟩
 |cons o os k=>
  intro b h;unfold kE at h;obtain⟨d,h1,h⟩:=hJ h;obtain⟨l,f,h⟩:=hJ h;cases h;obtain⟨g,i⟩:=k f;refine⟨by simp[g],λj e c=>?_⟩
  cases j with
  |zero=>simp at c;subst c;exact⟨o,rfl,h1⟩
  |succ j=>obtain⟨n,p,q⟩:=i j e (by simpa using c);exact⟨n,by simpa using p,q⟩
theorem vD: ∀{os:List Opd} {as:List (D×Bool)} {j i:Nat} {d:D},os[j]?=Y (.slot i)->as[j]?=Y (d,U)->i∈iR os as
 |[],_,_,_,_,h,_=>by simp at h
 |_::_,[],_,_,_,_,h=>by simp at h
 |o::os,(e,b)::as,0,i,d,h1,a=>by simp at h1 a;obtain⟨rfl,rfl⟩:=a;subst h1;simp[iR]
 |o::os,(e,b)::as,j+1,i,d,h1,a=>by
  have c:=vD (os:=os) (as:=as) (j:=j) (i:=i) (d:=d) (by simpa using h1) (by simpa using a)
  cases o with
  |val r=>simpa[iR] using c
  |slot k=>
   cases b with
   |true=>simp[iR,c]
   |false=>simpa[iR] using c
theorem Dg: ∀{os:List Opd} {a:List (D×Bool)} {i:Nat},i∈iR os a-> ∃(j:Nat) (d:D),os[j]?=Y (.slot i)/\a[j]?=Y (d,U)
 |[],_,_,h=>by simp[iR] at h
 |o::_,[],_,h=>by cases o<;>simp[iR] at h
 |o::os,(e,b)::a,i,h=>by
  have c:i∈iR os a-> ∃(j:Nat) (d:D),(o::os)[j]?=Y (.slot i)/\((e,b)::a)[j]?=Y (d,U):=λh=>by obtain⟨j,d,h1,f⟩:=Dg h;exact⟨j+1,d,by simpa using h1,by simpa using f⟩
  cases o with
  |val r=>exact c (by simpa[iR] using h)
  |slot k=>
   cases b with
   |true=>
    simp[iR] at h;rcases h with rfl|h
    .exact⟨0,e,rfl,rfl⟩
    .exact c h
   |false=>exact c (by simpa[iR] using h)
theorem Dh: ∀{os:List Opd} {as:List (D×Bool)} {j k i:Nat} {d e:D},(iR os as).Nodup->os[j]?=Y (.slot i)->as[j]?=Y (d,U)->os[k]?=Y (.slot i)->as[k]?=Y (e,U)->j=k
 |[],_,_,_,_,_,_,_,h,_,_,_=>by simp at h
 |_::_,[],_,_,_,_,_,_,_,h,_,_=>by simp at h
 |o::os,(n,b)::as,j,k,i,d,e,a,h1,c,f,g=>by
  cases j with
  |zero=>
   cases k with
   |zero=>rfl
   |succ k=>simp at h1 c;obtain⟨rfl,rfl⟩:=c;subst h1;have:=vD (os:=os) (as:=as) (j:=k) (by simpa using f) (by simpa using g);simp[iR] at a;exact absurd this a.1
  |succ j=>
   cases k with
   |zero=>simp at f g;obtain⟨rfl,rfl⟩:=g;subst f;have:=vD (os:=os) (as:=as) (j:=j) (by simpa using h1) (by simpa using c);simp[iR] at a;exact absurd this a.1
   |succ k=>
    have l:(iR os as).Nodup:=by
     cases o with
     |val r=>simpa[iR] using a
     |slot m=>
      cases b with
      |true=>simp[iR] at a;exact a.2
      |false=>simpa[iR] using a
    have:=Dh (os:=os) (as:=as) (j:=j) (k:=k) l (by simpa using h1) (by simpa using c) (by simpa using f) (by simpa using g)
    lia
theorem AZ: ∀{os:List Opd} {c:List (D×Bool)} {a δ:Dn} {i:Nat},i∉iR os c->(wb os c a δ)[i]?=δ[i]?
 |[],_,_,_,_,_=>by simp[wb]
 |o::_,[],_,_,_,_=>by cases o<;>simp[wb]
 |o::os,(e,b)::c,[],_,_,_=>by cases o<;>cases b<;>simp[wb]
 |o::os,(e,b)::c,x::a,δ,i,h=>by
  cases o with
  |val r=>simp only[wb];exact AZ (by simpa[iR] using h)
  |slot k=>
   cases b with
   |true=>simp[iR] at h;rw[wb,AZ h.2,tU<|rA h.1]
   |false=>simp only[wb];exact AZ (by simpa[iR] using h)
theorem A0: ∀{os:List Opd} {c:List (D×Bool)} {a δ:Dn},(wb os c a δ).length=Ix δ
 |[],_,_,_=>by simp[wb]
 |o::_,[],_,_=>by cases o<;>simp[wb]
 |o::os,(e,b)::c,[],_=>by cases o<;>cases b<;>simp[wb]
 |o::os,(e,b)::c,x::a,δ=>by
  cases o with
  |val r=>simp only[wb];exact A0
  |slot k=>
   cases b with
   |true=>simp only[wb];rw[A0,sD]
   |false=>simp only[wb];exact A0
theorem Jv: ∀{os:List Opd} {c:List (D×Bool)} {a δ:Dn} {i j:Nat} {d:D} {x:Sl},(iR os c).Nodup->os[j]?=Y (.slot i)->c[j]?=Y (d,U)->a[j]?=Y x->i<Ix δ->(wb os c a δ)[i]?=Y x
 |[],_,_,_,_,_,_,_,_,h,_,_,_=>by simp at h
 |o::_,[],_,_,_,_,_,_,_,_,h,_,_=>by simp at h
 |o::os,(e,b)::c,[],_,_,_,_,_,_,_,_,h,_=>by simp at h
 |o::os,(e,b)::c,y::a,δ,i,0,d,x,f,h1,g,l,n=>by simp at h1 g l;obtain⟨rfl,rfl⟩:=g;subst h1;subst l;simp[iR] at f;rw[wb,AZ f.1,wj n]
 |o::os,(e,b)::c,y::a,δ,i,j+1,d,x,f,h1,g,l,n=>by
  have p:(iR os c).Nodup:=by
   cases o with
   |val r=>simpa[iR] using f
   |slot m=>
    cases b with
    |true=>simp[iR] at f;exact f.2
    |false=>simpa[iR] using f
  cases o with
  |val r=>simp only[wb];exact Jv p (by simpa using h1) (by simpa using g) (by simpa using l) n
  |slot k=>
   cases b with
   |true=>simp only[wb];exact Jv p (by simpa using h1) (by simpa using g) (by simpa using l) (by rw[sD];exact n)
   |false=>simp only[wb];exact Jv p (by simpa using h1) (by simpa using g) (by simpa using l) n
section
variable {K:iM}{T y:AP'}{m:L2.St}{δ f:Dn}{H s u:Hp}{os:List Opd}{l:List V}{c:List (D×Bool)}{g:Dn}{r:D×Bool}{v:V}
noncomputable def Tc(T:AP')(m:L2.St)(f:Dn)(l:List V)(c:List (D×Bool)):AP':=λa=>T a\/(OwnA m f a/\ ¬OwnA (l.map Y) (c.map Y) a)
def yi(B:Ops K T m δ H os l f s y)(p:kE f os=Y c){j:Nat}{d:D}(h:c[j]?=Y (d,U)): ∃(i:Nat) (a:hV),os[j]?=Y (.slot i)/\f[i]?=Y (Y (d,U))/\l[j]?=Y (.ref a)/\m[i]?=Y (Y<|.ref a):=by
 obtain⟨w,q⟩:=tN p;obtain⟨o,h1,b⟩:=q j _ h
 cases o with
 |val r=>cases b
 |slot i=>
  have e:f[i]?=Y (Y (d,U)):=vF b;have t:j<(Ix l):=by have:=(xN.mp h1).1;have:=B.len;lia
  have hv:l[j]?=Y l[j]:=jt t;have k:=B.slt j i _ h1 hv;obtain⟨a,n,_⟩:=B.er.own i d e;rw[k] at n;have:l[j]=V.ref a:=by simpa using n
  exact⟨i,a,h1,e,by rw[hv,this],by rw[k,this]⟩
def Gj(B:Ops K T m δ H os l f s y)(n:kE f os=Y c){j:Nat}{a:hV}(h:OwnI (l.map Y) (c.map Y) j a): ∃(i:Nat) (d:D),os[j]?=Y (.slot i)/\c[j]?=Y (d,U)/\OwnI m f i a:=by obtain⟨d,h1,k⟩:=h;have e:=vH.mp h1;obtain⟨i,b,o,p,q,t⟩:=yi B n e;have:=vH.mp k;rw[q] at this;cases this;exact⟨i,d,o,e,d,p,t⟩
def J6(B:Ops K T m δ H os l f s y)(k:kE f os=Y c)(h:OwnA (l.map Y) (c.map Y) a):OwnA m f a:=by obtain⟨j,d,h1,b⟩:=h;obtain⟨i,_,_,_,e,n,o⟩:=Gj B k ⟨d,h1,b⟩;exact⟨i,e,n,o⟩
def Kp(E:ER K H T m δ)(B:Ops K T m δ H os l f s y)(n:kE f os=FM c)(nd:(iR os c).Nodup):ER K s (Tc T m f l c) (l.map FM) (c.map FM):=by
 obtain⟨F,Y⟩:=tN n
 have sub: ∀b,(OwnA (l.map FM) (c.map FM) b\/Tc T m f l c b)->OwnA m f b\/T b:=λb z=>by
  rcases z with z|z|z
  .exact .inl (J6 B n z)
  .exact .inr z
  .exact .inl z.1
 refine⟨by simp[F,B.len],λj d h=>?_,λj d h=>?_,λj k d e a h1 p x A=>?_,λa z t=>?_,λa z=>?_⟩
 .have h:=vH.mp h;obtain⟨o,h1,p⟩:=Y j _ h;have D:j<(Ix l):=by have:=(xN.mp h1).1;have:=B.len;lia
  have hv:l[j]?=FM l[j]:=jt D;refine⟨_,vH.mpr hv,?_⟩
  cases o with
  |val q=>
   have:q.1=d:=by cases p;rfl
   subst this;exact Rep.mono (λ_ _ e _=>e) (λb _ z=>sub b z)<|B.rep E h1 hv
  |slot i=>
   have x:f[i]?=FM (FM (d,Go)):=vF p;have A:=B.slt j i _ h1 hv;obtain⟨w,G,R⟩:=B.er.val i d x;rw[A] at G;have:l[j]=w:=by simpa using G
   rw[this];exact Rep.mono (λ_ _ e _=>e) (λb _ z=>(sub b z).imp id<|B.tt b) R
 .obtain⟨i,a,Q,C,I,L⟩:=yi B n<|vH.mp h;obtain⟨b,O,U⟩:=B.er.own i d C;rw[L] at O;cases O;exact⟨a,vH.mpr I,U.mono (λ_ _ e _=>e) (λb _ z=>(sub b z).imp id<|B.tt b) λ_ e=>e⟩
 .obtain⟨i,S,Q,C,J,I,L⟩:=Gj B n ⟨d,h1,x⟩;obtain⟨P,V,g1,g2,M,g3,N⟩:=Gj B n ⟨e,p,A⟩;have:=B.er.inj i P J M a I g3 L N;subst this;exact Dh nd Q C g1 g2
 .rcases t with t|t
  .exact B.er.nT a (J6 B n z) (B.tt a t)
  .exact t.2 z
 .rcases z with z|z
  .exact B.er.dom a (B.tt a z)
  .exact B.er.ownOw z.1
def Kq{T' Td:AP'}(E:ER K H T m δ)(B:Ops K T m δ H os l f s y)(N:kE f os=FM c)(nd:(iR os c).Nodup)(kC:Keep (l.map FM) (c.map FM) s g u)
  (Y:ER K u Td (l.map FM) g)(t1: ∀b,Tc T m f l c b->Td b)(t2: ∀b,T' b->Td b)(t3: ∀b,s b≠F2->T' b->T b):
  ER K u T' m (wb os c g f)/\(∀b,OwnA m (wb os c g f) b->OwnA (l.map FM) g b\/Tc T m f l c b)/\Keep m f s (wb os c g f) u:=by
 obtain⟨hl,hg⟩:=tN N;have ol:(Ix g)=(Ix c):=by have:=Y.len;have:=B.len;simp at*;lia
 have R: ∀(i:Nat) (x:Sl),(wb os c g f)[i]?=FM x->(i∉iR os c/\f[i]?=FM x)\/ ∃(j:Nat) (d:D),os[j]?=FM (.slot i)/\c[j]?=FM (d,Gc)/\g[j]?=FM x:=λi x h=>by
  by_cases C':i∈iR os c
  .right;obtain⟨j,d,h1,p⟩:=Dg C';have hj:j<(Ix g):=by have:=(xN.mp p).1;lia
   have Z:g[j]?=FM g[j]:=jt hj;have hi:i<(Ix f):=by have:=(xN.mp h).1;rwa [A0] at this
   have:=Jv (δ:=f) nd h1 p Z hi;rw[h] at this;cases this;exact⟨j,d,h1,p,Z⟩
  .left;rw[AZ C'] at h;exact⟨C',h⟩
 have L: ∀{i:Nat} {a:hV},i∉iR os c->OwnI m f i a-> ¬OwnA (l.map FM) (c.map FM) a:=λ{i a} C' ⟨e,q,I'⟩ ⟨j,d,h1,p⟩=>by obtain⟨P,d2,g1,g2,S,g3,g4⟩:=Gj B N ⟨d,h1,p⟩;have:=B.er.inj i P e S a q g3 I' g4;subst this;exact C'<|vD g1 g2
 have U: ∀i a,OwnI m (wb os c g f) i a->OwnI m f i a/\(OwnA (l.map FM) g a\/Tc T m f l c a):=λi a a'=>by
  obtain⟨d,h1,p⟩:=a'
  rcases R i _ h1 with⟨C',A⟩|⟨j,e,g1,g2,g3⟩
  .exact⟨⟨d,A,p⟩,.inr<|.inr ⟨⟨i,d,A,p⟩,L C' ⟨d,A,p⟩⟩⟩
  .obtain⟨P,b,q,I',J,O⟩:=yi B N g2;rw[g1] at q;cases q;rw[p] at O;cases O;exact⟨⟨e,I',p⟩,.inl ⟨j,d,g3,vH.mpr J⟩⟩
 have X: ∀b,OwnA m (wb os c g f) b->OwnA (l.map FM) g b\/Tc T m f l c b:=λb ⟨i,d,h1,p⟩=>(U i b ⟨d,h1,p⟩).2
 have F: ∀b,OwnA m (wb os c g f) b->OwnA m f b:=λb a'=>by
  obtain⟨i,d,h1,p⟩:=a'
  obtain⟨⟨e,q,I'⟩,_⟩:=U i b ⟨d,h1,p⟩;exact⟨i,e,q,I'⟩
 have W: ∀a o,s a=FM o-> ¬OwnA m f a->u a=FM o:=λa o e n=>kC.kp a o e λz=>n<|J6 B N z
 have Q: ∀b,(OwnA m (wb os c g f) b\/T' b)->OwnA (l.map FM) g b\/Td b:=λb z=>by
  rcases z with z|z
  .exact(X b z).imp id (t1 b)
  .exact .inr (t2 b z)
 refine⟨⟨by rw[A0];exact B.er.len,λi d h=>?_,λi d h=>?_,λi k d e a h1 p A h4=>?_,λa z t=>?_,λa z=>Y.dom a<|t2 a z⟩,X,⟨W,λi a z=>(U i a z).1,kC.dm⟩⟩
 .rcases R i _ h with⟨C',A⟩|⟨j,e,g1,g2,g3⟩
  .obtain⟨w,G,M⟩:=B.er.val i d A;exact⟨w,G,Rep.mono (λb o e n=>W b o e λz=>n<|.inl z) (λb V z=>z.imp (F b) λz=>B.tt b<|t3 b V z) M⟩
  .obtain⟨P,b,q,I',J,O⟩:=yi B N g2;rw[g1] at q;cases q;obtain⟨w,G,M⟩:=Y.val j d g3;have:=vH.mp G;rw[J] at this;cases this;exact⟨_,O,Rep.mono (λ_ _ e _=>e) (λb _ z=>Q b z) M⟩
 .rcases R i _ h with⟨C',A⟩|⟨j,e,g1,g2,g3⟩
  .obtain⟨a,G,M⟩:=B.er.own i d A;exact⟨a,G,M.mono (λb o e n=>W b o e λz=>n<|.inl z) (λb V z=>z.imp (F b) λz=>B.tt b<|t3 b V z) λo e=>kC.kp a o e<|L C' ⟨d,A,G⟩⟩
  .obtain⟨P,b,q,I',J,O⟩:=yi B N g2;rw[g1] at q;cases q;obtain⟨a,G,M⟩:=Y.own j d g3;have:=vH.mp G;rw[J] at this;cases this;exact⟨_,O,M.mono (λ_ _ e _=>e) (λb _ z=>Q b z) λ_ e=>e⟩
 .obtain⟨⟨e1,q,I'⟩,_⟩:=U i a ⟨d,h1,A⟩;obtain⟨⟨S,J,O⟩,_⟩:=U k a ⟨e,p,h4⟩;exact B.er.inj i k e1 S a q J I' O
 .exact B.er.nT a (F a z) (B.tt a<|t3 a (B.er.ownDom<|F a z) t)
def BY(E:ER K H T m δ)(B:Ops K T m δ H os l f s y)(k:kE f os=Y c)(o:(iR os c).Nodup)(P:Post K (Tc T m f l c) (l.map Y) (c.map Y) s r g v u):
  Post K T m δ H r (wb os c g f) v u:=by
 obtain⟨d,b⟩:=r
 cases b with
 |false=>
  obtain⟨kC,h,w⟩:=P;obtain⟨i,ow,j⟩:=Kq (T':=T) E B k o kC h (λ_ z=>z) (λ_ z=> .inl z) λ_ _ z=>z;refine⟨B.keep.trans j,i,Rep.mono (λ_ _ e _=>e) (λb _ z=>?_) w⟩;rcases z with z|z
  .exact ow b z
  .exact .inr (.inl z)
 |true=>
  obtain⟨kC,p,rfl,n,h,ok⟩:=P;obtain⟨i,ow,j⟩:=Kq (T':=λa=>T a\/a=p) E B k o kC h (λ_ z=> .inl z) (λb z=>z.elim (λz=> .inl (.inl z)) .inr) (λb t z=>z.elim id λz=>by subst z;exact absurd n t);refine⟨B.keep.trans j,p,rfl,?_,i,ok.mono (λ_ _ e _=>e) (λb _ z=>?_) λ_ e=>e⟩
  .cases q:H p with
   |none=>rfl
   |some x=>exact absurd n<|B.keep.dm p (by rw[q];simp)
  .rcases z with z|z|z
   .exact(ow b z).imp id .inl
   .exact .inr (.inl<|.inl z)
   .exact .inr (.inr z)
end
section
variable {X:Cx}{e:iA}{b:kn}{fs:List FO}{a p:bC}{k:Nat}{f:hV}{g:oI}{d:jr}{c:EvF}{x:aW}
def Rr(F:FnOk X.prog X.w X.K X.mg X.base CX0 k f g d (spF X.K c))(I:Room k X.A)(z:Gl X x)(C:X.mg x=FM (.ref f))(hk:cu X.K (.ref f)=Gc)(u:Binds X.K g d [])
  (t:PA X (e::b) (tA X.K fs))(G:(x==("__debug__":aW))=Go)(y:ac (e::b) X.env=(Go,aM e X.env)::ac b X.env)(O:(aJ a<|ac b X.env).any (·.1)=Go):
  PX X (.Call (.Name x p) (e::b) [] a) (ik c fs):=PX.imp (R6 F I z C hk u (.nil) Xt t G y O) λN H Q L=>by
 obtain⟨J,T,Y,M,E,e,k⟩:=L;obtain⟨⟨os,j⟩,h1,e⟩:=hJ e;obtain⟨h,l,e⟩:=hJ e;dsimp only at e;split at e
 .rename_i m;obtain⟨⟨r,i⟩,s,e⟩:=hJ e;obtain⟨rfl,rfl⟩:=iQ e;refine⟨J,T,os,j,E,h1,λn q U B=>?_⟩;show spF X.K c (n++[]) q Q E0;rw[wO];exact⟨Tc T N j n h,h,r,i,Kp E B l m,s,λv o P=>k v o<|BY E B l m P⟩
 .cases e
end
structure SKd(A:kg)(d:hV)(σ:L2.St)(δ:Dn)(H:Hp)(σ':L2.St)(δ':Dn)(H':Hp):Prop where
 kp: ∀a o,H a=FM o-> ¬OwnA σ δ a->a≠d->H' a=FM o
 owi: ∀i a,OwnI σ' δ' i a->OwnI σ δ i a\/H a=F2
 dm: ∀a,H a≠F2->H' a≠F2
 as: ∀i,¬A i->σ'[i]?=σ[i]?
section
variable {A:kg}{d:hV}{c b f:L2.St}{δ δ1 δ2:Dn}{H g j:Hp}
def SK.skd(k:SK A c δ H b δ1 g):SKd A d c δ H b δ1 g:=⟨λa o e n _=>k.kp a o e n,k.owi,k.dm,k.as⟩
def SKd.ow(k:SKd A d c δ H b δ1 g)(a:hV)(h:OwnA b δ1 a):OwnA c δ a\/H a=J:=by
 obtain⟨i,e,h1,l⟩:=h;rcases k.owi i a ⟨e,h1,l⟩ with⟨e,m,n⟩|z
 .exact .inl ⟨i,e,m,n⟩
 .exact .inr z
def SKd.trans(x:SKd A d c δ H b δ1 g)(y:SKd A d b δ1 g f δ2 j):SKd A d c δ H f δ2 j where
 kp:=λa o e n k=>y.kp a o (x.kp a o e n k) (λz=>(x.ow a z).elim n λz=>by rw[z] at e;cases e) k
 owi:=λi a z=>(y.owi i a z).elim (x.owi i a) λz=> .inr (by
  cases h:H a with
  |none=>rfl
  |some o=>exact absurd z<|x.dm a<|by rw[h];simp)
 dm:=λa z=>y.dm a<|x.dm a z
 as:=λi h=>(y.as i h).trans<|x.as i h
end
noncomputable def xX(p:(Int->Bool)×Nat)(d:D):(Int->Bool)×Nat:=match d with
 | .int k=>(λa=>p.1 a||decide (a=k),if p.1 k then p.2 else p.2+1)
 |_=>p
noncomputable def oo(l:List D):(Int->Bool)×Nat:=l.foldl xX (λ_=>C,0)
def C1(l:List D)(k:Int):oo (l++[.int k])=((λa=>(oo l).1 a||decide (a=k)),if(oo l).1 k then(oo l).2 else(oo l).2+1):=by unfold oo;rw[i3];rfl
def Rf: ∀(l:List D) (p:(Int->Bool)×Nat),(l.foldl xX p).2<=p.2+(Ix l):=by
 intro b
 induction b with
 |nil=>intro p;exact jQ _
 |cons d l a=>
  intro p;have:=a<|xX p d
  have h:(xX p d).2<=p.2+1:=by
   unfold xX;split
   .dsimp only;split<;>lia
   .lia
  simp only[uB,kI]
  lia
def AtD(S:Bool)(K:iM)(T:Hp)(O:AP')(d:hV)(a:List D):Prop:=match S with
 |false=> ∃b,T d=Y (.lst b)/\RepL K T O a b
 |true=>T d=Y (.set (oo a).1 (oo a).2)
structure BS(S:Bool)(K:iM)(d:hV)(T:AP')(σ:L2.St)(δ:Dn)(acc:List D)(H:Hp):Prop where
 er:ER K H T σ δ
 td:T d
 at':AtD S K H (λa=>OwnA σ δ a\/T a) d acc
abbrev FB:=List D->Dn->Option (List D×Dn)
def tBx(S:Bool)(K:iM)(A:kg)(d:hV)(f:FB):TB:=λi Q N=> ∃g T c h a,BS S K d T i g c Q/\f c g=Y (h,a)/\ ∀b e,SKd A d i g Q b a e->BS S K d T b a h e->N b e
noncomputable def jb(f:F):FB:=λa δ=>(f δ).bind λp=>if (Ix a)<sizeLine then Y (a++[p.1.1],p.2) else J
noncomputable def lq(c:Tg)(d:FT)(b:FB):List D->FB
 |[],acc,a=>Y (acc,a)
 |x::xs,acc,a=>(c x a).bind λδ1=>(d δ1).bind λp=>(if p.1=U then b acc p.2 else Y (acc,p.2)).bind λq=>lq c d b xs q.1 q.2
noncomputable def Jl(c:FIt)(d:Tg)(e:FT)(b:FB):FB:=λa f=>(c f).bind λp=>lq d e b p.1 a p.2
section
variable {K:iM}{A:kg}{d:hV}{T:AP'}{f q:L2.St}{l r:Dn}{j:List D}{H p:Hp}
def BS.step(b:BS S K d T f l j H)(k:SK A f l H q r p)(a:ER K p T q r):BS S K d T q r j p:=by
 refine⟨a,b.td,?_⟩;have h:=b.at'
 cases S with
 |true=>exact k.kp d _ h λz=>b.er.nT d z b.td
 |false=>
  obtain⟨m,h1,g⟩:=h;refine⟨m,k.kp d _ h1 λz=>b.er.nT d z b.td,RepL.mono (λb o e n=>k.kp b o e λz=>n<|.inl z) (λc i z=>?_) g⟩;rcases z with z|z
  .exact(k.ow c z).elim bn λz=>absurd z i
  .exact .inr z
def JY(hg: ∀v f H Q,tG K A tg v f H Q->g v f H Q)(hi: ∀f H Q,tT K ft f H Q->ti f H Q)(hb: ∀f H N,tBx S K A d fb f H N->tb f H N)
  (b:BS S K d T f l j H)(P O:AP')(ok:ItOk K J' ds P O p)(s1: ∀a o,p a=Y o-> ¬P a->H a=Y o)(s0: ∀a,p a≠J->OwnA f l a\/a=d->P a)(s2: ∀a,p a≠J->(OwnA f l a\/T a)->O a)(s3: ∀a,p a≠J->H a≠J)(e:lq tg ft fb ds j l=Y (i9,B))
  (k: ∀E t,SKd A d f l H E B t->BS S K d T E B i9 t->N E t):JA J' g ti tb f H N:=by
 refine⟨λi m s w=>m=Ix ds-i/\i<=Ix ds/\ ∃h G,SKd A d f l H s h w/\BS S K d T s h G w/\lq tg ft fb (ds.drop i) G h=Y (i9,B),⟨Ix ds,by simp,mr _,l,j,SK.refl.skd,b,by simpa using e⟩,?_⟩;rintro i m s w ⟨rfl,hle,h,G,Y',I',e2⟩
 have hO: ∀a,p a≠J->(OwnA s h a\/T a)->O a:=λa W z=>by
  rcases z with z|z
  .exact(Y'.ow a z).elim (λz=>s2 a W<|.inl z) λz=>absurd z<|s3 a W
  .exact s2 a W (.inr z)
 have aR: ∀a o,p a=Y o-> ¬P a->w a=Y o:=λa o V n=>Y'.kp a o (s1 a o V n) (λz=>n<|s0 a (by rw[V];simp)<|.inl z) λz=>n<|s0 a (by rw[V];simp)<|.inr z;by_cases F:i<Ix ds
 .refine .inr ?_;have hd:ds[i]?=Y ds[i]:=jt F;obtain⟨go,yl⟩:=ok.go i _ w hd aR;rw[yT F] at e2;obtain⟨C,h3,e3⟩:=hJ e2;obtain⟨⟨c,u⟩,h4,e4⟩:=hJ e3;obtain⟨⟨y,M⟩,D,e5⟩:=hJ e4;refine⟨go,λx t hy=>?_⟩;obtain⟨ext,rep⟩:=yl x t hy;have eA:ER K t T s h:=I'.er.mono (λb ob eb _=>ext b ob eb) (λ_ _ z=>z) λa z=>(I'.er.dom a z).up<|ext a;have SX:SK A s h w s h t:=(Keep.ext ext).sk;have R:=I'.step SX eA;have gQ:SKd A d f l H s h t:=Y'.trans SX.skd;have rx:=rep (λa=>OwnA s h a\/T a) hO λb hb z=>z.elim (λz=>I'.er.ownDom z hb) λz=>(I'.er.dom b z).ne hb;refine hg _ _ _ _ ⟨h,T,ds[i],C,eA,rx,h3,λU S3 Z=>?_⟩;have B3:=R.step S3 Z;have cX:=gQ.trans S3.skd;refine hi _ _ _ ⟨C,T,c,u,Z,h4,λH4 K4 E4=>?_⟩;have S4:SK A U C t U u H4:=K4.sk;have X:=B3.step S4 E4;have L:=cX.trans S4.skd
  cases c with
  |false=>rw[iL kF] at D;obtain⟨rfl,rfl⟩:=iQ D;exact XT ⟨Ix ds-(i+1),by lia,rfl,F,u,G,L,X,e5⟩
  |true=>rw[iF I] at D;exact XR<|hb _ _ _ ⟨u,T,G,y,M,X,D,λσ5 H5 S5 B5=>⟨Ix ds-(i+1),by lia,rfl,F,M,y,L.trans S5,B5,e5⟩⟩
 .refine .inl ⟨ok.stop i w (by lia) aR,?_⟩;rw[AM<|by lia] at e2;obtain⟨rfl,rfl⟩:=iQ e2;exact k s w Y' I'
end
section
variable {X:Cx}{A:kg}{d:hV}{g:iA}{f:F}
def PB.imp'{code:dF Unit}{t c:TB}(h:PB X code t)(k: ∀b T N,c b T N->t b T N):PB X code c:=λa s b T N Q e=>h a s b T N Q<|k b T N e
def Ol{h:qo}{J:km}{p:bC}{depth:Nat}(E:h[depth+1]?=F2)(C:PX X g f):PB X (jA (.ListComp g h J p) depth (.ref d) X.env) (tBx Go X.K A d<|jb f):=PB.imp' (R9 E C) λq H N I=>by
 obtain⟨w,T,y,U,M,B,e,k⟩:=I;obtain⟨⟨r,c⟩,h1,e⟩:=hJ e;obtain⟨O,e⟩:=jh e;obtain⟨rfl,rfl⟩:=sy e;refine⟨w,T,r,c,B.er,h1,λv j P=>?_⟩;obtain⟨s,G⟩:=P.rep B.er;have t:SK A q w H q c j:=P.1.sk;have x:=B.step t s;obtain⟨m,L,u⟩:=x.at';refine⟨m,L,by rw[u.length];exact O,k q _ ?_ ?_⟩
 .have:SKd A d q c j q c (upd j d<|.lst<|m++[v]):=⟨λa o e n Q=>by rw[jk Q];exact e,λi a z=> .inl z,λa z=>by
   by_cases l:a=d
   .subst l;rw[jm];simp
   .rw[jk l];exact z,λ_ _=>rfl⟩
  exact t.skd.trans this
 .have hk: ∀b o,j b=Y o-> ¬T b->upd j d (.lst<|m++[v]) b=Y o:=λb o e n=>by rw[jk<|by intro z;subst z;exact n B.td];exact e
  have hd: ∀a,T a->Ow (upd j d (.lst<|m++[v]) a):=λa z=>by
   by_cases l:a=d
   .subst l;rw[jm];trivial
   .rw[jk l];exact s.dom a z
  refine⟨s.mono hk (λ_ _ z=>z) hd,B.td,m++[v],jm,?_⟩;exact RepL.mono (λb o e n=>hk b o e λz=>n<|.inr z) (λ_ _ z=>z)<|u.append<|RepL.one G
def R8{S:Bool}{e:iA}{depth:Nat}{c:pP}{r:FIt}{u:Tg}{s:FT}{q:FB}(M:X.xe=λ_ _=>False)(hc:X.calm=Gc)
  (hl:(∃g b l p,e= .ListComp g b l p)\/(∃g b l p,e= .SetComp g b l p))(hg:(cd e)[depth+1]?=FM c)(Y:c.is_async=0)(l4: ∀t,(cd e)[depth+1+1]?=FM t->t.is_async=0)
  (hs: ∀x,aw c.iter X.env x=pure x)(pi:PIX X (λ_=>False) c.target c.iter r)(pg:PGX X A c.target u)(G:PIf X c.ifs (tT X.K s))(pb:PB X (jA e (depth+1) (.ref d) X.env) (tBx S X.K A d q)):
  PB X (jA e depth (.ref d) X.env) (tBx S X.K A d<|Jl r u s q):=PB.imp' (VH M hc hl hg Y l4 hs pi pg G pb) λw H N D=>by
 obtain⟨v,T,Q,P,F,B,e,k⟩:=D;obtain⟨⟨U,j⟩,h1,e⟩:=hJ e;refine⟨v,T,U,j,B.er,h1,λJ I L C ok=>?_⟩;have n:SK A w v H w j I:=L.sk;exact JY (λ_ _ _ _ h=>h) (λ_ _ _ h=>h) (λ_ _ _ h=>h) (B.step n C) _ _ ok (λa o e _=>e) (λa _ z=>z.elim (λa'=>by obtain⟨i,x,z⟩:=a';exact .inl ⟨i,id,x,z⟩) λz=> .inr (z▸B.td)) (λa _ z=>z) (λa z=>z) e λm E O y=>k m E (n.skd.trans O) y
end
noncomputable def iT(caps:ky)(k:Nat)(fi:FIt)(tg:Tg)(ti:FT)(fb:FB):F:=λδ=>(fi δ).bind λp=>(kE p.2<|caps.map .slot).bind λargs=>if(iR (caps.map .slot) args).Nodup then(lq tg ti fb p.1 []<|args.map Y++ah k J).bind λq=>Y ((.lst q.1,U),wb (caps.map .slot) args (iN args q.2) p.2) else J
noncomputable def Co(a:ky)(k:Nat)(b:L2.St):L2.St:=(a.map λj=>(b[j]?).join)++ah k J
noncomputable def o0(S:Bool):HO:=match S with
 |false=> .lst []
 |true=> .set (λ_=>C) 0
noncomputable def qS(S:Bool)(Q:VK):VK:=match S with
 |false=>Q
 |true=>λx b=> ∃S n,∃a,x= .ref a/\b a=Y (.set S n)/\Q (.int n) b
noncomputable def rS(S:Bool)(a:List D):D×Bool:=match S with
 |false=>(.lst a,U)
 |true=>(.int (oo a).2,C)
noncomputable def Wk(S:Bool)(b:ky)(k:Nat)(d:FIt)(e:Tg)(f:FT)(c:FB):F:=λg=>(d g).bind λp=>(kE p.2<|b.map .slot).bind λa=>if(iR (b.map .slot) a).Nodup then(lq e f c p.1 []<|a.map Y++ah k J).bind λq=>Y (rS S q.1,wb (b.map .slot) a (iN a q.2) p.2) else J
def Dx{S:Bool}{K:iM}{f:ky}{k:Nat}{fi:FIt}{tg:Tg}{ti:FT}{fb:FB}{p:L2.St}{H:Hp}{Q:VK}(h:tF K (Wk S f k fi tg ti fb) p H Q):
  tI K (λi=>i∉f) fi p H λJ' q=>JB (o0 S) J' (tG K (λi=>Ix f<=i) tg) (tT K ti) (λd=>tBx S K (λi=>Ix f<=i) d fb) (Co f k) p q (qS S Q):=by
 obtain⟨δ,T,rr,δr,E,e,kq⟩:=h;obtain⟨⟨ds,t⟩,h1,e⟩:=hJ e;obtain⟨g,w,e⟩:=hJ e;dsimp only at e w;split at e
 case isFalse=>cases e
 rename_i W;obtain⟨⟨s,δ'⟩,h2,e⟩:=hJ e;obtain⟨rfl,rfl⟩:=iQ e;refine⟨δ,T,ds,t,E,h1,λJ' q K1 C ok d hd=>?_⟩;obtain⟨hl,hg⟩:=tN w;have bH:(Ix g)=(Ix f):=by simpa using hl
 let B:List V:=f.map λj=>((p[j]?).join).getD .non
 have m: ∀(i j:Nat),f[i]?=FM j-> ∃v,p[j]?=FM (FM v):=λi j l=>by
  have hi:i<(Ix g):=by have:=(xN.mp l).1;lia
  obtain⟨o,u,Z⟩:=hg i _ (jt hi);rw[mv,l] at u;cases u;have O:=vF Z;generalize g[i]=y at O;obtain⟨x,b⟩:=y
  cases b with
  |false=>obtain⟨v,h,_⟩:=C.val j x O;exact⟨v,h⟩
  |true=>obtain⟨a,h,_⟩:=C.own j x O;exact⟨_,h⟩
 have R: ∀(i j:Nat),f[i]?=FM j-> ∃v,B[i]?=FM v/\p[j]?=FM (FM v):=λi j l=>by obtain⟨v,hv⟩:=m i j l;refine⟨v,?_,hv⟩;show(f.map λj=>((p[j]?).join).getD .non)[i]?=FM v;rw[mv,l];simp[hv]
 have ax:Co f k p=B.map FM++ah k J:=by
  unfold Co
  congr 1
  apply Ef;intro i;show _=((f.map λj=>((p[j]?).join).getD .non).map FM)[i]?;rw[mv,mv,mv]
  cases l:f[i]? with
  |none=>rfl
  |some j=>obtain⟨v,hv⟩:=m i j l;simp[hv]
 have I:Ops K T p t q (f.map Opd.slot) B t q T:=by
  refine⟨by simp[B],.refl,C,λ_ z=>z,λj x v l=>?_,λj x v l=>?_,λj i v l hv=>?_⟩
  .rw[mv] at l;obtain⟨_,_,z⟩:=jB l;cases z
  .rw[mv] at l;obtain⟨_,_,z⟩:=jB l;cases z
  .rw[mv] at l;obtain⟨c,F,z⟩:=jB l;cases z;obtain⟨v',u,Z⟩:=R j i F;rw[hv] at u;cases u;exact Z
 have G:=Kp C I w W
 have hA: ∀(i:Nat) x,g[i]?=FM (x,Gc)-> ¬(Ix f<=i):=λi x A=>by
  have:=(xN.mp A).1
  lia
 rw[ax];have A:=lS (o:=o0 S) hd
 have X: ∀a,q a≠J->upd q d (o0 S) a≠J:=λa z=>by
  cases U:q a with
  |none=>exact absurd U z
  |some o=>rw[A a o U];simp
 have b0:BS S K d (λa=>Tc T p t B g a\/a=d) (B.map FM++ah k J) (g.map FM++ah k J) [] (upd q d<|o0 S):=by
  refine⟨(G.pad).mono (λb o eb _=>A b o eb) (λb hb z=>z.elim id λz=>by subst z;exact absurd hd hb) λa z=>?_,.inr H8,?_⟩
  .rcases z with z|z
   .exact(G.dom a z).up (A a)
   .subst z;rw[jm];cases S<;>trivial
  .cases S with
   |false=>exact⟨[],jm,RepL.nil⟩
   |true=>exact jm
 refine JY (λ_ _ _ _ h=>h) (λ_ _ _ h=>h) (λ_ _ _ h=>h) b0 _ _ ok (λa o N _=>A a o N) (λa D z=>?_) (λa D z=>?_) X h2 λσ' Y M L=>?_
 .rcases z with z|z
  .obtain⟨j,x,g1,g2⟩:=Oo.mp z;obtain⟨i,_,u,_,O⟩:=Gj I w ⟨x,g1,g2⟩;refine .inl ⟨i,λn=>n ?_,O⟩;rw[mv] at u;obtain⟨c,F,e⟩:=jB u;cases e;exact nK F
  .subst z;exact absurd hd D
 .rcases z with z|z|z
  .exact .inl (J6 I w<|Oo.mp z)
  .rcases z with z|z
   .exact .inr z
   .exact .inl z.1
  .subst z;exact absurd hd D
 .have SS:SK (λi=>Ix f<=i) (B.map FM++ah k J) (g.map FM++ah k J) q σ' δ' Y:=
   ⟨λa o N n=>M.kp a o (A a o N) n (by intro z;subst z;rw[N] at hd;cases hd),λi a z=>(M.owi i a z).imp id λz=>by
    cases U:q a with
    |none=>rfl
    |some o=>exact absurd z<|X a<|by rw[U];simp,λa z=>M.dm a<|X a z,M.as⟩
  cases S with
  |false=>obtain⟨ys,hy,ry⟩:=L.at';have P:=vN (r:=(.lst s,Gc)) (v:= .ref d) G SS hA ⟨d,rfl,hd,L.er,ys,hy,RepL.mono (λ_ _ e _=>e) (λb _ z=>z) ry⟩;exact kq (.ref d) Y<|(BY C I w W P).pre K1
  |true=>have P:=vN (r:=(.int (oo s).2,Go)) (v:= .int (oo s).2) G SS hA ⟨L.er.mono (λ_ _ e _=>e) (λb _ z=> .inl z) λa z=>L.er.dom a<|.inl z,Rep.mkInt⟩;exact⟨_,_,d,rfl,L.at',kq (.int (oo s).2) Y<|(BY C I w W P).pre K1⟩
def GK{K:iM}{a:ky}{k:Nat}{c:FIt}{e:Tg}{ti:FT}{b:FB}{f:L2.St}{T:Hp}{Q:VK}(h:tF K (iT a k c e ti b) f T Q):
  Ng (tI K (λi=>i∉a) c) (tG K (λi=>Ix a<=i) e) (tT K ti) (λd=>tBx C K (λi=>Ix a<=i) d b) (Co a k) f T Q:=Dx (S:=C) h
section
variable {X:Cx}{elt:iA}{c:pP}{iW:qo}{scope:km}{pos g0 py:bC}{N':jr}{caps:ky}{k:Nat}{fi:FIt}{tg:Tg}{ti:FT}{fb:FB}{A L:kg}{H0:Hp}
structure CompOk(X:Cx)(N':jr)(scope:km)(caps:ky)(k:Nat):Prop where
 cell: ∀y∈scope.names,y.2= .cell->scope.names.lookup y.1=FM .cell
 kind:scope.kind= .function
 names: ∀y∈scope.names,y.2= .local->scope.names.lookup y.1=FM .local
 free: ∀y∈scope.names,y.2= .free->X.env.scope.names.lookup y.1=FM .cell\/X.env.scope.names.lookup y.1=FM .free
 len:(Ix caps)+k=Ix N'
 caps: ∀(i j:Nat) (x:aW),caps[i]?=FM j->N'[i]?=FM x->X.N[j]?=FM x/\scope.names.lookup x=FM .free
def CompOk.sco(T:CompOk X N' scope caps k):CompScope X N' scope (Co caps k):=by
 refine⟨T.cell,T.kind,T.names,T.free,λd=>by simp[Co,T.len],λd i v x h1 f=>?_⟩;unfold Co at h1;by_cases b:i<Ix caps
 .rw[wd<|by simpa using b,mv,jt b] at h1;obtain⟨g,h⟩:=T.caps i caps[i] x (jt b) f;refine⟨h,caps[i],g,?_⟩;have a:(d[caps[i]]?).join=Y v:=by simpa using h1
  cases e:d[caps[i]]? with
  |none=>rw[e] at a;cases a
  |some y=>rw[e] at a;exact nM Y a
 .rw[rn<|by simpa using b,dr] at h1;split at h1<;>cases h1
def Rz(O:CompOk X N' scope caps k)(m:X.calm=U)(l:c.is_async=0)(o: ∀e,iW[0]?=Y e->e.is_async=0)
  (n: ∀x,aw c.iter X.env x=pure x)(p:PIX X (λi=>i∉caps) c.target c.iter fi)
  (r: ∀(cl:mq) (O:hV) (q:il) (f:Hp) (j:kH) (a:ji),let b:=X.comp N' scope cl O q f j a
   PGX b (λi=>Ix caps<=i) c.target tg/\PIf b c.ifs (tT X.K ti)/\ ∀d,PB b (jA (.ListComp elt (c::iW) scope pos) 0 (.ref d) b.env)<|tBx C X.K (λi=>Ix caps<=i) d fb):
  PX X (.ListComp elt (c::iW) scope pos) (iT caps k fi tg ti fb):=PX.imp (Oe (g:=tG X.K (λi=>Ix caps<=i) tg) (ti:=tT X.K ti) (tb:=λd=>tBx C X.K (λi=>Ix caps<=i) d fb) O.sco m l o n p r) λs T Q h=>GK h
def NP{y:aW}{i:Nat}(m:cR (.ListComp elt (c::iW) scope pos) (Y<|.Name y py) g0.line X.env=pure U)
  (C:CompOk X N' scope caps k)(u:X.calm=U)(t:c.is_async=0)(I: ∀h,iW[0]?=Y h->h.is_async=0)
  (z: ∀x,aw c.iter X.env x=pure x)(Q:PIX X (λi=>i∉caps) c.target c.iter fi)(n:PG X (.Name y py) (Gx i))(s:A i)
  (J: ∀(cl:mq) (C:hV) (G:il) (l:Hp) (o:kH) (a:ji),let b:=X.comp N' scope cl C G l o a
   PGX b (λi=>Ix caps<=i) c.target tg/\PIf b c.ifs (tT X.K ti)/\ ∀d,PB b (jA (.ListComp elt (c::iW) scope pos) 0 (.ref d) b.env)<|tBx Go X.K (λi=>Ix caps<=i) d fb):
  PSX X A L H0 (.Assign [.Name y py] (.ListComp elt (c::iW) scope pos) g0) (iY i<|iT caps k fi tg ti fb):=PS.imp' (NV (g:=tG X.K (λi=>Ix caps<=i) tg) (ti:=tT X.K ti) (tb:=λd=>tBx Go X.K (λi=>Ix caps<=i) d fb) m C.sco u t I z Q n J) λD N H B=>by
 obtain⟨M,T,O,E,fi,e,k⟩:=B;obtain⟨⟨r,f⟩,q,e⟩:=hJ e;obtain⟨w,rfl⟩:=jh e;refine GK ⟨M,T,r,f,E,q,λv j P=>?_⟩;obtain⟨h1,p⟩:=A6 (A:=A) E P w s;exact k _ j h1 p
end
section
variable {K:iM}{T:AP'}{d:L2.St}{c:Dn}{H:Hp}{i:Nat}{l g:List D}{a:hV}{m:List V}
def OwnI.write{j:Nat}{b:hV}(hd:c[i]?=Y (Y (.lst l,U)))(h:OwnI d (c.set i<|Y (.lst g,U)) j b):OwnI d c j b:=by
 obtain⟨e,h1,f⟩:=h;rcases mx h1 with⟨rfl,_,_⟩|⟨_,q⟩
 .exact⟨_,hd,f⟩
 .exact⟨e,q,f⟩
def ER.write(E:ER K H T d c)(hd:c[i]?=Y (Y (.lst l,U)))(t:d[i]?=Y (Y<|.ref a))(r:RepL K H (λb=>OwnA d c b\/T b) g m):
  ER K (upd H a<|.lst m) T d (c.set i<|Y (.lst g,U))/\Keep d c H (c.set i<|Y (.lst g,U)) (upd H a<|.lst m):=by
 have N:i<(Ix c):=(xN.mp hd).1;have v:OwnA d c a:=⟨i,_,hd,t⟩
 have B: ∀b,OwnA d (c.set i<|Y (.lst g,U)) b->OwnA d c b:=λb a'=>by
  obtain⟨j,e,h1,s⟩:=a'
  obtain⟨L,x,y⟩:=OwnI.write hd ⟨e,h1,s⟩;exact⟨j,L,x,y⟩
 have u: ∀b o,H b=Y o-> ¬(OwnA d c b\/T b)->upd H a (.lst m) b=Y o:=λb o e n=>by rw[jk<|by intro z;subst z;exact n<|.inl v];exact e
 have I: ∀b,H b≠F2->upd H a (.lst m) b≠F2:=λb z=>by
  by_cases C:b=a
  .subst C;rw[jm];simp
  .rw[jk C];exact z
 have sub: ∀b,H b≠F2->(OwnA d (c.set i<|Y (.lst g,U)) b\/T b)->OwnA d c b\/T b:=λb _ z=>z.imp (B b) id;refine⟨⟨by rw[sD];exact E.len,λj e h=>?_,λj e h=>?_,λj k e f b h hk h1 s=>?_,λb z=>E.nT b<|B b z,λb z=>by have ne:b≠a:=λe=>E.nT a v<|e▸z;rw[jk ne];exact E.dom b z⟩,⟨λb o e n=>by rw[jk<|by intro z;subst z;exact n v];exact e,λj b z=>OwnI.write hd z,I⟩⟩
 .rcases mx h with⟨_,_,q⟩|⟨_,q⟩
  .cases q
  .obtain⟨w,p,A⟩:=E.val j e q;exact⟨w,p,Rep.mono u sub A⟩
 .rcases mx h with⟨rfl,_,q⟩|⟨ne,q⟩
  .cases q;exact⟨a,t,m,jm,RepL.mono u sub r⟩
  .obtain⟨b,p,A⟩:=E.own j e q;refine⟨b,p,A.mono u sub λo G=>?_⟩;rw[jk]
   .exact G
   .intro z;subst z;exact ne<|E.inj i j _ _ _ hd q t p
 .obtain⟨O,x,y⟩:=OwnI.write hd ⟨e,h,h1⟩;obtain⟨Q,J,M⟩:=OwnI.write hd ⟨f,hk,s⟩;exact E.inj j k O Q b x J y M
end
noncomputable def lT(i:Nat)(f:F):F:=λa=>match a[i]? with
 |some (Y (.lst _,U))=>(f a).bind λp=>match p.2[i]? with
  |some (Y (.lst l,U))=>if (Ix l)<sizeLine then Y ((.non,C),p.2.set i<|Y (.lst<|l++[p.1.1],U)) else J
  |_=>J
 |_=>J
noncomputable def xv(i:Nat)(f:FO):F:=λa=>match a[i]? with
 |some (Y (.lst _,U))=>(f a).bind λp=>match res p.2 p.1,p.2[i]? with
  |some (.int k),Y (Y (.lst l,U))=>if -(2^63)<=k/\k<2^63 then(ixN (Ix l) k).bind λj=>(l[j]?).bind λd=>Y ((d,C),p.2.set i<|Y (.lst<|l.eraseIdx j,U)) else J
  |_,_=>J
 |_=>J
noncomputable def oX(i:Nat)(f:F)(g:FO):FS:=λa=>(f a).bind λp=>match p.2[i]? with
 |some (Y _)=>(g p.2).bind λq=>match res q.2 q.1,q.2[i]? with
  |some (.int k),Y (Y (.lst l,U))=>(ixN (Ix l) k).bind λj=>Y<|.nx<|q.2.set i<|Y (.lst<|l.set j p.1.1,U)
  |_,_=>J
 |_=>J
section
variable {X:Cx}{e p:iA}{f:F}{s:FO}{q c g m:bC}{i:Nat}{x:aW}{A L:kg}{t:Hp}
theorem RepL.erase{K T}{O:AP'}: ∀{l:List D} {a:List V} (j:Nat),RepL K T O l a->RepL K T O (l.eraseIdx j) (a.eraseIdx j)
 |[],a,j,h=>by rw[RepL] at h;subst h;simp[RepL]
 |d::l,a,0,h=>by rw[RepL] at h;obtain⟨v,r,rfl,h1,b⟩:=h;exact b
 |d::l,a,j+1,h=>by rw[RepL] at h;obtain⟨v,r,rfl,h1,b⟩:=h;exact RepL.cons h1<|RepL.erase j b
def K6(hv:PO X (.Name x c) (gZ i))(N:PX X e f)(j9:cy (.Name x c) "append" X.env (aM (.Name x c) X.env)=aM (.Name x c) X.env)
  (m9:((aJ m<|ac [e] X.env).all (λx=>!x.1)&&(ck m<|bq [] X.env).all (λx=>x.1.isSome)&&decide ([e].length+([]:List cf).length+(if([]:List cf).isEmpty then 0 else 1)<30))=Gc)
  (j8:(g.endLine==m.line)=Gc)(z:ac [e] X.env=(Go,aM e X.env)::ac [] X.env)(M:(aJ m<|ac [] X.env).any (·.1)=Go):
  PX X (.Call (.Attribute (.Name x c) "append" g) [e] [] m) (lT i f):=
 PX.imp (Oj Hf PySem.F.slot_list_append PySem.F.type_list_append Lv hv (pB N uP z) j9 m9 j8 z M) λσ H Q U=>by
 obtain⟨h,T,rr,S,E,e,k⟩:=U;unfold lT at e;split at e
 .rename_i l0 u;obtain⟨⟨r,j⟩,h1,e⟩:=hJ e;dsimp only at e;split at e
  .rename_i l w;obtain⟨Y,e⟩:=jh e;obtain⟨rfl,rfl⟩:=sy e;refine⟨h,T,.slot i,h,E,by unfold gZ;rw[u],λv V P=>?_⟩;obtain⟨O,d,b⟩:=P;obtain⟨a,g1,J,g2,g3⟩:=d.own i _ u;rw[b] at g1;cases g1;refine⟨.inl ⟨rfl,J,SqL.of g2⟩,h,T,r,j,d,h1,λy W o=>?_⟩;obtain⟨n,K⟩:=o.rep d;obtain⟨Z,B,R,D,C⟩:=n.own i _ w;rw[b] at B;cases B;refine⟨_,R,y,rfl,rfl,D,by rw[C.length];exact Y,?_⟩;obtain⟨I,G⟩:=n.write w b<|C.append<|RepL.one K;exact k _ _ (Post.val ((O.trans o.1).trans G) I Rep.mkNon)
  .cases e
 .cases e
def NI(hv:PO X (.Name x c) (gZ i))(he:PO X e s)(j9:cy (.Name x c) "pop" X.env (aM (.Name x c) X.env)=aM (.Name x c) X.env)
  (m9:((aJ m<|ac [e] X.env).all (λx=>!x.1)&&(ck m<|bq [] X.env).all (λx=>x.1.isSome)&&decide ([e].length+([]:List cf).length+(if([]:List cf).isEmpty then 0 else 1)<30))=Gc)
  (j8:(g.endLine==m.line)=Gc)(Y:ac [e] X.env=(Go,aM e X.env)::ac [] X.env)(f7:(aJ m<|ac [] X.env).any (·.1)=Go):
  PX X (.Call (.Attribute (.Name x c) "pop" g) [e] [] m) (xv i s):=
 PX.imp (Oj Hf PySem.F.slot_list_pop PySem.F.type_list_pop OI hv (pB he uP Y) j9 m9 j8 Y f7) λσ H Q hw=>by
 obtain⟨O,T,rr,δ',E,e,k⟩:=hw;unfold xv at e;split at e
 .rename_i l0 M;obtain⟨⟨o,r⟩,h1,e⟩:=hJ e;dsimp only at e;split at e
  .rename_i D l hk N;split at e
   case isFalse=>cases e
   rename_i U;obtain⟨j,hj,e⟩:=hJ e;obtain⟨d,hd,e⟩:=hJ e;obtain⟨rfl,rfl⟩:=iQ e;refine⟨O,T,.slot i,O,E,by unfold gZ;rw[M],λv H1 P=>?_⟩;obtain⟨Z,u,h⟩:=P;obtain⟨a,g1,dy,g2,g3⟩:=u.own i _ M;rw[h] at g1;cases g1;refine⟨.inl ⟨rfl,dy,SqL.of g2⟩,O,T,o,r,u,h1,λy W J=>?_⟩;have B:=Ops.cons u J<|Ops.nil<|J.er u;have vy:=jd<|B.view (j:=0) H8 H8 hk;have G:ER X.K W T σ r:=B.er.mono (λ_ _ e _=>e) (λb _ z=>B.tt b z) λa z=>B.er.dom a<|B.tt a z;obtain⟨a',R,S,q2,I⟩:=G.own i _ N;rw[h] at R;cases R;obtain⟨w,w1,w2⟩:=I.get hd;have hl:=I.length;have dY:ixN S.length D=FM j:=by rw[hl];exact hj
   obtain⟨s1,s2,s3,s4⟩:=EZ dY;obtain⟨V,C⟩:=G.write N h<|RepL.erase j I;refine⟨_,S,D,j,w,rfl,by rw[vy],q2,U.1,U.2,s1,w1,?_⟩;exact k _ _ (Post.val ((Z.trans B.keep).trans C) V<|Rep.mono (λb o e n=>C.kp b o e λz=>n<|.inl z) (λb _ z=>z.imp (C.ow b) id) w2)
  .cases e
 .cases e
def La{h:bC}(hv:PO X (.Name x c) (gZ i))(he:PX X e f)(hi:PO X p s)
  (ha: ∀v,bW (.Subscript (.Name x c) p h) X.env v=(do
   let C' <-bo [v] (aM (.Name x c) X.env)
   let O <-bo [v,C'] (aM p X.env)
   cq h
   bo [v,C',O] (fk C' O v)
   gJ [v,C',O] []))
  (hs:cw [.Subscript (.Name x c) p h] e q.line X.env=pure C)(I:cx [.Subscript (.Name x c) p h] e X.env=pure F2)
  (h1:(aU [.Subscript (.Name x c) p h] X.env).map (·.2)=[bW (.Subscript (.Name x c) p h) X.env]):
  PSX X A L t (.Assign [.Subscript (.Name x c) p h] e q) (oX i f s):=PS.imp' (HZ he (Ob hv hi Nr ha) hs I h1) λD Q H I=>by
 obtain⟨U,T,out,E,fi,e,k⟩:=I;obtain⟨⟨r,d⟩,h1,e⟩:=hJ e;dsimp only at e;split at e
 case h_2=>cases e
 rename_i y0 V;obtain⟨⟨o,y⟩,W,e⟩:=hJ e;dsimp only at e;split at e
 .rename_i kk l hk J;obtain⟨j,Z,e⟩:=hJ e;cases e;refine⟨U,T,r,d,E,h1,λv F n=>⟨d,Tmp T r v,.slot i,d,n.er E,by unfold gZ;rw[V],λv2 H2 u=>⟨d,Tmp T r v,o,y,u.er<|n.er E,W,λv3 P P3=>?_⟩⟩⟩;have S:PostO X.K T Q U H (.val r) d v F:=n;have B:=Ops.cons E S<|Ops.cons (n.er E) u<|Ops.cons (u.er<|n.er E) P3<|Ops.nil<|P3.er<|u.er<|n.er E;have G:ER X.K P T Q y:=B.er.mono (λ_ _ e _=>e) (λb _ z=>B.tt b z) λa z=>B.er.dom a<|B.tt a z;have w:Q[i]?=FM (FM v2):=u.2.2;obtain⟨a,M,xs,q2,N⟩:=G.own i _ J;rw[w] at M;cases M;have vk:=jd<|B.view (j:=2) H8 H8 hk;have rv:=B.rep E (j:=0) (r:=r) H8 H8;refine⟨a,xs,kk,j,rfl,vk,q2,by rw[N.length];exact Z,?_⟩;obtain⟨Y,R⟩:=G.write J w<|RepL.set rv j N;exact k _ _ (B.keep.trans R).sk Y
 .cases e
end
noncomputable def FU(b:Tg)(f:F):FS:=λc=>(f c).bind λp=>(b p.1.1 p.2).bind λa=>Y<|.nx a
section
variable {X:Cx}{A L:kg}{l:Hp}{a b d e:iA}{fs:List F}{f:F}{t:Tg}{c n m pt h:bC}{x y:aW}{i j:Nat}{kt k2}
def RM(C:PX X e f)(I:PGX X A d t)(O:cw [d] e c.line X.env=pure Go)(o:cx [d] e X.env=pure F2)(h1:(aU [d] X.env).map (·.2)=[bW d X.env]):
  PSX X A L l (.Assign [d] e c) (FU t f):=PS.imp' (HZ C I O o h1) λD N H o=>by
 obtain⟨J,T,Q,E,M,e,k⟩:=o;obtain⟨⟨r,g⟩,h1,e⟩:=hJ e;obtain⟨p,B,e⟩:=hJ e;cases e;refine⟨J,T,r,g,E,h1,λv w P=>?_⟩;obtain⟨u,G⟩:=P.rep E;exact⟨g,T,r.1,p,u,G,B,λq z s=>k q w (P.1.sk.trans z) s⟩
def RC{id:String}{p:bC}{k:kn}{o:List FO}{g:List D->Option (D×Bool)}{z:aW}(r:kQ X (.builtin id) (rDn X.K g))(u:Gl X z)(v:X.mg z=J)(hv:aH z=Y (.builtin id))(q:PA X (e::k) (tA X.K o))(w:z≠"__name__")(T:(z==("__debug__":aW))=C)
  (s:ac (e::k) X.env=(C,aM e X.env)::ac k X.env)(B:(aJ c<|ac k X.env).any (·.1)=C):PX X (.Call (.Name z p) (e::k) [] c) (ir g o):=pxn<|Bk r u v hv q w T s B
def JI{id:String}{p:bC}{k:kn}{o:List FO}{g:List D->Option (D×Bool)}{z:aW}(r:kQ X (.type id) (rDn X.K g))(u:Gl X z)(v:X.mg z=J)(hv:aH z=Y (.type id))(q:PA X (e::k) (tA X.K o))(w:z≠"__name__")(T:(z==("__debug__":aW))=C)
  (s:ac (e::k) X.env=(C,aM e X.env)::ac k X.env)(B:(aJ c<|ac k X.env).any (·.1)=C):PX X (.Call (.Name z p) (e::k) [] c) (ir g o):=pxn<|rJ r u v hv q w T s B
end
def Wr:aH "len"=Y (.builtin "len"):=by decide+kernel
def Ws:aH "abs"=Y (.builtin "abs"):=by decide+kernel
noncomputable def Fm(N:jr)(c scope:km)(b:jr)(a:ky)(k:Nat):Bool:=
 (scope.names.all λy=>y.2 != .cell||scope.names.lookup y.1==Y .cell)&&decide (scope.kind= .function)&&(scope.names.all λy=>y.2 != .local||scope.names.lookup y.1==Y .local)&&
 (scope.names.all λy=>y.2 != .free||(c.names.lookup y.1==Y .cell||c.names.lookup y.1==Y .free))&&decide (Ix a+k=Ix b)&&
 ((a.zip b).all λp=>N[p.1]?==Y p.2&&scope.names.lookup p.2==Y .free)
def Qg(m:X.N=N)(p:X.env.scope=sc)(h:Fm N sc scope N' a k=U):CompOk X N' scope a k:=by
 subst m;subst p;unfold Fm at h;simp only[kJ,lG,ni] at h;obtain⟨⟨⟨⟨⟨h1,c⟩,d⟩,f⟩,g⟩,l⟩:=h;refine⟨λy b e=>?_,c,λy b e=>?_,λy b e=>?_,g,λi j x n q=>?_⟩
 .have:=h1 y b;rw[e] at this;simpa using this
 .have:=d y b;rw[e] at this;simpa using this
 .have:=f y b;rw[e] at this;simpa using this
 .have o:(j,x)∈a.zip N':=by
   have:(a.zip N')[i]?=Y (j,x):=by rw[Fs];exact⟨n,q⟩
   exact nK this
  have:=l _ o;simpa using this
noncomputable def je:FT:=λδ=>Y (U,δ)
def N3{X:Cx}:PIf X [] (tT X.K je):=λa s d O Q N h=>by obtain⟨f,T,b,c,E,e,k⟩:=h;cases e;exact RX a s d O Q N<|k O .refl E
inductive Ty where
 |int|bool|str|tuple|list|dict
noncomputable def Ty.n:Ty->String
 | .int=>"int"| .bool=>"bool"| .str=>"str"| .tuple=>"tuple"| .list=>"list"| .dict=>"dict"
noncomputable def isT:D->Ty->Bool
 | .bl _,.bool=>U
 | .bl _,.int=>U
 | .int _,.int=>U
 | .str _,.str=>U
 | .tup _,.tuple=>U
 | .lst _,.list=>U
 | .oth .dct _ _,.dict=>U
 |_,_=>C
noncomputable def tyD:D->String
 | .non=>"NoneType"| .bl _=>"bool"| .int _=>"int"| .str _=>"str"| .tup _=>"tuple"| .lst _=>"list"| .oth .dct _ _=>"dict"| .oth .set _ _=>"set"| .oth _ _ _=>"NoneType"
section
variable {X:Cx}{b:ji}{c:L2.St}{H:Hp}{s:il}
def Gr(K:iM)(d:D)(t:Ty):dA K (.type<|tyD d) (.type t.n)=Y (isT d t):=by
 cases d with
 |oth k _ _=>cases k<;>cases t<;>with_unfolding_all rfl
 |_=>cases t<;>with_unfolding_all rfl
def Ij(T:Inv X b c H s)(h:OthB X.K (H a) k l i us)(hk:k= .dct\/k= .set:=by first|exact .inl rfl|exact .inr I):s.TypeIs (.ref a) (tyD<|.oth k l i):=by
 cases k with
 |dct=>
  rcases h with⟨d,e,_⟩|⟨d,e,_⟩
  .obtain⟨_,_,i,_,o,g,j,h1,f,_⟩:=(show ObjOk X.prog X.w H s.heap a (.dK d) from T.hok a _ e)
   exact⟨o,h1,f.1⟩
  .obtain⟨_,_,p,_,o,g,j,h1,f,_⟩:=(show ObjOk X.prog X.w H s.heap a (.dT d) from T.hok a _ e)
   exact⟨o,h1,f.1⟩
 |set=>
  obtain⟨_,m,e,_⟩:=h;obtain⟨g,n,t,h1,_⟩:=(show ObjOk X.prog X.w H s.heap a (.stt m) from T.hok a _ e)
  exact⟨_,h1,rfl⟩
 |exc Q=>rcases hk with z|z<;>cases z
 |_=>exact h.elim
def rC{K H}(h:kj K H O (.oth k g f) v): ∃a d,v= .ref a/\OthB K (H a) k g f d/\RepL K H O f d:=by
 rcases h with h|⟨a,rfl,h⟩
 .obtain⟨a,d,e,q,r⟩:=h.oth;exact⟨a,d,e,q.2,r⟩
 .obtain⟨d,e,r⟩:=h;exact⟨a,d,rfl,e,r⟩
end
def Yi{K:iM}{T:Nat}(h: ∀n∈["int","bool","str","tuple","list","dict"],dA K (.ref T) (.type n)=Y C)(t:Ty){a b:List D}:dA K (.ref T) (.type t.n)=Y (isT (.oth (.exc T) a b) t):=by
 cases t<;>exact h _ (by simp[Ty.n])
section
variable {X:Cx}{c:ji}{f:L2.St}{H:Hp}{s:il}
def ZI(T:Inv X c f H s)(hd:kj X.K H O d x)(g:RelV x u)(h: ∀m,Q (.bool<|isT d t) {s with toks:=m}):
  ae (ag X.prog X.w) A (call (.builtin "isinstance") [u,.type t.n]) Q E s:=by
 cases d with
 |non=>have:=M3 hd;subst this;cases g;exact su PySem.W.kitx_none T.kIn bV (Gr X.K .non t) (λz=>nomatch z) h
 |bl b=>have:=Jw hd;subst this;cases g;exact su PySem.W.kitx_bool T.kIn bV (Gr X.K (.bl b) t) (λz=>nomatch z) h
 |int b=>have:=jd hd;subst this;obtain⟨m,rfl⟩:=g;exact su PySem.W.kitx_int T.kIn bV (Gr X.K (.int b) t) (λz=>nomatch z) h
 |str b=>have:=A4 hd;subst this;obtain⟨m,rfl⟩:=g;exact su PySem.W.kitx_str T.kIn bV (Gr X.K (.str b) t) (λz=>nomatch z) h
 |tup l=>obtain⟨a,y,rfl,q,_⟩:=ma hd;cases g;obtain⟨j,_,⟨o,h1,i,_⟩,_⟩:=T.tuple q;exact su PySem.W.kitx_tuple T.kIn ⟨o,h1,i⟩ (Gr X.K (.tup l) t) (λz=>nomatch z) h
 |lst l=>obtain⟨a,y,rfl,q,_⟩:=lg hd;cases g;obtain⟨j,_,⟨o,n,h1,i,_⟩,_⟩:=T.list q;exact su PySem.W.kitx_list T.kIn ⟨o,h1,i⟩ (Gr X.K (.lst l) t) (λz=>nomatch z) h
 |oth k p r=>
  obtain⟨a,B,rfl,q,_⟩:=rC hd;cases g
  cases k with
  |dct=>exact su PySem.W.kitx_dict T.kIn (Ij T q) (Gr X.K (.oth .dct p r) t) (λz=>nomatch z) h
  |set=>exact su PySem.W.kitx_set T.kIn (Ij T q) (Gr X.K (.oth .set p r) t) (λz=>nomatch z) h
  |exc N=>obtain⟨_,o,e,h1,i,v⟩:=q;exact su (i a) T.kIn (show ObjOk X.prog X.w H s.heap a (.frz o<|.own 0) from T.hok a _ e).1 (Yi v t) (λz=>nomatch z) h
  |_=>exact q.elim
end
noncomputable def uh(a:List Ty)(d:D):Option (D×Bool):=Y (.bl<|a.any<|isT d,C)
section
variable {X:Cx}{e:iA}{c:FO}{b p a:bC}{z:aW}
def Vg{t:Ty}(C:PO X e c)(G:Gl X "isinstance")(J:X.mg "isinstance"=F2)(w:Gl X z)(f:X.mg z=F2)(U:aH z=FM (.type t.n))(M:z≠"__name__")(m6:(z==("__debug__":aW))=Go)(hv:aH "isinstance"=FM (.builtin "isinstance"))
  (s1:ac [e,.Name z a] X.env=(Go,aM e X.env)::ac [.Name z a] X.env)(s2:ac [.Name z a] X.env=(Go,aM (.Name z a) X.env)::ac [] X.env)(Y:(aJ b<|ac [.Name z a] X.env).any (·.1)=Go):
  PX X (.Call (.Name "isinstance" p) [e,.Name z a] [] b) (kN (uh [t]) c):=by
 have L:kQ X (.builtin "isinstance") (λm H Q=> ∃(O:AP') (d:D) (x:V),m=[x,.ty t.n]/\kj X.K H O d x/\Q (.bl<|isT d t) H):=by intro l s W H m us Q I r h;obtain⟨O,d,x,rfl,hd,q⟩:=h;obtain⟨u,w',rfl,F,P⟩:=CT r;cases P;exact ZI I hd F λtk=>⟨.bl _,H,I.tok _,rfl,q⟩
 refine PX.imp (Bk L G J hv (pB C (pB (R7 (v:= .ty t.n) w f U H8 M m6) uP s2) s1) (by decide) (by decide) s1 Y) λW H Q N=>?_;obtain⟨R,T,rr,S,E,e,k⟩:=N;obtain⟨⟨o,g⟩,h1,e⟩:=hJ e;obtain⟨x,y,e⟩:=hJ e;obtain⟨zz,A,e⟩:=hJ e;cases A;obtain⟨rfl,rfl⟩:=iQ e;refine⟨R,T,o,g,E,h1,λv Z i=>?_⟩;have B:=Ops.cons E i<|Ops.nil<|i.er E;refine⟨_,x,v,rfl,B.view (j:=0) H8 H8 y,?_⟩;have:=(B.done k).bl;simpa using this
end
noncomputable def pJ:List D->Option (List Bool)
 |[]=>Y []
 | .bl b::l=>(pJ l).map (b:: ·)
 |_::_=>J
noncomputable def zI:D->Option (D×Bool)
 | .lst l=>(pJ l).map λbs=>(.bl<|bs.all id,C)
 |_=>J
noncomputable def IL:D->Option (D×Bool)
 | .lst l=>(pJ l).map λbs=>(.bl<|bs.any id,C)
 |_=>J
theorem vf{K T}{O:AP'}: ∀{l:List D} {bs:List Bool} {e:List V} {d:jN},pJ l=Y bs->RepL K T O l e->Vals e d->LSm.BoolsAre d bs
 |[],bs,e,d,h,r,v=>by
  cases h;rw[RepL] at r;subst r;cases v;exact .nil
 | .bl b::l,bs,e,d,h,r,v=>by
  obtain⟨f,h1,rfl⟩:=jB h;rw[RepL] at r;obtain⟨x,j,rfl,g,i⟩:=r;have:=g.bl;subst this
  cases v with
  |cons a c=>cases a;exact .cons b<|vf h1 i c
 | .non::l,_,_,_,h,_,_=>by cases h
 | .int _::l,_,_,_,h,_,_=>by cases h
 | .str _::l,_,_,_,h,_,_=>by cases h
 | .tup _::l,_,_,_,h,_,_=>by cases h
 | .lst _::l,_,_,_,h,_,_=>by cases h
 | .oth _ _ _::l,_,_,_,h,_,_=>by cases h
section
variable {X:Cx}
def yk{h a:iO}{o:en}(hk: ∀b x,b∉[h.objs.size]->(h.push o).get? b=Y x->a.get? b=Y x)(b:hV)(x:en)(e:h.get? b=Y x):a.get? b=Y x:=
 hk b x (λz=>by have:=KA.mp z;subst this;exact absurd (jl e)<|rB _) (jS _ e)
def oE(o:X.calm=U):kQ X (.builtin "all") (rDn X.K<|g1 zI):=pd λj s M N x u Q O d z I y np hd h G=>by
 cases d with
 |lst l=>
  obtain⟨bs,n,rfl⟩:=jB h;obtain⟨p,J,rfl,q,r⟩:=lg hd;cases y;obtain⟨c,v,g,_⟩:=I.list q;have a:=vf n r v;have t:X.A.in1.handled=F2:=I.ok.hd o;have k:p<s.heap.objs.size:=by obtain⟨_,e,_⟩:=g.isList;exact jl e
  refine call_all_walk (zg g.isList ⟨s.heap.objs.size,[s.heap.objs.size,p],[s.heap.objs.size],c.toArray.size,_,_,λi=>(bs[i]?).getD U,rfl,Ee t _ p (jG k) c.toArray,
   ⟨⟨_,kh _ rfl,rfl,rfl⟩,g.isList.push _⟩,λi w L C B m f=>?_,λE T hk=>?_⟩)
  .obtain⟨b,e,rfl⟩:=a.get i w (by simpa using m);dsimp only at f;rw[e] at f;exact wg f
  .rw[jw,a.length,LSm.range_all];exact⟨.bl _,N,I.kept<|yk hk,rfl,G.bl⟩
 |_=>cases h
def DD(o:X.calm=U):kQ X (.builtin "any") (rDn X.K<|g1 IL):=pd λj s M N x u Q O d z I y np hd h G=>by
 cases d with
 |lst l=>
  obtain⟨bs,n,rfl⟩:=jB h;obtain⟨p,J,rfl,q,r⟩:=lg hd;cases y;obtain⟨c,v,g,_⟩:=I.list q;have a:=vf n r v;have t:X.A.in1.handled=F2:=I.ok.hd o;have k:p<s.heap.objs.size:=by obtain⟨_,e,_⟩:=g.isList;exact jl e
  refine call_any_walk (zg g.isList ⟨s.heap.objs.size,[s.heap.objs.size,p],[s.heap.objs.size],c.toArray.size,_,_,λi=>(bs[i]?).getD Go,rfl,Ee t _ p (jG k) c.toArray,
   ⟨⟨_,kh _ rfl,rfl,rfl⟩,g.isList.push _⟩,λi w L C B m f=>?_,λE T hk=>?_⟩)
  .obtain⟨b,e,rfl⟩:=a.get i w (by simpa using m);dsimp only at f;rw[e] at f;exact wg f
  .rw[jw,a.length,LSm.range_any];exact⟨.bl _,N,I.kept<|yk hk,rfl,G.bl⟩
 |_=>cases h
noncomputable def PK:=gI λi j=>Y<|.int (if j>i then j else i)
noncomputable def Dm:=gI λi j=>Y<|.int (if j<i then j else i)
def Jf(c:X.calm=U):kQ X (.builtin "max") (rDn X.K<|g2 PK):=Qh λa s k T x y h Q O d e z N r np h1 b g G=>by obtain⟨i,j,w,rfl,rfl,f,rfl⟩:=Ay g;cases f;exact LY c a s k T [x,y] h Q N r ⟨i,j,by rw[jd h1,jd b],G.int⟩
def BZ(c:X.calm=U):kQ X (.builtin "min") (rDn X.K<|g2 Dm):=Qh λa s k T x y h Q O d e z N r np h1 b g G=>by obtain⟨i,j,w,rfl,rfl,f,rfl⟩:=Ay g;cases f;exact LX c a s k T [x,y] h Q N r ⟨i,j,by rw[jd h1,jd b],G.int⟩
def Be{lo:Int}{n:Nat}{a:nI}(h:ia (λi v=> ∃t,v= .int (lo+(i:Int)*1) t) a n):Vals ((aj n).map λ(k:Nat)=>V.int<|lo+k) a.toList:=by
 have b: ∀(l:jN) (m:Nat),(∀(j:Nat) v,l[j]?=Y v-> ∃t,v= .int (lo+((m+j:Nat):Int)) t)->Vals ((bU m<|Ix l).map λ(k:Nat)=>V.int<|lo+k) l:=by
  intro l
  induction l with
  |nil=>intro m _;exact .nil
  |cons v l f=>intro m hv;obtain⟨t,e⟩:=hv 0 v I;refine .cons ⟨t,by simpa using e⟩<|f (m+1) λj w d=>?_;obtain⟨g,c⟩:=hv (j+1) w (by simpa using d);exact⟨g,by rw[c];congr 2;first|done|lia⟩
 have:=b a.toList 0 λj v hv=>by obtain⟨t,e⟩:=h.2 j v (by simpa using hv);exact⟨t,by rw[e];congr 1⟩
 rw[kG,h.1,<-List.range_eq_range'] at this;exact this
def HU{K T}(lo:Int)(n:Nat):RepL K T O (iX lo n) ((aj n).map λ(k:Nat)=>V.int<|lo+k):=by
 unfold iX
 induction(aj n) with
 |nil=>exact RepL.nil
 |cons k l a=>exact RepL.cons Rep.mkInt a
end
def RgOk(lo a:Int):Prop:= -(2^62)<=lo/\lo<2^62/\ -(2^62)<=a/\a<2^62/\(a-lo).toNat<=2^24
instance(lo hi:Int):Decidable (RgOk lo hi):=by unfold RgOk;infer_instance
noncomputable def rgV(lo a:Int):List V:=(aj (a-lo).toNat).map λ(k:Nat)=>V.int<|lo+k
def RgOk.small{lo a:Int}(h:RgOk lo a):q9 lo a 1=U:=small_one h.1 h.2.1 h.2.2.1 h.2.2.2.1
def JF(lo a:Int):eJ lo a 1=((a-lo).toNat:Nat):=by rw[ww];split<;>lia
section
variable {c:iU}{w:iK}{A:iP}{E:jf}{s:il}
def Jd{Q:List iC->il->Prop}{r:hV}{lo n:Int}{t u v:nL}(T:A.handled=J)(q:AC s.heap r lo n 1 t u v)(ok:RgOk lo n)
  (B: ∀(g:iO) k (d:nI),(∀b o,s.heap.get? b=Y o->g.get? b=Y o)->ia (λi v=> ∃t,v= .int (lo+(i:Int)*1) t) d (n-lo).toNat->Q d.toList {s with heap:=g,toks:=k}):
  ae (ag c w) A (fm<|.ref r) Q E s:=by
 unfold fm;refine hU<|Ed<|qq F.entry_proto_collect ?_;rw[tQ F.plain_proto_collect _];refine hU (m:=gP [])<|mT ?_;refine iq ⟨vX F.plain_list_iadd _,qq F.entry_list_iadd ?_⟩;rw[tQ F.plain_list_iadd _];have z:=kh s.heap (o:=({cls:= .type "list",data:= .seq ([]:List iC).toArray}:en)) I
 let R:h7->il->Prop:=λr j=> ∃(g:iO) (k:Nat) (d:nI) (l:Nat),r= .ok (.ret<|.ref s.heap.objs.size)/\j={s with heap:=g,toks:=k}/\(∀b o,s.heap.get? b=Y o->g.get? b=Y o)/\
  g.get? s.heap.objs.size=Y {cls:= .type "list",dict:=J,data:= .seq d l,slots:= #[]}/\ia (λi v=> ∃t,v= .int (lo+(i:Int)*1) t) d (n-lo).toNat
 have fin: ∀{r j},R r j-> ∃v,r= .ok (.ret v)/\ae (ag c w) A (match v with
   |Value.ref a=>do
    match(<-load a).data with
     |Data.seq xs _=>pure xs.toList
     |_=>ka "internal:collect"
   |_=>ka "internal:collect") Q E j:=λ{r j} N=>by
  obtain⟨g,k,d,l,rfl,rfl,hk,y,x⟩:=N;exact⟨_,rfl,hU (m:=load s.heap.objs.size)<|zi y<|iq<|B g k d hk x⟩
 refine pU (wpAny_extend_range (A:=A) (R:=R) (s:={s with heap:=s.heap.push {cls:= .type "list",data:= .seq ([]:List iC).toArray}}) T (jS _ q) ok.small (JF lo n) ok.2.2.2.2 _ _ 0 z λg k O l hk y x=>⟨g,k,O,l,rfl,rfl,λb o e=>hk b o (jG<|jl e)<|jS _ e,y,x⟩) (λf j h=>?_) λe j h=>?_
 .cases f with
  |done f=>obtain⟨v,hv,p⟩:=fin h;cases hv;exact p
  |again l=>exact⟨h.1,we h.2 λr L q=>by obtain⟨v,rfl,p⟩:=fin q;exact p⟩
 .obtain⟨v,hv,_⟩:=fin h;cases hv
def Es{Q₁:jf}{r:hV}{lo g:Int}{t u v:nL}(p:A.handled=J)(l:AC s.heap r lo g 1 t u v)(ok:RgOk lo g)
  (h: ∀(d:iO) k (a:nI),(∀b o,s.heap.get? b=Y o->d.get? b=Y o)->ia (λi v=> ∃t,v= .int (lo+(i:Int)*1) t) a (g-lo).toNat->Q₁ (.ref d.objs.size) {s with heap:=d.push {cls:= .type "tuple",data:= .seq a},toks:=k}):
  cG (ag c w) A (.call (.builtin "tuple.__new__") ⟨[.type "tuple",.ref r],[]⟩) (uu Q₁ E) s:=by
 refine yY ?_;refine hU (m:=dN "tuple.__new__" _)<|rk (F.newCall_tuple_1 _)<|iq ⟨vX F.plain_tuple_new _,qq F.entry_tuple_new ?_⟩;rw[tQ F.plain_tuple_new _];have z:=sub_tuple_self;have j:=init_tuple_lookup;have q:=madeHere_tuple;have y:s.TypeIs (.ref r) "range":=⟨_,l,rfl⟩
 have f:A.in1.handled=J:=p
 wp_walk using tR y,Jd f l ok
 intro d k a hk n;have x:a.size<=sizeLine:=by rw[n.1,jI];have:=ok.2.2.2.2;omega
 refine hU (m:=aF a.toList.toArray) ?_;unfold aF;refine mT ?_ (by show a.toList.toArray.size<=sizeLine;simpa using x);refine iq ?_;have e:a.toList.toArray=a:=by simp
 rw[e];exact h d k a hk n
def CK{Q:jf}{r:hV}{lo g:Int}{t u v:nL}(k:A.handled=J)(m:AC s.heap r lo g 1 t u v)(ok:RgOk lo g)
  (h: ∀(f:iO) j (e:nI),(∀b o,s.heap.get? b=Y o->f.get? b=Y o)->ia (λi v=> ∃t,v= .int (lo+(i:Int)*1) t) e (g-lo).toNat->Q (.ref f.objs.size) {s with heap:=f.push {cls:= .type "tuple",data:= .seq e},toks:=j}):
  ae (ag c w) A (call (.type "tuple") [.ref r]) Q E s:=by
 refine vu (Q₁:=λobj a=>a.TypeIs obj "tuple"/\Q obj a) QM (F.typeCall_tuple_1 _) MN
  (Es k m ok λf j e l n=>⟨⟨_,kh _ rfl,rfl⟩,h f j e l n⟩) λobj a d=>?_
 exact⟨d.1,MM obj _,object_init_meets QM.init.lookup QM.made (by decide) c w A.in1 _ a ⟨d.1,rfl,d.2⟩⟩
end
section
variable {X:Cx}
def DA:kQ X (.type "range") (λc T Q=> ∃i j,c=[.int i,.int j]/\ ∀r,T r=J->Q (.ref r) (upd T r<|.rng i j)):=by intro a s k T c g Q O r h;obtain⟨i,j,rfl,h⟩:=h;obtain⟨u,f,rfl,⟨t,rfl⟩,⟨d,rfl⟩⟩:=CT r;exact z9 ⟨.ref _,_,O.laid (o:= .rng i j) (λb o e=>jS _ e) (jQ _) ⟨_,_,_,kh _ rfl⟩,rfl,h _ O.fresh⟩
def CM(j:X.calm=U):kQ X (.type "list") (λg T Q=> ∃r lo b,g=[.ref r]/\T r=Y (.rng lo b)/\RgOk lo b/\ ∀l,T l=J->Q (.ref l) (upd T l<|.lst<|rgV lo b)):=by intro f s y T g x Q O i h;obtain⟨r,lo,b,rfl,k,ok,h⟩:=h;obtain⟨u,rfl,n⟩:=qu i;cases n;obtain⟨t,u,v,er⟩:=O.hok r _ k;refine call_list_range (A:=X.A) (O.ok.hd j) er ok.small (JF lo b) ok.2.2.2.2 λp q d c m e a=>?_;have o:=Be a;refine⟨.ref _,_,O.laid m (jQ _) (show ObjOk X.prog X.w _ _ _ (.lst<|rgV lo b) from⟨?_,d.toList,c,o,by simpa using e⟩),rfl,h _ O.fresh⟩;have:=ok.2.2.2.2;simp only[rgV,jz,eK,jI];omega
def BX(m:X.calm=U):kQ X (.type "tuple") (λj T Q=> ∃r lo d,j=[.ref r]/\T r=Y (.rng lo d)/\RgOk lo d/\ ∀l,T l=J->Q (.ref l) (upd T l<|.tup<|rgV lo d)):=by intro f s z T j B Q O k h;obtain⟨r,lo,d,rfl,n,ok,h⟩:=h;obtain⟨u,rfl,q⟩:=qu k;cases q;obtain⟨t,u,v,er⟩:=O.hok r _ n;refine CK (A:=X.A) (O.ok.hd m) er ok λi y c p a=>?_;have x:=Be a;have g:Inv X f z T {s with heap:=i,toks:=y}:=O.kept p;refine⟨.ref _,_,g.laid (λb o e=>jS _ e) (jQ _) (show ObjOk X.prog X.w _ _ _ (.tup<|rgV lo d) from⟨?_,c.toList,x,by have:=AR i c;simpa using this⟩),rfl,h _ g.fresh⟩;have:=ok.2.2.2.2;simp only[rgV,jz,eK,jI];omega
noncomputable def gRg(mk:List D->D)(o:Bool):List D->Option (D×Bool)
 |[.int j]=>if RgOk 0 j then Y (mk<|iX 0 j.toNat,o) else J
 |[.int i,.int j]=>if RgOk i j then Y (mk<|iX i (j-i).toNat,o) else J
 |_=>J
def JG{K T}(lo a:Int):RepL K T O (iX lo (a-lo).toNat) (rgV lo a):=HU lo _
variable {a b:iA}{n m:FO}{p g d f:bC}
def FE(h:upd T r o l=J):T l=J:=by
 by_cases e:l=r
 .subst e;rw[jm] at h;cases h
 .rwa [jk e] at h
def DJ{K:iM}{T q:AP'}{s:L2.St}{r c:Dn}{Q o:Hp}{os:List Opd}{l:List V}{e:List D}(B:Ops K T s r Q os l c o q)(h:xg c os=Y e){is:iu}(hd:e=is.map .int):l=is.map .int:=by
 obtain⟨h1,t⟩:=qc h;apply Ef;intro j;by_cases k:j<Ix is
 .rw[vp B h (j:=j) (i:=is[j])<|by rw[hd];simp[k]];simp[k]
 .have u:=B.len;subst hd;simp at h1;rw[f3<|by lia,f3<|by simp;lia]
def U7{T:String}{z:aW}{mk:List D->D}{o:Bool}(hT:(T="list"/\mk= .lst/\o=Gc)\/(T="tuple"/\mk= .tup/\o=Go))(N:X.calm=Gc)(U:Gl X z)(Y:X.mg z=F2)(hv:aH z=FM (.type T))(hn:z≠"__name__")(m6:(z==("__debug__":aW))=Go)
  (J:Gl X "range")(G:X.mg "range"=F2)(M:PA X [a,b] (tA X.K [n,m]))
  (s1:ac [.Call (.Name "range" g) [a,b] [] f] X.env=(Go,aM (.Call (.Name "range" g) [a,b] [] f) X.env)::ac [] X.env)(s2:ac [a,b] X.env=(Go,aM a X.env)::ac [b] X.env)
  (j1:(aJ d<|ac [] X.env).any (·.1)=Go)(O:(aJ f<|ac [b] X.env).any (·.1)=Go):
  PX X (.Call (.Name z p) [.Call (.Name "range" g) [a,b] [] f] [] d) (ir (gRg mk o) [n,m]):=by
 have t: ∀{w c:Dn} {os:List Opd},kx [n,m] w=FM (os,c)->os.length=2:=λ{w c os} h1=>by unfold kx at h1;obtain⟨p,q1,h1⟩:=hJ h1;obtain⟨q,v,h1⟩:=hJ h1;unfold kx at v;obtain⟨p3,q3,v⟩:=hJ v;obtain⟨q4,F,v⟩:=hJ v;unfold kx at F;cases F;obtain⟨rfl,rfl⟩:=iQ h1;cases v;rfl
 rcases hT with⟨rfl,rfl,rfl⟩|⟨rfl,rfl,rfl⟩
 .refine PX.imp (rJ (CM N) U Y hv (pB (rJ DA J G Em M (by decide) (by decide) s2 O) uP s1) hn m6 s1 j1) λZ H Q C=>?_;obtain⟨w,T,S,L,E,e,k⟩:=C;obtain⟨⟨os,c⟩,h1,e⟩:=hJ e;obtain⟨R,y,e⟩:=hJ e;obtain⟨W,h,e⟩:=hJ e;obtain⟨rfl,rfl⟩:=iQ e;refine⟨w,T,os,c,E,h1,λV x P B=>?_⟩;unfold gRg at h;split at h
  .obtain⟨s,_⟩:=qc y;have:=t h1;simp at s;omega
  .rename_i i j;obtain⟨ok,rfl⟩:=jh h;refine⟨i,j,DJ B y (is:=[i,j]) H8,λr A=>⟨r,i,j,rfl,jm,ok,λl s=>?_⟩⟩;have I: ∀a u,x a=FM u->upd (upd x r<|.rng i j) l (.lst<|rgV i j) a=FM u:=λa u e=>lS s a u<|lS A a u e;exact(B.done k) l _ (FE s) I ⟨rgV i j,jm,JG i j⟩
  .cases h
 .refine PX.imp (rJ (BX N) U Y hv (pB (rJ DA J G Em M (by decide) (by decide) s2 O) uP s1) hn m6 s1 j1) λZ H Q C=>?_;obtain⟨w,T,S,L,E,e,k⟩:=C;obtain⟨⟨os,c⟩,h1,e⟩:=hJ e;obtain⟨R,y,e⟩:=hJ e;obtain⟨W,h,e⟩:=hJ e;obtain⟨rfl,rfl⟩:=iQ e;refine⟨w,T,os,c,E,h1,λV x P B=>?_⟩;unfold gRg at h;split at h
  .obtain⟨s,_⟩:=qc y;have:=t h1;simp at s;omega
  .rename_i i j;obtain⟨ok,rfl⟩:=jh h;refine⟨i,j,DJ B y (is:=[i,j]) H8,λr A=>⟨r,i,j,rfl,jm,ok,λl s=>?_⟩⟩;have I: ∀a u,x a=FM u->upd (upd x r<|.rng i j) l (.tup<|rgV i j) a=FM u:=λa u e=>lS s a u<|lS A a u e;exact(B.done k) _ _ I (Rep.mkTup ⟨jm,B.np<|nOw<|FE s⟩<|JG i j)
  .cases h
end
def Src(h:iO)(a l:hV)(i:Nat)(b:nI):Prop:=(h.IsListIter a l i/\h.IsList l b)\/(h.IsTupleIter a l i/\h.IsTuple l b)
section
variable {prog:iU}{w:iK}{A:iP}{E:jf}{s:il}{it l:hV}{i:Nat}{xs:nI}
def Src.ne(x:Src h it l i xs):l≠it:=by intro e;subst e;rcases x with⟨⟨o,h1,b,a⟩,c,g1,g2,n,g3⟩|⟨⟨o,h1,b,a⟩,c,g1,g2,n,g3⟩<;>(rw[h1] at g1;cases g1;rw[a] at g3;cases g3)
def Src.lt(x:Src h it l i xs):it<h.objs.size/\l<h.objs.size:=by rcases x with⟨⟨o,h1,_⟩,a,g1,_⟩|⟨⟨o,h1,_⟩,a,g1,_⟩<;>exact⟨jl h1,jl g1⟩
def Src.keep(x:Src h it l i xs)(c: ∀o,h.get? it=Y o->h'.get? it=Y o)(d: ∀o,h.get? l=Y o->h'.get? l=Y o):Src h' it l i xs:=by
 rcases x with⟨⟨o,h1,r⟩,a,g1,b⟩|⟨⟨o,h1,r⟩,a,g1,b⟩
 .exact .inl ⟨⟨o,c _ h1,r⟩,a,d _ g1,b⟩
 .exact .inr ⟨⟨o,c _ h1,r⟩,a,d _ g1,b⟩
def CW{Q:jf}(c:s.heap.IsTupleIter it l i)(q:s.heap.IsTuple l xs)(n: ∀x,xs[i]?=Y x-> ∀b,b.IsTupleIter it l (i+1)->aC it s.heap b->Q x {s with heap:=b})
  (g:xs[i]?=J->A.handled=J/\ ∀b e,dW it s.heap b->(∃o,b.get? e=Y o/\o.cls= .type "StopIteration")->E (.ref e) {s with heap:=b}):ae (ag prog w) A (aP<|.ref it) Q E s:=by
 obtain⟨o,d,p,hd⟩:=id c;obtain⟨t,k,_,r,j⟩:=q;unfold aP;refine hU<|ur (name:=ba "__next__") c.typeIs ML<|oM ML c.typeIs F.entry_tuple_iterator_next ?_<|F.args_tuple_iterator_next_1 _;refine hU (m:=gn (.ref it) 0)<|oh d hd (x:= .ref l) I ?_;show ae _ _ (if(bb l==am)=U then _ else _) _ _ s;rw[iL (by show ¬(bb l==am)=U;exact kF)];refine hU (m:=gn (.ref it) 1)<|oh d hd (x:= .int i 0) I ?_;refine hU (m:=seqItems?<|.ref l)<|sj k j ?_
 cases f:xs[i]? with
 |some x=>simp only[uv,f];refine hU<|wK d hd (by simp)<|iq ⟨x,rfl,iq<|n x f _ ⟨_,wa _ d (Eb<|vW hd _),(Ea ..).trans p,?_⟩ (tP ..)⟩;rw[vW hd];simp[cr]
 |none=>
  obtain⟨h,g⟩:=g f;simp only[uv,f];refine hU<|uq<|hU<|wK d hd (by simp) ?_;refine hU (m:=gV (.type "StopIteration") []) ?_;simp -iota only[gV,kS];refine hU<|mT (hU (m:=cF _ _)<|rk (a:=am) (by first|rfl|(simp -iota only[cF];rfl)) ?_) (by size_fits);refine mT ?_ (by size_fits);simp -iota only[u5];refine hU<|He ?_
  first|rw[show A.in1.handled=J from h]|rw[h]
  exact hU<|iq<|Hd<|g _ _ (((tP ..).extBut.push _).push _) ⟨_,kh _ rfl,rfl⟩
def Src.item{x:iC}{Q:jf}(st:Src s.heap it l i xs)(g:xs[i]?=Y x)(h: ∀c,Src c it l (i+1) xs->aC it s.heap c->Q x {s with heap:=c}):
  ae (ag prog w) A (aP<|.ref it) Q E s:=by
 have ne:=st.ne;rcases st with⟨a,b⟩|⟨a,b⟩
 .exact wpAny_nextOf_list_item a b g λc f d=>h c (.inl ⟨f,b.extBut d.extBut ne⟩) d
 .exact CW a b (λj e c f d=>by rw[g] at e;cases e;exact h c (.inr ⟨f,b.extBut d.extBut ne⟩) d) λe=>by rw[g] at e;cases e
def Src.stop{Q:jf}(f:A.handled=J)(st:Src s.heap it l i xs)(g:xs[i]?=J)
  (d: ∀c e,dW it s.heap c->(∃o,c.get? e=Y o/\o.cls= .type "StopIteration")->E (.ref e) {s with heap:=c}):ae (ag prog w) A (aP<|.ref it) Q E s:=by
 rcases st with⟨a,b⟩|⟨a,b⟩
 .exact wpAny_nextOf_list_end f a b g d
 .exact CW a b (λx e=>by rw[g] at e;cases e) λ_=>⟨f,d⟩
def Src.new(a:s.heap.IsList l xs\/s.heap.IsTuple l xs)(d: ∀c,Src c s.heap.objs.size l 0 xs->c.objs.size=s.heap.objs.size+1->(∀b o,s.heap.get? b=Y o->c.get? b=Y o)->Q (.ref s.heap.objs.size) {s with heap:=c}):
  ae (ag prog w) A (c8<|.ref l) Q E s:=by
 rcases a with a|a
 .exact zg a (d _ (.inl ⟨⟨_,kh _ rfl,rfl,rfl⟩,a.push _⟩) (rl ..) λb o e=>jS _ e)
 .exact Hz a (d _ (.inr ⟨⟨_,kh _ rfl,rfl,rfl⟩,a.push _⟩) (rl ..) λb o e=>jS _ e)
end
section
variable {h:iU}{w:iK}{A:iP}{E:jf}{s:il}{e f l:hV}{i:Nat}{c:Int}{j:nI}
def LP{x z:iC}{Q:jf}(he:dX s.heap e f c z)(st:Src s.heap f l i j)(hx:j[i]?=FM x)(j3:e≠f)(dP:e≠l)
  (hQ: ∀T,gx T e f (c+1) x s.heap.objs.size->Src T f l (i+1) j->T.get? s.heap.objs.size=FM {cls:= .type "tuple",data:= .seq #[.int c s.toks,x]}->T.objs.size=s.heap.objs.size+1->
   (∀b o,b≠e->b≠f->s.heap.get? b=FM o->T.get? b=FM o)->Q (.ref s.heap.objs.size) {s with heap:=T,toks:=s.toks+1}):
  ae (ag h w) A (aZ.«enumerate.__next__» ⟨[.ref e],[]⟩) (λfin s'=> ∃v,fin= .done (.ret v)/\Q v s') E s:=by
 obtain⟨I,g,d,n,os⟩:=s;refine hU (m:=gn (.ref e) 2)<|oh he H8 (x:= .ref f) H8<|hU<|st.item hx λk O M=>?_;replace M:aC f I k:=M;have W:dX k e f c z:=(M.2 e j3).trans he;refine hU (m:=gn (.ref e) 3)<|oh (s:=⟨k,g,d,n,os⟩) W H8 (x:=cr c) H8 ?_;refine hU (m:=gn (.ref e) 4)<|oh (s:=⟨k,g,d,n,os⟩) W H8 (x:= .none) H8 ?_;refine hU (m:=mkInt c)<|wpAny_mkInt (s:=⟨k,g,d,n,os⟩) ?_;refine hU (m:=kA (.ref e) 3<|cr<|c+1)<|vV (s:=⟨k,g,d,n+1,os⟩) W (by simp) λr V J=>?_;replace J:aC e k r:=J;replace V:dX r e f (c+1) z:=V;refine hU (m:=kA (.ref e) 4 .none)<|vV (s:=⟨r,g,d,n+1,os⟩) V (by simp) λa S G=>?_;replace G:aC e r a:=G;replace S:dX a e f (c+1) z:=S;refine hU (m:=kS [.int c n,x])<|D9 (s:=⟨a,g,d,n+1,os⟩) ?_;have L:a.objs.size=I.objs.size:=by rw[G.1,J.1,M.1]
 have Y:dX (a.push {cls:= .type "tuple",data:= .seq #[.int c n,x]}) e f (c+1) z:=jS _ S;have X:e<I.objs.size:=jl he;have B:(a.push {cls:= .type "tuple",data:= .seq #[.int c n,x]}).get? I.objs.size=FM {cls:= .type "tuple",data:= .seq #[.int c n,x]}:=by rw[<-L];exact kh _ rfl
 have up: ∀b o,b≠e->b≠f->I.get? b=FM o->(a.push {cls:= .type "tuple",data:= .seq #[.int c n,x]}).get? b=FM o:=λb o H F q=>jS _ (G.extBut b o H<|J.extBut b o H<|M.extBut b o F q);have C:Src (a.push {cls:= .type "tuple",data:= .seq #[.int c n,x]}) f l (i+1) j:=O.keep (λo q=>jS _ (G.extBut _ o j3.symm (J.extBut _ o j3.symm q))) λo q=>jS _ (G.extBut _ o dP.symm (J.extBut _ o dP.symm q));have Z:(a.push {cls:= .type "tuple",data:= .seq #[.int c n,x]}).objs.size=I.objs.size+1:=by rw[rl,L]
 rw[L];generalize (a.push {cls:= .type "tuple",data:= .seq #[.int c n,x]})=p at Y B up C Z;refine hU (m:=bj<|.ref e) ?_;unfold bj;refine hU<|oh (s:=⟨p,g,d,n+1,os⟩) Y H8 (x:= .none) H8<|iq ?_;simp -iota only[kr];refine hU<|uq<|hU<|oh (s:=⟨p,g,d,n+1,os⟩) Y H8 (x:=z) H8<|hU<|vV (s:=⟨p,g,d,n+1,os⟩) Y (by simp) λt R D=>?_;replace D:aC e p t:=D;replace R:dX t e f (c+1) x:=R;refine hU (m:=bi (.ref e)<|.ref I.objs.size) ?_;unfold bi;refine hU<|vV (s:=⟨t,g,d,n+1,os⟩) R (by simp) λu P U=>?_;replace U:aC e t u:=U;replace P:gx u e f (c+1) x I.objs.size:=P;refine vV (s:=⟨u,g,d,n+1,os⟩) P (by simp) λy K N=>?_;replace N:aC e u y:=N;replace K:gx y e f (c+1) x I.objs.size:=K;have all: ∀b o,b≠e->p.get? b=FM o->y.get? b=FM o:=λb o H q=>N.extBut b o H<|U.extBut b o H<|D.extBut b o H q;refine hU<|D8<|iq ⟨_,rfl,hQ y K (C.keep (λo q=>all _ o j3.symm q) λo q=>all _ o dP.symm q) (all _ _ (pT X) B) ?_ λb o H F q=>all b o H<|up b o H F q⟩;rw[N.1,U.1,D.1,Z]
def zy{x m:iC}{Q:CQ}(p:dX s.heap e f c m)(st:Src s.heap f l i j)(t:j[i]?=Y x)(u:e≠f)(q:e≠l)
  (r: ∀g,gx g e f (c+1) x s.heap.objs.size->Src g f l (i+1) j->g.get? s.heap.objs.size=Y {cls:= .type "tuple",data:= .seq #[.int c s.toks,x]}->g.objs.size=s.heap.objs.size+1->
   (∀b o,b≠e->b≠f->s.heap.get? b=Y o->g.get? b=Y o)->Q (Y<|.ref s.heap.objs.size) {s with heap:=g,toks:=s.toks+1}):
  ae (ag h w) A (b6<|.ref e) Q E s:=by
 have n:s.TypeIs (.ref e) "enumerate":=⟨_,p,rfl⟩
 unfold b6
 exact hU (si (ur (name:=ba "__next__") n D7 (oM D7 n MK
  (LP p st t u q λg a b c d k=>iq<|r g a b c d k) (MJ _))))
def Aj{d:iC}{Q:CQ}(r:A.handled=J)(k:dX s.heap e f c d)(st:Src s.heap f l i j)(u:j[i]?=J)
  (p: ∀a,dW f s.heap a->Q J {s with heap:=a}):ae (ag h w) A (b6<|.ref e) Q E s:=by
 have g:s.TypeIs (.ref e) "enumerate":=⟨_,k,rfl⟩
 unfold b6;refine hU<|si<|ur (name:=ba "__next__") g D7<|oM D7 g MK ?_<|MJ _;refine hU (m:=gn (.ref e) 2)<|oh k I (x:= .ref f) I<|hU<|st.stop r u λa x n O=>?_;obtain⟨o,t,q⟩:=O;exact hU<|wJ (T:="StopIteration") (b:=U) ⟨o,t,q⟩ D6<|iq<|p _ n
end
section
variable {X:Cx}{d:ji}{g:L2.St}{H:Hp}{s:il}{f:iO}
def CU{t':Nat}{ch:kH}{a:hV}{o:HO}(N:Inv X d g H s)(j: ∀b∈ch,vh X d H b)(k: ∀b u,b∉ch->s.heap.get? b=Y u->f.get? b=Y u)(p:s.heap.objs.size<=a)(new:ObjOk X.prog X.w (upd H a o) f a o):
  Inv X d g (upd H a o) {s with heap:=f,toks:=t'}:=by
 have L:=N.hok.fresh p;have l: ∀b u,H b=Y u->b∉ch:=λb u e z=>by have:=(j b z).1;rw[this] at e;cases e
 have up: ∀b u,H b=Y u->upd H a o b=Y u:=λb u e=>by rw[jk<|mD e L];exact e
 have M: ∀b u,s.heap.get? b=Y u->H b=J->upd H a o b=J:=λb u e n=>by rw[jk λz=>by subst z;exact absurd (jl e)<|ij.mpr p];exact n
 refine N.step (g':=s.gens) (d':=s.drawn) (ch:=ch) (λb i=>?_) (λb u _ _ h e _=>k b u h e) (λb u _ _ h e _=>⟨u.slots,k b u h e⟩) (λb u _ e n=>M b u e n)
  (λb u h e=>⟨u,k b u h e⟩) (λb Q e=>up b _ e) (λb _ _ e=>up b _ e) (λb T e=>⟨#[],by rw[up b _ e];simp⟩) (λm E=>?_) (λb u e=>?_) N.bare
 .obtain⟨_,f1,f2,y,A,B⟩:=j b i;exact⟨y,f1,A,B⟩
 .obtain⟨u,x,t,O,r⟩:=E;exact⟨u,x,t,k _ u (λz=>(j _ z).2.1 I) O,r⟩
 .by_cases i:b=a
  .subst i;rw[jm] at e;cases e;exact new
  .rw[jk i] at e;refine(N.hok b u e).stay (λc v h q=>k c v ?_ q) (λc q=>up c _ q) (λc Q q=>up c _ q) λc _ _ q=>up c _ q;rcases h with z|z
   .rw[z];exact l b u e
   .exact l c _ z
def CV{t':Nat}{ch:kH}(T:Inv X d g H s)(h: ∀b∈ch,vh X d H b)(k: ∀b u,b∉ch->s.heap.get? b=Y u->f.get? b=Y u):Inv X d g H {s with heap:=f,toks:=t'}:=by
 have i: ∀b u,H b=Y u->b∉ch:=λb u e z=>by have:=(h b z).1;rw[this] at e;cases e
 refine T.step (g':=s.gens) (d':=s.drawn) (ch:=ch) (λb w=>?_) (λb u _ _ a e _=>k b u a e) (λb u _ _ a e _=>⟨u.slots,k b u a e⟩) (λb u _ e n=>n)
  (λb u a e=>⟨u,k b u a e⟩) (λb A e=>e) (λb _ _ e=>e) (λb B e=>⟨#[],by rw[e];simp⟩) (λm x=>?_) (λb u e=>?_) T.bare
 .obtain⟨_,f1,f2,o,p,t⟩:=h b w;exact⟨o,f1,p,t⟩
 .obtain⟨u,l,j,y,r⟩:=x;exact⟨u,l,j,k _ u (λz=>(h _ z).2.1 I) y,r⟩
 .refine(T.hok b u e).stay (λc v a q=>k c v ?_ q) (λc q=>q) λc A q=>q;rcases a with z|z
  .rw[z];exact i b u e
  .exact i c _ z
end
def SqX(b:Bool)(K:iM)(T:Hp)(l:hV)(a:List V):Prop:=if b=U then SqL K T l a else SqT K T l a
def ItX(b:Bool)(h:iO)(a l:hV)(i:Nat):Prop:=if b=U then h.IsListIter a l i else h.IsTupleIter a l i
def ItX.keep(x:ItX b h it l i)(k: ∀o,h.get? it=Y o->h'.get? it=Y o):ItX b h' it l i:=by
 cases b
 .exact PySem.Heap.IsTupleIter.at (show h.IsTupleIter it l i from x) k
 .exact PySem.Heap.IsListIter.at (show h.IsListIter it l i from x) k
def ItX.obj(x:ItX b h it l i): ∃o,h.get? it=Y o/\ ∀v,o.data≠ .cell v:=by
 cases b<;>(obtain⟨o,e,c,d⟩:=x;exact⟨o,e,λv z=>by rw[d] at z;cases z⟩)
section
variable {X:Cx}{d:ji}{e:L2.St}{H:Hp}{s:il}
def vt(T:Inv X d e H s)(q:SqX b X.K H l xs)(t:ItX b s.heap it l i): ∃a,Vals xs a/\Src s.heap it l i a.toArray:=by
 cases b with
 |true=>obtain⟨a,v,p,_⟩:=T.list q;exact⟨a,v,.inl ⟨t,p.isList⟩⟩
 |false=>obtain⟨a,v,p,_⟩:=T.tuple q;exact⟨a,v,.inr ⟨t,p⟩⟩
def Ey(T:Inv X d e H s)(q:SqX b X.K H l xs)(a:SqX b X.K H l c):xs=c:=by
 cases b with
 |true=>exact T.list_inj q a
 |false=>exact T.tuple_inj q a
def IC(t:ItX b h it l i)(m:Src h it l i xs)(j:Src k it l p xs)(n: ∀o,h.get? l=Y o->k.get? l=Y o):ItX b k it l p:=by
 cases b with
 |true=>
  rcases j with⟨a,_⟩|⟨a,c⟩
  .exact a
  .rcases m with⟨_,o,h1,f,_⟩|⟨⟨o,h1,f,_⟩,_⟩
   .obtain⟨g,g1,g2,_⟩:=c;rw[n _ h1] at g1;cases g1;rw[f] at g2;injection g2 with g2;exact absurd g2 (by decide)
   .obtain⟨g,g1,g2,_⟩:=t;rw[h1] at g1;cases g1;rw[f] at g2;injection g2 with g2;exact absurd g2 (by decide)
 |false=>
  rcases j with⟨a,c⟩|⟨a,_⟩
  .rcases m with⟨⟨o,h1,f,_⟩,_⟩|⟨_,o,h1,f,_⟩
   .obtain⟨g,g1,g2,_⟩:=t;rw[h1] at g1;cases g1;rw[f] at g2;injection g2 with g2;exact absurd g2 (by decide)
   .obtain⟨g,g1,g2,_⟩:=c;rw[n _ h1] at g1;cases g1;rw[f] at g2;injection g2 with g2;exact absurd g2 (by decide)
  .exact a
end
noncomputable def ItE(b:Bool)(K:iM)(l:hV)(c:Int):It:=⟨λi Q=> ∃a x,SqX b K Q l a/\a[i]?=Y x,
 λi Q x d=> ∃(T:hV) (y:V),x= .ref T/\Q T=J/\d=upd Q T (.tup [.int<|c+i,y])/\ ∀a,SqX b K Q l a->a[i]?=Y y,λi Q=> ∃a,SqX b K Q l a/\(Ix a)<=i⟩
def KH{P:iU}{w:iK}{K:iM}{p:kn}{k1}{pos:bC}(b:Bool)(e j l:hV)(c:Int)(j3:e≠j):
  Turn P w K (.Tuple p k1 pos) (ItE b K l c) [e,j] e (λi h=>(∃d,dX h e j (c+i) d)/\ItX b h j l i) where
 mem:=by simp
 obj:=λi h st a L=>by
  obtain⟨⟨d,g⟩,st⟩:=st;have p8:a=e\/a=j:=by simpa using L
  rcases p8 with rfl|rfl
  .exact⟨_,g,λv z=>by have z':f5 _=eS v:=z;cases z'⟩
  .exact st.obj
 keep:=λi h h' st k=>by obtain⟨⟨d,g⟩,st⟩:=st;exact⟨⟨d,k e (by simp) _ g⟩,st.keep λo q=>k j (by simp) o q⟩
 item:=by
  intro X M U J V i m s σ H E I y st N;subst M U J;obtain⟨⟨d,g⟩,st⟩:=st;obtain⟨xs,x,O,Y⟩:=N;obtain⟨D,F,f⟩:=vt I O st;obtain⟨u,hu,ru⟩:=F.get Y
  have G:e≠l:=λz=>by subst z;have W:=(y e<|by simp).1;rcases f with⟨_,o,h1,C',_⟩|⟨_,o,h1,C',_⟩<;>(have R:s.heap.get? e=_:=g;rw[h1] at R;cases R;injection C' with C';exact absurd C'<|by decide)
  refine zy g f (x:=u) (by simpa using hu) j3 G λh' ho A hT hsz kp=>⟨.ref s.heap.objs.size,rfl,?_⟩
  refine wpAny_letOwnedTupleGo_enum ho λn r T=>?_;have t:e<s.heap.objs.size:=jl g
  have S: ∀a o,a∉[e,j]->s.heap.get? a=FM o->n.get? a=FM o:=λa o Q q=>by have Z:a≠e:=λz=>Q (by simp[z]);have n2:a≠j:=λz=>Q (by simp[z]);exact T.extBut a o Z<|kp a o Z n2 q
  have cQ:n.get? s.heap.objs.size=FM {cls:= .type "tuple",data:= .seq #[.int (c+i) s.toks,u]}:=T.extBut _ _ (pT t) hT
  have I1:Inv X m σ (upd H s.heap.objs.size<|.tup [.int<|c+i,x]) {s with heap:=n,toks:=s.toks+1}:=
   CU I y S (jQ _) (show ObjOk X.prog X.w _ _ _ (.tup [.int<|c+i,x]) from⟨by show 2<=sizeLine;decide,[.int (c+i) s.toks,u],.cons ⟨_,rfl⟩<|.cons ru .nil,_,cQ,rfl,0,rfl⟩)
  have B:ItX b n j l (i+1):=by refine IC st f (A.keep (λo q=>T.extBut _ o j3.symm q) λo q=>T.extBut _ o G.symm q) λo q=>S l o ?_ q;have:=f.ne;simp only[ku,ll,lY,pk];exact⟨G.symm,this⟩
  refine⟨.ref s.heap.objs.size,_,I1,rfl,⟨_,x,rfl,I.fresh,rfl,λys hy=>by rw[Ey I hy O];exact Y⟩,⟨⟨u,?_⟩,B⟩,λa L=>?_⟩
  .have e1:c+((i+1:Nat):Int)=c+i+1:=by lia
   show dX n e j (c+((i+1:Nat):Int)) u;rw[e1];exact r
  .have W:=(y a L).1;rw[jk]
   .exact W
   .intro z;have l4:a=e\/a=j:=by simpa using L
    rcases l4 with rfl|rfl
    .exact absurd z (jG t)
    .exact absurd z (jG f.lt.1)
 done:=by intro X M U J V i m s σ H E I y st N;subst M U J;obtain⟨⟨d,g⟩,st⟩:=st;obtain⟨xs,O,Y⟩:=N;obtain⟨D,F,f⟩:=vt I O st;have hl:=F.length;exact Aj (I.ok.hd V) g f (by simp;lia) λh' eb=>⟨rfl,CV (t':=s.toks) I y λa o Q q=>eb a o (λz=>Q<|by simp[z]) q⟩
 self:=λ_ _ _ _ _ st h=>by obtain⟨⟨d,g⟩,_⟩:=st;exact n7 g h
def A7{K T}(q:SqA b K T P a xs):SqX b K T a xs:=by
 cases b with
 |true=>exact q.l
 |false=>exact q.t
def LC{K:iM}{P O:AP'}{h:Hp}{a:hV}{g:List V}{l:List D}{b:Bool}{c:Int}(q:SqA b K h P a g)(r:RepL K h O l g)(A: ∀a,P a->O a):
  ItOk K (ItE b K a c) (l.zipIdx.map λp=> .tup [.int<|c+p.2,p.1]) P O h:=by
 have sq: ∀Hi,(∀a o,h a=Y o-> ¬P a->Hi a=Y o)->SqX b K Hi a g:=λHi f=>A7<|q.mono f λ_ z=>z;refine⟨λi d Hi hd f=>?_,λi Hi C f=>⟨g,sq Hi f,by rw[r.length];simpa using C⟩⟩;rw[mv] at hd;obtain⟨⟨Q,j⟩,h1,u⟩:=jB hd;rw[Hg] at h1;obtain⟨G,v,w⟩:=jB h1;obtain⟨rfl,rfl⟩:=sy w;obtain⟨x,s,N⟩:=r.get v;refine⟨⟨g,x,sq Hi f,s⟩,λy M E=>?_⟩;obtain⟨T,z,rfl,m,rfl,k⟩:=E;have k:=k g<|sq Hi f;rw[s] at k;cases k;have ext:=lS (o:= .tup [.int<|c+i,x]) m;refine⟨ext,λL h1 t=>?_⟩;subst u;refine Rep.mkTup ⟨jm,t T m⟩<|RepL.cons ?_<|RepL.cons (Rep.mono (λb o e n=>ext b o<|f b o e λz=>n<|A b z) (λb B z=>h1 b B z) N) RepL.nil;simp only[uA];exact Rep.mkInt
open AutoSeq1 (wpAny_loadPart')
section
variable {f:iU}{w:iK}{A:iP}{E:jf}{s:il}
def V5{T a:String}{self:iC}{rz:jN}{kw:List (aW×iC)}(g:fM (.type T) "__init__"=pure (Y<|.builtin "object.__init__"))(h:Bind.madeBy (.type T)=pure (Y a))(i:(Y a !=Y "object.__new__")=U):
  fV (aZ.«object.__init__» ⟨self::rz,kw⟩) (λ_ R s=>s.TypeIs self T/\R (.ok<|.ret .none) s):=by
 refine Meets.of_wp λf w A R s d=>?_;obtain⟨e,c⟩:=d;by_cases b:(!rz.isEmpty||!kw.isEmpty)=U
 .unfold aZ.«object.__init__»;simp only[b,kr]
  repeat (any_goals (first|assumption|wp_step))
  exact⟨_,rfl,c⟩
 .unfold aZ.«object.__init__»;simp only[b,kb];exact iq ⟨_,rfl,c⟩
def Jj{T b:String}{t:aZ}{a:jN}{kw:List (aW×iC)}{S:PySem.Spec}{Q:jf}(i:TypeCalled T b "object.__init__")(N:(Y b !=Y "object.__new__")=U)(M:wP T ⟨a,kw⟩=pure ())
  (n:dN b ⟨.type T::a,kw⟩=pure ())(p: ∀obj,fQ "object.__init__" ⟨obj::a,kw⟩)(j:fP n8 b=Y t)(g:fV (t ⟨.type T::a,kw⟩) S)
  (h:S A.in1 (uu (λobj d=>d.TypeIs obj T/\Q obj d) E) s):ae (ag f w) A (call (.type T) a kw) Q E s:=by
 obtain⟨c,J,v⟩:=i.mro;have o:=i.made;have G:=i.sub;refine na<|yY ?_;show ae _ _ (callAny (.type T) _) _ _ _;refine iq ⟨Code.quiet_builtin _ (by decide+kernel),qq F.entry_type_call ?_⟩;rw[f8 (MI T a kw)<|units_type_call_type T a kw];have h1:=i.notType;have O:=i.canCreate
 repeat (any_goals (first|assumption|wp_step))
 refine we (Hc i.plain j<|rk n<|g f w A.in1 _ s h) λr d q=>?_
 cases r with
 |error e=>exact q
 |ok y=>
  cases y with
  |ret obj=>
   obtain⟨u,x⟩:=q;have I:=i.init.lookup;have L:=i.init.bind obj
   repeat (any_goals (first|assumption|wp_step))
   have B:=V5 (self:=obj) (rz:=a) (kw:=kw) i.init.lookup i.made N;refine we (Hc i.init.plain MN<|i.init.check _ _ _ _ _ _ _ _ u (p obj) (B f w A.in1 (uu (λr k=>r= .none/\Q obj k) E) d ⟨u,rfl,x⟩)) λl k m=>?_
   cases l with
   |error e=>exact m
   |ok z=>
    cases z with
    |ret r=>
     obtain⟨rfl,x⟩:=m
     repeat (any_goals (first|assumption|wp_step))
    |_=>exact m.elim
  |_=>exact q.elim
def Fh(a b:iC):wP "enumerate" ⟨[a],[("start",b)]⟩=pure ():=by kernel_rfl
def GD(a b:iC):dN "enumerate.__new__" ⟨[.type "enumerate",a],[("start",b)]⟩=pure ():=by kernel_rfl
def Fi(o a b:iC):fQ "object.__init__" ⟨[o,a],[("start",b)]⟩:=by unfold fQ;rw[signature?_of (id:="object.__init__") (n:=['_','_','t','i','n','i','_','_']) (o:=['t','c','e','j','b','o']) (by kernel_rfl) F.owner_object];kernel_rfl
noncomputable def qF(a:hV)(c:Int):Obj:={cls:= .type "enumerate",data:= .fields #[.none,.bool C,.ref a,cr c,.none,.none]}
def LO(l:hV)(i:nI):fV (aZ.«enumerate.__new__» ⟨[.type "enumerate",.ref l],[]⟩) (λ_ R s=>(s.heap.IsList l i\/s.heap.IsTuple l i)/\
  ∀e,Src e s.heap.objs.size l 0 i->e.objs.size=s.heap.objs.size+1->(∀b o,s.heap.get? b=Y o->e.get? b=Y o)->R (.ok<|.ret<|.ref e.objs.size) {s with heap:=e.push (qF s.heap.objs.size 0)}):=
 .of_wp λf w A R s h=>by
  obtain⟨k,g,d,n,os⟩:=s;obtain⟨j,h⟩:=h;have m:=wr
  wp_walk
  refine sf λst=>iq ?_;split
  .rename_i c _ _ _ _ _;cases(c==bx "enumerate")<;>(wp_walk using Src.new j;intro e a b c;wp_walk;exact⟨_,rfl,h e a b c⟩)
  .wp_walk using Src.new j
   intro e a b c
   wp_walk
   exact⟨_,rfl,h e a b c⟩
def LN(l:hV)(i:nI)(c:Int)(t:nL)(k:bh c=U):fV (aZ.«enumerate.__new__» ⟨[.type "enumerate",.ref l],[("start",.int c t)]⟩) (λ_ R s=>(s.heap.IsList l i\/s.heap.IsTuple l i)/\
  ∀e,Src e s.heap.objs.size l 0 i->e.objs.size=s.heap.objs.size+1->(∀b o,s.heap.get? b=Y o->e.get? b=Y o)->R (.ok<|.ret<|.ref e.objs.size) {s with heap:=e.push (qF s.heap.objs.size c)}):=
 .of_wp λf w A R s h=>by
  obtain⟨m,g,d,p,os⟩:=s;obtain⟨j,h⟩:=h;have n:=wr
  wp_walk
  refine sf λst=>iq ?_;split
  .rename_i c _ _ _ _ _;cases(c==bx "enumerate")<;>(wp_walk using Src.new j;intro e a b c;wp_walk;exact⟨_,rfl,h e a b c⟩)
  .wp_walk using Src.new j
   intro e a b c
   wp_walk
   exact⟨_,rfl,h e a b c⟩
def Jh(e:s.heap.IsList l xs\/s.heap.IsTuple l xs)
  (h: ∀d,Src d s.heap.objs.size l 0 xs->d.objs.size=s.heap.objs.size+1->(∀b o,s.heap.get? b=Y o->d.get? b=Y o)->Q (.ref d.objs.size) {s with heap:=d.push (qF s.heap.objs.size 0)}):
  ae (ag f w) A (call (.type "enumerate") [.ref l]) Q E s:=
 At F.called_enumerate (by decide) (F.typeCall_enumerate_1 _) (F.newCall_enumerate_1 _) (λobj=>MM obj _) MH (LO l xs) ⟨e,λd a b c=>⟨⟨_,kh _ rfl,rfl⟩,h d a b c⟩⟩
def Jg(g:s.heap.IsList l xs\/s.heap.IsTuple l xs)(e:bh c=U)
  (h: ∀d,Src d s.heap.objs.size l 0 xs->d.objs.size=s.heap.objs.size+1->(∀b o,s.heap.get? b=Y o->d.get? b=Y o)->Q (.ref d.objs.size) {s with heap:=d.push (qF s.heap.objs.size c)}):
  ae (ag f w) A (call (.type "enumerate") [.ref l] [("start",.int c t)]) Q E s:=
 Jj F.called_enumerate (by decide) (Fh _ _) (GD _ _) (λobj=>Fi obj _ _) MH (LN l xs c t e) ⟨g,λd a b c=>⟨⟨_,kh _ rfl,rfl⟩,h d a b c⟩⟩
end
section
variable {X:Cx}{g:ji}{i:L2.St}{H:Hp}{s:il}{m:kn}{y:Nat}{n:bC}
def Ki{R:It->Hp->Prop}{E:jf}{b:Bool}{l:hV}{L:List V}{j:jN}{h':iO}{c:Int}(T:Inv X g i H s)(t:SqX b X.K H l L)(k:Src h' s.heap.objs.size l 0 j.toArray)(h:h'.objs.size=s.heap.objs.size+1)
  (z: ∀b o,s.heap.get? b=Y o->h'.get? b=Y o)(r:R (ItE b X.K l c) H):ae (ag X.prog X.w) X.A (c8<|.ref h'.objs.size) (PIE X g i (.Tuple m y n) R) E {s with heap:=h'.push (qF s.heap.objs.size c)}:=by
 have q:dX (h'.push<|qF s.heap.objs.size c) h'.objs.size s.heap.objs.size c .none:=kh _ rfl;refine n7 q ?_;have d:Inv X g i H {s with heap:=h'.push (qF s.heap.objs.size c)}:=T.kept (t':=s.toks) λb o e=>jS _ (z b o e);have x:h'.objs.size≠s.heap.objs.size:=by rw[h];exact Nat.succ_ne_self _
 refine⟨h'.objs.size,[h'.objs.size,s.heap.objs.size],_,_,H,rfl,d,KH b h'.objs.size s.heap.objs.size l c x,⟨⟨.none,by simpa using q⟩,?_⟩,λa v=>?_,r⟩
 .have u:=k.keep (h':=h'.push<|qF s.heap.objs.size c) (λo e=>jS _ e) (λo e=>jS _ e)
  cases b with
  |true=>
   rcases u with⟨a,_⟩|⟨_,o,h1,f,_⟩
   .exact a
   .obtain⟨_,_,p,_⟩:=d.list t;obtain⟨Q,g1,g2,_⟩:=p.isList;rw[h1] at g1;cases g1;rw[f] at g2;injection g2 with g2;exact absurd g2 (by decide)
  |false=>
   rcases u with⟨_,o,h1,f,_⟩|⟨a,_⟩
   .obtain⟨_,_,p,_⟩:=d.tuple t;obtain⟨Q,g1,g2,_⟩:=p;rw[h1] at g1;cases g1;rw[f] at g2;injection g2 with g2;exact absurd g2 (by decide)
   .exact a
 .have B:a=h'.objs.size\/a=s.heap.objs.size:=by simpa using v
  rcases B with rfl|rfl
  .exact T.fpOk (by rw[h];exact zc _) (T.hok.fresh<|by rw[h];exact zc _)
  .exact T.fpOk (jQ _) (T.hok.fresh<|jQ _)
def PD(K:iM)(c:Int)(d:TA):TI:=λi H R=>d i H λe a=> ∃b l f,e=[.ref l]/\SqX b K a l f/\R (ItE b K l c) a
def Ex(T:Inv X g i H s)(q:SqX b X.K H l xs): ∃a,Vals xs a/\(s.heap.IsList l a.toArray\/s.heap.IsTuple l a.toArray):=by
 cases b with
 |true=>obtain⟨a,v,p,_⟩:=T.list q;exact⟨a,v,.inl p.isList⟩
 |false=>obtain⟨a,v,p,_⟩:=T.tuple q;exact⟨a,v,.inr p⟩
def Ku:aH "enumerate"=Y (.type "enumerate"):=by decide+kernel
def N7{a:iA}{j:TA}{p c:bC}(o:Gl X "enumerate")(t:X.mg "enumerate"=J)(k:PA X [a] j)(v:ac [a] X.env=[(C,aM a X.env)]):PI X (.Tuple m y n) (.Call (.Name "enumerate" p) [a] [] c) (PD X.K 0 j):=by intro g s i H R T h;refine Call_<|qV T o t Ku<|AU (thn (k c g s i H _ T h) λL s1 M=>?_) v I;obtain⟨O,N,e,A,b,l,Q,hv,f,q⟩:=M;subst hv;obtain⟨u,rfl,B⟩:=qu A;cases B;obtain⟨x,_,r⟩:=Ex e f;exact Jh r λE d w z=>Ki e f d w z q
def Aq{M:gw}{A:iP}{E:jf}{s:il}{b:eO}{c:bC}{T:String}{e:iA}{j:List cf}{Q:jf}
  (h:ae M A (zx<|aJ c<|ac [e] b) (λw d=>ae M A (evalAll ((ck c<|bq j b).map (·.2))) (λo f=>ae M A (call (.type T) w (((ck c<|bq j b).filterMap (·.1)).zip o)) Q E f) E d) E s)
  (u:aJ c (ac [e] b)=(C,aM e b)::aJ c (ac [] b))(q:(aJ c<|ac [e] b).any (·.1)=C)(p:(ck c<|bq j b).all (·.1.isSome)=U)(l:(ck c<|bq j b).any (·.1.isNone)=C):
  ae M A (callWith c (.type T) [] (aJ c<|ac [e] b)<|ck c<|bq j b) Q E s:=by
 have t:ae M A (evalArgs (.type T) U (aJ c<|ac [e] b)<|ck c<|bq j b) (λa d=>ae M A (call (.type T) ([]++a.pos) a.kw) Q E d) E s:=by rw[u] at h ⊢;exact evalArgs_kwB p h
 unfold callWith;refine hU<|lZ<|pU t (λa d k=>hU<|wR ?_) λ_ _ x=>x;simp only[q,l,fH];exact hU<|iq<|hU<|pU k (λr f v=>hU<|lZ<|wpAny_point<|iq v) λ_ _ x=>x
def N6{a:iA}{r:TA}{p d U e:bC}{c:Int}{z:Nat}(Q:Gl X "enumerate")(G:X.mg "enumerate"=J)(E:PA X [a] r)(L:bh c=Gc)
  (O:aJ d (ac [a] X.env)=(C,aM a X.env)::aJ d (ac [] X.env))(B:(aJ d<|ac [a] X.env).any (·.1)=C):
  PI X (.Tuple m y n) (.Call (.Name "enumerate" p) [a] [⟨Y "start",.Constant (.int c) z U,e⟩] d) (PD X.K c r):=by
 intro g s i H R I h;refine zf<|qV I Q G Ku<|Aq (thn (E d g s i H _ I h) λus s1 a'=>?_) O B H8 H8;obtain⟨vs,j,A,Y',b,l,xs,hv,o,q⟩:=a';subst hv;obtain⟨u,rfl,D⟩:=qu Y';cases D;refine kws_cons<|thn (Of g s1 i j (λv w=>v= .int c/\w=j) A ⟨rfl,rfl⟩) λv s2 ⟨x,H2,k,rx,J',C'⟩=>kws_nil ?_;subst J';subst C';obtain⟨t,rfl⟩:=rx;obtain⟨N,_,T⟩:=Ex k o;exact Jg T L λF f M e=>Ki k o f M e q
noncomputable def xo(c:Int)(f:F):FIt:=λa=>(f a).bind λp=>match p.1.1 with
 | .tup l=>Y (l.zipIdx.map λq=> .tup [.int<|c+q.2,q.1],p.2)
 | .lst l=>Y (l.zipIdx.map λq=> .tup [.int<|c+q.2,q.1],p.2)
 |_=>J
def Sd{K:iM}{T:AP'}{i:L2.St}{d c:Dn}{H:Hp}{r:D×Bool}{f:F}{Q:List V->Hp->Prop}(E:ER K H T i d)(h:f d=Y (r,c))(k: ∀v l,Keep i d H c l->ER K l T i c->Rep K l (λa=>OwnA i c a\/T a) r.1 v->Q [v] l):tA K [hG f] i H Q:=by
 refine⟨d,T,[.val r],c,E,?_,λu o w B=>?_⟩
 .show((hG f d).bind λp=>(kx [] p.2).bind λq=>Y (p.1::q.1,q.2))=_;simp only[hG,h,fL,kx]
 .have t:=B.len;rcases u with _|⟨v,_|⟨_,_⟩⟩<;>try cases t
  exact k v o B.keep (B.er.mono (λ_ _ e _=>e) (λb _ z=>B.tt b z) λa z=>B.er.dom a<|B.tt a z)<|B.rep E (j:=0) I I
def GF{K:iM}{B:SB}{c:Int}{f:F}{i:L2.St}{H:Hp}{R:It->Hp->Prop}(N:tI K B (xo c f) i H R):PD K c (tA K [hG f]) i H R:=by
 obtain⟨O,T,x,t,E,e,k⟩:=N;obtain⟨⟨⟨d,o⟩,j⟩,h1,e⟩:=hJ e;refine Sd E h1 λv p w u L=>?_
 have h: ∀{l},tV d=Y l->Y (l.zipIdx.map λq=>D.tup [.int<|c+q.2,q.1],j)=Y (x,t)-> ∃b a r,[v]=[V.ref a]/\SqX b K p a r/\R (ItE b K a c) p:=λA e=>by obtain⟨rfl,rfl⟩:=iQ e;obtain⟨a,r,rfl,q,Q⟩:=C2 A L;have q:=q.mono (λ_ _ e _=>e) (P':=OwB B T i j) λa z=>z.own;exact⟨_,a,r,rfl,A7 q,k _ p w u (LC q Q λa z=>z.own)⟩
 cases d with
 |tup l=>exact h I e
 |lst l=>exact h I e
 |_=>cases e
def Lf{B:SB}{a:iA}{f:F}{p b:bC}(d:Gl X "enumerate")(e:X.mg "enumerate"=J)(c:PX X a f)(h:ac [a] X.env=[(C,aM a X.env)])(s0:ac [a] X.env=(C,aM a X.env)::ac [] X.env):
  PIX X B (.Tuple m y n) (.Call (.Name "enumerate" p) [a] [] b) (xo 0 f):=PI.imp' (N7 d e (rK (PX.po c) xZ s0) h) λi H R j=>GF j
def Le{B:SB}{a:iA}{f:F}{p b r q:bC}{c:Int}{z:Nat}(k:Gl X "enumerate")(l:X.mg "enumerate"=J)(e:PX X a f)(h:bh c=U)(s0:ac [a] X.env=(C,aM a X.env)::ac [] X.env)
  (j:aJ b (ac [a] X.env)=(C,aM a X.env)::aJ b (ac [] X.env))(d:(aJ b<|ac [a] X.env).any (·.1)=C):
  PIX X B (.Tuple m y n) (.Call (.Name "enumerate" p) [a] [⟨Y "start",.Constant (.int c) z r,q⟩] b) (xo c f):=PI.imp' (N6 k l (rK (PX.po e) xZ s0) h j d) λi H R o=>GF o
end
section
variable {j:iU}{w:iK}{A:iP}{E:jf}{s:il}{z TI TO f d n l:hV}{k:Nat}{i g:nI}{x y a b:iC}
def Uv{Q:jf}(D:k7 z TI TO f d n l)(hz:eh s.heap z TI TO .none)(x6:cv s.heap TI (.ref f) (.ref d))(aq:cv s.heap TO a b)(h1:Src s.heap f n k i)(h2:Src s.heap d l k g)
  (hQ: ∀x y,i[k]?=Y x->g[k]?=Y y-> ∀G,eh G z TI TO (cr s.heap.objs.size)->cv G TO x y->Src G f n (k+1) i->Src G d l (k+1) g->cv G s.heap.objs.size x y->(∀c o,c≠z->c≠TO->c≠f->c≠d->s.heap.get? c=Y o->G.get? c=Y o)->Q (.ref s.heap.objs.size) {s with heap:=G})
  (hE:i[k]?=F2\/g[k]?=F2->A.handled=F2/\ ∀G e,(∀c o,c≠z->c≠TO->c≠f->c≠d->s.heap.get? c=Y o->G.get? c=Y o)->(∃o,G.get? e=Y o/\o.cls= .type "StopIteration")->E (.ref e) {s with heap:=G}):
  ae (ag j w) A (aZ.«zip.__next__» ⟨[.ref z],[]⟩) (λfin s'=> ∃v,fin= .done (.ret v)/\Q v s') E s:=by
 have L: ∀{h:iO} {e:hV} {oe:en} {f0:iC},eh h z TI TO f0->h.get? e=Y oe->oe.cls= .type "StopIteration"->e≠z:=λhzz cC bK q=>by subst q;have R:_=_:=hzz;rw[cC] at R;cases R;injection bK with bK;exact absurd bK (by decide)
 refine hU (m:=gn (.ref z) 2)<|oh hz H8 (x:= .bool Go) H8<|hU (m:=gn (.ref z) 3)<|oh hz H8 (x:= .ref TI) H8<|hU<|sj x6 H8<|hU (m:=bj<|.ref z) ?_;unfold bj;refine hU<|oh hz H8 (x:= .none) H8<|iq ?_;simp -iota only[kr];refine hU<|uq<|hU<|oh hz H8 (x:= .ref TO) H8<|hU<|vV hz (by simp) λH dI K=>?_;replace dI:eh H z TI TO .ellipsis:=dI;refine hU ?_;simp -iota only[js,List.zipIdx_nil,dJ,mL];have c1:Src H f n k i:=h1.keep (λo e=>K.extBut _ o D.i1z e) λo e=>K.extBut _ o D.l1z e
 cases hx:i[k]? with
 |none=>obtain⟨hh,hE⟩:=hE<|.inl hx;refine hU<|hU<|D5<|hU (m:=aP<|.ref f)<|c1.stop (s:={s with heap:=H}) hh hx λr e Y' a'=>?_;obtain⟨oe,cC,bK⟩:=a';have M:eh r z TI TO .ellipsis:=Y' _ _ D.i1z.symm dI;exact vV (s:={s with heap:=r}) M (by simp) λt _ T=>hE t e (λc o O _ d3 _ q=>T.extBut _ _ O (Y' _ _ d3 (K.extBut _ _ O q))) ⟨oe,T.extBut _ _ (L M cC bK) cC,bK⟩
 |some x=>
  refine hU<|hU<|D5<|hU (m:=aP<|.ref f)<|c1.item (s:={s with heap:=H}) hx λr V Y'=>iq ?_;have B:cv r TO a b:=Y'.extBut _ _ D.TOi1 (K.extBut _ _ D.TOz aq);refine hU<|sj (s:={s with heap:=r}) B H8<|hU<|MF (s:={s with heap:=r}) B λt cP T=>hU<|D8<|iq ?_;replace cP:cv t TO x b:=cP;have c2:Src t d l k g:=h2.keep (λo e=>T.extBut _ o D.TOi2.symm (Y'.extBut _ o D.i12.symm (K.extBut _ o D.i2z e))) λo e=>T.extBut _ o D.l2TO (Y'.extBut _ o D.l2i1 (K.extBut _ o D.l2z e))
  cases hy:g[k]? with
  |none=>obtain⟨hh,hE⟩:=hE<|.inr hy;refine hU<|hU<|D5<|hU (m:=aP<|.ref d)<|c2.stop (s:={s with heap:=t}) hh hy λu e br a'=>?_;obtain⟨oe,cC,bK⟩:=a';have dH:eh u z TI TO .ellipsis:=br _ _ D.i2z.symm (T.extBut _ _ D.TOz.symm (Y'.extBut _ _ D.i1z.symm dI));exact vV (s:={s with heap:=u}) dH (by simp) λp _ F=>hE p e (λc o O d2 d3 d4 q=>F.extBut _ _ O (br _ _ d4 (T.extBut _ _ d2 (Y'.extBut _ _ d3 (K.extBut _ _ O q))))) ⟨oe,F.extBut _ _ (L dH cC bK) cC,bK⟩
  |some y=>
   refine hU<|hU<|D5<|hU (m:=aP<|.ref d)<|c2.item (s:={s with heap:=t}) hy λu X br=>iq ?_;have C:cv u TO x b:=br.extBut _ _ D.TOi2 cP;refine hU<|sj (s:={s with heap:=u}) C H8<|hU<|MF (s:={s with heap:=u}) C λp bL F=>hU<|D8<|iq<|iq ?_;replace bL:cv p TO x y:=bL;refine hU<|sj (s:={s with heap:=p}) bL H8<|hU<|D9 (s:={s with heap:=p}) ?_;have hsz:p.objs.size=s.heap.objs.size:=by rw[F.1,br.1,T.1,Y'.1,K.1]
   have N:eh p z TI TO .ellipsis:=F.extBut _ _ D.TOz.symm (br.extBut _ _ D.i2z.symm (T.extBut _ _ D.TOz.symm (Y'.extBut _ _ D.i1z.symm dI)));have hk₅: ∀c o,c≠z->c≠TO->c≠f->c≠d->s.heap.get? c=Y o->p.get? c=Y o:=λc o O d2 d3 d4 e=>F.extBut _ _ d2 (br.extBut _ _ d4 (T.extBut _ _ d2 (Y'.extBut _ _ d3 (K.extBut _ _ O e))));have W:Src p f n (k+1) i:=V.keep (λo e=>F.extBut _ o D.TOi1.symm (br.extBut _ o D.i12 (T.extBut _ o D.TOi1.symm e))) λo e=>F.extBut _ o D.l1TO (br.extBut _ o D.l1i2 (T.extBut _ o D.l1TO e));have Z:Src p d l (k+1) g:=X.keep (λo e=>F.extBut _ o D.TOi2.symm e) λo e=>F.extBut _ o D.l2TO e;have P:z<p.objs.size:=jl N;refine hU (m:=bi (.ref z)<|.ref p.objs.size) ?_;unfold bi;have hz₆:eh (p.push {cls:= .type "tuple",data:= .seq #[x,y]}) z TI TO .ellipsis:=jS _ N;refine hU<|vV (s:={s with heap:=p.push {cls:= .type "tuple",data:= .seq #[x,y]}}) hz₆ (by simp) λS fN bY=>?_;replace fN:eh S z TI TO (cr p.objs.size):=fN;refine vV (s:={s with heap:=S}) fN (by simp) λI eR U=>?_;replace eR:eh I z TI TO (cr p.objs.size):=eR;have up: ∀c o,c≠z->p.get? c=Y o->I.get? c=Y o:=λc o O e=>U.extBut _ _ O (bY.extBut _ _ O (jS _ e));have J:cv I p.objs.size x y:=U.extBut _ _ (pT P) (bY.extBut _ _ (pT P) (kh _ rfl));rw[hsz] at eR J;refine iq ⟨_,rfl,?_⟩;show Q (.ref p.objs.size) _;rw[hsz];exact hQ x y hx hy I eR (up _ _ D.TOz bL) (W.keep (λo e=>up _ o D.i1z e) λo e=>up _ o D.l1z e) (Z.keep (λo e=>up _ o D.i2z e) λo e=>up _ o D.l2z e) J λc o O d2 d3 d4 e=>up c o O<|hk₅ c o O d2 d3 d4 e
def Bg{Q:CQ}(D:k7 z TI TO f d n l)(t:eh s.heap z TI TO .none)(M:cv s.heap TI (.ref f) (.ref d))(I:cv s.heap TO a b)(h1:Src s.heap f n k i)(L:Src s.heap d l k g)
  (O: ∀x y,i[k]?=Y x->g[k]?=Y y-> ∀h,eh h z TI TO (cr s.heap.objs.size)->cv h TO x y->Src h f n (k+1) i->Src h d l (k+1) g->cv h s.heap.objs.size x y->(∀c o,c≠z->c≠TO->c≠f->c≠d->s.heap.get? c=Y o->h.get? c=Y o)->Q (Y<|.ref s.heap.objs.size) {s with heap:=h})
  (m:i[k]?=J\/g[k]?=J->A.handled=J/\ ∀h,(∀c o,c≠z->c≠TO->c≠f->c≠d->s.heap.get? c=Y o->h.get? c=Y o)->Q J {s with heap:=h}):
  ae (ag j w) A (b6<|.ref z) Q E s:=by
 have p:s.TypeIs (.ref z) "zip":=⟨_,t,rfl⟩
 unfold b6
 exact hU (si (ur (name:=ba "__next__") p F.slot_zip_next (oM F.slot_zip_next p F.entry_zip_next
  (Uv D t M I h1 L (λx y q r h a1 u v B C N=>iq<|O x y q r h a1 u v B C N) λq=>⟨(m q).1,λh e hk ⟨o,J',G⟩=>hU<|wJ (T:="StopIteration") (b:=U) ⟨o,J',G⟩ D6<|iq<|(m q).2 _ hk⟩) (F.args_zip_next_1 _))))
end
def QR(j c:hV)(l i:nI):fV (aZ.«zip.__new__» ⟨[.type "zip",.ref j,.ref c],[]⟩) (λ_ R s=>(s.heap.IsList j l\/s.heap.IsTuple j l)/\(s.heap.IsList c i\/s.heap.IsTuple c i)/\
  ∀h1 a,Src h1 s.heap.objs.size j 0 l->h1.objs.size=s.heap.objs.size+1->(∀b o,s.heap.get? b=Y o->h1.get? b=Y o)->Src a h1.objs.size c 0 i->a.objs.size=h1.objs.size+1->(∀b o,h1.get? b=Y o->a.get? b=Y o)->
   R (.ok<|.ret<|.ref ((a.push {cls:= .type "tuple",data:= .seq #[.ref s.heap.objs.size,.ref h1.objs.size]}).push {cls:= .type "tuple",data:= .seq #[.none,.none]}).objs.size)
    {s with heap:=((a.push {cls:= .type "tuple",data:= .seq #[.ref s.heap.objs.size,.ref h1.objs.size]}).push {cls:= .type "tuple",data:= .seq #[.none,.none]}).push {cls:= .type "zip",data:= .fields #[.none,.bool C,.bool C,.ref a.objs.size,.ref (a.push {cls:= .type "tuple",data:= .seq #[.ref s.heap.objs.size,.ref h1.objs.size]}).objs.size]}}):=
 .of_wp λm w A R s h=>by
  obtain⟨y,g,d,x,os⟩:=s;obtain⟨v,u,h⟩:=h;have z:=sub_zip
  wp_walk using Src.new v
  intro h1 a1 n k
  have f:h1.IsList c i\/h1.IsTuple c i:=by
   rcases u with⟨o,e,r⟩|⟨o,e,r⟩
   .exact .inl ⟨o,k _ _ e,r⟩
   .exact .inr ⟨o,k _ _ e,r⟩
  wp_walk using Src.new (s:=⟨h1,g,d,x,os⟩) f
  intro a p q t
  wp_walk
  exact⟨_,rfl,h h1 a a1 n k p q t⟩
noncomputable def ItZ(c d:Bool)(K:iM)(e f:hV):It:=⟨λi Q=> ∃a b x y,SqX c K Q e a/\SqX d K Q f b/\a[i]?=Y x/\b[i]?=Y y,
 λi Q x g=> ∃(T:hV) (u v:V),x= .ref T/\Q T=J/\g=upd Q T (.tup [u,v])/\ ∀a b,SqX c K Q e a->SqX d K Q f b->a[i]?=Y u/\b[i]?=Y v,
 λi Q=> ∃a b,SqX c K Q e a/\SqX d K Q f b/\(Ix a<=i\/(Ix b)<=i)⟩
structure ZA(z TI TO i1 i2:hV):Prop where
 a1:TI≠z
 a2:TO≠z
 a3:i1≠z
 a4:i2≠z
 a5:TI≠TO
 a6:TI≠i1
 a7:TI≠i2
 a8:TO≠i1
 a9:TO≠i2
 a10:i1≠i2
def xR{b:Bool}{K:iM}{T:Hp}{l:hV}{m:List V}{X:Cx}{c:ji}{p:L2.St}{s:il}(Q:Inv X c p T s)(k:X.K=K)(q:SqX b K T l m){h:kH}(i: ∀a∈h,vh X c T a):l∉h:=by
 subst k;intro j;have d:=(i l j).1
 have base: ∀o,X.K.lookup l=Y o->False:=λo e=>by
  have g:=Q.mod.kin l o e;rcases(i l j).2.2.2.1 with z|z
  .exact Q.ok.noex l o g z
  .have:=(Q.ok.bs l o g).1;exact absurd (jl this)<|ij.mpr z
 cases b with
 |true=>
  rcases q with(q|⟨o,q⟩)|⟨o,f,n,e,_⟩
  .rw[d] at q;cases q
  .rw[d] at q;cases q
  .exact base o e
 |false=>
  rcases q with(q|⟨o,q⟩)|⟨o,f,n,e,_⟩
  .rw[d] at q;cases q
  .rw[d] at q;cases q
  .exact base o e
def M6{P:iU}{w:iK}{K:iM}{Y:kn}{k1}{pos:bC}(b1 b2:Bool)(z TI TO m n J M:hV)(D:ZA z TI TO m n):
  Turn P w K (.Tuple Y k1 pos) (ItZ b1 b2 K J M) [z,TI,TO,m,n] z (λi h=>eh h z TI TO .none/\cv h TI (.ref m) (.ref n)/\(∃a b,cv h TO a b)/\ItX b1 h m J i/\ItX b2 h n M i) where
 mem:=by simp
 obj:=λi h st a G=>by
  obtain⟨l,p,⟨u,v,t⟩,s1,C⟩:=st;simp only[ku,ll,lY] at G;rcases G with rfl|rfl|rfl|rfl|rfl
  .exact⟨_,l,λv e=>by have U:f5 _=eS v:=e;cases U⟩
  .exact⟨_,p,λv e=>by have U:mm _ _=eS v:=e;cases U⟩
  .exact⟨_,t,λv e=>by have U:mm _ _=eS v:=e;cases U⟩
  .exact s1.obj
  .exact C.obj
 keep:=λi h h' st k=>by obtain⟨l,p,⟨u,v,t⟩,s1,C⟩:=st;exact⟨k z (by simp) _ l,k TI (by simp) _ p,⟨u,v,k TO (by simp) _ t⟩,s1.keep λo q=>k m (by simp) o q,C.keep λo q=>k n (by simp) o q⟩
 item:=by
  intro X hP hw L hc i B s σ H E I A st hg;obtain⟨l,p,⟨a0,b0,t⟩,s1,C⟩:=st;obtain⟨xs,ys,x,y,T,Q,hx,hy⟩:=hg;have d:=xR I L T A;have f:=xR I L Q A;simp only[ku,ll,lY,pk] at d f;subst hP hw L;obtain⟨cg,fE,S⟩:=vt I T s1;obtain⟨b8,Z,N⟩:=vt I Q C;obtain⟨u,hu,ru⟩:=fE.get hx;obtain⟨v,hv,rv⟩:=Z.get hy;have AP:k7 z TI TO m n J M:=⟨D.a1,D.a2,D.a3,D.a4,D.a5,D.a6,D.a7,D.a8,D.a9,D.a10,d.1,d.2.2.1,d.2.2.2.1,d.2.2.2.2,f.1,f.2.2.1,f.2.2.2.1,f.2.2.2.2⟩
  refine Bg AP l p t S N (λx' y' q r h' z' t1 c1 c2 hT V=>?_) λq=>absurd q (by simp[hu,hv]);obtain rfl:u=x':=by simpa[hu] using q
  obtain rfl:v=y':=by simpa[hv] using r
  refine⟨.ref s.heap.objs.size,rfl,?_⟩;refine wpAny_letOwnedTupleGo_zip (s:={s with heap:=h'}) z' λO z'' j=>?_;replace j:aC z h' O:=j
  have W: ∀a o,a∉[z,TI,TO,m,n]->s.heap.get? a=FM o->O.get? a=FM o:=λa o g q=>by simp only[ku,ll,lY,pk] at g;exact j.extBut a o g.1<|V a o g.1 g.2.2.1 g.2.2.2.1 g.2.2.2.2 q
  have lt: ∀{c o},s.heap.get? c=FM o->s.heap.objs.size≠c:=λe=>pT<|jl e;have cQ:cv O s.heap.objs.size u v:=j.extBut _ _ (lt l) hT
  have I1:Inv X B σ (upd H s.heap.objs.size<|.tup [x,y]) {s with heap:=O}:=
   CU (t':=s.toks) I A W (jQ _) (show ObjOk X.prog X.w _ _ _ (.tup [x,y]) from⟨by show 2<=sizeLine;decide,[u,v],.cons ru<|.cons rv .nil,_,cQ,rfl,0,rfl⟩)
  have F:ItX b1 O m J (i+1):=IC s1 S (c1.keep (λo q=>j.extBut _ o D.a3 q) λo q=>j.extBut _ o d.1 q) λo q=>W J o (by simp only[ku,ll,lY,pk];exact d) q;have R:ItX b2 O n M (i+1):=IC C N (c2.keep (λo q=>j.extBut _ o D.a4 q) λo q=>j.extBut _ o f.1 q) λo q=>W M o (by simp only[ku,ll,lY,pk];exact f) q;refine⟨.ref s.heap.objs.size,_,I1,rfl,⟨_,x,y,rfl,I.fresh,rfl,λbN ys' q1 q2=>by rw[Ey I q1 T,Ey I q2 Q];exact⟨hx,hy⟩⟩,⟨z'',j.extBut _ _ D.a1 (V _ _ D.a1 D.a5 D.a6 D.a7 p),⟨u,v,j.extBut _ _ D.a2 t1⟩,F,R⟩,λa G=>?_⟩;have n0:=(A a G).1;rw[jk]
  .exact n0
  .intro e;simp only[ku,ll,lY] at G;rcases G with rfl|rfl|rfl|rfl|rfl
   .exact lt l e.symm
   .exact lt p e.symm
   .exact lt t e.symm
   .exact absurd e (jG S.lt.1)
   .exact absurd e (jG N.lt.1)
 done:=by
  intro X hP hw L hc i B s σ H E I A st hg;obtain⟨l,p,⟨a0,b0,t⟩,s1,C⟩:=st;obtain⟨xs,ys,T,Q,hend⟩:=hg;have d:=xR I L T A;have f:=xR I L Q A;simp only[ku,ll,lY,pk] at d f;subst hP hw L;obtain⟨cg,fE,S⟩:=vt I T s1;obtain⟨b8,Z,N⟩:=vt I Q C;have e1:=fE.length;have e2:=Z.length;have AP:k7 z TI TO m n J M:=⟨D.a1,D.a2,D.a3,D.a4,D.a5,D.a6,D.a7,D.a8,D.a9,D.a10,d.1,d.2.2.1,d.2.2.2.1,d.2.2.2.2,f.1,f.2.2.1,f.2.2.2.1,f.2.2.2.2⟩
  refine Bg AP l p t S N (λx y q r=>?_) λ_=>⟨I.ok.hd hc,λh' V=>⟨rfl,CV (t':=s.toks) I A λa o g q=>?_⟩⟩
  .have z1:=(L8.mp q).1;have z2:=(L8.mp r).1;simp at z1 z2;omega
  simp only[ku,ll,lY,pk] at g;exact V a o g.1 g.2.2.1 g.2.2.2.1 g.2.2.2.2 q
 self:=λ_ _ _ _ _ st h=>pf st.1 h
def Pr{K:iM}{P O:AP'}{g:Hp}{a1 r:hV}{f h:List V}{A B:List D}{s t:Bool}(l:SqA s K g P a1 f)(L:RepL K g O A f)(m:SqA t K g P r h)(Q:RepL K g O B h)(C: ∀a,P a->O a):
  ItOk K (ItZ s t K a1 r) ((A.zip B).map λp=> .tup [p.1,p.2]) P O g:=by
 have sq: ∀{b:Bool} {a:hV} {f:List V},SqA b K g P a f-> ∀Hi,(∀a o,g a=FM o-> ¬P a->Hi a=FM o)->SqX b K Hi a f:=λq Hi c=>A7<|q.mono c λ_ z=>z;refine⟨λi d Hi hd c=>?_,λi Hi U c=>⟨f,h,sq l Hi c,sq m Hi c,by rw[L.length,Q.length];simp at U;lia⟩⟩;rw[mv] at hd;obtain⟨⟨X,Z⟩,h1,J⟩:=jB hd;obtain⟨M,N⟩:=Fs.mp h1;obtain⟨x,H,F⟩:=L.get M;obtain⟨y,I,R⟩:=Q.get N;refine⟨⟨f,h,x,y,sq l Hi c,sq m Hi c,H,I⟩,λv S k=>?_⟩;obtain⟨T,u,w,rfl,E,rfl,Y⟩:=k;obtain⟨g1,g2⟩:=Y f h (sq l Hi c)<|sq m Hi c;rw[H] at g1;cases g1;rw[I] at g2;cases g2;have ext:=lS (o:= .tup [x,y]) E;refine⟨ext,λW h1 G=>?_⟩;subst J;exact Rep.mkTup ⟨jm,G T E⟩<|RepL.cons (Rep.mono (λb o e n=>ext b o<|c b o e λz=>n<|C b z) (λb j z=>h1 b j z) F)<|RepL.cons (Rep.mono (λb o e n=>ext b o<|c b o e λz=>n<|C b z) (λb j z=>h1 b j z) R) RepL.nil
section
variable {X:Cx}{d:kn}{n:Nat}{r:bC}
def Wq:aH "zip"=Y (.type "zip"):=by decide+kernel
def ZK(K:iM)(g:TA):TI:=λk T R=>g k T λh a=> ∃e f b c i j,h=[.ref b,.ref c]/\SqX e K a b i/\SqX f K a c j/\R (ItZ e f K b c) a
def Kc(Q:Inv X pins σ T s)(f:SqX b X.K T l xs)(c:Src s.heap it l i g):ItX b s.heap it l i:=by
 cases b with
 |true=>
  rcases c with⟨a,_⟩|⟨_,o,h1,e,_⟩
  .exact a
  .obtain⟨_,_,p,_⟩:=Q.list f;obtain⟨h,g1,g2,_⟩:=p.isList;rw[h1] at g1;cases g1;rw[e] at g2;injection g2 with g2;exact absurd g2 (by decide)
 |false=>
  rcases c with⟨_,o,h1,e,_⟩|⟨a,_⟩
  .obtain⟨_,_,p,_⟩:=Q.tuple f;obtain⟨h,g1,g2,_⟩:=p;rw[h1] at g1;cases g1;rw[e] at g2;injection g2 with g2;exact absurd g2 (by decide)
  .exact a
def Vx{a b:iA}{J:TA}{p l:bC}(hg:Gl X "zip")(hm:X.mg "zip"=F2)(A:PA X [a,b] J)(hs:ac [a,b] X.env=(Go,aM a X.env)::ac [b] X.env)(j1:(aJ l<|ac [b] X.env).any (·.1)=Go):
  PI X (.Tuple d n r) (.Call (.Name "zip" p) [a,b] [] l) (ZK X.K J):=by
 intro j s0 M N R L h;refine zf<|qV L hg hm Wq<|AU (thn (A l j s0 M N _ L h) λus s a'=>?_) hs j1;obtain⟨vs,H',I',r1,Y',b2,T,G,xs,ys,hv,Q,O,q⟩:=a';subst hv;obtain⟨u,v,rfl,ru,rv⟩:=CT r1;cases ru;cases rv;obtain⟨Z,_,S⟩:=Ex I' Q;obtain⟨D,_,P⟩:=Ex I' O;refine At F.called_zip (by decide) (F.typeCall_zip_2 _ _) (F.newCall_zip_2 _ _) (λobj=>F.args_object_init_3 obj _ _) F.entry_zip_new (QR T G Z.toArray D.toArray) ⟨S,P,λh1 f V k n W i E=>?_⟩;generalize t:({cls:= .type "tuple",data:= .seq #[.ref s.heap.objs.size,.ref h1.objs.size]}:en)=g;generalize w:({cls:= .type "tuple",data:= .seq #[.none,.none]}:en)=o4;have m:(f.push g).objs.size=f.objs.size+1:=rl ..;have z:((f.push g).push o4).objs.size=f.objs.size+2:=by rw[rl,m]
 generalize x:({cls:= .type "zip",data:= .fields #[.none,.bool Go,.bool Go,.ref f.objs.size,.ref (f.push g).objs.size]}:en)=o5;have g5:(((f.push g).push o4).push o5).get? ((f.push g).push o4).objs.size=Y o5:=kh _ (by rw[<-x];rfl);have g4:(((f.push g).push o4).push o5).get? (f.push g).objs.size=Y o4:=jS _ (kh _ (by rw[<-w];rfl));have g3:(((f.push g).push o4).push o5).get? f.objs.size=Y g:=jS _ (jS _ (kh _ (by rw[<-t];rfl)));have y: ∀c o,f.get? c=Y o->(((f.push g).push o4).push o5).get? c=Y o:=λc o e=>jS _ (jS _ (jS _ e));have C:eh (((f.push g).push o4).push o5) ((f.push g).push o4).objs.size f.objs.size (f.push g).objs.size .none:=by show _=_;rw[g5,<-x]
 have x6:cv (((f.push g).push o4).push o5) f.objs.size (.ref s.heap.objs.size) (.ref h1.objs.size):=by show _=_;rw[g3,<-t]
 have U:cv (((f.push g).push o4).push o5) (f.push g).objs.size .none .none:=by show _=_;rw[g4,<-w]
 have B:Inv X j M H' {s with heap:=((f.push g).push o4).push o5}:=I'.kept (t':=s.toks) λc o e=>y c o<|E c o<|n c o e;have d1:=V.keep (h':=((f.push g).push o4).push o5) (λo e=>y _ o (E _ o e)) λo e=>y _ o (E _ o e);have d2:=W.keep (h':=((f.push g).push o4).push o5) (λo e=>y _ o e) λo e=>y _ o e;refine⟨⟨_,C,rfl⟩,pf (s:={s with heap:=((f.push g).push o4).push o5}) C ?_⟩;refine⟨((f.push g).push o4).objs.size,[((f.push g).push o4).objs.size,f.objs.size,(f.push g).objs.size,s.heap.objs.size,h1.objs.size],_,_,H',rfl,B,M6 Y' b2 _ _ _ _ _ T G ⟨?_,?_,?_,?_,?_,?_,?_,?_,?_,?_⟩,⟨C,x6,⟨_,_,U⟩,Kc B Q d1,Kc B O d2⟩,λa A=>?_,q⟩
 .rw[z];exact jG<|Nat.lt_add_of_pos_right (by decide)
 .rw[z,m];exact jG<|sv _
 .rw[z,i,k];exact jG (by
   have:s.heap.objs.size<s.heap.objs.size+1+1+2:=by lia
   exact this)
 .rw[z,i];exact jG (by
   have:h1.objs.size<h1.objs.size+1+2:=by lia
   exact this)
 .rw[m];exact jG<|sv _
 .rw[i,k];exact pT (by
   have:s.heap.objs.size<s.heap.objs.size+1+1:=by lia
   exact this)
 .rw[i];exact pT<|sv _
 .rw[m,i,k];exact pT (by
   have:s.heap.objs.size<s.heap.objs.size+1+1+1:=by lia
   exact this)
 .rw[m,i];exact pT (by
   have:h1.objs.size<h1.objs.size+1+1:=by lia
   exact this)
 .rw[k];exact jG<|sv _
 .have le:s.heap.objs.size<=a:=by
   simp only[ku,ll,lY] at A;rcases A with rfl|rfl|rfl|rfl|rfl
   .rw[z,i,k];have:s.heap.objs.size<=s.heap.objs.size+1+1+2:=by lia
    exact this
   .rw[i,k];have:s.heap.objs.size<=s.heap.objs.size+1+1:=by lia
    exact this
   .rw[m,i,k];have:s.heap.objs.size<=s.heap.objs.size+1+1+1:=by lia
    exact this
   .exact jQ _
   .rw[k];exact zc _
  exact I'.fpOk le<|I'.hok.fresh le
noncomputable def ID(f g:FO):FIt:=λa=>(f a).bind λp=>(g p.2).bind λq=>(res q.2 p.1).bind λx=>(res q.2 q.1).bind λy=>(tV x).bind λl=>(tV y).bind λm=>Y ((l.zip m).map λp=> .tup [p.1,p.2],q.2)
noncomputable def Ad(f g:F):FIt:=λδ=>(f δ).bind λp=>(g p.2).bind λq=>(tV p.1.1).bind λl=>(tV q.1.1).bind λm=>Y ((l.zip m).map λp=> .tup [p.1,p.2],q.2)
def N0{B:SB}{a b:iA}{f g:FO}{p c:bC}(hg:Gl X "zip")(hm:X.mg "zip"=F2)(Y:PO X a f)(hb:PO X b g)(I:SlB B f)(L:SlB B g)(w:ac [a,b] X.env=(Go,aM a X.env)::ac [b] X.env)(G:ac [b] X.env=(Go,aM b X.env)::ac [] X.env)(j1:(aJ c<|ac [b] X.env).any (·.1)=Go):
  PIX X B (.Tuple d n r) (.Call (.Name "zip" p) [a,b] [] c) (ID f g):=PI.imp' (Vx hg hm (rK Y (rK hb xZ G) w) w j1) λσ H R F=>by
 obtain⟨δ,T,ds,δ',E,e,k⟩:=F;obtain⟨⟨K,δ1⟩,h1,e⟩:=hJ e;obtain⟨⟨P,t⟩,h,e⟩:=hJ e;obtain⟨x,J,e⟩:=hJ e;obtain⟨y,M,e⟩:=hJ e;obtain⟨l,N,e⟩:=hJ e;obtain⟨m,U,e⟩:=hJ e;obtain⟨rfl,rfl⟩:=iQ e;dsimp only at h;refine⟨δ,T,[K,P],t,E,?_,λS O T1 W=>?_⟩
 .simp only[kx,h1,h,fL]
 .have D:=W.len;rcases S with _|⟨v,_|⟨u,_|⟨_,_⟩⟩⟩<;>try cases D
  .obtain⟨a1,V,rfl,A,q⟩:=W.seq E (j:=0) H8 H8 J N λi o=>I _ _ _ (o▸h1);obtain⟨Q,Z,rfl,C,s⟩:=W.seq E (j:=1) H8 H8 M U λi o=>L _ _ _ (o▸h);exact⟨_,_,a1,Q,V,Z,rfl,A7 A,A7 C,k _ O W.keep (W.er.mono (λ_ _ e _=>e) (λb _ z=>W.tt b z) λa z=>W.er.dom a<|W.tt a z) (Pr A q C s λa z=>z.own)⟩
def RT{B:SB}{a b:iA}{f g:F}{p c:bC}(j:Gl X "zip")(k:X.mg "zip"=J)(h:PX X a f)(i:PX X b g)(l:ac [a,b] X.env=(C,aM a X.env)::ac [b] X.env)(e:ac [b] X.env=(C,aM b X.env)::ac [] X.env)(o:(aJ c<|ac [b] X.env).any (·.1)=C):
  PIX X B (.Tuple d n r) (.Call (.Name "zip" p) [a,b] [] c) (Ad f g):=PI.imp' (N0 (B:=B) j k (PX.po h) (PX.po i) EA EA l e o) λs T R m=>by
 have:Ad f g=ID (hG f) (hG g):=funext λq=>by
  unfold Ad ID hG
  cases f q with
  |none=>rfl
  |some p=>simp only[fL];cases g p.2<;>rfl
 rwa [this] at m
end
end PX
namespace TS
open PySem PyProof.Rows
def Ask(M:gw)(A:iP)(G:il->Prop)(a:Nat->ei)(e:l3)(N:Nat)(lt:Nat->Nat->Bool):Prop:= ∀i j,i<N->j<N-> ∀s,G s-> ∀c,ae M A (wf e (a i).1 (a j).1) (λb d=>G d/\b=lt i j) c s
structure Cs where
 M:gw
 A:iP
 E:iC->il->Prop
 G:il->Prop
 it:Nat->ei
 lt:Nat->Nat->Bool
 κ:l3
 N:Nat
 as: ∀i j,lt i j=Gc->lt j i=Go
 tr: ∀{i j k},lt j i=Go->lt k j=Go->lt k i=Go
 ask:Ask M A G it κ N lt
section
variable {X:Cs}{α β:Type}{f:α->StateT ui dF β}{Q:β->ui->Prop}{st:ui}
def wp(X:Cs){α:Type}(m:StateT ui dF α)(Q:α->ui->Prop)(st:ui):Prop:= ∀s,X.G s->ae X.M X.A (m.run st) (λr a=>X.G a/\Q r.1 r.2) X.E s
def iw{a:β}(h:Q a st):wp X (pure a) Q st:=λs g=>by rw[Hb];exact iq ⟨g,h⟩
def kz{m:StateT ui dF α}(h:wp X m (λa c=>wp X (f a) Q c) st):wp X (m>>=f) Q st:=λs g=>by rw[StateT.run_bind];exact hU<|pU (h s g) (λr d b=>b.2 d b.1) λ_ _ e=>e
def Js{m:StateT ui dF α}{Q b:α->ui->Prop}(h:wp X m Q st)(i: ∀a c,Q a c->b a c):wp X m b st:=λs g=>pU (h s g) (λr _ d=>⟨d.1,i _ _ d.2⟩) λ_ _ e=>e
def jg{c:Prop}[Decidable c]{t e:StateT ui dF β}(h1:c->wp X t Q st)(a: ¬c->wp X e Q st):wp X (if c then t else e) Q st:=by split<;>simp_all
def pV{f:ui->StateT ui dF β}(h:wp X (f st) Q st):wp X (get>>=f) Q st:=kz λs g=>by rw[StateT.run_get];exact iq ⟨g,h⟩
def wV{g:ui->ui}{f:PUnit->StateT ui dF β}(h:wp X (f ⟨⟩) Q (g st)):wp X (modify g>>=f) Q st:=kz λs g=>by rw[StateT.run_modify];exact iq ⟨g,h⟩
def Jt{m:dF α}(h: ∀s,X.G s->ae X.M X.A m (λa b=>X.G b/\wp X (f a) Q st) X.E s):wp X (liftM m>>=f) Q st:=kz λs g=>by show ae X.M X.A ((StateT.lift m:StateT ui dF α).run st) _ X.E s;rw[StateT.run_lift];exact hU<|pU (h s g) (λa b c=>iq c) λ_ _ e=>e
def vn{x:String}{f:Unit->StateT ui dF β}(h:wp X (f ()) Q st):wp X (liftM (rule x)>>=f) Q st:=Jt λs g=>uq ⟨g,h⟩
def QY{e:Nat}{g:Nat->α->StateT ui dF (ForInStep α)}{T:Nat->α->ui->Prop}{O:α->ui->Prop}
  (m: ∀i c st,i<e->T i c st->wp X (g i c) (λr b=>match r with| .done d=>O d b| .yield d=>T (i+1) d b) st)(l: ∀c st,T e c st->O c st):
  ∀(n a:Nat) (c:α) (st:ui),a+n=e->T a c st->wp X (forIn (bU a n 1) c g) O st:=by
 intro p
 induction p with
 |zero=>intro a c st rfl h;exact iw<|l _ _ h
 |succ n o=>
  intro a c st q h;rw[AL,dJ];refine kz<|Js (m a c st (by lia) h) λr b k=>?_
  cases r with
  |done j=>exact iw k
  |yield j=>exact o _ j b (by lia) k
def mV{g:Nat->α->StateT ui dF (ForInStep α)}(T:Nat->α->ui->Prop)(O:α->ui->Prop){a b:Nat}{c:α}(h:T a c st)
  (l: ∀i c st,i<a+(b-a)->T i c st->wp X (g i c) (λr e=>match r with| .done d=>O d e| .yield d=>T (i+1) d e) st)
  (j: ∀c st,T (a+(b-a)) c st->O c st)(k: ∀c st,O c st->wp X (f c) Q st):wp X (forIn [a:b] c g>>=f) Q st:=by
 refine kz<|Js ?_ k;rw[Std.Legacy.Range.forIn_eq_forIn_range'];exact QY l j _ _ _ _ (by simp[Std.Legacy.Range.size]) h
noncomputable abbrev ar(X:Cs)(l:ky):Array Keyed:=(l.map X.it).toArray
def mC{l:ky}{i x:Nat}{f:ei->StateT ui dF β}(e:l[i]?=Y x)(h:wp X (f<|X.it x) Q st):wp X (elem' (ar X l) i>>=f) Q st:=kz (by rw[elem'_eq,show(ar X l)[i]?=Y (X.it x) by simp[e]];exact iw h)
def Fw{i j:Nat}{f:Option Bool->StateT ui dF β}(hk:kindOf st=X.κ)(k:i<X.N)(l:j<X.N)(h: ∀b,X.lt i j=b->wp X (f<|Y b) Q st):wp X (lt' (X.it i) (X.it j)>>=f) Q st:=kz (by rw[lt'_eq];refine pV ?_;rw[hk];refine Jt λs g=>si<|pU (X.ask i j k l s g λ_ _=>False) (λb m c=>?_) λe m d=>d.elim;obtain⟨a,rfl⟩:=c;exact⟨a,iw<|h _ rfl⟩)
structure Rp(X:Cs)(q:Array (Nat×Nat×Nat))(L:ky)(st:ui):Prop where
 a:eU st=ar X L
 k:kindOf st=X.κ
 f:fq st=F2
 q:pendingOf st=q
 p:L.Perm (aj X.N)
def Rp.n{q:Array (Nat×Nat×Nat)}{L:ky}(R:Rp X q L st){i x:Nat}(e:L[i]?=Y x):x<X.N:=by simpa using R.p.mem_iff.mp<|nK e
def Fx{q:Array (Nat×Nat×Nat)}{L:ky}(R:Rp X q L st){i j x y:Nat}{f:Option Bool->StateT ui dF β}(c:L[i]?=Y x)(d:L[j]?=Y y)(h: ∀b,X.lt x y=b->wp X (f<|Y b) Q st):wp X (ltAt' i j>>=f) Q st:=kz (by rw[ltAt'_eq];refine pV ?_;rw[R.a];exact mC c<|mC d<|by rw[<-bind_pure (lt' _ _)];exact Fw R.k (R.n c) (R.n d) λb e=>iw<|h b e)
def Gg{α:Type}(T A R:List α){d:Nat}(hd:d=(Ix A) / 2):mirror (T++(A++R)).toArray (Ix T) (Ix T+Ix A) d=(T++(A.reverse++R)).toArray:=by
 have hd:d=(Ix T+Ix A-Ix T) / 2:=by lia
 subst hd;apply Array.ext_getElem?;intro k;rw[getElem?_mirror_all<|by simp];simp only[List.getElem?_toArray];by_cases h1:k<Ix T
 .rw[iL<|by lia,wd h1,wd h1]
 .obtain⟨k,rfl⟩:=Nat.exists_eq_add_of_le<|l7 h1;rw[rn (by lia) (l₂:=A.reverse++R),Ha];by_cases a:k<Ix A
  .rw[iF<|by lia,rn<|by lia,wd<|by lia,wd<|by simpa using a,List.getElem?_reverse a]
   congr 1;lia
  .rw[iL<|by lia,rn<|by lia,Ha,rn<|by lia,rn<|by simpa using a,AK]
def GQ{α:Type}(R:List α)(x:α): ∀(A T:List α) {i:Nat},i=Ix T+Ix A->bubble (T++(A++x::R)).toArray i (Ix A)=(T++(x::(A++R))).toArray:=by
 intro c
 induction c with
 |nil=>intro T i h;exact I
 |cons a A b=>
  intro T i h;have:=b (T++[a]) (i:=i) (by simp at h ⊢;lia);rw[kI,bubble_succ,show T++(a::A++x::R)=T++[a]++(A++x::R) by simp,this];have e:i-Ix A=Ix T+1:=by simp at h;lia
  rw[e,io];simp[Array.swapIfInBounds]
variable {q:Array (Nat×Nat×Nat)}{T A R:ky}{i j x:Nat}
def MW{b:CP}{L a:ky}(S:Rp X q L st)(e:b=ar X a)(p:a.Perm L):Rp X q a (setArr st b):=⟨e,S.k,S.f,S.q,p.trans S.p⟩
def HF{f:Unit->StateT ui dF β}(S:Rp X q (T++(A++R)) st)(c:i=Ix T)(e:j=Ix T+Ix A)(h: ∀b,Rp X q (T++(A.reverse++R)) b->wp X (f ()) Q b):wp X (y9 i j>>=f) Q st:=by rw[reverseSlice'_eq];subst c e;refine wV<|h _ (MW S ?_<|((AJ A).append_right R).append_left T);have:=Gg (T.map X.it) (A.map X.it) (R.map X.it) (d:=(Ix T+Ix A-Ix T) / 2) (by simp);simpa[ar,S.a] using this
def Ux{f:Unit->StateT ui dF β}(S:Rp X q (T++(A++x::R)) st)(c:i=Ix T+Ix A)(d:j=Ix T)(h: ∀b,Rp X q (T++(x::(A++R))) b->wp X (f ()) Q b):wp X (moveDown' i j>>=f) Q st:=by rw[moveDown'_eq];subst c d;refine wV<|h _ (MW S ?_<|QE.symm.append_left T);have:=GQ (R.map X.it) (X.it x) (A.map X.it) (T.map X.it) (i:=Ix T+Ix A) (by simp);simpa[ar,S.a] using this
end
abbrev Cs.le(X:Cs)(i j:Nat):Prop:=X.lt j i=C
section
variable {X:Cs}{o:Type}{Q:o->ui->Prop}{st:ui}{q:Array (Nat×Nat×Nat)}{T A B D R L:ky}{i j x y:Nat}{r:Nat->Nat->Prop}
def ix0(h:i=Ix T+Ix A):(T++(A++x::R))[i]?=Y x:=by subst h;simp
def ix1(h:i=Ix T+Ix A+1):(T++(A++x::y::R))[i]?=Y y:=by subst h;rw[<-rm,rn<|by simp];simp
def FQ(u:D.Pairwise r)(h: ∀z∈D,r z y):(D++[y]).Pairwise r:=wA.mpr ⟨u,ME _ _,λa c b d=>KA.mp d▸h a c⟩
def Gp(e: ∀{a b c},r a b->r b c->r a c)(u:(D++[x]).Pairwise r)(h:r x y): ∀z∈D++[x],r z y:=λz d=>by
 rcases rY.mp d with d|d
 .exact e ((wA.mp u).2.2 z d x jP) h
 .rw[KA.mp d];exact h
def M0{g:Nat->Option (Option Nat)×Nat->StateT ui dF (ForInStep<|Option (Option Nat)×Nat)}{f:Option (Option Nat)×Nat->StateT ui dF o}{lo n m:Nat}
  (p: ∀i n,g i (J,n)=(ltAt' (lo+n) (lo+n-1)>>=λx=>match x with|some b=>if b=U then pure (.done (J,n)) else pure (.yield (J,n+1))|_=>pure<|.done (Y J,n)))
  (S:Rp X q (T++(A++x::R)) st)(v:(Ix T)=lo)(t:n=Ix A+1)(a:m=n+R.length)(u:(A++[x]).Pairwise X.le)
  (h: ∀A x R,Rp X q (T++(A++x::R)) st->m=Ix A+1+R.length->(A++[x]).Pairwise X.le->(∀y l,R=y::l->X.lt y x=U)->wp X (f (J,Ix A+1)) Q st):wp X (forIn [n:m] (J,n) g>>=f) Q st:=by
 refine mV (λi c s=>s=st/\c=(J,i)/\ ∃A x R,Rp X q (T++(A++x::R)) st/\i=Ix A+1/\m=i+R.length/\(A++[x]).Pairwise X.le)
  (λc s=>s=st/\ ∃A x R,Rp X q (T++(A++x::R)) st/\c=(J,Ix A+1)/\m=Ix A+1+R.length/\(A++[x]).Pairwise X.le/\ ∀y l,R=y::l->X.lt y x=U) ⟨rfl,rfl,A,x,R,S,t,a,u⟩ ?_ ?_ ?_
 .rintro i c s d ⟨rfl,rfl,A,x,R,S,rfl,h1,u⟩;rw[p];obtain⟨y,l,rfl⟩:=uz (l:=R) (by lia);refine Fx S (ix1<|by lia) (ix0<|by lia) λb e=>?_
  cases b with
  |true=>exact iw ⟨rfl,A,x,_,S,rfl,h1,u,λ_ _ k=>by cases k;exact e⟩
  |false=>exact iw ⟨rfl,rfl,A++[x],y,l,by simpa using S,by simp,by simp at h1;lia,FQ u<|Gp X.tr u e⟩
 .rintro c s ⟨rfl,rfl,A,x,R,S,d,h1,u⟩;exact⟨rfl,A,x,R,S,by rw[d],by lia,u,λy l e=>by subst e;simp at h1;lia⟩
 .rintro c s ⟨rfl,A,x,R,S,rfl,a,u,e⟩;exact h A x R S a u e
def MX{c:Prop}[Decidable c]{k:StateT ui dF o}(S:Rp X q (T++(A++R)) st)(e:i=Ix T)(f:j=Ix T+Ix A)(d: ¬c->Ix A=1)(h: ∀b,Rp X q (T++(A.reverse++R)) b->wp X k Q b):wp X (if c then y9 i j>>=λ_=>k else k) Q st:=jg (λ_=>HF S e f h) λz=>h _ (by obtain⟨a,rfl⟩:=List.length_eq_one_iff.mp<|d z;exact S)
def dnT(d:(A++B).Pairwise λa b=>X.le b a)(u:B.Pairwise X.le):(A++B.reverse).Pairwise λa b=>X.le b a:=by rw[wA] at d ⊢;exact⟨d.1,HD.mpr u,λa c b e=>d.2.2 a c b<|dq.mp e⟩
def Cs.rf(X:Cs)(i:Nat):X.le i i:=Ma.mpr λh=>j7<|h.symm.trans<|X.as i i h
def TR{k m:StateT ui dF o}(P:ui->Prop)(b:(∀a,P a->wp X k Q a)->wp X m Q st)(hk: ∀a,P a->wp X k Q a):wp X m Q st:=b hk
def MZ{lo m:Nat}{Q:Option Nat->ui->Prop}(S:Rp X q (T++x::R) st)(p:(Ix T)=lo)(f:m=1+R.length)(h: ∀A R g,Rp X q (T++(A++R)) g->A≠[]->A.Pairwise X.le->m=Ix A+R.length->Q (Y<|Ix A) g):wp X (countRun' lo m) Q st:=by
 have fin: ∀A x R g,Rp X q (T++(A++x::R)) g->m=Ix A+1+R.length->(A++[x]).Pairwise X.le->Q (Y<|Ix A+1) g:=λA x R g S f u=>by simpa using h (A++[x]) R g (by simpa using S) (by simp) u (by simpa using f)
 have ge: ∀{a b c},X.le b a->X.le c b->X.le c a:=λh1 t=>X.tr t h1;rw[countRun'_eq];dsimp only;refine M0 (λ_ _=>rfl) (A:=[]) S p I f (by simp) λA x R S f u M=>?_;refine jg (λ_=>iw<|fin A x R _ S f u) λO=>?_;obtain⟨y,l,rfl⟩:=uz (l:=R) (by simp at O;lia);apply TR λg=>Rp X q (T++((A++[x]).reverse++y::l)) g/\ ∀z∈A++[x],X.le y z
 .intro F;have w:=X.as _ _ (M y l I);refine jg (λh1=>?_) λh1=>F _ ?_
  .obtain⟨a,A,rfl⟩:=uz (l:=A)<|Nat.lt_of_succ_lt_succ h1;refine Fx S (x:=a) (y:=x) (ix0 (A:=[])<|by simpa using p.symm) (ix0<|by simp;lia) λb e=>?_
   cases b with
   |true=>exact iw<|fin _ x _ _ S f u
   |false=>
    refine HF (A:=a::A++[x]) (by simpa using S) p.symm (by simp;lia) λg n=>F _ ⟨n,λz k=>X.tr (X.tr w e) ?_⟩;rcases ku.mp k with rfl|k
    .exact X.rf _
    .exact(AA.mp u).1 z k
  .obtain rfl:=AI (l:=A) (by simpa using h1);exact⟨S,by simpa using w⟩
 .rintro st ⟨S,d⟩;have t:(Ix A)+2<=m:=by simp at f;lia
  dsimp only
  refine vn (mV (λi c s=> ∃C B x R,c=(J,i,Ix B)/\Rp X q (T++(C++(B++x::R))) s/\i=Ix C+Ix B+1/\m=i+R.length/\(C++(B++[x])).Pairwise (λa b=>X.le b a)/\(B++[x]).Pairwise X.le)
   (λc s=> ∃C B x R,c=(J,Ix C+Ix B+1,Ix B)/\Rp X q (T++(C++(B++x::R))) s/\m=Ix C+Ix B+1+R.length/\(C++(B++[x])).Pairwise (λa b=>X.le b a)/\(B++[x]).Pairwise X.le) ⟨(A++[x]).reverse,[],y,l,rfl,S,by simp,by simp at f ⊢;lia,?_,by simp⟩ ?_ ?_ ?_)
  .exact FQ (HD.mpr u) λz k=>d z<|dq.mp k
  .rintro i c s v ⟨C,B,x,R,rfl,S,rfl,f,d,u⟩;obtain⟨y,l,rfl⟩:=uz (l:=R) (by lia);rw[<-rm] at S;refine Fx S (ix1<|by simp;lia) (ix0<|by simp;lia) λb e=>?_
   cases b with
   |true=>refine MX (T:=T++C) (A:=B++[x]) (by simpa using S) (by simp;lia) (by simp;lia) (λz=>by simp at z ⊢;exact z) λg n=>iw ⟨C++(B++[x]).reverse,[],y,l,rfl,by simpa using n,by simp;lia,by simp at f;lia,FQ (dnT d u) λz k=>?_,by simp⟩;rw[<-rm] at d;exact Gp (r:=λa b=>X.le b a) ge d (X.as _ _ e) z (by simpa[or_comm] using k)
   |false=>
    refine Fx S (ix0<|by simp;lia) (ix1<|by simp;lia) λb N=>?_
    cases b with
    |true=>exact iw ⟨C,B,x,_,rfl,by simpa using S,f,d,u⟩
    |false=>refine iw ⟨C,B++[x],y,l,by simp,by simpa using S,by simp;lia,by simp at f;lia,?_,FQ u<|Gp X.tr u e⟩;rw[<-rm] at d ⊢;rw[<-rm];exact FQ d<|Gp (r:=λa b=>X.le b a) ge d N
  .rintro c s ⟨C,B,x,R,rfl,S,v,f,d,u⟩;exact⟨C,B,x,R,by rw[v],S,by lia,d,u⟩
  .rintro c s ⟨C,B,x,R,rfl,S,f,d,u⟩;refine MX (T:=T++C) (A:=B++[x]) (by simpa using S) (by simp;lia) (by simp;lia) (λz=>by simp at z ⊢;exact z) λg n=>?_;refine HF (T:=T) (A:=C++(B++[x]).reverse) (by simpa using n) p.symm (by simp;lia) λg n=>?_;have u:=HD.mpr<|dnT d u;rcases MD (C++(B++[x]).reverse).reverse with e|⟨E,G,e⟩
   .simp at e
   .rw[e,MC] at n u;have k:=nM c9 e;simp at k;exact M0 (λ_ _=>rfl) (A:=E) (x:=G) (R:=R) (by simpa using n) p (by dsimp only;lia) (by dsimp only;lia) u λA x R S f u _=>iw<|fin A x R _ S f u
end
section
variable {X:Cs}{g:Type}{Q:g->ui->Prop}{st:ui}{q:Array (Nat×Nat×Nat)}{T A B D R L:ky}{i j x y:Nat}{p:Nat->Bool}
abbrev Mo(X:Cs)(p:Nat->Bool):Prop:= ∀a b,X.le a b->p b=U->p a=U
abbrev Lo(p:Nat->Bool)(A:ky)(a:Nat):Prop:= ∀i,i<a->p (A.getD i 0)=U
abbrev Hi(p:Nat->Bool)(A:ky)(a:Nat):Prop:= ∀i,a<=i->i<Ix A->p (A.getD i 0)=C
def OL:Mo X λz=>!X.lt x z:=λa b h c=>by simp only[i5] at c ⊢;exact X.tr h c
def Xz:Mo X λz=>X.lt z x:=λa b h c=>by
 cases e:X.lt a x with
 |true=>exact e
 |false=>exact j7<|(X.tr e h).symm.trans c
def upD(u:A.Pairwise X.le)(b:i<=j)(h:j<Ix A):X.le (A.getD i 0) (A.getD j 0):=by
 have a:i<(Ix A):=by lia
 simp only[lR,jt h,jt a,gA];rcases im b with e|rfl
 .exact QD.mp u i j a h e
 .exact X.rf _
def Gi(u:A.Pairwise X.le)(m:Mo X p)(h:i<Ix A)(e:p (A.getD i 0)=U):Lo p A (i+1):=λj a=>m _ _ (upD u (by lia) h) e
def Gv(u:A.Pairwise X.le)(m:Mo X p)(e:p (A.getD i 0)=C):Hi p A i:=λj a h=>by
 cases c:p (A.getD j 0) with
 |false=>rfl
 |true=>exact(m _ _ (upD u a h) c).symm.trans e
def J2(h:Lo p A i): ∀z∈A.take i,p z=U:=λz a=>by obtain⟨k,hk,rfl⟩:=D4 a;have hk:=rp▸hk;have:=h k (by lia);simpa[show k<(Ix A) by lia] using this
def Kd(h:Hi p A i): ∀z∈A.drop i,p z=C:=λz a=>by obtain⟨k,hk,rfl⟩:=D4 a;simp at hk;have:=h (i+k) (by lia) (by lia);simpa[show i+k<(Ix A) by lia] using this
def ixD(a:(Ix T)=j)(h:i<Ix A):(T++(A++R))[j+i]?=Y (A.getD i 0):=by subst a;rw[rn<|by lia,Ha,wd h];simp[h]
def ZJ(u:A.Pairwise X.le)(h1: ∀z∈A.take i,(!X.lt y z)=U)(e: ∀z∈A.drop i,(!X.lt y z)=C):(A.take i++y::A.drop i).Pairwise X.le:=by
 rw[<-wI i A,wA] at u;refine wA.mpr ⟨u.1,AA.mpr ⟨λz f=>X.as _ _ (by simpa using e z f),u.2.1⟩,λa d b c=>?_⟩;rcases ku.mp c with rfl|c
 .simpa using h1 a d
 .exact u.2.2 a d b c
def Uy{lo n k:Nat}{Q:Bool->ui->Prop}(S:Rp X q (T++(A++R)) st)(N:(Ix T)=lo)(E:(Ix A)=k)(O:0<k)(o:n<=k+R.length)(hk:k<=n)(u:A.Pairwise X.le)
  (h: ∀A R w,Rp X q (T++(A++R)) w->Ix A=n->A.Pairwise X.le->Q U w):wp X (binarySort' lo n k) Q st:=by
 rw[binarySort'_eq,show max k 1=k by lia];dsimp only;refine mV (λk c s=>c=(J,())/\ ∃A R,Rp X q (T++(A++R)) s/\(Ix A)=k/\A.Pairwise X.le/\n<=k+R.length) (λc s=>c=(J,())/\ ∃A R,Rp X q (T++(A++R)) s/\(Ix A)=n/\A.Pairwise X.le) ⟨rfl,A,R,S,E,u,o⟩ ?_ ?_ ?_
 .rintro k c s m ⟨rfl,A,R,S,rfl,u,o⟩;obtain⟨y,l,rfl⟩:=uz (l:=R) (by lia)
  refine mV (λi c r=>r=s/\ ∃a b,c=(J,a,b)/\a<=b/\b<=Ix A/\b<=a+(Ix A-i)/\Lo (λz=>!X.lt y z) A a/\Hi (λz=>!X.lt y z) A b)
   (λc r=>r=s/\ ∃a b,c=(J,a,b)/\a<=Ix A/\Lo (λz=>!X.lt y z) A a/\Hi (λz=>!X.lt y z) A a) ⟨rfl,0,Ix A,rfl,by lia,by lia,by lia,λi h=>by lia,λi h M=>by lia⟩ ?_ ?_ ?_
  .rintro i c _ m ⟨rfl,a,b,rfl,h1,t,v,d,f⟩;dsimp only;refine jg (λe=>iw ⟨rfl,a,b,rfl,by lia,d,(show a=b by lia)▸f⟩) λe=>?_;refine Fx S (ix0<|by lia) (ixD N<|by lia) λc e=>?_
   cases c with
   |true=>exact iw ⟨rfl,a,_,rfl,by lia,by lia,by lia,d,Gv u OL<|by rw[e];rfl⟩
   |false=>exact iw ⟨rfl,_,b,rfl,by lia,by lia,by lia,Gi u OL (by lia)<|by rw[e];rfl,f⟩
  .rintro c _ ⟨rfl,a,b,rfl,h1,t,v,d,f⟩;exact⟨rfl,a,b,rfl,by lia,d,(show a=b by lia)▸f⟩
  .rintro c _ ⟨rfl,a,b,rfl,h1,t,v⟩;refine Ux (T:=T++A.take a) (A:=A.drop a) (by rw[rm,<-rm (A.take a),wI];exact S) (by simp;lia) (by simp;lia) λr G=>iw ⟨rfl,A.take a++y::A.drop a,l,by simpa using G,by simp;lia,ZJ u (J2 t)<|Kd v,by simp at o;lia⟩
 .rintro c s ⟨rfl,A,R,S,m,u,o⟩;exact⟨rfl,A,R,S,by lia,u⟩
 .rintro c s ⟨rfl,A,R,S,m,u⟩;exact iw<|h A R s S m u
noncomputable def S0:Bool->ei->Array ei->Nat->Nat->Nat->StateT ui dF (Option Nat):=sortPriv%PySem.Builtin.gallop
noncomputable def OM:Array ei->Array ei->StateT ui dF (Array ei):=sortPriv%PySem.Builtin.mergeLo
noncomputable def ON:Array ei->Array ei->StateT ui dF (Array ei):=sortPriv%PySem.Builtin.mergeHi
noncomputable def Rb:Nat->StateT ui dF Unit:=sortPriv%PySem.Builtin.setMinGallop
def WS{k:Nat->Nat->StateT ui dF g}{m:StateT ui dF g}(P:Nat->Nat->Prop)(c:(∀a b,P a b->wp X (k a b) Q st)->wp X m Q st)(hk: ∀a b,P a b->wp X (k a b) Q st):wp X m Q st:=c hk
noncomputable abbrev gp(X:Cs)(left:Bool)(x z:Nat):Bool:=if left=U then X.lt z x else !X.lt x z
def Ep{left:Bool}{base:Nat}{f:Option Bool->StateT ui dF g}(hk:kindOf st=X.κ)(k: ∀z∈A,z<X.N)(c:x<X.N)(l:(Ix T)=base)(a:i<Ix A)(h: ∀b,gp X left x (A.getD i 0)=b->wp X (f<|Y b) Q st):
  wp X ((elem' (ar X<|T++(A++R)) (base+i)>>=λz=>if left=U then lt' z (X.it x) else lt' (X.it x) z>>=λr=>pure<|o6 (λx=>!x) r)>>=f) Q st:=by
 have d:A.getD i 0<X.N:=k _ (by simp[a]);refine kz<|mC (ixD l a) ?_
 cases left with
 |true=>rw[iF I,<-bind_pure (lt' _ _)];exact Fw hk d c λb e=>iw<|h b e
 |false=>exact Fw hk c d λb e=>iw<|h (!b)<|nM not e
def zm{left:Bool}{base n hint:Nat}{Q:Option Nat->ui->Prop}(hk:kindOf st=X.κ)(t: ∀z∈A,z<X.N)(w:x<X.N)(u:A.Pairwise X.le)(G:L=T++(A++R))(v:(Ix T)=base)(H:(Ix A)=n)(C:hint<n)
  (h: ∀r,r<=n->(∀z∈A.take r,gp X left x z=U)->(∀z∈A.drop r,gp X left x z=Go)->Q (Y r) st):wp X (S0 left (X.it x) (ar X L) base n hint) Q st:=by
 subst G
 have m:Mo X (gp X left x):=by
  cases left with
  |true=>exact Xz
  |false=>exact OL
 apply WS λa b=>a<=b/\b<=n/\Lo (gp X left x) A a/\Hi (gp X left x) A b
 .intro F;refine Ep hk t w v (H▸C) λb e=>?_;refine jg (λz=>?_) λz=>?_
  .subst z
   refine mV (λi c s=>st=s/\ ∃a b,c=(F2,a,b)/\a<b/\i<b/\hint+a<n/\Lo (gp X left x) A (hint+a+1)) (λc s=>st=s/\ ∃a b,c=(F2,a,b)/\a<b/\hint+a<n/\Lo (gp X left x) A (hint+a+1)/\(n-hint<=b\/Hi (gp X left x) A (hint+b)))
    ⟨rfl,0,1,rfl,by lia,by lia,C,Gi u m (H▸C) e⟩ ?_ ?_ ?_
   .rintro i c _ E ⟨rfl,a,b,rfl,h1,o,l,f⟩;dsimp only;refine jg (λz=>iw ⟨rfl,a,b,rfl,h1,l,f,.inl z⟩) λz=>Ep hk t w v (by lia) λc e=>?_
    cases c with
    |true=>exact iw ⟨rfl,_,_,rfl,by lia,by lia,by lia,Gi u m (by lia) e⟩
    |false=>exact iw ⟨rfl,a,b,rfl,h1,l,f,.inr<|Gv u m e⟩
   .rintro c _ ⟨rfl,a,b,rfl,h1,o,l,f⟩;exact⟨rfl,a,b,rfl,h1,l,f,.inl<|by lia⟩
   .rintro c _ ⟨rfl,a,b,rfl,h1,l,f,k⟩;dsimp only;generalize I:hint+a+1=c at*;generalize O:hint+min b (n-hint)=d;refine F c d ⟨by lia,by lia,f,λi J M=>?_⟩;rcases k with k|k
    .lia
    .exact k i (by lia) M
  .refine mV (λi c s=>st=s/\ ∃a b,c=(F2,a,b)/\a<b/\i<b/\a<=hint/\Hi (gp X left x) A (hint-a)) (λc s=>st=s/\ ∃a b,c=(F2,a,b)/\a<b/\a<=hint/\Hi (gp X left x) A (hint-a)/\(hint<b\/Lo (gp X left x) A (hint-b+1)))
    ⟨rfl,0,1,rfl,by lia,by lia,by lia,Gv u m<|by simpa[z] using e⟩ ?_ ?_ ?_
   .rintro i c _ E ⟨rfl,a,b,rfl,h1,o,l,f⟩;dsimp only;refine jg (λz=>iw ⟨rfl,a,b,rfl,h1,l,f,.inl z⟩) λz=>Ep hk t w v (by lia) λc e=>?_
    cases c with
    |true=>exact iw ⟨rfl,a,b,rfl,h1,l,f,.inr<|Gi u m (by lia) e⟩
    |false=>exact iw ⟨rfl,_,_,rfl,by lia,by lia,by lia,Gv u m e⟩
   .rintro c _ ⟨rfl,a,b,rfl,h1,o,l,f⟩;exact⟨rfl,a,b,rfl,h1,l,f,.inl<|by lia⟩
   .rintro c _ ⟨rfl,a,b,rfl,h1,l,f,k⟩;dsimp only;generalize O:hint-a=d at*;generalize I:hint+1-min b (hint+1)=c;refine F c d ⟨by lia,by lia,λi J=>?_,f⟩;rcases k with k|k
    .lia
    .exact k i (by lia)
 .rintro a b ⟨h1,o,l,f⟩;refine mV (λi c s=>st=s/\ ∃a b,c=(F2,a,b)/\a<=b/\b<=n/\b<=a+(n-i)/\Lo (gp X left x) A a/\Hi (gp X left x) A b) (λc s=>st=s/\ ∃a,c=(F2,a,a)/\a<=n/\Lo (gp X left x) A a/\Hi (gp X left x) A a) ⟨rfl,a,b,rfl,h1,o,by lia,l,f⟩ ?_ ?_ ?_
  .rintro i c _ E ⟨rfl,a,b,rfl,h1,o,l,f,k⟩;refine jg (λz=>?_) λz=>Ep hk t w v (by dsimp only at z ⊢;lia) λc e=>?_
   .have:a=b:=by dsimp only at z;lia
    subst this;exact iw ⟨rfl,a,rfl,o,f,k⟩
   .dsimp only at z
    cases c with
    |true=>exact iw ⟨rfl,_,b,rfl,by dsimp only;lia,o,by dsimp only;lia,Gi u m (by dsimp only;lia) e,k⟩
    |false=>exact iw ⟨rfl,a,_,rfl,by dsimp only;lia,by dsimp only;lia,by dsimp only;lia,f,Gv u m e⟩
  .rintro c _ ⟨rfl,a,b,rfl,h1,o,l,f,k⟩;have:a=b:=by lia
   subst this;exact⟨rfl,a,rfl,o,f,k⟩
  .rintro c _ ⟨rfl,a,rfl,o,f,k⟩;exact iw<|h a o (J2 f)<|Kd k
end
section
variable {X:Cs}{β:Type}{Q:β->ui->Prop}{st:ui}{pq:Array (Nat×Nat×Nat)}{q r L Z a b o k:ky}{i j x y:Nat}{le:Nat->Nat->Prop}{out:CP}
structure MG(le:Nat->Nat->Prop)(Z a b o:ky):Prop where
 s:o.Pairwise le
 c: ∀x∈o,∀y∈a++b,le x y
 p:(o++(a++b)).Perm Z
 ua:a.Pairwise le
 ub:b.Pairwise le
def MG.put(m:MG le Z (k++a) b o)(h: ∀x∈k,∀y∈b,le x y):MG le Z a b (o++k):=by
 have f:=wA.mp m.ua;refine⟨wA.mpr ⟨m.s,f.1,λx e y d=>m.c x e y<|by simp[d]⟩,λx e y d=>?_,by simpa using m.p,f.2.1,m.ub⟩;rcases rY.mp e with e|e
 .refine m.c x e y ?_;simp at d ⊢;exact .inr d
 .rcases rY.mp d with d|d
  .exact f.2.2 x e y d
  .exact h x e y d
def Mg(X:Cs)(le:Nat->Nat->Prop)(Z a b:ky)(out:CP):Prop:= ∃o,out=ar X o/\MG le Z a b o
def Rs(X:Cs)(Z:ky)(out:CP):Prop:= ∃o,out=ar X o/\o.Pairwise X.le/\o.Perm Z
def Mg.sw(m:Mg X le Z a b out):Mg X le Z b a out:=by obtain⟨o,e,m⟩:=m;exact⟨o,e,m.s,λx d y f=>m.c x d y<|by simpa[or_comm] using f,(TN.append_left o).trans m.p,m.ub,m.ua⟩
def Mg.put(m:Mg X le Z a b out){a':ky}{c:CP}(e:a=k++a')(h: ∀x∈k,∀y∈b,le x y)(d:c=out++ar X k):Mg X le Z a' b c:=by obtain⟨o,rfl,m⟩:=m;exact⟨o++k,by simpa[ar] using d,(e▸m).put h⟩
def Mg.a1(m:Mg X le Z (q.drop i) b out)(c:i<Ix q)(h: ∀y∈b,le q[i] y):Mg X le Z (q.drop<|i+1) b (out.push<|X.it q[i]):=m.put (k:=[q[i]]) (yT c) (by simpa using h) (by simp[ar])
def Mg.ak(m:Mg X le Z (q.drop i) b out)(h: ∀x∈(q.drop i).take j,∀y∈b,le x y):Mg X le Z (q.drop<|i+j) b (out++(ar X q).extract i (i+j)):=m.put (by rw[<-List.drop_drop,wI]) h (by simp[ar,D3])
def Mg.fin(m:Mg X X.le Z (q.drop i) (r.drop j) out)(h: ∀x∈q.drop i,∀y∈r.drop j,X.le x y):Rs X Z (out++(ar X q).extract i (ar X q).size++(ar X r).extract j (ar X r).size):=by obtain⟨o,e,m⟩:=((m.put (k:=q.drop i) (a':=[]) (by simp) h I).sw).put (k:=r.drop j) (a':=[]) (by simp) (by simp) I;exact⟨o,by rw[<-e];simp[ar,D3,dv],m.s,by simpa using m.p⟩
def Mg.end(m:Mg X X.le Z (q.drop i) (r.drop j) out)(h:(Ix q)<=i\/(Ix r)<=j):Rs X Z (out++(ar X q).extract i (ar X q).size++(ar X r).extract j (ar X r).size):=m.fin λx c y d=>by
 rcases h with h|h
 .rw[AM h] at c;cases c
 .rw[AM h] at d;cases d
def Mg.hd(m:Mg X le Z (q.drop i) b out)(f: ∀{a b c},le a b->le b c->le a c)(e:i<Ix q)(h:le x q[i]): ∀y∈q.drop i,le x y:=λy d=>by
 obtain⟨o,_,m⟩:=m;have:=m.ua;rw[yT e] at this d;rcases ku.mp d with rfl|d
 .exact h
 .exact f h ((AA.mp this).1 y d)
def Eo{f:Unit->StateT ui dF β}{n:Nat}(S:Rp X pq L st)(h: ∀c,Rp X pq L c->wp X (f ()) Q c):wp X (Rb n>>=f) Q st:=wV (g:=λs=>SortSt.mk' (kindOf s) (eU s) (pendingOf s) n<|fq s)<|h _ ⟨S.a,S.k,S.f,S.q,S.p⟩
def Ju{e:Type}{k:e->Nat->StateT ui dF β}{m:StateT ui dF β}(P:e->Nat->ui->Prop)(f:(∀c n d,P c n d->wp X (k c n) Q d)->wp X m Q st)(hk: ∀c n d,P c n d->wp X (k c n) Q d):wp X m Q st:=f hk
def MY{k:Nat->StateT ui dF β}{m:StateT ui dF β}(P:Nat->ui->Prop)(d:(∀n c,P n c->wp X (k n) Q c)->wp X m Q st)(hk: ∀n c,P n c->wp X (k n) Q c):wp X m Q st:=d hk
def WR{Q:Array ei->ui->Prop}(S:Rp X pq L st)(u1:q.Pairwise X.le)(u2:r.Pairwise X.le)(U: ∀z∈q,z<X.N)(Y: ∀z∈r,z<X.N)(h1:0<Ix q)(h2:0<Ix r)(hd: ∀y∈q,X.le r[0] y)(top: ∀x∈r,X.le x q[Ix q-1])
  (h: ∀out s,Rp X pq L s->Rs X (q++r) out->Q out s):wp X (OM (ar X q)<|ar X r) Q st:=by
 have sq:(ar X q).size=(Ix q):=by simp
 have sr:(ar X r).size=(Ix r):=by simp
 have K:Mg X X.le (q++r) (q.drop 0) (r.drop 1) #[X.it r[0]]:=Mg.sw<|Mg.a1 (q:=r) (i:=0) (out:= #[]) ⟨[],rfl,.nil,by simp,by simpa using TN,by simpa using u2,by simpa using u1⟩ h2 hd
 have last: ∀{out i j},Mg X X.le (q++r) (q.drop i) (r.drop j) out->i+1=Ix q->Rs X (q++r) (out++(ar X r).extract j (ar X r).size++(ar X q).extract i (ar X q).size):=λ{_ i j} m e=>m.sw.fin λx O y C=>by
  have hi:i<(Ix q):=by lia
  rw[yT hi,AM<|by lia,KA] at C;have:=top x<|AH O;simpa only[C,<-e,io] using this
 refine vn<|mC (x:=r[0]) (by simp[h2]) ?_;refine jg (λe=>iw<|h _ _ S (K.end<|.inr<|by simp at e;lia)) λe=>jg (λv=>iw<|h _ _ S (last K<|by simpa using v)) λv=>pV ?_
 let I:=λ(c:Nat) out d f s=>Rp X pq L s/\Mg X X.le (q++r) (q.drop d) (r.drop f) out/\d+1<Ix q/\f<Ix r/\c<=d+f
 refine mV (λi c s=> ∃out d f B,c=(F2,out,d,f,B)/\I (i+1) out d f s) (λc s=> ∃out t,c=(FM out,t)/\Rp X pq L s/\Rs X (q++r) out) ⟨_,0,1,_,rfl,S,K,by simp at v;lia,by simp at e;lia,by lia⟩ ?_ ?_ ?_
 .rintro i c s _ ⟨out,d,f,B,rfl,G⟩;refine mV (λj c s=> ∃out d f p u,c=(F2,out,d,f,p,u)/\I (i+1+j) out d f s) (λc s=>(∃out t,c=(FM out,t)/\Rp X pq L s/\Rs X (q++r) out)\/ ∃out d f p u,c=(F2,out,d,f,p,u)/\I (i+1) out d f s) ⟨_,_,_,_,_,rfl,G⟩ ?_ ?_ ?_
  .rintro j c s _ ⟨out,d,f,p,u,rfl,S,m,E,l,H'⟩;dsimp only;refine mC (x:=r[f]) (by simp[l]) (mC (x:=q[d]) (by simp)<|Fw S.k (Y _ (by simp)) (U _ (by simp)) λb e=>?_)
   cases b with
   |true=>have n:=(m.sw.a1 l<|m.hd X.tr (by lia)<|X.as _ _ e).sw;exact mC (x:=r[f]) (by simp[l])<|jg (λe=>iw<|.inl ⟨_,_,rfl,S,n.end<|.inr<|by simp at e;lia⟩) λe=>jg (λ_=>iw<|.inr ⟨_,_,_,_,_,rfl,S,n,E,by simp at e;lia,by lia⟩) λ_=>iw ⟨_,_,_,_,_,rfl,S,n,E,by simp at e;lia,by lia⟩
   |false=>have n:=m.a1 (by lia)<|m.sw.hd X.tr l e;exact mC (x:=q[d]) (by simp)<|jg (λe=>iw<|.inl ⟨_,_,rfl,S,last n<|by simpa using e⟩) λe=>jg (λ_=>iw<|.inr ⟨_,_,_,_,_,rfl,S,n,by simp at e;lia,l,by lia⟩) λ_=>iw ⟨_,_,_,_,_,rfl,S,n,by simp at e;lia,l,by lia⟩
  .rintro c s ⟨out,d,f,p,u,rfl,S,m,E,l,H'⟩;exfalso;lia
  .rintro c s (⟨out,t,rfl,hs⟩|⟨out,d,f,p,u,rfl,G⟩)
   .exact iw ⟨out,_,rfl,hs⟩
   .refine vn (mV (λj c s=> ∃out d f B p u,c=(F2,out,d,f,B,p,u)/\I (i+1+j) out d f s) (λc s=>(∃out t,c=(FM out,t)/\Rp X pq L s/\Rs X (q++r) out)\/ ∃out d f B p u,c=(F2,out,d,f,B,p,u)/\I (i+2) out d f s) ⟨_,_,_,_,_,_,rfl,G⟩ ?_ ?_ ?_)
    .rintro j c s _ ⟨out,d,f,B,p,u,rfl,S,m,E,l,H'⟩;dsimp only;apply MY λ_ s=>Rp X pq L s
     .intro F;refine jg (λ_=>?_) λ_=>?_
      .generalize B-1=g;exact F g s S
      .exact F B s S
     intro g s S;refine Eo S λs S=>mC (x:=r[f]) (by simp[l])<|kz<|zm (T:=q.take d) (A:=q.drop d) (R:=[]) S.k (λz D=>U z<|AH D) (Y _ (by simp)) (u1.sublist<|G9 _ _) (by simp) (by simp;lia) (by simp) (by simp;lia) λk _ P V=>?_;dsimp only;apply Ju λout d s=>Rp X pq L s/\Mg X X.le (q++r) (q.drop d) (r.drop f) out/\d+1<Ix q/\i+1+j<=d+f/\ ∀y∈q.drop d,X.le r[f] y
     .intro F;have mk:=m.ak (j:=k) λx O y C=>m.sw.hd (x:=x) X.tr l (by simpa using P x O) y C;have w: ∀y∈q.drop (d+k),X.le r[f] y:=λy C=>X.as _ _ (by simpa using V y<|by simpa using C);refine jg (λe=>?_) λe=>?_
      .refine jg (λM=>iw<|.inl ⟨_,_,rfl,S,last mk<|by simpa using M⟩) λM=>jg (λv=>iw<|.inl ⟨_,_,rfl,S,mk.end<|.inl<|by simp at v;lia⟩) λv=>?_;generalize out++(ar X q).extract d (d+k)=out at mk ⊢;generalize W:d+k=ic at mk w M v ⊢;exact F out ic s ⟨S,mk,by simp at M v;lia,by lia,w⟩
      .rw[show k=0 by lia] at w;exact F out d s ⟨S,m,E,H',w⟩
     rintro out d s ⟨S,m,E,H',w⟩;have n:=(m.sw.a1 l w).sw;refine mC (x:=r[f]) (by simp[l])<|jg (λe=>iw<|.inl ⟨_,_,rfl,S,n.end<|.inr<|by simp at e;lia⟩) λe=>mC (x:=q[d]) (by simp)<|kz<|zm (T:=r.take<|f+1) (A:=r.drop<|f+1) (R:=[]) S.k (λz D=>Y z<|AH D) (U _ (by simp)) (u2.sublist<|G9 _ _) (by simp) (by simp;lia) (by simp) (by simp at e ⊢;lia) λJ _ P V=>?_;dsimp only;apply Ju λout f s=>Rp X pq L s/\Mg X X.le (q++r) (q.drop d) (r.drop f) out/\f<Ix r/\i+1+j<d+f/\ ∀y∈r.drop f,X.le q[d] y
     .intro F;have mk:=(n.sw.ak (j:=J) λx O y C=>n.hd X.tr (by lia) (X.as _ _ (P x O)) y C).sw;have w: ∀y∈r.drop (f+1+J),X.le q[d] y:=λy C=>V y (by simpa using C);refine jg (λ_=>?_) λe3=>?_
      .refine jg (λv=>iw<|.inl ⟨_,_,rfl,S,mk.end<|.inr<|by simp at v;lia⟩) λv=>?_;generalize out.push (X.it r[f])++(ar X r).extract (f+1) (f+1+J)=out at mk ⊢;generalize W:f+1+J=ic at mk w v ⊢;exact F out ic s ⟨S,mk,by simp at v;lia,by lia,w⟩
      .rw[show J=0 by lia] at w;exact F _ _ s ⟨S,n,by simp at e;lia,by lia,w⟩
     rintro out f s ⟨S,m,l,H',w⟩;have n:=m.a1 (by lia) w;exact mC (x:=q[d]) (by simp)<|jg (λe=>iw<|.inl ⟨_,_,rfl,S,last n<|by simpa using e⟩) λe=>jg (λ_=>iw<|.inr ⟨_,_,_,_,_,_,rfl,S,n,by simp at e;lia,l,by lia⟩) λ_=>iw ⟨_,_,_,_,_,_,rfl,S,n,by simp at e;lia,l,by lia⟩
    .rintro c s ⟨out,d,f,B,p,u,rfl,S,m,E,l,H'⟩;exfalso;lia
    .rintro c s (⟨out,t,rfl,hs⟩|⟨out,d,f,B,p,u,rfl,S,G⟩)
     .exact iw ⟨out,_,rfl,hs⟩
     .exact Eo S λs S=>iw ⟨_,_,_,_,rfl,S,G⟩
 .rintro c s ⟨out,d,f,B,rfl,S,m,E,l,H'⟩;exfalso;lia
 .rintro c s ⟨out,t,rfl,S,m⟩;exact iw<|h _ _ S m
end
section
variable {X:Cs}{f:Type}{Q:f->ui->Prop}{st:ui}{d:Array (Nat×Nat×Nat)}{q r L Z a b o k:ky}{i j x y n:Nat}{out:CP}
theorem ss1(n:Nat):n+1-1=n:=rfl
abbrev Cs.ge(X:Cs)(i j:Nat):Prop:=X.le j i
def Mg.h1(m:Mg X X.ge Z (q.take<|n+1).reverse b out)(c:n<Ix q)(h: ∀y∈b,X.le y q[n]):Mg X X.ge Z (q.take n).reverse b (out.push<|X.it q[n]):=m.put (k:=[q[n]]) (by rw[D2];simp[c]) (by simpa using h) (by simp[ar])
def Mg.hk(m:Mg X X.ge Z (q.take n).reverse b out)(c:i<=n)(h: ∀x∈(q.take n).drop i,∀y∈b,X.le y x):Mg X X.ge Z (q.take i).reverse b (out++((ar X q).extract i n).reverse):=m.put (k:=((q.take n).drop i).reverse) (by rw[<-List.reverse_append,<-dL c,<-fu,dL c,wI]) (by simpa using h) (by simp[ar,List.extract_eq_drop_take'])
def Mg.finH(m:Mg X X.ge Z (q.take i).reverse (r.take j).reverse out)(h: ∀x∈q.take i,∀y∈r.take j,X.le x y):Rs X Z ((ar X q).extract 0 i++(ar X r).extract 0 j++out.reverse):=by obtain⟨o,e,m⟩:=(m.sw.put (k:=(r.take j).reverse) (a':=[]) (by simp) (by simpa using λx c y g=>h y g x c) I).sw.put (k:=(q.take i).reverse) (a':=[]) (by simp) (by simp) I;refine⟨o.reverse,?_,HD.mpr m.s,(AJ o).trans<|by simpa using m.p⟩;have:=nM Array.reverse e;simpa[ar,D3] using this
def Mg.endH(m:Mg X X.ge Z (q.take i).reverse (r.take j).reverse out)(h:i=0\/j=0):Rs X Z ((ar X q).extract 0 i++(ar X r).extract 0 j++out.reverse):=m.finH λx c y e=>by
 rcases h with rfl|rfl
 .cases c
 .cases e
def Mg.hdH(m:Mg X X.ge Z (q.take<|n+1).reverse b out)(e:n<Ix q)(h:X.le q[n] x): ∀y∈(q.take<|n+1).reverse,X.le y x:=λy c=>by
 obtain⟨o,_,m⟩:=m;have:=m.ua;rw[show(q.take<|n+1).reverse=q[n]::(q.take n).reverse by rw[D2];simp[e]] at this c;rcases ku.mp c with rfl|c
 .exact h
 .exact X.tr ((AA.mp this).1 y c) h
def WT{Q:Array ei->ui->Prop}(S:Rp X d L st)(u1:q.Pairwise X.le)(u2:r.Pairwise X.le)(hq: ∀z∈q,z<X.N)(hr: ∀z∈r,z<X.N)(h1:0<Ix q)(h2:0<Ix r)(hd: ∀y∈q,X.le r[0] y)(top: ∀x∈r,X.le x q[Ix q-1])
  (h: ∀out s,Rp X d L s->Rs X (q++r) out->Q out s):wp X (ON (ar X q)<|ar X r) Q st:=by
 have sq:(ar X q).size=(Ix q):=by simp
 have sr:(ar X r).size=(Ix r):=by simp
 have K:Mg X X.ge (q++r) (q.take<|Ix q-1).reverse (r.take<|Ix r).reverse #[X.it q[Ix q-1]]:=Mg.h1 (out:= #[]) ⟨[],rfl,.nil,by simp,by simpa[ib h1] using(AJ q).append (AJ r),by simpa[ib h1,HD] using u1,by simpa[HD] using u2⟩ (by lia) (by simpa using top)
 have last: ∀{out i},Mg X X.ge (q++r) (q.take i).reverse (r.take 1).reverse out->Rs X (q++r) ((ar X r).extract 0 1++(ar X q).extract 0 i++out.reverse):=λm=>m.sw.finH λx Y y U=>by obtain⟨b,r,rfl⟩:=uz h2;simp at Y;subst Y;exact hd y<|wH U
 refine vn<|mC (x:=q[Ix q-1]) (by simp[h1]) ?_;rw[sq,sr];refine jg (λe=>iw<|h _ _ S (K.endH<|.inl<|by simpa using e)) λe=>jg (λE=>iw<|h _ _ S ?_) λE=>pV ?_
 .have E:(Ix r)=1:=by simpa using E
  rw[E] at K ⊢;exact last K
 let I:=λ(c:Nat) out l u s=>Rp X d L s/\Mg X X.ge (q++r) (q.take l).reverse (r.take u).reverse out/\0<l/\l<=Ix q/\1<u/\u<=Ix r/\c+l+u<=Ix q+Ix r
 refine mV (λi c s=> ∃l u out C,c=(J,l,u,out,C)/\I (i+1) out l u s) (λc s=> ∃out t,c=(FM out,t)/\Rp X d L s/\Rs X (q++r) out) ⟨_,_,_,_,rfl,S,K,by simp at e;lia,by lia,by simp at E;lia,by lia,by lia⟩ ?_ ?_ ?_
 .rintro i c s _ ⟨l,u,out,C,rfl,i0⟩;refine mV (λj c s=> ∃l u out w B,c=(J,l,u,out,w,B)/\I (i+1+j) out l u s) (λc s=>(∃out t,c=(FM out,t)/\Rp X d L s/\Rs X (q++r) out)\/ ∃l u out w B,c=(J,l,u,out,w,B)/\I (i+1) out l u s) ⟨_,_,_,_,_,rfl,i0⟩ ?_ ?_ ?_
  .rintro j c s _ ⟨l,u,out,w,B,rfl,S,m,G,J',H',b4,b5⟩;obtain⟨n,rfl⟩: ∃n,l=n+1:=⟨l-1,by lia⟩
   obtain⟨p,rfl⟩: ∃n,u=n+1:=⟨u-1,by lia⟩
   dsimp only[ss1];refine mC (x:=r[p]) (by simp)<|mC (x:=q[n]) (by simp)<|Fw S.k (hr _ (by simp)) (hq _ (by simp)) λb e=>?_
   cases b with
   |true=>have v:=m.h1 (by lia)<|m.sw.hdH (by lia)<|X.as _ _ e;exact mC (x:=q[n]) (by simp)<|jg (λe=>iw<|.inl ⟨_,_,rfl,S,v.endH<|.inl<|by simpa using e⟩) λe=>jg (λ_=>iw<|.inr ⟨_,_,_,_,_,rfl,S,v,by simp at e;lia,by lia,H',b4,by lia⟩) λ_=>iw ⟨_,_,_,_,_,rfl,S,v,by simp at e;lia,by lia,H',b4,by lia⟩
   |false=>
    have v:=(m.sw.h1 (by lia)<|m.hdH (by lia) e).sw;refine mC (x:=r[p]) (by simp)<|jg (λe=>?_) λe=>jg (λ_=>iw<|.inr ⟨_,_,_,_,_,rfl,S,v,G,J',by simp at e;lia,by lia,by lia⟩) λ_=>iw ⟨_,_,_,_,_,rfl,S,v,G,J',by simp at e;lia,by lia,by lia⟩;obtain rfl:p=1:=by simpa using e
    exact iw<|.inl ⟨_,_,rfl,S,last v⟩
  .rintro c s ⟨l,u,out,w,B,rfl,S,m,G,J',H',b4,b5⟩;exfalso;lia
  .rintro c s (⟨out,t,rfl,hs⟩|⟨l,u,out,w,B,rfl,i0⟩)
   .exact iw ⟨out,_,rfl,hs⟩
   .refine vn (mV (λj c s=> ∃l u out C w B,c=(J,l,u,out,C,w,B)/\I (i+1+j) out l u s) (λc s=>(∃out t,c=(FM out,t)/\Rp X d L s/\Rs X (q++r) out)\/ ∃l u out C w B,c=(J,l,u,out,C,w,B)/\I (i+2) out l u s) ⟨_,_,_,_,_,_,rfl,i0⟩ ?_ ?_ ?_)
    .rintro j c s _ ⟨l,u,out,C,w,B,rfl,S,m,G,J',H',b4,b5⟩;obtain⟨p,rfl⟩: ∃n,u=n+1:=⟨u-1,by lia⟩
     dsimp only[ss1];apply MY λ_ s=>Rp X d L s
     .intro F;refine jg (λ_=>?_) λ_=>?_
      .generalize C-1=g;exact F g s S
      .exact F C s S
     intro g s S;refine Eo S λs S=>mC (x:=r[p]) (by simp)<|kz<|zm (T:=[]) (A:=q.take l) (R:=q.drop l) S.k (λz V=>hq z<|wH V) (hr _ (by simp)) (u1.sublist<|ze _ _) (by simp) H8 (by simp;lia) (by lia) λk hk W t2=>?_;dsimp only;apply Ju λout l s=>Rp X d L s/\Mg X X.ge (q++r) (q.take l).reverse (r.take<|p+1).reverse out/\0<l/\l<=Ix q/\i+1+j+l+p<Ix q+Ix r/\ ∀y∈q.take l,X.le y r[p]
     .intro F;have mk:=m.hk hk λx Y y U=>m.sw.hdH (x:=x) (by lia) (X.as _ _ (by simpa using t2 x Y)) y U;have M: ∀y∈q.take k,X.le y r[p]:=λy U=>by simpa using W y (by rwa [fu,dL hk])
      refine jg (λe=>?_) λe=>?_
      .refine jg (λO=>iw<|.inl ⟨_,_,rfl,S,mk.endH<|.inl<|by simpa using O⟩) λO=>?_;generalize out++((ar X q).extract k l).reverse=out at mk ⊢;generalize ea:k=ic at mk M O ⊢;exact F out ic s ⟨S,mk,by simp at O;lia,by lia,by lia,M⟩
      .obtain rfl:k=l:=by lia
       exact F out _ s ⟨S,m,G,J',by lia,M⟩
     rintro out na' s ⟨S,m,G,J',b5,M⟩;have v:=(m.sw.h1 (by lia)<|by simpa using M).sw;obtain⟨n,rfl⟩: ∃n,na'=n+1:=⟨na'-1,by lia⟩
     dsimp only[ss1];refine mC (x:=r[p]) (by simp)<|jg (λe=>?_) λe=>mC (x:=q[n]) (by simp)<|kz<|zm (T:=[]) (A:=r.take p) (R:=r.drop p) S.k (λz V=>hr z<|wH V) (hq _ (by simp)) (u2.sublist<|ze _ _) (by simp) H8 (by simp;lia) (by lia) λD cK W t2=>?_
     .obtain rfl:p=1:=by simpa using e
      exact iw<|.inl ⟨_,_,rfl,S,last v⟩
     dsimp only;apply Ju λout u s=>Rp X d L s/\Mg X X.ge (q++r) (q.take<|n+1).reverse (r.take u).reverse out/\1<u/\u<=Ix r/\i+1+j+(n+1)+u<Ix q+Ix r/\ ∀y∈r.take u,X.le y q[n]
     .intro F;have mk:=(v.sw.hk cK λx Y y U=>v.hdH (x:=x) (by lia) (t2 x Y) y U).sw;have P: ∀y∈r.take D,X.le y q[n]:=λy U=>X.as _ _ (W y<|by rwa [fu,dL cK]);refine jg (λ_=>?_) λe3=>?_
      .refine jg (λO=>?_) λO=>jg (λE=>iw<|.inl ⟨_,_,rfl,S,mk.endH<|.inr<|by simpa using E⟩) λE=>?_
       .obtain rfl:D=1:=by simpa using O
        exact iw<|.inl ⟨_,_,rfl,S,last mk⟩
       generalize out.push (X.it r[p])++((ar X r).extract D p).reverse=out at mk ⊢;generalize ea:D=ic at mk P O E ⊢;exact F out ic s ⟨S,mk,by simp at O E;lia,by lia,by lia,P⟩
      .obtain rfl:D=p:=by lia
       exact F _ _ s ⟨S,v,by simp at e;lia,by lia,b5,P⟩
     rintro out u s ⟨S,m,H',b4,b5,M⟩;have v:=m.h1 (by lia) (by simpa using M);exact mC (x:=q[n]) (by simp)<|jg (λe=>iw<|.inl ⟨_,_,rfl,S,v.endH<|.inl<|by simpa using e⟩) λe=>jg (λ_=>iw<|.inr ⟨_,_,_,_,_,_,rfl,S,v,by simp at e;lia,by lia,H',b4,by lia⟩) λ_=>iw ⟨_,_,_,_,_,_,rfl,S,v,by simp at e;lia,by lia,H',b4,by lia⟩
    .rintro c s ⟨l,u,out,C,w,B,rfl,S,m,G,J',H',b4,b5⟩;exfalso;lia
    .rintro c s (⟨out,t,rfl,hs⟩|⟨l,u,out,C,w,B,rfl,S,i0⟩)
     .exact iw ⟨out,_,rfl,hs⟩
     .exact Eo S λs S=>iw ⟨_,_,_,_,rfl,S,i0⟩
 .rintro c s ⟨l,u,out,C,rfl,S,m,G,J',H',b4,b5⟩;exfalso;lia
 .rintro c s ⟨out,t,rfl,S,m⟩;exact iw<|h _ _ S m
end
section
variable {X:Cs}{t:Type}{Q:t->ui->Prop}{st:ui}{d:Array (Nat×Nat×Nat)}{T A B R L:ky}{i j x y n s:Nat}{o C:List (List Nat)}{r w:List (Nat×Nat×Nat)}
def PQ{c:Type}: ∀(m K T R:List c) (j a:Nat),a+j=Ix T->K.length=Ix m->(m.zipIdx j).foldl (λ(x:Array c) (p:c×Nat)=>x.setIfInBounds (a+p.2) p.1) (T++(K++R)).toArray=(T++(m++R)).toArray:=by
 intro f
 induction f with
 |nil=>intro K T R j a h b;rw[AI b];rfl
 |cons y m e=>intro K T R j a h b;obtain⟨k,K,rfl⟩:=uz (l:=K) (by simp[b]);rw[js,uB];have:=e K (T++[y]) R (j+1) a (by simp;lia) (by simpa using b);simpa[h] using this
def Rn(X:Cs):Nat->List (List Nat)->List (Nat×Nat×Nat)->Prop
 |_,[],[]=>True
 |s,A::o,p::r=>p.1=s/\p.2.1=Ix A/\A≠[]/\A.Pairwise X.le/\Rn X (s+Ix A) o r
 |_,_,_=>False
theorem Rn.cut: ∀{r:List (Nat×Nat×Nat)} {s:Nat} {o:List (List Nat)},Rn X s o (r++w)-> ∃a L2,o=a++L2/\Rn X (s+Ix a.flatten) L2 w/\ ∀M q,Rn X (s+Ix a.flatten) M q->Rn X s (a++M) (r++q)
 |[],s,o,h=>⟨[],o,rfl,h,λ_ _ h=>h⟩
 |p::r,s,[],h=>h.elim
 |p::r,s,A::o,h=>by
  obtain⟨h1,b,c,f,g⟩:=h;obtain⟨a,L2,rfl,k,l⟩:=Rn.cut g;have e:s+(A::a).flatten.length=s+Ix A+(Ix a.flatten):=by simp;lia
  exact⟨A::a,L2,rfl,e▸k,λM q h=>⟨h1,b,c,f,l M q<|e▸h⟩⟩
def Uw{s:ui}{f:PUnit->StateT ui dF t}(h:wp X (f ⟨⟩) Q s):wp X (set s>>=f) Q st:=kz λ_ g=>by rw[StateT.run_set];exact iq ⟨g,h⟩
def upA(u:A.Pairwise X.le)(v:B.Pairwise X.le)(h: ∀a∈A,∀b∈B,X.le a b):(A++B).Pairwise X.le:=wA.mpr ⟨u,v,h⟩
def Uu(a:L=T++(A++R))(b:i=Ix T)(c:j=Ix T+Ix A):(ar X L).extract i j=ar X A:=by subst a b c;simp[ar,D3]
def TQ{Q:Bool->ui->Prop}(S:Rp X d (o.flatten++R) st)(hr:Rn X 0 o d.toList)(hi:i+1<d.size)(h: ∀f9 cb gX,Rp X cb (gX.flatten++R) f9->Rn X 0 gX cb.toList->cb.size+1=d.size->Ix gX.flatten=Ix o.flatten->Q Gc f9):wp X (mergeAt' i) Q st:=by
 obtain⟨d⟩:=d
 obtain⟨H,⟨D,F,P⟩,⟨sb,K,eI⟩,Y,rfl,rfl⟩: ∃H x y Y,d=H++x::y::Y/\(Ix H)=i:=by have hi:i+1<(Ix d):=hi;exact⟨d.take i,d[i],d[i+1],d.drop<|i+2,by simp,by simp;lia⟩
 obtain⟨L1,L2,rfl,h2,h3⟩:=Rn.cut hr
 obtain⟨A,B,L2,rfl⟩: ∃A B L,L2=A::B::L:=by
  match L2,h2 with
  |A::B::L,_=>exact⟨A,B,L,rfl⟩
  |[A],h=>exact h.2.2.2.2.elim
  |[],h=>exact h.elim
 obtain⟨O,af,a1,V,hb,dQ,b1,W,h4⟩:=h2;dsimp only at O af hb dQ;obtain⟨κ',a',p',g,f'⟩:=st;have e1:a'=_:=S.a;have e2:p'=_:=S.q;subst e1 e2;rw[show(L1++A::B::L2).flatten++R=L1.flatten++(A++(B++(L2.flatten++R))) by simp] at S ⊢
 have fin: ∀f9 M,Rp X (H++(D,F+K,P)::Y).toArray (L1.flatten++(M++(L2.flatten++R))) f9->M.Perm (A++B)->M.Pairwise X.le->Q Gc f9:=λf9 M U em u=>by have em:=em.length_eq;rw[nG,<-af,<-dQ] at em;refine h _ (H++(D,F+K,P)::Y).toArray (L1++M::L2) (by simpa using U) (h3 _ _ ⟨O,em.symm,λe=>a1 ?_,u,by rwa [em,af,dQ,<-yS]⟩) (by simp;lia) (by simp;lia);exact AI (by rw[e] at em;simp at em;lia)
 have ep: ∀z,((H++(D,F,P)::(sb,K,eI)::Y).toArray.setIfInBounds (Ix H) z).eraseIdxIfInBounds (Ix H+1)=(H++z::Y).toArray:=λz=>by simp[l8,List.eraseIdx_append];intro;lia
 clear h h3 h4 hr;generalize L1.flatten=T at*;generalize L2.flatten++R=R at*;have hN: ∀z,z∈A\/z∈B->z<X.N:=λz l=>by simpa using S.p.mem_iff.mp<|rq _ (by rcases l with h|h<;>simp[h])
 obtain⟨y,B',eB⟩:=List.exists_cons_of_ne_nil b1
 have hy: ∀z∈B,X.le y z:=λz l=>by
  rw[eB] at W l;rcases ku.mp l with rfl|l
  .exact X.rf _
  .exact(AA.mp W).1 z l
 refine pV ?_;dsimp only;rw[show(H++(D,F,P)::(sb,K,eI)::Y).toArray[Ix H]?=FM (D,F,P) by simp,show(H++(D,F,P)::(sb,K,eI)::Y).toArray[Ix H+1]?=FM (sb,K,eI) by simp];dsimp only;rw[ep];refine Uw<|mC (x:=y) (by rw[eB];exact ix0<|by lia)<|kz<|zm S.k (λz h=>hN z<|.inl h) (hN y<|.inr<|by simp[eB]) V I (by lia) af.symm (by have:=QN.mpr a1;lia) λk hk t1 t2=>?_;have S2:Rp X (H++(D,F+K,P)::Y).toArray (T++(A++(B++R))) (SortSt.mk' κ' (ar X<|T++(A++(B++R))) (H++(D,F+K,P)::Y).toArray g f'):=⟨rfl,S.k,S.f,rfl,S.p⟩
 have done:(∀a∈A,X.le a y)->Q Gc (SortSt.mk' κ' (ar X<|T++(A++(B++R))) (H++(D,F+K,P)::Y).toArray g f'):=λz=>fin _ (A++B) (by simpa using S2) (.refl _) (upA V W λa O b hb=>X.tr (z a O)<|hy b hb);rw[af] at hk;obtain⟨v,E,rfl,rfl⟩: ∃v E,A=v++E/\(Ix v)=k:=⟨A.take k,A.drop k,by simp,by simp;lia⟩
 have t1: ∀z∈v,X.le z y:=λz l=>by simpa using t1 z (by simpa using l)
 have t2: ∀z∈E,X.le y z:=λz l=>X.as _ _ (by simpa using t2 z<|by simpa using l);rw[nG] at af hb;dsimp only;rcases MD E with e|⟨A3,x,e⟩
 .subst e;rw[iF<|by simp[af]];exact iw<|done (by simpa using t1)
 rw[MC] at e;have l1:0<(Ix E):=by simp[e]
 rw[iL<|by simp;lia];refine mC (x:=x) (by rw[e,show T++(v++(A3++[x])++(B++R))=T++((v++A3)++x::(B++R)) by simp];exact ix0 (by have:=nM c9 e;simp at this ⊢;lia))<|kz<|zm (T:=T++(v++E)) (R:=R) S.k (λz h=>hN z<|.inr h) (hN x<|.inl<|by simp[e]) W (by rw[<-rm]) (by simp;lia) dQ.symm (by have:=QN.mpr b1;lia) λk2 cK t3 t4=>?_;rw[dQ] at cK;obtain⟨I',J,rfl,rfl⟩: ∃I' J,B=I'++J/\(Ix I')=k2:=⟨B.take k2,B.drop k2,by simp,by simp;lia⟩
 have v3: ∀z∈I',X.le z x:=λz l=>X.as _ _ (by simpa using t3 z<|by simpa using l);have v4: ∀z∈J,X.le x z:=λz l=>by simpa using t4 z (by simpa using l)
 have lx: ∀a∈v++E,X.le a x:=by rw[e,<-rm] at V ⊢;exact Gp X.tr V<|X.rf x
 cases I' with
 |nil=>exact iw<|done λa O=>X.tr (lx a O)<|v4 y (by simp[show J=y::B' from eB])
 |cons b I'=>
  obtain rfl:b=y:=(sh eB).1;refine jg (λc=>by simp at c) λ_=>?_;rw[Uu (A:=E) (T:=T++v) (R:=b::I'++J++R) (by simp) (by simp;lia)<|by simp;lia,Uu (A:=b::I') (T:=T++(v++E)) (R:=J++R) (by simp) (by simp;lia)<|by simp;lia]
  have Z: ∀G s,Rp X (H++(D,F+K,P)::Y).toArray (T++(v++E++(b::I'++J++R))) s->Rs X (E++b::I') G->Q (fq s).isNone (setArr s<|G.toList.zipIdx.foldl (λa x=>a.setIfInBounds (D+Ix v+x.2) x.1)<|eU s):=λG s U ho=>by
   obtain⟨M,rfl,u,hp⟩:=ho;rw[U.f,U.a];refine fin _ (v++(M++J)) ⟨?_,U.k,U.f,U.q,B0 ?_ U.p⟩ ?_ ?_
   .have:=PQ (M.map X.it) ((E++b::I').map X.it) ((T++v).map X.it) ((J++R).map X.it) 0 (D+Ix v) (by simp;lia) (by simpa using hp.length_eq.symm);simpa[ar] using this
   .simpa using(((hp.append_right<|J++R).append_left v).append_left T)
   .simpa using((hp.append_right J).append_left v)
   .rw[wA] at V W;refine upA V.1 (upA u W.2.1 λa O c m=>?_) λa O c m=>?_
    .rcases rY.mp (hp.mem_iff.mp O) with O|O
     .exact X.tr (lx a<|by simp[O]) (v4 c m)
     .exact W.2.2 a O c m
    .have m:c∈E\/c∈b::I'++J:=by
      rcases rY.mp m with m|m
      .rcases rY.mp (hp.mem_iff.mp m) with m|m
       .exact .inl m
       .exact .inr (En _ m)
      .exact .inr (rq _ m)
     rcases m with m|m
     .exact V.2.2 a O c m
     .exact X.tr (t1 a O) (hy c m)
  have hd: ∀z∈E,X.le (b::I')[0] z:=t2;have top: ∀z∈b::I',X.le z E[Ix E-1]:=λz l=>by subst e;simpa using v3 z l
  have l2:0<(b::I').length:=by simp
  have h3: ∀z∈E,z<X.N:=λz l=>hN z<|.inl (by simp[l]);have h4: ∀z∈b::I',z<X.N:=λz l=>hN z<|.inr<|En _ l;have u1:=(wA.mp V).2.1;have u2:=(wA.mp W).1;exact jg (λc=>kz<|WR S2 u1 u2 h3 h4 l1 l2 hd top λG s U ho=>wV<|pV<|iw<|Z G s U ho) λc=>kz<|WT S2 u1 u2 h3 h4 l1 l2 hd top λG s U ho=>wV<|pV<|iw<|Z G s U ho
end
section
variable {X:Cs}{st:ui}{b:Array (Nat×Nat×Nat)}{A L:ky}
theorem Rn.mod{w:Nat}: ∀{c:List (Nat×Nat×Nat)} {s:Nat} {a:List (List Nat)} (i:Nat),Rn X s a c->Rn X s a (c.modify i λx=>(x.1,x.2.1,w))
 |[],s,a,i,h=>by cases i<;>exact h
 |p::c,s,[],i,h=>h.elim
 |p::c,s,A::a,0,h=>h
 |p::c,s,A::a,i+1,h=>⟨h.1,h.2.1,h.2.2.1,h.2.2.2.1,Rn.mod i h.2.2.2.2⟩
theorem Rn.le: ∀{c:List (Nat×Nat×Nat)} {s:Nat} {a:List (List Nat)},Rn X s a c->Ix c<=Ix a.flatten
 |[],s,a,h=>mr _
 |p::c,s,[],h=>h.elim
 |p::c,s,A::a,h=>by have:=Rn.le h.2.2.2.2;have:=QN.mpr h.2.2.1;simp at*;omega
theorem Rn.push{A:ky}{w:Nat}: ∀{d:List (Nat×Nat×Nat)} {s:Nat} {c:List (List Nat)},Rn X s c d->A≠[]->A.Pairwise X.le->Rn X s (c++[A]) (d++[(s+Ix c.flatten,Ix A,w)])
 |[],s,[],h,a,u=>⟨rfl,rfl,a,u,trivial⟩
 |[],s,A::c,h,a,u=>h.elim
 |p::d,s,[],h,a,u=>h.elim
 |p::d,s,B::c,h,a,u=>⟨h.1,h.2.1,h.2.2.1,h.2.2.2.1,by simpa[yS] using Rn.push (w:=w) h.2.2.2.2 a u⟩
def QV{Q:Unit->ui->Prop}(S:Rp X #[] L st)(h: ∀E b L,Rp X b L E->L.Pairwise X.le->Q () E):wp X sortRuns' Q st:=by
 have I:(eU st).size=X.N:=by rw[S.a];simpa using S.p.length_eq
 have y: ∀{b L st},Rp X b L st->Ix L=X.N:=λS=>by simpa using S.p.length_eq
 rw[sortRuns'_eq];refine pV ?_;rw[I];dsimp only;refine mV (λi c s=> ∃b,∃g:List (List Nat),∃R,c=(F2,Ix g.flatten)/\Rp X b (g.flatten++R) s/\Rn X 0 g b.toList/\i<=Ix g.flatten) (λc s=>c.1=F2/\ ∃b g,Rp X b g.flatten s/\Rn X 0 g b.toList) ⟨#[],[],L,rfl,S,trivial,mr _⟩ ?_ ?_ ?_
 .rintro i c s t ⟨b,g,R,rfl,S,d,o⟩;have r:=y S;dsimp only;refine jg (λe=>?_) λe=>?_
  .obtain rfl:R=[]:=AI (by simp at r e;omega);exact iw ⟨rfl,b,g,by simpa using S,d⟩
  obtain⟨x,R,rfl⟩:=uz (l:=R) (by simp at r e;omega);refine kz<|MZ S H8 (by simp at r ⊢;omega) λA R s S a1 u M=>?_;apply MY λn s=> ∃A R,n=Ix A/\Rp X b (g.flatten++(A++R)) s/\A≠[]/\A.Pairwise X.le
  .intro F;have T:=QN.mpr a1;refine jg (λe=>?_) λe=>?_
   .refine vn (kz<|Uy S H8 H8 T (by simp at r;omega) (by omega) u λA R s S o u=>jg (λc=>by simp at c) λ_=>?_);generalize J:min (X.N-Ix g.flatten) (minRun' X.N X.N 0)=n at o ⊢;exact F n s ⟨A,R,o.symm,S,by intro z;subst z;simp at o e;omega,u⟩
   .exact F (Ix A) s ⟨A,R,rfl,S,a1,u⟩
  rintro _ s ⟨A,R,rfl,S,a1,u⟩;refine pV ?_;apply TR λs=> ∃b m,Rp X b (m.flatten++(A++R)) s/\Rn X 0 m b.toList/\(Ix m.flatten)=Ix g.flatten
  .intro F;rw[S.q]
   cases b.back? with
   |none=>exact F s ⟨b,g,S,d,rfl⟩
   |some z=>
    refine mV (λ_ c s=>c=(F2,())/\ ∃b m,Rp X b (m.flatten++(A++R)) s/\Rn X 0 m b.toList/\(Ix m.flatten)=Ix g.flatten) (λc s=>c=(F2,())/\ ∃b m,Rp X b (m.flatten++(A++R)) s/\Rn X 0 m b.toList/\(Ix m.flatten)=Ix g.flatten) ⟨rfl,b,g,S,d,rfl⟩ ?_ (λ_ _ h=>h) ?_
    .rintro j c s _ ⟨rfl,b,m,S,d,o⟩;refine pV ?_;rw[S.q]
     cases H:(if b.size>1 then b[b.size-2]? else F2) with
     |none=>exact iw ⟨rfl,b,m,S,d,o⟩
     |some z=>
      refine jg (λ_=>iw ⟨rfl,b,m,S,d,o⟩) λ_=>kz<|TQ S d ?_ λs v w S d _ O=>jg (λc=>by simp at c) λ_=>iw ⟨rfl,v,w,S,d,O.trans o⟩;split at H
      .omega
      .cases H
    .rintro c s ⟨rfl,b,m,S,d,o⟩;exact wV<|F _ ⟨_,m,⟨S.a,S.k,S.f,rfl,S.p⟩,by rw[S.q,Array.toList_modify];exact d.mod _,o⟩
  .rintro s ⟨b,m,S,d,o⟩;refine wV<|iw ⟨_,m++[A],R,?_,⟨by simpa using S.a,S.k,S.f,rfl,by simpa using S.p⟩,?_,?_⟩
   .rw[List.flatten_append,nG,o];simp
   .rw[S.q,ez,<-o,<-uA (Ix m.flatten)];exact d.push a1 u
   .have:=QN.mpr a1;simp at*;omega
 .rintro c s ⟨b,g,R,rfl,S,d,o⟩;have r:=y S;obtain rfl:R=[]:=AI (by simp at r o;omega);exact⟨rfl,b,g,by simpa using S,d⟩
 .rintro⟨_,c⟩ s ⟨rfl,b,g,S,d⟩;have r:=y S;have G:=d.le;refine mV (λi c s=>c=(F2,())/\ ∃b g,Rp X b g.flatten s/\Rn X 0 g b.toList/\(b.size<=1\/b.size+i<=X.N)) (λc s=>c=(F2,())/\ ∃b g,Rp X b g.flatten s/\Rn X 0 g b.toList/\b.size<=1) ⟨rfl,b,g,S,d,.inr<|by rw[kG] at G;omega⟩ ?_ ?_ ?_
  .rintro i c s _ ⟨rfl,b,g,S,d,t⟩;refine pV ?_;rw[S.q];refine jg (λe=>iw ⟨rfl,b,g,S,d,e⟩) λe=>kz<|TQ (R:=[]) (by simpa using S) d ((λc:Bool=>show(if c=U then b.size-2-1 else b.size-2)+1<b.size by split<;>omega) _) λs v w S d I _=>jg (λc=>by simp at c) λ_=>iw ⟨rfl,v,w,by simpa using S,d,.inr<|by omega⟩
  .rintro c s ⟨rfl,b,g,S,d,t⟩;exact⟨rfl,b,g,S,d,by omega⟩
  .rintro c s ⟨rfl,b,g,S,d,t⟩;refine iw<|h s b _ S ?_;obtain⟨C'⟩:=b
   match C',g,d,t with
   |[],[],_,_=>exact .nil
   |[p],[A],d,_=>simpa using d.2.2.2.1
   |p::[],A::B::g,d,_=>exact d.2.2.2.2.elim
   |[],A::g,d,_=>exact d.elim
   |p::C',[],d,_=>exact d.elim
   |p::U'::C',g,d,t=>simp at t
end
end TS
namespace PX
open PySem PySem.Spec PyProof.Rows L2 PySem.SeqAt
open PySem.AutoSeq1 (wpAny_loadPart')
open PySem.MeetsSeq PySem.MeetsSeq2 PySem.MeetsSeq3
noncomputable def kf(op:cz)(i j:Int):Bool:=match op with
 | .Lt=>decide (i<j)| .LtE=>decide (i<=j)| .Gt=>decide (i>j)|_=>decide<|i>=j
def rR(op:cz):Prop:=op= .Lt\/op= .LtE\/op= .Gt\/op= .GtE
def TL(op:cz)(A:iP)(s:il)(y x:iC)(b:Bool):Prop:= ∀(a:iU) (w:iK) (E:jf) (Q:jf),Q (.bool b) s->ae (ag a w) A (richCompare op y x) Q E s
def Ck(op:cz)(A:iP)(s:il)(fin:Bool):List (iC×iC)->Bool->Prop
 |[],r=>r=fin
 |(y,x)::iW,r=> ∃e,EqAt A s y x e/\(if e=U then Ck op A s fin iW r else TL op A s y x r)
def M9(l b:hV)(a i:nI)(n v:Nat)(dd Q:Option hV)(z B:zR)(r:Bool):
  fV (aZ.«tuple.__lt__» ⟨[.ref l,.ref b],[]⟩) (λA R s=>s.heap.get? l=Y {cls:= .type "tuple",dict:=dd,data:= .seq a n,slots:=z}/\s.heap.get? b=Y {cls:= .type "tuple",dict:=Q,data:= .seq i v,slots:=B}/\
   Ck .Lt A.in1 s (kf .Lt a.size i.size) (a.toList.zip i.toList) r/\R (.ok<|.ret<|.bool r) s):=
 .of_wp λf w A R s h=>by
  obtain⟨m,g,d,o,os⟩:=s;obtain⟨u,q,c,h⟩:=h;have f2:=D1
  wp_walk using bI u,bI q,se _ (λiW b k=>b.1=J/\k=⟨m,g,d,o,os⟩/\Ck .Lt A.in1 ⟨m,g,d,o,os⟩ (kf .Lt a.size i.size) iW r) _
  case turn=>
   rintro⟨y,x⟩ iW b k ⟨j,rfl,e,t,c⟩;refine hU<|t f w _ _ ?_
   cases e with
   |true=>
    simp only[kr] at c
    wp_walk
    exact⟨rfl,rfl,c⟩
   |false=>
    simp only[jF,kb] at c;have p:=c f w
    wp_walk using p
    exact⟨_,rfl,by simpa using h⟩
  case fin=>
   rintro⟨E,T⟩ k ⟨j,rfl,c⟩;simp only at j;subst j;have c:r=kf .Lt a.size i.size:=c;rw[c] at h
   wp_walk
   exact⟨_,rfl,by simpa[bA,kf] using h⟩
  case h=>exact⟨rfl,rfl,c⟩
def Na(l b:hV)(a i:nI)(n v:Nat)(dd Q:Option hV)(z B:zR)(r:Bool):
  fV (aZ.«tuple.__le__» ⟨[.ref l,.ref b],[]⟩) (λA R s=>s.heap.get? l=Y {cls:= .type "tuple",dict:=dd,data:= .seq a n,slots:=z}/\s.heap.get? b=Y {cls:= .type "tuple",dict:=Q,data:= .seq i v,slots:=B}/\
   Ck .LtE A.in1 s (kf .LtE a.size i.size) (a.toList.zip i.toList) r/\R (.ok<|.ret<|.bool r) s):=
 .of_wp λf w A R s h=>by
  obtain⟨m,g,d,o,os⟩:=s;obtain⟨u,q,c,h⟩:=h;have f2:=D1
  wp_walk using bI u,bI q,se _ (λiW b k=>b.1=J/\k=⟨m,g,d,o,os⟩/\Ck .LtE A.in1 ⟨m,g,d,o,os⟩ (kf .LtE a.size i.size) iW r) _
  case turn=>
   rintro⟨y,x⟩ iW b k ⟨j,rfl,e,t,c⟩;refine hU<|t f w _ _ ?_
   cases e with
   |true=>
    simp only[kr] at c
    wp_walk
    exact⟨rfl,rfl,c⟩
   |false=>
    simp only[jF,kb] at c;have p:=c f w
    wp_walk using p
    exact⟨_,rfl,by simpa using h⟩
  case fin=>
   rintro⟨E,T⟩ k ⟨j,rfl,c⟩;simp only at j;subst j;have c:r=kf .LtE a.size i.size:=c;rw[c] at h
   wp_walk
   exact⟨_,rfl,by simpa[bA,kf] using h⟩
  case h=>exact⟨rfl,rfl,c⟩
def Nb(l b:hV)(a i:nI)(n v:Nat)(dd Q:Option hV)(z B:zR)(r:Bool):
  fV (aZ.«tuple.__gt__» ⟨[.ref l,.ref b],[]⟩) (λA R s=>s.heap.get? l=Y {cls:= .type "tuple",dict:=dd,data:= .seq a n,slots:=z}/\s.heap.get? b=Y {cls:= .type "tuple",dict:=Q,data:= .seq i v,slots:=B}/\
   Ck .Gt A.in1 s (kf .Gt a.size i.size) (a.toList.zip i.toList) r/\R (.ok<|.ret<|.bool r) s):=
 .of_wp λf w A R s h=>by
  obtain⟨m,g,d,o,os⟩:=s;obtain⟨u,q,c,h⟩:=h;have f2:=D1
  wp_walk using bI u,bI q,se _ (λiW b k=>b.1=J/\k=⟨m,g,d,o,os⟩/\Ck .Gt A.in1 ⟨m,g,d,o,os⟩ (kf .Gt a.size i.size) iW r) _
  case turn=>
   rintro⟨y,x⟩ iW b k ⟨j,rfl,e,t,c⟩;refine hU<|t f w _ _ ?_
   cases e with
   |true=>
    simp only[kr] at c
    wp_walk
    exact⟨rfl,rfl,c⟩
   |false=>
    simp only[jF,kb] at c;have p:=c f w
    wp_walk using p
    exact⟨_,rfl,by simpa using h⟩
  case fin=>
   rintro⟨E,T⟩ k ⟨j,rfl,c⟩;simp only at j;subst j;have c:r=kf .Gt a.size i.size:=c;rw[c] at h
   wp_walk
   exact⟨_,rfl,by simpa[bA,kf] using h⟩
  case h=>exact⟨rfl,rfl,c⟩
def Nc(l b:hV)(a i:nI)(n v:Nat)(dd Q:Option hV)(z B:zR)(r:Bool):
  fV (aZ.«tuple.__ge__» ⟨[.ref l,.ref b],[]⟩) (λA R s=>s.heap.get? l=Y {cls:= .type "tuple",dict:=dd,data:= .seq a n,slots:=z}/\s.heap.get? b=Y {cls:= .type "tuple",dict:=Q,data:= .seq i v,slots:=B}/\
   Ck .GtE A.in1 s (kf .GtE a.size i.size) (a.toList.zip i.toList) r/\R (.ok<|.ret<|.bool r) s):=
 .of_wp λf w A R s h=>by
  obtain⟨m,g,d,o,os⟩:=s;obtain⟨u,q,c,h⟩:=h;have f2:=D1
  wp_walk using bI u,bI q,se _ (λiW b k=>b.1=J/\k=⟨m,g,d,o,os⟩/\Ck .GtE A.in1 ⟨m,g,d,o,os⟩ (kf .GtE a.size i.size) iW r) _
  case turn=>
   rintro⟨y,x⟩ iW b k ⟨j,rfl,e,t,c⟩;refine hU<|t f w _ _ ?_
   cases e with
   |true=>
    simp only[kr] at c
    wp_walk
    exact⟨rfl,rfl,c⟩
   |false=>
    simp only[jF,kb] at c;have p:=c f w
    wp_walk using p
    exact⟨_,rfl,by simpa using h⟩
  case fin=>
   rintro⟨E,T⟩ k ⟨j,rfl,c⟩;simp only at j;subst j;have c:r=kf .GtE a.size i.size:=c;rw[c] at h
   wp_walk
   exact⟨_,rfl,by simpa[bA,kf] using h⟩
  case h=>exact⟨rfl,rfl,c⟩
section
variable {A:iP}{s:il}{l b:hV}{a c:nI}{r:Bool}
def Nz(B:rR op)(z:s.heap.IsTuple l a)(y:s.heap.IsTuple b c)(g:A.units<aX)(i:Ck op A.in1 s (kf op a.size c.size) (a.toList.zip c.toList) r):TL op A s (.ref l) (.ref b) r:=λt w E Q h=>by
 obtain⟨⟨v,dd,p,k⟩,e,q,n,hd⟩:=id z;obtain⟨⟨T,o,data2,m⟩,d,u,j,f⟩:=id y;simp only at q hd u f;subst q hd u f;rcases B with rfl|rfl|rfl|rfl
 .exact DZ (op:= .Lt) ⟨_,e,rfl⟩ ⟨_,d,rfl⟩ PySem.F.slot_tuple_lt PySem.F.entry_tuple_lt (PySem.F.args_tuple_lt_2 _ _) (M9 l b a c n j dd o k m r) ⟨e,d,i,show c6 r≠cH/\Q (.bool r) s from⟨(λx=>nomatch x),h⟩⟩ g
 .exact DZ (op:= .LtE) ⟨_,e,rfl⟩ ⟨_,d,rfl⟩ PySem.F.slot_tuple_le PySem.F.entry_tuple_le (PySem.F.args_tuple_le_2 _ _) (Na l b a c n j dd o k m r) ⟨e,d,i,show c6 r≠cH/\Q (.bool r) s from⟨(λx=>nomatch x),h⟩⟩ g
 .exact DZ (op:= .Gt) ⟨_,e,rfl⟩ ⟨_,d,rfl⟩ PySem.F.slot_tuple_gt PySem.F.entry_tuple_gt (PySem.F.args_tuple_gt_2 _ _) (Nb l b a c n j dd o k m r) ⟨e,d,i,show c6 r≠cH/\Q (.bool r) s from⟨(λx=>nomatch x),h⟩⟩ g
 .exact DZ (op:= .GtE) ⟨_,e,rfl⟩ ⟨_,d,rfl⟩ PySem.F.slot_tuple_ge PySem.F.entry_tuple_ge (PySem.F.args_tuple_ge_2 _ _) (Nc l b a c n j dd o k m r) ⟨e,d,i,show c6 r≠cH/\Q (.bool r) s from⟨(λx=>nomatch x),h⟩⟩ g
end
mutual
noncomputable def mR(a:cz):D->D->Option Bool
 | .int i,.int j=>Y<|kf a i j
 | .tup l,.tup m=>nF a l m
 |_,_=>J
noncomputable def nF(a:cz):List D->List D->Option Bool
 |[],m=>Y<|kf a 0<|Ix m
 |x::l,[]=>Y<|kf a ((x::l).length) 0
 |x::l,y::m=>if D.eqb x y=U then nF a l m else mR a x y
end
def tj(c:cz)(a b k:Int):kf c (a+k) (b+k)=kf c a b:=by
 cases c<;>simp[kf]
section
variable {X:Cx}{c:ji}{f:L2.St}{H:Hp}{s:il}
def FX(b:rR op):TL op A s (.int i t) (.int j u) (kf op i j):=λa w E Q h=>by
 rcases b with rfl|rfl|rfl|rfl
 .exact(ta h:ae (ag a w) A (ap .Lt _ _) Q E s)
 .exact(tc h:ae (ag a w) A (ap .LtE _ _) Q E s)
 .exact(te h:ae (ag a w) A (ap .Gt _ _) Q E s)
 .exact(th h:ae (ag a w) A (ap .GtE _ _) Q E s)
def NA(N:rR op)(I:Inv X c f H s): ∀(n:Nat) (d e:D) (v u:V) (a b:iC) (O B:AP') (A:iP) (r:Bool),kj X.K H O d v->kj X.K H B e u->RelV v a->RelV u b->d.dep<=n->e.dep<20000->A.units+n<aX->mR op d e=FM r->TL op A s a b r:=by
 intro n
 induction n with
 |zero=>
  intro d e v u a b O B A r hd T G J M W hA g
  cases d with
  |int i=>
   cases e with
   |int j=>have:=jd hd;subst this;have:=jd T;subst this;obtain⟨t,rfl⟩:=G;obtain⟨t',rfl⟩:=J;rw[mR] at g;rw[<-kP g];exact FX N
   |_=>rw[mR] at g<;>first|cases g|(intros;simp_all)
  |tup l=>rw[D.dep] at M;lia
  |_=>rw[mR] at g<;>first|cases g|(intros;simp_all)
 |succ n ih=>
  intro d e v u a b O B A r hd T G J M W hA g
  cases d with
  |int i=>
   cases e with
   |int j=>have:=jd hd;subst this;have:=jd T;subst this;obtain⟨t,rfl⟩:=G;obtain⟨t',rfl⟩:=J;rw[mR] at g;rw[<-kP g];exact FX N
   |_=>rw[mR] at g<;>first|cases g|(intros;simp_all)
  |tup l=>
   cases e with
   |tup m=>
    rw[mR] at g;rw[D.dep] at M W;obtain⟨p,E,rfl,q,z⟩:=ma hd;obtain⟨p2,L,rfl,q2,o⟩:=ma T;cases G;cases J;obtain⟨h,Q,pl,_⟩:=I.tuple q;obtain⟨w,C,h8,_⟩:=I.tuple q2;have S:A.in1.units=A.units+1:=rfl
    have Y: ∀(l m:List D) (E L:List V) (h w:jN) (k:Int),D.depL l+1<=n+1->D.depL m<20000->RepL X.K H O l E->RepL X.K H B m L->Vals E h->Vals L w->nF op l m=FM r->Ck op A.in1 s (kf op (h.length+k)<|w.length+k) (h.zip w) r:=by
     intro l
     induction l with
     |nil=>
      intro m E L h w k F P z o Q C g;rw[RepL] at z;subst z;cases Q;rw[nF] at g;have e1:=o.length;have e2:=C.length;show r=_;rw[tj,<-kP g]
      congr 1
      lia
     |cons x l U'=>
      intro m E L h w k F P z o Q C g;rw[RepL] at z;obtain⟨Z,xr,rfl,g1,g2⟩:=z
      cases Q with
      |cons a1 a2=>
       cases m with
       |nil=>
        rw[RepL] at o;subst o;cases C;rw[nF] at g;have e1:=g2.length;have e2:=a2.length;rw[gD];show r=_;rw[tj,<-kP g]
        congr 1
        simp only[kI];lia
       |cons y m=>
        rw[RepL] at o;obtain⟨vy,yr,rfl,g3,g4⟩:=o
        cases C with
        |cons b1 b2=>
         rw[nF] at g;rw[D.depL] at F P;rw[uy];refine⟨D.eqb x y,BP I n x y Z vy _ _ O B A.in1 (.inl g1) (.inl g3) a1 b1 (by lia) (by lia) (by rw[S];lia),?_⟩
         cases R:D.eqb x y with
         |true=>
          rw[R,iF H8] at g;rw[iF H8];have:=U' m xr yr _ _ (k+1) (by lia) (by lia) g2 g4 a2 b2 g;simp only[kI];have e: ∀a:Nat,(((a+1:Nat):Int)+k)=(a:Int)+(k+1):=λa=>by lia
          rw[e,e];exact this
         |false=>rw[R,iL kF] at g;rw[iL kF];exact ih x y Z vy _ _ O B A.in1 r (.inl g1) (.inl g3) a1 b1 (by lia) (by lia) (by rw[S];lia) g
    have:=Y l m E L h w 0 (by lia) (by lia) z o Q C g;refine Nz N pl h8 (by lia) ?_;simpa using this
   |_=>rw[mR] at g<;>first|cases g|(intros;simp_all)
  |_=>rw[mR] at g<;>first|cases g|(intros;simp_all)
def lr(a:cz)(d e:D):Option (D×Bool):=if d.dep<=50/\e.dep<=50 then(mR a d e).map λb=>(.bl b,C) else J
def lJ(b:rR op)(l:X.A.units+60<aX):OpR X (ap op) (rD X.K<|lr op):=by
 intro c s f H x y v u Q T j k h;obtain⟨O,d,e,z,np,h1,g,a,G⟩:=h;unfold lr at a;split at a
 .rename_i hd;obtain⟨r,i,rfl⟩:=jB a;have:=NA b T 50 d e x y v u O O X.A r h1 g j k hd.1 (by lia) (by lia) i X.prog X.w X.xe (EP X c f Q) ⟨.bl r,H,T,rfl,G.bl⟩;rcases b with rfl|rfl|rfl|rfl<;>exact this
 .cases a
end
open TS
section
variable {b:iU}{w:iK}{A:iP}{E:jf}{s:il}
noncomputable def qv(h:iO)(a:hV)(c:jN):Heap:=((h.update a<|aE λ_=> #[]).push<|bg "tuple" c.toArray 0).push<|bg "list" #[] 0
noncomputable def Pw(a:jN)(i:Nat):Keyed:=(a.getD i am,a.getD i am)
def wt{a:hV}{c:jN}{n:Nat}{P:ss->il->Prop}{κ:l3}{lt:Nat->Nat->Bool}(t:s.heap.get? a=FM (bg "list" c.toArray n))(B:(Ix c)<=sizeLine)(T: ∀i j,lt i j=Gc->lt j i=Go)(N: ∀{i j k},lt j i=Go->lt k j=Go->lt k i=Go)
  (hk:2<=Ix c->ae (ag b w) A (keyKind' c.toArray) (λg d=>d={s with heap:=qv s.heap a c}/\g=κ) (λ_ _=>False) {s with heap:=qv s.heap a c})
  (ask:2<=Ix c->Ask (ag b w) A (λd=>d={s with heap:=qv s.heap a c}) (Pw c) κ (Ix c) lt)
  (h: ∀p:List Nat,p.Perm (aj<|Ix c)->p.Pairwise (λi j=>lt j i=Go)->P (.done<|.ret .none) {s with heap:=(qv s.heap a c).update a (aE λ_=>(p.map λi=>c.getD i am).toArray)}):
  ae (ag b w) A (aZ.«list.sort» ⟨[.ref a],[]⟩) P E s:=by
 rw[list_sort_plain];have U:a<s.heap.objs.size:=jl t;refine hU<|G8 t H8<|hU<|wG t H8 ?_ (by rw[jw];exact B)<|mr _;obtain⟨v,I⟩: ∃v,(s.heap.update a<|aE λ_=>(#[]:Array iC)).get? a=FM (bg "list" #[] v):=⟨_,yR t λ_=> #[]⟩
 refine hU<|AG I H8<|hU<|D9 ?_ (by show (Ix c)<=_;exact B);refine hU<|DY ?_<|mr _;refine lZ ?_;have q:(qv s.heap a c).get? a=FM (bg "list" #[] v):=jS _ (jS _ I);show ae (ag b w) A _ P E {s with heap:=qv s.heap a c};dsimp only;by_cases l:c.toArray.size<2
 .rw[iF l,iF l];refine hU<|iq ?_;rw[Hb];refine hU<|iq ?_;dsimp only;refine hU<|AG q H8<|hU<|wG q H8 ?_ (mr _) ?_
  .simp only[vZ,jF,kb];refine iq ?_;have u:(Ix c)<2:=by simpa using l
   have:=h (aj<|Ix c) (wF _) (by rw[QD];intro i j m J Y;simp at m J;lia)
   have e:((c.toArray.zip c.toArray).map (·.2))=((aj<|Ix c).map λi=>c.getD i am).toArray:=by
    apply t6
    .simp
    .intro i h1 G;have m:i<(Ix c):=by simpa using h1
     simp[m]
   rw[e];exact this
  .rw[mi,me];simp;lia
 .rw[iL l,iL l];have u:2<=(Ix c):=by simpa using l
  refine hU<|pU (hk u) (λg d z=>?_) λ_ _ x=>x.elim;obtain⟨rfl,rfl⟩:=z;refine hU (pU (QV (X:=⟨_,A,E,λd=>d={s with heap:=qv s.heap a c},Pw c,lt,g,Ix c,T,N,ask u⟩) (L:=aj<|Ix c) ⟨?_,rfl,rfl,rfl,.refl _⟩ (Q:=λ_ r=> ∃p,(eU r).map (·.2)=(p.map λi=>c.getD i am).toArray/\fq r=F2/\p.Perm (aj<|Ix c)/\p.Pairwise λi j=>lt j i=Go) (λr _ p R y=>⟨p,?_,R.f,R.p,y⟩) _ rfl) ?_ λ_ _ e=>e)
  .show c.toArray.zip c.toArray=_;apply t6
   .simp
   .intro i h1 G;have m:i<(Ix c):=by simpa using h1
    simp[Pw,m]
  .rw[R.a];simp[Pw]
  rintro⟨⟨⟩,r⟩ d ⟨rfl,C,o,O,H,y⟩;dsimp only;have M:(Ix C)=(Ix c):=by simpa using H.length_eq
  refine hU<|AG q H8<|hU<|wG q H8 ?_ (mr _) ?_
  .rw[O];simp only[vZ,jF,kb];rw[o];exact iq<|h C H y
  .rw[o,jw,jz,M];lia
end
mutual
noncomputable def cT:D->D->Ordering
 | .int i,.int j=>if i<j then .lt else if i=j then .eq else .gt
 | .int _,_=> .lt
 | .tup _,.int _=> .gt
 | .tup l,.tup m=>cL l m
 | .tup _,_=> .lt
 |_,.int _=> .gt
 |_,.tup _=> .gt
 |_,_=> .eq
noncomputable def cL:List D->List D->Ordering
 |[],[]=> .eq
 |[],_::_=> .lt
 |_::_,[]=> .gt
 |x::l,y::m=>match cT x y with
  | .lt=> .lt
  | .gt=> .gt
  | .eq=>cL l m
end
mutual
theorem Kr: ∀x:D,cT x x= .eq
 | .int i=>by simp[cT]
 | .tup l=>by rw[cT];exact Kt l
 | .non=>by simp[cT]
 | .bl _=>by simp[cT]
 | .str _=>by simp[cT]
 | .lst _=>by simp[cT]
 | .oth _ _ _=>by simp[cT]
theorem Kt: ∀l:List D,cL l l= .eq
 |[]=>by simp[cL]
 |x::l=>by rw[cL,Kr x];exact Kt l
end
mutual
theorem yE: ∀x y:D,cT y x=(cT x y).swap
 | .int i,.int j=>by
  rw[cT,cT];by_cases h1:i<j
  .rw[iF h1,iL<|by lia,iL<|by lia];rfl
  .rw[iL h1];by_cases a:i=j
   .rw[iF a,iL<|by lia,iF a.symm];rfl
   .rw[iL a,iF<|by lia];rfl
 | .tup l,.tup m=>by rw[cT,cT];exact Ks l m
 | .int _,.tup _=>by simp[cT]
 | .int _,.non=>by simp[cT]
 | .int _,.bl _=>by simp[cT]
 | .int _,.str _=>by simp[cT]
 | .int _,.lst _=>by simp[cT]
 | .int _,.oth _ _ _=>by simp[cT]
 | .tup _,.int _=>by simp[cT]
 | .tup _,.non=>by simp[cT]
 | .tup _,.bl _=>by simp[cT]
 | .tup _,.str _=>by simp[cT]
 | .tup _,.lst _=>by simp[cT]
 | .tup _,.oth _ _ _=>by simp[cT]
 | .non,y=>by cases y<;>simp[cT]
 | .bl _,y=>by cases y<;>simp[cT]
 | .str _,y=>by cases y<;>simp[cT]
 | .lst _,y=>by cases y<;>simp[cT]
 | .oth _ _ _,y=>by cases y<;>simp[cT]
theorem Ks: ∀l m:List D,cL m l=(cL l m).swap
 |[],[]=>by simp[cL]
 |[],_::_=>by simp[cL]
 |_::_,[]=>by simp[cL]
 |x::l,y::m=>by
  rw[cL,cL,yE x y];cases h:cT x y<;>simp[fc]
  exact Ks l m
end
def Pa(h1:cT x y≠ .gt)(a:cT y x≠ .gt):cT x y= .eq:=by
 rw[yE x y] at a
 cases h:cT x y with
 |lt=>rw[h] at a;exact absurd I a
 |eq=>rfl
 |gt=>exact absurd h h1
mutual
theorem yD: ∀x y z:D,cT x y≠ .gt->cT y z≠ .gt->cT x z≠ .gt
 | .int i,y,z,h1,d=>by
  cases z with
  |int k=>
   cases y with
   |int j=>
    rw[cT] at h1 d ⊢
    have a:i<=j:=by
     by_cases a:i<j
     .lia
     .rw[iL a] at h1;by_cases b:i=j
      .lia
      .rw[iL b] at h1;exact absurd I h1
    have b:j<=k:=by
     by_cases a:j<k
     .lia
     .rw[iL a] at d;by_cases b:j=k
      .lia
      .rw[iL b] at d;exact absurd I d
    by_cases c:i<k
    .rw[iF c];simp
    .rw[iL c,iF<|by lia];simp
   |_=>simp[cT] at d
  |_=>simp[cT]
 | .tup l,y,z,h1,d=>by
  cases y with
  |int j=>simp[cT] at h1
  |tup m=>
   cases z with
   |int k=>simp[cT] at d
   |tup n=>rw[cT] at h1 d ⊢;exact GO l m n h1 d
   |_=>simp[cT]
  |_=>cases z<;>simp_all [cT]
 | .non,y,z,h1,d=>by cases y<;>cases z<;>simp_all [cT]
 | .bl _,y,z,h1,d=>by cases y<;>cases z<;>simp_all [cT]
 | .str _,y,z,h1,d=>by cases y<;>cases z<;>simp_all [cT]
 | .lst _,y,z,h1,d=>by cases y<;>cases z<;>simp_all [cT]
 | .oth _ _ _,y,z,h1,d=>by cases y<;>cases z<;>simp_all [cT]
 termination_by x y z=>sizeOf x+sizeOf y+sizeOf z
theorem GO: ∀l m n:List D,cL l m≠ .gt->cL m n≠ .gt->cL l n≠ .gt
 |[],m,n,_,_=>by cases n<;>simp[cL]
 |x::l,[],n,h1,_=>by simp[cL] at h1
 |x::l,y::m,[],_,a=>by simp[cL] at a
 |x::l,y::m,z::n,h1,a=>by
  have a1:cT x y≠ .gt:=λh=>by rw[cL,h] at h1;exact h1 I
  have c:cT y z≠ .gt:=λh=>by rw[cL,h] at a;exact a I
  have g:=yD x y z a1 c;rw[cL]
  cases b:cT x z with
  |lt=>simp
  |gt=>exact absurd b g
  |eq=>
   have f:cT z x≠ .gt:=by rw[yE x z,b];simp[fc]
   have d:cT x y= .eq:=Pa a1<|yD y z x c f;have e:cT y z= .eq:=Pa c<|yD z x y f a1;rw[cL,d] at h1;rw[cL,e] at a;exact GO l m n h1 a
 termination_by l m n=>sizeOf l+sizeOf m+sizeOf n
end
noncomputable def ltT(x y:D):Bool:=cT x y== .lt
def XC:ltT x y=U↔cT x y= .lt:=by simp[ltT]
def rO:ltT x y=C↔cT x y≠ .lt:=by simp[ltT]
def Uj:ltT y x=C↔cT x y≠ .gt:=by rw[rO,yE x y];cases cT x y<;>simp[fc]
def Yq(x y:D)(h:ltT x y=U):ltT y x=C:=by rw[Uj,XC.mp h];simp
def WW(h1:ltT y x=C)(a:ltT z y=C):ltT z x=C:=Uj.mpr<|yD _ _ _ (Uj.mp h1) (Uj.mp a)
mutual
/-- ints,and tuples of such -/
noncomputable def D.pr:D->Bool
 | .int _=>U
 | .tup l=>D.prL l
 |_=>C
noncomputable def D.prL:List D->Bool
 |[]=>U
 |x::l=>D.pr x&&D.prL l
end
mutual
theorem IY: ∀x y:D,D.pr x=U->D.pr y=U->D.eqb x y=(cT x y== .eq)
 | .int i,.int j,_,_=>by
  rw[D.eqb,cT];by_cases h:i=j
  .subst h;simp
  .rw[iL h];by_cases a:i<j<;>simp[h,a]
 | .int _,.tup _,_,_=>by simp[D.eqb,cT]
 | .tup _,.int _,_,_=>by simp[D.eqb,cT]
 | .tup l,.tup m,h1,a=>by rw[D.eqb,cT];rw[D.pr] at h1 a;exact Kg l m h1 a
 | .non,_,h,_=>by simp[D.pr] at h
 | .bl _,_,h,_=>by simp[D.pr] at h
 | .str _,_,h,_=>by simp[D.pr] at h
 | .lst _,_,h,_=>by simp[D.pr] at h
 | .oth _ _ _,_,h,_=>by simp[D.pr] at h
 |_,.non,_,h=>by simp[D.pr] at h
 |_,.bl _,_,h=>by simp[D.pr] at h
 |_,.str _,_,h=>by simp[D.pr] at h
 |_,.lst _,_,h=>by simp[D.pr] at h
 |_,.oth _ _ _,_,h=>by simp[D.pr] at h
theorem Kg: ∀l m:List D,D.prL l=U->D.prL m=U->D.eqbL l m=(cL l m== .eq)
 |[],[],_,_=>by simp[D.eqbL,cL]
 |[],_::_,_,_=>by simp[D.eqbL,cL]
 |_::_,[],_,_=>by simp[D.eqbL,cL]
 |x::l,y::m,h1,a=>by rw[D.prL,kJ] at h1 a;rw[D.eqbL,cL,IY x y h1.1 a.1,Kg l m h1.2 a.2];cases cT x y<;>simp
end
mutual
theorem yF: ∀x y:D,D.pr x=U->D.pr y=U->cT x y= .eq->x=y
 | .int i,.int j,_,_,h=>by
  rw[cT] at h;by_cases h1:i<j
  .rw[iF h1] at h;cases h
  .rw[iL h1] at h;by_cases c:i=j
   .rw[c]
   .rw[iL c] at h;cases h
 | .tup l,.tup m,a,b,h=>by rw[cT] at h;rw[D.pr] at a b;rw[GP l m a b h]
 | .int _,.tup _,_,_,h=>by simp[cT] at h
 | .tup _,.int _,_,_,h=>by simp[cT] at h
 | .non,_,a,_,_=>by simp[D.pr] at a
 | .bl _,_,a,_,_=>by simp[D.pr] at a
 | .str _,_,a,_,_=>by simp[D.pr] at a
 | .lst _,_,a,_,_=>by simp[D.pr] at a
 | .oth _ _ _,_,a,_,_=>by simp[D.pr] at a
 |_,.non,_,a,_=>by simp[D.pr] at a
 |_,.bl _,_,a,_=>by simp[D.pr] at a
 |_,.str _,_,a,_=>by simp[D.pr] at a
 |_,.lst _,_,a,_=>by simp[D.pr] at a
 |_,.oth _ _ _,_,a,_=>by simp[D.pr] at a
theorem GP: ∀l m:List D,D.prL l=U->D.prL m=U->cL l m= .eq->l=m
 |[],[],_,_,_=>rfl
 |[],_::_,_,_,h=>by simp[cL] at h
 |_::_,[],_,_,h=>by simp[cL] at h
 |x::l,y::m,a,b,h=>by
  rw[D.prL,kJ] at a b;rw[cL] at h
  cases e:cT x y with
  |eq=>rw[e] at h;rw[yF x y a.1 b.1 e,GP l m a.2 b.2 h]
  |lt=>rw[e] at h;cases h
  |gt=>rw[e] at h;cases h
end
mutual
theorem yA: ∀x y:D,D.pr x=U->D.pr y=U-> ∀b,mR .Lt x y=Y b->b=ltT x y
 | .int i,.int j,_,_,b,h=>by
  rw[mR] at h;rw[<-kP h,ltT,cT,kf];by_cases h1:i<j
  .simp[h1]
  .rw[iL h1];by_cases a:i=j<;>simp[h1,a]
 | .int _,.tup _,_,_,b,h=>by simp[mR] at h
 | .tup _,.int _,_,_,b,h=>by simp[mR] at h
 | .tup l,.tup m,h1,a,b,h=>by rw[mR] at h;rw[D.pr] at h1 a;rw[ltT,cT];exact Kn l m h1 a b h
 | .non,_,h,_,_,_=>by simp[D.pr] at h
 | .bl _,_,h,_,_,_=>by simp[D.pr] at h
 | .str _,_,h,_,_,_=>by simp[D.pr] at h
 | .lst _,_,h,_,_,_=>by simp[D.pr] at h
 |_,.non,_,h,_,_=>by simp[D.pr] at h
 |_,.bl _,_,h,_,_=>by simp[D.pr] at h
 |_,.str _,_,h,_,_=>by simp[D.pr] at h
 |_,.lst _,_,h,_,_=>by simp[D.pr] at h
theorem Kn: ∀l m:List D,D.prL l=U->D.prL m=U-> ∀b,nF .Lt l m=Y b->b=(cL l m== .lt)
 |[],[],_,_,b,h=>by rw[nF] at h;rw[<-kP h];simp[kf,cL]
 |[],_::_,_,_,b,h=>by rw[nF] at h;rw[<-kP h];simp[kf,cL]<;>lia
 |_::_,[],_,_,b,h=>by rw[nF] at h;rw[<-kP h];simp[kf,cL]<;>lia
 |x::l,y::m,h1,a,b,h=>by
  rw[D.prL,kJ] at h1 a;rw[nF,IY x y h1.1 a.1] at h;rw[cL]
  cases c:cT x y with
  |eq=>rw[c] at h;simp at h;exact Kn l m h1.2 a.2 b h
  |lt=>rw[c] at h;simp at h;have:=yA x y h1.1 a.1 b h;rw[this,ltT,c]
  |gt=>rw[c] at h;simp at h;have:=yA x y h1.1 a.1 b h;rw[this,ltT,c]
end
section
variable {a:Type}(lt:a->a->Bool)
noncomputable def E5(x:a):List a->List a
 |[]=>[x]
 |y::l=>if lt y x=U then y::E5 x l else x::y::l
noncomputable def nq:List a->List a
 |[]=>[]
 |x::l=>E5 lt x<|nq l
theorem vG(x:a): ∀l:List a,(E5 lt x l).Perm (x::l)
 |[]=>wF _
 |y::l=>by
  rw[E5];split
  .exact((vG x l).cons y).trans (gg x y l)
  .exact wF _
theorem jX: ∀l:List a,(nq lt l).Perm l
 |[]=>wF _
 |x::l=>(vG lt x _).trans<|(jX l).cons x
end
def Py{x:D}: ∀{l:List D},(l.Pairwise λx y=>ltT y x=C)->(E5 ltT x l).Pairwise λx y=>ltT y x=C:=by
 intro d
 induction d with
 |nil=>intro _;exact ME _ _
 |cons y l c=>
  intro h;have h:=AA.mp h;rw[E5]
  cases b:ltT y x with
  |true=>
   refine AA.mpr ⟨λz a=>?_,c h.2⟩;rcases ku.mp ((vG ltT x l).mem_iff.mp a) with rfl|a
   .exact Yq _ _ b
   .exact h.1 z a
  |false=>
   refine AA.mpr ⟨λz a=>?_,AA.mpr h⟩;rcases ku.mp a with rfl|a
   .exact b
   .exact WW b (h.1 z a)
theorem oj: ∀l:List D,(nq ltT l).Pairwise λx y=>ltT y x=C
 |[]=>ci
 |x::l=>Py<|oj l
def Nj{l m:List D}(h: ∀x∈m,D.pr x=U)(a:l.Perm m)(c:l.Pairwise λx y=>ltT y x=C):l=nq ltT m:=
 MB (λx y d e h1 b=>yF x y (h x<|a.mem_iff.mp d) (h y<|(jX ltT m).mem_iff.mp e)<|Pa (Uj.mp h1)<|Uj.mp b) c (oj m) (a.trans (jX ltT m).symm)
def KO{a:List D}{p:ky}(pr: ∀x∈a,D.pr x=U)(d:p.Perm (aj<|Ix a))(f:p.Pairwise λi j=>ltT (a.getD j .non) (a.getD i .non)=C):p.map (λi=>a.getD i .non)=nq ltT a:=by
 have e:(aj<|Ix a).map (λi=>a.getD i .non)=a:=by apply Ef;intro i;by_cases c:i<Ix a<;>simp[c]
 have b:=d.map λi=>a.getD i .non;rw[e] at b;exact Nj pr b<|qt.mpr f
noncomputable def lM:D->Option Nat
 | .int _=>Y 0
 | .tup (.int _::_)=>Y 1
 | .tup (.tup _::_)=>Y 2
 |_=>J
noncomputable def Ka:Nat->l3
 |0=>v9
 |1=>AT U
 |_=>AT C
structure SortsBy(k:Nat)(l:List D):Prop where
 hd: ∀x∈l,lM x=FM k
 pr: ∀x∈l,D.pr x=Gc
 dp: ∀x∈l,x.dep<=50
 cm: ∀x∈l,∀y∈l,(mR .Lt x y).isSome=Gc
def om(l:List D):Bool:=Ix l<=1||match l with
 |[]=>U
 |x::_=>(lM x).isSome&&(l.all λy=>lM y==lM x&&D.pr y&&decide (y.dep<=50))&&l.all λy=>l.all λz=>(mR .Lt y z).isSome
def CZ(h:om l=U):(Ix l)<=1\/ ∃k,SortsBy k l:=by
 unfold om at h;rw[yQ] at h;rcases h with h|h
 .left;simpa using h
 .right
  cases l with
  |nil=>exact⟨0,λx a=>absurd a ll,λx a=>absurd a ll,λx a=>absurd a ll,λx a=>absurd a ll⟩
  |cons x m=>simp only[kJ,lG,ni] at h;obtain⟨⟨h1,c⟩,d⟩:=h;obtain⟨k,hk⟩:=Mb.mp h1;refine⟨k,λy b=>?_,λy b=>(c y b).1.2,λy b=>(c y b).2,λy b z e=>d y b z e⟩;have:=(c y b).1.1;rw[hk] at this;simpa using this
section
variable {X:Cx}{d:ji}{f:L2.St}{H:Hp}{s:il}
def vq(v:Vals xs a)(b:i<a.length):RelV (xs.getD i .non) (a.getD i am):=by
 have e:=v.length;have h:xs[i]?=Y xs[i]:=jt (by omega);obtain⟨w,c,j⟩:=v.get h;have h1:xs.getD i .non=xs[i]:=by simp[show i<xs.length by omega]
 have g:a.getD i am=w:=by rw[jt b] at c;have:=kP c;simp[b,this]
 rw[h1,g];exact j
def vz(r:RepL X.K H O ds xs)(a:i<ds.length):Rep X.K H O (ds.getD i .non) (xs.getD i .non):=by
 have e:=r.length;have hd:ds[i]?=Y ds[i]:=jt a;obtain⟨v,b,g⟩:=r.get hd;have h1:ds.getD i .non=ds[i]:=by simp[a]
 have c:xs.getD i .non=v:=by rw[jt<|by lia] at b;have:=kP b;simp[show i<xs.length by lia,this]
 rw[h1,c];exact g
def Bw{ds:List D}{i:Nat}(a:i<Ix ds):ds.getD i .non∈ds:=by simp[a]
theorem Gu(I:Inv X d f H s){A:iP}{b:Bool}{O z:AP'}(hA:A.units+60<aX){r:Bool}{Q:uj}(n:Q r s): ∀(l m:List D) (u v:List V) (g o:jN) (k:Int) (i:Nat),D.depL l<=50->D.depL m<=50->
  ((b&&i==0)=Gc-> ∀x y l' m',l=x::l'->m=y::m'->(∃a,x= .int a)/\ ∃c,y= .int c)->RepL X.K H O l u->RepL X.K H z m v->Vals u g->Vals v o->nF .Lt l m=FM r->
  ∀fin:Bool,fin=kf .Lt (g.length+k) (o.length+k)->PySem.W.KatLex X.prog X.w A b fin Q (g.zip o) i s
 |[],m,u,v,g,o,k,i,_,_,_,p,q,v1,v2,j,fin,hf=>by
  rw[RepL] at p;subst p;cases v1;rw[nF] at j;have N:=q.length;have U:=v2.length;show Q fin s;rw[hf,tj];rw[<-kP j] at n;have:kf .Lt ((([]:List iC).length:Nat):Int) (o.length:Int)=kf .Lt 0 (m.length:Int):=by congr 1;lia
  rw[this];exact n
 |x::l,[],u,v,g,o,k,i,_,_,_,p,q,v1,v2,j,fin,hf=>by
  rw[RepL] at q;subst q;cases v2;rw[nF] at j;have N:=p.length;have U:=v1.length;rw[gD];show Q fin s;rw[hf,tj];rw[<-kP j] at n;have:kf .Lt (g.length:Int) ((([]:List iC).length:Nat):Int)=kf .Lt (((x::l).length:Nat):Int) 0:=by congr 1;lia
  rw[this];exact n
 |x::l,y::m,u,v,g,o,k,i,G,J',hb,p,q,v1,v2,j,fin,hf=>by
  rw[RepL] at p q;obtain⟨E,P,rfl,g1,g2⟩:=p;obtain⟨L,R,rfl,g3,Y⟩:=q
  cases v1 with
  |cons a1 T=>
   cases v2 with
   |cons B M=>
    rw[nF] at j;rw[D.depL] at G J';rw[uy];refine PySem.W.kat_cons<|BP I 50 x y E L _ _ O z A (.inl g1) (.inl g3) a1 B (by lia) (by lia) (by lia) X.prog X.w _ _ ?_
    cases C:D.eqb x y with
    |true=>
     rw[C,iF H8] at j;refine PySem.W.kat_yes<|Gu I hA n l m P R _ _ (k+1) (i+1) (by lia) (by lia) (λh=>by simp at h) g2 Y T M j fin ?_;rw[hf];simp only[kI];have e: ∀a:Nat,(((a+1:Nat):Int)+k)=(a:Int)+(k+1):=λa=>by lia
     rw[e,e]
    |false=>
     rw[C,iL kF] at j;refine PySem.W.kat_no ?_
     cases F:(b&&i==0) with
     |true=>obtain⟨⟨a,rfl⟩,c,rfl⟩:=hb F x y l m H8 H8;have:=g1.int;subst this;have:=g3.int;subst this;obtain⟨t,rfl⟩:=a1;obtain⟨S,rfl⟩:=B;rw[mR] at j;rw[<-kP j] at n;exact oneLt_int n
     |false=>exact PySem.W.kat_one _ _ (NA (.inl H8) I 50 x y E L _ _ O z A r (.inl g1) (.inl g3) a1 B (by lia) (by lia) (by lia) j X.prog X.w _ _ n)
def Yp(I:Inv X d f H s){O:AP'}{u:List D}{N:List V}{e:jN}{A:iP}(hA:A.units+60<aX)(rr:RepL X.K H O u N)(v:Vals N e){k:Nat}(B:SortsBy k u):
  Ask (ag X.prog X.w) A (λT=>T=s) (Pw e) (Ka k) e.length (λi j=>ltT (u.getD i .non)<|u.getD j .non):=by
 intro i j hi hj T aG E';subst aG;have e1:=rr.length;have e2:=v.length;have J:u.getD i .non∈u:=Bw (by lia);have M:u.getD j .non∈u:=Bw (by lia);have ri:=vz rr (i:=i) (by lia);have rj:=vz rr (i:=j) (by lia);have vi:=vq v hi;have vj:=vq v hj;obtain⟨b,E⟩:=Mb.mp<|B.cm _ J _ M;have j6:=yA _ _ (B.pr _ J) (B.pr _ M) b E;have r:=B.hd _ J;have g:=B.hd _ M;have di:=B.dp _ J;have dj:=B.dp _ M;show ae _ _ (wf (Ka k) (e.getD i am)<|e.getD j am) _ _ _;dsimp only;rw[<-j6];generalize u.getD i .non=x at*;generalize u.getD j .non=y at*;generalize N.getD i .non=vx at*;generalize N.getD j .non=vy at*;generalize e.getD i am=a at*;generalize e.getD j am=c at*
 have C: ∀(l m:List D) (G:Bool),x= .tup l->y= .tup m->(G=Gc-> ∀x y Z m',l=x::Z->m=y::m'->(∃a,x= .int a)/\ ∃c,y= .int c)->ae (ag X.prog X.w) A (wf (AT G) a c) (λU Y=>Y=T/\U=b) E' T:=λl m G P R hh=>by subst P R;obtain⟨p,us,rfl,q,r1⟩:=ri.tup;obtain⟨p2,ws,rfl,q2,r2⟩:=rj.tup;cases vi;cases vj;obtain⟨S,w1,⟨o,ho,hc,n,hd⟩,_⟩:=I.tuple q.sq;obtain⟨L,w2,⟨o2,o9,r6,n2,F⟩,_⟩:=I.tuple q2.sq;rw[mR] at E;rw[D.dep] at di dj;refine PySem.W.kat_lt ho hd o9 F ?_;have:=Gu I (b:=G) hA (Q:=λU Y=>Y=T/\U=b) ⟨rfl,rfl⟩ l m us ws S L 0 0 (by lia) (by lia) (λh=>hh<|by simpa using h) r1 r2 w1 w2 E (decide<|S.toArray.size<L.toArray.size) (by simp[kf]);simpa using this
 match k,r,g with
 |0,r,g=>
  cases x with
  |int ix=>
   cases y with
   |int iy=>have:=ri.int;subst this;have:=rj.int;subst this;obtain⟨t,rfl⟩:=vi;obtain⟨t',rfl⟩:=vj;rw[mR] at E;rw[<-kP E];show ae _ _ (wf v9 _ _) _ _ _;rw[keyLt'_oneType];exact oneLt_int ⟨rfl,rfl⟩
   |tup m=>cases m with
    |nil=>simp[lM] at g
    |cons z m=>cases z<;>simp[lM] at g
   |_=>simp[lM] at g
  |tup m=>cases m with
   |nil=>simp[lM] at r
   |cons z m=>cases z<;>simp[lM] at r
  |_=>simp[lM] at r
 |1,r,g=>
  cases x with
  |tup l=>
   cases y with
   |tup m=>
    refine C l m Gc H8 H8 λ_ x y Z m' P R=>?_;subst P R;refine⟨?_,?_⟩
    .cases x with
     |int a=>exact⟨a,rfl⟩
     |_=>simp[lM] at r
    .cases y with
     |int a=>exact⟨a,rfl⟩
     |_=>simp[lM] at g
   |_=>simp[lM] at g
  |_=>simp[lM] at r
 |(n+2),r,g=>
  cases x with
  |tup l=>
   cases y with
   |tup m=>exact C l m Go H8 H8 λh=>absurd h kF
   |_=>simp[lM] at g
  |_=>simp[lM] at r
end
open PySem.W
section
variable {X:Cx}{c:ji}{y:L2.St}{H:Hp}{s:il}
def GB(I:Inv X c y H s){O:AP'}{T:iC}(P:D->Prop)(m: ∀x v u,P x->Rep X.K H O x v->RelV v u->Looks (ag X.prog X.w) s.heap (u3 u) T): ∀{ds:List D} {b:List V} {a:jN},RepL X.K H O ds b->Vals b a->
  (∀d∈ds,∃x l,d= .tup (x::l)/\P x)-> ∃fs,KatTups s.heap a fs/\(Ix fs)=Ix a/\ ∀f∈fs,Looks (ag X.prog X.w) s.heap (u3 f) T:=by
 intro C
 induction C with
 |nil=>intro b a r v _;rw[RepL] at r;subst r;cases v;exact⟨[],KatTups.nil,rfl,λf z=>absurd z ll⟩
 |cons d ds B=>
  intro b a r v h;rw[RepL] at r;obtain⟨S,W,rfl,g1,g2⟩:=r
  cases v with
  |cons a1 j=>
   obtain⟨fs,E,L,Q⟩:=B g2 j λd hd=>h d<|jU _ hd;obtain⟨x,l,rfl,G⟩:=h d jP;obtain⟨p,R,rfl,q,i⟩:=g1.tup;cases a1;obtain⟨U,M,⟨o,A,t,n,hd⟩,_⟩:=I.tuple q.sq;rw[RepL] at i;obtain⟨J,Z,rfl,g3,F⟩:=i
   cases M with
   |cons k N=>
    rename_i f Y;refine⟨f::fs,KatTups.cons A t hd (by simp) E,by simp[L],λg e=>?_⟩;rcases ku.mp e with rfl|e
    .exact m x J _ G g3 k
    .exact Q g e
def V0(I:Inv X c y H s){O:AP'}{ds:List D}{J:List V}{b:jN}{A:iP}(f:RepL X.K H O ds J)(v:Vals J b){k:Nat}(B:SortsBy k ds)(M:2<=b.length):
  ae (ag X.prog X.w) A (keyKind' b.toArray) (λL s'=>s'=s/\L=Ka k) (λ_ _=>False) s:=by
 have P:=f.length;have R:=v.length
 match k,B with
 |0,B=>
  refine kas_kind (T:= .type "int") M (λu Y=>?_) H8 H8 ⟨rfl,rfl⟩;obtain⟨i,Q,e⟩:=D4 Y;have G:=vz f (i:=i) (by lia);have E:=vq v Q;have hd:=B.hd _ (Bw (ds:=ds) (i:=i)<|by lia);have:b.getD i am=u:=by simp[Q,e]
  rw[this] at E
  cases h:ds.getD i .non with
  |int a=>rw[h] at G;have:=G.int;rw[this] at E;obtain⟨t,rfl⟩:=E;exact Looks.of_pure H8
  |tup l=>
   rw[h] at hd
   cases l with
   |nil=>simp[lM] at hd
   |cons z m=>cases z<;>simp[lM] at hd
  |_=>rw[h] at hd;simp[lM] at hd
 |1,B=>
  obtain⟨fs,f1,f2,g⟩:=GB I (T:= .type "int") (λx=> ∃a,x= .int a) (λx F u j C r=>by
   obtain⟨a,rfl⟩:=j;have:=C.int;subst this;obtain⟨t,rfl⟩:=r
   exact Looks.of_pure H8) f v λd hd=>by
    have:=B.hd d hd
    cases d with
    |tup l=>
     cases l with
     |nil=>simp[lM] at this
     |cons z m=>
      cases z with
      |int a=>exact⟨_,m,rfl,a,rfl⟩
      |_=>simp[lM] at this
    |_=>simp[lM] at this
  exact kat_kind f1 (by lia) g H8 ⟨rfl,rfl⟩
 |(n+2),B=>
  obtain⟨fs,f1,f2,g⟩:=GB I (T:= .type "tuple") (λx=> ∃a,x= .tup a) (λx F u j C r=>by
   obtain⟨a,rfl⟩:=j;obtain⟨p,Z,rfl,q,W⟩:=C.tup;cases r;obtain⟨S,w1,⟨o,U,N,n,hd⟩,_⟩:=I.tuple q.sq;have:Looks (ag X.prog X.w) s.heap (u3<|.ref p) o.cls:=(Looks.ld U).andThen .now
   rw[N] at this;exact this) f v λd hd=>by
    have:=B.hd d hd
    cases d with
    |tup l=>
     cases l with
     |nil=>simp[lM] at this
     |cons z m=>
      cases z with
      |tup a=>exact⟨_,m,rfl,a,rfl⟩
      |_=>simp[lM] at this
    |_=>simp[lM] at this
  exact kat_kind f1 (by lia) g H8 ⟨rfl,rfl⟩
def kL(l:List D):Option (D×Bool):=if om l=U/\(Ix l)<=sizeLine then Y (.lst<|nq ltT l,U) else J
def pF(d:D):Option (D×Bool):=(tV d).bind kL
def M4{b:List V}{a:jN}(v:Vals b a): ∀(p:ky),(∀i∈p,i<Ix a)->Vals (p.map λi=>b.getD i .non) (p.map λi=>a.getD i am):=by
 intro f
 induction f with
 |nil=>intro _;exact .nil
 |cons i p e=>intro h;exact .cons (vq v<|h i jP)<|e λj d=>h j<|jU _ d
def Nv{O:AP'}{a:List D}{b:List V}(r:RepL X.K H O a b): ∀(p:ky),(∀i∈p,i<Ix a)->RepL X.K H O (p.map λi=>a.getD i .non) (p.map λi=>b.getD i .non):=by
 intro f
 induction f with
 |nil=>intro _;exact RepL.nil
 |cons i p e=>intro h;exact RepL.cons (vz r<|h i jP)<|e λj d=>h j<|jU _ d
def HM{b:List D}{n:Nat}(e:n=Ix b)(h1:(Ix b)<=1){p:ky}(a:p.Perm (aj n)):p.map (λi=>b.getD i .non)=nq ltT b:=by
 subst e
 match b,h1,a with
 |[],_,a=>
  have:p=[]:=by simpa using a.length_eq
  subst this;rfl
 |[d],_,a=>
  have e:(Ix p)=1:=by simpa using a.length_eq
  match p,e,a with
  |[i],_,a=>
   have:i=0:=by have:=a.mem_iff.mp<|KA.mpr I;simpa using this
   subst this;rfl
def vw(hu:X.A.units+62<aX)(I:Inv X c y H s){O:AP'}{f:List D}{M:List V}{a:jN}{x:iC}{Q:VK}{z:D×Bool}(u:RepL X.K H O f M)(v:Vals M a)(hg:kL f=FM z)(G:Gen X.K H O z Q)
  (hc: ∀(Y:List iC->il->Prop) (E':jf) (N:iP),N.handled=X.A.handled->(∀(h':iO) (d:Nat),(∀b o,s.heap.get? b=FM o->h'.get? b=FM o)->Y a {s with heap:=h',toks:=d})->ae (ag X.prog X.w) N (fm x) Y E' s):
  ae (ag X.prog X.w) X.A (call (.builtin "sorted") [x]) (EP X c y Q) X.xe s:=by
 unfold kL at hg;obtain⟨⟨L,hz⟩,rfl⟩:=jh hg;have r:=u.length;have e2:=v.length;refine Calls.call_function_entry Fk A1 A2 (args_sorted1 _) ?_;unfold aZ.«sorted»;refine hU (m:=checkCount "sorted" 1 1 _)<|iq ?_;refine hU<|hc _ _ _ rfl λh1 d R=>?_;refine hU<|DY ?_ (by lia);have t:(h1.push<|bg "list" a.toArray 0).get? h1.objs.size=FM (bg "list" a.toArray 0):=kh _ rfl;have C:Inv X c y H {s with heap:=h1,toks:=d}:=I.kept R
 have keep: ∀b o,h1.get? b=FM o->(qv (h1.push<|bg "list" a.toArray 0) h1.objs.size a).get? b=FM o:=λb o l=>by have P:b≠h1.objs.size:=jG<|jl l;refine jS _ (jS _ ?_);rw[G7 _ _ _ _ P];exact jS _ l
 have U:Inv X c y H {s with heap:=qv (h1.push<|bg "list" a.toArray 0) h1.objs.size a,toks:=d}:=C.kept keep;have Z: ∀i∈aj a.length,i<a.length:=λi q=>by simpa using q
 refine hU<|lZ<|oM (s:={s with heap:=h1.push<|bg "list" a.toArray 0,toks:=d}) v8 ⟨_,t,rfl⟩ tp ?body<|args_list_sort _
 case body=>
  have fin: ∀p:List Nat,p.Perm (aj a.length)->p.map (λi=>f.getD i .non)=nq ltT f->EP X c y Q (.ref h1.objs.size) {s with heap:=(qv (h1.push<|bg "list" a.toArray 0) h1.objs.size a).update h1.objs.size<|aE λ_=>(p.map λi=>a.getD i am).toArray,toks:=d}:=λp e T=>by
   have F: ∀i∈p,i<a.length:=λi q=>by simpa using e.mem_iff.mp q
   have J: ∃n,(qv (h1.push<|bg "list" a.toArray 0) h1.objs.size a).get? h1.objs.size=FM (bg "list" #[] n):=by
    obtain⟨r,W⟩: ∃r,((h1.push<|bg "list" a.toArray 0).update h1.objs.size<|aE λ_=>(#[]:Array iC)).get? h1.objs.size=FM (bg "list" #[] r):=⟨_,yR t λ_=> #[]⟩
    exact⟨r,jS _ (jS _ W)⟩
   obtain⟨n,J⟩:=J;obtain⟨E,S⟩: ∃E,((qv (h1.push<|bg "list" a.toArray 0) h1.objs.size a).update h1.objs.size<|aE λ_=>(p.map λi=>a.getD i am).toArray).get? h1.objs.size=FM (bg "list" (p.map λi=>a.getD i am).toArray E):=⟨_,yR J λ_=>(p.map λi=>a.getD i am).toArray⟩
   have g: ∀b o,h1.get? b=FM o->((qv (h1.push<|bg "list" a.toArray 0) h1.objs.size a).update h1.objs.size<|aE λ_=>(p.map λi=>a.getD i am).toArray).get? b=FM o:=λb o l=>by rw[G7 _ _ _ _ (jG<|jl l)];exact keep b o l
   have pl:p.length=a.length:=by simpa using e.length_eq
   refine⟨.ref h1.objs.size,_,C.laid (t':=d) g (jQ _) (show ObjOk X.prog X.w _ _ _ (.lst<|p.map λi=>M.getD i .non) from⟨by rw[jz];lia,_,E,M4 v p F,S⟩),rfl,?_⟩;refine G.lst C.fresh ?_;rw[<-T];exact Nv u p λi q=>by have:=F i q;lia
  rcases CZ L with hlen|⟨k,B⟩
  .refine wt (κ:=general') (lt:=λ_ _=>Go) (s:={s with heap:=h1.push<|bg "list" a.toArray 0,toks:=d}) t (by lia) (λ_ _ _=>rfl) (λ_ _=>rfl) (λh=>by lia) (λh=>by lia) λp e _=>⟨_,rfl,iq ⟨_,rfl,fin p e ?_⟩⟩
   exact HM (by lia) hlen e
  .refine wt (κ:=Ka k) (lt:=λi j=>ltT (f.getD i .non)<|f.getD j .non) (s:={s with heap:=h1.push<|bg "list" a.toArray 0,toks:=d}) t (by lia) (λ_ _=>Yq _ _) WW (λh=>V0 U u v B h) (λ_=>Yp (A:=X.A.in1.in1) U (by show X.A.units+1+1+60<aX;lia) u v B) λp e T=>⟨_,rfl,iq ⟨_,rfl,fin p e<|KO B.pr (by rw[show f.length=a.length by lia];exact e) T⟩⟩
def tL(j:X.A.units+62<aX):kQ X (.builtin "sorted") (rDn X.K<|g1 pF):=pd λc s y H x u Q O d z I t np hd a G=>by
 obtain⟨l,g,a⟩:=hJ a
 have M:l.length<=sizeLine:=by unfold kL at a;exact(jh a).1.2
 cases d with
 |lst m=>
  cases g;obtain⟨p,J,rfl,q,r⟩:=lg hd;cases t;obtain⟨i,v,T,_⟩:=I.list q;have E:=r.length;have L:=v.length;obtain⟨o,h,f,n,hd⟩:=T.isList;refine vw j I r v a G λN B w _ e=>G6 p (.inl H8) h f hd (λb k=>by simpa using e b s.toks k) (by rw[jw];lia)
 |tup m=>
  cases g;obtain⟨p,J,rfl,q,r⟩:=ma hd;cases t;obtain⟨i,v,⟨o,h,f,n,hd⟩,_⟩:=I.tuple q;have E:=r.length;have L:=v.length;refine vw j I r v a G λN B w _ e=>G6 p (.inr H8) h f hd (λb k=>by simpa using e b s.toks k) (by rw[jw];lia)
 |_=>cases g
def L3:aH "sorted"=Y (.builtin "sorted"):=by decide+kernel
end
def CN:aH "isinstance"=Y (.builtin "isinstance"):=by decide+kernel
structure Tx(mg:nJ):Prop where
 n_len:mg "len"=F2
 n_abs:mg "abs"=F2
 n_int:mg "int"=F2
 n_tuple:mg "tuple"=F2
 n_list:mg "list"=F2
 n_range:mg "range"=F2
 n_isinstance:mg "isinstance"=F2
 n_bool:mg "bool"=F2
 n_max:mg "max"=F2
 n_min:mg "min"=F2
 n_all:mg "all"=F2
 n_any:mg "any"=F2
 n_sorted:mg "sorted"=F2
 n_enumerate:mg "enumerate"=F2
 n_zip:mg "zip"=F2
 n_set:mg "set"=F2
def KY{K:iM}{T:Hp}{O:AP'}: ∀a:List Int,RepL K T O (a.map .int) (a.map V.int):=by
 intro c
 induction c with
 |nil=>exact RepL.nil
 |cons n a b=>exact RepL.cons Rep.mkInt<|b
def VY{K:iM}{g:EvF}{T:Hp}{a:hV}{f:iu}(k:SqL K T a (f.map V.int)){o:Bool}{c:Dn}(h:g [(.lst<|f.map .int,C)]=Y ((.bl U,o),c)):spF K g [.ref a] T (λv _=>v= .bl U) λ_ _ _=>False:=by
 have no: ∀b,¬OwnA [Y<|V.ref a] [Y (D.lst<|f.map .int,C)] b:=λb Q=>by
  obtain⟨i,d,h1,m⟩:=Q
  cases i with
  |zero=>simp at h1
  |succ i=>simp at h1
 refine⟨λ_=>False,[(.lst<|f.map .int,C)],_,c,⟨rfl,λi d hd=>?_,λi d hd=>?_,λi j d e b h1=>?_,λb z=>absurd z<|no b,λb z=>z.elim⟩,h,λv l P=>?_⟩
 .cases i with
  |zero=>simp at hd;subst hd;refine⟨_,rfl,Rep.mkLst (a:=a) (xs:=f.map V.int) ?_<|KY f⟩;exact k.imp (λz=>⟨z,λz=>z.elim (no a) id⟩) id
  |succ i=>simp at hd
 .cases i with
  |zero=>simp at hd
  |succ i=>simp at hd
 .cases i with
  |zero=>simp at h1
  |succ i=>simp at h1
 .cases o with
  |false=>exact P.2.2.bl
  |true=>obtain⟨p,_,_,_,ok⟩:=P.2;exact ok.elim
def mZ(e d:cz)(a b c:FO):F:=λδ=>(a δ).bind λp=>(b p.2).bind λq=>match res q.2 p.1,res q.2 q.1 with
 |some (.int i),Y (.int j)=>if kf e i j=U then(c q.2).bind λr=>match res r.2 r.1 with
   |some (.int k)=>Y ((.bl<|kf d j k,C),r.2)
   |_=>J
  else Y ((.bl C,C),q.2)
 |_,_=>J
section
variable {X:Cx}{a b c:iA}{m l g:FO}{n:bC}{d f:cz}
def Aw(h:rR d):OpR X (ap d) (rI0 λi j=> .bl (kf d i j)):=by
 rcases h with rfl|rfl|rfl|rfl
 .exact Xu
 .exact Xv
 .exact Xw
 .exact Xx
def Dy(A:tF X.K (mZ d f m l g) σ H' Q):HI (rI0 λi j=> .bl (kf d i j)) (rI0 λi j=> .bl (kf f i j)) (tO X.K m) (tO X.K l) (tO X.K g) σ H' Q:=by
 obtain⟨M,T,F,N,E,e,k⟩:=A;unfold mZ at e;obtain⟨⟨x,p⟩,h1,e⟩:=hJ e;obtain⟨⟨G,q⟩,y,e⟩:=hJ e;refine⟨M,T,x,p,E,h1,λv U h=>⟨p,Cj T x v,G,q,h.er E,y,λu Y o=>?_⟩⟩;have B:=Ops.cons E h<|Ops.cons (h.er E) o<|Ops.nil<|o.er<|h.er E;dsimp only at e;split at e
 .rename_i i j C I;have hv:=jd<|B.view (j:=0) H8 H8 C;have t:=jd<|B.view (j:=1) H8 H8 I;refine⟨i,j,hv,t,kf d i j,rfl,?_⟩;by_cases c:kf d i j=Gc
  .rw[iF c] at e ⊢;obtain⟨⟨J,r⟩,z,e⟩:=hJ e;dsimp only at e;split at e
   .rename_i O L;obtain⟨rfl,rfl⟩:=iQ e;refine⟨q,_,J,r,o.er<|h.er E,z,λw D P3=>?_⟩;have s:=Ops.cons E h<|Ops.cons (h.er E) o<|Ops.cons (o.er<|h.er E) P3<|Ops.nil<|P3.er<|o.er<|h.er E;exact⟨j,O,t,jd<|s.view (j:=2) H8 H8 L,(s.done k).bl⟩
   .cases e
  .rw[iL c] at e ⊢;obtain⟨rfl,rfl⟩:=iQ e;exact(B.done k).bl
 .cases e
def NJ(o:rR d)(e:rR f)(h:PO X a m)(i:PO X b l)(j:PO X c g)(k:eC [d,f] [b,c]=C:=by with_unfolding_all rfl):PX X (.Compare a [d,f] [b,c] n) (mZ d f m l g):=
 PX.imp (Oi (Aw o) (Aw e) h i j k) λq T Q p=>Dy p
def K7(o:rR d)(e:rR f)(h:PO X a m)(i:PO X b l)(j:PO X c g)(k:eC [d,f] [b,c]=C:=by with_unfolding_all rfl):PTX X (.Compare a [d,f] [b,c] n) (fT<|mZ d f m l g):=
 PT.imp' (NM (Aw o) (Aw e) h i j k) λq T Q p=>Dy<|Nd p
end
noncomputable def vIs(x:V)(c:Bool):Bool:=match x with
 | .bl b=>b==c
 |_=>C
noncomputable def gIs:D->D->Option (D×Bool)
 | .bl b,.bl c=>Y (.bl<|b==c,C)
 |_,.bl _=>Y (.bl C,C)
 | .non,.non=>Y (.bl U,C)
 |_,.non=>Y (.bl C,C)
 |_,_=>J
section
variable {X:Cx}
def QZ(a:RelV x v)(c:Bool):plainIs v (.bool c)=U/\(v== .bool c)=vIs x c:=by
 cases x<;>first
  |(cases a;exact⟨rfl,rfl⟩)
  |(obtain⟨t,rfl⟩:=a;exact⟨rfl,rfl⟩)
  |(rename_i b;cases a;refine⟨rfl,?_⟩;cases b<;>cases c<;>rfl)
def Oy:OpR X (ap .Is) (λx y T Q=> ∃c,y= .bl c/\Q (.bl<|vIs x c) T):=by intro a s f T x y v u Q O d e h;obtain⟨c,rfl,q⟩:=h;cases e;obtain⟨h1,b⟩:=QZ d c;exact wpAny_is_plain h1<|PU O q (by rw[b])
def A5{K T}(h:kj K T O (.bl b) v):v= .bl b:=h.elim (λh=>h.bl) λ⟨_,_,h⟩=>h.elim
def zo{K T}(h:kj K T O .non v):v= .non:=h.elim (λh=>h.non) λ⟨_,_,h⟩=>h.elim
def M1{K T}(h:kj K T O d v)(f: ∀b,d≠ .bl b)(c:Bool):vIs v c=C:=by
 cases d with
 |bl b=>exact absurd I<|f b
 |non=>rw[zo h];rfl
 |int i=>rw[jd h];rfl
 |str x=>
   rcases h with h|⟨a,_,h⟩
   .rw[h.str];rfl
   .exact h.elim
 |tup l=>
   rcases h with h|⟨a,_,h⟩
   .rw[Rep] at h;obtain⟨a,e,rfl,_⟩:=h;rfl
   .exact h.elim
 |lst l=>
   rcases h with h|⟨a,rfl,h⟩
   .rw[Rep] at h;obtain⟨a,e,rfl,_⟩:=h;rfl
   .rfl
 |oth _ _ _=>
   rcases h with h|⟨a,rfl,h⟩
   .rw[Rep] at h;obtain⟨a,e,rfl,_⟩:=h;rfl
   .rfl
def FC{K T}(h:kj K T O d v)(e:d≠ .non):v≠ .non:=by
 cases d with
 |bl b=>rw[A5 h];intro z;cases z
 |non=>exact absurd I e
 |int i=>rw[jd h];intro z;cases z
 |str x=>
   rcases h with h|⟨a,_,h⟩
   .rw[h.str];intro z;cases z
   .exact h.elim
 |tup l=>
   rcases h with h|⟨a,_,h⟩
   .rw[Rep] at h;obtain⟨a,c,rfl,_⟩:=h;intro z;cases z
   .exact h.elim
 |lst l=>
   rcases h with h|⟨a,rfl,h⟩
   .rw[Rep] at h;obtain⟨a,c,rfl,_⟩:=h;intro z;cases z
   .intro z;cases z
 |oth _ _ _=>
   rcases h with h|⟨a,rfl,h⟩
   .rw[Rep] at h;obtain⟨a,c,rfl,_⟩:=h;intro z;cases z
   .intro z;cases z
def Ou:OpR X (ap .Is) (rD X.K gIs):=by
 intro a s l T x y v u Q N j k h;obtain⟨O,d,e,z,np,h1,n,g,G⟩:=h
 cases e with
 |bl c=>
  have i:=A5 n;by_cases f: ∃b,d= .bl b
  .obtain⟨b,rfl⟩:=f;cases g;refine Oy a s l T x y v u Q N j k ⟨c,i,?_⟩;rw[A5 h1];exact G.bl
  .have o: ∀b,d≠ .bl b:=λb z=>f ⟨b,z⟩;have m:z=(.bl C,C):=by cases d<;>first|exact absurd I (o _)|(cases g;rfl)
   subst m;refine Oy a s l T x y v u Q N j k ⟨c,i,?_⟩;rw[M1 h1 o c];exact G.bl
 |non=>
  have i:=zo n;by_cases f:d= .non
  .subst f;cases g;refine Ox a s l T x y v u Q N j k ⟨i,?_⟩;rw[zo h1];exact G.bl
  .have m:z=(.bl C,C):=by cases d<;>first|exact absurd I f|(cases g;rfl)
   subst m;refine Ox a s l T x y v u Q N j k ⟨i,?_⟩;rw[mB<|FC h1 f];exact G.bl
 |_=>cases d<;>cases g
end
end PX
namespace HT
open PySem PySem.Spec PyProof.Rows L2
section
variable {a:iU}{w:iK}{A:iP}{E:jf}{s:il}
def II{t d:hV}{b:nI}{i j:iC}{lo e:Option Int}{Q:jf}(c:gz s.heap t b)(f:s.heap.IsSliceOf d i j .none)(n:dG i lo)(o:dG j e)
  (g:sIx b.size 0 lo=0/\sIx b.size b.size e=b.size)(h:Q (.ref t) s):ae (ag a w) A (c0 (.ref t)<|.ref d) Q E s:=by
 obtain⟨os,p,k,q⟩:=id f;have l:s.TypeIs (.ref d) "slice":=⟨os,p,k⟩
 unfold c0
 try with_reducible refine lZ ?_
 first|refine hU (iq ?_)|skip
 refine hU<|Hs c.typeIs (by decide) ?_
 refine hU (ur (name:=ba "__getitem__") c.typeIs xK
  (oM xK c.typeIs Hr ?_<|Hq _ _))
 show ae _ _ (bR (.ref t)>>=_) _ _ s;refine hU<|Ho c ?_;refine hU<|tR l ?_;rw[iF<|by decide];refine hU<|rG f n o ?_;rw[g.1,g.2];show ae _ _ (if((((0:Nat):Int)==0&&(1:Int)==1&&(b.size-0)==b.size)=U) then _ else _) _ _ s;rw[iF<|by simp];refine hU (m:=ek _) ?_;unfold ek;refine hU<|tR c.typeIs ?_;refine iq ?_;rw[iF<|by decide];refine hU<|uq ?_
 first
  |exact hU<|iq ⟨_,rfl,iq h⟩
  |exact iq ⟨_,rfl,iq h⟩
  |exact hU<|iq<|iq ⟨_,rfl,iq h⟩
  |(refine hU ?_;trace_state;done)
end
end HT
namespace PX
open PySem PySem.Spec PyProof.Rows L2 PySem.SeqAt
def mU(l:List D)(lo a:Option Int):List D:=(l.drop<|HT.sIx (Ix l) 0 lo).take<|HT.sIx (Ix l) (Ix l) a-HT.sIx (Ix l) 0 lo
def gSl(lo a:Option Int):D->Option (D×Bool)
 | .tup l=>Y (.tup<|mU l lo a,C)
 | .lst l=>Y (.lst<|mU l lo a,U)
 |_=>J
def Zz(K:iM):V->Option Int->Option Int->Hp->VK->Prop:=λx lo a T Q=> ∃(O:AP') (d:D) (z:D×Bool),(∀p,¬Ow (T p)-> ¬O p)/\kj K T O d x/\gSl lo a d=Y z/\Gen K T O z Q
def RepL.cut{K T}(r:RepL K T O l xs)(lo a:Option Int):RepL K T O (mU l lo a) (GJ xs lo a):=by unfold mU GJ;rw[r.length];exact(r.drop _).take _
section
variable {X:Cx}
def FR{b:ji}{s:il}{h:L2.St}{N:Hp}{a:hV}{v e f:iC}{lo c:Option Int}{d:hV}{Q:VK}{O:AP'}{l:List D}{g:List V}(M:Inv X b h N s)(n:RelV (.ref a) v)(j:s.heap.IsSliceOf d e f .none)(k:dG e lo)(m:dG f c)
  (q:SqL X.K N a g)(r:RepL X.K N O l g)(G:Gen X.K N O (.lst<|mU l lo c,U) Q): ∃T id,fM (.type T) "__getitem__"=pure (Y<|.builtin id)/\s.TypeIs v T/\ae (ag X.prog X.w) X.A (c0 v<|.ref d) (EP X b h Q) X.xe s:=
 Q7 b s h N (.ref a) v e f lo c d Q M n j k m ⟨a,g,rfl,q,λp i=>G.lst i<|r.cut lo c⟩
def Xa:SlR X (Zz X.K):=by
 intro f s E T x v B M lo g A Q N n i k m h;obtain⟨O,d,z,np,hd,o,G⟩:=h
 cases d with
 |tup l=>
  cases o;rcases hd with hd|⟨a,_,h⟩
  .obtain⟨a,b,rfl,q,r⟩:=hd.tup;by_cases j:HT.sIx b.length 0 lo=0/\HT.sIx b.length b.length g=b.length
   .cases n;obtain⟨t,y,w,L⟩:=N.tuple q.sq;have c:t.toArray.size=b.length:=by rw[jw];exact y.length.symm
    refine⟨"tuple",_,xK.lookup,w.typeIs,?_⟩;refine HT.II w i k m (by rw[c];exact j) ⟨.ref a,T,N,rfl,?_⟩
    have e:mU l lo g=l:=by unfold mU;rw[<-r.length,j.1,j.2];simp[r.length]
    rw[e] at G;exact G (.ref a) T (λ_ _ e=>e) hd
   .exact UL f s E T (.ref a) v B M lo g A Q N n i k m ⟨a,b,rfl,q.sq,j,λp u=>G.tup u (np p<|nOw u)<|r.cut lo g⟩
  .exact h.elim
 |lst l=>
  cases o;rcases hd with hd|⟨a,rfl,h⟩
  .obtain⟨a,b,rfl,q,r⟩:=hd.lst;exact FR N n i k m q.sq r G
  .obtain⟨b,e,r⟩:=h;exact FR N n i k m (.inl<|.inl e) r G
 |_=>cases o
end
def oP(a b:FO):F:=λδ=>(a δ).bind λp=>(b p.2).bind λq=>match res q.2 q.1 with
 |some (.int i)=>(res q.2 p.1).bind λx=>(gSl (Y i) J x).bind λz=>Y (z,q.2)
 |_=>J
def nW(a b:FO):F:=λδ=>(a δ).bind λp=>(b p.2).bind λq=>match res q.2 q.1 with
 |some (.int i)=>(res q.2 p.1).bind λx=>(gSl J (Y i) x).bind λz=>Y (z,q.2)
 |_=>J
section
variable {X:Cx}{a lo b:iA}{d g h:FO}{c f:bC}
def Ru(s:PO X a d)(t:PO X lo g):PX X (.Subscript a (.Slice (Y lo) F2 F2 f) c) (oP d g):=
 PX.imp (F1 Xa s (JJ t) JK) λN H Q y=>by
  obtain⟨L,T,M,O,E,e,k⟩:=y;unfold oP at e;obtain⟨⟨q,l⟩,h1,e⟩:=hJ e;obtain⟨⟨I,n⟩,r,e⟩:=hJ e;dsimp only at e;split at e
  .rename_i i b;obtain⟨x,A,e⟩:=hJ e;obtain⟨z,C,e⟩:=hJ e;obtain⟨rfl,rfl⟩:=iQ e;refine⟨L,T,q,l,E,h1,λv G m=>⟨l,Cj T q v,I,n,m.er E,r,λu J o=>?_⟩⟩;have B:=Ops.cons E m<|Ops.cons (m.er E) o<|Ops.nil<|o.er<|m.er E;exact⟨i,jd<|B.view (j:=1) H8 H8 b,_,x,z,λp w=>B.np w,B.view (j:=0) H8 H8 A,C,B.done k⟩
  .cases e
def Rv(s:PO X a d)(t:PO X b h):PX X (.Subscript a (.Slice F2 (Y b) F2 f) c) (nW d h):=
 PX.imp (F1 Xa s JK<|JJ t) λN H Q y=>by
  obtain⟨L,T,M,O,E,e,k⟩:=y;unfold nW at e;obtain⟨⟨q,l⟩,h1,e⟩:=hJ e;obtain⟨⟨I,n⟩,r,e⟩:=hJ e;dsimp only at e;split at e
  .rename_i i b;obtain⟨x,A,e⟩:=hJ e;obtain⟨z,C,e⟩:=hJ e;obtain⟨rfl,rfl⟩:=iQ e;refine⟨L,T,q,l,E,h1,λv G m=>⟨l,Cj T q v,I,n,m.er E,r,λu J o=>?_⟩⟩;have B:=Ops.cons E m<|Ops.cons (m.er E) o<|Ops.nil<|o.er<|m.er E;exact⟨i,jd<|B.view (j:=1) H8 H8 b,_,x,z,λp w=>B.np w,B.view (j:=0) H8 H8 A,C,B.done k⟩
  .cases e
end
end PX
namespace L2
open PySem PySem.Spec PyProof.Rows
section
variable {X:Cx}
def W6(O:It)(g:TG)(b:TT)(a:hV->TB)(pre:St->St)(c:St)(T:Hp)(Q:VK):Prop:=JB (.set (λ_=>C) 0) O g b a pre c T Q
def Ew(c:TI)(g:TG)(ti:TT)(tb:hV->TB)(pre:St->St):TE:=λa T Q=>c a T λO b=>W6 O g ti tb pre a b Q
def Od{e:iA}{c:pP}{iW:qo}{scope:km}{f:bC}{r:jr}{pre:St->St}{B:TI}{g:TG}{ti:TT}{tb:hV->TB}
  (S:CompScope X r scope pre)(hc:X.calm=Gc)(ha:c.is_async=0)(l4: ∀y,iW[0]?=FM y->y.is_async=0)
  (hs: ∀x,aw c.iter X.env x=pure x)(pi:PI X c.target c.iter B)
  (v5: ∀(cl:mq) (C:hV) (z:il) (l:Hp) (u:kH) (a:ji),let i:=X.comp r scope cl C z l u a
   PG i c.target g/\PIf i c.ifs ti/\ ∀d,PB i (jA (.SetComp e (c::iW) scope f) 0 (.ref d) i.env)<|tb d):
  PE X (.SetComp e (c::iW) scope f) (Ew B g ti tb pre):=by
 intro a s E H Q I h;obtain⟨tg,t,k,N⟩:=c;obtain rfl:N=0:=ha;obtain⟨cl,p5,Z,W⟩:=xF X.env scope λx V K=>I.ok.has x.1<|S.free x V K;rw[arm_eval_SetComp];show ae _ X.A (gc _ scope X.env _ (newSet<|.type "set") Go (aM t X.env)) _ _ s;refine Hj (use:=F2) (g:=⟨tg,t,k,0⟩) (gs:=iW) H8 hs p5 S.kind S.names<|thn (pi a s E H _ I h) λv s1 h1=>thn h1 λda s2 D=>?_;obtain⟨it,u,tn,J,H2,rfl,n,T,M,f2,R⟩:=D;refine wpAny_newSet_of (knd:=gW X.prog X.w) λled F=>?_;refine zM (RR:=λj C=>vl (ag X.prog X.w) X.A X.xe F2 (EP X a E Q) j C) (.inr ⟨_,_,_,_,rfl⟩) H8 S hc H8 l4 v5 Z W n T M f2 (n.laid (t':=s2.toks) (o:= .set (λ_=>Go) 0) (λb ob q=>jS _ q) (jQ _) F) R λd U z l L σ' s4 O Y p q=>?_;obtain⟨m,P,_⟩:=id p.loc;exact⟨m,P,λh' G=>⟨.ref d,L,BU O Y p G,rfl,q⟩⟩
def UD(d:hV)(e:TE):TB:=λc T N=>e c T λy a=> ∃k S n,y= .int k/\a d=Y (.set S n)/\n+1<gk/\N c (upd a d<|.set (λb=>S b||decide (b=k)) (if S k then n else n+1))
def Om{a:iA}{c:qo}{i:km}{p:bC}{depth:Nat}{d:hV}{j:TE}(L:c[depth+1]?=J)(E:PE X a j):PB X (jA (.SetComp a c i p) depth (.ref d) X.env) (UD d j):=by
 intro f s m H N I h
 have z:jA (.SetComp a c i p) depth (.ref d) X.env=(do let v <-aM a X.env;cq a.pos;let _ <-call (.builtin "set.add") [.ref d,v]):=by unfold jA;simp -iota only[clausesOf.eq_def];rw[L]
 rw[z];refine hU<|thn (E f s m H _ I h) λu s1 a'=>?_;obtain⟨y,J',g,G,k,S,n,A,hd,T,q⟩:=a';subst A;obtain⟨t,rfl⟩:=G;have B:s1.heap.SetOf (gW X.prog X.w) d S n:=g.hok d _ hd;refine hU<|wR<|hU<|call_set_add (knd:=gW X.prog X.w) (k:=k) (intKind_is _ _ k t) H8 B T λM r l=>iq ⟨m,_,?_,q⟩;refine g.write (x:=d) (e:=d) (by rw[hd];exact trivial) (.inl H8) (λb u C Q=>by rw[r.2 b C];exact Q) ?_ l;obtain⟨o,_,_,_,O,_⟩:=l;exact⟨o,O⟩
end
end L2
namespace PX
open PySem PySem.Spec PyProof.Rows L2 PySem.SeqAt
noncomputable def B7(f:F):FB:=λa b=>(f b).bind λp=>match p.1.1 with
 | .int k=>if (Ix a)+1<gk then Y (a++[.int k],p.2) else J
 |_=>J
section
variable {X:Cx}{A:kg}{d:hV}{c:iA}{f:F}
def Li{j:qo}{J:km}{p:bC}{depth:Nat}(E:j[depth+1]?=F2)(y:PX X c f):PB X (jA (.SetComp c j J p) depth (.ref d) X.env) (tBx Gc X.K A d<|B7 f):=PB.imp' (Om E y) λm H N I=>by
 obtain⟨w,T,g,Y,M,B,e,k⟩:=I;obtain⟨⟨r,h⟩,h1,e⟩:=hJ e;obtain⟨O,Q⟩:=r
 cases O with
 |int i=>
  obtain⟨U,e⟩:=jh e;obtain⟨rfl,rfl⟩:=sy e;refine⟨w,T,(.int i,Q),h,B.er,h1,λv s P=>?_⟩;obtain⟨q,G⟩:=P.rep B.er;have hv:v= .int i:=G.int;have t:SK A m w H m h s:=P.1.sk;have x:=B.step t q;have C:=Rf g (λ_=>Go,0);refine⟨i,_,_,hv,x.at',by unfold oo;lia,k m _ ?_ ?_⟩
  .have:SKd A d m h s m h (upd s d<|.set (λu=>(oo g).1 u||decide (u=i)) (if(oo g).1 i then(oo g).2 else(oo g).2+1)):=⟨λa o e n L=>by rw[jk L];exact e,λi a z=> .inl z,λa z=>by
    by_cases l:a=d
    .subst l;rw[jm];simp
    .rw[jk l];exact z,λ_ _=>rfl⟩
   exact t.skd.trans this
  .refine⟨q.mono (λb o e n=>by rw[jk<|by intro z;subst z;exact n B.td];exact e) (λ_ _ z=>z) λa z=>?_,B.td,?_⟩
   .by_cases l:a=d
    .subst l;rw[jm];trivial
    .rw[jk l];exact q.dom a z
   .show upd _ _ _ _=_;rw[jm,C1]
 |_=>cases e
end
def vI(b:ky)(k:Nat)(d:FIt)(e:Tg)(ti:FT)(c:FB):F:=λf=>(d f).bind λp=>(kE p.2<|b.map .slot).bind λa=>if(iR (b.map .slot) a).Nodup then(lq e ti c p.1 []<|a.map Y++ah k J).bind λq=>Y ((.int (oo q.1).2,C),wb (b.map .slot) a (iN a q.2) p.2) else J
def LU{K:iM}{b:ky}{k:Nat}{f:FIt}{g:Tg}{ti:FT}{e:FB}{j:L2.St}{T:Hp}{Q:VK}(h:tF K (vI b k f g ti e) j T Q):
  Ew (tI K (λi=>i∉b) f) (tG K (λi=>Ix b<=i) g) (tT K ti) (λd=>tBx U K (λi=>Ix b<=i) d e) (Co b k) j T (λx c=> ∃S n,∃a,x= .ref a/\c a=Y (.set S n)/\Q (.int n) c):=Dx (S:=U) h
section
variable {X:Cx}{j:iA}{c:pP}{iW:qo}{scope:km}{f l p:bC}{L:jr}{b:ky}{k:Nat}{B:FIt}{y:Tg}{ti:FT}{A:FB}
def LZ:kQ X (.builtin "len") (λi N Q=> ∃S n,∃a,i=[.ref a]/\N a=Y (.set S n)/\Q (.int n) N):=by
 intro g s G N i T Q M r h;obtain⟨S,n,a,rfl,e,q⟩:=h;obtain⟨u,rfl,C⟩:=qu r;cases C;obtain⟨o,m,E,t,z,hex,hd,_,_,O,v,x⟩:=(show s.heap.SetOf (gW X.prog X.w) a S n from M.hok a _ e)
 have d:(m.size:Int)<2^63:=by
  have:gk=4096:=rfl
  lia
 refine call_len_set z hex hd v d ⟨.int n,N,?_,⟨_,by rw[x]⟩,q⟩;exact(M.tok _)
def K0{z:aW}(C:CompOk X L scope b k)(hc:X.calm=Gc)(ha:c.is_async=0)(l4: ∀M,iW[0]?=FM M->M.is_async=0)
  (hs: ∀x,aw c.iter X.env x=pure x)(pi:PIX X (λi=>i∉b) c.target c.iter B)
  (v5: ∀(cl:mq) (C:hV) (s3:il) (H3:Hp) (fp:kH) (o:ji),let r:=X.comp L scope cl C s3 H3 fp o
   PGX r (λi=>Ix b<=i) c.target y/\PIf r c.ifs (tT X.K ti)/\ ∀d,PB r (jA (.SetComp j (c::iW) scope f) 0 (.ref d) r.env)<|tBx Gc X.K (λi=>Ix b<=i) d A)
  (hg:Gl X z)(hm:X.mg z=F2)(hv:aH z=FM (.builtin "len"))(hn:z≠"__name__")(m6:(z==("__debug__":aW))=Go)
  (h1:ac [.SetComp j (c::iW) scope f] X.env=(Go,aM (.SetComp j (c::iW) scope f) X.env)::ac [] X.env)(j1:(aJ l<|ac [] X.env).any (·.1)=Go):
  PX X (.Call (.Name z p) [.SetComp j (c::iW) scope f] [] l) (vI b k B y ti A):=
 PX.imp (Bk LZ hg hm hv (pB (Od (g:=tG X.K (λi=>Ix b<=i) y) (ti:=tT X.K ti) (tb:=λd=>tBx Gc X.K (λi=>Ix b<=i) d A) C.sco hc ha l4 hs pi v5) uP h1) hn m6 h1 j1) λN H Q h=>by
  have q:=LU h
  have mono: ∀{t u:VK},(∀v H,t v H->u v H)->Ew (tI X.K (λi=>i∉b) B) (tG X.K (λi=>Ix b<=i) y) (tT X.K ti) (λd=>tBx Gc X.K (λi=>Ix b<=i) d A) (Co b k) N H t->Ew (tI X.K (λi=>i∉b) B) (tG X.K (λi=>Ix b<=i) y) (tT X.K ti) (λd=>tBx Gc X.K (λi=>Ix b<=i) d A) (Co b k) N H u:=by
   rintro t u hq ⟨δ,T,ds,I',E,h1,kk⟩;refine⟨δ,T,ds,I',E,h1,λJ G D U ok d hd=>?_⟩;obtain⟨W,F,step⟩:=kk J G D U ok d hd;refine⟨W,F,λi m O Y w=>?_⟩;rcases step i m O Y w with⟨s1,s2⟩|s
   .exact .inl ⟨s1,hq _ _ s2⟩
   .exact .inr s
  exact mono (λv G a'=>by obtain⟨S,n,a,e,h2,h3⟩:=a';exact ⟨S,n,a,by rw[e],h2,h3⟩) q
end
end PX
namespace HT
open PySem PySem.Spec PyProof.Rows L2
section
variable {a:iU}{w:iK}{A:iP}{E:jf}{s:il}
def Jn(n:Nat):bf J J (-1) (n:Int)=((n:Int)-1, -1):=by unfold bf;rfl
def H9(n:Nat):aS ((n:Int)-1) (-1) (-1)=n:=by
 unfold aS;rw[iL<|by decide];by_cases h:n=0
 .subst h;rfl
 .rw[iF<|by lia];simp only[gi,sa]
  lia
def Wb{b c:Type}{f:b->Option c}{g:b->c}: ∀{l:List b},(∀m∈l,f m=Y (g m))->l.filterMap f=l.map g:=by
 intro i
 induction i with
 |nil=>intro _;exact I
 |cons x l e=>intro h;rw[List.filterMap_cons_some<|h x (jP ..),jx,e λm d=>h m<|jU _ d]
def N4(b:nI):((aj b.size).filterMap λ(m:Nat)=>b[((b.size:Int)-1+(m:Int)*(-1)).toNat]?).toArray=b.toList.reverse.toArray:=by
 congr 1
 have e:(aj b.size).filterMap (λ(m:Nat)=>b[((b.size:Int)-1+(m:Int)*(-1)).toNat]?)=(aj b.size).map λm=>b.toList.reverse.getD m .none:=by
  refine Wb λm c=>?_;have c:=vm.1 c;have:((b.size:Int)-1+(m:Int)*(-1)).toNat=b.size-1-m:=by omega
  rw[this];have f:b.size-1-m<b.size:=by omega
  simp[c,f,List.getElem_reverse]
 rw[e];apply Ef;intro i;by_cases d:i<b.size
 .simp[d]
 .simp[d]
def zq{d:hV}{t:nL}{n:Nat}{Q:Int×Int×Nat->il->Prop}(f:s.heap.IsSliceOf d .none .none (.int (-1) t))
  (h:Q ((n:Int)-1, -1,n) s):ae (ag a w) A (bT (.ref d)<|pure (n:Int)) Q E s:=by
 obtain⟨os,c,g,b⟩:=id f;unfold bT eu;refine hU<|hU<|oh c b (x:= .none) I<|hU<|oh c b (x:= .none) I<|hU<|oh c b (x:= .int (-1) t) I<|iq ?_;refine hU<|y8 ?_;show ae _ _ (if((-1:Int)==0)=U then _ else _) _ _ s;rw[iL<|by decide];refine hU<|Ej<|hU<|Ej<|hU<|iq ?_;show ae _ _ (match bf J J (-1) (n:Int) with|(lo,e)=>pure (lo,(-1:Int),aS lo e (-1))) _ _ s;rw[Jn n];show ae _ _ (pure ((n:Int)-1,(-1:Int),aS ((n:Int)-1) (-1) (-1))) _ _ s;rw[H9];exact iq h
def IG(b:gz s.heap t items)(e:s.heap.IsSliceOf f .none .none (.int (-1) u))
  (h:Q (.ref s.heap.objs.size) {s with heap:=s.heap.push {cls:= .type "tuple",data:= .seq items.toList.reverse.toArray}})
  (d:items.size<=sizeLine):ae (ag a w) A (c0 (.ref t)<|.ref f) Q E s:=by
 have c:sizeOk (.seq items.toList.reverse.toArray):=by show items.toList.reverse.toArray.size<=sizeLine;rw[jw,AK,kG];exact d
 obtain⟨os,j,g,k⟩:=id e;have i:s.TypeIs (.ref f) "slice":=⟨os,j,g⟩
 unfold c0
 try with_reducible refine lZ ?_
 first|refine hU (iq ?_)|skip
 refine hU<|Hs b.typeIs (by decide) ?_
 refine hU (ur (name:=ba "__getitem__") b.typeIs xK
  (oM xK b.typeIs Hr ?_<|Hq _ _))
 show ae _ _ (bR (.ref t)>>=_) _ _ s;refine hU<|Ho b ?_;refine hU<|tR i ?_;rw[iF<|by decide];refine hU<|zq e ?_;show ae _ _ (if((((items.size:Int)-1)==0&&(-1:Int)==1&&items.size==items.size)=U) then _ else _) _ _ s;rw[iL<|by simp,N4]
 first
  |exact hU (m:=aF _)<|mT (iq ⟨_,rfl,iq h⟩) c
  |exact hU (m:=aF _)<|mT (hU<|iq<|iq ⟨_,rfl,iq h⟩) c
  |exact hU<|hU (m:=aF _)<|mT (iq<|iq ⟨_,rfl,iq h⟩) c
  |exact hU<|hU (m:=aF _)<|mT (iq ⟨_,rfl,iq h⟩) c
end
end HT
namespace L2
open PySem PySem.Spec PyProof.Rows
section
variable {X:Cx}{e st:iA}{d c:TE}{f g:bC}
def YT(K:iM)(d c:TE):TE:=λi T Q=>d i T λx j=>c i j λy b=>y= .int (-1)/\ ∃a h,x= .ref a/\SqT K b a h/\ ∀p,b p=J->Q (.ref p) (upd b p<|.tup h.reverse)
def F0(G:PE X e d)(Y:PE X st c):PE X (.Subscript e (.Slice J J (FM st) g) f) (YT X.K d c):=by
 intro i s l H Q I h;refine n3<|thn (G i s l H _ I h) λv s1 a'=>?_;obtain⟨x,C',L,U',N⟩:=a';refine Ch ?_;rw[Hn];refine iq<|iq ?_;rw[wL];refine thn (Y i s1 l C' _ L N) λu j a'=>?_;obtain⟨y,E,O,ry,T,a,B,ex,J',q⟩:=a';subst T ex;obtain⟨t,rfl⟩:=ry;cases U';have m:Inv X i l E {j with heap:=j.heap.push {cls:= .type "slice",data:= .fields #[.none,.none,.int (-1) t]}}:=O.kept (t':=j.toks) λb M q=>jS _ q;obtain⟨n,r,p,z⟩:=m.tuple J';have k:n.toArray.size=(Ix B):=by rw[jw];exact r.length.symm
 show ae (ag X.prog X.w) X.A (eT e (.Slice J J (FM st) g) (.ref a)<|.ref j.heap.objs.size) (EP X i l Q) X.xe {j with heap:=j.heap.push {cls:= .type "slice",data:= .fields #[.none,.none,.int (-1) t]}};refine tail_any (ops:=[.ref a,.ref j.heap.objs.size]) p.typeIs xK.lookup (HT.IG p (Heap.IsSliceOf.new ..) ?_<|by rw[k];exact z) (by with_unfolding_all rfl);refine⟨.ref _,_,m.laid (t':=j.toks) (o:= .tup B.reverse) (λb M q=>jS _ q) (jQ _) ?_,rfl,q _ (m.hok.fresh<|jQ _)⟩;exact⟨by rw[AK];exact z,_,r.reverse,AR _ _⟩
end
end L2
namespace PX
open PySem PySem.Spec PyProof.Rows L2 PySem.SeqAt
noncomputable def XZ:D->Option (D×Bool)
 | .tup l=>Y (.tup l.reverse,C)
 |_=>J
def RepL.reverse{K T}{O:AP'}: ∀{l:List D} {a:List V},RepL K T O l a->RepL K T O l.reverse a.reverse:=by
 intro e
 induction e with
 |nil=>intro a h;rw[RepL] at h;subst h;exact RepL.nil
 |cons d l c=>intro a h;rw[RepL] at h;obtain⟨v,r,rfl,h1,b⟩:=h;rw[AQ,AQ];exact(c b).append (RepL.one h1)
def P4(a fs:FO):F:=λδ=>(a δ).bind λp=>(fs p.2).bind λq=>match res q.2 q.1 with
 |some (.int i)=>if i= -1 then(res q.2 p.1).bind λx=>(XZ x).bind λz=>Y (z,q.2) else J
 |_=>J
section
variable {X:Cx}{a st:iA}{c fs:FO}{b d:bC}
def U8(y:PO X a c)(C:PO X st fs):PX X (.Subscript a (.Slice F2 F2 (FM st) d) b) (P4 c fs):=
 PX.imp (F0 y C) λF H Q I=>by
  obtain⟨J,T,D,M,E,e,k⟩:=I;unfold P4 at e;obtain⟨⟨s,f⟩,h1,e⟩:=hJ e;obtain⟨⟨O,h⟩,w,e⟩:=hJ e;dsimp only at e;split at e
  .rename_i i A;split at e
   case isFalse=>cases e
   rename_i t;subst t;obtain⟨x,L,e⟩:=hJ e;obtain⟨z,o,e⟩:=hJ e;obtain⟨rfl,rfl⟩:=iQ e;refine⟨J,T,s,f,E,h1,λv N g=>⟨f,Cj T s v,O,h,g.er E,w,λu U m=>?_⟩⟩;have B:=Ops.cons E g<|Ops.cons (g.er E) m<|Ops.nil<|m.er<|g.er E;have hv:=B.view (j:=0) H8 H8 L;refine⟨jd<|B.view (j:=1) H8 H8 A,?_⟩
   cases x with
   |tup l=>
    cases o;rcases hv with hv|⟨_,_,hv⟩
    .obtain⟨p,G,rfl,q,r⟩:=hv.tup;exact⟨p,G,rfl,q.sq,λY n=>(B.done k).tup n (B.np<|nOw n) r.reverse⟩
    .exact hv.elim
   |_=>cases o
  .cases e
end
section
variable {b:kn}{a:eO}
end
end PX
namespace TT
open PySem
noncomputable def S:Nat->Nat
 |0=>0
 |n+1=>5*S n+1
theorem Kz(m:Nat): ∀n:Nat,S (m+n)=5^n*S m+S n
 |0=>by simp[S]
 |n+1=>by rw[<-yS,S,Kz m n,S,qJ,wD,<-sd,yP 5 (5^n)];lia
theorem BL: ∀n:Nat,∃c,5^n=4*c+1
 |0=>⟨0,rfl⟩
 |n+1=>by obtain⟨c,e⟩:=BL n;exact⟨5*c+1,by rw[qJ,e];lia⟩
theorem Qy: ∀k:Nat,∃c,S (2^k)=2^k*(2*c+1)
 |0=>⟨0,rfl⟩
 |k+1=>by
  obtain⟨c,e⟩:=Qy k;obtain⟨d,f⟩:=BL (2^k)
  have h:S (2^(k+1))=(5^2^k+1)*S (2^k):=by rw[qJ,Nat.mul_two,Kz,fe,G5]
  refine⟨2*(d*c)+d+c,?_⟩;rw[h,f,e,qJ];have:4*d+1+1=2*(2*d+1):=by lia
  rw[this,sd 2,yP (2*d+1),sd (2^k),sd (2^k),<-sd 2 (2^k),yP 2 (2^k),sd (2^k) 2]
  congr 2
  rw[fe,wD,G5,yO,sd 2 c,DX c 2 d,yP c d]
  lia
def Qz(k n:Nat):S (2^k+n)%2^k=S n%2^k:=by obtain⟨c,e⟩:=Qy k;rw[Kz,e,DX,ms]
def Ky: ∀(k e:Nat),e<2^k-> ∃n,n<2^k/\S n%2^k=e:=by
 intro u
 induction u with
 |zero=>intro e h;exact⟨0,by simp,by simp at h;subst h;rfl⟩
 |succ k t=>
  intro e h;have l:0<2^k:=mo k;obtain⟨n,z,s⟩:=t (e%2^k)<|yN _ l;obtain⟨c,m⟩:=Qy k;obtain⟨d,o⟩:=BL n
  have b:S (2^k+n)=2^(k+1)*(4*d*c+2*d+c)+2^k+S n:=by
   rw[Kz,m,o,qJ,DX,sd (2^k) 2]
   have:(4*d+1)*(2*c+1)=2*(4*d*c+2*d+c)+1:=by rw[fe,wD,G5,yO,DX (4*d) 2 c];lia
   rw[this,wD,yO]
  rw[qJ] at h b ⊢;generalize 2^k=P at*;have j:=mu (S n) P;have i:=mu e P;rw[s] at j;have A:e / P<2:=Nat.div_lt_of_lt_mul (by rw[yP] at h;lia)
  have mk: ∀a q x,a=P*2*q+x->x<P*2->a%(P*2)=x:=λa q x h1 b=>by rw[h1,ms,Nat.mod_eq_of_lt b]
  have y:=yN e l;have v:S n / P=2*(S n / P / 2)+S n / P%2:=by lia
  have g:S n=P*2*(S n / P / 2)+(P*(S n / P%2)+e%P):=by rw[sd,<-yS,<-wD,<-v];exact j.symm
  generalize S n / P / 2=q at g;have w:S n / P%2<2:=yN _ (by decide);generalize S n / P%2=r at g w;generalize e / P=f at*;by_cases p:r=f
  .exact⟨n,by lia,mk _ q _ (by rw[g,p,i]) h⟩
  .refine⟨P+n,by lia,mk _ (4*d*c+2*d+c+q+r) _ ?_ h⟩;rw[b,g,wD (P*2) _ r,wD (P*2) _ q];rcases(show r=0\/r=1 by lia) with rfl|rfl
   .have:f=1:=by lia
    subst this;rw[G4,G4];rw[yO] at i;lia
   .have:f=0:=by lia
    subst this;rw[yO,yO];rw[G4] at i;lia
noncomputable def ls(mask:Nat)(h:Int):Nat->Nat×Nat
 |0=>(aL h%(mask+1),aL h)
 |k+1=>cA mask (ls mask h k).1 (ls mask h k).2
def Tq(h:Int):aL h<2^64:=by
 unfold aL;have:=G3 h (show(0:Int)<2^64 by decide);have:=G2 h (show(2^64:Int)≠0 by decide)
 lia
def JW(mask:Nat)(h:Int): ∀k,(ls mask h k).1<=mask
 |0=>by have:=yN (aL h) (show 0<mask+1 by lia);show _%(mask+1)<=_;lia
 |k+1=>by show(_%(mask+1))<=_;have:=yN ((ls mask h k).1*5+1+(ls mask h k).2 / 32) (show 0<mask+1 by lia);lia
theorem JV(mask:Nat)(h:Int): ∀k,(ls mask h k).2=aL h / 32^k
 |0=>by simp[ls]
 |k+1=>by show(ls mask h k).2 / 32=_;rw[JV mask h k,qJ,Nat.div_div_eq_div_mul]
def Sx(mask:Nat)(h:Int)(k:Nat)(hk:13<=k):(ls mask h k).2=0:=by rw[JV];refine Nat.div_eq_of_lt<|pz (Tq h) ?_;exact ly (show 2^64<=32^13 by decide)<|yM (by decide) hk
theorem OS(mask:Nat)(h:Int)(m:Nat)(a:(ls mask h 13).1=S m%(mask+1)): ∀n,(ls mask h (13+n)).1=S (m+n)%(mask+1)
 |0=>a
 |n+1=>by show(((ls mask h (13+n)).1*5+1+(ls mask h (13+n)).2 / 32)%(mask+1))=_;rw[Sx mask h _ (by lia),OS mask h m a n,Nat.zero_div,fY,<-yS m n 1,S,tz,Nat.mod_mul_mod,<-tz,yP 5]
def Gh(hk:mask+1=2^k)(h:Int)(g:e<=mask): ∃n,n<mask+14/\(ls mask h n).1=e:=by
 have i:=JW mask h 13;obtain⟨m,c,b⟩:=Ky k (ls mask h 13).1 (by lia);obtain⟨q,d,eq⟩:=Ky k e (by lia);rw[<-hk] at b eq c d;have a:=OS mask h m b.symm;by_cases f:m<=q
 .exact⟨13+(q-m),by lia,by rw[a,show m+(q-m)=q by lia];exact eq⟩
 .refine⟨13+(q+(mask+1)-m),by lia,?_⟩;rw[a,show m+(q+(mask+1)-m)=2^k+q by lia,hk,Qz,<-hk];exact eq
def HQ(mask i:Nat)(h:i<=mask):i<=aB mask i/\aB mask i<=mask/\aB mask i<=i+9:=by unfold aB;split<;>lia
noncomputable def tm(mask:Nat)(h:Int):Nat->Nat
 |0=>0
 |k+1=>tm mask h k+(aB mask (ls mask h k).1-(ls mask h k).1)+1
theorem TU(mask:Nat)(h:Int): ∀k,tm mask h k<=10*k
 |0=>jQ _
 |k+1=>by have:=TU mask h k;have:=HQ mask _ (JW mask h k);unfold tm;lia
noncomputable def at_(mask:Nat)(h:Int)(k t:Nat):SetTable.Probe:=⟨(ls mask h k).1+t,aB mask (ls mask h k).1-(ls mask h k).1-t,(ls mask h k).1,(ls mask h k).2,J⟩
theorem xh(mask:Nat)(h:Int): ∀k t,t<=aB mask (ls mask h k).1-(ls mask h k).1->pr mask h (tm mask h k+t)=at_ mask h k t
 |0,0,_=>rfl
 |k+1,0,_=>by have e:=xh mask h k (aB mask (ls mask h k).1-(ls mask h k).1)<|jQ _;show adv mask (pr mask h<|tm mask h k+(aB mask (ls mask h k).1-(ls mask h k).1))=_;rw[e];unfold adv at_;simp only[Nat.sub_self,rB,kb,gt_iff_lt];rfl
 |k,t+1,a=>by
  have e:=xh mask h k t (by lia);show adv mask (pr mask h<|tm mask h k+t)=_;rw[e];unfold adv at_;rw[iF (show aB mask (ls mask h k).1-(ls mask h k).1-t>0 by lia)];simp only[SetTable.Probe.mk.injEq,and_true,true_and]
  lia
def NZ(hk:mask+1=2^k)(h:Int)(a:e<=mask): ∃n,n<10*(mask+14)/\(pr mask h n).j=e:=by obtain⟨r,b,er⟩:=Gh hk h a;have:=TU mask h r;refine⟨tm mask h r,by lia,?_⟩;have:=xh mask h r 0<|mr _;rw[fY] at this;rw[this];exact er
theorem NY(mask:Nat)(h:Int): ∀n,(pr mask h n).dummy=J
 |0=>rfl
 |n+1=>by show(adv mask<|pr mask h n).dummy=J;unfold adv;split<;>exact NY mask h n
theorem FZ(mask:Nat)(h:Int): ∀n,∃k t,n=tm mask h k+t/\t<=aB mask (ls mask h k).1-(ls mask h k).1
 |0=>⟨0,0,rfl,mr _⟩
 |n+1=>by
  obtain⟨k,t,e,b⟩:=FZ mask h n;by_cases a:t+1<=aB mask (ls mask h k).1-(ls mask h k).1
  .exact⟨k,t+1,by lia,a⟩
  .exact⟨k+1,0,by unfold tm;lia,mr _⟩
def NX(mask:Nat)(h:Int)(n:Nat):(pr mask h n).j<=mask:=by obtain⟨k,t,e,a⟩:=FZ mask h n;rw[e,xh mask h k t a];have:=HQ mask _ (JW mask h k);show(ls mask h k).1+t<=mask;lia
def EG{c:Array Nat}(g:c.toList.Pairwise (· < ·)){i j:Nat}{a b:Nat}(h:i<j)(h1:c[i]?=Y a)(d:c[j]?=Y b):a<b:=by rw[<-nk] at h1 d;obtain⟨e,rfl⟩:=xN.mp h1;obtain⟨f,rfl⟩:=xN.mp d;exact QD.mp g i j e f h
def Qn{c:Array Nat}(o:c.toList.Pairwise (· < ·))(j:Nat): ∀(d lo b:Nat),lo<=b->b<=c.size->b-lo<=d->
  (∀i a,i<lo->c[i]?=Y a->a<j)->(∀i a,b<=i->c[i]?=Y a->j<=a)->
  let p:=SetTable.below.go c j d lo b
  p<=c.size/\(∀i a,i<p->c[i]?=Y a->a<j)/\(∀i a,p<=i->c[i]?=Y a->j<=a):=by
 intro u
 induction u with
 |zero=>
  intro lo b h1 g t h k;have:lo=b:=by lia
  subst this;exact⟨g,h,k⟩
 |succ d q=>
  intro lo b h1 g t h k;unfold SetTable.below.go;by_cases r:lo<b
  .rw[iF r];have n:(lo+b) / 2<c.size:=by lia
   have m:c[(lo+b) / 2]?=Y c[(lo+b) / 2]:=qp n;have hd:c.getD ((lo+b) / 2) j=c[(lo+b) / 2]:=by simp[fr,n]
   dsimp only;rw[hd];by_cases l:c[(lo+b) / 2]<j
   .rw[iF l];refine q ((lo+b) / 2+1) b (by lia) g (by lia) (λi a s f=>?_) k;by_cases e:i=(lo+b) / 2
    .subst e;rw[m] at f;cases f;exact l
    .exact Ei (EG o (by lia) f m) l
   .rw[iL l];refine q lo ((lo+b) / 2) (by lia) (by lia) (by lia) h λi a s f=>?_;by_cases e:i=(lo+b) / 2
    .subst e;rw[m] at f;cases f;lia
    .have:=EG o (show(lo+b) / 2<i by lia) m f;lia
  .rw[iL r];have:lo=b:=by lia
   subst this;exact⟨g,h,k⟩
def ql{b:Array Nat}(d:b.toList.Pairwise (· < ·))(j:Nat):ai b j<=b.size/\(∀i a,i<ai b j->b[i]?=Y a->a<j)/\(∀i a,ai b j<=i->b[i]?=Y a->j<=a):=
 Qn d j b.size 0 b.size (mr _) (jQ _) (by lia) (λi a h=>by lia) (λi a h1 c=>by have:=(L8.mp c).1;lia)
def B6{a:Array Nat}(c:a.toList.Pairwise (· < ·)){i j:Nat}(h:a[i]?=Y j):ai a j=i:=by
 obtain⟨h1,d,e⟩:=ql c j;by_cases g:i<ai a j
 .exact absurd (d i j g h) (rB _)
 .by_cases f:ai a j<i
  .have k:=(L8.mp h).1;have b:a[ai a j]?=Y a[ai a j]:=qp (by omega);have:=e _ _ (jQ _) b;have:=EG c f b h;omega
  .omega
theorem E7(j:Nat):D0 #[] j=C:=rfl
def rF{t:nh}(a:t.place.toList.Pairwise (· < ·)){i j:Nat}(h:t.place[i]?=Y j):t.slot j= .live i:=by unfold hH;dsimp only;rw[B6 a h,h];simp
def HN{t:nh}(hd:t.dummies= #[]){j:Nat}(h:j∉t.place.toList):t.slot j= .empty:=by
 unfold hH;dsimp only
 have:(t.place[ai t.place j]?==Y j)=C:=by rw[Ai];intro e;rw[<-nk] at e;exact h<|nK e
 rw[this,hd,E7];rfl
def Qs(t:nh)(p:cN):t.advance p=adv t.mask p:=by unfold Ev adv;split<;>rfl
def NW{k:iu}{t:nh}(ok:TabOk k t)(hashAt:Nat->Int)(h:Int): ∀(a n:Nat),(∃M,n<=M/\M<n+a/\(pr t.mask h M).j∉t.place.toList)->
    ∃m,n<=m/\(∀q,n<=q->q<m-> ∃i,t.place[i]?=Y (pr t.mask h q).j/\hashAt i≠h)/\
      (((pr t.mask h m).j∉t.place.toList/\dt t hashAt h a (pr t.mask h n)=Y (.empty (pr t.mask h m).j J))\/
       (∃i,t.place[i]?=Y (pr t.mask h m).j/\hashAt i=h/\dt t hashAt h a (pr t.mask h n)=Y (.candidate (pr t.mask h m).j i<|pr t.mask h<|m+1))):=by
  intro o
  induction o with
  |zero=>
    rintro n ⟨M,h1,f,g⟩
    lia
  |succ a l=>
    rintro n ⟨M,h1,f,g⟩;unfold dt;by_cases d:(pr t.mask h n).j∈t.place.toList
    · obtain⟨i,c⟩:=uo d
      rw[nk] at c;rw[rF ok.ris c];dsimp only;by_cases b:hashAt i=h
      · refine⟨n,jQ _,λq h1 f=>by lia,.inr ⟨i,c,b,?_⟩⟩
        rw[iF<|by simpa using b,Qs];rfl
      · rw[iL<|by simpa using b,Qs]
        have r:M≠n:=λe=>g<|e▸d;obtain⟨m,g1,g2,g3⟩:=l (n+1) ⟨M,by lia,by lia,g⟩;refine⟨m,by lia,λq s p=>?_,g3⟩;by_cases e:q=n
        · subst e;exact⟨i,c,b⟩
        · exact g2 q (by lia) p
    · rw[HN ok.dum d]
      dsimp only;rw[NY];exact⟨n,jQ _,λq h1 f=>by lia,.inl ⟨d,rfl⟩⟩
def Gk: ∀(n:Nat) (l:ky),Ix l<=n-> ∃e,e<=n/\e∉l:=by
 intro d
 induction d with
 |zero=>intro l h;exact⟨0,jQ _,by cases l with|nil=>simp|cons _ _=>simp at h⟩
 |succ n c=>
  intro l h;by_cases a:n+1∈l
  .obtain⟨e,h1,b⟩:=c (l.erase<|n+1) (by rw[MA a];lia);exact⟨e,by lia,λz=>b<|(DV<|by lia).mpr z⟩
  .exact⟨n+1,jQ _,a⟩
def TabOk.free(ok:TabOk f t)(h:Int): ∃M,M<10*(t.mask+14)/\(pr t.mask h M).j∉t.place.toList:=by
 obtain⟨k,_,_,hk⟩:=ok.pow
 have h1:(Ix t.place.toList)<=t.mask:=by have:=ok.len;have:=ok.room;rw[kG];lia
 obtain⟨e,c,d⟩:=Gk t.mask _ h1;obtain⟨n,a,b⟩:=NZ hk h c;exact⟨n,a,by rw[b];exact d⟩
def mE{b:Type}(a:Array b)(p:Nat)(x:b):(ay a p x).toList=a.toList.take p++x::a.toList.drop p:=by unfold ay;simp[Array.toList_extract,List.extract];rw[dv<|by simp]
def HR(h:xs.toList.Pairwise (· < ·))(n:j∉xs.toList):(ay xs (ai xs j) j).toList.Pairwise (· < ·):=by
 obtain⟨h1,l,k⟩:=ql h j;rw[mE,wA];refine⟨h.sublist<|ze _ _,?_,?_⟩
 .rw[AA];refine⟨λa d=>?_,h.sublist<|G9 _ _⟩;obtain⟨i,c⟩:=uo d;rw[ey] at c;have m:=k _ _ (show ai xs j<=ai xs j+i by lia) (by rw[<-nk];exact c);have:a≠j:=λe=>n (e▸nK c)
  lia
 .intro a d b g
  have f:a<j:=by
   obtain⟨i,c⟩:=uo d;rw[List.getElem?_take] at c;split at c
   .rename_i o;exact l i a o (by rw[<-nk];exact c)
   .cases c
  rcases ku.mp g with rfl|g
  .exact f
  .obtain⟨i,c⟩:=uo g;rw[ey] at c;have m:=k _ _ (show ai xs j<=ai xs j+i by lia) (by rw[<-nk];exact c)
   lia
def TabOk.fresh(finger moves:Nat)(led:Bool):TabOk [] (gv finger moves led) where
 pow:=⟨3,by lia,by lia,rfl⟩
 dum:=rfl
 len:=rfl
 room:=by show 5*0<3*7;lia
 ris:= .nil
 bd:=λj h=>by simp[gv] at h
 road:=λi h j h1=>by simp at h1
def TabOk.put(ok:TabOk g t)(A:(pr t.mask h n).j∉t.place.toList)(z: ∀m,m<n->(pr t.mask h m).j∈t.place.toList)(Q:5*(Ix g+1)<3*t.mask)(O:j=(pr t.mask h n).j)(E:p=ai t.place j):
  TabOk (g.take p++h::g.drop p) (t.put j).1/\(t.put j).2=p:=by
 subst O;subst E
 have v:(t.put (pr t.mask h n).j).1={t with place:=ay t.place (ai t.place (pr t.mask h n).j) (pr t.mask h n).j,dummies:= #[]}:=by unfold i8;dsimp only;rw[ok.dum,E7];rfl
 obtain⟨h1,_,_⟩:=ql ok.ris (pr t.mask h n).j;have T:=ok.len
 have c: ∀x,x∈t.place.toList->x∈(ay t.place (ai t.place (pr t.mask h n).j) (pr t.mask h n).j).toList:=λx a=>by
  rw[mE];rw[<-wI (ai t.place (pr t.mask h n).j) t.place.toList] at a;rcases rY.mp a with a|a
  .exact rY.mpr (.inl a)
  .exact rY.mpr (.inr<|jU _ a)
 refine⟨?_,rfl⟩;rw[v];generalize y:ai t.place (pr t.mask h n).j=P at*;refine⟨ok.pow,rfl,?_,?_,?_,λx a=>?_,λi f k g1 g2=>?_⟩
 .show(ay t.place P (pr t.mask h n).j).size=_;rw[<-kG,mE];simp only[nG,kI,rp,AS,kG];lia
 .show 5*_<3*t.mask;simp only[nG,kI,rp,AS];lia
 .have:=HR ok.ris A;rw[y] at this;exact this
 .have s:x∈(ay t.place P (pr t.mask h n).j).toList:=a;rw[mE] at s;show x<=t.mask;rcases rY.mp s with a|a
  .exact ok.bd x (wH a)
  .rcases ku.mp a with rfl|a
   .exact NX _ _ _
   .exact ok.bd x (AH a)
 .have b:(ay t.place P (pr t.mask h n).j).toList[i]?=Y k:=by rw[nk];exact g2
  rw[mE] at b;show ∃u,(pr t.mask f u).j=k/\ ∀m,m<u->(pr t.mask f m).j∈(ay t.place P (pr t.mask h n).j).toList;have w:(t.place.toList.take P).length=P:=by rw[rp,kG];lia
  have l:(g.take P).length=P:=by rw[rp];lia
  by_cases B:i<P
  .rw[wd<|by lia,MR B] at g1 b;rw[nk] at b;obtain⟨q,o,r⟩:=ok.road i f k g1 b;exact⟨q,o,λm e=>c _ (r m e)⟩
  .rw[rn<|by lia,w] at b;rw[rn<|by lia,l] at g1
   cases hd:i-P with
   |zero=>rw[hd] at g1 b;simp at g1 b;subst g1;subst b;exact⟨n,rfl,λm e=>c _ (z m e)⟩
   |succ d=>rw[hd] at g1 b;simp only[rZ,ey] at g1 b;rw[nk] at b;obtain⟨q,o,r⟩:=ok.road _ f k g1 b;exact⟨q,o,λm e=>c _ (r m e)⟩
def occ(ow:xM)(j:Nat):Prop:= ∃i,ow.getD j J=Y i
def E8{ow:xM}{j:Nat}{d:Option Nat}(h:j<ow.size):ow.getD j d=ow.getD j J:=by simp[fr,h]
def LK{mask:Nat}{ow:xM}(T:ow.size=mask+1)(h:Int): ∀(a k:Nat),(∃r,k<=r/\r<k+a/\ ¬occ ow (ls mask h r).1)->(∀m,m<tm mask h k->occ ow (pr mask h m).j)->
  ∃n,bD mask ow a (ls mask h k).1 (ls mask h k).2=Y (pr mask h n).j/\ ¬occ ow (pr mask h n).j/\ ∀m,m<n->occ ow (pr mask h m).j:=by
 intro A
 induction A with
 |zero=>
  rintro k ⟨r,h1,v,_⟩ _
  lia
 |succ a z=>
  rintro k ⟨r,h1,v,g⟩ l;unfold bD;have x:=JW mask h k;have y:=HQ mask _ x
  cases c:(aj<|aB mask (ls mask h k).1+1-(ls mask h k).1).find? λt=>(ow.getD ((ls mask h k).1+t)<|Y 0).isNone with
  |some t=>
   rw[List.find?_range_eq_some] at c;obtain⟨a1,q,s⟩:=c;rw[vm] at q;have p:t<=aB mask (ls mask h k).1-(ls mask h k).1:=by lia
   have e:=xh mask h k t p;refine⟨tm mask h k+t,by rw[e];rfl,?_,λm o=>?_⟩
   .rw[e];rintro⟨i,w⟩;rw[E8 (by show(ls mask h k).1+t<_;lia)] at a1;have u:ow.getD ((ls mask h k).1+t) J=Y i:=w;rw[u] at a1;simp at a1
   .by_cases f:m<tm mask h k
    .exact l m f
    .have b:=xh mask h k (m-tm mask h k) (by lia);rw[show tm mask h k+(m-tm mask h k)=m by lia] at b;rw[b];have:=s (m-tm mask h k) (by lia);rw[E8 (by show(ls mask h k).1+(m-tm mask h k)<_;lia)] at this;show occ ow ((ls mask h k).1+(m-tm mask h k));unfold occ
     cases d:ow.getD ((ls mask h k).1+(m-tm mask h k)) J with
     |none=>rw[d] at this;simp at this
     |some i=>exact⟨i,rfl⟩
  |none=>
   rw[List.find?_range_eq_none] at c
   have all: ∀t,t<=aB mask (ls mask h k).1-(ls mask h k).1->occ ow ((ls mask h k).1+t):=λt p=>by
    have:=c t (by lia);rw[E8<|by lia] at this;unfold occ
    cases d:ow.getD ((ls mask h k).1+t) J with
    |none=>rw[d] at this;simp at this
    |some i=>exact⟨i,rfl⟩
   have B:r≠k:=λe=>g (by subst e;have:=all 0<|mr _;simpa using this)
   have:=z (k+1) ⟨r,by lia,by lia,g⟩ (λm o=>by
    by_cases f:m<tm mask h k
    .exact l m f
    .unfold tm at o;have b:=xh mask h k (m-tm mask h k) (by lia);rw[show tm mask h k+(m-tm mask h k)=m by lia] at b;rw[b];exact all _ (by lia))
   exact this
def GA{a e:Type}{f g:a->Option e}: ∀{l:List a},(∀x∈l,f x=g x)->l.filterMap f=l.filterMap g:=by
 intro d
 induction d with
 |nil=>intro _;exact I
 |cons x l c=>intro h;rw[sG,sG,h x jP,c λy b=>h y<|jU _ b]
noncomputable def qg(mask:Nat)(ow:xM):List (Nat×Nat):=(aj<|mask+1).filterMap λj=>(ow.getD j J).map (j,·)
def QH:(j,i)∈qg mask ow↔j<=mask/\ow.getD j J=Y i:=by
 unfold qg;simp only[ew,vm,dc,Prod.mk.injEq];constructor
 .rintro⟨a,h1,b,c,rfl,rfl⟩;exact⟨by lia,c⟩
 .rintro⟨h1,c⟩;exact⟨j,by lia,i,c,rfl,rfl⟩
def OX(mask:Nat)(ow:xM):((qg mask ow).map (·.1)).Pairwise (· < ·):=by unfold qg;rw[List.map_filterMap,List.pairwise_filterMap];refine WM.imp λ{a b} e x c y d=>?_;simp only[Option.mem_def,Option.map_map,dc,bc] at c d;obtain⟨_,_,rfl⟩:=c;obtain⟨_,_,rfl⟩:=d;exact e
def OW{mask:Nat}{ow:xM}(f:ow.size=mask+1){j k:Nat}(d:j<=mask)(c:ow.getD j J=J):(qg mask<|ow.setIfInBounds j<|Y k).Perm ((j,k)::qg mask ow):=by
 have g: ∀i,(ow.setIfInBounds j<|Y k).getD i J=if i=j then Y k else ow.getD i J:=λi=>by
  simp only[wC,DU];by_cases e:i=j
  .subst e;simp[show i<ow.size by lia]
  .rw[iL λz=>e z.symm,iL e]
 have split:aj (mask+1)=aj j++j::(aj<|mask-j).map (λx=>j+1+x):=by rw[show mask+1=j+(mask-j+1) by lia,List.range_add,dw];simp[rh,yS,Nat.add_comm 1]
 unfold qg;rw[split,Mz,Mz,sG,sG];simp only[g,c,iF I,Option.map_none,eV]
 have a1:(aj j).filterMap (λi=>(if i=j then Y k else ow.getD i J).map (i,·))=(aj j).filterMap (λi=>(ow.getD i J).map (i,·)):=
  GA λi a=>by rw[vm] at a;rw[iL<|by lia]
 have b:((aj<|mask-j).map λx=>j+1+x).filterMap (λi=>(if i=j then Y k else ow.getD i J).map (i,·))=((aj<|mask-j).map λx=>j+1+x).filterMap (λi=>(ow.getD i J).map (i,·)):=
  GA λi a=>by obtain⟨x,_,rfl⟩:=mS.mp a;rw[iL<|by lia]
 rw[a1,b];exact QE
structure LayOk(mask:Nat)(hs:iu)(ow:xM):Prop where
 size:ow.size=mask+1
 perm:((qg mask ow).map (·.2)).Perm (aj<|Ix hs)
 road: ∀j i h,ow.getD j F2=FM i->hs[i]?=FM h-> ∃n,(pr mask h n).j=j/\ ∀m,m<n->occ ow (pr mask h m).j
def JR(h:occ ow x):occ (ow.setIfInBounds j<|Y k) x:=by
 obtain⟨i,a⟩:=h;unfold occ;simp only[wC,DU] at a ⊢;by_cases e:j=x
 .subst e;rw[iF I];split
  .exact⟨k,rfl⟩
  .rename_i b;rw[DT<|by lia] at a;simp at a
 .rw[iL e];exact⟨i,a⟩
def LayOk.step{mask k:Nat}(hk:mask+1=2^k){a:iu}{ow:xM}(ok:LayOk mask a ow)(h:Int)(E:(Ix a)<=mask):
  ∃j,bD mask ow (bZ mask) (aL h%(mask+1)) (aL h)=Y j/\LayOk mask (a++[h]) (ow.setIfInBounds j<|Y<|Ix a):=by
 have p:(qg mask ow).length=(Ix a):=by have:=ok.perm.length_eq;simpa using this
 obtain⟨e,o,x⟩:=Gk mask ((qg mask ow).map (·.1)) (by rw[jz];lia)
 have s: ¬occ ow e:=by rintro⟨i,f⟩;exact x<|mS.mpr ⟨(e,i),QH.mpr ⟨o,f⟩,rfl⟩
 obtain⟨r,A,l⟩:=Gh hk h o;obtain⟨n,f1,f2,u⟩:=LK ok.size h (bZ mask) 0 ⟨r,mr _,by unfold bZ;lia,by rw[l];exact s⟩ (λm c=>by simp[tm] at c);have w:=NX mask h n
 have t:ow.getD (pr mask h n).j J=J:=by
  cases y:ow.getD (pr mask h n).j J with
  |none=>rfl
  |some i=>exact absurd ⟨i,y⟩ f2
 refine⟨_,f1,⟨by rw[Array.size_setIfInBounds];exact ok.size,?_,λj i v g1 g2=>?_⟩⟩
 .refine((OW ok.size w t).map _).trans ?_;rw[jx,nG,zb,List.range_succ];exact(gh _ ok.perm).trans (My _ _).symm
 .by_cases b:j=(pr mask h n).j
  .subst b
   have:i=(Ix a):=by simp only[wC,DU,iF I] at g1;rw[iF bV,iF<|by rw[ok.size];lia] at g1;exact(kP g1).symm
   subst this;rw[rn<|jQ _] at g2;simp at g2;subst g2;exact⟨n,rfl,λm c=>JR<|u m c⟩
  .have d:ow.getD j J=Y i:=by simp only[wC,DU] at g1 ⊢;rw[iL λz=>b z.symm] at g1;exact g1
   have f:i<(Ix a):=by
    have g:j<=mask:=by
     by_cases q:j<ow.size
     .have:=ok.size;lia
     .rw[wC,DT<|by lia] at d;simp at d
    have:=ok.perm.mem_iff.mp<|mS.mpr ⟨(j,i),QH.mpr ⟨g,d⟩,rfl⟩;exact vm.mp this
   rw[wd f] at g2;obtain⟨q,B,T⟩:=ok.road j i v d g2;exact⟨q,B,λm c=>JR<|T m c⟩
def LayOk.start(mask:Nat):LayOk mask [] (eY (mask+1) J) where
 size:=by simp
 perm:=by
  have:qg mask (eY (mask+1) J)=[]:=by unfold qg;refine List.filterMap_eq_nil_iff.mpr λj a=>?_;rw[wC,Mx];split<;>rfl
  rw[this];exact wF _
 road:=λj i h h1=>by rw[wC,Mx] at h1;split at h1<;>cases h1
noncomputable def yj(mask:Nat)(a:Option (Array (Option Nat)×Nat))(h:Int):Option (Array (Option Nat)×Nat):=do
 let(owner,k) <-a
 let j <-bD mask owner (bZ mask) (aL h%(mask+1)) (aL h)
 pure (owner.setIfInBounds j<|Y k,k+1)
def Pb{mask k:Nat}(hk:mask+1=2^k): ∀(l a:iu) (ow:xM),LayOk mask a ow->Ix a+Ix l<=mask+1->
  ∃c,l.foldl (yj mask) (Y (ow,Ix a))=Y (c,Ix a+Ix l)/\LayOk mask (a++l) c:=by
 intro m
 induction m with
 |nil=>intro a ow ok _;exact⟨ow,rfl,by rw[wO];exact ok⟩
 |cons h l i=>
  intro a ow ok g;rw[kI] at g;obtain⟨j,e,d⟩:=ok.step hk h (by lia);obtain⟨c,f,b⟩:=i (a++[h]) _ d (by rw[nG,zb];lia);refine⟨c,?_,by rw[rm] at b;exact b⟩;rw[uB]
  have:yj mask (Y (ow,Ix a)) h=Y (ow.setIfInBounds j<|Y<|Ix a,Ix a+1):=by unfold yj;show(bD mask ow (bZ mask) (aL h%(mask+1)) (aL h)>>=_)=_;rw[e];rfl
  rw[this];rw[nG,zb] at f;rw[f,kI]
  congr 2;lia
def Gn(hk:mask+1=2^k)(a:iu)(c:(Ix a)<=mask): ∃ow,fU mask a.toArray=Y ow/\LayOk mask a ow:=by
 obtain⟨ow,e,ok⟩:=Pb hk a [] _ (LayOk.start mask) (by simp;lia);refine⟨ow,?_,by simpa using ok⟩;unfold fU;rw[<-Array.foldl_toList];show o6 _ (t0 (yj mask) _ a)=_;have b:t0 (yj mask) (Y (eY (mask+1) J,0)) a=Y (ow,Ix a):=by simpa using e
 rw[b];rfl
def SH(hk:mask+1=2^k)(w:3<=k)(o:k<=11)(finger moves:Nat)(led plain:Bool)(d:iu)(E:5*(Ix d)<3*mask):
  ∃t c,hL mask finger moves led plain d.toArray=Y (t,c)/\c.toList.Perm (aj<|Ix d)/\TabOk (c.toList.map λi=>d.getD i 0) t/\t.plain=plain/\t.led=led:=by
 obtain⟨ow,e,ok⟩:=Gn hk d (by lia);refine⟨{mask,place:=((qg mask ow).map (·.1)).toArray,dummies:= #[],finger,led,moves,plain},((qg mask ow).map (·.2)).toArray,?_,by simpa using ok.perm,?_,rfl,rfl⟩
 .unfold hL;rw[e];rfl
 .have g:(qg mask ow).length=(Ix d):=by have:=ok.perm.length_eq;simpa using this
  refine⟨⟨k,w,o,hk⟩,rfl,by simp,by simp[g];lia,by simpa using OX mask ow,λj z=>?_,λi h j g1 g2=>?_⟩
  .have v:j∈(qg mask ow).map (·.1):=by simpa using z
   obtain⟨⟨a,b⟩,q,rfl⟩:=mS.mp v;exact(QH.mp q).1
  .have s:((qg mask ow).map (·.2)).map (λi=>d.getD i 0)=(((qg mask ow).map (·.2)).toArray).toList.map λi=>d.getD i 0:=by simp
   rw[<-s,mv,mv] at g1;have f:((qg mask ow).map (·.1))[i]?=Y j:=by simpa using g2
   rw[mv] at f
   cases l:(qg mask ow)[i]? with
   |none=>rw[l] at f;cases f
   |some p=>
    obtain⟨a,b⟩:=p;rw[l] at g1 f;simp at g1 f;subst f;have q:=QH.mp<|nK l
    have x:b<(Ix d):=by have:=ok.perm.mem_iff.mp<|mS.mpr ⟨(a,b),nK l,rfl⟩;exact vm.mp this
    have y:d[b]?=Y h:=by rw[jt x] at g1 ⊢;simpa using g1
    obtain⟨n,B,T⟩:=ok.road a b h q.2 y;refine⟨n,B,λm r=>?_⟩;obtain⟨A,u⟩:=T m r;show(pr mask h m).j∈(((qg mask ow).map (·.1)).toArray).toList;have:(pr mask h m).j∈(qg mask ow).map (·.1):=mS.mpr ⟨(_,A),QH.mpr ⟨NX mask h m,u⟩,rfl⟩;simpa using this
def EC: ∀n,n<2048-> ∃k,3<=k/\k<=11/\dR n=2^k/\n<2^k:=by
 intro n h
 have step: ∀(f k:Nat),3<=k->k<=11->11<k+f-> ∃b,3<=b/\b<=11/\SetTable.sizeAbove.go n f (2^k)=2^b/\n<2^b:=by
  intro f
  induction f with
  |zero=>intro k h1 c d;lia
  |succ f g=>
   intro k h1 c d;unfold SetTable.sizeAbove.go;by_cases a:2^k<=n
   .rw[iF a,<-qJ];have:k≠11:=λe=>by subst e;lia
    exact g (k+1) (by lia) (by lia) (by lia)
   .rw[iL a];exact⟨k,h1,c,rfl,by lia⟩
 exact step 64 3 (by lia) (by lia) (by lia)
open PyProof.Rows PySem.SeqAt
def Lc{g:iu}{t:nh}(ok:TabOk g t){hashAt:Nat->Int}{h:Int}{p:cN}{n:Nat}(f:p=pr t.mask h n)(e: ∀m,m<n->(pr t.mask h m).j∈t.place.toList):
    ∃m,n<=m/\m<10*(t.mask+14)/\(∀q,n<=q->q<m-> ∃i,t.place[i]?=Y (pr t.mask h q).j/\hashAt i≠h)/\
      (((pr t.mask h m).j∉t.place.toList/\t.probe hashAt h p=Y (.empty (pr t.mask h m).j J))\/
       (∃i,t.place[i]?=Y (pr t.mask h m).j/\hashAt i=h/\t.probe hashAt h p=Y (.candidate (pr t.mask h m).j i<|pr t.mask h<|m+1))):=by
  subst f;obtain⟨M,h1,a⟩:=ok.free h
  have c:n<=M:=by
    by_cases b:M<n
    · exact absurd (e M b) a
    · lia
  obtain⟨m,g1,g2,g3⟩:=NW ok hashAt h (10*bZ t.mask) n ⟨M,c,by unfold bZ;lia,a⟩
  have k:m<=M:=by
    by_cases b:M<m
    · obtain⟨i,d,_⟩:=g2 M c b
      rw[<-nk] at d;exact absurd (nK d) a
    · lia
  exact⟨m,g1,by lia,g2,g3⟩
section
variable {prog:iU}{w:iK}{A:iP}{E:jf}{s:il}
structure Srch(A:iP)(s:il)(a:hV)(es:vP)(n:Nat)(t:nh)(x:iC)(h:Int)(eqs:Nat->Bool):Prop where
 at_: ∃o,s.heap.get? a=FM o/\o.data= .set es n t
 tab:TabOk (es.toList.map (·.1)) t
 refs: ∀(i:Nat) (e:Int×iC),es[i]?=FM e-> ∃b,e.2= .ref b
 eq: ∀(i:Nat) (e:Int×iC),es[i]?=FM e->EqAt A s e.2 x (eqs i)
 hash: ∀(i:Nat) (e:Int×iC),es[i]?=FM e->eqs i=Gc->e.1=h
 quiet: ∀(l:jN) (prog:iU) (w:iK) (E:jf) (Q:uj),(∀v∈l,∃e∈es.toList,e.2=v)->Q Go s->ae (ag prog w) A (on x l) Q E s
def OD(ok:TabOk c t):t.gaveWay=C:=by
 obtain⟨k,h1,_,b⟩:=ok.pow;obtain⟨a,rfl⟩: ∃a,k=a+1:=⟨k-1,by lia⟩
 rw[qJ] at b;unfold Ec;rw[Ai];lia
def Ke(ok:TabOk a t)(h:(Ix a)=n):t.fits n=U:=by have:=ok.len;have:=ok.room;unfold hZ h6;rw[ok.dum];simp only[kJ,beq_iff_eq,ni];exact⟨by lia,by show _+0<=_;lia⟩
def Srch.fits{a b n t x h eqs}(S:Srch A s a b n t x h eqs):t.fits b.size=U:=Ke S.tab (by simp)
def zU{a:hV}{k:vP}{nn:Nat}{t:nh}{x:iC}{h:Int}{c:Nat->Bool}{adding:Bool}(S:Srch A s a k nn t x h c){Q:SetFound->il->Prop}
  (I: ∀i r,c i=Gc->i<k.size->(r=F2\/r=FM i)->(adding=Go->r=FM i)->Q (.there r) s)
  (p9:(∀i,i<k.size->c i=Go)-> ∀n,(pr t.mask h n).j∉t.place.toList->(∀m,m<n->(pr t.mask h m).j∈t.place.toList)->Q (.free (pr t.mask h n).j Go) s):
  ∀(l n:Nat) (u:Option cN),u.getD (t.probeStart h)=pr t.mask h n->(∀q,q<n-> ∃i,t.place[i]?=FM (pr t.mask h q).j/\c i=Go)->10*(t.mask+14)<n+l->n<=10*(t.mask+14)->
   ae (ag prog w) A (wv a x h adding l u) Q E s:=by
 intro iV
 induction iV with
 |zero=>
  intro n u _ _ W Z
  lia
 |succ l iH=>
  intro n u r9 U W Z;obtain⟨o,T,hd⟩:=S.at_
  have occ: ∀m,m<n->(pr t.mask h m).j∈t.place.toList:=λm X=>by obtain⟨i,g,_⟩:=U m X;rw[<-nk] at g;exact nK g
  unfold wv;refine hU<|um T hd S.fits ?_;dsimp only;rw[OD S.tab];simp only[jF,↓reduceIte];generalize V:t.probe _ h _=P;obtain⟨m,m1,m2,m3,F⟩:=Lc S.tab r9 occ (hashAt:=λi=>(k[i]?.map (·.1)).getD 0);have O:t.probe (λi=>(k[i]?.map (·.1)).getD 0) h (u.getD<|t.probeStart h)=P:=V;rw[O] at F
  have N: ∀(i:Nat) (j:Nat),t.place[i]?=FM j-> ∃e,k[i]?=FM e/\(k[i]?.map (·.1)).getD 0=e.1:=λi j g=>by have h1:=(L8.mp g).1;have L:=S.tab.len;rw[jz,kG] at L;exact⟨k[i],qp<|by lia,by rw[qp<|by lia];rfl⟩
  have ne: ∀(i:Nat) (j:Nat),t.place[i]?=FM j->(k[i]?.map (·.1)).getD 0≠h->c i=Go:=λi j g J=>by
   obtain⟨e,f,Y⟩:=N i j g
   cases d:c i with
   |false=>rfl
   |true=>exact absurd (Y.trans<|S.hash i e f d) J
  have seen: ∀q,q<m-> ∃i,t.place[i]?=FM (pr t.mask h q).j/\c i=Go:=λq d=>by
   by_cases p:q<n
   .exact U q p
   .obtain⟨i,g,J⟩:=m3 q (by lia) d;exact⟨i,g,ne i _ g J⟩
  rcases F with⟨a1,a2⟩|⟨i,a1,a2,a3⟩
  .subst a2;dsimp only;refine iq<|p9 (λi g=>?_) m a1 λq d=>?_
   .cases d:c i with
    |false=>rfl
    |true=>
     exfalso;have f:k[i]?=FM k[i]:=qp g;have h1:=S.hash i _ f d;have L:=S.tab.len;rw[jz,kG] at L;have C:t.place[i]?=FM t.place[i]:=qp (by lia);obtain⟨M,K,r2⟩:=S.tab.road i h t.place[i] (by rw[mv,nk,f];exact nM FM h1) C
     have:M<m:=by
      by_cases p:M<m
      .exact p
      .exfalso;rcases im (ij.mp p) with p|heq
       .exact a1 (r2 m p)
       .subst heq;rw[<-nk] at C;rw[K] at a1;exact a1<|nK C
     obtain⟨i',g1,g2⟩:=seen M this;rw[K] at g1;have:i'=i:=by rw[<-B6 S.tab.ris g1,B6 S.tab.ris C]
     rw[this,d] at g2;cases g2
   .obtain⟨i,g,_⟩:=seen q d;rw[<-nk] at g;exact nK g
  .subst a3;dsimp only;obtain⟨e,f,Y⟩:=N i _ a1;obtain⟨h',y⟩:=e;obtain⟨b,D⟩:=S.refs i _ f;dsimp only at D;subst D;have H:t.sameMemory t.moves t.mask=FM Gc:=by simp[Db]
   have B:i<k.size:=(L8.mp f).1;cases hl:t.led
   .simp only[fv,↓reduceIte];refine hU<|S.quiet _ _ _ _ _ (λv hv=>?_) ?_
    .obtain⟨e,R,rfl⟩:=mS.mp hv;exact⟨e,(WL.mp (by simpa using(Array.mem_filter.mp<|WL.mp R).1) |> λz=>by simpa using z),rfl⟩
    simp only[jF,↓reduceIte];rw[f];dsimp only;refine hU<|lZ<|S.eq i _ f _ _ _ _ ?_;refine hU<|um T hd S.fits ?_;dsimp only
    cases d:c i with
    |true=>
     cases adding with
     |true=>simp only[fI,↓reduceIte];exact iq<|I i F2 d B (.inl H8) (λz=>by cases z)
     |false=>simp only[zh,jF,↓reduceIte,H,rF S.tab.ris a1,f];refine hU<|DS ?_;simp only[↓reduceIte];exact hU<|iq<|iq<|I i _ d B (.inr H8) λ_=>rfl
    |false=>
     simp only[za,jF,↓reduceIte,H,rF S.tab.ris a1,f];refine hU<|DS ?_;simp only[↓reduceIte];refine hU<|iq ?_
     exact iH (m+1) _ rfl (λq G=>by
      by_cases e:q=m
      .subst e;exact⟨i,a1,d⟩
      .exact seen q (by lia)) (by lia) (by lia)
   .simp only[rg,jF,↓reduceIte];rw[f];dsimp only;refine hU<|lZ<|S.eq i _ f _ _ _ _ ?_;refine hU<|um T hd S.fits ?_;dsimp only
    cases d:c i with
    |true=>
     cases adding with
     |true=>simp only[fI,↓reduceIte];exact iq<|I i F2 d B (.inl H8) (λz=>by cases z)
     |false=>simp only[zh,jF,↓reduceIte,H,rF S.tab.ris a1,f];refine hU<|DS ?_;simp only[↓reduceIte];exact hU<|iq<|iq<|I i _ d B (.inr H8) λ_=>rfl
    |false=>
     simp only[za,jF,↓reduceIte,H,rF S.tab.ris a1,f];refine hU<|DS ?_;simp only[↓reduceIte];refine hU<|iq ?_
     exact iH (m+1) _ rfl (λq G=>by
      by_cases e:q=m
      .subst e;exact⟨i,a1,d⟩
      .exact seen q (by lia)) (by lia) (by lia)
end
noncomputable abbrev kK(a:vP)(n:Nat)(t:nh):Obj:={cls:= .type "set",data:= .set a n t}
section
variable {c:iU}{w:iK}{A:iP}{E:jf}{s:il}
def FK{h:iO}{a:hV}{b es':vP}{n:Nat}{t t':nh}(d:h.get? a=Y (kK b n t)):(h.update a<|h9 es' t').get? a=Y (kK es' (n+1) t'):=by have:=wa (h9 es' t') d (by rw[putSet_of es' t' I];rfl);rw[putSet_of es' t' I] at this;exact this
def NC{b:Type}(a:Array b):(aj a.size).filterMap (λi=>a[i]?)=a.toList:=by
 have: ∀(l:List b),(aj<|Ix l).filterMap (λi=>l[i]?)=l:=by
  intro l
  induction l with
  |nil=>rfl
  |cons x l d=>rw[kI,dw,sG];simp only[ux,gE,rh,rZ,d]
 have h:=this a.toList;simpa using h
def S7{a:vP}: ∀(l:ky),(∀i∈l,i<a.size)->(l.filterMap λi=>a[i]?).map (·.1)=l.map λi=>(a.toList.map (·.1)).getD i 0:=by
 intro f
 induction f with
 |nil=>intro _;exact I
 |cons i l e=>
  intro h;have b:=h i jP;rw[sG,qp b];simp only[jx];rw[e λj d=>h j<|jU _ d]
  congr 1
  simp[b]
def Ny{a:hV}{d:vP}{n:Nat}{t:nh}(g:s.heap.get? a=Y (kK d n t))(v:t.fits d.size=U)(T:5<=d.size)(L:d.size<=500){Q:Unit->il->Prop}
  (h: ∀f es' N t',aC a s.heap f->f.get? a=Y (kK es' N t')->es'.toList.Perm d.toList->TabOk (es'.toList.map (·.1)) t'->t'.plain=t.plain->t'.led=t.led->Q () {s with heap:=f}):
  ae (ag c w) A (setRelay a<|eQ d.size) Q E s:=by
 have x:eQ d.size=d.size*4:=by unfold eQ;rw[iL<|by lia]
 obtain⟨k,B,j,u,lk⟩:=EC (d.size*4) (by lia);have z:dR (d.size*4)-1+1=2^k:=by have:=mo k;lia
 obtain⟨t',b,o,e,p,q,r⟩:=SH z B j t.finger (t.movedTo<|dR (d.size*4)-1) t.led t.plain (d.toList.map (·.1)) (by rw[jz,kG];lia);rw[jz,kG] at e
 have er:t.relaid (d.map (·.1)) (d.size*4)=Y (t',b):=by unfold Do;rw[<-o,<-Array.toList_map]
 have m: ∀i∈b.toList,i<d.size:=λi y=>vm.mp<|e.mem_iff.mp y;have l:(b.filterMap (d[·]?)).toList=b.toList.filterMap (λi=>d[i]?):=by simp
 have perm:(b.filterMap (d[·]?)).toList.Perm d.toList:=by rw[l];refine(e.filterMap _).trans ?_;rw[NC]
 have sz:(b.filterMap (d[·]?)).size=d.size:=by rw[<-kG,perm.length_eq,kG]
 rw[x];unfold setRelay;refine hU<|um g I v ?_;dsimp only
 have O:2^k<=sizeLine:=by have:2^k<=2^11:=yM (by decide) j;rw[jI];lia
 rw[iL<|by rw[u];lia,er];refine hU ?_;change ae _ _ (if((b.filterMap (d[·]?)).size !=d.size)=U then _ else _) _ _ _;rw[iL<|by rw[sz];simp];refine iq ?_;dsimp only;refine n6 g I ?_ (by rw[sz,jI];lia);refine h _ (b.filterMap (d[·]?)) (n+1) t' (tP s.heap a _) (FK g) perm ?_ q r;rw[l,S7 _ m];exact p
def qC{b:Type}(a:Array b)(p:Nat)(x:b):(ay a p x).toList.Perm (x::a.toList):=by rw[mE];refine QE.trans ?_;rw[wI]
def YJ{a b:hV}{d:vP}{n:Nat}{t:nh}{h:Int}{p:Nat->Bool}(S:Srch A s a d n t (.ref b) h p)(I:s.heap.get? a=FM (kK d n t))(j1:t.plain=Gc)(hz:d.size+1<=500)
  (J: ∀(U:uj),U Gc s->ae (ag c w) A (c5 8<|.ref b) U E s){Q:uj}
  (B:(∃i,i<d.size/\p i=Gc)->Q Go s)
  (m8:(∀i,i<d.size->p i=Go)-> ∀h' es' N t',aC a s.heap h'->h'.get? a=FM (kK es' N t')->es'.toList.Perm ((h,.ref b)::d.toList)->TabOk (es'.toList.map (·.1)) t'->t'.plain=Gc->t'.led=t.led->Q Gc {s with heap:=h'}):
  ae (ag c w) A (z0 a (.ref b) h) Q E s:=by
 unfold z0 setAddHashedIn;refine lZ<|hU<|um I H8 S.fits ?_;dsimp only;have Z:byScan (.ref b) d=Go:=rfl;rw[Z];simp only[jF,↓reduceIte]
 have hm:t.mask+1<=2048:=by
  obtain⟨k,_,K,R⟩:=S.tab.pow;have:2^k<=2^11:=yM (by decide) K
  lia
 refine hU<|zU S (adding:=Gc) (λi r h1 G _ _=>?_) (λY m h1 G=>?_) 100000 0 F2 H8 (λq hq=>by lia) (by lia) (by lia)
 .dsimp only;exact iq<|B ⟨i,G,h1⟩
 .dsimp only;refine hU<|um I H8 S.fits ?_;dsimp only
  have x:(t.put (pr t.mask h m).j).1={t with place:=ay t.place (ai t.place (pr t.mask h m).j) (pr t.mask h m).j,dummies:= #[]}:=by unfold i8;dsimp only;rw[S.tab.dum,E7];rfl
  have P:(t.put (pr t.mask h m).j).2=ai t.place (pr t.mask h m).j:=rfl;have T:(t.put (pr t.mask h m).j).1.plain=Gc:=by rw[x];exact j1
  rw[iF T];refine hU<|J _ ?_;simp only[↓reduceIte]
  have v:(ay d (t.put (pr t.mask h m).j).2 (h,bb b)).size=d.size+1:=by rw[<-kG,(qC d _ _).length_eq,kI,kG]
  refine hU<|n6 I H8 ?_ (by rw[v,jI];lia);have F:=FK (es':=ay d (t.put (pr t.mask h m).j).2 (h,bb b)) (t':=(t.put (pr t.mask h m).j).1) I;have H:=tP s.heap a<|h9 (ay d (t.put (pr t.mask h m).j).2 (h,bb b)) (t.put (pr t.mask h m).j).1;have f:(Ix d.toList)=d.size:=kG;have o:=S.tab.len;rw[jz,f] at o
  have l:(t.put (pr t.mask h m).j).1.place.size=d.size+1:=by rw[x];show(ay t.place _ _).size=_;rw[<-kG,(qC t.place _ _).length_eq,kI,kG,o]
  have O:(t.put (pr t.mask h m).j).1.fill=d.size+1:=by unfold h6;rw[l,x];rfl
  have L:(t.put (pr t.mask h m).j).1.mask=t.mask:=by rw[x]
  have g:(t.put (pr t.mask h m).j).1.led=t.led:=by rw[x]
  by_cases e:(t.put (pr t.mask h m).j).1.tooFull=Gc
  .rw[e];simp only[fv,fI,↓reduceIte];have u:=S.tab.room;rw[jz,f] at u
   have D:3*t.mask<=5*(d.size+1):=by unfold f4 at e;rw[O,L] at e;have:=of_decide_eq_true e;lia
   have m7:7<=t.mask:=by
    obtain⟨k,k3,_,R⟩:=S.tab.pow;have:2^3<=2^k:=yM (by decide) k3
    lia
   have y:(t.put (pr t.mask h m).j).1.fits (ay d (t.put (pr t.mask h m).j).2 (h,bb b)).size=Gc:=by unfold hZ;rw[l,v,O,L];simp only[BEq.rfl,uk,ni];lia
   rw[<-v];refine hU<|Ny F y (by rw[v];lia) (by rw[v];lia) λh' es' N t' g1 g2 g3 V W X=>?_;exact iq<|m8 Y h' es' N t' (H.trans g1) g2 (g3.trans<|qC d _ _) V (by rw[W];exact T) (by rw[X];exact g)
  .have C:(t.put (pr t.mask h m).j).1.tooFull=Go:=by simpa using e
   rw[C];simp only[za,jF,↓reduceIte]
   have M:5*(d.size+1)<3*t.mask:=by
    unfold f4 at e;rw[O,L] at e;have: ¬(d.size+1)*5>=t.mask*3:=λz=>e<|oK z
    lia
   obtain⟨p1,p2⟩:=S.tab.put h1 G (by rw[jz,f];exact M) H8 H8;refine iq<|m8 Y _ _ _ _ H F (qC d _ _) ?_ T g;rw[mE,pR,jx,<-n4,<-List.map_drop] at*;rw[P];exact p1
def Yc(S:Srch A s a d n t (.ref b) h eqs)(l:s.heap.get? a=Y (kK d n t)) 
  (h1: ∀i,i<d.size->eqs i=U->Q (Y i) s)(j:(∀i,i<d.size->eqs i=C)->Q J s):ae (ag c w) A (setFind a (.ref b) h) Q E s:=by
 unfold setFind setFindIn;refine hU<|um l I S.fits ?_;dsimp only;have g:byScan (.ref b) d=C:=rfl;rw[g];simp only[jF,↓reduceIte]
 have p:t.mask+1<=2048:=by
  obtain⟨k,_,f,o⟩:=S.tab.pow;have:2^k<=2^11:=yM (by decide) f
  lia
 refine hU<|zU S (adding:=C) (λi r g1 g2 _ g3=>?_) (λe m _ _=>?_) 100000 0 J I (λq u=>by lia) (by lia) (by lia)
 .rw[g3 I];exact iq<|h1 i g2 g1
 .exact iq (j e)
end
def BQ:fP n8 "set.__iter__"=Y aZ.«frozenset.__iter__»:=u6 (id':="frozenset.__iter__") (by kernel_rfl) I (by decide+kernel) (by kernel_rfl)
def oT:Slot "set_iterator" "__next__" "set_iterator.__next__":= .of (owner:="set_iterator") (n:="__next__") (by rw[G1,G0];kernel_rfl) (by decide+kernel) (by decide+kernel) (by decide+kernel) (by first|exact .inl (by decide+kernel)|exact .inr<|by decide+kernel) (by rw[DR];kernel_rfl)
def xS:Slot "set_iterator" "__iter__" "set_iterator.__iter__":= .of (owner:="set_iterator") (n:="__iter__") (by rw[G1,G0];kernel_rfl) (by decide+kernel) (by decide+kernel) (by decide+kernel) (by first|exact .inl (by decide+kernel)|exact .inr<|by decide+kernel) (by rw[DR];kernel_rfl)
def wx:fP n8 "set_iterator.__next__"=Y aZ.«set_iterator.__next__»:=entryFor_of_fast (by kernel_rfl)
def CJ:fP n8 "set_iterator.__iter__"=Y aZ.«dict_keyiterator.__iter__»:=u6 (id':="dict_keyiterator.__iter__") (by kernel_rfl) I (by decide+kernel) (by kernel_rfl)
def yG(a:iC):fQ "set_iterator.__next__" ⟨[a],[]⟩:=by unfold fQ;kernel_rfl
def Fp(a:iC):fQ "set_iterator.__iter__" ⟨[a],[]⟩:=by unfold fQ;kernel_rfl
theorem uc{a:Type}: ∀(l:List a) {i:Nat} (h:i<Ix l),(l[i]::l.eraseIdx i).Perm l
 |x::l,0,_=>by simp
 |x::l,i+1,h=>by have:=uc l (i:=i) (by simpa using h);simp only[List.getElem_cons_succ,List.eraseIdx_cons_succ];exact(gg x _ _).trans (gh x this)
def EI{d:Type}(next:Nat->Nat): ∀(a k:Nat) (left:List d) (b:Array d),Ix left<=a->(pickOrder.go next a k left b).toList.Perm (b.toList++left):=by
 intro f
 induction f with
 |zero=>intro k left b h;have:left=[]:=MU.mp (by lia);subst this;unfold pickOrder.go;simp
 |succ a e=>
  intro k left b h;unfold pickOrder.go
  cases left with
  |nil=>simp
  |cons y l=>have c:next k%(y::l).length<(y::l).length:=yN _ (by simp);rw[jt c];dsimp only;refine(e (k+1) _ _ (by rw[AF,iF c];simp at h ⊢;lia)).trans ?_;rw[ez,rm];refine Mw _ ?_;exact uc _ c
def Bj{b:Type}(next:Nat->Nat)(a:Array b):(fw next a).toList.Perm a.toList:=by unfold fw;have:=EI next a.size 0 a.toList #[] (by simp);simpa using this
noncomputable def oS(w:iK)(a:hV)(n:Nat)(b:vP):Array (Int×iC):=if w.params.followText "set-order"=U then fw (w.params.setOrder a n) b else b
def GS(w:iK)(a:hV)(n:Nat)(b:vP):(oS w a n b).toList.Perm b.toList:=by
 unfold oS;split
 .exact Bj _ _
 .exact wF _
def pW(w:iK)(a:hV)(n:Nat)(b:vP):(oS w a n b).size=b.size:=by rw[<-kG,(GS w a n b).length_eq,kG]
noncomputable def JC(t:nh):Nat->Nat
 |0=>0
 |i+1=>t.place.getD i 0+1
noncomputable def mW(w:iK)(t:nh)(i:Nat):Nat:=if w.params.followText "set-order"=U then 0 else JC t i
structure SetIs(w:iK)(h:iO)(a:hV)(es:vP)(n:Nat)(t:nh):Prop where
 at_:h.get? a=FM (kK es n t)
 tab:TabOk (es.toList.map (·.1)) t
 plain:t.plain=Gc
 led:t.led=!w.params.followText "set-order"
def SetIter(w:iK)(h:iO)(c a:hV)(t:nh)(b n i:Nat):Prop:= ∃o,h.get? c=Y o/\o.cls= .type "set_iterator"/\o.data= .fields #[.int (mW w t i) 0,.int i 0,.ref a,.int b 0,.int n 0]
section
variable {prog:iU}{w:iK}{A:iP}{E:jf}{s:il}
def SetIs.fits{h a b n t}(S:SetIs w h a b n t):t.fits b.size=U:=Ke S.tab (by simp)
def Jk(c:t.place.toList.Pairwise (· < ·))(j:i<=t.place.size):ai t.place (JC t i)=i:=by
 cases i with
 |zero=>
  obtain⟨h1,a,_⟩:=ql c 0
  cases g:ai t.place 0 with
  |zero=>exact g
  |succ k=>
   have h:0<t.place.size:=by lia
   have:=a 0 _ (by lia) (qp h)
   lia
 |succ i=>
  have hd:t.place.getD i 0=t.place[i]:=by simp[fr,show i<t.place.size by lia]
  show ai t.place (t.place.getD i 0+1)=i+1;rw[hd];have e:t.place[i]?=Y t.place[i]:=qp (by lia);obtain⟨h1,a,f⟩:=ql c<|t.place[i]+1;by_cases l:ai t.place (t.place[i]+1)<i+1
  .have:=f i _ (by lia) e;lia
  .by_cases b:i+1<ai t.place (t.place[i]+1)
   .have d:t.place[i+1]?=Y t.place[i+1]:=qp (by lia);have:=a (i+1) _ b d;have:=EG c (sv i) e d
    lia
   .lia
def A9{a:hV}{b:vP}{n:Nat}{t:nh}(S:SetIs w s.heap a b n t){i:Nat}(q:i<=b.size){Q:Option (iC×Nat)->il->Prop}
  (h1: ∀e,(oS w a n b)[i]?=Y e->Q (Y (e.2,mW w t<|i+1)) s)(h:i=b.size->Q J s):ae (ag prog w) A (setNext a (mW w t i) i n) Q E s:=by
 have p:=S.tab.len;rw[jz,kG] at p;unfold setNext;refine hU<|um S.at_ I S.fits ?_;dsimp only;unfold nm;refine hU<|hU<|yZ<|iq ?_;by_cases c:w.params.followText "set-order"=U
 .have f:(ag prog w).w.params.followText "set-order"=U:=c;rw[iF f,iL<|by simp];unfold setWalk nm;refine hU<|hU<|um S.at_ I S.fits ?_;dsimp only;refine hU<|hU<|yZ<|iq ?_;rw[iF f];refine hU<|yZ<|iq<|iq ?_;have g:oS w a n b=fw (w.params.setOrder a n) b:=by unfold oS;rw[iF c]
  have d: ∀k,mW w t k=0:=λk=>by unfold mW;rw[iF c]
  show Q (((fw (w.params.setOrder a n) b)[i]?).map λe=>(e.2,mW w t i)) s;rw[<-g];rw[d] at h1;rw[d]
  cases j:(oS w a n b)[i]? with
  |some e=>exact h1 e j
  |none=>have:=Array.getElem?_eq_none_iff.mp j;rw[pW] at this;exact h (by lia)
 .have f: ¬(ag prog w).w.params.followText "set-order"=U:=c;rw[iL f];change ae _ _ (if(!t.plain&&decide (b.size>1))=U then _ else _) _ _ _;rw[iL<|by rw[S.plain];simp];have m:t.led=U:=by rw[S.led];simpa using c
  refine hU ?_;change ae _ _ (if(!t.led&&!b.isEmpty)=U then _ else _) _ _ _;rw[iL<|by rw[m];simp];refine iq ?_;have g:oS w a n b=b:=by unfold oS;rw[iL c]
  have d: ∀k,mW w t k=JC t k:=λk=>by unfold mW;rw[iL c]
  have l:ai t.place (mW w t i)=i:=by rw[d];exact Jk S.tab.ris (by lia)
  rw[l];rw[g] at h1;by_cases o:i<b.size
  .have g1:b[i]?=Y b[i]:=qp o;have g2:t.place[i]?=Y t.place[i]:=qp (by lia);rw[g1,g2];have:=h1 b[i] g1;rw[d] at this;rw[show JC t (i+1)=t.place.getD i 0+1 from I] at this;have hd:t.place.getD i 0=t.place[i]:=by simp[fr,show i<t.place.size by lia]
   rw[hd] at this;exact iq this
  .rw[DT<|by lia];exact iq<|h (by lia)
def SetIs.typeIs{a b n t}(S:SetIs w s.heap a b n t):s.TypeIs (.ref a) "set":=⟨_,S.at_,rfl⟩
def SetIter.typeIs{it a t z n i}(S:SetIter w s.heap it a t z n i):s.TypeIs (.ref it) "set_iterator":=let⟨o,c,b,_⟩:=S;⟨o,c,b⟩
def Pq(S:SetIs w s.heap a d n t) 
  (f: ∀c,SetIter w c s.heap.objs.size a t d.size n 0->(∀b o,s.heap.get? b=Y o->c.get? b=Y o)->c.objs.size=s.heap.objs.size+1->Q (.ref s.heap.objs.size) {s with heap:=c}):
  ae (ag prog w) A (c8<|.ref a) Q E s:=by
 refine GZ S.typeIs Mv<|oM Mv S.typeIs BQ ?_<|PySem.F.args_set_iter_1 _;unfold aZ.«frozenset.__iter__» li kv;simp -iota only[AE,rg,jF,↓reduceIte,sA,pv,vZ];unfold dZ lm;refine hU<|iq ?_;dsimp only;refine hU<|iq ?_;refine hU<|hU<|GY S.at_ I S.fits<|iq ?_;unfold setDrawn nm;refine hU<|hU<|um S.at_ I S.fits ?_;dsimp only;refine hU<|hU<|yZ<|iq ?_;refine iq ?_;change ae _ _ (if(!w.params.followText "set-order"&&(!t.plain&&decide (d.size>1)))=U then _ else _) _ _ _;rw[iL<|by rw[S.plain];simp];refine hU<|iq ?_;unfold setEpoch;refine hU<|hU<|um S.at_ I S.fits<|iq ?_;refine hU<|mT<|iq ⟨_,rfl,"set_iterator",_,⟨_,kh _ rfl,rfl⟩,oT.lookup,?_⟩;refine f _ ⟨_,kh _ rfl,rfl,?_⟩ (λb o e=>jS _ e) (rl _ _);have:mW w t 0=0:=by unfold mW;split<;>rfl
 rw[this];rfl
def Cw{c a:hV}{b:vP}{n:Nat}{t:nh}(S:SetIs w s.heap a b n t){i:Nat}(f:SetIter w s.heap c a t b.size n i)(x:c≠a){e:Int×iC}(j:(oS w a n b)[i]?=Y e){Q:CQ}
  (p: ∀d,SetIter w d c a t b.size n (i+1)->aC c s.heap d->Q (Y e.2) {s with heap:=d}):ae (ag prog w) A (b6<|.ref c) Q E s:=by
 obtain⟨o,g,q,hd⟩:=id f;have r:i<b.size:=by have:=(L8.mp j).1;rw[pW] at this;exact this
 unfold b6;refine hU<|si<|ur (name:=ba "__next__") f.typeIs oT<|oM oT f.typeIs wx ?_<|yG _;unfold aZ.«set_iterator.__next__» kv;simp only[AE,rg,jF,↓reduceIte,sA,pv,vZ];refine hU<|iq ?_;unfold fieldsOf;simp only[sA];refine hU<|zi g ?_;rw[hd];refine hU<|iq ?_;dsimp only;refine hU<|GY S.at_ I S.fits ?_;rw[iL<|by simp];have h1:((mW w t i:Nat):Int).toNat=mW w t i:=uv _;have l:((i:Nat):Int).toNat=i:=uv _;have m:((n:Nat):Int).toNat=n:=uv _;rw[h1,l,m];refine hU (A9 S (zj r) (λv h=>?_) λz=>by lia);rw[j] at h;cases h;dsimp only;refine hU<|wK g hd (by simp) ?_;have k:=wa (fJ λu=>u.setIfInBounds 0<|cr<|mW w t<|i+1) g<|Eb<|vW hd _;refine hU<|wK k (vW hd _) (by simp)<|iq ⟨_,rfl,iq<|p _ ?_ ((tP ..).trans (tP ..))⟩;refine⟨_,wa _ k (Eb<|vW (vW hd _) _),?_,?_⟩
 .rw[Ea,Ea];exact q
 .rw[vW<|vW hd _];simp[cr]
def EV(k:A.handled=J)(S:SetIs w s.heap a c n t)(d:SetIter w s.heap it a t c.size n c.size)(q:it≠a) 
  (j: ∀e,dW it s.heap e->Q J {s with heap:=e}):ae (ag prog w) A (b6<|.ref it) Q E s:=by
 obtain⟨o,f,p,hd⟩:=id d;unfold b6;refine hU<|si<|ur (name:=ba "__next__") d.typeIs oT<|oM oT d.typeIs wx ?_<|yG _;unfold aZ.«set_iterator.__next__» kv;simp only[AE,rg,jF,↓reduceIte,sA,pv,vZ];refine hU<|iq ?_;unfold fieldsOf;simp only[sA];refine hU<|zi f ?_;rw[hd];refine hU<|iq ?_;dsimp only;refine hU<|GY S.at_ I S.fits ?_;rw[iL<|by simp];have h1:((mW w t c.size:Nat):Int).toNat=mW w t c.size:=uv _;have h:((c.size:Nat):Int).toNat=c.size:=uv _;have i:((n:Nat):Int).toNat=n:=uv _;rw[h1,h,i];refine hU<|A9 S (jQ _) (λl g=>?_) λ_=>?_
 .have:=(L8.mp g).1;rw[pW] at this;omega
 dsimp only;refine hU<|wK f hd (by simp) ?_;show ae _ _ (gV (.type "StopIteration") []>>=_) _ _ _;refine hU ?_;simp -iota only[gV,kS];refine hU<|mT ?_ (by size_fits);refine hU (m:=cF _ _)<|rk (a:=am) (by first|rfl|(simp -iota only[cF];rfl)) ?_;refine mT ?_ (by size_fits);simp -iota only[u5];refine hU<|He ?_;rw[show A.in1.handled=J from k];refine hU<|iq<|Hd ?_;refine hU<|wJ (T:="StopIteration") (b:=U) ⟨_,kh _ rfl,rfl⟩ D6 ?_;exact iq<|j _ (((tP ..).extBut.push _).push _)
def LA(b:SetIter w s.heap it a t z n i)(c:Q (.ref it) s):ae (ag prog w) A (c8<|.ref it) Q E s:=by refine GZ b.typeIs xS<|oM xS b.typeIs CJ ?_<|Fp _;unfold aZ.«dict_keyiterator.__iter__» kv;simp -iota only[AE,rg,jF,↓reduceIte,sA,pv,vZ];exact hU<|iq<|iq ⟨_,rfl,"set_iterator",_,b.typeIs,oT.lookup,c⟩
def SetIs.stay{a b n t}(S:SetIs w h a b n t)(k: ∀o,h.get? a=Y o->c.get? a=Y o):SetIs w c a b n t:=⟨k _ S.at_,S.tab,S.plain,S.led⟩
def KQ(r:A.handled=J)(T a:hV)(j:T≠a)(c:vP)(n:Nat)(t:nh):
  Walks prog w A T [T,a] [T] c.size (λi v=> ∃e,(oS w a n c)[i]?=Y e/\v=e.2) (λi h=>SetIter w h T a t c.size n i/\SetIs w h a c n t) where
 sub:=λb d=>by simp at d;simp[d]
 frame:=λ_ _ _ st hk=>⟨(by obtain⟨o,h1,q⟩:=st.1;exact⟨o,hk T (by simp) o h1,q⟩),st.2.stay λo e=>hk a (by simp) o e⟩
 item:=λi s Q E u st f=>by
  have x:i<(oS w a n c).size:=by rw[pW];exact u
  have l:(oS w a n c)[i]?=Y (oS w a n c)[i]:=qp x;refine Cw st.2 st.1 j l λg p k=>?_;exact f _ g s.toks ⟨_,l,rfl⟩ ⟨p,st.2.stay λo e=>k.extBut a o (λh=>j h.symm) e⟩ λb o d e=>k.extBut b o (λh=>d<|by simp[h]) e
 done:=λs Q E st f=>EV r st.2 st.1 j λg m=>f g s.toks λb o d e=>m b o (λh=>d<|by simp[h]) e
 self:=λ_ _ _ _ st f=>LA st.1 f
def Tn(hh:A.handled=F2)(S:SetIs w s.heap a d n t)(hn:d.size<=sizeLine) 
  (hQ: ∀i tk,(∀b o,s.heap.get? b=FM o->i.get? b=FM o)->Q ((oS w a n d).toList.map (·.2)) {s with heap:=i,toks:=tk}):ae (ag prog w) A (fm<|.ref a) Q E s:=by
 have y:a<s.heap.objs.size:=jl S.at_;have q:a≠s.heap.objs.size:=jG y;have M:a≠s.heap.objs.size+1:=jG<|vY y;have x:s.heap.objs.size≠s.heap.objs.size+1:=jG<|sv _;unfold fm;refine hU<|Ed<|qq Mu ?_;rw[tQ Mt _];show ae _ A.in1 (gP []>>=λl=>again<|.builtin "list.__iadd__" ⟨[l,.ref a],[]⟩) _ _ s;refine hU<|mT ?_;refine iq ⟨vX DQ _,qq Mr ?_⟩;rw[tQ DQ _];show ae _ A.in1 (bO (.ref s.heap.objs.size) (.ref a)<|.ref s.heap.objs.size) _ _ _;generalize z:({cls:= .type "list",data:= .seq ([]:List iC).toArray}:en)=g;have p:SetIs w (s.heap.push g) a d n t:=S.stay λo e=>jS _ e;unfold bO;refine hU<|tR (T:="set") (s:={s with heap:=s.heap.push g}) p.typeIs ?_;have h1:b9 (.ref s.heap.objs.size) (.ref a)=Go:=by simp only[b9,Ai];exact q.symm
 have c:(bx "set"==bx "list")=Go:=by decide
 have X:(bx "set"==bx "tuple")=Go:=by decide
 simp -iota only[h1,c,X,fH,jF,kb];refine hU<|Pq (s:={s with heap:=s.heap.push g}) p λc u r z2=>?_;have v:(s.heap.push g).objs.size=s.heap.objs.size+1:=rl _ _;have h:SetIs w c a d n t:=p.stay λo e=>r _ _ e;refine hU<|lZ ?_;unfold el;refine hU<|uw (T:="set") (s:={s with heap:=c}) h.typeIs PySem.F.slot_set_len.lookup ?_;generalize B:("set.__len__":String)=id0;dsimp only;rw[show splitId id0=FM ("set","__len__") from by subst B;decide+kernel];dsimp only;refine hU<|wJ (T:="set") (s:={s with heap:=c}) (b:=Gc) h.typeIs (by rw[DR];kernel_rfl) ?_;simp -iota only[rg,jF,kb];change ae _ _ (if _=Gc then _ else _) _ _ _;rw[iF<|by subst B;decide+kernel];refine hU<|tR (T:="set") (s:={s with heap:=c}) h.typeIs ?_;dsimp only;refine iq ?_;change ae _ _ (if _=Gc then _ else _) _ _ _;rw[iF<|by decide+kernel];refine hU<|uq ?_;have H:c.get? s.heap.objs.size=FM g:=r _ _ (kh _ (by subst z;rfl));subst z;refine hU ?_;show ae _ A.in1 (gj s.heap.objs.size (·.push .none)>>=λ_=>gj s.heap.objs.size (·.pop)) _ _ _;refine hU<|DP (s:={s with heap:=c}) H H8 ?_;have C:=wa (aE (·.push am)) H H8;refine DP C H8 ?_;have R:=wa (aE (·.pop)) C H8
 have oth: ∀b o,b≠s.heap.objs.size->c.get? b=FM o->((c.update s.heap.objs.size (aE (·.push am))).update s.heap.objs.size (aE (·.pop))).get? b=FM o:=
  λb o f e=>(zd _ _ (rA f)).trans<|(zd _ _ (rA f)).trans e
 have W:=(KQ (prog:=prog) (w:=w) (A:=A.in1) (by show A.handled=F2;exact hh) (s.heap.objs.size+1) a M.symm d n t).toS;rw[v] at u;refine iq ⟨vX Mq _,?_⟩;rw[v];refine Mp W hn s.heap.objs.size (by simp -iota only[ku,ll,lY,pk];exact⟨x,q.symm⟩) _ d.size 0 _ _ _ rfl (mr _) ?_ R (ItemsOf.nil _) λL m c' k x9 Z=>?_
 .refine⟨?_,h.stay λo e=>oth a o q e⟩;obtain⟨o,g1,g2⟩:=u;exact⟨o,oth _ o x.symm g1,g2⟩
 show ae _ A (load s.heap.objs.size>>=_) _ _ L;refine hU<|zi x9 ?_;obtain⟨i,P,U,G,J⟩:=L;have D:P=s.gens:=k.gens;have Y:U=s.drawn:=k.drawn;have K:J=s.os:=k.os;subst D;subst Y;subst K
 have N:m.toList=(oS w a n d).toList.map (·.2):=by
  obtain⟨a1,O⟩:=Z;apply wM
  .rw[jz,kG,kG,a1,pW]
  .intro j g1 g2;have V:m[j]?=FM m.toList[j]:=by rw[<-nk];exact jt g1
   obtain⟨e,I,hv⟩:=O j _ V;rw[hv];rw[jz,kG] at g2;rw[AN];rw[<-nk,jt<|by rw[kG];exact g2] at I;cases I;rfl
 refine iq ?_;show Q m.toList _;rw[N];refine hQ i G λb o e=>?_;have f:=jl e;exact k.heap b o (by simp -iota only[ku,ll,lY,pk];exact⟨jG f,jG<|vY f⟩)<|oth b o (jG f)<|r _ _ (jS _ e)
end
section
variable {a:iU}{w:iK}{A:iP}{R:h7->il->Prop}{I:hV}{d c:kH}{G:Array dO->Array dO->Prop}{n:Nat}{P:Nat->iC->Prop}{St:Nat->il->Prop}
def M5(W:WalksS a w A.in1 I d c G n P St)(S:hV)(C:S∉d)(s0:il)(j:Nat->iO->Prop)(stay: ∀i h g,j i h->(∀o,h.get? S=Y o->g.get? S=Y o)->j i g)
  (step: ∀i v (f:il) (Q:uj) (E:jf),i<n->P i v->j i f.heap->k8 (S::c) G s0 f->(∀r g y,f.toks<=y->aC S f.heap g->j (i+1) g->Q r {f with heap:=g,toks:=y})->ae (ag a w) A.in1 (nt S v) Q E f):
  ∀(k i:Nat) (s:il),n-i=k->i<=n->St i s->j i s.heap->k8 (S::c) G s0 s->(∀f,k8 (S::c) G s0 f->j n f.heap->R (.ok<|.ret .none) f)->
   cG (ag a w) A (.builtin "set.update.loop" ⟨[.ref S,.ref I],[]⟩) R s:=by
 have L:S∉c:=λh=>C<|W.sub _ h;have O: ∀b∈c,b∈S::c:=λb l=>jU _ l;intro k
 induction k with
 |zero=>
  intro i s hk U x t p q;have J:i=n:=by lia
  subst J;refine qq Mn ?_;rw[tQ GX _];show ae _ A.in1 (b6 (.ref I)>>=_) _ _ s;refine hU<|W.done s _ _ x λf m=>?_;show ae _ A.in1 (ret am) _ _ f;exact iq<|q f (DO W.gtrans p<|m.mono O)<|stay _ _ _ t λo e=>m.heap S o L e
 |succ k Y'=>
  intro i s hk U x t p q;have u:i<n:=by lia
  refine qq Mn ?_;rw[tQ GX _];show ae _ A.in1 (b6 (.ref I)>>=_) _ _ s;refine hU<|W.item i s _ _ u x λv f N T m=>?_;have H:=DO W.gtrans p<|m.mono O;show ae _ A.in1 (bo [v] (nt S v)>>=_) _ _ f;refine hU<|lZ<|step i v f _ _ u N (stay _ _ _ t λo e=>m.heap S o L e) H λr g y B z M=>?_;refine iq ⟨vX GX _,Y' (i+1) _ (by lia) u (W.frame _ f _ _ T B λb l o e=>?_) M (H.then_heap B λb o l e=>?_) q⟩
  .rw[z.2 b λh:b=S=>C<|by rw[<-h];exact l];exact e
  .rw[z.2 b λh:b=S=>l<|by rw[h];exact jP];exact e
end
section
variable {f:iU}{w:iK}{A:iP}{E:jf}{s:il}
def Su(a:iC)(h:Q₁ (.ref s.heap.objs.size) {s with heap:=s.heap.push (kK #[] 0 (.fresh 0 0 (!w.params.followText "set-order")))}):
  cG (ag f w) A (.call (.builtin "set.__new__") ⟨[.type "set",a],[]⟩) (uu Q₁ E) s:=by
 refine yY ?_;show ae _ A.in1 (do dN "set.__new__" ⟨[.type "set",a],[]⟩;again (.builtin "set.__new__" ⟨[.type "set",a],[]⟩)) _ _ s;refine hU<|rk (PySem.F.newCall_set_1 a)<|iq ⟨vX Mm _,qq PySem.F.entry_set_new ?_⟩;rw[tQ Mm _];unfold aZ.«set.__new__» lw;have c:=sub_set_self;obtain⟨b,g,d,e,os⟩:=s;dsimp only
 wp_walk
 refine yZ<|iq ?_;dsimp only;simp only[newObj];refine hU<|B4<|iq ?_;exact iq h
noncomputable abbrev mn(w:iK):SetTable:= .fresh 0 0 (!w.params.followText "set-order")
def WG{h:iO}{a:hV}(e:h.get? a=Y (kK #[] 0 (mn w))):SetIs w h a #[] 0 (mn w):=⟨e,TabOk.fresh _ _ _,rfl,rfl⟩
set_option maxHeartbeats 8000000 in
def WH{l:hV}{a:nI}{Q:jf}(hh:A.handled=F2)(p:s.heap.IsList l a\/s.heap.IsTuple l a)(m:Nat->iO->Prop)
  (stay: ∀i h d,m i h->(∀o,h.get? s.heap.objs.size=FM o->d.get? s.heap.objs.size=FM o)->m i d)
  (qL: ∀d,d.get? s.heap.objs.size=FM (kK #[] 0 (mn w))->m 0 d)
  (step: ∀i v (g:il) (B:iP) (Q:uj) (E:jf),B.units<=A.units+20->a[i]?=FM v->m i g.heap->(∀b o,s.heap.get? b=FM o->g.heap.get? b=FM o)->g.gens=s.gens->g.drawn=s.drawn->g.os=s.os->
   (∀r d x,g.toks<=x->aC s.heap.objs.size g.heap d->m (i+1) d->Q r {g with heap:=d,toks:=x})->ae (ag f w) B (nt s.heap.objs.size v) Q E g)
  (h: ∀(d:iO) (x:Nat),m a.size d->(∀b o,s.heap.get? b=FM o->d.get? b=FM o)->Q (.ref s.heap.objs.size) {s with heap:=d,toks:=x}):
  ae (ag f w) A (call (.type "set") [.ref l]) Q E s:=by
 obtain⟨c,tl,K⟩:=MT.mro;have L:=MT.made;have o8:=MT.sub;refine na<|yY ?_;show ae _ _ (callAny (.type "set") _) _ _ _;refine iq ⟨Code.quiet_builtin _ (by decide+kernel),qq PySem.F.entry_type_call ?_⟩;rw[f8 (MI "set" [.ref l] []) H8];have h1:=MT.notType;have h2:=MT.canCreate;have hct:=PySem.F.typeCall_set_1<|.ref l
 repeat (any_goals (first|assumption|wp_step))
 refine we (Su (.ref l) (E:=E) (Q₁:=λobj q=>obj= .ref s.heap.objs.size/\q={s with heap:=s.heap.push (kK #[] 0 (mn w))}) ⟨rfl,rfl⟩) λr q O=>?_
 cases r with
 |error e=>exact O
 |ok fl=>
  cases fl with
  |ret obj=>
   obtain⟨rfl,rfl⟩:=O;have D:(s.heap.push<|kK #[] 0 (mn w)).get? s.heap.objs.size=FM (kK #[] 0 (mn w)):=kh _ rfl;have hT:Shared.TypeIs {s with heap:=s.heap.push (kK #[] 0 (mn w))} (.ref s.heap.objs.size) "set":=⟨_,D,rfl⟩
   have df:=MT.init.lookup;have gB:=MT.init.bind<|.ref s.heap.objs.size
   repeat (any_goals (first|assumption|wp_step))
   refine we (Hc (R:=uu (λr t=>r= .none/\ ∃d x,t={s with heap:=d,toks:=x}/\m a.size d/\(∀b o,s.heap.get? b=FM o->d.get? b=FM o)) E) MT.init.plain PySem.F.entry_set_init<|check_set_init_1 hT ?_) λz t C=>?_
   .obtain⟨c,hc,ol,N,Z,nl,J⟩: ∃c,(c="list"\/c="tuple")/\ ∃o,s.heap.get? l=FM o/\o.cls= .type c/\ ∃n,o.data= .seq a n:=p.elim (λh=>⟨_,.inl H8,h⟩) (λh=>⟨_,.inr H8,h⟩)
    obtain⟨V,S,j3⟩:isSubtype (.type c) (.type "set")=pure Go/\isSubtype (.type c) (.type "frozenset")=pure Go/\(bx c==bx "dict")=Go:=by
     rcases hc with rfl|rfl
     .exact⟨PySem.F.sub_list_set,PySem.F.sub_list_frozenset,by decide⟩
     .exact⟨PySem.F.sub_tuple_set,PySem.F.sub_tuple_frozenset,by decide⟩
    obtain⟨X,u,T,k⟩:=ol;simp only at Z J;subst Z;subst J;have P:(s.heap.push<|kK #[] 0 (mn w)).get? l=FM {cls:= .type c,dict:=u,data:= .seq a nl,slots:=k}:=jS _ N;have U:l<s.heap.objs.size:=jl N;have Y:A.in1.in1.in1.handled=F2:=by simp[hh]
    have sz:(s.heap.push<|kK #[] 0 (mn w)).objs.size=s.heap.objs.size+1:=rl _ _;have M:l≠(s.heap.push<|kK #[] 0 (mn w)).objs.size:=by rw[sz];exact jG<|vY U
    have bM:s.heap.objs.size∉[(s.heap.push<|kK #[] 0 (mn w)).objs.size,l]:=by rw[sz];simp only[ku,ll,lY,pk];exact⟨jG<|sv _,pT U⟩
    obtain⟨St,W,o0,h0,H⟩: ∃St,Walks f w A.in1.in1.in1 (s.heap.push<|kK #[] 0 (mn w)).objs.size [(s.heap.push<|kK #[] 0 (mn w)).objs.size,l] [(s.heap.push<|kK #[] 0 (mn w)).objs.size] a.size (λi v=>a[i]?=FM v) St/\ ∃o0,St 0 ((s.heap.push<|kK #[] 0 (mn w)).push o0)/\
      ∀{A':iP} {Q:jf} {E},Q (.ref (s.heap.push<|kK #[] 0 (mn w)).objs.size) {s with heap:=(s.heap.push<|kK #[] 0 (mn w)).push o0}->ae (ag f w) A' (c8<|.ref l) Q E {s with heap:=s.heap.push (kK #[] 0 (mn w))}:=by
     rcases p with p|p
     .exact⟨_,Ee Y _ l M a,_,⟨⟨_,kh _ rfl,rfl,rfl⟩,(p.push _).push _⟩,λh=>zg (p.push _) h⟩
     .exact⟨_,Walks.tuple Y _ l M a,_,⟨⟨_,kh _ rfl,rfl,rfl⟩,(p.push _).push _⟩,λh=>Hz (p.push _) h⟩
    unfold aZ.«set.__init__» noKeywords lf;generalize I:c8=PI
    wp_walk
    subst I;refine H ?_;refine hU<|Ed ?_;refine M5 W.toS s.heap.objs.size bM _ m stay (λi v g Q' E' hi hP gF j hk=>?_) (a.size-0) 0 _ (by lia) (mr _) h0 (qL _ (jS _ D)) (p6 λ_=>rfl) ?hR
    .refine step i v g _ Q' E' ?_ hP gF (λb o e=>?_) j.gens j.drawn j.os hk
     .show A.units+1+1+1<=A.units+20;lia
     .have y:=jl e;exact j.heap b o (by rw[sz];simp only[ku,ll,lY,pk];exact⟨jG y,jG<|vY y⟩)<|jS _ (jS _ e)
    case hR=>intro g j G;obtain⟨d,g',d',au,bw⟩:=g;have eg:g'=s.gens:=j.gens;have ed:d'=s.drawn:=j.drawn;have eo:bw=s.os:=j.os;subst eg;subst ed;subst eo;show ae _ _ _ _ _ _;refine iq ?_;show ae _ _ (ret am) _ _ _;refine iq ⟨rfl,d,au,rfl,G,λb o e=>?_⟩;have y:=jl e;exact j.heap b o (by rw[sz];simp only[ku,ll,lY,pk];exact⟨jG y,jG<|vY y⟩)<|jS _ (jS _ e)
   .cases z with
    |error e=>exact C
    |ok gM=>
     cases gM with
     |ret r=>
      obtain⟨rfl,d,x,rfl,G,fZ⟩:=C
      repeat (any_goals (first|assumption|wp_step))
      exact h _ _ G fZ
     |_=>exact C.elim
  |_=>exact O.elim
end
structure DRaw(h:iO)(d:hV)(es:Array eG)(ep:Nat):Prop where
 at_: ∃o,h.get? d=FM o/\o.ExactDict/\o.data= .dict es ep
def DRaw.stay{d b a}(x:DRaw h d b a)(k: ∀o,h.get? d=Y o->c.get? d=Y o):DRaw c d b a:=let⟨o,h1,r⟩:=x.at_;⟨o,k _ h1,r⟩
section
variable {prog:iU}{w:iK}{A:iP}{E:jf}{s:il}
def DRaw.typeIs{d b a}(x:DRaw s.heap d b a):s.TypeIs (.ref d) "dict":=let⟨o,h1,r,_⟩:=x.at_;⟨o,h1,r.1⟩
def LB(hd:(d==b3)=C)(c:DRaw s.heap d g f)
  (h:Q (.ref s.heap.objs.size) {s with heap:=s.heap.push {cls:= .type "dict_keyiterator",data:= .fields #[.ref d,.int 0 0,.int g.size 0,.int f 0]}}):ae (ag prog w) A (c8<|.ref d) Q E s:=by
 have a:=c.typeIs;obtain⟨o,e,i,b⟩:=c.at_;refine GZ a Ml<|oM Ml a PySem.F.entry_dict_iter ?_<|PySem.F.args_dict_iter_1 _;unfold aZ.«dict.__iter__»;refine hU ?_;unfold sK;refine hU<|Mk a ?_;change ae _ _ (pure<|bb d) _ _ s;refine iq ?_;change ae _ _ (eW d>>=_) _ _ s;unfold eW;rw[iL<|by rw[hd];exact kF];refine hU<|iq ?_;refine hU<|GW e b ?_;refine hU<|GV e b ?_;refine hU<|mT<|iq ⟨_,rfl,"dict_keyiterator",_,⟨_,kh _ rfl,rfl⟩,CS.lookup,?_⟩;simpa[cr] using h
def Bu{b d:hV}{i f:Nat}{c:Array eG}{e:eG}{Q:CQ}(a:s.heap.IsKeyIter b d i c.size f)(q:DRaw s.heap d c f)(r:c[i]?=Y e)
  (n: ∀g,g.IsKeyIter b d (i+1) c.size f->aC b s.heap g->Q (Y e.key) {s with heap:=g}):ae (ag prog w) A (b6<|.ref b) Q E s:=by
 obtain⟨o,h,p,hd⟩:=id a;obtain⟨t,l,u,j⟩:=q.at_;unfold b6;refine hU<|si<|ur (name:=ba "__next__") a.typeIs CS<|oM CS a.typeIs Mj ?_<|Mi _;refine hU<|iq ?_;refine hU ?_;refine hU ?_;refine hU<|DN a.typeIs<|iq ?_;refine hU<|ut h hd ?_;have m:Builtin.Dict_items.ownsTuple "dict_keyiterator"=C:=by decide
 simp only[m,jF,kb];change ae _ _ (if(bb d==am)=U then _ else _) _ _ s;rw[iL (show ¬((bb d==am)=U) from kF)];refine hU<|iq ?_;refine hU<|GW l j ?_;rw[iL<|by simp];refine hU<|iq ?_;refine hU<|GV l j ?_;rw[iL<|by simp];refine iq ?_;simp only[show ¬((i:Int)<0) from by lia,kb,uv,r];refine hU ?_;refine hU<|DN a.typeIs<|iq ?_;refine hU<|Mh a.typeIs ?_;change ae _ _ (kA (.ref b) 1 (cr<|(i:Int)+1)>>=_) _ _ s;refine hU<|wK h hd (by simp) ?_
 have k:(s.heap.update b (fJ (·.setIfInBounds 1 (cr<|(i:Int)+1)))).IsKeyIter b d (i+1) c.size f:=
  ⟨_,wa _ h (Eb<|vW hd _),(Ea ..).trans p,by rw[vW hd];simp[cr]⟩
 refine hU<|lZ ?_;refine hU (Mh (s:={s with heap:=s.heap.update b (fJ (·.setIfInBounds 1 (cr<|(i:Int)+1)))}) k.typeIs ?_);change ae _ _ (pure e.key) _ _ _;exact iq<|iq ⟨_,rfl,iq<|n _ k (tP ..)⟩
def Cy(n:A.handled=J)(c:s.heap.IsKeyIter it d e.size e.size k)(p:DRaw s.heap d e k)
  (l: ∀h,dW it s.heap h->Q J {s with heap:=h}):ae (ag prog w) A (b6<|.ref it) Q E s:=by
 obtain⟨o,i,q,hd⟩:=id c;obtain⟨r,g,t,f⟩:=p.at_;unfold b6;refine hU<|si<|ur (name:=ba "__next__") c.typeIs CS<|oM CS c.typeIs Mj ?_<|Mi _;refine hU<|iq ?_;refine hU ?_;refine hU ?_;refine hU<|DN c.typeIs<|iq ?_;refine hU<|ut i hd ?_;have j:Builtin.Dict_items.ownsTuple "dict_keyiterator"=C:=by decide
 simp only[j,jF,kb];change ae _ _ (if(bb d==am)=U then _ else _) _ _ s;rw[iL (show ¬((bb d==am)=U) from kF)];refine hU<|iq ?_;refine hU<|GW g f ?_;rw[iL<|by simp];refine hU<|iq ?_;refine hU<|GV g f ?_;rw[iL<|by simp];refine iq ?_;simp only[show ¬((e.size:Int)<0) from by lia,kb,uv,DT<|jQ e.size];refine hU ?_;refine hU<|DN c.typeIs<|iq ?_;change ae _ _ (kA (.ref it) 0 .none>>=_) _ _ s;refine hU<|wK i hd (by simp) ?_;change ae _ _ (gV (.type "StopIteration") []>>=_) _ _ _;refine hU ?_;simp -iota only[gV,kS];refine hU<|mT ?_ (by size_fits);refine hU (m:=cF _ _)<|rk (a:=am) (by first|rfl|(simp -iota only[cF];rfl)) ?_;refine mT ?_ (by size_fits);simp -iota only[u5];refine hU<|He ?_;rw[show A.in1.handled=J from n];refine hU<|iq<|Hd ?_;refine hU<|wJ (T:="StopIteration") (b:=U) ⟨_,kh _ rfl,rfl⟩ D6 ?_;exact iq<|l _ (((tP ..).extBut.push _).push _)
def I9(p:A.handled=J)(T d:hV)(r:T≠d)(a:Array eG)(k:Nat):Walks prog w A T [T,d] [T] a.size (λi v=> ∃e,a[i]?=Y e/\v=e.key) (λi h=>h.IsKeyIter T d i a.size k/\DRaw h d a k) where
 sub:=λb c=>by simp at c;simp[c]
 frame:=λ_ _ _ st hk=>⟨st.1.at λo e=>hk T (by simp) o e,st.2.stay λo e=>hk d (by simp) o e⟩
 item:=λi s Q E q st f=>by have l:a[i]?=Y a[i]:=qp q;refine Bu st.1 st.2 l λg n j=>?_;exact f _ g s.toks ⟨_,l,rfl⟩ ⟨n,st.2.stay λo e=>j.extBut d o (λh=>r h.symm) e⟩ λb o c e=>j.extBut b o (λh=>c<|by simp[h]) e
 done:=λs Q E st f=>Cy p st.1 st.2 λg m=>f g s.toks λb o c e=>m b o (λh=>c<|by simp[h]) e
 self:=λ_ _ _ _ st f=>wpAny_pyIter_keyiter st.1 f
def QJ(hd:(a==b3)=Go)(hh:A.handled=F2)(S:DRaw s.heap a d n)(hn:d.size<=sizeLine) 
  (hQ: ∀i tk,(∀b o,s.heap.get? b=FM o->i.get? b=FM o)->Q (d.toList.map (·.key)) {s with heap:=i,toks:=tk}):ae (ag prog w) A (fm<|.ref a) Q E s:=by
 have y:a<s.heap.objs.size:=let⟨_,h1,_⟩:=S.at_;jl h1;have q:a≠s.heap.objs.size:=jG y;have M:a≠s.heap.objs.size+1:=jG<|vY y;have x:s.heap.objs.size≠s.heap.objs.size+1:=jG<|sv _;unfold fm;refine hU<|Ed<|qq Mu ?_;rw[tQ Mt _];show ae _ A.in1 (gP []>>=λl=>again<|.builtin "list.__iadd__" ⟨[l,.ref a],[]⟩) _ _ s;refine hU<|mT ?_;refine iq ⟨vX DQ _,qq Mr ?_⟩;rw[tQ DQ _];show ae _ A.in1 (bO (.ref s.heap.objs.size) (.ref a)<|.ref s.heap.objs.size) _ _ _;generalize z:({cls:= .type "list",data:= .seq ([]:List iC).toArray}:en)=f;have p:DRaw (s.heap.push f) a d n:=S.stay λo e=>jS _ e;unfold bO;refine hU<|tR (T:="dict") (s:={s with heap:=s.heap.push f}) p.typeIs ?_;have h1:b9 (.ref s.heap.objs.size) (.ref a)=Go:=by simp only[b9,Ai];exact q.symm
 have c:(bx "dict"==bx "list")=Go:=by decide
 have X:(bx "dict"==bx "tuple")=Go:=by decide
 simp -iota only[h1,c,X,fH,jF,kb];refine hU<|LB (s:={s with heap:=s.heap.push f}) hd p ?_;obtain⟨c,r⟩: ∃c,c=(s.heap.push f).push {cls:= .type "dict_keyiterator",data:= .fields #[.ref a,.int 0 0,.int d.size 0,.int n 0]}:=⟨_,rfl⟩
 have u:c.IsKeyIter (s.heap.push f).objs.size a 0 d.size n:=by rw[r];exact⟨_,kh _ rfl,rfl,rfl⟩
 have t: ∀b o,(s.heap.push f).get? b=FM o->c.get? b=FM o:=λb o e=>by rw[r];exact jS _ e
 rw[<-r];have v:(s.heap.push f).objs.size=s.heap.objs.size+1:=rl _ _;have h:DRaw c a d n:=p.stay λo e=>t _ _ e;refine hU<|lZ ?_;unfold el;refine hU<|uw (T:="dict") (s:={s with heap:=c}) h.typeIs PySem.F.slot_dict_len.lookup ?_;generalize B:("dict.__len__":String)=id0;dsimp only;rw[show splitId id0=FM ("dict","__len__") from by subst B;decide+kernel];dsimp only;refine hU<|wJ (T:="dict") (s:={s with heap:=c}) (b:=Gc) h.typeIs (by rw[DR];kernel_rfl) ?_;simp -iota only[rg,jF,kb];change ae _ _ (if _=Gc then _ else _) _ _ _;rw[iF<|by subst B;decide+kernel];refine hU<|tR (T:="dict") (s:={s with heap:=c}) h.typeIs ?_;dsimp only;refine iq ?_;change ae _ _ (if _=Gc then _ else _) _ _ _;rw[iF<|by decide+kernel];refine hU<|uq ?_;have H:c.get? s.heap.objs.size=FM f:=t _ _ (kh _ (by subst z;rfl));subst z;refine hU ?_;show ae _ A.in1 (gj s.heap.objs.size (·.push .none)>>=λ_=>gj s.heap.objs.size (·.pop)) _ _ _;refine hU<|DP (s:={s with heap:=c}) H H8 ?_;have C:=wa (aE (·.push am)) H H8;refine DP C H8 ?_;have R:=wa (aE (·.pop)) C H8
 have oth: ∀b o,b≠s.heap.objs.size->c.get? b=FM o->((c.update s.heap.objs.size (aE (·.push am))).update s.heap.objs.size (aE (·.pop))).get? b=FM o:=
  λb o g e=>(zd _ _ (rA g)).trans<|(zd _ _ (rA g)).trans e
 have W:=(I9 (prog:=prog) (w:=w) (A:=A.in1) (by show A.handled=F2;exact hh) (s.heap.objs.size+1) a M.symm d n).toS;rw[v] at u;refine iq ⟨vX Mq _,?_⟩;rw[v];refine Mp W hn s.heap.objs.size (by simp -iota only[ku,ll,lY,pk];exact⟨x,q.symm⟩) _ d.size 0 _ _ _ rfl (mr _) ?_ R (ItemsOf.nil _) λL m c' k x9 Z=>?_
 .refine⟨?_,h.stay λo e=>oth a o q e⟩;obtain⟨o,g1,g2⟩:=u;exact⟨o,oth _ o x.symm g1,g2⟩
 show ae _ A (load s.heap.objs.size>>=_) _ _ L;refine hU<|zi x9 ?_;obtain⟨i,P,U,G,J⟩:=L;have D:P=s.gens:=k.gens;have Y:U=s.drawn:=k.drawn;have K:J=s.os:=k.os;subst D;subst Y;subst K
 have N:m.toList=d.toList.map (·.key):=by
  obtain⟨a1,O⟩:=Z;apply wM
  .rw[jz,kG,kG,a1]
  .intro j g1 g2;have V:m[j]?=FM m.toList[j]:=by rw[<-nk];exact jt g1
   obtain⟨e,I,hv⟩:=O j _ V;rw[hv];rw[jz,kG] at g2;rw[AN];rw[<-nk,jt<|by rw[kG];exact g2] at I;cases I;rfl
 refine iq ?_;show Q m.toList _;rw[N];refine hQ i G λb o e=>?_;have g:=jl e;exact k.heap b o (by simp -iota only[ku,ll,lY,pk];exact⟨jG g,jG<|vY g⟩)<|oth b o (jG g)<|t _ _ (jS _ e)
end
end TT
namespace PX
open PySem PySem.Spec PyProof.Rows L2 PySem.SeqAt TS
def D.hashL_map: ∀l:List D,D.hashL l=l.map D.hash:=by
 intro b
 induction b with
 |nil=>rw[D.hashL];rfl
 |cons d l a=>rw[D.hashL,a];rfl
def EH: ∀{l:List D} {d:D},D.prL l=U->d∈l->D.pr d=U:=by
 intro c
 induction c with
 |nil=>intro d _ h;simp at h
 |cons e l b=>
  intro d a h;rw[D.prL,kJ] at a;rcases ku.mp h with rfl|h
  .exact a.1
  .exact b a.2 h
def tK: ∀{l:List D} {d:D},d∈l->d.dep<=D.depL l:=λ{l d} h=>by obtain⟨j,a⟩:=uo h;exact D.dep_mem a
section
variable {X:Cx}{c:ji}{f:L2.St}{H:Hp}{s:il}
def RepV(X:Cx)(H:Hp)(O:AP')(d:List D)(a:jN):Prop:= ∃b,RepL X.K H O d b/\Vals b a
def RepV.cons(h:RepV X H O (d::ds) (v::e)):(∃x,Rep X.K H O d x/\RelV x v)/\RepV X H O ds e:=by
 obtain⟨l,r,j⟩:=h;rw[RepL] at r;obtain⟨x,k,rfl,g,i⟩:=r
 cases j with
 |cons a b=>exact⟨⟨x,g,a⟩,k,i,b⟩
def RepV.nil_of{O:AP'}{a:List D}(h:RepV X H O a []):a=[]:=by
 obtain⟨g,r,b⟩:=h;cases b
 cases a with
 |nil=>rfl
 |cons d a=>rw[RepL] at r;obtain⟨_,_,e,_⟩:=r;cases e
def RepV.cons_of(h:RepV X H O a (v::e)): ∃d b,a=d::b:=by
 cases a with
 |nil=>obtain⟨i,r,g⟩:=h;rw[RepL] at r;subst r;cases g
 |cons d a=>exact⟨d,a,rfl⟩
def PH: ∀(n:Nat) {s:il} (I:Inv X c f H s) (d:D) (v:V) (u:iC) (O:AP') (A:iP) (E:jf) (Q:Int->il->Prop),Rep X.K H O d v->RelV v u->D.pr d=Gc->d.dep<=n->A.units+n<aX->(∀j,s.toks<=j->Q d.hash {s with toks:=j})->
  ae (ag X.prog X.w) A (pyHash u) Q E s:=by
 intro n
 induction n with
 |zero=>
  intro s I d v u O A E Q g T m hd R z
  cases d with
  |int i=>have:=g.int;subst this;obtain⟨t,rfl⟩:=T;have:=z (s.toks+1)<|zc _;rw[D.hash] at this;exact HC this
  |tup l=>rw[D.dep] at hd;lia
  |_=>simp[D.pr] at m
 |succ n ih=>
  intro s I d v u O A E Q g T m hd R z
  cases d with
  |int i=>have:=g.int;subst this;obtain⟨t,rfl⟩:=T;have:=z (s.toks+1)<|zc _;rw[D.hash] at this;exact HC this
  |tup l=>
   rw[D.pr] at m;rw[D.dep] at hd;obtain⟨a,xs,rfl,q,r⟩:=g.tup;cases T;obtain⟨Z,vs,⟨o,U,S,nn,Y⟩,_⟩:=I.tuple q.sq;have B:s.TypeIs (.ref a) "tuple":=⟨o,U,S⟩
   have W:A.units<cLine:=by lia
   unfold pyHash;unfold pyHashByItsType;refine hU<|wpAny_cRoomFor_or (.inr W) ?_;refine hU<|uw B Jr.lookup ?_;show ae _ _ (if(FM (fx "tuple.__hash__")==FM am)=Gc then _ else _) Q E s;rw[iL<|by rw[pL];exact kF];refine hU<|uw B Jr.lookup ?_;show ae _ _ (callSpecialIfBoundUnlessNone? (.ref a) "__hash__" _>>=_) Q E s;refine hU<|wpAny_callSpecialIfBoundUnlessNone?_slot B Jr<|oM Jr B PySem.F.entry_tuple_hash ?_<|PySem.F.args_tuple_hash_1 _;show ae _ _ (bR (.ref a)>>=_) _ _ s;refine hU<|wpAny_tupleItemsOf U Y ?_;refine hU ?_;rw[<-DM]
   refine se _
    (λiW (b:Array Int) G=> ∃done left,l=done++left/\RepV X H (λa=>O a) left iW/\b.toList=done.map D.hash/\ ∃j,s.toks<=j/\G={s with toks:=j})
    _ ?_ ?_ _ _ ⟨[],l,rfl,⟨xs,r,by simpa using vs⟩,rfl,s.toks,jQ _,rfl⟩
   .rintro x iW b G ⟨done,left,rfl,L,C',j,p,rfl⟩;obtain⟨d,left,rfl⟩:=L.cons_of;obtain⟨⟨y,h1,P⟩,M⟩:=L.cons;have N:d∈done++d::left:=by simp
    have aY:=tK N;refine hU<|ih (I.kept (h':=s.heap) (t':=j) λ_ _ e=>e) d y x O A.in1 E _ h1 P (EH m N) (by lia) (by show A.units+1+n<aX;lia) λJ k=>?_
    first
     |exact iq ⟨done++[d],left,by simp,M,by simp[C'],J,ly p k,rfl⟩
     |exact hU<|iq<|iq ⟨done++[d],left,by simp,M,by simp[C'],J,ly p k,rfl⟩
   .rintro b G ⟨done,left,rfl,L,C',j,p,rfl⟩;have:=L.nil_of;subst this;have h:=z (j+1)<|jp p;rw[D.hash,D.hashL_map,wO] at h;show ae _ _ (retInt<|be b.toList) _ _ _;rw[C'];refine wpAny_ret_mkInt ?_;show ae _ _ (if(decide (-(2:Int)^63<=be (done.map D.hash))&&decide (be (done.map D.hash)<2^63))=Gc then _ else _) Q E _;unfold reduceHash at h;by_cases g:(decide (-(2:Int)^63<=be (done.map D.hash))&&decide (be (done.map D.hash)<2^63))=Gc
    .rw[iF g];rw[iF g] at h;exact iq h
    .rw[iL g];rw[iL g] at h;exact hU<|uq<|iq h
  |_=>simp[D.pr] at m
def XY(I:Inv X c f H s): ∀(n:Nat) (d:D) (v:V) (u:iC) (O:AP') (A:iP) (E:jf) (Q:uj),Rep X.K H O d v->RelV v u->D.pr d=U->d.dep<=n->Q U s->ae (ag X.prog X.w) A (c5 n u) Q E s:=by
 intro n
 induction n with
 |zero=>
  intro d v u O A E Q g j b hd e
  cases d with
  |int i=>have:=g.int;subst this;obtain⟨t,rfl⟩:=j;exact rk (show c5 0 (.int i t)=pure U by simp[c5]) e
  |tup l=>rw[D.dep] at hd;lia
  |_=>simp[D.pr] at b
 |succ n U'=>
  intro d v u O A E Q g j b hd e
  cases d with
  |int i=>have:=g.int;subst this;obtain⟨t,rfl⟩:=j;exact rk (show c5 (n+1) (.int i t)=pure U by simp[c5]) e
  |tup l=>
   rw[D.pr] at b;rw[D.dep] at hd;obtain⟨a,F,rfl,q,r⟩:=g.tup;cases j;obtain⟨m,Y,⟨o,C,N,R,T⟩,_⟩:=I.tuple q.sq;have M:s.TypeIs (.ref a) "tuple":=⟨o,C,N⟩
   unfold c5;refine hU<|uw M Jr.lookup ?_;dsimp only;refine hU<|sj C T ?_;refine hU ?_;show ae _ _ (forIn m.toArray _ _) _ _ s;rw[<-DM];refine se _ (λiW L p=>L.1=F2/\p=s/\ ∃left,(∀d∈left,d∈l)/\RepV X H O left iW) _ ?_ ?_ _ _ ⟨rfl,rfl,l,λd h=>h,F,r,by simpa using Y⟩
   .rintro x iW L p ⟨k,rfl,left,hm,B⟩;obtain⟨d,left,rfl⟩:=B.cons_of;obtain⟨⟨y,h1,G⟩,J⟩:=B.cons;have z:=hm d jP;have P:=tK z;refine hU<|U' d y x O A E _ h1 G (EH b z) (by lia) ?_;simp -iota only[rg,jF,kb];exact iq ⟨rfl,rfl,left,λd h=>hm d<|jU _ h,J⟩
   .rintro⟨S,W⟩ p ⟨k,rfl,_⟩;simp only at k;subst k;exact iq e
  |_=>simp[D.pr] at b
def Ro{P:iU}{W:iK}(I:Inv X c f H s): ∀(n:Nat) (d:D) (v:V) (u:iC) (O:AP') (A:iP) (E:jf) (Q:uj),Rep X.K H O d v->RelV v u->D.pr d=Gc->d.dep<=n->Q Gc s->ae (ag P W) A (px n u) Q E s:=by
 intro n
 induction n with
 |zero=>
  intro d v u O A E Q g j b hd e
  cases d with
  |int i=>have:=g.int;subst this;obtain⟨t,rfl⟩:=j;exact rk (oC 0 H8) e
  |tup l=>rw[D.dep] at hd;omega
  |_=>simp[D.pr] at b
 |succ n N=>
  intro d v u O A E Q g j b hd e
  cases d with
  |int i=>have:=g.int;subst this;obtain⟨t,rfl⟩:=j;exact rk (oC (n+1) H8) e
  |tup l=>
   rw[D.pr] at b;rw[D.dep] at hd;obtain⟨a,Y,rfl,q,r⟩:=g.tup;cases j;obtain⟨m,U,⟨o,C,M,S,T⟩,_⟩:=I.tuple q.sq;have z:s.TypeIs (.ref a) "tuple":=⟨o,C,M⟩
   unfold px;refine hU<|uw z PySem.F.slot_tuple_eq.lookup ?_;show ae _ _ (isInstance (.ref a) (.type "tuple")>>=_) _ _ s;refine hU<|wJ z isSubtype_tuple_tuple ?_;simp -iota only[rg,jF,kb];refine hU<|sj C T ?_;refine hU ?_;show ae _ _ (forIn m.toArray _ _) _ _ s;rw[<-DM];refine se _ (λiW L p=>L.1=F2/\p=s/\ ∃left,(∀d∈left,d∈l)/\RepV X H O left iW) _ ?_ ?_ _ _ ⟨rfl,rfl,l,λd h=>h,Y,r,by simpa using U⟩
   .rintro x iW L p ⟨k,rfl,left,hm,B⟩;obtain⟨d,left,rfl⟩:=B.cons_of;obtain⟨⟨y,h1,G⟩,J⟩:=B.cons;have w:=hm d jP;have R:=tK w;refine hU<|N d y x O A E _ h1 G (EH b w) (by omega) ?_;simp -iota only[rg,jF,kb];exact iq ⟨rfl,rfl,left,λd h=>hm d<|jU _ h,J⟩
   .rintro⟨Z,r2⟩ p ⟨k,rfl,_⟩;simp only at k;subst k;exact iq e
  |_=>simp[D.pr] at b
def Lq{P:iU}{W:iK}(I:Inv X c f H s): ∀(n:Nat) (d:D) (v:V) (u:iC) (O:AP') (A:iP) (E:jf) (Q:uj),Rep X.K H O d v->RelV v u->D.pr d=Gc->d.dep<=n->Q Go s->ae (ag P W) A (bJ n u) Q E s:=by
 intro n
 induction n with
 |zero=>
  intro d v u O A E Q g j b hd e
  cases d with
  |int i=>have:=g.int;subst this;obtain⟨t,rfl⟩:=j;exact rk (show bJ 0 (.int i t)=pure Go by simp[bJ]) e
  |tup l=>rw[D.dep] at hd;omega
  |_=>simp[D.pr] at b
 |succ n N=>
  intro d v u O A E Q g j b hd e
  cases d with
  |int i=>have:=g.int;subst this;obtain⟨t,rfl⟩:=j;exact rk (show bJ (n+1) (.int i t)=pure Go by simp[bJ]) e
  |tup l=>
   rw[D.pr] at b;rw[D.dep] at hd;obtain⟨a,Y,rfl,q,r⟩:=g.tup;cases j;obtain⟨m,U,⟨o,B,M,R,L⟩,_⟩:=I.tuple q.sq;have J:s.TypeIs (.ref a) "tuple":=⟨o,B,M⟩
   unfold bJ;refine hU<|tR J ?_;dsimp only;rw[iF<|by decide];refine hU<|iq ?_;simp -iota only[rg,jF,kb];refine hU<|sj B L ?_;dsimp only;refine hU ?_;show ae _ _ (forIn m.toArray _ _) _ _ s;rw[<-DM];refine se _ (λiW C p=>C.1=F2/\p=s/\ ∃left,(∀d∈left,d∈l)/\RepV X H O left iW) _ ?_ ?_ _ _ ⟨rfl,rfl,l,λd h=>h,Y,r,by simpa using U⟩
   .rintro x iW C p ⟨k,rfl,left,hm,z⟩;obtain⟨d,left,rfl⟩:=z.cons_of;obtain⟨⟨y,h1,T⟩,G⟩:=z.cons;have w:=hm d jP;have F:=tK w;refine hU<|N d y x O A E _ h1 T (EH b w) (by omega) ?_;simp -iota only[jF,kb];exact iq ⟨rfl,rfl,left,λd h=>hm d<|jU _ h,G⟩
   .rintro⟨S,Z⟩ p ⟨k,rfl,_⟩;simp only at k;subst k;exact iq e
  |_=>simp[D.pr] at b
end
def okS:D->Bool
 | .tup l=>D.prL l&&decide (D.depL l<=6)
 |_=>C
def qx(h:okS d=U): ∃l,d= .tup l:=by cases d<;>first|exact⟨_,rfl⟩|(simp[okS] at h)
def uQ(h:okS d=U):D.pr d=U:=by obtain⟨l,rfl⟩:=qx h;simp only[okS,kJ] at h;rw[D.pr];exact h.1
def sU(h:okS d=U):d.dep<=7:=by obtain⟨l,rfl⟩:=qx h;simp -iota only[okS,kJ,ni] at h;rw[D.dep];lia
def IW(h1:D.pr x=U)(a:D.pr y=U):D.eqb x y=U↔x=y:=by
 rw[IY x y h1 a];constructor
 .intro h;exact yF x y h1 a (by simpa using h)
 .rintro rfl;rw[Kr];rfl
def vg(a:List D)(d:D):List D:=if a.any (D.eqb · d)=U then a else a++[d]
def qZ(l:List D):List D:=l.foldl vg []
def TF(h1:b.all okS=U)(a:okS d=U):(vg b d).all okS=U:=by
 unfold vg;split
 .exact h1
 .rw[List.all_append,h1];simp[a]
def Qu(a:List D)(d:D):(vg a d).length<=Ix a+1:=by unfold vg;split<;>simp
def nr{d i:Type}(f:d->i){g m:List i}(h:g.Perm m): ∀l:List d,m=l.map f-> ∃c:List d,c.Perm l/\g=c.map f:=by
 induction h with
 |nil=>
  intro l e;have:l=[]:=by simpa using e.symm
  subst this;exact⟨[],.refl _,rfl⟩
 |cons x _ n=>
  intro l e
  cases l with
  |nil=>simp at e
  |cons y l=>simp -iota only[jx,db] at e;obtain⟨c,p,q⟩:=n l e.2;exact⟨y::c,p.cons y,by rw[q,e.1];rfl⟩
 |swap x y w=>
  intro l e
  cases l with
  |nil=>simp at e
  |cons a l=>
   cases l with
   |nil=>simp at e
   |cons b l=>simp -iota only[jx,db] at e;exact⟨b::a::l,.swap a b l,by rw[e.1,e.2.1,e.2.2];rfl⟩
 |trans _ _ k j=>intro l e;obtain⟨o,s,u⟩:=j l e;obtain⟨r,t,v⟩:=k o u;exact⟨r,t.trans s,v⟩
def zV{b d:Type}{F:b->d->Prop}{c m:List d}(h:c.Perm m): ∀{z:List b},Paired F z m-> ∃a:List b,Paired F a c/\a.Perm z:=by
 induction h with
 |nil=>intro z p;exact⟨z,p,.refl _⟩
 |cons x _ i=>
  intro z p
  cases p with
  |cons r t=>obtain⟨a,h1,g⟩:=i t;exact⟨_::a,.cons r h1,g.cons _⟩
 |swap x y s=>
  intro z p
  cases p with
  |cons r t=>
   cases t with
   |cons o t=>exact⟨_,.cons o<|.cons r t,.swap _ _ _⟩
 |trans _ _ f e=>intro z p;obtain⟨u,j,l⟩:=e p;obtain⟨q,k,n⟩:=f j;exact⟨q,k,n.trans l⟩
def RepL.zip{K T}{O:AP'}: ∀{l:List D} {b:List V},RepL K T O l b-> ∀p∈l.zip b,Rep K T O p.1 p.2:=by
 intro f
 induction f with
 |nil=>intro b h p a;simp at a
 |cons d l e=>
  intro b h p a;rw[RepL] at h;obtain⟨v,r,rfl,h1,c⟩:=h;rw[uy] at a;rcases ku.mp a with rfl|a
  .exact h1
  .exact e c p a
def RepL.ofZip{K T}{O:AP'}: ∀{l:List (D×V)},(∀p∈l,Rep K T O p.1 p.2)->RepL K T O (l.map (·.1)) (l.map (·.2)):=by
 intro c
 induction c with
 |nil=>intro _;exact RepL.nil
 |cons p l b=>intro h;exact RepL.cons (h p jP)<|b λq a=>h q<|jU _ a
abbrev hv(p:D×V):Int×V:=(D.hash p.1,p.2)
theorem AX: ∀(b:List D) (a:List V),(D.hashL b).zip a=(b.zip a).map hv
 |[],a=>by simp[D.hashL]
 |d::b,[]=>by simp
 |d::b,u::a=>by rw[D.hashL,uy,uy,jx,AX b a]
section
variable {X:Cx}{pins:ji}{σ:L2.St}{H:Hp}{s:il}
structure SetV(X:Cx)(H:Hp)(O:AP')(h:iO)(a:hV)(vs:List D)(es:vP)(n:Nat)(t:nh)(l:List (D×V)):Prop where
 is:TT.SetIs X.w h a es n t
 perm:(l.map (·.1)).Perm vs
 rep: ∀p∈l,Rep X.K H O p.1 p.2
 par:Paired (λ(z:Int×V) (e:Int×iC)=>z.1=e.1/\RelV z.2 e.2) (l.map hv) es.toList
def SetV.stay{a c b n t l}(S:SetV X H O h a c b n t l)(k: ∀o,h.get? a=Y o->d.get? a=Y o):SetV X H O d a c b n t l:=⟨S.is.stay k,S.perm,S.rep,S.par⟩
def Ih{d c:Type}{F:d->c->Prop}{l:List d}{m:List c}(h:Paired F l m): ∀{i:Nat} {b:c},m[i]?=Y b-> ∃a,l[i]?=Y a/\F a b:=by
 induction h with
 |nil=>intro i b h;simp at h
 |cons r t f=>
  intro i b h
  cases i with
  |zero=>simp at h;subst h;exact⟨_,rfl,r⟩
  |succ i=>obtain⟨a,h1,e⟩:=f (i:=i) (b:=b) (by simpa using h);exact⟨a,by simpa using h1,e⟩
def Ig{a b:Type}{F:a->b->Prop}: ∀{l:List a} {m:List b},Paired F l m->Ix l=(Ix m):=AW
def Bl{l:List (Int×V)}{m:List (Int×iC)}(h:Paired (λ(z:Int×V) (e:Int×iC)=>z.1=e.1/\RelV z.2 e.2) l m):l.map (·.1)=m.map (·.1):=by
 induction h with
 |nil=>rfl
 |cons r t a=>rw[jx,jx,r.1,a]
def SetV.srch(I:Inv X pins σ H s){O U:AP'}{a:hV}{vs:List D}{G n t l}(S:SetV X H O s.heap a vs G n t l)(hok:vs.all okS=Gc){d:D}{v:V}{u:iC}(hd:kj X.K H U d v)(ru:RelV v u)(N:okS d=Gc){A:iP}(hA:A.units+60<aX):
  ∃b,u= .ref b/\TT.Srch A s a G n t u d.hash (λi=>match l[i]? with|some p=>D.eqb p.1 d|none=>Go):=by
 obtain⟨ld,rfl⟩:=qx N;obtain⟨b,xs,rfl,q,r⟩:=ma hd;cases ru;have hdp:=sU N;have fS:=uQ N;have h: ∀p∈l,okS p.1=Gc:=λp J=>lG.mp hok _ (S.perm.mem_iff.mp<|qI J)
 have at_: ∀(i:Nat) (e:Int×iC),G[i]?=FM e-> ∃p,l[i]?=FM p/\p∈l/\D.hash p.1=e.1/\RelV p.2 e.2:=λi e m=>by
  obtain⟨z,h1,f,C⟩:=Ih S.par (i:=i) (b:=e) (by rw[nk];exact m);rw[mv] at h1
  cases Z:l[i]? with
  |none=>rw[Z] at h1;cases h1
  |some p=>rw[Z] at h1;cases h1;exact⟨p,rfl,nK Z,f,C⟩
 have M: ∀(e:D) (y:V) (T:iC) (x:AP') (B:iP) (P:iU) (W:iK) (Q:uj) (E:jf),okS e=Gc->kj X.K H x e y->RelV y T->Q Gc s->ae (ag P W) B (px 8 T) Q E s:=λe y T x B P W Q E L hv hr o=>by
  obtain⟨le,rfl⟩:=qx L;rcases hv with hv|⟨_,_,hv⟩
  .exact Ro I 8 _ _ _ x B E Q hv hr (uQ L) (by have:=sU L;lia) o
  .exact hv.elim
 have p5: ∀(e:D) (y:V) (T:iC) (x:AP') (B:iP) (P:iU) (W:iK) (Q:uj) (E:jf),okS e=Gc->kj X.K H x e y->RelV y T->Q Go s->ae (ag P W) B (bJ 8 T) Q E s:=λe y T x B P W Q E L hv hr o=>by
  obtain⟨le,rfl⟩:=qx L;rcases hv with hv|⟨_,_,hv⟩
  .exact Lq I 8 _ _ _ x B E Q hv hr (uQ L) (by have:=sU L;lia) o
  .exact hv.elim
 refine⟨b,rfl,⟨_,S.is.at_,rfl⟩,S.is.tab,λi e m=>?_,λi e m=>?_,λi e m o=>?_,λls g w E Q hls o=>?_⟩
 .obtain⟨p,h1,f,C,j⟩:=at_ i e m;obtain⟨lp,J⟩:=qx<|h p f;have:=S.rep p f;rw[J] at this;obtain⟨c,xs,F,_⟩:=this.tup;rw[F] at j;exact⟨c,j⟩
 .obtain⟨p,h1,f,C,j⟩:=at_ i e m;rw[h1];have:=sU<|h p f;exact BP I 50 p.1 (.tup ld) p.2 (.ref b) _ _ O U A (.inl<|S.rep p f) hd j rfl (by lia) (by lia) (by lia)
 .obtain⟨p,h1,f,C,j⟩:=at_ i e m;rw[h1] at o;rw[(IW (uQ<|h p f) fS).mp o] at C;exact C.symm
 .unfold on;refine hU ?_;refine se _ (λiW rr s'=>rr.1=F2/\s'=s/\ ∀v∈iW,∃e∈G.toList,e.2=v) _ ?_ ?_ _ _ ⟨rfl,rfl,hls⟩
  .rintro y iW rr s' ⟨R,rfl,hm⟩;have k: ∀v∈iW,∃e∈G.toList,e.2=v:=λv hv=>hm v<|jU _ hv;obtain⟨e,m,rfl⟩:=hm y jP;obtain⟨i,hi⟩:=uo m;rw[nk] at hi;obtain⟨p,h1,f,C,j⟩:=at_ i e hi;obtain⟨lp,J⟩:=qx<|h p f;have Y:=S.rep p f
   obtain⟨c,ec⟩: ∃c,e.2= .ref c:=by rw[J] at Y;obtain⟨c,xs,F,_⟩:=Y.tup;rw[F] at j;exact⟨c,j⟩
   rw[ec] at j ⊢;dsimp only;split
   .exact iq ⟨rfl,rfl,k⟩
   .refine hU (M _ _ _ U A g w _ _ N hd rfl ?_);simp -iota only[rg,jF,kb];refine hU<|M _ _ _ O A g w _ _ (h p f) (.inl Y) j ?_;simp -iota only[rg,jF,kb];refine hU<|p5 _ _ _ U A g w _ _ N hd rfl ?_;simp -iota only[jF,kb];refine hU<|p5 _ _ _ O A g w _ _ (h p f) (.inl Y) j ?_;simp -iota only[jF,kb];exact iq ⟨rfl,rfl,k⟩
  .rintro⟨r1,r2⟩ s' ⟨R,rfl,_⟩;simp only at R;subst R;exact iq o
def OthB.setV(T:Inv X pins σ H s)(h:OthB X.K (H a) .set o f us)(r:RepL X.K H O f us): ∃b n t l,SetV X H O s.heap a f b n t l:=by
 obtain⟨_,m,e,p⟩:=h;obtain⟨b,n,t,h1,c,g,i,j⟩:=(show ObjOk X.prog X.w H s.heap a (.stt m) from T.hok a _ e)
 rw[AX] at p;obtain⟨l,d,rfl⟩:=nr hv p _ rfl;refine⟨b,n,t,l,⟨h1,by rw[<-Bl c];exact g,i,j⟩,?_,λq k=>r.zip q<|d.mem_iff.mp k,c⟩;have:=d.map (·.1);rw[j2<|by rw[r.length];exact jQ _] at this;exact this
def SetV.objOk{b n t l}(S:SetV X H O h a d b n t l):ObjOk X.prog X.w c h a (.stt<|l.map hv):=
 ⟨b,n,t,S.is.at_,S.par,by rw[Bl S.par];exact S.is.tab,S.is.plain,S.is.led⟩
def SetV.lens{b n t l}(S:SetV X H O h a c b n t l):b.size=Ix c/\(Ix l)=(Ix c):=by
 have h1:=Ig S.par;have d:=S.perm.length_eq;simp only[jz,kG] at h1 d
 lia
def SetV.oth{O:AP'}{h:iO}{a:hV}{f:List D}{j n t l}(S:SetV X H O h a f j n t l){K c}{g:AP'}(o: ∀p∈l,Rep K c g p.1 p.2)(k:c a=Y (.stt<|l.map hv)): ∃i,OthB K (c a) .set [] f i/\RepL K c g f i:=by
 obtain⟨b,d,e⟩:=nr (·.1) S.perm.symm l I;refine⟨b.map (·.2),⟨rfl,l.map hv,k,?_⟩,?_⟩
 .rw[e,AX]
  have:(b.map (·.1)).zip (b.map (·.2))=b:=by
   clear d e
   induction b with
   |nil=>rfl
   |cons x l q=>rw[jx,jx,uy,q]
  rw[this];exact(d.map hv).symm
 .rw[e];exact RepL.ofZip λp m=>o p<|d.mem_iff.mp m
def SetV.add(I:Inv X pins σ H s){B n t l}(S:SetV X H O s.heap a c B n t l)(T:c.all okS=Gc)(hd:kj X.K H O' d v)(y:Rep X.K H O d v)(q:RelV v u)(o:okS d=Gc)(hz:(Ix c)<500)
  (hA:A.units+60<aX) 
  (h: ∀r h' f g M t' G,s.toks<=f->aC a s.heap h'->SetV X H O h' a (vg c d) g M t' G->Q r {s with heap:=h',toks:=f}):ae (ag X.prog X.w) A (nt a u) Q E s:=by
 obtain⟨bS,bG⟩:=S.lens;unfold nt;refine lZ<|hU<|PH 50 I d v u O A E _ y q (uQ o) (by have:=sU o;lia) (by lia) λf Y=>?_;have U:Inv X pins σ H {s with toks:=f}:=I.kept (h':=s.heap) (t':=f) λ_ _ e=>e;obtain⟨b,rfl,R⟩:=SetV.srch (s:={s with toks:=f}) U S T hd q o hA;have J: ∀p∈l,p.1∈c:=λp j=>S.perm.mem_iff.mp<|qI j;refine TT.YJ R S.is.at_ S.is.plain (by lia) (λP k=>XY U 8 d v _ O A E P y q (uQ o) (by have:=sU o;lia) k) (λ⟨i,C',k⟩=>?_) λZ h' g M t' g1 g2 g3 g4 g5 g6=>?_
 .have:vg c d=c:=by
   unfold vg
   cases L:l[i]? with
   |none=>rw[L] at k;cases k
   |some p=>rw[L] at k;rw[iF<|j4.mpr ⟨p.1,J p<|nK L,k⟩]
  exact h C s.heap f B n t l Y (Eh a s.heap) (by rw[this];exact S)
 .have aV:c.any (D.eqb · d)=C:=by rw[i4];intro x hx;have W:=S.perm.mem_iff.mpr hx;obtain⟨p,j,rfl⟩:=mS.mp W;obtain⟨i,C'⟩:=uo j;have:=Z i (by have:=(xN.mp C').1;lia);rw[C'] at this;simpa using this
  have m:vg c d=c++[d]:=by unfold vg;rw[aV,iL kF]
  have N:Paired (λ(z:Int×V) (e:Int×iC)=>z.1=e.1/\RelV z.2 e.2) (((d,v)::l).map hv) ((d.hash,bb b)::B.toList):= .cons ⟨rfl,q⟩ S.par;obtain⟨z',p1,p2⟩:=zV g3 N;obtain⟨G,F,rfl⟩:=nr hv p2 _ rfl;refine h Gc h' f g M t' G Y g1 ⟨⟨g2,g4,g5,g6.trans S.is.led⟩,?_,λp j=>?_,p1⟩
  .rw[m];refine(F.map (·.1)).trans ?_;rw[jx];exact(S.perm.cons d).trans (My d c).symm
  .rcases ku.mp (F.mem_iff.mp j) with rfl|j
   .exact y
   .exact S.rep p j
def IJ:D->Option (D×Bool)
 | .lst l| .tup l=>if l.all okS=U/\(Ix l)<500 then Y (.oth .set []<|qZ l,U) else J
 |_=>J
def Ja{l:List D}{i:Nat}{d:D}(h:l[i]?=Y d):qZ (l.take<|i+1)=vg (qZ<|l.take i) d:=by unfold qZ;rw[D2,h,i3];rfl
def Qc: ∀(l a:List D),l.all okS=U->a.all okS=U->(l.foldl vg a).all okS=U:=by
 intro e
 induction e with
 |nil=>intro a _ h;exact h
 |cons d l c=>intro a h1 b;rw[wN,kJ] at h1;exact c _ h1.2 (TF b h1.1)
def LS: ∀(l a:List D),(l.foldl vg a).length<=Ix a+(Ix l):=by
 intro c
 induction c with
 |nil=>intro a;simp
 |cons d l b=>intro a;have:=b<|vg a d;have:=Qu a d;simp only[uB,kI];lia
def Qq{l:List D}(h:l.all okS=U)(i:Nat):(l.take i).all okS=U:=by rw[lG] at h ⊢;exact λx a=>h x<|wH a
def Dz(hc:X.calm=Gc)(hu:X.A.units+90<aX):kQ X (.type "set") (rDn X.K<|g1 IJ):=pd λpins s σ H x u Q O d z I ru np hd f G=>by
 obtain⟨l,p,c,a,rfl,r,v,E,f⟩: ∃l p c a,x= .ref p/\RepL X.K H O l c/\Vals c a/\(s.heap.IsList p a.toArray\/s.heap.IsTuple p a.toArray)/\(if l.all okS=Gc/\l.length<500 then FM (D.oth .set []<|qZ l,Gc) else F2)=FM z:=by
  cases d with
  |lst l=>obtain⟨p,c,rfl,q,r⟩:=lg hd;obtain⟨a,v,E,_⟩:=I.list q;exact⟨l,p,c,a,rfl,r,v,.inl E.isList,f⟩
  |tup l=>obtain⟨p,c,rfl,q,r⟩:=ma hd;obtain⟨a,v,E,_⟩:=I.tuple q;exact⟨l,p,c,a,rfl,r,v,.inr E,f⟩
  |_=>cases f
 obtain⟨⟨C,hz⟩,rfl⟩:=jh f;cases ru;have e1:=r.length;have e2:=v.length;have hh:X.A.handled=F2:=I.ok.hd hc;have L:=I.fresh
 refine TT.WH hh E (λi h=> ∃j n t g,SetV X H O h s.heap.objs.size (qZ<|l.take i) j n t g) (λi h h' ⟨j,n,t,g,S⟩ k=>⟨j,n,t,g,S.stay k⟩)
  (λh' e=>⟨#[],0,_,[],⟨TT.WG e,by simp[qZ],λp M=>by simp at M,.nil⟩⟩) (λi w s' B Q' E' hB V J hk f y Z m=>?_) (λh' tk J hk=>?_)
 .obtain⟨j,n,t,g,S⟩:=J
  have hil:i<a.length:=by have:=(L8.mp V).1;simpa using this
  have hw:a[i]?=FM w:=by simpa using V
  have P:c[i]?=FM c[i]:=jt (by lia);have R:l[i]?=FM l[i]:=jt (by lia);obtain⟨w',W,w2⟩:=v.get P;rw[hw] at W;cases W;have F:Rep X.K H O l[i] c[i]:=r.views R P;have t9:okS l[i]=Gc:=lG.mp C _ (DL _);obtain⟨h1,g1,dr1,eE,os1⟩:=s';dsimp only at hk f y Z m S;subst f;subst y;subst Z;have I':Inv X pins σ H {s with heap:=h1,toks:=eE}:=I.kept hk;refine SetV.add I' S (Qc _ _ (Qq C i) rfl) (.inl F) F w2 t9 ?_ (by lia) λrr h2 fA T n' t' U a1 a2 Y=>?_
  .have:=LS (l.take i) [];rw[rp] at this;unfold qZ;simp only[pv] at this
   lia
  .rw[<-Ja R] at Y;exact m rr h2 fA a1 a2 ⟨T,n',t',U,Y⟩
 .obtain⟨j,n,t,g,S⟩:=J;have N:a.toArray.size=l.length:=by simp;lia
  rw[N,j0] at S;refine⟨.ref s.heap.objs.size,upd H s.heap.objs.size<|.stt<|g.map hv,I.laid hk (jQ _) S.objOk,rfl,?_⟩;refine G s.heap.objs.size _ L (lS L) ?_;exact S.oth (λp M=>Rep.mono (λb o e _=>lS L b o e) (λb hb z=>z.elim id λz=>absurd (z▸L) hb)<|S.rep p M) jm
def Wc(I:Inv X pins σ H s){J' n t l}(S:SetV X H O s.heap a g J' n t l)(q:g.all okS=Gc)(hd:kj X.K H O d v)(z:RelV v u)(k:okS d=Gc)(M:A.units+60<aX) 
  (h: ∀c,Q (g.any (D.eqb · d)) {s with toks:=c}):ae (ag X.prog X.w) A (CI a u) Q E s:=by
 obtain⟨F,Y⟩:=S.lens
 have G:Rep X.K H O d v:=by
  obtain⟨ld,rfl⟩:=qx k;rcases hd with hd|⟨_,_,hd⟩
  .exact hd
  .exact hd.elim
 unfold CI;refine lZ<|hU<|PH 50 I d v u O A E _ G z (uQ k) (by have:=sU k;lia) (by lia) λc U=>?_;have B:Inv X pins σ H {s with toks:=c}:=I.kept (h':=s.heap) (t':=c) λ_ _ e=>e;obtain⟨b,rfl,C⟩:=SetV.srch (s:={s with toks:=c}) B S q hd z k M;have y: ∀p∈l,p.1∈g:=λp r=>S.perm.mem_iff.mp<|qI r;refine hU<|TT.Yc C S.is.at_ (λi m j=>?_) λT=>?_
 .have:g.any (D.eqb · d)=Gc:=by
   cases o:l[i]? with
   |none=>rw[o] at j;cases j
   |some p=>rw[o] at j;exact j4.mpr ⟨p.1,y p<|nK o,j⟩
  have f:=h c;rw[this] at f;exact iq f
 .have:g.any (D.eqb · d)=Go:=by rw[i4];intro x N;have L:=S.perm.mem_iff.mpr N;obtain⟨p,r,rfl⟩:=mS.mp L;obtain⟨i,m⟩:=uo r;have:=T i (by have:=(xN.mp m).1;lia);rw[m] at this;simpa using this
  have f:=h c;rw[this] at f;exact iq f
def Jc(T:Inv X pins σ H s){g n t l}(S:SetV X H O s.heap a f g n t l)(c:f.all okS=U)(hd:kj X.K H O d v)(i:RelV v u)(j:okS d=U)(k:A.units+61<aX) 
  (h: ∀e,Q (f.any (D.eqb · d)) {s with toks:=e}):ae (ag X.prog X.w) A (u8 (.ref a) u) Q E s:=by
 have b:=S.is.typeIs;unfold u8;refine lZ<|hU<|uw b L9.lookup ?_;change ae _ _ (if(Y (fx "set.__contains__")==Y am)=U then _ else _) _ E s;rw[iL<|by rw[pL];exact kF];refine hU<|wpAny_callSpecialUnlessNone?_slot (name:=ba "__contains__") b L9<|oM L9 b entry_set_contains ?_<|PySem.F.args_set_contains_2 _ _;unfold aZ.«frozenset.__contains__» ln;simp only[AE,sA];unfold dZ k9;refine hU<|iq ?_;dsimp only;refine hU<|iq ?_;dsimp only;refine hU<|t7 ?_;refine Wc T S c hd i j (by show A.units+1+60<aX;omega) λe=>?_;exact iq ⟨_,rfl,wg<|h e⟩
def inX(d e:D):Option Bool:=match e with
 | .oth .set [] a=>if a.all okS=U/\okS d=U then Y (a.any (D.eqb · d)) else J
 |_=>inD d e
def Fc(d e:D):Option (D×Bool):=(inX d e).map λb=>(.bl (!b),C)
def Ik(B:X.A.units+62<aX):OpR X (ap .NotIn) (rD X.K Fc):=by
 intro pins s σ H x y v u Q T j k h;obtain⟨O,d,e,z,np,h1,g,m,G⟩:=h;obtain⟨b,c,rfl⟩:=jB m;by_cases i: ∃f,e= .oth .set [] f
 .obtain⟨f,rfl⟩:=i;obtain⟨⟨o,hd⟩,rfl⟩:=jh (show(if f.all okS=U/\okS d=U then Y (f.any (D.eqb · d)) else J)=Y b from c);obtain⟨a,N,rfl,q,r⟩:=rC g;cases k;obtain⟨w,n,t,l,S⟩:=q.setV T r;change ae _ _ (u8 (.ref a) v>>=λb=>pure<|c6 (!b)) _ _ s;refine hU<|Jc T S o h1 j hd (by lia) λp=>?_;exact iq ⟨.bl _,H,T.kept (h':=s.heap) (t':=p) λ_ _ e=>e,rfl,G.bl⟩
 .have:inD d e=Y b:=by
   unfold inX at c;split at c
   .exact absurd ⟨_,rfl⟩ i
   .exact c
  exact C6 (by lia) pins s σ H x y v u Q T j k ⟨O,d,e,b,h1,g,this,G.bl⟩
end
def Nm(a:l.Perm m)(b: ∀x∈l,D.pr x=U):nq ltT l=nq ltT m:=Nj (λx c=>b x<|a.mem_iff.mpr c) ((jX ltT l).trans a)<|oj l
def KP{k:Nat}{l:List D}(h:SortsBy k l):om l=U:=by
 unfold om;rw[yQ];right
 cases l with
 |nil=>rfl
 |cons x m=>simp only[kJ,lG,ni];refine⟨⟨by rw[h.hd x jP];rfl,λy a=>⟨⟨?_,h.pr y a⟩,h.dp y a⟩⟩,λy a z b=>h.cm y a z b⟩;rw[h.hd x jP,h.hd y a];simp
def FP(b:l.Perm m)(h:om m=U):om l=U:=by
 rcases CZ h with c|⟨k,B⟩
 .unfold om;rw[yQ];left;rw[b.length_eq];simpa using c
 .exact KP (k:=k) ⟨λx a=>B.hd x<|b.mem_iff.mp a,λx a=>B.pr x<|b.mem_iff.mp a,λx a=>B.dp x<|b.mem_iff.mp a,λx a y d=>B.cm x (b.mem_iff.mp a) y<|b.mem_iff.mp d⟩
def uY(d:D):Option (D×Bool):=match d with
 | .oth .set [] a=>if a.all okS=U then kL a else J
 |_=>pF d
section
variable {X:Cx}
def Fn(hc:X.calm=Gc)(L:X.A.units+62<aX):kQ X (.builtin "sorted") (rDn X.K<|g1 uY):=pd λg s σ H x u Q O d z I M np hd C G=>by
 by_cases E: ∃h,d= .oth .set [] h
 .obtain⟨h,rfl⟩:=E;have e:(if h.all okS=Gc then kL h else F2)=FM z:=C;split at e
  .rename_i y;obtain⟨a,us,rfl,q,r⟩:=rC hd;cases M;obtain⟨o,n,t,l,S⟩:=q.setV I r;obtain⟨N,bG⟩:=S.lens;have wp:=TT.GS X.w a n o;obtain⟨z',v,T⟩:=zV wp S.par;obtain⟨c,B,rfl⟩:=nr hv T _ rfl;have J:RepL X.K H O (c.map (·.1)) (c.map (·.2)):=RepL.ofZip λp V=>S.rep p (B.mem_iff.mp V)
   have vv:Vals (c.map (·.2)) ((TT.oS X.w a n o).toList.map (·.2)):=by
    clear T B J wp;generalize (TT.oS X.w a n o).toList=m at v;revert v;generalize f:c.map hv=zz;intro v
    induction v generalizing c with
    |nil=>
      have:c=[]:=by simpa using f
      subst this;exact .nil
    |cons r t ih=>
     cases c with
     |nil=>simp at f
     |cons p c=>simp only[jx,db] at f;rw[jx,jx];refine .cons ?_<|ih c f.2;have:=r.2;rw[<-f.1] at this;exact this
   have i:(c.map (·.1)).Perm h:=(B.map (·.1)).trans S.perm
   have U:kL (c.map (·.1))=FM z:=by unfold kL at e ⊢;obtain⟨⟨h1,F⟩,rfl⟩:=jh e;rw[iF ⟨FP i h1,by rw[i.length_eq];exact F⟩,Nm i λx W=>uQ<|lG.mp y x<|i.mem_iff.mp W]
   have R:X.A.handled=F2:=I.ok.hd hc
   have f:o.size<=sizeLine:=by unfold kL at e;rw[N];exact(jh e).1.2
   exact vw L I J vv U G λQ' E' A' Y P=>TT.Tn (by rw[Y];exact R) S.is f λD Z k=>P D Z k
  .cases e
 .have e:g1 pF [d]=FM z:=by
   have:uY d=pF d:=by
    unfold uY;split
    .exact absurd ⟨_,rfl⟩ E
    .rfl
   show pF d=FM z;rw[<-this];exact C
  exact tL L g s σ H [x] [u] Q I (.cons M .nil) ⟨O,[d],z,np,rfl,(λj d' v' a b=>by
   cases j with
   |zero=>simp at a b;subst a;subst b;exact hd
   |succ j=>simp at a),e,G⟩
end
noncomputable def uX:D->Option Key
 | .int i=>Y<|.inl i
 | .str x=>Y<|.inr x
 |_=>J
noncomputable def CB:List D->Option (List Key)
 |[]=>Y []
 |d::l=>(uX d).bind λk=>(CB l).map (k:: ·)
noncomputable def An:D->Option (List Key)
 | .tup l=>CB l
 |_=>J
def pM(h:uX d=Y k):d=ke k:=by
 cases d<;>simp[uX] at h<;>subst h<;>rfl
def Pk: ∀{l:List D} {a:List Key},CB l=Y a->l=a.map ke:=by
 intro e
 induction e with
 |nil=>intro a h;cases h;rfl
 |cons d l c=>intro a h;rw[CB] at h;obtain⟨k,h1,h⟩:=hJ h;obtain⟨m,b,rfl⟩:=jB h;rw[pM h1,c b];rfl
def uW(h:An d=Y a):d= .tup (a.map ke):=by
 cases d with
 |tup l=>rw[Pk (show CB l=Y a from h)]
 |_=>cases h
def yx(a b:Key):D.eqb (ke a) (ke b)=decide (a=b):=by
 cases a with
 |inl i=>cases b with
  |inl j=>simp only[ke,D.eqb,Ph]
  |inr y=>simp only[ke,D.eqb,Pg]
 |inr x=>cases b with
  |inl j=>simp only[ke,D.eqb,Pf]
  |inr y=>simp only[ke,D.eqb,Pe];rfl
theorem vL: ∀a b:List Key,D.eqbL (a.map ke) (b.map ke)=decide (a=b)
 |[],[]=>by simp[D.eqbL]
 |[],_::_=>by simp[D.eqbL]
 |_::_,[]=>by simp[D.eqbL]
 |x::a,y::b=>by simp only[jx];rw[D.eqbL,yx,vL a b];simp only[db,l9]
def lE:List D->List D->D->Option D
 |a::b,v::c,k=>if D.eqb a k=U then Y v else lE b c k
 |_,_,_=>J
def uO:List D->List D->D->D->List D
 |b::c,v::a,k,w=>(if D.eqb b k=U then w else v)::uO c a k w
 |_,a,_,_=>a
def vQ(a b:List D)(k w:D):List D×List D:=if a.any (D.eqb · k)=U then(a,uO a b k w) else(a++[k],b++[w])
noncomputable def rQ(a:List D)(k:D):Bool:=((uX k).isSome&&a.all λx=>(uX x).isSome)||((An k).isSome&&a.all λx=>(An x).isSome)
section
variable {K:iM}{H:Hp}{O:AP'}
def FW(h:Rep K H O (ke k) v):v=kV k:=by
 cases k with
 |inl i=>exact Rep.int h
 |inr x=>exact Rep.str h
def KZ: ∀{b:List Key} {a:List V},RepL K H O (b.map ke) a->a=b.map kV:=by
 intro e
 induction e with
 |nil=>intro a h;rw[nj,RepL] at h;exact h
 |cons k b d=>intro a h;rw[jx,RepL] at h;obtain⟨v,r,rfl,h1,c⟩:=h;rw[FW h1,d c];rfl
def rE(hk:uX d=Y k)(h:kj K H O d v):v=kV k:=by
 rw[pM hk] at h;rcases h with h|⟨a,rfl,h⟩
 .exact FW h
 .cases k<;>exact h.elim
def pK(hk:An d=Y c)(h:kj K H O d v): ∃b,v= .ref b/\H b=Y (.tup<|c.map kV):=by
 rw[uW hk] at h;rcases h with h|⟨a,rfl,h⟩
 .obtain⟨b,xs,rfl,q,r⟩:=h.tup;rw[KZ r] at q;exact⟨b,rfl,q.1⟩
 .exact h.elim
theorem Iz{k:Key}: ∀{a:List (Key×V)} {b:List D},RepL K H O b (a.map (·.2))->(∀d,lE (a.map λp=>ke p.1) b (ke k)=Y d-> ∃v,ud a k=Y v/\Rep K H O d v)/\(lE (a.map λp=>ke p.1) b (ke k)=J->ud a k=J)
 |[],b,_=>⟨λd h=>by cases b<;>simp[lE] at h,λ_=>rfl⟩
 |(c,v)::a,[],h=>by rw[jx,RepL] at h;cases h
 |(c,v)::a,m::b,h=>by
  rw[jx,RepL] at h;obtain⟨w,r,e,h1,f⟩:=h;obtain⟨rfl,rfl⟩:=sh e;obtain⟨j,l⟩:=Iz (k:=k) f;simp only[jx,lE,yx];by_cases hk:c=k
  .simp only[hk,yL,kr];exact⟨λd h=>by cases h;exact⟨v,uD (p:=(k,v)) I,h1⟩,λh=>by cases h⟩
  .simp only[hk,decide_false,jF,kb];refine⟨λd h=>?_,λh=>?_⟩
   .obtain⟨u,g,i⟩:=j d h;exact⟨u,by rw[pX (p:=(c,v)) hk];exact g,i⟩
   .rw[pX (p:=(c,v)) hk];exact l h
theorem Iy{k:List Key}: ∀{a:List (List Key×V)} {b:List D},RepL K H O b (a.map (·.2))->(∀d,lE (a.map λp=> .tup (p.1.map ke)) b (.tup<|k.map ke)=Y d-> ∃v,ud a k=Y v/\Rep K H O d v)/\(lE (a.map λp=> .tup (p.1.map ke)) b (.tup<|k.map ke)=J->ud a k=J)
 |[],b,_=>⟨λd h=>by cases b<;>simp[lE] at h,λ_=>rfl⟩
 |(c,v)::a,[],h=>by rw[jx,RepL] at h;cases h
 |(c,v)::a,m::b,h=>by
  rw[jx,RepL] at h;obtain⟨w,r,e,h1,f⟩:=h;obtain⟨rfl,rfl⟩:=sh e;obtain⟨j,l⟩:=Iy (k:=k) f;simp only[jx,lE,D.eqb,vL];by_cases hk:c=k
  .simp only[hk,yL,kr];exact⟨λd h=>by cases h;exact⟨v,uD (p:=(k,v)) I,h1⟩,λh=>by cases h⟩
  .simp only[hk,decide_false,jF,kb];refine⟨λd h=>?_,λh=>?_⟩
   .obtain⟨u,g,i⟩:=j d h;exact⟨u,by rw[pX (p:=(c,v)) hk];exact g,i⟩
   .rw[pX (p:=(c,v)) hk];exact l h
end
section
variable {P:iU}{w:iK}{H H':Hp}{h:iO}{a:hV}
def Uq(x:ObjOk P w H h a (.dT [])):ObjOk P w H' h a (.dK []):=by
 obtain⟨z,y,k,r,o,b,c,h1,d,f,g,j⟩:=x;cases r
 have:b= #[]:=by
  have:b.toList=[]:=by simpa using g
  exact WK.mp this
 subst this;refine⟨z,y,[],.nil,o,#[],c,h1,d,f,?_,?_,lX⟩
 .first|exact λe i=>by simp at i|(intro;simp)
 .first|exact .nil|trivial|simp[Pairs]
def Ur(x:ObjOk P w H h a (.dK [])):ObjOk P w H' h a (.dT []):=by
 obtain⟨z,y,n,r,o,c,d,h1,f,g,k,b,m⟩:=x;cases r
 have:c= #[]:=by
  have j:(Ix c.toList)=0:=by
   first
    |simpa using (Ix b)
    |simpa using(AW b)
    |(
      cases i:c.toList with
      |nil=>rfl
      |cons e l=>rw[i] at b;cases b)
  exact WK.mp<|MU.mp j
 subst this;exact⟨z,y,[],.nil,o,#[],d,h1,f,g,rfl,lX⟩
end
section
variable {X:Cx}{f:ji}{g:L2.St}{H:Hp}{s:il}
def LG{A:iP}{E:jf}(T:Inv X f g H s){H':Hp}{a:hV}{k:Key}{u:iC}{Q:jf}(x:ObjOk X.prog X.w H' s.heap a (.dK []))(d:RelV (kV k) u)(b:Bool)(h: ∀e,Inv X f g H e->Q (.bool b) e):
  ae (ag X.prog X.w) A (ap (if b=U then .NotIn else .In) u<|.ref a) Q E s:=by
 obtain⟨z,hd,i,c,dd⟩:=x;cases c
 cases b with
 |false=>exact B2 (BC d) hd dd.mapOf<|h _ (T.tok _)
 |true=>exact ul (BC d) hd dd.mapOf<|h _ (T.tok _)
def LF{A:iP}{E:jf}(e:A.units+1<aX)(T:Inv X f g H s){H':Hp}{a b:hV}{k:List Key}{Q:jf}(x:ObjOk X.prog X.w H' s.heap a (.dT []))(d:H b=Y (.tup<|k.map kV))(c:Bool)(h: ∀i,Inv X f g H i->Q (.bool c) i):
  ae (ag X.prog X.w) A (ap (if c=U then .NotIn else .In) (.ref b)<|.ref a) Q E s:=by
 obtain⟨z,hd,u,r,o,l,j,h1,m,n,p,q⟩:=x;cases r;have dd:s.heap.DictOfH (cE<|kR X.prog X.w) a []:=⟨o,l,j,h1,m,n,p,(λx (t:x∈[])=>by simp at t),q⟩
 cases c with
 |false=>exact wn (yV e) (sZ T.hok d) hd dd<|h _ (T.tok _)
 |true=>exact rc (yV e) (sZ T.hok d) hd dd<|h _ (T.tok _)
def rP(h:rQ d k=U):(∃e,uX k=Y e/\ ∀x∈d,∃c,uX x=Y c)\/(∃i,An k=Y i/\ ∀x∈d,∃c,An x=Y c):=by
 unfold rQ at h;rw[yQ,kJ,kJ,lG,lG] at h;rcases h with⟨h1,a⟩|⟨h1,a⟩
 .exact .inl ⟨_,(Mb.mp h1).choose_spec,λx b=>Mb.mp<|a x b⟩
 .exact .inr ⟨_,(Mb.mp h1).choose_spec,λx b=>Mb.mp<|a x b⟩
def Et{a:List Key}{c:Key}(h:uX (.tup<|a.map ke)=Y c):False:=by cases h
def Bz(h:An (ke k)=Y c):False:=by cases k<;>cases h
def Yk(z:A.units+1<aX)(I:Inv X f g H s)(q:OthB X.K (H a) .dct ks n us)(r:RepL X.K H O n us)(hk:rQ ks k=Gc)(T:kj X.K H O k y)(o:RelV y u)(l:Bool)
  (h: ∀j,Inv X f g H j->Q (.bool<|xor l (lE ks n k).isSome) j):ae (ag X.prog X.w) A (ap (if l=Gc then .NotIn else .In) u<|.ref a) Q E s:=by
 have nil: ∀n:List D,lE [] n k=F2:=λn=>by cases n<;>rfl
 rcases q with⟨i,e,rfl,rfl⟩|⟨i,e,rfl,rfl⟩
 .rcases rP hk with⟨B,h1,_⟩|⟨C',h1,M⟩
  .have:=rE h1 T;subst this;have G:=pM h1;subst G;obtain⟨F,P⟩:=Iz (k:=B) r
   have Y:(ud i B).isSome=(lE (i.map λp=>ke p.1) n<|ke B).isSome:=by
    cases x:lE (i.map λp=>ke p.1) n (ke B) with
    |none=>rw[P x];rfl
    |some d=>obtain⟨v,N,_⟩:=F d x;rw[N];rfl
   rw[<-Y] at h
   cases l with
   |false=>exact Yl z I (DGet.k e) o λj m=>by simpa using h j m
   |true=>exact Km z I (DGet.k e) o λj m=>by simpa using h j m
  .have J:i=[]:=by
    cases i with
    |nil=>rfl
    |cons p i=>obtain⟨c,U⟩:=M (ke p.1) (by simp);exact(Bz U).elim
   subst J;obtain⟨b,rfl,L⟩:=pK h1 T;cases o;rw[nj,nil] at h;exact LF z I (Ur (H':=H)<|I.hok a _ e) L l λj m=>by simpa using h j m
 .rcases rP hk with⟨B,h1,M⟩|⟨C',h1,_⟩
  .have J:i=[]:=by
    cases i with
    |nil=>rfl
    |cons p i=>obtain⟨c,U⟩:=M (.tup<|p.1.map ke) (by simp);exact(Et U).elim
   subst J;have:=rE h1 T;subst this;rw[nj,nil] at h;exact LG I (Uq (H':=H)<|I.hok a _ e) o l λj m=>by simpa using h j m
  .obtain⟨b,rfl,L⟩:=pK h1 T;have G:=uW h1;subst G;obtain⟨F,P⟩:=Iy (k:=C') r
   have Y:(ud i C').isSome=(lE (i.map λp=> .tup (p.1.map ke)) n<|.tup<|C'.map ke).isSome:=by
    cases x:lE (i.map λp=> .tup (p.1.map ke)) n (.tup<|C'.map ke) with
    |none=>rw[P x];rfl
    |some d=>obtain⟨v,N,_⟩:=F d x;rw[N];rfl
   rw[<-Y] at h
   cases l with
   |false=>exact Yl z I (DGet.t e L) o λj m=>by simpa using h j m
   |true=>exact Km z I (DGet.t e L) o λj m=>by simpa using h j m
def Wn(G:A.units+1<aX)(I:Inv X f g H s)(q:OthB X.K (H a) .dct J' m us)(r:RepL X.K H O m us)(hk:rQ J' k=U)(j:lE J' m k=FM d)(N:kj X.K H O k y)(M:RelV y u) 
  (h: ∀v w l,Inv X f g H l->Rep X.K H O d v->RelV v w->Q w l):ae (ag X.prog X.w) A (c0 (.ref a) u) Q E s:=by
 have nil: ∀m:List D,lE [] m k=J:=λm=>by cases m<;>rfl
 rcases q with⟨i,e,rfl,rfl⟩|⟨i,e,rfl,rfl⟩
 .rcases rP hk with⟨T,h1,_⟩|⟨U',h1,x⟩
  .have:=rE h1 N;subst this;have o:=pM h1;subst o;obtain⟨v,z,B⟩:=(Iz (k:=T) r).1 d j;refine Du G I (v:=v) (y:=kV T) ?_ M λw l n L=>h v w l n B L;rw[<-z];exact DGet.k e
  .cases i with
   |nil=>rw[nj,nil] at j;cases j
   |cons p i=>obtain⟨c,C⟩:=x (ke p.1) (by simp);exact(Bz C).elim
 .rcases rP hk with⟨T,h1,x⟩|⟨U',h1,_⟩
  .cases i with
   |nil=>rw[nj,nil] at j;cases j
   |cons p i=>obtain⟨c,C⟩:=x (.tup<|p.1.map ke) (by simp);exact(Et C).elim
  .obtain⟨b,rfl,Y⟩:=pK h1 N;have o:=uW h1;subst o;obtain⟨v,z,B⟩:=(Iy (k:=U') r).1 d j;refine Du G I (v:=v) (y:= .ref b) ?_ M λw l n L=>h v w l n B L;rw[<-z];exact DGet.t e Y
end
def Gy(d k:D):Option (D×Bool):=match d with
 | .oth .dct a b=>if rQ a k=U then(lE a b k).map λv=>(v,C) else J
 |_=>gIx d k
def V6(d e:D):Option Bool:=match e with
 | .oth .dct a b=>if rQ a d=U then Y (lE a b d).isSome else J
 |_=>inX d e
def qD(d e:D):Option (D×Bool):=(V6 d e).map λb=>(.bl (!b),C)
section
variable {X:Cx}
def Il(p:X.A.units+62<aX):OpR X (ap .NotIn) (rD X.K qD):=by
 intro c s t T x y v u Q N l m h;obtain⟨O,d,e,z,np,h1,j,g,G⟩:=h;by_cases k: ∃f i,e= .oth .dct f i
 .obtain⟨f,i,rfl⟩:=k;obtain⟨b,o,rfl⟩:=jB g;obtain⟨hk,rfl⟩:=jh (show(if rQ f d=U then Y (lE f i d).isSome else J)=Y b from o);obtain⟨a,B,rfl,q,r⟩:=rC j;cases m;exact Yk (by lia) N q r hk h1 l U λw n=>⟨.bl _,T,n,by simp[L2.RelV],G.bl⟩
 .have:qD d e=Fc d e:=by
   unfold qD V6 Fc;split
   .exact absurd ⟨_,_,rfl⟩ k
   .rfl
  rw[this] at g;exact Ik p c s t T x y v u Q N l m ⟨O,d,e,z,np,h1,j,g,G⟩
def XO(L:X.A.units+1<aX):IxR X (rD X.K Gy):=by
 intro b slice c s B H x y v u Q I o p h n;obtain⟨O,d,e,z,np,h1,l,i,G⟩:=h;by_cases hd: ∃g k,d= .oth .dct g k
 .obtain⟨g,k,rfl⟩:=hd;have j:(if rQ g e=Gc then(lE g k e).map λv=>(v,Go) else F2)=Y z:=i;split at j
  case isFalse=>cases j
  rename_i hk;obtain⟨w,T,rfl⟩:=jB j;obtain⟨a,N,rfl,q,r⟩:=rC h1;cases o;have m:s.TypeIs (.ref a) "dict":=Ij I q;unfold eT;refine hU ?_;rw[getitemInPython_of_ne m.not_modules];refine hU<|uw m PySem.F.slot_dict_getitem.lookup ?_
  have fin:ae (ag X.prog X.w) X.A (kl slice Go (.ref a) u) (λr f=>ae (ag X.prog X.w) X.A (letTemporaryGo b (.ref a) r>>=λ_=>pure r) (EP X c B Q) X.xe f) X.xe s:=by rw[n];exact wpAny_operating<|Wn L I q r hk T l p λt U M C E J=>hU<|wpAny_letTemporaryGo<|iq ⟨t,H,C,J,G t H (λ_ _ e=>e) E⟩
  first
   |exact iq<|hU fin
   |exact hU<|iq<|hU fin
   |exact hU fin
 .have:Gy d e=gIx d e:=by
   unfold Gy;split
   .exact absurd ⟨_,_,rfl⟩ hd
   .rfl
  rw[this] at i;exact Ul b slice c s B H x y v u Q I o p ⟨O,d,e,z,np,h1,l,i,G⟩ n
def Vf(h:X.A.units+1<aX)(e:PO X a c)(f:PO X b d)(g:yJ b):PX X (.Subscript a b pos) (ie Gy c d):=px2<|Uc (XO h) e f g
noncomputable def BM:F:=λδ=>Y ((.oth .dct [] [],U),δ)
def Ry{a:bC}:PX X (.Dict [] [] a) BM:=PX.imp Oh λh O Q c=>by obtain⟨g,T,f,d,E,e,k⟩:=c;cases e;intro p b;have B:=Ops.nil E;exact(B.done k) p _ b (lS b) ⟨[],.inl ⟨[],jm,rfl,rfl⟩,RepL.nil⟩
end
section
variable {K:iM}{T:AP'}{d:L2.St}{c:Dn}{H:Hp}{i:Nat}{g d':D}{a:hV}{o:HO}
def OwnI.writeG{j:Nat}{b:hV}(hd:c[i]?=Y (Y (g,U)))(h:OwnI d (c.set i<|Y (d',U)) j b):OwnI d c j b:=by
 obtain⟨e,h1,f⟩:=h;rcases mx h1 with⟨rfl,_,_⟩|⟨_,q⟩
 .exact⟨_,hd,f⟩
 .exact⟨e,q,f⟩
def ER.writeG(E:ER K H T d c)(hd:c[i]?=Y (Y (g,U)))(p:d[i]?=Y (Y<|.ref a))(r:OwnOk K (upd H a o) (λb=>OwnA d c b\/T b) d' a):
  ER K (upd H a o) T d (c.set i<|Y (d',U))/\Keep d c H (c.set i<|Y (d',U)) (upd H a o):=by
 have M:i<(Ix c):=(xN.mp hd).1;have s:OwnA d c a:=⟨i,_,hd,p⟩
 have y: ∀b,OwnA d (c.set i<|Y (d',U)) b->OwnA d c b:=λb a'=>by
  obtain⟨j,e,h1,m⟩:=a'
  obtain⟨I,t,v⟩:=OwnI.writeG hd ⟨e,h1,m⟩;exact⟨j,I,t,v⟩
 have B: ∀b u,H b=Y u-> ¬(OwnA d c b\/T b)->upd H a o b=Y u:=λb u e n=>by rw[jk<|by intro z;subst z;exact n<|.inl s];exact e
 have N: ∀b,H b≠F2->upd H a o b≠F2:=λb z=>by
  by_cases A:b=a
  .subst A;rw[jm];simp
  .rw[jk A];exact z
 have sub: ∀b,(OwnA d (c.set i<|Y (d',U)) b\/T b)->OwnA d c b\/T b:=λb z=>z.imp (y b) id;refine⟨⟨by rw[sD];exact E.len,λj e h=>?_,λj e h=>?_,λj k e f b h hk h1 m=>?_,λb z=>E.nT b<|y b z,λb z=>by have ne:b≠a:=λe=>E.nT a s<|e▸z;rw[jk ne];exact E.dom b z⟩,⟨λb u e n=>by rw[jk<|by intro z;subst z;exact n s];exact e,λj b z=>OwnI.writeG hd z,N⟩⟩
 .rcases mx h with⟨_,_,q⟩|⟨_,q⟩
  .cases q
  .obtain⟨w,l,x⟩:=E.val j e q;exact⟨w,l,Rep.mono B (λb _ z=>sub b z) x⟩
 .rcases mx h with⟨rfl,_,q⟩|⟨ne,q⟩
  .cases q;exact⟨a,p,r.mono (λ_ _ e _=>e) (λb _ z=>sub b z) λ_ e=>e⟩
  .obtain⟨b,l,x⟩:=E.own j e q;refine⟨b,l,x.mono B (λb _ z=>sub b z) λu Q=>?_⟩;rw[jk]
   .exact Q
   .intro z;subst z;exact ne<|E.inj i j _ _ _ hd q p l
 .obtain⟨L,t,v⟩:=OwnI.writeG hd ⟨e,h,h1⟩;obtain⟨O,G,J⟩:=OwnI.writeG hd ⟨f,hk,m⟩;exact E.inj j k L O b t G v J
end
section
variable {X:Cx}{c:ji}{d:L2.St}{H:Hp}{s:il}{a:hV}
def UU(T:Inv X c d H s)(e:H a=Y (.dT [])):Inv X c d (upd H a<|.dK []) s:=by have:=Az (t':=s.toks) (h':=s.heap) T (by rw[e];exact bV) (Eh a s.heap) (by obtain⟨z,y,g,r,o,f,b,h1,_⟩:=(show ObjOk X.prog X.w H s.heap a (.dT []) from T.hok a _ e);exact⟨o,h1⟩)<|Uq (H':=upd H a<|.dK [])<|T.hok a _ e;exact this
def UT(T:Inv X c d H s)(e:H a=Y (.dK [])):Inv X c d (upd H a<|.dT []) s:=by have:=Az (t':=s.toks) (h':=s.heap) T (by rw[e];exact bV) (Eh a s.heap) (by obtain⟨z,y,g,r,o,f,b,h1,_⟩:=(show ObjOk X.prog X.w H s.heap a (.dK []) from T.hok a _ e);exact⟨o,h1⟩)<|Ur (H':=upd H a<|.dT [])<|T.hok a _ e;exact this
def Xh:TK:=λo i v H Q=> ∃a,o= .ref a/\((∃e,DPut H a i v e/\Q e)\/(∃f,H a=Y (.dT [])/\i=kV f/\Q (upd H a<|.dK [(f,v)]))\/
 (∃g b,H a=Y (.dK [])/\i= .ref b/\H b=Y (.tup<|g.map kV)/\Q (upd H a<|.dT [(g,v)])))
def Nt(j:X.A.units+1<aX):WB X Xh:=by
 intro c s d H o i v E O u Q T x l m h;obtain⟨a,rfl,h⟩:=h;cases x;rcases h with⟨r,g,q⟩|⟨y,e,rfl,q⟩|⟨B,b,e,rfl,n,q⟩
 .exact zL j T g l m λp f=>⟨r,f,q⟩
 .refine zL j (UU T e) (DPut.k (k:=y) (v:=v) jm<|by rw[jI];decide) l m λp f=>⟨_,f,?_⟩
  rw[Jx];exact q
 .have w:b≠a:=Uh n e (λz=>nomatch z);refine zL j (UT T e) (DPut.t (k:=B) (v:=v) (b:=b) jm (by rw[jk w];exact n)<|by rw[jI];decide) l m λp f=>⟨_,f,?_⟩
  rw[Jx];exact q
end
section
variable {K:iM}{H:Hp}{O:AP'}
theorem Nx{k:Key}{w:D}{v:V}(d:Rep K H O w v): ∀{a:List (Key×V)} {b:List D},RepL K H O b (a.map (·.2))->RepL K H O (uO (a.map λp=>ke p.1) b (ke k) w) ((a.map λc=>if c.1=k then(c.1,v) else c).map (·.2))
 |[],b,h=>by cases b<;>simpa[uO] using h
 |(f,u)::a,[],h=>by rw[jx,RepL] at h;cases h
 |(f,u)::a,i::b,h=>by
  rw[jx,RepL] at h;obtain⟨x,r,e,h1,g⟩:=h;obtain⟨rfl,rfl⟩:=sh e;simp only[jx,uO,yx];refine RepL.cons ?_<|Nx d g;by_cases hk:f=k
  .simp only[hk,yL,kr];exact d
  .simp only[hk,decide_false,jF,kb];exact h1
theorem Nw{k:List Key}{w:D}{v:V}(d:Rep K H O w v): ∀{a:List (List Key×V)} {b:List D},RepL K H O b (a.map (·.2))->RepL K H O (uO (a.map λp=> .tup (p.1.map ke)) b (.tup<|k.map ke) w) ((a.map λc=>if c.1=k then(c.1,v) else c).map (·.2))
 |[],b,h=>by cases b<;>simpa[uO] using h
 |(f,u)::a,[],h=>by rw[jx,RepL] at h;cases h
 |(f,u)::a,i::b,h=>by
  rw[jx,RepL] at h;obtain⟨x,r,e,h1,g⟩:=h;obtain⟨rfl,rfl⟩:=sh e;simp only[jx,uO,D.eqb,vL];refine RepL.cons ?_<|Nw d g;by_cases hk:f=k
  .simp only[hk,yL,kr];exact d
  .simp only[hk,decide_false,jF,kb];exact h1
def T8(a:Rep K H O w v)(h:RepL K H O b (kvs.map (·.2))):
  (vQ (kvs.map λp=>ke p.1) b (ke k) w).1=(ue kvs k v).map (λp=>ke p.1)/\RepL K H O (vQ (kvs.map λp=>ke p.1) b (ke k) w).2 ((ue kvs k v).map (·.2)):=by
 have c:(kvs.map λp=>ke p.1).any (D.eqb · (ke k))=kvs.any λd=>decide (d.1=k):=by rw[yU];congr 1;funext p;exact yx _ _
 unfold vQ ue;rw[c];split
 .refine⟨?_,Nx a h⟩;rw[jZ];apply ph;intro p _;simp only[bc];split<;>rfl
 .exact⟨by simp,by rw[pR];exact h.append<|RepL.one a⟩
def T7{k:List Key}{w:D}{v:V}(b:Rep K H O w v){kvs:List (List Key×V)}{a:List D}(h:RepL K H O a (kvs.map (·.2))):
  (vQ (kvs.map λp=> .tup (p.1.map ke)) a (.tup<|k.map ke) w).1=(ue kvs k v).map (λp=> .tup (p.1.map ke))/\RepL K H O (vQ (kvs.map λp=> .tup (p.1.map ke)) a (.tup<|k.map ke) w).2 ((ue kvs k v).map (·.2)):=by
 have c:(kvs.map λp=>D.tup<|p.1.map ke).any (D.eqb · (.tup<|k.map ke))=kvs.any λd=>decide (d.1=k):=by rw[yU];congr 1;funext p;simp only[bc,D.eqb,vL]
 unfold vQ ue;rw[c];split
 .refine⟨?_,Nw b h⟩;rw[jZ];apply ph;intro p _;simp only[bc];split<;>rfl
 .exact⟨by simp,by rw[pR];exact h.append<|RepL.one b⟩
end
def FV(i:Nat)(f:F)(g:FO):FS:=λc=>(f c).bind λp=>match p.2[i]? with
 |some (Y _)=>(g p.2).bind λq=>match res q.2 q.1,q.2[i]? with
  |some k,Y (Y (.oth .dct a b,U))=>if rQ a k=U/\(Ix a)<10000 then Y (.nx<|q.2.set i<|Y (.oth .dct (vQ a b k p.1.1).1 (vQ a b k p.1.1).2,U)) else J
  |_,_=>J
 |_=>J
section
variable {X:Cx}{e d:iA}{f:F}{l:FO}{h g m s:bC}{i:Nat}{x:aW}{A L:kg}{q:Hp}
def NO{Q:bC}(hu:X.A.units+1<aX)(hv:PO X (.Name x g) (gZ i))(he:PX X e f)(hi:PO X d l)
  (ha: ∀v,bW (.Subscript (.Name x g) d Q) X.env v=(do
   let ov <-bo [v] (aM (.Name x g) X.env)
   let iv <-bo [v,ov] (aM d X.env)
   cq Q
   bo [v,ov,iv] (fk ov iv v)
   gJ [v,ov,iv] []))
  (hs:cw [.Subscript (.Name x g) d Q] e h.line X.env=pure Go)(hw:cx [.Subscript (.Name x g) d Q] e X.env=pure F2)
  (h1:(aU [.Subscript (.Name x g) d Q] X.env).map (·.2)=[bW (.Subscript (.Name x g) d Q) X.env]):
  PSX X A L q (.Assign [.Subscript (.Name x g) d Q] e h) (FV i f l):=PS.imp' (HZ he (Ob hv hi (Nt hu) ha) hs hw h1) λD U H hw=>by
 obtain⟨δ,T,out,E,fi,e,k⟩:=hw;obtain⟨⟨r,w⟩,h1,e⟩:=hJ e;dsimp only at e;split at e
 case h_2=>cases e
 rename_i y0 h0;obtain⟨⟨o,y⟩,h2,e⟩:=hJ e;dsimp only at e;split at e
 .rename_i S V W hk h3;obtain⟨⟨R,C⟩,e⟩:=jh e;cases e;refine⟨δ,T,r,w,E,h1,λv H1 Y=>⟨w,Tmp T r v,.slot i,w,Y.er E,by unfold gZ;rw[h0],λv2 H2 P=>⟨w,Tmp T r v,o,y,P.er<|Y.er E,h2,λv3 F P3=>?_⟩⟩⟩;have gR:PostO X.K T U δ H (.val r) w v H1:=Y;have B:=Ops.cons E gR<|Ops.cons (Y.er E) P<|Ops.cons (P.er<|Y.er E) P3<|Ops.nil<|P3.er<|P.er<|Y.er E;have E3:ER X.K F T U y:=B.er.mono (λ_ _ e _=>e) (λb _ z=>B.tt b z) λa z=>B.er.dom a<|B.tt a z;have J:U[i]?=FM (FM v2):=P.2.2;obtain⟨a,q1,us,q2,q3⟩:=E3.own i _ h3;rw[J] at q1;cases q1;have vk:=B.view (j:=2) H8 H8 hk;have rv:=B.rep E (j:=0) (r:=r) H8 H8;have oa:OwnA U y a:=⟨i,_,h3,J⟩
  have kp: ∀(I:HO) b u,F b=FM u-> ¬(OwnA U y b\/T b)->upd F a I b=FM u:=λI b u e n=>by rw[jk<|by intro z;subst z;exact n<|.inl oa];exact e
  have ks10:10000<sizeLine:=by rw[jI];decide
  have fin: ∀I Z,OthB X.K (FM I) .dct (vQ V W S r.1).1 (vQ V W S r.1).2 Z->RepL X.K F (λa=>OwnA U y a\/T a) (vQ V W S r.1).2 Z->D.nx U (upd F a I):=λI Z g1 g2=>by obtain⟨E4,K4⟩:=E3.writeG (o:=I) (d':= .oth .dct (vQ V W S r.1).1 (vQ V W S r.1).2) h3 J ⟨Z,by rw[jm];exact g1,RepL.mono (kp I) (λ_ _ z=>z) g2⟩;exact k _ _ (B.keep.trans K4).sk E4
  refine⟨a,rfl,?_⟩;rcases q2 with⟨kvs,eH,rfl,rfl⟩|⟨kvs,eH,rfl,rfl⟩
  .rw[jz] at C;rcases rP R with⟨κ,g1,_⟩|⟨τ,g1,g2⟩
   .have G:=rE g1 vk;have O:=pM g1;subst O;obtain⟨M,N⟩:=T8 (k:=κ) rv q3;refine .inl ⟨_,by rw[G];exact DPut.k eH<|by lia,fin _ _ (.inl ⟨_,rfl,M,rfl⟩) N⟩
   .have cJ:kvs=[]:=by
     cases kvs with
     |nil=>rfl
     |cons p kvs=>obtain⟨c,hc⟩:=g2 (ke p.1) (by simp);exact(Bz hc).elim
    subst cJ;obtain⟨b,G,eb⟩:=pK g1 vk;have O:=uW g1;subst O;obtain⟨M,N⟩:=T7 (k:=τ) (kvs:=[]) rv q3;exact .inr<|.inr ⟨τ,b,eH,G,eb,fin _ _ (.inr ⟨[(τ,v)],rfl,M,rfl⟩) N⟩
  .rw[jz] at C;rcases rP R with⟨κ,g1,g2⟩|⟨τ,g1,_⟩
   .have cJ:kvs=[]:=by
     cases kvs with
     |nil=>rfl
     |cons p kvs=>obtain⟨c,hc⟩:=g2 (.tup<|p.1.map ke) (by simp);exact(Et hc).elim
    subst cJ;have G:=rE g1 vk;have O:=pM g1;subst O;obtain⟨M,N⟩:=T8 (k:=κ) (kvs:=[]) rv q3;exact .inr<|.inl ⟨κ,eH,G,fin _ _ (.inl ⟨[(κ,v)],rfl,M,rfl⟩) N⟩
   .obtain⟨b,G,eb⟩:=pK g1 vk;have O:=uW g1;subst O;obtain⟨M,N⟩:=T7 (k:=τ) rv q3;refine .inl ⟨_,by rw[G];exact DPut.t eH eb<|by lia,fin _ _ (.inr ⟨_,rfl,M,rfl⟩) N⟩
 .cases e
end
def lz(d:D):Option (D×Bool):=match d with
 | .oth .dct a b=>if(a.all λk=>(uX k).isSome)=U/\a≠[] then kL a else J
 |_=>uY d
section
variable {X:Cx}
def KC{P:iU}{w:iK}{e:List eG}{f:List (Key×iC)}{a:List (Key×V)}(h:Pairs (kR P w) e f)(q:KV a f):Vals (a.map λp=>kV p.1) (e.map (·.key)):=by
 induction h generalizing a with
 |nil=>cases q;exact .nil
 |cons h1 j t g=>
  obtain _|⟨r,q⟩:=q;refine .cons ?_<|g q;dsimp only;rw[r.1];rcases kU (show By _ _=U from h1) with⟨i,d,b,c⟩|⟨x,d,b,c⟩
  .rw[b,c];exact⟨d,rfl⟩
  .rw[b,c];exact⟨d,rfl⟩
theorem C3{K:iM}{T:Hp}{O:AP'}: ∀(a:List (Key×V)),RepL K T O (a.map λp=>ke p.1)<|a.map λp=>kV p.1
 |[]=>RepL.nil
 |(k,v)::a=>by
  refine RepL.cons ?_<|C3 a
  cases k with
  |inl i=>exact Rep.mkInt
  |inr x=>exact Rep.mkStr
def Xs{X:Cx}{id:String}{g f:D->Option (D×Bool)}(i:kQ X (.builtin id) (rDn X.K<|g1 f)){c:ji}{s:il}{e:L2.St}{T:Hp}{x:V}{u:iC}{Q:VK}{O:AP'}{d:D}{z:D×Bool}(N:Inv X c e T s)(k:L2.RelV x u)(np: ∀p,¬Ow (T p)-> ¬O p)(hd:kj X.K T O d x)(h:f d=Y z)(G:Gen X.K T O z Q):
  ae (ag X.prog X.w) X.A (call (.builtin id) [u]) (EP X c e Q) X.xe s:=
 i c s e T [x] [u] Q N (.cons k .nil) ⟨O,[d],z,np,rfl,(λj l m a b=>by
   cases j with
   |zero=>simp at a b;subst a;subst b;exact hd
   |succ j=>simp at a),h,G⟩
def tM(j:X.calm=Gc)(n:X.A.units+62<aX):kQ X (.builtin "sorted") (rDn X.K<|g1 lz):=pd λt s σ H x u Q O d z I v np hd l G=>by
 by_cases m: ∃f w,d= .oth .dct f w
 .obtain⟨f,w,rfl⟩:=m;have h:(if(f.all λk=>(uX k).isSome)=Gc/\f≠[] then kL f else F2)=FM z:=l;split at h
  .rename_i c;obtain⟨a,us,rfl,q,r⟩:=rC hd;cases v;rcases q with⟨b,e,rfl,rfl⟩|⟨b,e,rfl,rfl⟩
   .obtain⟨zl,B,D,i,o,V,S,h1,L,T,W,J,Z⟩:=Up I.hok e;have y:=KC J i;have U:=y.length;simp only[jz,kG] at U;have N:X.A.handled=F2:=I.ok.hd j;exact vw n I (C3 (O:=O) b) y h G λR P F C M=>TT.QJ B (by rw[C];exact N) ⟨o,h1,L,T⟩ (by lia) λE Y k=>M E Y k
   .exfalso
    cases b with
    |nil=>exact c.2 H8
    |cons p b=>have:=lG.mp c.1 (.tup<|p.1.map ke) (by simp);simp[uX] at this
  .cases h
 .have:lz d=uY d:=by
   unfold lz;split
   .exact absurd ⟨_,_,rfl⟩ m
   .rfl
  exact Xs (g:=lz) (Fn j n) I v np hd (by rw[<-this];exact l) G
def Rx(a:Gl X x)(b:X.mg x=Y (.int i t))(hd:(x==("__debug__":aW))=C):PX X (.Name x pos) (fC<|.int i):=PX.imp (R3 (v:= .int i) a b ⟨t,rfl⟩ hd) λf O Q h=>by obtain⟨d,T,r,c,E,e,k⟩:=h;cases e;exact k _ _ (Post.val .refl E Rep.mkInt)
noncomputable def EF:FS:=λ_=>J
def K9{A L:kg}{b:Hp}{st:b7}:PSX X A L b st EF:=λa s g Q D O h=>by obtain⟨f,T,c,E,d,e,k⟩:=h;cases e
end
noncomputable def vJ(i:Nat)(f:F):F:=λδ=>match δ[i]? with
 |some (Y (.lst _,U))=>(f δ).bind λp=>match p.1,p.2[i]? with
  |(.lst m,U),Y (Y (.lst l,U))=>if (Ix l)+Ix m<=sizeLine then Y ((.non,C),p.2.set i<|Y (.lst<|l++m,U)) else J
  |_,_=>J
 |_=>J
section
variable {X:Cx}{e:iA}{f:F}{h g c d:bC}{i:Nat}{x:aW}
def K5(hv:PO X (.Name x g) (gZ i))(he:PX X e f)(j9:cy (.Name x g) "extend" X.env (aM (.Name x g) X.env)=aM (.Name x g) X.env)
  (m9:((aJ d<|ac [e] X.env).all (λx=>!x.1)&&(ck d<|bq [] X.env).all (λx=>x.1.isSome)&&decide ([e].length+([]:List cf).length+(if([]:List cf).isEmpty then 0 else 1)<30))=Gc)
  (j8:(c.endLine==d.line)=Gc)(B:ac [e] X.env=(Go,aM e X.env)::ac [] X.env)(Y:(aJ d<|ac [] X.env).any (·.1)=Go):
  PX X (.Call (.Attribute (.Name x g) "extend" c) [e] [] d) (vJ i f):=
 PX.imp (Oj Hf PySem.F.slot_list_extend PySem.F.type_list_extend Lu hv (pB he uP B) j9 m9 j8 B Y) λσ H Q D=>by
 obtain⟨t,T,rr,Z,E,e,k⟩:=D;unfold vJ at e;split at e
 .rename_i l0 w;obtain⟨⟨r,n⟩,h1,e⟩:=hJ e;dsimp only at e;split at e
  .rename_i m l A;obtain⟨R,e⟩:=jh e;obtain⟨rfl,rfl⟩:=sy e;refine⟨t,T,.slot i,t,E,by unfold gZ;rw[w],λv H1 P=>?_⟩;obtain⟨M,o,j⟩:=P;obtain⟨a,g1,U,g2,g3⟩:=o.own i _ w;rw[j] at g1;cases g1;refine⟨.inl ⟨rfl,U,SqL.of g2⟩,t,T,_,n,o,h1,λy J q=>?_⟩;obtain⟨u,ry⟩:=q.rep o;obtain⟨p,rfl,hp,eA,O,S,C⟩:=q.2;obtain⟨a',I,W,V,L⟩:=u.own i _ A;rw[j] at I;cases I;have s:RepL X.K J (λb=>OwnA σ n b\/T b) m O:=RepL.mono (λ_ _ e _=>e) (λb _ z=>z.elim bn λz=>bt<|bn z) C;refine⟨_,p,W,O,rfl,rfl,V,S,by rw[L.length,C.length];exact R,?_⟩;obtain⟨G,N⟩:=u.write A j<|L.append s;exact k _ _ (Post.val ((M.trans q.1).trans N) G Rep.mkNon)
  .cases e
 .cases e
end
structure PXs(X:Cx)(es:kn)(fs:List F):Prop where
 pa:PA X es (tA X.K<|fs.map hG)
section
variable {X:Cx}{e:iA}{a:kn}{f:F}{fs:List F}{b:bC}
def Rq:PXs X [] []:=⟨xZ⟩
def NG(h:PX X e f)(c:PXs X a fs)(d:ac (e::a) X.env=(C,aM e X.env)::ac a X.env):PXs X (e::a) (f::fs):=⟨rK (PX.po h) c.pa d⟩
def Rw(h:PXs X a fs):PX X (.List a b) (lj fs):=Ve h.pa
def Rt{x1}(h:PXs X a fs):PX X (.Tuple a x1 b) (jD fs):=U5 h.pa
def N2{c:FT}(h:PTX X e c):PIf X [e] (tT X.K c):=RW h
def Vl{c:FT}(h:PWX X e c):PTX X e c:=PW.pt h
end
structure QX(X:Cx)(e:iA)(f:F):Prop where
 h:PX X e f
structure QO(X:Cx)(e:iA)(f:FO):Prop where
 h:PX.PO X e f
structure QA(X:Cx)(es:kn)(fs:List FO):Prop where
 h:PA X es (tA X.K fs)
structure QL(X:Cx)(es:kn)(fs:List F):Prop where
 h:PXs X es fs
structure QT(X:Cx)(e:iA)(f:FT):Prop where
 h:PTX X e f
structure QW(X:Cx)(e:iA)(f:FT):Prop where
 h:PWX X e f
structure QG(X:Cx)(A:kg)(e:iA)(t:Tg):Prop where
 h:PGX X A e t
structure QI(X:Cx)(B:SB)(tg e:iA)(f:FIt):Prop where
 h:PIX X B tg e f
structure QF(X:Cx)(es:kn)(f:FT):Prop where
 h:PIf X es (tT X.K f)
structure QB(X:Cx)(A:kg)(d:hV)(e:iA)(n:Nat)(f:FB):Prop where
 h:PB X (jA e n (.ref d) X.env) (tBx Go X.K A d f)
structure QS(X:Cx)(A L:kg)(H0:Hp)(st:b7)(f:FS):Prop where
 h:PSX X A L H0 st f
structure QQ(X:Cx)(A L:kg)(H0:Hp)(st:List b7)(f:FS):Prop where
 h:Fq X A L H0 st f
structure QC(X:Cx)(v:iC)(g:List D->Option (D×Bool)):Prop where
 h:kQ X v (rDn X.K g)
structure QP(X:Cx)(o:zS)(g:D->D->Option (D×Bool)):Prop where
 h:OpR X o (rD X.K g)
abbrev SE(X:Cx)(e:iA)(a:kn):Prop:=ac (e::a) X.env=(C,aM e X.env)::ac a X.env
abbrev BA(X:Cx)(p:bC)(a:kn):Prop:=(aJ p<|ac a X.env).any (·.1)=C
abbrev DB(x:aW):Prop:=(x==("__debug__":aW))=C
abbrev un(A:iP)(n:Nat):Prop:=A.units+n<aX
structure ZZ where
 P:iU
 w:iK
 K:iM
 mg:aW->Option iC
 base:iO
def Oz(Z:ZZ)(k:Nat)(x:aW)(b:jr)(c:EvF):Prop:= ∃f a,FnOk Z.P Z.w Z.K Z.mg Z.base CX0 k f a b (spF Z.K c)/\Z.mg x=Y (.ref f)/\cu Z.K (.ref f)=U/\Binds Z.K a b []
def Oz.up{Z:ZZ}{k j:Nat}{x:aW}{d:jr}{c:EvF}(o:Oz Z k x d c)(h:k<=j:=by decide):Oz Z j x d c:=let⟨f,e,a,b⟩:=o;⟨f,e,a.mono h,b⟩
noncomputable abbrev zX(X:Cx):ZZ:=⟨X.prog,X.w,X.K,X.mg,X.base⟩
noncomputable def btT:List (aW×iC):=[("len",.builtin "len"),("abs",.builtin "abs"),("int",.type "int"),("tuple",.type "tuple"),("list",.type "list"),("bool",.type "bool"),("max",.builtin "max"),("min",.builtin "min"),("all",.builtin "all"),("any",.builtin "any"),("sorted",.builtin "sorted"),("set",.type "set")]
def btA{c:nJ}(T:Tx c): ∀p∈btT,c p.1=J/\aH p.1=Y p.2:=by
 have h: ∀p∈btT,aH p.1=Y p.2:=by decide+kernel
 intro p b;refine⟨?_,h p b⟩;have a:p∈btT:=b;unfold btT at a;simp only[ku,ll,lY] at a;rcases a with rfl|rfl|rfl|rfl|rfl|rfl|rfl|rfl|rfl|rfl|rfl|rfl
 .exact T.n_len
 .exact T.n_abs
 .exact T.n_int
 .exact T.n_tuple
 .exact T.n_list
 .exact T.n_bool
 .exact T.n_max
 .exact T.n_min
 .exact T.n_all
 .exact T.n_any
 .exact T.n_sorted
 .exact T.n_set
theorem IA{z:aW}{v:iC}: ∀{l:List (aW×iC)},l.lookup z=Y v->(z,v)∈l
 |[],h=>by cases h
 |(y,u)::l,h=>by
  rw[qr] at h;split at h
  .rename_i q;cases h;rw[wc q];exact .head _
  .exact .tail _ (IA h)
def btM{a:nJ}{z:aW}{v:iC}(T:Tx a)(h:btT.lookup z=Y v):a z=J:=(btA T _ (IA h)).1
def btN{z:aW}{v:iC}(h:btT.lookup z=Y v):aH z=Y v:=(show ∀p∈btT,aH p.1=Y p.2 from by decide+kernel) _ (IA h)
section
variable {X:Cx}{x z:aW}{e a b c st lo H:iA}{m:kn}{q fb U G fl fh:FO}{f g:F}{s M:FT}{p I Y l r y:bC}{A L:kg}{B:SB}{E:Hp}{fs:List FO}{J:List F}{i j k:Nat}{tg:iA}{S:b7}{Q Ts:List b7}{u v:FS}
def xV(h1:X.N[i]?=FM x:=by rfl)(d:Vis X.env.scope x:=by first|exact bn rfl|exact bt (bn H8)|exact bt<|bt H8)(h:DB x:=by decide)(n:(x==("__classdict__":aW))=C:=by decide):QO X (.Name x l) (gZ i):=⟨Vw h1 d h n⟩
def xW(h1:X.N[i]?=FM x:=by rfl)(d:Vis X.env.scope x:=by first|exact bn rfl|exact bt (bn H8)|exact bt<|bt H8)(h:DB x:=by decide)(n:(x==("__classdict__":aW))=C:=by decide):QX X (.Name x l) (iI i):=⟨U4 h1 d h n⟩
def xO(h:QX X e f):QO X e (hG f):=⟨PX.po h.h⟩
def x1{j}:QX X (.Constant .none j l) (fC .non):=⟨Vc⟩
def x2{i j}:QX X (.Constant (.bool i) j l) (fC<|.bl i):=⟨Xm⟩
def x3{i j}:QX X (.Constant (.int i) j l) (fC<|.int i):=⟨Vh⟩
def x4{i j}:QX X (.Constant (.str i) j l) (fC<|.str i):=⟨U6⟩
def x5{i:Int}(h: ∃t,X.mg x=FM (.int i t))(g:Gl X x:=by rfl)(d:DB x:=by decide):QX X (.Name x l) (fC<|.int i):=let⟨_,h⟩:=h;⟨Rx g h d⟩
def x7:QX X (.Dict [] [] l) BM:=⟨Ry⟩
def jJ{d:Operator}{g:D->D->Option (D×Bool)}(o:QP X (bv d) g)(n:QO X a q)(t:QO X b fb):QX X (.BinOp a d b l) (ie g q fb):=⟨Vj o.h n.h t.h⟩
def wU(d:QO X a q):QX X (.UnaryOp .USub a l) (kN mN q):=⟨Vd d.h⟩
def WO(d:QX X a f):QX X (.UnaryOp .Not a l) (P5 f):=⟨Vb d.h⟩
def xP{d:cz}{g:D->D->Option (D×Bool)}(o:QP X (ap d) g)(n:QO X a q)(t:QO X b fb)(w:ce d b=C:=by first|exact OH _|with_unfolding_all rfl):QX X (.Compare a [d] [b] l) (ie g q fb):=⟨Vi o.h n.h t.h w⟩
def tCmp{d:cz}{g:D->D->Option (D×Bool)}(o:QP X (ap d) g)(n:QO X a q)(t:QO X b fb)(w:ce d b=C:=by first|exact OH _|with_unfolding_all rfl):QT X (.Compare a [d] [b] l) (fT<|ie g q fb):=⟨RK o.h n.h t.h w⟩
def xCh{n d:cz}(o:QO X a q)(t:QO X b fb)(w:QO X c U)(O:rR n:=by first|exact .inl rfl|exact .inr (.inl H8)|exact .inr (.inr<|.inl H8)|exact .inr<|.inr<|.inr H8)(T:rR d:=by first|exact .inl rfl|exact .inr (.inl H8)|exact .inr (.inr<|.inl H8)|exact .inr<|.inr<|.inr H8)(N:eC [n,d] [b,c]=C:=by with_unfolding_all rfl):QX X (.Compare a [n,d] [b,c] l) (mZ n d q fb U):=⟨NJ O T o.h t.h w.h N⟩
def tCh{n d:cz}(o:QO X a q)(t:QO X b fb)(w:QO X c U)(O:rR n:=by first|exact .inl rfl|exact .inr (.inl H8)|exact .inr (.inr<|.inl H8)|exact .inr<|.inr<|.inr H8)(T:rR d:=by first|exact .inl rfl|exact .inr (.inl H8)|exact .inr (.inr<|.inl H8)|exact .inr<|.inr<|.inr H8)(N:eC [n,d] [b,c]=C:=by with_unfolding_all rfl):QT X (.Compare a [n,d] [b,c] l) (fT<|mZ n d q fb U):=⟨K7 O T o.h t.h w.h N⟩
def xBo{op}(d:QX X a f):QX X (.BoolOp op [a] l) f:=⟨RB d.h⟩
def AY(d:QX X a f)(n:QX X (.BoolOp .And (b::m) l) g):QX X (.BoolOp .And (a::b::m) l) (vc f g):=⟨Vk d.h n.h⟩
def YO(d:QT X a s)(n:QW X (.BoolOp .And (b::m) l) M):QW X (.BoolOp .And (a::b::m) l) (BN s M):=⟨RE d.h n.h⟩
def wOr(d:QT X a s)(n:QW X (.BoolOp .Or (b::m) l) M):QW X (.BoolOp .Or (a::b::m) l) (qW s M):=⟨Vm d.h n.h⟩
def WV(d:QT X a s):QW X (.BoolOp .And [a] l) s:=⟨NK d.h⟩
def FA(d:QT X a s):QW X (.BoolOp .Or [a] l) s:=⟨RD d.h⟩
def tW{op}(h:QW X (.BoolOp op m l) s):QT X (.BoolOp op m l) s:=⟨Vl h.h⟩
def tNot(d:QT X a s):QT X (.UnaryOp .Not a l) (kW s):=⟨RI d.h⟩
def pY(h:QX X e f)(n: ∀d,isTrue e X.env d=(do let v <-d;cq e.pos;bo [v] (truthy v)):=by intro _;rfl):QT X e (fT f):=⟨RH h.h n⟩
def xIf(o:QT X c s)(d:QX X a f)(n:QX X b g):QX X (.IfExp c a b l) (fIf s f g):=⟨Xl o.h d.h n.h⟩
def xIx(d:QO X a q)(n:QO X b fb)(o:yJ b:=by exact λ_ _=>rfl):QX X (.Subscript a b l) (ie gIx q fb):=⟨Xk d.h n.h o⟩
def YM(t:un X.A 1)(d:QO X a q)(n:QO X b fb)(o:yJ b:=by exact λ_ _=>rfl):QX X (.Subscript a b l) (ie Gy q fb):=⟨Vf t d.h n.h o⟩
def HE(d:QO X a q)(n:QO X lo fl):QX X (.Subscript a (.Slice (FM lo) F2 F2 I) l) (oP q fl):=⟨Ru d.h n.h⟩
def Fv(d:QO X a q)(n:QO X H fh):QX X (.Subscript a (.Slice F2 (FM H) F2 I) l) (nW q fh):=⟨Rv d.h n.h⟩
def YK(d:QO X a q)(n:QO X st fb):QX X (.Subscript a (.Slice F2 F2 (FM st) I) l) (P4 q fb):=⟨U8 d.h n.h⟩
def xL0:QL X [] []:=⟨Rq⟩
def xL(d:QX X e f)(n:QL X m J)(o:SE X e m:=by rfl):QL X (e::m) (f::J):=⟨NG d.h n.h o⟩
def xA0:QA X [] []:=⟨xZ⟩
def xA(d:QO X e q)(n:QA X m fs)(o:SE X e m:=by rfl):QA X (e::m) (q::fs):=⟨rK d.h n.h o⟩
def lH{k}(h:QL X m J):QX X (.Tuple m k l) (jD J):=⟨Rt h.h⟩
def og(h:QL X m J):QX X (.List m l) (lj J):=⟨Rw h.h⟩
def xB{id:String}{g:List D->Option (D×Bool)}(T:Tx X.mg)(hv:btT.lookup z=FM (.builtin id))(n:QC X (.builtin id) g)(d:QA X (e::m) fs)(t:Gl X z:=by rfl)(w:z≠"__name__":=by decide)(O:DB z:=by decide)(o:SE X e m:=by rfl)(N:BA X l m:=by rfl):QX X (.Call (.Name z p) (e::m) [] l) (ir g fs):=⟨RC n.h t (btM T hv) (btN hv) d.h w O o N⟩
def xT{id:String}{g:List D->Option (D×Bool)}(T:Tx X.mg)(hv:btT.lookup z=FM (.type id))(n:QC X (.type id) g)(d:QA X (e::m) fs)(t:Gl X z:=by rfl)(w:z≠"__name__":=by decide)(O:DB z:=by decide)(o:SE X e m:=by rfl)(N:BA X l m:=by rfl):QX X (.Call (.Name z p) (e::m) [] l) (ir g fs):=⟨JI n.h t (btM T hv) (btN hv) d.h w O o N⟩
def xI{t:Ty}(T:Tx X.mg)(d:btT.lookup z=FM (.type t.n))(w:QO X e q)(C:Gl X "isinstance":=by rfl)(o:Gl X z:=by rfl)(O:z≠"__name__":=by decide)(m6:DB z:=by decide)
  (s1:SE X e [.Name z I]:=by rfl)(s2:SE X (.Name z I) []:=by rfl)(N:BA X l [.Name z I]:=by rfl):
  QX X (.Call (.Name "isinstance" p) [e,.Name z I] [] l) (kN (uh [t]) q):=⟨Vg w.h C T.n_isinstance o (btM T d) (btN d) O m6 CN s1 s2 N⟩
def xU{k:Nat}{ps:jr}{d:EvF}(O:Oz (zX X) k x ps d)(T:Room k X.A)(o:QA X (e::m) fs)(w:Gl X x:=by rfl)(m6:DB x:=by decide)
  (t:SE X e m:=by rfl)(N:BA X l m:=by rfl):QX X (.Call (.Name x p) (e::m) [] l) (ik d fs):=
 let⟨_,_,ok,C',D,n⟩:=O;⟨Rr ok T w C' D n o.h m6 t N⟩
def QU{T:String}{mk:List D->D}{o:Bool}(d:Tx X.mg)(hv:btT.lookup z=FM (.type T))(C:QA X [a,b] [q,fb])(w:(T="list"/\mk= .lst/\o=Gc)\/(T="tuple"/\mk= .tup/\o=Go):=by first|exact .inl ⟨rfl,rfl,rfl⟩|exact .inr ⟨rfl,rfl,rfl⟩)(O:X.calm=Gc:=by rfl)(N:Gl X z:=by rfl)(hn:z≠"__name__":=by decide)(m6:DB z:=by decide)(t:Gl X "range":=by rfl)
  (s1:SE X (.Call (.Name "range" I) [a,b] [] Y) []:=by rfl)(s2:SE X a [b]:=by rfl)
  (j1:BA X l []:=by rfl)(n:BA X Y [b]:=by rfl):
  QX X (.Call (.Name z p) [.Call (.Name "range" I) [a,b] [] Y] [] l) (ir (gRg mk o) [q,fb]):=⟨U7 w O N (btM d hv) (btN hv) hn m6 t d.n_range C.h s1 s2 j1 n⟩
def MV(hv:QO X (.Name x r) (gZ i))(n:QX X e f)(w:cy (.Name x r) "append" X.env (aM (.Name x r) X.env)=aM (.Name x r) X.env:=by rfl)
  (T:((aJ l<|ac [e] X.env).all (λx=>!x.1)&&(ck l<|bq [] X.env).all (λx=>x.1.isSome)&&decide ([e].length+([]:List cf).length+(if([]:List cf).isEmpty then 0 else 1)<30))=Gc:=by rfl)
  (t:(y.endLine==l.line)=Gc:=by rfl)(o:SE X e []:=by rfl)(d:BA X l []:=by rfl):QX X (.Call (.Attribute (.Name x r) "append" y) [e] [] l) (lT i f):=⟨K6 hv.h n.h w T t o d⟩
def YN(hv:QO X (.Name x r) (gZ i))(n:QX X e f)(w:cy (.Name x r) "extend" X.env (aM (.Name x r) X.env)=aM (.Name x r) X.env:=by rfl)
  (T:((aJ l<|ac [e] X.env).all (λx=>!x.1)&&(ck l<|bq [] X.env).all (λx=>x.1.isSome)&&decide ([e].length+([]:List cf).length+(if([]:List cf).isEmpty then 0 else 1)<30))=Gc:=by rfl)
  (t:(y.endLine==l.line)=Gc:=by rfl)(o:SE X e []:=by rfl)(d:BA X l []:=by rfl):QX X (.Call (.Attribute (.Name x r) "extend" y) [e] [] l) (vJ i f):=⟨K5 hv.h n.h w T t o d⟩
def YL(hv:QO X (.Name x r) (gZ i))(n:QO X e G)(w:cy (.Name x r) "pop" X.env (aM (.Name x r) X.env)=aM (.Name x r) X.env:=by rfl)
  (T:((aJ l<|ac [e] X.env).all (λx=>!x.1)&&(ck l<|bq [] X.env).all (λx=>x.1.isSome)&&decide ([e].length+([]:List cf).length+(if([]:List cf).isEmpty then 0 else 1)<30))=Gc:=by rfl)
  (t:(y.endLine==l.line)=Gc:=by rfl)(o:SE X e []:=by rfl)(d:BA X l []:=by rfl):QX X (.Call (.Attribute (.Name x r) "pop" y) [e] [] l) (xv i G):=⟨NI hv.h n.h w T t o d⟩
def iR1(T:Tx X.mg)(d:QA X [a] [q])(n:Gl X "range":=by rfl)(o:ac [a] X.env=[(C,aM a X.env)]:=by rfl):QI X B tg (.Call (.Name "range" p) [a] [] l) (uf q):=⟨Ic n T.n_range d.h o⟩
def iR2(T:Tx X.mg)(n:QA X [a,b] [q,fb])(o:Gl X "range":=by rfl)(t:ac [a,b] X.env=[(C,aM a X.env),(C,aM b X.env)]:=by rfl)(d:ac [b] X.env=[(C,aM b X.env)]:=by rfl):QI X B tg (.Call (.Name "range" p) [a,b] [] l) (IF q fb):=⟨Ib o T.n_range n.h t d⟩
def iZ{d:kn}{N:Nat}{l5:bC}(T:Tx X.mg)(o:QX X a f)(t:QX X b g)(w:Gl X "zip":=by rfl)(C:SE X a [b]:=by rfl)(n:SE X b []:=by rfl)(O:BA X l [b]:=by rfl):
  QI X B (.Tuple d N l5) (.Call (.Name "zip" p) [a,b] [] l) (Ad f g):=⟨RT w T.n_zip o.h t.h C n O⟩
def iE{d:kn}{w:Nat}{O:bC}(T:Tx X.mg)(n:QX X a f)(o:Gl X "enumerate":=by rfl)(t:ac [a] X.env=[(C,aM a X.env)]:=by rfl)(s0:SE X a []:=by rfl):QI X B (.Tuple d w O) (.Call (.Name "enumerate" p) [a] [] l) (xo 0 f):=⟨Lf o T.n_enumerate n.h t s0⟩
def iS(h:QX X e f):QI X B tg e (iJ f):=⟨RU h.h⟩
def gN(d:X.N.Nodup)(H:X.N[i]?=FM x:=by rfl)(o:Loc X.env.scope x:=by first|exact bn rfl|exact bt H8)(n:X.fn x=Gc\/X.env.scope.names.lookup x=FM .local:=by first|exact bn rfl|exact bt H8)(h:A i:=by decide):QG X A (.Name x l) (hW i):=⟨N8 d H o n h⟩
def gT{d n:Tg}{k:Nat}(h1:QG X A a d)(o:QG X A b n)(t:X.calm=Gc:=by rfl)(N:(aU [a,b] X.env).map (·.2)=bW a X.env::(aU [b] X.env).map (·.2):=by rfl)(O:(aU [b] X.env).map (·.2)=bW b X.env::(aU [] X.env).map (·.2):=by rfl)
  (w:(aU [a,b] X.env).length=2:=by rfl)(T:(aU [a,b] X.env).findIdx? (·.1)=F2:=by rfl):QG X A (.Tuple [a,b] k l) (oN [d,n]):=⟨RZ t (C5 h1.h (C5 o.h N9 O) N) w H8 T⟩
def f0:QF X [] je:=⟨N3⟩
def f1(h:QT X e s):QF X [e] s:=⟨N2 h.h⟩
def bE{o:qo}{T:km}{d:hV}{n:Nat}(t:QX X e f)(w:o[n+1]?=F2:=by rfl):QB X A d (.ListComp e o T p) n (jb f):=⟨Ol w t.h⟩
def bF{o:qo}{C:km}{d:hV}{n:Nat}{c:pP}{w:FIt}{tt:Tg}{fb:FB}(hg:o[n+1]?=FM c)(pi:QI X (λ_=>False) c.target c.iter w)(pg:QG X A c.target tt)(O:QF X c.ifs s)(pb:QB X A d (.ListComp e o C p) (n+1) fb)(T:X.xe=λ_ _=>False:=by rfl)(hc:X.calm=Gc:=by rfl)
  (N:c.is_async=0:=by rfl)(l4: ∀t,o[n+1+1]?=FM t->t.is_async=0:=by intro t h;cases h;try rfl)(hs: ∀x,aw c.iter X.env x=pure x:=by intro _;rfl):QB X A d (.ListComp e o C p) n (Jl w tt s fb):=⟨R8 T hc (bn ⟨_,_,_,_,rfl⟩) hg N l4 hs pi.h pg.h O.h pb.h⟩
def cOk{N P:jr}{n scope:km}{N':jr}{d:ky}(S:FnScope N P n)(h:Fm N n scope N' d k=Gc:=by decide+kernel)(o:X.N=N:=by rfl)(t:X.env.scope=n:=by rfl):CompOk X N' scope d k:=Qg o t h
def xC{c:pP}{iW:qo}{T:iA}{scope:km}{fi:FIt}{tt:Tg}{ti:FT}{fb:FB}{o:ky}{N':jr}(C:CompOk X N' scope o k)(nd:N'.Nodup)(pi:QI X (λi=>i∉o) c.target c.iter fi)
  (v5: ∀(cl:mq) (C:hV) (O:il) (t:Hp) (w:kH) (n:ji),(X.comp N' scope cl C O t w n).N.Nodup->
   QG (X.comp N' scope cl C O t w n) (λi=>Ix o<=i) c.target tt/\QF (X.comp N' scope cl C O t w n) c.ifs ti/\ ∀d,QB (X.comp N' scope cl C O t w n) (λi=>Ix o<=i) d (.ListComp T (c::iW) scope l) 0 fb)
  (hc:X.calm=Gc:=by rfl)(ha:c.is_async=0:=by rfl)(l4: ∀g',iW[0]?=FM g'->g'.is_async=0:=by intro g' h;cases h;try rfl)(hs: ∀x,aw c.iter X.env x=pure x:=by intro _;rfl):QX X (.ListComp T (c::iW) scope l) (iT o k fi tt ti fb):=⟨Rz C hc ha l4 hs pi.h λcl C O t w n=>let⟨a,b,c⟩:=v5 cl C O t w n nd;⟨a.h,b.h,λd=>(c d).h⟩⟩
def sC{c:pP}{iW:qo}{t:iA}{scope:km}{fi:FIt}{tt:Tg}{ti:FT}{fb:FB}{o:ky}{N':jr}{py g0:bC}(hN:X.N.Nodup)(C:CompOk X N' scope o k)(nd:N'.Nodup)(pi:QI X (λi=>i∉o) c.target c.iter fi)
  (v5: ∀(cl:mq) (C:hV) (T:il) (w:Hp) (O:kH) (n:ji),(X.comp N' scope cl C T w O n).N.Nodup->
   QG (X.comp N' scope cl C T w O n) (λi=>Ix o<=i) c.target tt/\QF (X.comp N' scope cl C T w O n) c.ifs ti/\ ∀d,QB (X.comp N' scope cl C T w O n) (λi=>Ix o<=i) d (.ListComp t (c::iW) scope l) 0 fb)
  (dM:cR (.ListComp t (c::iW) scope l) (FM<|.Name x py) g0.line X.env=pure Gc:=by rfl)(H:X.N[i]?=FM x:=by rfl)(hx:X.env.scope.names.lookup x=FM .local:=by rfl)(hf:X.fn x=Gc:=by rfl)(hA:A i:=by decide)
  (hc:X.calm=Gc:=by rfl)(ha:c.is_async=0:=by rfl)(l4: ∀g',iW[0]?=FM g'->g'.is_async=0:=by intro g' h;cases h;try rfl)(hs: ∀x,aw c.iter X.env x=pure x:=by intro _;rfl):QS X A L E (.Assign [.Name x py] (.ListComp t (c::iW) scope l) g0) (iY i<|iT o k fi tt ti fb):=⟨NP dM C hc ha l4 hs pi.h (JL hN H (bn hx)<|bn hf) hA λcl C T w O n=>let⟨a,b,c⟩:=v5 cl C T w O n nd;⟨a.h,b.h,λd=>(c d).h⟩⟩
def s0:QQ X A L E [] iB:=⟨NQ⟩
def s1(h:QS X A L E S u)(d:QQ X A L E Q v):QQ X A L E (S::Q) (ig u v):=⟨Lb h.h d.h⟩
def sX:QS X A L E S EF:=⟨K9⟩
def sR(h:QX X e f):QS X A L E (.Return (FM e) l) (jK f):=⟨RO h.h⟩
def sRV(o: ¬L i)(h1:X.N[i]?=FM x:=by rfl)(d:Vis X.env.scope x:=by first|exact bn rfl|exact bt (bn H8)|exact bt<|bt H8)(h:DB x:=by decide)(n:(x==("__classdict__":aW))=C:=by decide):QS X A L E (.Return (FM<|.Name x p) l) (mw i):=⟨HY h1 d h n o⟩
def sE(h:QX X e f)(d:cR e F2 l.line X.env=pure C:=by rfl):QS X A L E (.Expr e l) (nS f):=⟨NN h.h d⟩
def sI(o:QT X c s)(d:QQ X A L E Q u)(n:QQ X A L E Ts v):QS X A L E (.If c Q Ts l) (sIf s u v):=⟨Vs o.h d.h n.h⟩
def sW{n:Nat}(o:QT X c s)(d:QQ X A L E Q u)(t:eF (ag X.prog X.w) X.A X.env X.xe:=by exact PassesOwn.never):QS X A L E (.While c Q [] l) (qi s u n):=⟨K8 t o.h d.h⟩
def sF{d:FIt}{t:Tg}(H:QI X (λ_=>False) tg e d)(N:QG X A tg t)(n:QQ X A L E Q u)(O:eF (ag X.prog X.w) X.A X.env X.xe:=by exact PassesOwn.never)(o:X.calm=Gc:=by rfl)(T: ∀x,aw e X.env x=pure x:=by intro _;rfl):QS X A L E (.For tg e Q [] l) (mX d t u):=⟨RP O o H.h N.h n.h T⟩
def sS(d:X.N.Nodup)(o:QX X e f)(H:X.N[i]?=FM x:=by rfl)(T:Loc X.env.scope x:=by first|exact bn rfl|exact bt H8)(t:X.fn x=Gc\/X.env.scope.names.lookup x=FM .local:=by first|exact bn rfl|exact bt H8)(n:A i:=by decide)(w:cR e (FM<|.Name x p) l.line X.env=pure C:=by rfl):QS X A L E (.Assign [.Name x p] e l) (iY i f):=⟨RN d H T o.h w t n⟩
def sT{t:Tg}{pt:bC}(d:QX X e f)(n:QG X A (.Tuple m k pt) t)(o:cw [.Tuple m k pt] e l.line X.env=pure C:=by rfl)(w:cx [.Tuple m k pt] e X.env=pure F2:=by rfl)(h1:(aU [.Tuple m k pt] X.env).map (·.2)=[bW (.Tuple m k pt) X.env]:=by rfl):QS X A L E (.Assign [.Tuple m k pt] e l) (FU t f):=⟨RM d.h n.h o w h1⟩
def sIx{d:bC}(hv:QO X (.Name x r) (gZ i))(w:QX X e f)(H:QO X a G)
  (t: ∀v,bW (.Subscript (.Name x r) a d) X.env v=(do
   let n <-bo [v] (aM (.Name x r) X.env)
   let o <-bo [v,n] (aM a X.env)
   cq d
   bo [v,n,o] (fk n o v)
   gJ [v,n,o] []):=by intro _;rfl)
  (T:cw [.Subscript (.Name x r) a d] e l.line X.env=pure C:=by rfl)(O:cx [.Subscript (.Name x r) a d] e X.env=pure F2:=by rfl)
  (h1:(aU [.Subscript (.Name x r) a d] X.env).map (·.2)=[bW (.Subscript (.Name x r) a d) X.env]:=by rfl):QS X A L E (.Assign [.Subscript (.Name x r) a d] e l) (oX i f G):=⟨La hv.h w.h H.h t T O h1⟩
def sDP{d:bC}(O:un X.A 1)(hv:QO X (.Name x r) (gZ i))(w:QX X e f)(H:QO X a G)
  (t: ∀v,bW (.Subscript (.Name x r) a d) X.env v=(do
   let n <-bo [v] (aM (.Name x r) X.env)
   let o <-bo [v,n] (aM a X.env)
   cq d
   bo [v,n,o] (fk n o v)
   gJ [v,n,o] []):=by intro _;rfl)
  (N:cw [.Subscript (.Name x r) a d] e l.line X.env=pure C:=by rfl)(T:cx [.Subscript (.Name x r) a d] e X.env=pure F2:=by rfl)
  (h1:(aU [.Subscript (.Name x r) a d] X.env).map (·.2)=[bW (.Subscript (.Name x r) a d) X.env]:=by rfl):QS X A L E (.Assign [.Subscript (.Name x r) a d] e l) (FV i f G):=⟨NO O hv.h w.h H.h t N T h1⟩
end
def Fz(K:iM)(b:nJ)(x:aW)(st:b7):Prop:= ∃f a,b x=Y (.ref f)/\Fun K x x st f a
def fz{K:iM}{h:iO}{e:nJ}{x:aW}{st:b7}{f:hV}{j:iC}{m i:Option hV}{g:zR}{kV b n d ct:iC}(X:K.In h)(G:h.Ns ao e)(a:aQ K ao x=Y (Y<|.ref f))
  (l:K.lookup f=Y ⟨j,m,.func<|ca x x (vM st) (pH st) (ip st) .none kV b n i d ct,g⟩)(c:dB K d x=U)(k:cu K (.ref f)=U):Fz K e x st:=⟨f,_,i6 X G a,V9 l c k⟩
def BdA(x:aW)(st:b7)(c:jr):Prop:= ∀(kV a f:iC) (d:Option hV) (e ct:iC) (b:jN),Ix b=Ix c->v6 (ca x x (vM st) (pH st) (ip st) .none kV a f d e ct) ⟨b,[]⟩=pure (c.zip b)
def scM{N P:jr}{a:km}(h1:a.kind= .function:=by rfl)(b:a.isCoroutine=C:=by rfl)(c:a.isGenerator=C:=by rfl)(d:N.Nodup:=by decide+kernel)(e:N.take P.length=P:=by rfl)(f: ∀x∈P,a.names.lookup x=Y .local\/a.names.lookup x=Y .cell:=by decide+kernel)(g: ∀y∈a.names,y.2≠ .free:=by decide+kernel):FnScope N P a:=⟨h1,b,c,d,e,f,g⟩
def Bd(Z:ZZ)(k:Nat)(x:aW)(st:b7)(N d:jr)(c:ky)(fs:FS):Prop:= ∀(f:hV) (b:iC) (A:iP) (a:List eO) (s:il) (T:Hp) (E:XK) (L:kg),(∀i,L i->i<Ix d)->Room k (A.deeper<|cW x (ip st) s.heap.objs.size f b)->
 un (A.deeper<|cW x (ip st) s.heap.objs.size f b) 60->un (A.deeper<|cW x (ip st) s.heap.objs.size f b) 1->un (A.deeper<|cW x (ip st) s.heap.objs.size f b) 62->un (A.deeper<|cW x (ip st) s.heap.objs.size f b) 90->N.Nodup->
 QQ (GI CX0 Z.P Z.w Z.K Z.mg Z.base N x (ip st) f b A a s T E).nox (λi=>i∈c) L T (pH st) fs
def fnB{Z:ZZ}{k:Nat}{x:aW}{st:b7}{N b:jr}{asg:ky}{fs:FS}{f:hV}{c:oI}(F:Fun Z.K x x st f c)(S:FnScope N b (ip st))(i:Bd Z k x st N b asg fs):FnOk Z.P Z.w Z.K Z.mg Z.base CX0 (k+1) f c b (spF Z.K<|evF (Ix N) (Ix b) asg fs):=
 V8 F S λe A a s T E L g d=>by have:=d.un;exact(i f e A a s T E L g d (by unfold un;omega) (by unfold un;omega) (by unfold un;omega) (by unfold un;omega) S.nd).h
def ozB{Z:ZZ}{k:Nat}{x:aW}{st:b7}{N d:jr}{c:ky}{fs:FS}(a:Fz Z.K Z.mg x st)(S:FnScope N d (ip st))(b:BdA x st d)(g:Bd Z k x st N d c fs):Oz Z (k+1) x d (evF (Ix N) (Ix d) c fs):=
 let⟨f,e,m,F⟩:=a;⟨f,e,fnB F S g,m,F.kp,F.binds b⟩
def us0{P:List iC->Prop}(h:P []): ∀b:List iC,Ix b=0->P b:=λb e=>by cases b with|nil=>exact h|cons a l=>cases e
def us1{P:List iC->Prop}{n:Nat}(h: ∀a,∀b:List iC,Ix b=n->P (a::b)): ∀b:List iC,Ix b=n+1->P b:=λb e=>by cases b with|nil=>cases e|cons a l=>exact h a l<|Nat.succ.inj e
def fzL{K:iM}{h:nJ}{x y:aW}{st:b7}{g:hV}(a:Fz K h x st)(k:h x=Y (.ref g))(b:BdA x st [y]): ∃c,Fun K x x st g c/\ ∀(s:il) (v:iC),fo s c ⟨[v],[]⟩ [(y,v)]:=by obtain⟨f,c,m,F⟩:=a;have e:=k.symm.trans m;cases e;obtain⟨o,p,kV,d,l,i,j,ct,n,e,_⟩:=F.ex;exact⟨c,F,λs v=>by subst e;exact .of_eq<|b kV d l i j ct [v] I⟩
def mgI{K:iM}{h:iO}{b:nJ}{x:aW}{i:Int}{t:nL}(X:K.In h)(G:h.Ns ao b)(a:aQ K ao x=Y (Y<|.int i t)): ∃t,b x=Y (.int i t):=⟨t,i6 X G a⟩
def txK{K:iM}{h:iO}{g:nJ}(X:K.In h)(G:h.Ns ao g)(i:aQ K ao "len"=Y J)(j:aQ K ao "abs"=Y J)(k:aQ K ao "int"=Y J)(l:aQ K ao "tuple"=Y J)(m:aQ K ao "list"=Y J)(n:aQ K ao "range"=Y J)(o:aQ K ao "isinstance"=Y J)(p:aQ K ao "bool"=Y J)(q:aQ K ao "max"=Y J)(r:aQ K ao "min"=Y J)(a:aQ K ao "all"=Y J)(b:aQ K ao "any"=Y J)(c:aQ K ao "sorted"=Y J)(d:aQ K ao "enumerate"=Y J)(e:aQ K ao "zip"=Y J)(f:aQ K ao "set"=Y J):Tx g:=⟨pe X G i,pe X G j,pe X G k,pe X G l,pe X G m,pe X G n,pe X G o,pe X G p,pe X G q,pe X G r,pe X G a,pe X G b,pe X G c,pe X G d,pe X G e,pe X G f⟩
def walkG{l:eM}{q:iU}{c:jr}{t:(aW->Option iC)->iO->Prop}{m:iK->iO->Prop}{d:DefRec}{K:v7->iM}{LV:Nat}{x:aW}{j:EvF}(hk:Room LV eD)(T:l.most=Y 63)(v:d.params.defaults=[])(A: ∀(w:iK) (h:iO),m w h->(K w.params).In h)
  (F: ∀(w:iK) (g:nJ) (p:hV) (h:iO),(K w.params).In h->h.Ns ao g->g d.name=Y (.ref p)-> ∃r:oI,(∀(s:il) (u:iC),fo s r ⟨[u],[]⟩ [(x,u)])/\ ∀base:iO,(K w.params).In base->base.Ns ao g->FnOk l.prog w (K w.params) g base CX0 LV p r [x] (spF (K w.params) j))
  (M: ∀i:List Int,Ix i<=63-> ∃o b,j [(.lst<|i.map .int,C)]=Y ((.bl U,o),b)):i7 q c t m l.row.toRowW d [] (λf E=>gf f E):=
 L2.WU (n:=63) (k:=LV) (x:=x) (CX:=λ_=>CX0) (sp:=λw=>spF (K w.params) j) T (by decide) v hk A F (λ_ _ a i B _ y=>by obtain⟨o,b,e⟩:=M i B;exact VY y e) λ_ _ _ _ _ z=>z
def ozD{Z:ZZ}{k:Nat}{x:aW}{st:b7}{N d:jr}{c:ky}{fs:FS}(a:Fz Z.K Z.mg x st)(S:FnScope N d (ip st))(e:Bd Z k x st N d c fs)(b:BdA x st d:=by intro _ _ _ _ _ _;repeat' (first|exact us0 rfl|refine us1 λ_=>?_)):Oz Z (k+1) x d (evF (Ix N) (Ix d) c fs):=ozB a S b e
noncomputable abbrev abI(i:Int):Int:=if i<0 then -i else i
section
variable {d:iU}{w:iK}{A:iP}{E:jf}{s:il}
def Nl{a:hV}{f:jN}{r:iu}{n:Nat}{P:ss->il->Prop}(N:s.heap.get? a=FM (bg "list" f.toArray n))(hi:d0 f r)(h64:f.length<64)
  (h: ∀g y J' c,(∀b o,b≠a->s.heap.get? b=FM o->g.get? b=FM o)->g.get? a=FM (bg "list" J' c)->KskOut Go (r.map abI) f J'.toList->P (.done<|.ret .none) {s with heap:=g,toks:=y}):
  ae (ag d w) A (ksk_tree a (.builtin "abs") Go) P E s:=by
 have ha:a<s.heap.objs.size:=jl N;have X:=hi.length;have T: ∀k,k<=f.length->k<=sizeLine:=λk hk=>by rw[jI];omega
 unfold ksk_tree;refine hU<|G8 N H8<|hU<|wG N H8 ?_ (T _ (by simp))<|mr _;obtain⟨B,s9⟩: ∃B,(s.heap.update a<|aE λ_=>(#[]:Array iC)).get? a=FM (bg "list" #[] B):=⟨_,yR N λ_=> #[]⟩
 refine hU<|AG s9 H8<|hU<|D9 ?_<|T _ (by simp);refine hU<|DY ?_<|mr _;refine lZ ?_
 let h1:=qv s.heap a f
 let m:Addr:=((s.heap.update a<|aE λ_=>(#[]:Array iC)).push<|bg "tuple" f.toArray 0).objs.size
 have hk:m=s.heap.objs.size+1:=by show _=_;simp -iota only[m];rw[size_push',Heap.size_update]
 have L:a≠m:=by rw[hk];exact jG<|vY ha
 have V: ∀b o,b≠a->s.heap.get? b=FM o->h1.get? b=FM o:=λb o z e=>jS _ (jS _ (by rw[G7 _ _ _ _ z];exact e));have K:h1.get? a=FM (bg "list" #[] B):=jS _ (jS _ s9);have dg:h1.get? m=FM (bg "list" #[] 0):=kh _ rfl;show ae (ag d w) A (ksk_rest a (.builtin "abs") Go f.toArray B<|.ref m) P E {s with heap:=h1};unfold ksk_rest;refine hU<|uq ?_;rw[List.forIn_toArray];refine hU<|ksk_fold (λi Y=> ∃g y l e,Y={s with heap:=g,toks:=y}/\(∀b o,b≠m->h1.get? b=FM o->g.get? b=FM o)/\g.get? m=FM (bg "list" l e)/\d0 l.toList ((r.map abI).take i)) f 0 _ ⟨h1,s.toks,#[],0,rfl,λ_ _ _ e=>e,dg,.nil⟩ (λj x Y hx F=>?_) λY F=>?_
 .obtain⟨g,y,l,e,rfl,U,G,p⟩:=F;have W:j<f.length:=(xN.mp hx).1;obtain⟨t,Z⟩:=hi.get j r[j]<|jt (by omega);rw[hx] at Z;cases Z
  have q:l.size<=f.length:=by have:=p.length;rw[kG,rp] at this;omega
  refine hU<|si<|Bn λu fA=>?_;dsimp only;have s1:=tP g m (aE (·.push (.int (abI r[j]) u)));refine hU<|wG (s:={s with heap:=g,toks:=fA}) G H8 ?_ (T _ q)<|ly (re (Array.size_push ..)) (by rw[jI];omega);refine iq ⟨rfl,_,_,l.push<|.int (abI r[j]) u,_,rfl,λb o z e=>(s1.2 b z).trans<|U b o z e,yR G _,?_⟩;rw[uA,List.take_add_one,mv,jt (show j<r.length by omega),ez];rw[uA] at p;exact p.append<|.cons _ _ .nil
 .obtain⟨g,y,l,e,rfl,U,G,p⟩:=F;have p:d0 l.toList (r.map abI):=by rwa [uA,dv<|by simp;omega] at p
  have q:l.size=f.length:=by have:=p.length;rw[kG,jz] at this;omega
  have M:(l.zip f.toArray).size=f.length:=by rw[me,q,jw,Nat.min_self]
  refine hU<|G8 (s:={s with heap:=g,toks:=y}) G H8 ?_
  have v: ∀st:ui,(eU st).Perm (l.zip f.toArray)->SortedTo (eU st) (eU st).size->fq st=J->ae (ag d w) A (ksk_tail a Go B (.ref m) st) P E {s with heap:=g,toks:=y}:=λst O S R=>by
   have s1:=tP g m<|aE λ_=>(#[]:Array iC);have D:(g.update m<|aE λ_=>(#[]:Array iC)).get? a=FM (bg "list" #[] B):=(s1.2 a L).trans<|U a _ L K;have s2:=tP (g.update m<|aE λ_=>(#[]:Array iC)) a (aE λ_=>(eU st).map (·.2));unfold ksk_tail;simp -iota only[jF,kb];refine hU<|wG (s:={s with heap:=g,toks:=y}) G H8 ?_ (T _ (by omega))<|mr _;refine hU (D8 (hU (AG D H8 (hU (wG D H8 ?_ (mr _) (jp (show((eU st).map (·.2)).size<=sizeLine from T _ (by rw[mi,O.size_eq,M];exact jQ _))))))));rw[R];simp -iota only[vZ,jF,kb];refine iq<|h _ _ _ _ (λb o z e=>?_) (yR D _) (ksk_out (b:=Go) p O S);have I:b≠m:=by rw[hk];exact jG<|vY<|jl e
   exact(s2.2 b z).trans ((s1.2 b I).trans<|U b o I<|V b o z e)
  unfold ksk_end;simp -iota only[jF,kb];by_cases H:f.toArray.size<2
  .rw[iF H,iF H];refine hU<|iq ?_;rw[Hb];refine hU<|iq<|v _ (Array.Perm.refl _) (λi j u7 W=>?_) rfl;have dh:j<(l.zip f.toArray).size:=W;rw[M] at dh;rw[jw] at H;have:i=j:=by omega
   subst this;exact Int.le_refl _
  .rw[iL H,iL H];rw[jw] at H;rw[ksk_kind p<|by rw[q];omega];refine hU (iq ?_)
   refine hU (pU (wpS_sortRuns (a₀:=l.zip f.toArray) (st:=SortSt.mk' v9 (l.zip f.toArray) #[] 7 J) (Q:=λ_ C=>(eU C).Perm (l.zip f.toArray)/\fq C=J/\SortedTo (eU C) (l.zip f.toArray).size)
    (ksk_intKeys p) ⟨Array.Perm.refl _,rfl,rfl,rfl⟩ (by rw[M];omega) (by rw[M];exact h64) λC a1 a2 a3=>⟨a1,a2,a3⟩) ?_ λ_ _ e=>e)
   rintro⟨⟨⟩,C⟩ Y ⟨rfl,O,R,S⟩;exact v C O (by rw[O.size_eq];exact S) R
end
noncomputable def aD:D->Int
 | .int i=>abI i
 |_=>0
noncomputable def isI:D->Bool
 | .int _=>U
 |_=>C
noncomputable def ltA(x y:D):Bool:=decide<|aD x<aD y
noncomputable def zF:D->Option (D×Bool)
 | .lst l=>if l.all isI=U/\(l.map aD).Nodup/\(Ix l)<64 then Y (.lst<|nq ltA l,U) else J
 |_=>J
def Pz{x:D}: ∀{l:List D},l.Pairwise (λa b=>aD a<=aD b)->(E5 ltA x l).Pairwise λa b=>aD a<=aD b:=by
 intro g
 induction g with
 |nil=>intro _;simp[E5]
 |cons y l f=>
  intro h;obtain⟨h1,e⟩:=AA.mp h;unfold E5;by_cases d:aD y<aD x
  .rw[iF<|by simpa[ltA] using d];refine AA.mpr ⟨λz c=>?_,f e⟩;rcases ku.mp ((vG ltA x l).mem_iff.mp c) with rfl|c
   .omega
   .exact h1 z c
  .rw[iL<|by simpa[ltA] using d];refine AA.mpr ⟨λz c=>?_,h⟩;rcases ku.mp c with rfl|c
   .omega
   .have:=h1 z c;omega
def C0: ∀l:List D,(nq ltA l).Pairwise λa b=>aD a<=aD b:=by
 intro d
 induction d with
 |nil=>exact .nil
 |cons _ l c=>exact Pz<|c
theorem De: ∀{l:List D},(l.map aD).Nodup-> ∀a∈l,∀b∈l,aD a=aD b->a=b
 |x::l,h,a,d,b,f,e=>by
  rw[jx,zk] at h;rcases ku.mp d with h1|h1<;>rcases ku.mp f with c|c
  .rw[h1,c]
  .exact absurd (h1▸e▸qI c) h.1
  .exact absurd (c▸e▸qI h1) h.1
  .exact De h.2 a h1 b c e
def Np{l m:List D}(c:m.Perm l)(g:m.Pairwise λa b=>aD a<=aD b)(f:(l.map aD).Nodup):m=nq ltA l:=by refine(c.trans (jX ltA l).symm).eq_of_pairwise (le:=λa b=>aD a<=aD b) (λa b d e x y=>De f a (c.mem_iff.mp d) b ((jX ltA l).mem_iff.mp e)<|by omega) g (C0 l)
section
variable {X:Cx}{f:ji}{g:L2.St}{H:Hp}{s:il}
def Y1{O:AP'}: ∀{l:List D} {j:List V} {c:jN},l.all isI=U->RepL X.K H O l j->Vals j c-> ∃e:List Int,l=e.map .int/\d0 c e:=by
 intro n
 induction n with
 |nil=>intro j c _ r v;rw[RepL] at r;subst r;cases v;exact⟨[],rfl,.nil⟩
 |cons d l m=>
  intro j c h r v;rw[RepL] at r;obtain⟨x,q,rfl,o,p⟩:=r;rw[wN,kJ] at h
  cases d with
  |int i=>
   cases v with
   |cons a b=>obtain⟨e,rfl,k⟩:=m h.2 p b;rw[jd<|.inl o] at a;obtain⟨t,rfl⟩:=a;exact⟨i::e,rfl,.cons _ _ k⟩
  |_=>exact absurd h.1 (by simp[isI])
theorem WN: ∀{l:List D} {a:iu} {xs:List V} {its:jN},l=a.map .int->Ix xs=Ix l->Ix its=Ix l->(a.map abI).zip its=(l.zip<|xs.zip its).map λt=>(aD t.1,t.2.2)
 |[],[],_,_,_,_,_=>by simp
 |d::l,i::a,x::xs,u::its,h,h1,b=>by obtain⟨rfl,c⟩:=sh h;have:=WN (xs:=xs) (its:=its) c (by simpa using h1) (by simpa using b);simp -iota only[jx,uy,this];rfl
def HL{u:iC}{Q:VK}{O:AP'}{d:D}{z:D×Bool}{x:V}(I:Inv X f g H s)(ru:RelV x u)(np: ∀p,¬Ow (H p)-> ¬O p)(hd:kj X.K H O d x)(M:zF d=FM z)(G:Gen X.K H O z Q):
  ae (ag X.prog X.w) X.A (call (.builtin "sorted") [u] [(ba "key",.builtin "abs")]) (EP X f g Q) X.xe s:=by
 cases d with
 |lst l=>
  obtain⟨⟨hI,hn,hz⟩,rfl⟩:=jh M;obtain⟨p,xs,rfl,q,E⟩:=lg hd;cases ru;obtain⟨j,v,pl,_⟩:=I.list q;have e1:=E.length;have e2:=v.length;obtain⟨ns,S,r⟩:=Y1 hI E v;have hl:j.length<=sizeLine:=by rw[jI];omega
  obtain⟨o,ho,hc,n,R⟩:=pl.isList;refine call_function_entry_kw Fk A1 A2 (ksk_s1 _ _) ?_;unfold aZ.«sorted»;refine hU (m:=checkCount "sorted" 1 1 _)<|iq ?_;refine hU<|G6 p (.inl H8) ho hc R (λh1 k1=>?_) (by rw[jw];omega);rw[List.toList_toArray];refine hU<|DY ?_ hl;have T:(h1.push<|bg "list" j.toArray 0).get? h1.objs.size=FM (bg "list" j.toArray 0):=kh _ rfl;have L:Inv X f g H {s with heap:=h1}:=I.kept k1;refine hU<|lZ<|wpAny_call_entry_kw (s:={s with heap:=h1.push (bg "list" j.toArray 0)}) v8 ⟨_,T,rfl⟩ tp ?body<|ksk_l1 _ _
  case body=>
   show ae _ _ (aZ.«list.sort» ⟨[.ref h1.objs.size],[(ba "key",.builtin "abs")]⟩) _ _ _;rw[ksk_t4];refine Nl (s:={s with heap:=h1.push (bg "list" j.toArray 0)}) T r (by omega) λh' tk C c k2 k3 ko=>⟨_,rfl,iq ⟨_,rfl,?_⟩⟩
   obtain⟨ps,U,k,Y⟩:=ko;rw[WN S (by omega)<|by omega] at U;obtain⟨a,F,rfl⟩:=nr _ U _ rfl;rw[jZ] at k
   have W: ∀t∈a,Rep X.K H O t.1 t.2.1/\RelV t.2.1 t.2.2:=λt hm=>by obtain⟨i,hi⟩:=uo<|F.mem_iff.mp hm;obtain⟨gb,Z⟩:=Fs.mp hi;obtain⟨y,B⟩:=Fs.mp Z;obtain⟨w,P,w2⟩:=v.get y;rw[B] at P;cases P;exact⟨E.views gb y,w2⟩
   have J:a.map (·.1)=nq ltA l:=by
    refine Np ?_ (by rw[qt] at Y ⊢;exact Y.imp λh=>by simpa using h) hn;have:=F.map (·.1)
    rwa [j2<|by simp;omega] at this
   have hR: ∀a:List (D×V×iC),(∀t∈a,Rep X.K H O t.1 t.2.1/\RelV t.2.1 t.2.2)->RepL X.K H O (a.map (·.1)) (a.map (·.2.1))/\Vals (a.map (·.2.1)) (a.map (·.2.2)):=λa=>by
    induction a with
    |nil=>exact λ_=>⟨.nil,.nil⟩
    |cons t a ih=>intro h;obtain⟨i1,i2⟩:=ih λx hx=>h x<|jU _ hx;exact⟨.cons (h t jP).1 i1,.cons (h t jP).2 i2⟩
   obtain⟨r1,r2⟩:=hR a W;have keep: ∀b o,h1.get? b=FM o->h'.get? b=FM o:=λb o e=>k2 b o (jG<|jl e)<|jS _ e;have N:a.length=l.length:=by have:=nM c9 J;rw[(jX ltA l).length_eq,jz] at this;exact this
   refine⟨.ref h1.objs.size,_,L.laid (t':=tk) keep (jQ _) (show ObjOk X.prog X.w _ _ _ (.lst (a.map (·.2.1))) from⟨by rw[jz,jI];omega,C.toList,c,?_,?_⟩),rfl,?_⟩
   .rw[k];exact r2
   .rw[Array.toArray_toList];exact k3
   .refine G.lst L.fresh ?_;rw[<-J];exact r1
 |_=>cases M
def Oc{a:iA}{i:TA}{p b w v:bC}(c:Gl X "sorted")(r:X.mg "sorted"=J)(k:Gl X "abs")(m:X.mg "abs"=J)(n:PA X [a] i)
  (o:aJ b (ac [a] X.env)=(C,aM a X.env)::aJ b (ac [] X.env))(l:(aJ b<|ac [a] X.env).any (·.1)=C):
  PE X (.Call (.Name "sorted" p) [a] [⟨Y "key",.Name "abs" w,v⟩] b) (tCB (rDn X.K<|g1 zF) i):=by
 intro f s g H Q T h;refine zf<|qV T c r L3<|callWith_kw (thn (n b f s g H _ T h) λN s1 ⟨E,B,e,y,t⟩=>kws_cons<|qV e k m Ws<|kws_nil ?_) o l I I;obtain⟨O,j,z,np,q,hv,c,G⟩:=t
 match j,c with
 |[d],c=>obtain⟨x,rfl⟩:=JP q I;obtain⟨u,rfl,A⟩:=qu y;exact HL e A np (hv 0 d x I I) c G
def NH{a:iA}{c:FO}{p b n m:bC}(k:Gl X "sorted")(l:X.mg "sorted"=J)(d:Gl X "abs")(h:X.mg "abs"=J)(i:PA X [a] (tA X.K [c]))
  (j:aJ b (ac [a] X.env)=(C,aM a X.env)::aJ b (ac [] X.env))(e:(aJ b<|ac [a] X.env).any (·.1)=C):
  PX X (.Call (.Name "sorted" p) [a] [⟨Y "key",.Name "abs" n,m⟩] b) (ir (g1 zF) [c]):=pxn<|Oc k l d h i j e
end
section
variable {prog:iU}{w:iK}{A:iP}{E:jf}{s:il}
def Sq:fM (.type "list") "keys"=pure J:=by rw[G1,G0];kernel_rfl
def VT{a:hV}{o:en}{q:nI}{k:Nat}{Q:CQ}(n:s.heap.get? a=Y o)(m:o.cls= .type "list")(i:o.data= .seq q k)(hd:o.dict=J)(t:A.handled=J)
  (h: ∀b p e,Heap.NewExcOf s.heap b e "AttributeError"->Q J {s with heap:=b,toks:=p}):ae (ag prog w) A (getAttr? (.ref a) "keys") Q E s:=by
 obtain⟨c,dct,r,v⟩:=o;simp only at m i hd;subst m i hd;obtain⟨u,g,d,p,os⟩:=s;have l: ∀j,(⟨u,g,d,j,os⟩:il).TypeIs (.ref a) "list":=λ_=>⟨_,n,rfl⟩
 have f1:=sub_AttributeError;have x:=QK.lookup;have y:=QK.bind<|.ref a;have z:=am_list_getattr_none;unfold getAttr? getAttrBy? getAttrBy
 repeat (any_goals (first|assumption|exact l _|((with_reducible show ae _ _ (call (fx "list.__getattribute__") _ _) _ _ _);refine AO QK (l _) am_entry_list_getattribute (F.args_list_getattribute_2 _ _) (meets_getattribute_miss_list a q k v "keys" _ Sq (by decide+kernel)) ⟨n,t,λb j e f=>?_⟩)|wp_step))
 obtain⟨O,T,B⟩:=f.there;show ae _ _ (nw _ _ _ _ _ _ _) _ _ _;unfold nw
 repeat (any_goals (first|assumption|wp_step))
 exact h _ _ _ f.of
end
noncomputable def fPop(i:Nat):F:=λa=>match a[i]? with
 |some (Y (.lst l,U))=>(l[Ix l-1]?).bind λd=>Y ((d,C),a.set i<|Y (.lst l.dropLast,U))
 |_=>J
section
variable {X:Cx}{x:aW}{i:Nat}{c a b:bC}
end
section
variable {X:Cx}
variable {a:iA}{c:FO}{p b e f g d:bC}{x:aW}{i:Nat}
def xSA(T:Tx X.mg)(k:QA X [a] [c])(m:Gl X "sorted":=by rfl)(j:Gl X "abs":=by rfl)(l:aJ b (ac [a] X.env)=(C,aM a X.env)::aJ b (ac [] X.env):=by rfl)(n:BA X b [a]:=by rfl):
  QX X (.Call (.Name "sorted" p) [a] [⟨Y "key",.Name "abs" e,f⟩] b) (ir (g1 zF) [c]):=⟨NH m (btM T (z:="sorted") I) j (btM T (z:="abs") I) k.h l n⟩
end
section
variable {X:Cx}{a:ji}{b:L2.St}{H:Hp}{s:il}
end
section
variable {X:Cx}
end
section
variable {a:iU}{w:iK}{A:iP}{E:jf}{I:hV}{c b:kH}{n:Nat}{P:Nat->iC->Prop}{St:Nat->iO->Prop}
end
section
variable {X:Cx}{A:kg}{a:bC}{c:kn}{b:List Tg}
end
section
variable {X:Cx}{A:kg}{a b:iA}{g:bC}
variable {e j:iA}{f:F}{x z:aW}{p o l m:bC}{i k:Nat}{L:kg}{q:Hp}
def xLS{c:pP}{scope:km}{w:FIt}{tt:Tg}{y:FT}{r:ky}{N':jr}{s:bC}(T:Tx X.mg)(C:CompOk X N' scope r k)(Q:N'.Nodup)(G:QI X (λi=>i∉r) c.target c.iter w)
  (J: ∀(cl:mq) (C:hV) (v:il) (t:Hp) (u:kH) (n:ji),(X.comp N' scope cl C v t u n).N.Nodup->
   QG (X.comp N' scope cl C v t u n) (λi=>Ix r<=i) c.target tt/\QF (X.comp N' scope cl C v t u n) c.ifs y/\QX (X.comp N' scope cl C v t u n) j f)
  (E:X.calm=U:=by rfl)(B:c.is_async=0:=by rfl)(I: ∀x,aw c.iter X.env x=pure x:=by intro _;rfl)(H:Gl X "len":=by rfl)
  (h1:ac [.SetComp j [c] scope g] X.env=(Go,aM (.SetComp j [c] scope g) X.env)::ac [] X.env:=by rfl)(O:(aJ s<|ac [] X.env).any (·.1)=Go:=by rfl):
  QX X (.Call (.Name "len" p) [.SetComp j [c] scope g] [] s) (vI r k w tt y<|B7 f):=
 ⟨K0 C E B (by intro M h;cases h) I G.h (λcl C v t u n=>let⟨a,b,c⟩:=J cl C v t u n Q;⟨a.h,b.h,λd=>Li H8 c.h⟩) H T.n_len Wr (by decide) (by decide) h1 O⟩
def iE1{B:SB}{d:kn}{w:Nat}{y:bC}{c:Int}{n:Nat}(T:Tx X.mg)(r:QX X a f)(s:bh c=U:=by decide)(u:Gl X "enumerate":=by rfl)(s0:SE X a []:=by rfl)
  (t:aJ g (ac [a] X.env)=(C,aM a X.env)::aJ g (ac [] X.env):=by rfl)(v:(aJ g<|ac [a] X.env).any (·.1)=C:=by rfl):
  QI X B (.Tuple d w y) (.Call (.Name "enumerate" p) [a] [⟨Y "start",.Constant (.int c) n l,m⟩] g) (xo c f):=⟨Le u T.n_enumerate r.h s s0 t v⟩
end
section
variable {X:Cx}{a:ji}{b:L2.St}{H:Hp}{s:il}
end
end PX
namespace TT
open PySem PyProof.Rows PySem.SeqAt
def Dt:fP n8 "dict.update.loop"=Y aZ.«dict.update.loop»:=entryFor_of_tree (by kernel_rfl)
def vC:plainId "dict.update.loop"=U:=by decide+kernel
section
variable {prog:iU}{w:iK}{A:iP}{R:h7->il->Prop}{I:hV}{c a:kH}{G:Array dO->Array dO->Prop}{n:Nat}{P:Nat->iC->Prop}{St:Nat->il->Prop}
def LQ(W:WalksS prog w A.in1 I c a G n P St)(S:hV)(H:S∉c)(s0:il)(j:Nat->iO->Prop)(stay: ∀i h f,j i h->(∀o,h.get? S=FM o->f.get? S=FM o)->j i f)
  (step: ∀i v (d:il),i<n->P i v->j i d.heap->k8 (S::a) G s0 d-> ∃p k x,v= .ref p/\d.heap.IsTuple p #[k,x]/\ ∀(Q:Unit->il->Prop) (E:jf),(∀f z,d.toks<=z->aC S d.heap f->j (i+1) f->Q () {d with heap:=f,toks:=z})->ae (ag prog w) A.in1 (z8 S k x) Q E d):
  ∀(k i:Nat) (s:il),n-i=k->i<=n->St i s->j i s.heap->k8 (S::a) G s0 s->(∀d,k8 (S::a) G s0 d->j n d.heap->R (.ok<|.ret .none) d)->
   cG (ag prog w) A (.builtin "dict.update.loop" ⟨[.ref S,.ref I,cr i,.none],[]⟩) R s:=by
 have O:S∉a:=λh=>H<|W.sub _ h;have M: ∀b∈a,b∈S::a:=λb l=>jU _ l;intro k
 induction k with
 |zero=>
  intro i s hk X y t q r;have Y:i=n:=by lia
  subst Y;refine qq Dt ?_;rw[tQ vC _];show ae _ A.in1 (b6 (.ref I)>>=_) _ _ s;refine hU<|W.done s _ _ y λd m=>?_;show ae _ A.in1 (s8 S []>>=λ_=>ret am) _ _ d;exact hU<|iq<|iq<|r d (DO W.gtrans q<|m.mono M)<|stay _ _ _ t λo e=>m.heap S o O e
 |succ k ih=>
  intro i s hk X y t q r;have u:i<n:=by lia
  refine qq Dt ?_;rw[tQ vC _];show ae _ A.in1 (b6 (.ref I)>>=_) _ _ s;refine hU<|W.item i s _ _ u y λv d F U m=>?_;have L:=DO W.gtrans q<|m.mono M;obtain⟨p,J,x,rfl,Z,g⟩:=step i v d u F (stay _ _ _ t λo e=>m.heap S o O e) L;show ae _ A.in1 (bo [.ref p] _>>=_) _ _ d;refine hU<|lZ ?_;obtain⟨o,T,V,n',N⟩:=Z;have K:d.TypeIs (.ref p) "tuple":=⟨o,T,V⟩
  refine hU<|t7 ?_;unfold sB;refine hU<|tR K ?_;show ae _ _ (seqItems? (.ref p)>>=_) _ _ _;refine hU<|sj T N ?_;refine iq ?_;show ae _ _ (bo [J,x]<|z8 S J x) _ _ _;refine lZ<|g _ _ λf z C B D=>?_;refine iq ⟨vX vC _,ih (i+1) _ (by lia) u (W.frame _ d _ _ U C λb l o e=>?_) D (L.then_heap C λb o l e=>?_) r⟩
  .rw[B.2 b λh:b=S=>H<|by rw[<-h];exact l];exact e
  .rw[B.2 b λh:b=S=>l<|by rw[h];exact jP];exact e
end
section
variable {prog:iU}{w:iK}{A:iP}{E:jf}{s:il}
noncomputable abbrev Jb:Obj:={cls:= .type "dict",data:= .dict #[]}
def Ut{l:hV}{a:nI}{n:Nat}{r:en}{Q:jf}(T:A.handled=F2)(J:s.heap.get? l=FM r)(y:r.cls= .type "list")(H:r.data= .seq a n)(fW:r.dict=F2)(j:Nat->iO->Prop)
  (stay: ∀i h d,j i h->(∀o,h.get? s.heap.objs.size=FM o->d.get? s.heap.objs.size=FM o)->j i d)
  (qL: ∀d,d.get? s.heap.objs.size=FM Jb->j 0 d)
  (step: ∀i v (c:il) (B:iP),B.units<=A.units+20->a[i]?=FM v->j i c.heap->(∀b o,s.heap.get? b=FM o->c.heap.get? b=FM o)->c.gens=s.gens->c.drawn=s.drawn->c.os=s.os->
   ∃p k x,v= .ref p/\c.heap.IsTuple p #[k,x]/\ ∀(Q:Unit->il->Prop) (E:jf),(∀d t,c.toks<=t->aC s.heap.objs.size c.heap d->j (i+1) d->Q () {c with heap:=d,toks:=t})->ae (ag prog w) B (z8 s.heap.objs.size k x) Q E c)
  (h: ∀(d:iO) (t:Nat),j a.size d->(∀b o,s.heap.get? b=FM o->d.get? b=FM o)->Q (.ref s.heap.objs.size) {s with heap:=d,toks:=t}):
  ae (ag prog w) A (call (.type "dict") [.ref l]) Q E s:=by
 refine vu (Q₁:=λobj g=>obj= .ref s.heap.objs.size/\g={s with heap:=s.heap.push Jb}) F.kt_called_dict (F.kt_typeCall_dict_1 _) F.entry_dict_init (kt_code_dict_new _ ⟨rfl,rfl⟩) ?_;rintro obj g ⟨rfl,rfl⟩;have I:(s.heap.push Jb).get? s.heap.objs.size=FM Jb:=kh _ rfl;have O:Shared.TypeIs {s with heap:=s.heap.push Jb} (.ref s.heap.objs.size) "dict":=⟨_,I,rfl⟩
 have u:(s.heap.push Jb).get? l=FM r:=jS _ J;have C:Shared.TypeIs {s with heap:=s.heap.push Jb} (.ref l) "list":=⟨_,u,y⟩
 refine⟨O,F.args_dict_init_2 _ _,?_⟩;unfold aZ.«dict.__init__»;refine hU ?_;unfold sx;refine hU<|Mk O ?_;show ae _ _ (pure (s.heap.objs.size,[bb l])) _ _ _;refine iq ?_;show ae _ _ (eP "dict.__init__" s.heap.objs.size (.ref l) [] .none) _ _ _;unfold eP;refine hU<|tR C ?_;rw[iF<|by decide];refine hU<|PX.VT u y H fW (by simp[T]) λh1 eE e1 z=>?_;have m:h1.IsList l a:=⟨_,z.keeps _ _ u,y,n,H⟩
 have q:=z.keeps _ _ I;have fX:l<s.heap.objs.size:=jl J;have L:s.heap.objs.size<h1.objs.size:=jl q;have N:l≠h1.objs.size:=by lia
 have U:s.heap.objs.size∉[h1.objs.size,l]:=by simp only[ku,ll,lY,pk];lia
 have S:A.in1.in1.handled=F2:=by simp[T]
 have W:=Ee (prog:=prog) (w:=w) S h1.objs.size l N a;show ae _ _ (rule _>>=λ_=>c8 (.ref l)>>=λit=>again<|.builtin "dict.update.loop" ⟨[.ref s.heap.objs.size,it,cr 0,.none],[]⟩) _ _ _;refine hU<|uq ?_;refine hU<|zg m ?_;refine iq ⟨vX vC _,?_⟩
 have ext: ∀{G:Array dO->Array dO->Prop} {s0 c:il},(∀b o,h1.get? b=FM o->s0.heap.get? b=FM o)->k8 (s.heap.objs.size::[h1.objs.size]) G s0 c-> ∀b o,s.heap.get? b=FM o->c.heap.get? b=FM o:=λ{G s0 c} Z f b o e=>by have hb:=jl e;exact f.heap b o (by simp only[ku,ll,lY,pk];lia)<|Z _ _ (z.keeps _ _ (jS _ e))
 refine LQ W.toS s.heap.objs.size U _ j stay ?st (a.size-0) 0 _ (by lia) (mr _) ⟨⟨_,kh _ rfl,rfl,rfl⟩,m.push _⟩ (qL _ (jS _ q)) (p6 λ_=>rfl) ?hR
 case st=>exact λi v c hi hP X f=>step i v c _ (by show A.units+1+1<=A.units+20;lia) hP X (ext (λ_ _ e=>jS _ e) f) f.gens f.drawn f.os
 case hR=>intro c f x9;have ex:=ext (λ_ _ e=>jS _ e) f;obtain⟨d,V,D,M,Y⟩:=c;have P:V=s.gens:=f.gens;have K:D=s.drawn:=f.drawn;have R:Y=s.os:=f.os;subst P;subst K;subst R;exact⟨rfl,h d M x9 ex⟩
end
end TT
namespace PX
open PySem PySem.Spec PyProof.Rows L2 PySem.SeqAt
noncomputable def kyT:D->Option (List Key)
 | .tup [k,.bl U]=>An k
 |_=>J
noncomputable def Lw:List D->Option (List<|List Key)
 |[]=>Y []
 |d::l=>(kyT d).bind λk=>(Lw l).map (k:: ·)
def zH:D->Option (D×Bool)
 | .lst l=>(Lw l).bind λa=>if (Ix a)<=1000/\a.Nodup then Y (.oth .dct (a.map λk=> .tup (k.map ke))<|a.map λ_=> .bl U,U) else J
 |_=>J
noncomputable abbrev kvT(a:List (List Key)):List (List Key×V):=a.map λk=>(k,V.bl U)
def SJ: ∀{l:List D} {a:List (List Key)},Lw l=Y a->Ix l=Ix a/\ ∀(i:Nat) k,a[i]?=Y k-> ∃d,An d=Y k/\l[i]?=Y (.tup [d,.bl U]):=by
 intro j
 induction j with
 |nil=>intro a h;cases h;exact⟨rfl,λi p h=>by simp at h⟩
 |cons d l g=>
  intro a h;obtain⟨p,h1,h⟩:=hJ h;obtain⟨m,f,rfl⟩:=jB h;obtain⟨c,e⟩:=g f;refine⟨by simp[c],λi q b=>?_⟩
  cases i with
  |zero=>
   simp at b;subst b;unfold kyT at h1;split at h1
   .exact⟨_,h1,rfl⟩
   .cases h1
  |succ i=>simpa using e i q (by simpa using b)
def XN{P:iU}{w:iK}{T:Hp}{h:iO}(ok:HOk P w T h): ∀{l:List (List Key×V)} {m:List (List Key×hV×iC)},L2.KT T l m-> ∀x∈m,(cE<|kR P w).is h x.1 x.2.1:=by
 intro l m q
 induction q with
 |nil=>intro x a;exact nomatch a
 | @cons p q d f b t c=>
  intro x a;rcases ku.mp a with e|a
  .subst e;exact sZ ok (by rw[<-b.1];exact b.2.1)
  .exact c x a
def J9{T:Hp}{l:List (List Key×V)}{m:List (List Key×hV×iC)}(q:L2.KT T l m):m.map (·.1)=l.map (·.1):=by
 induction q with
 |nil=>rfl
 |cons a t b=>rw[jx,jx,b,a.1]
def SM{T:Hp}{l:List (List Key×V)}{m:List (List Key×hV×iC)}{p q}(h:L2.KT T l m)(a:p.1=q.1/\T q.2.1=Y (.tup<|p.1.map kV)/\RelV p.2 q.2.2):L2.KT T (l++[p]) (m++[q]):=by
 induction h with
 |nil=>exact .cons a .nil
 |cons h t b=>exact .cons h b
def SN{T b:Hp}{l:List (List Key×V)}{m:List (List Key×hV×iC)}(c: ∀a u,T a=Y u->b a=Y u)(h:L2.KT T l m):L2.KT b l m:=by
 induction h with
 |nil=>exact .nil
 |cons h t d=>exact .cons ⟨h.1,c _ _ h.2.1,h.2.2⟩ d
def UX{K:iM}{T:Hp}{O:AP'}: ∀a:List (List Key),RepL K T O (a.map λ_=> .bl U) ((kvT a).map (·.2)):=by
 intro c
 induction c with
 |nil=>exact RepL.nil
 |cons _ a b=>exact RepL.cons Rep.mkBl<|b
def DIs(P:iU)(w:iK)(T:Hp)(S:hV)(c:List (List Key))(h:iO):Prop:= ∃m:List (List Key×hV×iC),L2.KT T (kvT c) m/\ ∃o a b,h.get? S=Y o/\o.ExactDict/\o.data= .dict a b/\a.toList=m.map (entryOfKey<|cE<|kR P w)/\(m.map (·.1)).Nodup
section
variable {X:Cx}
def Ji(hu:X.A.units+62<aX)(hc:X.calm=Gc):kQ X (.type "dict") (rDn X.K<|g1 zH):=pd λE s σ H x u Q O d z I ru np hd L G=>by
 cases d with
 |lst l=>
  obtain⟨f,P,L⟩:=hJ L;obtain⟨⟨hz,eZ⟩,rfl⟩:=jh L;obtain⟨p,xs,rfl,q,r⟩:=lg hd;cases ru;obtain⟨n,v,⟨ol,nn,de,dU,fW,fg⟩,_⟩:=I.list q;obtain⟨e0,y⟩:=SJ P;have e1:=r.length;have e2:=v.length;have hh:X.A.handled=F2:=I.ok.hd hc;have S:=I.fresh
  refine TT.Ut hh de dU fg fW (λi h=>DIs X.prog X.w H s.heap.objs.size (f.take i) h)
   (λi h h' ⟨m,k,o,N,M,e,c⟩ st=>⟨m,k,o,N,M,st _ e,c⟩) (λh' e=>⟨[],.nil,_,#[],0,e,⟨rfl,rfl,rfl⟩,rfl,rfl,lX⟩) (λi w s' B hB hi ⟨m,hk,hd⟩ T eg ed eo=>?_) (λh' tk ⟨m,hk,hd⟩ T=>?_)
  .have hil:i<n.length:=by have:=(L8.mp hi).1;simpa using this
   have hw:n[i]?=FM w:=by simpa using hi
   have C:f[i]?=FM f[i]:=jt (by lia);have Z:xs[i]?=FM xs[i]:=jt (by lia);obtain⟨w',w1,w2⟩:=v.get Z;rw[hw] at w1;cases w1;obtain⟨dk,D,df⟩:=y i _ C;have bz:Rep X.K H O (.tup [dk,.bl Gc]) xs[i]:=r.views df Z;obtain⟨h1,g1,dr1,eE,os1⟩:=s';dsimp only at T eg ed eo hd;subst eg;subst ed;subst eo;have J:Inv X E σ H {s with heap:=h1,toks:=eE}:=I.kept T;obtain⟨a,ys,ea,sq,g⟩:=ma<|.inl bz;rw[ea] at w2;cases w2;obtain⟨b8,v2,cj,_⟩:=J.tuple sq;rw[RepL] at g;obtain⟨y1,r1,rfl,p1,g⟩:=g;rw[RepL] at g;obtain⟨y2,r2,rfl,p2,g⟩:=g;rw[RepL] at g;subst g;obtain⟨b,rfl,hb⟩:=pK D<|.inl p1;rw[Rep] at p2;subst p2;obtain⟨u1,u2,rfl,V,W⟩:=CT v2;cases V;refine⟨a,_,_,rfl,cj,λQ' E' hq=>?_⟩;obtain⟨o,N,M,g1,g2,g3,g4,g5⟩:=hd
   have hm:f[i]∉m.map (·.1):=by rw[J9 hk];intro dn;rw[jZ] at dn;obtain⟨x,hx,e⟩:=mS.mp dn;obtain⟨j,F,e3⟩:=D4 hx;rw[rp] at F;rw[List.getElem_take] at e3;have j3:=QD.mp eZ j i (by lia) (by lia) (by lia);exact j3<|e3.trans e
   have Y:fB m f[i]=F2:=atKey_none_of_get λj p' F=>hm<|mS.mpr ⟨_,nK F,rfl⟩
   have hml:m.length<=1000:=by have:=nM c9<|J9 hk;simp at this;lia
   refine wpAny_dictSet_heap (knd:=cE<|kR X.prog X.w) (k:=f[i]) (show(cE<|kR X.prog X.w).room B from(by show B.units<aX;lia)) (sZ J.hok hb) (xs:=m) ⟨o,N,M,g1,g2,g3,g4,XN J.hok hk,g5⟩ (λh2 t aa=>hq h2 _ (Nat.le_add_right _ _) aa ?_) (by rw[jI];lia);rw[storedH_new Y] at t;obtain⟨o',U,et,k1,k2,k3,k4,_,k5⟩:=t;refine⟨_,?_,o',U,et,k1,k2,k3,k4,k5⟩;rw[D2,C];show L2.KT H (cn _ (f.take i++[f[i]])) _;rw[pR];exact SM hk ⟨rfl,hb,W⟩
  .have R:n.toArray.size=f.length:=by simp;lia
   rw[R,j0] at hk;refine⟨.ref s.heap.objs.size,upd H s.heap.objs.size<|.dT<|kvT f,I.laid T (jQ _) ⟨?_,?_,m,SN (λa u e=>by rw[jk<|mD e S];exact e) hk,hd⟩,rfl,?_⟩
   .rw[jz,jI];lia
   .have:=I.big;simp only[Ai,ne_eq]
    lia
   .refine G s.heap.objs.size _ S (lS S) ⟨(kvT f).map (·.2),.inr ⟨kvT f,jm,?_,rfl⟩,?_⟩
    .rw[jZ];rfl
    .exact UX _
 |_=>cases L
variable {a:iA}{g:FO}{p f:bC}
def WQ(j:X.A.units+62<aX)(i:X.mg "dict"=J)(b:QA X [a] [g])(c:X.calm=U:=by rfl)(e:Gl X "dict":=by rfl)(d:SE X a []:=by rfl)(k:BA X f []:=by rfl):QX X (.Call (.Name "dict" p) [a] [] f) (ir (g1 zH) [g]):=
 ⟨JI (Ji j c) e i (by decide+kernel) b.h (by decide) (by decide) d k⟩
end
end PX
namespace L2
open PySem PySem.Spec PyProof.Rows PySem.W
end L2
namespace PX
open PySem PySem.Spec PyProof.Rows L2
end PX
namespace L2
open PySem PySem.Spec PyProof.Rows PySem.W
section
variable {P:iU}{w:iK}{a:List eO}{H f:Hp}{s b:il}{C e:hV}{c B d:iO}{F:kH}
end
section
variable {X:Cx}{b:ji}{c:St}{H:Hp}{s d:il}{C e:hV}
variable {P:iU}{w:iK}{a:List eO}{f:Hp}{s0:il}{E:XK}
end
section
variable {X:Cx}{P:iU}{w:iK}{b:List eO}{f:Hp}{s0:il}{E:XK}{x:aW}{C:hV}{a:iA}{d:TE}{np e c:bC}
end
section
variable {X:Cx}{b:ji}{f:St}{H:Hp}{s:il}{P c:hV}{a:fy}{d:iA}{scope:km}{g:mq}{e:bC}
end
section
variable {g:CXT}{P:iU}{w:iK}{K:Frag}{c:nJ}{base:iO}{N:jr}{q:aW}{scope:km}{d:hV}{e:iC}{f:mq}{A:iP}{a:List eO}{s:il}{H:Hp}{E:XK}{b:St}
end
open PySem.Calls Builtin Builtin.ObjectAttr Builtin.Getset_descriptor
section
variable {K:Frag}{C x:hV}{o:en}
end
section
variable {X:Cx}{b:ji}{d c:St}{H:Hp}{s:il}{a:hV}{o:en}{e:iO}
end
section
variable {X:Cx}{a:ji}{b:St}{H h:Hp}{s c:il}{C f:hV}{d B e:iO}{F:kH}{g:iC}
end
end L2
namespace PX
open PySem PySem.Spec PyProof.Rows L2 PySem.SeqAt PySem.W
abbrev XS:=Dn->Option aW
section
variable {X:Cx}{P:iU}{w:iK}{c:List eO}{l:Hp}{s0:il}{E:XK}{A:kg}{st:b7}{sts a b:List b7}{x y:XS}{e:iA}{d:bC}
variable {k:Nat}{f:hV}{i:oI}{h:jr}{g:List D->Option aW}{j:kn}{fs:List FO}{z:aW}{p:bC}
end
end PX
namespace L2
open PySem PySem.Spec PyProof.Rows PySem.W
section
variable {fs:kH}{N:jr}{scope:km}{f:mq}{c:St}{H g:Hp}{h d:iO}{q:aW}{a:fy}{b:iA}{e:hV}
end
section
variable {X:Cx}{N:jr}{scope:km}{e:mq}{c:St}{q:aW}{a:fy}{b:iA}{d:hV}{k:Nat}{t:XK->TE}
end
end L2
namespace PX
open PySem PySem.Spec PyProof.Rows L2 PySem.SeqAt PySem.W
section
variable {X:Cx}
end
section
variable {X:Cx}{u c:hV}{a:fy}{e:iA}{scope:km}{f b r:bC}{d:ky}{w v:jr}{t:F}{xB:XS}{g:FS}{x:aW->Option Nat}{l:ky}{st:b7}{s:hV}{h:oI}{p q n m o:aW}{CR:hV}{i j k:Nat}
end
section
variable {X:Cx}
variable {b f a e c:bC}{i:Nat}{x:aW}{d:Nat}
end
section
variable {X:Cx}{e:iA}{h:FO}{c p d:bC}{z:aW}{l:ky}{k:Nat}
variable {x:aW}{i g:Nat}{j b:bC}{a:iA}{f:F}
end
section
variable {X:Cx}{P:iU}{w:iK}{d:List eO}{o:Hp}{s0:il}{E:XK}{A:kg}{st:b7}{sts b:List b7}{x y:XS}{e:iA}{g p j:bC}{f:FS}{z:aW}{a:iA}{m:F}{k:Nat}{i:jr}{h:List D->Option aW}{n:kn}{fs:List FO}{l:FT}{c:iA}
end
section
variable {X:Cx}{k:Nat}{f:hV}{d:oI}{c:jr}{x:aW}{p b:bC}{e a:iA}{i:kn}{h:EvF}{fs:List FO}{g:FO}{TB:List (hV×aW)}
end
section
variable {Z:ZZ}{ct a:List (aW×Nat)}{CR:Nat}
end
end PX
set_option backward.eqns.nonrecursive true
namespace PV
open PySem PySem.Spec PyProof.Rows L2 PX
noncomputable abbrev Yt:Nat:=100000
def Ag:FS:=ig (jK<|vc (kN (uh [.int])<|gZ 0)<|P5<|kN (uh [.bool])<|gZ 0) iB
def oR:EvF:=evF 1 1 [] Ag
def tD:FS:=ig (jK<|vc (ik oR [gZ 0])<|mZ .LtE .LtE (gZ 1) (gZ 0)<|gZ 2) iB
def mQ:EvF:=evF 3 3 [] tD
def BH:FS:=ig (jK<|ik mQ [gZ 1,hG<|fC<|.int 1,gZ 0]) iB
def tH:EvF:=evF 2 2 [] BH
def xt:FS:=ig (jK<|vc (ik oR [gZ 1])<|ik tH [gZ 0,hG<|ir (g1 mF) [gZ 1]]) iB
def lD:EvF:=evF 2 2 [] xt
def nu:FS:=ig (sIf (qW (kW<|fT<|kN (uh [.tuple])<|gZ 1)<|fT<|ie gNe (hG<|ir (g1 oz) [gZ 1])<|gZ 0) (ig (jK<|fC<|.bl C) iB) iB)<|ig (sIf (kW<|fT<|ir (g1 zI) [hG<|iT [0] 1 (iJ<|iI 1) (hW 1) je<|jb<|ik lD [gZ 0,gZ 1]]) (ig (jK<|fC<|.bl C) iB) iB)<|ig (jK<|ie gEq (hG<|vI [] 1 (iJ<|iI 1) (hW 0) je<|B7<|ir (g1 mF) [gZ 0])<|gZ 0) iB
def kd:EvF:=evF 2 2 [] nu
def Af:FS:=ig (jK<|fIf (fT<|ie (lr .Gt) (gZ 1)<|hG<|fC<|.int 0) (ie gIx (gZ 0)<|hG<|ie gSub (gZ 1)<|hG<|fC<|.int 1)<|kN mN<|hG<|ie gIx (gZ 0)<|hG<|ie gSub (hG<|kN mN<|gZ 1)<|hG<|fC<|.int 1) iB
def oQ:EvF:=evF 2 2 [] Af
def qh:FS:=ig (sIf (fT<|ie (lr .Lt) (gZ 1)<|hG<|ir (g1 oz) [gZ 0]) (ig (jK<|ie gIx (gZ 0)<|gZ 1) iB) iB)<|ig (jK<|fC<|.int 0) iB
def mI:EvF:=evF 2 2 [] qh
def tq:FS:=ig (iY 2<|ik mI [gZ 0,gZ 1])<|ig (sIf (fT<|ie (lr .GtE) (gZ 2)<|hG<|ie Fb (hG<|fC<|.int 10)<|hG<|fC<|.int 18) (ig (jK<|lj [ie gSub (gZ 2)<|hG<|ie Fb (hG<|fC<|.int 10)<|hG<|fC<|.int 18,fC<|.bl U]) iB) iB)<|ig (jK<|lj [ie yn (gZ 2)<|hG<|fC<|.int 2147483647,fC<|.bl C]) iB
def mO:EvF:=evF 3 2 [2] tq
def uZ:FS:=ig (sIf (fT<|ie gIx (gZ 0)<|hG<|fC<|.int 1) (ig (iY 2<|ie yn (hG<|ie gIx (gZ 0)<|hG<|fC<|.int 0)<|gZ 1)<|ig (oX 0 (ie PL (hG<|ie gIx (gZ 0)<|hG<|fC<|.int 0)<|gZ 1)<|hG<|fC<|.int 0)<|ig (mw 2) iB) iB)<|ig (oX 0 (ie yn (hG<|ie jY (hG<|ie ug (hG<|ie gIx (gZ 0)<|hG<|fC<|.int 0)<|hG<|fC<|.int 48271)<|hG<|fC<|.int 29)<|hG<|fC<|.int 2147483647)<|hG<|fC<|.int 0)<|ig (iY 3<|ie yn (hG<|ie jY (hG<|ie jY (hG<|ie ug (hG<|ie gIx (gZ 0)<|hG<|fC<|.int 0)<|hG<|ie gIx (gZ 0)<|hG<|fC<|.int 0)<|hG<|ie ug (hG<|fC<|.int 39373)<|hG<|ie gIx (gZ 0)<|hG<|fC<|.int 0)<|hG<|fC<|.int 7)<|hG<|fC<|.int 2147483629)<|ig (iY 3<|ie yn (hG<|ie jY (hG<|ie ug (gZ 3)<|gZ 3)<|hG<|ie ug (hG<|fC<|.int 16807)<|gZ 3)<|hG<|fC<|.int 2147483587)<|ig (jK<|ie yn (hG<|ie PL (gZ 3)<|hG<|fC<|.int 8)<|gZ 1) iB
def iG:EvF:=evF 4 2 [2,3] uZ
def BE:FS:=ig (iY 2<|ir (gRg .lst U) [hG<|fC<|.int 1,hG<|ie jY (gZ 1)<|hG<|fC<|.int 1])<|ig (iY 3<|lj [])<|ig (mX (uf<|gZ 1) (hW 4)<|ig (nS<|lT 3<|ie ug (hG<|xv 2<|hG<|ik iG [gZ 0,hG<|ir (g1 oz) [gZ 2]])<|hG<|ie gIx (hG<|lj [fC<|.int 1,kN mN<|hG<|fC<|.int 1])<|hG<|ik iG [gZ 0,hG<|fC<|.int 2]) iB)<|ig (jK<|ir (g1 ml) [gZ 3]) iB
def kM:EvF:=evF 5 2 [2,3,4] BE
def Fe:FS:=ig (jK<|ir (g1 zI) [hG<|iT [] 2 (Ad (iI 0)<|oP (gZ 0)<|hG<|fC<|.int 1) (oN [hW 0,hW 1]) je<|jb<|ie (lr .Lt) (gZ 0)<|gZ 1]) iB
def tE:EvF:=evF 1 1 [] Fe
def pG:FS:=ig (sIf (qW (kW<|fT<|kN (uh [.tuple])<|gZ 1)<|kW<|fT<|mZ .LtE .LtE (hG<|fC<|.int 1) (hG<|ir (g1 oz) [gZ 1])<|hG<|fC<|.int 5) (ig (jK<|fC<|.bl C) iB) iB)<|ig (sIf (kW<|fT<|ir (g1 zI) [hG<|iT [0] 1 (iJ<|iI 1) (hW 1) je<|jb<|ik lD [gZ 0,gZ 1]]) (ig (jK<|fC<|.bl C) iB) iB)<|ig (jK<|ik tE [hG<|iT [] 1 (iJ<|iI 1) (hW 0) je<|jb<|ir (g1 mF) [gZ 0]]) iB
def lA:EvF:=evF 2 2 [] pG
def CH:FS:=ig (iY 2<|ie gIx (hG<|lj [fC<|.int 3,fC<|.int 4,fC<|.int 6])<|hG<|ik iG [gZ 0,hG<|fC<|.int 3])<|ig (iY 3<|lj [])<|ig (mX (IF (hG<|fC<|.int 1)<|hG<|ie jY (gZ 1)<|hG<|fC<|.int 1) (hW 4)<|ig (iY 5<|ik iG [gZ 0,gZ 2])<|ig (sIf (fT<|ie (lr .Lt) (gZ 5)<|hG<|fC<|.int 2) (ig (nS<|lT 3<|ie gIx (hG<|lj [iI 4,kN mN<|gZ 4])<|gZ 5) iB) iB) iB)<|ig (sIf (fT<|ie gEq (gZ 3)<|hG<|lj []) (ig (nS<|lT 3<|ie ug (hG<|ie gIx (hG<|lj [fC<|.int 1,kN mN<|hG<|fC<|.int 1])<|hG<|ik iG [gZ 0,hG<|fC<|.int 2])<|hG<|ie jY (hG<|fC<|.int 1)<|hG<|ik iG [gZ 0,gZ 1]) iB) iB)<|ig (jK<|ir (g1 ml) [gZ 3]) iB
def kc:EvF:=evF 6 2 [2,3,4,5] CH
def tZ:FS:=ig (jK<|ie ug (hG<|ie gIx (gZ 0)<|hG<|ie gSub (hG<|ir (g1 mF) [gZ 1])<|hG<|fC<|.int 1)<|hG<|ie gIx (hG<|lj [kN mN<|hG<|fC<|.int 1,fC<|.int 1])<|hG<|ir (g1 IK) [hG<|ie (lr .Gt) (gZ 1)<|hG<|fC<|.int 0]) iB
def mf:EvF:=evF 2 2 [] tZ
def yp:FS:=ig (iY 2 BM)<|ig (mX (iJ<|iI 1) (hW 3)<|ig (iY 4<|ik mf [gZ 0,gZ 3])<|ig (FV 2 (iI 4)<|hG<|ir (g1 mF) [gZ 4]) iB)<|ig (jK<|ir (g1 ml) [hG<|iT [2] 1 (iJ<|ir (g1 lz) [gZ 2]) (hW 1) je<|jb<|ie Gy (gZ 0)<|gZ 1]) iB
def jy:EvF:=evF 5 2 [2,3,4] yp
def CG:FS:=ig (iY 2<|ir (g1 Ae) [gZ 0])<|ig (iY 3<|fC<|.int 0)<|ig (qi (fT<|ie (lr .Lt) (gZ 3)<|hG<|ir (g1 oz) [gZ 2]) (ig (mX (iJ<|iI 1) (hW 4)<|ig (iY 5<|ik jy [gZ 4,hG<|ie gIx (gZ 2)<|gZ 3])<|ig (sIf (fT<|ie mY (gZ 5)<|gZ 2) (ig (nS<|lT 2<|iI 5) iB) iB) iB)<|ig (iY 3<|ie jY (gZ 3)<|hG<|fC<|.int 1) iB) Yt)<|ig (mw 2) iB
def oH:EvF:=evF 6 2 [2,3,4,5] CG
def CF:FS:=ig (iY 3<|ie jY (gZ 1)<|hG<|ik iG [gZ 0,hG<|ie jY (hG<|ie gSub (gZ 2)<|gZ 1)<|hG<|fC<|.int 1])<|ig (iY 4<|ik iG [gZ 0,hG<|fC<|.int 4])<|ig (sIf (fT<|ie gEq (gZ 3)<|hG<|fC<|.int 0) (ig (jK<|jD [fC<|.int 0,jD []]) iB) iB)<|ig (iY 5<|ik iG [gZ 0,hG<|ie gIx (hG<|lj [fC<|.int 4,fC<|.int 8,fC<|.int 13])<|hG<|ik iG [gZ 0,hG<|fC<|.int 3]])<|ig (iY 6<|iT [0,3] 1 (uf<|gZ 5) (hW 2) je<|jb<|ik kc [gZ 0,gZ 1])<|ig (sIf (fT<|ie (lr .Gt) (gZ 4)<|hG<|fC<|.int 0) (ig (iY 7<|iT [0,3] 1 (uf<|hG<|ie jY (hG<|fC<|.int 1)<|hG<|ie yn (gZ 4)<|hG<|fC (.int 2)) (hW 2) je<|jb<|ik kM [gZ 0,gZ 1])<|ig (sIf (fT<|ie gEq (gZ 4)<|hG<|fC<|.int 3) (ig (iY 7<|iT [] 1 (iJ<|iI 7) (hW 0) je<|jb<|ir (g1 ml) [hG<|iT [] 1 (iJ<|iI 0) (hW 0) je<|jb<|ir (g1 mF) [gZ 0]]) iB) iB)<|ig (iY 6<|ik oH [hG<|nW (hG<|ir (g1 lz) [hG<|ir (g1 IJ) [gZ 6]])<|hG<|fC<|.int 2,gZ 7]) iB) iB)<|ig (iY 6<|ir (g1 lz) [hG<|ir (g1 IJ) [gZ 6]])<|ig (sIf (fT<|ie (lr .Gt) (hG<|ir (g1 oz) [gZ 6])<|hG<|fC<|.int 30) (ig (iY 6<|nW (gZ 6)<|hG<|ik iG [gZ 0,hG<|fC<|.int 30]) iB) iB)<|ig (jK<|jD [iI 3,ir (g1 ml) [gZ 6]]) iB
def oG:EvF:=evF 8 3 [3,4,5,6,7] CF
def nV:FS:=ig (jK<|vc (kN (uh [.int])<|gZ 0)<|vc (P5<|kN (uh [.bool])<|gZ 0)<|mZ .LtE .LtE (gZ 1) (gZ 0)<|gZ 2) iB
def jT:EvF:=evF 3 3 [] nV
def rT:FS:=ig (sIf (qW (kW<|fT<|kN (uh [.tuple])<|gZ 1)<|fT<|ie gEq (gZ 1)<|hG<|jD []) (ig (jK<|fC<|.bl C) iB) iB)<|ig (iY 2<|fC<|.int 0)<|ig (mX (iJ<|iI 1) (hW 3)<|ig (sIf (qW (kW<|fT<|ik jT [gZ 3,hG<|kN mN<|gZ 0,gZ 0])<|fT<|ie (lr .LtE) (hG<|ir (g1 mF) [gZ 3])<|gZ 2) (ig (jK<|fC<|.bl C) iB) iB)<|ig (iY 2<|ir (g1 mF) [gZ 3]) iB)<|ig (jK<|fC<|.bl U) iB
def lN:EvF:=evF 4 2 [2,3] rT
def Dq:FS:=ig (jK<|ik mQ [gZ 0,hG<|fC<|.int 0,hG<|fC<|.int 1]) iB
def rW:EvF:=evF 1 1 [] Dq
def yt:FS:=ig (jK<|vc (kN (uh [.tuple])<|gZ 1)<|vc (ie gEq (hG<|ir (g1 oz) [gZ 1])<|gZ 0)<|ir (g1 zI) [hG<|iT [] 1 (iJ<|iI 1) (hW 0) je<|jb<|ik rW [gZ 0]]) iB
def nZ:EvF:=evF 2 2 [] yt
def Gz:FS:=ig (jK<|ie gEq (hG<|ie gIx (gZ 0)<|hG<|ie gSub (hG<|ir (g1 mF) [gZ 1])<|hG<|fC<|.int 1)<|hG<|fIf (fT<|ie (lr .Gt) (gZ 1)<|hG<|fC<|.int 0) (fC<|.int 1)<|fC<|.int 0) iB
def vd:EvF:=evF 2 2 [] Gz
def Ap:FS:=ig (jK<|ir (g1 IL) [hG<|iT [0] 1 (iJ<|iI 1) (hW 1) je<|jb<|ik vd [gZ 0,gZ 1]]) iB
def mh:EvF:=evF 2 2 [] Ap
def PN:FS:=ig (FU (oN [hW 2,hW 3])<|iI 0)<|ig (jK<|vc (ik nZ [gZ 2,gZ 1])<|ir (g1 zI) [hG<|iT [1] 1 (iJ<|iI 3) (hW 1) je<|jb<|ik mh [gZ 0,gZ 1]]) iB
def yv:EvF:=evF 4 2 [2,3] PN
def BJ:FS:=ig (iY 1<|lj [jD []])<|ig (mX (uf<|gZ 0) (hW 2)<|ig (iY 1<|iT [] 2 (iJ<|iI 1) (hW 0) je<|Jl (iJ<|jD [fC<|.int 0,fC<|.int 1]) (hW 1) je<|jb<|ie jY (gZ 0)<|hG<|jD [iI 1]) iB)<|ig (mw 1) iB
def mK:EvF:=evF 3 1 [1,2] BJ
def IQ:FS:=ig (jK<|iT [0] 1 (iJ<|ik mK [hG<|ie gIx (gZ 0)<|hG<|fC<|.int 0]) (hW 1) (fT<|ik yv [gZ 0,gZ 1])<|jb<|iI 1) iB
def tJ:EvF:=evF 1 1 [] IQ
def Dp:FS:=ig (jK<|ie gEq (hG<|ie gIx (gZ 0)<|hG<|ie gSub (hG<|ir (g1 mF) [gZ 1])<|hG<|fC<|.int 1)<|hG<|ir (g1 IK) [hG<|ie (lr .Gt) (gZ 1)<|hG<|fC<|.int 0]) iB
def vK:EvF:=evF 2 2 [] Dp
def vT:FS:=ig (jK<|ir (g1 IL) [hG<|iT [0] 1 (iJ<|iI 1) (hW 1) je<|jb<|ik vK [gZ 0,gZ 1]]) iB
def jH:EvF:=evF 2 2 [] vT
def xq:FS:=ig (iY 1<|lj [jD []])<|ig (mX (uf<|gZ 0) (hW 2)<|ig (iY 3<|lj [])<|ig (mX (iJ<|iI 1) (hW 4)<|ig (nS<|vJ 3<|iT [4] 1 (iJ<|jD [fC<|.int 0,fC<|.int 1]) (hW 1) je<|jb<|ie jY (gZ 0)<|hG<|jD [iI 1]) iB)<|ig (iY 1<|iI 3) iB)<|ig (mw 1) iB
def lW:EvF:=evF 5 1 [1,2,3,4] xq
def BG:FS:=ig (iY 1<|ik lW [hG<|ie gIx (gZ 0)<|hG<|fC<|.int 0])<|ig (mX (iJ<|ie gIx (gZ 0)<|hG<|fC<|.int 1) (hW 2)<|ig (iY 1<|iT [2] 1 (iJ<|iI 1) (hW 1) (fT<|ik jH [gZ 1,gZ 0])<|jb<|iI 1) iB)<|ig (mw 1) iB
def nX:EvF:=evF 3 1 [1,2] BG
def oB:FS:=ig (sIf (kW<|fT<|ik kd [gZ 0,gZ 1]) (ig EF iB) iB) iB
def lP:EvF:=evF 2 2 [] oB
def CC:FS:=ig (jK<|ir (g1 ml) [hG<|ir (g1 zF) [hG<|iT [1] 1 (iJ<|iI 0) (hW 1) je<|jb<|ik oQ [gZ 0,gZ 1]]]) iB
def qX:EvF:=evF 2 2 [] CC
def Wa:FS:=ig (FU (oN [hW 2,hW 3])<|iI 0)<|ig (nS<|ik lP [gZ 2,gZ 1])<|ig (jK<|jD [iI 2,ir (g1 ml) [hG<|ir (g1 pF) [hG<|iT [1] 1 (iJ<|iI 3) (hW 1) je<|jb<|ik qX [(gZ 1),(gZ 0)]]]]) iB
def IV:EvF:=evF 4 2 [2,3] Wa
def S6:FS:=ig (iY 1<|ir (g1 Ae) [gZ 0])<|ig (mX (xo 1<|iI 0) (oN [hW 2,hW 3])<|ig (oX 1 (fIf (fT<|ie (lr .Gt) (gZ 3)<|hG<|fC<|.int 0) (iI 2)<|kN mN<|gZ 2)<|hG<|ie gSub (hG<|ir (g1 mF) [gZ 3])<|hG<|fC<|.int 1) iB)<|ig (jK<|ir (g1 ml) [gZ 1]) iB
def yw:EvF:=evF 4 1 [1,2,3] S6
def CD:FS:=ig (nS<|ik lP [hG<|ir (g1 oz) [gZ 0],gZ 1])<|ig (jK<|ir (g1 ml) [hG<|iT [0] 1 (iJ<|ik yw [gZ 1]) (hW 1) je<|jb<|fIf (fT<|ik vd [gZ 0,gZ 1]) (fC<|.int 1)<|fC<|.int 0]) iB
def qY:EvF:=evF 2 2 [] CD
def BI:FS:=ig (jK<|vc (ik kd [hG<|ie gIx (gZ 0)<|hG<|fC<|.int 0,gZ 1])<|ie gEq (hG<|ik IV [gZ 0,gZ 1])<|gZ 0) iB
def mJ:EvF:=evF 2 2 [] BI
def vU:FS:=ig (iY 1<|lj [jD []])<|ig (mX (uf<|gZ 0) (hW 2)<|ig (iY 3<|lj [])<|ig (mX (iJ<|iI 1) (hW 4)<|ig (mX (iJ<|ie jY (hG<|ir (gRg .lst U) [hG<|kN mN<|gZ 0,hG<|fC<|.int 0])<|hG<|ir (gRg .lst U) [hG<|fC<|.int 1,hG<|ie jY (gZ 0)<|hG<|fC<|.int 1]) (hW 5)<|ig (sIf (BN (fT<|ie mY (gZ 5)<|gZ 4)<|fT<|ie mY (hG<|kN mN<|gZ 5)<|gZ 4) (ig (nS<|lT 3<|ie jY (gZ 4)<|hG<|jD [iI 5]) iB) iB) iB) iB)<|ig (iY 1<|iI 3) iB)<|ig (mw 1) iB
def nc:EvF:=evF 6 1 [1,2,3,4,5] vU
def tw:FS:=ig (mX (iJ<|iI 1) (hW 3)<|ig (sIf (fT<|ie qD (hG<|ik jy [gZ 0,gZ 3])<|gZ 2) (ig (jK<|fC<|.bl C) iB) iB) iB)<|ig (jK<|fC<|.bl U) iB
def lU:EvF:=evF 4 3 [3] tw
def yo:FS:=ig (iY 1<|ir (g1 zH) [hG<|iT [] 1 (iJ<|ie gIx (gZ 0)<|hG<|fC<|.int 1) (hW 0) je<|jb<|jD [iI 0,fC<|.bl U]])<|ig (jK<|iT [1,0] 1 (iJ<|ik nc [hG<|ie gIx (gZ 0)<|hG<|fC<|.int 0]) (hW 2) (fT<|ik lU [gZ 2,hG<|ie gIx (gZ 1)<|hG<|fC<|.int 1,gZ 0])<|jb<|iI 2) iB
def my:EvF:=evF 2 1 [1] yo
def oi:FS:=ig (sIf (qW (kW<|fT<|kN (uh [.tuple])<|gZ 1)<|fT<|ie gNe (hG<|ir (g1 oz) [gZ 1])<|gZ 0) (ig (jK<|fC<|.bl C) iB) iB)<|ig (sIf (kW<|fT<|ir (g1 zI) [hG<|iT [0] 1 (iJ<|iI 1) (hW 1) je<|jb<|ik jT [gZ 1,hG<|kN mN<|gZ 0,gZ 0]]) (ig (jK<|fC<|.bl C) iB) iB)<|ig (jK<|ie gEq (hG<|ir (g1 pF) [hG<|iT [] 1 (iJ<|iI 1) (hW 0) je<|jb<|ir (g1 mF) [gZ 0]])<|hG<|ir (gRg .lst U) [hG<|fC<|.int 1,hG<|ie jY (gZ 0)<|hG<|fC<|.int 1]) iB
def kD:EvF:=evF 2 2 [] oi
def xu:FS:=ig (jK<|iT [1] 1 (iJ<|ik tJ [gZ 0]) (hW 1) (kW<|fT<|ik mh [gZ 1,gZ 0])<|jb<|iI 1) iB
def nE:EvF:=evF 2 2 [] xu
def Fd:FS:=ig (jK<|ie (lr .LtE) (gZ 0)<|hG<|ik qY [gZ 0,gZ 1]) iB
def nY:EvF:=evF 2 2 [] Fd
def LJ:FS:=ig (mX (iJ<|iI 1) (hW 2)<|ig (sIf (fT<|ik nY [gZ 2,gZ 0]) (ig (jK<|fC<|.bl C) iB) iB) iB)<|ig (jK<|fC<|.bl U) iB
def zK:EvF:=evF 3 2 [2] LJ
def IM:FS:=ig (sIf (qW (kW<|fT<|ik lA [hG<|ie gIx (gZ 0)<|hG<|fC<|.int 0,gZ 1])<|kW<|fT<|ik mJ [gZ 0,gZ 2]) (ig (jK<|fC<|.bl C) iB) iB)<|ig (jK<|ik zK [gZ 2,hG<|ik nE [gZ 0,gZ 1]]) iB
def mH:EvF:=evF 3 3 [] IM
def yq:FS:=ig (iY 2<|ir (g1 Ae) [gZ 1])<|ig (mX (xo 0<|iI 0) (oN [hW 3,hW 4])<|ig (oX 2 (ie gIx (hG<|lj [ie gSub (hG<|fC<|.int 1)<|hG<|ie gIx (gZ 1)<|gZ 3,ie gIx (gZ 1)<|gZ 3])<|hG<|ir (g1 IK) [hG<|ie (lr .Gt) (gZ 4)<|hG<|fC<|.int 0])<|hG<|ie gSub (hG<|ir (g1 mF) [gZ 4])<|hG<|fC<|.int 1) iB)<|ig (jK<|ir (g1 ml) [gZ 2]) iB
def mz:EvF:=evF 5 2 [2,3,4] yq
def xp:FS:=ig (iY 2<|ik kM [gZ 0,gZ 1])<|ig (iY 3<|ik iG [gZ 0,hG<|ie jY (gZ 1)<|hG<|fC<|.int 1])<|ig (iY 4<|ie gIx (hG<|lj [fC<|.int 0,ie jY (gZ 1)<|hG<|fC<|.int 1,ie gSub (hG<|kN mN<|gZ 1)<|hG<|fC<|.int 1,fC<|.bl U,fC .non,fC<|.str "1",jD [fC<|.int 1],ie Fb (hG<|fC<|.int 10)<|hG<|fC<|.int 29,lj [fC<|.int 1],fC<|.bl C])<|hG<|ik iG [gZ 0,hG<|fC<|.int 10])<|ig (iY 5<|lj [ie jY (hG<|ie jY (hG<|nW (gZ 2)<|gZ 3)<|hG<|jD [iI 4])<|hG<|oP (gZ 2)<|hG<|ie jY (gZ 3)<|hG<|fC<|.int 1,ie jY (hG<|ie jY (hG<|nW (gZ 2)<|gZ 3)<|hG<|jD [iI 4])<|hG<|oP (gZ 2)<|gZ 3,ie jY (gZ 2)<|hG<|jD [ie jY (gZ 1)<|hG<|fC<|.int 1]])<|ig (iY 5<|ie jY (gZ 5)<|hG<|lj [ir (g1 Ae) [gZ 2],fC .non,BM,lj [iI 4],jD [iI 2],ie jY (hG<|ie jY (hG<|nW (gZ 2)<|gZ 3)<|hG<|oP (gZ 2)<|hG<|ie jY (gZ 3) (hG (fC (.int 1))))<|hG<|jD [fC<|.int 0]])<|ig (jK<|ie gIx (gZ 5)<|hG<|ie gIx (hG<|lj [fC<|.int 0,fC<|.int 0,fC<|.int 0,fC<|.int 1,fC<|.int 2,fC<|.int 3,fC<|.int 4,fC<|.int 5,fC<|.int 6,fC<|.int 7,fC<|.int 8])<|hG<|ik iG [gZ 0,hG<|fC<|.int 11]) iB
def lV:EvF:=evF 6 2 [2,3,4,5] xp
def va:FS:=ig (iY 3<|iT [1] 1 (iJ<|iI 0) (hW 1) (kW<|fT<|ik jH [gZ 1,gZ 0])<|jb<|iI 1)<|ig (jK<|ir (g1 zI) [hG<|iT [2] 1 (iJ<|iI 3) (hW 1) je<|jb<|ie (lr .Lt) (hG<|ik mz [gZ 0,gZ 1])<|gZ 1]) iB
def lh:EvF:=evF 4 3 [3] va
def oA:FS:=ig (iY 4<|jD [ik kc [gZ 0,hG<|ie gIx (gZ 1)<|hG<|fC<|.int 0],ie gIx (gZ 2)<|hG<|ik iG [gZ 0,hG<|ir (g1 oz) [gZ 2]]])<|ig (mX (uf<|hG<|fC<|.int 12) (hW 5)<|ig (sIf (fT<|ik lh [gZ 3,hG<|ie gIx (gZ 4)<|hG<|fC<|.int 0,hG<|ie gIx (gZ 4)<|hG<|fC<|.int 1]) (ig (mw 4) iB) iB)<|ig (iY 4<|jD [ik kc [gZ 0,hG<|ie gIx (gZ 1)<|hG<|fC<|.int 0],ie gIx (gZ 2)<|hG<|ik iG [gZ 0,hG<|ir (g1 oz) [gZ 2]]]) iB)<|ig (mw 4) iB
def mP:EvF:=evF 6 4 [4,5] oA
def tx:FS:=ig (iY 3<|ik iG [gZ 0,hG<|ie jY (hG<|ir (g1 oz) [gZ 1])<|hG<|fC<|.int 1])<|ig (iY 4<|ie gIx (hG<|lj [fC<|.int 0,ie jY (gZ 2)<|hG<|fC<|.int 1,fC<|.bl U,fC .non,fC<|.str "1",jD [fC<|.int 1],ie Fb (hG<|fC<|.int 10)<|hG<|fC<|.int 29,fC<|.bl C])<|hG<|ik iG [gZ 0,hG<|fC<|.int 8])<|ig (iY 5<|lj [ie jY (hG<|ie jY (hG<|nW (gZ 1)<|gZ 3)<|hG<|jD [iI 4])<|hG<|oP (gZ 1)<|gZ 3,ie jY (hG<|ie jY (hG<|nW (gZ 1)<|gZ 3)<|hG<|jD [iI 4])<|hG<|oP (gZ 1)<|hG<|ie jY (gZ 3)<|hG<|fC<|.int 1,P4 (gZ 1)<|hG<|kN mN<|hG<|fC<|.int 1,ir (g1 Ae) [gZ 1],jD []])<|ig (jK<|ie gIx (hG<|ie jY (gZ 5)<|hG<|lj [fC .non,BM,ie jY (hG<|nW (gZ 1)<|gZ 3)<|hG<|oP (gZ 1)<|hG<|ie gSub (gZ 3)<|hG (fC (.int 1)),iI 4,jD [iI 1]])<|hG<|ik iG [gZ 0,hG<|fC<|.int 10]) iB
def kT:EvF:=evF 6 3 [3,4,5] tx
def vb:FS:=ig (sIf (qW (kW<|fT<|ik lN [hG<|ie gIx (gZ 0)<|hG<|fC<|.int 0,gZ 2])<|kW<|fT<|ik kD [hG<|ie gIx (gZ 0)<|hG<|fC<|.int 0,gZ 3]) (ig (jK<|fC<|.bl C) iB) iB)<|ig (iY 4<|ir (g1 zH) [hG<|iT [] 1 (iJ<|ie gIx (gZ 0)<|hG<|fC<|.int 1) (hW 0) je<|jb<|jD [iI 0,fC<|.bl U]])<|ig (jK<|vc (ik lU [gZ 3,hG<|ie gIx (gZ 0)<|hG<|fC<|.int 1,gZ 4])<|ik lh [gZ 1,gZ 2,gZ 3]) iB
def lO:EvF:=evF 5 4 [4] vb
def BF:FS:=ig (mX (uf<|hG<|ir (g2 PK) [hG<|fC<|.int 1,hG<|ir (g2 Dm) [hG<|ir (g1 oz) [gZ 0],hG<|fC<|.int 6]]) (hW 1)<|ig (iY 2<|ik mO [gZ 0,gZ 1])<|ig (iY 3<|ik oG [gZ 2,hG<|fC<|.int 1,hG<|ie gSub (hG<|fC<|.int 5)<|hG<|ir (g2 Dm) [gZ 1,hG<|fC<|.int 1]])<|ig (iY 4<|ik my [gZ 3])<|ig (iY 5<|ik nX [gZ 3])<|ig (FU (oN [hW 6,hW 7])<|ik mP [gZ 2,gZ 3,gZ 4,gZ 5])<|ig (iY 8<|ik kM [gZ 2,hG<|ie gIx (gZ 3)<|hG<|fC<|.int 0])<|ig (iY 9<|ik kT [gZ 2,gZ 6,hG<|ie gIx (gZ 3)<|hG<|fC<|.int 0])<|ig (iY 10<|ik lV [gZ 2,hG<|ie gIx (gZ 3)<|hG<|fC (.int 0)])<|ig (iY 11<|lj [jD [iI 6,iI 7],jD [iI 6,iI 8],jD [ik kc [gZ 2,hG<|ie gIx (gZ 3)<|hG (fC (.int 0))],iI 7],jD [iI 9,iI 7]])<|ig (mX (iJ<|ie jY (gZ 11)<|hG (lj [jD [iI 6,iI 10],jD [iI 9,iI 10]])) (oN [hW 12,hW 13])<|ig (iY 14<|ik mH [gZ 3,gZ 12,gZ 13])<|ig (sIf (qW (kW (fT (kN (uh [.bool]) (gZ 14)))) (fT (ie gNe (gZ 14) (hG (ik lO [gZ 3,gZ 5,gZ 12,gZ 13]))))) (ig (jK (fC (.bl C))) iB) iB) iB) iB)<|ig (jK<|vc (ie gIs (hG<|ik mH [hG<|jD [fC<|.int 2,jD []],hG<|jD [kN mN<|hG<|fC<|.int 1,fC<|.int 2],hG<|jD [fC<|.int 2,fC<|.int 1]])<|hG<|fC<|.bl U)<|ie gIs (hG<|ik mH [hG<|jD [fC<|.int 2,jD []],hG<|jD [fC<|.int 1,kN mN<|hG<|fC<|.int 2],hG<|jD [fC<|.int 2,fC<|.int 1]])<|hG<|fC<|.bl C) iB
def wu:EvF:=evF 15 1 [1,2,3,4,5,6,7,8,9,10,11,12,13,14] BF
end PV
namespace K71
open PySem PySem.Spec PyProof.Rows L2 PX PV
noncomputable def top(i:Nat):Stmt:=PySem.Challenge.pw_twinriddles_k71_clauses_that_may_be_put.main.body.getD i<|.Pass ⟨0,0,0,0⟩
section
variable {Z:ZZ}{k:Nat}
noncomputable abbrev xb:Stmt:=top 5
abbrev xm(Z:ZZ)(k:Nat):Prop:=Oz Z k "is_whole" ["thing"] oR
def F6(a:Fz Z.K Z.mg "is_whole" xb)(T:Tx Z.mg):xm Z (k+1):=by have S:FnScope ["thing"] ["thing"] (ip xb):=scM;refine ozD a S λf c A b s Q E L d e g i h j l=>?_;exact(s1 (sR<|AY (xI T I xV)<|xBo<|WO<|xI T I xV) s0)
noncomputable abbrev uK:Stmt:=top 6
abbrev uU(Z:ZZ)(k:Nat):Prop:=Oz Z k "is_number" ["thing","least","most"] mQ
def EO(a:Fz Z.K Z.mg "is_number" uK)(T:Tx Z.mg)(d:xm Z k):uU Z (k+1):=by have S:FnScope ["thing","least","most"] ["thing","least","most"] (ip uK):=scM;refine ozD a S λf e A b s Q E L g c h j i l m=>?_;exact(s1 (sR<|AY (xU d c<|xA xV xA0)<|xBo<|xCh xV xV xV) s0)
noncomputable abbrev Bc:Stmt:=top 7
abbrev F9(Z:ZZ)(k:Nat):Prop:=Oz Z k "is_bit" ["thing"] rW
def Ln(a:Fz Z.K Z.mg "is_bit" Bc)(T:Tx Z.mg)(d:uU Z k):F9 Z (k+1):=by have S:FnScope ["thing"] ["thing"] (ip Bc):=scM;refine ozD a S λf e A b s Q E L g c h j i l m=>?_;exact(s1 (sR<|xU d c<|xA xV<|xA (xO x3)<|xA (xO x3) xA0) s0)
noncomputable abbrev zv:Stmt:=top 8
abbrev C9(Z:ZZ)(k:Nat):Prop:=Oz Z k "is_name" ["names","thing"] tH
def Iu(a:Fz Z.K Z.mg "is_name" zv)(T:Tx Z.mg)(d:uU Z k):C9 Z (k+1):=by have S:FnScope ["names","thing"] ["names","thing"] (ip zv):=scM;refine ozD a S λf e A b s Q E L g c h j i l m=>?_;exact(s1 (sR<|xU d c<|xA xV<|xA (xO x3)<|xA xV xA0) s0)
noncomputable abbrev zu:Stmt:=top 9
abbrev zE(Z:ZZ)(k:Nat):Prop:=Oz Z k "is_sign" ["names","thing"] lD
def Ir(a:Fz Z.K Z.mg "is_sign" zu)(T:Tx Z.mg)(e:xm Z k)(b:C9 Z k):zE Z (k+1):=by have S:FnScope ["names","thing"] ["names","thing"] (ip zu):=scM;refine ozD a S λf g A c s Q E L h d i l j m n=>?_;exact(s1 (sR<|AY (xU e d<|xA xV xA0)<|xBo<|xU b d<|xA xV<|xA (xO<|xB T I ⟨lb⟩<|xA xV xA0) xA0) s0)
noncomputable abbrev uJ:Stmt:=top 10
abbrev zZ(Z:ZZ)(k:Nat):Prop:=Oz Z k "is_rising" ["things"] tE
def EN(a:Fz Z.K Z.mg "is_rising" uJ)(T:Tx Z.mg):zZ Z (k+1):=by have S:FnScope ["things"] ["things"] (ip uJ):=scM;refine ozD a S λf e A c s Q E L g h d j i l b=>?_;exact(s1 (sR<|xB T I ⟨oE I⟩<|xA (xO<|by exact xC (N':=["one","other"]) (cOk S) (by decide+kernel) (iZ T xW<|HE xV<|xO x3) λ_ _ _ _ _ _ b=>⟨gT (gN b)<|gN b,f0,λ_=>bE<|xP ⟨lJ (.inl I) d⟩ xV xV⟩) xA0) s0)
noncomputable abbrev uL:Stmt:=top 11
abbrev Aa(Z:ZZ)(k:Nat):Prop:=Oz Z k "is_clause" ["names","thing"] lA
def ES(a:Fz Z.K Z.mg "is_clause" uL)(T:Tx Z.mg)(g: ∃t,Z.mg "MOST_SIGNS"=Y (.int 5 t))(h:zE Z k)(b:zZ Z k):Aa Z (k+1):=by have S:FnScope ["names","thing"] ["names","thing"] (ip uL):=scM;refine ozD a S λf i A d s Q E L j e l n m o c=>?_;exact(s1 (sI (tW<|wOr (tNot<|pY<|xI T I xV)<|FA<|tNot<|tCh (xO x3) (xO<|xB T I ⟨la⟩<|xA xV xA0)<|xO<|x5 g) (s1 (sR x2) s0) s0)<|s1 (sI (tNot<|pY<|xB T I ⟨oE I⟩<|xA (xO<|by exact xC (N':=["names","sign"]) (cOk S) (by decide+kernel) (iS xW) λ_ _ _ _ _ _ c=>⟨gN c,f0,λ_=>bE<|xU h e<|xA xV<|xA xV xA0⟩) xA0) (s1 (sR x2) s0) s0)<|s1 (sR<|xU b e<|xA (xO<|by exact xC (N':=["sign"]) (cOk S) (by decide+kernel) (iS xW) λ_ _ _ _ _ _ c=>⟨gN c,f0,λ_=>bE<|xB T I ⟨lb⟩<|xA xV xA0⟩) xA0) s0)
noncomputable abbrev uM:Stmt:=top 12
abbrev Ab(Z:ZZ)(k:Nat):Prop:=Oz Z k "is_answer" ["names","thing"] nZ
def ET(a:Fz Z.K Z.mg "is_answer" uM)(T:Tx Z.mg)(b:F9 Z k):Ab Z (k+1):=by have S:FnScope ["names","thing"] ["names","thing"] (ip uM):=scM;refine ozD a S λf h A c s Q E L i e g l j m d=>?_;exact(s1 (sR<|AY (xI T I xV)<|AY (xP ⟨qT g⟩ (xO<|xB T I ⟨la⟩<|xA xV xA0) xV)<|xBo<|xB T I ⟨oE I⟩<|xA (xO<|by exact xC (N':=["bit"]) (cOk S) (by decide+kernel) (iS xW) λ_ _ _ _ _ _ d=>⟨gN d,f0,λ_=>bE<|xU b e<|xA xV xA0⟩) xA0) s0)
noncomputable abbrev EE:Stmt:=top 13
abbrev EU(Z:ZZ)(k:Nat):Prop:=Oz Z k "is_so" ["answer","sign"] vd
def OB(a:Fz Z.K Z.mg "is_so" EE)(T:Tx Z.mg):EU Z (k+1):=by have S:FnScope ["answer","sign"] ["answer","sign"] (ip EE):=scM;refine ozD a S λf d A b s Q E L e g c i h j l=>?_;exact(s1 (sR<|xP ⟨qT c⟩ (xO<|xIx xV<|xO<|jJ ⟨mM⟩ (xO<|xB T I ⟨lb⟩<|xA xV xA0)<|xO x3)<|xO<|xIf (tCmp ⟨lJ (.inr<|.inr<|.inl I) c⟩ xV<|xO x3) x3 x3) s0)
noncomputable abbrev qb:Stmt:=top 14
abbrev qf(Z:ZZ)(k:Nat):Prop:=Oz Z k "keeps_clause" ["answer","clause"] mh
def Al(a:Fz Z.K Z.mg "keeps_clause" qb)(T:Tx Z.mg)(e:EU Z k):qf Z (k+1):=by have S:FnScope ["answer","clause"] ["answer","clause"] (ip qb):=scM;refine ozD a S λf g A b s Q E L h d i l j m c=>?_;exact(s1 (sR<|xB T I ⟨DD I⟩<|xA (xO<|by exact xC (N':=["answer","sign"]) (cOk S) (by decide+kernel) (iS xW) λ_ _ _ _ _ _ c=>⟨gN c,f0,λ_=>bE<|xU e d<|xA xV<|xA xV xA0⟩) xA0) s0)
noncomputable abbrev ED:Stmt:=top 15
abbrev JS(Z:ZZ)(k:Nat):Prop:=Oz Z k "keeps" ["riddle","thing"] yv
def OA(a:Fz Z.K Z.mg "keeps" ED)(T:Tx Z.mg)(b:Ab Z k)(g:qf Z k):JS Z (k+1):=by have S:FnScope ["riddle","thing","names","clauses"] ["riddle","thing"] (ip ED):=scM;refine ozD a S λf h A d s Q E L i e j m l n c=>?_;exact(s1 (sT xW<|gT (gN c)<|gN c)<|s1 (sR<|AY (xU b e<|xA xV<|xA xV xA0)<|xBo<|xB T I ⟨oE I⟩<|xA (xO<|by exact xC (N':=["thing","clause"]) (cOk S) (by decide+kernel) (iS xW) λ_ _ _ _ _ _ c=>⟨gN c,f0,λ_=>bE<|xU g e<|xA xV<|xA xV xA0⟩) xA0) s0)
noncomputable abbrev qR:Stmt:=top 16
abbrev wq(Z:ZZ)(k:Nat):Prop:=Oz Z k "all_answers" ["names"] mK
def Bs(a:Fz Z.K Z.mg "all_answers" qR)(T:Tx Z.mg):wq Z (k+1):=by have S:FnScope ["names","begun","place"] ["names"] (ip qR):=scM;refine ozD a S λf e A c s Q E L d g i l j m b=>?_;exact(s1 (sS b<|og<|xL (lH xL0) xL0)<|s1 (sF (iR1 T<|xA xV xA0) (gN b)<|s1 (sC (N':=["begin","bit"]) b (cOk S) (by decide+kernel) (iS xW) λ_ _ _ _ _ _ b=>⟨gN b,f0,λ_=>bF I (iS<|lH<|xL x3<|xL x3 xL0) (gN b) f0<|bE<|jJ ⟨ja⟩ xV<|xO<|lH<|xL xW xL0⟩) s0)<|s1 (sRV λh=>absurd (d _ h)<|by decide) s0)
noncomputable abbrev zw:Stmt:=top 17
abbrev Dc(Z:ZZ)(k:Nat):Prop:=Oz Z k "answers" ["riddle"] tJ
def Iv(a:Fz Z.K Z.mg "answers" zw)(T:Tx Z.mg)(b:wq Z k)(c:JS Z k):Dc Z (k+1):=by have S:FnScope ["riddle"] ["riddle"] (ip zw):=scM;refine ozD a S λf h A d s Q E L i e j m l n g=>?_;exact(s1 (sR<|by exact xC (N':=["riddle","answer"]) (cOk S) (by decide+kernel) (iS<|xU b e<|xA (xO<|xIx xV<|xO x3) xA0) λ_ _ _ _ _ _ g=>⟨gN g,f1<|pY<|xU c e<|xA xV<|xA xV xA0,λ_=>bE xW⟩) s0)
noncomputable abbrev nR:Stmt:=top 18
abbrev qB(Z:ZZ)(k:Nat):Prop:=Oz Z k "answers_against" ["riddle","clause"] nE
def xl(a:Fz Z.K Z.mg "answers_against" nR)(T:Tx Z.mg)(b:Dc Z k)(g:qf Z k):qB Z (k+1):=by have S:FnScope ["riddle","clause"] ["riddle","clause"] (ip nR):=scM;refine ozD a S λf h A c s Q E L i d j m l n e=>?_;exact(s1 (sR<|by exact xC (N':=["clause","answer"]) (cOk S) (by decide+kernel) (iS<|xU b d<|xA xV xA0) λ_ _ _ _ _ _ e=>⟨gN e,f1<|tNot<|pY<|xU g d<|xA xV<|xA xV xA0,λ_=>bE xW⟩) s0)
noncomputable abbrev sP:Stmt:=top 20
abbrev sV(Z:ZZ)(k:Nat):Prop:=Oz Z k "is_turning" ["names","thing"] kd
def Cv(a:Fz Z.K Z.mg "is_turning" sP)(T:Tx Z.mg)(g:zE Z k):sV Z (k+1):=by have S:FnScope ["names","thing"] ["names","thing"] (ip sP):=scM;refine ozD a S λf h A c s Q E L i e d l j m b=>?_;exact(s1 (sI (tW<|wOr (tNot<|pY<|xI T I xV)<|FA<|tCmp ⟨Im d⟩ (xO<|xB T I ⟨la⟩<|xA xV xA0) xV) (s1 (sR x2) s0) s0)<|s1 (sI (tNot<|pY<|xB T I ⟨oE I⟩<|xA (xO<|by exact xC (N':=["names","sign"]) (cOk S) (by decide+kernel) (iS xW) λ_ _ _ _ _ _ b=>⟨gN b,f0,λ_=>bE<|xU g e<|xA xV<|xA xV xA0⟩) xA0) (s1 (sR x2) s0) s0)<|s1 (sR<|xP ⟨qT d⟩ (xO<|by exact xLS (N':=["sign"]) T (cOk S) (by decide+kernel) (iS xW) λ_ _ _ _ _ _ b=>⟨gN b,f0,xB T I ⟨lb⟩<|xA xV xA0⟩) xV) s0)
noncomputable abbrev oW:Stmt:=top 21
abbrev oY(Z:ZZ)(k:Nat):Prop:=Oz Z k "check_turning" ["names","thing"] lP
def zD(a:Fz Z.K Z.mg "check_turning" oW)(T:Tx Z.mg)(d:sV Z k):oY Z (k+1):=by have S:FnScope ["names","thing"] ["names","thing"] (ip oW):=scM;refine ozD a S λf e A b s Q E L g c h j i l m=>?_;exact(s1 (sI (tNot<|pY<|xU d c<|xA xV<|xA xV xA0) (s1 sX s0) s0) s0)
noncomputable abbrev wZ:Stmt:=top 22
abbrev Bt(Z:ZZ)(k:Nat):Prop:=Oz Z k "led_sign" ["turning","sign"] oQ
def F4(a:Fz Z.K Z.mg "led_sign" wZ)(T:Tx Z.mg):Bt Z (k+1):=by have S:FnScope ["turning","sign"] ["turning","sign"] (ip wZ):=scM;refine ozD a S λf d A b s Q E L e g c i h j l=>?_;exact(s1 (sR<|xIf (tCmp ⟨lJ (.inr<|.inr<|.inl I) c⟩ xV<|xO x3) (xIx xV<|xO<|jJ ⟨mM⟩ xV<|xO x3)<|wU<|xO<|xIx xV<|xO<|jJ ⟨mM⟩ (xO<|wU xV)<|xO x3) s0)
noncomputable abbrev sJ:Stmt:=top 23
abbrev ye(Z:ZZ)(k:Nat):Prop:=Oz Z k "led_clause" ["clause","turning"] qX
def Cp(a:Fz Z.K Z.mg "led_clause" sJ)(T:Tx Z.mg)(b:Bt Z k):ye Z (k+1):=by have S:FnScope ["clause","turning"] ["clause","turning"] (ip sJ):=scM;refine ozD a S λf g A c s Q E L h e i l j m d=>?_;exact(s1 (sR<|xT T I ⟨kX⟩<|xA (xO<|xSA T<|xA (xO<|by exact xC (N':=["turning","sign"]) (cOk S) (by decide+kernel) (iS xW) λ_ _ _ _ _ _ d=>⟨gN d,f0,λ_=>bE<|xU b e<|xA xV<|xA xV xA0⟩) xA0) xA0) s0)
noncomputable abbrev Nu:Stmt:=top 24
abbrev Ug(Z:ZZ)(k:Nat):Prop:=Oz Z k "led" ["riddle","turning"] IV
def VQ(a:Fz Z.K Z.mg "led" Nu)(T:Tx Z.mg)(h:oY Z k)(b:ye Z k):Ug Z (k+1):=by have S:FnScope ["riddle","turning","names","clauses"] ["riddle","turning"] (ip Nu):=scM;refine ozD a S λf i A d s Q E L j e l m g n c=>?_;exact(s1 (sT xW<|gT (gN c)<|gN c)<|s1 (sE<|xU h e<|xA xV<|xA xV xA0)<|s1 (sR<|lH<|xL xW<|xL (xT T I ⟨kX⟩<|xA (xO<|xB T I ⟨tL g⟩<|xA (xO<|by exact xC (N':=["turning","clause"]) (cOk S) (by decide+kernel) (iS xW) λ_ _ _ _ _ _ c=>⟨gN c,f0,λ_=>bE<|xU b e<|xA xV<|xA xV xA0⟩) xA0) xA0) xL0) s0)
noncomputable abbrev HP:Stmt:=top 26
abbrev OE(Z:ZZ)(k:Nat):Prop:=Oz Z k "back" ["turning"] yw
def Sn(a:Fz Z.K Z.mg "back" HP)(T:Tx Z.mg):OE Z (k+1):=by have S:FnScope ["turning","whence","name","sign"] ["turning"] (ip HP):=scM;refine ozD a S λf e A c s Q E L g h d j i l b=>?_;exact(s1 (sS b<|xT T I ⟨qk⟩<|xA xV xA0)<|s1 (sF (iE1 T xW) (gT (gN b)<|gN b)<|s1 (sIx xV (xIf (tCmp ⟨lJ (.inr<|.inr<|.inl I) d⟩ xV<|xO x3) xW<|wU xV)<|xO<|jJ ⟨mM⟩ (xO<|xB T I ⟨lb⟩<|xA xV xA0)<|xO x3) s0)<|s1 (sR<|xT T I ⟨kX⟩<|xA xV xA0) s0)
noncomputable abbrev sL:Stmt:=top 25
abbrev yf(Z:ZZ)(k:Nat):Prop:=Oz Z k "led_answer" ["answer","turning"] qY
def Cq(a:Fz Z.K Z.mg "led_answer" sL)(T:Tx Z.mg)(g:oY Z k)(b:OE Z k)(h:EU Z k):yf Z (k+1):=by have S:FnScope ["answer","turning"] ["answer","turning"] (ip sL):=scM;refine ozD a S λf i A d s Q E L j c l n m o e=>?_;exact(s1 (sE<|xU g c<|xA (xO<|xB T I ⟨la⟩<|xA xV xA0)<|xA xV xA0)<|s1 (sR<|xT T I ⟨kX⟩<|xA (xO<|by exact xC (N':=["answer","sign"]) (cOk S) (by decide+kernel) (iS<|xU b c<|xA xV xA0) λ_ _ _ _ _ _ e=>⟨gN e,f0,λ_=>bE<|xIf (pY<|xU h c<|xA xV<|xA xV xA0) x3 x3⟩) xA0) s0)
noncomputable abbrev qQ:Stmt:=top 28
abbrev wo(Z:ZZ)(k:Nat):Prop:=Oz Z k "is_likeness" ["riddle","thing"] mJ
def Br(a:Fz Z.K Z.mg "is_likeness" qQ)(T:Tx Z.mg)(g:sV Z k)(b:Ug Z k):wo Z (k+1):=by have S:FnScope ["riddle","thing"] ["riddle","thing"] (ip qQ):=scM;refine ozD a S λf h A c s Q E L i d e l j m n=>?_;exact(s1 (sR<|AY (xU g d<|xA (xO<|xIx xV<|xO x3)<|xA xV xA0)<|xBo<|xP ⟨qT e⟩ (xO<|xU b d<|xA xV<|xA xV xA0) xV) s0)
noncomputable abbrev uI:Stmt:=top 30
abbrev zY(Z:ZZ)(k:Nat):Prop:=Oz Z k "keeps_row" ["answer","row"] nY
def EM(a:Fz Z.K Z.mg "keeps_row" uI)(T:Tx Z.mg)(b:yf Z k):zY Z (k+1):=by have S:FnScope ["answer","row"] ["answer","row"] (ip uI):=scM;refine ozD a S λf g A c s Q E L h d e j i l m=>?_;exact(s1 (sR<|xP ⟨lJ (.inr<|.inl I) e⟩ xV<|xO<|xU b d<|xA xV<|xA xV xA0) s0)
noncomputable abbrev Ba:Stmt:=top 31
abbrev F7(Z:ZZ)(k:Nat):Prop:=Oz Z k "lowers" ["turning","some"] zK
def Ll(a:Fz Z.K Z.mg "lowers" Ba)(T:Tx Z.mg)(b:zY Z k):F7 Z (k+1):=by have S:FnScope ["turning","some","answer"] ["turning","some"] (ip Ba):=scM;refine ozD a S λf g A c s Q E L h d i l j m e=>?_;exact(s1 (sF (iS xW) (gN e)<|s1 (sI (pY<|xU b d<|xA xV<|xA xV xA0) (s1 (sR x2) s0) s0) s0)<|s1 (sR x2) s0)
noncomputable abbrev zr:Stmt:=top 33
abbrev C7(Z:ZZ)(k:Nat):Prop:=Oz Z k "may_put" ["riddle","clause","turning"] mH
def Ip(a:Fz Z.K Z.mg "may_put" zr)(T:Tx Z.mg)(d:Aa Z k)(c:wo Z k)(b:qB Z k)(e:F7 Z k):C7 Z (k+1):=by have S:FnScope ["riddle","clause","turning"] ["riddle","clause","turning"] (ip zr):=scM;refine ozD a S λf i A h s Q E L j g l n m o p=>?_;exact(s1 (sI (tW<|wOr (tNot<|pY<|xU d g<|xA (xO<|xIx xV<|xO x3)<|xA xV xA0)<|FA<|tNot<|pY<|xU c g<|xA xV<|xA xV xA0) (s1 (sR x2) s0) s0)<|s1 (sR<|xU e g<|xA xV<|xA (xO<|xU b g<|xA xV<|xA xV xA0) xA0) s0)
noncomputable abbrev qO:Stmt:=top 35
abbrev wk(Z:ZZ)(k:Nat):Prop:=Oz Z k "_law_cell_at" ["_law_script","_law_k"] mI
def Bp(a:Fz Z.K Z.mg "_law_cell_at" qO)(T:Tx Z.mg):wk Z (k+1):=by have S:FnScope ["_law_script","_law_k"] ["_law_script","_law_k"] (ip qO):=scM;refine ozD a S λf d A b s Q E L e g c i h j l=>?_;exact(s1 (sI (tCmp ⟨lJ (.inl I) c⟩ xV<|xO<|xB T I ⟨la⟩<|xA xV xA0) (s1 (sR<|xIx xV xV) s0) s0)<|s1 (sR x3) s0)
noncomputable abbrev uG:Stmt:=top 36
abbrev zW(Z:ZZ)(k:Nat):Prop:=Oz Z k "_law_state" ["_law_script","_law_k"] mO
def EK(a:Fz Z.K Z.mg "_law_state" uG)(T:Tx Z.mg)(b:wk Z k):zW Z (k+1):=by have S:FnScope ["_law_script","_law_k","_law_cell"] ["_law_script","_law_k"] (ip uG):=scM;refine ozD a S λf h A c s Q E L i d e l j m g=>?_;exact(s1 (sS g<|xU b d<|xA xV<|xA xV xA0)<|s1 (sI (tCmp ⟨lJ (.inr<|.inr<|.inr I) e⟩ xV<|xO<|jJ ⟨Au⟩ (xO x3)<|xO x3) (s1 (sR<|og<|xL (jJ ⟨mM⟩ xV<|xO<|jJ ⟨Au⟩ (xO x3)<|xO x3)<|xL x2 xL0) s0) s0)<|s1 (sR<|og<|xL (jJ ⟨sQ⟩ xV<|xO x3)<|xL x2 xL0) s0)
noncomputable abbrev xa:Stmt:=top 37
abbrev nC(Z:ZZ)(k:Nat):Prop:=Oz Z k "_law_take" ["_law_state_here","_law_many"] iG
def F5(a:Fz Z.K Z.mg "_law_take" xa)(T:Tx Z.mg):nC Z (k+1):=by have S:FnScope ["_law_state_here","_law_many","_law_found","_law_mixed"] ["_law_state_here","_law_many"] (ip xa):=scM;refine ozD a S λf e A c s Q E L d g i l j m b=>?_;exact(s1 (sI (pY<|xIx xV<|xO x3) (s1 (sS b<|jJ ⟨sQ⟩ (xO<|xIx xV<|xO x3) xV)<|s1 (sIx xV (jJ ⟨JO⟩ (xO<|xIx xV<|xO x3) xV)<|xO x3)<|s1 (sRV λh=>absurd (d _ h)<|by decide) s0) s0)<|s1 (sIx xV (jJ ⟨sQ⟩ (xO<|jJ ⟨ja⟩ (xO<|jJ ⟨qw⟩ (xO<|xIx xV<|xO x3)<|xO x3)<|xO x3)<|xO x3)<|xO x3)<|s1 (sS b<|jJ ⟨sQ⟩ (xO<|jJ ⟨ja⟩ (xO<|jJ ⟨ja⟩ (xO<|jJ ⟨qw⟩ (xO<|xIx xV<|xO x3)<|xO<|xIx xV<|xO x3)<|xO<|jJ ⟨qw⟩ (xO x3)<|xO<|xIx xV<|xO x3)<|xO x3)<|xO x3)<|s1 (sS b<|jJ ⟨sQ⟩ (xO<|jJ ⟨ja⟩ (xO<|jJ ⟨qw⟩ xV xV)<|xO<|jJ ⟨qw⟩ (xO x3) xV)<|xO x3)<|s1 (sR<|jJ ⟨sQ⟩ (xO<|jJ ⟨JO⟩ xV<|xO x3) xV) s0)
noncomputable abbrev sO:Stmt:=top 38
abbrev pD(Z:ZZ)(k:Nat):Prop:=Oz Z k "_law_clause" ["_law_state_here","_law_names"] kc
def Cu(a:Fz Z.K Z.mg "_law_clause" sO)(T:Tx Z.mg)(b:nC Z k):pD Z (k+1):=by have S:FnScope ["_law_state_here","_law_names","_law_far","_law_found","_law_name","_law_kind"] ["_law_state_here","_law_names"] (ip sO):=scM;refine ozD a S λf h A e s Q E L i c g l j m d=>?_;exact(s1 (sS d<|xIx (xO<|og<|xL x3<|xL x3<|xL x3 xL0)<|xO<|xU b c<|xA xV<|xA (xO x3) xA0)<|s1 (sS d<|og xL0)<|s1 (sF (iR2 T<|xA (xO x3)<|xA (xO<|jJ ⟨ja⟩ xV<|xO x3) xA0) (gN d)<|s1 (sS d<|xU b c<|xA xV<|xA xV xA0)<|s1 (sI (tCmp ⟨lJ (.inl I) g⟩ xV<|xO x3) (s1 (sE<|MV xV<|xIx (xO<|og<|xL xW<|xL (wU xV) xL0) xV) s0) s0) s0)<|s1 (sI (tCmp ⟨qT g⟩ xV<|xO<|og xL0) (s1 (sE<|MV xV<|jJ ⟨qw⟩ (xO<|xIx (xO<|og<|xL x3<|xL (wU<|xO x3) xL0)<|xO<|xU b c<|xA xV<|xA (xO x3) xA0)<|xO<|jJ ⟨ja⟩ (xO x3)<|xO<|xU b c<|xA xV<|xA xV xA0) s0) s0)<|s1 (sR<|xT T I ⟨kX⟩<|xA xV xA0) s0)
noncomputable abbrev qM:Stmt:=top 39
abbrev oF(Z:ZZ)(k:Nat):Prop:=Oz Z k "_law_turning" ["_law_state_here","_law_names"] kM
def Bm(a:Fz Z.K Z.mg "_law_turning" qM)(T:Tx Z.mg)(d:nC Z k):oF Z (k+1):=by have S:FnScope ["_law_state_here","_law_names","_law_rest","_law_found","_law_turn"] ["_law_state_here","_law_names"] (ip qM):=scM;refine ozD a S λf g A c s Q E L h e i l j m b=>?_;exact(s1 (sS b<|QU T I<|xA (xO x3)<|xA (xO<|jJ ⟨ja⟩ xV<|xO x3) xA0)<|s1 (sS b<|og xL0)<|s1 (sF (iR1 T<|xA xV xA0) (gN b)<|s1 (sE<|MV xV<|jJ ⟨qw⟩ (xO<|YL xV<|xO<|xU d e<|xA xV<|xA (xO<|xB T I ⟨la⟩<|xA xV xA0) xA0)<|xO<|xIx (xO<|og<|xL x3<|xL (wU<|xO x3) xL0)<|xO<|xU d e<|xA xV<|xA (xO x3) xA0) s0)<|s1 (sR<|xT T I ⟨kX⟩<|xA xV xA0) s0)
noncomputable abbrev qa:Stmt:=top 40
abbrev uS(Z:ZZ)(k:Nat):Prop:=Oz Z k "_law_led_sign" ["_law_turning_here","_law_sign"] mf
def Ak(a:Fz Z.K Z.mg "_law_led_sign" qa)(T:Tx Z.mg):uS Z (k+1):=by have S:FnScope ["_law_turning_here","_law_sign"] ["_law_turning_here","_law_sign"] (ip qa):=scM;refine ozD a S λf d A b s Q E L e g c i h j l=>?_;exact(s1 (sR<|jJ ⟨qw⟩ (xO<|xIx xV<|xO<|jJ ⟨mM⟩ (xO<|xB T I ⟨lb⟩<|xA xV xA0)<|xO x3)<|xO<|xIx (xO<|og<|xL (wU<|xO x3)<|xL x3 xL0)<|xO<|xT T I ⟨zP⟩<|xA (xO<|xP ⟨lJ (.inr<|.inr<|.inl I) c⟩ xV<|xO x3) xA0) s0)
noncomputable abbrev ot:Stmt:=top 41
abbrev oy(Z:ZZ)(k:Nat):Prop:=Oz Z k "_law_led_clause" ["_law_turning_here","_law_clause_here"] jy
def yb(a:Fz Z.K Z.mg "_law_led_clause" ot)(T:Tx Z.mg)(b:uS Z k):oy Z (k+1):=by have S:FnScope ["_law_turning_here","_law_clause_here","_law_found","_law_sign","_law_there"] ["_law_turning_here","_law_clause_here"] (ip ot):=scM;refine ozD a S λf i A d s Q E L j g l e h m c=>?_;exact(s1 (sS c x7)<|s1 (sF (iS xW) (gN c)<|s1 (sS c<|xU b g<|xA xV<|xA xV xA0)<|s1 (sDP e xV xW<|xO<|xB T I ⟨lb⟩<|xA xV xA0) s0)<|s1 (sR<|xT T I ⟨kX⟩<|xA (xO<|by exact xC (N':=["_law_found","_law_name"]) (cOk S) (by decide+kernel) (iS<|xB T I ⟨tM I h⟩<|xA xV xA0) λ_ _ _ _ _ _ c=>⟨gN c,f0,λ_=>bE<|YM e xV xV⟩) xA0) s0)
noncomputable abbrev ou:Stmt:=top 42
abbrev rM(Z:ZZ)(k:Nat):Prop:=Oz Z k "_law_led_answer" ["_law_turning_here","_law_answer"] mz
def yc(a:Fz Z.K Z.mg "_law_led_answer" ou)(T:Tx Z.mg):rM Z (k+1):=by have S:FnScope ["_law_turning_here","_law_answer","_law_found","_law_place","_law_sign"] ["_law_turning_here","_law_answer"] (ip ou):=scM;refine ozD a S λf e A c s Q E L g h d j i l b=>?_;exact(s1 (sS b<|xT T I ⟨qk⟩<|xA xV xA0)<|s1 (sF (iE T xW) (gT (gN b)<|gN b)<|s1 (sIx xV (xIx (xO<|og<|xL (jJ ⟨mM⟩ (xO x3)<|xO<|xIx xV xV)<|xL (xIx xV xV) xL0)<|xO<|xT T I ⟨zP⟩<|xA (xO<|xP ⟨lJ (.inr<|.inr<|.inl I) d⟩ xV<|xO x3) xA0)<|xO<|jJ ⟨mM⟩ (xO<|xB T I ⟨lb⟩<|xA xV xA0)<|xO x3) s0)<|s1 (sR<|xT T I ⟨kX⟩<|xA xV xA0) s0)
noncomputable abbrev sN:Stmt:=top 43
abbrev yh(Z:ZZ)(k:Nat):Prop:=Oz Z k "_law_closed" ["_law_clauses","_law_turnings"] oH
def Ct(a:Fz Z.K Z.mg "_law_closed" sN)(T:Tx Z.mg)(i:oy Z k):yh Z (k+1):=by have S:FnScope ["_law_clauses","_law_turnings","_law_found","_law_at","_law_turning_here","_law_there"] ["_law_clauses","_law_turnings"] (ip sN):=scM;refine ozD a S λf j A c s Q E L e g d m l n b=>?_;exact(s1 (sS b<|xT T I ⟨qk⟩<|xA xV xA0)<|s1 (sS b x3)<|s1 (sW (tCmp ⟨lJ (.inl I) d⟩ xV<|xO<|xB T I ⟨la⟩<|xA xV xA0)<|s1 (sF (iS xW) (gN b)<|s1 (sS b<|xU i g<|xA xV<|xA (xO<|xIx xV xV) xA0)<|s1 (sI (tCmp ⟨zA d⟩ xV xV) (s1 (sE<|MV xV xW) s0) s0) s0)<|s1 (sS b<|jJ ⟨ja⟩ xV<|xO x3) s0)<|s1 (sRV λh=>absurd (e _ h)<|by decide) s0)
noncomputable abbrev sM:Stmt:=top 44
abbrev yg(Z:ZZ)(k:Nat):Prop:=Oz Z k "_law_riddle" ["_law_state_here","_law_least","_law_most"] oG
def Cr(a:Fz Z.K Z.mg "_law_riddle" sM)(T:Tx Z.mg)(e:nC Z k)(l:pD Z k)(m:oF Z k)(b:yh Z k):yg Z (k+1):=by have S:FnScope ["_law_state_here","_law_least","_law_most","_law_names","_law_kind","_law_many","_law_clauses","_law_turnings"] ["_law_state_here","_law_least","_law_most"] (ip sM):=scM;refine ozD a S λf n A h s Q E L o d g p i j c=>?_;exact(s1 (sS c<|jJ ⟨ja⟩ xV<|xO<|xU e d<|xA xV<|xA (xO<|jJ ⟨ja⟩ (xO<|jJ ⟨mM⟩ xV xV)<|xO x3) xA0)<|s1 (sS c<|xU e d<|xA xV<|xA (xO x3) xA0)<|s1 (sI (tCmp ⟨qT g⟩ xV<|xO x3) (s1 (sR<|lH<|xL x3<|xL (lH xL0) xL0) s0) s0)<|s1 (sS c<|xU e d<|xA xV<|xA (xO<|xIx (xO<|og<|xL x3<|xL x3<|xL x3 xL0)<|xO<|xU e d<|xA xV<|xA (xO x3) xA0) xA0)<|s1 (sC (N':=["_law_state_here","_law_names","_law_turn"]) c (cOk S) (by decide+kernel) (iR1 T<|xA xV xA0) λ_ _ _ _ _ _ c=>⟨gN c,f0,λ_=>bE<|xU l d<|xA xV<|xA xV xA0⟩)<|s1 (sI (tCmp ⟨lJ (.inr<|.inr<|.inl I) g⟩ xV<|xO x3) (s1 (sC (N':=["_law_state_here","_law_names","_law_turn"]) c (cOk S) (by decide+kernel) (iR1 T<|xA (xO<|jJ ⟨ja⟩ (xO x3)<|xO<|jJ ⟨sQ⟩ xV<|xO x3) xA0) λ_ _ _ _ _ _ c=>⟨gN c,f0,λ_=>bE<|xU m d<|xA xV<|xA xV xA0⟩)<|s1 (sI (tCmp ⟨qT g⟩ xV<|xO x3) (s1 (sC (N':=["_law_turning_here"]) c (cOk S) (by decide+kernel) (iS xW) λ_ _ _ _ _ _ c=>⟨gN c,f0,λ_=>bE<|xT T I ⟨kX⟩<|xA (xO<|by exact xC (N':=["_law_sign"]) (Qg I I<|by with_unfolding_all rfl) (by decide+kernel) (iS xW) λ_ _ _ _ _ _ c=>⟨gN c,f0,λ_=>bE<|xB T I ⟨lb⟩<|xA xV xA0⟩) xA0⟩) s0) s0)<|s1 (sS c<|xU b d<|xA (xO<|Fv (xO<|xB T I ⟨tM I i⟩<|xA (xO (xT T I ⟨Dz I j⟩ (xA xV xA0))) xA0)<|xO x3)<|xA xV xA0) s0) s0)<|s1 (sS c<|xB T I ⟨tM I i⟩<|xA (xO<|xT T I ⟨Dz I j⟩<|xA xV xA0) xA0)<|s1 (sI (tCmp ⟨lJ (.inr<|.inr<|.inl I) g⟩ (xO<|xB T I ⟨la⟩<|xA xV xA0)<|xO x3) (s1 (sS c<|Fv xV<|xO<|xU e d<|xA xV<|xA (xO x3) xA0) s0) s0)<|s1 (sR<|lH<|xL xW<|xL (xT T I ⟨kX⟩<|xA xV xA0) xL0) s0)
noncomputable abbrev Bb:Stmt:=top 45
abbrev F8(Z:ZZ)(k:Nat):Prop:=Oz Z k "_law_so" ["_law_answer","_law_sign"] vK
def Lm(a:Fz Z.K Z.mg "_law_so" Bb)(T:Tx Z.mg):F8 Z (k+1):=by have S:FnScope ["_law_answer","_law_sign"] ["_law_answer","_law_sign"] (ip Bb):=scM;refine ozD a S λf d A b s Q E L e g c i h j l=>?_;exact(s1 (sR<|xP ⟨qT c⟩ (xO<|xIx xV<|xO<|jJ ⟨mM⟩ (xO<|xB T I ⟨lb⟩<|xA xV xA0)<|xO x3)<|xO<|xT T I ⟨zP⟩<|xA (xO<|xP ⟨lJ (.inr<|.inr<|.inl I) c⟩ xV<|xO x3) xA0) s0)
noncomputable abbrev nA:Stmt:=top 46
abbrev nD(Z:ZZ)(k:Nat):Prop:=Oz Z k "_law_keeps_clause" ["_law_answer","_law_clause_here"] jH
def vR(a:Fz Z.K Z.mg "_law_keeps_clause" nA)(T:Tx Z.mg)(b:F8 Z k):nD Z (k+1):=by have S:FnScope ["_law_answer","_law_clause_here"] ["_law_answer","_law_clause_here"] (ip nA):=scM;refine ozD a S λf g A c s Q E L h e i l j m d=>?_;exact(s1 (sR<|xB T I ⟨DD I⟩<|xA (xO<|by exact xC (N':=["_law_answer","_law_sign"]) (cOk S) (by decide+kernel) (iS xW) λ_ _ _ _ _ _ d=>⟨gN d,f0,λ_=>bE<|xU b e<|xA xV<|xA xV xA0⟩) xA0) s0)
noncomputable abbrev nQ:Stmt:=top 47
abbrev qA(Z:ZZ)(k:Nat):Prop:=Oz Z k "_law_all_answers" ["_law_names"] lW
def xk(a:Fz Z.K Z.mg "_law_all_answers" nQ)(T:Tx Z.mg):qA Z (k+1):=by have S:FnScope ["_law_names","_law_found","_law_place","_law_longer","_law_begun"] ["_law_names"] (ip nQ):=scM;refine ozD a S λf e A c s Q E L d g i l j m b=>?_;exact(s1 (sS b<|og<|xL (lH xL0) xL0)<|s1 (sF (iR1 T<|xA xV xA0) (gN b)<|s1 (sS b<|og xL0)<|s1 (sF (iS xW) (gN b)<|s1 (sE<|YN xV<|by exact xC (N':=["_law_begun","_law_bit"]) (cOk S) (by decide+kernel) (iS<|lH<|xL x3<|xL x3 xL0) λ_ _ _ _ _ _ b=>⟨gN b,f0,λ_=>bE<|jJ ⟨ja⟩ xV<|xO<|lH<|xL xW xL0⟩) s0)<|s1 (sS b xW) s0)<|s1 (sRV λh=>absurd (d _ h)<|by decide) s0)
noncomputable abbrev qP:Stmt:=top 48
abbrev wm(Z:ZZ)(k:Nat):Prop:=Oz Z k "_law_answers" ["_law_riddle_here"] nX
def Bq(a:Fz Z.K Z.mg "_law_answers" qP)(T:Tx Z.mg)(b:qA Z k)(i:nD Z k):wm Z (k+1):=by have S:FnScope ["_law_riddle_here","_law_found","_law_clause_here"] ["_law_riddle_here"] (ip qP):=scM;refine ozD a S λf j A d s Q E L g e l n m o c=>?_;exact(s1 (sS c<|xU b e<|xA (xO<|xIx xV<|xO x3) xA0)<|s1 (sF (iS<|xIx xV<|xO x3) (gN c)<|s1 (sC (N':=["_law_clause_here","_law_answer"]) c (cOk S) (by decide+kernel) (iS xW) λ_ _ _ _ _ _ c=>⟨gN c,f1<|pY<|xU i e<|xA xV<|xA xV xA0,λ_=>bE xW⟩) s0)<|s1 (sRV λh=>absurd (g _ h)<|by decide) s0)
noncomputable abbrev nB:Stmt:=top 49
abbrev qe(Z:ZZ)(k:Nat):Prop:=Oz Z k "_law_all_turnings" ["_law_names"] nc
def vS(a:Fz Z.K Z.mg "_law_all_turnings" nB)(T:Tx Z.mg):qe Z (k+1):=by have S:FnScope ["_law_names","_law_found","_law_place","_law_longer","_law_begun","_law_sign"] ["_law_names"] (ip nB):=scM;refine ozD a S λf g A c s Q E L e i d l j m b=>?_;exact(s1 (sS b<|og<|xL (lH xL0) xL0)<|s1 (sF (iR1 T<|xA xV xA0) (gN b)<|s1 (sS b<|og xL0)<|s1 (sF (iS xW) (gN b)<|s1 (sF (iS<|jJ ⟨ja⟩ (xO<|QU T I<|xA (xO<|wU xV)<|xA (xO x3) xA0)<|xO<|QU T I<|xA (xO x3)<|xA (xO<|jJ ⟨ja⟩ xV<|xO x3) xA0) (gN b)<|s1 (sI (tW<|YO (tCmp ⟨zA d⟩ xV xV)<|WV<|tCmp ⟨zA d⟩ (xO<|wU xV) xV) (s1 (sE<|MV xV<|jJ ⟨ja⟩ xV<|xO<|lH<|xL xW xL0) s0) s0) s0) s0)<|s1 (sS b xW) s0)<|s1 (sRV λh=>absurd (e _ h)<|by decide) s0)
noncomputable abbrev uH:Stmt:=top 50
abbrev uT(Z:ZZ)(k:Nat):Prop:=Oz Z k "_law_leads" ["_law_turning_here","_law_clauses","_law_there"] lU
def EL(a:Fz Z.K Z.mg "_law_leads" uH)(T:Tx Z.mg)(e:oy Z k):uT Z (k+1):=by have S:FnScope ["_law_turning_here","_law_clauses","_law_there","_law_clause_here"] ["_law_turning_here","_law_clauses","_law_there"] (ip uH):=scM;refine ozD a S λf h A b s Q E L i c j l d m g=>?_;exact(s1 (sF (iS xW) (gN g)<|s1 (sI (tCmp ⟨Il d⟩ (xO<|xU e c<|xA xV<|xA xV xA0) xV) (s1 (sR x2) s0) s0) s0)<|s1 (sR x2) s0)
noncomputable abbrev oq:Stmt:=top 51
abbrev rL(Z:ZZ)(k:Nat):Prop:=Oz Z k "_law_likenesses" ["_law_riddle_here"] my
def ya(a:Fz Z.K Z.mg "_law_likenesses" oq)(T:Tx Z.mg)(i:Z.mg "dict"=J)(b:qe Z k)(h:uT Z k):rL Z (k+1):=by have S:FnScope ["_law_riddle_here","_law_there"] ["_law_riddle_here"] (ip oq):=scM;refine ozD a S λf j A d s Q E L l e m n g o c=>?_;exact(s1 (sS c<|WQ g i<|xA (xO<|by exact xC (N':=["_law_clause_here"]) (cOk S) (by decide+kernel) (iS<|xIx xV<|xO x3) λ_ _ _ _ _ _ c=>⟨gN c,f0,λ_=>bE<|lH<|xL xW<|xL x2 xL0⟩) xA0)<|s1 (sR<|by exact xC (N':=["_law_there","_law_riddle_here","_law_turning_here"]) (cOk S) (by decide+kernel) (iS<|xU b e<|xA (xO<|xIx xV<|xO x3) xA0) λ_ _ _ _ _ _ c=>⟨gN c,f1<|pY<|xU h e<|xA xV<|xA (xO<|xIx xV<|xO x3)<|xA xV xA0,λ_=>bE xW⟩) s0)
noncomputable abbrev nP:Stmt:=top 52
abbrev qz(Z:ZZ)(k:Nat):Prop:=Oz Z k "_law_bad_turning" ["_law_state_here","_law_names"] lV
def xj(a:Fz Z.K Z.mg "_law_bad_turning" nP)(T:Tx Z.mg)(g:oF Z k)(d:nC Z k):qz Z (k+1):=by have S:FnScope ["_law_state_here","_law_names","_law_turning_here","_law_at","_law_odd","_law_some"] ["_law_state_here","_law_names"] (ip nP):=scM;refine ozD a S λf h A e s Q E L i c j m l n b=>?_;exact(s1 (sS b<|xU g c<|xA xV<|xA xV xA0)<|s1 (sS b<|xU d c<|xA xV<|xA (xO<|jJ ⟨ja⟩ xV<|xO x3) xA0)<|s1 (sS b<|xIx (xO<|og<|xL x3<|xL (jJ ⟨ja⟩ xV<|xO x3)<|xL (jJ ⟨mM⟩ (xO<|wU xV)<|xO x3)<|xL x2<|xL x1<|xL x4<|xL (lH<|xL x3 xL0)<|xL (jJ ⟨Au⟩ (xO x3) (xO x3)) (xL (og (xL x3 xL0)) (xL x2 xL0)))<|xO<|xU d c<|xA xV<|xA (xO x3) xA0)<|s1 (sS b<|og<|xL (jJ ⟨ja⟩ (xO<|jJ ⟨ja⟩ (xO<|Fv xV xV)<|xO<|lH<|xL xW xL0)<|xO<|HE xV<|xO<|jJ ⟨ja⟩ xV<|xO x3)<|xL (jJ ⟨ja⟩ (xO<|jJ ⟨ja⟩ (xO<|Fv xV xV)<|xO<|lH<|xL xW xL0)<|xO<|HE xV xV)<|xL (jJ ⟨ja⟩ xV<|xO<|lH<|xL (jJ ⟨ja⟩ xV<|xO x3) xL0) xL0)<|s1 (sS b<|jJ ⟨ja⟩ xV<|xO<|og<|xL (xT T I ⟨qk⟩<|xA xV xA0)<|xL x1<|xL x7<|xL (og<|xL xW xL0)<|xL (lH (xL xW xL0)) (xL (jJ ⟨ja⟩ (xO (jJ ⟨ja⟩ (xO (Fv xV xV)) (xO (HE xV (xO (jJ ⟨ja⟩ xV (xO x3))))))) (xO (lH (xL x3 xL0)))) xL0))<|s1 (sR<|xIx xV<|xO<|xIx (xO<|og<|xL x3<|xL x3<|xL x3 (xL x3 (xL x3 (xL x3 (xL x3 (xL x3 (xL x3 (xL x3 (xL x3 xL0)))))))))<|xO<|xU d c<|xA xV<|xA (xO x3) xA0) s0)
noncomputable abbrev qN:Stmt:=top 53
abbrev qU(Z:ZZ)(k:Nat):Prop:=Oz Z k "_law_may_put" ["_law_known","_law_clause_here","_law_turning_here"] lh
def Bo(a:Fz Z.K Z.mg "_law_may_put" qN)(T:Tx Z.mg)(h:nD Z k)(b:rM Z k):qU Z (k+1):=by have S:FnScope ["_law_known","_law_clause_here","_law_turning_here","_law_broken"] ["_law_known","_law_clause_here","_law_turning_here"] (ip qN):=scM;refine ozD a S λf i A d s Q E L j e g m l n c=>?_;exact(s1 (sC (N':=["_law_clause_here","_law_answer"]) c (cOk S) (by decide+kernel) (iS xW) λ_ _ _ _ _ _ c=>⟨gN c,f1<|tNot<|pY<|xU h e<|xA xV<|xA xV xA0,λ_=>bE xW⟩)<|s1 (sR<|xB T I ⟨oE I⟩<|xA (xO<|by exact xC (N':=["_law_turning_here","_law_answer"]) (cOk S) (by decide+kernel) (iS xW) λ_ _ _ _ _ _ c=>⟨gN c,f0,λ_=>bE<|xP ⟨lJ (.inl I) g⟩ (xO<|xU b e<|xA xV<|xA xV xA0) xV⟩) xA0) s0)
noncomputable abbrev oV:Stmt:=top 54
abbrev tY(Z:ZZ)(k:Nat):Prop:=Oz Z k "_law_good_pair" ["_law_state_here","_law_riddle_here","_law_likes","_law_known"] mP
def zC(a:Fz Z.K Z.mg "_law_good_pair" oV)(T:Tx Z.mg)(g:pD Z k)(e:nC Z k)(j:qU Z k):tY Z (k+1):=by have S:FnScope ["_law_state_here","_law_riddle_here","_law_likes","_law_known","_law_pair","_law_turn"] ["_law_state_here","_law_riddle_here","_law_likes","_law_known"] (ip oV):=scM;refine ozD a S λf l A d s Q E L i b m o n p c=>?_;exact(s1 (sS c<|lH<|xL (xU g b<|xA xV<|xA (xO<|xIx xV<|xO x3) xA0)<|xL (xIx xV<|xO<|xU e b<|xA xV<|xA (xO<|xB T I ⟨la⟩<|xA xV xA0) xA0) xL0)<|s1 (sF (iR1 T<|xA (xO x3) xA0) (gN c)<|s1 (sI (pY<|xU j b<|xA xV<|xA (xO<|xIx xV<|xO x3)<|xA (xO<|xIx xV<|xO x3) xA0) (s1 (sRV λh=>absurd (i _ h)<|by decide) s0) s0)<|s1 (sS c<|lH<|xL (xU g b<|xA xV<|xA (xO<|xIx xV<|xO x3) xA0)<|xL (xIx xV<|xO<|xU e b<|xA xV<|xA (xO<|xB T I ⟨la⟩<|xA xV xA0) xA0) xL0) s0)<|s1 (sRV λh=>absurd (i _ h)<|by decide) s0)
noncomputable abbrev nO:Stmt:=top 55
abbrev qy(Z:ZZ)(k:Nat):Prop:=Oz Z k "_law_bent_clause" ["_law_state_here","_law_clause_here","_law_names"] kT
def xi(a:Fz Z.K Z.mg "_law_bent_clause" nO)(T:Tx Z.mg)(b:nC Z k):qy Z (k+1):=by have S:FnScope ["_law_state_here","_law_clause_here","_law_names","_law_at","_law_odd","_law_some"] ["_law_state_here","_law_clause_here","_law_names"] (ip nO):=scM;refine ozD a S λf g A e s Q E L h c i l j m d=>?_;exact(s1 (sS d<|xU b c<|xA xV<|xA (xO<|jJ ⟨ja⟩ (xO<|xB T I ⟨la⟩<|xA xV xA0)<|xO x3) xA0)<|s1 (sS d<|xIx (xO<|og<|xL x3<|xL (jJ ⟨ja⟩ xV<|xO x3)<|xL x2<|xL x1<|xL x4<|xL (lH<|xL x3 xL0)<|xL (jJ ⟨Au⟩ (xO x3)<|xO x3)<|xL x2 xL0)<|xO<|xU b c<|xA xV<|xA (xO x3) xA0)<|s1 (sS d<|og<|xL (jJ ⟨ja⟩ (xO<|jJ ⟨ja⟩ (xO<|Fv xV xV)<|xO<|lH<|xL xW xL0)<|xO<|HE xV xV)<|xL (jJ ⟨ja⟩ (xO<|jJ ⟨ja⟩ (xO<|Fv xV xV)<|xO<|lH<|xL xW xL0)<|xO<|HE xV<|xO<|jJ ⟨ja⟩ xV<|xO x3)<|xL (YK xV<|xO<|wU<|xO x3)<|xL (xT T I ⟨qk⟩<|xA xV xA0)<|xL (lH xL0) xL0)<|s1 (sR<|xIx (xO<|jJ ⟨ja⟩ xV<|xO<|og<|xL x1<|xL x7<|xL (jJ ⟨ja⟩ (xO<|Fv xV xV)<|xO<|HE xV (xO (jJ ⟨mM⟩ xV (xO x3))))<|xL xW<|xL (lH (xL xW xL0)) xL0)<|xO<|xU b c<|xA xV<|xA (xO x3) xA0) s0)
noncomputable abbrev uF:Stmt:=top 56
abbrev uR(Z:ZZ)(k:Nat):Prop:=Oz Z k "_law_whole" ["_law_thing","_law_least","_law_most"] jT
def EJ(a:Fz Z.K Z.mg "_law_whole" uF)(T:Tx Z.mg):uR Z (k+1):=by have S:FnScope ["_law_thing","_law_least","_law_most"] ["_law_thing","_law_least","_law_most"] (ip uF):=scM;refine ozD a S λf c A b s Q E L d e g i h j l=>?_;exact(s1 (sR<|AY (xI T I xV)<|AY (WO<|xI T I xV)<|xBo<|xCh xV xV xV) s0)
noncomputable abbrev oU:Stmt:=top 57
abbrev tX(Z:ZZ)(k:Nat):Prop:=Oz Z k "_law_is_clause" ["_law_names","_law_thing"] lN
def zB(a:Fz Z.K Z.mg "_law_is_clause" oU)(T:Tx Z.mg)(g:uR Z k):tX Z (k+1):=by have S:FnScope ["_law_names","_law_thing","_law_last","_law_sign"] ["_law_names","_law_thing"] (ip oU):=scM;refine ozD a S λf h A c s Q E L i e d l j m b=>?_;exact(s1 (sI (tW<|wOr (tNot<|pY<|xI T I xV)<|FA<|tCmp ⟨qT d⟩ xV<|xO<|lH xL0) (s1 (sR x2) s0) s0)<|s1 (sS b x3)<|s1 (sF (iS xW) (gN b)<|s1 (sI (tW<|wOr (tNot<|pY<|xU g e<|xA xV<|xA (xO<|wU xV)<|xA xV xA0)<|FA<|tCmp ⟨lJ (.inr<|.inl I) d⟩ (xO<|xB T I ⟨lb⟩<|xA xV xA0) xV) (s1 (sR x2) s0) s0)<|s1 (sS b<|xB T I ⟨lb⟩<|xA xV xA0) s0)<|s1 (sR x2) s0)
noncomputable abbrev ox:Stmt:=top 58
abbrev rN(Z:ZZ)(k:Nat):Prop:=Oz Z k "_law_is_turning" ["_law_names","_law_thing"] kD
def yd(a:Fz Z.K Z.mg "_law_is_turning" ox)(T:Tx Z.mg)(h:uR Z k):rN Z (k+1):=by have S:FnScope ["_law_names","_law_thing"] ["_law_names","_law_thing"] (ip ox):=scM;refine ozD a S λf i A c s Q E L j e d l g m b=>?_;exact(s1 (sI (tW<|wOr (tNot<|pY<|xI T I xV)<|FA<|tCmp ⟨Im d⟩ (xO<|xB T I ⟨la⟩<|xA xV xA0) xV) (s1 (sR x2) s0) s0)<|s1 (sI (tNot<|pY<|xB T I ⟨oE I⟩<|xA (xO<|by exact xC (N':=["_law_names","_law_sign"]) (cOk S) (by decide+kernel) (iS xW) λ_ _ _ _ _ _ b=>⟨gN b,f0,λ_=>bE<|xU h e<|xA xV<|xA (xO<|wU xV)<|xA xV xA0⟩) xA0) (s1 (sR x2) s0) s0)<|s1 (sR<|xP ⟨qT d⟩ (xO<|xB T I ⟨tL g⟩<|xA (xO<|by exact xC (N':=["_law_sign"]) (cOk S) (by decide+kernel) (iS xW) λ_ _ _ _ _ _ b=>⟨gN b,f0,λ_=>bE<|xB T I ⟨lb⟩<|xA xV xA0⟩) xA0)<|xO<|QU T I<|xA (xO x3)<|xA (xO<|jJ ⟨ja⟩ xV<|xO x3) xA0) s0)
noncomputable abbrev zt:Stmt:=top 59
abbrev C8(Z:ZZ)(k:Nat):Prop:=Oz Z k "_law_due" ["_law_riddle_here","_law_known","_law_clause_here","_law_turning_here"] lO
def Iq(a:Fz Z.K Z.mg "_law_due" zt)(T:Tx Z.mg)(l:Z.mg "dict"=J)(c:tX Z k)(b:rN Z k)(j:uT Z k)(i:qU Z k):C8 Z (k+1):=by have S:FnScope ["_law_riddle_here","_law_known","_law_clause_here","_law_turning_here","_law_there"] ["_law_riddle_here","_law_known","_law_clause_here","_law_turning_here"] (ip zt):=scM;refine ozD a S λf m A g s Q E L n d o p h q e=>?_;exact(s1 (sI (tW<|wOr (tNot<|pY<|xU c d<|xA (xO<|xIx xV<|xO x3)<|xA xV xA0)<|FA<|tNot<|pY<|xU b d<|xA (xO<|xIx xV<|xO x3)<|xA xV xA0) (s1 (sR x2) s0) s0)<|s1 (sS e<|WQ h l<|xA (xO<|by exact xC (N':=["_law_one"]) (cOk S) (by decide+kernel) (iS<|xIx xV<|xO x3) λ_ _ _ _ _ _ e=>⟨gN e,f0,λ_=>bE<|lH<|xL xW<|xL x2 xL0⟩) xA0)<|s1 (sR<|AY (xU j d<|xA xV<|xA (xO<|xIx xV<|xO x3)<|xA xV xA0)<|xBo<|xU i d<|xA xV<|xA xV<|xA xV xA0) s0)
noncomputable abbrev JE:Stmt:=top 60
def Ww:BdA "law" JE ["_law_script"]:=λ_ _ _ _ _ _=>us1 λ_=>us0 I
def VR{f:hV}{o:oI}(F:Fun Z.K "law" "law" JE f o)(T:Tx Z.mg)(h:zW Z k)(g:yg Z k)(c:rL Z k)(e:wm Z k)(d:tY Z k)(r:oF Z k)(b:qy Z k)(a:qz Z k)(p:pD Z k)(m:C7 Z k)(i:C8 Z k):FnOk Z.P Z.w Z.K Z.mg Z.base CX0 (k+1) f o ["_law_script"] (spF Z.K wu):=by have S:FnScope ["_law_script","_law_k","_law_state_here","_law_riddle_here","_law_likes","_law_known","_law_clause_here","_law_turning_here","_law_other","_law_bent","_law_bad","_law_pairs","_law_one","_law_two","_law_found"] ["_law_script"] (ip JE):=scM;refine fnB (asg:=[1,2,3,4,5,6,7,8,9,10,11,12,13,14]) (fs:=BF) F S λf t A n s Q E L u l q x v y j=>?_;exact(s1 (sF (iR1 T<|xA (xO<|xB T I ⟨Jf I⟩<|xA (xO x3)<|xA (xO<|xB T I ⟨BZ I⟩<|xA (xO<|xB T I ⟨la⟩<|xA xV xA0)<|xA (xO x3) xA0) xA0) xA0) (gN j)<|s1 (sS j<|xU h l<|xA xV<|xA xV xA0)<|s1 (sS j<|xU g l<|xA xV<|xA (xO x3)<|xA (xO<|jJ ⟨mM⟩ (xO x3)<|xO<|xB T I ⟨BZ I⟩<|xA xV<|xA (xO x3) xA0) xA0)<|s1 (sS j<|xU c l<|xA xV xA0)<|s1 (sS j<|xU e l<|xA xV xA0)<|s1 (sT (xU d l<|xA xV<|xA xV<|xA xV<|xA xV xA0)<|gT (gN j)<|gN j)<|s1 (sS j<|xU r l<|xA xV<|xA (xO<|xIx xV<|xO x3) xA0)<|s1 (sS j<|xU b l<|xA xV<|xA xV<|xA (xO<|xIx xV (xO x3)) xA0)<|s1 (sS j<|xU a l<|xA xV<|xA (xO<|xIx xV (xO x3)) xA0)<|s1 (sS j<|og<|xL (lH<|xL xW (xL xW xL0))<|xL (lH (xL xW (xL xW xL0))) (xL (lH (xL (xU p l (xA xV (xA (xO (xIx xV (xO x3))) xA0))) (xL xW xL0))) (xL (lH (xL xW (xL xW xL0))) xL0)))<|s1 (sF (iS<|jJ ⟨ja⟩ xV<|xO (og (xL (lH (xL xW (xL xW xL0))) (xL (lH (xL xW (xL xW xL0))) xL0)))) (gT (gN j)<|gN j)<|s1 (sS j<|xU m l (xA xV (xA xV (xA xV xA0))))<|s1 (sI (tW (wOr (tNot (pY (xI T I xV))) (FA (tCmp ⟨Im q⟩ xV (xO (xU i l (xA xV (xA xV (xA xV (xA xV xA0)))))))))) (s1 (sR x2) s0) s0) s0) s0)<|s1 (sR<|AY (xP ⟨Ou⟩ (xO<|xU m l<|xA (xO<|lH<|xL x3<|xL (lH xL0) xL0)<|xA (xO<|lH<|xL (wU<|xO x3)<|xL x3 xL0)<|xA (xO<|lH<|xL x3<|xL x3 xL0) xA0)<|xO x2)<|xBo<|xP ⟨Ou⟩ (xO<|xU m l<|xA (xO<|lH<|xL x3<|xL (lH xL0) xL0)<|xA (xO<|lH<|xL x3<|xL (wU<|xO x3) xL0)<|xA (xO<|lH<|xL x3<|xL x3 xL0) xA0)<|xO x2) s0)
end
def all_mk{l:eM}{w:iK}{K:iM}{a:nJ}{fa:hV}(gm:a "law"=FM (.ref fa))(T:Tx a)
  (a0:Fz K a "is_whole" xb)
  (a1:Fz K a "is_number" uK)
  (a2:Fz K a "is_bit" Bc)
  (a3:Fz K a "is_name" zv)
  (a4:Fz K a "is_sign" zu)
  (a5:Fz K a "is_rising" uJ)
  (a6:Fz K a "is_clause" uL)
  (a7:Fz K a "is_answer" uM)
  (a8:Fz K a "is_so" EE)
  (a9:Fz K a "keeps_clause" qb)
  (a10:Fz K a "keeps" ED)
  (a11:Fz K a "all_answers" qR)
  (a12:Fz K a "answers" zw)
  (a13:Fz K a "answers_against" nR)
  (a14:Fz K a "is_turning" sP)
  (a15:Fz K a "check_turning" oW)
  (a16:Fz K a "led_sign" wZ)
  (a17:Fz K a "led_clause" sJ)
  (a18:Fz K a "led" Nu)
  (a19:Fz K a "back" HP)
  (a20:Fz K a "led_answer" sL)
  (a21:Fz K a "is_likeness" qQ)
  (a22:Fz K a "keeps_row" uI)
  (a23:Fz K a "lowers" Ba)
  (a24:Fz K a "may_put" zr)
  (a25:Fz K a "_law_cell_at" qO)
  (a26:Fz K a "_law_state" uG)
  (a27:Fz K a "_law_take" xa)
  (a28:Fz K a "_law_clause" sO)
  (a29:Fz K a "_law_turning" qM)
  (a30:Fz K a "_law_led_sign" qa)
  (a31:Fz K a "_law_led_clause" ot)
  (a32:Fz K a "_law_led_answer" ou)
  (a33:Fz K a "_law_closed" sN)
  (a34:Fz K a "_law_riddle" sM)
  (a35:Fz K a "_law_so" Bb)
  (a36:Fz K a "_law_keeps_clause" nA)
  (a37:Fz K a "_law_all_answers" nQ)
  (a38:Fz K a "_law_answers" qP)
  (a39:Fz K a "_law_all_turnings" nB)
  (a40:Fz K a "_law_leads" uH)
  (a41:Fz K a "_law_likenesses" oq)
  (a42:Fz K a "_law_bad_turning" nP)
  (a43:Fz K a "_law_may_put" qN)
  (a44:Fz K a "_law_good_pair" oV)
  (a45:Fz K a "_law_bent_clause" nO)
  (a46:Fz K a "_law_whole" uF)
  (a47:Fz K a "_law_is_clause" oU)
  (a48:Fz K a "_law_is_turning" ox)
  (a49:Fz K a "_law_due" zt)
  (a50:Fz K a "law" JE)
  (o7:a "dict"=F2)
  (k6: ∃t,a "MOST_SIGNS"=FM (.int 5 t))
  : ∃j:oI,(∀(s:il) (v:iC),fo s j ⟨[v],[]⟩ [("_law_script",v)])/\ ∀base:iO,K.In base->base.Ns ao a->FnOk l.prog w K a base CX0 11 fa j ["_law_script"] (spF K wu):=by
 obtain⟨j,F,hb⟩:=fzL a50 gm Ww;refine⟨j,hb,λbase KB _=>?_⟩
 let z:ZZ:=⟨l.prog,w,K,a,base⟩
 have O0:=F6 (Z:=z) (k:=0) a0 T;have O1:=EO (Z:=z) (k:=1) a1 T O0.up;have O2:=Ln (Z:=z) (k:=2) a2 T O1.up;have O3:=Iu (Z:=z) (k:=2) a3 T O1.up;have O4:=Ir (Z:=z) (k:=3) a4 T O0.up O3.up;have O5:=EN (Z:=z) (k:=0) a5 T;have O6:=ES (Z:=z) (k:=4) a6 T k6 O4.up O5.up;have O7:=ET (Z:=z) (k:=3) a7 T O2.up;have O8:=OB (Z:=z) (k:=0) a8 T;have O9:=Al (Z:=z) (k:=1) a9 T O8.up;have m:=OA (Z:=z) (k:=4) a10 T O7.up O9.up;have n:=Bs (Z:=z) (k:=0) a11 T;have o:=Iv (Z:=z) (k:=5) a12 T n.up m.up;have p:=xl (Z:=z) (k:=6) a13 T o.up O9.up;have c:=Cv (Z:=z) (k:=4) a14 T O4.up;have d:=zD (Z:=z) (k:=5) a15 T c.up;have q:=F4 (Z:=z) (k:=0) a16 T;have r:=Cp (Z:=z) (k:=1) a17 T q.up;have u:=VQ (Z:=z) (k:=6) a18 T d.up r.up;have x:=Sn (Z:=z) (k:=0) a19 T;have y:=Cq (Z:=z) (k:=6) a20 T d.up x.up O8.up;have A:=Br (Z:=z) (k:=7) a21 T c.up u.up;have B:=EM (Z:=z) (k:=7) a22 T y.up;have C:=Ll (Z:=z) (k:=8) a23 T B.up;have E:=Ip (Z:=z) (k:=9) a24 T O6.up A.up p.up C.up;have H:=Bp (Z:=z) (k:=0) a25 T;have I:=EK (Z:=z) (k:=1) a26 T H.up;have b:=F5 (Z:=z) (k:=0) a27 T;have gU:=Cu (Z:=z) (k:=1) a28 T b.up;have gS:=Bm (Z:=z) (k:=1) a29 T b.up;have L:=Ak (Z:=z) (k:=0) a30 T;have e:=yb (Z:=z) (k:=1) a31 T L.up;have O:=yc (Z:=z) (k:=0) a32 T;have Q:=Ct (Z:=z) (k:=2) a33 T e.up;have G:=Cr (Z:=z) (k:=3) a34 T b.up gU.up gS.up Q.up;have J:=Lm (Z:=z) (k:=0) a35 T;have f:=vR (Z:=z) (k:=1) a36 T J.up;have M:=xk (Z:=z) (k:=0) a37 T;have N:=Bq (Z:=z) (k:=2) a38 T M.up f.up;have U:=vS (Z:=z) (k:=0) a39 T;have g:=EL (Z:=z) (k:=2) a40 T e.up;have Y:=ya (Z:=z) (k:=3) a41 T o7 U.up g.up;have D:=xj (Z:=z) (k:=2) a42 T gS.up b.up;have h:=Bo (Z:=z) (k:=2) a43 T f.up O.up;have P:=zC (Z:=z) (k:=3) a44 T gU.up b.up h.up;have R:=xi (Z:=z) (k:=1) a45 T b.up;have i:=EJ (Z:=z) (k:=0) a46 T;have S:=zB (Z:=z) (k:=1) a47 T i.up;have V:=yd (Z:=z) (k:=1) a48 T i.up;have X:=Iq (Z:=z) (k:=3) a49 T o7 S.up V.up g.up h.up;exact VR (Z:=z) (k:=10) F T I.up G.up Y.up N.up P.up gS.up R.up D.up gU.up E.up X.up
end K71
namespace PV
open PySem PySem.Spec PyProof.Rows L2 PX
@[simp] theorem aag(d:D)(a:Dn):fC d a=Y ((d,C),a):=rfl
@[simp] theorem Zj(f:F)(a:Dn):hG f a=(f a).bind λp=>Y (.val p.1,p.2):=rfl
@[simp] theorem YD(x:D×Bool)(a:Dn):gZ 0 (Y x::a)=Y (.slot 0,Y x::a):=rfl
@[simp] theorem YC(a:Sl)(x:D×Bool)(b:Dn):gZ 1 (a::Y x::b)=Y (.slot 1,a::Y x::b):=rfl
@[simp] theorem YB(a b:Sl)(x:D×Bool)(c:Dn):gZ 2 (a::b::Y x::c)=Y (.slot 2,a::b::Y x::c):=rfl
@[simp] theorem YA(a b c:Sl)(x:D×Bool)(d:Dn):gZ 3 (a::b::c::Y x::d)=Y (.slot 3,a::b::c::Y x::d):=rfl
@[simp] theorem Yz(a b c d:Sl)(x:D×Bool)(e:Dn):gZ 4 (a::b::c::d::Y x::e)=Y (.slot 4,a::b::c::d::Y x::e):=rfl
@[simp] theorem Yy(a b c d e:Sl)(x:D×Bool)(f:Dn):gZ 5 (a::b::c::d::e::Y x::f)=Y (.slot 5,a::b::c::d::e::Y x::f):=rfl
@[simp] theorem Yx(a b c d e f:Sl)(x:D×Bool)(g:Dn):gZ 6 (a::b::c::d::e::f::Y x::g)=Y (.slot 6,a::b::c::d::e::f::Y x::g):=rfl
@[simp] theorem Yw(a b c d e f g:Sl)(x:D×Bool)(h:Dn):gZ 7 (a::b::c::d::e::f::g::Y x::h)=Y (.slot 7,a::b::c::d::e::f::g::Y x::h):=rfl
@[simp] theorem Yv(a b c d e f g h:Sl)(x:D×Bool)(i:Dn):gZ 8 (a::b::c::d::e::f::g::h::Y x::i)=Y (.slot 8,a::b::c::d::e::f::g::h::Y x::i):=rfl
@[simp] theorem Bf(δ:Dn)(r:D×Bool):res δ (.val r)=Y r.1:=rfl
@[simp] theorem Zi(x:D×Bool)(a:Dn):res (Y x::a) (.slot 0)=Y x.1:=rfl
@[simp] theorem Zh(a:Sl)(x:D×Bool)(b:Dn):res (a::Y x::b) (.slot 1)=Y x.1:=rfl
@[simp] theorem Zg(a b:Sl)(x:D×Bool)(c:Dn):res (a::b::Y x::c) (.slot 2)=Y x.1:=rfl
@[simp] theorem Zf(a b c:Sl)(x:D×Bool)(d:Dn):res (a::b::c::Y x::d) (.slot 3)=Y x.1:=rfl
@[simp] theorem Ze(a b c d:Sl)(x:D×Bool)(e:Dn):res (a::b::c::d::Y x::e) (.slot 4)=Y x.1:=rfl
@[simp] theorem Zd(a b c d e:Sl)(x:D×Bool)(f:Dn):res (a::b::c::d::e::Y x::f) (.slot 5)=Y x.1:=rfl
@[simp] theorem Zc(a b c d e f:Sl)(x:D×Bool)(g:Dn):res (a::b::c::d::e::f::Y x::g) (.slot 6)=Y x.1:=rfl
@[simp] theorem Zb(a b c d e f g:Sl)(x:D×Bool)(h:Dn):res (a::b::c::d::e::f::g::Y x::h) (.slot 7)=Y x.1:=rfl
@[simp] theorem Za(a b c d e f g h:Sl)(x:D×Bool)(i:Dn):res (a::b::c::d::e::f::g::h::Y x::i) (.slot 8)=Y x.1:=rfl
@[simp] theorem Zt(g:D->Option (D×Bool))(a:FO)(b:Dn):kN g a b=(a b).bind λp=>(res p.2 p.1).bind λx=>(g x).bind λz=>Y (z,p.2):=rfl
@[simp] theorem Zs(g:D->D->Option (D×Bool))(a b:FO)(c:Dn):ie g a b c=(a c).bind λp=>(b p.2).bind λq=>(res q.2 p.1).bind λx=>(res q.2 q.1).bind λy=>(g x y).bind λz=>Y (z,q.2):=rfl
@[simp] theorem Xd(a:Dn):kx [] a=Y ([],a):=rfl
@[simp] theorem YH(f:FO)(fs:List FO)(a:Dn):kx (f::fs) a=(f a).bind λp=>(kx fs p.2).bind λq=>Y (p.1::q.1,q.2):=rfl
@[simp] theorem Rk(a:Dn):xg a []=Y []:=rfl
@[simp] theorem U0(a:Dn)(o:Opd)(os:List Opd):xg a (o::os)=(res a o).bind λd=>(xg a os).bind λl=>Y (d::l):=rfl
@[simp] theorem YG(g:List D->Option (D×Bool))(fs:List FO)(a:Dn):ir g fs a=(kx fs a).bind λp=>(xg p.2 p.1).bind λb=>(g b).bind λz=>Y (z,p.2):=rfl
@[simp] theorem Yu:nN []=Y []:=rfl
@[simp] theorem Y2(r:D×Bool)(os:List Opd):nN (.val r::os)=(nN os).map (r.1:: ·):=rfl
@[simp] theorem HW(fs:List F)(b:Dn):jD fs b=(kx (fs.map hG) b).bind λp=>(nN p.1).bind λa=>if (Ix a)<=sizeLine then Y ((.tup a,C),p.2) else J:=rfl
@[simp] theorem HX(fs:List F)(δ:Dn):lj fs δ=(kx (fs.map hG) δ).bind λp=>(nN p.1).bind λa=>if (Ix a)<=sizeLine then Y ((.lst a,U),p.2) else J:=rfl
@[simp] theorem aaa(b o:Bool)(a:Dn):asB ((.bl b,o),a)=Y (b,a):=rfl
@[simp] theorem aaf(f:F)(a:Dn):fT f a=(f a).bind asB:=rfl
@[simp] theorem YI(f g:FT)(a:Dn):BN f g a=(f a).bind λp=>if p.1=U then g p.2 else Y (C,p.2):=rfl
@[simp] theorem Zr(f g:FT)(a:Dn):qW f g a=(f a).bind λp=>if p.1=U then Y (U,p.2) else g p.2:=rfl
@[simp] theorem YF(f:FT)(a:Dn):kW f a=(f a).bind λp=>Y (!p.1,p.2):=rfl
@[simp] theorem NF(f g:F)(a:Dn):vc f g a=(f a).bind λp=>(asB p).bind λq=>if q.1=U then g q.2 else Y ((.bl C,C),q.2):=rfl
@[simp] theorem Z8(f g:F)(a:Dn):fOr f g a=(f a).bind λp=>(asB p).bind λq=>if q.1=U then Y ((.bl U,C),q.2) else g q.2:=rfl
@[simp] theorem Zu(f:F)(a:Dn):P5 f a=(f a).bind λp=>(asB p).bind λq=>Y ((.bl (!q.1),C),q.2):=rfl
@[simp] theorem T5(t:FT)(f g:F)(δ:Dn):fIf t f g δ=(t δ).bind λp=>if p.1=U then f p.2 else g p.2:=rfl
@[simp] theorem Y8(a:Dn):iB a=Y (.nx a):=rfl
noncomputable def nxt(g:FS):Out->Option Out
 | .nx a=>g a
 |o=>Y o
@[simp] theorem Zl(g:FS)(a:Dn):nxt g (.nx a)=g a:=rfl
@[simp] theorem Zk(g:FS)(r:D×Bool)(a:Dn):nxt g (.rt r a)=Y (.rt r a):=rfl
@[simp] theorem Y6(f g:FS)(a:Dn):ig f g a=(f a).bind (nxt g):=by
 unfold ig
 cases f a with
 |none=>rfl
 |some o=>cases o<;>rfl
@[simp] theorem Rj(f:F)(δ:Dn):nS f δ=(f δ).bind λp=>Y (.nx p.2):=rfl
@[simp] theorem Y7(f:F)(a:Dn):jK f a=(f a).bind λp=>Y (.rt p.1 p.2):=rfl
@[simp] theorem Z1(t:FT)(f g:FS)(a:Dn):sIf t f g a=(t a).bind λp=>if p.1=U then f p.2 else g p.2:=rfl
@[simp] theorem Y5(i:Nat)(f:F)(a:Dn):iY i f a=(f a).bind λp=>if i<(Ix p.2) then Y (.nx<|p.2.set i<|Y p.1) else J:=rfl
@[simp] theorem UZ(b:Tg)(f:F)(c:Dn):FU b f c=(f c).bind λp=>(b p.1.1 p.2).bind λa=>Y (.nx a):=rfl
@[simp] theorem aae(g:D->Option (D×Bool))(d:D):g1 g [d]=g d:=rfl
@[simp] theorem aad(g:D->D->Option (D×Bool))(d e:D):g2 g [d,e]=g d e:=rfl
@[simp] theorem Xf(i j:Int):jY (.int i) (.int j)=Y (.int<|i+j,C):=rfl
@[simp] theorem Z0(i j:Int):PX.gSub (.int i) (.int j)=Y (.int<|i-j,C):=rfl
@[simp] theorem Z2(i:Int):mN (.int i)=Y (.int (-i),C):=rfl
@[simp] theorem aab(i:Int):mF (.int i)=Y (.int (if i<0 then -i else i),C):=rfl
@[simp] theorem HV(l:List D):oz (.tup l)=Y (.int<|Ix l,C):=rfl
@[simp] theorem U2(l:List D):oz (.lst l)=Y (.int<|Ix l,C):=rfl
@[simp] theorem Y4(l:List D):ml (.lst l)=Y (.tup l,C):=rfl
@[simp] theorem Y3(l:List D):ml (.tup l)=Y (.tup l,C):=rfl
@[simp] theorem Zm(l:List D):Ae (.tup l)=Y (.lst l,U):=rfl
@[simp] theorem Zn(l:List D):Ae (.lst l)=Y (.lst l,U):=rfl
@[simp] theorem Zq(b:Bool):IK (.bl b)=Y (.int (if b then 1 else 0),C):=rfl
@[simp] theorem Zp(b:Int):IK (.int b)=Y (.int b,C):=rfl
@[simp] theorem Z6(i j:Int):PK (.int i) (.int j)=Y (.int (if j>i then j else i),C):=rfl
@[simp] theorem Z5(i j:Int):Dm (.int i) (.int j)=Y (.int (if j<i then j else i),C):=rfl
@[simp] theorem Z7(a:List Ty)(d:D):uh a d=Y (.bl<|a.any<|isT d,C):=rfl
@[simp] theorem T6(i j:Int):gEq (.int i) (.int j)=Y (.bl<|i==j,C):=by unfold gEq;rw[iF<|by simp[D.dep]];simp[D.eqb]
@[simp] theorem Z3(i j:Int):gNe (.int i) (.int j)=Y (.bl (!(i==j)),C):=by unfold gNe;rw[iF<|by simp[D.dep]];simp[D.eqb]
@[simp] theorem Z9(i j:Bool):gEq (.bl i) (.bl j)=Y (.bl<|i==j,C):=by unfold gEq;rw[iF<|by simp[D.dep]];simp[D.eqb]
@[simp] theorem Z4(i j:Bool):gNe (.bl i) (.bl j)=Y (.bl (!(i==j)),C):=by unfold gNe;rw[iF<|by simp[D.dep]];simp[D.eqb]
@[simp] theorem U1(i j:Int):lr .Lt (.int i) (.int j)=Y (.bl<|decide<|i<j,C):=by simp[lr,mR,kf,D.dep]
@[simp] theorem Zo(i j:Int):lr .LtE (.int i) (.int j)=Y (.bl<|decide<|i<=j,C):=by simp[lr,mR,kf,D.dep]
@[simp] theorem ND(i j:Int):lr .Gt (.int i) (.int j)=Y (.bl<|decide<|i>j,C):=by simp[lr,mR,kf,D.dep]
@[simp] theorem aac(i j:Int):lr .GtE (.int i) (.int j)=Y (.bl<|decide<|i>=j,C):=by simp[lr,mR,kf,D.dep]
@[simp] theorem JH(f:F)(δ:Dn):iJ f δ=(f δ).bind λp=>match p.1.1 with| .lst l=>Y (l,p.2)| .tup l=>Y (l,p.2)|_=>J:=rfl
@[simp] theorem Y9(b:FIt)(c:Tg)(a:FS)(d:Dn):mX b c a d=(b d).bind λp=>kZ c a p.1 p.2:=rfl
@[simp] theorem xY(a:Dn):je a=Y (U,a):=rfl
@[simp] theorem As(f:F)(a:List D)(b:Dn):jb f a b=(f b).bind λp=>if (Ix a)<sizeLine then Y (a++[p.1.1],p.2) else J:=rfl
def EB(h:n<=10000):n<=sizeLine:=by rw[jI];lia
def Q8(h:n<=10000):n<sizeLine:=by rw[jI];lia
noncomputable abbrev enc(t:iu):D×Bool:=(.tup<|t.map .int,C)
noncomputable abbrev ii(n:Int):Sl:=Y (.int n,C)
noncomputable abbrev eN(t:iu):Sl:=Y<|enc t
noncomputable abbrev pI(n:Int):D×Bool:=(.int n,C)
noncomputable abbrev pS(a:Int)(b:Bool):D×Bool:=(.lst [.int a,.bl b],U)
def nd1(i:Nat):([i]:List Nat).Nodup:=by simp
noncomputable abbrev stt(a:Int)(b:Bool):Sl:=Y (.lst [.int a,.bl b],U)
noncomputable abbrev lsi(l:iu):Sl:=Y (.lst<|l.map .int,U)
@[simp] theorem YE(b:EvF)(fs:List FO)(c:Dn):ik b fs c=(kx fs c).bind λp=>(kE p.2 p.1).bind λa=>if(iR p.1 a).Nodup then(b a).bind λq=>Y (q.1,wb p.1 a q.2 p.2) else J:=rfl
@[simp] theorem vB(δ:Dn):kE δ []=Y []:=rfl
@[simp] theorem Xe(b:Dn)(o:Opd)(os:List Opd):kE b (o::os)=(B9 b o).bind λa=>(kE b os).bind λl=>Y (a::l):=rfl
@[simp] theorem Zv(a:Dn)(r:D×Bool):B9 a (.val r)=Y (r.1,C):=rfl
@[simp] theorem Zw(a:Dn)(i:Nat):B9 a (.slot i)=(a[i]?).join:=rfl
def zp(a:Int)(b:Bool)(m:Int)(c:0<m)(d:m<1073741824):
  ∃v e,0<=v/\v<m/\iG [pS a b,pI m]=Y ((.int v,C),[Y (.lst [.int e,.bl b],U),ii m]):=by
 cases b
 .have h1: ∀x:Int, -18446744073709551616<x%2147483647/\x%2147483647<18446744073709551616:=λx=>by lia
  have f: ∀x:Int, -18446744073709551616<x%2147483629/\x%2147483629<18446744073709551616:=λx=>by lia
  simp only[iG,uZ];simp[evF,gIx,atI,ixN,yn,gI,PL,ug,Fb,oX,mw,iN,iR,wb,L7,Ar,CMul,c,d,h1,f];exact⟨G2 _ (by lia),G3 _ c⟩
 .simp only[iG,uZ];simp[evF,gIx,atI,ixN,yn,gI,PL,ug,Fb,oX,mw,iN,iR,wb,L7,Ar,CMul,c,d];exact⟨G2 _ (by lia),G3 _ c⟩
theorem vO(x y:Int):(x==y)=decide (x=y):=rfl
def jM{g:List D->Option (D×Bool)}{fs:List FO}{δ a:Dn}{os:List Opd}{ds:List D}{z:D×Bool}(h1:kx fs δ=Y (os,a))(b:xg a os=Y ds)(c:g ds=Y z):ir g fs δ=Y (z,a):=by unfold ir;rw[h1];simp only[jv];rw[b];simp only[jv];rw[c];rfl
def jc(h1:(Ix args)=np/\np<=n/\(args.zipIdx.all λp=>!(p.1.2&&asg.contains p.2))=U)(a:f (args.map Y++ah (n-np) J)=Y (.rt r δ)):evF n np asg f args=Y (r,iN args δ):=by unfold evF;rw[iF h1,a]
def hX(h:f δ=Y (.nx δ1)):ig f g δ=g δ1:=by unfold ig;rw[h];rfl
def iD{r}(h:f δ=Y (.rt r δ1)):ig f g δ=Y (.rt r δ1):=by unfold ig;rw[h];rfl
def jq{r}(h:f δ=Y (r,δ1)):jK f δ=Y (.rt r δ1):=by unfold jK;rw[h];rfl
def jj{r}(h:f δ=Y (r,δ1))(a:i<Ix δ1):iY i f δ=Y (.nx<|δ1.set i<|Y r):=by unfold iY;rw[h];simp only[jv];rw[iF a]
def jW(h:f δ=Y ((.bl b,o),δ1)):fT f δ=Y (b,δ1):=by unfold fT;rw[h];rfl
def iz{r}(h:f δ=Y (r,δ1)):hG f δ=Y (.val r,δ1):=by unfold hG;rw[h];rfl
def ju(h1:a δ=Y (o1,δ1))(b:fb δ1=Y (o2,δ2))(c:res δ2 o1=Y x)(d:res δ2 o2=Y y)(e:g x y=Y z):ie g a fb δ=Y (z,δ2):=by unfold ie;rw[h1];simp only[jv];rw[b];simp only[jv];rw[c,d];simp only[jv];rw[e];rfl
def jn{b:EvF}{fs:List FO}{δ δ1:Dn}{os:List Opd}{args:List (D×Bool)}{r:D×Bool}{a:Dn}(h1:kx fs δ=Y (os,δ1))(c:kE δ1 os=Y args)(d:(iR os args).Nodup)(e:b args=Y (r,a)):ik b fs δ=Y (r,wb os args a δ1):=by unfold ik;rw[h1];simp only[jv];rw[c];simp only[jv];rw[iF d,e];rfl
def qj(h:f δ=Y (C,δ1)):qW f g δ=g δ1:=by unfold qW;rw[h];rfl
def Ff(h:f δ=Y (U,δ1)):qW f g δ=Y (U,δ1):=by unfold qW;rw[h];rfl
def jL(h:f δ=Y (b,δ1)):kW f δ=Y (!b,δ1):=by unfold kW;rw[h];rfl
def md(h:t δ=Y (C,δ1)):sIf t f g δ=g δ1:=by unfold sIf;rw[h];rfl
def nH(h:t δ=Y (U,δ1)):sIf t f g δ=f δ1:=by unfold sIf;rw[h];rfl
def lu{a fb:FO}{δ δ1 δ2:Dn}{o1 o2:Opd}(h1:a δ=Y (o1,δ1))(b:fb δ1=Y (o2,δ2)):kx [a,fb] δ=Y ([o1,o2],δ2):=by simp only[kx];rw[h1];simp only[jv];rw[b];rfl
def oZ{a:FO}{δ δ1:Dn}{o1:Opd}(h1:a δ=Y (o1,δ1)):kx [a] δ=Y ([o1],δ1):=by simp only[kx];rw[h1];rfl
def ki(h:fi δ=Y (ds,δ1)):mX fi tg fb δ=kZ tg fb ds δ1:=by unfold mX;rw[h];rfl
def mG{os}(h1:a δ=Y (o1,δ1))(b:kx fs δ1=Y (os,δ2)):kx (a::fs) δ=Y (o1::os,δ2):=by simp only[kx];rw[h1];simp only[jv];rw[b];rfl
def To(a:iu)(k:Nat): ∃c,mI [(.lst<|a.map .int,C),pI k]=Y ((.int c,C),[Y (.lst<|a.map .int,C),ii k]):=by
 by_cases hk:k<Ix a
 .refine⟨a[k],?_⟩;simp[mI,qh,evF,gIx,atI,ixN,iN,hk]
 .refine⟨0,?_⟩;simp[mI,qh,evF,iN,hk]
def Ub:Fb (.int 10) (.int 18)=ii 1000000000000000000:=by
 have:Ar 10 18:=by unfold Ar;decide+kernel
 show((if Ar 10 18 then Y (D.int (10^(18:Int).toNat)) else J).map λz=>(z,C))=_;rw[iF this];rfl
def Ua:Fb (.int 10) (.int 29)=ii 100000000000000000000000000000:=by
 have:Ar 10 29:=by unfold Ar;decide+kernel
 show((if Ar 10 29 then Y (D.int (10^(29:Int).toNat)) else J).map λz=>(z,C))=_;rw[iF this];rfl
def Nh(d:iu)(k:Nat): ∃a b,mO [(.lst<|d.map .int,C),pI k]=Y ((.lst [.int a,.bl b],U),[Y (.lst<|d.map .int,C),ii k]):=by
 obtain⟨c,e⟩:=To d k;by_cases h:c>=1000000000000000000
 .refine⟨c-1000000000000000000,U,?_⟩;simp[mO,tq,evF,e,iR,wb,Ub,h,jI,iN]
 .refine⟨c%2147483647,C,?_⟩;simp[mO,tq,evF,e,iR,wb,Ub,h,jI,iN,yn,gI]
noncomputable def st(n:Nat):List Int:=(aj n).map λ(k:Nat)=>(1+(k:Int))
def HK(n:Nat):(st n).map D.int=iX 1 n:=by simp[st,iX]
noncomputable def nU:Nat->List Int->List Int->List (List Int)
 |0,_,f=>[f]
 |k+1,r,f=>(aj<|Ix r).flatMap λv=>nU k (r.eraseIdx v) (f++[r.getD v 0*1])++nU k (r.eraseIdx v) (f++[r.getD v 0* -1])
theorem Dr(f:Int->D): ∀(l:iu) (k:Nat),(l.map f).eraseIdx k=(l.eraseIdx k).map f
 |[],k=>by simp
 |x::l,0=>by simp
 |x::l,k+1=>by simp[Dr f l k]
def LM{i:Nat}{f:FO}{a δ1:Dn}{o:Opd}{n l:List D}{k:Int}{j:Nat}{d:D}(b:a[i]?=Y (Y (.lst n,U)))(h1:f a=Y (o,δ1))(c:res δ1 o=Y (.int k))(e:δ1[i]?=Y (Y (.lst l,U)))(g: -(2^63)<=k/\k<2^63)(h:ixN (Ix l) k=Y j)(m:l[j]?=Y d):
  xv i f a=Y ((d,C),δ1.set i<|Y (.lst<|l.eraseIdx j,U)):=by
 unfold xv;rw[b];simp only[];rw[h1];simp only[jv];rw[c,e];simp only[];rw[iF g,h];simp only[jv];rw[m];rfl
def xy{i:Nat}{f:F}{δ δ1:Dn}{r:D×Bool}{l0 l:List D}(a:δ[i]?=Y (Y (.lst l0,U)))(h1:f δ=Y (r,δ1))(b:δ1[i]?=Y (Y (.lst l,U)))(c:(Ix l)<sizeLine):
  lT i f δ=Y ((.non,C),δ1.set i<|Y (.lst<|l++[r.1],U)):=by
 unfold lT;rw[a];simp only[];rw[h1];simp only[jv];rw[b];simp only[];rw[iF c]
def uN{r}(h:f δ=Y (r,δ1)):nS f δ=Y (.nx δ1):=by unfold nS;rw[h];rfl
noncomputable abbrev fPop:F:=xv 2<|hG<|ik iG [gZ 0,hG<|ir (g1 oz) [gZ 2]]
abbrev Yh:F:=ie gIx (hG<|lj [fC<|.int 1,kN mN<|hG<|fC<|.int 1])<|hG<|ik iG [gZ 0,hG<|fC<|.int 2]
abbrev fbT:FS:=ig (nS<|lT 3<|ie ug (hG fPop)<|hG Yh) iB
def Vv(a:Int)(b:Bool)(n:Sl)(r f:iu)(x:Sl)(i:0<Ix r)(l:(Ix r)<=5): ∃v c,v<Ix r/\fPop [stt a b,n,lsi r,lsi f,x]=Y ((.int<|r.getD v 0,C),[stt c b,n,lsi<|r.eraseIdx v,lsi f,x]):=by
 obtain⟨v,c,d,hv,e⟩:=zp a b (Ix r) (by lia) (by lia);have g:v.toNat<(Ix r):=by lia
 refine⟨v.toNat,c,g,?_⟩;have h:(lsi (r.eraseIdx v.toNat):Sl)=Y (.lst<|(r.map D.int).eraseIdx v.toNat,U):=by rw[Dr]
 rw[h];refine LM (k:=v) (δ1:=[stt c b,n,lsi r,lsi f,x]) I (iz (r:=(.int v,C))<|jn (δ1:=[stt a b,n,lsi r,lsi f,x]) (os:=[.slot 0,.val (.int<|Ix r,C)]) (args:=[pS a b,pI<|Ix r]) ?_ I (show([0]:List Nat).Nodup from by decide) e) I I ⟨by lia,by lia⟩ (j:=v.toNat) ?_ ?_
 .show Y ([Opd.slot 0,Opd.val (D.int ((r.map D.int).length:Nat),C)],_)=_;rw[jz]
 .unfold ixN;rw[iF d,iF<|by simpa using hv]
 .simp[g]
def UM(a:Int)(b:Bool)(n y z x:Sl): ∃s c,(s=1\/s= -1)/\Yh [stt a b,n,y,z,x]=Y ((.int s,C),[stt c b,n,y,z,x]):=by obtain⟨v,c,f,hv,e⟩:=zp a b 2 (by lia) (by lia);have d: ∀δ:Dn,lj [fC<|.int 1,kN mN<|hG<|fC<|.int 1] δ=Y ((.lst [.int 1,.int (-1)],U),δ):=λδ=>rfl;refine⟨if v=0 then 1 else -1,c,by split<;>simp,?_⟩;refine ju (δ1:=[stt a b,n,y,z,x]) (iz<|d _) (iz (δ1:=[stt c b,n,y,z,x])<|jn (δ1:=[stt a b,n,y,z,x]) (os:=[.slot 0,.val (.int 2,C)]) (args:=[pS a b,pI 2]) I I (show([0]:List Nat).Nodup from by decide) e) I I ?_;rcases(show v=0\/v=1 by lia) with rfl|rfl<;>rfl
def Wd(a:Int)(b:Bool)(n:Sl)(r f:iu)(x:Sl)(j:0<Ix r)(k:(Ix r)<=5)(m:(Ix f)<=5): ∃v s c,v<Ix r/\(s=1\/s= -1)/\fbT [stt a b,n,lsi r,lsi f,x]=Y (.nx [stt c b,n,lsi<|r.eraseIdx v,lsi<|f++[r.getD v 0*s],x]):=by
 obtain⟨v,a1,hv,e⟩:=Vv a b n r f x j k;obtain⟨s,d,q,g⟩:=UM a1 b n (lsi<|r.eraseIdx v) (lsi f) x;refine⟨v,s,d,hv,q,?_⟩
 have p:ug (.int<|r.getD v 0) (.int s)=ii (r.getD v 0*s):=by have:CMul (r.getD v 0) s:= .inr (by lia);show((if CMul (r.getD v 0) s then Y (D.int<|r.getD v 0*s) else J).map λz=>(z,C))=_;rw[iF this];rfl
 have o:(f.map D.int).length<sizeLine:=by rw[jz];exact Nat.lt_of_le_of_lt m (by decide)
 have h:=xy (i:=3) (δ:=[stt a b,n,lsi r,lsi f,x]) (l0:=f.map .int) I (ju (iz e) (iz g) I I p) (l:=f.map .int) I o;refine(hX<|uN h).trans ?_;simp[iB,lsi]
def X3(b:Bool)(n:Sl): ∀(c:List D) (a:Int) (r f:iu) (x:Sl),Ix c=Ix r->Ix f+Ix r<=5->
  ∃g t i j,t∈nU (Ix c) r f/\kZ (hW 4) fbT c [stt a b,n,lsi r,lsi f,x]=Y (.nx [stt g b,n,lsi i,lsi t,j]):=by
 intro p
 induction p with
 |nil=>intro a r f x _ _;exact⟨a,f,r,x,by simp[nU],rfl⟩
 |cons d c o=>
  intro a r f x h q;simp only[kI] at h;obtain⟨v,s,a1,hv,m,e⟩:=Wd a b n r f (Y (d,C)) (by lia) (by lia) (by lia);obtain⟨g,t,i,j,k,l⟩:=o a1 (r.eraseIdx v) (f++[r.getD v 0*s]) (Y (d,C)) (by rw[AF,iF hv];lia) (by rw[AF,iF hv,nG];simp only[kI,pv];lia);refine⟨g,t,i,j,?_,?_⟩
  .simp only[kI,nU,wB,rY,vm];refine⟨v,hv,?_⟩;rcases m with rfl|rfl
   .exact .inl k
   .exact .inr k
  .unfold kZ;rw[show hW 4 d [stt a b,n,lsi r,lsi f,x]=Y [stt a b,n,lsi r,lsi f,Y (d,C)] from I];simp only[jv];rw[e];simp only[jv];exact l
def HS(n:Nat)(b:n<=5):gRg .lst U [.int 1,.int<|(n:Int)+1]=Y (.lst<|(st n).map .int,U):=by
 have:n=0\/n=1\/n=2\/n=3\/n=4\/n=5:=by lia
 have h1:RgOk 1 ((n:Int)+1):=by rcases this with rfl|rfl|rfl|rfl|rfl|rfl<;>decide+kernel
 have a:((n:Int)+1-1).toNat=n:=by lia
 show(if RgOk 1 ((n:Int)+1) then Y (D.lst<|iX 1 ((n:Int)+1-1).toNat,U) else J)=_;rw[iF h1,a,<-HK]
def pE{f:FO}{δ δ1:Dn}{o:Opd}{n:Nat}(h1:f δ=Y (o,δ1))(a:res δ1 o=Y (.int n))(e:n<=63):uf f δ=Y (iX 0 n,δ1):=by
 have d:(-(2^62)<=(n:Int)/\(n:Int)<2^62):=⟨by lia,by lia⟩
 have b:kx [f] δ=Y ([o],δ1):=by simp[kx,h1]
 have c:xg δ1 [o]=Y [.int n]:=by simp[xg,a]
 unfold uf;rw[b];simp only[jv];rw[c];simp only[];rw[iF d];rfl
def wX(a:Int)(b:Bool)(n:Nat)(f:n<=5): ∃d t,t∈nU n (st n) []/\kM [pS a b,pI n]=Y (enc t,[stt d b,ii n]):=by
 have c:(iX 0 n).length=n:=by simp[iX]
 have h:(st n).length=n:=by simp[st]
 obtain⟨d,t,j,k,g,e⟩:=X3 b (ii n) (iX 0 n) a (st n) [] J (by rw[c,h]) (by rw[h];simpa using f);rw[c] at g;refine⟨d,t,g,?_⟩;refine jc (δ:=[stt d b,ii n,lsi j,lsi t,k]) ⟨rfl,by decide,rfl⟩ ?_;refine(hX (δ1:=[stt a b,ii n,lsi<|st n,J,J])<|jj (i:=2) (δ1:=[stt a b,ii n,J,J,J]) (jM (os:=[.val (.int 1,C),.val (.int<|(n:Int)+1,C)]) I I<|HS n f) (show 2<5 by decide)).trans ?_;refine(hX (δ1:=[stt a b,ii n,lsi<|st n,lsi [],J]) I).trans ?_;refine(hX<|(ki<|pE (o:= .slot 1) I I<|by lia).trans e).trans ?_;exact iD<|jq<|jM (os:=[.slot 3]) I I I
def Lk: ∀(k:Nat) (r f t:iu),Ix r=k->t∈nU k r f->Ix t=Ix f+k:=by
 intro c
 induction c with
 |zero=>intro r f t _ h;simp[nU] at h;subst h;simp
 |succ k b=>
  intro r f t d h;simp only[nU,wB,rY,vm] at h;obtain⟨v,hv,h⟩:=h;have a:(r.eraseIdx v).length=k:=by rw[AF,iF hv];lia
  rcases h with h|h
  .have:=b _ _ t a h;simp at this;lia
  .have:=b _ _ t a h;simp at this;lia
def M7{n:Nat}{t:iu}(h:t∈nU n (st n) []):(Ix t)=n:=by have:=Lk n (st n) [] t (by simp[st]) h;simpa using this
def yy: ∀t:List Int,D.depL (t.map .int)=0:=by
 intro b
 induction b with
 |nil=>simp[D.depL]
 |cons s t a=>simp[D.depL,D.dep,a]
theorem BO: ∀a b:List Int,D.eqbL (a.map .int) (b.map .int)=decide (a=b)
 |[],[]=>by simp[D.eqbL]
 |[],_::_=>by simp[D.eqbL]
 |_::_,[]=>by simp[D.eqbL]
 |x::a,y::b=>by simp[D.eqbL,D.eqb,BO a b,l9,vO]
@[simp] theorem zG(a b:iu):gEq (.lst<|a.map .int) (.lst<|b.map .int)=Y (.bl<|decide<|a=b,C):=by unfold gEq;rw[iF<|by simp[D.dep,yy]];simp[D.eqb,BO]
def EW: ∀(l m:iu),l.Nodup->(∀x∈l,x∈m)->Ix m<=Ix l->l.Perm m:=by
 intro j
 induction j with
 |nil=>intro m _ _ h;have:m=[]:=MU.mp (by simpa using h);subst this;exact wF _
 |cons x l i=>
  intro m a c h;rw[zk] at a;have g:=c x jP;have b:=GU g;refine((i (m.erase x) a.2 (λy d=>?_) ?_).cons x).trans b.symm
  .have f:=c y<|jU _ d;have k:y≠x:=λe=>a.1<|e▸d;exact(DV k).mpr f
  .have:=b.length_eq;simp only[kI] at this h
   lia
def KJ:x∈st n↔1<=x/\x<=n:=by
 simp only[st,mS,vm];constructor
 .rintro⟨k,h,rfl⟩;lia
 .rintro⟨h1,a⟩;exact⟨(x-1).toNat,by lia,by lia⟩
def TX(n:Nat):(st n).Pairwise (· < ·):=by simp only[st];rw[qt];exact WM.imp λh=>by lia
def TY(n:Nat):(st n).Nodup:=(TX n).imp λh=>by lia
def JM{n:Nat}{l:iu}:l.Perm (st n)↔(Ix l)=n/\(∀x∈l,1<=x/\x<=n)/\l.Nodup:=by
 constructor
 .intro h;refine⟨by rw[h.length_eq];simp[st],λx a=>KJ.mp<|h.mem_iff.mp a,h.symm.nodup<|TY n⟩
 .rintro⟨h1,b,c⟩;exact EW l (st n) c (λx a=>KJ.mpr<|b x a) (by simp[st,h1])
def UI(n:Nat):((st n).map D.int).Pairwise (λa b=>ltT b a=C):=by
 rw[qt];refine(TX n).imp λ{a b} h=>?_;have h1: ¬b<a:=by lia
 have c: ¬b=a:=by lia
 rw[rO];simp[cT,h1,c]
def L0(h1:ltT (.int i) (.int j)=C)(c:ltT (.int j) (.int i)=C):i=j:=by
 rw[rO] at h1 c;simp only[cT] at h1 c;by_cases a:i<j
 .simp[a] at h1
 .by_cases b:j<i
  .simp[b] at c
  .lia
def Nk{n:Nat}{l:iu}:nq ltT (l.map .int)=(st n).map .int↔l.Perm (st n):=by
 constructor
 .intro h;have a:=jX ltT<|l.map D.int;rw[h] at a;have:=(a.map λd=>match d with|D.int i=>i|_=>0)
  simp only[jZ] at this;have e:((λd=>match d with|D.int i=>i|_=>0)∘D.int)=id:=rfl;rw[e,oJ,oJ] at this;exact this.symm
 .intro h;refine MB (λx y c f h1 b=>?_) (oj _) (UI n)<|(jX ltT _).trans<|h.map _;obtain⟨i,_,rfl⟩:=mS.mp<|(jX ltT<|l.map D.int).mem_iff.mp c;obtain⟨j,_,rfl⟩:=mS.mp f;rw[L0 b h1]
def tf{l:iu}{m:List D}(h:m.Perm (l.map D.int)): ∃k:List Int,m=k.map .int:=by
 refine⟨m.map λd=>match d with|D.int i=>i|_=>0,?_⟩;rw[jZ]
 symm
 rw[ph (g:=id),oJ];intro d hd;obtain⟨i,_,rfl⟩:=mS.mp<|h.mem_iff.mp hd;rfl
def zT(l:iu):om (l.map .int)=U:=by
 unfold om
 cases l with
 |nil=>rfl
 |cons x l=>rw[yQ];right;simp only[jx];simp[lM,D.pr,D.dep,mR]
def E9(l:iu)(a:(Ix l)<64):pF (.lst<|l.map .int)=Y (.lst<|nq ltT<|l.map .int,U):=by simp only[pF,tV,jv,kL];rw[iF ⟨zT l,by first|(simpa using a)|(rw[jI];simp;lia)⟩]
def KN(l:iu)(n:Nat):gEq (.lst<|nq ltT<|l.map .int) (.lst<|iX 1 n)=Y (.bl<|decide<|l.Perm<|st n,C):=by
 obtain⟨k,e⟩:=tf<|jX ltT<|l.map D.int;rw[<-HK,e,zG]
 have:k=st n↔l.Perm (st n):=by
  rw[<-Nk,e];constructor
  .intro h;rw[h]
  .intro h;have:=nM (cn λd=>match d with|D.int i=>i|_=>0) h;simp only[jZ] at this;have e:((λd=>match d with|D.int i=>i|_=>0)∘D.int)=id:=rfl;rw[e,oJ,oJ] at this;exact this
 simp only[this]
def KR: ∀l:List Int,(∀k,(oo<|l.reverse.map .int).1 k=decide (k∈l.reverse))/\(oo<|l.reverse.map .int).2<=Ix l/\((oo<|l.reverse.map .int).2=(Ix l)↔l.Nodup):=by
 intro e
 induction e with
 |nil=>exact⟨λk=>by simp[oo],by simp[oo],by simp[oo]⟩
 |cons x l d=>
  obtain⟨h1,f,c⟩:=d;rw[AQ,pR,jx,nj,C1];refine⟨λk=>?_,?_,?_⟩
  .dsimp only;rw[h1 k];by_cases a:k∈l.reverse<;>by_cases b:k=x<;>simp_all
  .dsimp only;rw[kI];split<;>lia
  .dsimp only;rw[h1 x,zk];by_cases a:x∈l
   .simp only[dq,a,yL,kr,not_true_eq_false,false_and,iff_false,kI];lia
   .simp only[dq,a,decide_false,jF,kb,not_false_eq_true,true_and,kI];rw[<-c];lia
def Rc(l:iu):(oo<|l.map .int).2=(Ix l)↔l.Nodup:=by have:=(KR l.reverse).2.2;rw[List.reverse_reverse,AK,AJ l |>.nodup_iff] at this;exact this
def Eu(pre:Dn)(x:Sl)(d:D):hW (Ix pre) d (pre++[x])=Y (pre++[Y (d,C)]):=by unfold hW;rw[iF<|by simp];simp[l8]
def xH(f:F)(g:D->D)(pre:Dn): ∀(l a:List D) (x:Sl),(∀d∈l,∃o,f (pre++[Y (d,C)])=Y ((g d,o),pre++[Y (d,C)]))->Ix a+Ix l<=sizeLine->
  ∃b,lq (hW<|Ix pre) je (jb f) l a (pre++[x])=Y (a++l.map g,pre++[b]):=by
 intro n
 induction n with
 |nil=>intro a x _ _;exact⟨x,by simp[lq]⟩
 |cons d l m=>
  intro a x h c;obtain⟨o,hd⟩:=h d jP;obtain⟨b,e⟩:=m (a++[g d]) (Y (d,C)) (λi j=>h i<|jU _ j) (by simp at c ⊢;lia);refine⟨b,?_⟩;have k:(Ix a)<sizeLine:=by simp at c;lia
  rw[lq,Eu];simp only[jv,xY,kr,As];rw[hd];simp only[jv];rw[iF k];simp only[jv];rw[e];simp
def Wt(f:F)(g:D->Int)(pre:Dn): ∀(l a:List D) (x:Sl),(∀d∈l,∃o,f (pre++[Y (d,C)])=Y ((.int<|g d,o),pre++[Y (d,C)]))->Ix a+Ix l<=1000->
  ∃b,lq (hW<|Ix pre) je (B7 f) l a (pre++[x])=Y (a++l.map λd=> .int (g d),pre++[b]):=by
 intro n
 induction n with
 |nil=>intro a x _ _;exact⟨x,by simp[lq]⟩
 |cons d l m=>
  intro a x h c;obtain⟨o,hd⟩:=h d jP;obtain⟨b,e⟩:=m (a++[.int<|g d]) (Y (d,C)) (λi j=>h i<|jU _ j) (by simp at c ⊢;lia);refine⟨b,?_⟩;have p:gk=4096:=rfl;have k:(Ix a)+1<scanBound:=by simp at c;lia
  rw[lq,Eu];simp only[jv,xY,kr,B7];rw[hd];simp only[jv];rw[iF k];simp only[jv];rw[e];simp
def DE(p:D->Bool): ∀l:List D,pJ (l.map λd=> .bl (p d))=Y (l.map p):=by
 intro b
 induction b with
 |nil=>exact I
 |cons d l a=>simp[pJ,a]
def yH(p:D->Bool)(l:List D):zI (.lst<|l.map λd=> .bl (p d))=Y (.bl<|l.all p,C):=by simp[zI,DE,dz,rh]
def Qo(p:D->Bool)(l:List D):IL (.lst<|l.map λd=> .bl (p d))=Y (.bl<|l.any p,C):=by simp[IL,DE,yU,rh]
noncomputable def ab(s:Int):Int:=if s<0 then -s else s
noncomputable def wh:D->Bool
 | .int _=>U
 |_=>C
noncomputable def sg(n:Int):D->Bool
 | .int s=>decide (1<=ab s)&&decide (ab s<=n)
 |_=>C
noncomputable def iOf:D->Int
 | .int s=>s
 |_=>0
def xQ(d:D):oR [(d,C)]=Y ((.bl<|wh d,C),[Y (d,C)]):=by
 cases d<;>simp[oR,Ag,evF,iN,wh,isT]
def Dd(d:D)(lo a:Int):mQ [(d,C),(.int lo,C),(.int a,C)]=Y ((.bl (match d with| .int s=>decide (lo<=s)&&decide (s<=a)|_=>C),C),[Y (d,C),Y (.int lo,C),Y (.int a,C)]):=by
 cases d with
 |int s=>by_cases h:lo<=s<;>simp[mQ,tD,evF,iN,xQ,wh,iR,wb,mZ,kf,h]
 |_=>simp[mQ,tD,evF,iN,xQ,wh,iR,wb]
def JU(d:D)(n:Int):tH [(.int n,C),(d,C)]=Y ((.bl (match d with| .int s=>decide (1<=s)&&decide (s<=n)|_=>C),C),[Y (.int n,C),Y (d,C)]):=by simp[tH,BH,evF,iN,Dd,iR,wb]
def JD(n:Int)(d:D):lD [pI n,(d,C)]=Y ((.bl<|sg n d,C),[ii n,Y (d,C)]):=by
 cases d with
 |int s=>simp[lD,xt,evF,iN,xQ,JU,wh,iR,wb,sg,ab];rfl
 |_=>simp[lD,xt,evF,iN,xQ,JU,wh,iR,wb,sg,ab]
def wY(h:sg n d=U):d= .int (iOf d):=by cases d<;>simp_all [sg,iOf]
def Er(h:wh d=U):d= .int (iOf d):=by cases d<;>simp_all [wh,iOf]
noncomputable def tB(n:Nat):D->Bool
 | .tup l=>decide (Ix l=n)&&(l.all (sg n)&&decide ((l.map λd=>ab<|iOf d).Nodup))
 |_=>C
noncomputable def lB(n:Nat):D->Bool
 | .tup l=>l.all wh&&decide ((l.map λd=>ab<|iOf d).Perm<|st n)
 |_=>C
def FG(n:Nat)(d:D):tB n d=lB n d:=by
 cases d with
 |tup l=>
  rw[tB,lB,yK];simp only[kJ,ni,lG,JM,jz,mS];constructor
  .rintro⟨h1,a,b⟩;refine⟨λd hd=>?_,h1,?_,b⟩
   .rw[wY<|a d hd];rfl
   .rintro x ⟨d,hd,rfl⟩;have:=a d hd;rw[wY this] at this;simpa[sg] using this
  .rintro⟨h1,a,b,c⟩;refine⟨a,λd hd=>?_,c⟩;have:=b _ ⟨d,hd,rfl⟩;rw[Er<|h1 d hd];simpa[sg] using this
 |_=>rfl
def uE(n:Nat)(d:D)(hd: ∀l,d= .tup l->Ix l<=60):kd [pI n,(d,C)]=Y ((.bl<|tB n d,C),[ii n,Y (d,C)]):=by
 cases d with
 |tup l=>
  have i:=hd l I;by_cases h1:(Ix l)=n
  .obtain⟨x1,b⟩:=xH (ik lD [gZ 0,gZ 1]) (λd=> .bl (sg n d)) [ii n] l [] J (λd _=>⟨C,by simp[JD,iR,wb]⟩) (by rw[jI];simp;lia);simp only[qH,pQ,kI,pv,uA] at b;by_cases a:l.all (sg n)=U
   .have h: ∀d∈l,∃o,ir (g1 mF) [gZ 0] ([]++[Y (d,C)])=Y ((.int<|ab<|iOf d,o),([]++[Y (d,C)]:Dn)):=λd hd=>⟨C,by rw[lG] at a;rw[wY<|a d hd];rfl⟩
    obtain⟨x2,c⟩:=Wt (ir (g1 mF) [gZ 0]) (λd=>ab<|iOf d) [] l [] J h (by simp;lia);simp only[qH,pQ,kI,pv] at c
    have e:(oo<|l.map λd=>D.int<|ab<|iOf d).2=(Ix l)↔(l.map λd=>ab<|iOf d).Nodup:=by have:=Rc<|l.map λd=>ab<|iOf d;rw[jZ,jz] at this;exact this
    have g:(((oo<|l.map λd=>D.int<|ab<|iOf d).2:Int)==(n:Int))=decide ((l.map λd=>ab<|iOf d).Nodup):=by
     rw[vO,<-h1];by_cases q:(l.map λd=>ab<|iOf d).Nodup
     .rw[oK q,e.mpr q];simp
     .rw[mB q];simp only[decide_eq_false_iff_not,m4];exact λz=>q<|e.mp z
    simp[kd,nu,evF,isT,h1,iT,vI,iI,b,c,yH,a,iN,iR,wb,tB,g]
   .have f:l.all (sg n)=C:=by simpa using a
    simp[kd,nu,evF,isT,h1,iT,vI,iI,b,yH,f,iN,iR,wb,tB]
  .have: ¬(((Ix l):Int)=(n:Int)):=by lia
   simp[kd,nu,evF,isT,this,h1,iN,iR,wb,tB]
 |_=>simp[kd,nu,evF,isT,iN,tB]
def Rh(n:Nat)(a:n<=5):gRg .lst U [.int 1,.int<|(n:Int)+1]=Y (.lst<|iX 1 n,U):=by rw[HS n a,HK]
def OkD(d:D):Prop:= ∀l,d= .tup l->Ix l<=60
def ixl(a:0<=v)(h:v<L.length):gIx (.lst L) (.int v)=Y (L.getD v.toNat .non,C):=by
 have h1:v.toNat<L.length:=by lia
 simp[gIx,atI,ixN,a,h,h1]
def ixi{t:iu}{v:Int}(a:0<=v)(h:v<Ix t):gIx (.tup<|t.map .int) (.int v)=ii (t.getD v.toNat 0):=by
 have h1:v.toNat<(Ix t):=by lia
 simp[gIx,atI,ixN,a,h,h1]
def V3{t:iu}{v:Int}(a:0<=v)(h:v<Ix t):gIx (.lst<|t.map .int) (.int v)=ii (t.getD v.toNat 0):=by
 have h1:v.toNat<(Ix t):=by lia
 simp[gIx,atI,ixN,a,h,h1]
def Ca{P:D->Prop}{L:List D}(a:P .non)(h: ∀d∈L,P d)(k:Nat):P (L.getD k .non):=by
 rw[lR]
 cases e:L[k]? with
 |none=>exact a
 |some d=>exact h d<|nK e
def Sk:OkD .non:=λl h=>by cases h
def TC(h1:(Ix l)<=1000)(a:(Ix m)<=1000):jY (.tup l) (.tup m)=Y (.tup<|l++m,C):=by simp only[jY];rw[iF<|by rw[jI];lia]
def Wy(h1:(Ix l)<=1000)(a:(Ix m)<=1000):jY (.lst l) (.lst m)=Y (.lst<|l++m,U):=by simp only[jY];rw[iF<|by rw[jI];lia]
def lI(a:Int)(b:Bool)(m:Int)(j:0<m)(f:m<1073741824): ∃v c,0<=v/\v<m/\ ∀(d:FO) (δ:Dn) (o:Opd),d (stt a b::δ)=Y (o,stt a b::δ)->B9 (stt a b::δ) o=ii m->ik iG [gZ 0,d] (stt a b::δ)=Y ((.int v,C),stt c b::δ):=by
 obtain⟨v,c,g,h1,e⟩:=zp a b m j f;refine⟨v,c,g,h1,λd δ o h i=>?_⟩;refine(jn (os:=[.slot 0,o]) (args:=[pS a b,pI m]) (lu I h) ?_ ?_ e).trans ?_
 .simp[i]
 .cases o<;>simp[iR]
 .cases o<;>simp[wb]
def qG(l:List D)(lo a:Option Int):(mU l lo a).length<=(Ix l):=by unfold PX.mU;rw[rp,AS];lia
noncomputable def led(u:iu)(s:Int):Int:=if 0<s then u.getD (s-1).toNat 0 else -(u.getD (-s-1).toNat 0)
def VW(u:iu)(s:Int)(a:s≠0)(h1: -((Ix u):Int)<=s)(b:s<=Ix u):
  oQ [enc u,pI s]=Y ((.int<|led u s,C),[eN u,ii s]):=by
 simp only[oQ,Af];by_cases h:0<s
 .have:=ixi (t:=u) (v:=s-1) (by lia) (by lia);simp only[evF];simp[h,led,this,iN]
 .have:=ixi (t:=u) (v:= -s-1) (by lia) (by lia);simp only[evF];simp[h,led,this,iN]
def ZF(x:Int):ug (.int x) (.int 1)=ii x:=by have:CMul x 1:= .inr (by lia);show((if CMul x 1 then Y (D.int<|x*1) else J).map λz=>(z,C))=_;rw[iF this,AV];rfl
def ZE(x:Int):ug (.int x) (.int (-1))=ii (-x):=by have:CMul x (-1):= .inr (by lia);show((if CMul x (-1) then Y (D.int<|x*(-1)) else J).map λz=>(z,C))=_;rw[iF this,t5,AV];rfl
noncomputable def sts(n:Nat):List Int:=(aj n).map λ(k:Nat)=>(-(n:Int)+(k:Int))
def US(n:Nat)(b:n<=5):gRg .lst U [.int (-(n:Int)),.int 0]=Y (.lst<|(sts n).map .int,U):=by
 have:n=0\/n=1\/n=2\/n=3\/n=4\/n=5:=by lia
 have h1:RgOk (-(n:Int)) 0:=by rcases this with rfl|rfl|rfl|rfl|rfl|rfl<;>decide+kernel
 have a:(0- -(n:Int)).toNat=n:=by lia
 show(if RgOk (-(n:Int)) 0 then Y (D.lst<|iX (-(n:Int)) (0- -(n:Int)).toNat,U) else J)=_;rw[iF h1,a];simp[sts,iX]
def lL(h:f δ=Y ((.lst l,o),δ1)):iJ f δ=Y (l,δ1):=by unfold iJ;rw[h];rfl
def ClOk(n:Nat)(c:iu):Prop:=c≠[]/\(c.map ab).Pairwise (· < ·)/\ ∀s∈c,1<=ab s/\ab s<=n
def CA(j:Int)(c:iu):Prop:=(c.map ab).Pairwise (· < ·)/\ ∀s∈c,1<=ab s/\ab s<j
def qm(h:0<=i):ab i=i:=by unfold ab;rw[iL<|by lia]
def Ci(h:0<=i):ab (-i)=i:=by unfold ab;split<;>lia
def CA.snoc{j s:Int}{c:iu}(h:CA j c)(h1:ab s=j)(e:1<=j):CA (j+1) (c++[s]):=by
 refine⟨?_,λx a=>?_⟩
 .rw[pR,wA];refine⟨h.1,by simp,λx a y b=>?_⟩;obtain⟨z,d,rfl⟩:=mS.mp a;simp at b;subst b;have:=h.2 z d;lia
 .rcases rY.mp a with a|a
  .have:=h.2 x a;lia
  .simp at a;subst a;lia
def CA.up(h:CA j c):CA (j+1) c:=⟨h.1,λx a=>by have:=h.2 x a;lia⟩
abbrev fbC:FS:=ig (iY 5<|ik iG [gZ 0,gZ 2])<|ig (sIf (fT<|ie (lr .Lt) (gZ 5)<|hG<|fC<|.int 2) (ig (nS<|lT 3<|ie gIx (hG<|lj [iI 4,kN mN<|gZ 4])<|gZ 5) iB) iB) iB
def xw{i:Nat}{f:F}{δ δ1:Dn}{r:D×Bool}{l0 l:List D}(a:δ[i]?=Y (Y (.lst l0,U)))(h1:f δ=Y (r,δ1))(b:δ1[i]?=Y (Y (.lst l,U)))(c:(Ix l)<=10000):
  ig (nS<|lT i f) iB δ=Y (.nx<|δ1.set i<|Y (.lst<|l++[r.1],U)):=
 (hX<|uN<|xy a h1 b<|Q8 c).trans rfl
def Wh(a:Int)(b:Bool)(n w:Int)(p:0<w)(q:w<100)(j:Int)(o:1<=j)(c:iu)(m:CA j c)(t:(Ix c)<=10)(x:Sl): ∃d f s,CA (j+1) f/\(Ix f)<=Ix c+1/\fbC [stt a b,ii n,ii w,lsi c,ii j,x]=Y (.nx [stt d b,ii n,ii w,lsi f,ii j,s]):=by
 obtain⟨v,d,u,y,e⟩:=lI a b w p (by lia)
 have s1: ∀g,ig (iY 5<|ik iG [gZ 0,gZ 2]) g [stt a b,ii n,ii w,lsi c,ii j,x]=g [stt d b,ii n,ii w,lsi c,ii j,ii v]:=λg=>hX<|jj (i:=5) (δ1:=[stt d b,ii n,ii w,lsi c,ii j,x]) (e _ [ii n,ii w,lsi c,ii j,x] (.slot 2) rfl rfl) (show 5<6 by decide)
 by_cases h:v<2
 .have k:gIx (.lst [.int j,.int (-j)]) (.int v)=ii (if v=0 then j else -j):=by rcases(show v=0\/v=1 by lia) with rfl|rfl<;>rfl
  refine⟨d,c++[if v=0 then j else -j],ii v,m.snoc (by split;exact qm (by lia);exact Ci<|by lia) o,by simp,?_⟩;refine(s1 _).trans ((hX<|(nH (δ1:=[stt d b,ii n,ii w,lsi c,ii j,ii v])<|by simp[h]).trans<|xw (δ1:=[stt d b,ii n,ii w,lsi c,ii j,ii v]) (r:=(.int (if v=0 then j else -j),C)) (l0:=c.map .int) (l:=c.map .int) I (by simp[iI,jI,k]) I<|by simp;lia).trans ?_);simp[lsi]
 .refine⟨d,c,ii v,m.up,by lia,?_⟩;exact(s1 _).trans ((hX<|(md<|by simp[h]).trans I).trans I)
def ZS(b:Bool)(n w:Int)(t:0<w)(g:w<100): ∀(m:Nat) (j:Nat) (a:Int) (c:iu) (x4 x5:Sl),1<=j->CA j c->Ix c+m<=10-> ∃e d h i,CA (j+m:Nat) d/\(Ix d)<=10/\kZ (hW 4) fbC ((bU j m).map λ(k:Nat)=>D.int (k:Int)) [stt a b,ii n,ii w,lsi c,x4,x5]=Y (.nx [stt e b,ii n,ii w,lsi d,h,i]):=by
 intro v
 induction v with
 |zero=>intro j a c x4 x5 r f s;exact⟨a,c,x4,x5,by simpa using f,by lia,rfl⟩
 |succ m u=>intro j a c x4 x5 r f s;obtain⟨a1,l,x1,h1,y,o⟩:=Wh a b n w t g j (by lia) c f (by lia) x5;obtain⟨e,d,h,i,q,x,p⟩:=u (j+1) a1 l (ii j) x1 (by lia) (by simpa using h1) (by lia);refine⟨e,d,h,i,by rw[show j+(m+1)=j+1+m by lia];exact q,x,?_⟩;rw[AL,jx];unfold kZ;rw[show hW 4 (.int (j:Int)) [stt a b,ii n,ii w,lsi c,x4,x5]=Y [stt a b,ii n,ii w,lsi c,ii j,x5] from I];simp only[jv];rw[o];simp only[jv];exact p
def SR(h1:f δ=Y (o1,δ1))(a:g δ1=Y (o2,δ2))(b:res δ2 o1=Y (.int i))(c:res δ2 o2=Y (.int j))(d:0<=i/\i<=1000)(e:0<=j/\j<=1000):IF f g δ=Y (iX i (j-i).toNat,δ2):=by unfold IF;rw[lu h1 a];simp only[jv,U0,Rk,b,c];rw[iF ⟨by lia,by lia,by lia,by lia⟩]
def zO(a:Int)(b:Bool)(n:Nat)(h1:1<=n)(J:n<=5): ∃A c,ClOk n c/\kc [pS a b,pI n]=Y (enc c,[stt A b,ii n]):=by
 obtain⟨v,a1,T,G,B⟩:=lI a b 3 (by lia) (by lia)
 let f:List Int:=[3,4,6]
 let w:=f.getD v.toNat 0
 have y:0<w/\w<100:=by rcases(show v=0\/v=1\/v=2 by lia) with rfl|rfl|rfl<;>decide
 obtain⟨d,c,x4,x5,t,M,C⟩:=ZS b n w y.1 y.2 n 1 a1 [] F2 F2 (by lia) ⟨by simp,by simp⟩ (by simp;lia)
 have Q:IF (hG<|fC<|.int 1) (hG<|ie jY (gZ 1)<|hG<|fC<|.int 1) [stt a1 b,ii n,ii w,lsi [],F2,F2]=Y ((bU 1 n).map λ(k:Nat)=>D.int (k:Int),[stt a1 b,ii n,ii w,lsi [],F2,F2]):=by
  rw[SR (o1:= .val (.int 1,Go)) (o2:= .val (.int<|(n:Int)+1,Go)) (i:=1) (j:=(n:Int)+1) H8 H8 H8 H8 (by lia)<|by lia];rw[show((n:Int)+1-1).toNat=n by lia]
  congr 2
  unfold iX;rw[List.range'_eq_map_range,jZ];apply ph;intro k _;simp
 have pre: ∀g,(ig (iY 2<|ie gIx (hG<|lj [fC<|.int 3,fC<|.int 4,fC<|.int 6])<|hG<|ik iG [gZ 0,hG<|fC<|.int 3])<|ig (iY 3<|lj [])<|ig (mX (IF (hG<|fC<|.int 1)<|hG<|ie jY (gZ 1)<|hG<|fC<|.int 1) (hW 4) fbC) g) [stt a b,ii n,F2,F2,F2,F2]=g [stt d b,ii n,ii w,lsi c,x4,x5]:=by
  intro g;refine(hX (δ1:=[stt a1 b,ii n,ii w,F2,F2,F2]) ?_).trans ?_
  .refine jj (i:=2) (δ1:=[stt a1 b,ii n,F2,F2,F2,F2]) (ju (o1:= .val (.lst<|f.map .int,Gc)) (o2:= .val (.int v,Go)) (iz (δ1:=[stt a b,ii n,F2,F2,F2,F2])<|by simp[f,jI]) (iz<|B _ [ii n,F2,F2,F2,F2] _ rfl rfl) H8 H8<|V3 T<|by simpa[f] using G) (show 2<6 by decide)
  refine(hX (δ1:=[stt a1 b,ii n,ii w,lsi [],F2,F2])<|by simp[lsi,jI]).trans ?_;exact hX<|(ki Q).trans C
 by_cases m:c=[]
 .subst m;obtain⟨s,p,s0,s1,E⟩:=lI d b 2 (by lia) (by lia);obtain⟨i,h,N,U,H⟩:=lI p b n (by lia) (by lia);refine⟨h,[if s=0 then 1+i else -(1+i)],?_,?_⟩
  .refine⟨by simp,by simp,λx z=>?_⟩;simp at z;subst z;split
   .rw[qm<|by lia];lia
   .rw[show -(1+i)= -(1+i) from H8,Ci<|by lia];lia
  .refine jc (δ:=[stt h b,ii n,ii w,lsi [if s=0 then 1+i else -(1+i)],x4,x5]) ⟨rfl,by decide,rfl⟩ ((pre _).trans ?_)
   have I: ∀q,gIx (.lst [.int 1,.int (-1)]) (.int s)=Y q->ug q.1 (.int (1+i))=ii (if s=0 then 1+i else -(1+i)):=by
    intro q u;have L:CMul 1 (1+i):=by unfold CMul;lia
    have O:CMul (-1) (1+i):=by unfold CMul;lia
    rcases(show s=0\/s=1 by lia) with rfl|rfl
    .cases u;simp[ug,gI,L]
    .cases u;simp[ug,gI,O]
   have e:gIx (.lst [.int 1,.int (-1)]) (.int s)=ii (if s=0 then 1 else -1):=by rcases(show s=0\/s=1 by lia) with rfl|rfl<;>rfl
   refine(hX<|(nH (δ1:=[stt d b,ii n,ii w,lsi [],x4,x5])<|jW<|ju (o1:= .slot 3) (o2:= .val (.lst [],Gc)) (δ2:=[stt d b,ii n,ii w,lsi [],x4,x5]) H8 (iz<|by simp[jI]) H8 H8<|zG [] []).trans<|xw (r:=(.int (if s=0 then 1+i else -(1+i)),Go)) (δ1:=[stt h b,ii n,ii w,lsi [],x4,x5]) (l0:=[]) (l:=[]) H8 ?_ H8<|by simp).trans ?_
   .refine ju (δ1:=[stt p b,ii n,ii w,lsi [],x4,x5]) (iz<|ju (δ1:=[stt d b,ii n,ii w,lsi [],x4,x5]) (o1:= .val (.lst [.int 1,.int (-1)],Gc)) (iz<|by simp[jI]) (iz<|E _ _ _ rfl rfl) H8 H8 e) (iz<|ju (o1:= .val (.int 1,Go)) H8 (iz<|H _ _ (.slot 1) rfl rfl) H8 H8 H8) H8 H8 (I _ e)
   .exact iD (jq<|jM (os:=[.slot 3]) H8 H8 H8)
 .refine⟨d,c,⟨m,t.1,λs e=>by have:=t.2 s e;lia⟩,?_⟩;refine jc (δ:=[stt d b,ii n,ii w,lsi c,x4,x5]) ⟨rfl,by decide,rfl⟩<|(pre _).trans ?_;refine(hX<|(md (δ1:=[stt d b,ii n,ii w,lsi c,x4,x5])<|jW (o:=Go)<|ju (o1:= .slot 3) (o2:= .val (.lst [],Gc)) (δ2:=[stt d b,ii n,ii w,lsi c,x4,x5]) H8 (iz<|by simp[jI]) H8 H8<|(zG c []).trans<|by rw[mB m]).trans H8).trans ?_;exact iD<|jq<|jM (os:=[.slot 3]) H8 H8 H8
def Bv{b:Type}[BEq b][LawfulBEq b]: ∀(l m:List b),l.Nodup->(∀x∈l,x∈m)->Ix l<=(Ix m):=by
 intro k
 induction k with
 |nil=>intro m _ _;exact mr _
 |cons x l j=>
  intro m a c;rw[zk] at a;have i:=c x jP;have h:=GU i
  have:=j (m.erase x) a.2 (λy d=>by have f:=c y<|jU _ d;have n:y≠x:=λe=>a.1<|e▸d;exact(DV n).mpr f)
  have g:=h.length_eq;simp only[kI] at g ⊢
  lia
def C4{l:iu}(h:l.Pairwise (· < ·)):l.Nodup:=h.imp λh=>by lia
def ClOk.len{n:Nat}{c:iu}(h:ClOk n c):(Ix c)<=n:=by
 have:=Bv (c.map ab) (st n) (C4 h.2.1) (λx b=>by obtain⟨s,a,rfl⟩:=mS.mp b;exact KJ.mpr<|h.2.2 s a)
 simpa[st] using this
def TOk(n:Nat)(t:iu):Prop:=Ix t=n/\ ∀x∈t,1<=ab x/\ab x<=n
theorem mp0:gIx (.lst [.int (-1),.int 1]) (.int 0)=ii (-1):=rfl
theorem mp1:gIx (.lst [.int (-1),.int 1]) (.int 1)=ii 1:=rfl
def XD(u:iu)(s:Int)(b:s≠0)(h1: -((Ix u):Int)<=s)(c:s<=Ix u):
  mf [enc u,pI s]=Y ((.int<|led u s,C),[eN u,ii s]):=by
 simp only[mf,tZ];by_cases h:0<s
 .have:=ixi (t:=u) (v:=s-1) (by lia) (by lia);have a: ¬s<0:=by lia
  simp only[evF];simp[h,a,led,this,iN,jI,mp1,ZF]
 .have:=ixi (t:=u) (v:= -s-1) (by lia) (by lia);have a:s<0:=by lia
  simp only[evF];simp[h,a,led,this,iN,jI,mp0,ZE]
def pN(i:Int):ab (-i)=ab i:=by unfold ab;split<;>split<;>lia
def kY{l:iu}{k:Nat}(h:k<Ix l):l.getD k 0∈l:=by rw[lR,jt h];exact DL h
def IB{n:Nat}{t:iu}(b:TOk n t){s:Int}(h1:1<=ab s)(a:ab s<=n):1<=ab (led t s)/\ab (led t s)<=n:=by
 unfold led;unfold ab at h1 a;have c:=b.1;split
 .rename_i h;rw[iL<|by omega] at h1 a;exact b.2 _ (kY<|by omega)
 .rename_i h;rw[pN];split at h1
  .rw[iF<|by assumption] at a;exact b.2 _ (kY<|by omega)
  .omega
noncomputable def dD(a:iu):D:= .oth .dct (a.map λw=> .int (ab w)) (a.map .int)
noncomputable def Bh(a:iu)(w:Int):List Int:=if ab w∈a.map ab then a.map λx=>if ab x=ab w then w else x else a++[w]
def Wx(w:Int): ∀a:List Int,((a.map λw=>D.int<|ab w).any (D.eqb · (.int<|ab w)))=decide (ab w∈a.map ab):=by
 intro c
 induction c with
 |nil=>simp
 |cons x a b=>
  simp only[jx,yW,b,D.eqb,ku];by_cases h:ab x=ab w
  .simp[h]
  .have: ¬ab w=ab x:=λe=>h e.symm;simp[h,this]
def Ri(w:Int): ∀a:List Int,uO (a.map λw=>D.int<|ab w) (a.map .int) (.int<|ab w) (.int w)=(a.map λx=>if ab x=ab w then w else x).map .int:=by
 intro c
 induction c with
 |nil=>simp[uO]
 |cons x a b=>simp only[jx,uO,b,D.eqb];by_cases h:ab x=ab w<;>simp[h]
def Vp(a:iu)(w:Int):D.oth .dct (vQ (a.map λw=> .int (ab w)) (a.map .int) (.int<|ab w)<|.int w).1 (vQ (a.map λw=> .int (ab w)) (a.map .int) (.int<|ab w)<|.int w).2=dD (Bh a w):=by
 unfold vQ Bh dD;rw[Wx];by_cases h:ab w∈a.map ab
 .rw[iF<|by simpa using h,iF h,Ri]
  congr 1
  show(a.map λw=>D.int<|ab w)=cn (λw=>D.int<|ab w) (a.map λx=>if ab x=ab w then w else x);rw[jZ];apply ph;intro x _;simp only[bc];split
  .rename_i e;rw[e]
  .rfl
 .rw[iL<|by simpa using h,iL h];simp
def DW(n:Nat)(a:iu):Prop:=(a.map ab).Nodup/\ ∀w∈a,1<=ab w/\ab w<=n
def DW.put(h:DW n ws)(h1:1<=ab w/\ab w<=n):DW n (Bh ws w):=by
 unfold Bh;split
 .rename_i c;refine⟨?_,λx a=>?_⟩
  .have:((ws.map λx=>if ab x=ab w then w else x).map ab)=ws.map ab:=by
    rw[jZ];apply ph;intro x _;simp only[bc];split
    .rename_i e;rw[e]
    .rfl
   rw[this];exact h.1
  .obtain⟨y,b,rfl⟩:=mS.mp a;split
   .exact h1
   .exact h.2 y b
 .rename_i c;refine⟨?_,λx a=>?_⟩
  .rw[pR,AD];refine⟨h.1,by simp,λx a y b e=>?_⟩;simp at b;subst b;subst e;exact c a
  .rcases rY.mp a with a|a
   .exact h.2 x a
   .simp at a;subst a;exact h1
def RG(a:iu)(w:Int):Bh a w≠[]:=by
 unfold Bh;split
 .rename_i h
  cases a with
  |nil=>simp at h
  |cons=>simp
 .simp
def DW.len(h:DW n ws):(Ix ws)<=n:=by
 have:=Bv (ws.map ab) (st n) h.1 (λx b=>by obtain⟨s,a,rfl⟩:=mS.mp b;exact KJ.mpr<|h.2 s a)
 simpa[st] using this
def J1(k:Int): ∀a:List Int,k∈a.map ab-> ∃w∈a,ab w=k/\lE (a.map λw=>D.int<|ab w) (a.map .int) (.int k)=Y (.int w):=by
 intro f
 induction f with
 |nil=>intro h;simp at h
 |cons x a d=>
  intro h;simp only[jx,lE,D.eqb];by_cases e:ab x=k
  .exact⟨x,by simp,e,by simp[e]⟩
  .have:k∈a.map ab:=by
    simp only[jx,ku] at h;rcases h with h|h
    .exact absurd h.symm e
    .exact h
   obtain⟨w,c,h1,b⟩:=d this;exact⟨w,by simp[c],h1,by simp[e,b]⟩
def Gs(a:iu)(k:Int):rQ (a.map λw=>D.int<|ab w) (.int k)=U:=by simp[rQ,uX]
abbrev fbL:FS:=ig (iY 4<|ik mf [gZ 0,gZ 3])<|ig (FV 2 (iI 4)<|hG<|ir (g1 mF) [gZ 4]) iB
def PZ{n:Nat}{t:iu}(f:TOk n t)(j:n<=5){s:Int}(h1:1<=ab s/\ab s<=n){a:iu}(g:DW n a)(b x4:Sl):fbL [eN t,b,Y (dD a,U),ii s,x4]=Y (.nx [eN t,b,Y (dD<|Bh a<|led t s,U),ii s,ii<|led t s]):=by
 have h:=f.1
 have c:s≠0/\ -((Ix t):Int)<=s/\s<=(Ix t):=by have:=h1;unfold ab at this;split at this<;>lia
 refine(hX (δ1:=[eN t,b,Y (dD a,U),ii s,ii<|led t s]) ?_).trans ?_
 .exact jj (i:=4) (δ1:=[eN t,b,Y (dD a,U),ii s,x4]) (jn (δ1:=[eN t,b,Y (dD a,U),ii s,x4]) (os:=[.slot 0,.slot 3]) (args:=[enc t,pI s]) I I lX<|XD t s c.1 c.2.1 c.2.2) (show 4<5 by decide)
 .refine(hX (δ1:=[eN t,b,Y (dD<|Bh a<|led t s,U),ii s,ii<|led t s]) ?_).trans I;have d:iI 4 [eN t,b,Y (dD a,U),ii s,ii<|led t s]=Y ((.int<|led t s,C),[eN t,b,Y (dD a,U),ii s,ii<|led t s]):=rfl;have e:hG (ir (g1 mF) [gZ 4]) [eN t,b,Y (dD a,U),ii s,ii<|led t s]=Y (.val (.int<|ab<|led t s,C),[eN t,b,Y (dD a,U),ii s,ii<|led t s]):=rfl;unfold FV;rw[d];simp only[jv,rZ,ux];rw[e];simp only[jv,Bf,rZ,ux,dD];rw[iF ⟨Gs a _,by have:=g.len;simp;lia⟩,Vp];rfl
def X9{n:Nat}{t:iu}(k:TOk n t)(m:n<=5)(d:Sl): ∀(c a:iu) (x3 x4:Sl),(∀s∈c,1<=ab s/\ab s<=n)->DW n a-> ∃b g j,DW n b/\(a≠[]\/c≠[]->b≠[])/\kZ (hW 3) fbL (c.map .int) [eN t,d,Y (dD a,U),x3,x4]=Y (.nx [eN t,d,Y (dD b,U),g,j]):=by
 intro q
 induction q with
 |nil=>intro a x3 x4 _ f;exact⟨a,x3,x4,f,λh=>h.elim id λh=>absurd I h,rfl⟩
 |cons s c p=>intro a x3 x4 h f;have i:=h s jP;obtain⟨b,g,j,h1,l,e⟩:=p (Bh a<|led t s) (ii s) (ii<|led t s) (λx o=>h x<|jU _ o)<|f.put<|IB k i.1 i.2;refine⟨b,g,j,h1,λ_=>l<|.inl<|RG _ _,?_⟩;rw[jx];unfold kZ;rw[show hW 3 (.int s) [eN t,d,Y (dD a,U),x3,x4]=Y [eN t,d,Y (dD a,U),ii s,x4] from I];simp only[jv];rw[PZ k m i f];simp only[jv];exact e
def UJ{l k:iu}(m:l.Nodup)(h:nq ltT (l.map .int)=k.map .int):k.Perm l/\k.Pairwise (· < ·):=by
 have f:=jX ltT<|l.map D.int;rw[h] at f;have c:=(f.map λd=>match d with|D.int i=>i|_=>0)
 simp only[jZ] at c;have e:((λd=>match d with|D.int i=>i|_=>0)∘D.int)=id:=rfl;rw[e,oJ,oJ] at c;refine⟨c,?_⟩;have g:=oj<|l.map D.int;rw[h,qt] at g;have j:=c.symm.nodup m;have:=g.and j;refine this.imp λ{a b} h=>?_;have h1:=h.1;rw[rO] at h1;simp only[cT] at h1;by_cases q:b<a
 .simp[q] at h1
 .have:=h.2;lia
def Lx(a:iu): ∀k:List Int,(∀x∈k,x∈a.map ab)-> ∃c:List Int,c.map ab=k/\(∀w∈c,w∈a)/\k.map (λx=>(lE (a.map λw=>D.int<|ab w) (a.map .int)<|.int x).getD .non)=c.map .int:=by
 intro l
 induction l with
 |nil=>intro _;exact⟨[],rfl,by simp,rfl⟩
 |cons x k j=>intro h;obtain⟨w,g,h1,f⟩:=J1 x a<|h x jP;obtain⟨c,b,d,e⟩:=j λy i=>h y<|jU _ i;exact⟨w::c,by simp[h1,b],by simp[g];exact d,by simp[f,e]⟩
def J7{n:Nat}(T:n<=5){t c a:iu}{x3 x4:Sl}(l:DW n a)(y:a≠[])(e:kZ (hW 3) fbL (c.map .int) [eN t,eN c,Y (dD [],U),J,J]=Y (.nx [eN t,eN c,Y (dD a,U),x3,x4])):
  ∃b,((b.map ab).Pairwise (· < ·)/\(∀w∈b,w∈a)/\(b.map ab).Perm (a.map ab))/\jy [enc t,enc c]=Y (enc b,[eN t,eN c]):=by
 have j:=l.len;obtain⟨k,hk⟩:=tf<|jX ltT<|(a.map ab).map D.int;obtain⟨f,z⟩:=UJ l.1 hk;obtain⟨b,i,o,p⟩:=Lx a k λx h=>f.mem_iff.mp h;refine⟨b,⟨by rw[i];exact z,o,by rw[i];exact f⟩,?_⟩
 .have m:(Ix k)<=5:=by have:=f.length_eq;simp at this;lia
  have s1:lz (dD a)=Y (.lst<|k.map .int,U):=by
   unfold lz dD;have q:((a.map λw=>D.int<|ab w).all λk=>(uX k).isSome)=U:=by simp[uX]
   have B:(a.map λw=>D.int<|ab w)≠[]:=by simpa using y
   simp only;rw[iF ⟨q,B⟩];have r:(a.map λw=>D.int<|ab w)=(a.map ab).map D.int:=by rw[jZ];rfl
   unfold kL;rw[r,iF ⟨zT _,by rw[jI];simp;lia⟩,hk]
  obtain⟨E,g⟩:=xH (ie Gy (gZ 0)<|gZ 1) (λd=>match d with| .int x=>(lE (a.map λw=>D.int<|ab w) (a.map .int)<|.int x).getD .non|_=> .non) [Y (dD a,U)] (k.map .int) [] J (by intro d hd;obtain⟨x,h,rfl⟩:=mS.mp hd;obtain⟨w,u,h1,s⟩:=J1 x a<|f.mem_iff.mp h;refine⟨C,ju (o1:= .slot 0) (o2:= .slot 1) I I I I ?_⟩;simp only[Gy,dD];rw[iF<|Gs a x,s];rfl) (by rw[jI];simp;lia)
  have A:((k.map D.int).map λd=>match d with| .int x=>(lE (a.map λw=>D.int<|ab w) (a.map .int)<|.int x).getD .non|_=> .non)=b.map .int:=by rw[jZ,<-p];rfl
  rw[A] at g;simp only[qH,pQ,kI,pv,uA] at g;refine jc (δ:=[eN t,eN c,Y (dD a,U),x3,x4]) ⟨rfl,by decide,rfl⟩ ?_;refine(hX (δ1:=[eN t,eN c,Y (dD [],U),J,J]) I).trans ?_;refine(hX<|(ki (ds:=c.map .int) (δ1:=[eN t,eN c,Y (dD [],U),J,J]) I).trans e).trans ?_;refine iD<|jq<|jM (os:=[.val (.lst<|b.map .int,U)]) (oZ<|iz ?_) I I;have v:iJ (ir (g1 lz) [gZ 2]) [eN t,eN c,Y (dD a,U),x3,x4]=Y (k.map .int,[eN t,eN c,Y (dD a,U),x3,x4]):=lL<|jM (os:=[.slot 2]) I I s1;unfold iT;rw[v];simp only[jv,jx,nj];rw[show kE [eN t,eN c,Y (dD a,U),x3,x4] [.slot 2]=Y [(dD a,U)] from I];simp only[jv];rw[iF (show(iR [Opd.slot 2] [(dD a,U)]).Nodup from(nd1 2))];rw[show(cn Y [(dD a,U)]++ah 1 J:Dn)=[Y (dD a,U),J] from I,g];rfl
def Cz{n:Nat}(f:n<=5){t c:iu}(k:TOk n t)(d:ClOk n c): ∃a,ClOk n a/\jy [enc t,enc c]=Y (enc a,[eN t,eN c]):=by obtain⟨l,x3,x4,g,b,e⟩:=X9 k f (eN c) c [] J J d.2.2 ⟨by simp,by simp⟩;have b:=b<|.inr d.1;obtain⟨a,⟨h1,h,i⟩,e⟩:=J7 f g b e;refine⟨a,⟨λz=>b ?_,h1,λs j=>g.2 s<|h s j⟩,e⟩;have:=i.length_eq;rw[z] at this;exact MU.mp (by simpa using this.symm)
noncomputable abbrev cD(c:iu):D:= .tup (c.map .int)
def xD(c:iu):D.dep (cD c)=1:=by simp[D.dep,yy]
def Kl: ∀a:List (List Int),D.depL (a.map cD)<=1:=by
 intro d
 induction d with
 |nil=>simp[D.depL]
 |cons c a b=>have:=b;simp only[jx,D.depL,xD];lia
def IZ(a b:iu):D.eqb (cD a) (cD b)=decide (a=b):=by simp[D.eqb,BO]
def Qp(c:iu): ∀a:List (List Int),(a.map cD).any (λd=>D.eqb d<|cD c)=decide (c∈a):=by
 intro f
 induction f with
 |nil=>simp
 |cons x a b=>
  simp only[jx,yW,b,IZ,ku];by_cases h:x=c
  .simp[h]
  .have: ¬c=x:=λe=>h e.symm;simp[h,this]
def OG(c:iu)(a:jo):mY (cD c) (.lst<|a.map cD)=Y (.bl (!decide (c∈a)),C):=by
 have:inD (cD c) (.lst<|a.map cD)=Y (decide<|c∈a):=by have hd:=Kl a;show(if D.depL (a.map cD)<=50/\(cD c).dep<=50 then Y ((a.map cD).any λd=>D.eqb d<|cD c) else J)=_;rw[iF ⟨by lia,by rw[xD];lia⟩,Qp]
 unfold mY;rw[this];rfl
noncomputable def Ce:Nat->List (List Int)
 |0=>[[]]
 |k+1=>Ce k++((Ce k).map λc=>c++[(k:Int)+1])++((Ce k).map λc=>c++[-((k:Int)+1)])
def Qr: ∀(k:Nat) (c:iu),(c.map ab).Pairwise (· < ·)->(∀s∈c,1<=ab s/\ab s<=k)->c∈Ce k:=by
 intro j
 induction j with
 |zero=>
  intro c _ h
  cases c with
  |nil=>simp[Ce]
  |cons s c=>have:=h s jP;lia
 |succ k f=>
  intro c b h;simp only[Ce,rY,mS];by_cases d:c=[]
  .subst d;exact .inl<|.inl<|f [] (by simp) (by simp)
  .have hd:=Mf d;generalize c.dropLast=i at hd;generalize c.getLast d=s at hd;subst hd;rw[pR,wA] at b;have l:=h s (by simp);have g: ∀x∈i,1<=ab x/\ab x<ab s:=λx a=>⟨(h x<|by simp[a]).1,b.2.2 (ab x) (qI a) (ab s)<|by simp⟩
   by_cases q:ab s<=k
   .refine .inl (.inl<|f _ ?_ λx a=>?_)
    .rw[pR,wA];exact b
    .rcases rY.mp a with a|a
     .have:=g x a;lia
     .simp at a;subst a;lia
   .have e:ab s=(k:Int)+1:=by lia
    have hk:=f i b.1 λx a=>by have:=g x a;lia
    unfold ab at e;split at e
    .exact .inr ⟨i,hk,by rw[show s= -((k:Int)+1) by lia]⟩
    .exact .inl (.inr ⟨i,hk,by rw[show s=((k:Int)+1) by lia]⟩)
def L5: ∀(k:Nat) (n:Nat),n<=k->(Ce n).length<=(Ce k).length:=by
 intro b
 induction b with
 |zero=>intro n h;rw[show n=0 by lia];exact jQ _
 |succ k a=>
  intro n h;by_cases e:n=k+1
  .subst e;exact jQ _
  .have:=a n (by lia);simp only[Ce,nG,jz];lia
def CsOk(n:Nat)(a:jo):Prop:=a.Nodup/\ ∀c∈a,ClOk n c
def CsOk.len(b:n<=5)(h:CsOk n cs):(Ix cs)<=243:=by
 have h1:=Bv cs (Ce n) h.1 λc a=>Qr n c (h.2 c a).2.1 (h.2 c a).2.2;have d:=L5 5 n b;have e:(Ce 5).length=243:=by decide
 lia
def CsOk.snoc{n:Nat}{b:jo}{c:iu}(h:CsOk n b)(f:ClOk n c)(g:c∉b):CsOk n (b++[c]):=by
 refine⟨?_,λx a=>?_⟩
 .rw[AD];exact⟨h.1,by simp,λx a y d e=>by simp at d;subst d;subst e;exact g a⟩
 .rcases rY.mp a with a|a
  .exact h.2 x a
  .simp at a;subst a;exact f
noncomputable abbrev lsC(a:jo):Sl:=Y (.lst<|a.map cD,U)
abbrev We:FS:=ig (iY 5<|ik jy [gZ 4,hG<|ie gIx (gZ 2)<|gZ 3])<|ig (sIf (fT<|ie mY (gZ 5)<|gZ 2) (ig (nS<|lT 2<|iI 5) iB) iB) iB
def ixc{a:jo}{i:Nat}(h:i<Ix a):gIx (.lst<|a.map cD) (.int i)=Y (cD<|a.getD i [],C):=by
 have:(i:Int)<(Ix a):=by lia
 simp[gIx,atI,ixN,h]
def LI{a:jo}{i:Nat}(h:i<Ix a):a.getD i []∈a:=by rw[lR,jt h];exact DL h
def S8{n:Nat}(p:n<=5){t:iu}(s:TOk n t){a:jo}(f:CsOk n a){i:Nat}(m:i<Ix a)(c d x5:Sl): ∃k u,CsOk n k/\(Ix a)<=Ix k/\We [c,d,lsC a,ii i,eN t,x5]=Y (.nx [c,d,lsC k,ii i,eN t,u]):=by
 obtain⟨b,q,e⟩:=Cz p s<|f.2 _ (LI m);have v:=f.len p
 have s1: ∀g,ig (iY 5<|ik jy [gZ 4,hG<|ie gIx (gZ 2)<|gZ 3]) g [c,d,lsC a,ii i,eN t,x5]=g [c,d,lsC a,ii i,eN t,eN b]:=λg=>hX<|jj (i:=5) (δ1:=[c,d,lsC a,ii i,eN t,x5]) (jn (δ1:=[c,d,lsC a,ii i,eN t,x5]) (os:=[.slot 4,.val<|enc<|a.getD i []]) (args:=[enc t,enc<|a.getD i []]) (lu I<|iz<|ju (o1:= .slot 2) (o2:= .slot 3) I I I I<|ixc m) I lX e) (show 5<6 by decide)
 have j:(fT<|ie mY (gZ 5)<|gZ 2) [c,d,lsC a,ii i,eN t,eN b]=Y (!decide (b∈a),[c,d,lsC a,ii i,eN t,eN b]):=
  jW (o:=C) (ju (o1:= .slot 5) (o2:= .slot 2) I I I I<|OG b a)
 by_cases h:b∈a
 .refine⟨a,eN b,f,jQ _,(s1 _).trans<|(hX<|(md ?_).trans I).trans I⟩;rw[j,oK h];rfl
 .refine⟨a++[b],eN b,f.snoc q h,by simp,(s1 _).trans ?_⟩;rw[mB h] at j;refine(hX<|(nH j).trans<|xw (δ1:=[c,d,lsC a,ii i,eN t,eN b]) (r:=enc b) (l0:=a.map cD) (l:=a.map cD) I I I<|by simp;lia).trans ?_;simp[lsC,iB]
def X4{n:Nat}(q:n<=5)(i:Nat)(b c:Sl): ∀(g:jo) (a:jo) (x4 x5:Sl),(∀t∈g,TOk n t)->CsOk n a->i<Ix a-> ∃d f h,CsOk n d/\(Ix a)<=Ix d/\kZ (hW 4) We (g.map cD) [b,c,lsC a,ii i,x4,x5]=Y (.nx [b,c,lsC d,ii i,f,h]):=by
 intro v
 induction v with
 |nil=>intro a x4 x5 _ e j;exact⟨a,x4,x5,e,jQ _,rfl⟩
 |cons t g s=>intro a x4 x5 k e j;obtain⟨o,w,h1,x,l⟩:=S8 q (k t jP) e j b c x5;obtain⟨d,f,h,p,y,m⟩:=s o (eN t) w (λu r=>k u<|jU _ r) h1 (by lia);refine⟨d,f,h,p,by lia,?_⟩;rw[jx];unfold kZ;rw[show hW 4 (cD t) [b,c,lsC a,ii i,x4,x5]=Y [b,c,lsC a,ii i,eN t,x5] from I];simp only[jv];rw[l];simp only[jv];exact m
abbrev ftW:FT:=fT<|ie (lr .Lt) (gZ 3)<|hG<|ir (g1 oz) [gZ 2]
abbrev fbW:FS:=ig (mX (iJ<|iI 1) (hW 4) We)<|ig (iY 3<|ie jY (gZ 3)<|hG<|fC<|.int 1) iB
def Uz{n:Nat}(w:n<=5)(d:Sl)(c:jo)(y: ∀t∈c,TOk n t): ∀(m a i:Nat) (o:Bool) (b:jo) (x4 x5:Sl),i+m=243->m<a->CsOk n b-> ∃j q p r s,CsOk n j/\(Ix b)<=Ix j/\qi ftW fbW a [d,Y (.lst<|c.map cD,o),lsC b,ii i,x4,x5]=Y (.nx [d,Y (.lst<|c.map cD,q),lsC j,ii p,r,s]):=by
 intro m
 induction m with
 |zero=>
  intro a i o b x4 x5 l O g;have T:=g.len w;obtain⟨f,rfl⟩: ∃f,a=f+1:=⟨a-1,by lia⟩
  refine⟨b,o,i,x4,x5,g,jQ _,?_⟩;have h: ¬((i:Int)<Ix b):=by lia
  have e:ftW [d,Y (.lst<|c.map cD,o),lsC b,ii i,x4,x5]=Y (C,[d,Y (.lst<|c.map cD,o),lsC b,ii i,x4,x5]):=
   jW (o:=C) (ju (o1:= .slot 3) (o2:= .val (.int<|Ix b,C)) I (iz<|jM (os:=[.slot 2]) I I<|by simp) I I<|by rw[U1,mB h])
  unfold qi;rw[e];rfl
 |succ m E=>
  intro a i o b x4 x5 l O g;obtain⟨f,rfl⟩: ∃f,a=f+1:=⟨a-1,by lia⟩
  have e:ftW [d,Y (.lst<|c.map cD,o),lsC b,ii i,x4,x5]=Y (decide<|(i:Int)<Ix b,[d,Y (.lst<|c.map cD,o),lsC b,ii i,x4,x5]):=
   jW (o:=C) (ju (o1:= .slot 3) (o2:= .val (.int<|Ix b,C)) I (iz<|jM (os:=[.slot 2]) I I<|by simp) I I<|by rw[U1])
  by_cases h:((i:Int)<Ix b)
  .rw[oK h] at e;obtain⟨k,u,v,h1,Q,z⟩:=X4 w i d (Y (.lst<|c.map cD,C)) c b x4 x5 y g (by lia);obtain⟨j,q,p,r,s,B,L,A⟩:=E f (i+1) C k u v (by lia) (by lia) h1;refine⟨j,q,p,r,s,B,by lia,?_⟩;unfold qi;rw[e];simp only[jv,kr]
   have x:fbW [d,Y (.lst<|c.map cD,o),lsC b,ii i,x4,x5]=Y (.nx [d,Y (.lst<|c.map cD,C),lsC k,ii (i+1:Nat),u,v]):=by refine(hX<|(ki (ds:=c.map cD) (δ1:=[d,Y (.lst<|c.map cD,C),lsC b,ii i,x4,x5]) I).trans z).trans ?_;refine(hX<|jj (i:=3) (δ1:=[d,Y (.lst<|c.map cD,C),lsC k,ii i,u,v]) (ju (o1:= .slot 3) (o2:= .val (.int 1,C)) I I I I I) (show 3<6 by decide)).trans ?_;simp[iB]
   rw[x];simp only[jv];exact A
  .rw[mB h] at e;refine⟨b,o,i,x4,x5,g,jQ _,?_⟩;unfold qi;rw[e];rfl
def LW{n:Nat}(i:n<=5){b a:jo}(f: ∀t∈b,TOk n t)(h:CsOk n a)(o:Bool): ∃c l,CsOk n c/\(Ix a)<=Ix c/\oH [(.lst<|a.map cD,C),(.lst<|b.map cD,o)]=Y ((.lst<|c.map cD,U),[Y (.lst<|a.map cD,C),l]):=by
 obtain⟨c,d,j,m,p,g,k,e⟩:=Uz i (Y (.lst<|a.map cD,C)) b f 243 Yt 0 o a J J (by lia) (by decide) h;refine⟨c,if o=U then Y (.lst<|b.map cD,d) else Y (.lst<|b.map cD,o),g,k,?_⟩;refine(jc (r:=(.lst<|c.map cD,U)) (δ:=[Y (.lst<|a.map cD,C),Y (.lst<|b.map cD,d),J,ii j,m,p]) ⟨rfl,(show 2<=6 by decide),by cases o<;>rfl⟩ ?_).trans ?_
 .refine(hX (δ1:=[Y (.lst<|a.map cD,C),Y (.lst<|b.map cD,o),lsC a,J,J,J]) I).trans ?_;refine(hX (δ1:=[Y (.lst<|a.map cD,C),Y (.lst<|b.map cD,o),lsC a,ii 0,J,J]) I).trans ?_;exact(hX e).trans (iD I)
 .cases o<;>rfl
noncomputable def CO(a:jo)(c:iu):List (List Int):=if c∈a then a else a++[c]
noncomputable def dd(a:jo):List (List Int):=a.foldl CO []
def TH(a:jo)(c:iu):vg (a.map cD) (cD c)=(CO a c).map cD:=by unfold vg CO;rw[show(a.map cD).any (D.eqb · (cD c))=decide (c∈a) from Qp c a];by_cases h:c∈a<;>simp[h]
def Qd: ∀(b a:jo),(b.map cD).foldl vg (a.map cD)=(b.foldl CO a).map cD:=by
 intro e
 induction e with
 |nil=>intro a;exact I
 |cons c b d=>intro a;rw[jx,uB,uB,TH,d]
def Qv:x∈CO a c↔x∈a\/x=c:=by
 unfold CO;by_cases h:c∈a
 .rw[iF h];constructor
  .exact .inl
  .rintro(h1|rfl)
   .exact h1
   .exact h
 .rw[iL h];simp
def LL: ∀(b a:jo) (x:iu),x∈b.foldl CO a↔x∈a\/x∈b:=by
 intro e
 induction e with
 |nil=>intro a x;simp
 |cons c b d=>intro a x;rw[uB,d,Qv,ku,or_assoc]
def TJ(h:f.Nodup):(CO f c).Nodup:=by
 unfold CO;split
 .exact h
 .rename_i b;rw[AD];exact⟨h,by simp,λx d y a e=>by simp at a;subst a;subst e;exact b d⟩
def PR: ∀(b a:jo),a.Nodup->(b.foldl CO a).Nodup:=by
 intro e
 induction e with
 |nil=>intro a h;exact h
 |cons c b d=>intro a h;rw[uB];exact d _ (TJ h)
def qd: ∀l:List Int,D.prL (l.map .int)=U:=by
 intro b
 induction b with
 |nil=>simp[D.prL]
 |cons x l a=>simp[D.prL,D.pr,a]
def VS(c:iu):okS (cD c)=U:=by simp[okS,qd,yy]
def OC(a:jo):(a.map cD).all okS=U:=by rw[lG];intro d hd;obtain⟨c,_,rfl⟩:=mS.mp hd;exact VS c
theorem zN(c:cz): ∀a b:List Int,(nF c (a.map .int)<|b.map .int).isSome=U
 |[],b=>by simp[nF]
 |x::a,[]=>by simp[nF]
 |x::a,y::b=>by
  simp only[jx,nF];split
  .exact zN c a b
  .simp[mR]
def CY(cs:jo)(h: ∀c∈cs,c≠[]):om (cs.map cD)=U:=by
 have hk: ∀c:List Int,c≠[]->lM (cD c)=Y 1:=λc g=>by
  cases c with
  |nil=>exact absurd I g
  |cons=>rfl
 unfold om
 cases cs with
 |nil=>rfl
 |cons c cs=>
  rw[yQ];right;simp only[jx];rw[kJ,kJ,hk c<|h c jP];refine⟨⟨rfl,?_⟩,?_⟩
  .rw[lG];intro d hd;rw[<-jx (f:=cD)] at hd;obtain⟨x,b,rfl⟩:=mS.mp hd;rw[hk x<|h x b,xD];simp[D.pr,qd]
  .rw[lG];intro d hd;rw[lG];intro e a;rw[<-jx (f:=cD)] at hd a;obtain⟨x,b,rfl⟩:=mS.mp hd;obtain⟨y,i,rfl⟩:=mS.mp a;simp only[mR];exact zN _ _ _
noncomputable def unC:D->List Int
 | .tup l=>l.map iOf
 |_=>[]
def qK(c:iu):unC (cD c)=c:=by simp only[unC,jZ];rw[ph (g:=id),oJ];intro x _;rfl
def BR(h:m.Perm (cs.map cD)): ∃a:List (List Int),m=a.map cD/\a.Perm cs:=by
 refine⟨m.map unC,?_,?_⟩
 .rw[jZ]
  symm
  rw[ph (g:=id),oJ];intro d hd;obtain⟨c,_,rfl⟩:=mS.mp<|h.mem_iff.mp hd;simp only[bc,qK];rfl
 .have:=h.map unC;rw[jZ] at this;rw[show cn (unC∘cD) cs=cn id cs from ph λc _=>qK c,oJ] at this;exact this
def SrtC(c:jo):Prop:=c.Pairwise λa b=>ltT (cD b) (cD a)=C
def W9{n:Nat}{a:jo}(j: ∀c∈a,ClOk n c)(l:(Ix a)<500): ∃k b:List (List Int),CsOk n b/\SrtC b/\(∀c,c∈b↔c∈a)/\(Ix b)<=Ix a/\IJ (.lst<|a.map cD)=Y (.oth .set []<|k.map cD,U)/\lz (.oth .set []<|k.map cD)=Y (.lst<|b.map cD,U):=by
 have f: ∀c,c∈dd a↔c∈a:=λc=>by unfold dd;rw[LL];simp
 have i:(dd a).Nodup:=PR a [] (by simp);obtain⟨b,e,g⟩:=BR<|jX ltT<|(dd a).map cD;have d:(dd a).length<=(Ix a):=Bv _ _ i λc h=>(f c).mp h;refine⟨dd a,b,⟨g.symm.nodup i,λc h=>j c<|(f c).mp<|g.mem_iff.mp h⟩,?_,λc=>g.mem_iff.trans<|f c,by rw[g.length_eq];exact d,?_,?_⟩
 .have:=oj<|(dd a).map cD;rw[e,qt] at this;exact this
 .show(if(a.map cD).all okS=U/\(a.map cD).length<500 then Y (D.oth .set []<|qZ<|a.map cD,U) else J)=_;rw[iF ⟨OC a,by simpa using l⟩];unfold qZ;rw[show([]:List D)=([]:List (List Int)).map cD from I,Qd];rfl
 .show(if((dd a).map cD).all okS=U then kL ((dd a).map cD) else J)=_;rw[iF<|OC _];unfold kL;rw[iF ⟨CY _ λc h=>(j c<|(f c).mp h).1,by rw[jI];simp;lia⟩,e]
def Lj: ∀(k:Nat) (r f t:iu),t∈nU k r f-> ∀x∈t,x∈f\/ ∃y∈r,x=y*1\/x=y* -1:=by
 intro g
 induction g with
 |zero=>intro r f t h x b;simp[nU] at h;subst h;exact .inl b
 |succ k e=>
  intro r f t h x b;simp only[nU,wB,rY,vm] at h;obtain⟨v,hv,h⟩:=h
  have a: ∀s:Int,(s=1\/s= -1)->t∈nU k (r.eraseIdx v) (f++[r.getD v 0*s])->x∈f\/ ∃y∈r,x=y*1\/x=y* -1:=by
   intro s c h;rcases e _ _ t h x b with h1|⟨y,d,h1⟩
   .rcases rY.mp h1 with h1|h1
    .exact .inl h1
    .simp at h1;refine .inr ⟨r.getD v 0,kY hv,?_⟩;rw[lR];rcases c with rfl|rfl<;>simp[h1]
   .exact .inr ⟨y,Me d,h1⟩
  rcases h with h|h
  .exact a 1 (.inl I) h
  .exact a (-1) (.inr I) h
def M8{n:Nat}{t:iu}(h:t∈nU n (st n) []):TOk n t:=by
 refine⟨M7 h,λx a=>?_⟩;rcases Lj n _ _ t h x a with h1|⟨y,b,h1⟩
 .simp at h1
 .have:=KJ.mp b;unfold ab;rcases h1 with rfl|rfl<;>split<;>omega
def TOk.abs(h:TOk n t):TOk n (t.map ab):=by refine⟨by simpa using h.1,λx a=>?_⟩;obtain⟨y,b,rfl⟩:=mS.mp a;have:=h.2 y b;rw[qm (i:=ab y)<|by lia];exact this
def Qj(l:EvF)(P:List Int->Prop)(b:Bool)(n:Int)(h: ∀a,∃i c,P c/\l [pS a b,pI n]=Y (enc c,[stt i b,ii n])): ∀(k:List D) (f:jo) (a:Int) (x:Sl),(∀c∈f,P c)->Ix f+Ix k<=1000->
  ∃(i:Int) (j:jo) (o:Sl),(∀c∈j,P c)/\(Ix j)=Ix f+Ix k/\lq (hW 2) je (jb<|ik l [gZ 0,gZ 1]) k (f.map cD) [stt a b,ii n,x]=Y (j.map cD,[stt i b,ii n,o]):=by
 intro A
 induction A with
 |nil=>intro f a x m _;exact⟨a,f,x,m,by simp,rfl⟩
 |cons d k w=>
  intro f a x m p;obtain⟨a1,z,v,r⟩:=h a
  obtain⟨i,j,o,t,q,e⟩:=w (f++[z]) a1 (Y (d,C)) (λy g=>by
   rcases rY.mp g with g|g
   .exact m y g
   .simp at g;subst g;exact v) (by simp at p ⊢;lia)
  refine⟨i,j,o,t,by simp at q ⊢;lia,?_⟩;have u:(f.map cD).length<sizeLine:=by rw[jI];simp at p ⊢;lia
  have s:ik l [gZ 0,gZ 1] [stt a b,ii n,Y (d,C)]=Y (enc z,[stt a1 b,ii n,Y (d,C)]):=
   jn (δ1:=[stt a b,ii n,Y (d,C)]) (os:=[.slot 0,.slot 1]) (args:=[pS a b,pI n]) rfl rfl (nd1 0) r
  rw[lq,show hW 2 d [stt a b,ii n,x]=Y [stt a b,ii n,Y (d,C)] from I];simp only[jv,xY,kr,As];rw[s];simp only[jv];rw[iF u];rw[pR] at e;exact e
def BW(k:EvF)(P:List Int->Prop)(b:Bool)(n:Int)(h: ∀a,∃d c,P c/\k [pS a b,pI n]=Y (enc c,[stt d b,ii n]))(j:List D)(hd:(Ix j)<=1000)(a:Int)(f g:Sl)(iW:Dn)(m:FIt)(l:m (stt a b::f::g::ii n::iW)=Y (j,stt a b::f::g::ii n::iW)):
  ∃(d:Int) (i:jo),(∀c∈i,P c)/\(Ix i)=Ix j/\iT [0,3] 1 m (hW 2) je (jb<|ik k [gZ 0,gZ 1]) (stt a b::f::g::ii n::iW)=Y ((.lst<|i.map cD,U),stt d b::f::g::ii n::iW):=by
 obtain⟨d,i,p,h1,o,e⟩:=Qj k P b n h j [] a J (by simp) (by simpa using hd);refine⟨d,i,h1,by simpa using o,?_⟩;unfold iT;rw[l];simp only[jv,jx,nj];rw[show kE (stt a b::f::g::ii n::iW) [.slot 0,.slot 3]=Y [pS a b,pI n] from I];simp only[jv];rw[iF (show(iR [Opd.slot 0,Opd.slot 3] [(D.lst [.int a,.bl b],U),pI n]).Nodup from(nd1 0))];rw[show(cn Y [(D.lst [.int a,.bl b],U),(D.int n,C)]++ah 1 J:Dn)=[stt a b,ii n,J] from I];rw[show([]:List D)=([]:List (List Int)).map cD from I,e];rfl
def Qe(a:jo)(v:Nat): ∃m,m<=v/\PX.mU (a.map cD) J (Y (v:Int))=(a.take m).map cD:=by refine⟨min v<|Ix a,by lia,?_⟩;unfold PX.mU;rw[HT.UO,HT.WD,n4,jz,List.drop_zero,Nat.sub_zero]
def SrtC.take(h:SrtC a)(m:Nat):SrtC (a.take m):=ro (ze m a) h
def CsOk.take(h:CsOk n a)(m:Nat):CsOk n (a.take m):=⟨List.Nodup.sublist (ze m a) h.1,λc b=>h.2 c<|wH b⟩
def Qx(t:iu)(a:(Ix t)<=100):ir (g1 ml) [hG<|iT [] 1 (iJ<|iI 0) (hW 0) je<|jb<|ir (g1 mF) [gZ 0]] [Y (cD t,C)]=Y ((cD<|t.map ab,C),[Y (cD t,C)]):=by
 obtain⟨b,e⟩:=xH (ir (g1 mF) [gZ 0]) (λd=> .int (ab<|iOf d)) [] (t.map .int) [] J (by intro d hd;obtain⟨i,_,rfl⟩:=mS.mp hd;exact⟨C,rfl⟩) (by rw[jI];simp;lia)
 simp only[qH,pQ,kI,pv,jZ] at e;refine jM (os:=[.val (.lst<|(t.map ab).map .int,U)]) (oZ<|iz ?_) I I;unfold iT;rw[show iJ (iI 0) [Y (cD t,C)]=Y (t.map .int,[Y (cD t,C)]) from I];simp only[jv,nj,vB,iR,lX,kr,pQ,cZ,cY];rw[e,jZ];rfl
def Us{f:F}{fi:FIt}{δ δ1:Dn}{ds a:List D}{c:Sl}(h1:fi δ=Y (ds,δ1))(b:lq (hW 0) je (jb f) ds [] [J]=Y (a,[c])):iT [] 1 fi (hW 0) je (jb f) δ=Y ((.lst a,U),δ1):=by unfold iT;rw[h1];simp only[jv,nj,vB,iR,lX,kr,pQ,cZ,cY];rw[b];rfl
def L6(a:jo)(m:(Ix a)<=1000)(l: ∀t∈a,Ix t<=100)(b c f g i j k:Sl)(o:Bool):iT [] 1 (iJ<|iI 7) (hW 0) je (jb<|ir (g1 ml) [hG<|iT [] 1 (iJ<|iI 0) (hW 0) je<|jb<|ir (g1 mF) [gZ 0]]) [b,c,f,g,i,j,k,Y (.lst<|a.map cD,o)]=Y ((.lst<|(a.map<|cn ab).map cD,U),[b,c,f,g,i,j,k,Y (.lst<|a.map cD,C)]):=by
 obtain⟨n,e⟩:=xH (ir (g1 ml) [hG<|iT [] 1 (iJ<|iI 0) (hW 0) je<|jb<|ir (g1 mF) [gZ 0]]) (λd=>cD<|(unC d).map ab) [] (a.map cD) [] J (by intro d hd;obtain⟨t,h,rfl⟩:=mS.mp hd;refine⟨C,?_⟩;rw[qK];exact Qx t<|l t h) (by rw[jI];simp;lia)
 simp only[qH,pQ,kI,pv,jZ] at e;have:(a.map<|(λd=>cD<|(unC d).map ab)∘cD)=a.map (cD∘cn ab):=ph λt _=>by simp only[bc,qK]
 rw[this] at e;rw[jZ];exact Us I e
def xJ(n:Nat)(a:jo):Prop:=n<=5/\CsOk n a/\SrtC a/\(Ix a)<=30
noncomputable abbrev rD'(n:Nat)(a:jo):D:= .tup [.int n,.tup<|a.map cD]
noncomputable abbrev rS(n:Nat)(a:jo):Sl:=Y (rD' n a,C)
noncomputable abbrev lv(L:List D):Sl:=Y (.lst L,U)
def IU(h:kx fs δ=kx b a):ik ev fs δ=ik ev b a:=by unfold ik;rw[h]
def KW(a:Int)(b:Bool)(lo d:Nat)(h1:lo<=d)(h5:d<=5): ∃a' n h,xJ n h/\lo<=n/\n<=d/\oG [pS a b,pI lo,pI d]=FM ((rD' n h,Go),[stt a' b,ii lo,ii d]):=by
 obtain⟨v,a1,v0,v1,e1⟩:=lI a b ((d:Int)-lo+1) (by lia) (by lia);obtain⟨w,s,w0,w1,e2⟩:=lI a1 b 4 (by lia) (by lia);obtain⟨n,hn⟩: ∃n:Nat,(lo:Int)+v=n:=⟨(lo+v).toNat,by lia⟩
 have pre: ∀g,ig (iY 3<|ie jY (gZ 1)<|hG<|ik iG [gZ 0,hG<|ie jY (hG<|ie gSub (gZ 2)<|gZ 1)<|hG<|fC<|.int 1]) (ig (iY 4<|ik iG [gZ 0,hG<|fC<|.int 4]) g) [stt a b,ii lo,ii d,F2,F2,F2,F2,F2]=g [stt s b,ii lo,ii d,ii n,ii w,F2,F2,F2]:=by
  intro g;refine(hX (δ1:=[stt a1 b,ii lo,ii d,ii n,F2,F2,F2,F2]) ?_).trans ?_
  .refine jj (i:=3) (δ1:=[stt a1 b,ii lo,ii d,F2,F2,F2,F2,F2]) (ju (o1:= .slot 1) (o2:= .val (.int v,Go)) H8 (iz<|e1 _ _ _ rfl rfl) H8 H8 ?_) (show 3<8 by decide);rw[Xf,hn]
  .exact hX (jj (i:=4) (δ1:=[stt s b,ii lo,ii d,ii n,F2,F2,F2,F2]) (e2 _ [ii lo,ii d,ii n,F2,F2,F2,F2] _ rfl rfl) (show 4<8 by decide))
 by_cases hz:n=0
 .subst hz;refine⟨s,0,[],⟨by lia,⟨by simp,by simp⟩,ci,by simp⟩,by lia,by lia,?_⟩;refine jc (δ:=[stt s b,ii lo,ii d,ii (0:Nat),ii w,F2,F2,F2]) ⟨rfl,by decide,rfl⟩<|(pre _).trans ?_;refine iD<|(nH (δ1:=[stt s b,ii lo,ii d,ii (0:Nat),ii w,F2,F2,F2])<|by simp).trans<|iD<|jq ?_;simp[jI]
 .have n1:1<=n:=by lia
  have G:n<=5:=by lia
  obtain⟨u,I,u0,u1,e3⟩:=lI s b 3 (by lia) (by lia)
  let N:List Int:=[4,8,13]
  let m:=N.getD u.toNat 0
  have hm:0<m/\m<=13:=by rcases(show u=0\/u=1\/u=2 by lia) with rfl|rfl|rfl<;>decide
  obtain⟨c,L,q0,q1,e4⟩:=lI I b m hm.1 (by lia);obtain⟨f,rfl⟩: ∃f:Nat,c=f:=⟨c.toNat,by lia⟩
  have i1:uf (gZ 5) [stt L b,ii lo,ii d,ii n,ii w,ii f,F2,F2]=FM (iX 0 f,[stt L b,ii lo,ii d,ii n,ii w,ii f,F2,F2]):=pE (o:= .slot 5) H8 H8 (by lia);obtain⟨C,l,bp,p5,e5⟩:=BW kc (ClOk n) b n (λa=>zO a b n n1 G) (iX 0 f) (by simp[iX];lia) L (ii lo) (ii d) [ii w,ii f,F2,F2] (uf<|gZ 5) i1;have l6:(Ix l)<13:=by simp[iX] at p5;lia
  have H: ∃(j:Int) (A:jo) (q:Sl),(∀c∈A,ClOk n c)/\(Ix A)<500/\(sIf (fT<|ie (lr .Gt) (gZ 4)<|hG<|fC<|.int 0) (ig (iY 7<|iT [0,3] 1 (uf<|hG<|ie jY (hG<|fC<|.int 1)<|hG<|ie yn (gZ 4)<|hG<|fC<|.int 2) (hW 2) je<|jb<|ik kM [gZ 0,gZ 1])<|ig (sIf (fT<|ie gEq (gZ 4)<|hG<|fC<|.int 3) (ig (iY 7<|iT [] 1 (iJ<|iI 7) (hW 0) je<|jb<|ir (g1 ml) [hG<|iT [] 1 (iJ<|iI 0) (hW 0) je<|jb<|ir (g1 mF) [gZ 0]]) iB) iB)<|ig (iY 6<|ik oH [hG<|nW (hG<|ir (g1 lz) [hG<|ir (g1 IJ) [gZ 6]])<|hG<|fC<|.int 2,gZ 7]) iB) iB) [stt C b,ii lo,ii d,ii n,ii w,ii f,lv<|l.map cD,F2]=FM (.nx [stt j b,ii lo,ii d,ii n,ii w,ii f,lv<|A.map cD,q]):=by
   by_cases hw:0<w
   .obtain⟨k,hk,cK⟩: ∃k:Nat,(1:Int)+w%2=k/\k<=2:=⟨(1+w%2).toNat,by lia,by lia⟩
    have i2:uf (hG<|ie jY (hG<|fC<|.int 1)<|hG<|ie yn (gZ 4)<|hG<|fC<|.int 2) [stt C b,ii lo,ii d,ii n,ii w,ii f,lv<|l.map cD,F2]=FM (iX 0 k,[stt C b,ii lo,ii d,ii n,ii w,ii f,lv<|l.map cD,F2]):=by refine pE (o:= .val (.int k,Go)) (iz ?_) H8 (by lia);rw[<-hk];simp[yn,gI]
    obtain⟨j,B,F,W,e6⟩:=BW kM (TOk n) b n (λa=>by obtain⟨a',t,O,e⟩:=wX a b n G;exact⟨a',t,M8 O,e⟩) (iX 0 k) (by simp[iX];lia) C (ii lo) (ii d) [ii w,ii f,lv<|l.map cD,F2] _ i2
    have Q:(Ix B)<=1000:=by simp[iX] at W;lia
    have Z: ∃x:List (List Int),(∀t∈x,TOk n t)/\ ∀g,ig (sIf (fT<|ie gEq (gZ 4)<|hG<|fC<|.int 3) (ig (iY 7<|iT [] 1 (iJ<|iI 7) (hW 0) je<|jb<|ir (g1 ml) [hG<|iT [] 1 (iJ<|iI 0) (hW 0) je<|jb<|ir (g1 mF) [gZ 0]]) iB) iB) g [stt j b,ii lo,ii d,ii n,ii w,ii f,lv<|l.map cD,lv<|B.map cD]=g [stt j b,ii lo,ii d,ii n,ii w,ii f,lv<|l.map cD,lv<|x.map cD]:=by
     by_cases h3:w=3
     .refine⟨B.map<|cn ab,λt O=>?_,λg=>?_⟩
      .obtain⟨t',fR,rfl⟩:=mS.mp O;exact(F t' fR).abs
      .refine hX ((nH (δ1:=[stt j b,ii lo,ii d,ii n,ii w,ii f,lv<|l.map cD,lv<|B.map cD])<|jW (o:=Go)<|ju (o1:= .slot 4) (o2:= .val (.int 3,Go)) H8 H8 H8 H8<|by rw[T6,h3];rfl).trans<|(hX<|jj (i:=7) (δ1:=[stt j b,ii lo,ii d,ii n,ii w,ii f,lv<|l.map cD,FM (.lst<|B.map cD,Go)]) (L6 B Q (λt O=>by have:=(F t O).1;lia) _ _ _ _ _ _ _ Gc) (show 7<8 by decide)).trans H8)
     .refine⟨B,F,λg=>hX<|(md (δ1:=[stt j b,ii lo,ii d,ii n,ii w,ii f,lv<|l.map cD,lv<|B.map cD])<|jW (o:=Go)<|ju (o1:= .slot 4) (o2:= .val (.int 3,Go)) H8 H8 H8 H8<|by rw[T6,vO,mB h3]).trans H8⟩
    obtain⟨x,T,Z⟩:=Z;obtain⟨vs,h,M,P,S,R,D,X⟩:=W9 bp (by lia);obtain⟨y,V,ct⟩:=Qe h 2;obtain⟨A,q,U,_,e7⟩:=LW G T (M.take y) Gc;refine⟨j,A,q,U.2,by have:=U.len G;lia,?_⟩;refine(nH (δ1:=[stt C b,ii lo,ii d,ii n,ii w,ii f,lv<|l.map cD,F2])<|jW (o:=Go)<|ju (o1:= .slot 4) (o2:= .val (.int 0,Go)) H8 H8 H8 H8<|by rw[ND,oK (show w>0 from hw)]).trans ?_;refine(hX<|jj (i:=7) e6 (show 7<8 by decide)).trans ((Z _).trans<|(hX<|jj (i:=6) (δ1:=[stt j b,ii lo,ii d,ii n,ii w,ii f,lv<|l.map cD,q]) (jn (δ1:=[stt j b,ii lo,ii d,ii n,ii w,ii f,lv<|l.map cD,lv<|x.map cD]) (os:=[.val (.lst<|(h.take y).map cD,Gc),.slot 7]) (args:=[(.lst<|(h.take y).map cD,Go),(.lst<|x.map cD,Gc)]) (lu (δ1:=[stt j b,ii lo,ii d,ii n,ii w,ii f,lv<|l.map cD,lv<|x.map cD]) (iz ?_) H8) H8 (nd1 7) e7) (show 6<8 by decide)).trans H8)
    have f1:ir (g1 lz) [hG<|ir (g1 IJ) [gZ 6]] [stt j b,ii lo,ii d,ii n,ii w,ii f,lv<|l.map cD,lv<|x.map cD]=FM ((.lst<|h.map cD,Gc),[stt j b,ii lo,ii d,ii n,ii w,ii f,lv<|l.map cD,lv<|x.map cD]):=
     jM (os:=[.val (.oth .set []<|vs.map cD,Gc)]) (oZ<|iz<|jM (os:=[.slot 6]) H8 H8 D) rfl X
    unfold nW;rw[iz f1];simp only[jv];rw[show hG (fC<|.int 2) [stt j b,ii lo,ii d,ii n,ii w,ii f,lv<|l.map cD,lv<|x.map cD]=FM (.val (.int 2,Go),[stt j b,ii lo,ii d,ii n,ii w,ii f,lv<|l.map cD,lv<|x.map cD]) from H8];simp only[jv,Bf];rw[show gSl F2 (FM 2) (.lst<|h.map cD)=FM (.lst<|PX.mU (h.map cD) F2<|FM 2,Gc) from H8];simp only[jv];rw[show PX.mU (h.map cD) F2 (FM 2)=(h.take y).map cD from ct]
   .refine⟨C,l,F2,bp,by lia,?_⟩;exact(md (δ1:=[stt C b,ii lo,ii d,ii n,ii w,ii f,lv<|l.map cD,F2])<|jW (o:=Go)<|ju (o1:= .slot 4) (o2:= .val (.int 0,Go)) H8 H8 H8 H8<|by rw[ND,mB (show ¬w>0 from hw)]).trans H8
  obtain⟨j,A,q,U,bG,H⟩:=H;obtain⟨vs,h,M,P,S,R,D,X⟩:=W9 U bG
  have f1:ir (g1 lz) [hG<|ir (g1 IJ) [gZ 6]] [stt j b,ii lo,ii d,ii n,ii w,ii f,lv<|A.map cD,q]=FM ((.lst<|h.map cD,Gc),[stt j b,ii lo,ii d,ii n,ii w,ii f,lv<|A.map cD,q]):=
   jM (os:=[.val (.oth .set []<|vs.map cD,Gc)]) (oZ<|iz<|jM (os:=[.slot 6]) H8 H8 D) rfl X
  have last: ∃(z:Int) (E:jo),CsOk n E/\SrtC E/\(Ix E)<=30/\sIf (fT<|ie (lr .Gt) (hG<|ir (g1 oz) [gZ 6])<|hG<|fC<|.int 30) (ig (iY 6<|nW (gZ 6)<|hG<|ik iG [gZ 0,hG<|fC<|.int 30]) iB) iB [stt j b,ii lo,ii d,ii n,ii w,ii f,lv<|h.map cD,q]=FM (.nx [stt z b,ii lo,ii d,ii n,ii w,ii f,lv<|E.map cD,q]):=by
   have Y:(fT<|ie (lr .Gt) (hG<|ir (g1 oz) [gZ 6])<|hG<|fC<|.int 30) [stt j b,ii lo,ii d,ii n,ii w,ii f,lv<|h.map cD,q]=FM (decide<|((Ix h):Int)>30,[stt j b,ii lo,ii d,ii n,ii w,ii f,lv<|h.map cD,q]):=
    jW (o:=Go) (ju (o1:= .val (.int<|Ix h,Go)) (o2:= .val (.int 30,Go)) (iz<|jM (os:=[.slot 6]) H8 H8<|by simp) H8 H8 H8<|ND _ _)
   by_cases hb:((Ix h):Int)>30
   .obtain⟨p,z,p0,p1,e8⟩:=lI j b 30 (by lia) (by lia);obtain⟨J,rfl⟩: ∃J:Nat,p=J:=⟨p.toNat,by lia⟩
    obtain⟨y,V,ct⟩:=Qe h J;refine⟨z,h.take y,M.take y,P.take y,by rw[rp];lia,?_⟩;rw[oK hb] at Y;refine(nH Y).trans ((hX<|jj (i:=6) (δ1:=[stt z b,ii lo,ii d,ii n,ii w,ii f,lv<|h.map cD,q]) (r:=(.lst<|(h.take y).map cD,Gc)) ?_ (show 6<8 by decide)).trans H8);unfold nW;rw[show gZ 6 [stt j b,ii lo,ii d,ii n,ii w,ii f,lv<|h.map cD,q]=FM (.slot 6,[stt j b,ii lo,ii d,ii n,ii w,ii f,lv<|h.map cD,q]) from H8];simp only[jv];rw[iz<|e8 _ [ii lo,ii d,ii n,ii w,ii f,lv<|h.map cD,q] _ rfl rfl];simp only[jv,Bf];rw[show res (stt z b::[ii lo,ii d,ii n,ii w,ii f,lv<|h.map cD,q]) (.slot 6)=FM (.lst<|h.map cD) from H8];simp only[jv];rw[show gSl F2 (FM (J:Int)) (.lst<|h.map cD)=FM (.lst<|PX.mU (h.map cD) F2<|FM (J:Int),Gc) from H8,ct];rfl
   .rw[mB hb] at Y;exact⟨j,h,M,P,by lia,(md Y).trans H8⟩
  obtain⟨z,E,k1,k2,k3,last⟩:=last;refine⟨z,n,E,⟨G,k1,k2,k3⟩,by lia,by lia,?_⟩;refine jc (δ:=[stt z b,ii lo,ii d,ii n,ii w,ii f,lv<|E.map cD,q]) ⟨rfl,by decide,rfl⟩<|(pre _).trans ?_;refine(hX<|(md (δ1:=[stt s b,ii lo,ii d,ii n,ii w,F2,F2,F2])<|by simp[hz]).trans H8).trans ?_;refine(hX (δ1:=[stt L b,ii lo,ii d,ii n,ii w,ii f,F2,F2]) ?_).trans ?_
  .refine jj (i:=5) (δ1:=[stt L b,ii lo,ii d,ii n,ii w,F2,F2,F2]) ?_ (show 5<8 by decide)
   have em:hG (ie gIx (hG<|lj [fC<|.int 4,fC<|.int 8,fC<|.int 13])<|hG<|ik iG [gZ 0,hG<|fC<|.int 3]) [stt s b,ii lo,ii d,ii n,ii w,F2,F2,F2]=FM (.val (.int m,Go),[stt I b,ii lo,ii d,ii n,ii w,F2,F2,F2]):=
    iz (ju (o1:= .val (.lst<|N.map .int,Gc)) (o2:= .val (.int u,Go)) (iz (δ1:=[stt s b,ii lo,ii d,ii n,ii w,F2,F2,F2])<|by simp[N,jI]) (iz<|e3 _ [ii lo,ii d,ii n,ii w,F2,F2,F2] _ rfl rfl) H8 H8<|V3 u0<|by simpa[N] using u1)
   have K:=e4 (λ_=>FM (.val (.int m,Go),[stt I b,ii lo,ii d,ii n,ii w,F2,F2,F2])) [ii lo,ii d,ii n,ii w,F2,F2,F2] (.val (.int m,Go)) H8 H8
   have hf:kx [gZ 0,hG<|ie gIx (hG<|lj [fC<|.int 4,fC<|.int 8,fC<|.int 13])<|hG<|ik iG [gZ 0,hG<|fC<|.int 3]] [stt s b,ii lo,ii d,ii n,ii w,F2,F2,F2]=kx [gZ 0,λ_=>FM (.val (.int m,Go),[stt I b,ii lo,ii d,ii n,ii w,F2,F2,F2])] (stt I b::[ii lo,ii d,ii n,ii w,F2,F2,F2]):=by rw[lu (o1:= .slot 0) H8 em];rfl
   exact(IU hf).trans K
  refine(hX<|jj (i:=6) e5 (show 6<8 by decide)).trans ?_;refine(hX H).trans ?_;refine(hX<|jj (i:=6) f1 (show 6<8 by decide)).trans ?_;refine(hX last).trans (iD<|jq ?_);simp[iI,jI]
noncomputable abbrev frz(a:List D):Dn:=a.map λd=>Y (d,C)
theorem uV: ∀(os:List Opd) (a:List D),iR os (a.map λd=>(d,C))=[]
 |[],_=>by simp[iR]
 |_::_,[]=>by simp[iR]
 |o::os,d::a=>by cases o<;>simp[iR,uV os a]
theorem Fy: ∀(os:List Opd) (b:List D) (a c:Dn),wb os (b.map λd=>(d,C)) a c=c
 |[],_,_,_=>by simp[wb]
 |_::_,[],_,_=>by simp[wb]
 |_::_,_::_,[],_=>by simp[wb]
 |o::os,d::b,x::xs,c=>by cases o<;>simp[wb,Fy os b xs]
def Yo{f:F}{ti:FT}{g:D->D}{p:D->Bool}{pre:Dn}: ∀(l a:List D) (x:Sl),(∀d∈l,ti (pre++[Y (d,C)])=Y (p d,pre++[Y (d,C)])/\(p d=U-> ∃o,f (pre++[Y (d,C)])=Y ((g d,o),pre++[Y (d,C)])))->Ix a+Ix l<=sizeLine->
  ∃b,lq (hW<|Ix pre) ti (jb f) l a (pre++[x])=Y (a++(l.filter p).map g,pre++[b]):=by
 intro r
 induction r with
 |nil=>intro a x _ _;exact⟨x,by simp[lq]⟩
 |cons d l m=>
  intro a x h j;obtain⟨h1,n⟩:=h d jP;have q:(Ix a)<sizeLine:=by simp at j;lia
  rw[lq,Eu];simp only[jv];rw[h1]
  cases k:p d with
  |false=>obtain⟨b,e⟩:=m a (Y (d,C)) (λc i=>h c<|jU _ i) (by simp at j ⊢;lia);exact⟨b,by simp[e,k]⟩
  |true=>obtain⟨o,hd⟩:=n k;obtain⟨b,e⟩:=m (a++[g d]) (Y (d,C)) (λc i=>h c<|jU _ i) (by simp at j ⊢;lia);refine⟨b,?_⟩;simp only[jv,kr,As];rw[hd];simp only[jv];rw[iF q];simp only[jv];rw[e];simp[k]
def BV{caps:ky}{fi:FIt}{f:F}{ti:FT}{δ δ1:Dn}{l args:List D}(g:D->D)(p:D->Bool)(h1:fi δ=Y (l,δ1))(a:kE δ1 (caps.map .slot)=Y (args.map λd=>(d,C)))(b:(Ix args)=Ix caps)
  (h: ∀d∈l,ti (frz args++[Y (d,C)])=Y (p d,frz args++[Y (d,C)])/\(p d=U-> ∃o,f (frz args++[Y (d,C)])=Y ((g d,o),frz args++[Y (d,C)])))(c:(Ix l)<=10000):
  iT caps 1 fi (hW<|Ix caps) ti (jb f) δ=Y ((.lst<|(l.filter p).map g,U),δ1):=by
 obtain⟨i,e⟩:=Yo (f:=f) (ti:=ti) (g:=g) (p:=p) (pre:=frz args) l [] J h (by rw[jI];simp;lia);unfold iT;rw[h1];simp only[jv];rw[a];simp only[jv,uV,lX,kr,jZ,Fy];rw[show hW (Ix caps)=hW (frz args).length from by rw[jz,b]];rw[show((args.map<|Y∘λd=>(d,C))++ah 1 J:Dn)=frz args++[J] from I,e];simp
def xE{caps:ky}{fi:FIt}{f:F}{δ δ1:Dn}{l args:List D}(g:D->D)(h1:fi δ=Y (l,δ1))(a:kE δ1 (caps.map .slot)=Y (args.map λd=>(d,C)))(b:(Ix args)=Ix caps)
  (h: ∀d∈l,∃o,f (frz args++[Y (d,C)])=Y ((g d,o),frz args++[Y (d,C)]))(c:(Ix l)<=10000):
  iT caps 1 fi (hW<|Ix caps) je (jb f) δ=Y ((.lst<|l.map g,U),δ1):=by
 rw[BV g (λ_=>U) h1 a b (λd hd=>⟨rfl,λ_=>h d hd⟩) c,WJ.mpr λ_ _=>rfl]
def yz{caps:ky}{fi:FIt}{f:F}{δ δ1:Dn}{l args:List D}(p:D->Bool)(h1:fi δ=Y (l,δ1))(a:kE δ1 (caps.map .slot)=Y (args.map λd=>(d,C)))(b:(Ix args)=Ix caps)
  (h: ∀d∈l,∃o,f (frz args++[Y (d,C)])=Y ((.bl<|p d,o),frz args++[Y (d,C)]))(c:(Ix l)<=10000):
  ir (g1 zI) [hG<|iT caps 1 fi (hW<|Ix caps) je<|jb f] δ=Y ((.bl<|l.all p,C),δ1):=
 jM (oZ<|iz<|xE (λd=> .bl (p d)) h1 a b h c) rfl (yH p l)
def Qf{caps:ky}{fi:FIt}{f:F}{δ a:Dn}{l args:List D}(p:D->Bool)(h1:fi δ=Y (l,a))(b:kE a (caps.map .slot)=Y (args.map λd=>(d,C)))(c:(Ix args)=Ix caps)
  (h: ∀d∈l,∃o,f (frz args++[Y (d,C)])=Y ((.bl<|p d,o),frz args++[Y (d,C)]))(e:(Ix l)<=10000):
  ir (g1 IL) [hG<|iT caps 1 fi (hW<|Ix caps) je<|jb f] δ=Y ((.bl<|l.any p,C),a):=
 jM (oZ<|iz<|xE (λd=> .bl (p d)) h1 b c h e) rfl (Qo p l)
def ZT{f:F}{c:FIt}{g:D->D->D}{m:List D}(r: ∀d y,c [Y (d,C),y]=Y (m,[Y (d,C),y])): ∀(l a:List D) (x y:Sl),(∀d∈l,∀e∈m,∃o,f [Y (d,C),Y (e,C)]=Y ((g d e,o),[Y (d,C),Y (e,C)]))->Ix a+(Ix l)*(Ix m)<=sizeLine->
  ∃v b,lq (hW 0) je (Jl c (hW 1) je<|jb f) l a [x,y]=Y (a++l.flatMap λd=>m.map<|g d,[v,b]):=by
 intro u
 induction u with
 |nil=>intro a x y _ _;exact⟨x,y,by simp[lq]⟩
 |cons d l t=>
  intro a x y h s;have A:(Ix a)+Ix m+(Ix l)*(Ix m)<=sizeLine:=by simp[fe] at s;omega
  obtain⟨b,j⟩:=xH f (g d) [Y (d,C)] m a y (λe q=>h d jP e q) (by omega);obtain⟨x2,w,k⟩:=t (a++m.map (g d)) (Y (d,C)) b (λi n=>h i<|jU _ n) (by simp;omega);refine⟨x2,w,?_⟩;rw[lq];rw[show hW 0 d [x,y]=Y [Y (d,C),y] from I];simp only[jv,xY,kr];unfold Jl;rw[r];simp only[jv];rw[show lq (hW 1) je (jb f) m a [Y (d,C),y]=_ from j];simp only[jv];rw[show lq (hW 0) je (λa z=>(c z).bind λp=>lq (hW 1) je (jb f) p.1 a p.2) l (a++m.map (g d)) ([Y (d,C)]++[b])=_ from k];simp
def Wo{fi fi2:FIt}{f:F}{δ δ1:Dn}{l m:List D}(g:D->D->D)(h1:fi δ=Y (l,δ1))(a: ∀d y,fi2 [Y (d,C),y]=Y (m,[Y (d,C),y]))(h: ∀d∈l,∀e∈m,∃o,f [Y (d,C),Y (e,C)]=Y ((g d e,o),[Y (d,C),Y (e,C)]))(b:(Ix l)*(Ix m)<=10000):
  iT [] 2 fi (hW 0) je (Jl fi2 (hW 1) je<|jb f) δ=Y ((.lst<|l.flatMap λd=>m.map<|g d,U),δ1):=by
 obtain⟨c,i,e⟩:=ZT (f:=f) (g:=g) a l [] J J h (by rw[jI];simp;lia);unfold iT;rw[h1];simp only[jv,nj,vB,iR,lX,kr,pQ,cZ,cY];rw[e];simp[wb]
def qE{tg:Tg}{fb:FS}(T:List D->Dn->Prop)(step: ∀d ds δ,T (d::ds) δ-> ∃δ1 δ2,tg d δ=Y δ1/\fb δ1=Y (.nx δ2)/\T ds δ2): ∀(ds:List D) (δ:Dn),T ds δ-> ∃a,T [] a/\kZ tg fb ds δ=Y (.nx a):=by
 intro i
 induction i with
 |nil=>intro δ h;exact⟨δ,h,rfl⟩
 |cons d ds g=>intro δ h;obtain⟨δ1,δ2,h1,b,c⟩:=step d ds δ h;obtain⟨a,e,f⟩:=g δ2 c;refine⟨a,e,?_⟩;unfold kZ;rw[h1];simp only[jv];rw[b];exact f
def P7{caps:ky}{k:Nat}{d:FIt}{e:Tg}{ti:FT}{c:FB}{δ δ1 b:Dn}{l a:List D}{args:List (D×Bool)}(h1:d δ=Y (l,δ1))(f:kE δ1 (caps.map .slot)=Y args)(g:(iR (caps.map .slot) args).Nodup)(h:lq e ti c l [] (args.map Y++ah k J)=Y (a,b)):
  iT caps k d e ti c δ=Y ((.lst a,U),wb (caps.map .slot) args (iN args b) δ1):=by
 unfold iT;rw[h1];simp only[jv];rw[f];simp only[jv];rw[iF g,h];rfl
noncomputable def Ql:D->Bool
 | .int i=>decide (0<=i)&&decide (i<=1)
 |_=>C
def Wu(d:D):rW [(d,C)]=Y ((.bl<|Ql d,C),[Y (d,C)]):=by
 cases d<;>simp[rW,Dq,evF,iN,Dd,iR,wb,Ql]
def OQ(d:D)(lo a:Int):jT [(d,C),(.int lo,C),(.int a,C)]=Y ((.bl (match d with| .int i=>decide (lo<=i)&&decide (i<=a)|_=>C),C),[Y (d,C),Y (.int lo,C),Y (.int a,C)]):=by
 cases d with
 |int s=>by_cases h:lo<=s<;>simp[jT,nV,evF,iN,isT,mZ,kf,h]
 |_=>simp[jT,nV,evF,iN,isT]
noncomputable def isA(n:Nat):D->Bool
 | .tup l=>decide (Ix l=n)&&l.all Ql
 |_=>C
def zJ(h:f δ=Y ((.bl U,o),δ1)):vc f g δ=g δ1:=by rw[NF,h];rfl
def Fg(h:f δ=Y ((.bl C,o),δ1)):vc f g δ=Y ((.bl C,C),δ1):=by rw[NF,h];rfl
def L4(n:Nat)(d:D)(hd:OkD d):nZ [pI n,(d,C)]=Y ((.bl<|isA n d,C),[ii n,Y (d,C)]):=by
 cases d with
 |tup l=>
  have c:=yz (caps:=[]) (fi:=iJ<|iI 1) (f:=ik rW [gZ 0]) (δ:=[ii n,Y (.tup l,C)]) (l:=l) (args:=[]) Ql I I I (λd _=>⟨C,by simp[Wu,iR,wb]⟩) (by have:=hd l I;lia)
  have e:ie gEq (hG<|ir (g1 oz) [gZ 1]) (gZ 0) [ii n,Y (.tup l,C)]=Y ((.bl<|decide<|Ix l=n,C),[ii n,Y (.tup l,C)]):=by simp[vO,m4]
  refine jc (δ:=[ii n,Y (.tup l,C)]) ⟨rfl,by decide,rfl⟩<|iD<|jq<|(zJ I).trans ?_;rw[isA];by_cases h:(Ix l)=n
  .rw[oK h] at e ⊢;exact(zJ e).trans c
  .rw[mB h] at e ⊢;exact Fg e
 |_=>simp[nZ,yt,evF,iN,isT,isA]
noncomputable def rH:D->List D
 | .tup l=>l
 | .lst l=>l
 |_=>[]
noncomputable def soB(t:iu)(s:Int):Bool:=t.getD ((ab s).toNat-1) 0==(if s>0 then 1 else 0)
def XQ(t:iu)(s:Int)(h:1<=ab s/\ab s<=Ix t):gIx (.tup<|t.map .int) (.int<|ab s-1)=ii (t.getD ((ab s).toNat-1) 0):=by
 have h1:0<=ab s-1:=by lia
 have b:ab s-1<((t.map D.int).length:Int):=by simp;lia
 have c:(ab s-1).toNat=(ab s).toNat-1:=by lia
 have d:(ab s).toNat-1<(Ix t):=by lia
 have a:ixN (t.map D.int).length (ab s-1)=Y ((ab s).toNat-1):=by unfold ixN;rw[iF h1,iF b,c]
 rw[jz] at a;simp[gIx,atI,a,d]
def TZ(t:iu)(s:Int)(h:1<=ab s/\ab s<=Ix t):vd [enc t,pI s]=Y ((.bl<|soB t s,C),[eN t,ii s]):=by have:=XQ t s h;unfold ab at this;by_cases a:s>0<;>simp[vd,Gz,evF,iN,this,a,soB,ab]
def VU(t:iu)(s:Int)(h:1<=ab s/\ab s<=Ix t):vK [enc t,pI s]=Y ((.bl<|soB t s,C),[eN t,ii s]):=by have:=XQ t s h;unfold ab at this;by_cases a:s>0<;>simp[vK,Dp,evF,iN,this,a,soB,ab]
noncomputable def kC(t c:iu):Bool:=c.any<|soB t
def Tv(p:Int->Bool)(c:iu):(c.map D.int).any (λd=>p<|iOf d)=c.any p:=by simp[yU,rh,iOf]
def Uk(n:Nat)(i:n<=5)(t c:iu)(j:(Ix t)=n)(e:ClOk n c)(a:EvF)(g: ∀s,1<=ab s/\ab s<=Ix t->a [enc t,pI s]=Y ((.bl<|soB t s,C),[eN t,ii s])):
  evF 2 2 [] (ig (jK<|ir (g1 IL) [hG<|iT [0] 1 (iJ<|iI 1) (hW 1) je<|jb<|ik a [gZ 0,gZ 1]]) iB) [enc t,enc c]=Y ((.bl<|kC t c,C),[eN t,eN c]):=by
 have b:=Qf (caps:=[0]) (fi:=iJ<|iI 1) (f:=ik a [gZ 0,gZ 1]) (δ:=[eN t,eN c]) (l:=c.map .int) (args:=[cD t]) (λd=>soB t<|iOf d) I I I (λd hd=>⟨C,by obtain⟨s,h,rfl⟩:=mS.mp hd;have:=e.2.2 s h;simp[g s<|by lia,iR,wb,iOf]⟩) (by have:=ClOk.len e;simp;lia)
 rw[Tv] at b;exact jc ⟨rfl,by decide,rfl⟩<|iD<|jq b
def Pm{n:Nat}(b:n<=5){t c:iu}(d:(Ix t)=n)(a:ClOk n c):mh [enc t,enc c]=Y ((.bl<|kC t c,C),[eN t,eN c]):=Uk n b t c d a _ λs h=>TZ t s h
def J5{n:Nat}(b:n<=5){t c:iu}(d:(Ix t)=n)(a:ClOk n c):jH [enc t,enc c]=Y ((.bl<|kC t c,C),[eN t,eN c]):=Uk n b t c d a _ λs h=>VU t s h
noncomputable def kB(n:Nat)(a:jo)(d:D):Bool:=isA n d&&a.all (kC<|(rH d).map iOf)
def SU(h:isA n d=U): ∃t:List Int,d=cD t/\(Ix t)=n:=by
 cases d with
 |tup l=>
  rw[isA,kJ,ni,lG] at h;refine⟨l.map iOf,?_,by simp[h.1]⟩;rw[cD,jZ]
  congr 1
  rw[ph (g:=id),oJ];intro x a;have:=h.2 x a;cases x<;>simp[Ql,iOf] at this ⊢
 |_=>cases h
def Tw{n:Nat}(k:n<=5){a:jo}(hk: ∀c∈a,ClOk n c)(j:(Ix a)<=30){t:iu}(m:(Ix t)=n){b:EvF}(e: ∀c,ClOk n c->b [enc t,enc c]=Y ((.bl<|kC t c,C),[eN t,eN c])){fi:FIt}{δ:Dn}{i:Nat}(h:δ[i]?=Y (eN t))(h1:fi δ=Y (a.map cD,δ)):
  ir (g1 zI) [hG<|iT [i] 1 fi (hW 1) je<|jb<|ik b [gZ 0,gZ 1]] δ=Y ((.bl<|a.all<|kC t,C),δ):=by
 have:=yz (caps:=[i]) (fi:=fi) (f:=ik b [gZ 0,gZ 1]) (δ:=δ) (l:=a.map cD) (args:=[cD t]) (λd=>kC t<|(rH d).map iOf) h1 (by simp[h]) I (λd hd=>⟨C,by obtain⟨c,g,rfl⟩:=mS.mp hd;simp[e c<|hk c g,iR,wb,rH,rh,iOf]⟩) (by simp;lia)
 refine this.trans ?_;simp[dz,rh,rH,iOf]
def Pl{n:Nat}{a:jo}(h:xJ n a)(d:D)(hd:OkD d):yv [(rD' n a,C),(d,C)]=Y ((.bl<|kB n a d,C),[rS n a,Y (d,C)]):=by
 let δ:Dn:=[rS n a,Y (d,C),ii n,Y (.tup<|a.map cD,C)]
 have e:ik nZ [gZ 2,gZ 1] δ=Y ((.bl<|isA n d,C),δ):=jn (os:=[.slot 2,.slot 1]) (args:=[pI n,(d,C)]) I I lX<|L4 n d hd;refine jc (δ:=δ) ⟨rfl,by decide,rfl⟩<|(hX (δ1:=δ) I).trans<|iD<|jq ?_;rw[kB]
 cases b:isA n d with
 |false=>rw[b] at e;exact Fg e
 |true=>rw[b] at e;refine(zJ e).trans ?_;obtain⟨t,rfl,f⟩:=SU b;refine(Tw h.1 h.2.1.2 h.2.2.2 f (λc g=>Pm h.1 f g) (i:=1) I I).trans ?_;simp[rH,rh,iOf]
noncomputable def lQ:Nat->List (List Int)
 |0=>[[]]
 |n+1=>(lQ n).flatMap λt=>[t++[0],t++[1]]
theorem DK: ∀n:Nat,(lQ n).length=2^n
 |0=>rfl
 |n+1=>by
  rw[lQ,List.length_flatMap,qJ,<-DK n];generalize lQ n=L
  induction L with
  |nil=>rfl
  |cons t L a=>simp at a ⊢;lia
def rX: ∀{n:Nat} {t:iu},t∈lQ n->Ix t=n/\ ∀x∈t,x=0\/x=1:=by
  intro e
  induction e with
  |zero=>intro t h;simp[lQ] at h;simp[h]
  |succ n d=>
    intro t h;rw[lQ,wB] at h;obtain⟨u,c,h⟩:=h;obtain⟨h1,b⟩:=d c;simp only[ku,ll,lY] at h
    rcases h with rfl|rfl<;>
      (refine⟨by simp[h1],λx a=>?_⟩
       rcases rY.mp a with a|a
       · exact b x a
       · simp at a;simp[a])
def Cf{n:Nat}(a:n<=5):(lQ n).length<=32:=by rw[DK];exact yM (n:=2) (by decide) a
noncomputable abbrev Md:List D:=[.int 0,.int 1]
noncomputable def Jp(d e:D):D:= .tup (rH d++[e])
def Qw(L:jo):(L.map cD).flatMap (λd=>Md.map<|Jp d)=(L.flatMap λt=>[t++[0],t++[1]]).map cD:=by simp[List.flatMap_map,List.map_flatMap,Jp,rH,cD]
def Kx(t:iu)(a:(Ix t)<=100)(e:D):ie jY (gZ 0) (hG<|jD [iI 1]) [Y (cD t,C),Y (e,C)]=Y ((Jp (cD t) e,C),[Y (cD t,C),Y (e,C)]):=by
 have:=jI;have h:(Ix t)<=16777215:=by lia
 simp[iI,this,jY,Jp,rH,h]
def Dv(δ:Dn):iJ (jD [fC<|.int 0,fC<|.int 1]) δ=Y (Md,δ):=by simp[jI]
abbrev fbA:FS:=ig (iY 1<|iT [] 2 (iJ<|iI 1) (hW 0) je<|Jl (iJ<|jD [fC<|.int 0,fC<|.int 1]) (hW 1) je<|jb<|ie jY (gZ 0)<|hG<|jD [iI 1]) iB
def Cb{n:Nat}(k:n<=5):mK [pI n]=Y ((.lst<|(lQ n).map cD,U),[ii n]):=by
 let z:Sl:=ii n
 obtain⟨i,⟨j,x,a,rfl⟩,e⟩:=qE (tg:=hW 2) (fb:=fbA) (λb δ=> ∃j x,j+Ix b=n/\δ=[z,Y (.lst<|(lQ j).map cD,U),x]) (λd b δ g=>by
  obtain⟨j,x,a,e⟩:=g;subst e
  have c:=Wo (fi:=iJ<|iI 1) (fi2:=iJ<|jD [fC<|.int 0,fC<|.int 1]) (f:=ie jY (gZ 0)<|hG<|jD [iI 1]) (δ:=[z,Y (.lst<|(lQ j).map cD,U),Y (d,C)]) (δ1:=[z,Y (.lst<|(lQ j).map cD,C),Y (d,C)]) (l:=(lQ j).map cD) (m:=Md) Jp I (λd y=>Dv _) (λd hd e _=>by obtain⟨t,h,rfl⟩:=mS.mp hd;exact⟨C,Kx t (by have:=(rX h).1;simp at a;lia) e⟩) (by have:=Cf (n:=j) (by lia);simp;lia)
  rw[Qw] at c;exact⟨_,_,rfl,(hX<|jj c (show 1<3 by decide)).trans I,j+1,_,by simp at a;lia,rfl⟩) (iX 0 n) [z,Y (.lst<|(lQ 0).map cD,U),J] ⟨0,J,by simp[iX],rfl⟩
 have:j=n:=by simpa using a
 subst this;exact jc (δ:=[z,J,x]) ⟨rfl,by decide,rfl⟩<|(hX (δ1:=[z,Y (.lst<|(lQ 0).map cD,U),J]) I).trans<|(hX<|(ki<|pE (o:= .slot 0) I I<|by lia).trans e).trans<|iD I
abbrev Wg:FS:=ig (nS<|vJ 3<|iT [4] 1 (iJ<|jD [fC<|.int 0,fC<|.int 1]) (hW 1) je<|jb<|ie jY (gZ 0)<|hG<|jD [iI 1]) iB
abbrev Ye:FS:=ig (iY 3<|lj [])<|ig (mX (iJ<|iI 1) (hW 4) Wg)<|ig (iY 1<|iI 3) iB
def Te(z x1 x2:Sl)(L:jo)(d:(Ix L)<=100)(t:iu)(b:(Ix t)<=100):Wg [z,x1,x2,lv<|L.map cD,Y (cD t,C)]=Y (.nx [z,x1,x2,lv<|(L++[t++[0],t++[1]]).map cD,Y (cD t,C)]):=by
 have c:=xE (caps:=[4]) (fi:=iJ<|jD [fC<|.int 0,fC<|.int 1]) (f:=ie jY (gZ 0)<|hG<|jD [iI 1]) (δ:=[z,x1,x2,lv<|L.map cD,Y (cD t,C)]) (l:=Md) (args:=[cD t]) (Jp<|cD t) (Dv _) I I (λe _=>⟨C,Kx t b e⟩) (by simp);have h1:=jI;have a:(Ix L)+2<=16777216:=by lia
 refine(hX ?_).trans rfl;rw[Rj];unfold vJ;simp only[rZ,ux];rw[show iT [4] 1 (iJ<|jD [fC<|.int 0,fC<|.int 1]) (hW 1) je (jb<|ie jY (gZ 0)<|hG<|jD [iI 1]) [z,x1,x2,lv<|L.map cD,Y (cD t,C)]=_ from c];simp[h1,a,Jp,rH,cD]
noncomputable abbrev ext(t:iu):List (List Int):=[t++[0],t++[1]]
def Am{n:Nat}(v:n<=5): ∃o,lW [pI n]=Y ((.lst<|(lQ n).map cD,o),[ii n]):=by
 let z:Sl:=ii n
 obtain⟨l,⟨j,o,x2,x3,x4,f,rfl⟩,e⟩:=qE (tg:=hW 2) (fb:=Ye) (λb δ=> ∃j o x2 x3 x4,j+Ix b=n/\δ=[z,Y (.lst<|(lQ j).map cD,o),x2,x3,x4]) (λd b δ h=>by
  obtain⟨j,o,x2,x3,x4,f,e⟩:=h;subst e;have i:j<=5:=by simp at f;lia
  have p:=Cf i
  obtain⟨l,⟨a,iW,k,h1,c,rfl⟩,e⟩:=qE (tg:=hW 4) (fb:=Wg) (λb δ=> ∃a iW k,a++iW=lQ j/\b=iW.map cD/\δ=[z,Y (.lst<|(lQ j).map cD,C),Y (d,C),lv<|(a.flatMap ext).map cD,k]) (λt b δ h=>by
   obtain⟨a,iW,k,h1,c,m⟩:=h;subst m
   cases iW with
   |nil=>cases c
   |cons u iW=>
    obtain⟨rfl,rfl⟩:=sh c;have r:u∈lQ j:=by rw[<-h1];simp
    have hd:(Ix a)<=32:=by have:=nM c9 h1;simp at this;lia
    refine⟨_,_,rfl,Te z _ _ (a.flatMap ext) ?_ u (by have:=(rX r).1;lia),a++[u],iW,Y (cD u,C),by simp[<-h1],rfl,?_⟩
    .have: ∀L:List (List Int),(L.flatMap ext).length=2*(Ix L):=λL=>by
      induction L with
      |nil=>rfl
      |cons t L s=>simp at s ⊢;lia
     rw[this];lia
    .simp[List.flatMap_append]) ((lQ j).map cD) [z,Y (.lst<|(lQ j).map cD,C),Y (d,C),lv [],x4] ⟨[],lQ j,x4,rfl,rfl,rfl⟩
  have q:iW=[]:=by simpa using c.symm
  subst q;rw[wO] at h1;subst h1;exact⟨_,_,rfl,(hX (δ1:=[z,Y (.lst<|(lQ j).map cD,o),Y (d,C),lv [],x4]) I).trans<|(hX<|(ki<|lL (o:=C) I).trans e).trans I,j+1,C,_,_,_,by simp at f;lia,rfl⟩) (iX 0 n) [z,Y (.lst<|(lQ 0).map cD,U),J,J,J] ⟨0,U,J,J,J,by simp[iX],rfl⟩
 have:j=n:=by simpa using f
 subst this
 have pre: ∀g,ig (iY 1<|lj [jD []]) (ig (mX (uf<|gZ 0) (hW 2) Ye) g) [z,J,J,J,J]=g [z,Y (.lst<|(lQ j).map cD,o),x2,x3,x4]:=λg=>(hX (δ1:=[z,Y (.lst<|(lQ 0).map cD,U),J,J,J]) I).trans<|hX<|(ki<|pE (o:= .slot 0) I I<|by lia).trans e
 refine⟨o,?_⟩
 cases o with
 |true=>exact jc (δ:=[z,J,x2,x3,x4]) ⟨rfl,by decide,rfl⟩<|(pre _).trans<|iD I
 |false=>exact jc (δ:=[z,Y (.lst<|(lQ j).map cD,C),x2,x3,x4]) ⟨rfl,by decide,rfl⟩<|(pre _).trans<|iD I
noncomputable def lF(n:Nat)(a:jo):List (List Int):=(lQ n).filter λt=>a.all<|kC t
def SV{n:Nat}{t:iu}(h:t∈lQ n):isA n (cD t)=U:=by obtain⟨h1,a⟩:=rX h;simp only[isA,jz,h1,yL,uk,dz,lG,bc];intro x b;rcases a x b with rfl|rfl<;>rfl
def V2{n:Nat}{a:jo}{t:iu}(h:t∈lQ n):kB n a (cD t)=a.all (kC t):=by rw[kB,SV h];simp[rH,rh,iOf]
def JQ{t:iu}(h:(Ix t)<=60):OkD (cD t):=λl e=>by cases e;simpa using h
def rV(p:D->Bool)(L:jo):((L.map cD).filter p).map (λd=>d)=(L.filter λt=>p<|cD t).map cD:=by rw[List.map_id',List.filter_map];rfl
def Jm{n:Nat}{a:jo}(h:xJ n a):tJ [(rD' n a,C)]=Y ((.lst<|(lF n a).map cD,U),[rS n a]):=by
 have h1:iJ (ik mK [hG<|ie gIx (gZ 0)<|hG<|fC<|.int 0]) [rS n a]=Y ((lQ n).map cD,[rS n a]):=
  lL (jn (os:=[.val (.int n,C)]) (args:=[pI n]) I I lX<|Cb h.1)
 have c:=BV (caps:=[0]) (fi:=iJ<|ik mK [hG<|ie gIx (gZ 0)<|hG<|fC<|.int 0]) (f:=iI 1) (ti:=fT<|ik yv [gZ 0,gZ 1]) (δ:=[rS n a]) (l:=(lQ n).map cD) (args:=[rD' n a]) (λd=>d) (kB n a) h1 I I (λd hd=>by obtain⟨t,b,rfl⟩:=mS.mp hd;have:=(rX b).1;have e:=h.1;exact⟨jW<|jn (os:=[.slot 0,.slot 1]) (args:=[(rD' n a,C),(cD t,C)]) I I lX<|Pl h _ (JQ<|by lia),λ_=>⟨C,rfl⟩⟩) (by have:=Cf h.1;simp;lia)
 rw[rV,List.filter_congr λt b=>V2 b] at c;exact jc ⟨rfl,by decide,rfl⟩<|iD<|jq c
def Gq{n:Nat}{b:jo}(h:xJ n b): ∃o,nX [(rD' n b,C)]=Y ((.lst<|(lF n b).map cD,o),[rS n b]):=by
 obtain⟨o0,m⟩:=Am h.1
 let z:Sl:=rS n b
 let cond (a:jo):List (List Int):=(lQ n).filter λt=>a.all<|kC t
 obtain⟨w,⟨a,iW,o,x2,h1,j,rfl⟩,e⟩:=qE (tg:=hW 2) (fb:=ig (iY 1<|iT [2] 1 (iJ<|iI 1) (hW 1) (fT<|ik jH [gZ 1,gZ 0])<|jb<|iI 1) iB) (λk δ=> ∃a iW o x2,a++iW=b/\k=iW.map cD/\δ=[z,Y (.lst<|(cond a).map cD,o),x2]) (λd k δ q=>by
  obtain⟨a,iW,o,x2,h1,j,p⟩:=q;subst p
  cases iW with
  |nil=>cases j
  |cons u iW=>
   obtain⟨rfl,rfl⟩:=sh j;have v:ClOk n u:=h.2.1.2 u (by rw[<-h1];simp)
   have c:=BV (caps:=[2]) (fi:=iJ<|iI 1) (f:=iI 1) (ti:=fT<|ik jH [gZ 1,gZ 0]) (δ:=[z,Y (.lst<|(cond a).map cD,o),Y (cD u,C)]) (δ1:=[z,Y (.lst<|(cond a).map cD,C),Y (cD u,C)]) (l:=(cond a).map cD) (args:=[cD u]) (λd=>d) (λd=>kC ((rH d).map iOf) u) (lL (o:=C) I) I I (λd hd=>by obtain⟨t,s,rfl⟩:=mS.mp hd;have:=(rX (Fu.mp s).1).1;refine⟨jW (o:=C) ?_,λ_=>⟨C,rfl⟩⟩;rw[show((rH<|cD t).map iOf)=t by simp[rH,rh,iOf]];exact jn (os:=[.slot 1,.slot 0]) (args:=[enc t,enc u]) I I lX<|J5 h.1 this v) (by rw[jz];exact ly (ly (AB _ _)<|Cf h.1)<|by decide)
   rw[rV] at c;refine⟨_,_,rfl,(hX<|jj c (show 1<3 by decide)).trans I,a++[u],iW,U,Y (cD u,C),by simp[<-h1],rfl,?_⟩
   simp[cond,List.filter_filter,rH,rh,iOf,Bool.and_comm]) (b.map cD) [z,Y (.lst<|(lQ n).map cD,o0),J] ⟨[],b,o0,J,rfl,rfl,by rw[show cond []=lQ n from WJ.mpr λ_ _=>rfl]⟩
 have r:iW=[]:=by simpa using j.symm
 subst r;rw[wO] at h1;subst h1
 have pre: ∀g,ig (iY 1<|ik lW [hG<|ie gIx (gZ 0)<|hG<|fC<|.int 0]) (ig (mX (iJ<|ie gIx (gZ 0)<|hG<|fC<|.int 1) (hW 2)<|ig (iY 1<|iT [2] 1 (iJ<|iI 1) (hW 1) (fT<|ik jH [gZ 1,gZ 0])<|jb<|iI 1) iB) g) [z,J,J]=g [z,Y (.lst<|(lF n a).map cD,o),x2]:=λg=>(hX (δ1:=[z,Y (.lst<|(lQ n).map cD,o0),J])<|jj (i:=1) (δ1:=[z,J,J]) (jn (os:=[.val (.int n,C)]) (args:=[pI n]) I I lX m) (show 1<3 by decide)).trans<|hX<|(ki I).trans e
 refine⟨o,?_⟩
 cases o with
 |true=>exact jc (δ:=[z,J,x2]) ⟨rfl,by decide,rfl⟩<|(pre _).trans<|iD I
 |false=>exact jc (δ:=[z,Y (.lst<|(lF n a).map cD,C),x2]) ⟨rfl,by decide,rfl⟩<|(pre _).trans<|iD I
def Yr(x:Int)(c:iu):(c.map D.int).any (λd=>D.eqb d<|.int x)=c.contains x:=by
 induction c with
 |nil=>rfl
 |cons y c a=>rw[jx,yW,a,List.contains_cons];simp[D.eqb,vO,eq_comm]
def JT(x:Int)(c:iu):mY (.int x) (cD c)=Y (.bl (!c.contains x),C):=by
 have:inD (.int x) (cD c)=Y (c.contains x):=by show(if D.depL (c.map .int)<=50/\(D.int x).dep<=50 then Y ((c.map D.int).any λd=>D.eqb d<|.int x) else J)=_;rw[iF ⟨by rw[yy];lia,by simp[D.dep]⟩,Yr]
 unfold mY;rw[this];rfl
def Gw{d:D}(h:d.dep<=50):gNe d d=Y (.bl C,C):=by unfold gNe;rw[iF ⟨h,h⟩,D.eqb_refl];rfl
def P9(n:Nat)(a:jo):(rD' n a).dep<=50:=by have:=Kl a;simp only[D.dep,D.depL];lia
def TT(n:Nat)(t:iu):Prop:=(t.map ab).Perm<|st n
def SG(n:Nat)(s:Int):Prop:=1<=ab s/\ab s<=n
def TT.len{n:Nat}{t:iu}(h:TT n t):(Ix t)=n:=by simpa using(JM.mp h).1
def TT.sg{n:Nat}{t:iu}(h:TT n t){x:Int}(a:x∈t):SG n x:=(JM.mp h).2.1 _ (qI a)
def TT.tok{n:Nat}{t:iu}(h:TT n t):TOk n t:=⟨h.len,λx a=>h.sg a⟩
def Xc{n:Nat}{s:Int}(h:SG n s):s≠0:=by rintro rfl;have:=h.1;simp[ab] at this
def UN{n:Nat}{s:Int}(h:SG n s):SG n (-s):=by unfold SG;rw[pN];exact h
def pZ{n:Nat}{s:Int}(h:SG n s): ∃k:Nat,k<n/\(s=(k:Int)+1\/s= -((k:Int)+1)):=by
 have:=h;unfold SG ab at this;split at this
 .exact⟨(-s-1).toNat,by omega,.inr<|by omega⟩
 .exact⟨(s-1).toNat,by omega,.inl<|by omega⟩
def Nq{n k:Nat}(h:k<n):SG n ((k:Int)+1):=by unfold SG;rw[qm<|by lia];lia
def ny(t:iu)(k:Nat):led t ((k:Int)+1)=t.getD k 0:=by unfold led;rw[iF<|by lia,show((k:Int)+1-1).toNat=k by lia]
def oO(t:iu)(k:Nat):led t (-((k:Int)+1))= -t.getD k 0:=by unfold led;rw[iL<|by lia,show(- -((k:Int)+1)-1).toNat=k by lia]
def EY{n:Nat}(t:iu){s:Int}(h:SG n s):led t (-s)= -led t s:=by
 obtain⟨k,_,rfl|rfl⟩:=pZ h
 .rw[ny,oO]
 .rw[gi,ny,oO,gi]
def Wz{n:Nat}{t:iu}(a:(Ix t)=n){s:Int}(h:SG n s):ab (led t s)=(t.map ab).getD ((ab s).toNat-1) 0:=by
 obtain⟨k,hk,rfl|rfl⟩:=pZ h
 .rw[ny,qm (i:=(k:Int)+1)<|by lia,show(((k:Int)+1).toNat-1)=k by lia];simp[lR,a,hk]
 .rw[oO,pN,Ci<|by lia,show(((k:Int)+1).toNat-1)=k by lia];simp[lR,a,hk]
def TT.led{n:Nat}{t:iu}(h:TT n t){s:Int}(a:SG n s):SG n (led t s):=IB h.tok a.1 a.2
def Ax{n:Nat}{t:iu}(h:TT n t){s r:Int}(g:SG n s)(f:SG n r)(e:PV.led t s=PV.led t r):s=r:=by
 have k:=(JM.mp h).2.2
 have c: ∀{i j:Nat},i<n->j<n->ab (t.getD i 0)=ab (t.getD j 0)->i=j:=λ{i j} a b e=>by
  have l:=h.len
  have:=(HB (xs:=t.map ab) (i:=i) (j:=j) (h₀:=by simpa[l] using a) (h₁:=by simpa[l] using b) k).mp (by simp only[AN];simpa[lR,l,a,b] using e)
  exact this
 have d: ∀{i:Nat},i<n->t.getD i 0≠0:=λ{i} a=>Xc<|h.sg<|kY (by rw[h.len];exact a);obtain⟨i,a,rfl|rfl⟩:=pZ g<;>obtain⟨j,b,rfl|rfl⟩:=pZ f
 .rw[ny,ny] at e;rw[c a b<|by rw[e]]
 .rw[ny,oO] at e;have:=c a b (by rw[e,pN]);subst this;exact absurd (show t.getD i 0=0 by lia)<|d a
 .rw[ny,oO] at e;have:=c a b (by rw[<-e,pN]);subst this;exact absurd (show t.getD i 0=0 by lia)<|d a
 .rw[oO,oO] at e;rw[c a b<|by rw[show t.getD i 0=t.getD j 0 by lia]]
def SF{n:Nat}{t u:iu}(h1:(Ix t)=n)(a:(Ix u)=n)(h: ∀s,SG n s->PV.led t s=PV.led u s):t=u:=by apply wM (by rw[h1,a]);intro i b c;have:=h _ (Nq (n:=n) (k:=i)<|by lia);rw[ny,ny] at this;simpa[lR,b,c] using this
def HJ(n:Nat):(st n).length=n:=by simp[st]
def W8(n:Nat):TT n (st n):=by
 have:(st n).map ab=st n:=by
  conv=>rhs;rw[<-oJ (st n)]
  refine ph λx a=>?_;have:=KJ.mp a;exact qm (by lia)
 unfold TT;rw[this]
def VV{n:Nat}{s:Int}(h:SG n s):PV.led (st n) s=s:=by
 obtain⟨k,hk,rfl|rfl⟩:=pZ h
 .rw[ny];simp[st,lR,hk];lia
 .rw[oO];simp[st,lR,hk];lia
def BK(n:Nat)(t w:iu):Prop:=Ix w=n/\ ∀s,SG n s->PV.led w (PV.led t s)=s
def BK.tt{n:Nat}{t w:iu}(h:BK n t w)(f:TT n t):TT n w:=by
 refine(EW (st n) (w.map ab) (TY n) (λx g=>?_)<|by simp[HJ,h.1]).symm;have i:=KJ.mp g;have c:SG n x:=by unfold SG;rw[qm<|by lia];lia
 have e:=h.2 x c;have a:=f.led c;have b:ab (PV.led w<|PV.led t x)=x:=by rw[e,qm<|by lia]
 rw[Wz h.1 a] at b;rw[<-b];have d:(ab<|PV.led t x).toNat-1<(w.map ab).length:=by have:=a.2;have:=a.1;rw[jz,h.1];lia
 exact kY d
def BK.sym{n:Nat}{t w:iu}(h:BK n t w)(b:TT n t):BK n w t:=by refine⟨b.len,λs a=>?_⟩;have c:=h.tt b;exact Ax c (b.led<|c.led a) a<|h.2 _ (c.led a)
def Ii: ∀(k:Nat) (r f t:iu),Ix r=k->(∀x∈r,0<=x)->t∈nU k r f->(t.map ab).Perm (f.map ab++r):=by
 intro m
 induction m with
 |zero=>intro r f t d _ h;simp[nU] at h;subst h;rw[MU.mp d];simp
 |succ k i=>
  intro r f t d b h;simp only[nU,wB,rY,vm] at h;obtain⟨v,hv,h⟩:=h;have c:(r.eraseIdx v).length=k:=by rw[AF,iF hv];lia
  have g: ∀x∈r.eraseIdx v,0<=x:=λx a=>b x<|Me a;have a:=b _ (kY hv)
  have fin: ∀y:Int,ab y=r.getD v 0->(cn ab (f++[y])++r.eraseIdx v).Perm (f.map ab++r):=λy l=>by
   rw[pR,rm];refine Mw _ ?_;simp only[jx,nj,qH,pQ,l];have e:r.getD v 0=r[v]:=by simp[lR,hv]
   rw[e];rw[List.eraseIdx_eq_take_drop_succ];have j:r=r.take v++r[v]::r.drop (v+1):=by rw[<-yT hv,wI]
   conv=>rhs;rw[j]
   exact QE.symm
  rcases h with h|h
  .exact(i _ _ t c g h).trans (fin _ (by rw[AV];exact qm a))
  .exact(i _ _ t c g h).trans (fin _ (by rw[t5,AV];exact Ci a))
def Jy{n:Nat}{t:iu}(h:t∈nU n (st n) []):TT n t:=by have:=Ii n (st n) [] t (HJ n) (λx a=>by have:=KJ.mp a;lia) h;unfold TT;simpa using this
noncomputable def lc(t c:iu):List Int:=(nq ltA<|(c.map<|led t).map D.int).map iOf
def LCs(t c d:iu):Prop:=d.Perm (c.map<|led t)/\(d.map ab).Pairwise (· < ·)
def Px{m:List D}{l:iu}(h:m.Perm (l.map D.int)):m=(m.map iOf).map D.int/\(m.map iOf).Perm l:=by
 obtain⟨k,rfl⟩:=tf h;have e:(k.map D.int).map iOf=k:=by rw[jZ];exact oJ k
 rw[e];refine⟨rfl,?_⟩;have:=h.map iOf
 rwa [e,jZ,show cn (iOf∘D.int) l=l from oJ l] at this
def zQ{n:Nat}{t c:iu}(g:TT n t)(h1:(c.map ab).Nodup)(f: ∀s∈c,SG n s):((c.map<|led t).map ab).Nodup:=by
 rw[jZ,gG,qt];rw[gG,qt] at h1;refine h1.imp_of_mem λ{a b} j k i e=>i ?_;have e:ab (led t a)=ab (led t b):=e;have h:=f a j;have d:=f b k;by_cases q:led t a=led t b
 .rw[Ax g h d q]
 .have:led t a=led t (-b):=by rw[EY t d];unfold ab at e;split at e<;>split at e<;>lia
  rw[Ax g h (UN d) this,pN]
def vE{n:Nat}{t c:iu}(j:TT n t)(g:ClOk n c):LCs t c (lc t c)/\(nq ltA<|(c.map<|led t).map D.int)=(lc t c).map D.int:=by
 obtain⟨e,i⟩:=Px<|jX ltA<|(c.map<|led t).map D.int;refine⟨⟨i,?_⟩,e⟩;have k:=zQ j (C4 g.2.1) λs d=>g.2.2 s d;have f:((lc t c).map ab).Nodup:=(i.map ab).symm.nodup k;have d:=C0<|(c.map<|led t).map D.int;rw[e,qt] at d;rw[qt];rw[gG,qt] at f;refine(d.and f).imp λ{a b} h=>?_;have h1:ab a<=ab b:=h.1;have l:ab a≠ab b:=h.2
 lia
def LCs.uniq{n:Nat}{t c d e:iu}(h1:LCs t c d)(f:LCs t c e):d=e:=by have g:=h1.2;have h:=f.2;rw[qt] at g h;refine(h1.1.trans f.1.symm).eq_of_pairwise (le:=λa b=>ab a<ab b) (λa b _ _ x y=>absurd x<|by lia) g h
def LCs.cl{n:Nat}{t c d:iu}(h:LCs t c d)(f:TT n t)(a:ClOk n c):ClOk n d:=by
 refine⟨λe=>a.1 ?_,h.2,λs b=>?_⟩
 .have:=h.1.length_eq;rw[e] at this;simp at this;exact MU.mp this.symm
 .obtain⟨x,g,rfl⟩:=mS.mp<|h.1.mem_iff.mp b;exact f.led<|a.2.2 x g
def XI{n:Nat}{t c:iu}(b:TT n t)(a:ClOk n c):ClOk n (lc t c):=(vE b a).1.cl b a
def XH{n:Nat}{c:iu}(a:ClOk n c):lc (st n) c=c:=by
 refine LCs.uniq (n:=n) (t:=st n) (c:=c) (vE (W8 n) a).1 ⟨B1 ?_,a.2.1⟩
 conv=>lhs;rw[<-oJ c]
 exact ph λs b=>(VV<|a.2.2 s b).symm
def LR(t:iu)(cs a:jo):Prop:=a.Perm (cs.map<|lc t)/\SrtC a
def Cm(n:Nat)(a:iu):Prop:=Ix a=n/\ ∀x∈a,x=0\/x=1
def WI: ∀{n:Nat} {a:iu},a∈lQ n↔Cm n a:=λ{n a}=>by
 constructor
 .exact λh=>rX h
 .intro h
  induction n generalizing a with
  |zero=>rw[MU.mp h.1];simp[lQ]
  |succ n f=>
   have b:a≠[]:=λe=>by have:=h.1;rw[e] at this;simp at this
   have e:=Mf b;have c:=h.2 _ (List.getLast_mem b);have:=f (a:=a.dropLast) ⟨by rw[List.length_dropLast,h.1];rfl,λx d=>h.2 x<|List.dropLast_subset _ d⟩;simp only[lQ,wB];refine⟨a.dropLast,this,?_⟩;rcases c with z|z
   .rw[z] at e;rw[e];simp
   .rw[z] at e;rw[e];simp
noncomputable def laF(w a:iu):List Int:=w.map λs=>if soB a s=U then 1 else 0
def RJ(b:FO)(a:Dn)(d:D):Prop:= ∃o,b a=Y (o,a)/\res a o=Y d
def FJ(b:FO)(a:Dn)(d:D):Prop:= ∃o,b a=Y (o,a)/\res a o=Y d/\B9 a o=Y (d,C)
def FJ.r{c:FO}{δ:Dn}{d:D}(h:FJ c δ d):RJ c δ d:=let⟨o,a,b,_⟩:=h;⟨o,a,b⟩
def jV{i:Nat}{δ:Dn}{d:D}(h:δ[i]?=Y (Y (d,C))):FJ (gZ i) δ d:=⟨.slot i,by unfold gZ;rw[h],by unfold res;simp[h],by simp[h]⟩
def jR{i:Nat}{δ:Dn}{d:D}{b:Bool}(h:δ[i]?=Y (Y (d,b))):RJ (gZ i) δ d:=⟨.slot i,by unfold gZ;rw[h],by unfold res;simp[h]⟩
def jE{f:F}{δ:Dn}{d:D}{b:Bool}(h:f δ=Y ((d,b),δ)):FJ (hG f) δ d:=⟨.val (d,b),iz h,rfl,rfl⟩
def jU1{c:EvF}{e:FO}{δ:Dn}{a:D}{r:D×Bool}{b:Dn}(h:c [(a,C)]=Y (r,b))(g:FJ e δ a):ik c [e] δ=Y (r,δ):=by obtain⟨o,h1,_,f⟩:=g;refine(jn (oZ h1) (args:=[a].map λd=>(d,C)) (by simp[f]) (by rw[uV];exact lX) h).trans ?_;rw[Fy]
def jU2{e:EvF}{f g:FO}{δ:Dn}{a b:D}{r:D×Bool}{c:Dn}(h:e [(a,C),(b,C)]=Y (r,c))(j:FJ f δ a)(k:FJ g δ b):ik e [f,g] δ=Y (r,δ):=by obtain⟨o,h1,_,i⟩:=j;obtain⟨n,l,_,m⟩:=k;refine(jn (lu h1 l) (args:=[a,b].map λd=>(d,C)) (by simp[i,m]) (by rw[uV];exact lX) h).trans ?_;rw[Fy]
def jO{g:D->D->Option (D×Bool)}{c fb:FO}{δ:Dn}{a b:D}{r:D×Bool}(h:g a b=Y r)(e:RJ c δ a)(f:RJ fb δ b):ie g c fb δ=Y (r,δ):=by obtain⟨o,h1,d⟩:=e;obtain⟨k,i,j⟩:=f;exact ju h1 i d j h
def jC{g:D->Option (D×Bool)}{b:FO}{δ:Dn}{a:D}{r:D×Bool}(h:g a=Y r)(d:RJ b δ a):ir (g1 g) [b] δ=Y (r,δ):=by obtain⟨o,h1,c⟩:=d;exact jM (ds:=[a]) (oZ h1) (by simp[c]) h
def UW{f:F}{np:Nat}{args:List (D×Bool)}{r:D×Bool}{δ:Dn}(h1:(Ix args)=np/\np<=np/\(args.zipIdx.all λp=>!(p.1.2&&([]:List Nat).contains p.2))=U)(a:f (args.map Y++ah (np-np) J)=Y (r,δ)):evF np np [] (ig (jK f) iB) args=Y (r,iN args δ):=
 jc h1 (iD<|jq a)
def T3{n:Nat}{s:Int}(h:SG n s):s≠0/\ -(n:Int)<=s/\s<=n:=by obtain⟨k,hk,rfl|rfl⟩:=pZ h<;>lia
def ZG{n:Nat}{u:iu}(d:(Ix u)=n){s:Int}(h:SG n s):oQ [enc u,pI s]=Y ((.int<|led u s,C),[eN u,ii s]):=by obtain⟨a,b,c⟩:=T3 h;exact VW u s a (by rw[d];exact b) (by rw[d];exact c)
def OP(f:Int->Int)(l:iu):(l.map D.int).map (λd=>D.int<|f<|iOf d)=(l.map f).map D.int:=by rw[jZ,jZ];rfl
def Dw{a:ky}{fi:FIt}{f:F}{δ b:Dn}{l:iu}{args:List D}(g:Int->Int)(h1:fi δ=Y (l.map D.int,b))(c:kE b (a.map .slot)=Y (args.map λd=>(d,C)))(e:(Ix args)=Ix a)
  (h: ∀x∈l,∃o,f (frz args++[ii x])=Y ((.int<|g x,o),frz args++[ii x]))(i:(Ix l)<=10000):
  iT a 1 fi (hW<|Ix a) je (jb f) δ=Y ((.lst<|(l.map g).map D.int,U),b):=by
 rw[xE (λd=> .int (g<|iOf d)) h1 c e (λd hd=>by obtain⟨x,j,rfl⟩:=mS.mp hd;exact h x j)<|by simpa using i,OP]
def FF{n:Nat}(b:n<=5){t:iu}(a:TT n t):kd [pI n,enc t]=Y ((.bl U,C),[ii n,eN t]):=by
 have h:tB n (cD t)=U:=by rw[FG];simp only[lB,kJ,lG,ni,jZ];refine⟨λd hd=>?_,a⟩;obtain⟨x,_,rfl⟩:=mS.mp hd;rfl
 rw[uE n (cD t) (λl e=>by cases e;rw[jz,a.len];lia),h]
def GL{n:Nat}(a:n<=5){t:iu}(b:TT n t):lP [pI n,enc t]=Y ((.non,C),[ii n,eN t]):=by
 have:sIf (kW<|fT<|ik kd [gZ 0,gZ 1]) (ig EF iB) iB [ii n,eN t]=Y (.nx [ii n,eN t]):=
  (md<|jL<|jW<|jU2 (FF a b) (jV I)<|jV I).trans rfl
 have e:oB [ii n,eN t]=Y (.nx [ii n,eN t]):=(hX this).trans I;simp only[lP,evF];rw[iF ⟨rfl,by decide,rfl⟩];show(match oB [ii n,Y<|enc t] with|some (.rt r δ)=>Y (r,iN _ δ)|some (.nx δ)=>Y ((D.non,C),iN _ δ)|_=>J)=_;rw[e];rfl
noncomputable def sgJ(t:iu)(j:Nat):Int:=if t.getD j 0>0 then(j:Int)+1 else -((j:Int)+1)
def IvB(n:Nat)(t:iu)(k:Nat)(w:iu):Prop:=Ix w=n/\ ∀j,j<k->w.getD ((ab<|t.getD j 0).toNat-1) 0=sgJ t j
def Pp{n:Nat}{t w:iu}(a:TT n t)(h:IvB n t n w):BK n t w:=by
 refine⟨h.1,λs g=>?_⟩
 have one: ∀j,j<n->led w (t.getD j 0)=(j:Int)+1:=λj b=>by
  have c:=a.sg<|kY (l:=t) (k:=j) (by rw[a.len];exact b);have e:=h.2 j b;unfold sgJ at e;unfold led;unfold SG at c;by_cases d:t.getD j 0>0
  .rw[iF d] at e ⊢;rw[qm<|by lia] at e;rw[show(t.getD j 0-1).toNat=(t.getD j 0).toNat-1 by lia,e]
  .have f:ab (t.getD j 0)= -t.getD j 0:=by unfold ab;split<;>lia
   rw[iL d] at e ⊢;rw[f] at e c;rw[show(-t.getD j 0-1).toNat=(-t.getD j 0).toNat-1 by lia,e]
   lia
 obtain⟨k,hk,rfl|rfl⟩:=pZ g
 .rw[ny];exact one k hk
 .rw[EY t<|Nq hk,EY w<|a.led<|Nq hk,ny,one k hk]
def Po{n:Nat}{t w:iu}(a:TT n t){k:Nat}(hk:k<n)(h:IvB n t k w):IvB n t (k+1) (w.set ((ab<|t.getD k 0).toNat-1)<|sgJ t k):=by
 have b: ∀j,j<n->1<=ab (t.getD j 0)/\ab (t.getD j 0)<=n:=λj c=>a.sg<|kY (l:=t) (k:=j) (by rw[a.len];exact c);refine⟨by simp[h.1],λj c=>?_⟩;have d:=b k hk;have f:=b j (by lia);by_cases e:j=k
 .subst e;rw[lR,wj<|by rw[h.1];lia];rfl
 .have ne:ab (t.getD j 0)≠ab (t.getD k 0):=λq=>e (by
   have l:=a.len
   have:=(HB (xs:=t.map ab) (i:=j) (j:=k) (h₀:=by simp[l];lia) (h₁:=by simp[l];lia) (JM.mp a).2.2).mp (by simp only[AN];simpa[lR,l,hk,show j<n by lia] using q)
   exact this)
  rw[lR,tU<|by lia,<-lR];exact h.2 j (by lia)
abbrev fbB:FS:=ig (oX 1 (fIf (fT<|ie (lr .Gt) (gZ 3)<|hG<|fC<|.int 0) (iI 2)<|kN mN<|gZ 2)<|hG<|ie gSub (hG<|ir (g1 mF) [gZ 3])<|hG<|fC<|.int 1) iB
def Wi{n:Nat}{t w:iu}(c:TT n t){k:Nat}(hk:k<n)(f:(Ix w)=n):fbB [eN t,lsi w,ii<|(k:Int)+1,ii<|t.getD k 0]=Y (.nx [eN t,lsi<|w.set ((ab<|t.getD k 0).toNat-1)<|sgJ t k,ii<|(k:Int)+1,ii<|t.getD k 0]):=by
 have b:=c.sg<|kY (l:=t) (k:=k) (by rw[c.len];exact hk)
 have d:fIf (fT<|ie (lr .Gt) (gZ 3)<|hG<|fC<|.int 0) (iI 2) (kN mN<|gZ 2) [eN t,lsi w,ii<|(k:Int)+1,ii<|t.getD k 0]=Y ((.int<|sgJ t k,C),[eN t,lsi w,ii<|(k:Int)+1,ii<|t.getD k 0]):=by
  rw[T5,jW (o:=C)<|jO (ND _ _) (jV I).r (jE I).r];simp only[jv];unfold sgJ;by_cases a:t.getD k 0>0
  .rw[iF<|by simpa using a,iF a];rfl
  .rw[iL<|by simpa using a,iL a];rfl
 have e:hG (ie gSub (hG<|ir (g1 mF) [gZ 3])<|hG<|fC<|.int 1) [eN t,lsi w,ii<|(k:Int)+1,ii<|t.getD k 0]=Y (.val (.int<|ab (t.getD k 0)-1,C),[eN t,lsi w,ii<|(k:Int)+1,ii<|t.getD k 0]):=rfl
 have g:ixN (w.map D.int).length (ab (t.getD k 0)-1)=Y ((ab<|t.getD k 0).toNat-1):=by
  have:=b.1;have:=b.2;unfold ixN;rw[jz,f,iF<|by lia,iF<|by lia]
  congr 1;lia
 refine(hX (δ1:=[eN t,lsi<|w.set ((ab<|t.getD k 0).toNat-1)<|sgJ t k,ii<|(k:Int)+1,ii<|t.getD k 0]) ?_).trans rfl;unfold oX;rw[d];simp only[jv,rZ,ux];rw[e];simp only[jv,Bf,rZ,ux];rw[g];simp[lsi,pc]
def Ya{n:Nat}{t:iu}(f:TT n t): ∀(m k:Nat) (w:iu) (x y:Sl),k+m=n->IvB n t k w-> ∃b c d,IvB n t n b/\kZ (oN [hW 2,hW 3]) fbB ((bU k m).map λ(j:Nat)=> .tup [.int<|(j:Int)+1,.int<|t.getD j 0]) [eN t,lsi w,x,y]=Y (.nx [eN t,lsi b,c,d]):=by
 intro i
 induction i with
 |zero=>intro k w x y h a;exact⟨w,x,y,by rw[show k=n by lia] at a;exact a,rfl⟩
 |succ m g=>intro k w x y h a;obtain⟨b,c,d,h1,e⟩:=g (k+1) _ (ii<|(k:Int)+1) (ii<|t.getD k 0) (by lia) (Po f (by lia) a);refine⟨b,c,d,h1,?_⟩;rw[AL,jx];unfold kZ;rw[show oN [hW 2,hW 3] (.tup [.int<|(k:Int)+1,.int<|t.getD k 0]) [eN t,lsi w,x,y]=Y [eN t,lsi w,ii<|(k:Int)+1,ii<|t.getD k 0] from I];simp only[jv];rw[Wi f (by lia) a.1];exact e
def Wl(t:iu):(((t.map D.int).zipIdx).map λq=>D.tup [.int (1+q.2),q.1])=(bU 0<|Ix t).map λ(j:Nat)=> .tup [.int<|(j:Int)+1,.int<|t.getD j 0]:=by
 apply wM
 .simp
 .intro i h1 b;have a:i<(Ix t):=by simpa using h1
  simp[lR,a,Int.add_comm]
def Fo{n:Nat}{t:iu}(b:TT n t): ∃w,BK n t w/\yw [enc t]=Y (enc w,[eN t]):=by
 obtain⟨w,x,y,h,e⟩:=Ya b n 0 t J J (by lia) ⟨b.len,λj c=>absurd c<|by lia⟩;refine⟨w,Pp b h,?_⟩;refine jc (δ:=[eN t,lsi w,x,y]) ⟨rfl,by decide,rfl⟩ ?_;refine(hX (δ1:=[eN t,lsi t,J,J]) I).trans ((hX<|(ki (δ1:=[eN t,lsi t,J,J]) (ds:=(bU 0 n).map λ(j:Nat)=> .tup [.int<|(j:Int)+1,.int<|t.getD j 0]) ?_).trans e).trans ?_)
 .show Y (((t.map D.int).zipIdx).map λq=>D.tup [.int (1+q.2),q.1],([eN t,lsi t,J,J]:Dn))=_;rw[Wl,b.len]
 .exact iD (jq<|jC (a:= .lst (w.map D.int)) I<|jR I)
def BK.uniq{n:Nat}{t w v:iu}(c:TT n t)(h1:BK n t w)(a:BK n t v):w=v:=
 SF h1.1 a.1 λs b=>by have e:=(h1.sym c).2 s b;have:=a.2 _ ((h1.tt c).led b);rw[e] at this;exact this.symm
def Tt{n:Nat}{t w:iu}(a:TT n t)(b:BK n t w):yw [enc t]=Y (enc w,[eN t]):=by obtain⟨v,h1,e⟩:=Fo a;rw[b.uniq a h1];exact e
def XE{n:Nat}{t:iu}(h:(Ix t)=n):oz (cD t)=ii n:=by rw[HV,jz,h]
def Nn{n:Nat}{t c:iu}(h:n<=5)(b:TT n t)(a:ClOk n c):zF (.lst<|(c.map<|led t).map D.int)=Y (.lst<|(lc t c).map D.int,U):=by
 have:=a.len;show(if((c.map<|led t).map D.int).all isI=U/\(((c.map<|led t).map D.int).map aD).Nodup/\((c.map<|led t).map D.int).length<64 then Y (D.lst<|nq ltA<|(c.map<|led t).map D.int,U) else J)=_
 have e:((c.map<|led t).map D.int).all isI=U:=by rw[lG];intro d hd;obtain⟨x,_,rfl⟩:=mS.mp hd;rfl
 have f:(((c.map<|led t).map D.int).map aD).Nodup:=by rw[jZ];exact zQ b (C4 a.2.1) λs g=>a.2.2 s g
 rw[iF ⟨e,f,by simp;lia⟩,(vE b a).2]
def SA{n:Nat}(f:n<=5){t c:iu}(e:TT n t)(d:ClOk n c):qX [enc c,enc t]=Y (enc<|lc t c,[eN c,eN t]):=by have:=d.len;refine UW ⟨rfl,by decide,rfl⟩<|jC (a:= .lst ((lc t c).map D.int)) I (jE (b:=U)<|jC (Nn f e d) (jE (b:=U)<|Dw (args:=[cD t]) (led t) I I I (λx g=>⟨C,?_⟩)<|by lia).r).r;exact jU2 (ZG e.len<|d.2.2 x g) (jV I)<|jV I
def Tj{a:ky}{b:FIt}{f:F}{δ δ1:Dn}{l:jo}{args:List D}(g:List Int->List Int)(h1:b δ=Y (l.map cD,δ1))(c:kE δ1 (a.map .slot)=Y (args.map λd=>(d,C)))(e:(Ix args)=Ix a)
  (h: ∀x∈l,∃o,f (frz args++[Y (cD x,C)])=Y ((cD<|g x,o),frz args++[Y (cD x,C)]))(i:(Ix l)<=10000):
  iT a 1 b (hW<|Ix a) je (jb f) δ=Y ((.lst<|(l.map g).map cD,U),δ1):=by
 rw[xE (λd=>cD<|g<|unC d) h1 c e (λd hd=>by obtain⟨x,j,rfl⟩:=mS.mp hd;rw[qK];exact h x j)<|by simpa using i];rw[jZ,jZ,ph (g:=cD∘g) λx _=>by simp only[bc,qK]]
def Q6{cs:jo}(h:om (cs.map cD)=U)(b:(Ix cs)<=10000): ∃a:List (List Int),a.Perm cs/\SrtC a/\kL (cs.map cD)=Y (.lst<|a.map cD,U):=by
 obtain⟨a,e,c⟩:=BR<|jX ltT<|cs.map cD;refine⟨a,c,?_,?_⟩
 .have:=oj<|cs.map cD;rw[e,qt] at this;exact this
 .unfold kL;rw[iF ⟨h,by rw[jz];exact EB b⟩,e]
def Yg{f g:F}{δ:Dn}{a b:D×Bool}(h1:f δ=Y (a,δ))(c:g δ=Y (b,δ)):jD [f,g] δ=Y ((.tup [a.1,b.1],C),δ):=by rw[HW,show[f,g].map hG=[hG f,hG g] from I,lu (iz h1)<|iz c];simp[jI]
def XF{n:Nat}{t:iu}{cs:jo}(g:TT n t)(f:xJ n cs): ∃d,LR t cs d/\IV [(rD' n cs,C),enc t]=Y ((rD' n d,C),[rS n cs,eN t]):=by
 have i:=f.1;have j:=f.2.2.2
 obtain⟨d,m,o,e⟩:=Q6 (cs:=cs.map<|lc t) (CY _ λc k=>by obtain⟨x,h,rfl⟩:=mS.mp k;exact(XI g<|f.2.1.2 x h).1) (by simp;lia)
 refine⟨d,⟨m,o⟩,?_⟩;refine jc (δ:=[rS n cs,eN t,ii n,Y (.tup<|cs.map cD,C)]) ⟨rfl,by decide,rfl⟩ ?_;refine(hX (δ1:=[rS n cs,eN t,ii n,Y (.tup<|cs.map cD,C)]) I).trans ?_;refine(hX<|uN<|jU2 (GL i g) (jV I)<|jV I).trans (iD<|jq<|Yg (a:=(.int n,C)) (b:=(.tup<|d.map cD,C)) I<|jC (a:= .lst (d.map cD)) I (jE (b:=U)<|jC e (jE (b:=U)<|Tj (l:=cs) (args:=[cD t]) (lc t) I I I (λx h=>⟨C,?_⟩)<|by lia).r).r);exact jU2 (SA i g<|f.2.1.2 x h) (jV I)<|jV I
def SD{n:Nat}(g:n<=5){t w a:iu}(c:TT n t)(e:BK n t w)(d:Cm n a):qY [enc a,enc t]=Y (enc<|laF w a,[eN a,eN t]):=by
 have f:=e.tt c;refine jc (δ:=[eN a,eN t]) ⟨rfl,by decide,rfl⟩ ?_;refine(hX<|uN<|jU2 (GL g c) (jE<|jC (XE d.1) (jV I).r)<|jV I).trans (iD<|jq<|jC (a:= .lst ((laF w a).map D.int)) I (jE (b:=U)<|Dw (args:=[cD a]) (λs=>if soB a s=U then 1 else 0) (fi:=iJ<|ik yw [gZ 1]) (l:=w) ?_ I I (λx h=>⟨C,?_⟩)<|by rw[f.len];lia).r)
 .rw[JH,jU1 (Tt c e)<|jV I];rfl
 .rw[T5,jW<|jU2 (TZ a x (by have:=f.sg h;rw[d.1];exact this)) (jV I)<|jV I];cases soB a x<;>rfl
noncomputable def dC(a:jo):D:= .oth .dct (a.map cD) (a.map λ_=> .bl U)
theorem Dj: ∀l:List Int,(CB<|l.map .int).isSome=U
 |[]=>rfl
 |x::l=>by
  have:=Dj l;simp only[jx,CB,uX]
  cases h:CB (l.map D.int) with
  |none=>rw[h] at this;cases this
  |some k=>rfl
def Kb(c:iu):(An<|cD c).isSome=U:=Dj c
def SO(a:jo):((a.map cD).all λk=>(An k).isSome)=U:=by rw[lG];intro d hd;obtain⟨c,_,rfl⟩:=mS.mp hd;exact Kb c
def Pj(a:jo)(c:iu):rQ (a.map cD) (cD c)=U:=by unfold rQ;rw[Kb,SO];simp
theorem JZ(c:iu): ∀a:List (List Int),(lE (a.map cD) (a.map λ_=> .bl U)<|cD c).isSome=decide (c∈a)
 |[]=>rfl
 |x::a=>by
  simp only[jx,lE,IZ];by_cases h:x=c
  .simp[h]
  .have: ¬c=x:=λe=>h e.symm;simp[h,this,JZ c a]
def Ni{k l:jo}(g:k.Perm l)(h1:SrtC k)(f:SrtC l):k=l:=by
 refine g.eq_of_pairwise (le:=λa b=>ltT (cD b) (cD a)=C) (λa b _ _ x y=>?_) h1 f;rw[rO] at x y;have d: ∀x:List Int,D.pr (cD x)=U:=λx=>by simp[D.pr,qd]
 have e:cT (cD a) (cD b)= .eq:=by
  rw[yE] at x
  cases c:cT (cD a) (cD b) with
  |lt=>exact absurd c y
  |gt=>rw[c] at x;exact absurd I x
  |eq=>rfl
 have:=yF _ _ (d a) (d b) e;simpa[qK] using nM unC this
def Rg{tg:Tg}{f:F}{δ δ1 δ2:Dn}{r:D×Bool}(h:f δ=Y (r,δ1))(a:tg r.1 δ1=Y δ2):FU tg f δ=Y (.nx δ2):=by rw[UZ,h];simp only[jv];rw[a];rfl
noncomputable def adj(lt:D->D->Bool):List D->Bool
 |x::y::l=>lt x y&&adj lt (y::l)
 |_=>U
theorem Qk(lt:D->D->Bool): ∀(l c:List D) (u v:Sl),(∀x∈l,∀y∈l,lr .Lt x y=Y (.bl<|lt x y,C))->Ix c+Ix l<=10000-> ∃f g i,(pJ f=Y (f.map λd=>match d with| .bl b=>b|_=>C))/\((f.map λd=>match d with| .bl b=>b|_=>C).all id=adj lt l)/\lq (oN [hW 0,hW 1]) je (jb<|ie (lr .Lt) (gZ 0)<|gZ 1) ((l.zip l.tail).map λp=> .tup [p.1,p.2]) c [u,v]=Y (c++f,[g,i])
 |[],c,u,v,_,_=>⟨[],u,v,rfl,rfl,by simp[lq]⟩
 |[x],c,u,v,_,_=>⟨[],u,v,rfl,rfl,by simp[lq]⟩
 |x::y::l,c,u,v,h,j=>by
  obtain⟨f,g,i,h1,m,e⟩:=Qk lt (y::l) (c++[.bl<|lt x y]) (Y (x,C)) (Y (y,C)) (λa n b o=>h a (jU _ n) b<|jU _ o) (by simp at j ⊢;lia);refine⟨.bl (lt x y)::f,g,i,?_,?_,?_⟩
  .simp[pJ,h1]
  .simp only[jx,wN,id,adj,m]
  .have q:(Ix c)<sizeLine:=by rw[jI];simp at j;lia
   have k:ie (lr .Lt) (gZ 0) (gZ 1) [Y (x,C),Y (y,C)]=Y ((.bl<|lt x y,C),[Y (x,C),Y (y,C)]):=
    ju (o1:= .slot 0) (o2:= .slot 1) rfl rfl rfl rfl (h x (by simp) y<|by simp)
   simp only[mA,uy,jx,lq];rw[show oN [hW 0,hW 1] (.tup [x,y]) [u,v]=Y [Y (x,C),Y (y,C)] from I];simp only[jv,xY,kr,As];rw[k];simp only[jv];rw[iF q];simp only[jv];rw[mA] at e;rw[e];simp
def Ym(l:List D):PX.mU l (Y 1) J=l.tail:=by
 unfold PX.mU;rw[show(Y (1:Int))=Y ((1:Nat):Int) from I,HT.WD,HT.UO]
 cases l with
 |nil=>rfl
 |cons x l=>rw[show min 1 (x::l).length=1 from by simp];simp
def KU(lt:D->D->Bool)(l:List D)(d:D)(hd:d= .lst l\/d= .tup l)(h: ∀x∈l,∀y∈l,lr .Lt x y=Y (.bl<|lt x y,C))(f:(Ix l)<=1000):tE [(d,C)]=Y ((.bl<|adj lt l,C),[Y (d,C)]):=by
 obtain⟨a,g,i,h1,b,e⟩:=Qk lt l [] J J h (by simp;lia)
 have c:Ad (iI 0) (oP (gZ 0)<|hG<|fC<|.int 1) [Y (d,C)]=Y ((l.zip l.tail).map λp=> .tup [p.1,p.2],[Y (d,C)]):=by
  rcases hd with rfl|rfl
  .have:oP (gZ 0) (hG<|fC<|.int 1) [Y (.lst l,C)]=Y ((.lst l.tail,U),[Y (.lst l,C)]):=by rw[<-Ym l];rfl
   simp[Ad,iI,this,tV]
  .have:oP (gZ 0) (hG<|fC<|.int 1) [Y (.tup l,C)]=Y ((.tup l.tail,C),[Y (.tup l,C)]):=by rw[<-Ym l];rfl
   simp[Ad,iI,this,tV]
 refine jc (δ:=[Y (d,C)]) ⟨rfl,by decide,rfl⟩<|iD<|jq<|jM (os:=[.val (.lst a,U)]) (oZ<|iz ?_) I ?_
 .show iT [] 2 _ _ _ _ [Y (d,C)]=_;unfold iT;rw[c];simp only[jv,nj,vB,iR,lX,kr,pQ,cZ,cY];rw[e];rfl
 .show(pJ a).map _=_;rw[h1];simp only[eV];rw[b]
noncomputable def ltI:D->D->Bool
 | .int i,.int j=>decide<|i<j
 |_,_=>C
theorem Qt: ∀l:List Int,adj ltI (l.map .int)=U↔l.Pairwise (· < ·)
 |[]=>by simp[adj]
 |[x]=>by simp[adj]
 |x::y::l=>by
  simp only[jx,adj,kJ];rw[<-jx (f:=D.int),Qt (y::l)];simp only[ltI,ni];constructor
  .rintro⟨h1,b⟩;refine AA.mpr ⟨λz a=>?_,b⟩;have c:=(AA.mp b).1;rcases ku.mp a with rfl|a
   .exact h1
   .have:=c z a;lia
  .intro h;have h:=AA.mp h;exact⟨h.1 y jP,h.2⟩
noncomputable def aI(l:List D):List Int:=l.map λd=>ab<|iOf d
noncomputable def pC(n:Int):D->Bool
 | .tup l=>decide (1<=Ix l/\(Ix l)<=5)&&(l.all (sg n)&&decide ((aI l).Pairwise (· < ·)))
 |_=>C
noncomputable def lC(n:Int):D->Bool
 | .tup l=>decide (l≠[])&&(l.all (sg n)&&decide ((aI l).Pairwise (· < ·)))
 |_=>C
def Ud(n:Nat)(h:n<=5)(d:D):pC n d=lC n d:=by
 cases d with
 |tup l=>
  rw[pC,lC,yK];simp only[kJ,ni,lG];constructor
  .rintro⟨h1,a,b⟩;exact⟨λe=>by subst e;simp at h1,a,b⟩
  .rintro⟨h1,a,b⟩
   have c:=Bv (aI l) (st n) (C4 b) (λx g=>by obtain⟨d,hd,rfl⟩:=mS.mp g;have:=a d hd;rw[wY this] at this;exact KJ.mpr<|by simpa[sg] using this)
   have f:0<(Ix l):=QN.mpr h1;simp only[aI,st,jz,eK] at c;exact⟨⟨f,by lia⟩,a,b⟩
 |_=>rfl
def wy(n:Int)(d:D)(hd: ∀l,d= .tup l->Ix l<=100):lA [pI n,(d,C)]=Y ((.bl<|pC n d,C),[ii n,Y (d,C)]):=by
 cases d with
 |tup l=>
  have w:=hd l I;by_cases h1:1<=Ix l/\(Ix l)<=5
  .have e:(1:Int)<=(Ix l):=by lia
   have f:((Ix l):Int)<=5:=by lia
   have g:(qW (kW<|fT<|kN (uh [.tuple])<|gZ 1)<|kW<|fT<|mZ .LtE .LtE (hG<|fC<|.int 1) (hG<|ir (g1 oz) [gZ 1])<|hG<|fC<|.int 5) [ii n,Y (.tup l,C)]=Y (C,[ii n,Y (.tup l,C)]):=by simp[isT,mZ,kf,e,f]
   obtain⟨x1,m⟩:=xH (ik lD [gZ 0,gZ 1]) (λd=> .bl (sg n d)) [ii n] l [] J (λd _=>⟨C,by simp[JD,iR,wb]⟩) (by rw[jI];simp;lia);simp only[qH,pQ,kI,pv,uA] at m
   have q:iT [0] 1 (iJ<|iI 1) (hW 1) je (jb<|ik lD [gZ 0,gZ 1]) [ii n,Y (.tup l,C)]=Y ((.lst<|l.map λd=> .bl (sg n d),U),[ii n,Y (.tup l,C)]):=by simp[iT,iI,m,iR,wb,iN]
   have c:ir (g1 zI) [hG<|iT [0] 1 (iJ<|iI 1) (hW 1) je<|jb<|ik lD [gZ 0,gZ 1]] [ii n,Y (.tup l,C)]=Y ((.bl<|l.all<|sg n,C),[ii n,Y (.tup l,C)]):=
    jM (oZ<|iz q) rfl (yH (sg n) l)
   by_cases a:l.all (sg n)=U
   .have t: ∀d∈l,∃o,ir (g1 mF) [gZ 0] ([]++[Y (d,C)])=Y ((.int<|ab<|iOf d,o),([]++[Y (d,C)]:Dn)):=λd hd=>⟨C,by rw[lG] at a;rw[wY<|a d hd];rfl⟩
    obtain⟨x2,p⟩:=xH (ir (g1 mF) [gZ 0]) (λd=> .int (ab<|iOf d)) [] l [] J t (by rw[jI];simp;lia);simp only[qH,pQ,kI,pv] at p;have k:=Us (fi:=iJ<|iI 1) (δ:=[ii n,Y (.tup l,C)]) (δ1:=[ii n,Y (.tup l,C)]) (ds:=l) I p;have s:(l.map λd=>D.int<|ab<|iOf d)=(aI l).map .int:=by rw[aI,jZ];rfl
    rw[s] at k
    have r:=KU ltI ((aI l).map .int) (.lst<|(aI l).map .int) (.inl I) (by intro x u y v;obtain⟨i,_,rfl⟩:=mS.mp u;obtain⟨j,_,rfl⟩:=mS.mp v;rw[U1];rfl) (by simp[aI];lia)
    have b:pC n (.tup l)=adj ltI ((aI l).map .int):=by rw[pC,a,oK h1,uk,uk,yK,ni];exact(Qt _).symm
    rw[b];rw[a] at c;refine jc (δ:=[ii n,Y (.tup l,C)]) ⟨rfl,by decide,rfl⟩ ?_;refine(hX<|(md g).trans I).trans ?_;refine(hX<|(md<|jL<|jW c).trans I).trans ?_;exact iD<|jq<|jn (δ1:=[ii n,Y (.tup l,C)]) (os:=[.val (.lst<|(aI l).map .int,U)]) (args:=[(.lst<|(aI l).map .int,C)]) (oZ<|iz k) I lX r
   .have h:l.all (sg n)=C:=by simpa using a
    have b:pC n (.tup l)=C:=by rw[pC,h,zh,za]
    rw[b];rw[h] at c;refine jc (δ:=[ii n,Y (.tup l,C)]) ⟨rfl,by decide,rfl⟩ ?_;refine(hX<|(md g).trans I).trans ?_;exact iD<|(nH<|jL<|jW c).trans<|iD<|jq I
  .have b:pC n (.tup l)=C:=by rw[pC,mB h1,zh]
   rw[b];by_cases e:(1:Int)<=Ix l
   .have f: ¬((Ix l):Int)<=5:=by lia
    simp[lA,pG,evF,isT,mZ,kf,e,f,iN]
   .simp[lA,pG,evF,isT,mZ,kf,e,iN]
 |_=>simp[lA,pG,evF,isT,iN,pC]
noncomputable def inB(lo a:Int):D->Bool
 | .int s=>decide (lo<=s)&&decide (s<=a)
 |_=>C
def XA(d:D)(lo a:Int):jT [(d,C),pI lo,pI a]=Y ((.bl<|inB lo a d,C),[Y (d,C),ii lo,ii a]):=by
 cases d with
 |int s=>by_cases h:lo<=s<;>simp[jT,nV,evF,iN,isT,mZ,kf,h,inB]
 |_=>simp[jT,nV,evF,iN,isT,inB]
abbrev fbI:FS:=ig (sIf (qW (kW<|fT<|ik jT [gZ 3,hG<|kN mN<|gZ 0,gZ 0])<|fT<|ie (lr .LtE) (hG<|ir (g1 mF) [gZ 3])<|gZ 2) (ig (jK<|fC<|.bl C) iB) iB)<|ig (iY 2<|ir (g1 mF) [gZ 3]) iB
noncomputable def goC(n:Int):Int->List D->Bool
 |_,[]=>U
 |last,d::l=>(sg n d&&decide (last<ab (iOf d)))&&goC n (ab<|iOf d) l
def Ra(a:0<=last):((decide (-n<=s)&&decide (s<=n))&&decide (last<ab s))=(sg n (.int s)&&decide (last<ab s)):=by rw[yK];simp only[sg,kJ,ni];unfold ab;split<;>constructor<;>rintro⟨⟨h1,b⟩,c⟩<;>refine⟨⟨?_,?_⟩,?_⟩<;>lia
def ZQ(n:Int)(a:Sl): ∀(l:List D) (last:Int) (x3:Sl),0<=last-> ∃i h,kZ (hW 3) fbI l [ii n,a,ii last,x3]=if goC n last l=U then Y (.nx [ii n,a,i,h]) else Y (.rt (.bl C,C) [ii n,a,i,h]):=by
 intro w
 induction w with
 |nil=>intro last x3 _;exact⟨_,_,rfl⟩
 |cons d l v=>
  intro last x3 t;have p:=XA d (-n) n
  have a1:(fT<|ik jT [gZ 3,hG<|kN mN<|gZ 0,gZ 0]) [ii n,a,ii last,Y (d,C)]=Y (inB (-n) n d,[ii n,a,ii last,Y (d,C)]):=
   jW (o:=C) (jn (δ1:=[ii n,a,ii last,Y (d,C)]) (os:=[.slot 3,.val (.int (-n),C),.slot 0]) (args:=[(d,C),pI (-n),pI n]) I I lX p)
  by_cases hd:wh d=U
  .obtain⟨s,rfl⟩: ∃s,d= .int s:=⟨_,Er hd⟩
   have g:(fT<|ie (lr .LtE) (hG<|ir (g1 mF) [gZ 3])<|gZ 2) [ii n,a,ii last,ii s]=Y (decide<|ab s<=last,[ii n,a,ii last,ii s]):=
    jW (o:=C) (ju (o1:= .val (.int<|ab s,C)) (o2:= .slot 2) I I I I<|Zo _ _)
   have k:=Ra (n:=n) (s:=s) t;by_cases f:(decide (-n<=s)&&decide (s<=n))=U
   .by_cases q:last<ab s
    .have m: ¬ab s<=last:=by lia
     rw[mB m] at g;obtain⟨i,h,e⟩:=v (ab s) (ii s) (by lia);refine⟨i,h,?_⟩
     have c:goC n last (.int s::l)=goC n (ab s) l:=by rw[goC,iOf,<-k,f,oK q];rfl
     rw[c,<-e]
     conv=>lhs;unfold kZ
     rw[show hW 3 (.int s) [ii n,a,ii last,x3]=Y [ii n,a,ii last,ii s] from I];simp only[jv]
     have b:fbI [ii n,a,ii last,ii s]=Y (.nx [ii n,a,ii<|ab s,ii s]):=by refine(hX<|(md<|(qj (jL a1 |>.trans (by rw[inB,f];rfl))).trans g).trans I).trans ?_;exact(hX (δ1:=[ii n,a,ii<|ab s,ii s]) I).trans I
     rw[b];rfl
    .have m:ab s<=last:=by lia
     rw[oK m] at g;refine⟨ii last,ii s,?_⟩
     have c:goC n last (.int s::l)=C:=by rw[goC,iOf,<-k,f,mB q];rfl
     rw[c];unfold kZ;rw[show hW 3 (.int s) [ii n,a,ii last,x3]=Y [ii n,a,ii last,ii s] from I];simp only[jv]
     have b:fbI [ii n,a,ii last,ii s]=Y (.rt (.bl C,C) [ii n,a,ii last,ii s]):=
      iD ((nH<|(qj (jL a1 |>.trans (by rw[inB,f];rfl))).trans g).trans<|iD<|jq I)
     rw[b];rfl
   .have r:(decide (-n<=s)&&decide (s<=n))=C:=by simpa using f
    refine⟨ii last,ii s,?_⟩
    have c:goC n last (.int s::l)=C:=by rw[goC,iOf,<-k,r];rfl
    rw[c];unfold kZ;rw[show hW 3 (.int s) [ii n,a,ii last,x3]=Y [ii n,a,ii last,ii s] from I];simp only[jv]
    have b:fbI [ii n,a,ii last,ii s]=Y (.rt (.bl C,C) [ii n,a,ii last,ii s]):=
     iD ((nH<|Ff (jL a1 |>.trans (by rw[inB,r];rfl))).trans<|iD<|jq I)
    rw[b];rfl
  .refine⟨ii last,Y (d,C),?_⟩;have u:sg n d=C:=by cases d<;>first|rfl|(exact absurd I hd)
   have c:goC n last (d::l)=C:=by rw[goC,u];rfl
   have j:(fT<|ik jT [gZ 3,hG<|kN mN<|gZ 0,gZ 0]) [ii n,a,ii last,Y (d,C)]=Y (C,[ii n,a,ii last,Y (d,C)]):=by rw[a1];cases d<;>first|rfl|(exact absurd I hd)
   rw[c];unfold kZ;rw[show hW 3 d [ii n,a,ii last,x3]=Y [ii n,a,ii last,Y (d,C)] from I];simp only[jv]
   have b:fbI [ii n,a,ii last,Y (d,C)]=Y (.rt (.bl C,C) [ii n,a,ii last,Y (d,C)]):=
    iD ((nH<|Ff<|jL j).trans<|iD<|jq I)
   rw[b];rfl
def SY(n:Int): ∀(l:List D) (last:Int),goC n last l=U↔(∀x∈aI l,last<x)/\l.all (sg n)=U/\(aI l).Pairwise (· < ·):=by
 intro i
 induction i with
 |nil=>intro last;simp[goC,aI]
 |cons d l h=>
  intro last;rw[goC,kJ,kJ,ni,h];have e:aI (d::l)=ab (iOf d)::aI l:=rfl;rw[e,wN,kJ,AA];constructor
  .rintro⟨⟨h1,b⟩,a,c,f⟩;refine⟨λx g=>?_,⟨h1,c⟩,a,f⟩;rcases ku.mp g with rfl|g
   .exact b
   .have:=a x g;lia
  .rintro⟨h1,⟨b,a⟩,c,f⟩;exact⟨⟨b,h1 _ jP⟩,c,a,f⟩
def ZM(n:Int)(l:List D):goC n 0 l=(l.all (sg n)&&decide ((aI l).Pairwise (· < ·))):=by
 rw[yK,SY,kJ,ni];constructor
 .rintro⟨_,a,b⟩;exact⟨a,b⟩
 .rintro⟨a,b⟩;refine⟨λx c=>?_,a,b⟩;obtain⟨d,hd,rfl⟩:=mS.mp c;rw[lG] at a;have:=a d hd;rw[wY this] at this;have h:=(by simpa[sg] using this:1<=ab (iOf d)/\ab (iOf d)<=n)
  omega
def Bx(n:Int)(d:D)(hd: ∀l,d= .tup l->d.dep<=50):lN [pI n,(d,C)]=Y ((.bl<|lC n d,C),[ii n,Y (d,C)]):=by
 cases d with
 |tup l=>
  have g:gEq (.tup l) (.tup [])=Y (.bl<|decide<|l=[],C):=by unfold gEq;rw[iF ⟨hd l I,by simp[D.dep,D.depL]⟩];cases l<;>simp[D.eqb,D.eqbL]
  have b:(qW (kW<|fT<|kN (uh [.tuple])<|gZ 1)<|fT<|ie gEq (gZ 1)<|hG<|jD []) [ii n,Y (.tup l,C),J,J]=Y (decide<|l=[],[ii n,Y (.tup l,C),J,J]):=by refine(qj (δ1:=[ii n,Y (.tup l,C),J,J]) I).trans (jW (o:=C)<|ju (o1:= .slot 1) (o2:= .val (.tup [],C)) I (iz<|by simp[jI]) I I g)
  by_cases c:l=[]
  .subst c;rw[show lC n (.tup [])=C from I];exact jc (δ:=[ii n,Y (.tup [],C),J,J]) ⟨rfl,by decide,rfl⟩<|iD<|(nH b).trans<|iD<|jq I
  .rw[mB c] at b;have f:lC n (.tup l)=goC n 0 l:=by rw[lC,ZM,oK c,uk]
   obtain⟨x2,x3,e⟩:=ZQ n (Y (.tup l,C)) l 0 J (by lia);rw[f];by_cases a:goC n 0 l=U
   .rw[iF a] at e;rw[a];refine jc (δ:=[ii n,Y (.tup l,C),x2,x3]) ⟨rfl,by decide,rfl⟩ ?_;refine(hX<|(md b).trans I).trans ?_;refine(hX (δ1:=[ii n,Y (.tup l,C),ii 0,J]) I).trans ?_;exact(hX<|(ki (ds:=l) (δ1:=[ii n,Y (.tup l,C),ii 0,J]) I).trans e).trans (iD<|jq I)
   .rw[iL a] at e;have h:goC n 0 l=C:=by simpa using a
    rw[h];refine jc (δ:=[ii n,Y (.tup l,C),x2,x3]) ⟨rfl,by decide,rfl⟩ ?_;refine(hX<|(md b).trans I).trans ?_;refine(hX (δ1:=[ii n,Y (.tup l,C),ii 0,J]) I).trans ?_;exact iD<|(ki (ds:=l) (δ1:=[ii n,Y (.tup l,C),ii 0,J]) I).trans e
 |_=>simp[lN,rT,evF,isT,iN,lC]
def XB(a b:iu):lr .Lt (cD a) (cD b)=Y (.bl<|ltT (cD a)<|cD b,C):=by
 have h: ∃r,mR .Lt (cD a) (cD b)=Y r:=by have:=zN .Lt a b;exact Mb.mp this
 obtain⟨r,c⟩:=h;have e:=yA (cD a) (cD b) (by simp[D.pr,qd]) (by simp[D.pr,qd]) r c;unfold lr;rw[iF ⟨by rw[xD];lia,by rw[xD];lia⟩,c,e];rfl
theorem Ui: ∀a b:List Int,∃r,nF .LtE (a.map .int) (b.map .int)=Y (!r)/\nF .Lt (b.map .int) (a.map .int)=Y r
 |[],[]=>⟨C,by simp[nF,kf],by simp[nF,kf]⟩
 |[],y::b=>⟨C,by simp[nF,kf];lia,by simp[nF,kf];lia⟩
 |x::a,[]=>⟨U,by simp[nF,kf]<;>lia,by simp[nF,kf]<;>lia⟩
 |x::a,y::b=>by
  obtain⟨r,h1,d⟩:=Ui a b;by_cases h:x=y
  .subst h;exact⟨r,by simp[nF,D.eqb,h1],by simp[nF,D.eqb,d]⟩
  .have c: ¬y=x:=λe=>h e.symm;refine⟨decide<|y<x,?_,?_⟩
   .simp only[jx,nF,D.eqb,vO,mB h,mR,kf];simp;by_cases q:y<x
    .have: ¬x<=y:=by lia
     simp[q,this]
    .have:x<=y:=by lia
     simp[q,this]
   .simp[nF,D.eqb,c,mR,kf]
def XG(a b:iu):lr .LtE (cD a) (cD b)=Y (.bl (!ltT (cD b) (cD a)),C):=by obtain⟨r,h1,c⟩:=Ui a b;have e:=yA (cD b) (cD a) (by simp[D.pr,qd]) (by simp[D.pr,qd]) r (by simpa[mR] using c);unfold lr;rw[iF ⟨by rw[xD];omega,by rw[xD];omega⟩,show mR .LtE (cD a) (cD b)=Y (!r) from by simpa[mR] using h1,e];rfl
def XM{n:Int}{d:D}(h:lC n d=U): ∃c,d=cD c/\c≠[]:=by
 cases d with
 |tup l=>
  rw[lC,kJ,ni,kJ,lG] at h;refine⟨l.map iOf,?_,by simpa using h.1⟩;simp only[cD,jZ]
  congr 1
  symm
  rw[show l=l.map id from(oJ l).symm,jZ];apply ph;intro d hd;exact(wY<|h.2.1 d hd).symm
 |_=>simp[lC] at h
def PT(n m:Nat)(p:iu):Prop:=Ix p=m/\(∀x∈p,SG n x)/\(p.map ab).Nodup
def PT.tt{n:Nat}{t:iu}(h:PT n n t):TT n t:=JM.mpr ⟨by simp[h.1],λx a=>by obtain⟨y,b,rfl⟩:=mS.mp a;exact h.2.1 y b,h.2.2⟩
noncomputable def sgs(n:Nat):List Int:=((aj (2*n+1)).map λ(k:Nat)=> -(n:Int)+k).filter λs=>!(s==0)
noncomputable def fre(n:Nat)(t:iu):List Int:=(sgs n).filter λs=>!t.contains s&&!t.contains (-s)
noncomputable def exP(n:Nat)(L:jo):List (List Int):=L.flatMap λt=>(fre n t).map λs=>t++[s]
noncomputable def yI(n:Nat):Nat->List (List Int)
 |0=>[[]]
 |m+1=>exP n<|yI n m
def Xb{n:Nat}{s:Int}:s∈sgs n↔SG n s:=by
 unfold sgs SG;simp only[Fu,mS,vm];constructor
 .rintro⟨⟨k,hk,rfl⟩,b⟩;unfold ab;simp at b;split<;>lia
 .rintro⟨h1,a⟩;unfold ab at h1 a;refine⟨⟨(s+n).toNat,by split at a<;>lia,by split at a<;>lia⟩,by simp;split at h1<;>lia⟩
def Cc{n:Nat}: ∀{m:Nat} {t:iu},t∈yI n m->PT n m t:=by
 intro r
 induction r with
 |zero=>intro t h;simp[yI] at h;subst h;exact⟨rfl,λx c=>by simp at c,lX⟩
 |succ m q=>
  intro t h;simp only[yI,exP,wB,mS] at h;obtain⟨p,o,s,d,rfl⟩:=h;obtain⟨h1,j,k⟩:=q o;unfold fre at d;simp only[Fu,kJ,i5,List.contains_eq_mem,decide_eq_false_iff_not] at d;obtain⟨d,f,i⟩:=d;have sg:=Xb.mp d;refine⟨by simp[h1],λx c=>?_,?_⟩
  .rcases rY.mp c with c|c
   .exact j x c
   .simp at c;subst c;exact sg
  .rw[pR,AD];refine⟨k,by simp,λa l b g e=>?_⟩;simp at g;subst g;subst e;obtain⟨x,c,e⟩:=mS.mp l;unfold ab at e;have:x=s\/x= -s:=by split at e<;>split at e<;>lia
   rcases this with rfl|rfl
   .exact f c
   .exact i c
def Cd: ∀n,n<6-> ∀m,m<6->(yI n m).length<=3840:=by decide+kernel
def UH: ∀n,n<6->st n∈yI n n:=by decide+kernel
noncomputable abbrev lsO(L:jo)(o:Bool):Sl:=Y (.lst<|L.map cD,o)
noncomputable abbrev tpC(L:jo):Sl:=Y (.tup<|L.map cD,C)
theorem Kf{n:Nat}(a:n<=5): ∀L:List (List Int),(exP n L).length<=10*(Ix L)
 |[]=>by simp[exP]
 |t::L=>by
  have:=Kf a L
  have b:((fre n t).map λs=>t++[s]).length<=10:=by rw[jz];refine ly (AB _ _) ?_;rcases(show n=0\/n=1\/n=2\/n=3\/n=4\/n=5 by lia) with rfl|rfl|rfl|rfl|rfl|rfl<;>decide
  unfold exP at*;rw[List.flatMap_cons,nG,kI]
  lia
section
variable {n:Nat}{a e:jo}(b:n<=5)(hk: ∀c∈a,ClOk n c)(d:a.length<=30)
include b hk d
end
def NL{a:iu}{w:Int}(h:ab w∉a.map ab):Bh a w=a++[w]:=by unfold Bh;rw[iL h]
def X7{n:Nat}{t:iu}(m:TOk n t)(o:n<=5)(b:Sl): ∀(c a:iu) (x3 x4:Sl),(∀s∈c,1<=ab s/\ab s<=n)->DW n a->((a++c.map (led t)).map ab).Nodup->DW n (a++c.map (led t))/\ ∃f j,kZ (hW 3) fbL (c.map .int) [eN t,b,Y (dD a,U),x3,x4]=Y (.nx [eN t,b,Y (dD<|a++c.map (led t),U),f,j]):=by
 intro r
 induction r with
 |nil=>intro a x3 x4 _ d _;simp only[nj,wO];exact⟨d,x3,x4,rfl⟩
 |cons s c q=>
  intro a x3 x4 h d i;have g:=h s jP
  have u:ab (led t s)∉a.map ab:=by rw[pR,AD] at i;exact λz=>i.2.2 _ z _ (by simp) rfl
  have l:=NL u;have k:a++(s::c).map (led t)=(a++[led t s])++c.map (led t):=by simp
  obtain⟨h1,f,j,e⟩:=q (a++[led t s]) (ii s) (ii<|led t s) (λx p=>h x<|jU _ p) (l▸d.put (IB m g.1 g.2))<|k▸i;rw[k];refine⟨h1,f,j,?_⟩;rw[jx];unfold kZ;rw[show hW 3 (.int s) [eN t,b,Y (dD a,U),x3,x4]=Y [eN t,b,Y (dD a,U),ii s,x4] from I];simp only[jv];rw[PZ m o g d,l];simp only[jv];exact e
def Gd{l:iu}(h:(l.map ab).Nodup):l.Nodup:=rs ab (λ_ _ h e=>h<|nM ab e) h
def OU{n:Nat}(f:n<=5){t c:iu}(b:TT n t)(a:ClOk n c):jy [enc t,enc c]=Y (enc<|lc t c,[eN t,eN c]):=by
 have h:=zQ b (C4 a.2.1) λs m=>a.2.2 s m;obtain⟨g,x3,x4,e⟩:=X7 b.tok f (eN c) c [] J J a.2.2 ⟨by simp,by simp⟩ (by simpa using h);rw[pQ] at g e;obtain⟨i,⟨h1,j,d⟩,e⟩:=J7 f g (by simpa using a.1) e;rw[e];have k:LCs t c i:=⟨?_,h1⟩
 .rw[LCs.uniq (n:=n) k (vE b a).1]
 .have l:=d.length_eq;simp only[jz] at l;exact EW _ _ (Gd<|d.symm.nodup h) j (by simp;lia)
def Q9: ∀n:Nat,n<6->sgs n=sts n++st n:=by decide
abbrev PY:FS:=ig (sIf (BN (fT<|ie mY (gZ 5)<|gZ 4)<|fT<|ie mY (hG<|kN mN<|gZ 5)<|gZ 4) (ig (nS<|lT 3<|ie jY (gZ 4)<|hG<|jD [iI 5]) iB) iB) iB
abbrev Wf:FS:=ig (mX (iJ<|ie jY (hG<|ir (gRg .lst U) [hG<|kN mN<|gZ 0,hG<|fC<|.int 0])<|hG<|ir (gRg .lst U) [hG<|fC<|.int 1,hG<|ie jY (gZ 0)<|hG<|fC<|.int 1]) (hW 5) PY) iB
abbrev Yd:FS:=ig (iY 3<|lj [])<|ig (mX (iJ<|iI 1) (hW 4) Wf)<|ig (iY 1<|iI 3) iB
noncomputable abbrev dS(n:Nat)(a b:Sl)(F:jo)(c d:Sl):Dn:=[ii n,a,b,lsO F U,c,d]
def S9(n:Nat)(a c:Sl)(F:jo)(g:F.length<=100000){t:iu}(h:(Ix t)<=100)(s:Int):PY (dS n a c F (eN t)<|ii s)=Y (.nx<|dS n a c (if(!t.contains s&&!t.contains (-s))=U then F++[t++[s]] else F) (eN t)<|ii s):=by
 have h1:fT (ie mY (gZ 5)<|gZ 4) (dS n a c F (eN t)<|ii s)=Y (!t.contains s,dS n a c F (eN t)<|ii s):=jW<|jO (JT s t) (jV I).r (jV I).r;have f:fT (ie mY (hG<|kN mN<|gZ 5)<|gZ 4) (dS n a c F (eN t)<|ii s)=Y (!t.contains (-s),dS n a c F (eN t)<|ii s):=jW<|jO (JT (-s) t) (jE (b:=C) I).r (jV I).r
 have d:BN (fT<|ie mY (gZ 5)<|gZ 4) (fT<|ie mY (hG<|kN mN<|gZ 5)<|gZ 4) (dS n a c F (eN t)<|ii s)=Y (!t.contains s&&!t.contains (-s),dS n a c F (eN t)<|ii s):=by
  unfold BN;rw[h1];simp only[jv];cases t.contains s
  .simp only[fv,kr,uk];exact f
  .rfl
 cases e:(!t.contains s&&!t.contains (-s)) with
 |false=>rw[e] at d;exact(hX<|(md d).trans I).trans I
 |true=>
  rw[e] at d;rw[iF I];refine(hX<|(nH d).trans<|(hX<|uN (r:=(.non,C)) ?_).trans I).trans I;refine(xy (i:=3) (δ1:=dS n a c F (eN t)<|ii s) (l0:=F.map cD) (l:=F.map cD) (r:=(cD<|t++[s],C)) I ?_ I<|by rw[jI];simp;lia).trans ?_
  .refine jO (b:= .tup [.int s]) ?_ (jV I).r (jE (b:=C)<|by simp[jI,iI]).r;show jY (.tup<|t.map .int) (.tup [.int s])=_;simp only[jY];rw[iF<|EB<|by simp;lia,<-List.map_singleton,<-pR]
  .simp
def X5(n:Nat)(a b:Sl){t:iu}(k:(Ix t)<=100): ∀(l:iu) (F:jo) (d:Sl),F.length+Ix l<=100000-> ∃c,kZ (hW 5) PY (l.map .int) (dS n a b F (eN t) d)=Y (.nx<|dS n a b (F++(l.filter λs=>!t.contains s&&!t.contains (-s)).map λs=>t++[s]) (eN t) c):=by
 intro m
 induction m with
 |nil=>intro F d _;exact⟨d,by simp[kZ]⟩
 |cons s l i=>
  intro F d h;simp only[kI] at h;have j:=S9 n a b F (by lia) k s
  have f: ∀G c,kZ (hW 5) PY (l.map .int) (dS n a b (if(!t.contains s&&!t.contains (-s))=U then F++[t++[s]] else F) (eN t)<|ii s)=Y (.nx<|dS n a b G (eN t) c)->kZ (hW 5) PY ((s::l).map .int) (dS n a b F (eN t) d)=Y (.nx<|dS n a b G (eN t) c):=λG c e=>by rw[jx];unfold kZ;rw[show hW 5 (.int s) (dS n a b F (eN t) d)=Y (dS n a b F (eN t)<|ii s) from I];simp only[jv];rw[j];exact e
  cases g:(!t.contains s&&!t.contains (-s)) with
  |true=>rw[g,iF I] at f;obtain⟨c,e⟩:=i (F++[t++[s]]) (ii s) (by simp;lia);refine⟨c,f _ _ (e.trans ?_)⟩;rw[List.filter_cons_of_pos<|by exact g];simp
  |false=>rw[g,iL kF] at f;obtain⟨c,e⟩:=i F (ii s) (by lia);refine⟨c,f _ _ (e.trans ?_)⟩;rw[List.filter_cons_of_neg<|by rw[g];exact kF]
def Ta{n:Nat}(h:n<=5)(c d:Sl){t:iu}(i:(Ix t)<=100)(F:jo)(j:F.length<=90000)(g:Sl): ∃f,Wf (dS n c d F (eN t) g)=Y (.nx<|dS n c d (F++(fre n t).map λs=>t++[s]) (eN t) f):=by
 have k:(sgs n).length<=10:=by rcases(show n=0\/n=1\/n=2\/n=3\/n=4\/n=5 by lia) with rfl|rfl|rfl|rfl|rfl|rfl<;>decide
 obtain⟨f,e⟩:=X5 n c d i (sgs n) F g (by lia);refine⟨f,(hX<|(ki<|lL (o:=U) ?_).trans e).trans I⟩;rw[Q9 n<|by lia,pR];refine jO (a:= .lst ((sts n).map .int)) (b:= .lst ((st n).map .int)) ?_ (jE (b:=U) ?_).r (jE (b:=U) ?_).r
 .simp only[jY];rw[iF<|EB<|by simp[sts,HJ];lia]
 .exact jM (os:=[.val (.int (-n),C),.val (.int 0,C)]) I I (US n h)
 .exact jM (os:=[.val (.int 1,C),.val (.int<|(n:Int)+1,C)]) I I (HS n h)
def X6{n:Nat}(k:n<=5)(b c:Sl): ∀(L F:jo) (d a:Sl),(∀t∈L,Ix t<=100)->F.length+10*(Ix L)<=80000-> ∃f i,kZ (hW 4) Wf (L.map cD) (dS n b c F d a)=Y (.nx<|dS n b c (F++exP n L) f i):=by
 intro p
 induction p with
 |nil=>intro F d a _ _;exact⟨d,a,by simp[kZ,exP]⟩
 |cons t L o=>
  intro F d a h m;simp only[kI] at m;obtain⟨q,l⟩:=Ta k b c (h t jP) F (by lia) a;have j:=Kf k [t];have g:exP n [t]=(fre n t).map λs=>t++[s]:=by simp[exP]
  rw[g] at j;simp only[zb] at j;obtain⟨f,i,e⟩:=o (F++(fre n t).map λs=>t++[s]) (eN t) q (λt g=>h t<|jU _ g) (by rw[nG];lia);refine⟨f,i,?_⟩;rw[jx];unfold kZ;rw[show hW 4 (cD t) (dS n b c F d a)=Y (dS n b c F (eN t) a) from I];simp only[jv];rw[l];refine(show _=_ from e).trans ?_;simp[exP]
def Tb{n:Nat}(i:n<=5)(L:jo)(h: ∀t∈L,Ix t<=100)(j:(Ix L)<=4000)(o:Bool)(a g c d:Sl): ∃b f,Yd [ii n,lsO L o,a,g,c,d]=Y (.nx [ii n,lsO (exP n L) C,a,lsO (exP n L) C,b,f]):=by obtain⟨b,f,e⟩:=X6 i (lsO L C) a L [] c d h (by simp;lia);refine⟨b,f,(hX (δ1:=[ii n,lsO L o,a,lsO [] U,c,d])<|by simp[jI]).trans<|(hX<|(ki<|lL (o:=C) (by cases o<;>rfl)).trans e).trans I⟩
def GR{n:Nat}(k:n<=5): ∃o,nc [pI n]=Y ((.lst<|(yI n n).map cD,o),[ii n]):=by
 obtain⟨_,⟨m,o,f,a,b,c,i,rfl⟩,e⟩:=qE (tg:=hW 2) (fb:=Yd) (λg δ=> ∃(m:Nat) (o:Bool) (f a b c:Sl),(m+Ix g=n)/\δ=[ii n,lsO (yI n m) o,f,a,b,c]) (λd g δ j=>by obtain⟨m,o,f,a,b,c,h1,h⟩:=j;subst h;simp only[kI] at h1;obtain⟨p,q,e⟩:=Tb k (yI n m) (λt l=>by have:=(Cc l).1;lia) (by have:=Cd n (by lia) m (by lia);lia) o (Y (d,C)) a b c;exact⟨_,_,rfl,e,m+1,C,_,_,_,_,by lia,rfl⟩) (iX 0 n) [ii n,lsO [[]] U,J,J,J,J] ⟨0,U,J,J,J,J,by simp[iX],rfl⟩
 simp only[pv,fY] at i;subst i;refine⟨o,?_⟩;cases o
 .refine jc (δ:=[ii m,lsO (yI m m) C,f,a,b,c]) ⟨rfl,by decide,rfl⟩ ((hX (δ1:=[ii m,lsO [[]] U,J,J,J,J])<|by simp[jI]).trans<|(hX<|(ki ?_).trans e).trans<|iD I);exact pE (o:= .slot 0) I I (by lia)
 .refine jc (δ:=[ii m,J,f,a,b,c]) ⟨rfl,by decide,rfl⟩ ((hX (δ1:=[ii m,lsO [[]] U,J,J,J,J])<|by simp[jI]).trans<|(hX<|(ki ?_).trans e).trans<|iD I);exact pE (o:= .slot 0) I I (by lia)
abbrev IS:FS:=ig (sIf (fT<|ie qD (hG<|ik jy [gZ 0,gZ 3])<|gZ 2) (ig (jK<|fC<|.bl C) iB) iB) iB
def Lr(c:iu)(a:jo):qD (cD c) (dC a)=Y (.bl (!decide (c∈a)),C):=by unfold qD V6 dC;simp only;rw[iF<|Pj a c,JZ];rfl
def ZP{n:Nat}(q:n<=5){t:iu}(s:TT n t)(a:jo)(b:Bool)(f:Sl): ∀(g:jo) (x:Sl),(∀c∈g,ClOk n c)-> ∃j,kZ (hW 3) IS (g.map cD) [eN t,f,Y (dC a,b),x]=if(g.all λc=>decide<|lc t c∈a)=U then Y (.nx [eN t,f,Y (dC a,b),j]) else Y (.rt (.bl C,C) [eN t,f,Y (dC a,b),j]):=by
 intro v
 induction v with
 |nil=>intro x _;exact⟨x,rfl⟩
 |cons c g u=>
  intro x h;have p:=h c jP;have i:fT (ie qD (hG<|ik jy [gZ 0,gZ 3])<|gZ 2) [eN t,f,Y (dC a,b),eN c]=Y (!decide (lc t c∈a),[eN t,f,Y (dC a,b),eN c]):=jW<|jO (b:=dC a) (Lr _ _) (jE (b:=C)<|jU2 (OU q s p) (jV I)<|jV I).r<|jR I
  have l:kZ (hW 3) IS ((c::g).map cD) [Y<|enc t,f,Y (dC a,b),x]=(IS [Y<|enc t,f,Y (dC a,b),Y<|enc c]).bind λo=>match o with
   | .nx d=>kZ (hW 3) IS (g.map cD) d
   | .ct d=>kZ (hW 3) IS (g.map cD) d
   | .bk d=>Y<|.nx d
   | .rt r d=>Y (.rt r d):=rfl
  rw[l,wN];by_cases k:lc t c∈a
  .rw[oK k] at i ⊢;obtain⟨j,e⟩:=u (eN c) λc m=>h c<|jU _ m;refine⟨j,?_⟩;have s1:IS [eN t,f,Y (dC a,b),eN c]=Y (.nx [eN t,f,Y (dC a,b),eN c]):=(hX<|(md i).trans I).trans I;rw[s1];exact e
  .rw[mB k] at i ⊢;refine⟨eN c,?_⟩;have s1:IS [eN t,f,Y (dC a,b),eN c]=Y (.rt (.bl C,C) [eN t,f,Y (dC a,b),eN c]):=iD<|(nH i).trans I;rw[s1];rfl
def Gm{n:Nat}(i:n<=5){t:iu}(j:TT n t)(d a:jo)(hk: ∀c∈a,ClOk n c)(b:Bool):lU [enc t,(.tup<|a.map cD,C),(dC d,b)]=Y ((.bl<|a.all λc=>decide<|lc t c∈d,C),[eN t,tpC a,Y (dC d,b)]):=by
 obtain⟨x,e⟩:=ZP i j d b (tpC a) a J hk;have h: ∀x,iN [enc t,(.tup<|a.map cD,C),(dC d,b)] [eN t,tpC a,Y (dC d,b),x]=[eN t,tpC a,Y (dC d,b)]:=λx=>by cases b<;>rfl
 cases g:a.all λc=>decide (lc t c∈d) with
 |true=>
  rw[g,iF I] at e;have q:=jc (n:=4) (np:=3) (asg:=[3]) (f:=tw) (args:=[enc t,(.tup<|a.map cD,C),(dC d,b)]) (r:=(.bl U,C)) (δ:=[eN t,tpC a,Y (dC d,b),x]) ⟨rfl,by decide,by cases b<;>rfl⟩<|(hX<|(ki I).trans e).trans<|iD I
  rwa [h] at q
 |false=>
  rw[g,iL kF] at e;have q:=jc (n:=4) (np:=3) (asg:=[3]) (f:=tw) (args:=[enc t,(.tup<|a.map cD,C),(dC d,b)]) (r:=(.bl C,C)) (δ:=[eN t,tpC a,Y (dC d,b),x]) ⟨rfl,by decide,by cases b<;>rfl⟩<|iD<|(ki I).trans e
  rwa [h] at q
def V1: ∀c:List Int,CB (c.map .int)=Y (c.map cI):=by
 intro b
 induction b with
 |nil=>exact I
 |cons x c a=>simp only[jx,CB,uX,jv];rw[a];rfl
def VZ: ∀a:List (List Int),Lw (a.map λc=> .tup [cD c,.bl U])=Y (a.map λc=>c.map cI):=by
 intro d
 induction d with
 |nil=>exact I
 |cons c a b=>simp only[jx,Lw,kyT];rw[b,show An (cD c)=Y (c.map cI) from V1 c];rfl
def PM{d:jo}(h:d.Nodup)(g:(Ix d)<=1000):zH (.lst<|d.map λc=> .tup [cD c,.bl U])=Y (dC d,U):=by
 show((Lw<|d.map λc=> .tup [cD c,.bl U]).bind λd=>if (Ix d)<=1000/\d.Nodup then Y (D.oth .dct (d.map λk=> .tup (k.map ke))<|d.map λ_=> .bl U,U) else J)=_;rw[VZ];simp only[jv];have i:(d.map λc=>c.map (cI:Int->Key)).Nodup:=r0 _ (λa b f e=>f<|(List.map_inj_right λ_ _ e=>Sum.inl.inj e).mp e) h;rw[iF ⟨by simpa using g,i⟩];unfold dC;rw[jZ,jZ]
 have:((λk:List Key=>D.tup<|k.map ke)∘λc:List Int=>c.map cI)=cD:=by funext c;simp only[bc,jZ,cD];rfl
 rw[this];rfl
abbrev fDc(i:Nat):F:=ir (g1 zH) [hG<|iT [] 1 (iJ<|ie gIx (gZ i)<|hG<|fC<|.int 1) (hW 0) je<|jb<|jD [iI 0,fC<|.bl U]]
def P6{n i:Nat}{a:jo}{δ:Dn}(c:δ[i]?=Y (rS n a))(h:a.Nodup)(g:(Ix a)<=1000):fDc i δ=Y ((dC a,U),δ):=by
 refine jC (PM h g) (jE (b:=U) ?_).r;have e:=xE (caps:=[]) (fi:=iJ<|ie gIx (gZ i)<|hG<|fC<|.int 1) (f:=jD [iI 0,fC<|.bl U]) (δ:=δ) (δ1:=δ) (l:=a.map cD) (args:=[]) (λd=> .tup [d,.bl U]) ?_ I I (λd hd=>⟨C,by simp[jI,iI]⟩) (by simp;lia)
 .rw[jZ] at e;exact e
 .rw[JH,jO (r:=(.tup<|a.map cD,C)) I (jV c).r (jE I).r];rfl
def OT{n:Nat}{a:jo}(h:xJ n a):my [(rD' n a,C)]=Y ((.lst<|((yI n n).filter λt=>a.all λc=>decide<|lc t c∈a).map cD,U),[rS n a]):=by
 obtain⟨j,hk,_,u⟩:=h;obtain⟨o,m⟩:=GR j;have hd:=P6 (n:=n) (i:=0) (δ:=[rS n a,J]) I hk.1 (by lia);have q:=Cd n (by lia) n (by lia)
 obtain⟨v,e⟩:=Yo (f:=iI 2) (ti:=fT<|ik lU [gZ 2,hG<|ie gIx (gZ 1)<|hG<|fC<|.int 1,gZ 0]) (g:=λd=>d) (p:=λd=>a.all λc=>decide<|lc (unC d) c∈a) (pre:=[Y (dC a,U),rS n a]) ((yI n n).map cD) [] J (λd hd=>by obtain⟨t,s,rfl⟩:=mS.mp hd;rw[qK];have tt:=(Cc s).tt;refine⟨jW (o:=C)<|(jn (δ1:=[Y (dC a,U),rS n a,eN t]) (os:=[.slot 2,.val (.tup<|a.map cD,C),.slot 0]) (args:=[enc t,(.tup<|a.map cD,C),(dC a,U)]) (mG I<|lu (iz<|jO I (jV I).r (jE I).r) I) I (nd1 0)<|Gm j tt a a hk.2 U).trans I,λ_=>⟨C,rfl⟩⟩) (by rw[jI];simp;lia)
 rw[pQ,rV] at e;simp only[qK] at e;refine jc (δ:=[rS n a,Y (dC a,U)]) ⟨rfl,by decide,rfl⟩<|(hX<|jj (i:=1) hd (show 1<2 by decide)).trans<|iD<|jq ?_;refine(P7 (caps:=[1,0]) (k:=1) (l:=(yI n n).map cD) (δ1:=[rS n a,Y (dC a,U)]) (args:=[(dC a,U),(rD' n a,C)]) (lL (o:=o) ?_) I (nd1 1) e).trans I;exact jU1 m<|jE (b:=C)<|jO I (jV I).r (jE I).r
def Gb{f:Type}[DecidableEq f]: ∀(l m:List f),l.Nodup->(∀x∈l,x∈m)->Ix m<=Ix l->l.Perm m:=by
 intro j
 induction j with
 |nil=>intro m _ _ h;rw[MU.mp<|tv.mp h]
 |cons x l i=>intro m a b g;rw[zk] at a;have c:=b x jP;have k:=i (m.erase x) a.2 (λy d=>(DV (show y≠x from λe=>a.1<|e▸d)).mpr<|b y<|jU _ d) (by rw[MA c];simp at g;omega);exact(k.cons x).trans (GU c).symm
def VX{n:Nat}{t a b:iu}(f:TT n t)(c:ClOk n a)(d:ClOk n b)(e:lc t a=lc t b):a=b:=by
 have i:=(vE f c).1.1;have m:=(vE f d).1.1;rw[e] at i;have j:=i.symm.trans m;have k:=j.length_eq;simp only[jz] at k
 have l:a.Perm b:=Gb _ _ (Gd<|C4 c.2.1) (λs h=>by obtain⟨r,g,e⟩:=mS.mp<|j.mem_iff.mp<|qI h;rw[<-Ax f (d.2.2 r g) (c.2.2 s h) e];exact g) (by lia)
 have o:=qt.mp c.2.1;have p:=qt.mp d.2.1;exact l.eq_of_pairwise (λx y _ _ h1 q=>by lia) o p
def OY{n:Nat}{t:iu}{d g:jo}(p:TT n t)(f:xJ n d)(h:LR t d g):(g=d)↔ ∀c∈d,lc t c∈d:=by
 constructor
 .rintro rfl c i;exact h.1.mem_iff.mpr<|qI i
 .intro j
  have r:(d.map<|lc t).Nodup:=by rw[TM,qt];refine r3 ?_<|TM.mp f.2.1.1;intro a b l m k e;exact k<|VX p (f.2.1.2 a l) (f.2.1.2 b m) e
  have o:g.Perm d:=by refine h.1.trans<|Gb _ _ r (λx q=>?_) (by simp);obtain⟨c,i,rfl⟩:=mS.mp q;exact j c i
  exact Ni o h.2 f.2.2.1
def Q4{n:Nat}{d:D}(h:tB n d=U): ∃t,d=cD t/\TT n t:=by
 rw[FG] at h
 cases d with
 |tup l=>
  simp only[lB,kJ,lG,ni] at h;refine⟨l.map iOf,?_,?_⟩
  .have:l=(l.map iOf).map D.int:=by
    rw[jZ]
    conv=>lhs;rw[<-oJ l]
    exact ph λd hd=>Er<|h.1 d hd
   exact nM D.tup this
  .unfold TT;rw[jZ];exact h.2
 |_=>cases h
noncomputable def liB(n:Nat)(a:jo)(d:D):Bool:=tB n d&&a.all λc=>decide<|lc ((rH d).map iOf) c∈a
def sH(t:iu):(rH<|cD t).map iOf=t:=qK t
theorem Kh: ∀a b:List (List Int),D.eqbL (a.map cD) (b.map cD)=decide (a=b)
 |[],[]=>rfl
 |[],_::_=>rfl
 |_::_,[]=>rfl
 |x::a,y::b=>by rw[jx,jx,D.eqbL,IZ,Kh a b];simp
def V7(n:Nat)(a b:jo):gEq (rD' n a) (rD' n b)=Y (.bl<|decide<|a=b,C):=by unfold gEq;rw[iF ⟨P9 n a,P9 n b⟩];simp only[D.eqb,D.eqbL];rw[Kh];simp
def Pn{f:EvF}{g fb i:FO}{δ:Dn}{a b c:D}{r:D×Bool}{e:Dn}(h:f [(a,C),(b,C),(c,C)]=Y (r,e))(k:FJ g δ a)(l:FJ fb δ b)(m:FJ i δ c):ik f [g,fb,i] δ=Y (r,δ):=by obtain⟨o,h1,_,j⟩:=k;obtain⟨t,n,_,p⟩:=l;obtain⟨u,q,_,s⟩:=m;refine(jn (mG h1<|lu n q) (args:=[a,b,c].map λd=>(d,C)) (by simp[j,p,s]) (by rw[uV];exact lX) h).trans ?_;rw[Fy]
section
variable {n:Nat}{c:jo}(h:xJ n c){d:D}(hd:OkD d)
include h hd
theorem Dl:mJ [(rD' n c,C),(d,C)]=Y ((.bl<|liB n c d,C),[rS n c,Y (d,C)]):=by
 have a:ik kd [hG<|ie gIx (gZ 0)<|hG<|fC<|.int 0,gZ 1] [rS n c,Y (d,C)]=Y ((.bl<|tB n d,C),[rS n c,Y (d,C)]):=jU2 (uE n d hd) (jE (b:=C)<|jO I (jV I).r (jE I).r)<|jV I;refine UW ⟨rfl,by decide,rfl⟩ (δ:=[rS n c,Y (d,C)]) ?_;unfold liB
 cases e:tB n d with
 |false=>rw[e] at a;exact Fg a
 |true=>
  rw[e] at a;obtain⟨t,rfl,f⟩:=Q4 e;obtain⟨j,i,g⟩:=XF f h;refine(zJ a).trans (jO ?_ (jE (b:=C)<|jU2 g (jV I)<|jV I).r (jV I).r);rw[V7,sH,uk]
  congr 3
  rw[yK,ni,lG,OY f h i];simp only[ni]
theorem OR:kD [pI n,(d,C)]=Y ((.bl<|tB n d,C),[ii n,Y (d,C)]):=by
 have z:=h.1;rw[FG]
 cases d with
 |tup l=>
  have B:=hd l I;by_cases h1:(Ix l)=n
  .have m:=yz (caps:=[0]) (fi:=iJ<|iI 1) (f:=ik jT [gZ 1,hG<|kN mN<|gZ 0,gZ 0]) (δ:=[ii n,Y (.tup l,C)]) (δ1:=[ii n,Y (.tup l,C)]) (l:=l) (args:=[.int n]) (λd=>match d with| .int i=>decide (-(n:Int)<=i)&&decide (i<=n)|_=>C) I I I (λd _=>⟨C,Pn (OQ d (-(n:Int)) n) (jV I) (jE (b:=C) I)<|jV I⟩) (by lia);have p:qW (kW<|fT<|kN (uh [.tuple])<|gZ 1) (fT<|ie gNe (hG<|ir (g1 oz) [gZ 1])<|gZ 0) [ii n,Y (.tup l,C)]=Y (C,[ii n,Y (.tup l,C)]):=(qj (δ1:=[ii n,Y (.tup l,C)]) I).trans<|jW (o:=C)<|jO (a:= .int n) (Gw<|by simp[D.dep]) (jE (b:=C)<|jC (by rw[HV,h1]) (jV I).r).r (jV I).r;by_cases g:(l.all λd=>match d with| .int i=>decide (-(n:Int)<=i)&&decide (i<=n)|_=>C)=U
   .rw[g] at m
    have v:l.all wh=U:=lG.mpr λd hd=>by have:=lG.mp g d hd;cases d<;>simp_all [wh]
    have w:=xE (caps:=[]) (fi:=iJ<|iI 1) (f:=ir (g1 mF) [gZ 0]) (δ:=[ii n,Y (.tup l,C)]) (δ1:=[ii n,Y (.tup l,C)]) (l:=l) (args:=[]) (λd=> .int (ab<|iOf d)) I I I (λd hd=>⟨C,by rw[Er<|lG.mp v d hd];rfl⟩) (by lia);have y:(l.map λd=>D.int<|ab<|iOf d)=(l.map λd=>ab<|iOf d).map .int:=by rw[jZ];rfl
    have s:=E9 (l.map λd=>ab<|iOf d) (by simp;lia);have u:=KN (l.map λd=>ab<|iOf d) n;rw[<-y] at s u;have j:lB n (.tup l)=decide ((l.map λd=>ab<|iOf d).Perm<|st n):=by rw[lB,v,uk]
    rw[j];refine jc (δ:=[ii n,Y (.tup l,C)]) ⟨rfl,by decide,rfl⟩<|(hX<|(md p).trans I).trans<|(hX<|(md<|jL<|jW m).trans I).trans<|iD<|jq ?_;exact ju (iz<|jM (oZ<|iz w) I s) (iz<|jM (os:=[.val (.int 1,C),.val (.int<|(n:Int)+1,C)]) I I<|Rh n z) I I u
   .rw[j5] at g;rw[g] at m
    have j:lB n (.tup l)=C:=by rw[Ma];intro k;rw[<-FG] at k;obtain⟨t,e,q⟩:=Q4 k;cases e;rw[<-j5] at g;refine g<|lG.mpr λd hd=>?_;obtain⟨x,A,rfl⟩:=mS.mp hd;have:=q.sg A;unfold SG ab at this;simp;split at this<;>lia
    rw[j];exact jc (δ:=[ii n,Y (.tup l,C)]) ⟨rfl,by decide,rfl⟩<|(hX<|(md p).trans I).trans<|iD<|(nH<|jL<|jW m).trans<|iD I
  .have p:qW (kW<|fT<|kN (uh [.tuple])<|gZ 1) (fT<|ie gNe (hG<|ir (g1 oz) [gZ 1])<|gZ 0) [ii n,Y (.tup l,C)]=Y (U,[ii n,Y (.tup l,C)]):=by
    refine(qj (δ1:=[ii n,Y (.tup l,C)]) I).trans (jW (o:=C)<|jO (a:= .int (Ix l)) ?_ (jE (b:=C)<|jC (by rw[HV]) (jV I).r).r (jV I).r);have: ¬(((Ix l):Int)=n):=by lia
    simp[gNe,D.eqb,D.dep,this]
   have j:lB n (.tup l)=C:=by rw[Ma];intro k;rw[<-FG] at k;obtain⟨t,e,q⟩:=Q4 k;cases e;exact h1 (by simp[q.len])
   rw[j];exact jc (δ:=[ii n,Y (.tup l,C)]) ⟨rfl,by decide,rfl⟩<|iD<|(nH p).trans<|iD I
 |_=>simp[kD,oi,evF,isT,iN,lB]
end
section
variable {n:Nat}{b:jo}(h:xJ n b)
include h
noncomputable abbrev lik(n:Nat)(b:jo):List (List Int):=(yI n n).filter λt=>b.all λc=>decide<|lc t c∈b
theorem Sz:(lik n b).length<=3840:=ly (AB _ _)<|Cd n (by have:=h.1;lia) n (by have:=h.1;lia)
theorem OZ{t:iu}(a:t∈lik n b):TT n t:=(Cc (Fu.mp a).1).tt
theorem Sy:0<(lik n b).length:=by refine List.length_pos_of_mem (a:=st n)<|Fu.mpr ⟨UH n (by have:=h.1;lia),lG.mpr λc d=>?_⟩;rw[XH<|h.2.1.2 c d,oK d]
end
noncomputable def pj(t:iu)(k:Nat):Nat:=(ab<|t.getD k 0).toNat-1
noncomputable def vA(t a:iu)(k:Nat):Int:=if t.getD k 0>0 then a.getD k 0 else 1-a.getD k 0
abbrev fvA:F:=ie gIx (hG<|lj [ie gSub (hG<|fC<|.int 1)<|hG<|ie gIx (gZ 1)<|gZ 3,ie gIx (gZ 1)<|gZ 3])<|hG<|ir (g1 IK) [hG<|ie (lr .Gt) (gZ 4)<|hG<|fC<|.int 0]
abbrev Yf:FS:=ig (oX 2 fvA<|hG<|ie gSub (hG<|ir (g1 mF) [gZ 4])<|hG<|fC<|.int 1) iB
def X1{a:iu}{k:Nat}(h:k<Ix a):gIx (cD a) (.int k)=ii (a.getD k 0):=by simp[gIx,atI,ixN,h,lR]
section
variable {n:Nat}{t w a:iu}(c:TT n t)(o:Cm n a)
include c o
theorem Pd(i:BK n t w){k:Nat}(hk:k<n):(laF w a).getD (pj t k) 0=vA t a k:=by
 obtain⟨r,_,_,h,_⟩:=Ya c n 0 t J J (by lia) ⟨c.len,λj q=>absurd q<|by lia⟩;have e:=i.uniq c<|Pp c h;subst e;have m:=h.2 k hk;have g:=c.sg<|kY (l:=t) (k:=k) (by rw[c.len];exact hk);have f:pj t k<(Ix w):=by have:=g.1;have:=g.2;rw[i.1];unfold pj;lia
 have p:w[pj t k]=sgJ t k:=by rw[<-m];simp[lR,pj] at f ⊢;simp[f]
 have b:=o.2 (a.getD k 0)<|kY (by rw[o.1];exact hk);rw[laF,lR,mv,jt f,p];simp only[eV,gA];unfold soB sgJ vA;by_cases d:t.getD k 0>0
 .rw[iF d,iF d,qm<|by lia,show((k:Int)+1).toNat-1=k by lia,iF (show(k:Int)+1>0 by lia)];rcases b with b|b<;>rw[b]<;>rfl
 .rw[iL d,iL d,Ci<|by lia,show((k:Int)+1).toNat-1=k by lia,iL (show ¬ -((k:Int)+1)>0 by lia)];rcases b with b|b<;>rw[b]<;>rfl
theorem Tf{k:Nat}(hk:k<n){f:iu}(j:(Ix f)=n):Yf [eN t,eN a,lsi f,ii k,ii<|t.getD k 0]=Y (.nx [eN t,eN a,lsi<|f.set (pj t k)<|vA t a k,ii k,ii<|t.getD k 0]):=by
 let δ:Dn:=[eN t,eN a,lsi f,ii k,ii<|t.getD k 0]
 have e:=c.sg<|kY (l:=t) (k:=k) (by rw[c.len];exact hk);have m:=X1 (a:=a) (k:=k) (by rw[o.1];exact hk);have d:ie gIx (gZ 1) (gZ 3) δ=Y ((.int<|a.getD k 0,C),δ):=jO m (jV I).r (jV I).r
 have h:fvA δ=Y ((.int<|vA t a k,C),δ):=by
  refine jO (a:= .lst [.int (1-a.getD k 0),.int<|a.getD k 0]) (b:= .int (if t.getD k 0>0 then 1 else 0)) ?_ (jE (b:=U) ?_).r (jE (b:=C)<|jC (a:= .bl (decide<|t.getD k 0>0)) ?_ (jE<|jO (ND _ _) (jV I).r (jE I).r).r).r
  .unfold vA;split<;>rfl
  .rw[HX];simp only[jx,nj];rw[lu (iz<|jO (g:=gSub) (a:= .int 1) I (jE I).r (jE d).r)<|iz d];simp[jI,nN]
  .by_cases p:t.getD k 0>0<;>simp[p]
 have q:ixN (f.map D.int).length (ab (t.getD k 0)-1)=Y (pj t k):=by
  have:=e.1;have:=e.2;unfold ixN pj;rw[jz,j,iF<|by lia,iF<|by lia]
  congr 1;lia
 have i:hG (ie gSub (hG<|ir (g1 mF) [gZ 4])<|hG<|fC<|.int 1) δ=Y (.val (.int<|ab (t.getD k 0)-1,C),δ):=rfl;refine(hX (δ1:=[eN t,eN a,lsi<|f.set (pj t k)<|vA t a k,ii k,ii<|t.getD k 0]) ?_).trans I;unfold oX;rw[h];simp only[jv,δ,rZ,ux];rw[i];simp only[jv,Bf,δ,rZ,ux];rw[q];simp[lsi,pc]
theorem OV(v:BK n t w):mz [enc t,enc a]=Y (enc<|laF w a,[eN t,eN a]):=by
 obtain⟨_,⟨f,k,m,x,y,h1,b,z,g,rfl⟩,e⟩:=qE (tg:=oN [hW 3,hW 4]) (fb:=Yf) (λds δ=> ∃f k m x y,k+m=n/\(Ix f)=n/\(∀j,j<k->f.getD (pj t j) 0=vA t a j)/\ds=((bU k m).map λ(j:Nat)=>D.tup [.int j,.int<|t.getD j 0])/\δ=[eN t,eN a,lsi f,x,y]) (λd ds δ M=>by
  obtain⟨f,k,m,x,y,h1,b,z,g,N⟩:=M;subst N
  cases m with
  |zero=>cases g
  |succ m=>
   rw[AL,jx] at g;obtain⟨rfl,rfl⟩:=sh g;refine⟨_,_,rfl,Tf c o (k:=k) (by lia) b,_,k+1,m,_,_,by lia,by simpa using b,?_,rfl,rfl⟩;intro j p;have A:=c.sg<|kY (l:=t) (k:=k) (by rw[c.len];lia);have B:pj t k<(Ix f):=by have:=A.1;have:=A.2;rw[b];unfold pj;lia
   by_cases r:pj t j=pj t k
   .have u:=Pd c o v (k:=k) (by lia);rw[<-r,Pd c o v (k:=j)<|by lia] at u;rw[r,u];simp[lR,B]
   .rw[lR,tU<|rA r,<-lR];refine z j ?_;rcases Nat.lt_succ_iff_lt_or_eq.mp p with h|h
    .exact h
    .rw[h] at r;exact absurd I r) ((bU 0 n).map λ(j:Nat)=>D.tup [.int j,.int<|t.getD j 0]) [eN t,eN a,lsi a,J,J] ⟨a,0,n,J,J,by lia,o.1,λj p=>absurd p<|by lia,rfl,rfl⟩
 have A:m=0:=by
  cases m with
  |zero=>rfl
  |succ m=>rw[AL] at g;cases g
 have hk:k=n:=by lia
 have L:f=laF w a:=by
  apply wM
  .rw[b,laF,jz,v.1]
  .intro i T G;have:((i:Int)+1)∈t.map ab:=c.mem_iff.mpr<|KJ.mpr (by lia);obtain⟨s,Q,e⟩:=mS.mp this;obtain⟨j,p,rfl⟩:=List.mem_iff_getElem.mp Q;have E:j<n:=by rw[<-c.len];exact p
   have B:pj t j=i:=by unfold pj;simp[lR,p];lia
   have a1:=z j (by lia);have C:=Pd c o v E;rw[B] at a1 C;rw[<-C] at a1;simpa[lR,T,G] using a1
 subst L;refine jc (δ:=[eN t,eN a,lsi<|laF w a,x,y]) ⟨rfl,by decide,rfl⟩ ?_;refine(hX (δ1:=[eN t,eN a,lsi a,J,J]) I).trans ((hX<|(ki (δ1:=[eN t,eN a,lsi a,J,J]) (ds:=(bU 0 n).map λ(j:Nat)=> .tup [.int j,.int<|t.getD j 0]) ?_).trans e).trans ?_)
 .show Y (((t.map D.int).zipIdx).map λq=>D.tup [.int (0+q.2),q.1],([eN t,eN a,lsi a,J,J]:Dn))=_
  congr 2
  apply wM
  .simp[c.len]
  .intro i h1 b;have O:i<(Ix t):=by simpa using h1
   simp[lR,O]
 .exact iD (jq<|jC (a:= .lst ((laF w a).map D.int)) I<|jR I)
end
def XJ{n:Nat}{d:D}(h:lC n d=U): ∃c,d=cD c/\ClOk n c:=by obtain⟨c,rfl,a⟩:=XM h;refine⟨c,rfl,a,?_⟩;rw[lC,kJ,kJ,ni,ni,lG] at h;refine⟨by simpa[aI,rh,iOf] using h.2.2,λs b=>?_⟩;simpa[sg] using h.2.1 (.int s)<|qI b
noncomputable def brk(n:Nat)(b:jo)(c:iu):List (List Int):=(lF n b).filter λa=>!kC a c
noncomputable abbrev lwB(w a:iu):Bool:=ltT (cD<|laF w a)<|cD a
def ym{n:Nat}{b:jo}{a:iu}(h:a∈lF n b):Cm n a:=WI.mp (Fu.mp h).1
def BB{n:Nat}(a:n<=5)(b:jo):(lF n b).length<=32:=ly (AB _ _)<|Cf a
def Tp{n:Nat}(b:n<=5)(a:jo)(c:iu):(brk n a c).length<=32:=ly (AB _ _)<|BB b a
def Cg{n:Nat}{a:jo}(h:xJ n a){c:iu}(b:ClOk n c):nE [(rD' n a,C),enc c]=Y ((.lst<|(brk n a c).map cD,U),[rS n a,eN c]):=by
 have q:=BV (caps:=[1]) (fi:=iJ<|ik tJ [gZ 0]) (f:=iI 1) (ti:=kW<|fT<|ik mh [gZ 1,gZ 0]) (δ:=[rS n a,eN c]) (l:=(lF n a).map cD) (args:=[cD c]) (λd=>d) (λd=>!kC ((rH d).map iOf) c) (lL<|jU1 (Jm h)<|jV I) I I (λd hd=>by obtain⟨t,e,rfl⟩:=mS.mp hd;rw[sH];exact⟨jL<|jW (o:=C)<|jU2 (Pm h.1 (ym e).1 b) (jV I)<|jV I,λ_=>⟨C,rfl⟩⟩) (by have:=BB h.1 a;simp;lia)
 rw[rV] at q;simp only[sH] at q;exact jc ⟨rfl,by decide,rfl⟩<|iD<|jq q
section
variable {n:Nat}(j:n<=5){t w:iu}(g:TT n t)(k:BK n t w)
include j g k
theorem UR{a:iu}(c:Cm n a):nY [enc a,enc t]=Y ((.bl (!lwB w a),C),[eN a,eN t]):=
 UW ⟨rfl,by decide,rfl⟩ (jO (XG _ _) (jV I).r (jE (b:=C)<|jU2 (SD j g k c) (jV I)<|jV I).r)
abbrev IT:FS:=ig (sIf (fT<|ik nY [gZ 2,gZ 0]) (ig (jK<|fC<|.bl C) iB) iB) iB
theorem X8(d:Sl): ∀(L:jo) (x:Sl),(∀a∈L,Cm n a)-> ∃i,kZ (hW 2) IT (L.map cD) [eN t,d,x]=if L.all (lwB w)=U then Y (.nx [eN t,d,i]) else Y (.rt (.bl C,C) [eN t,d,i]):=by
 intro s
 induction s with
 |nil=>intro x _;exact⟨x,rfl⟩
 |cons a L q=>
  intro x h;have f:fT (ik nY [gZ 2,gZ 0]) [eN t,d,eN a]=Y (!lwB w a,[eN t,d,eN a]):=jW (o:=C)<|jU2 (UR j g k<|h a jP) (jV I)<|jV I
  have m:kZ (hW 2) IT ((a::L).map cD) [Y<|enc t,d,x]=(IT [Y<|enc t,d,Y<|enc a]).bind λo=>match o with
   | .nx b=>kZ (hW 2) IT (L.map cD) b
   | .ct b=>kZ (hW 2) IT (L.map cD) b
   | .bk b=>Y<|.nx b
   | .rt r b=>Y (.rt r b):=rfl
  rw[m,wN];cases l:lwB w a
  .rw[l] at f;refine⟨eN a,?_⟩;have s1:IT [eN t,d,eN a]=Y (.rt (.bl C,C) [eN t,d,eN a]):=iD<|(nH f).trans I;rw[s1];rfl
  .rw[l] at f;obtain⟨i,e⟩:=q (eN a) λc p=>h c<|jU _ p;refine⟨i,?_⟩;have s1:IT [eN t,d,eN a]=Y (.nx [eN t,d,eN a]):=(hX<|(md f).trans I).trans I;rw[s1];exact e
theorem Df(L:jo)(c: ∀a∈L,Cm n a):zK [enc t,(.lst<|L.map cD,C)]=Y ((.bl<|L.all<|lwB w,C),[eN t,Y (.lst<|L.map cD,C)]):=by
 obtain⟨x,e⟩:=X8 j g k (Y (.lst<|L.map cD,C)) L J c
 cases b:L.all (lwB w) with
 |true=>rw[b,iF I] at e;exact jc (δ:=[eN t,Y (.lst<|L.map cD,C),x]) ⟨rfl,by decide,rfl⟩<|(hX<|(ki I).trans e).trans<|iD I
 |false=>rw[b,iL kF] at e;exact jc (δ:=[eN t,Y (.lst<|L.map cD,C),x]) ⟨rfl,by decide,rfl⟩<|iD<|(ki I).trans e
theorem J3(h:jo){c:iu}(s:ClOk n c)(o:Bool):lh [(.lst<|(lF n h).map cD,o),enc c,enc t]=Y ((.bl<|(brk n h c).all<|lwB w,C),[Y (.lst<|(lF n h).map cD,C),eN c,eN t]):=by
 let δ:Sl->Bool->Dn:=λz o=>[Y (.lst<|(lF n h).map cD,o),eN c,eN t,z]
 have q:=BV (caps:=[1]) (fi:=iJ<|iI 0) (f:=iI 1) (ti:=kW<|fT<|ik jH [gZ 1,gZ 0]) (δ:=δ J o) (δ1:=δ J C) (l:=(lF n h).map cD) (args:=[cD c]) (λd=>d) (λd=>!kC ((rH d).map iOf) c) (lL (o:=C) I) I I (λd hd=>by obtain⟨t,g,rfl⟩:=mS.mp hd;rw[sH];exact⟨jL<|jW (o:=C)<|jU2 (J5 j (ym g).1 s) (jV I)<|jV I,λ_=>⟨C,rfl⟩⟩) (by have:=BB j h;simp;lia)
 rw[rV] at q;simp only[sH] at q
 have m:=yz (caps:=[2]) (fi:=iJ<|iI 3) (f:=ie (lr .Lt) (hG<|ik mz [gZ 0,gZ 1])<|gZ 1) (δ:=δ (Y (.lst<|(brk n h c).map cD,U)) C) (δ1:=δ (Y (.lst<|(brk n h c).map cD,C)) C) (l:=(brk n h c).map cD) (args:=[cD t]) (λd=>lwB w<|(rH d).map iOf) (lL (o:=C) I) I I (λd hd=>by obtain⟨a,p,rfl⟩:=mS.mp hd;rw[sH];exact⟨C,jO (XB _ _) (jE (b:=C)<|jU2 (OV g (ym (Fu.mp p).1) k) (jV I)<|jV I).r (jV I).r⟩) (by have:=Tp j h c;simp;lia)
 rw[dz] at m
 have e:((brk n h c).all<|(λd=>lwB w<|(rH d).map iOf)∘cD)=(brk n h c).all (lwB w):=by congr 1;funext a;simp only[bc,sH]
 rw[e] at m;have r:=jc (n:=4) (np:=3) (asg:=[3]) (f:=va) (args:=[(.lst<|(lF n h).map cD,o),enc c,enc t]) ⟨rfl,by decide,by cases o<;>rfl⟩<|(hX (δ1:=δ (Y (.lst<|(brk n h c).map cD,U)) C)<|jj (i:=3) q (show 3<4 by decide)).trans<|iD<|jq m;have u:iN [(.lst<|(lF n h).map cD,o),enc c,enc t] (δ (Y (.lst<|(brk n h c).map cD,C)) C)=[Y (.lst<|(lF n h).map cD,C),eN c,eN t]:=by cases o<;>rfl
 rwa [u] at r
end
def Sw{n:Nat}{f:jo}(h:xJ n f){d e:D}(hd:OkD d)(y: ∀l,d= .tup l->d.dep<=50)(E:OkD e): ∃B,mH [(rD' n f,C),(d,C),(e,C)]=Y ((.bl B,C),[rS n f,Y (d,C),Y (e,C)])/\lO [(rD' n f,C),(.lst<|(lF n f).map cD,C),(d,C),(e,C)]=Y ((.bl B,C),[rS n f,Y (.lst<|(lF n f).map cD,C),Y (d,C),Y (e,C)]):=by
 let δ:Dn:=[rS n f,Y (d,C),Y (e,C)]
 let j:Sl->Dn:=λz=>[rS n f,Y (.lst<|(lF n f).map cD,C),Y (d,C),Y (e,C),z]
 have m:ik lA [hG<|ie gIx (gZ 0)<|hG<|fC<|.int 0,gZ 1] δ=Y ((.bl<|lC n d,C),δ):=by have:=wy n d λl p=>ly (hd l p) (by decide);rw[Ud n h.1] at this;exact jU2 this (jE (b:=C)<|jO I (jV I).r (jE I).r)<|jV I
 have o:ik lN [hG<|ie gIx (gZ 0)<|hG<|fC<|.int 0,gZ 2] (j J)=Y ((.bl<|lC n d,C),j J):=jU2 (Bx n d y) (jE (b:=C)<|jO I (jV I).r (jE I).r)<|jV I;have q:ik mJ [gZ 0,gZ 2] δ=Y ((.bl<|liB n f e,C),δ):=jU2 (Dl h E) (jV I)<|jV I;have v:ik kD [hG<|ie gIx (gZ 0)<|hG<|fC<|.int 0,gZ 3] (j J)=Y ((.bl<|tB n e,C),j J):=jU2 (OR h E) (jE (b:=C)<|jO I (jV I).r (jE I).r)<|jV I
 have s:(lC n d&&liB n f e)=C->mH [(rD' n f,C),(d,C),(e,C)]=Y ((.bl C,C),[rS n f,Y (d,C),Y (e,C)]):=λg=>by
  refine jc (δ:=δ) ⟨rfl,by decide,rfl⟩<|iD<|(nH (δ1:=δ) ?_).trans<|iD I
  cases k:lC n d with
  |false=>rw[k] at m;exact Ff<|jL<|jW m
  |true=>rw[k] at m g;rw[uk] at g;rw[g] at q;exact(qj<|jL<|jW m).trans (jL<|jW q)
 have A:(lC n d&&tB n e)=C->lO [(rD' n f,C),(.lst<|(lF n f).map cD,C),(d,C),(e,C)]=Y ((.bl C,C),[rS n f,Y (.lst<|(lF n f).map cD,C),Y (d,C),Y (e,C)]):=λg=>by
  refine jc (δ:=j J) ⟨rfl,by decide,rfl⟩<|iD<|(nH (δ1:=j J) ?_).trans<|iD I
  cases k:lC n d with
  |false=>rw[k] at o;exact Ff<|jL<|jW o
  |true=>rw[k] at o g;rw[uk] at g;rw[g] at v;exact(qj<|jL<|jW o).trans (jL<|jW v)
 cases g:lC n d&&tB n e with
 |false=>refine⟨C,s ?_,A g⟩;rw[liB,<-m5,g,zh]
 |true=>
  rw[kJ] at g;obtain⟨c,rfl,k⟩:=XJ g.1;obtain⟨t,rfl,u⟩:=Q4 g.2;obtain⟨w,T,_⟩:=Fo u;rw[g.1] at m o;rw[g.2] at v;have O:liB n f (cD t)=f.all λc=>decide (lc t c∈f):=by rw[liB,g.2,uk,sH]
  rw[O] at q
  have s1:vb (j J)=(ig (jK<|vc (ik lU [gZ 3,hG<|ie gIx (gZ 0)<|hG<|fC<|.int 1,gZ 4])<|ik lh [gZ 1,gZ 2,gZ 3]) iB) (j<|Y (dC f,U)):=
   (hX<|(md (δ1:=j J)<|(qj<|jL<|jW o).trans<|jL<|jW v).trans I).trans (hX (δ1:=j<|Y (dC f,U))<|jj (i:=4) (δ1:=j J) (P6 (n:=n) I h.2.1.1 (by have:=h.2.2.2;lia)) (show 4<5 by decide))
  have x:ik lU [gZ 3,hG<|ie gIx (gZ 0)<|hG<|fC<|.int 1,gZ 4] (j<|Y (dC f,U))=Y ((.bl<|f.all λc=>decide<|lc t c∈f,C),j<|Y (dC f,U)):=(jn (δ1:=j<|Y (dC f,U)) (os:=[.slot 3,.val (.tup<|f.map cD,C),.slot 4]) (args:=[enc t,(.tup<|f.map cD,C),(dC f,U)]) (mG I<|lu (iz<|jO I (jV I).r (jE I).r) I) I (nd1 4)<|Gm h.1 u f f h.2.1.2 U).trans I
  cases p:f.all λc=>decide (lc t c∈f) with
  |false=>refine⟨C,s<|by rw[O,p,za],?_⟩;rw[p] at x;exact jc (δ:=j<|Y (dC f,U)) ⟨rfl,by decide,rfl⟩<|s1.trans<|iD<|jq<|Fg x
  |true=>
   rw[p] at x q;refine⟨(brk n f c).all<|lwB w,?_,?_⟩
   .refine jc (δ:=δ) ⟨rfl,by decide,rfl⟩ ((hX<|(md (δ1:=δ)<|(qj<|jL<|jW m).trans<|jL<|jW q).trans I).trans<|iD<|jq ?_);exact jU2 (Df h.1 u T (brk n f c) λa Q=>ym (Fu.mp Q).1) (jV I)<|jE<|jU2 (Cg h k) (jV I)<|jV I
   .exact jc (δ:=j<|Y (dC f,U)) ⟨rfl,by decide,rfl⟩ (s1.trans<|iD<|jq<|(zJ x).trans<|Pn (J3 h.1 u T f k C) (jV I) (jV I)<|jV I)
def OkT(d:D):Prop:= ∀l,d= .tup l->Ix l<=60/\D.depL l<=9
theorem GH: ∀(l m:List D),D.depL (l++m)=max (D.depL l) (D.depL m)
 |[],m=>by simp[D.depL]
 |x::l,m=>by simp only[qH,D.depL,GH l m];lia
theorem GG{k:Nat}: ∀{l:List D},(∀x∈l,x.dep<=k)->D.depL l<=k
 |[],_=>by simp[D.depL]
 |x::l,h=>by have h1:=h x jP;have b:=GG (l:=l) λy a=>h y<|jU _ a;simp only[D.depL];lia
def Fj{l:List D}{c:iu}(h: ∀x∈l,x∈c.map D.int):D.depL l=0:=tv.mp (GG λx a=>by obtain⟨i,_,rfl⟩:=mS.mp<|h x a;simp[D.dep])
def Qa(c:iu)(lo a:Option Int):D.depL (mU (c.map D.int) lo a)=0:=Fj (c:=c) λx h=>by unfold PX.mU at h;exact AH<|wH h
def bcM(c:iu)(i:Int)(x:D):List D:=
  [.tup<|mU (c.map .int) J (Y i)++[x]++mU (c.map .int) (Y i) J,.tup<|mU (c.map .int) J (Y i)++[x]++mU (c.map .int) (Y<|i+1) J,.tup (c.map D.int).reverse,.lst<|c.map .int,.tup [],
   .non,.oth .dct [] [],.tup<|mU (c.map .int) J (Y i)++mU (c.map .int) (Y<|i-1) J,x,.tup [.tup<|c.map .int]]
def Sj(c:iu)(j:(Ix c)<=5)(i:Int)(x:D)(p:x.dep<=1)(g:OkT x): ∀d∈bcM c i x,OkT d:=by
 intro d hd;have a: ∀lo b,(mU (c.map D.int) lo b).length<=5:=λlo b=>ly (qG _ _ _) (by simpa using j);have k:=a J<|Y i;have m:=a (Y<|i+1) J;have n:=a (Y i) J;have o:=a (Y<|i-1) J;have e:D.depL (c.map D.int)=0:=Fj (c:=c) λx h=>h;have f:D.depL (c.map D.int).reverse=0:=Fj (c:=c) λx h=>by simpa using h
 simp only[bcM,ku,ll,lY] at hd;rcases hd with rfl|rfl|rfl|rfl|rfl|rfl|rfl|rfl|rfl|rfl
 case inr.inr.inr.inr.inr.inr.inr.inr.inl=>exact g
 all_goals (intro l h;cases h)
 all_goals (simp only[GH,Qa,e,f,D.depL,D.dep,nG,kI,pv,AK,jz];lia)
def Qm(a:Int)(b:Bool)(n:Nat)(E:n<=5)(c:iu)(u:(Ix c)<=5): ∃q d,OkT d/\kT [pS a b,enc c,pI n]=Y ((d,C),[stt q b,eN c,ii n]):=by
 obtain⟨i,a1,T,Q,r⟩:=lI a b (((Ix c):Int)+1) (by lia) (by lia);obtain⟨w,f,B,O,s⟩:=lI a1 b 8 (by lia) (by lia);obtain⟨v,k,z,A,t⟩:=lI f b 10 (by lia) (by lia)
 let e:List D:=[.int 0,.int<|(n:Int)+1,.bl U,.non,.str "1",.tup [.int 1],.int 100000000000000000000000000000,.bl C]
 let x:=e.getD w.toNat .non
 have o:x.dep<=1/\OkT x:=Ca (P:=λx:D=>x.dep<=1/\OkT x) ⟨by decide,λl h=>by cases h⟩ (λd hd=>by simp only[e,ku,ll,lY] at hd;rcases hd with rfl|rfl|rfl|rfl|rfl|rfl|rfl|rfl<;>refine⟨by simp[D.dep,D.depL],λl h=>?_⟩<;>cases h<;>simp[D.dep,D.depL]) _
 have g: ∀lo j,(mU (c.map D.int) lo j).length<=1000:=λlo j=>ly (qG _ _ _) (by simp;lia);have p: ∀lo j,(mU (c.map D.int) lo j).length<=999:=λlo j=>ly (qG _ _ _) (by simp;lia);have m:(Ix c)<=1000:=by lia
 refine⟨k,(bcM c i x).getD v.toNat .non,Ca (λl h=>by cases h) (Sj c u i x o.1 o.2) _,?_⟩;refine jc (δ:=[stt k b,eN c,ii n,ii i,Y (x,C),Y (.lst<|(bcM c i x).take 5,U)]) ⟨rfl,by decide,rfl⟩ ?_;refine(hX (δ1:=[stt a1 b,eN c,ii n,ii i,J,J])<|jj (i:=3) (r _ [eN c,ii n,J,J,J] (.val (.int<|((Ix c):Int)+1,C)) (by simp) rfl) (show 3<6 by decide)).trans ?_;refine(hX (δ1:=[stt f b,eN c,ii n,ii i,Y (x,C),J])<|jj (i:=4) (δ1:=[stt f b,eN c,ii n,ii i,J,J]) (ju (o1:= .val (.lst e,U)) (o2:= .val (.int w,C)) (iz (δ1:=[stt a1 b,eN c,ii n,ii i,J,J])<|by simp[Ua,jI,e,iI]) (iz<|s _ [eN c,ii n,ii i,J,J] _ rfl rfl) I I<|ixl (L:=e) B<|by simpa[e] using O) (show 4<6 by decide)).trans ?_;refine(hX (δ1:=[stt f b,eN c,ii n,ii i,Y (x,C),Y (.lst<|(bcM c i x).take 5,U)]) ?_).trans ?_
 .generalize x=y;simp[nW,oP,gSl,TC,g,p,m,jI,bcM,iI,P4,XZ]
 refine iD<|jq<|ju (o1:= .val (.lst<|bcM c i x,U)) (o2:= .val (.int v,C)) (iz (δ1:=[stt f b,eN c,ii n,ii i,Y (x,C),Y (.lst<|(bcM c i x).take 5,U)]) ?_) (iz<|t _ _ _ rfl rfl) I I<|ixl z (by simpa[bcM] using A);generalize x=y;simp[nW,oP,gSl,TC,Wy,g,p,m,jI,bcM,iI,BM]
def btM(n:Int)(t:iu)(i:Int)(x:D):List D:=
  [.tup<|mU (t.map .int) J (Y i)++[x]++mU (t.map .int) (Y<|i+1) J,.tup<|mU (t.map .int) J (Y i)++[x]++mU (t.map .int) (Y i) J,.tup<|t.map .int++[.int<|n+1],
   .lst (t.map .int),.non,.oth .dct [] [],.lst [x],.tup [.tup<|t.map .int],.tup<|mU (t.map .int) J (Y i)++mU (t.map .int) (Y<|i+1) J++[.int 0]]
def Sm(n:Int)(t:iu)(c:(Ix t)<=5)(i:Int)(x:D): ∀d∈btM n t i x,OkD d:=by
 intro d hd;have a: ∀lo b,(mU (t.map D.int) lo b).length<=5:=λlo b=>ly (qG _ _ _) (by simpa using c);have e:=a J<|Y i;have f:=a (Y<|i+1) J;have g:=a (Y i) J;simp only[btM,ku,ll,lY] at hd;rcases hd with rfl|rfl|rfl|rfl|rfl|rfl|rfl|rfl|rfl
 all_goals (intro l h;cases h)
 all_goals (simp;try lia)
def Tr(a:Int)(b:Bool)(n:Nat)(u:n<=5): ∃B d,OkD d/\lV [pS a b,pI n]=FM ((d,Go),[stt B b,ii n]):=by
 obtain⟨l,t,O,C⟩:=wX a b n u;have tt:=Jy O;have Q:(Ix t)<=5:=by rw[tt.len];exact u
 obtain⟨i,a1,U,Y,E⟩:=lI l b ((n:Int)+1) (by lia) (by lia);obtain⟨w,e,M,N,H⟩:=lI a1 b 10 (by lia) (by lia);obtain⟨v,o,G,J,I⟩:=lI e b 11 (by lia) (by lia)
 let j:List D:=[.int 0,.int<|(n:Int)+1,.int (-(n:Int)-1),.bl Gc,.non,.str "1",.tup [.int 1],.int 100000000000000000000000000000,.lst [.int 1],.bl Go]
 let x:=j.getD w.toNat .non
 let k:List Int:=[0,0,0,1,2,3,4,5,6,7,8]
 let q:=k.getD v.toNat 0
 have z:0<=q/\q<9:=by
  have:v.toNat=0\/v.toNat=1\/v.toNat=2\/v.toNat=3\/v.toNat=4\/v.toNat=5\/v.toNat=6\/v.toNat=7\/v.toNat=8\/v.toNat=9\/v.toNat=10:=by lia
  rcases this with h|h|h|h|h|h|h|h|h|h|h<;>simp[q,k,h]
 have s: ∀lo c,(mU (t.map D.int) lo c).length<=1000:=λlo c=>ly (qG _ _ _) (by simp;lia);have A: ∀lo c,(mU (t.map D.int) lo c).length<=999:=λlo c=>ly (qG _ _ _) (by simp;lia);have m: ∀lo c g p,(mU (t.map D.int) lo c).length+(mU (t.map D.int) g p).length<=1000:=λlo c g p=>ly (Nat.add_le_add (qG _ _ _)<|qG _ _ _) (by simp;lia);have r:(Ix t)<=1000:=by lia
 have f:(Ix t)<=999:=by lia
 let T:Sl:=eN t
 refine⟨o,(btM n t i x).getD q.toNat .non,Ca Sk (Sm n t Q i x) _,?_⟩;refine jc (δ:=[stt o b,ii n,T,ii i,FM (x,Go),FM (.lst<|btM n t i x,Gc)]) ⟨rfl,by decide,rfl⟩ ?_;refine(hX (δ1:=[stt l b,ii n,T,F2,F2,F2])<|jj (i:=2) (δ1:=[stt l b,ii n,F2,F2,F2,F2]) ((jn (δ1:=[stt a b,ii n,F2,F2,F2,F2]) (os:=[.slot 0,.slot 1]) (args:=[pS a b,pI n]) H8 H8 (nd1 0) C).trans H8) (show 2<6 by decide)).trans ?_;refine(hX (δ1:=[stt a1 b,ii n,T,ii i,F2,F2])<|jj (i:=3) (E _ [ii n,T,F2,F2,F2] (.val (.int<|(n:Int)+1,Go)) (by simp) rfl) (show 3<6 by decide)).trans ?_;refine(hX (δ1:=[stt e b,ii n,T,ii i,FM (x,Go),F2])<|jj (i:=4) (δ1:=[stt e b,ii n,T,ii i,F2,F2]) (ju (o1:= .val (.lst j,Gc)) (o2:= .val (.int w,Go)) (iz (δ1:=[stt a1 b,ii n,T,ii i,F2,F2])<|by simp[Ua,jI,j,iI]) (iz<|H _ [ii n,T,ii i,F2,F2] _ rfl rfl) H8 H8<|ixl (L:=j) M<|by simpa[j] using N) (show 4<6 by decide)).trans ?_;refine(hX (δ1:=[stt e b,ii n,T,ii i,FM (x,Go),FM (.lst<|(btM n t i x).take 3,Gc)]) ?_).trans ?_
 .generalize x=y;simp[T,nW,oP,gSl,TC,s,A,r,f,jI,btM,iI]
 refine(hX (δ1:=[stt e b,ii n,T,ii i,FM (x,Go),FM (.lst<|btM n t i x,Gc)]) ?_).trans ?_
 .generalize x=y;simp[T,nW,oP,gSl,TC,Wy,s,A,m,r,f,jI,btM,iI,BM]
 refine iD<|jq<|ju (o1:= .slot 5) (o2:= .val (.int q,Go)) H8 (iz<|ju (o1:= .val (.lst<|k.map .int,Gc)) (o2:= .val (.int v,Go)) (iz (δ1:=[stt e b,ii n,T,ii i,FM (x,Go),FM (.lst<|btM n t i x,Gc)]) ?_) (iz<|I _ _ _ rfl rfl) H8 H8 ?_) H8 H8<|ixl z.1 (by simpa[btM] using z.2)
 .simp[jI,k]
 .exact V3 G (by simpa[k] using J)
abbrev fPr:F:=jD [ik kc [gZ 0,hG<|ie gIx (gZ 1)<|hG<|fC<|.int 0],ie gIx (gZ 2)<|hG<|ik iG [gZ 0,hG<|ir (g1 oz) [gZ 2]]]
abbrev fbG:FS:=ig (sIf (fT<|ik lh [gZ 3,hG<|ie gIx (gZ 4)<|hG<|fC<|.int 0,hG<|ie gIx (gZ 4)<|hG<|fC<|.int 1]) (ig (mw 4) iB) iB)<|ig (iY 4 fPr) iB
noncomputable abbrev kO(n:Nat)(a:jo)(o:Bool):Sl:=lsO (lF n a) o
noncomputable abbrev pO(c t:iu):Sl:=Y (.tup [cD c,cD t],C)
section
variable {n:Nat}{e:jo}(h:xJ n e)(h1:1<=n)
include h h1
theorem T9(a:Int)(b:Bool)(f g i:Sl): ∃m c t,ClOk n c/\t∈lik n e/\fPr [stt a b,rS n e,lsO (lik n e) U,f,g,i]=Y ((.tup [cD c,cD t],C),[stt m b,rS n e,lsO (lik n e) U,f,g,i]):=by
 let d:Int->Dn:=λa=>[stt a b,rS n e,lsO (lik n e) U,f,g,i]
 obtain⟨a1,c,q,o⟩:=zO a b n h1 h.1;have u:=Sz h;obtain⟨v,k,w,x,p⟩:=lI a1 b (lik n e).length (by have:=Sy h;lia) (by lia);obtain⟨j,rfl⟩: ∃j:Nat,v=j:=⟨v.toNat,by lia⟩
 have l:j<(lik n e).length:=by lia
 refine⟨k,c,(lik n e)[j],q,DL l,?_⟩;have s1:ik kc [gZ 0,hG<|ie gIx (gZ 1)<|hG<|fC<|.int 0] (d a)=Y ((cD c,C),d a1):=(jn (δ1:=d a) (os:=[.slot 0,.val (.int n,C)]) (args:=[pS a b,pI n]) (lu I<|iz<|jO I (jV I).r (jE I).r) I (nd1 0) o).trans I;have s:ie gIx (gZ 2) (hG<|ik iG [gZ 0,hG<|ir (g1 oz) [gZ 2]]) (d a1)=Y ((cD (lik n e)[j],C),d k):=ju (o1:= .slot 2) (o2:= .val (.int j,C)) I (iz<|p _ [rS n e,lsO (lik n e) U,f,g,i] (.val (.int (lik n e).length,C)) (iz<|jC (a:= .lst ((lik n e).map cD)) (by rw[U2,jz])<|jR I) rfl) I I (by simp[gIx,atI,ixN,l]);show jD _ (d a)=_;rw[HW];simp only[jx,nj];rw[lu (iz s1)<|iz s];simp[jI,nN,d]
theorem ZR(b:Bool): ∀(ds:List D) (a:Int) (o:Bool) (c t:iu) (z:Sl),ClOk n c->t∈lik n e-> ∃y k s C' j,ClOk n k/\s∈lik n e/\(j=C\/ds=[]/\j=o)/\(kZ (hW 5) fbG ds [stt a b,rS n e,lsO (lik n e) Gc,kO n e o,pO c t,z]=FM (.nx [stt y b,rS n e,lsO (lik n e) Gc,kO n e j,pO k s,C'])\/j=C/\kZ (hW 5) fbG ds [stt a b,rS n e,lsO (lik n e) Gc,kO n e o,pO c t,z]=FM (.rt (.tup [cD k,cD s],C) [stt y b,rS n e,lsO (lik n e) Gc,kO n e j,pO k s,C'])):=by
 intro N
 induction N with
 |nil=>intro a o c t z l q;exact⟨a,c,t,z,o,l,q,.inr ⟨rfl,rfl⟩,.inl H8⟩
 |cons d ds M=>
  intro a o c t z l q
  let g:Int->Bool->Sl->Dn:=λa o p=>[stt a b,rS n e,lsO (lik n e) Gc,kO n e o,p,FM (d,C)]
  have tt:=OZ h q;obtain⟨w,T,_⟩:=Fo tt
  have u:fT (ik lh [gZ 3,hG<|ie gIx (gZ 4)<|hG<|fC<|.int 0,hG<|ie gIx (gZ 4)<|hG<|fC<|.int 1]) (g a o<|pO c t)=FM ((brk n e c).all<|lwB w,g a C<|pO c t):=by
   refine jW (o:=C)<|(jn (δ1:=g a o<|pO c t) (os:=[.slot 3,.val (cD c,C),.val (cD t,C)]) (args:=[(.lst<|(lF n e).map cD,o),enc c,enc t]) (mG H8<|lu (iz<|jO H8 (jV H8).r (jE H8).r)<|iz<|jO H8 (jV H8).r (jE H8).r) H8 ?_<|J3 h.1 tt T e l o).trans ?_
   .cases o
    .exact lX
    .exact(nd1 3)
   .cases o<;>rfl
  have O:kZ (hW 5) fbG (d::ds) [stt a b,FM (rD' n e,C),lsO (lik n e) Gc,kO n e o,pO c t,z]=(fbG<|g a o<|pO c t).bind λo=>match o with
   | .nx f=>kZ (hW 5) fbG ds f
   | .ct f=>kZ (hW 5) fbG ds f
   | .bk f=>FM<|.nx f
   | .rt r f=>FM (.rt r f):=rfl
  rw[O]
  cases A:(brk n e c).all (lwB w) with
  |true=>rw[A] at u;refine⟨a,c,t,FM (d,C),C,l,q,.inl H8,.inr ⟨rfl,?_⟩⟩;have s1:fbG (g a o<|pO c t)=FM (.rt (.tup [cD c,cD t],C)<|g a C<|pO c t):=iD<|(nH u).trans<|iD H8;rw[s1];rfl
  |false=>
   rw[A] at u;obtain⟨a1,v,x,Q,J,I⟩:=T9 h h1 a b (kO n e C) (pO c t)<|FM (d,C);have s1:fbG (g a o<|pO c t)=FM (.nx<|g a1 C<|pO v x):=(hX<|(md u).trans H8).trans<|(hX (δ1:=g a1 C<|pO v x)<|jj (i:=4) (δ1:=g a1 C<|pO c t) I (show 4<6 by decide)).trans H8;obtain⟨E,H,F,K,B,Y,G,m,L⟩:=M a1 C v x (FM (d,C)) Q J;have U:B=C:=by rcases m with m|⟨_,m⟩<;>exact m
   refine⟨E,H,F,K,B,Y,G,.inl U,?_⟩;rw[s1];exact L
theorem SW(a:Int)(b o:Bool): ∃u c t,ClOk n c/\t∈lik n e/\mP [pS a b,(rD' n e,C),(.lst<|(lik n e).map cD,U),(.lst<|(lF n e).map cD,o)]=Y ((.tup [cD c,cD t],C),[stt u b,rS n e,lsO (lik n e) U,kO n e C]):=by
 obtain⟨a1,k,p,x,m,w⟩:=T9 h h1 a b (kO n e o) J J;obtain⟨j,l,r,A,o2,z,v,d,g⟩:=ZR h h1 b (iX 0 12) a1 o k p J x m
 have y:o2=C:=by
  rcases d with d|⟨d,_⟩
  .exact d
  .cases d
 subst y;refine⟨j,l,r,z,v,?_⟩
 let δ2:Dn:=[stt j b,rS n e,lsO (lik n e) U,kO n e C,pO l r,A]
 have s0:oA ([pS a b,(rD' n e,C),(.lst<|(lik n e).map cD,U),(.lst<|(lF n e).map cD,o)].map Y++ah (6-4) J)=Y (.rt (.tup [cD l,cD r],C) δ2):=by
  refine(hX (δ1:=[stt a1 b,rS n e,lsO (lik n e) U,kO n e o,pO k p,J])<|jj (i:=4) (δ1:=[stt a1 b,rS n e,lsO (lik n e) U,kO n e o,J,J]) w (show 4<6 by decide)).trans ?_;have s:mX (uf<|hG<|fC<|.int 12) (hW 5) fbG [stt a1 b,rS n e,lsO (lik n e) U,kO n e o,pO k p,J]=_:=ki (ds:=iX 0 12)<|pE (o:= .val (.int 12,C)) I I (by lia);rcases g with g|⟨_,g⟩
  .exact(hX<|s.trans g).trans (iD I)
  .exact iD (s.trans g)
 have q:=jc (n:=6) (np:=4) (asg:=[4,5]) (f:=oA) (args:=[pS a b,(rD' n e,C),(.lst<|(lik n e).map cD,U),(.lst<|(lF n e).map cD,o)]) ⟨rfl,by decide,by cases o<;>rfl⟩ s0;have d:iN [pS a b,(rD' n e,C),(.lst<|(lik n e).map cD,U),(.lst<|(lF n e).map cD,o)] δ2=[stt j b,rS n e,lsO (lik n e) U,kO n e C]:=by cases o<;>rfl
 rwa [d] at q
end
abbrev Wj:FS:=ig (iY 14<|ik mH [gZ 3,gZ 12,gZ 13])<|ig (sIf (qW (kW<|fT<|kN (uh [.bool])<|gZ 14)<|fT<|ie gNe (gZ 14)<|hG<|ik lO [gZ 3,gZ 5,gZ 12,gZ 13]) (ig (jK<|fC<|.bl C) iB) iB) iB
abbrev f11:F:=lj [jD [iI 6,iI 7],jD [iI 6,iI 8],jD [ik kc [gZ 2,hG<|ie gIx (gZ 3)<|hG<|fC<|.int 0],iI 7],jD [iI 9,iI 7]]
abbrev f12:F:=ie jY (gZ 11)<|hG<|lj [jD [iI 6,iI 10],jD [iI 9,iI 10]]
abbrev Uo:FS:=ig (iY 2<|ik mO [gZ 0,gZ 1])<|ig (iY 3<|ik oG [gZ 2,hG<|fC<|.int 1,hG<|ie gSub (hG<|fC<|.int 5)<|hG<|ir (g2 Dm) [gZ 1,hG<|fC<|.int 1]])<|ig (iY 4<|ik my [gZ 3])<|ig (iY 5<|ik nX [gZ 3])<|ig (FU (oN [hW 6,hW 7])<|ik mP [gZ 2,gZ 3,gZ 4,gZ 5])<|ig (iY 8<|ik kM [gZ 2,hG<|ie gIx (gZ 3)<|hG<|fC<|.int 0])<|ig (iY 9<|ik kT [gZ 2,gZ 6,hG<|ie gIx (gZ 3)<|hG<|fC<|.int 0])<|ig (iY 10<|ik lV [gZ 2,hG<|ie gIx (gZ 3)<|hG<|fC<|.int 0])<|ig (iY 11 f11)<|ig (mX (iJ f12) (oN [hW 12,hW 13]) Wj) iB
def Ys(p:D):Prop:= ∃d e,p= .tup [d,e]/\OkT d/\OkD e
def Ue{c:iu}(h:(Ix c)<=60):OkT (cD c):=λl e=>by
 cases e;exact⟨by simpa using h,by rw[Fj (c:=c) λx h=>h];lia⟩
def Je{n:Nat}(a:n<=5){c:iu}(h:ClOk n c):(Ix c)<=5:=by have:=h.len;lia
def Th{n:Nat}{b:jo}(h:xJ n b){d e:D}(hd:OkT d)(y:OkD e)(c f g j k m p q t s u:Sl): ∃v,Wj [c,f,g,rS n b,j,kO n b C,k,m,p,q,t,s,Y (d,C),Y (e,C),u]=Y (.nx [c,f,g,rS n b,j,kO n b C,k,m,p,q,t,s,Y (d,C),Y (e,C),v]):=by
 obtain⟨B,w,x⟩:=Sw h (d:=d) (e:=e) (λl h=>(hd l h).1) (λl h=>by subst h;have:=(hd l I).2;simp only[D.dep];lia) y
 let δ:Sl->Dn:=λz=>[c,f,g,rS n b,j,kO n b C,k,m,p,q,t,s,Y (d,C),Y (e,C),z]
 refine⟨Y (.bl B,C),?_⟩;refine(hX (δ1:=δ<|Y (.bl B,C))<|jj (i:=14) (δ1:=δ u) (Pn w (jV I) (jV I)<|jV I) (show 14<15 by decide)).trans ?_;have A:ik lO [gZ 3,gZ 5,gZ 12,gZ 13] (δ<|Y (.bl B,C))=Y ((.bl B,C),δ<|Y (.bl B,C)):=(jn (δ1:=δ<|Y (.bl B,C)) (os:=[.slot 3,.slot 5,.slot 12,.slot 13]) (args:=[(rD' n b,C),(.lst<|(lF n b).map cD,C),(d,C),(e,C)]) I I lX x).trans I;exact(hX<|(md (δ1:=δ<|Y (.bl B,C))<|(qj (δ1:=δ<|Y (.bl B,C)) I).trans<|jW (o:=C)<|jO (a:= .bl B) (Gw<|by simp[D.dep]) (jV I).r (jE A).r).trans I).trans I
def fTp{f g:F}{δ δ1 δ2:Dn}{a b:D×Bool}(h1:f δ=Y (a,δ1))(c:g δ1=Y (b,δ2)):jD [f,g] δ=Y ((.tup [a.1,b.1],C),δ2):=by rw[HW];simp only[jx,nj];rw[lu (iz h1)<|iz c];simp[jI,nN]
def P0(ns:iu)(k:Nat)(c2 c3 M J O Q H E z j w s q:Sl): ∃d2 d3 d4 d5 d6 d7 d8 d9 cU cS aO aN Y',Uo [Y (.lst<|ns.map .int,Go),ii k,c2,c3,M,J,O,Q,H,E,z,j,w,s,q]=Y (.nx [Y (.lst<|ns.map .int,Go),ii k,d2,d3,d4,d5,d6,d7,d8,d9,cU,cS,aO,aN,Y']):=by
 let l:Sl:=Y (.lst<|ns.map .int,Go)
 let m:Sl:=ii k
 obtain⟨a,b,e0⟩:=Nh ns k
 let N:Nat:=5-min k 1
 obtain⟨a1,n,A,K,h1,_,e1⟩:=KW a b 1 N (by simp only[N];lia) (by simp only[N];lia);have F:=K.1
 let R:Sl:=rS n A
 let L:Sl:=lsO (lik n A) Gc
 obtain⟨o,e5⟩:=Gq K;obtain⟨W,c,t,hc,ht,e6⟩:=SW K h1 a1 b o;have tt:=OZ K ht;obtain⟨X,u,hu,e8⟩:=wX W b n F;have tu:=Jy hu;have p5:=Je F hc;obtain⟨Z,g,hg,e9⟩:=Qm X b n F c p5;obtain⟨I,v,hv,e10⟩:=Tr Z b n F;obtain⟨B,x,hx,e11⟩:=zO I b n h1 F
 let C:Sl:=eN c
 let T:Sl:=eN t
 let U:Sl:=eN u
 let G:Sl:=Y (g,Go)
 let V:Sl:=Y (v,Go)
 let S:List D:=[.tup [cD c,cD t],.tup [cD c,cD u],.tup [cD x,cD t],.tup [g,cD t]]
 let P:Sl:=Y (.lst S,Gc)
 let qs:List D:=S++[.tup [cD c,v],.tup [g,v]]
 have hT:OkD (cD t):=JQ (by rw[tt.len];lia);have hC:OkT (cD c):=Ue (by lia)
 have hqs: ∀p∈qs,Ys p:=by
  intro p hp;simp only[qs,S,qH,pQ,ku,ll,lY] at hp;rcases hp with rfl|rfl|rfl|rfl|rfl|rfl
  .exact⟨_,_,rfl,hC,hT⟩
  .exact⟨_,_,rfl,hC,JQ<|by rw[tu.len];lia⟩
  .exact⟨_,_,rfl,Ue (by have:=Je F hx;lia),hT⟩
  .exact⟨_,_,rfl,hg,hT⟩
  .exact⟨_,_,rfl,hC,hv⟩
  .exact⟨_,_,rfl,hg,hv⟩
 obtain⟨_,⟨aO,aN,Y',_,rfl⟩,e12⟩:=qE (tg:=oN [hW 12,hW 13]) (fb:=Wj) (λds δ=> ∃aO aN Y',(∀p∈ds,Ys p)/\δ=[l,m,stt B b,R,L,kO n A Go,C,T,U,G,V,P,aO,aN,Y']) (λp ds δ hQ=>by obtain⟨aO,aN,Y',h1,h⟩:=hQ;subst h;obtain⟨d,e,rfl,hd,he⟩:=h1 p jP;obtain⟨g14,e'⟩:=Th K hd he l m (stt B b) L C T U G V P Y';exact⟨_,_,rfl,e',_,_,_,λx hx=>h1 x<|jU _ hx,rfl⟩) qs [l,m,stt B b,R,L,kO n A Go,C,T,U,G,V,P,w,s,q] ⟨w,s,q,hqs,rfl⟩
 refine⟨stt B b,R,L,kO n A Go,C,T,U,G,V,P,aO,aN,Y',?_⟩;refine(hX (δ1:=[l,m,stt a b,c3,M,J,O,Q,H,E,z,j,w,s,q])<|jj (i:=2) (δ1:=[l,m,c2,c3,M,J,O,Q,H,E,z,j,w,s,q]) (jn (os:=[.slot 0,.slot 1]) (args:=[(.lst<|ns.map .int,Go),pI k]) H8 H8 lX e0) (show 2<15 by decide)).trans ?_
 have em:ie PX.gSub (hG<|fC<|.int 5) (hG<|ir (g2 Dm) [gZ 1,hG<|fC<|.int 1]) [l,m,stt a b,c3,M,J,O,Q,H,E,z,j,w,s,q]=Y ((.int N,Go),[l,m,stt a b,c3,M,J,O,Q,H,E,z,j,w,s,q]):=by
  have:(N:Int)=5-(if(1:Int)<k then 1 else(k:Int)):=by simp only[N];split<;>lia
  rw[this];simp[l,m]
 refine(hX (δ1:=[l,m,stt a1 b,R,M,J,O,Q,H,E,z,j,w,s,q])<|jj (i:=3) (δ1:=[l,m,stt a1 b,c3,M,J,O,Q,H,E,z,j,w,s,q]) ((jn (δ1:=[l,m,stt a b,c3,M,J,O,Q,H,E,z,j,w,s,q]) (os:=[.slot 2,.val (.int 1,Go),.val (.int N,Go)]) (args:=[pS a b,pI 1,pI N]) (mG H8<|lu H8<|iz em) H8 (nd1 2) e1).trans H8) (show 3<15 by decide)).trans ?_;refine(hX (δ1:=[l,m,stt a1 b,R,L,J,O,Q,H,E,z,j,w,s,q])<|jj (i:=4) (δ1:=[l,m,stt a1 b,R,M,J,O,Q,H,E,z,j,w,s,q]) (jU1 (OT K)<|jV H8) (show 4<15 by decide)).trans ?_;refine(hX (δ1:=[l,m,stt a1 b,R,L,kO n A o,O,Q,H,E,z,j,w,s,q])<|jj (i:=5) (δ1:=[l,m,stt a1 b,R,L,J,O,Q,H,E,z,j,w,s,q]) (jU1 e5<|jV H8) (show 5<15 by decide)).trans ?_;refine(hX (δ1:=[l,m,stt W b,R,L,kO n A Go,C,T,H,E,z,j,w,s,q])<|Rg (r:=(.tup [cD c,cD t],Go)) (δ1:=[l,m,stt W b,R,L,kO n A Go,O,Q,H,E,z,j,w,s,q]) ((jn (δ1:=[l,m,stt a1 b,R,L,kO n A o,O,Q,H,E,z,j,w,s,q]) (os:=[.slot 2,.slot 3,.slot 4,.slot 5]) (args:=[pS a1 b,(rD' n A,Go),(.lst<|(lik n A).map cD,Gc),(.lst<|(lF n A).map cD,o)]) H8 H8 ?_ e6).trans ?_) H8).trans ?_
 .cases o
  .exact(show([2,4]:List Nat).Nodup by decide)
  .exact(show([2,4,5]:List Nat).Nodup by decide)
 .cases o<;>rfl
 refine(hX (δ1:=[l,m,stt X b,R,L,kO n A Go,C,T,U,E,z,j,w,s,q])<|jj (i:=8) (δ1:=[l,m,stt X b,R,L,kO n A Go,C,T,H,E,z,j,w,s,q]) ((jn (δ1:=[l,m,stt W b,R,L,kO n A Go,C,T,H,E,z,j,w,s,q]) (os:=[.slot 2,.val (.int n,Go)]) (args:=[pS W b,pI n]) (lu H8<|iz<|jO H8 (jV H8).r (jE H8).r) H8 (nd1 2) e8).trans H8) (show 8<15 by decide)).trans ?_;refine(hX (δ1:=[l,m,stt Z b,R,L,kO n A Go,C,T,U,G,z,j,w,s,q])<|jj (i:=9) (δ1:=[l,m,stt Z b,R,L,kO n A Go,C,T,U,E,z,j,w,s,q]) ((jn (δ1:=[l,m,stt X b,R,L,kO n A Go,C,T,U,E,z,j,w,s,q]) (os:=[.slot 2,.slot 6,.val (.int n,Go)]) (args:=[pS X b,enc c,pI n]) (mG H8<|lu H8<|iz<|jO H8 (jV H8).r (jE H8).r) H8 (nd1 2) e9).trans H8) (show 9<15 by decide)).trans ?_;refine(hX (δ1:=[l,m,stt I b,R,L,kO n A Go,C,T,U,G,V,j,w,s,q])<|jj (i:=10) (δ1:=[l,m,stt I b,R,L,kO n A Go,C,T,U,G,z,j,w,s,q]) ((jn (δ1:=[l,m,stt Z b,R,L,kO n A Go,C,T,U,G,z,j,w,s,q]) (os:=[.slot 2,.val (.int n,Go)]) (args:=[pS Z b,pI n]) (lu H8<|iz<|jO H8 (jV H8).r (jE H8).r) H8 (nd1 2) e10).trans H8) (show 10<15 by decide)).trans ?_
 let y:Int->Sl->Dn:=λa p=>[l,m,stt a b,R,L,kO n A Go,C,T,U,G,V,p,w,s,q]
 have s3:ik kc [gZ 2,hG<|ie gIx (gZ 3)<|hG<|fC<|.int 0] (y I j)=Y ((cD x,Go),y B j):=(jn (δ1:=y I j) (os:=[.slot 2,.val (.int n,Go)]) (args:=[pS I b,pI n]) (lu H8<|iz<|jO H8 (jV H8).r (jE H8).r) H8 (nd1 2) e11).trans H8
 have s4:f11 (y I j)=Y ((.lst S,Gc),y B j):=by show lj _ (y I j)=_;rw[HX];simp only[jx,nj];rw[mG (iz<|fTp (f:=iI 6) (g:=iI 7) (a:=(cD c,Go)) (b:=(cD t,Go)) (δ:=y I j) (δ1:=y I j) (δ2:=y I j) H8 H8)<|mG (iz<|fTp (f:=iI 6) (g:=iI 8) (a:=(cD c,Go)) (b:=(cD u,Go)) (δ:=y I j) (δ1:=y I j) (δ2:=y I j) H8 H8)<|lu (iz<|fTp (g:=iI 7) (b:=(cD t,Go)) (δ2:=y B j) s3 H8)<|iz<|fTp (f:=iI 9) (g:=iI 7) (a:=(g,Go)) (b:=(cD t,Go)) (δ:=y B j) (δ1:=y B j) (δ2:=y B j) H8 H8];simp[jI,nN,S]
 have s5:f12 (y B P)=Y ((.lst qs,Gc),y B P):=by refine ju (o1:= .slot 11) (o2:= .val (.lst [.tup [cD c,v],.tup [g,v]],Gc)) H8 (iz ?_) H8 H8<|Wy (by simp[S]) (by simp);rw[HX];simp only[jx,nj];rw[lu (iz<|fTp (f:=iI 6) (g:=iI 10) (a:=(cD c,Go)) (b:=(v,Go)) (δ:=y B P) (δ1:=y B P) (δ2:=y B P) H8 H8)<|iz<|fTp (f:=iI 9) (g:=iI 10) (a:=(g,Go)) (b:=(v,Go)) (δ:=y B P) (δ1:=y B P) (δ2:=y B P) H8 H8];simp[jI,nN]
 refine(hX (δ1:=y B P)<|jj (i:=11) (δ1:=y B j) s4 (show 11<15 by decide)).trans ?_;exact(hX<|(ki<|lL s5).trans e12).trans H8
def OJ{n:Nat}{e:jo}(h:xJ n e){c t w:iu}(f:ClOk n c)(j:TT n t)(u:BK n t w)(p:tB n (cD t)=U)(g:(e.all λc=>decide<|lc t c∈e)=U):mH [(rD' n e,C),enc c,enc t]=Y ((.bl<|(brk n e c).all<|lwB w,C),[rS n e,eN c,eN t]):=by
 let δ:Dn:=[rS n e,eN c,eN t]
 have x:=Je h.1 f
 have i:pC n (cD c)=U:=by
  have:(c.map D.int).all (sg n)=U:=lG.mpr λd hd=>by obtain⟨s,q,rfl⟩:=mS.mp hd;have:=f.2.2 s q;simp[sg,this]
  have m:aI (c.map .int)=c.map ab:=by rw[aI,jZ];rfl
  rw[Ud n h.1,lC,this,m,oK f.2.1,oK<|by simpa using f.1];rfl
 have k:ik lA [hG<|ie gIx (gZ 0)<|hG<|fC<|.int 0,gZ 1] δ=Y ((.bl U,C),δ):=by
  have:=wy n (cD c) λl g=>by cases g;simp;lia
  rw[i] at this;exact jU2 this (jE (b:=C)<|jO I (jV I).r (jE I).r)<|jV I
 have v:ik mJ [gZ 0,gZ 2] δ=Y ((.bl U,C),δ):=by have:=Dl h (d:=cD t)<|JQ (by rw[j.len];have:=h.1;lia);rw[liB,p,sH,g] at this;exact jU2 this (jV I)<|jV I
 refine jc (δ:=δ) ⟨rfl,by decide,rfl⟩<|(hX<|(md (δ1:=δ)<|(qj<|jL<|jW k).trans<|jL<|jW v).trans I).trans<|iD<|jq ?_;exact jU2 (Df h.1 j u (brk n e c) λa o=>ym (Fu.mp o).1) (jV I)<|jE<|jU2 (Cg h f) (jV I)<|jV I
def WE(f:iu)(hl:(Ix f)<=63): ∃o z,wu [(.lst<|f.map .int,Go)]=FM ((.bl Gc,o),z):=by
 let A:Sl:=FM (.lst<|f.map .int,Go)
 let N:Nat:=if 1<min (Ix f) 6 then min (Ix f) 6 else 1
 obtain⟨_,⟨B,n,p,q,t,u,v,w,y,m,l,i,g,j,_,rfl⟩,e⟩:=qE (tg:=hW 1) (fb:=Uo) (λds δ=> ∃B n p q t u v w y m l i g j,(∀d∈ds,∃k:Nat,d= .int k)/\δ=[A,B,n,p,q,t,u,v,w,y,m,l,i,g,j]) (λd ds δ P=>by
  obtain⟨B,n,p,q,t,u,v,w,y,m,l,i,g,j,h1,h⟩:=P;subst h;obtain⟨k,rfl⟩:=h1 d jP;obtain⟨g2,g3,Z,g5,g6,g7,g8,g9,M,U,Y,D,F,e⟩:=P0 f k n p q t u v w y m l i g j
  exact⟨_,_,rfl,e,_,_,_,_,_,_,_,_,_,_,_,_,_,_,λx V=>h1 x<|jU _ V,rfl⟩) (iX 0 N) [A,F2,F2,F2,F2,F2,F2,F2,F2,F2,F2,F2,F2,F2,F2] ⟨F2,F2,F2,F2,F2,F2,F2,F2,F2,F2,F2,F2,F2,F2,λd hd=>by obtain⟨k,_,rfl⟩:=mS.mp hd;exact⟨k,by simp⟩,rfl⟩
 have O:xJ 2 []:=⟨by lia,⟨lX,λc R=>by cases R⟩,ci,by simp⟩
 let δ:Dn:=[A,B,n,p,q,t,u,v,w,y,m,l,i,g,j]
 have Q:jD [fC<|.int 2,jD []] δ=FM ((rD' 2 [],Go),δ):=by simp[jI]
 have T:jD [fC<|.int 2,fC<|.int 1] δ=FM ((cD [2,1],Go),δ):=by simp[jI]
 have W:jD [kN mN<|hG<|fC<|.int 1,fC<|.int 2] δ=FM ((cD [-1,2],Go),δ):=by simp[jI]
 have X:jD [fC<|.int 1,kN mN<|hG<|fC<|.int 2] δ=FM ((cD [1, -2],Go),δ):=by simp[jI]
 have tt:TT 2 [2,1]:=by unfold TT;decide
 have bk:BK 2 [2,1] [2,1]:=⟨rfl,λs S=>by
  have:=T3 S;have:s= -2\/s= -1\/s=1\/s=2:=by lia
  rcases this with rfl|rfl|rfl|rfl<;>decide⟩
 have C:ClOk 2 [-1,2]:=by unfold ClOk;decide
 have E:ClOk 2 [1, -2]:=by unfold ClOk;decide
 have H:tB 2 (cD [2,1])=Gc:=by decide
 have G:(brk 2 [] [-1,2]).all (lwB [2,1])=Gc:=by decide
 have J:(brk 2 [] [1, -2]).all (lwB [2,1])=Go:=by decide
 have I:=OJ O C tt bk H H8;have L:=OJ O E tt bk H H8;rw[G] at I;rw[J] at L;refine⟨Go,_,jc (δ:=δ) ⟨rfl,by decide,rfl⟩ ?_⟩;refine(hX<|(ki (ds:=iX 0 N) (δ1:=[A,F2,F2,F2,F2,F2,F2,F2,F2,F2,F2,F2,F2,F2,F2]) ?_).trans e).trans (iD<|jq ?_)
 .refine pE (o:= .val (.int N,Go)) (iz ?_) H8 (by simp only[N];split<;>lia)
  have K:(N:Int)=if(if(6:Int)<(Ix f) then 6 else((Ix f):Int))>1 then(if(6:Int)<(Ix f) then 6 else((Ix f):Int)) else 1:=by simp only[N];split<;>split<;>split<;>lia
  rw[K];simp[A]
 .exact(zJ (o:=Go)<|jO (a:= .bl Gc) (b:= .bl Gc) H8 (jE (b:=Go)<|Pn I (jE Q) (jE W)<|jE T).r (jE H8).r).trans (jO (a:= .bl Go) (b:= .bl Go) H8 (jE (b:=Go)<|Pn L (jE Q) (jE X)<|jE T).r (jE H8).r)
end PV
def K71.main(b:iu)(c:(Ix b)<=63): ∃o a,PV.wu [(.lst<|b.map .int,C)]=Y ((.bl U,o),a):=PV.WE b c
structure PySem.W.Fast:Prop where(tw9643663814039661876 tw11251555998726587152 tw9475560761514659828 tw16712867664868664565 tw9655210776720346798 tw5111128612822683239 tw13777688173724439301 tw703236024345037110 tw936103431883758367 tw1345777074732191797 tw8592766651839949747 tw7353817550267196141 tw7523645401474285460 tw6644308666681115132 tw14388303178356313810 tw10802946285890801908 tw2733084705096568526 tw4469304719684325343 tw5667237275718037044 tw4946601158806832271 tw5994720703264064692 tw12961422822413981780 tw2300454979406028345 tw8392382746009083296 tw6543114766048109326 tw7556490059211199899 tw4524436525047213124 tw18261581208771674436 tw11615653949167921521 tw17369828770698484846 tw2649150768737008065 tw8239379902766931141 tw10522142621614322568 tw6060511424910510186 tw9328097667665410857 tw15312341568128322105 tw17799175852620892803 tw7597083648923597184 tw4308651477889218699 tw15280884909881548482 tw8076249559496892662 tw2256611315435320987 tw14329168313719654133 tw14860729500940775818 tw64225221122044400 tw93243784710318732 tw2511658522421016654 tw7811015686205565486 tw10324182987294665885 tw7996395538387880467 tw6120500606651060168 tw13787968872276303623 tw10604863007249910789 tw12001673248705927747 tw6579672711939685751 tw6819895529420391560 tw10052844955801312249 tw386442082435019051 tw12506360357240202619 tw6383482214326684549 tw10196876247834198613 tw9900147815943592174 tw11608872639722162228 tw16076361161369607034 tw5665638791958115808 tw14144426108684240955 tw15943011131327838915 tw2276006475014531160 tw9479972489011935554 tw10163380644572559295 tw15792572634182354344 tw7690346668243793529 tw6992118935760899631 tw16316433229168047844 tw16981081957744848123 tw12623296666406532101 tw173960264684611558 tw15052686687073074926 tw1447878698064656972 tw10359626734557069251 tw1811758576257491719 tw5299441391174761144 tw8929939221671116243 tw2562810364546891249 tw7049074806041958463 tw6266085913665556952 tw3551451827612689784 tw13514854588867251361 tw1366914371196970098 tw12131725721459072660 tw14682469831714224685 tw15285548188526831850 tw12209132030548521541 tw7905380940271552447 tw13961491349282093924 tw17728397043255310093 tw1115244755816333070 tw13900197624548128721 tw1987126432205689529 tw10243392552460536430 tw16480344759773803705 tw1656982840447531644 tw14813391989719255977 tw2043030123764525362 tw2975189845715761718 tw26046914613847852 tw5590145423341331278 tw11629936143716201134 tw10768103072494838445 tw9691948434196265960 tw17812714839551931788 tw11872298678751271492 tw3277134968916512419 tw17209024999892832271 tw10041537738712174838 tw7394867703445465152 tw15186574695010713886 tw11162160228869402149 tw3710017827275145568 tw2304171972963718176 tw13075291098731155597 tw11597953368031319524 tw9075367183578334118 tw13564254144108331211 tw1533722490990869298 tw3562394823809296025 tw9013457130817986299 tw1227665350205800595 tw545814214768768116 tw15374887536959399334 tw16662858800918020364 tw11383389237752987801 tw5218741298101021219 tw4114063699658474325 tw3153205709148260521 tw11496407831093100515 tw13490491656884691133 tw8639680301140549683 tw18147947567111643562 tw11175082814438532089 tw1340277011667009414 tw14013688818096991044 tw1753918364334910439 tw9688873629191291494 tw12067675064553958756 tw7143078247478171003 tw14384147583630345073 tw9080097553467572951 tw8714700509315984443 tw9863613023469779421 tw3610332002139944757 tw11617562200662491727 tw9950800213217032012 tw7055098803497003256 tw6928127875407860560 tw14824736671744401543 tw9243064854173923899 tw7855790890567095075 tw6898794672741650012 tw5444704424720562608 tw7415429673173143154 tw13325771154897616120 tw884856477227848512 tw13679146134053272910 tw1951483613694939368 tw17367364686401911276 tw14061979688290611717 tw13144056383639926163 tw7774132091574290126 tw14718551083279205452 tw17132792420656078167 tw13852742213290712217 tw7273544642438906101 tw11510124358546537050 tw7960286456046040587 tw446737191918557523 tw14608759580389401806 tw1220591142612701916 tw7328908780997103157 tw17743321358989925613 tw16430534943945938303 tw7953221047811155396 tw513681370580282716 tw15409160724117432522 tw4054652122280295685 tw11005723885975391229 tw467496163080329162 tw13254718645497125533 tw15801918803188659965 tw6883550455905600631 tw7278556467687463751 tw12182405750262158925 tw12212846497114224788 tw8439568015978105175 tw15013972871896997464 tw11299042994328183760 tw4750965740685858631 tw17167534753602516943 tw4225281932343908269 tw5080277939157530359 tw18253244766523831936 tw3229916583320332077 tw10797176974280090213 tw18128272372915820780 tw18265876451036455720 tw17818374899401035094 tw9145761021719042702 tw2546086232744233021 tw13182921441359616674 tw6761508596326686891 tw14034139577263231527 tw12191940919109234226 tw12013474186005880364 tw15221839167638085686 tw6535005407933190112 tw13993020242277863954 tw18360984431527996496 tw2246292875895110266 tw752679103524074768 tw900929638277168410 tw9538830759657278481 tw2141403924763622611 tw2523881839469741782 tw1844491675036101302 tw14503414859293944021:True)
open PySem PySem.W PyProof.Rows PX
set_option maxRecDepth 100000 in
set_option maxHeartbeats 0 in
theorem PySem.Challenge.cw_twinriddles_k71_clauses_that_may_be_put_holds : PySem.Challenge.rw_twinriddles_k71_clauses_that_may_be_put.Holds := by
  w_on; o_law; k_head; (case hw => w_witness2)
  k_fill
  refine walkG (l := PySem.Challenge.rw_twinriddles_k71_clauses_that_may_be_put) (LV := 11) (x := "_law_script") ⟨rfl, by decide, by decide, rfl⟩ rfl rfl (fun w h Y => PySem.W.kIn_of Y) ?F K71.main
  case F =>
   intro w mg fa h KX G hmg
   refine' K71.all_mk hmg (txK KX G ?_ ?_ ?_ ?_ ?_ ?_ ?_ ?_ ?_ ?_ ?_ ?_ ?_ ?_ ?_ ?_) ?_ ?_ ?_ ?_ ?_ ?_ ?_ ?_ ?_ ?_ ?_ ?_ ?_ ?_ ?_ ?_ ?_ ?_ ?_ ?_ ?_ ?_ ?_ ?_ ?_ ?_ ?_ ?_ ?_ ?_ ?_ ?_ ?_ ?_ ?_ ?_ ?_ ?_ ?_ ?_ ?_ ?_ ?_ ?_ ?_ ?_ ?_ ?_ ?_ ?_ ?_ (PySem.W.mg_none_of KX G ?_) (mgI KX G ?_) <;> try first|refine' fz KX G ?_ ?_ ?_ ?_<;>try k_is|k_is
