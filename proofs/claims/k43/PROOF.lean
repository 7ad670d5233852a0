import PyProof.Rows.All
import Wide.All
import OpenK.AllK
import Wide.FinOn
import PyProof.EqAt
import PyProof.EqKinds
import PyProof.TupleCall
import Lean
import PySem.Challenge.RW_twinriddles_k43_few_that_span
set_option Elab.async false
set_option linter.all false
set_option maxRecDepth 100000
set_option maxHeartbeats 8000000
set_option compiler.extract_closed false
set_option backward.eqns.nonrecursive false
noncomputable section
open List renaming length->ZB
namespace RfL
theorem r{a:α}:a=a:=rfl
end RfL
open RfL renaming r->H,r->Zz
open Option renaming some->Y,some->Zv,none->I,none->Zw
open Bool renaming true->J,true->Zx,false->C,false->Zy
open Array renaming length_toList->kz,getElem?_toList->lR,getElem?_eq_getElem->pK,getElem?_eq_some_iff->Kx,getD_eq_getD_getElem?->uV,getElem?_setIfInBounds->Cm,getElem?_eq_none->Ck,forIn_toList->Ci,append_assoc->Gu,getElem?_eq_none_iff->VD,getElem?_replicate->K6,mem_toList_iff->VL,toList_eq_nil_iff->VJ,toList_append->KI,toArray_toList->KH,toList_push->fo,replicate->fQ,getD->f3,size_zip->sm,size_map->ss,toList->u3,ext->Ev
open Bool renaming false_eq_true->jz,false_ne_true->ku,and_eq_true->lC,not_true->oJ,or_eq_true->xj,not_false->zb,not_eq_true'->dZ,false_and->eL,and_false->eM,true_and->fe,decide_and->fS,and_assoc->gg,and_self->gE,eq_false_iff->nw,noConfusion->oO,or_false->ut,false_or->uu,and_comm->u0,true_or->v6
open False renaming elim->aW
open ForInStep renaming yield->bT
open Function renaming comp_def->sx,comp->bW
open Int renaming toNat_natCast->si,mul_one->zA,emod_lt_of_pos->FR,emod_nonneg->FQ,neg_neg->Db,mul_neg->Do
open LawfulBEq renaming eq_of_beq->uE
open LawfulMonad renaming bind_assoc->uB,pure_bind->y8
open List renaming map_cons->jY,size_toArray->kj,mem_map->lZ,getElem?_eq_getElem->jt,mem_cons->kT,mem_cons_self->jT,mem_cons_of_mem->jX,length_map->kh,map_map->km,getElem?_map->kD,getElem?_eq_some_iff->rT,mem_append->qb,all_eq_true->mY,length_cons->lQ,not_mem_nil->my,mem_of_getElem?->mG,length_append->mF,mem_singleton->AS,getD_eq_getElem?_getD->nL,map_append->nK,getElem?_set_self->ox,append_assoc->oq,lookup_cons->oo,pairwise_append->tK,mem_filter->wZ,getElem?_set_ne->oM,pairwise_map->pG,mem_map_of_mem->oI,nodup_nil->pJ,mem_append_right->qi,getElem?_append_right->qg,getElem?_append_left->qf,pairwise_cons->D8,map_congr_left->qd,mem_range->wY,length_take->rE,getElem?_of_mem->se,filterMap_cons->uH,map_id->ux,getElem?_replicate->vV,length_set->qK,zip_cons_cons->qD,nodup_cons->zD,replicate_succ->sy,exists_cons_of_length_pos->sj,length_pos_iff->LA,mem_append_left->vA,append_nil->vq,map_nil->vp,all_cons->vn,any_cons->vg,take_append_drop->vb,length_eq_zero_iff->Pg,length_nil->uT,mem_flatMap->yE,length_filter_le->uS,take_sublist->xF,flatten_cons->xy,length_singleton->xv,getElem?_zip_eq_some->D5,drop_eq_getElem_cons->xt,pairwise_reverse->Gw,take_of_length_le->xp,mem_of_mem_take->xo,isEmpty_nil->xg,find?_cons->xb,nil_append->xa,nodup_append->AU,forIn_cons->zu,getElem?_set->zr,ext_getElem->zq,getElem_map->zp,drop_eq_nil_of_le->zo,ext_getElem?->zm,eq_nil_of_length_eq_zero->zi,eq_nil_or_concat->zh,concat_eq_append->zg,getElem_of_mem->zf,of_mem_zip->CQ,getElem?_zipIdx->CF,range'_succ->Cv,reverse_perm->Cu,perm_middle->Pf,pairwise_iff_getElem->Pe,extract_eq_take_drop->Ct,mem_of_mem_drop->Cr,length_eraseIdx->Cf,filter_map->Cb,getElem_inj->Gs,foldl_cons->Ge,length_dropLast->Gd,drop_sublist->F4,take_succ->F3,mem_erase_of_ne->FP,map_take->FL,any_eq_true->VC,dropLast_concat_getLast->Fw,flatMap_cons->Fu,filter_cons_of_neg->Ft,perm_ext_iff_of_nodup->Fs,getElem?_take_of_lt->Lv,length_replicate->Lu,eraseIdxIfInBounds_toArray->Lj,pairwise_singleton->La,perm_append_comm->R7,pairwise_lt_range->VM,filterMap_append->K8,perm_append_singleton->K7,dropLast_eq_take->KG,perm_cons_erase->KA,filter_eq_self->VH,replicate->ae,range->aw,range'->cF,length->dB,mem_filterMap->dX,getElem?_drop->dY,length_drop->d7,filter_cons_of_pos->d9,range_succ_eq_map->ek,any_map->el,foldl->fh,all_map->fF,take_take->f4,map->f5,forIn_nil->f8,Nodup->gc,getLastD_eq_getLast?->gj,getElem?_cons_succ->gG,eraseIdx_cons_succ->gH,getElem?_eq_none->gX,contains_eq_mem->hZ,replicate_zero->il,zip_nil_right->kA,map_singleton->kS,filter_append->k7,filterMap_map->k8,length_range->na,filter_congr->nb,any_eq_false->nf,zipIdx_cons->n8,mem_reverse->n9,map_fst_zip->on,cons_append->oC,set_append->sa,drop_drop->ta,map_id'->v5
open List.Pairwise renaming nil->cH,sublist->x0,map->x8,imp_of_mem->x9,imp->y6,and->y7
open List.Perm renaming refl->uY,of_eq->Fv,eq_of_pairwise->K9,append_left->K5,trans->h9,swap->im,cons->io
open List.cons renaming inj->va,injEq->d0
open Nat renaming le_refl->jQ,ne_of_lt->jF,zero_le->lL,le_trans->ma,lt_of_lt_of_le->nj,ne_of_gt->ot,lt_irrefl->qj,pow_succ->qC,mul_assoc->qB,le_of_lt->sD,lt_succ_self->sv,lt_succ_of_lt->vo,not_lt->Ph,mul_add->uX,mul_comm->uW,le_succ->xw,zero_add->xq,add_assoc->xm,mul_one->xi,mod_lt->xh,min_eq_left->ze,pow_le_pow_right->zc,lt_trans->CJ,mul_left_comm->Cn,lt_asymm->Ga,add_sub_cancel_left->F5,add_mul->FW,one_mul->FV,mul_zero->FU,le_of_eq->FA,lt_of_le_of_lt->Fy,add_zero->fJ,sub_add_cancel->mL,lt_or_eq_of_le->mN,add_sub_cancel->m4,le_succ_of_le->n7,le_of_not_lt->r8,two_pow_pos->sK,mul_add_mod->s8,div_add_mod->s9,lt_or_ge->w9,add_comm->xz,add_mod->C2
open Ne renaming symm->ni
open Option renaming bind_some->jK,isSome_iff_exists->Jn,isSome_map->FE,map_eq_some_iff->d6,isSome_some->eW,getD_some->kl,getD_none->kw,map_map->nP,bind->ul,map->vw
open Option.some renaming inj->kE
open Or renaming inl->bz,inr->bO
open Ordering renaming swap->fR
open Prod.mk renaming inj->rA
open PyProof.Rows renaming SortSt->rW,listUpdate_at->uZ,slot_tuple_getitem->AV,get?_update_seq->xl,callWith_type1->zw,seqEpoch_at->zd,boot_range->CS,listItems_at->FZ,entry_tuple_getitem->Lp,subscriptTail_builtinR->Ln,envOfC->aZ,seqObj->bp,IntsAre->ei,AllBare->ej,Keyed->eV,arrOf->fO,failedOf->fZ,SortKind->rd,IsTup->ro,args_tuple_getitem->t9,wpAny_notIn_heap->w5,lt_int->A2,le_int->BB,gt_int->B1,ge_int->B2,entry_list_sort->B4,callWith_type0->Ch,callWith_builtin1->CK,slot_list_sort->I0,slicePart_none->I8,oneType'->J4,keyLt'->KE,tupleItemsOf_->P1,subscriptTail->R1,reverseSlice'->Sc,Constant_bool->Sr,tuples'->V2,plain_sorted->Wp,isTrue_plain->WF,entry_sorted->WP,call_abs_int->W1,kind_sorted->Zu
open PyProof.Rows.IsTup renaming new->CM
open PySem renaming Shared->iC,Program->iX,Around->iU,World->iR,SetTable->mE,Value->iK,Comprehension->qc,FuncData->mD,Heap->iT,Addr->iu,wpAny_bind->iz,wpAny_pure->iM,sizeLine_eq->jH,wpAny_holding->lM,wpAny_newObj_type->nh,wpAny_call_entry->nO,wpAny_mono->ou,wpAny_field->oK,mem_of_lookup->qh,wpAny_of_eq->rB,codeAny_builtin->rq,wpAny_typeOf->sh,wpAny_rule->sf,wpAny_attempt->sd,wpAny_setState_of->rZ,codeAny_mono->uG,wpAny_callSpecial?_slot->uF,wpAny_setField_rec->uy,call_meets->qJ,plainId_quiet->qG,wpAny_seqItems->qF,wpAny_forIn_list->qE,wpAny_Call_Name_kw->sA,wpAny_truthy_bool->vz,wpAny_passesOwn->vt,wpAny_setField->vf,wpAny_isInstance->vd,wpAny_specialOf->uU,wpAny_standAt->xH,wpAny_load->xG,wpAny_askSetting->xu,wpAny_execs_nil->zB,wpAny_pyIter_list->zy,wpAny_call->zv,codeAny_of_tree->zt,wpAny_onRaise->zj,tupleKind_room_in1->za,concat_meets->CN,wpAny_newTuple->CB,wpAny_letGo->Cz,isSubtype_stop->Cw,richCompare_meets_room->Cp,wpAny_newList->Co,wpAny_isSame_ref_self->Cj,isSubtype_type->Cg,wpAny_updateSeq->Cd,wpAny_typeNameOfWhole_keyiter->Cc,wpAny_pyHash_int->Gv,noFill_tuple_add->Gp,seq_tuple_add->Gn,seqIndex_of->Gi,seqIndex_neg->Gh,wpAny_alloc->Gb,wpAny_runValue->F9,wpAny_handled->F8,wpAny_throw->F7,wpAny_collect_seq->FX,typeLookup_type->FK,builtinLookup_eq_fast->FH,wpAny_pyIter_slot->FG,wpAny_setEntries_of->FF,wpAny_dictEntries->FD,wpAny_dictEpoch->FC,codeAny_call_builtin->Fx,wpAny_storeName_local->Ly,codeAny_call_function->Lr,wpAny_newFunctionEnv_cells->Lq,wpAny_Call_method_late->Lm,wpAny_comprehension_free->Li,wpAny_updateSeq_pair->Lb,codeAny_extend_loopS->KR,wpAny_notOrdered_dict->KP,wpAny_isOneOf_keyiter->KJ,starEach->ac,wpAny->ag,model->ah,mainGlobals->am,Str->ax,bootBuiltins->ay,eval->aE,compareOp->aJ,foldedSetIterable->aM,backTo->aP,cLine->aT,assignEach->aU,attributeBase->bb,Builtin->bc,holding->br,cellsFrom->bt,sysModules->bw,Stmt->bD,Keyword->bG,binaryOp->bH,Pos->bI,swapsWith->bJ,wpAny_loadPart'->bX,ofAClassStatement->b3,keywordEach->ca,assign->ce,standAt->cu,tupleKind->cB,clausesOf->cC,behindInMarks->cE,pyNext->cM,codeAny->cU,rawInt->cZ,IsPair->c3,swapsWithSole->c4,swappedStores->c5,Arguments->c8,firstArgMember->dg,backToKw->dn,sliceBounds->dL,hashByValue->dM,NameKind->dU,CmpOp->dW,Env->d1,pyIter->en,Sem->ey,IsPart->eA,codeAmong->eC,GenState->eD,DictEntry->eF,IsEnum->eR,letOwnedTupleGo->eS,IsZip->eU,Obj->e6,bindArgs->fm,getItem->fu,PassesOwn->fx,setItem->fU,collect->fV,callerA->fX,BindsTo->fY,pickOrder->gh,checkBuiltinCall->gi,Model->gA,valueAt->gJ,truthy->gL,newFunctionEnv->gP,builtinsNs->gQ,atKey->gU,updateSeq->i3,noteFrame->i4,list_append->jp,field->j1,compStart->j2,bindL->j3,bindC->j4,TriplesOk->j7,IsEnumOut->ka,typeOf->lf,release->li,relabel->lm,preSum->lv,newList->lw,newExc->l4,Result->ms,ItemsOf->mA,unsupported->o8,slotArgs->o9,setField->pc,newTuple->pp,entryFor->pw,compTurn->px,ZipApart->pC,wpAny_pyIter_tuple->tc,wpAny_dictSet_heap->te,wpAny_Name->th,typeLookup->tl,typeIs_int->tp,setsByText->tv,isInstance->tz,getattributeRaised->tV,entryOfKey->t0,defaultsOf->t5,closureFor->t6,wpAny_storeSet_of->u4,wpAny_sequenceKey->u5,wpAny_pyIter_enum->u6,slot_list_getitem->u7,searchCouldBeSeen->u8,eqIsQuiet_byValue->vl,Meets->vu,wpAny_pyIter_zip->wf,wpAny_execs_cons->wh,seqIndex?->wl,eqIsQuiet->wn,call->wr,beq_builtin_none->ww,Tok->wE,theWindowsPlace->zn,size_of_entries->zx,pushCells_keeps->z0,getAttrByItsOwn->z7,Fin->z8,wpAny_tryCatch->EQ,wpAny_notIn_of->Fa,wpAny_fieldsOf->Fk,wpAny_Expr_any->FM,table->F1,raiseNew->F2,getAttr?->Gc,fitsIndex_both->Go,entryFor_alias->G0,contains->G1,cellOf->Ix,callType_codes->IN,boundAndCalled->IP,argsOk->IR,Moved->IX,wpAny_notedAt->K0,wpAny_in_heap->K2,setSearchFrom->K3,rangeSize_one->Ls,intBits_le_64->L3,evalPart_none->Ms,comprehension->MB,call_list_seq->M0,unaryOp->Ss,splitId->SI,spliced->Td,setAddHashed->Tk,name_of_addr->Tl,leaving->TD,dictSet->TW,codeAny_func->T2,call_range_2->Uf,callType_new->UF,IsRange->UV,wpAny_point->W3,wpAny_in_of->XV,subscripted->X0,setContains->YP,interactive->Zm,IsRangeIter->Zs
open PySem.Around renaming under_plainId->uA,frames_deeper->Lw
open PySem.AutoSeq1 renaming sub_tuple_tuple->Cq,list_extend_list_list_0->Zt
open PySem.Builtin.Dict renaming updateFrom->fI,showsAll->fP,selfAndRest->At,pairItems->AC,dictSlotNone->AT,addKeywords->A1
open PySem.Builtin.Frozenset renaming addrOf->df,oneOther->eG,withSetAsKey->p0,slot0->qs,sizeOf->q9,newClass->rc
open PySem.Builtin.List renaming listExtendWith->cb,listTooLong->cx,listSameRef->cy,listLengthHint->e9,listFitsIndex->z9
open PySem.Builtin.Range renaming rangeSize->fy,small->wT
open PySem.Builtin.Slice renaming slicePlaces->cf,sliceAdjust->du,sliceApplied->e8,slicePartIndex->wP,sliceFields->wS
open PySem.Builtin.SmallTypes renaming nextOf->aR,ownedTupleHandOut->bq,ownedTupleIsFree->bv
open PySem.Builtin.Tuple renaming tupleHashOf->bh,tupleExact->bn,tupleCompareSizes->bR,tupleItemsOf->c9,tupleIsExact->e7
open PySem.Calls renaming spliced_nil->Gr,spliced_cons->Gq,callWith_builtin->Gg,evalArgs_plain->Gf,Name_function_global->Lx
open PySem.Data renaming cell->fL,fields->hX,seq->P0
open PySem.F renaming called_set->Lz,plainAttrs_list->zk,slot_tuple_hash->HF,slot_dict_keyiterator_next->Bj,slot_enumerate_next->Cy,plain_list_iadd->Ce,slot_tuple_add->Gm,entry_tuple_add->Gk,args_tuple_add_2->Gj,called_tuple->Pl,slot_set_contains->Kw,slot_list_getattribute->Pk,entry_list_append->Ll,args_list_append_2->Lk,slot_list_pop->Lh,type_list_pop->Lg,args_object_init_2->Lf,slot_tuple_iterator_next->Le,entry_enumerate_next->Ld,args_enumerate_next_1->Lc,slot_set_iter->KZ,entry_proto_collect->KY,plain_proto_collect->KW,entry_list_iadd->KU,plain_extend_loop->KS,slot_dict_iter->KQ,entry_dict_keyiterator_next->KO,args_dict_keyiterator_next_1->KN,attr_TypeError->VI,plain_set_new->KD,slot_set_add->KC
open PySem.Heap renaming get?_push_of_some->jM,lt_size->jN,get?_push_size->kc,size_push->rC,get?_update_self->uD,get?_update_other->xD,get?_update_ne->FY,SameBut->aI,ExtBut->eJ
open PySem.Heap.SameBut renaming update->rp,refl->CG
open PySem.NameKind renaming free->aL,cell->c7
open PySem.Obj renaming data_mapFields->uz,isFreed_of_fields->CD,cls_mapFields->CC,mapSeq->aG,mapFields->gF,putSet->mu
open PySem.Paired renaming length->sG
open PySem.SeqAt.EqAt renaming str_int->gr,int_str->gu,same->gK,bool_bool->hW,str_str->M2,str_none->No,str_bool->NE,none_str->Op,none_int->OO,none_bool->O0,int_none->O1,int_int->O2,int_bool->O3,bool_str->O9,bool_none->Ps,bool_int->PP
open PySem.SetTable renaming below->ap,insertAt->aA,runEnd->aF,bits->aO,turns->cp,leap->c6,Probe->dF,sizeAbove->eI,grown->fK,layClean->gW,tooFull->hV,fresh->j8,slot->me,laid->mi,fits->mj,fill->mo,put->nF,sameMemory->Zn,relaid->Zo,has->Zp,gaveWay->Zq,advance->Zr
open PySem.SetTable.layClean renaming free->bV
open PySem.SetTable.probe renaming go->ef
open PySem.Shared renaming TypeIs->eP
open PySem.Str renaming ofString->bi
open PySem.Value renaming none->au,ref->bg,type->bQ,builtin->cS,bool->cY,notImplemented->dr,int->gk,str->l8,isStrOf->sB,isInt->vr
open PySem.W renaming Frag->iW,mg_none_of->om,kia_one->qI,kia_tup->qH,cellsFrom_some->CP,nsIn->aS,keepIn->cw,fnOf->cz,kitOne->dJ,kitAny->eu,codeIn->ew,methodObj->eY,kitx_tuple->gV,kitx_none->gY,kitx_list->hD,kitx_dict->hH,kitx_bool->hL,kitx_str->ia,kitx_set->ib,kitx_int->ik,mg_of->nz
open StateT renaming run_pure->F6
open Sum renaming inl->dA,inr->fH
open True renaming intro->be
open PySem PySem.Spec PyProof.Rows
section
abbrev jn:=iK->Shared->Prop
abbrev jq:=List<|iu×e6
abbrev jg:=List<|List Int
abbrev iO:=List Int
abbrev jy:=List iK
abbrev ll:=ax->Option iK
abbrev jU:=List Nat
abbrev uq:=Array<|Int×iK
abbrev mU:=Array iK
abbrev je:=List ax
abbrev kr:=List Expr
abbrev vU:=Bool->Shared->Prop
abbrev Bi:=Option iK->Shared->Prop
abbrev yY:=iK->iK->ey iK
abbrev vT:=Array<|Option Nat
abbrev rY:=Array<|Option iK
abbrev kU:=List<|ax×iu
abbrev rX:=List qc
abbrev Bh:=Array eV
abbrev jW:=Nat->Prop
abbrev kI:=List iu
abbrev jL:=Scope
abbrev iI:=Expr
end
section
open PySem.SeqAt
theorem iP:type_of% @if_pos:=@if_pos
theorem jc:type_of% @if_neg:=@if_neg
theorem jP:type_of% @if_false:=@if_false
theorem kG:type_of% @if_true:=@if_true
def lS:=@decide_eq_false
def mV:=@congrArg
theorem nN:type_of% @decide_eq_true:=@decide_eq_true
theorem nM:type_of% @or_false:=@or_false
theorem qe:type_of% @not_or:=@not_or
theorem uC:type_of% @bne_self_eq_false:=@bne_self_eq_false
theorem yZ:type_of% @beq_eq_false_iff_ne:=@beq_eq_false_iff_ne
theorem vh:type_of% @decide_eq_true_eq:=@decide_eq_true_eq
theorem Fo:type_of% @beq_iff_eq:=@beq_iff_eq
def FN:=@of_decide_eq_true
end
namespace TT
noncomputable def adv(mask:Nat)(p:dF):SetTable.Probe:=
 if p.more>0 then {p with j:=p.j+1,more:=p.more-1} else
 {p with j:=(c6 mask p.i p.perturb).1,more:=aF mask (c6 mask p.i p.perturb).1-(c6 mask p.i p.perturb).1,i:=(c6 mask p.i p.perturb).1,perturb:=(c6 mask p.i p.perturb).2}
noncomputable def stt(mask:Nat)(h:Int):SetTable.Probe:={j:=aO h%(mask+1),more:=aF mask (aO h%(mask+1))-aO h%(mask+1),i:=aO h%(mask+1),perturb:=aO h,dummy:=I}
noncomputable def pr(mask:Nat)(h:Int):Nat->dF
 |0=>stt mask h
 |n+1=>adv mask<|pr mask h n
structure TabOk(hs:iO)(t:mE):Prop where
 pow: ∃k,3<=k/\k<=11/\t.mask+1=2^k
 dum:t.dummies= #[]
 len:t.place.size=ZB hs
 room:5*(ZB hs)<3*t.mask
 ris:t.place.toList.Pairwise (· < ·)
 bd: ∀j∈t.place.toList,j<=t.mask
 road: ∀(i:Nat) (h:Int) (j:Nat),hs[i]?=Zv h->t.place[i]?=Zv j-> ∃n,(pr t.mask h n).j=j/\ ∀m,m<n->(pr t.mask h m).j∈t.place.toList
end TT
namespace L2
abbrev Key:=Sum Int ax
noncomputable def Ao:Key->iK->Bool
 | .inl k,v=>vr k v
 | .inr x,v=>sB x v
noncomputable def YH(w:iR):Key->Int
 | .inl k=>hashInt k
 | .inr x=>hashStr w x
def kM: ∀{k:Key} {v:iK},Ao k v=J->(∃i t,k=dA i/\v=gk i t)\/(∃x t,k=fH x/\v=l8 x t)
 | .inl i,v,h=>by obtain⟨t,e⟩:=Value.isInt_shape (k:=i) (v:=v) h;exact .inl ⟨i,t,rfl,e⟩
 | .inr x,v,h=>by obtain⟨t,e⟩:=Value.isStrOf_shape (x:=x) (v:=v) h;exact .inr ⟨x,t,rfl,e⟩
def J2(i:Int)(t:wE):Ao (.inl i) (.int i t)=J:=by simp[Ao,vr]
def J1(x:ax)(t:wE):Ao (.inr x) (.str x t)=J:=by simp[Ao,sB]
def NY(a b:Int):decide ((dA a:Key)=dA b)=(a==b):=by
 by_cases e:a=b
 .subst e;simp
 .have h: ¬(dA a:Key)=dA b:=λq=>e<|Sum.inl.inj q;rw[lS h];exact(yZ.mpr e).symm
def NV(a b:ax):decide ((fH a:Key)=fH b)=decide (a=b):=by
 by_cases e:a=b
 .subst e;simp
 .have h: ¬(fH a:Key)=fH b:=λq=>e<|Sum.inr.inj q;rw[lS h,lS e]
def NX(a:Int)(b:ax):decide ((dA a:Key)=fH b)=C:=lS (λq=>nomatch q)
def NW(a:ax)(b:Int):decide ((fH a:Key)=dA b)=C:=lS (λq=>nomatch q)
noncomputable def ky(d:iX)(w:iR):PySem.KeyKind d w Key where
 is:=Ao
 hash:=YH w
 inj:=λv a b g f=>by
  rcases kM g with⟨i,t,rfl,rfl⟩|⟨x,t,rfl,rfl⟩
  .rcases kM f with⟨j,u,rfl,e⟩|⟨y,u,rfl,e⟩
   .injection e with c _;rw[c]
   .exact nomatch e
  .rcases kM f with⟨j,u,rfl,e⟩|⟨y,u,rfl,e⟩
   .exact nomatch e
   .injection e with c _;rw[c]
 byValue:=λk v h=>by rcases kM h with⟨i,t,rfl,rfl⟩|⟨x,t,rfl,rfl⟩<;>rfl
 pyHash:=λhv h=>by
  rcases kM hv with⟨i,t,rfl,rfl⟩|⟨x,t,rfl,rfl⟩
  .exact Gv h
  .exact wpAny_pyHash_str h
 eqBool:=λl hv h=>by
  rcases kM l with⟨i,t,rfl,rfl⟩|⟨x,t,rfl,rfl⟩
  .rcases kM hv with⟨j,u,rfl,rfl⟩|⟨y,u,rfl,rfl⟩
   .rw[NY] at h;exact wpAny_eqBool_int h
   .rw[NX] at h;exact gu i t y u _ _ _ _ h
  .rcases kM hv with⟨j,u,rfl,rfl⟩|⟨y,u,rfl,rfl⟩
   .rw[NW] at h;exact gr x t j u _ _ _ _ h
   .rw[NV] at h;exact wpAny_eqBool_str h
 «strs»:=λk x t v h=>by
  rcases kM h with⟨i,u,rfl,e⟩|⟨y,u,rfl,e⟩
  .exact nomatch e
  .injection e with c _
   subst c;cases v<;>rfl
def EH(a:iX)(w:iR)(i:Int)(t:wE):(ky a w).is (.inl i) (.int i t)=J:=J2 i t
def EG(a:iX)(w:iR)(x:ax)(t:wE):(ky a w).is (.inr x) (.str x t)=J:=J1 x t
inductive V where
 |non|bl(b:Bool)|int(i:Int)|str(x:ax)|byt(b:Array UInt8)|flt(b:UInt64)|ref(a:iu)|ty(n:String)
 deriving DecidableEq
def RelV:V->iK->Prop
 | .non,u=>u=au
 | .bl b,u=>u=cY b
 | .int i,u=> ∃t,u=gk i t
 | .str x,u=> ∃t,u=l8 x t
 | .byt b,u=> ∃t,u=Value.bytes b t
 | .flt b,u=> ∃t,u=Value.float b t
 | .ref a,u=>u=bg a
 | .ty n,u=>u=bQ n
abbrev Vals:List V->List iK->Prop:=Paired RelV
def Vals.length{xs:List V}{us:jy}(r:Vals xs us):(ZB xs)=(ZB us):=sG r
def Vals.get{xs:List V}{a:jy}{i:Nat}{x:V}(h:Vals xs a)(e:xs[i]?=Y x): ∃u,a[i]?=Y u/\RelV x u:=by
 induction h generalizing i with
 |nil=>simp at e
 |cons r t b=>
  cases i with
  |zero=>simp at e;subst e;exact⟨_,rfl,r⟩
  |succ i=>simpa using b (by simpa using e)
theorem Vals.set{x:V}{u:iK}(r:RelV x u): ∀{a:List V} {us:jy} (i:Nat),Vals a us->Vals (a.set i x) (us.set i u)
 |_,_,_,.nil=> .nil
 |_,_,0,.cons _ t=> .cons r t
 |_,_,i+1,.cons q t=> .cons q (Vals.set r i t)
def Vals.append{c d:List V}{a b:jy}(h:Vals c a)(s:Vals d b):Vals (c++d) (a++b):=by
 induction h with
 |nil=>exact s
 |cons r t e=>exact .cons r e
theorem Vals.take: ∀{xs:List V} {a:jy} (n:Nat),Vals xs a->Vals (xs.take n) (a.take n)
 |_,_,0,_=> .nil
 |_,_,_+1,.nil=> .nil
 |_,_,n+1,.cons r t=> .cons r (Vals.take n t)
theorem Vals.drop: ∀{b:List V} {a:jy} (n:Nat),Vals b a->Vals (b.drop n) (a.drop n)
 |_,_,0,r=>r
 |_,_,_+1,.nil=> .nil
 |_,_,n+1,.cons _ t=>Vals.drop n t
def RelO:Option V->Option iK->Prop
 |some v,Y u=>RelV v u
 |none,I=>True
 |_,_=>False
def KV{a:Type}:List (a×V)->List (a×iK)->Prop:=Paired λ(p:a×V) (q:a×iK)=>p.1=q.1/\RelV p.2 q.2
noncomputable def kV:Key->V
 | .inl i=> .int i
 | .inr x=> .str x
inductive HO where
 /-- a list -/
 |lst(xs:List V)
 /-- a tuple(never changes) -/
 |tup(xs:List V)
 /-- a dict whose keys are ints and texts;one whose keys are tuples of ints and texts(the empty one is both) -/
 |dK(kvs:List (Key×V))|dT(kvs:List (List Key×V))
 /-- a set of ints:its members,its size -/
 |set (S:Int->Bool) (n:Nat)
 |stt (zs:List (Int×V))
 /-- an instance of the class at C,its dict at dx,its attributes -/
 |ins (C dx:iu) (fs:List (ax×V))
 /-- the dict of the instance at x -/
 |own (x:iu)
 /-- the dict of an exception -/
 |xd (fs:List (ax×V))
 /-- a bound method,f of x -/
 |met (f x:iu)
 /-- a range object lo,lo+1,.. below hi -/
 |rng (lo hi:Int)
 /-- a thing that is known to the object (the script;a dict while a loop walks it):read,never written while it is so -/
 |frz (o:e6) (u:HO)
 /-- a code object's F1 -/
 |tbl (ps:mU)
 /-- any other thing,by what is Zx of its one object (a def of one's own:SetO a S n:=HO.ext λh=> ..) -/
 |ext (φ:iT->Prop)
abbrev Hp:=iu->Option HO
noncomputable def upd(U:Hp)(a:iu)(o:HO):Hp:=λb=>if b=a then Y o else U b
def ja{U:Hp}{a:iu}{o:HO}:upd U a o a=Y o:=by unfold upd;rw[iP H]
def jb{U:Hp}{a b:iu}{o:HO}(h:b≠a):upd U a o b=U b:=by unfold upd;rw[jc h]
def HM{U:Hp}{a:iu}{o u:HO}:upd (upd U a o) a u=upd U a u:=by funext b;unfold upd;split<;>rfl
def Nz{U:Hp}{a b:iu}{o u:HO}(h:U a=Y o)(h':U b=Y u)(d:o≠u):a≠b:=by intro e;subst e;rw[h] at h';exact d<|kE h'
def kP{U:Hp}{a b:iu}{o:HO}(h:U a=Y o)(c:U b=I):a≠b:=by intro e;subst e;rw[h] at c;cases c
section
variable(P:iX)(w:iR)
def ObjOk(T:Hp)(h:iT)(a:iu):HO->Prop
 | .lst g=>ZB g<=sizeLine/\ ∃(b:jy) (n:Nat),Vals g b/\h.get? a=Y {cls:= .type "list",data:= .seq b.toArray n}
 | .tup g=>ZB g<=sizeLine/\ ∃b:List iK,Vals g b/\ro h a b.toArray
 | .dK d=>ZB d<=sizeLine/\(a==bw)=C/\ ∃k,KV d k/\h.DictOf (ky P w) a k
 | .dT d=>ZB d<=sizeLine/\(a==bw)=C/\ ∃g:List (List Key×iu×iK),
   Paired (λ(p:List Key×V) (q:List Key×iu×iK)=>p.1=q.1/\T q.2.1=Y (.tup<|p.1.map kV)/\RelV p.2 q.2.2) d g/\
   ∃o j U,h.get? a=Y o/\o.ExactDict/\o.data= .dict j U/\j.toList=g.map (t0<|cB<|ky P w)/\(g.map (·.1)).Nodup
 | .set S n=>h.SetOf (intKind P w) a S n
 | .stt E=> ∃(j:uq) (n:Nat) (t:mE),h.get? a=Y {cls:= .type "set",data:= .set j n t}/\Paired (λ(z:Int×V) (e:Int×iK)=>z.1=e.1/\RelV z.2 e.2) E j.toList/\
   TT.TabOk (E.map (·.1)) t/\t.plain=J/\t.led=!w.params.followText "set-order"
 | .ins Q l fs=>T l=Y (.own a)/\(ZB fs)<=1000/\l≠a/\h.get? a=Y (PySem.W.instObj Q l)/\
   ∃i,h.Ns1 l i/\(∀f,RelO (fs.lookup f)<|i f)/\PySem.Within i (fs.map (·.1))
 | .own _=> ∃o,h.get? a=Y o
 | .xd fs=> ∃i,h.Ns1 a i/\ ∀f,RelO (fs.lookup f)<|i f
 | .rng lo L=> ∃t u v,h.get? a=Y {cls:= .type "range",data:= .fields #[.int lo t,.int L u,.int 1 v]}
 | .frz o u=>h.get? a=Y o/\ObjOk T h a u
 | .tbl O=> ∃q t r,O[0]?=Y (.str q t)/\h.get? a=Y {cls:= .none,data:= .fields r}/\j7 r.toList/\ ∀m y,eC m r.toList=Y y-> ∃c B u k t,y= .ref c/\T c=Y (.frz B u)/\B.data= .fields k/\k[1]?=Y (.str q t)
 | .met f x=>h.get? a=Y (eY (.ref f)<|.ref x)
 | .ext s=>s h/\(∃o,h.get? a=Y o)/\ ∀h1 A:iT,s h1->(∀o,h1.get? a=Y o->A.get? a=Y o)->s A
def HOk(U:Hp)(h:iT):Prop:= ∀a o,U a=Y o->ObjOk P w U h a o
end
section
variable {P:iX}{w:iR}{H g:Hp}{h h':iT}{a:iu}{o:HO}
def ObjOk.lt(x:ObjOk P w H h a o):a<h.objs.size:=by
 cases o with
 |lst c=>obtain⟨_,_,_,_,e⟩:=x;exact jN e
 |tup c=>obtain⟨_,_,_,p⟩:=x;exact p.lt
 |dK b=>obtain⟨_,_,_,_,o,_,_,e,_⟩:=x;exact jN e
 |dT b=>obtain⟨_,_,_,_,o,_,_,e,_⟩:=x;exact jN e
 |set S n=>obtain⟨o,_,_,_,e,_⟩:=x;exact jN e
 |stt l=>obtain⟨_,_,_,e,_⟩:=x;exact jN e
 |ins U d fs=>obtain⟨_,_,_,e,_⟩:=x;exact jN e
 |own y=>obtain⟨_,e⟩:=x;exact jN e
 |xd fs=>obtain⟨_,⟨_,_,_,e,_⟩,_⟩:=x;exact jN e
 |rng lo i=>obtain⟨_,_,_,e⟩:=x;exact jN e
 |frz j u=>obtain⟨e,_⟩:=x;exact jN e
 |tbl k=>obtain⟨_,_,_,_,e,_⟩:=x;exact jN e
 |met f y=>exact jN (show h.get? a=Y _ from x)
 |ext m=>obtain⟨_,⟨_,e⟩,_⟩:=x;exact jN e
def Paired.mapP{e i:Type}{F G:e->i->Prop}{c:List e}{d:List i}(h:Paired F c d)(f: ∀a b,F a b->G a b):Paired G c d:=by
 induction h with
 |nil=>exact .nil
 |cons r t j=>exact .cons (f _ _ r) j
def ObjOk.stay(x:ObjOk P w H h a o)(k: ∀b u,(b=a\/H b=Zv (.own a))->h.get? b=Zv u->h'.get? b=Zv u)
  (N: ∀b,H b=Zv (.own a)->g b=Zv (.own a))(U: ∀b A,H b=Zv (.tup A)->g b=Zv (.tup A))(Y: ∀b i u,H b=Zv (.frz i u)->g b=Zv (.frz i u):=by exact λ_ _ _ q=>q):ObjOk P w g h' a o:=by
 induction o with
 |lst A=>obtain⟨z,s,n,r,e⟩:=x;exact⟨z,s,n,r,k _ _ (.inl Zz) e⟩
 |tup A=>obtain⟨z,s,r,i,e,c⟩:=x;exact⟨z,s,r,i,k _ _ (.inl Zz) e,c⟩
 |dK B=>obtain⟨z,y,O,r,i,j,l,e,c⟩:=x;exact⟨z,y,O,r,i,j,l,k _ _ (.inl Zz) e,c⟩
 |dT B=>obtain⟨z,y,A,r,i,j,l,e,c⟩:=x;exact⟨z,y,A,Paired.mapP r λp q z=>⟨z.1,U _ _ z.2.1,z.2.2⟩,i,j,l,k _ _ (.inl Zz) e,c⟩
 |set S n=>obtain⟨i,j,l,t,e,c⟩:=x;exact⟨i,j,l,t,k _ _ (.inl Zz) e,c⟩
 |stt zs=>obtain⟨j,n,t,e,c⟩:=x;exact⟨j,n,t,k _ _ (.inl Zz) e,c⟩
 |ins C' dx fs=>obtain⟨d,z,ne,e,E,⟨I,j,l,G,c⟩,r⟩:=x;exact⟨N _ d,z,ne,k _ _ (.inl Zz) e,E,⟨I,j,l,k _ _ (.inr d) G,c⟩,r⟩
 |own y=>obtain⟨i,e⟩:=x;exact⟨i,k _ _ (.inl Zz) e⟩
 |xd fs=>obtain⟨E,⟨I,j,l,e,c⟩,r⟩:=x;exact⟨E,⟨I,j,l,k _ _ (.inl Zz) e,c⟩,r⟩
 |rng lo hi=>obtain⟨t,u,v,e⟩:=x;exact⟨t,u,v,k _ _ (.inl Zz) e⟩
 |frz i u ih=>obtain⟨e,q⟩:=x;exact⟨k _ _ (.inl Zz) e,ih q⟩
 |tbl ps=>obtain⟨q,t,D,T,e,F,m⟩:=x;exact⟨q,t,D,T,k _ _ (.inl Zz) e,F,λL Q z=>let⟨c,i,u,O,t,h1,J',M⟩:=m L Q z;⟨c,i,u,O,t,h1,Y _ _ _ J',M⟩⟩
 |met f y=>have e:h.get? a=Zv (eY (.ref f)<|.ref y):=x;show h'.get? a=Zv (eY (.ref f)<|.ref y);exact k a _ (.inl Zz) e
 |ext φ=>obtain⟨p,⟨o,e⟩,st⟩:=x;exact⟨st _ _ p λo q=>k _ _ (.inl Zz) q,⟨o,k _ _ (.inl Zz) e⟩,st⟩
def HOk.lt(x:HOk P w H h)(e:H a=Y o):a<h.objs.size:=(x a o e).lt
def HOk.fresh(x:HOk P w H h)(e:h.objs.size<=a):H a=I:=by
 cases q:H a with
 |none=>rfl
 |some u=>exact absurd (nj (x.lt q) e)<|qj _
def HOk.kept(x:HOk P w H h)(k: ∀b u,h.get? b=Y u->h'.get? b=Y u):HOk P w H h':=λa o e=>(x a o e).stay (λb u _ q=>k b u q) (λ_ q=>q) λ_ _ q=>q
def HOk.laid(x:HOk P w H h)(k: ∀b u,h.get? b=Y u->h'.get? b=Y u)(i:h.objs.size<=a)(new:ObjOk P w (upd H a o) h' a o):HOk P w (upd H a o) h':=λb u e=>by
 have d:=x.fresh i;by_cases f:b=a
 .subst f;rw[ja] at e;cases e;exact new
 .rw[jb f] at e;exact(x b u e).stay (λc v _ q=>k c v q) (λc q=>by rw[jb<|kP q d];exact q) (λc xs q=>by rw[jb<|kP q d];exact q) λc _ _ q=>by rw[jb<|kP q d];exact q
end
def Rd(U:Hp)(a:iu)(u:HO):Prop:=U a=Y u\/ ∃o,U a=Y (.frz o u)
def Rd.ok{P:iX}{w:iR}{U:Hp}{h:iT}{a:iu}{u:HO}(r:Rd U a u)(x:HOk P w U h):ObjOk P w U h a u:=by
 rcases r with r|⟨o,r⟩
 .exact x a u r
 .obtain⟨_,q⟩:=x a _ r;exact q
def Mut:Option HO->Prop
 |some (.lst _)=>True
 |some (.dK _)=>True
 |some (.dT _)=>True
 |some (.set _ _)=>True
 |some (.stt _)=>True
 |some (.ins _ _ _)=>True
 |some (.ext _)=>True
 |_=>False
section
variable {P:iX}{w:iR}{H:Hp}{h a:iT}{x e:iu}{d:HO}
def HOk.write(ok:HOk P w H h)(g:Mut (H x))(o:e=x\/H e=Y (.own x))(k: ∀b u,b≠e->h.get? b=Y u->a.get? b=Y u)(s: ∃u,a.get? e=Y u)
  (new:ObjOk P w (upd H x d) a x d):HOk P w (upd H x d) a:=λb u q=>by
 have f: ∀c y,H c=Y (.own y)->c≠x:=λc y r z=>by subst z;rw[r] at g;exact g
 have i: ∀c n,H c=Y (.tup n)->c≠x:=λc n r z=>by subst z;rw[r] at g;exact g
 by_cases l:b=x
 .subst l;rw[ja] at q;cases q;exact new
 .rw[jb l] at q;by_cases j:b=e
  .have p:H b=Y (.own x):=by
    rcases o with z|z
    .exact absurd (j.trans z) l
    .rw[j];exact z
   rw[q] at p;cases p;obtain⟨v,hv⟩:=s;exact⟨v,by rw[j];exact hv⟩
  .refine(ok b u q).stay (λc v m r=>k c v ?_ r) (λc r=>by rw[jb<|f c b r];exact r) (λc n r=>by rw[jb<|i c n r];exact r) λc _ _ r=>by rw[jb λz=>by subst z;rw[r] at g;exact g];exact r
   rcases m with rfl|m
   .exact j
   .rintro rfl;rcases o with z|z
    .exact f c b m z
    .rw[m] at z;cases z;exact l Zz
end
structure Un(fs ex:kI)(H H':Hp)(h h':iT):Prop where
 keep: ∀b o,h.get? b=Zv o->H b=Zw->b∉fs->b∉ex->h'.get? b=Zv o
 slot: ∀b o,h.get? b=Zv o->H b=Zw->b∈fs->b∉ex-> ∃sl,h'.get? b=Zv {o with slots:=sl}
 free: ∀b o,h.get? b=Zv o->H b=Zw->b∉ex->H' b=Zw
 there: ∀b o,h.get? b=Zv o->b∉ex-> ∃o',h'.get? b=Zv o'
 tups: ∀b xs,H b=Zv (.tup xs)->H' b=Zv (.tup xs)
 frzs: ∀b o u,H b=Zv (.frz o u)->H' b=Zv (.frz o u)
 tbls: ∀b ps,H b=Zv (.tbl ps)-> ∃more,H' b=Zv (.tbl<|ps++more)
section
variable {fs c ex d:kI}{H f i:Hp}{h h1 g h':iT}{a x e:iu}{o:HO}
def Un.any(u:Un fs ex H f h h1){b:iu}{j:e6}(q:h.get? b=Y j)(n:H b=I)(l:b∉ex): ∃m,h1.get? b=Y {j with slots:=m}:=by
 by_cases k:b∈fs
 .exact u.slot b j q n k l
 .exact⟨j.slots,u.keep b j q n k l⟩
def Un.kept(k: ∀b u,h.get? b=Y u->h'.get? b=Y u):Un fs ex H H h h':=
 ⟨λb j q _ _ _=>k b j q,λb j q _ _ _=>⟨j.slots,k b j q⟩,λ_ _ _ n _=>n,λb j q _=>⟨j,k b j q⟩,λ_ _ q=>q,λ_ _ _ q=>q,λ_ l q=>⟨#[],by rw[q];simp⟩⟩
def Un.refl:Un fs ex H H h h:=Un.kept λ_ _ q=>q
def Un.laid(k: ∀b u,h.get? b=Y u->h'.get? b=Y u)(r:h.objs.size<=a)(j:H a=I):Un fs ex H (upd H a o) h h' where
 keep:=λb u q _ _ _=>k b u q
 slot:=λb u q _ _ _=>⟨u.slots,k b u q⟩
 free:=λb u q n _=>by rw[jb<|jF<|nj (jN q) r];exact n
 there:=λb u q _=>⟨u,k b u q⟩
 tups:=λb xs q=>by rw[jb<|kP q j];exact q
 frzs:=λb u xs q=>by rw[jb<|kP q j];exact q
 tbls:=λb s q=>⟨#[],by rw[jb<|kP q j,q];simp⟩
def Un.write(j:Mut (H x))(v:e=x\/H e=Y (.own x))(k: ∀b u,b≠e->h.get? b=Y u->h'.get? b=Y u)(t: ∃u,h'.get? e=Y u):Un fs ex H (upd H x o) h h':=by
 have s: ∀b,H b=I->b≠x:=λb n z=>by subst z;rw[n] at j;exact j
 have p: ∀b,H b=I->b≠e:=λb n z=>by
  subst z;rcases v with r|r
  .exact s b n r
  .rw[n] at r;cases r
 have l: ∀b u,H b=Y u-> ¬Mut (Y u)->b≠x:=λb u q w z=>by subst z;rw[q] at j;exact w j
 refine⟨λb u q n _ _=>k b u (p b n) q,λb u q n _ _=>⟨u.slots,k b u (p b n) q⟩,λb u q n _=>by rw[jb<|s b n];exact n,λb u q _=>?_,
  λb y q=>by rw[jb<|l b _ q λz=>z];exact q,λb u y q=>by rw[jb<|l b _ q λz=>z];exact q,λb A q=>⟨#[],by rw[jb<|l b _ q λz=>z,q];simp⟩⟩
 by_cases m:b=e
 .subst m;exact t
 .exact⟨u,k b u m q⟩
end
noncomputable def trk(h:iT)(U:Hp):List Addr:=(aw h.objs.size).filter λa=>(U a).isSome
noncomputable def A8(h:iT)(U:Hp):Heap:=PySem.W.hideAll h<|trk h U
def J8(h:iT)(U:Hp):(A8 h U).objs.size=h.objs.size:=PySem.W.hideAll_size _ _
def N6{h:iT}{U:Hp}{b:iu}{o:e6}(e:h.get? b=Y o)(n:U b=I):(A8 h U).get? b=Y o:=
 PySem.W.hideAll_get _ e λa=>by have q:(U b).isSome=J:=(wZ.mp a).2;rw[n] at q;simp at q
def Q1{h:iT}{U:Hp}{b:iu}{o:e6}(e:(A8 h U).get? b=Y o):h.get? b=Y o/\U b=I:=by
 have a:h.get? b=Y o:=PySem.W.of_hideAll (trk h U) e;refine⟨a,?_⟩
 cases q:U b with
 |none=>rfl
 |some x=>have c:b∈trk h U:=wZ.mpr ⟨wY.mpr<|jN a,by simp[q]⟩;have z:(A8 h U).get? b=I:=PySem.W.hideAll_none (trk h U) c;rw[z] at e;cases e
noncomputable def RZ(g h:iT)(L:iu):List (iu×e6):=(aw h.objs.size).filterMap λa=>if a=L\/(g.get? a).isSome=J then I else(h.get? a).map λo=>(a,o)
noncomputable def jw(g h:iT)(L d:iu):List (iu×e6):=(RZ g h L).filter λp=>decide<|p.1≠d
structure Mod(K:iW)(mg:ll)(base:iT):Prop where
 kin:K.In base
 glob:base.Ns am mg
 blt: ∃mb,base.Ns gQ mb/\ ∀x:ax,x≠"__name__"->mb x=ay x
 nolimit:base.NoLimit
structure Cx where
 prog:iX
 w:iR
 K:iW
 mg:ax->Option iK
 base:iT
 A:iU
 N:List ax
 s₀:Shared
 H₀:Hp
 env:d1
 outer:List d1
 stack:List d1
 ex:List iu
 fn:ax->Bool
 calm:Bool
 pn:List (iu×e6)
 xe:iK->Shared->Prop
noncomputable def frs(l:List d1):List Addr:=l.filterMap (·.frame)
abbrev Cx.fs(X:Cx):List Addr:=frs X.outer
def Vis(a:jL)(x:ax):Prop:=a.names.lookup x=Y .local\/a.names.lookup x=Y .cell\/a.names.lookup x=Y .free
def Loc(a:jL)(x:ax):Prop:=a.names.lookup x=Y .local\/a.names.lookup x=Y .cell
def Y2(a:d1)(h:iT)(m:ll)(x:ax)(u:iK):Prop:=
 (a.kindOf x=Y .local/\m x=Y u)\/((a.kindOf x=Y .cell\/a.kindOf x=Y .free)/\ ∃c,a.cells.lookup x=Y c/\h.IsCell c (Y u))
structure Cx.Ok(X:Cx):Prop where
 mod:Mod X.K X.mg X.base
 kind:X.env.scope.kind= .function
 glob:X.env.globals=am
 blt:X.env.builtins=gQ
 above:X.s₀.heap.objs.size<=X.env.locals
 inj: ∀x y c,X.env.cells.lookup x=Zv c->X.env.cells.lookup y=Zv c->x=y
 has: ∀x,(X.env.kindOf x=Zv .cell\/X.env.kindOf x=Zv .free)-> ∃c,X.env.cells.lookup x=Zv c
 cab: ∀x c,X.fn x=Zx->X.env.cells.lookup x=Zv c->X.s₀.heap.objs.size<=c
 hd:X.calm=Zx->X.A.handled=Zw
 frames:X.A.frames=Zv X.stack
 stk:X.stack=X.outer\/(X.stack=X.env::X.outer/\X.env.frame=Zv X.env.locals)
 exf: ∀b∈X.ex,b≠X.env.locals/\ ∀x c,X.env.cells.lookup x=Zv c->c≠b
 bs: ∀b o,X.base.get? b=Zv o->X.s₀.heap.get? b=Zv o/\X.H₀ b=Zw
 bsz:X.base.objs.size<=X.s₀.heap.objs.size
 noex: ∀b o,X.base.get? b=Zv o->b∉X.ex
 exfs: ∀b∈X.ex,b∉X.fs
 funs:X.s₀.heap.FunFrames X.base X.outer
 frf: ∀b∈X.fs,X.H₀ b=Zw
structure Inv(X:Cx)(pins:jq)(σ:List (Option V))(H:Hp)(s:iC):Prop where
 ok:X.Ok
 os:s.os=X.s₀.os
 bare:ej s.gens
 base:Un X.fs X.ex X.H₀ H X.s₀.heap s.heap
 loc: ∃m,s.heap.Ns X.env.locals m/\ ∀(i:Nat) (x:ax) (v:V),X.N[i]?=Zv x->σ[i]?=Zv (Zv v)->Vis X.env.scope x-> ∃u,RelV v u/\Y2 X.env s.heap m x u
 cell: ∀x c,X.env.cells.lookup x=Zv c-> ∃v,s.heap.IsCell c v
 free:H X.env.locals=Zw
 freeC: ∀x c,X.env.cells.lookup x=Zv c->H c=Zw
 pin: ∀p∈X.pn++pins,s.heap.get? p.1=Zv p.2/\H p.1=Zw/\p.1≠X.env.locals/\p.1∉X.fs/\ ∀v,p.2.data≠ .cell v
 hok:HOk X.prog X.w H s.heap
 len:(ZB σ)=X.N.length
section
variable {X:Cx}{f:jq}{g:List (Option V)}{H B:Hp}{s:iC}{h':iT}
def Cx.Ok.nofr(ok:X.Ok){b:iu}{o:e6}(e:X.base.get? b=Y o):b∉X.fs:=λa=>by have:=(ok.funs.mem a).1;rw[e] at this;cases this
def Inv.bs(U:Inv X f g H s): ∀b o,X.base.get? b=Y o->s.heap.get? b=Y o/\H b=I:=λb o e=>⟨U.base.keep b o (U.ok.bs b o e).1 (U.ok.bs b o e).2 (U.ok.nofr e)<|U.ok.noex b o e,U.base.free b o (U.ok.bs b o e).1 (U.ok.bs b o e).2<|U.ok.noex b o e⟩
def Inv.bk(U:Inv X f g H s): ∀b o,X.base.get? b=Y o->s.heap.get? b=Y o:=λb o e=>(U.bs b o e).1
def Inv.mod(U:Inv X f g H s):Mod X.K X.mg X.base:=U.ok.mod
def Inv.kIn(U:Inv X f g H s):X.K.In s.heap:=U.ok.mod.kin.keeps U.bk
def Inv.lt(U:Inv X f g H s):X.env.locals<s.heap.objs.size:=let⟨_,a,_⟩:=U.loc;a.lt
def Inv.sz(U:Inv X f g H s):X.s₀.heap.objs.size<=s.heap.objs.size:=ma U.ok.above<|sD U.lt
def Inv.nofs(U:Inv X f g H s){a:iu}(h:s.heap.objs.size<=a):a∉X.fs:=λb=>by obtain⟨_,o,c,_⟩:=U.ok.funs.mem b;exact absurd (nj (jN c)<|ma U.sz h)<|qj _
def Inv.cne(U:Inv X f g H s): ∀x c,X.env.cells.lookup x=Y c->c≠X.env.locals:=λx c e z=>by obtain⟨v,o,a,hd⟩:=U.cell x c e;obtain⟨m,⟨j,i,h,b,d,_⟩,_⟩:=U.loc;rw[z,b] at a;cases a;rw[d] at hd;cases hd
def Inv.funs(U:Inv X f g H s):s.heap.FunFrames X.base X.outer:=by
 have all: ∀(l:List d1),(∀b∈frs l,b∈X.fs)->X.s₀.heap.FunFrames X.base l->s.heap.FunFrames X.base l:=by
  intro l
  induction l with
  |nil=>intro _ _;trivial
  |cons i r p=>intro h j;obtain⟨hk,⟨L,o,d,k,m,hd⟩,n⟩:=j;have a:L∈X.fs:=h L (by unfold frs;rw[uH,d];exact jT);obtain⟨q,e⟩:=U.base.slot L o m (U.ok.frf L a) a λz=>U.ok.exfs L z a;exact⟨hk,⟨L,_,d,k,e,hd⟩,p (λb c=>h b<|by unfold frs;rw[uH,d];exact jX _ c) n⟩
 exact all X.outer (λ_ c=>c) U.ok.funs
def Inv.stack(U:Inv X f g H s):s.heap.FunFrames X.base X.stack:=by
 rcases U.ok.stk with e|⟨e,hf⟩
 .rw[e];exact U.funs
 .rw[e];obtain⟨m,a,_⟩:=U.loc;refine .cons (by rw[U.ok.kind];decide) hf a ?_ U.funs;exact Heap.get?_none_of_le<|ma U.ok.bsz U.ok.above
def Inv.stkSub(U:Inv X f g H s): ∀b∈frs X.stack,b∈X.env.locals::X.fs:=λb a=>by
 rcases U.ok.stk with e|⟨e,hf⟩
 .rw[e] at a;exact jX _ a
 .rw[e] at a;unfold frs at a;rw[uH,hf] at a;exact a
def Inv.stkFree(U:Inv X f g H s): ∀b∈frs X.stack,H b=I:=λb a=>by
 rcases kT.mp (U.stkSub b a) with e|a
 .rw[e];exact U.free
 .obtain⟨_,o,c,_⟩:=U.ok.funs.mem a;exact U.base.free b o c (U.ok.frf b a) λz=>U.ok.exfs b z a
def Inv.step{g':Array eD}{t':Nat}{d':Drawn}{ch:kI}(I:Inv X f g H s)
  (E: ∀b∈ch,(b∈X.ex\/X.s₀.heap.objs.size<=b)/\b≠X.env.locals/\(∀x c,X.env.cells.lookup x=Y c->c≠b)/\ ∀p∈X.pn++f,p.1≠b)
  (keep: ∀b o,b≠X.env.locals->b∉X.fs->b∉ch->s.heap.get? b=Y o->H b=Zw->h'.get? b=Y o)
  (slot: ∀b o,b≠X.env.locals->b∈X.fs->b∉ch->s.heap.get? b=Y o->H b=Zw-> ∃Y',h'.get? b=Y {o with slots:=Y'})(free: ∀b o,b∉ch->s.heap.get? b=Y o->H b=Zw->B b=Zw)
  (there: ∀b o,b∉ch->s.heap.get? b=Y o-> ∃T,h'.get? b=Y T)
  (J: ∀b t,H b=Y (.tup t)->B b=Y (.tup t))(O: ∀b o u,H b=Y (.frz o u)->B b=Y (.frz o u))(G: ∀b N,H b=Y (.tbl N)-> ∃more,B b=Y (.tbl<|N++more))
  (ns: ∀m,s.heap.Ns X.env.locals m->h'.Ns X.env.locals m)(U:HOk X.prog X.w B h')(hg:ej g'):
  Inv X f g B {s with heap:=h',gens:=g',drawn:=d',toks:=t'}:=by
 have Q: ∀b o,X.s₀.heap.get? b=Y o->b≠X.env.locals:=λb o e=>jF<|nj (jN e) I.ok.above
 have M: ∀b o,X.s₀.heap.get? b=Y o->b∉X.ex->b∉ch:=λb o e a y=>by
  rcases(E b y).1 with z|z
  .exact a z
  .exact absurd (nj (jN e) z) (qj _)
 have h: ∀x c,X.env.cells.lookup x=Y c-> ∀v,s.heap.IsCell c v->h'.IsCell c v:=λx c e v a'=>by
  obtain⟨o,A,hd⟩:=a'
  have C:c∉ch:=λz=>(E c z).2.2.1 x c e Zz;by_cases D:c∈X.fs
  .obtain⟨Y',q⟩:=slot c o (I.cne x c e) D C A<|I.freeC x c e;exact⟨_,q,hd⟩
  .exact⟨o,keep c o (I.cne x c e) D C A<|I.freeC x c e,hd⟩
 refine⟨I.ok,I.os,hg,⟨λb o e n y a=>?_,λb o e n y a=>?_,λb o e n a=>?_,λb o e a=>?_,λb t e=>J b t<|I.base.tups b t e,λb o t e=>O b o t<|I.base.frzs b o t e,λb N e=>?_⟩,?_,λx c e=>?_,?_,λx c e=>?_,λp F=>?_,U,I.len⟩
 .exact keep b o (Q b o e) y (M b o e a) (I.base.keep b o e n y a) (I.base.free b o e n a)
 .obtain⟨Y',j⟩:=I.base.slot b o e n y a;obtain⟨R,L⟩:=slot b _ (Q b o e) y (M b o e a) j (I.base.free b o e n a);exact⟨R,L⟩
 .obtain⟨T,j⟩:=I.base.there b o e a;exact free b T (M b o e a) j<|I.base.free b o e n a
 .obtain⟨T,j⟩:=I.base.there b o e a;exact there b T (M b o e a) j
 .obtain⟨W,j⟩:=I.base.tbls b N e;obtain⟨Z,L⟩:=G b _ j;exact⟨W++Z,by rw[L,Gu]⟩
 .obtain⟨m,V,S⟩:=I.loc;refine⟨m,ns m V,λi x v j L P=>?_⟩;obtain⟨u,r,l⟩:=S i x v j L P;refine⟨u,r,?_⟩;rcases l with l|⟨k,c,e,z⟩
  .exact .inl l
  .exact .inr ⟨k,c,e,h x c e _ z⟩
 .obtain⟨v,z⟩:=I.cell x c e;exact⟨v,h x c e v z⟩
 .obtain⟨m,⟨o,_,_,A,_⟩,_⟩:=I.loc;exact free _ o (λz=>(E _ z).2.1 Zz) A I.free
 .obtain⟨v,o,A,hd⟩:=I.cell x c e;exact free c o (λz=>(E c z).2.2.1 x c e Zz) A<|I.freeC x c e
 .obtain⟨e,n,ne,K,d⟩:=I.pin p F;have C:p.1∉ch:=λz=>(E p.1 z).2.2.2 p F Zz;exact⟨keep p.1 p.2 ne K C e n,free p.1 p.2 C e n,ne,K,d⟩
def Inv.un{t':Nat}(U:Inv X f g H s)(u:Un X.fs [] H B s.heap h')(d:HOk X.prog X.w B h'):Inv X f g B {s with heap:=h',toks:=t'}:=by
 obtain⟨m,⟨o,t,q,i,r⟩,_⟩:=id U.loc;obtain⟨y,k⟩:=u.any i U.free (by simp)
 exact U.step (g':=s.gens) (d':=s.drawn) (ch:=[]) (λ_ z=>nomatch z) (λb o _ c _ e n=>u.keep b o e n c<|by simp) (λb o _ c _ e n=>u.slot b o e n c<|by simp) (λb o _ e n=>u.free b o e n<|by simp) (λb o _ e=>u.there b o e<|by simp) u.tups u.frzs u.tbls (λv l=>by obtain⟨x,a,j,h,p⟩:=l;rw[i] at h;cases h;exact⟨_,a,j,k,p⟩) d U.bare
def Inv.call{g':Array eD}{t':Nat}{d':Drawn}{ch:kI}(U:Inv X f g H s)(u:Un (frs X.stack) ch H B s.heap h')(i:HOk X.prog X.w B h')(v:ej g')
  (j: ∀b∈ch,(b∈X.ex\/X.s₀.heap.objs.size<=b)/\b≠X.env.locals/\(∀x c,X.env.cells.lookup x=Y c->c≠b)/\ ∀p∈X.pn++f,p.1≠b):
  Inv X f g B {s with heap:=h',gens:=g',drawn:=d',toks:=t'}:=by
 obtain⟨m,⟨o,E,T,l,r⟩,_⟩:=id U.loc;obtain⟨Q,h⟩:=u.any l U.free λz=>(j _ z).2.1 Zz
 exact U.step (ch:=ch) j (λb o h t a e n=>u.keep b o e n (λz=>(kT.mp<|U.stkSub b z).elim h t) a) (λb o _ _ a e n=>u.any e n a) (λb o a e n=>u.free b o e n a) (λb o a e=>u.there b o e a) u.tups u.frzs u.tbls (λL y=>by obtain⟨O,d,q,k,A⟩:=y;rw[l] at k;cases k;exact⟨_,d,q,h,A⟩) i v
def Inv.turned{t':Nat}{it:iu}(U:Inv X f g H s)(k: ∀b o,b≠it->s.heap.get? b=Y o->h'.get? b=Y o)(A:H it=I)(h:it≠X.env.locals)
  (h1:it∈X.ex\/X.s₀.heap.objs.size<=it)(l: ∀x c,X.env.cells.lookup x=Y c->c≠it)(t: ∀p∈X.pn++f,p.1≠it):Inv X f g H {s with heap:=h',toks:=t'}:=by
 have d: ∀b u,H b=Y u->b≠it:=λb u e z=>by rw[z,A] at e;cases e
 refine U.step (g':=s.gens) (d':=s.drawn) (ch:=[it]) (λb w=>?_) (λb o _ _ a e _=>k b o (λz=>a<|by simp[z]) e) (λb o _ _ a e _=>⟨o.slots,k b o (λz=>a<|by simp[z]) e⟩) (λ_ _ _ _ n=>n)
  (λb o a e=>⟨o,k b o (λz=>a<|by simp[z]) e⟩) (λ_ _ e=>e) (λ_ _ _ e=>e) (λb E e=>⟨#[],by rw[e];simp⟩) (λm y=>?_) (λb u e=>?_) U.bare
 .have e:b=it:=by simpa using w
  subst e;exact⟨h1,h,l,t⟩
 .obtain⟨o,j,i,T,r⟩:=y;exact⟨o,j,i,k _ o (ni h) T,r⟩
 .refine(U.hok b u e).stay (λc v a q=>k c v ?_ q) (λ_ q=>q) λ_ _ q=>q;rcases a with z|z
  .rw[z];exact d b u e
  .exact d c _ z
def Inv.tok(U:Inv X f g H s)(t:Nat):Inv X f g H {s with toks:=t}:=U.un (h':=s.heap) (t':=t) Un.refl U.hok
def Inv.kept{t':Nat}(U:Inv X f g H s)(k: ∀b u,s.heap.get? b=Y u->h'.get? b=Y u):Inv X f g H {s with heap:=h',toks:=t'}:=U.un (Un.kept k)<|U.hok.kept k
def Inv.laid{a:iu}{o:HO}{t':Nat}(U:Inv X f g H s)(k: ∀b u,s.heap.get? b=Y u->h'.get? b=Y u)(c:s.heap.objs.size<=a)(new:ObjOk X.prog X.w (upd H a o) h' a o):
  Inv X f g (upd H a o) {s with heap:=h',toks:=t'}:=U.un (Un.laid k c<|U.hok.fresh c)<|U.hok.laid k c new
def Inv.write{x e:iu}{o:HO}{h:Nat}(U:Inv X f g H s)(d:Mut (H x))(c:e=x\/H e=Y (.own x))(k: ∀b u,b≠e->s.heap.get? b=Y u->h'.get? b=Y u)(a: ∃u,h'.get? e=Y u)
  (new:ObjOk X.prog X.w (upd H x o) h' x o):Inv X f g (upd H x o) {s with heap:=h',toks:=h}:=U.un (Un.write d c k a)<|U.hok.write d c k a new
def Inv.pins_of{a:jq}(U:Inv X f g H s)(h: ∀p∈a,s.heap.get? p.1=Y p.2/\H p.1=I/\p.1≠X.env.locals/\p.1∉X.fs/\ ∀v,p.2.data≠ .cell v):Inv X a g H s:=
 ⟨U.ok,U.os,U.bare,U.base,U.loc,U.cell,U.free,U.freeC,λp b=>(qb.mp b).elim (λz=>U.pin p<|vA _ z)<|h p,U.hok,U.len⟩
def Ai{N:je}(e:N.Nodup){i j:Nat}{x:ax}(a:N[i]?=Y x)(b:N[j]?=Y x):i=j:=by obtain⟨h1,c⟩:=rT.mp a;obtain⟨h,d⟩:=rT.mp b;exact(Gs e).mp (c.trans d.symm)
def Ju{M:gA}{A:iU}{E:jn}{i:Nat}{x:ax}{v:V}{u:iK}{Q:Unit->Shared->Prop}(I:Inv X f g H s)(hN:X.N.Nodup)(U:X.N[i]?=Zv x)(O:Loc X.env.scope x)(r:RelV v u)
  (h: ∀s',Inv X f (g.set i<|Zv v) H s'->(∃a,aI a s.heap s'.heap/\(a=X.env.locals\/X.env.cells.lookup x=Zv a))->Q () s')(hf:X.fn x=Zx\/X.env.scope.names.lookup x=Zv .local:=by first|exact .inl rfl|exact .inr rfl|assumption):ag M A (storeName X.env x u) Q E s:=by
 obtain⟨m,R,hl⟩:=id I.loc;have bK:(X.env.scope.kind== .class||(X.env.scope.kind== .module&&X.env.locals !=X.env.globals))=Zy:=by rw[I.ok.kind];rfl
 have fj:i<(ZB g):=by rw[I.len];exact(rT.mp U).1
 have cne:=I.cne
 have C: ∀{a:iu} {h':iT},(∃o,s.heap.get? a=Zv o/\H a=Zw)->aI a s.heap h'->HOk X.prog X.w H h':=λ{a h'} ha l b ob e=>by
  obtain⟨_,_,k6⟩:=ha;refine(I.hok b ob e).stay (λc F L q=>(l.2 c ?_).trans q) (λ_ q=>q) λ_ _ q=>q;rintro rfl;rcases L with rfl|L
  .rw[k6] at e;cases e
  .rw[k6] at L;cases L
 rcases O with hk|hk
 .refine Ly hk R (λh' aQ l=>?_) bK;obtain⟨oL,_,_,eX,_⟩:=id R;refine h _ ⟨I.ok,I.os,I.bare,⟨λb o e n G O=>?_,λb o e n G O=>?_,I.base.free,λb o e O=>?_,I.base.tups,I.base.frzs,I.base.tbls⟩,⟨_,aQ,λj y v' t T P=>?_⟩,λy c e=>?_,I.free,I.freeC,λp S=>?_,C ⟨oL,eX,I.free⟩ l,by simpa using I.len⟩ ⟨_,l,.inl Zz⟩
  .exact(l.2 b<|jF<|nj (jN e) I.ok.above).trans (I.base.keep b o e n G O)
  .obtain⟨sl,t⟩:=I.base.slot b o e n G O;exact⟨sl,(l.2 b<|jF<|nj (jN e) I.ok.above).trans t⟩
  .obtain⟨Z,t⟩:=I.base.there b o e O;exact⟨Z,(l.2 b<|jF<|nj (jN e) I.ok.above).trans t⟩
  .by_cases J:j=i
   .subst J;rw[U] at t;cases t;rw[ox fj] at T;cases T;exact⟨u,r,.inl ⟨hk,by simp⟩⟩
   .rw[oM<|ni J] at T;obtain⟨u',r',q⟩:=hl j y v' t T P;refine⟨u',r',?_⟩;rcases q with⟨k,e⟩|⟨k,c,e,z⟩
    .refine .inl ⟨k,?_⟩;have:y≠x:=λe=>J<|Ai hN t<|e▸U;simp[this,e]
    .exact .inr ⟨k,c,e,z.sameBut l<|cne y c e⟩
  .obtain⟨F,z⟩:=I.cell y c e;exact⟨F,z.sameBut l<|cne y c e⟩
  .obtain⟨e,n,ne,W,d⟩:=I.pin p S;exact⟨(l.2 p.1 ne).trans e,n,ne,W,d⟩
 .have K:X.fn x=Zx:=by
   rcases hf with z|z
   .exact z
   .rw[z] at hk;cases hk
  obtain⟨c,L⟩:=I.ok.has x<|.inl hk;obtain⟨F,z⟩:=I.cell x c L;refine wpAny_storeName_cell I.ok.kind hk L z λh' bU l=>?_;obtain⟨oc,dN,Y⟩:=id z;refine h {s with heap:=h'} ⟨I.ok,I.os,I.bare,⟨λb o e n G O=>?_,λb o e n G O=>?_,I.base.free,λb o e O=>?_,I.base.tups,I.base.frzs,I.base.tbls⟩,⟨m,R.sameBut l<|ni<|cne x c L,λj y v' t T P=>?_⟩,λy D e=>?_,I.free,I.freeC,λp S=>?_,C ⟨oc,dN,I.freeC x c L⟩ l,by simpa using I.len⟩ ⟨c,l,.inr L⟩
  .exact(l.2 b<|jF<|nj (jN e)<|I.ok.cab x c K L).trans (I.base.keep b o e n G O)
  .obtain⟨sl,t⟩:=I.base.slot b o e n G O;exact⟨sl,(l.2 b<|jF<|nj (jN e)<|I.ok.cab x c K L).trans t⟩
  .obtain⟨Z,t⟩:=I.base.there b o e O;exact⟨Z,(l.2 b<|jF<|nj (jN e)<|I.ok.cab x c K L).trans t⟩
  .by_cases J:j=i
   .subst J;rw[U] at t;cases t;rw[ox fj] at T;cases T;exact⟨u,r,.inr ⟨.inl hk,c,L,bU⟩⟩
   .rw[oM<|ni J] at T;obtain⟨u',r',q⟩:=hl j y v' t T P;refine⟨u',r',?_⟩;rcases q with q|⟨k,D,e,z'⟩
    .exact .inl q
    .refine .inr ⟨k,D,e,z'.sameBut l ?_⟩;rintro rfl;exact J<|Ai hN t<|I.ok.inj _ _ _ e L▸U
  .by_cases fq:D=c
   .subst fq;exact⟨_,bU⟩
   .obtain⟨w2,z2⟩:=I.cell y D e;exact⟨w2,z2.sameBut l fq⟩
  .obtain⟨e,n,ne,W,d⟩:=I.pin p S;refine⟨(l.2 p.1 ?_).trans e,n,ne,W,d⟩;intro q;rw[q,dN] at e;have q':oc=p.2:=kE e;exact d F (by rw[<-q'];exact Y)
def zM{M:gA}{A:iU}{E:jn}{i:Nat}{x:ax}{v:V}{u:iK}{Q:Unit->Shared->Prop}(U:Inv X f g H s)(c:X.N.Nodup)(e:X.N[i]?=Y x)(j:Loc X.env.scope x)(r:RelV v u)
  (h: ∀a,Inv X f (g.set i<|Y v) H a->Q () a)(d:X.fn x=J\/X.env.scope.names.lookup x=Y .local:=by first|exact .inl rfl|exact .inr rfl|assumption):ag M A (storeName X.env x u) Q E s:=
 Ju U c e j r (λa b _=>h a b) d
def Inv.call'{s':iC}{ch:kI}(U:Inv X f g H s)(i:s'.os=s.os)(u:Un (frs X.stack) ch H B s.heap s'.heap)(a:HOk X.prog X.w B s'.heap)(h:ej s'.gens)
  (d: ∀b∈ch,(b∈X.ex\/X.s₀.heap.objs.size<=b)/\b≠X.env.locals/\(∀x c,X.env.cells.lookup x=Y c->c≠b)/\ ∀p∈X.pn++f,p.1≠b):Inv X f g B s':=by
 obtain⟨h',g',d',t',j⟩:=s';have e:j=s.os:=i;subst e;exact U.call (g':=g') (t':=t') (d':=d') u a h d
end
abbrev XK:=iK->Option iu->Hp->Prop
abbrev St:=List<|Option V
abbrev VK:=V->Hp->Prop
abbrev TE:=St->Hp->VK->Prop
abbrev TT:=St->Hp->(Bool->Hp->Prop)->Prop
abbrev TA:=St->Hp->(List V->Hp->Prop)->Prop
structure Ends where
 nx:St->Hp->Prop
 rt:VK
 bk:St->Hp->Prop:=λ_ _=>False
 ct:St->Hp->Prop:=λ_ _=>False
abbrev TS:=Ends->St->Hp->Prop
def EP(X:Cx)(a:jq)(d:St)(Q:VK)(u:iK)(c:iC):Prop:= ∃v b,Inv X a d b c/\RelV v u/\Q v b
def TP(X:Cx)(a:jq)(e:St)(Q:Bool->Hp->Prop)(b:Bool)(d:iC):Prop:= ∃c,Inv X a e c d/\Q b c
def AP(X:Cx)(a:jq)(f:St)(Q:List V->Hp->Prop)(e:jy)(d:iC):Prop:= ∃c b,Inv X a f b d/\Vals c e/\Q c b
def SP(X:Cx)(b:jq)(D:Ends)(f:Flow)(d:iC):Prop:=
 match f with
 | .next=> ∃a c,Inv X b a c d/\D.nx a c
 | .brk=> ∃a c,Inv X b a c d/\D.bk a c
 | .cont=> ∃a c,Inv X b a c d/\D.ct a c
 | .ret u=> ∃v a c,Inv X b a c d/\RelV v u/\D.rt v c
def PE(X:Cx)(e:iI)(t:TE):Prop:=
 ∀(a:jq) (s:iC) (b:St) (U:Hp) (Q:VK),Inv X a b U s->t b U Q->ag (ah X.prog X.w) X.A (aE e X.env) (EP X a b Q) X.xe s
def PT(X:Cx)(e:iI)(t:TT):Prop:=
 ∀(a:jq) (s:iC) (b:St) (U:Hp) (Q:Bool->Hp->Prop),Inv X a b U s->t b U Q->ag (ah X.prog X.w) X.A (isTrue e X.env<|aE e X.env) (TP X a b Q) X.xe s
def PW(X:Cx)(e:iI)(t:TT):Prop:=
 ∀(b:ey iK) (a:jq) (s:iC) (c:St) (U:Hp) (Q:Bool->Hp->Prop),Inv X a c U s->t c U Q->ag (ah X.prog X.w) X.A (isTrue e X.env b) (TP X a c Q) X.xe s
def PW.pt{X:Cx}{e:iI}{t:TT}(h:PW X e t):PT X e t:=h _
def PA(X:Cx)(d:kr)(t:TA):Prop:=
 ∀(b:bI) (a:jq) (s:iC) (c:St) (U:Hp) (Q:List V->Hp->Prop),Inv X a c U s->t c U Q->ag (ah X.prog X.w) X.A (Td<|aP b<|ac d X.env) (AP X a c Q) X.xe s
def PS(X:Cx)(st:bD)(t:TS):Prop:=
 ∀(a:jq) (s:iC) (b:St) (U:Hp) (D:Ends),Inv X a b U s->t D b U->ag (ah X.prog X.w) X.A (exec st X.env) (SP X a D) X.xe s
def PSs(X:Cx)(st:List bD)(t:TS):Prop:=
 ∀(a:jq) (s:iC) (b:St) (U:Hp) (D:Ends),Inv X a b U s->t D b U->ag (ah X.prog X.w) X.A (execs st X.env) (SP X a D) X.xe s
def thn{c:Type}{t:ey c}{Q b:c->Shared->Prop}{M:gA}{A:iU}{E:jn}{s:iC}(h:ag M A t Q E s)(d: ∀a s,Q a s->b a s):ag M A t b E s:=ou h d λ_ _ x=>x
section
variable {X:Cx}
def XH(i:Nat):TE:=λa U Q=> ∃v,a[i]?=Y (Y v)/\Q v U
noncomputable def tC(v:V):TE:=λ_ U Q=>Q v U
def Aa{i:Nat}{x:ax}{f:bI}(g:X.N[i]?=Y x)(hv:Vis X.env.scope x)(hd:(x==("__debug__":ax))=C:=by decide)(n:(x==("__classdict__":ax))=C:=by decide):PE X (.Name x f) (XH i):=by
 intro a s o T Q U h;obtain⟨v,e,h⟩:=h;obtain⟨m,k,j⟩:=U.loc;obtain⟨u,r,l⟩:=j i x v g e hv;have fin:EP X a o Q u s:=⟨v,T,U,r,h⟩
 rcases l with⟨hk,hm⟩|⟨hk,c,b,d⟩
 .exact th (wpAny_loadName_local U.ok.kind hk k hm fin) hd
 .rcases hk with hk|hk
  .exact th (wpAny_loadName_cell U.ok.kind hk b d fin) hd
  .exact th (wpAny_loadName_free U.ok.kind hk b d fin n) hd
def UA{i j f}:PE X (.Constant (.int i) j f) (tC<|.int i):=λ_ _ _ T _ U h=>wpAny_Constant_int ⟨.int i,T,U.tok _,⟨_,rfl⟩,h⟩
def Wv{b j f}:PE X (.Constant (.bool b) j f) (tC<|.bl b):=λ_ _ _ T _ U h=>Sr ⟨.bl b,T,U,rfl,h⟩
def Uy{j f}:PE X (.Constant .none j f) (tC .non):=λ_ _ _ T _ U h=>Constant_none ⟨.non,T,U,rfl,h⟩
def Uw{x j f}:PE X (.Constant (.str x) j f) (tC<|.str x):=λ_ _ _ T _ U h=>Calls.Constant_str ⟨.str x,T,U.tok _,⟨_,rfl⟩,h⟩
def Gl(X:Cx)(x:ax):Prop:=X.env.kindOf x=Y .globalImplicit
def wx{E:jn}{a:jq}{s:iC}{d:St}{T:Hp}{x:ax}{u:iK}{f:bI}{Q:jn}(U:Inv X a d T s)(b:Gl X x)(c:X.mg x=Y u)(h:Q u s)
  (hd:(x==("__debug__":ax))=C:=by decide):ag (ah X.prog X.w) X.A (aE (.Name x f) X.env) Q E s:=
 Lx U.ok.kind b (Calls.loadGlobal_global (by rw[U.ok.glob];exact U.mod.glob.keeps U.bk) c h) hd
def pX{E:jn}{a:jq}{s:iC}{g:St}{T:Hp}{x:ax}{u:iK}{f:bI}{Q:jn}(U:Inv X a g T s)(c:Gl X x)(d:X.mg x=I)(hv:ay x=Y u)(h:Q u s)
  (e:x≠"__name__":=by decide)(hd:(x==("__debug__":ax))=C:=by decide):ag (ah X.prog X.w) X.A (aE (.Name x f) X.env) Q E s:=by
 obtain⟨i,h1,b⟩:=U.mod.blt;exact Lx U.ok.kind c (Calls.loadGlobal_builtin (by rw[U.ok.glob];exact U.mod.glob.keeps U.bk) d (by rw[U.ok.blt];exact h1.keeps U.bk) ((b x e).trans hv) h) hd
def Di{x:ax}{v:V}{u:iK}{f:bI}(a:Gl X x)(b:X.mg x=Y u)(r:RelV v u)(hd:(x==("__debug__":ax))=C:=by decide):PE X (.Name x f) (tC v):=
 λ_ _ _ T _ U h=>wx U a b ⟨v,T,U,r,h⟩ hd
def yQ{x:ax}{v:V}{u:iK}{f:bI}(a:Gl X x)(b:X.mg x=I)(hv:ay x=Y u)(r:RelV v u)(c:x≠"__name__":=by decide)(hd:(x==("__debug__":ax))=C:=by decide):PE X (.Name x f) (tC v):=
 λ_ _ _ T _ U h=>pX U a b hv ⟨v,T,U,r,h⟩ c hd
def t2I(n g:TE)(k:Int->Int->Hp->Prop):St->Hp->Prop:=λa U=>n a U λx b=>g a b λy c=> ∃i j,x= .int i/\y= .int j/\k i j c
variable {a b:iI}{n g:TE}{f:bI}
noncomputable def tCmp(p:Int->Int->Bool)(n g:TE):TE:=λd U Q=>t2I n g (λi j c=>Q (.bl<|p i j) c) d U
noncomputable def tB(t:TE):TT:=λe U Q=>t e U λx d=> ∃c,x= .bl c/\Q c d
def Uk{e:iI}{t:TE}(h:PE X e t)(l: ∀c,isTrue e X.env c=(do let v <-c;cu e.pos;br [v] (gL v)):=by intro _;rfl):PT X e (tB t):=by intro i s r T Q U m;refine WF (thn (h i s r T _ U m) λv s1 O=>?_)<|l _;obtain⟨x,j,k,p,o⟩:=O;obtain⟨d,rfl,q⟩:=o;cases p;exact vz ⟨j,k,q⟩
variable {tA o:TT}{jw:kr}
noncomputable def XW(t u:TT):TT:=λe U Q=>t e U λc d=>if c=J then u e d Q else Q C d
noncomputable def tOr(t u:TT):TT:=λe U Q=>t e U λc d=>if c=J then Q J d else u e d Q
noncomputable def tNot(t:TT):TT:=λe U Q=>t e U λc d=>Q (!c) d
def Qk(i:PT X a tA):PW X (.BoolOp .And [a] f) tA:=by
 intro k d s j T Q U h;refine isTrue_and<|thn (i d s j T Q U h) λc s1 e=>?_
 cases c with
 |true=>exact isTrue_and_nil e
 |false=>exact e
def Uh(i:PT X a tA):PW X (.BoolOp .Or [a] f) tA:=by
 intro k d s j T Q U h;refine isTrue_or<|thn (i d s j T Q U h) λc s1 e=>?_
 cases c with
 |false=>exact isTrue_or_nil e
 |true=>exact e
def Ui(l:PT X a tA)(m:PW X (.BoolOp .And (b::jw) f) o):PW X (.BoolOp .And (a::b::jw) f) (XW tA o):=by
 intro p d s k T Q U h;refine isTrue_and<|thn (l d s k T _ U h) λc s1 O=>?_;obtain⟨e,i,j⟩:=O
 cases c with
 |true=>exact m p d s1 k e Q i j
 |false=>exact⟨e,i,j⟩
def Wr(l:PT X a tA)(m:PW X (.BoolOp .Or (b::jw) f) o):PW X (.BoolOp .Or (a::b::jw) f) (tOr tA o):=by
 intro p d s k T Q U h;refine isTrue_or<|thn (l d s k T _ U h) λc s1 O=>?_;obtain⟨e,i,j⟩:=O
 cases c with
 |true=>exact⟨e,i,j⟩
 |false=>exact m p d s1 k e Q i j
def Ul(i:PT X a tA):PT X (.UnaryOp .Not a f) (tNot tA):=by intro d s j T Q U h;exact isTrue_not<|i d s j T (λc e=>Q (!c) e) U h
def V8(n g:TE):TE:=λe U Q=>n e U λx d=> ∃c,x= .bl c/\if c=J then g e d Q else Q (.bl C) d
def Ux{op}{t:TE}(h:PE X a t):PE X (.BoolOp op [a] f) t:=λc s e T Q U d=>BoolOp_one<|h c s e T Q U d
def UC(l:PE X a n)(m:PE X (.BoolOp .And (b::jw) f) g):PE X (.BoolOp .And (a::b::jw) f) (V8 n g):=by
 intro d s k T Q U h;refine BoolOp_and<|thn (l d s k T _ U h) λv s1 O=>?_;obtain⟨x,i,j,p,e⟩:=O;obtain⟨c,rfl,e⟩:=e;cases p;refine vz ?_
 cases c with
 |true=>exact m d s1 k i Q j e
 |false=>exact⟨.bl C,i,j,rfl,e⟩
noncomputable def tIf(t:TT)(n g:TE):TE:=λd U Q=>t d U λc e=>if c=J then n d e Q else g d e Q
def Nh{c:iI}(q:PT X c tA)(m:PE X a n)(p:PE X b g):PE X (.IfExp c a b f) (tIf tA n g):=by
 intro e s i T Q U h;refine wpAny_IfExp<|thn (q e s i T _ U h) λd s1 O=>?_;obtain⟨j,k,l⟩:=O
 cases d with
 |true=>exact m e s1 i j Q k l
 |false=>exact p e s1 i j Q k l
end
def SqL(K:iW)(U:Hp)(a:iu)(xs:List V):Prop:=
 Rd U a (.lst xs)\/
  ∃(o:e6) (b:mU) (n:Nat),K.lookup a=Y o/\o.cls= .type "list"/\o.dict=I/\o.data= .seq b n/\b.size<=sizeLine/\Vals xs b.toList
def SqT(K:iW)(U:Hp)(a:iu)(c:List V):Prop:=
 Rd U a (.tup c)\/
  ∃(o:e6) (b:mU) (n:Nat),K.lookup a=Y o/\o.cls= .type "tuple"/\o.data= .seq b n/\b.size<=sizeLine/\Vals c b.toList
noncomputable def YW:iK->Option V
 | .none=>Y .non
 | .bool b=>Y<|.bl b
 | .int i _=>Y<|.int i
 | .str x _=>Y<|.str x
 | .bytes b _=>Y<|.byt b
 | .float b _=>Y<|.flt b
 | .ref a=>Y<|.ref a
 | .type n=>Y<|.ty n
 |_=>I
def RelV.abs{x:V}{u:iK}(r:RelV x u):YW u=Y x:=by
 cases x with
 |non=>cases r;rfl
 |bl _=>cases r;rfl
 |int _=>obtain⟨t,rfl⟩:=r;rfl
 |str _=>obtain⟨t,rfl⟩:=r;rfl
 |byt _=>obtain⟨t,rfl⟩:=r;rfl
 |flt _=>obtain⟨t,rfl⟩:=r;rfl
 |ref _=>cases r;rfl
 |ty _=>cases r;rfl
def RelV.inj{x y:V}{u:iK}(r:RelV x u)(q:RelV y u):x=y:=kE<|r.abs.symm.trans q.abs
def Vals.inj{b a:List V}{us:jy}(h:Vals b us)(q:Vals a us):b=a:=by
 induction h generalizing a with
 |nil=>cases q;rfl
 |cons r t c=>obtain _|⟨d,e⟩:=q;rw[r.inj d,c e]
section
variable {X:Cx}{b:jq}{c:St}{H:Hp}{s:iC}{a:iu}{xs f:List V}
def SqL.of{K:iW}(h:H a=Y (.lst xs)):SqL K H a xs:= .inl (.inl h)
def Inv.list(U:Inv X b c H s)(h:SqL X.K H a xs): ∃d:List iK,Vals xs d/\PlainL s.heap a d.toArray/\xs.length<=sizeLine:=by
 rcases h with h|⟨o,d,n,hk,g,hd,i,j,r⟩
 .obtain⟨z,d,n,r,e⟩:=h.ok U.hok;exact⟨d,r,⟨_,n,e,rfl,rfl,rfl⟩,z⟩
 .refine⟨d.toList,r,⟨o,n,U.kIn a o hk,g,hd,by simpa using i⟩,?_⟩;have e:=r.length;simp only[kz] at e
  lia
def Inv.tuple(U:Inv X b c H s)(h:SqT X.K H a xs): ∃d:List iK,Vals xs d/\ro s.heap a d.toArray/\xs.length<=sizeLine:=by
 rcases h with h|⟨o,d,n,hk,g,i,j,r⟩
 .obtain⟨z,d,r,p⟩:=h.ok U.hok;exact⟨d,r,p,z⟩
 .refine⟨d.toList,r,⟨o,U.kIn a o hk,g,n,by simpa using i⟩,?_⟩;have e:=r.length;simp only[kz] at e
  lia
def Inv.list_inj(U:Inv X b c H s)(h:SqL X.K H a xs)(m:SqL X.K H a f):xs=f:=by
 obtain⟨i,r,⟨o,n,e,_,_,d⟩,_⟩:=U.list h;obtain⟨g,p,⟨t,q,k,_,_,j⟩,_⟩:=U.list m;rw[e] at k;cases k;rw[d] at j;injection j with l _
 have:i=g:=by simpa using mV u3 l
 subst this;exact r.inj p
def Inv.tuple_inj(U:Inv X b c H s)(h:SqT X.K H a xs)(m:SqT X.K H a f):xs=f:=by
 obtain⟨i,r,⟨o,e,_,n,d⟩,_⟩:=U.tuple h;obtain⟨g,p,⟨t,k,_,q,j⟩,_⟩:=U.tuple m;rw[e] at k;cases k;rw[d] at j;injection j with l _
 have:i=g:=by simpa using mV u3 l
 subst this;exact r.inj p
end
noncomputable abbrev Cx.wish(X:Cx)(E:jn):Cx:={X with xe:=E}
noncomputable abbrev Cx.nox(X:Cx):Cx:=X.wish λ_ _=>False
def Cx.Ok.wish{X:Cx}(ok:X.Ok)(E:jn):(X.wish E).Ok:=
 ⟨ok.mod,ok.kind,ok.glob,ok.blt,ok.above,ok.inj,ok.has,ok.cab,ok.hd,ok.frames,ok.stk,ok.exf,ok.bs,ok.bsz,ok.noex,ok.exfs,ok.funs,ok.frf⟩
def Cx.Ok.unwish{X:Cx}{E:jn}(ok:(X.wish E).Ok):X.Ok:=
 ⟨ok.mod,ok.kind,ok.glob,ok.blt,ok.above,ok.inj,ok.has,ok.cab,ok.hd,ok.frames,ok.stk,ok.exf,ok.bs,ok.bsz,ok.noex,ok.exfs,ok.funs,ok.frf⟩
section
variable {X:Cx}{a:jq}{b:St}{H:Hp}{s:iC}{E:jn}
def Inv.wish(U:Inv X a b H s)(E:jn):Inv (X.wish E) a b H s:=⟨U.ok.wish E,U.os,U.bare,U.base,U.loc,U.cell,U.free,U.freeC,U.pin,U.hok,U.len⟩
def Inv.unwish(U:Inv (X.wish E) a b H s):Inv X a b H s:=⟨U.ok.unwish,U.os,U.bare,U.base,U.loc,U.cell,U.free,U.freeC,U.pin,U.hok,U.len⟩
def SP.unwish{D:Ends}{f:Flow}{e:iC}(h:SP (X.wish E) a D f e):SP X a D f e:=by
 cases f with
 |next=>obtain⟨c,d,U,q⟩:=h;exact⟨c,d,U.unwish,q⟩
 |brk=>obtain⟨c,d,U,q⟩:=h;exact⟨c,d,U.unwish,q⟩
 |cont=>obtain⟨c,d,U,q⟩:=h;exact⟨c,d,U.unwish,q⟩
 |ret u=>obtain⟨v,c,d,U,r,q⟩:=h;exact⟨v,c,d,U.unwish,r,q⟩
def PSs.nox{st:List bD}{t:TS}(h:PSs X.nox st t):PSs X st t:=λa s b H D U c=>ou (h a s b H D (U.wish _) c) (λ_ _ q=>q.unwish) λ_ _ z=>aW z
end
section
variable {X:Cx}{st:bD}{jw:List bD}{t u:TS}{e:iI}{i:TE}{g:bI}
noncomputable def V3:TS:=λD a U=>D.nx a U
noncomputable def XJ(t u:TS):TS:=λD a U=>t {D with nx:=u D} a U
def Ii:PSs X [] V3:=λ_ _ a T _ U h=>zB ⟨a,T,U,h⟩
def qr(h1:PS X st t)(j:PSs X jw u):PSs X (st::jw) (XJ t u):=by
 intro a s k T D U h;refine wh<|thn (h1 a s k T {D with nx:=u D} U h) λf s1 q=>?_
 cases f with
 |next=>obtain⟨b,c,d,q⟩:=q;exact j a s1 b c D d q
 |ret v=>exact q
 |brk=>exact q
 |cont=>exact q
def Inv.quiet{a:jq}{b:St}{T:Hp}{s:iC}(U:Inv X a b T s):Zm X.env=C:=by simp[Zm,U.ok.kind]
noncomputable def V5(i:TE):TS:=λD a U=>i a U λ_ b=>D.nx a b
def Ij(f:PE X e i)(j:bJ e I g.line X.env=pure C:=by rfl):PS X (.Expr e g) (V5 i):=by intro a s b T D U h;exact FM (thn (f a s b T _ U h) λv s1 Q=>by obtain⟨x,c,d,l,k⟩:=Q;exact ⟨b,c,d,k⟩) U.quiet j
noncomputable def XM(i:TE):TS:=λD a U=>i a U D.rt
def MT(f:PE X e i):PS X (.Return (Y e) g) (XM i):=by intro a s b T D U h;exact wpAny_Return_some (thn (f a s b T _ U h) λv s1 Q=>by obtain⟨x,c,d,k,j⟩:=Q;exact ⟨x,b,c,d,k,j⟩)
noncomputable def XQ(c:TT)(t u:TS):TS:=λD a U=>c a U λb d=>if b=J then t D a d else u D a d
def Sn{c:iI}{a b:List bD}{n:TT}(q:PT X c n)(o:PSs X a t)(p:PSs X b u):PS X (.If c a b g) (XQ n t u):=by
 intro f s j T D U h;refine wpAny_If<|thn (q f s j T _ U h) λd s1 Q=>?_;obtain⟨k,l,m⟩:=Q
 cases d with
 |true=>exact o f s1 j k D l m
 |false=>exact p f s1 j k D l m
end
abbrev TG:=V->St->Hp->(St->Hp->Prop)->Prop
abbrev TGs:=List V->St->Hp->(St->Hp->Prop)->Prop
def PG(X:Cx)(a:iI)(t:TG):Prop:=
 ∀(b:jq) (s:iC) (e:St) (U:Hp) (v:V) (u:iK) (Q:St->Hp->Prop),Inv X b e U s->RelV v u->t v e U Q->
  ag (ah X.prog X.w) X.A (ce a X.env u) (λ_ f=> ∃c d,Inv X b c d f/\Q c d) X.xe s
def PGs(X:Cx)(h:kr)(t:TGs):Prop:=
 ∀(a:jq) (s:iC) (f:St) (U:Hp) (e:List V) (d:jy) (Q:St->Hp->Prop),Inv X a f U s->Vals e d->t e f U Q->
  ag (ah X.prog X.w) X.A (assignInOrder ((aU h X.env).map (·.2)) d) (λ_ g=> ∃b c,Inv X a b c g/\Q b c) X.xe s
abbrev R5:=V->V->V->Hp->(Hp->Prop)->Prop
def VB(X:Cx)(t:R5):Prop:=
 ∀(a:jq) (s:iC) (e:St) (U:Hp) (o i v:V) (d c u:iK) (Q:Hp->Prop),Inv X a e U s->RelV o d->RelV i c->RelV v u->t o i v U Q->
  ag (ah X.prog X.w) X.A (fU d c u) (λ_ f=> ∃b,Inv X a e b f/\Q b) X.xe s
section
variable {X:Cx}{d:bI}
noncomputable def EX(i:Nat):TG:=λv a U Q=>Q (a.set i<|Y v) U
def Ik{i:Nat}{x:ax}(c:X.N.Nodup)(f:X.N[i]?=Y x)(g:Loc X.env.scope x)(e:X.fn x=J\/X.env.scope.names.lookup x=Y .local:=by first|exact .inl rfl|exact .inr rfl|assumption):PG X (.Name x d) (EX i):=by intro a s k T v u Q U r h;exact wpAny_assign_Name<|zM U c f g r (λj b=>⟨_,T,b,h⟩) e
noncomputable def YR:TGs:=λa b U Q=>a=[]/\Q b U
def WQ(t:TG)(u:TGs):TGs:=λc e U Q=> ∃v r,c=v::r/\t v e U λa b=>u r a b Q
def QH:PGs X [] YR:=by intro a s b T f c Q U r h;obtain⟨e,h⟩:=h;subst e;cases r;exact assignInOrder_nil ⟨b,T,U,h⟩
def Na{e:iI}{b:kr}{t:TG}{u:TGs}(h1:PG X e t)(j:PGs X b u)
  (k:(aU (e::b) X.env).map (·.2)=ce e X.env::(aU b X.env).map (·.2):=by rfl):PGs X (e::b) (WQ t u):=by
 intro a s n T q o Q U r h;obtain⟨v,p,i,h⟩:=h;subst i
 cases r with
 |cons r m=>rw[k];refine assignInOrder_cons<|thn (h1 a s n T _ _ _ U r h) λ_ s1 O=>?_;obtain⟨c,f,g,l⟩:=O;exact j a s1 c f _ _ Q g m l
def YQ(K:iW)(n:Nat)(t:TGs):TG:=λv c U Q=> ∃a b,v= .ref a/\SqT K U a b/\(ZB b)=n/\t b c U Q
def Uv{f:kr}{k:Nat}{t:TGs}{n:Nat}(q:X.calm=J)(h:PGs X f t)
  (x:(aU f X.env).length=n:=by rfl)(O:(aU f X.env).findIdx? (·.1)=I:=by rfl):PG X (.Tuple f k d) (YQ X.K n t):=by
 intro c s j T v u Q U r g;obtain⟨a,E,m,y,w,g⟩:=g;subst m;cases r;obtain⟨B,i,z,L⟩:=U.tuple y;refine assign_Tuple_tuple (U.ok.hd q) z (by simp[x,<-w,i.length]) O λp A=>?_;have l:Inv X c j T {s with heap:=p}:=U.kept (t':=s.toks) λb o e=>A b o (jF<|jN e) e;exact h c _ j T E _ Q l (by simpa using i) g
noncomputable def gSub(g f:TE)(t:R5):TG:=λv a U Q=>g a U λo b=>f a b λi c=>t o i v c λe=>Q a e
def Nb{o i:iI}{g f:TE}{t:R5}(z:PE X o g)(w:PE X i f)(A:VB X t)
  (q: ∀v,ce (.Subscript o i d) X.env v=(do
   let b <-br [v] (aE o X.env)
   let c <-br [v,b] (aE i X.env)
   cu d
   br [v,b,c] (fU b c v)
   li [v,b,c] []):=by intro _;rfl):PG X (.Subscript o i d) (gSub g f t):=by
 intro a s e N v u Q U r h;rw[q];refine iz<|lM<|thn (z a s e N _ U h) λb s1 a'=>?_;obtain⟨x,j,m,L,B⟩:=a';refine iz<|lM<|thn (w a s1 e j _ m B) λc T a'=>?_;obtain⟨y,k,n,O,M⟩:=a';refine iz<|xH<|iz<|lM<|thn (A a T e k x y v b c u _ n L O r M) λ_ G a'=>?_;obtain⟨l,p,E⟩:=a';exact wpAny_release ⟨e,l,p,E⟩
noncomputable def Tj(c:TE)(g:TG):TS:=λD a U=>c a U λx b=>g x a b D.nx
def GP{b e:iI}{c:TE}{g:TG}(k:PE X e c)(l:PG X b g)(m:c4 [b] e d.line X.env=pure C:=by rfl)(n:c5 [b] e X.env=pure I:=by rfl)
  (h1:(aU [b] X.env).map (·.2)=[ce b X.env]:=by rfl):PS X (.Assign [b] e d) (Tj c g):=by
 intro a s f T D U h;refine wpAny_Assign_stores (thn (k a s f T _ U h) λv s1 Q=>?_) m n;obtain⟨x,i,j,p,o⟩:=Q;rw[h1];exact thn (l a s1 f i x v _ j p o) λ_ r q=>q
def MS{i:Nat}{x:ax}{e:iI}{c:TE}{a:bI}(k:X.N.Nodup)(n:X.N[i]?=Y x)(p:Loc X.env.scope x)(l:PE X e c)(o:bJ e (Y<|.Name x a) d.line X.env=pure C:=by rfl)(m:X.fn x=J\/X.env.scope.names.lookup x=Y .local:=by first|exact .inl rfl|exact .inr rfl|assumption):
  PS X (.Assign [.Name x a] e d) (Tj c<|EX i):=by
 intro b s t T D U h;refine wpAny_Assign_Name (thn (l b s t T _ U h) λv s1 Q=>?_) o;obtain⟨y,f,g,r,q⟩:=Q;exact zM g k n p r (λu j=>⟨_,f,j,q⟩) m
def Th(c:TT)(i:TS):TS:=λD a U=> ∃W:Nat->St->Hp->Prop,(∃m,W m a U)/\ ∀m a U,W m a U->
 c a U λb g=>if b=J then ∃N:St->Hp->Prop,(∀e f,N e f-> ∃h,h<m/\W h e f)/\i {D with nx:=N,ct:=N,bk:=D.nx} a g else D.nx a g
def MR{c:iI}{i:List bD}{L:TT}{E:TS}(C:fx (ah X.prog X.w) X.A X.env X.xe)(T:PT X c L)(Q:PSs X i E):PS X (.While c i [] d) (Th L E):=by
 intro a s F H D I h;obtain⟨W,⟨G,U⟩,k⟩:=h;refine wpAny_While<|codeAny_whileLoop (λn J=> ∃l x,Inv X a l x J/\W n l x) ?_ G ⟨F,H,I,U⟩;rintro n s1 ⟨g,H1,O,Y'⟩;refine vt C<|thn (T a s1 g H1 _ O (k n g H1 Y')) λb M a'=>?_;obtain⟨y,z,m⟩:=a'
 cases b with
 |true=>
  obtain⟨N,B,m⟩:=m;rw[iP Zz];refine vt C<|thn (Q a M g y _ z m) λf K o=>?_
  cases f with
  |next=>obtain⟨e,j,p,t⟩:=o;obtain⟨r,q,u⟩:=B e j t;exact⟨r,q,e,j,p,u⟩
  |cont=>obtain⟨e,j,p,t⟩:=o;obtain⟨r,q,u⟩:=B e j t;exact⟨r,q,e,j,p,u⟩
  |brk=>exact o
  |ret v=>exact o
 |false=>rw[jc ku];exact zB ⟨g,y,z,m⟩
end
structure It where
 go:Nat->Hp->Prop
 yld:Nat->Hp->V->Hp->Prop
 stop:Nat->Hp->Prop
def tJ(X:Cx)(a:jq)(U:Hp)(b:iu):Prop:=
 U b=I/\b≠X.env.locals/\b∉X.fs/\(b∈X.ex\/X.s₀.heap.objs.size<=b)/\(∀x c,X.env.cells.lookup x=Y c->c≠b)/\ ∀p∈X.pn++a,p.1≠b
def Inv.fpOk{X:Cx}{a:jq}{i:St}{T f:Hp}{s:iC}{b:iu}(U:Inv X a i T s)(d:s.heap.objs.size<=b)(g:f b=I):tJ X a f b:=by
 refine⟨g,ot<|nj U.lt d,U.nofs d,.inr<|ma U.sz d,λx c e z=>?_,λp h z=>?_⟩
 .obtain⟨v,q⟩:=U.cell x c e;exact absurd (nj q.lt<|by rw[z];exact d)<|qj _
 .exact absurd (nj (jN (U.pin p h).1)<|by rw[z];exact d) (qj _)
structure Turn(P:iX)(w:iR)(K:iW)(tg:iI)(J:It)(fp:kI)(it:iu)(tn:Nat->iT->Prop):Prop where
 mem:it∈fp
 obj: ∀i h,tn i h-> ∀b∈fp,∃o,h.get? b=Zv o/\ ∀v,o.data≠ .cell v
 keep: ∀i h h',tn i h->(∀b∈fp,∀o,h.get? b=Zv o->h'.get? b=Zv o)->tn i h'
 item: ∀(X:Cx),X.prog=P->X.w=w->X.K=K->X.calm=Zx-> ∀(i:Nat) (pins:jq) (s:iC) (σ:St) (H:Hp) (E:jn),Inv X pins σ H s->(∀b∈fp,tJ X pins H b)->tn i s.heap->J.go i H->
  ag (ah P w) X.A (cM<|.ref it) (λr s1=> ∃u,r=Zv u/\
   ag (ah P w) X.A (eS tg (.ref it) u) (λ_ s2=> ∃x H',Inv X pins σ H' s2/\RelV x u/\J.yld i H x H'/\tn (i+1) s2.heap/\ ∀b∈fp,H' b=Zw) E s1) E s
 done: ∀(X:Cx),X.prog=P->X.w=w->X.K=K->X.calm=Zx-> ∀(i:Nat) (pins:jq) (s:iC) (σ:St) (H:Hp) (E:jn),Inv X pins σ H s->(∀b∈fp,tJ X pins H b)->tn i s.heap->J.stop i H->
  ag (ah P w) X.A (cM<|.ref it) (λr s1=>r=Zw/\Inv X pins σ H s1) E s
 self: ∀(A:iU) (i:Nat) (s:iC) (Q:jn) (E:jn),tn i s.heap->Q (.ref it) s->ag (ah P w) A (en<|.ref it) Q E s
abbrev TI:=St->Hp->(It->Hp->Prop)->Prop
def PIE(X:Cx)(a:jq)(j:St)(i:iI)(R:It->Hp->Prop)(h:iK)(f:iC):Prop:=
 ∃(e:iu) (d:kI) (g:Nat->iT->Prop) (U:It) (c:Hp),h= .ref e/\Inv X a j c f/\Turn X.prog X.w X.K i U d e g/\g 0 f.heap/\(∀b∈d,tJ X a c b)/\R U c
def PI(X:Cx)(tg iter:iI)(c:TI):Prop:=
 ∀(a:jq) (s:iC) (b:St) (U:Hp) (R:It->Hp->Prop),Inv X a b U s->c b U R->
  ag (ah X.prog X.w) X.A (aE iter X.env) (λv s1=>ag (ah X.prog X.w) X.A (en v) (PIE X a b tg R) X.xe s1) X.xe s
def N8{M:gA}{A:iU}{E:jn}{s:iC}{c:iI}{b:iu}{u:iK}{o:e6}{n:String}{d:mU}{Q:Unit->Shared->Prop}(g:s.heap.get? b=Y o)(e:o.cls= .type n)(hd:o.data= .fields d)
  (f:["enumerate","zip","dict_itemiterator","dict_reverseitemiterator","odict_iterator","itertools.zip_longest","itertools.pairwise"].contains n=C)(a:Q () s):ag M A (eS c (.ref b) u) Q E s:=by
 unfold eS
 cases c<;>first
  |exact iM a
  |(cases u<;>first
    |exact iM a
    |(
      refine iz<|xG g ?_;rw[e,hd];show ag M A (if(["enumerate","zip","dict_itemiterator","dict_reverseitemiterator","odict_iterator","itertools.zip_longest","itertools.pairwise"].contains n&&d[0]?==Y (cZ _))=J then _ else _) Q E s;rw[jc (by intro h;rw[f,eL] at h;cases h)];exact iM a))
noncomputable def Itl(K:iW)(a:iu):It:=
 ⟨λi U=> ∃b x,SqL K U a b/\b[i]?=Y x,λi U x c=>c=U/\ ∀b,SqL K U a b->b[i]?=Y x,λi U=> ∃b,SqL K U a b/\(ZB b)<=i⟩
noncomputable def Itt(K:iW)(a:iu):It:=
 ⟨λi U=> ∃b x,SqT K U a b/\b[i]?=Y x,λi U x c=>c=U/\ ∀b,SqT K U a b->b[i]?=Y x,λi U=> ∃b,SqT K U a b/\(ZB b)<=i⟩
noncomputable def Itr(lo:Int)(n:Nat):It:=⟨λi _=>i<n,λi U x a=>a=U/\x= .int (lo+i),λi _=>n<=i⟩
def Js{P:iX}{w:iR}{K:iW}{tg:iI}(a j:iu):Turn P w K tg (Itl K a) [j] j (λi h=>h.IsListIter j a i) where
 mem:=by simp
 obj:=λi h st b g=>by
  have e:b=j:=by simpa using g
  subst e;obtain⟨o,e,c,d⟩:=st;exact⟨o,e,λv z=>by rw[d] at z;cases z⟩
 keep:=λi h l st k=>st.at λo e=>k j (by simp) o e
 item:=by intro X A C y G i f s J H E I m st B;subst A C y;obtain⟨S,x,n,L⟩:=B;obtain⟨O,Q,p,D⟩:=I.list n;obtain⟨u,U,F⟩:=Q.get L;obtain⟨f0,f1,f2,q,r,t⟩:=m j (by simp);refine wpAny_pyNext_list_item st p.isList (x:=u) (by simpa using U) λl T R=>?_;have M:Inv X f J H {s with heap:=l}:=I.turned (t':=s.toks) (λb o g e=>(R.2 b g).trans e) f0 f1 q r t;obtain⟨o,e,c,d⟩:=id T;exact⟨u,rfl,N8 (s:={s with heap:=l}) e c d (by decide) ⟨x,H,M,F,⟨rfl,λW Y=>by rw[I.list_inj Y n];exact L⟩,T,λb g=>(m b g).1⟩⟩
 done:=by intro X A C y G i f s J H E I m st B;subst A C y;obtain⟨S,n,L⟩:=B;obtain⟨O,Q,p,D⟩:=I.list n;obtain⟨f0,f1,f2,q,r,t⟩:=m j (by simp);have V:=Q.length;exact wpAny_pyNext_list_end (I.ok.hd G) st p.isList (by simp;lia) λl N=>⟨rfl,I.turned (t':=s.toks) (λb o g e=>N b o g e) f0 f1 q r t⟩
 self:=λ_ _ _ _ _ st h=>wpAny_pyIter_listiter st h
def GB{P:iX}{w:iR}{K:iW}{tg:iI}(a j:iu):Turn P w K tg (Itt K a) [j] j (λi h=>h.IsTupleIter j a i) where
 mem:=by simp
 obj:=λi h st b g=>by
  have e:b=j:=by simpa using g
  subst e;obtain⟨o,e,c,d⟩:=st;exact⟨o,e,λv z=>by rw[d] at z;cases z⟩
 keep:=λi h m st k=>st.at λo e=>k j (by simp) o e
 item:=by intro X B L A G i f s J H E I n st C;subst B L A;obtain⟨S,x,q,O⟩:=C;obtain⟨l,Q,p,D⟩:=I.tuple q;obtain⟨u,U,F⟩:=Q.get O;obtain⟨f0,f1,f2,r,t,y⟩:=n j (by simp);refine wpAny_pyNext_tuple_item st (show s.heap.IsTuple a l.toArray from p) (x:=u) (by simpa using U) λm T R=>?_;have M:Inv X f J H {s with heap:=m}:=I.turned (t':=s.toks) (λb o g e=>(R.2 b g).trans e) f0 f1 r t y;obtain⟨o,e,c,d⟩:=id T;exact⟨u,rfl,N8 (s:={s with heap:=m}) e c d (by decide) ⟨x,H,M,F,⟨rfl,λW Y=>by rw[I.tuple_inj Y q];exact O⟩,T,λb g=>(n b g).1⟩⟩
 done:=by intro X B L A G i f s J H E I n st C;subst B L A;obtain⟨S,q,O⟩:=C;obtain⟨l,Q,p,D⟩:=I.tuple q;obtain⟨f0,f1,f2,r,t,y⟩:=n j (by simp);have V:=Q.length;exact wpAny_pyNext_tuple_end (I.ok.hd G) st (show s.heap.IsTuple a l.toArray from p) (by simp;lia) λm N=>⟨rfl,I.turned (t':=s.toks) (λb o g e=>N b o g e) f0 f1 r t y⟩
 self:=λ_ _ _ _ _ st h=>wpAny_pyIter_tupleiter st h
def GC{P:iX}{w:iR}{K:iW}{Q:iI}(a:iu)(lo:Int)(n:Nat):Turn P w K Q (Itr lo n) [a] a (λi h=>Zs h a (lo+(i:Nat)*1) ((n:Int)-(i:Nat)) 1) where
 mem:=by simp
 obj:=λi h st b d=>by
  have e:b=a:=by simpa using d
  subst e
  exact⟨_,st,λv z=>by have T:hX _=fL v:=z;cases T⟩
 keep:=λi h f st k=>k a (by simp) _ st
 item:=by intro X q x p r i c s B N E U g st u;subst q x p;obtain⟨f0,f1,f2,j,l,m⟩:=g a (by simp);have W:=Walks.range (prog:=X.prog) (w:=X.w) (U.ok.hd r) a lo 1 n;refine W.item i s _ _ u st λv f A hv y O=>?_;obtain⟨t,rfl⟩:=hv;have M:Inv X c B N {s with heap:=f,toks:=A}:=U.turned (λb o d e=>O b o (by simpa using d) e) f0 f1 j l m;refine⟨_,rfl,N8 (s:={s with heap:=f,toks:=A}) (n:="range_iterator") y H H (by decide) ⟨.int<|lo+i,N,M,⟨t,?_⟩,⟨rfl,rfl⟩,y,λb d=>(g b d).1⟩⟩;rw[zA]
 done:=by intro X q x p r i c s B N E U g st u;subst q x p;obtain⟨f0,f1,f2,j,l,m⟩:=g a (by simp);exact wpAny_pyNext_range_end (U.ok.hd r) st (by have:n<=i:=u;lia) λf L=>⟨rfl,U.turned (t':=s.toks) (λb o d e=>L b o d e) f0 f1 j l m⟩
 self:=λ_ _ _ _ _ st h=>wpAny_pyIter_rangeiter st h
section
variable {X:Cx}{tg:iI}
def WN(K:iW)(c:TE):TI:=λe U R=>c e U λx b=> ∃a,x= .ref a/\(∃d,SqL K b a d)/\R (Itl K a) b
def YO(K:iW)(c:TE):TI:=λe U R=>c e U λx b=> ∃a,x= .ref a/\(∃d,SqT K b a d)/\R (Itt K a) b
def QD{l:iI}{f:TE}(j:PE X l f):PI X tg l (WN X.K f):=by
 intro c s t T R U h;refine thn (j c s t T _ U h) λv s1 Q=>?_;obtain⟨x,g,d,r,n⟩:=Q;obtain⟨a,e,⟨y,k⟩,q⟩:=n;subst e;cases r;obtain⟨m,w,p,u⟩:=d.list k;refine zy p.isList ?_;refine⟨s1.heap.objs.size,[s1.heap.objs.size],_,_,g,rfl,d.kept (t':=s1.toks) λb o e=>jM _ e,Js a _,⟨_,kc _ rfl,rfl,rfl⟩,λb i=>?_,q⟩;have e:b=s1.heap.objs.size:=by simpa using i
 subst e;exact d.fpOk (jQ _)<|d.hok.fresh<|jQ _
def Uu{l:iI}{g:TE}(k:PE X l g):PI X tg l (YO X.K g):=by
 intro c s t T R U h;refine thn (k c s t T _ U h) λv s1 Q=>?_;obtain⟨x,i,d,r,n⟩:=Q;obtain⟨a,e,⟨y,m⟩,q⟩:=n;subst e;cases r;obtain⟨f,w,p,u⟩:=d.tuple m;refine tc (show s1.heap.IsTuple a f.toArray from p) ?_;refine⟨s1.heap.objs.size,[s1.heap.objs.size],_,_,i,rfl,d.kept (t':=s1.toks) λb o e=>jM _ e,GB a _,⟨_,kc _ rfl,rfl,rfl⟩,λb j=>?_,q⟩;have e:b=s1.heap.objs.size:=by simpa using j
 subst e;exact d.fpOk (jQ _)<|d.hok.fresh<|jQ _
def Ew{c:jq}{g:St}{T:Hp}{s:iC}{R:It->Hp->Prop}{E:jn}{lo a:Int}{t u v:wE}{f:Nat}(U:Inv X c g T s)(h1: -(2^62)<=lo)(j:lo<2^62)(k: -(2^62)<=a)(l:a<2^62)
  (q:R (Itr lo (a-lo).toNat) T):ag (ah X.prog X.w) X.A (en<|.ref s.heap.objs.size) (PIE X c g tg R) E {s with heap:=s.heap.push {cls:= .type "range",data:= .fields #[.int lo t,.int a u,.int 1 v]},toks:=f}:=by
 refine wpAny_pyIter_range (IsRange.new ..) (small_one h1 j k l) ?_;have d:Inv X c g T {s with heap:=s.heap.push {cls:= .type "range",data:= .fields #[.int lo t,.int a u,.int 1 v]},toks:=f}:=U.kept λb o e=>jM _ e
 refine⟨(s.heap.push {cls:= .type "range",data:= .fields #[.int lo t,.int a u,.int 1 v]}).objs.size,[(s.heap.push {cls:= .type "range",data:= .fields #[.int lo t,.int a u,.int 1 v]}).objs.size],_,_,T,rfl,
  d.kept (t':=f) λb o e=>jM _ e,GC _ lo (a-lo).toNat,?_,λb m=>?_,q⟩
 .have h:lo+((0:Nat):Int)*1=lo:=by simp
  have i:(((a-lo).toNat:Nat):Int)-((0:Nat):Int)=fy lo a 1:=by rw[Ls];split<;>lia
  show Zs _ _ (lo+((0:Nat):Int)*1) ((((a-lo).toNat:Nat):Int)-((0:Nat):Int)) 1;rw[h,i];exact kc _ rfl
 .have e:b=(s.heap.push {cls:= .type "range",data:= .fields #[.int lo t,.int a u,.int 1 v]}).objs.size:=by simpa using m
  subst e;exact d.fpOk (jQ _)<|d.hok.fresh<|jQ _
def WM(b:TA):TI:=λd U R=>b d U λc a=> ∃j:Int,c=[.int j]/\ -(2^62)<=j/\j<2^62/\R (Itr 0 j.toNat) a
def WL(b:TA):TI:=λd U R=>b d U λc a=> ∃i j:Int,c=[.int i,.int j]/\(-(2^62)<=i/\i<2^62/\ -(2^62)<=j/\j<2^62)/\R (Itr i (j-i).toNat) a
def JP{a:iI}{f:TA}{p c:bI}(k:Gl X "range")(l:X.mg "range"=I)(i:PA X [a] f)(m:ac [a] X.env=[(C,aE a X.env)]:=by rfl):PI X tg (.Call (.Name "range" p) [a] [] c) (WM f):=by
 intro b s v T R U h;refine Call_<|pX U k l CS<|zw (thn (i c b s v T _ U h) λx s1 Q=>?_) m H;obtain⟨y,w,g,o,d⟩:=Q;obtain⟨j,e,d,n,q⟩:=d;subst e
 cases o with
 |cons r u=>
  cases u;obtain⟨t,rfl⟩:=r;exact call_range_1<|Ew g (by lia) (by lia) d n (by simpa using q)
def JO{a b:iI}{l:TA}{p d:bI}(o:Gl X "range")(u:X.mg "range"=I)(n:PA X [a,b] l)(v:ac [a,b] X.env=[(C,aE a X.env),(C,aE b X.env)]:=by rfl)(k:ac [b] X.env=[(C,aE b X.env)]:=by rfl):
  PI X tg (.Call (.Name "range" p) [a,b] [] d) (WL l):=by
 intro c s B T R U h;refine Call_<|pX U o u CS<|zw (thn (n d c s B T _ U h) λL s1 N=>?_) (by rw[v,k]) (by rw[k];rfl);obtain⟨O,Q,m,A,f⟩:=N;obtain⟨i,j,e,⟨f,w,x,y⟩,q⟩:=f;subst e
 cases A with
 |cons r g=>
  cases g with
  |cons z g=>
   cases g;obtain⟨t,rfl⟩:=r;obtain⟨E,rfl⟩:=z;exact Uf<|Ew m f w x y q
def XR(k:TI)(g:TG)(j:TS):TS:=λD a U=>k a U λT f=> ∃W:Nat->Nat->St->Hp->Prop,(∃m,W 0 m a f)/\ ∀i m a U,W i m a U->
 (T.stop i U/\D.nx a U)\/(T.go i U/\ ∃N:St->Hp->Prop,(∀c b,N c b-> ∃e,e<m/\W (i+1) e c b)/\ ∀x b,T.yld i U x b->g x a b λd h=>j {D with nx:=N,ct:=N,bk:=D.nx} d h)
noncomputable def zY(a:kI)(h:iT):List (iu×e6):=a.filterMap λb=>(h.get? b).map λo=>(b,o)
def qU{a:kI}{h:iT}{b:iu}{o:e6}(c:b∈a)(e:h.get? b=Y o):(b,o)∈zY a h:=dX.mpr ⟨b,c,by rw[e];rfl⟩
def JR{a:kI}{h:iT}{p:iu×e6}(f:p∈zY a h):p.1∈a/\h.get? p.1=Y p.2:=by
 obtain⟨b,d,e⟩:=dX.mp f
 cases q:h.get? b with
 |none=>rw[q] at e;cases e
 |some o=>rw[q] at e;have c:(b,o)=p:=kE e;subst c;exact⟨d,q⟩
def Inv.pinned{a:jq}{h:St}{T:Hp}{s:iC}{c:kI}(U:Inv X a h T s)(i: ∀b∈c,tJ X a T b)(j: ∀b∈c,∃o,s.heap.get? b=Y o/\ ∀v,o.data≠ .cell v):Inv X (a++zY c s.heap) h T s:=
 U.pins_of λp k=>(qb.mp k).elim (λz=>U.pin p<|qi _ z) λz=>by obtain⟨g,e⟩:=JR z;obtain⟨f0,f1,f2,_⟩:=i p.1 g;obtain⟨o,f,d⟩:=j p.1 g;rw[e] at f;cases f;exact⟨e,f0,f1,f2,d⟩
def Inv.unpinned{a d:jq}{b:St}{T:Hp}{s:iC}(U:Inv X (a++d) b T s):Inv X a b T s:=U.pins_of λp c=>U.pin p<|qi _ (vA _ c)
def Uq{iter:iI}{y:List bD}{wi:TI}{g:TG}{tb:TS}{M:bI}(C:fx (ah X.prog X.w) X.A X.env X.xe)(hc:X.calm=Zx)(hi:PI X tg iter wi)(hg:PG X tg g)(l:PSs X y tb)
  (hs: ∀x,aM iter X.env x=pure x:=by intro _;rfl):PS X (.For tg iter y [] M) (XR wi g tb):=by
 intro a s P H D I h;refine wpAny_For (thn (hi a s P H _ I h) λv s1 h1=>thn h1 λdG s2 Z=>?_) hs;obtain⟨it,B,K,J,R,e,S,T,V,f2,W,⟨m0,w0⟩,L⟩:=Z;subst e;have Y: ∀{t:Hp},(∀b∈B,t b=Zw)-> ∀b∈B,tJ X a t b:=λhn b l=>⟨hn b l,(f2 b l).2⟩
 refine codeAny_forLoop_any (λn F=> ∃i p t,Inv X a p t F/\K i F.heap/\(∀b∈B,t b=Zw)/\W i n p t) ?_ m0 ⟨0,P,R,S,V,λb l=>(f2 b l).1,w0⟩;rintro n s3 ⟨i,q,O,I3,dD,dv,w3⟩;rcases L i n q O w3 with⟨stop,qn⟩|⟨go,N,hN,step⟩
 .refine vt C (thn (T.done X Zz Zz Zz hc i a s3 q O X.xe I3 (Y dv) dD stop) λr s4 a'=>?_);obtain⟨G,I4⟩:=a';subst G;exact zB ⟨q,O,I4,qn⟩
 .refine vt C (thn (T.item X Zz Zz Zz hc i a s3 q O X.xe I3 (Y dv) dD go) λr s4 a'=>?_);obtain⟨u,G,h4⟩:=a';subst G;refine vt C<|thn h4 λ_ s5 a'=>?_;obtain⟨x,H5,I5,r5,y5,Q,hG⟩:=a';have iq:=I5.pinned (Y hG)<|T.obj _ _ Q;refine vt C<|thn (hg _ s5 q H5 x u _ iq r5 (step x H5 y5)) λ_ s6 a'=>?_;obtain⟨σ6,H6,I6,q6⟩:=a';refine vt C (thn (l _ s6 σ6 H6 _ I6 q6) λf U z=>?_)
  have again: ∀{c:St} {j:Hp},Inv X (a++zY B s5.heap) c j U->N c j-> ∃m,m<n/\ ∃i p t,Inv X a p t U/\K i U.heap/\(∀b∈B,t b=Zw)/\W i m p t:=λ{c j} k E=>by obtain⟨m',hm,w7⟩:=hN c j E;refine⟨m',hm,i+1,c,j,k.unpinned,T.keep _ _ _ Q λb l o e=>(k.pin (b,o)<|qi _ (qi _ (qU l e))).1,λb l=>?_,w7⟩;obtain⟨o,e,d⟩:=T.obj _ _ Q b l;exact(k.pin (b,o)<|qi _ (qi _ (qU l e))).2.1
  cases f with
  |next=>obtain⟨c,j,k,E⟩:=z;exact again k E
  |cont=>obtain⟨c,j,k,E⟩:=z;exact again k E
  |brk=>obtain⟨c,j,k,z⟩:=z;exact⟨c,j,k.unpinned,z⟩
  |ret v=>obtain⟨x7,c,j,k,r7,z⟩:=z;exact⟨x7,c,j,k.unpinned,r7,z⟩
end
abbrev R2:=V->V->Hp->VK->Prop
def OpR(X:Cx)(f:yY)(r:R2):Prop:=
 ∀(a:jq) (s:iC) (b:St) (U:Hp) (x y:V) (v u:iK) (Q:VK),Inv X a b U s->RelV x v->RelV y u->r x y U Q->
  ag (ah X.prog X.w) X.A (f v u) (EP X a b Q) X.xe s
def UnR(X:Cx)(f:iK->ey iK)(r:V->Hp->VK->Prop):Prop:=
 ∀(a:jq) (s:iC) (b:St) (U:Hp) (x:V) (v:iK) (Q:VK),Inv X a b U s->RelV x v->r x U Q->
  ag (ah X.prog X.w) X.A (f v) (EP X a b Q) X.xe s
def kF(X:Cx)(f:iK)(r:List V->Hp->VK->Prop):Prop:=
 ∀(a:jq) (s:iC) (c:St) (U:Hp) (xs:List V) (b:jy) (Q:VK),Inv X a c U s->Vals xs b->r xs U Q->
  ag (ah X.prog X.w) X.A (call f b) (EP X a c Q) X.xe s
def YX(X:Cx)(r:V->Hp->(Bool->Hp->Prop)->Prop):Prop:=
 ∀(a:jq) (s:iC) (b:St) (U:Hp) (x:V) (v:iK) (Q:Bool->Hp->Prop),Inv X a b U s->RelV x v->r x U Q->
  ag (ah X.prog X.w) X.A (gL v) (TP X a b Q) X.xe s
noncomputable def tOp(r:R2)(d e:TE):TE:=λa U Q=>d a U λx b=>e a b λy c=>r x y c Q
def tUn(r:V->Hp->VK->Prop)(b:TE):TE:=λc U Q=>b c U λx a=>r x a Q
def rI(T:Int->Int->Prop)(g:Int->Int->V):R2:=λx y U Q=> ∃i j,x= .int i/\y= .int j/\T i j/\Q (g i j) U
def rI0(g:Int->Int->V):R2:=λx y U Q=> ∃i j,x= .int i/\y= .int j/\Q (g i j) U
def rU(g:Int->V):V->Hp->VK->Prop:=λx U Q=> ∃i,x= .int i/\Q (g i) U
section
variable {X:Cx}{a b c:iI}{d n o:TE}{l:bI}
def Vx(t:PE X a d)(z:PE X b n){e:jq}{s:iC}{i:St}{T:Hp}{R:V->V->Hp->Prop}(U:Inv X e i T s)
  (h:d i T λx p=>n i p λy g=>R x y g){Q:jn}{f:yY}
  (B: ∀v u m x y g,Inv X e i g m->RelV x v->RelV y u->R x y g->ag (ah X.prog X.w) X.A (f v u) Q X.xe m):
  ag (ah X.prog X.w) X.A (aE a X.env) (λv j=>ag (ah X.prog X.w) X.A (aE b X.env) (λu k=>ag (ah X.prog X.w) X.A (f v u) Q X.xe k) X.xe j) X.xe s:=by
 refine thn (t e s i T _ U h) λv s1 M=>?_;obtain⟨x,p,q,L,N⟩:=M;refine thn (z e s1 i p _ q N) λu m M=>?_;obtain⟨y,g,r,O,E⟩:=M;exact B v u m x y g r L O E
def Wt{f:Operator}{r:R2}(m:OpR X (bH f) r)(j:PE X a d)(k:PE X b n):PE X (.BinOp a f b l) (tOp r d n):=by intro e s z T Q U h;exact wpAny_BinOp<|Vx j k U h λv u w x y g i p t q=>m e w z g x y v u Q i p t q
def Ws{f:UnaryOp}{r:V->Hp->VK->Prop}(m:UnR X (Ss f) r)(k:PE X a d):PE X (.UnaryOp f a l) (tUn r d):=by intro e s g T Q U h;exact UnaryOp_ (thn (k e s g T _ U h) λv s1 O=>by obtain⟨x,i,j,q,p⟩:=O;exact m e s1 g i x v Q j q p)
def opI{f:yY}{O:Int->Int->Prop}{g:Int->Int->Int}
  (rule: ∀(i j:Int) (t u:wE) (s:iC) (Q:jn) (E:jn),O i j->Q (.int (g i j) s.toks) {s with toks:=s.toks+1}->ag (ah X.prog X.w) X.A (f (.int i t)<|.int j u) Q E s):
  OpR X f (rI O λi j=> .int (g i j)):=by
 intro e s z T x y v u Q U m p h;obtain⟨i,j,rfl,rfl,k,q⟩:=h;obtain⟨t,rfl⟩:=m;obtain⟨r,rfl⟩:=p;exact rule i j t r s _ _ k ⟨.int<|g i j,T,U.tok _,⟨_,rfl⟩,q⟩
def Ww{f:yY}{g:Int->Int->Int}
  (rule: ∀(i j:Int) (t u:wE) (s:iC) (Q:jn) (E:jn),Q (.int (g i j) s.toks) {s with toks:=s.toks+1}->ag (ah X.prog X.w) X.A (f (.int i t)<|.int j u) Q E s):
  OpR X f (rI0 λi j=> .int (g i j)):=by
 intro e s r T x y v u Q U k m h;obtain⟨i,j,rfl,rfl,q⟩:=h;obtain⟨t,rfl⟩:=k;obtain⟨p,rfl⟩:=m;exact rule i j t p s _ _ ⟨.int<|g i j,T,U.tok _,⟨_,rfl⟩,q⟩
def Kv(i j:Int):Prop:=0<j/\j<1073741824
def D4(i j:Int):Prop:=0<=j/\j<=1000000/\i.natAbs<2^64
def CMul(i j:Int):Prop:=(-(2^64)<i/\i<2^64)\/(-(2^64)<j/\j<2^64)
def CMul.ok{i j:Int}(h:CMul i j):IntMulOk i j:=by
 rcases h with⟨h1,e⟩|⟨h1,e⟩
 .exact .of_left (L3 h1 e)
 .exact .of_right (L3 h1 e)
def UN:OpR X (bH .Add) (rI0 λi j=> .int (i+j)):=Ww λ_ _ _ _ _ _ _ q=>add_int q
def UG:OpR X (bH .Sub) (rI0 λi j=> .int (i-j)):=Ww λ_ _ _ _ _ _ _ q=>sub_int q
def UJ:OpR X (bH .Mult) (rI CMul λi j=> .int (i*j)):=opI λ_ _ _ _ _ _ _ e q=>mul_int q e.ok
def QY:OpR X (bH .FloorDiv) (rI Kv λi j=> .int (i / j)):=opI λi j _ _ _ _ _ e q=>by have h1:(0:Int)<j:=e.1;have f:j<1073741824:=e.2;exact floordiv_int (by lia) (by rw[Int.fdiv_eq_ediv_of_nonneg i<|by lia];exact q)<|.inl<|PyProof.noPylong_small (by lia)
def UK:OpR X (bH .Mod) (rI (λ_ j=>0<j) λi j=> .int (i%j)):=opI λi j _ _ _ _ _ e q=>by have h1:(0:Int)<j:=e;exact mod_int' (by lia) (by rw[Int.fmod_eq_emod_of_nonneg i<|by lia];exact q)
def UH:OpR X (bH .Pow) (rI D4 λi j=> .int (i^j.toNat)):=opI λ_ _ _ _ _ _ _ e q=>pow_int_small e.1 e.2.1 e.2.2 q
def unI{f:iK->ey iK}{g:Int->Int}
  (rule: ∀(i:Int) (t:wE) (s:iC) (Q:jn) (E:jn),Q (.int (g i) s.toks) {s with toks:=s.toks+1}->ag (ah X.prog X.w) X.A (f<|.int i t) Q E s):
  UnR X f (rU λi=> .int (g i)):=by
 intro e s k T x v Q U j h;obtain⟨i,rfl,q⟩:=h;obtain⟨t,rfl⟩:=j;exact rule i t s _ _ ⟨.int<|g i,T,U.tok _,⟨_,rfl⟩,q⟩
def Ta:UnR X (Ss .USub) (rU λi=> .int (-i)):=unI λ_ _ _ _ _ q=>neg_int q
def Om{f:jq}{h:St}{T:Hp}{s:iC}{Q:VK}{k g:Bool}(U:Inv X f h T s)(q:Q (.bl k) T)(e:k=g):EP X f h Q (.bool g) s:=by subst e;exact⟨.bl k,T,U,rfl,q⟩
def Nr:OpR X (aJ .Is) (λx y T Q=>y= .non/\Q (.bl<|decide<|x= .non) T):=by
 intro e s i T x y v u Q U f g h;obtain⟨rfl,q⟩:=h;cases g;refine is_none_gen<|Om U q ?_
 cases x<;>first
  |(cases f;rfl)
  |(obtain⟨t,rfl⟩:=f;rfl)
def Nx(b:iI){e:dW}(h:e≠ .In:=by decide)(i:e≠ .NotIn:=by decide):cE e b=C:=by
 have f:(e==dW.In)=C:=by cases e<;>first|rfl|exact absurd H h
 have g:(e==CmpOp.NotIn)=C:=by cases e<;>first|rfl|exact absurd H i
 cases b<;>simp[cE,f,g]
def QK{f:dW}{r:R2}(p:OpR X (aJ f) r)(j:PE X a d)(k:PE X b n)(m:cE f b=C):PE X (.Compare a [f] [b] l) (tOp r d n):=by intro e s A T Q U h;exact wpAny_Compare1 (Vx j k U h λv u z x y g i t w q=>p e z A g x y v u Q i t w q) m
def VY(t:TE):TT:=λf U Q=>t f U λx e=> ∃k,x= .bl k/\Q k e
def Qq{i:dW}{r:R2}(L:OpR X (aJ i) r)(B:PE X a d)(C:PE X b n)(E:cE i b=Zy):PT X (.Compare a [i] [b] l) (VY<|tOp r d n):=by intro f s j H Q I h;refine wpAny_isTrue_Compare1 (thn (B f s j H _ I h) λv s1 g=>?_) E;obtain⟨x,m,t,J,O⟩:=g;refine thn (C f s1 j m _ t O) λu U g=>?_;obtain⟨y,p,w,M,T⟩:=g;refine thn (L f U j p x y v u _ w J M T) λc Y g=>?_;obtain⟨z,q,A,N,k,e,G⟩:=g;subst e;cases N;exact vz ⟨q,A,G⟩
def Xi(K:iW)(x:V)(U:Hp)(k:Bool):Prop:=
 match x with
 | .non=>k=C
 | .bl b=>k=b
 | .int i=>k=(i !=0)
 | .str y=>y.length<=sizeLine/\k=((y.length:Int) !=0)
 | .byt y=>y.size<=sizeLine/\k=((y.size:Int) !=0)
 | .ref p=>(∃f,SqL K U p f/\k=!f.isEmpty)\/(∃f,SqT K U p f/\k=!f.isEmpty)\/ ∃e,U p=Y (.dK e)/\k=!e.isEmpty
 |_=>False
def Hb{g:Type}{e:List (g×V)}{f:List (g×iK)}(r:KV e f):(!f.isEmpty)=!e.isEmpty:=by
 cases r<;>rfl
def As{f:List V}{e:jy}(r:Vals f e):(!e.toArray.isEmpty)=!f.isEmpty:=by
 cases r<;>simp
def Al:(sizeLine:Nat)<2^63:=by rw[jH];decide
def Tb:YX X (λx H' Q=> ∃k,Xi X.K x H' k/\Q k H'):=by
 intro O s N H' x v Q U z h;obtain⟨k,e,q⟩:=h;have J:=Al;have M:sizeLine=16777216:=jH
 cases x with
 |non=>
  cases z;have f:k=Zy:=e;subst f;exact truthy_none ⟨H',U,q⟩
 |bl b=>
  cases z;have f:k=b:=e;subst f;exact vz ⟨H',U,q⟩
 |int i=>obtain⟨t,rfl⟩:=z;have f:k=(i !=0):=e;subst f;exact PySem.P.truthy_int ⟨H',U,q⟩
 |str y=>obtain⟨t,rfl⟩:=z;obtain⟨G,f⟩:y.length<=sizeLine/\k=((y.length:Int) !=0):=e;subst f;exact PySem.P.truthy_str (by lia) ⟨H',U.tok _,q⟩
 |byt y=>obtain⟨t,rfl⟩:=z;obtain⟨G,f⟩:y.size<=sizeLine/\k=((y.size:Int) !=0):=e;subst f;exact PySem.W.truthy_bytes (by lia) ⟨H',U.tok _,q⟩
 |ref p=>
  cases z;have f:(∃u,SqL X.K H' p u/\k=!u.isEmpty)\/(∃u,SqT X.K H' p u/\k=!u.isEmpty)\/ ∃g,H' p=Y (.dK g)/\k=!g.isEmpty:=e;rcases f with⟨u,A,f⟩|⟨u,A,f⟩|⟨g,A,f⟩
  .subst f;obtain⟨C,r,E,L⟩:=U.list A;have j:=r.length;exact wpAny_truthy_list E.isList (by simp only[kj];lia) ⟨H',U.tok _,by rw[As r];exact q⟩
  .subst f;obtain⟨C,r,E,L⟩:=U.tuple A;have j:=r.length;exact truthy_tuple E (by simp only[kj];lia) ⟨H',U.tok _,by rw[As r];exact q⟩
  .subst f;obtain⟨L,T,B,r,m⟩:g.length<=sizeLine/\(p==bw)=Zy/\ ∃B,KV g B/\s.heap.DictOf (ky X.prog X.w) p B:=U.hok p _ A;have j:g.length=B.length:=sG r;exact wpAny_truthy_dict T m (by lia) ⟨H',U.tok _,by rw[Hb r];exact q⟩
 |_=>exact(show False from e).elim
def MM(p:PE X a d)(q: ∀e,isTrue a X.env e=(do let v <-e;cu a.pos;br [v] (gL v))):
  PT X a (λg T Q=>d g T λx i=> ∃k,Xi X.K x i k/\Q k i):=by
 intro f s g T Q U h;exact WF (thn (p f s g T _ U h) λv s1 O=>by obtain⟨x,j,m,t,r⟩:=O;exact Tb f s1 g j x v Q m t r)<|q _
def GY:OpR X (bH .Add) (λx y T Q=> ∃i j,x= .str i/\y= .str j/\i.length+j.length<=sizeLine/\Q (.str<|i++j) T):=by intro e s p T x y v u Q U g k h;obtain⟨i,j,rfl,rfl,f,q⟩:=h;obtain⟨t,rfl⟩:=g;obtain⟨t',rfl⟩:=k;exact add_str (λt' m=>⟨.str<|i++j,T,U.tok _,⟨_,rfl⟩,q⟩) f
def rF{x:V}{e:jy}(r:Vals [x] e): ∃u,e=[u]/\RelV x u:=by
 cases r with
 |cons f g=>cases g;exact⟨_,rfl,f⟩
def vX{x y:V}{e:jy}(r:Vals [x,y] e): ∃u f,e=[u,f]/\RelV x u/\RelV y f:=by
 cases r with
 |cons g h=>
  cases h with
  |cons i j=>cases j;exact⟨_,_,rfl,g,i⟩
def OT:kF X (.builtin "abs") (λf T Q=> ∃i,f=[.int i]/\Q (.int (if i<0 then -i else i)) T):=by intro e s k T f j Q U r h;obtain⟨i,rfl,q⟩:=h;obtain⟨u,rfl,t,rfl⟩:=rF r;exact W1 λu g=>⟨.int (if i<0 then -i else i),T,U.tok _,⟨_,rfl⟩,q⟩
def Kn(m:X.calm=J):kF X (.builtin "max") (λg T Q=> ∃i j,g=[.int i,.int j]/\Q (.int (if j>i then j else i)) T):=by
 intro f s z T g x Q U r h;obtain⟨i,j,rfl,q⟩:=h;obtain⟨u,y,rfl,⟨t,rfl⟩,⟨v,rfl⟩⟩:=vX r;refine max_two_ints (U.ok.hd m) λp w k=>⟨_,T,U.kept k,?_,q⟩
 by_cases e:j>i
 .rw[iP e,iP e];exact⟨_,rfl⟩
 .rw[jc e,jc e];exact⟨_,rfl⟩
def Km(m:X.calm=J):kF X (.builtin "min") (λg T Q=> ∃i j,g=[.int i,.int j]/\Q (.int (if j<i then j else i)) T):=by
 intro f s z T g x Q U r h;obtain⟨i,j,rfl,q⟩:=h;obtain⟨u,y,rfl,⟨t,rfl⟩,⟨v,rfl⟩⟩:=vX r;refine min_two_ints (U.ok.hd m) λp w k=>⟨_,T,U.kept k,?_,q⟩
 by_cases e:j<i
 .rw[iP e,iP e];exact⟨_,rfl⟩
 .rw[jc e,jc e];exact⟨_,rfl⟩
def BV:kF X (.type "int") (λe T Q=>(∃i,e=[.int i]/\Q (.int i) T)\/ ∃k,e=[.bl k]/\Q (.int (if k then 1 else 0)) T):=by
 intro f s m T e j Q U r h;rcases h with⟨i,rfl,q⟩|⟨k,rfl,q⟩
 .obtain⟨u,rfl,t,rfl⟩:=rF r;exact call_int_int ⟨.int i,T,U,⟨_,rfl⟩,q⟩
 .obtain⟨u,rfl,g⟩:=rF r;cases g;exact call_int_bool ⟨.int (if k then 1 else 0),T,U.tok _,⟨_,rfl⟩,q⟩
end
section
variable {a:iX}{w:iR}{A:iU}{E:jn}{s:iC}{K:iW}{x d C f:iu}{c:ll}{b:ax}{v:iK}
end
section
variable {P:iX}{w:iR}{H e:Hp}{h c:iT}{a C d:iu}{fs b:List (ax×V)}
end
section
variable {X:Cx}{b:jq}{c:St}{H:Hp}{s:iC}{a C d:iu}{fs:List (ax×V)}{f:ax}{v:V}{A:iU}{E:jn}
end
section
variable {X:Cx}{o e a:iI}{f:ax}{c b h:bI}{g d:TE}
end
section
variable {X:Cx}{a:jq}{d:St}{H:Hp}{s:iC}{A:iU}{E:jn}{Q:jn}{c:iK}{b:Bool}
end
structure Room(k:Nat)(A:iU):Prop where
 hd:A.handled=Zw
 dp:A.depth+3*k+5<recursionLimit
 un:A.units+16*k+200<aT
 gd:A.guards=Zv []:=by rfl
def Room.mono{j k:Nat}{A:iU}(r:Room k A)(h:j<=k):Room j A:=⟨r.hd,by have:=r.dp;lia,by have:=r.un;lia,r.gd⟩
def Room.deeper{k:Nat}{A:iU}(r:Room (k+1) A)(a:d1):Room k (A.deeper a):=
 ⟨r.hd,by have:=r.dp;show A.depth+1+3*k+5<_;lia,by have:=r.un;show A.units+3+16*k+200<_;lia,r.gd⟩
def Room.depth{k:Nat}{A:iU}(r:Room k A):A.depth<recursionLimit:=by have:=r.dp;lia
noncomputable def XN:TA:=λ_ U Q=>Q [] U
noncomputable def V6(d:TE)(e:TA):TA:=λa U Q=>d a U λx b=>e a b λf c=>Q (x::f) c
section
variable {X:Cx}{e:iI}{c:kr}{d:TE}{t:TA}{a:bI}
def oh:PA X [] XN:=λ_ _ _ _ T Q U h=>Gr ⟨[],T,U,.nil,h⟩
def lu(l:PE X e d)(m:PA X c t)(n:ac (e::c) X.env=(C,aE e X.env)::ac c X.env:=by rfl):PA X (e::c) (V6 d t):=by intro a b s f T Q U h;rw[n];show ag _ _ (Td ((C,aE e X.env)::aP a (ac c X.env))) _ _ s;refine Gq<|thn (l b s f T _ U h) λu s1 O=>?_;obtain⟨x,g,j,q,o⟩:=O;exact thn (m a b s1 f g _ j o) λy w ⟨v,i,k,r,p⟩=>⟨x::v,i,k,.cons q r,p⟩
noncomputable def XI(t:TA):TE:=λg U Q=>t g U λf b=>ZB f<=sizeLine/\ ∀p,b p=I->Q (.ref p) (upd b p<|.tup f)
noncomputable def XO(t:TA):TE:=λg U Q=>t g U λf b=>ZB f<=sizeLine/\ ∀p,b p=I->Q (.ref p) (upd b p<|.lst f)
def Nc{x1}(h:PA X c t):PE X (.Tuple c x1 a) (XI t):=by intro f s n T Q U k;refine wpAny_Tuple_spliced<|thn (h a f s n T _ U k) λl s1 ⟨m,g,i,r,z,q⟩=>⟨by rw[<-r.length];exact z,?_⟩;have j:g s1.heap.objs.size=I:=i.hok.fresh<|jQ _;refine⟨.ref s1.heap.objs.size,upd g s1.heap.objs.size<|.tup m,i.laid (t':=s1.toks) (λb u e=>jM _ e) (jQ _) ?_,rfl,q _ j⟩;exact⟨z,l,r,⟨_,kc _ rfl,rfl,_,rfl⟩⟩
def Uz(h:PA X c t):PE X (.List c a) (XO t):=by intro f s n T Q U k;refine wpAny_List_spliced<|thn (h a f s n T _ U k) λl s1 ⟨m,g,i,r,z,q⟩=>⟨by rw[<-r.length];exact z,?_⟩;have j:g s1.heap.objs.size=I:=i.hok.fresh<|jQ _;refine⟨.ref s1.heap.objs.size,upd g s1.heap.objs.size<|.lst m,i.laid (t':=s1.toks) (λb u e=>jM _ e) (jQ _) ?_,rfl,q _ j⟩;exact⟨z,l,0,r,kc _ rfl⟩
end
abbrev Sp:=List V->Hp->VK->XK->Prop
abbrev CXT:=List d1->Hp->Shared->XK->iK->Shared->Prop
structure Env0(P:iX)(w:iR)(K:iW)(mg:ll)(base:iT)(A:iU)(outer:List d1)(s:iC)(H:Hp):Prop where
 frames:A.frames=Zv outer
 mod:Mod K mg base
 bs: ∀b o,base.get? b=Zv o->s.heap.get? b=Zv o/\H b=Zw
 bsz:base.objs.size<=s.heap.objs.size
 funs:s.heap.FunFrames base outer
 frf: ∀b∈frs outer,H b=Zw
 hok:HOk P w H s.heap
 bare:ej s.gens
def CE(a:List d1)(P:iX)(w:iR)(U:Hp)(s:iC)(Q:VK)(u:iK)(b:iC):Prop:=
 ∃v c,b.os=s.os/\ej b.gens/\Un (frs a) [] U c s.heap b.heap/\HOk P w c b.heap/\RelV v u/\Q v c
def CR(CX:CXT)(a:List d1)(P:iX)(w:iR)(U:Hp)(s:iC)(Q:VK)(E:XK)(r:ms)(b:iC):Prop:=
 match r with
 | .ok (.ret u)=>CE a P w U s Q u b
 | .ok _=>False
 | .error e=>CX a U s E e b
structure FnOk(P:iX)(w:iR)(K:iW)(mg:ll)(base:iT)(CX:CXT)(k:Nat)(f:iu)(fd:mD)(ps:je)(sp:Sp):Prop where
 len: ∀vs H Q E,sp vs H Q E->ZB vs=ZB ps
 run: ∀(A:iU) (outer:List d1) (s:iC) (H:Hp) (args:Args) (us:jy) (vs:List V) (Q:VK) (E:XK),Room k A->Env0 P w K mg base A outer s H->fY s fd args (ps.zip us)->Vals vs us->sp vs H Q E->
  cU (ah P w) A (.call (.ref f) args) (CR CX outer P w H s Q E) s
def FnOk.mono{P:iX}{w:iR}{K:iW}{d:ll}{base:iT}{CX:CXT}{j k:Nat}{f:iu}{c:mD}{e:je}{g:Sp}(F:FnOk P w K d base CX j f c e g)(h:j<=k):
  FnOk P w K d base CX k f c e g:=⟨F.len,λA a s U b us vs Q E i=>F.run A a s U b us vs Q E<|i.mono h⟩
section
variable {X:Cx}{a:jq}{c:St}{H:Hp}{s e:iC}
def Inv.env0(U:Inv X a c H s):Env0 X.prog X.w X.K X.mg X.base X.A X.stack s H:=
 ⟨U.ok.frames,U.ok.mod,U.bs,ma U.ok.bsz U.sz,U.stack,U.stkFree,U.hok,U.bare⟩
def Inv.after{Q:VK}{u:iK}(U:Inv X a c H s)(h:CE X.stack X.prog X.w H s Q u e):EP X a c Q u e:=by obtain⟨v,j,os,f,un,i,r,q⟩:=h;obtain⟨l,g,d,t,k⟩:=e;obtain rfl:k=s.os:=os;exact⟨v,j,U.call (h':=l) (g':=g) (d':=d) (t':=t) (ch:=[]) un i f λb z=>absurd z<|by simp,r,q⟩
end
noncomputable def V7(c:Sp)(b:List V)(E:XK)(t:TA):TE:=λe U Q=>t e U λd a=>c (d++b) a Q E
def Binds(K:iW)(c:mD)(b:je)(a:jy):Prop:=
 ∀(s:iC) (us:jy),K.In s.heap->(us++a).length=ZB b->fY s c ⟨us,[]⟩ (b.zip<|us++a)
def Binds.all{K:iW}{c:mD}{b:je}(h: ∀a:List iK,ZB a=ZB b->fm c ⟨a,[]⟩=pure (b.zip a)):Binds K c b []:=λs a _ d=>by rw[vq] at d ⊢;exact .of_eq<|h a d
def D3(c:CXT)(X:Cx)(E:XK):Prop:= ∀(a:jq) (d:St) (U:Hp) (s:iC) (e:iK) (b:iC),Inv X a d U s->c X.stack U s E e b->X.xe e b
section
variable {X:Cx}{l:CXT}{k:Nat}{f C:iu}{j:mD}{d:je}{i:Sp}{c:List V}{b:jy}{E:XK}{x m:ax}{p a n:bI}{e o:iI}{g:kr}{v:TE}{t:TA}
def Tw{q:jq}{L:St}{H:Hp}{s:iC}{Q:VK}{y:jy}{B:List V}(F:FnOk X.prog X.w X.K X.mg X.base l k f j d i)(M:Room k X.A)(G:Binds X.K j d b)(hd:Vals c b)(N:D3 l X E)
  (I:Inv X q L H s)(r:Vals B y)(h:i (B++c) H Q E):ag (ah X.prog X.w) X.A (call (.ref f) y) (EP X q L Q) X.xe s:=by
 have O:Vals (B++c) (y++b):=r.append hd;have J:(y++b).length=d.length:=by rw[<-O.length];exact F.len _ _ _ _ h
 refine zv<|uG (F.run X.A X.stack s H ⟨y,[]⟩ (y++b) (B++c) Q E M I.env0 (G s y I.kIn J) O h) λr U z=>?_
 cases r with
 |error e=>exact N q L H s e U I z
 |ok T=>
  cases T with
  |ret u=>exact I.after z
  |next=>exact aW z
  |brk=>exact aW z
  |cont=>exact aW z
def Dj(F:FnOk X.prog X.w X.K X.mg X.base l k f j d i)(J:Room k X.A)(T:Gl X x)(G:X.mg x=Y (.ref f))(hk:cw X.K (.ref f)=Zx)(L:Binds X.K j d b)(hd:Vals c b)(M:D3 l X E)
  (B:PA X (e::g) t)(N:(x==("__debug__":ax))=Zy:=by decide)(O:ac (e::g) X.env=(Zy,aE e X.env)::ac g X.env:=by rfl)(z:(aP a<|ac g X.env).any (·.1)=Zy:=by rfl):
  PE X (.Call (.Name x p) (e::g) [] a) (V7 i c E t):=by
 intro u s U H Q I h;refine sA<|wx I T G ?_ N;refine PySem.W.callWith_K (h₀:=X.base) I.ok.mod.kin hk (thn (B a u s U H _ I h) λus s1 ⟨vs,Y',y,r,q⟩=>⟨y.kIn,?_⟩) O z;exact Tw F J L hd M y r q
end
section
variable {X:Cx}{w:CXT}{k:Nat}{f C:iu}{u:mD}{n r:je}{l:Sp}{E:XK}{x m:ax}{p c b a:bI}{e o:iI}{v:kr}{d:List bG}{i j:TE}{t h:TA}{q:Option ax}
variable {g:List iK->List iK->List iK}{s:List V->List V->List V}
end
structure FnScope(N P:je)(sc:jL):Prop where
 kind:sc.kind= .function
 co:sc.isCoroutine=Zy
 gen:sc.isGenerator=Zy
 nd:N.Nodup
 pre:N.take P.length=P
 par: ∀x∈P,sc.names.lookup x=Zv .local\/sc.names.lookup x=Zv .cell
 nofree: ∀y∈sc.names,y.2≠ .free
theorem BZ{kindOf:ax->Option dU}{x:ax}: ∀{binds:List (ax×iK)} {m:ll},(∀v,(x,v)∉binds)->j3 kindOf binds m x=m x
 |[],_,_=>rfl
 |(n,v)::r,m,h=>by
  unfold j3;rw[BZ λw a=>h w<|jX _ a];split
  .have:x≠n:=by rintro rfl;exact h v jT
   simp[this]
  .rfl
theorem B7{kindOf:ax->Option dU}{x:ax}: ∀{binds:List (ax×iK)} {m:ll},(∀v,(x,v)∉binds)->j4 kindOf binds m x=m x
 |[],_,_=>rfl
 |(n,v)::r,m,h=>by
  unfold j4;rw[B7 λw a=>h w<|jX _ a];split
  .rfl
  .have:x≠n:=by rintro rfl;exact h v jT
   simp[this]
theorem B6{kindOf:ax->Option dU}{x:ax}{v:iK}: ∀{P:je} {a:jy} {i:Nat} {m:ll},P.Nodup->P[i]?=Y x->a[i]?=Y v->kindOf x=Y .local->
  j3 kindOf (P.zip a) m x=Y v
 |[],_,_,_,_,h,_,_=>by simp at h
 |_::_,[],_,_,_,_,h,_=>by simp at h
 |p::P,w::a,0,m,c,h1,b,hk=>by simp at h1 b;subst h1;subst b;show j3 kindOf ((p,w)::P.zip a) m p=_;unfold j3;rw[BZ λv hv=>(zD.mp c).1 (CQ hv).1,iP hk];simp
 |p::P,w::a,i+1,m,c,h1,b,hk=>by show j3 kindOf ((p,w)::P.zip a) m x=_;unfold j3;exact B6 (i:=i) (zD.mp c).2 (by simpa using h1) (by simpa using b) hk
theorem B8{kindOf:ax->Option dU}{x:ax}{v:iK}: ∀{P:je} {a:jy} {i:Nat} {m:ll},P.Nodup->P[i]?=Y x->a[i]?=Y v->kindOf x≠Y .local->
  j4 kindOf (P.zip a) m x=Y v
 |[],_,_,_,_,h,_,_=>by simp at h
 |_::_,[],_,_,_,_,h,_=>by simp at h
 |p::P,w::a,0,m,c,h1,b,hk=>by simp at h1 b;subst h1;subst b;show j4 kindOf ((p,w)::P.zip a) m p=_;unfold j4;rw[B7 λv hv=>(zD.mp c).1 (CQ hv).1,jc hk];simp
 |p::P,w::a,i+1,m,c,h1,b,hk=>by show j4 kindOf ((p,w)::P.zip a) m x=_;unfold j4;exact B8 (i:=i) (zD.mp c).2 (by simpa using h1) (by simpa using b) hk
noncomputable def oy(N:je)(vs:List V):St:=vs.map Y++ae (ZB N-ZB vs) I
noncomputable def pZ(CX:CXT)(P:iX)(w:iR)(K:iW)(c:ll)(base:iT)(N:je)(qual:ax)(scope:jL)(f:iu)(cd:iK)(A:iU)(a:List d1)(s:iC)(U:Hp)(E:XK):Cx where
 prog:=P
 w:=w
 K:=K
 mg:=c
 base:=base
 A:=A.deeper<|aZ qual scope s.heap.objs.size f cd
 N:=N
 s₀:=s
 H₀:=U
 env:=aZ qual scope s.heap.objs.size f cd
 outer:=a
 stack:=aZ qual scope s.heap.objs.size f cd::a
 ex:=[]
 calm:=J
 fn:=λ_=>J
 pn:=[]
 xe:=λe h=>ag (ah P w) (A.deeper<|aZ qual scope s.heap.objs.size f cd) (TD (aZ qual scope s.heap.objs.size f cd) e) (λ_ b=>CX a U s E e b) (λg b=>CX a U s E g b) h
def Fh{a:jL}{n:Nat}{x:ax}(h:a.names.lookup x=Y .cell): ∃c,(bt n a.names []).lookup x=Y c:=by have q:=CP a.names n []<|.inl h;exact Jn.mp q
def BH{Q:CXT}{P:iX}{w:iR}{K:iW}{L:ll}{base:iT}{N m:je}{qual:ax}{scope:jL}{f:iu}{cd:iK}{A:iU}{d:List d1}{s s1:iC}{H:Hp}{E:XK}{O:jy}{o:List V}
  (S:FnScope N m scope)(hd:A.handled=Zw)(j:Env0 P w K L base A d s H)(Y:(ZB o)=ZB m)(r:Vals o O)
  (x:InCallC s s.heap.objs.size (j3 (aZ qual scope s.heap.objs.size f cd).kindOf (m.zip O) λ_=>Zw) (bt (s.heap.objs.size+1) scope.names []) (j4 (aZ qual scope s.heap.objs.size f cd).kindOf (m.zip O) λ_=>Zw) s1):
  Inv (pZ Q P w K L base N qual scope f cd A d s H E) [] (oy N o) H s1:=by
 have M:(ZB m)<=(ZB N):=by have:=mV dB S.pre;rw[rE] at this;lia
 obtain⟨h1,D,rfl,hk⟩:=x.done;have I: ∀b:iu,b∉(pZ Q P w K L base N qual scope f cd A d s H E).ex:=λb z=>absurd (show b∈([]:List iu) from z) (by simp)
 refine⟨⟨j.mod,S.kind,rfl,rfl,jQ _,λy z c h1 g=>?_,λy l=>?_,λy c _ h=>?_,λ_=>hd,Lw j.frames,.inr ⟨rfl,rfl⟩,λb z=>absurd z<|I b,j.bs,j.bsz,λb _ _=>I b,λb z=>absurd z<|I b,j.funs,j.frf⟩,
  rfl,j.bare,Un.kept hk,⟨_,x.toInCall.ns,λi y v h1 g U=>?_⟩,λy c h=>⟨_,x.cell y c h⟩,j.hok.fresh<|jQ _,λy c h=>?_,λp t=>absurd (show p∈([]:List (iu×e6)) from t)<|by simp,j.hok.kept hk,?_⟩
 .exact Tl x.apart (qh h1) (qh g)
 .have l:scope.names.lookup y=Zv .cell\/scope.names.lookup y=Zv .free:=l;rcases l with l|l
  .exact Fh l
  .exact absurd Zz (S.nofree _ (qh l))
 .exact sD (x.above y c<|qh h)
 .have C:i<(ZB o):=by
   unfold oy at g;by_cases C:i<ZB o
   .exact C
   .rw[qg<|by simpa using C] at g;rw[vV] at g;split at g<;>cases g
  have G:o[i]?=Zv v:=by
   unfold oy at g;rw[qf<|by simpa using C,kD] at g
   cases e:o[i]? with
   |none=>rw[e] at g;cases g
   |some a=>rw[e] at g;cases g;rfl
  obtain⟨u,T,J⟩:=r.get G
  have t:m[i]?=Zv y:=by rw[<-S.pre,Lv<|by lia];exact h1
  have B:m.Nodup:=by rw[<-S.pre];exact S.nd.sublist<|xF _ _
  refine⟨u,J,?_⟩;rcases S.par y (mG t) with k|k
  .exact .inl ⟨k,B6 B t T k⟩
  .obtain⟨c,e⟩:=Fh (n:=s.heap.objs.size+1) k;refine .inr ⟨.inl k,c,e,?_⟩;have q:=x.cell y c e;rw[B8 B t T (by show scope.names.lookup y≠_;rw[k];decide)] at q;exact q
 .exact j.hok.fresh (sD<|x.above y c<|qh h)
 .unfold oy;show _=ZB N;rw[mF,kh,Lu]
  lia
def Oj{B:CXT}{P:iX}{w:iR}{K:iW}{C:ll}{base:iT}{k:Nat}{f:iu}{j qual:ax}{c:c8}{d:List bD}{scope:jL}{dV kV p pm l ct oc:iK}{an od:Option iu}
  {r9:rY}{N L:je}{U:Sp}(lk:K.lookup f=Zv ⟨oc,od,.func<|cz j qual c d scope dV kV p pm an l ct,r9⟩)(l6:ew K l qual=Zx)(S:FnScope N L scope)
  (len: ∀g H Q E,U g H Q E->ZB g=ZB L)
  (l3: ∀(A:iU) (a:List d1) (s:iC) (H:Hp) (g:List V) (Q:VK) (E:XK),Room k (A.deeper<|aZ qual scope s.heap.objs.size f l)->U g H Q E->
   ∃t,PSs (pZ B P w K C base N qual scope f l A a s H E) d t/\t {nx:=λ_ i=>Q .non i,rt:=Q} (oy N g) H):
  FnOk P w K C base B (k+1) f (cz j qual c d scope dV kV p pm an l ct) L U:=by
 refine⟨len,λA a s H D us g Q E O z hb r F=>?_⟩;have hl:=len _ _ _ _ F;have Y:K.In s.heap:=z.mod.kin.keeps λb o e=>(z.bs b o e).1;have T:s.heap.NoLimit:=z.mod.nolimit.keeps λb o e=>(z.bs b o e).1
 have R: ∀y∈L.zip us,scope.names.lookup y.1=Zv .local\/(scope.names.lookup y.1=Zv .cell/\((bt (s.heap.objs.size+1) scope.names []).lookup y.1).isSome=Zx):=λ⟨n,v⟩ hy=>by
  rcases S.par n (CQ hy).1 with q|q
  .exact .inl q
  .exact .inr ⟨q,CP _ _ _ (.inl q)⟩
 refine Lr O.depth (Y _ _ lk) Zz S.co S.gen Zz (PySem.W.codeRec_of Y l6)<|hb _ _ _ _ ?_;refine Lq S.kind R λX he s1 x=>?_;subst he;refine⟨T.keeps x.toInCall.keep,T2 ?_⟩;obtain⟨t,ht,hq⟩:=l3 A a s H g Q E (O.deeper _) F;have I:Inv (pZ B P w K C base N qual scope f l A a s H E) [] (oy N g) H s1:=BH S O.hd z hl r x;refine ou (ht [] s1 (oy N g) H _ I hq) (λZ M m=>?_) λe M m=>m
 have fin: ∀{h:St} {i:Hp} {v:V} {u:iK},Inv (pZ B P w K C base N qual scope f l A a s H E) [] h i M->RelV v u->Q v i->CE a P w H s Q u M:=
  λ{h i v u} J G q=>⟨v,i,J.os,J.bare,J.base,J.hok,G,q⟩
 cases Z with
 |ret u=>obtain⟨v,h,i,J,G,q⟩:=m;exact fin J G q
 |next=>obtain⟨h,i,J,q⟩:=m;exact fin (v:=V.non) (u:=au) J Zz q
 |brk=>obtain⟨_,_,_,q⟩:=m;exact aW q
 |cont=>obtain⟨_,_,_,q⟩:=m;exact aW q
section
variable {X:Cx}{x:ax}{p a:bI}{e:iI}{b:kr}{t:TA}{id T:String}{r:List V->Hp->VK->Prop}
def tCB(r:List V->Hp->VK->Prop)(t:TA):TE:=λf U Q=>t f U λd c=>r d c Q
def wj(k:kF X (.builtin id) r)(m:Gl X x)(n:X.mg x=I)(hv:ay x=Y (.builtin id))(j:PA X (e::b) t)(o:x≠"__name__":=by decide)(q:(x==("__debug__":ax))=C:=by decide)
  (l:ac (e::b) X.env=(C,aE e X.env)::ac b X.env:=by rfl)(i:(aP a<|ac b X.env).any (·.1)=C:=by rfl):PE X (.Call (.Name x p) (e::b) [] a) (tCB r t):=by
 intro c s d O Q U h;refine sA<|pX U m n hv ?_ o q;exact CK (thn (j a c s d O _ U h) λw s1 N=>by obtain⟨y,f,g,v,u⟩:=N;exact k c s1 d f y w Q g v u) l i
def qt(k:kF X (.type T) r)(m:Gl X x)(n:X.mg x=I)(hv:ay x=Y (.type T))(j:PA X (e::b) t)(o:x≠"__name__":=by decide)(q:(x==("__debug__":ax))=C:=by decide)
  (l:ac (e::b) X.env=(C,aE e X.env)::ac b X.env:=by rfl)(i:(aP a<|ac b X.env).any (·.1)=C:=by rfl):PE X (.Call (.Name x p) (e::b) [] a) (tCB r t):=by
 intro c s d O Q U h;refine sA<|pX U m n hv ?_ o q;exact zw (thn (j a c s d O _ U h) λw s1 N=>by obtain⟨y,f,g,v,u⟩:=N;exact k c s1 d f y w Q g v u) l i
end
end L2
namespace HT
section
open PySem.SeqAt
open PySem.AutoSeq1 (wpAny_loadPart')
open PySem.MeetsSeq PySem.MeetsSeq2 PySem.MeetsSeq3
end
section
variable {a:iX}{w:iR}{A:iU}{E:jn}{s:iC}
def Xe{t b:iu}{d c:jy}{Q:jn}(z:ro s.heap t d.toArray)(y:ro s.heap b c.toArray)(hv:d≠[])
  (h1:c=[]->Q (.ref t) s)(x:c≠[]->Q (.ref s.heap.objs.size) {s with heap:=s.heap.push {cls:= .type "tuple",data:= .seq (d++c).toArray}})
  (l:(ZB d)+ZB c<=sizeLine):ag (ah a w) A (bH .Add (.ref t)<|.ref b) Q E s:=by
 obtain⟨⟨k,o,f,v⟩,h,p,n,hd⟩:=id z;obtain⟨⟨B,u,data2,r⟩,j,m,q,g⟩:=id y;simp only at p hd m g;subst p hd m g;have e:d.toArray++c.toArray=(d++c).toArray:=by simp
 by_cases i:c=[]
 .exact CN ⟨_,h,rfl⟩ ⟨_,j,rfl⟩ Gp Gn Gm Gk (Gj _ _)
   (tuple_addW1 t b d.toArray c.toArray n q o u v r (by simpa using hv)<|by simp[i]) ⟨h,j,h1 i⟩
 .refine CN ⟨_,h,rfl⟩ ⟨_,j,rfl⟩ Gp Gn Gm Gk (Gj _ _)
   (tuple_addW2 t b d.toArray c.toArray n q o u v r (by simpa using hv) (by simpa using i)<|by rw[kj,kj];exact l) ⟨h,j,?_⟩
  rw[e];exact x i
noncomputable def sIx(n d:Nat):Option Int->Nat
 |none=>d
 |some v=>if v<0 then(v+(n:Int)).toNat else min v.toNat n
theorem VE(n d:Nat):sIx n d I=d:=rfl
def We(n d k:Nat):sIx n d (Y (k:Int))=min k n:=by show(if(k:Int)<0 then((k:Int)+(n:Int)).toNat else min (k:Int).toNat n)=min k n;rw[jc<|by lia,si]
def Tv(n d:Nat)(hd:d<=n)(o:Option Int):sIx n d o<=n:=by
 cases o with
 |none=>exact hd
 |some v=>
  show(if v<0 then(v+(n:Int)).toNat else min v.toNat n)<=n;by_cases hv:v<0
  .rw[iP hv];lia
  .rw[jc hv];exact Nat.min_le_right _ _
def Jc(v:Int)(n d:Nat):(if v<0 then max (v+(n:Int)) 0 else min v (n:Int))=((sIx n d (Y v):Nat):Int):=by
 show(if v<0 then max (v+(n:Int)) 0 else min v (n:Int))=(((if v<0 then(v+(n:Int)).toNat else min v.toNat n):Nat):Int)
 by_cases hv:v<0
 .simp only[iP hv];lia
 .simp only[jc hv];lia
def HC(lo b:Option Int)(n:Nat):du lo b 1 (n:Int)=(((sIx n 0 lo:Nat):Int),((sIx n n b:Nat):Int)):=by
 have h1: ¬((1:Int)<0):=by lia
 unfold du;simp only[h1,jP];refine Prod.ext ?_ ?_
 .cases lo with
  |none=>rfl
  |some v=>exact Jc v n 0
 .cases b with
  |none=>rfl
  |some v=>exact Jc v n n
def GQ(i j:Nat):cf (i:Int) (j:Int) 1=j-i:=by
 unfold cf;have h1:(1:Int)>0:=by lia
 simp only[h1,kG,Int.ediv_one];split<;>lia
def zQ{v:iK}{o:Option Int}{Q:Option Int->Shared->Prop}(p:eA v o)(h:Q o s):ag (ah a w) A (wP v) Q E s:=by
 cases p with
 |none=>exact I8 h
 |int i t=>exact slicePart_int h
def qp{g:iu}{e f:iK}{lo b:Option Int}{n:Nat}{Q:Int×Int×Nat->Shared->Prop}(i:s.heap.IsSliceOf g e f .none)(j:eA e lo)(k:eA f b)
  (h:Q (((sIx n 0 lo:Nat):Int),1,sIx n n b-sIx n 0 lo) s):ag (ah a w) A (e8 (.ref g)<|pure (n:Int)) Q E s:=by
 obtain⟨os,c,l,d⟩:=id i;unfold e8 wS;refine iz<|iz<|oK c d (x:=e) H<|iz<|oK c d (x:=f) H<|iz<|oK c d (x:= .none) H<|iM ?_;refine iz<|I8 ?_;show ag _ _ (if((1:Int)==0)=J then _ else _) _ _ s;rw[jc<|by decide];refine iz<|zQ j<|iz<|zQ k<|iz<|iM ?_;show ag _ _ (match du lo b 1 (n:Int) with|(lo,b)=>pure (lo,(1:Int),cf lo b 1)) _ _ s;rw[HC lo b n];show ag _ _ (pure (((sIx n 0 lo:Nat):Int),(1:Int),cf ((sIx n 0 lo:Nat):Int) ((sIx n n b:Nat):Int) 1)) _ _ s;rw[GQ];exact iM h
def M6(b:mU)(i k:Nat):((aw k).filterMap λ(m:Nat)=>b[((i:Int)+(m:Int)*1).toNat]?).toArray=((b.toList.drop i).take k).toArray:=by
 have e:(λ(m:Nat)=>b[((i:Int)+(m:Int)*1).toNat]?)=λm=>b[i+m]?:=by
  funext m;have:((i:Int)+(m:Int)*1).toNat=i+m:=by lia
  rw[this]
 rw[e];have:=pick_run b i k;rw[k8] at this;have c:((λx=>b[x]?)∘λx=>i+x)=λm=>b[i+m]?:=rfl;rw[c] at this;rw[this]
def Hc{t f:iu}{b:mU}{i j:iK}{lo c:Option Int}{Q:jn}(d:ro s.heap t b)(g:s.heap.IsSliceOf f i j .none)(u:eA i lo)(v:eA j c)
  (r: ¬(sIx b.size 0 lo=0/\sIx b.size b.size c=b.size))
  (h:Q (.ref s.heap.objs.size) {s with heap:=s.heap.push {cls:= .type "tuple",data:= .seq ((b.toList.drop<|sIx b.size 0 lo).take<|sIx b.size b.size c-sIx b.size 0 lo).toArray}})
  (p:b.size<=sizeLine):ag (ah a w) A (fu (.ref t)<|.ref f) Q E s:=by
 have e:sizeOk (.seq ((b.toList.drop<|sIx b.size 0 lo).take<|sIx b.size b.size c-sIx b.size 0 lo).toArray):=by show((b.toList.drop<|sIx b.size 0 lo).take<|sIx b.size b.size c-sIx b.size 0 lo).toArray.size<=sizeLine;rw[kj,rE,d7,kz];omega
 have y:sIx b.size b.size c<=b.size:=Tv _ _ (jQ _) c;obtain⟨os,n,l,x⟩:=id g;have o:s.TypeIs (.ref f) "slice":=⟨os,n,l⟩
 unfold fu
 try with_reducible refine lM ?_
 first|refine iz (iM ?_)|skip
 refine iz<|u5 d.typeIs (by decide) ?_
 refine iz (uF (name:=bi "__getitem__") d.typeIs AV
  (nO AV d.typeIs Lp ?_<|t9 _ _))
 show ag _ _ (c9 (.ref t)>>=_) _ _ s;refine iz<|P1 d ?_;refine iz<|sh o ?_;rw[iP<|by decide];refine iz<|qp g u v ?_
 have k: ¬((((sIx b.size 0 lo:Nat):Int)==0&&(1:Int)==1&&(sIx b.size b.size c-sIx b.size 0 lo)==b.size)=J):=by intro q;rw[lC,lC] at q;have z:((sIx b.size 0 lo:Nat):Int)=0:=uE q.1.1;have B:sIx b.size b.size c-sIx b.size 0 lo=b.size:=uE q.2;exact r ⟨by omega,by omega⟩
 show ag _ _ (if(((sIx b.size 0 lo:Nat):Int)==0&&(1:Int)==1&&(sIx b.size b.size c-sIx b.size 0 lo)==b.size)=J then _ else _) _ _ s;rw[jc k,M6]
 first
  |exact iz (m:=bn _)<|nh (iM ⟨_,rfl,iM h⟩) e
  |exact iz (m:=bn _)<|nh (iz<|iM<|iM ⟨_,rfl,iM h⟩) e
  |exact iz<|iz (m:=bn _)<|nh (iM<|iM ⟨_,rfl,iM h⟩) e
  |exact iz<|iz (m:=bn _)<|nh (iM ⟨_,rfl,iM h⟩) e
end
end HT
namespace L2
abbrev TO:=St->Hp->(Option Int->Hp->Prop)->Prop
def PO(X:Cx)(e:Option Expr)(t:TO):Prop:=
 ∀(a:jq) (s:iC) (b:St) (U:Hp) (Q:Option Int->Hp->Prop),Inv X a b U s->t b U Q->
  ag (ah X.prog X.w) X.A (evalPart e X.env) (λu c=> ∃o H',Inv X a b H' c/\eA u o/\Q o H') X.xe s
noncomputable def PC:TO:=λ_ U Q=>Q I U
def VZ(t:TE):TO:=λb U Q=>t b U λx a=> ∃i,x= .int i/\Q (Y i) a
section
variable {X:Cx}{e:iI}{d:TE}{lo c:Option Expr}{f g:TO}{k j:bI}
def Qw:PO X I PC:=by intro a s b T Q U h;rw[Ms];exact iM ⟨I,T,U,.none,h⟩
def Qv(h:PE X e d):PO X (Y e) (VZ d):=by intro a s p T Q U m;rw[evalPart_some];refine thn (h a s p T _ U m) λu s1 O=>?_;obtain⟨x,b,l,o,n⟩:=O;obtain⟨i,rfl,q⟩:=n;obtain⟨t,rfl⟩:=o;exact⟨Y i,b,l,.int i t,q⟩
def SlR(X:Cx)(r:V->Option Int->Option Int->Hp->VK->Prop):Prop:=
 ∀(a:jq) (s:iC) (l:St) (U:Hp) (x:V) (v h i:iK) (lo c:Option Int) (b:iu) (Q:VK),Inv X a l U s->RelV x v->s.heap.IsSliceOf b h i .none->eA h lo->eA i c->r x lo c U Q->
  ∃T id,tl (.type T) "__getitem__"=pure (Y<|.builtin id)/\s.TypeIs v T/\ag (ah X.prog X.w) X.A (fu v<|.ref b) (EP X a l Q) X.xe s
def tSl(r:V->Option Int->Option Int->Hp->VK->Prop)(d:TE)(f g:TO):TE:=λa U Q=>d a U λx b=>f a b λl h=>g a h λu i=>r x l u i Q
def Nf{r:V->Option Int->Option Int->Hp->VK->Prop}(M:SlR X r)(O:PE X e d)(J:PO X lo f)(U:PO X c g):PE X (.Subscript e (.Slice lo c Zw j) k) (tSl r d f g):=by intro a s m H Q I h;refine Subscript_<|thn (O a s m H _ I h) λv s1 a'=>?_;obtain⟨x,t,z,r1,q1⟩:=a';refine wpAny_Slice<|thn (J a s1 m t _ z q1) λn s2 ⟨l,y,B,Y',q2⟩=>thn (U a s2 m y _ B q2) λo i a'=>?_;obtain⟨u,p,C',pu,q3⟩:=a';rw[Ms];refine iM ?_;have E:Inv X a m p {i with heap:=i.heap.push {cls:= .type "slice",data:= .fields #[n,o,.none]}}:=C'.kept (t':=i.toks) λb D q=>jM _ q;obtain⟨T,id,L,N,G⟩:=M a {i with heap:=i.heap.push {cls:= .type "slice",data:= .fields #[n,o,.none]}} m p x v n o l u i.heap.objs.size Q E r1 (Heap.IsSliceOf.new ..) Y' pu q3;show ag (ah X.prog X.w) X.A (R1 e (.Slice lo c Zw j) v<|.ref i.heap.objs.size) (EP X a m Q) X.xe {i with heap:=i.heap.push {cls:= .type "slice",data:= .fields #[n,o,.none]}};exact tail_any (ops:=[.ref i.heap.objs.size,v]) N L G (by with_unfolding_all rfl)
noncomputable def Fe(a:List V)(lo c:Option Int):List V:=(a.drop<|HT.sIx (ZB a) 0 lo).take<|HT.sIx (ZB a) (ZB a) c-HT.sIx (ZB a) 0 lo
def yB(a:List V)(lo c:Option Int):(Fe a lo c).length<=(ZB a):=by
 unfold Fe;rw[rE,d7]
 lia
def Yy(K:iW):V->Option Int->Option Int->Hp->VK->Prop:=λx lo c U Q=> ∃a b,x= .ref a/\SqT K U a b/\
 ¬(HT.sIx (ZB b) 0 lo=0/\HT.sIx (ZB b) (ZB b) c=ZB b)/\ ∀p,U p=I->Q (.ref p) (upd U p<|.tup<|Fe b lo c)
def Tq:SlR X (Yy X.K):=by
 intro t s T N x v L O lo c E Q U B u z A h;obtain⟨a,l,rfl,y,w,q⟩:=h;cases B;obtain⟨m,r,n,p⟩:=U.tuple y;have i:m.toArray.size=(ZB l):=by rw[kj];exact r.length.symm
 refine⟨"tuple",_,AV.lookup,n.typeIs,?_⟩;refine HT.Hc n u z A (by rw[i];exact w) ?_ (by rw[i];exact p);rw[i];refine⟨.ref s.heap.objs.size,_,U.laid (t':=s.toks) (o:= .tup (Fe l lo c)) (λb M q=>jM _ q) (jQ _) ?_,rfl,q _ (U.hok.fresh<|jQ _)⟩;exact⟨ma (yB l lo c) p,_,(r.drop<|HT.sIx (ZB l) 0 lo).take<|HT.sIx (ZB l) (ZB l) c-HT.sIx (ZB l) 0 lo,CM _ _⟩
def Wn(K:iW):R2:=λx y U Q=> ∃a b i h,x= .ref a/\y= .ref b/\SqT K U a i/\SqT K U b h/\i≠[]/\(ZB i)+ZB h<=sizeLine/\
 (h=[]->Q (.ref a) U)/\(h≠[]-> ∀p,U p=I->Q (.ref p) (upd U p<|.tup<|i++h))
def Vals.nil_iff{b:List V}{a:jy}(r:Vals b a):a=[]↔b=[]:=by
 cases r with
 |nil=>simp
 |cons _ _=>simp
def QZ:OpR X (bH .Add) (Wn X.K):=by intro n s N H x y v u Q U L O h;obtain⟨a,b,T,G,rfl,rfl,p,r,t,m,C,E⟩:=h;cases L;cases O;obtain⟨A,l,B,_⟩:=U.tuple p;obtain⟨J,i,j,_⟩:=U.tuple r;refine HT.Xe B j (λz=>t<|l.nil_iff.mp z) (λz=>⟨.ref a,H,U,rfl,C<|i.nil_iff.mp z⟩) (λz=>?_) (by rw[<-l.length,<-i.length];exact m);refine⟨.ref s.heap.objs.size,_,U.laid (t':=s.toks) (o:= .tup (T++G)) (λb M q=>jM _ q) (jQ _) ?_,rfl,E (λw=>z<|i.nil_iff.mpr w) _ (U.hok.fresh<|jQ _)⟩;exact⟨by rw[mF];exact m,_,l.append i,CM _ _⟩
end
noncomputable def ixN(n:Nat)(i:Int):Option Nat:=if 0<=i then(if i<n then Y i.toNat else I) else if -(n:Int)<=i then Y (i+n).toNat else I
noncomputable def atI{b:Type}(a:List b)(i:Int):Option b:=(ixN (ZB a) i).bind λj=>a[j]?
def Dx{n:Nat}{i:Int}{j:Nat}(h:ixN n i=Y j):wl i n=Y j/\j<n/\ -(n:Int)<=i/\i<n:=by
 unfold ixN at h;by_cases a:0<=i
 .rw[iP a] at h;by_cases h1:i<n
  .rw[iP h1] at h;have e:i.toNat=j:=kE h;exact⟨by rw[Gi a h1,e],by lia,by lia,h1⟩
  .rw[jc h1] at h;cases h
 .rw[jc a] at h;by_cases h1: -(n:Int)<=i
  .rw[iP h1] at h;have e:(i+n).toNat=j:=kE h;exact⟨by rw[Gh (by lia) h1,e],by lia,h1,by lia⟩
  .rw[jc h1] at h;cases h
def Ji{b:Type}{a:List b}{i:Int}{v:b}(h:atI a i=Y v): ∃j,wl i (ZB a)=Y j/\a[j]?=Y v/\j<ZB a/\ -((ZB a):Int)<=i/\i<(ZB a):=by
 unfold atI at h
 cases e:ixN (ZB a) i with
 |none=>rw[e] at h;cases h
 |some j=>rw[e] at h;obtain⟨h1,c,d,f⟩:=Dx e;exact⟨j,h1,h,c,d,f⟩
def D2(b:iI):Prop:= ∀o i,X0 b C o i=operate [o,i] (fu o i)
def IxR(X:Cx)(r:R2):Prop:=
 ∀(b slice:iI) (a:jq) (s:iC) (c:St) (U:Hp) (x y:V) (v u:iK) (Q:VK),Inv X a c U s->RelV x v->RelV y u->r x y U Q->
  X0 slice C v u=operate [v,u] (fu v u)->ag (ah X.prog X.w) X.A (R1 b slice v u) (EP X a c Q) X.xe s
def MtR(X:Cx)(id:String)(r:V->List V->Hp->VK->Prop):Prop:=
 ∀(a:jq) (s:iC) (d:St) (U:Hp) (x:V) (c:List V) (v:iK) (b:jy) (Q:VK),Inv X a d U s->RelV x v->Vals c b->r x c U Q->
  ag (ah X.prog X.w) X.A (call (.builtin id) (v::b)) (EP X a d Q) X.xe s
section
variable {X:Cx}{a b:iI}{O L:TE}{E:bI}
def Wu{r:R2}(i:IxR X r)(f:PE X a O)(g:PE X b L)(j:D2 b):PE X (.Subscript a b E) (tOp r O L):=by intro c s n T Q U h;exact Subscript_<|Vx f g U h λv u m x y d e k l q=>i a b c m n d x y v u Q e k l q<|j _ _
def YD(K:iW):R2:=λx y U Q=> ∃p c i v,x= .ref p/\y= .int i/\SqL K U p c/\atI c i=Y v/\Q v U
def YC(K:iW):R2:=λx y U Q=> ∃p c i v,x= .ref p/\y= .int i/\SqT K U p c/\atI c i=Y v/\Q v U
def Rr:IxR X (YD X.K):=by
 intro g slice c s n H x y v u Q I M N h m;obtain⟨p,P,i,z,rfl,rfl,J,T,q⟩:=h;cases M;obtain⟨t,rfl⟩:=N;obtain⟨e,r,f,F⟩:=I.list J;obtain⟨j,h1,A,Y,B,C⟩:=Ji T;obtain⟨w,k,o⟩:=r.get A;have G:=r.length;have D:=Al;have fin:EP X c n Q w s:=⟨z,H,I,o,q⟩
 by_cases l:0<=i
 .have d:i.toNat=j:=by rw[Gi l C] at h1;exact kE h1
  exact item_listR f.isList l (by lia) (by rw[d];simpa using k) fin m
 .have d:(i+(e.toArray.size:Int)).toNat=j:=by rw[Gh (by lia) B] at h1;rw[kj,<-G];exact kE h1
  exact Ln (x:=w) f.isList.typeIs u7.lookup
   (wpAny_getItem_list_neg (Q:=λr U=>r=w/\EP X c n Q r U) f.isList (by lia) (by rw[kj]<;>lia) (by lia) (by rw[d];simpa using k) ⟨rfl,fin⟩) m
def U0:IxR X (YC X.K):=by
 intro d slice c s f H x y v u Q I C T h A;obtain⟨p,D,i,z,rfl,rfl,o,m,q⟩:=h;cases C;obtain⟨t,rfl⟩:=T;obtain⟨B,r,e,Y⟩:=I.tuple o;obtain⟨j,h1,l,J,M,N⟩:=Ji m;obtain⟨w,k,g⟩:=r.get l;have n:=r.length;have U:=Al;have fin:EP X c f Q w s:=⟨z,H,I,g,q⟩
 exact Ln (x:=w) e.typeIs AV.lookup
  (getItem_tuple (j:=j) (Q:=λr G=>r=w/\EP X c f Q r G) e (by lia) (by lia) (by rw[kj,<-n];exact h1) (by simpa using k) ⟨rfl,fin⟩) A
def G5(c:jy)(n j:Nat)(u:iK):aG (·.setIfInBounds j u) {cls:= .type "list",data:= .seq c.toArray n}={cls:= .type "list",data:= .seq (c.set j u).toArray n}:=by simp[aG]
def Inv.lst{d:jq}{f:St}{T:Hp}{s:iC}{p:iu}{xs:List V}(U:Inv X d f T s)(h:T p=Y (.lst xs)):
  ∃(c:jy) (n:Nat),Vals xs c/\s.heap.get? p=Y {cls:= .type "list",data:= .seq c.toArray n}/\(ZB xs)<=sizeLine:=by
 obtain⟨z,c,n,r,e⟩:=U.hok p _ h;exact⟨c,n,r,e,z⟩
def Inv.lstUpd{d:jq}{l:St}{T:Hp}{s:iC}{p:iu}{w j:List V}{g c:jy}{n i:Nat}{f:e6->e6}(U:Inv X d l T s)(h:T p=Y (.lst w))
  (o:s.heap.get? p=Y {cls:= .type "list",data:= .seq g.toArray n})(k:f {cls:= .type "list",data:= .seq g.toArray n}={cls:= .type "list",data:= .seq c.toArray i})(r:Vals j c)(v:(ZB j)<=sizeLine)(t:Nat):
  Inv X d l (upd T p<|.lst j) {s with heap:=s.heap.update p f,toks:=t}:=by
 have e:(s.heap.update p f).get? p=Y {cls:= .type "list",data:= .seq c.toArray i}:=by rw[uD f o<|by rw[k]<;>rfl,k]
 refine U.write (x:=p) (e:=p) (by rw[h];trivial) (.inl H) (λb u m q=>(xD _ _ (ni m)).trans q) ⟨_,e⟩ ?_;exact⟨v,c,i,r,e⟩
def Wk:V->V->V->Hp->(Hp->Prop)->Prop:=λo i v U Q=> ∃p c k j,o= .ref p/\i= .int k/\U p=Y (.lst c)/\ixN (ZB c) k=Y j/\Q (upd U p<|.lst<|c.set j v)
def Mm:VB X Wk:=by
 intro d s G H o i v U N u Q I B A C h;obtain⟨p,T,k,j,rfl,rfl,x,y,q⟩:=h;cases B;obtain⟨t,rfl⟩:=A;obtain⟨c,n,r,f,z⟩:=I.lst x;obtain⟨h1,J,m,w⟩:=Dx y;have e:=r.length;have M:=Al
 have g:Inv X d G (upd H p<|.lst<|T.set j v) {s with heap:=s.heap.update p (aG (·.setIfInBounds j u))}:=
  I.lstUpd x f (G5 c n j u) (r.set C j) (by rw[qK];exact z) s.toks
 by_cases l:0<=k
 .have hk:k.toNat=j:=by rw[Gi l w] at h1;exact kE h1
  exact PySem.W.ki_setAt f l (by lia) (by rw[kj,<-e];exact w) (by rw[hk];exact⟨_,g,q⟩)
 .have hk:(k+(c.toArray.size:Int)).toNat=j:=by rw[Gh (by lia) m] at h1;rw[kj,<-e];exact kE h1
  exact PySem.W.ki_setBack f (by lia) (by rw[kj,<-e];exact m) (by lia) (by rw[hk];exact⟨_,g,q⟩)
def C5(lo c:Option Int)(n:Nat):(dL lo c I n).1=((HT.sIx n 0 lo:Nat):Int)/\(dL lo c I n).2.1=((HT.sIx n n c:Nat):Int)/\(dL lo c I n).2.2=1:=by
 refine⟨?_,?_,rfl⟩
 .cases lo with
  |none=>simp[dL,HT.sIx]
  |some i=>
   simp only[dL,HT.sIx,kw,show(1:Int)>0 by decide,kG];by_cases h:i<0
   .simp only[h,kG]<;>lia
   .simp only[h,jP]<;>lia
 .cases c with
  |none=>simp[dL,HT.sIx]
  |some i=>
   simp only[dL,HT.sIx,kw,show(1:Int)>0 by decide,kG];by_cases h:i<0
   .simp only[h,kG]<;>lia
   .simp only[h,jP]<;>lia
def AX(c:jy)(lo d:Option Int):slicePick c.toArray lo d I=((c.drop<|HT.sIx (ZB c) 0 lo).take<|HT.sIx (ZB c) (ZB c) d-HT.sIx (ZB c) 0 lo).toArray:=by obtain⟨h1,e,f⟩:=C5 lo d c.toArray.size;unfold slicePick;rw[h1,e,f];simp only[sliceRange_one,pick_run,kj]<;>rfl
def Yz(K:iW):V->Option Int->Option Int->Hp->VK->Prop:=λx lo d U Q=> ∃a c,x= .ref a/\SqL K U a c/\ ∀p,U p=I->Q (.ref p) (upd U p<|.lst<|Fe c lo d)
def PF:SlR X (Yz X.K):=by intro g s z T x v w y lo e u Q U p i m n h;obtain⟨a,c,rfl,j,q⟩:=h;cases p;obtain⟨l,r,f,k⟩:=U.list j;have d:=r.length;refine⟨"list",_,u7.lookup,f.isList.typeIs,?_⟩;refine wpAny_getItem_list_slice f.isList i m n .none (by simp) ?_ (by rw[kj]<;>lia);rw[AX,<-d];refine⟨.ref s.heap.objs.size,_,U.laid (t':=s.toks) (o:= .lst (Fe c lo e)) (λb t q=>jM _ q) (jQ _) ?_,rfl,q _ (U.hok.fresh<|jQ _)⟩;exact⟨ma (yB c lo e) k,_,0,(r.drop<|HT.sIx c.length 0 lo).take<|HT.sIx c.length c.length e-HT.sIx c.length 0 lo,kc _ rfl⟩
noncomputable def SD:V->Bool
 | .non=>J
 | .bl _=>J
 | .int _=>J
 | .str _=>J
 |_=>C
noncomputable def eqV:V->V->Bool
 | .non,.non=>J
 | .bl a,.bl b=>a==b
 | .bl a,.int b=>(if a then 1 else 0)==b
 | .int a,.bl b=>a==(if b then 1 else 0)
 | .int a,.int b=>a==b
 | .str a,.str b=>a==b
 |_,_=>C
def mC{A:iU}{s:iC}{y x:V}{u v:iK}(f:RelV y u)(c:RelV x v)(g:SD y=J)(e:SD x=J):SeqAt.EqAt A s u v (eqV y x):=by
 cases y with
 |non=>
  cases f
  cases x with
  |non=>cases c;exact gK _
  |bl b=>cases c;exact O0 b
  |int b=>obtain⟨t,rfl⟩:=c;exact OO b t
  |str b=>obtain⟨t,rfl⟩:=c;exact Op b t
  |_=>exact absurd (show C=J from e) ku
 |bl a=>
  cases f
  cases x with
  |non=>cases c;exact Ps a
  |bl b=>cases c;exact hW a b
  |int b=>obtain⟨t,rfl⟩:=c;exact PP a b t
  |str b=>obtain⟨t,rfl⟩:=c;exact O9 a b t
  |_=>exact absurd (show C=J from e) ku
 |int a=>
  obtain⟨d,rfl⟩:=f
  cases x with
  |non=>cases c;exact O1 a d
  |bl b=>cases c;exact O3 a d b
  |int b=>obtain⟨t,rfl⟩:=c;exact O2 a d b t
  |str b=>obtain⟨t,rfl⟩:=c;exact gu a d b t
  |_=>exact absurd (show C=J from e) ku
 |str a=>
  obtain⟨d,rfl⟩:=f
  cases x with
  |non=>cases c;exact No a d
  |bl b=>cases c;exact NE a d b
  |int b=>obtain⟨t,rfl⟩:=c;exact gr a d b t
  |str b=>obtain⟨t,rfl⟩:=c;exact M2 a d b t
  |_=>exact absurd (show C=J from e) ku
 |_=>exact absurd (show C=J from g) ku
def wO:kF X (.builtin "len") (λk T Q=> ∃p d,k=[.ref p]/\(SqL X.K T p d\/SqT X.K T p d)/\Q (.int d.length) T):=by
 intro j s t T k o Q U r h;obtain⟨p,d,rfl,e,q⟩:=h;obtain⟨u,rfl,m⟩:=rF r;cases m;have n:=Al;rcases e with e|e
 .obtain⟨f,i,g,l⟩:=U.list e;have c:=i.length;exact Calls.call_len_list g.isList (by simp only[kj]<;>lia) ⟨.int d.length,T,U.tok _,⟨s.toks+1,by rw[kj,c]⟩,q⟩
 .obtain⟨f,i,g,l⟩:=U.tuple e;have c:=i.length;exact len_tuple g (by simp only[kj]<;>lia) ⟨.int d.length,T,U.tok _,⟨s.toks+1,by rw[kj,c]⟩,q⟩
def wN:kF X (.type "list") (λB N Q=> ∃p i,B=[.ref p]/\(SqL X.K N p i\/SqT X.K N p i)/\ ∀l,N l=I->Q (.ref l) (upd N l<|.lst i)):=by
 intro v s T N B G Q U r h;obtain⟨p,i,rfl,k,q⟩:=h;obtain⟨u,rfl,M⟩:=rF r;cases M
 have fin: ∀(c:jy),Vals i c->i.length<=sizeLine-> ∀(d:iT) (f:Nat),(∀b A,s.heap.get? b=Y A->d.get? b=Y A)->
   d.get? s.heap.objs.size=Y {cls:= .type "list",dict:=I,data:= .seq c.toArray f,slots:= #[]}->EP X v T Q (.ref s.heap.objs.size) {s with heap:=d}:=λc g m d f t e=>
  ⟨.ref s.heap.objs.size,_,U.laid (t':=s.toks) t (jQ _) (show ObjOk X.prog X.w _ d _ (.lst i) from⟨m,c,f,g,e⟩),rfl,q _ (U.hok.fresh<|jQ _)⟩
 rcases k with k|k
 .obtain⟨c,g,z,m⟩:=U.list k;have j:=g.length;obtain⟨o,y,x,n,hd⟩:=z.isList;exact M0 p (.inl H) y x hd (λd f t e=>fin c g m d f t e) (by simp only[kj]<;>omega)
 .obtain⟨c,g,z,m⟩:=U.tuple k;have j:=g.length;obtain⟨o,y,x,n,hd⟩:=z;exact M0 p (.inr H) y x hd (λd f t e=>fin c g m d f t e) (by simp only[kj]<;>omega)
def uR:kF X (.type "tuple") (λv T Q=> ∃p f,v=[.ref p]/\((SqL X.K T p f/\ ∀l,T l=I->Q (.ref l) (upd T l<|.tup f))\/(SqT X.K T p f/\Q (.ref p) T))):=by
 intro c s x T v B Q U r h;obtain⟨p,f,rfl,h⟩:=h;obtain⟨u,rfl,A⟩:=rF r;cases A;rcases h with⟨i,q⟩|⟨i,q⟩
 .obtain⟨d,k,j,t⟩:=U.list i;have n:=k.length;refine call_tuple_list j.isList (λg z=>?_) (by simp only[kj]<;>lia);have m:Inv X c x T {s with heap:=g}:=U.kept (t':=s.toks) z
  have y:Inv X c x (upd T g.objs.size<|.tup f) {s with heap:=g.push {cls:= .type "tuple",data:= .seq d.toArray}}:=
   m.laid (t':=s.toks) (λb o e=>jM _ e) (jQ _) (show ObjOk X.prog X.w _ _ _ (.tup f) from⟨t,d,k,CM _ _⟩)
  exact⟨.ref g.objs.size,_,y,rfl,q _ (m.hok.fresh<|jQ _)⟩
 .obtain⟨d,k,j,t⟩:=U.tuple i;exact call_tuple_same j ⟨.ref p,T,U,rfl,q⟩
def tyV(K:iW)(T:String)(x:V)(U:Hp):Prop:=match x with
 | .str _=>T="str"
 | .int _=>T="int"
 | .ref p=>(T="list"/\ ∃d,SqL K U p d)\/(T="tuple"/\ ∃o,K.lookup p=Y o/\o.cls= .type "tuple"/\o.dict=I)\/
   (T="dict"/\((∃c,U p=Y (.dK c))\/ ∃c,U p=Y (.dT c)))\/(T="set"/\ ∃S n,U p=Y (.set S n))
 |_=>False
def LR{d:jq}{q:St}{Q:Hp}{s:iC}{T:String}{x:V}{v:iK}(U:Inv X d q Q s)(r:RelV x v)(ty:tyV X.K T x Q):
  s.TypeIs v T/\ ∀a,v= .ref a-> ∃h,s.heap.get? a=Y h/\h.dict=I:=by
 cases x with
 |str z=>obtain⟨t,rfl⟩:=r;cases(show T="str" from ty);exact⟨typeIs_str s z t,λ_ e=>nomatch e⟩
 |int i=>obtain⟨t,rfl⟩:=r;cases(show T="int" from ty);exact⟨tp s i t,λ_ e=>nomatch e⟩
 |ref p=>
  cases r;rcases ty with⟨rfl,u,l⟩|⟨rfl,o,hk,k,hd⟩|⟨rfl,hk⟩|⟨rfl,S,n,hk⟩
  .obtain⟨m,_,j,_⟩:=U.list l;refine⟨j.isList.typeIs,λa e=>?_⟩;cases e;obtain⟨o,n,e,c,hd,_⟩:=j;exact⟨o,e,hd⟩
  .refine⟨⟨o,U.kIn p o hk,k⟩,λa e=>?_⟩;cases e;exact⟨o,U.kIn _ o hk,hd⟩
  .have z: ∃o,s.heap.get? p=Y o/\o.ExactDict:=by
    rcases hk with⟨g,hk⟩|⟨g,hk⟩
    .obtain⟨_,_,_,_,o,_,_,e,ex,_⟩:=U.hok p _ hk;exact⟨o,e,ex⟩
    .obtain⟨_,_,_,_,o,_,_,e,ex,_⟩:=U.hok p _ hk;exact⟨o,e,ex⟩
   obtain⟨o,e,ex⟩:=z;refine⟨⟨o,e,ex.1⟩,λa f=>?_⟩;cases f;exact⟨o,e,ex.2.1⟩
  .obtain⟨o,_,_,_,e,ex,_⟩:=U.hok p _ hk;refine⟨⟨o,e,ex.1⟩,λa f=>?_⟩;cases f;exact⟨o,e,ex.2.1⟩
 |_=>exact aW ty
def XU(K:iW)(T:String)(r:V->List V->Hp->VK->Prop)(B:TE):TE:=λd U Q=>B d U λx c=>tyV K T x c/\r x [] c Q
def tBM(K:iW)(T:String)(r:V->List V->Hp->VK->Prop)(B:TE)(t:TA):TE:=λd U Q=>B d U λx c=>tyV K T x c/\t d c λf e=>r x f e Q
variable {o e:iI}{C:kr}{B:TE}{t:TA}{d:ax}{g m:bI}{T id:String}{r:V->List V->Hp->VK->Prop}
def UB(y:PlainAttrs T)(slot:Slot T d id)(p:lf (.builtin id)=pure (.type "method_descriptor"))(u:MtR X id r)(w:PE X o B)
  (n:bb o d X.env (aE o X.env)=aE o X.env:=by rfl)(l:(g.endLine==m.line)=J:=by rfl):PE X (.Call (.Attribute o d g) [] [] m) (XU X.K T r B):=by
 intro c s j N Q U h;refine wpAny_Call_method0_late n l<|thn (w c s j N _ U h) λv s1 M=>?_;obtain⟨x,k,f,i,ty,z⟩:=M;obtain⟨h1,q⟩:=LR f i ty;exact⟨T,id,y,slot,p,h1,q,Gg H<|PySem.evalArgs_none<|u c s1 j k x [] v [] Q f i .nil z⟩
def Il(U:PlainAttrs T)(slot:Slot T d id)(y:lf (.builtin id)=pure (.type "method_descriptor"))(G:MtR X id r)(J:PE X o B)(A:PA X (e::C) t)
  (w:bb o d X.env (aE o X.env)=aE o X.env:=by rfl)
  (N:((aP m<|ac (e::C) X.env).all (λx=>!x.1)&&(dn m<|ca [] X.env).all (λx=>x.1.isSome)
   &&decide ((e::C).length+([]:List bG).length+(if([]:List bG).isEmpty then 0 else 1)<30))=Zx:=by rfl)
  (u:(g.endLine==m.line)=Zx:=by rfl)(M:ac (e::C) X.env=(Zy,aE e X.env)::ac C X.env:=by rfl)(q:(aP m<|ac C X.env).any (·.1)=Zy:=by rfl):
  PE X (.Call (.Attribute o d g) (e::C) [] m) (tBM X.K T r B t):=by
 intro c s f H Q I h;refine Lm w N u Zz<|thn (J c s f H _ I h) λv s1 a'=>?_;obtain⟨x,l,i,k,ty,Y'⟩:=a';obtain⟨h1,z⟩:=LR i k ty;refine⟨T,id,U,slot,y,h1,z,?_⟩;have j:=A m c s1 f l _ i Y';rw[M] at j ⊢;refine Gg (by show(Zy||(aP m<|ac C X.env).any (·.1))=Zy;rw[q]<;>rfl)<|Gf ?_;exact thn j λus s2 ⟨vs,n,p,r2,q2⟩=>G c s2 f n x vs v us Q p k r2 q2
end
def MtM(X:Cx)(id:String)(r:V->List V->Hp->VK->Prop):Prop:=
 ∀(a:jq) (s:iC) (d:St) (U:Hp) (x:V) (c:List V) (v:iK) (b:jy) (Q:VK),Inv X a d U s->RelV x v->Vals c b->r x c U Q->
  ag (ah X.prog X.w) X.A (call (.builtin id) (v::b)) (EP X a d Q) X.xe s
def Vals.one{x:V}{a:jy}:Vals [x] a-> ∃u,a=[u]/\RelV x u:=rF
def Vals.zero: ∀{a:jy},Vals [] a->a=[]
 |_,.nil=>rfl
def Vals.dropLast{b:List V}{a:jy}(h:Vals b a):Vals b.dropLast a.dropLast:=by
 induction h with
 |nil=>exact .nil
 |cons r t c=>
  cases t with
  |nil=>exact .nil
  |cons q d=>exact .cons r c
theorem Vals.eraseIdx: ∀{b:List V} {a:jy} (i:Nat),Vals b a->Vals (b.eraseIdx i) (a.eraseIdx i)
 |_,_,_,.nil=> .nil
 |_,_,0,.cons _ t=>t
 |_,_,i+1,.cons r t=> .cons r (Vals.eraseIdx i t)
theorem Vals.rep{b:List V}{a:jy}(h:Vals b a): ∀k:Nat,Vals (ae k b).flatten (ae k a).flatten
 |0=> .nil
 |k+1=>by rw[sy,sy,xy,xy];exact Vals.append h<|Vals.rep h k
def Hl{d:Type}(l:List d):l.eraseIdx (ZB l-1)=l.dropLast:=by
 induction l with
 |nil=>rfl
 |cons a r c=>
  cases r with
  |nil=>rfl
  |cons b r=>
   have e:(a::b::r).length-1=((b::r).length-1)+1:=by
    have h1:(a::b::r).length=ZB r+2:=rfl;have f:(b::r).length=ZB r+1:=rfl
    lia
   rw[e,gH,c]
   all_goals rfl
theorem BD{a:Type}: ∀(l:List a) (i:Nat),(l.eraseIdx i).length<=ZB l
 |[],_=>jQ _
 |_::_,0=>xw _
 |_::r,i+1=>Nat.succ_le_succ<|BD r i
theorem BJ(b:jy): ∀(k:Nat) (a:jy),
  fh (λx1 x2=>x1++x2) a.toArray (ae k b.toArray)=(a++(ae k b).flatten).toArray
 |0,a=>by simp
 |k+1,a=>by
  have e:a.toArray++b.toArray=(a++b).toArray:=by simp
  have c:(a++b)++(ae k b).flatten=a++(ae (k+1) b).flatten:=by rw[sy,xy,oq]
  rw[<-c,<-BJ b k (a++b),<-e,sy,Ge]
section
variable {X:Cx}{a:jq}{c:St}{H:Hp}{s:iC}{l b:iu}{xs d g:List V}
def Inv.lset{h its':jy}{n:Nat}{f:Array iK->Array iK}{p:Nat}(U:Inv X a c H s)(i:H l=Y (.lst xs))
  (e:s.heap.get? l=Y {cls:= .type "list",data:= .seq h.toArray n})(k:f h.toArray=its'.toArray)(hv:Vals d its')(o:(ZB d)<=sizeLine):
  Inv X a c (upd H l<|.lst d) {s with heap:=s.heap.update l<|aG f,toks:=p}:=by
 have q:=PySem.IsL.update e f;rw[k] at q;refine U.write (x:=l) (e:=l) (by rw[i];exact trivial) (.inl Zz) (λr u j m=>(xD s.heap (aG f)<|ni j).trans m) ⟨_,q⟩ ?_;exact⟨o,its',_,hv,q⟩
def Inv.lnew{e:jy}{t':Nat}(U:Inv X a c H s)(hv:Vals d e)(f:(ZB d)<=sizeLine):
  Inv X a c (upd H s.heap.objs.size<|.lst d) {s with heap:=s.heap.push {cls:= .type "list",data:= .seq e.toArray},toks:=t'}:=
 U.laid (λ_ _ q=>jM _ q) (jQ _) ⟨f,e,0,hv,kc _ rfl⟩
def Inv.fresh(U:Inv X a c H s):H s.heap.objs.size=I:=U.hok.fresh<|jQ _
def Inv.lstM(U:Inv X a c H s)(h:H l=Y (.lst xs)):xs.length<=sizeLine/\ ∃(f:jy) (n:Nat),Vals xs f/\xs.length=f.length/\s.heap.get? l=Y {cls:= .type "list",data:= .seq f.toArray n}:=by obtain⟨z,f,n,r,e⟩:=U.hok l _ h;exact⟨z,f,n,r,r.length,e⟩
def EE{n:Nat}(h:n<=sizeLine):cx n=C:=by unfold cx;exact lS (by lia)
end
section
variable {X:Cx}
def PR:V->List V->Hp->VK->Prop:=λx b U Q=> ∃l a y,x= .ref l/\b=[y]/\U l=Y (.lst a)/\(ZB a)<sizeLine/\Q .non (upd U l<|.lst<|a++[y])
def JW:MtM X "list.append" PR:=by
 intro c s p T x m v k Q U g f h;obtain⟨l,o,y,rfl,rfl,b,j,q⟩:=h;cases g;obtain⟨u,rfl,d⟩:=f.one;obtain⟨z,a,n,r,i,e⟩:=U.lstM b;refine qJ F.slot_list_append ⟨_,e,rfl⟩ Ll (Lk _ _) (jp l a.toArray n u<|by rw[kj];lia) ⟨e,?_⟩;refine⟨.non,_,U.lset (its':=a++[u]) b e (by simp) (r.append<|.cons d .nil) ?_,rfl,q⟩;rw[mF,xv]
 lia
def PQ:V->List V->Hp->VK->Prop:=λx d U Q=> ∃l b a c,x= .ref l/\d=[.ref b]/\U l=Y (.lst a)/\U b=Y (.lst c)/\(ZB a)+ZB c<=sizeLine/\Q .non (upd U l<|.lst<|a++c)
def JV:MtM X "list.extend" PQ:=by
 intro g s G N x E v B Q U w t h;obtain⟨l,b,L,T,rfl,rfl,f,k,A,q⟩:=h;cases w;obtain⟨u,rfl,p⟩:=t.one;cases p;obtain⟨z,a,n,r,y,e⟩:=U.lstM f;obtain⟨O,c,m,o,M,j⟩:=U.lstM k;have d:a.toArray.size+c.toArray.size<=sizeLine:=by rw[kj,kj];lia
 have i: ¬(!a.toArray.isEmpty&&cx (a.toArray.size+c.toArray.size))=J:=by rw[EE d,eM];exact ku
 refine qJ F.slot_list_extend ⟨_,e,rfl⟩ F.entry_list_extend (F.args_list_extend_2 _ _)
  (Zt l a.toArray n b c.toArray m i (by rw[kj];lia)<|by lia) ⟨e,j,?_⟩
 refine⟨.non,_,U.lset (its':=a++c) f e (by simp) (r.append o) ?_,rfl,q⟩;rw[mF]
 lia
def YB:V->List V->Hp->VK->Prop:=λx b U Q=> ∃l a y,x= .ref l/\b=[]/\U l=Y (.lst a)/\a[ZB a-1]?=Y y/\Q y (upd U l<|.lst a.dropLast)
def UQ:MtM X "list.pop" YB:=by
 intro d s A T x t v p Q U o m h;obtain⟨l,w,y,rfl,rfl,c,j,q⟩:=h;cases o;have b:=m.zero;subst b;obtain⟨z,a,n,r,g,e⟩:=U.lstM c;obtain⟨u,i,k⟩:=r.get j
 have f:a.toArray[a.toArray.size-1]?=Y u:=by show a.toArray[ZB a-1]?=Y u;rw[<-lR,<-g];exact i
 refine qJ F.slot_list_pop ⟨_,e,rfl⟩ F.entry_list_pop (F.args_list_pop_1 _) (MeetsSeq.list_pop_last l a.toArray n u f<|by rw[kj];lia) ⟨e,?_⟩;refine⟨y,_,U.lset (its':=a.dropLast) c e ?_ r.dropLast ?_,k,q⟩
 .show a.toArray.eraseIdxIfInBounds (a.toArray.size-1)=a.dropLast.toArray;rw[kj,Lj,Hl]
 .rw[Gd]
  lia
def TR:V->List V->Hp->VK->Prop:=λx b U Q=> ∃l a i k y,x= .ref l/\b=[.int i]/\U l=Y (.lst a)/\ -(2^63)<=i/\i<2^63/\wl i (ZB a)=Y k/\a[k]?=Y y/\Q y (upd U l<|.lst<|a.eraseIdx k)
def NA:MtM X "list.pop" TR:=by
 intro c s L T x E v O Q U A p h;obtain⟨l,B,i,k,y,rfl,rfl,b,h1,f,hk,m,q⟩:=h;cases A;obtain⟨u,rfl,o⟩:=p.one;obtain⟨t,rfl⟩:=o;obtain⟨z,a,n,r,g,e⟩:=U.lstM b;obtain⟨w,j,d⟩:=r.get m
 refine qJ F.slot_list_pop ⟨_,e,rfl⟩ F.entry_list_pop (F.args_list_pop_2 _ _)
  (MeetsSeq.list_pop_at l a.toArray n i t k w (Go h1 f) (by rw[kj,<-g];exact hk) (by rw[<-lR];exact j)<|by rw[kj];lia) ⟨e,?_⟩
 refine⟨y,_,U.lset (its':=a.eraseIdx k) b e ?_ (r.eraseIdx k) ?_,d,q⟩
 .show a.toArray.eraseIdxIfInBounds k=(a.eraseIdx k).toArray;rw[Lj]
 .have:=BD B k
  lia
def Ra{c:Type}(a:List c)(k:Nat):(ae k a).flatten.length=k*(ZB a):=by
 induction k with
 |zero=>simp
 |succ k b=>rw[sy,xy,mF,b,Nat.succ_mul,xz]
end
section
variable {a:iX}{w:iR}{A:iU}{E:jn}{s:iC}
end
section
variable {X:Cx}
end
end L2
namespace Att
open PySem.W PySem.Calls
def yL{P:Params}{h:iT}: ∀(c:iO) (d:jy),WellAll P h d (c.map WData.int)->ei d c:=by
 intro c
 induction c with
 |nil=>intro d w;rw[vp] at w;cases w;exact .nil
 |cons n c e=>
  intro d w;rw[jY] at w
  cases w with
  |cons a b=>
   cases a;exact .cons _ _ (e _ b)
def JA{l:OpenLaw}{n:Nat}(v:l.most=Y n){P:Params}{h:iT}{b:List WData}{e:jy}
  (k:l.row.toRowW.claim.pre b=J)(s:WellAll P h e b):
  ∃a o c,e=[bg a]/\b=[WData.list<|c.map WData.int]/\h.get? a=Y {cls:= .type "list",data:= .seq o.toArray}/\ei o c/\(ZB c)<=n:=by
 have p:WShape.hasAll [] b [.list .int]=J:=(pre_splitW k).1;have m:l.pre.holds [] {args:=b}=J:=(pre_splitW k).2;obtain⟨d,r,rfl,h1,t⟩:=hasAllW_cons p;obtain rfl:=hasAllW_nil t;obtain⟨A,rfl,u⟩:=hasW_list h1;obtain⟨c,rfl⟩:=items_int u
 have g:(ZB c)<=n:=by
  unfold OpenLaw.pre at m
  have i:(WTm.not<|.lt (.lit<|.int (n:Int))<|.len<|.arg 0).holds [] {args:=[.list<|c.map .int]}=J:=by have i:=(holds_andW m).1;rw[v] at i;exact i
  have j:=condW_of i<|w_not<|w_lt w_lit<|w_len_list<|w_arg H;rw[kh] at j;refine r8 λq=>?_;have x:(n:Int)<(((ZB c):Nat):Int):=by omega
  first
   |(rw[nN x] at j;exact absurd j<|by decide)
   |(simp at j;omega)
 cases s with
 |cons y z=>
  cases z
  cases y with
  |list w f=>exact⟨_,_,c,rfl,rfl,w,yL c _ f,g⟩
def JM(l:OpenLaw)(a:List WData):l.row.toRowW.claim.post a (.bool J) a=J:=
 postW_of (r:=l.row.toRowW) (X:=J==J)
  (show WShape.has [] (.bool J) .bool=J by first|rfl|decide|simp[WShape.has,WShape.arms,WShape.armsAll])
  (show(WTm.eq .res<|.lit<|.bool J).value [] {args:=a,res:=Y<|.bool J,after:=a}=Y (.bool<|J==J) from w_eq_bool (w_res H) w_lit) rfl
def RX{l:OpenLaw}{n:Nat}{q:iX}{c:je}{x:(ax->Option iK)->iT->Prop}{y:iR->iT->Prop}{d:DefRec}
  (hn:l.most=Zv n)(I:d.params.defaults=[])
  (call: ∀(w:iR) (e b:iC) (m u:ll) (j:iu) (o:e6) (v cd g:iK) (a:iu) (i:jy) (p:iO),
   Ground q c [] x w e m u b.heap->y w b.heap->
   b.heap.get? j=Zv o->o.data= .func (docDef d.name d.params d.body d.scope v cd g)->b.heap.CodeRec cd d.name->m d.name=Zv (.ref j)->
   b.heap.get? a=Zv {cls:= .type "list",data:= .seq i.toArray}->ei i p->ZB p<=n->b.gens= #[]->
   cU (ah l.prog w) fX (.call (.ref j) ⟨[.ref a],[]⟩) (λr s=>r= .ok (.ret<|.bool Zx)/\OldK b.heap s.heap/\s.os=b.os/\ej s.gens) b):
  WalkO q c x y l.row.toRowW d [] (λf i=>wr f i):=by
 intro w e b m u G Y j o v cd g L kV D hd P A t M z C R E B K O N;obtain rfl:L= .none:=Dflts.none A I;obtain rfl:kV= .none:=Dflts.noKw A;obtain⟨a,i,p,rfl,rfl,H,h,k⟩:=JA hn E O;refine enter_call<|uG (call w e b m u j o v cd g a i p G Y D (fd_plain hd) P t H h k M) λr s F=>?_;obtain⟨rfl,Q,T,J⟩:=F;exact⟨.inl ⟨.bool Zx,.bool Zx,[],rfl,λ_=>rfl,.bool Zx,JM l _,λ_=>⟨cH,λ_ U=>(nomatch U)⟩⟩,Q,T,J⟩
section
variable {a:iX}{w:iR}{A:iU}{E:jn}{s:iC}{K:Frag}
end
end Att
namespace L2
def Jq{b:jy}{a:iO}(h:ei b a):Vals (a.map V.int) b:=by
 induction h with
 |nil=>exact .nil
 |cons n t h c=>exact .cons ⟨t,rfl⟩ c
noncomputable def rk(s:bD):Arguments:=match s with
 | .FunctionDef _ a _ _ _ _ _ _ _ _=>a
 |_=>{posonlyargs:=[],args:=[],vararg:=I,kwonlyargs:=[],kw_defaults:=[],kwarg:=I,defaults:=[]}
noncomputable def lJ(s:bD):List Stmt:=match s with
 | .FunctionDef _ _ b _ _ _ _ _ _ _=>b
 |_=>[]
noncomputable def iB(s:bD):Scope:=match s with
 | .FunctionDef _ _ _ _ _ _ a _ _ _=>a
 |_=>{kind:= .function,names:=[],isGenerator:=C,isCoroutine:=C}
abbrev CX0:CXT:=λ_ _ _ _ _ _=>False
abbrev E0:XK:=λ_ _ _=>False
def Sq{X:Cx}:D3 CX0 X E0:=λ_ _ _ _ _ _ _ h=>h.elim
structure Fun(K:iW)(x qual:ax)(st:bD)(f:iu)(fd:mD):Prop where
 ex: ∃(oc:iK) (od:Option iu) (kV doc pm:iK) (an:Option iu) (b8 ct:iK) (r9:rY),
  fd=cz x qual (rk st) (lJ st) (iB st) .none kV doc pm an b8 ct/\K.lookup f=Zv ⟨oc,od,.func fd,r9⟩/\ew K b8 qual=Zx
 kp:cw K (.ref f)=Zx
section
variable {P:iX}{w:iR}{K:iW}{a:ll}{base:iT}
def Fun.ok{x qual:ax}{st:bD}{f:iu}{g:mD}{N d:je}{k:Nat}{e:Sp}(F:Fun K x qual st f g)(S:FnScope N d (iB st))(len: ∀vs U Q E,e vs U Q E->ZB vs=ZB d)
  (n: ∀(c:iK) (A:iU) (b:List d1) (s:iC) (U:Hp) (vs:List V) (Q:VK) (E:XK),Room k (A.deeper<|aZ qual (iB st) s.heap.objs.size f c)->e vs U Q E->
   ∃t,PSs (pZ CX0 P w K a base N qual (iB st) f c A b s U E).nox (lJ st) t/\t {nx:=λ_ i=>Q .non i,rt:=Q} (oy N vs) U):FnOk P w K a base CX0 (k+1) f g d e:=by
 obtain⟨r,u,kV,l,v,p,c,ct,y,rfl,lk,o⟩:=F.ex;refine Oj lk o S len λA b s U vs Q E m j=>?_;obtain⟨t,h,q⟩:=n c A b s U vs Q E m j;exact⟨t,h.nox,q⟩
def Fun.binds{x qual:ax}{st:bD}{f:iu}{j:mD}{g:je}(F:Fun K x qual st f j)
  (h: ∀(kV b e:iK) (c:Option iu) (d ct:iK) (i:jy),ZB i=ZB g->fm (cz x qual (rk st) (lJ st) (iB st) .none kV b e c d ct) ⟨i,[]⟩=pure (g.zip i)):Binds K j g []:=by
 obtain⟨l,m,kV,b,e,c,d,ct,n,rfl,lk,k⟩:=F.ex;exact .all<|h kV b e c d ct
def Of{x qual:ax}{st:bD}{f:iu}{h:iK}{i e:Option iu}{j:rY}{kV b g d ct:iK}(l:K.lookup f=Y ⟨h,i,.func<|cz x qual (rk st) (lJ st) (iB st) .none kV b g e d ct,j⟩)
  (c:ew K d qual=J)(k:cw K (.ref f)=J):Fun K x qual st f (cz x qual (rk st) (lJ st) (iB st) .none kV b g e d ct):=⟨⟨h,i,kV,b,g,e,d,ct,j,rfl,l,c⟩,k⟩
end
section
variable {X:Cx}
end
def U2{A B:Prop}(h:B):if C=J then A else B:=by rw[jc ku];exact h
def U1{A B:Prop}(h:A):if J=J then A else B:=by rw[iP H];exact h
theorem vS(b:d1): ∀(l:List (ax×dU)) (g:kU),(∀x∈l,x.2= .free-> ∃c,b.cells.lookup x.1=Y c)->(∀x c,g.lookup x=Y c->b.cells.lookup x=Y c)->
  ∃cl,(forIn l g λx r=>if x.2==aL then do let a <-Ix b x.1;pure (bT ((x.1,a)::r)) else pure (bT r))=(pure cl:ey (List<|ax×iu))/\
   (∀x c,cl.lookup x=Y c->b.cells.lookup x=Y c)/\(∀x,(x,aL)∈l-> ∃c,cl.lookup x=Y c)/\ ∀x c,g.lookup x=Y c-> ∃c,cl.lookup x=Y c
 |[],g,_,m=>⟨g,rfl,m,λx h=>by simp at h,λx c h=>⟨c,h⟩⟩
 |(n,k)::l,g,h,m=>by
  by_cases hk:k= .free
  .subst hk;obtain⟨c,e⟩:=h (n,.free) jT H;have q:b.cells.lookup n=Y c:=e
   obtain⟨cl,h1,o,p,j⟩:=vS b l ((n,c)::g) (λx f=>h x<|jX _ f) (λx d f=>by
    rw[oo] at f
    cases i:x==n with
    |true=>rw[i] at f;have:=uE i;subst this;cases f;exact q
    |false=>rw[i] at f;exact m x d f)
   refine⟨cl,?_,o,λx f=>?_,λx d f=>?_⟩
   .rw[zu];have:Ix b n=pure c:=by unfold Ix;rw[q]
    simp -iota only[this,y8,beq_self_eq_true,kG];exact h1
   .rcases kT.mp f with z|z
    .cases z;exact j n c (by simp[oo])
    .exact p x z
   .cases i:x==n with
    |true=>have:=uE i;subst this;exact j x c (by simp[oo])
    |false=>exact j x d (by rw[oo,i];exact f)
  .obtain⟨cl,h1,o,p,j⟩:=vS b l g (λx f=>h x<|jX _ f) m;have i:(k==aL)=C:=by simpa using hk
   refine⟨cl,?_,o,λx f=>?_,j⟩
   .rw[zu];simp -iota only[i,jz,jP,y8];exact h1
   .rcases kT.mp f with z|z
    .cases z;exact absurd H hk
    .exact p x z
def vR(b:d1)(scope:jL)(h: ∀x∈scope.names,x.2= .free-> ∃c,b.cells.lookup x.1=Y c):
  ∃cl,t6 scope b=pure cl/\(∀x c,cl.lookup x=Y c->b.cells.lookup x=Y c)/\ ∀x,(x,aL)∈scope.names-> ∃c,cl.lookup x=Y c:=by
 obtain⟨cl,h1,d,e,_⟩:=vS b scope.names [] h (λx c f=>by simp at f);refine⟨cl,?_,d,e⟩;unfold t6;have:(forIn scope.names ([]:List (ax×iu)) λx r=>if x.2==aL then do let a <-Ix b x.1;pure (bT ((x.1,a)::r)) else pure (bT r))=(pure cl:ey (List<|ax×iu)):=h1
 first
  |exact(mV (· >>=λr=>pure r) this).trans (y8 _ _)
  |(simp -iota only[bind_pure];exact this)
  |exact this
theorem mM: ∀(names:List (ax×dU)) (n:Nat) (a:kU),bt n names a=bt n names []++a
 |[],_,_=>rfl
 |(x,k)::r,n,a=>by
  unfold bt;split
  .rw[mM r (n+1) ((x,n)::a),mM r (n+1) [(x,n)],oq];rfl
  .exact mM r n a
theorem qa{x:ax}{c:iu}: ∀(names:List (ax×dU)) (n:Nat),(x,c)∈bt n names []->(x,c7)∈names
 |[],_,h=>by simp[bt] at h
 |(y,k)::r,n,h=>by
  unfold bt at h;split at h
  .rename_i hk;rw[mM] at h;rcases qb.mp h with z|z
   .exact jX _ (qa r _ z)
   .cases AS.mp z;rw[uE hk];exact jT
  .exact jX _ (qa r _ h)
structure BCls(cells:kU)(scope:jL)(C:iu)(h:iT)(cl:kU):Prop where
 one: ∀x c,cl.lookup x=Zv c->(cells.lookup x=Zv c/\scope.names.lookup x≠Zv .cell)\/(C<c/\scope.names.lookup x=Zv .cell/\h.IsCell c Zw)
 all: ∀x,(x,aL)∈scope.names\/(x,c7)∈scope.names-> ∃c,cl.lookup x=Zv c
 inj: ∀x y c,C<c->cl.lookup x=Zv c->cl.lookup y=Zv c->(∀z d,cells.lookup z=Zv d->d<C)->x=y
 ex: ∀x c,cl.lookup x=Zv c->cells.lookup x=Zv c\/C<c
def Q4{M:gA}{A:iU}{E:jn}{s:iC}{scope:jL}{globals:iu}{a:d1}{cl:kU}{qual:ax}{Q:d1->Shared->Prop}(u: ∀y∈scope.names,y.2= .cell->scope.names.lookup y.1=Y .cell)
  (m: ∀x c,cl.lookup x=Y c->a.cells.lookup x=Y c)(U: ∀x,(x,aL)∈scope.names-> ∃c,cl.lookup x=Y c)
  (B: ∀k r,k.Ns s.heap.objs.size (λ_=>I)->(∀b o,s.heap.get? b=Y o->k.get? b=Y o)->BCls a.cells scope s.heap.objs.size k r->
   Q {scope,locals:=s.heap.objs.size,globals,cells:=r,qual,func:=I,code:=a.code,frame:=a.frame,builtins:=a.builtins} {s with heap:=k}):
  ag M A (gP scope globals cl [] qual I .none<|Y a) Q E s:=by
 simp -iota only[gP,eW,kG];refine iz<|Gb ?_;refine iz<|wpAny_layCells _ (λv j i=>by cases n:j==c7<;>simp[n]) _ _ _ _ ?_;have ok:=cellsFrom_ok scope.names (s.heap.push {cls:= .type "dict",data:= .dict #[]}) (s.heap.objs.size+1) [] ⟨λ_ _ O=>(nomatch O),cH⟩ (by rw[rC];exact jQ _);rw[rC] at ok;rw[show({s with heap:=s.heap.push {cls:= .type "dict",data:= .dict #[]}}:Shared).heap.objs.size=s.heap.objs.size+1 from rC ..];simp -iota only[f8];have g: ∀x,(bt (s.heap.objs.size+1) scope.names cl).lookup x=((bt (s.heap.objs.size+1) scope.names []).lookup x).or (cl.lookup x):=λx=>by rw[mM,List.lookup_append]
 have f: ∀x c,(bt (s.heap.objs.size+1) scope.names cl).lookup x=Y c->(cl.lookup x=Y c/\(bt (s.heap.objs.size+1) scope.names []).lookup x=I)\/(x,c)∈bt (s.heap.objs.size+1) scope.names []:=λx c h=>by
  rw[g] at h
  cases p:(bt (s.heap.objs.size+1) scope.names []).lookup x with
  |none=>rw[p] at h;exact .inl ⟨h,rfl⟩
  |some d=>rw[p] at h;cases h;exact .inr<|qh p
 have lo: ∀{x:ax} {c:iu},(x,c)∈bt (s.heap.objs.size+1) scope.names []->s.heap.objs.size<c:=λ{x c} h=>(ok.empty x c h).2;refine iz<|iM<|iM<|B _ _ ((Heap.Ns.new s.heap<|.type "dict").keeps<|z0 _ _) (λb o e=>z0 _ _ b o (jM _ e)) ⟨λx c h=>?_,λx h=>?_,λx y c l h1 w t=>?_,λx c h=>?_⟩
 .rcases f x c h with⟨z,T⟩|z
  .refine .inl ⟨m x c z,λe=>?_⟩;have:=CP scope.names (s.heap.objs.size+1) []<|.inl e;rw[T] at this;cases this
  .exact .inr ⟨lo z,u _ (qa _ _ z) rfl,(ok.empty x c z).1⟩
 .rcases h with h|h
  .obtain⟨c,l⟩:=U x h;rw[g,l];cases(bt (s.heap.objs.size+1) scope.names []).lookup x<;>exact⟨_,rfl⟩
  .have:=CP scope.names (s.heap.objs.size+1) cl<|.inl<|u _ h rfl;exact Jn.mp this
 .rcases f x c h1 with⟨z,_⟩|z
  .exact absurd (t x c<|m x c z) (Ga l)
  .rcases f y c w with⟨q,_⟩|q
   .exact absurd (t y c<|m y c q) (Ga l)
   .exact Tl ok.apart z q
 .rcases f x c h with⟨z,_⟩|z
  .exact .inl (m x c z)
  .exact .inr (lo z)
noncomputable def Cx.comp(X:Cx)(d:je)(scope:jL)(cl:kU)(U:iu)(f:iC)(c:Hp)(e:kI)(a:jq):Cx:=
 {X with N:=d,s₀:=f,H₀:=c,env:=compEnvC scope cl U X.env,outer:=X.stack,stack:=X.stack,ex:=e,fn:=λx=>scope.names.lookup x==Y .cell,pn:=X.pn++a,xe:=λ_ _=>False}
abbrev TB:=St->Hp->(St->Hp->Prop)->Prop
def PB(X:Cx)(code:ey Unit)(t:TB):Prop:=
 ∀(a:jq) (s:iC) (d:St) (U:Hp) (N:St->Hp->Prop),Inv X a d U s->t d U N->
  ag (ah X.prog X.w) X.A code (λ_ e=> ∃b c,Inv X a b c e/\N b c) X.xe s
def PIf(X:Cx)(b:kr)(t:TT):Prop:=
 ∀(a:jq) (s:iC) (d:St) (U:Hp) (Q:Bool->Hp->Prop),Inv X a d U s->t d U Q->
  ag (ah X.prog X.w) X.A (forIn b J λc r=>if r=J then do let ok <-isTrue c X.env (aE c X.env);pure (bT ok) else pure (bT r)) (TP X a d Q) X.xe s
noncomputable def VX:TT:=λ_ U Q=>Q J U
section
variable {X:Cx}
def Qz:PIf X [] VX:=λa s b T Q U h=>wpAny_tests_nil ⟨T,U,h⟩
def Qy{c:iI}{t:TT}(h:PT X c t):PIf X [c] t:=λa s d T Q U b=>wpAny_tests_one<|h a s d T Q U b
noncomputable def kd(e:iI)(depth:Nat)(acc:iK)(a:d1):ey Unit:=
 match(cC e)[depth+1]? with
 |some c=>do
  let x <-aE c.iter a
  cu c.iter.pos
  let x <-aM c.iter a x
  let _ <-runOwn (.compStart e (depth+1) (<-br [x] (en x)) acc a) a
 |none=>match e with
  | .ListComp b _ _ _=>do let _ <-call (.builtin "list.append") [acc,<-aE b a]
  | .SetComp b _ _ _=>do let v <-aE b a;cu b.pos;let _ <-call (.builtin "set.add") [acc,v]
  |_=>o8 "no"
def HQ(T:It)(g:TG)(n:TT)(l:TB):TB:=λd U N=> ∃W:Nat->Nat->St->Hp->Prop,(∃m,W 0 m d U)/\ ∀i m d U,W i m d U->
 (T.stop i U/\N d U)\/(T.go i U/\ ∀x f,T.yld i U x f->g x d f λa j=>n a j λb h=>if b=J then l a h λe k=> ∃c,c<m/\W (i+1) c e k else ∃c,c<m/\W (i+1) c a h)
def DR(e:iI)(depth:Nat)(k f:iK)(b:d1)(g:qc)(q:(∃d a i p,e= .ListComp d a i p)\/(∃d a i p,e= .SetComp d a i p))
  (j:(cC e)[depth]?=Y g)(o:g.is_async=0)(l: ∀h,(cC e)[depth+1]?=Y h->h.is_async=0):
  px e depth k f b=(do
   cu g.iter.pos
   match <-cM k with
   |none=>pure<|.done .next
   |some v=>
    eS g.target k v
    ce g.target b v
    let ok <-forIn g.ifs J λc r=>if r=J then do let ok <-isTrue c b (aE c b);pure (bT ok) else pure (bT r)
    if ok=J then kd e depth f b
    again (.compLoop e depth k f b)):=by
 rcases q with⟨d,a,i,p,rfl⟩|⟨d,a,i,p,rfl⟩
 .have m:a[depth]?=Y g:=j;unfold px kd;simp only[clausesOf.eq_def] at j l ⊢;rw[m];simp only[o]
  cases n:a[depth+1]? with
  |none=>rfl
  |some h=>
   have:=l h n;simp only[this,uC,jz,jP]
   congr 1;funext _;congr 1;funext r
   cases r with
   |none=>rfl
   |some v=>
    dsimp only
    congr 1;funext _;congr 1;funext _;congr 1;funext ok
    cases ok with
    |false=>rfl
    |true=>simp only[kG,uB];rfl
 .have m:a[depth]?=Y g:=j;unfold px kd;simp only[clausesOf.eq_def] at j l ⊢;rw[m];simp only[o]
  cases n:a[depth+1]? with
  |none=>rfl
  |some h=>
   have:=l h n;simp only[this,uC,jz,jP]
   congr 1;funext _;congr 1;funext r
   cases r with
   |none=>rfl
   |some v=>
    dsimp only
    congr 1;funext _;congr 1;funext _;congr 1;funext ok
    cases ok with
    |false=>rfl
    |true=>simp only[kG,uB];rfl
def OJ 
  (d:(∃b a c p,e= .ListComp b a c p)\/(∃b a c p,e= .SetComp b a c p))
  (h:ag (ah prog w) A ((px e depth it acc env).onRaise (λx=>do i4 x env;theTreesLotGoes x)) Q E s):
  ag (ah prog w) (A.under<|.compLoop e depth it acc env) ((ah prog w).den<|.compLoop e depth it acc env) Q E s:=by
 rcases d with⟨b,a,c,p,rfl⟩|⟨b,a,c,p,rfl⟩
 .exact h
 .exact h
def Iz{e:iI}{depth:Nat}{acc:iK}{c:qc}{g:TG}{ti:TT}{tb:TB}{J:It}{y:kI}{it:iu}{tn:Nat->iT->Prop}(aK:X.xe=λ_ _=>False)(hc:X.calm=Zx)
  (hl:(∃B k sc p,e= .ListComp B k sc p)\/(∃B k sc p,e= .SetComp B k sc p))(hg:(cC e)[depth]?=Y c)(ha:c.is_async=0)(k9: ∀g',(cC e)[depth+1]?=Y g'->g'.is_async=0)
  (T:Turn X.prog X.w X.K c.target J y it tn)(pg:PG X c.target g)(bA:PIf X c.ifs ti)(pb:PB X (kd e depth acc X.env) tb)
  {a:jq}{s:iC}{σ:St}{H:Hp}{N:St->Hp->Prop}(I:Inv X a σ H s)(f2: ∀b∈y,tJ X a H b)(st:tn 0 s.heap)(h:HQ J g ti tb σ H N):
  cU (ah X.prog X.w) X.A (.compLoop e depth (.ref it) acc X.env) (λr s'=>r= .ok .next/\ ∃f j,Inv X a f j s'/\(∀b∈y,j b=Zw)/\N f j) s:=by
 obtain⟨W,⟨m0,w0⟩,G⟩:=h;have P: ∀{j:Hp},(∀b∈y,j b=Zw)-> ∀b∈y,tJ X a j b:=λhn b v=>⟨hn b v,(f2 b v).2⟩
 have D: ∀{Z:Type} {t:ey Z} {Q:Z->Shared->Prop} {E:jn} {s:iC},ag (ah X.prog X.w) X.A t Q X.xe s->ag (ah X.prog X.w) X.A t Q E s:=λh=>ou h (λ_ _ x=>x) λ_ _ z=>by rw[aK] at z;exact z.elim
 refine codeAny_loop Zz (λn s'=> ∃i f j,Inv X a f j s'/\tn i s'.heap/\(∀b∈y,j b=Zw)/\W i n f j) (λn V hI=>?_) m0 ⟨0,σ,H,I,st,λb v=>(f2 b v).1,w0⟩;refine OJ hl ?_;refine wpAny_noted ?_;rw[DR e depth (.ref it) acc X.env c hl hg ha k9];obtain⟨i,l,U,R,S,F,w3⟩:=hI;refine iz<|xH ?_;rcases G i n l U w3 with⟨stop,qn⟩|⟨go,step⟩
 .refine iz (thn (T.done X Zz Zz Zz hc i a V l U _ R (P F) S stop) λr s4 a'=>?_);obtain⟨hr,I4⟩:=a';subst hr;exact iM ⟨rfl,l,U,I4,F,qn⟩
 .refine iz (thn (T.item X Zz Zz Zz hc i a V l U _ R (P F) S go) λr s4 a'=>?_);obtain⟨u,hr,h4⟩:=a';subst hr;refine iz<|thn h4 λ_ s5 a'=>?_;obtain⟨x,H5,I5,r5,y5,bY,hG⟩:=a';have iq:=I5.pinned (P hG)<|T.obj _ _ bY;refine iz<|thn (D<|pg _ s5 l H5 x u _ iq r5 (step x H5 y5)) λ_ s6 a'=>?_;obtain⟨M,H6,I6,q6⟩:=a';refine iz<|thn (D<|bA _ s6 M H6 _ I6 q6) λok s7 a'=>?_;obtain⟨H7,I7,q7⟩:=a'
  have again: ∀{O:iC} {q:St} {C':Hp},Inv X (a++zY y s5.heap) q C' O->(∃Y',Y'<n/\W (i+1) Y' q C')-> ∃m,m<n/\ ∃i f j,Inv X a f j O/\tn i O.heap/\(∀b∈y,j b=Zw)/\W i m f j:=λ{O q C'} L a'=>by
   obtain⟨Y',hm,w8⟩:=a'
   refine⟨Y',hm,i+1,q,C',L.unpinned,T.keep _ _ _ bY λb v o e=>(L.pin (b,o)<|qi _ (qi _ (qU v e))).1,λb v=>?_,w8⟩;obtain⟨o,e,d⟩:=T.obj _ _ bY b v;exact(L.pin (b,o)<|qi _ (qi _ (qU v e))).2.1
  cases ok with
  |false=>rw[jc ku] at q7;exact iM ⟨rfl,again I7 q7⟩
  |true=>rw[iP Zz] at q7;simp -iota only[kG];refine iz<|thn (D<|pb _ s7 M H7 _ I7 q7) λ_ O a'=>?_;obtain⟨q,C',L,q8⟩:=a';exact iM ⟨rfl,again L q8⟩
def V4(d:iu)(e:TE):TB:=λc U N=>e c U λy b=> ∃a,b d=Y (.lst a)/\(ZB a)<sizeLine/\N c (upd b d<|.lst<|a++[y])
def QN{b:iI}{a:rX}{i:jL}{p:bI}{depth:Nat}{d:iu}{j:TE}(o:a[depth+1]?=I)(m:PE X b j):PB X (kd (.ListComp b a i p) depth (.ref d) X.env) (V4 d j):=by
 intro f s k T N U h
 have l:kd (.ListComp b a i p) depth (.ref d) X.env=(do let _ <-call (.builtin "list.append") [.ref d,<-aE b X.env]):=by unfold kd;simp -iota only[clausesOf.eq_def];rw[o]
 rw[l];refine iz<|thn (m f s k T _ U h) λu s1 Q=>?_;obtain⟨y,v,g,t,A,hd,x,q⟩:=Q;obtain⟨z,c,n,r,w,e⟩:=g.lstM hd;refine iz<|qJ F.slot_list_append ⟨_,e,rfl⟩ Ll (Lk _ _) (jp d c.toArray n u<|by rw[kj];lia) ⟨e,?_⟩;refine iM ⟨k,_,g.lset (its':=c++[u]) hd e (by simp) (r.append<|.cons t .nil) ?_,q⟩;rw[mF,xv]
 lia
def Ek{b:iX}{w:iR}{A:iU}{e:iI}{depth:Nat}{i acc:iK}{d:d1}{R:ms->Shared->Prop}{s:iC}{c:qc}
  (r:(∃g a j p,e= .ListComp g a j p)\/(∃g a j p,e= .SetComp g a j p))(q:(cC e)[depth]?=Y c)(o:c.is_async=0)
  (m:cU (ah b w) A (.compLoop e depth i acc d) R s)
  (k: ∀(Q:jn) (E:jn),Q i s->ag (ah b w) A (en i) Q E s):
  cU (ah b w) A (.compStart e depth i acc d) R s:=by
 have h:ag (ah b w) A (j2 e depth i acc d) (λfin l=>match fin with| .done f=>R (.ok f) l| .again n=>n.quiet=J/\cU (ah b w) A n R l) (notedBy (ah b w) A d λx l=>R (.error x) l) s:=by
  unfold j2;rw[q];simp only[Option.elim,o,uC,jz,jP];refine iz<|xu<|wpAny_ite ?_;split
  .first
    |exact iz<|iM<|iM<|And.intro H m
    |exact iM<|And.intro H m
  .exact iz (sf<|iz<|xH<|iz<|k _ _ (iM<|And.intro H m))
 rcases r with⟨g,a,j,p,rfl⟩|⟨g,a,j,p,rfl⟩
 .refine zt ?_;show ag _ A ((j2 (.ListComp g a j p) depth i acc d).onRaise (λx=>do i4 x d;cu zn)) _ _ s;exact K0 h
 .refine zt ?_;show ag _ A ((j2 (.SetComp g a j p) depth i acc d).onRaise (λx=>do i4 x d;cu zn)) _ _ s;exact K0 h
noncomputable def L4(e:TI)(g:TG)(d:TT)(c:TB):TB:=λa U N=>e a U λT b=>HQ T g d c a b N
def UD{e:iI}{depth:Nat}{b:iK}{c:qc}{w:TI}{g:TG}{u:TT}{t:TB}(C:X.xe=λ_ _=>False)(M:X.calm=Zx)
  (o:(∃d a j p,e= .ListComp d a j p)\/(∃d a j p,e= .SetComp d a j p))(i:(cC e)[depth+1]?=Zv c)(n:c.is_async=0)(k9: ∀m,(cC e)[depth+1+1]?=Zv m->m.is_async=0)
  (hs: ∀x,aM c.iter X.env x=pure x)(pi:PI X c.target c.iter w)(pg:PG X c.target g)(L:PIf X c.ifs u)(pb:PB X (kd e (depth+1) b X.env) t):
  PB X (kd e depth b X.env) (L4 w g u t):=by
 intro f s K H N I h
 have O:kd e depth b X.env=(do
  let x <-aE c.iter X.env
  cu c.iter.pos
  let x <-aM c.iter X.env x
  let _ <-runOwn (.compStart e (depth+1) (<-br [x] (en x)) b X.env) X.env):=by
  unfold kd;rw[i]
 rw[O];refine iz<|thn (pi f s K H _ I h) λv s1 h1=>iz<|xH<|iz<|rB (hs v)<|iz<|lM<|thn h1 λR F G=>?_;obtain⟨V,S,Z,J,P,rfl,z,T,l,f2,D⟩:=G;refine iz<|wpAny_runOwn ?_;refine Ek o i n ?_ λQ E U=>T.self X.A 0 F Q E l U;refine uG (Iz C M o i n k9 T pg L pb z f2 l D) λr W Y=>?_;obtain⟨rfl,k,y,B,_,q⟩:=Y;exact iM ⟨k,y,B,q⟩
end
theorem oz{a:d1}: ∀{names:List (ax×dU)} {x:ax},names.lookup x=Y .free->
  (names.map λ(n,k)=>if(k==aL&&a.scope.kind== .function&&a.kindOf n==Y .cell) then(n,c7) else(n,k)).lookup x=Y .cell\/
  (names.map λ(n,k)=>if(k==aL&&a.scope.kind== .function&&a.kindOf n==Y .cell) then(n,c7) else(n,k)).lookup x=Y .free
 |[],_,h=>by simp at h
 |(n,k)::r,x,h=>by
  have d:= @oz a r x;rw[jY]
  cases b:x==n with
  |true=>
   simp only[oo,b] at h;cases h;by_cases c:(aL==aL&&a.scope.kind== .function&&a.kindOf n==Y .cell)=J
   .left;simp only[c,kG,oo,b]
   .right;simp only[c,jP,oo,b,jz]
  |false=>
   simp only[oo,b] at h;by_cases c:(k==aL&&a.scope.kind== .function&&a.kindOf n==Y .cell)=J
   .simp only[c,kG,oo,b];exact d h
   .simp only[c,jP,oo,b,jz];exact d h
theorem ly{a:d1}: ∀{names:List (ax×dU)} {x:ax} {f:dU},
  (names.map λ(n,k)=>if(k==aL&&a.scope.kind== .function&&a.kindOf n==Y .cell) then(n,c7) else(n,k)).lookup x=Y f-> ∃k,(x,k)∈names/\(k=f\/k= .free)
 |[],_,_,h=>by simp at h
 |(n,k)::r,x,f,h=>by
  rw[jY] at h
  cases c:x==n with
  |true=>
   have e:=uE c;subst e;by_cases b:(k==aL&&a.scope.kind== .function&&a.kindOf x==Y .cell)=J
   .refine⟨k,jT,.inr ?_⟩
    have h1:(k==aL)=J:=by
     cases hk:(k==aL) with
     |true=>rfl
     |false=>rw[hk] at b;simp at b
    exact uE h1
   .simp only[b,jP,oo,c,jz] at h;exact⟨k,jT,.inl<|by simpa using h⟩
  |false=>
   by_cases b:(k==aL&&a.scope.kind== .function&&a.kindOf n==Y .cell)=J
   .simp only[b,kG,oo,c] at h;obtain⟨g,h1,d⟩:=ly h;exact⟨g,jX _ h1,d⟩
   .simp only[b,jP,oo,c,jz] at h;obtain⟨g,h1,d⟩:=ly h;exact⟨g,jX _ h1,d⟩
structure CompScope(X:Cx)(N':je)(scope:jL)(pre:St->St):Prop where
 cell: ∀y∈scope.names,y.2= .cell->scope.names.lookup y.1=Zv .cell
 kind:scope.kind= .function
 names: ∀y∈scope.names,y.2= .local->scope.names.lookup y.1=Zv .local
 free: ∀y∈scope.names,y.2= .free->X.env.scope.names.lookup y.1=Zv .cell\/X.env.scope.names.lookup y.1=Zv .free
 len: ∀σ:St,(pre σ).length=ZB N'
 pre: ∀(σ:St) (i:Nat) (v:V) (x:ax),(pre σ)[i]?=Zv (Zv v)->N'[i]?=Zv x->scope.names.lookup x=Zv .free/\ ∃j:Nat,X.N[j]?=Zv x/\σ[j]?=Zv (Zv v)
section
variable {X:Cx}
def RO{O:je}{scope:jL}{pre:St->St}(S:CompScope X O scope pre){d:jq}{f:iC}{L:St}{t:Hp}{E:kI}{cl:kU}{H:iT}{t':Nat}(I:Inv X d L t f)
  (B:BCls X.env.cells scope f.heap.objs.size H cl)
  (C: ∀b∈E,tJ X d t b)(T: ∀b∈E,b<f.heap.objs.size)
  (N:H.Ns f.heap.objs.size (λ_=>Zw))(hk: ∀b o,f.heap.get? b=Zv o->H.get? b=Zv o):
  Inv (X.comp O scope cl f.heap.objs.size f t E d) [] (pre L) t {f with heap:=H,toks:=t'}:=by
 have F: ∀b∈frs X.stack,t b=Zw:=I.stkFree;have w: ∀b,b≠X.env.locals->b∉X.fs->b∉frs X.stack:=λb h1 a z=>(kT.mp<|I.stkSub b z).elim h1 a;have A: ∀x c,X.env.cells.lookup x=Zv c->c<f.heap.objs.size:=λx c e=>(I.cell x c e).elim λ_ z=>z.lt
 refine⟨⟨I.ok.mod,?_,I.ok.glob,I.ok.blt,jQ _,λx y c h1 a=>?_,λx h=>?_,λx c q e=>?_,I.ok.hd,I.ok.frames,.inl Zz,λb g=>?_,
  I.bs,ma I.ok.bsz I.sz,λb o e g=>?_,λb g=>w b (C b g).2.1 (C b g).2.2.1,I.stack,F⟩,rfl,I.bare,Un.kept hk,⟨_,N,λi x v h1 a G=>?_⟩,λx c h=>?_,I.hok.fresh<|jQ _,λx c h=>?_,λp V=>?_,I.hok.kept hk,S.len L⟩
 .show(lm scope X.env).kind= .function;simp[lm,S.kind]
 .rcases B.ex x c h1 with z|z
  .rcases B.ex y c a with s|s
   .exact I.ok.inj x y c z s
   .exact absurd (A x c z) (Ga s)
  .exact B.inj x y c z h1 a A
 ·
  have M:(lm scope X.env).names.lookup x=Zv .cell\/(lm scope X.env).names.lookup x=Zv .free:=h;refine B.all x ?_;rcases M with z|z
  .obtain⟨k,h1,a⟩:=ly z;rcases a with a|a<;>subst a
   .exact .inr h1
   .exact .inl h1
  .obtain⟨k,h1,a⟩:=ly z;rcases a with a|a<;>(subst a;exact .inl h1)
 .rcases B.one x c e with⟨_,z⟩|⟨z,_⟩
  .exact absurd (uE q) z
  .exact sD z
 .refine⟨jF<|T b g,λx c h=>?_⟩;rcases B.ex x c h with z|z
  .exact(C b g).2.2.2.2.1 x c z
  .exact ot (CJ (T b g) z)
 ·
  have Z:b∈E:=g;rcases(C b Z).2.2.2.1 with z|z
  .exact I.ok.noex b o e z
  .exact absurd (nj (jN e)<|ma I.ok.bsz z) (qj _)
 .obtain⟨q,j,P,hv⟩:=S.pre L i v x a h1;obtain⟨m,hn,R⟩:=I.loc;have J:=S.free (x,.free) (qh q) Zz;obtain⟨u,r,l⟩:=R j x v P hv (by rcases J with z|z;exact .inr<|.inl z;exact .inr<|.inr z);refine⟨u,r,.inr ⟨oz q,?_⟩⟩;rcases l with⟨gw,_⟩|⟨_,c,K,W⟩
  .have U:X.env.scope.names.lookup x=Zv .local:=gw;rcases J with z|z<;>(have s:X.env.scope.names.lookup x=_:=z;rw[U] at s;cases s)
  .obtain⟨Y,Q⟩:=B.all x<|.inl<|qh q;rcases B.one x Y Q with⟨this,_⟩|⟨_,z,_⟩
   .rw[K] at this;cases this;exact⟨c,Q,W.keeps hk⟩
   .rw[q] at z;cases z
 .rcases B.one x c h with⟨z,_⟩|⟨_,_,z⟩
  .obtain⟨v,hv⟩:=I.cell x c z;exact⟨v,hv.keeps hk⟩
  .exact⟨_,z⟩
 .rcases B.ex x c h with z|z
  .exact I.freeC x c z
  .exact I.hok.fresh (sD z)
 .have D:p∈X.pn++d:=by simpa[Cx.comp] using V
  obtain⟨e,n,h1,a,G⟩:=I.pin p D;exact⟨hk _ _ e,n,jF<|jN e,w _ h1 a,G⟩
def Ff{q:je}{scope:jL}{a:jq}{f g:iC}{n k:St}{i l:Hp}{j:kI}{cl:kU}{m:iT}(U:Inv X a n i f)(h: ∀b∈j,tJ X a i b)
  (T:Inv (X.comp q scope cl f.heap.objs.size f i j a) [] k l g)(t:aI f.heap.objs.size g.heap m):Inv X a n l {g with heap:=m}:=by
 have K:=U.call' (s':=g) (ch:=j) T.os T.base T.hok T.bare λb d=>⟨(h b d).2.2.2.1,(h b d).2.1,(h b d).2.2.2.2.1,(h b d).2.2.2.2.2⟩
 have r:X.env.locals<f.heap.objs.size:=U.lt;refine K.turned (it:=f.heap.objs.size) (t':=g.toks) (λb o d e=>by rw[t.2 b d];exact e) T.free (ot r) (.inr U.sz) (λx c u z=>?_) λp s z=>?_
 .obtain⟨v,o,e,_⟩:=U.cell x c u;exact absurd (jN e) (by rw[z];exact qj _)
 .obtain⟨e,_⟩:=U.pin p s;exact absurd (jN e) (by rw[z];exact qj _)
def L6(o:HO)(T:It)(g:TG)(c:TT)(b:iu->TB)(pre:St->St)(e:St)(U:Hp)(Q:VK):Prop:=
 ∀d,U d=I->HQ T g c (b d) (pre e) (upd U d o) λ_ a=>Q (.ref d) a
def XT(T:It)(g:TG)(b:TT)(a:iu->TB)(pre:St->St)(c:St)(U:Hp)(Q:VK):Prop:=L6 (.lst []) T g b a pre c U Q
def BP{e:iI}{o:HO}{l:e6}{c:qc}{jw:rX}{scope:jL}{u:je}{pre:St->St}{g:TG}{ti:TT}{tb:iu->TB}{M:kU}{J:It}{i:kI}{it:iu}{tn:Nat->iT->Prop}
  (hl:(∃N k sc p,e= .ListComp N k sc p)\/ ∃N k sc p,e= .SetComp N k sc p)(hg:cC e=c::jw)
  (S:CompScope X u scope pre)(hc:X.calm=Zx)(ha:c.is_async=0)(k9: ∀I',jw[0]?=Zv I'->I'.is_async=0)
  (ai: ∀(cl:kU) (C:iu) (s:iC) (t:Hp) (i:kI) (a:jq),let H':=X.comp u scope cl C s t i a
   PG H' c.target g/\PIf H' c.ifs ti/\ ∀d,PB H' (kd e 0 (.ref d) H'.env)<|tb d)
  (j6: ∀x c,M.lookup x=Zv c->X.env.cells.lookup x=Zv c)(j9: ∀x,(x,aL)∈scope.names-> ∃c,M.lookup x=Zv c)
  {a:jq}{f:iC}{L:St}{m:Hp}{Q:VK}{E:jn}{RR:iK->iu->ms->Shared->Prop}(I2:Inv X a L m f)(T:Turn X.prog X.w X.K c.target J i it tn)(aB:tn 0 f.heap)(f2: ∀b∈i,tJ X a m b)
  (G:Inv X a L (upd m f.heap.objs.size o) {f with heap:=f.heap.push l})
  (h:L6 o J g ti tb pre L m Q)
  (hRR: ∀(d:iu) (cl:kU) (s:iC) (t O:Hp) (σ':St) (s4:iC),Inv X a L t s->(∀b∈i,tJ X a t b)->Inv (X.comp u scope cl s.heap.objs.size s t i a) [] σ' O s4->Q (.ref d) O->RR (.ref d) s.heap.objs.size (.ok .next) s4):
  ag (ah X.prog X.w) X.A (gP scope X.env.globals M [] X.env.qual I .none<|Zv X.env) (λn y=>
   cU (ah X.prog X.w) X.A (.compStart e 0 (.ref it) (.ref f.heap.objs.size) {n with scope:=lm scope X.env}) (RR (.ref f.heap.objs.size) n.locals) y) E {f with heap:=f.heap.push l}:=by
 have P: ∀b∈i,b<f.heap.objs.size:=λb j=>by obtain⟨o,e,_⟩:=T.obj _ _ aB b j;exact jN e
 have U: ∀b∈i,tJ X a (upd m f.heap.objs.size o) b:=λb j=>⟨by rw[jb<|jF<|P b j];exact(f2 b j).1,(f2 b j).2⟩
 refine Q4 S.cell j6 j9 λh1 cl ao F B=>?_;have hk: ∀b o,(f.heap.push l).get? b=Zv o->h1.get? b=Zv o:=F;have D: ∀b∈i,b<(f.heap.push l).objs.size:=λb j=>by rw[rC];exact vo<|P b j
 have J0:=RO (t':=f.toks) S G B U D ao hk;obtain⟨pg,bA,pb⟩:=ai cl (f.heap.push l).objs.size {f with heap:=f.heap.push l} (upd m f.heap.objs.size o) i a;have v:tn 0 h1:=T.keep _ _ _ aB λb j o e=>hk b o<|jM _ e;have hw:=h f.heap.objs.size<|I2.hok.fresh<|jQ _
 have Y: ∀b∈i,tJ (X.comp u scope cl (f.heap.push l).objs.size {f with heap:=f.heap.push l} (upd m f.heap.objs.size o) i a) []
   (upd m f.heap.objs.size o) b:=λb j=>by
  obtain⟨z1,z2,z3,z4,z5,z6⟩:=U b j;refine⟨z1,jF<|D b j,λz=>(kT.mp<|G.stkSub b z).elim z2 z3,.inl j,λx c hx=>(B.ex x c hx).elim (z5 x c) λz=>ot<|CJ (D b j) z,λp hp=>z6 p<|by simpa[Cx.comp] using hp⟩
 have R:(cC e)[0]?=Zv c:=by rw[hg];rfl
 refine Ek hl R ha ?_ λQ' W hq=>T.self X.A 0 _ Q' W v hq
 refine uG (Iz (X:=X.comp u scope cl (f.heap.push l).objs.size {f with heap:=f.heap.push l} (upd m f.heap.objs.size o) i a)
  (depth:=0) (acc:= .ref f.heap.objs.size) rfl hc hl R ha (λI' V=>k9 I'<|by rw[hg] at V;exact V) T pg bA (pb _) J0 Y v hw) λr s4 hr=>?_
 obtain⟨rfl,σ4,O,Z,_,q⟩:=hr;exact hRR _ _ _ _ _ _ _ G U Z q
noncomputable def L5(e:TI)(g:TG)(d:TT)(c:iu->TB)(pre:St->St):TE:=λa U Q=>e a U λT b=>XT T g d c pre a b Q
def Ng{b:iI}{c:qc}{jw:rX}{scope:jL}{e:bI}{o:je}{pre:St->St}{y:TI}{g:TG}{ti:TT}{tb:iu->TB}
  (S:CompScope X o scope pre)(hc:X.calm=Zx)(Y:c.is_async=0)(k9: ∀t,jw[0]?=Zv t->t.is_async=0)
  (hs: ∀x,aM c.iter X.env x=pure x)(pi:PI X c.target c.iter y)
  (O: ∀(cl:kU) (C:iu) (u:iC) (k:Hp) (r:kI) (a:jq),let f:=X.comp o scope cl C u k r a
   PG f c.target g/\PIf f c.ifs ti/\ ∀d,PB f (kd (.ListComp b (c::jw) scope e) 0 (.ref d) f.env)<|tb d):
  PE X (.ListComp b (c::jw) scope e) (L5 y g ti tb pre):=by
 intro a s z H Q I h;obtain⟨tg,p,j,G⟩:=c;obtain rfl:G=0:=Y;obtain⟨cl,W,R,V⟩:=vR X.env scope λx P D=>I.ok.has x.1<|S.free x P D;rw[eval_ListComp];show ag _ X.A (MB _ scope X.env _ (lw []) Zy (aE p X.env)) _ _ s;refine Li (use:=Zw) (g:=⟨tg,p,j,0⟩) (gs:=jw) Zz hs W S.kind S.names<|thn (pi a s z H _ I h) λv s1 h1=>thn h1 λdG Z U=>?_;obtain⟨it,r,tn,J,H2,rfl,l,T,L,f2,K⟩:=U;refine nh<|BP (RR:=λi C=>compPost (ah X.prog X.w) X.A X.xe Zw (EP X a z Q) i C) (.inl ⟨_,_,_,_,rfl⟩) Zz S hc Zz k9 O R V l T L f2 (l.lnew (t':=Z.toks) .nil<|by simp) K λd M u k B σ' s4 E N n q=>?_;obtain⟨m,F,_⟩:=id n.loc;exact⟨m,F,λh' y9=>⟨.ref d,B,Ff E N n y9,rfl,q⟩⟩
def MV{f:iI}{c:qc}{jw:rX}{scope:jL}{j g0 k:bI}{N':je}{pre:St->St}{wi:TI}{g:TG}{ti:TT}{tb:iu->TB}{y:ax}{i:Nat}
  (bC:bJ (.ListComp f (c::jw) scope j) (Zv<|.Name y k) g0.line X.env=pure Zx)
  (S:CompScope X N' scope pre)(hc:X.calm=Zx)(ha:c.is_async=0)(k9: ∀g',jw[0]?=Zv g'->g'.is_async=0)
  (hs: ∀x,aM c.iter X.env x=pure x)(pi:PI X c.target c.iter wi)(fN:PG X (.Name y k) (EX i))
  (ai: ∀(cl:kU) (C:iu) (l:iC) (H3:Hp) (fp:kI) (a:jq),let u:=X.comp N' scope cl C l H3 fp a
   PG u c.target g/\PIf u c.ifs ti/\ ∀d,PB u (kd (.ListComp f (c::jw) scope j) 0 (.ref d) u.env)<|tb d):
  PS X (.Assign [.Name y k] (.ListComp f (c::jw) scope j) g0) (Tj (L5 wi g ti tb pre)<|EX i):=by
 intro a s E H D I h;obtain⟨W,M,t,az⟩:=c;obtain rfl:az=0:=ha;obtain⟨cl,l5,j6,j9⟩:=vR X.env scope λx Y hf=>I.ok.has x.1<|S.free x Y hf;rw[exec_Assign_Name_used _ _ _ _ bC];refine iz<|xH<|iz ?_;show ag _ X.A (do let _ <-MB (.ListComp f (⟨W,M,t,0⟩::jw) scope j) scope X.env _ (lw []) Zy (aE M X.env) (Zv<|ce (.Name y k) X.env)) _ _ s
 refine iz (ou (Li (use:=Zv<|ce (.Name y k) X.env) (g:=⟨W,M,t,0⟩) (gs:=jw) (Q:=λ_ B=>SP X a D .next B) Zz hs l5 S.kind S.names
  (thn (pi a s E H _ I h) λv s1 h1=>thn h1 λdG s2 h2=>?_)) (λ_ B hq=>iM<|iM hq) λ_ _ e=>e)
 obtain⟨it,fp,tn,J,H2,rfl,P,T,aB,f2,hw⟩:=h2;refine nh<|BP (RR:=λG C=>compPost (ah X.prog X.w) X.A X.xe (Zv<|ce (.Name y k) X.env) (λ_ B=>SP X a D .next B) G C) (.inl ⟨_,_,_,_,rfl⟩) Zz S hc Zz k9 ai j6 j9 P T aB f2 (P.lnew (t':=s2.toks) .nil<|by simp) hw λd cl' l H3 L σ' K n ff O q=>?_;obtain⟨m,hn,_⟩:=id O.loc;obtain⟨F,es,ep,ho,hd,hr⟩:=id hn;have R:Inv X a E L K:=Ff n ff O (CG ..);have r:l.heap.objs.size≠X.env.locals:=ot n.lt;have N:l.heap.objs.size∉X.fs:=λz=>n.nofs (jQ _) z
 have Z:Inv X (a++[(l.heap.objs.size,F)]) E L K:=R.pins_of λp U=>by
  rcases qb.mp U with z|z
  .exact R.pin p (qi _ z)
  .rcases AS.mp z with rfl
   exact⟨ho,O.free,r,N,λv z=>by rw[hd] at z;cases z⟩
 show ag _ X.A (ce (.Name y k) X.env<|.ref d) _ _ _;refine thn (fN _ K E L (.ref d) (.ref d) _ Z rfl q) λ_ s5 a'=>?_;obtain⟨σ5,H5,I5,q5⟩:=a';have V:=I5.pin (l.heap.objs.size,F) (by simp);refine⟨m,⟨F,es,ep,V.1,hd,hr⟩,λh' y9=>⟨σ5,H5,?_,q5⟩⟩;refine I5.unpinned.turned (it:=l.heap.objs.size) (t':=s5.toks) (λb o hb e=>by rw[y9.2 b hb];exact e) V.2.1 r (.inr n.sz) (λx c Y z=>?_) λp U z=>?_
 .obtain⟨v,o,e,_⟩:=n.cell x c Y;exact absurd (jN e) (by rw[z];exact qj _)
 .obtain⟨e,_⟩:=n.pin p U;exact absurd (jN e) (by rw[z];exact qj _)
end
end L2
namespace PX
open L2
inductive OK where
 |dct|set|fn(i:Nat)|exc(c:Nat)
 deriving DecidableEq
inductive D where
 |non|bl(b:Bool)|int(i:Int)|str(x:ax)|tup(l:List D)|lst(l:List D)|oth(k:OK)(ks vs:List D)
mutual
/-- the hash of ints and of tuples of such -/
noncomputable def D.hash:D->Int
 | .int i=>hashInt i
 | .tup l=>reduceHash<|bh<|D.hashL l
 |_=>0
noncomputable def D.hashL:List D->List Int
 |[]=>[]
 |d::l=>D.hash d::D.hashL l
end
noncomputable def kg:Key->D
 | .inl i=> .int i
 | .inr x=> .str x
def Y3(K:iW)(o:e6)(U:Nat):Prop:=o.cls= .ref U/\(∀a:iu,PySem.W.KitX K (.ref a) (.ref U) λh=>h.get? a=Y o)/\ ∀n∈["int","bool","str","tuple","list","dict"],dJ K (.ref U) (.type n)=Y C
def OthB(K:iW)(h:Option HO)(k:OK)(a c:List D)(b:List V):Prop:=
 match k with
 | .dct=>(∃kvs:List (Key×V),h=Y (.dK kvs)/\a=kvs.map (λp=>kg p.1)/\b=kvs.map (·.2))\/
   (∃kvs:List (List Key×V),h=Y (.dT kvs)/\a=kvs.map (λp=> .tup (p.1.map kg))/\b=kvs.map (·.2))
 | .set=>a=[]/\ ∃d:List (Int×V),h=Y (.stt d)/\d.Perm ((D.hashL c).zip b)
 | .exc U=>(a=[]/\c=[]/\b=[])/\ ∃o,h=Y (.frz o<|.own 0)/\Y3 K o U
 |_=>False
def OthB.ex{K h k a vs us}(x:OthB K h k a vs us): ∃o,h=Y o:=by
 cases k with
 |dct=>rcases x with⟨_,e,_⟩|⟨_,e,_⟩<;>exact⟨_,e⟩
 |set=>obtain⟨_,_,e,_⟩:=x;exact⟨_,e⟩
 |exc U=>obtain⟨_,_,e,_⟩:=x;exact⟨_,e⟩
 |_=>exact x.elim
def OthB.keep{K k a b us}(x:OthB K h k a b us)(c: ∀o,h=Y o->h'=Y o):OthB K h' k a b us:=by obtain⟨o,e⟩:=x.ex;rw[c o e,<-e];exact x
abbrev AP':=iu->Prop
def KT(K:iW)(a:iu)(xs:List V):Prop:= ∃(o:e6) (b:mU) (n:Nat),K.lookup a=Y o/\o.cls= .type "tuple"/\o.data= .seq b n/\b.size<=sizeLine/\Vals xs b.toList
def KL(K:iW)(a:iu)(c:List V):Prop:= ∃(o:e6) (b:mU) (n:Nat),K.lookup a=Y o/\o.cls= .type "list"/\o.dict=I/\o.data= .seq b n/\b.size<=sizeLine/\Vals c b.toList
def SqTO(K:iW)(U:Hp)(O:AP')(a:iu)(b:List V):Prop:=U a=Y (.tup b)/\ ¬O a
def SqLO(K:iW)(U:Hp)(O:AP')(a:iu)(b:List V):Prop:=(Rd U a (.lst b)/\ ¬O a)\/KL K a b
def SqTO.sq{K U O a xs}(h:SqTO K U O a xs):SqT K U a xs:= .inl (.inl h.1)
def SqLO.sq{K U O a xs}(h:SqLO K U O a xs):SqL K U a xs:=h.elim (λz=> .inl z.1) .inr
def Rd.mono{a u}(h:Rd U a u)(k: ∀o,U a=Y o->H' a=Y o):Rd H' a u:=by
 rcases h with h|⟨o,h⟩
 .exact .inl (k _ h)
 .exact .inr ⟨o,k _ h⟩
def SqTO.mono{K U H'}{a xs}(h:SqTO K U O a xs)(k: ∀b o,U b=Y o-> ¬O b->H' b=Y o)(c: ∀b,U b≠I->O' b->O b):SqTO K H' O' a xs:=
 ⟨k a _ h.1 h.2,λz=>h.2<|c a (by rw[h.1];simp) z⟩
def SqLO.mono{K U H'}{a xs}(h:SqLO K U O a xs)(k: ∀b o,U b=Y o-> ¬O b->H' b=Y o)(c: ∀b,U b≠I->O' b->O b):SqLO K H' O' a xs:=by
 rcases h with⟨r,n⟩|h
 .refine .inl ⟨Rd.mono r λo e=>k a o e n,λz=>n<|c a ?_ z⟩;rcases r with r|⟨_,r⟩<;>(rw[r];simp)
 .exact .inr h
mutual
/-- v is the datum,in H;nothing of it stands at an address of O -/
def Rep(K:iW)(U:Hp)(O:AP'):D->V->Prop
 | .non,v=>v= .non
 | .bl b,v=>v= .bl b
 | .int i,v=>v= .int i
 | .str x,v=>v= .str x
 | .tup l,v=> ∃a xs,v= .ref a/\SqTO K U O a xs/\RepL K U O l xs
 | .lst l,v=> ∃a xs,v= .ref a/\SqLO K U O a xs/\RepL K U O l xs
 | .oth k c vs,v=> ∃a us,v= .ref a/\(¬O a/\OthB K (U a) k c vs us)/\RepL K U O vs us
def RepL(K:iW)(U:Hp)(O:AP'):List D->List V->Prop
 |[],vs=>vs=[]
 |d::l,vs=> ∃v r,vs=v::r/\Rep K U O d v/\RepL K U O l r
end
mutual
theorem Rep.mono{K U H'}{O O':AP'}(k: ∀b o,U b=Y o-> ¬O b->H' b=Y o)(c: ∀b,U b≠I->O' b->O b): ∀{d:D} {v:V},Rep K U O d v->Rep K H' O' d v
 | .non,_,h=>h
 | .bl _,_,h=>h
 | .int _,_,h=>h
 | .str _,_,h=>h
 | .tup l,_,h=>by rw[Rep] at h ⊢;obtain⟨a,f,e,s,r⟩:=h;exact⟨a,f,e,s.mono k c,RepL.mono k c r⟩
 | .lst l,_,h=>by rw[Rep] at h ⊢;obtain⟨a,f,e,s,r⟩:=h;exact⟨a,f,e,s.mono k c,RepL.mono k c r⟩
 | .oth g i vs,_,h=>by rw[Rep] at h ⊢;obtain⟨a,us,e,s,r⟩:=h;exact⟨a,us,e,⟨λz=>s.1<|c a (by obtain⟨o,q⟩:=s.2.ex;rw[q];simp) z,s.2.keep λo q=>k a o q s.1⟩,RepL.mono k c r⟩
theorem RepL.mono{K U H'}{O O':AP'}(k: ∀b o,U b=Y o-> ¬O b->H' b=Y o)(a: ∀b,U b≠I->O' b->O b): ∀{l:List D} {vs:List V},RepL K U O l vs->RepL K H' O' l vs
 |[],_,h=>h
 |d::l,_,h=>by rw[RepL] at h ⊢;obtain⟨v,r,e,h1,c⟩:=h;exact⟨v,r,e,Rep.mono k a h1,RepL.mono k a c⟩
end
def Rep.mkInt{K U O i}:Rep K U O (.int i) (.int i):=by rw[Rep]
def Rep.mkBl{K U O i}:Rep K U O (.bl i) (.bl i):=by rw[Rep]
def Rep.mkNon{K U O}:Rep K U O .non .non:=by rw[Rep]
def Rep.mkStr{K U O i}:Rep K U O (.str i) (.str i):=by rw[Rep]
def Rep.int{K U O i v}(h:Rep K U O (.int i) v):v= .int i:=by rwa [Rep] at h
def Rep.bl{K U O i v}(h:Rep K U O (.bl i) v):v= .bl i:=by rwa [Rep] at h
def Rep.non{K U O v}(h:Rep K U O .non v):v= .non:=by rwa [Rep] at h
def Rep.str{K U O i v}(h:Rep K U O (.str i) v):v= .str i:=by rwa [Rep] at h
def Rep.tup{K U O l v}(h:Rep K U O (.tup l) v): ∃a xs,v= .ref a/\SqTO K U O a xs/\RepL K U O l xs:=by rwa [Rep] at h
def Rep.lst{K U O l v}(h:Rep K U O (.lst l) v): ∃a xs,v= .ref a/\SqLO K U O a xs/\RepL K U O l xs:=by rwa [Rep] at h
def Rep.oth{K U O k ks vs v}(h:Rep K U O (.oth k ks vs) v): ∃a us,v= .ref a/\(¬O a/\OthB K (U a) k ks vs us)/\RepL K U O vs us:=by rwa [Rep] at h
def Rep.mkOth{K U O k b vs a us}(n: ¬O a)(h:OthB K (U a) k b vs us)(r:RepL K U O vs us):Rep K U O (.oth k b vs) (.ref a):=by rw[Rep];exact⟨a,us,rfl,⟨n,h⟩,r⟩
def Rep.mkTup{K U O l a xs}(h:SqTO K U O a xs)(r:RepL K U O l xs):Rep K U O (.tup l) (.ref a):=by rw[Rep];exact⟨a,xs,rfl,h,r⟩
def Rep.mkLst{K U O l a xs}(h:SqLO K U O a xs)(r:RepL K U O l xs):Rep K U O (.lst l) (.ref a):=by rw[Rep];exact⟨a,xs,rfl,h,r⟩
theorem RepL.length{K U O}: ∀{l:List D} {vs:List V},RepL K U O l vs->ZB vs=ZB l
 |[],vs,h=>by rw[RepL] at h;rw[h];rfl
 |d::l,vs,h=>by rw[RepL] at h;obtain⟨v,r,rfl,_,a⟩:=h;simp[RepL.length a]
theorem RepL.get{K U O}: ∀{l:List D} {a:List V} {i:Nat} {d:D},RepL K U O l a->l[i]?=Y d-> ∃v,a[i]?=Y v/\Rep K U O d v
 |[],_,_,_,_,e=>by simp at e
 |d::l,a,0,b,h,e=>by rw[RepL] at h;obtain⟨v,r,rfl,h1,_⟩:=h;simp at e;subst e;exact⟨v,rfl,h1⟩
 |d::l,a,i+1,b,h,e=>by rw[RepL] at h;obtain⟨v,r,rfl,_,c⟩:=h;obtain⟨w,f,g⟩:=RepL.get (i:=i) c (by simpa using e);exact⟨w,by simpa using f,g⟩
def RepL.append{K U O}: ∀{l m:List D} {a c:List V},RepL K U O l a->RepL K U O m c->RepL K U O (l++m) (a++c):=by
 intro g
 induction g with
 |nil=>intro _ a _ h b;rw[RepL] at h;subst h;exact b
 |cons d l f=>intro _ a _ h b;rw[RepL] at h;obtain⟨v,r,rfl,h1,e⟩:=h;show RepL K U O (d::(l++_)) _;rw[RepL];exact⟨v,_,rfl,h1,f e b⟩
def RepL.one{K U O}{d:D}{v:V}(h:Rep K U O d v):RepL K U O [d] [v]:=by rw[RepL];exact⟨v,[],rfl,h,by rw[RepL]⟩
def RepL.nil{K U O}:RepL K U O [] []:=by rw[RepL]
def RepL.cons{K U O}{l vs}(h:Rep K U O d v)(h':RepL K U O l vs):RepL K U O (d::l) (v::vs):=by rw[RepL];exact⟨v,vs,rfl,h,h'⟩
theorem RepL.take{K U O}: ∀{l:List D} {a:List V} (n:Nat),RepL K U O l a->RepL K U O (l.take n) (a.take n)
 |_,_,0,_=>by simp[RepL]
 |[],a,n+1,h=>by rw[RepL] at h;subst h;simp[RepL]
 |d::l,a,n+1,h=>by rw[RepL] at h;obtain⟨v,r,rfl,h1,b⟩:=h;exact RepL.cons h1<|RepL.take n b
theorem RepL.drop{K U O}: ∀{l:List D} {a:List V} (n:Nat),RepL K U O l a->RepL K U O (l.drop n) (a.drop n)
 |_,_,0,h=>h
 |[],a,n+1,h=>by rw[RepL] at h;subst h;simp[RepL]
 |d::l,a,n+1,h=>by rw[RepL] at h;obtain⟨v,r,rfl,h1,b⟩:=h;exact RepL.drop n b
theorem RepL.set{K U O}{d:D}{v:V}(hv:Rep K U O d v): ∀{l:List D} {vs:List V} (i:Nat),RepL K U O l vs->RepL K U O (l.set i d) (vs.set i v)
 |[],vs,i,h=>by rw[RepL] at h;subst h;simp[RepL]
 |e::l,vs,0,h=>by rw[RepL] at h;obtain⟨w,r,rfl,h1,a⟩:=h;exact RepL.cons hv a
 |e::l,vs,i+1,h=>by rw[RepL] at h;obtain⟨w,r,rfl,h1,a⟩:=h;exact RepL.cons h1<|RepL.set hv i a
abbrev Sl:=Option<|D×Bool
abbrev Dn:=List Sl
def OwnA(b:L2.St)(δ:Dn)(a:iu):Prop:= ∃(i:Nat) (d:D),δ[i]?=Y (Y (d,J))/\b[i]?=Y (Y<|V.ref a)
def OwnOk(K:iW)(U:Hp)(O:AP'):D->iu->Prop
 | .lst l,a=> ∃d,U a=Y (.lst d)/\RepL K U O l d
 | .oth k e c,a=> ∃b,OthB K (U a) k e c b/\RepL K U O c b
 |_,_=>False
def OwnOk.mono{K U H'}(h:OwnOk K U O d a)(k: ∀b o,U b=Y o-> ¬O b->H' b=Y o)(c: ∀b,U b≠I->O' b->O b)(f: ∀o,U a=Y o->H' a=Y o):OwnOk K H' O' d a:=by
 cases d with
 |lst l=>obtain⟨g,e,r⟩:=h;exact⟨g,f _ e,RepL.mono k c r⟩
 |oth i j vs=>obtain⟨us,e,r⟩:=h;exact⟨us,e.keep f,RepL.mono k c r⟩
 |_=>exact h
def OwnOk.rep{K U}(h:OwnOk K U O d a)(f: ¬O' a)(c: ∀b,U b≠I->O' b->O b):Rep K U O' d (.ref a):=by
 cases d with
 |lst l=>obtain⟨g,e,r⟩:=h;rw[Rep];exact⟨a,g,rfl,.inl ⟨.inl e,f⟩,RepL.mono (λb o e _=>e) c r⟩
 |oth i j m=>obtain⟨k,e,r⟩:=h;exact Rep.mkOth f e<|RepL.mono (λb o e _=>e) c r
 |_=>exact h.elim
def Ow:Option HO->Prop
 |none=>False
 |some (.tup _)=>False
 |_=>True
def Ow.ne{o:Option HO}(h:Ow o):o≠I:=λe=>by rw[e] at h;exact h
def Ow.up{o a:Option HO}(h:Ow o)(k: ∀x,o=Y x->a=Y x):Ow a:=by
 cases o with
 |none=>exact h.elim
 |some x=>rw[k x H];exact h
def nOw{o:Option HO}(h:o=I): ¬Ow o:=λz=>z.ne h
def Ow.nt{o:Option HO}(h:Ow o)(a:List V):o≠Y (.tup a):=λe=>by rw[e] at h;exact h
def OwnOk.ow{K U}{O:AP'}{d:D}{a:iu}(h:OwnOk K U O d a):Ow (U a):=by
 cases d with
 |lst l=>obtain⟨g,e,_⟩:=h;rw[e];trivial
 |oth k b f=>
  obtain⟨c,e,_⟩:=h
  cases k with
  |dct=>rcases e with⟨_,e,_⟩|⟨_,e,_⟩<;>(rw[e];trivial)
  |set=>obtain⟨_,_,e,_⟩:=e;rw[e];trivial
  |exc T=>obtain⟨_,_,e,_⟩:=e;rw[e];trivial
  |_=>exact e.elim
 |_=>exact h.elim
structure ER(K:iW)(H:Hp)(T:AP')(σ:L2.St)(δ:Dn):Prop where
 len:(ZB σ)=ZB δ
 val: ∀(i:Nat) (d:D),δ[i]?=Zv (Zv (d,Zy))-> ∃v,σ[i]?=Zv (Zv v)/\Rep K H (λa=>OwnA σ δ a\/T a) d v
 own: ∀(i:Nat) (d:D),δ[i]?=Zv (Zv (d,Zx))-> ∃a,σ[i]?=Zv (Zv<|V.ref a)/\OwnOk K H (λa=>OwnA σ δ a\/T a) d a
 inj: ∀(i j:Nat) (d e:D) (a:iu),δ[i]?=Zv (Zv (d,Zx))->δ[j]?=Zv (Zv (e,Zx))->σ[i]?=Zv (Zv<|V.ref a)->σ[j]?=Zv (Zv<|V.ref a)->i=j
 nT: ∀a,OwnA σ δ a-> ¬T a
 dom: ∀a,T a->Ow (H a)
def ER.ownOw{K U T σ e}(E:ER K U T σ e)(h:OwnA σ e a):Ow (U a):=by obtain⟨i,d,h1,f⟩:=h;obtain⟨b,c,g⟩:=E.own i d h1;rw[f] at c;cases c;exact g.ow
def ER.ownDom{K U T σ δ}(E:ER K U T σ δ)(h:OwnA σ δ a):U a≠I:=(E.ownOw h).ne
def ER.mono{K U H' σ δ}(E:ER K U T σ δ)(k: ∀b o,U b=Y o-> ¬T b->H' b=Y o)(f: ∀b,U b≠I->T' b->T b)(hd: ∀a,T' a->Ow (H' a)):ER K H' T' σ δ where
 len:=E.len
 val:=λi d h=>by obtain⟨v,h1,c⟩:=E.val i d h;exact⟨v,h1,Rep.mono (λb o e n=>k b o e λz=>n<|.inr z) (λb g z=>z.elim .inl λz=> .inr (f b g z)) c⟩
 own:=λi d h=>by obtain⟨a,h1,c⟩:=E.own i d h;exact⟨a,h1,c.mono (λb o e n=>k b o e λz=>n<|.inr z) (λb g z=>z.elim .inl λz=> .inr (f b g z)) λo e=>k a o e<|E.nT a ⟨i,d,h,h1⟩⟩
 inj:=E.inj
 nT:=λa h z=>E.nT a h<|f a (E.ownDom h) z
 dom:=hd
def OwnA.set(h:OwnA σ (δ.set i<|Y (d,C)) a):OwnA σ δ a:=by
 obtain⟨j,e,h1,b⟩:=h;rw[zr] at h1;split at h1
 .split at h1<;>simp at h1
 .exact⟨j,e,h1,b⟩
def ER.freeze{K U T σ m}(E:ER K U T σ m){i:Nat}{d:D}{b:Bool}(h:m[i]?=Y (Y (d,b))):ER K U T σ (m.set i<|Y (d,C))/\ ∃v,σ[i]?=Y (Y v)/\Rep K U (λa=>OwnA σ (m.set i<|Y (d,C)) a\/T a) d v:=by
 have o:i<(ZB m):=(rT.mp h).1
 have p: ∃v,σ[i]?=Y (Y v)/\Rep K U (λa=>OwnA σ (m.set i<|Y (d,C)) a\/T a) d v:=by
  cases b with
  |false=>obtain⟨v,h1,l⟩:=E.val i d h;exact⟨v,h1,Rep.mono (λ_ _ e _=>e) (λb _ z=>z.elim (λz=> .inl z.set) .inr) l⟩
  |true=>
   obtain⟨a,h1,l⟩:=E.own i d h;refine⟨.ref a,h1,l.rep (λz=>?_) λb _ z=>z.elim (λz=> .inl z.set) .inr⟩;rcases z with⟨j,e,n,q⟩|z
   .rw[zr] at n;split at n
    .first
      |(split at n<;>simp at n)
      |simp at n
    .rename_i r;exact r<|E.inj i j d e a h n h1 q
   .exact E.nT a ⟨i,d,h,h1⟩ z
 refine⟨⟨by rw[qK];exact E.len,λj e c=>?_,λj e c=>?_,λj k e f a c hk h1 l=>?_,λa z=>E.nT a z.set,E.dom⟩,p⟩
 .by_cases g:i=j
  .subst g;rw[ox o] at c;cases c;exact p
  .rw[oM g] at c;obtain⟨v,h1,l⟩:=E.val j e c;exact⟨v,h1,Rep.mono (λ_ _ e _=>e) (λb _ z=>z.elim (λz=> .inl z.set) .inr) l⟩
 .by_cases g:i=j
  .subst g;rw[ox o] at c;cases c
  .rw[oM g] at c;obtain⟨a,h1,l⟩:=E.own j e c;exact⟨a,h1,l.mono (λ_ _ e _=>e) (λb _ z=>z.elim (λz=> .inl z.set) .inr) λ_ e=>e⟩
 .have g1:m[j]?=Y (Y (e,J)):=by
   by_cases g:i=j
   .subst g;rw[ox o] at c;cases c
   .rwa [oM g] at c
  have g2:m[k]?=Y (Y (f,J)):=by
   by_cases g:i=k
   .subst g;rw[ox o] at hk;cases hk
   .rwa [oM g] at hk
  exact E.inj j k e f a g1 g2 h1 l
def OwnI(b:L2.St)(δ:Dn)(i:Nat)(a:iu):Prop:= ∃d:D,δ[i]?=Y (Y (d,J))/\b[i]?=Y (Y<|V.ref a)
structure Keep(σ:L2.St)(δ:Dn)(H:Hp)(δ':Dn)(H':Hp):Prop where
 kp: ∀a o,H a=Zv o-> ¬OwnA σ δ a->H' a=Zv o
 owi: ∀i a,OwnI σ δ' i a->OwnI σ δ i a
 dm: ∀a,H a≠Zw->H' a≠Zw
def Keep.ow{σ c U b f}(k:Keep σ c U b f)(a:iu)(h:OwnA σ b a):OwnA σ c a:=by obtain⟨i,d,h1,g⟩:=h;obtain⟨e,j,l⟩:=k.owi i a ⟨d,h1,g⟩;exact⟨i,e,j,l⟩
def Keep.refl{σ a U}:Keep σ a U a U:=⟨λ_ _ e _=>e,λ_ _ z=>z,λ_ z=>z⟩
def Keep.trans{σ δ δ1 δ2 U H1 b}(x:Keep σ δ U δ1 H1)(y:Keep σ δ1 H1 δ2 b):Keep σ δ U δ2 b:=
 ⟨λa o e n=>y.kp a o (x.kp a o e n) λz=>n<|x.ow a z,λi a z=>x.owi i a<|y.owi i a z,λa z=>y.dm a<|x.dm a z⟩
def Keep.ext{σ b U H1}(k: ∀a o,U a=Y o->H1 a=Y o):Keep σ b U b H1:=⟨λa o e _=>k a o e,λ_ _ z=>z,λa z=>by
 cases h:U a with
 |none=>exact absurd h z
 |some o=>rw[k a o h];simp⟩
def OwnI.set(h:OwnI σ (δ.set i<|Y (d,C)) j a):OwnI σ δ j a:=by
 obtain⟨e,h1,b⟩:=h;rw[zr] at h1;split at h1
 .split at h1<;>simp at h1
 .exact⟨e,h1,b⟩
def Keep.set{σ δ U i d}:Keep σ δ U (δ.set i<|Y (d,C)) U:=⟨λ_ _ e _=>e,λ_ _ z=>z.set,λ_ z=>z⟩
def Post(K:iW)(T:AP')(c:L2.St)(e:Dn)(U:Hp)(r:D×Bool)(b:Dn)(v:V)(H':Hp):Prop:=
 Keep c e U b H'/\
 match r with
 |(d,C)=>ER K H' T c b/\Rep K H' (λa=>OwnA c b a\/T a) d v
 |(d,J)=> ∃p,v= .ref p/\U p=I/\ER K H' (λa=>T a\/a=p) c b/\OwnOk K H' (λa=>OwnA c b a\/T a\/a=p) d p
abbrev F:=Dn->Option ((D×Bool)×Dn)
def tF(K:iW)(f:F):TE:=λd U Q=> ∃b T r a,ER K U T d b/\f b=Y (r,a)/\ ∀v c,Post K T d b U r a v c->Q v c
def PX(X:Cx)(e:iI)(f:F):Prop:=PE X e<|tF X.K f
noncomputable def Tmp(T:AP')(r:D×Bool)(v:V):AP':=λa=>T a\/(r.2=J/\v= .ref a)
section
variable {K:iW}{T:AP'}{c:L2.St}{δ δ1 δ2:Dn}{H f g:Hp}{x y:D×Bool}{v u:V}
def Post.er(E:ER K H T c δ)(P:Post K T c δ H x δ1 v f):ER K f (Tmp T x v) c δ1:=by
 obtain⟨d,b⟩:=x
 cases b with
 |false=>
  refine P.2.1.mono (λ_ _ e _=>e) (λb _ z=>z.elim id λz=>absurd z.1<|by simp) λa z=>?_;rcases z with z|z
  .exact P.2.1.dom a z
  .exact absurd z.1 (by simp)
 |true=>
  obtain⟨p,rfl,i,h,j⟩:=P.2;refine h.mono (λ_ _ e _=>e) (λb _ z=>z.elim .inl λz=> .inr (by have:=z.2;cases this;rfl)) λa z=>?_;rcases z with z|z
  .exact h.dom a (.inl z)
  .have:=z.2;cases this;exact h.dom _ (.inr Zz)
def Post.rep(E:ER K H T c δ)(P:Post K T c δ H x δ1 v f):ER K f T c δ1/\Rep K f (λa=>OwnA c δ1 a\/T a) x.1 v:=by
 obtain⟨d,b⟩:=x
 cases b with
 |false=>exact P.2
 |true=>
  obtain⟨p,rfl,i,h,j⟩:=P.2;refine⟨h.mono (λ_ _ e _=>e) (λb _ z=> .inl z) λa z=>h.dom a<|.inl z,j.rep (λz=>?_) λb _ z=>z.elim .inl λz=> .inr (.inl z)⟩;rcases z with z|z
  .exact h.nT p z (.inr Zz)
  .exact(E.dom p z).ne i
def Post.val(k:Keep c δ H δ2 g)(E:ER K g T c δ2)(r:Rep K g (λa=>OwnA c δ2 a\/T a) d w):Post K T c δ H (d,C) δ2 w g:=⟨k,E,r⟩
end
def jd{e f:Type}{a c:e}{b d:f}(h:Y (a,b)=Y (c,d)):a=c/\b=d:=by cases h;exact⟨rfl,rfl⟩
noncomputable def fC(d:D):F:=λδ=>Y ((d,C),δ)
noncomputable def ju(i:Nat):F:=λδ=>match δ[i]? with
 |some (Y (d,_))=>Y ((d,C),δ.set i<|Y (d,C))
 |_=>I
section
variable {X:Cx}{a b c:iI}{g:bI}{n m l:F}
def PX.imp(h:PE X e t)(k: ∀i T Q,tF X.K f i T Q->t i T Q):PX X e f:=λd s i T Q U j=>h d s i T Q U<|k i T Q j
def Ua{i j}:PX X (.Constant (.int i) j g) (fC<|.int i):=PX.imp UA λo U Q h=>by obtain⟨f,T,r,d,E,e,k⟩:=h;cases e;exact k _ _ (Post.val .refl E (by first|exact Rep.mkInt|exact Rep.mkBl|exact Rep.mkNon|exact Rep.mkStr))
def Sj{i j}:PX X (.Constant (.bool i) j g) (fC<|.bl i):=PX.imp Wv λo U Q h=>by obtain⟨f,T,r,d,E,e,k⟩:=h;cases e;exact k _ _ (Post.val .refl E (by first|exact Rep.mkInt|exact Rep.mkBl|exact Rep.mkNon|exact Rep.mkStr))
def T6{j}:PX X (.Constant .none j g) (fC .non):=PX.imp Uy λi U Q h=>by obtain⟨f,T,r,d,E,e,k⟩:=h;cases e;exact k _ _ (Post.val .refl E (by first|exact Rep.mkInt|exact Rep.mkBl|exact Rep.mkNon|exact Rep.mkStr))
def TX{i j}:PX X (.Constant (.str i) j g) (fC<|.str i):=PX.imp Uw λo U Q h=>by obtain⟨f,T,r,d,E,e,k⟩:=h;cases e;exact k _ _ (Post.val .refl E (by first|exact Rep.mkInt|exact Rep.mkBl|exact Rep.mkNon|exact Rep.mkStr))
def TU{i:Nat}{x:ax}(s:X.N[i]?=Y x)(hv:Vis X.env.scope x)(hd:(x==("__debug__":ax))=C)(t:(x==("__classdict__":ax))=C):PX X (.Name x g) (ju i):=PX.imp (Aa s hv hd t) λy U Q h=>by
 obtain⟨u,T,r,w,E,e,k⟩:=h;unfold ju at e
 cases f:u[i]? with
 |none=>rw[f] at e;cases e
 |some o=>
  cases o with
  |none=>rw[f] at e;cases e
  |some p=>obtain⟨d,b⟩:=p;rw[f] at e;cases e;obtain⟨j,v,h1,q⟩:=E.freeze f;exact⟨v,h1,k v U<|Post.val .set j q⟩
end
inductive Opd where
 |val(r:D×Bool)|slot(i:Nat)
noncomputable def res(a:Dn):Opd->Option D
 | .val r=>Y r.1
 | .slot i=>match a[i]? with
  |some (Y (d,_))=>Y d
  |_=>I
def ke(K:iW)(U:Hp)(O:AP')(d:D)(v:V):Prop:=Rep K U O d v\/ ∃a,v= .ref a/\OwnOk K U O d a
abbrev FO:=Dn->Option (Opd×Dn)
def PostO(K:iW)(T:AP')(b:L2.St)(c:Dn)(U:Hp)(o:Opd)(a:Dn)(v:V)(H':Hp):Prop:=
 match o with
 | .val r=>Post K T b c U r a v H'
 | .slot i=>Keep b c U a H'/\ER K H' T b a/\b[i]?=Y (Y v)
noncomputable def TmpO(T:AP')(o:Opd)(v:V):AP':=match o with
 | .val r=>Tmp T r v
 | .slot _=>T
def tO(K:iW)(f:FO):TE:=λd U Q=> ∃b T o a,ER K U T d b/\f b=Y (o,a)/\ ∀v c,PostO K T d b U o a v c->Q v c
def PO(X:Cx)(e:iI)(f:FO):Prop:=PE X e<|tO X.K f
noncomputable def iA(f:F):FO:=λδ=>(f δ).bind λp=>Y (.val p.1,p.2)
noncomputable def iw(i:Nat):FO:=λδ=>match δ[i]? with
 |some (Y _)=>Y (.slot i,δ)
 |_=>I
def PE.imp'(h:PE X e t)(k: ∀b T Q,d b T Q->t b T Q):PE X e d:=λa s b T Q U c=>h a s b T Q U<|k b T Q c
section
variable {X:Cx}{a:bI}
def PX.po(h:PX X e f):PO X e (iA f):=PE.imp' h λj U Q g=>by
 obtain⟨c,T,o,i,E,e,k⟩:=g;unfold iA at e
 cases h1:f c with
 |none=>rw[h1] at e;cases e
 |some p=>obtain⟨r,b⟩:=p;rw[h1] at e;obtain⟨rfl,rfl⟩:=jd e;exact⟨c,T,r,b,E,h1,λv d P=>k v d P⟩
def Us{i:Nat}{x:ax}(f:X.N[i]?=Y x)(hv:Vis X.env.scope x)(hd:(x==("__debug__":ax))=C)(g:(x==("__classdict__":ax))=C):PO X (.Name x a) (iw i):=PE.imp' (Aa f hv hd g) λr U Q h=>by
 obtain⟨j,T,o,l,E,e,k⟩:=h;unfold iw at e
 cases c:j[i]? with
 |none=>rw[c] at e;cases e
 |some q=>
  cases q with
  |none=>rw[c] at e;cases e
  |some p=>obtain⟨d,b⟩:=p;rw[c] at e;obtain⟨rfl,rfl⟩:=jd e;obtain⟨m,v,h1,n⟩:=E.freeze c;exact⟨v,h1,k v U ⟨.refl,E,h1⟩⟩
end
structure Ops(K:iW)(T:AP')(σ:L2.St)(δ:Dn)(H:Hp)(os:List Opd)(vs:List V)(δ':Dn)(H':Hp)(T':AP'):Prop where
 len:os.length=ZB vs
 keep:Keep σ δ H δ' H'
 er:ER K H' T' σ δ'
 tt: ∀a,T a->T' a
 val: ∀(j:Nat) (d:D) (v:V),os[j]?=Zv (.val (d,Zy))->vs[j]?=Zv v->Rep K H' (λa=>OwnA σ δ' a\/T a) d v
 tmp: ∀(j:Nat) (d:D) (v:V),os[j]?=Zv (.val (d,Zx))->vs[j]?=Zv v-> ∃p,v= .ref p/\T' p/\H p=Zw/\OwnOk K H' (λa=>OwnA σ δ' a\/T a) d p
 slt: ∀(j i:Nat) (v:V),os[j]?=Zv (.slot i)->vs[j]?=Zv v->σ[i]?=Zv (Zv v)
section
variable {K:iW}{T T':AP'}{b:L2.St}{δ a c:Dn}{H H' e:Hp}{os:List Opd}{vs:List V}{o:Opd}{v:V}
def Ops.nil(E:ER K H T b δ):Ops K T b δ H [] [] δ H T:=⟨rfl,.refl,E,λ_ z=>z,λj d v h=>by simp at h,λj d v h=>by simp at h,λj i v h=>by simp at h⟩
def PostO.keep(P:PostO K T b δ H o a v H'):Keep b δ H a H':=by
 cases o with
 |val r=>exact P.1
 |slot i=>exact P.1
def PostO.er(E:ER K H T b δ)(P:PostO K T b δ H o a v H'):ER K H' (TmpO T o v) b a:=by
 cases o with
 |val r=>exact Post.er E P
 |slot i=>exact P.2.1
end
def Gen(K:iW)(U:Hp)(O:AP')(z:D×Bool)(Q:VK):Prop:=
 match z with
 |(d,C)=> ∀w b,(∀a o,U a=Y o->b a=Y o)->Rep K b O d w->Q w b
 |(d,J)=> ∀p b,U p=I->(∀a o,U a=Y o->b a=Y o)->OwnOk K b (λa=>O a\/a=p) d p->Q (.ref p) b
section
variable {K:iW}{T m:AP'}{f:L2.St}{δ δ1 c δ2:Dn}{H s H' h:Hp}{os:List Opd}{vs:List V}{o:Opd}{v:V}{z:D×Bool}{Q:VK}
def Ops.cons(E:ER K H T f δ)(P:PostO K T f δ H o δ1 v s)(B:Ops K (TmpO T o v) f δ1 s os vs δ2 h m):Ops K T f δ H (o::os) (v::vs) δ2 h m:=by
 have A:=P.er E;have x:=B.keep.kp;have y:=B.keep.ow
 have t: ∀a,T a->TmpO T o v a:=λa z=>by
  cases o with
  |val r=>exact .inl z
  |slot i=>exact z
 refine⟨by simp[B.len],P.keep.trans B.keep,B.er,λa z=>B.tt a<|t a z,λj d w h1 g=>?_,λj d w h1 g=>?_,λj i w h1 g=>?_⟩
 .cases j with
  |zero=>simp at h1 g;subst h1;subst g;have q:Post K T f δ H (d,C) δ1 v s:=P;exact Rep.mono (λb k e n=>x b k e λz=>n<|.inl z) (λb _ z=>z.elim (λz=>bz<|y b z) bO) (q.rep E).2
  |succ j=>exact Rep.mono (λ_ _ e _=>e) (λb _ z=>z.elim bz λz=>bO<|t b z)<|B.val j d w (by simpa using h1) (by simpa using g)
 .cases j with
  |zero=>simp at h1 g;subst h1;subst g;have q:Post K T f δ H (d,J) δ1 v s:=P;obtain⟨p,rfl,u,U,ok⟩:=q.2;have l:TmpO T (.val (d,J)) (V.ref p) p:= .inr ⟨rfl,rfl⟩;refine⟨p,rfl,B.tt p l,u,ok.mono (λb k e n=>x b k e λz=>n<|.inl z) (λb _ z=>z.elim (λz=>bz<|y b z) λz=>bO<|bz z) λk e=>x p k e λz=>A.nT p z l⟩
  |succ j=>
   obtain⟨p,rfl,l,u,ok⟩:=B.tmp j d w (by simpa using h1) (by simpa using g);refine⟨p,rfl,l,?_,ok.mono (λ_ _ e _=>e) (λb _ z=>z.elim bz λz=>bO<|t b z) λ_ e=>e⟩
   cases O:H p with
   |none=>rfl
   |some k=>exact absurd u<|P.keep.dm p (by rw[O];simp)
 .cases j with
  |zero=>simp at h1 g;subst h1;subst g;exact P.2.2
  |succ j=>exact B.slt j i w (by simpa using h1) (by simpa using g)
def Ops.view(B:Ops K T f δ H os vs c H' m){j:Nat}{d:D}(h1:os[j]?=Y o)(n:vs[j]?=Y v)(g:res c o=Y d):ke K H' (λa=>OwnA f c a\/T a) d v:=by
 cases o with
 |val r=>
  obtain⟨e,b⟩:=r;have hd:e=d:=kE g;subst hd
  cases b with
  |false=>exact .inl<|B.val j e v h1 n
  |true=>obtain⟨p,rfl,_,_,ok⟩:=B.tmp j e v h1 n;exact .inr ⟨p,rfl,ok⟩
 |slot i=>
  have u:=B.slt j i v h1 n;unfold res at g;dsimp only at g
  cases l:c[i]? with
  |none=>rw[l] at g;cases g
  |some q=>
   cases q with
   |none=>rw[l] at g;cases g
   |some p=>
    obtain⟨e,b⟩:=p;rw[l] at g;have hd:e=d:=kE g;subst hd
    cases b with
    |false=>obtain⟨w,k,t⟩:=B.er.val i e l;rw[u] at k;cases k;exact .inl<|Rep.mono (λ_ _ e _=>e) (λb _ z=>z.elim bz λz=>bO<|B.tt b z) t
    |true=>obtain⟨a,k,t⟩:=B.er.own i e l;rw[u] at k;cases k;exact .inr ⟨a,rfl,t.mono (λ_ _ e _=>e) (λb _ z=>z.elim bz λz=>bO<|B.tt b z) λ_ e=>e⟩
def Ops.done(B:Ops K T f δ H os vs c H' m)(k: ∀v h,Post K T f δ H z c v h->Q v h):Gen K H' (λa=>OwnA f c a\/T a) z Q:=by
 obtain⟨d,b⟩:=z;have i: ∀{h:Hp},(∀a o,H' a=Y o->h a=Y o)-> ∀a,T a->Ow (h a):=λ{h} g a z=>(B.er.dom a<|B.tt a z).up<|g a
 cases b with
 |false=>intro w h g r;exact k w h ⟨B.keep.trans<|.ext g,B.er.mono (λb o e _=>g b o e) (λb _ z=>B.tt b z)<|i g,r⟩
 |true=>
  intro p h l g ok
  have j:H p=I:=by
   cases n:H p with
   |none=>rfl
   |some t=>exact absurd l<|B.keep.dm p (by rw[n];simp)
  refine k (.ref p) h ⟨B.keep.trans<|.ext g,p,rfl,j,B.er.mono (λb o e _=>g b o e) (λb q z=>z.elim (B.tt b) λz=>absurd (z▸l) q) λa z=>?_,ok.mono (λ_ _ e _=>e) (λb _ z=>?_) λ_ e=>e⟩
  .rcases z with z|z
   .exact i g a z
   .subst z;exact ok.ow
  .rcases z with z|z|z
   .exact bz (bz z)
   .exact bz (bO z)
   .exact bO z
def Gen.int(g:Gen K H O (.int i,C) Q):Q (.int i) H:=g _ H (λ_ _ e=>e) Rep.mkInt
def Gen.bl(g:Gen K H O (.bl i,C) Q):Q (.bl i) H:=g _ H (λ_ _ e=>e) Rep.mkBl
def lr{H:Hp}{p:iu}{o:HO}(b:H p=I): ∀a u,H a=Y u->upd H p o a=Y u:=λa u e=>by rw[jb (by intro z;subst z;rw[e] at b;cases b)];exact e
def Gen.lst{O:AP'}{l:List D}{xs:List V}{p:iu}(g:Gen K H O (.lst l,J) Q)(a:H p=I)(r:RepL K H O l xs):Q (.ref p) (upd H p<|.lst xs):=
 g p _ a (lr a) ⟨xs,ja,RepL.mono (λb o e _=>lr a b o e) (λb d z=>z.elim id λz=>absurd (z▸a) d) r⟩
def Gen.tup(g:Gen K H O (.tup l,C) Q)(a:H p=I)(np: ¬O p)(r:RepL K H O l xs):Q (.ref p) (upd H p<|.tup xs):=
 g _ _ (lr a) (Rep.mkTup ⟨ja,np⟩<|RepL.mono (λb o e _=>lr a b o e) (λb d z=>z) r)
def Ops.np(B:Ops K T f δ H os vs c H' m)(a: ¬Ow (H' p)): ¬(OwnA f c p\/T p):=λz=>a<|z.elim (λz=>B.er.ownOw z) λz=>B.er.dom p<|B.tt p z
end
noncomputable def kB(g:D->Option (D×Bool))(a:FO):F:=λδ=>(a δ).bind λp=>(res p.2 p.1).bind λx=>(g x).bind λz=>Y (z,p.2)
noncomputable def iN(g:D->D->Option (D×Bool))(a b:FO):F:=λδ=>(a δ).bind λp=>(b p.2).bind λq=>(res q.2 p.1).bind λx=>(res q.2 q.1).bind λy=>(g x y).bind λz=>Y (z,q.2)
noncomputable def ki:List FO->Dn->Option (List Opd×Dn)
 |[],a=>Y ([],a)
 |f::fs,a=>(f a).bind λp=>(ki fs p.2).bind λq=>Y (p.1::q.1,q.2)
noncomputable def uv(a:Dn):List Opd->Option (List D)
 |[]=>Y []
 |o::os=>(res a o).bind λd=>(uv a os).bind λl=>Y (d::l)
noncomputable def jh(g:List D->Option (D×Bool))(fs:List FO):F:=λδ=>(ki fs δ).bind λp=>(uv p.2 p.1).bind λds=>(g ds).bind λz=>Y (z,p.2)
def tA(K:iW)(fs:List FO):TA:=λe U Q=> ∃b T os a,ER K U T e b/\ki fs b=Y (os,a)/\ ∀d c f,Ops K T e b U os d a c f->Q d c
section
variable {X:Cx}{e a b:iI}{m:kr}{i n:FO}{fs:List FO}{c:bI}
def ir{d g:Type}{x:Option d}{f:d->Option g}{b:g}(h:x.bind f=Y b): ∃a,x=Y a/\f a=Y b:=by
 cases x with
 |none=>cases h
 |some a=>exact⟨a,rfl,h⟩
def Y1(K:iW)(r:V->Hp->VK->Prop)(g:D->Option (D×Bool)):Prop:=
 ∀x z v U (O:AP') (Q:VK),(∀p,¬Ow (U p)-> ¬O p)->ke K U O x v->g x=Y z->Gen K U O z Q->r v U Q
def VA(K:iW)(r:R2)(g:D->D->Option (D×Bool)):Prop:=
 ∀x y z v u U (O:AP') (Q:VK),(∀p,¬Ow (U p)-> ¬O p)->ke K U O x v->ke K U O y u->g x y=Y z->Gen K U O z Q->r v u U Q
def YZ(K:iW)(r:List V->Hp->VK->Prop)(g:List D->Option (D×Bool)):Prop:=
 ∀ds z f U (O:AP') (Q:VK),(∀p,¬Ow (U p)-> ¬O p)->ZB ds=ZB f->(∀(j:Nat) d v,ds[j]?=Y d->f[j]?=Y v->ke K U O d v)->g ds=Y z->Gen K U O z Q->r f U Q
def T5{r:V->Hp->VK->Prop}{g:D->Option (D×Bool)}(h:PE X e (tUn r<|tO X.K i))(u:Y1 X.K r g):PX X e (kB g i):=PX.imp h λU O Q w=>by obtain⟨y,T,N,A,E,e,k⟩:=w;obtain⟨⟨o,d⟩,h1,e⟩:=ir e;obtain⟨x,q,e⟩:=ir e;obtain⟨z,s,e⟩:=ir e;obtain⟨rfl,rfl⟩:=jd e;refine⟨y,T,o,d,E,h1,λv l f=>?_⟩;have B:=Ops.cons E f<|Ops.nil<|f.er E;exact u x z v l _ Q (λp t=>B.np t) (B.view (j:=0) H H q) s (B.done k)
def T4{r:R2}{g:D->D->Option (D×Bool)}(h:PE X e (tOp r (tO X.K i)<|tO X.K n))(L:VA X.K r g):PX X e (iN g i n):=PX.imp h λY H Q O=>by obtain⟨J,T,U,M,E,e,k⟩:=O;obtain⟨⟨o,d⟩,h1,e⟩:=ir e;obtain⟨⟨G,l⟩,t,e⟩:=ir e;obtain⟨x,w,e⟩:=ir e;obtain⟨y,A,e⟩:=ir e;obtain⟨z,C,e⟩:=ir e;obtain⟨rfl,rfl⟩:=jd e;refine⟨J,T,o,d,E,h1,λv N f=>⟨d,TmpO T o v,G,l,f.er E,t,λu s q=>?_⟩⟩;have B:=Ops.cons E f<|Ops.cons (f.er E) q<|Ops.nil<|q.er<|f.er E;exact L x y z v u s _ Q (λp I=>B.np I) (B.view (j:=0) Zz Zz w) (B.view (j:=1) Zz Zz A) C (B.done k)
def yR:PA X [] (tA X.K []):=λc d s g O Q U h=>by obtain⟨j,T,os,f,E,e,k⟩:=h;obtain⟨rfl,rfl⟩:=jd e;exact oh c d s g O Q U<|k [] O T<|Ops.nil E
def sP(t:PO X e i)(u:PA X m (tA X.K fs))(w:ac (e::m) X.env=(C,aE e X.env)::ac m X.env):PA X (e::m) (tA X.K (i::fs)):=λc d s z O Q U h=>by obtain⟨x,T,os,y,E,e,k⟩:=h;unfold ki at e;obtain⟨⟨o,f⟩,h1,e⟩:=ir e;obtain⟨⟨g,j⟩,r,e⟩:=ir e;obtain⟨rfl,rfl⟩:=jd e;exact lu t u w c d s z O Q U ⟨x,T,o,f,E,h1,λv A l=>⟨f,TmpO T o v,g,j,l.er E,r,λN p q B=>k _ p q (Ops.cons E l B)⟩⟩
def oY{k:Dn}: ∀{os:List Opd} {f:List D},uv k os=Y f->ZB f=os.length/\ ∀(j:Nat) d,f[j]?=Y d-> ∃o,os[j]?=Y o/\res k o=Y d:=by
 intro t
 induction t with
 |nil=>intro f h;cases h;exact⟨rfl,λj d h=>by simp at h⟩
 |cons o os s=>
  intro f h;unfold uv at h;obtain⟨d,h1,h⟩:=ir h;obtain⟨l,p,h⟩:=ir h;cases h;obtain⟨q,r⟩:=s p;refine⟨by simp[q],λj e g=>?_⟩
  cases j with
  |zero=>simp at g;subst g;exact⟨o,rfl,h1⟩
  |succ j=>obtain⟨u,v,w⟩:=r j e (by simpa using g);exact⟨u,by simpa using v,w⟩
def Qg{r:List V->Hp->VK->Prop}{g:List D->Option (D×Bool)}(h:PE X e (tCB r<|tA X.K fs))(C:YZ X.K r g):PX X e (jh g fs):=PX.imp h λN H Q U=>by obtain⟨O,T,M,G,E,e,k⟩:=U;obtain⟨⟨os,l⟩,h1,e⟩:=ir e;obtain⟨s,t,e⟩:=ir e;obtain⟨z,u,e⟩:=ir e;obtain⟨rfl,rfl⟩:=jd e;obtain⟨w,x⟩:=oY t;refine⟨O,T,os,l,E,h1,λL q J B=>?_⟩;refine C s z L q _ Q (λp A=>B.np A) (w.trans B.len) (λj d v hd hv=>?_) u (B.done k);obtain⟨o,y,f⟩:=x j d hd;exact B.view y hv f
end
open PySem.SeqAt
mutual
/-- ==of data -/
noncomputable def D.eqb:D->D->Bool
 | .non,.non=>J
 | .bl a,.bl b=>a==b
 | .bl a,.int b=>(if a then 1 else 0)==b
 | .int a,.bl b=>a==(if b then 1 else 0)
 | .int a,.int b=>a==b
 | .str a,.str b=>a==b
 | .tup l,.tup m=>D.eqbL l m
 | .lst l,.lst m=>D.eqbL l m
 | .oth _ _ _,.oth _ _ _=>J
 |_,_=>C
noncomputable def D.eqbL:List D->List D->Bool
 |[],[]=>J
 |a::l,b::m=>D.eqb a b&&D.eqbL l m
 |_,_=>C
end
mutual
noncomputable def D.dep:D->Nat
 | .tup l=>D.depL l+1
 | .lst l=>D.depL l+1
 | .oth _ _ _=>20000
 |_=>0
noncomputable def D.depL:List D->Nat
 |[]=>0
 |d::l=>max (D.dep d)<|D.depL l
end
mutual
theorem D.eqb_refl: ∀d:D,D.eqb d d=J
 | .non=>rfl
 | .bl a=>by simp[D.eqb]
 | .int a=>by simp[D.eqb]
 | .str a=>by simp[D.eqb]
 | .tup l=>by rw[D.eqb];exact D.eqbL_refl l
 | .lst l=>by rw[D.eqb];exact D.eqbL_refl l
 | .oth _ _ _=>by rw[D.eqb]
theorem D.eqbL_refl: ∀l:List D,D.eqbL l l=J
 |[]=>rfl
 |d::l=>by rw[D.eqbL,D.eqb_refl d,D.eqbL_refl l];rfl
end
theorem D.dep_mem{d:D}: ∀{l:List D} {j:Nat},l[j]?=Y d->d.dep<=D.depL l
 |[],j,h=>by simp at h
 |e::l,0,h=>by simp at h;subst h;rw[D.depL];exact Nat.le_max_left _ _
 |e::l,j+1,h=>by rw[D.depL];exact ma (D.dep_mem<|by simpa using h)<|Nat.le_max_right _ _
noncomputable def tD(l m:List D)(j:Nat):Bool:=match l[j]?,m[j]? with
 |some d,Y e=>D.eqb d e
 |_,_=>J
theorem nD: ∀l m:List D,((aw<|min (ZB l)<|ZB m).all (tD l m)&&(ZB l)==ZB m)=D.eqbL l m
 |[],[]=>rfl
 |[],e::m=>by simp[D.eqbL]
 |d::l,[]=>by simp[D.eqbL]
 |d::l,e::m=>by
  rw[D.eqbL,<-nD l m];simp only[lQ,Nat.succ_min_succ,ek,vn,fF,sx];have a:tD (d::l) (e::m) 0=D.eqb d e:=rfl;have h1:(λx=>tD (d::l) (e::m)<|Nat.succ x)=tD l m:=by funext x;simp[tD]
  rw[a];simp only[h1,gg]
  congr 2
  simp
section
variable {X:Cx}{pins:jq}{σ:L2.St}{H:Hp}{s:iC}
def lz(h:ke X.K H O (.tup l) v): ∃a xs,v= .ref a/\SqT X.K H a xs/\RepL X.K H O l xs:=by
 rcases h with h|⟨a,rfl,h⟩
 .obtain⟨a,xs,e,q,r⟩:=h.tup;exact⟨a,xs,e,q.sq,r⟩
 .exact h.elim
def kn(h:ke X.K H O (.lst l) v): ∃a xs,v= .ref a/\SqL X.K H a xs/\RepL X.K H O l xs:=by
 rcases h with h|⟨a,rfl,h⟩
 .obtain⟨a,xs,e,q,r⟩:=h.lst;exact⟨a,xs,e,q.sq,r⟩
 .obtain⟨xs,e,r⟩:=h;exact⟨a,xs,rfl,.inl<|.inl e,r⟩
def RepL.views{O:AP'}{l:List D}{xs:List V}(r:RepL X.K H O l xs){j:Nat}{d:D}{v:V}(h1:l[j]?=Y d)(b:xs[j]?=Y v):Rep X.K H O d v:=by obtain⟨w,a,c⟩:=r.get h1;rw[b] at a;cases a;exact c
def Nm(U:Inv X pins σ H s)(h:OthB X.K (H a) k l i us): ∃o,s.heap.get? a=Y o/\(o.cls= .type "dict"\/o.cls= .type "set"\/ ∃T,o.cls= .ref T):=by
 cases k with
 |dct=>
  rcases h with⟨b,e,_⟩|⟨b,e,_⟩
  .obtain⟨_,_,i,_,o,d,g,h1,c,_⟩:=(show ObjOk X.prog X.w H s.heap a (.dK b) from U.hok a _ e)
   exact⟨o,h1,.inl c.1⟩
  .obtain⟨_,_,m,_,o,d,g,h1,c,_⟩:=(show ObjOk X.prog X.w H s.heap a (.dT b) from U.hok a _ e)
   exact⟨o,h1,.inl c.1⟩
 |set=>
  obtain⟨_,j,e,_⟩:=h;obtain⟨d,n,t,h1,_⟩:=(show ObjOk X.prog X.w H s.heap a (.stt j) from U.hok a _ e)
  exact⟨_,h1,.inr<|.inl Zz⟩
 |exc T=>
  obtain⟨_,o,e,h1,_⟩:=h;obtain⟨f,_⟩:=(show ObjOk X.prog X.w H s.heap a (.frz o<|.own 0) from U.hok a _ e)
  exact⟨o,f,.inr<|.inr ⟨T,h1⟩⟩
 |_=>exact h.elim
def El(U:Inv X pins σ H s)(h1:SqT X.K H a xs)(f:SqL X.K H a k):False:=by obtain⟨g,_,⟨o,e,c,_⟩,_⟩:=U.tuple h1;obtain⟨h,_,⟨j,i,d,b,_⟩,_⟩:=U.list f;rw[e] at d;cases d;rw[c] at b;exact absurd b (by simp)
def QR(U:Inv X pins σ H s)(h1:SqT X.K H a xs)(f:OthB X.K (H a) k h j us):False:=by obtain⟨g,_,⟨o,e,c,_⟩,_⟩:=U.tuple h1;obtain⟨i,d,b⟩:=Nm U f;rw[e] at d;cases d;rw[c] at b;rcases b with b|b|⟨T,b⟩<;>exact absurd b (by simp)
def QU(U:Inv X pins σ H s)(h1:SqL X.K H a xs)(f:OthB X.K (H a) k h j us):False:=by obtain⟨g,_,⟨o,n,e,c,_⟩,_⟩:=U.list h1;obtain⟨i,d,b⟩:=Nm U f;rw[e] at d;cases d;rw[c] at b;rcases b with b|b|⟨T,b⟩<;>exact absurd b (by simp)
mutual
theorem Rep.inj(U:Inv X pins σ H s): ∀{d e:D} {v:V},d.dep<20000->Rep X.K H O d v->Rep X.K H u e v->d=e
 | .non,e,v,i,h,c=>by
  have:=h.non;subst this
  cases e with
  |non=>rfl
  |bl b=>have:=c.bl;cases this
  |int b=>have:=c.int;cases this
  |str b=>have:=c.str;cases this
  |tup m=>obtain⟨a,f,z,_⟩:=c.tup;cases z
  |lst m=>obtain⟨a,f,z,_⟩:=c.lst;cases z
  |oth m n o=>obtain⟨a,f,z,_⟩:=c.oth;cases z
 | .bl b,e,v,i,h,c=>by
  have:=h.bl;subst this
  cases e with
  |non=>have:=c.non;cases this
  |bl b=>have:=c.bl;cases this;rfl
  |int b=>have:=c.int;cases this
  |str b=>have:=c.str;cases this
  |tup m=>obtain⟨a,f,z,_⟩:=c.tup;cases z
  |lst m=>obtain⟨a,f,z,_⟩:=c.lst;cases z
  |oth m n o=>obtain⟨a,f,z,_⟩:=c.oth;cases z
 | .int b,e,v,i,h,c=>by
  have:=h.int;subst this
  cases e with
  |non=>have:=c.non;cases this
  |bl b=>have:=c.bl;cases this
  |int b=>have:=c.int;cases this;rfl
  |str b=>have:=c.str;cases this
  |tup m=>obtain⟨a,f,z,_⟩:=c.tup;cases z
  |lst m=>obtain⟨a,f,z,_⟩:=c.lst;cases z
  |oth m n o=>obtain⟨a,f,z,_⟩:=c.oth;cases z
 | .str b,e,v,i,h,c=>by
  have:=h.str;subst this
  cases e with
  |non=>have:=c.non;cases this
  |bl b=>have:=c.bl;cases this
  |int b=>have:=c.int;cases this
  |str b=>have:=c.str;cases this;rfl
  |tup m=>obtain⟨a,f,z,_⟩:=c.tup;cases z
  |lst m=>obtain⟨a,f,z,_⟩:=c.lst;cases z
  |oth m n o=>obtain⟨a,f,z,_⟩:=c.oth;cases z
 | .tup l,e,v,i,h,c=>by
  rw[D.dep] at i;obtain⟨a,f,rfl,q,r⟩:=h.tup
  cases e with
  |non=>have:=c.non;cases this
  |bl b=>have:=c.bl;cases this
  |int b=>have:=c.int;cases this
  |str b=>have:=c.str;cases this
  |tup m=>obtain⟨k,p,z,g,j⟩:=c.tup;cases z;have:=U.tuple_inj q.sq g.sq;subst this;rw[RepL.inj U (by lia) r j]
  |lst m=>obtain⟨k,p,z,g,j⟩:=c.lst;cases z;exact(El U q.sq g.sq).elim
  |oth m n o=>obtain⟨k,t,z,g,j⟩:=c.oth;cases z;exact(QR U q.sq g.2).elim
 | .lst l,e,v,i,h,c=>by
  rw[D.dep] at i;obtain⟨a,f,rfl,q,r⟩:=h.lst
  cases e with
  |non=>have:=c.non;cases this
  |bl b=>have:=c.bl;cases this
  |int b=>have:=c.int;cases this
  |str b=>have:=c.str;cases this
  |tup m=>obtain⟨k,p,z,g,j⟩:=c.tup;cases z;exact(El U g.sq q.sq).elim
  |lst m=>obtain⟨k,p,z,g,j⟩:=c.lst;cases z;have:=U.list_inj q.sq g.sq;subst this;rw[RepL.inj U (by lia) r j]
  |oth m n o=>obtain⟨k,t,z,g,j⟩:=c.oth;cases z;exact(QU U q.sq g.2).elim
 | .oth _ _ _,e,v,i,h,c=>by rw[D.dep] at i;lia
theorem RepL.inj(U:Inv X pins σ H s){O b:AP'}: ∀{l m:List D} {vs:List V},D.depL l<20000->RepL X.K H O l vs->RepL X.K H b m vs->l=m
 |[],m,vs,_,h,a=>by
  rw[RepL] at h;subst h
  cases m with
  |nil=>rfl
  |cons e m=>rw[RepL] at a;obtain⟨_,_,z,_⟩:=a;cases z
 |d::l,m,vs,i,h,a=>by
  rw[D.depL] at i;rw[RepL] at h;obtain⟨v,r,rfl,h1,c⟩:=h
  cases m with
  |nil=>rw[RepL] at a;cases a
  |cons e m=>rw[RepL] at a;obtain⟨k,j,z,f,g⟩:=a;cases z;rw[Rep.inj U (by lia) h1 f,RepL.inj U (by lia) c g]
end
def wH(h:ke X.K H O d v)(hd:d.dep=0)(nt: ∀l,d≠ .tup l)(b: ∀l,d≠ .lst l):Rep X.K H O d v:=by
 rcases h with h|⟨a,rfl,h⟩
 .exact h
 .cases d with
  |lst l=>exact absurd Zz<|b l
  |oth _ _ _=>rw[D.dep] at hd;lia
  |_=>exact h.elim
inductive Sh(X:Cx)(H:Hp)(s:iC)(O:AP'):D->V->iK->Prop
 |non:Sh X H s O .non .non .none
 |bl (b:Bool):Sh X H s O (.bl b) (.bl b) (.bool b)
 |int (i:Int) (t:wE):Sh X H s O (.int i) (.int i) (.int i t)
 |str (x:ax) (t:wE):Sh X H s O (.str x) (.str x) (.str x t)
 |tup {l:List D} {p:iu} {xs:List V} {its:jy} (q:SqT X.K H p xs) (r:RepL X.K H O l xs) (v:Vals xs its) (pl:ro s.heap p its.toArray):Sh X H s O (.tup l) (.ref p) (.ref p)
 |lst {l:List D} {p:iu} {xs:List V} {its:jy} (q:SqL X.K H p xs) (r:RepL X.K H O l xs) (v:Vals xs its) (pl:s.heap.IsList p its.toArray):Sh X H s O (.lst l) (.ref p) (.ref p)
def tN(U:Inv X pins σ H s)(h:ke X.K H O d v)(b:RelV v a)(i:d.dep<20000):Sh X H s O d v a:=by
 cases d with
 |oth m k n=>rw[D.dep] at i;omega
 |tup l=>obtain⟨p,j,rfl,q,r⟩:=lz h;cases b;obtain⟨e,g,f,_⟩:=U.tuple q;exact .tup q r g f
 |lst l=>obtain⟨p,j,rfl,q,r⟩:=kn h;cases b;obtain⟨e,g,f,_⟩:=U.list q;exact .lst q r g f.isList
 |non=>have:=(wH h Zz (by simp)<|by simp).non;subst this;cases b;exact .non
 |bl c=>have:=(wH h Zz (by simp)<|by simp).bl;subst this;cases b;exact .bl c
 |int c=>have:=(wH h Zz (by simp)<|by simp).int;subst this;obtain⟨t,rfl⟩:=b;exact .int c t
 |str c=>have:=(wH h Zz (by simp)<|by simp).str;subst this;obtain⟨t,rfl⟩:=b;exact .str c t
def BN(I:Inv X pins σ H s)(n:Nat)
  (ih: ∀(d e:D) (v u:V) (a b:iK) (O O':AP') (A:iU),ke X.K H O d v->ke X.K H O' e u->RelV v a->RelV u b->d.dep+1<=n->e.dep<20000->A.units+n<aT+1->EqAt A s a b (D.eqb d e)):
  ∀(d e:D) (v u:V) (a b:iK) (O O':AP') (A:iU),ke X.K H O d v->ke X.K H O' e u->RelV v a->RelV u b->d.dep<=n->e.dep<20000->A.units+n<aT->EqAt A s a b (D.eqb d e):=by
 intro d e v u a b O O' A hd he o t N o7 hA;have h:A.units<cLine:=by lia
 have l5:aT=9900:=rfl
 have L: ∀(l m:List D) (T G:List V) (c C':jy) (R S:AP'),D.depL l+1<=n->D.depL m<20000->RepL X.K H R l T->RepL X.K H S m G->Vals T c->Vals G C'->
   ∀j (h1:j<c.toArray.size) (Q:j<C'.toArray.size),EqAt A.in1 s c.toArray[j] C'.toArray[j] (tD l m j):=λl m T G c C' R S F P r1 i M k j h1 Q=>by
  have e1:=M.length;have e2:=k.length;have e3:=r1.length;have e4:=i.length;simp only[kj] at h1 Q;have hx:T[j]?=Y T[j]:=jt (by lia);have hy:G[j]?=Y G[j]:=jt (by lia);have Z:l[j]?=Y l[j]:=jt (by lia);have W:m[j]?=Y m[j]:=jt (by lia);obtain⟨w,w1,w2⟩:=M.get hx;obtain⟨w',w3,w4⟩:=k.get hy
  have i1:c.toArray[j]=w:=by have:c[j]?=Y c[j]:=jt (by lia);rw[this] at w1;simpa using w1
  have i2:C'.toArray[j]=w':=by have:C'[j]?=Y C'[j]:=jt (by lia);rw[this] at w3;simpa using w3
  rw[i1,i2];have hj:tD l m j=D.eqb l[j] m[j]:=by unfold tD;rw[Z,W]
  rw[hj];have af:=D.dep_mem Z;have hdep2:=D.dep_mem W;exact ih _ _ _ _ _ _ R S A.in1 (.inl<|r1.views Z hx) (.inl<|i.views W hy) w2 w4 (by lia) (by lia) (by show A.units+1+n<aT+1;lia)
 have h1:=tN I hd o (by lia);have Q:=tN I he t o7
 cases h1 with
 |non=>
  cases Q with
  |non=>exact mC o t Zz Zz
  |bl g=>exact mC o t Zz Zz
  |int g x=>exact mC o t Zz Zz
  |str g x=>exact mC o t Zz Zz
  |tup B i k f=>exact EqAt.none_tuple f h
  |lst B i k f=>exact EqAt.none_list f h
 |bl J'=>
  cases Q with
  |non=>exact mC o t Zz Zz
  |bl g=>exact mC o t Zz Zz
  |int g x=>exact mC o t Zz Zz
  |str g x=>exact mC o t Zz Zz
  |tup B i k f=>exact EqAt.bool_tuple J' f h
  |lst B i k f=>exact EqAt.bool_list J' f h
 |int J' Y'=>
  cases Q with
  |non=>exact mC o t Zz Zz
  |bl g=>exact mC o t Zz Zz
  |int g x=>exact mC o t Zz Zz
  |str g x=>exact mC o t Zz Zz
  |tup B i k f=>exact EqAt.int_tuple J' Y' f h
  |lst B i k f=>exact EqAt.int_list J' Y' f h
 |str J' Y'=>
  cases Q with
  |non=>exact mC o t Zz Zz
  |bl g=>exact mC o t Zz Zz
  |int g x=>exact mC o t Zz Zz
  |str g x=>exact mC o t Zz Zz
  |tup B i k f=>exact EqAt.str_tuple J' Y' f h
  |lst B i k f=>exact EqAt.str_list J' Y' f h
 | @tup l p T c q r M y=>
  cases Q with
  |non=>exact EqAt.tuple_none y h
  |bl g=>exact EqAt.tuple_bool g y h
  |int g x=>exact EqAt.tuple_int g x y h
  |str g x=>exact EqAt.tuple_str g x y h
  | @tup m p2 G C' B i k f=>
   by_cases U:p=p2
   .subst U;have:=I.tuple_inj q B;subst this;rw[RepL.inj I (by rw[D.dep] at N;lia) r i,D.eqb_refl];exact gK _
   .refine .of_refs U ?_;have F:D.depL l+1<=n:=by rw[D.dep] at N;exact N
    have P:D.depL m<20000:=by rw[D.dep] at o7;lia
    have z:=RcAt.tuples y f h<|L l m T G c C' _ _ F P r i M k;have e1:=M.length;have e2:=k.length;have e3:=r.length;have e4:=i.length;simp only[kj] at z;rw[show c.length=l.length by lia,show C'.length=m.length by lia,nD] at z;rw[D.eqb];exact z
  |lst B i k f=>exact EqAt.tuple_list y f h
 | @lst l p T c q r M y=>
  cases Q with
  |non=>exact EqAt.list_none y h
  |bl g=>exact EqAt.list_bool g y h
  |int g x=>exact EqAt.list_int g x y h
  |str g x=>exact EqAt.list_str g x y h
  |tup B i k f=>exact EqAt.list_tuple y f h
  | @lst m p2 G C' B i k f=>
   by_cases U:p=p2
   .subst U;have:=I.list_inj q B;subst this;rw[RepL.inj I (by rw[D.dep] at N;lia) r i,D.eqb_refl];exact gK _
   .refine .of_refs U ?_;have F:D.depL l+1<=n:=by rw[D.dep] at N;exact N
    have P:D.depL m<20000:=by rw[D.dep] at o7;lia
    have e1:=M.length;have e2:=k.length;have e3:=r.length;have e4:=i.length;have al:=nD l m;by_cases E:l.length=m.length
    .have z:=RcAt.lists y f (by simp only[kj];lia) h<|L l m T G c C' _ _ F P r i M k;simp only[kj] at z;rw[show c.length=min l.length m.length by lia] at z;rw[D.eqb,<-al,E];rw[E] at z;simpa using z
    .have z:=RcAt.lists_lengths y f (by simp only[kj,bne_iff_ne,ne_eq];lia) h;rw[D.eqb,<-al];rw[show(l.length==m.length)=C by simpa using E];simpa using z
def AG(U:Inv X pins σ H s): ∀(n:Nat) (d e:D) (v u:V) (a b:iK) (O c:AP') (A:iU),ke X.K H O d v->ke X.K H c e u->RelV v a->RelV u b->d.dep<=n->e.dep<20000->A.units+n<aT->EqAt A s a b (D.eqb d e):=by
 intro n
 induction n with
 |zero=>intro d e v u a b O c A hd f i j g h k;exact BN U 0 (λd e v u a b O c A hd f i j g h k=>absurd g<|by lia) d e v u a b O c A hd f i j g h k
 |succ n l=>intro d e v u a b O c A hd f i j g h k;exact BN U (n+1) (λd e v u a b O c A hd f i j g h k=>l d e v u a b O c A hd f i j (by lia) h<|by lia) d e v u a b O c A hd f i j g h k
end
section
variable {X:Cx}{c:jq}{f:L2.St}{H:Hp}{s:iC}
def Fd(I:Inv X c f H s){A:iU}{n:Nat}(U:A.units+n<aT): ∀(l m:List D) (d e:List V) (a b:jy) (g h:AP'),D.depL l+1<=n->D.depL m<20000->RepL X.K H g l d->RepL X.K H h m e->Vals d a->Vals e b->
   ∀j (h1:j<a.toArray.size) (p:j<b.toArray.size),EqAt A.in1 s a.toArray[j] b.toArray[j] (tD l m j):=λl m d e a b g h Y F t u v x j h1 p=>by
 have G:=v.length;have J:=x.length;have M:=t.length;have N:=u.length;simp only[kj] at h1 p;have q:d[j]?=Zv d[j]:=jt (by omega);have r:e[j]?=Zv e[j]:=jt (by omega);have k:l[j]?=Zv l[j]:=jt (by omega);have i:m[j]?=Zv m[j]:=jt (by omega);obtain⟨w,y,O⟩:=v.get q;obtain⟨L,z,Q⟩:=x.get r
 have C:a.toArray[j]=w:=by have:a[j]?=Zv a[j]:=jt (by omega);rw[this] at y;simpa using y
 have E:b.toArray[j]=L:=by have:b[j]?=Zv b[j]:=jt (by omega);rw[this] at z;simpa using z
 rw[C,E];have B:tD l m j=D.eqb l[j] m[j]:=by unfold tD;rw[k,i]
 rw[B];have T:=D.dep_mem k;have o:=D.dep_mem i;exact AG I (n-1) _ _ _ _ _ _ g h A.in1 (.inl<|t.views k q) (.inl<|u.views i r) O Q (by omega) (by omega) (by show A.units+1+(n-1)<aT;omega)
def TK(I:Inv X c f H s)(hd:ke X.K H O d v)(he:ke X.K H O' e u)(ra:RelV v a)(rb:RelV u b)(G:d.dep<=n)(N:e.dep<20000)(hA:A.units+n<aT):RcAt A s a b (D.eqb d e):=by
 have j:A.units<cLine:=by lia
 have B:=Fd I hA;have W:aT=9900:=rfl;have h1:=tN I hd ra (by lia);have L:=tN I he rb N
 cases h1 with
 |non=>
  cases L with
  |non=>exact RcAt.none_none
  |bl g=>exact RcAt.none_bool g
  |int g i=>exact RcAt.none_int g i
  |str g i=>exact RcAt.none_str g i
  |tup E o t h=>exact RcAt.none_tuple h j
  |lst E o t h=>exact RcAt.none_list h j
 |bl k=>
  cases L with
  |non=>exact RcAt.bool_none k
  |bl g=>exact RcAt.bool_bool k g
  |int g i=>exact RcAt.bool_int k g i
  |str g i=>exact RcAt.bool_str k g i
  |tup E o t h=>exact RcAt.bool_tuple k h j
  |lst E o t h=>exact RcAt.bool_list k h j
 |int k x=>
  cases L with
  |non=>exact RcAt.int_none k x
  |bl g=>exact RcAt.int_bool k x g
  |int g i=>exact RcAt.int_int k x g i
  |str g i=>exact RcAt.int_str k x g i
  |tup E o t h=>exact RcAt.int_tuple k x h j
  |lst E o t h=>exact RcAt.int_list k x h j
 |str k x=>
  cases L with
  |non=>exact RcAt.str_none k x
  |bl g=>exact RcAt.str_bool k x g
  |int g i=>exact RcAt.str_int k x g i
  |str g i=>exact RcAt.str_str k x g i
  |tup E o t h=>exact RcAt.str_tuple k x h j
  |lst E o t h=>exact RcAt.str_list k x h j
 | @tup l p U C' q r Q w=>
  cases L with
  |non=>exact RcAt.tuple_none w j
  |bl g=>exact RcAt.tuple_bool g w j
  |int g i=>exact RcAt.tuple_int g i w j
  |str g i=>exact RcAt.tuple_str g i w j
  | @tup m p2 Y' T E o t h=>
   have J:D.depL l+1<=n:=by rw[D.dep] at G;exact G
   have M:D.depL m<20000:=by rw[D.dep] at N;lia
   have P:=Q.length;have R:=t.length;have S:=r.length;have V:=o.length;have z:=RcAt.tuples w h j<|B l m U Y' C' T _ _ J M r o Q t;simp only[kj] at z;rw[show C'.length=l.length by lia,show T.length=m.length by lia,nD] at z;rw[D.eqb];exact z
  |lst E o t h=>exact RcAt.tuple_list w h j
 | @lst l p U C' q r Q w=>
  cases L with
  |non=>exact RcAt.list_none w j
  |bl g=>exact RcAt.list_bool g w j
  |int g i=>exact RcAt.list_int g i w j
  |str g i=>exact RcAt.list_str g i w j
  |tup E o t h=>exact RcAt.list_tuple w h j
  | @lst m p2 Y' T E o t h=>
   have J:D.depL l+1<=n:=by rw[D.dep] at G;exact G
   have M:D.depL m<20000:=by rw[D.dep] at N;lia
   have P:=Q.length;have R:=t.length;have S:=r.length;have V:=o.length;have F:=nD l m;by_cases y:l.length=m.length
   .have z:=RcAt.lists w h (by simp only[kj];lia) j<|B l m U Y' C' T _ _ J M r o Q t;simp only[kj] at z;rw[show C'.length=min l.length m.length by lia] at z;rw[D.eqb,<-F,y];rw[y] at z;simpa using z
   .have z:=RcAt.lists_lengths w h (by simp only[kj,bne_iff_ne,ne_eq];lia) j;rw[D.eqb,<-F];rw[show(l.length==m.length)=C by simpa using y];simpa using z
def My(I:Inv X c f H s)(hd:ke X.K H O d v)(he:ke X.K H O' e u)(ra:RelV v a)(rb:RelV u b)(G:d.dep<=n)(N:e.dep<20000)(hA:A.units+n<aT):RcNeAt A s a b (!D.eqb d e):=by
 have j:A.units<cLine:=by lia
 have B:=Fd I hA;have W:aT=9900:=rfl;have h1:=tN I hd ra (by lia);have L:=tN I he rb N
 cases h1 with
 |non=>
  cases L with
  |non=>exact RcNeAt.none_none
  |bl g=>exact RcNeAt.none_bool g
  |int g i=>exact RcNeAt.none_int g i
  |str g i=>exact RcNeAt.none_str g i
  |tup E o t h=>exact RcNeAt.none_tuple h j
  |lst E o t h=>exact RcNeAt.none_list h j
 |bl k=>
  cases L with
  |non=>exact RcNeAt.bool_none k
  |bl g=>exact RcNeAt.bool_bool k g
  |int g i=>exact RcNeAt.bool_int k g i
  |str g i=>exact RcNeAt.bool_str k g i
  |tup E o t h=>exact RcNeAt.bool_tuple k h j
  |lst E o t h=>exact RcNeAt.bool_list k h j
 |int k x=>
  cases L with
  |non=>exact RcNeAt.int_none k x
  |bl g=>exact RcNeAt.int_bool k x g
  |int g i=>exact RcNeAt.int_int k x g i
  |str g i=>exact RcNeAt.int_str k x g i
  |tup E o t h=>exact RcNeAt.int_tuple k x h j
  |lst E o t h=>exact RcNeAt.int_list k x h j
 |str k x=>
  cases L with
  |non=>exact RcNeAt.str_none k x
  |bl g=>exact RcNeAt.str_bool k x g
  |int g i=>exact RcNeAt.str_int k x g i
  |str g i=>exact RcNeAt.str_str k x g i
  |tup E o t h=>exact RcNeAt.str_tuple k x h j
  |lst E o t h=>exact RcNeAt.str_list k x h j
 | @tup l p U C' q r Q w=>
  cases L with
  |non=>exact RcNeAt.tuple_none w j
  |bl g=>exact RcNeAt.tuple_bool g w j
  |int g i=>exact RcNeAt.tuple_int g i w j
  |str g i=>exact RcNeAt.tuple_str g i w j
  | @tup m p2 Y' T E o t h=>
   have J:D.depL l+1<=n:=by rw[D.dep] at G;exact G
   have M:D.depL m<20000:=by rw[D.dep] at N;lia
   have P:=Q.length;have R:=t.length;have S:=r.length;have V:=o.length;have z:=RcNeAt.tuples w h j<|B l m U Y' C' T _ _ J M r o Q t;simp only[kj] at z;rw[show C'.length=l.length by lia,show T.length=m.length by lia,nD] at z;rw[D.eqb];exact z
  |lst E o t h=>exact RcNeAt.tuple_list w h j
 | @lst l p U C' q r Q w=>
  cases L with
  |non=>exact RcNeAt.list_none w j
  |bl g=>exact RcNeAt.list_bool g w j
  |int g i=>exact RcNeAt.list_int g i w j
  |str g i=>exact RcNeAt.list_str g i w j
  |tup E o t h=>exact RcNeAt.list_tuple w h j
  | @lst m p2 Y' T E o t h=>
   have J:D.depL l+1<=n:=by rw[D.dep] at G;exact G
   have M:D.depL m<20000:=by rw[D.dep] at N;lia
   have P:=Q.length;have R:=t.length;have S:=r.length;have V:=o.length;have F:=nD l m;by_cases y:l.length=m.length
   .have z:=RcNeAt.lists w h (by simp only[kj];lia) j<|B l m U Y' C' T _ _ J M r o Q t;simp only[kj] at z;rw[show C'.length=min l.length m.length by lia] at z;rw[D.eqb,<-F,y];rw[y] at z;simpa using z
   .have z:=RcNeAt.lists_lengths w h (by simp only[kj,bne_iff_ne,ne_eq];lia) j;rw[D.eqb,<-F];rw[show(l.length==m.length)=C by simpa using y];simpa using z
def UM(j:X.A.units+60<aT):OpR X (aJ .Eq) (λx y H Q=> ∃O d e,ke X.K H O d x/\ke X.K H O e y/\(d.dep<=50/\e.dep<=50)/\Q (.bl<|D.eqb d e) H):=by intro c s f H x y v u Q U g i h;obtain⟨O,d,e,h1,a,b,q⟩:=h;exact TK (A:=X.A) U h1 a g i b.1 (by lia) (by lia) _ _ _ _ ⟨.bl _,H,U,rfl,q⟩
def UI(j:X.A.units+60<aT):OpR X (aJ .NotEq) (λx y H Q=> ∃O d e,ke X.K H O d x/\ke X.K H O e y/\(d.dep<=50/\e.dep<=50)/\Q (.bl (!D.eqb d e)) H):=by intro c s f H x y v u Q U g i h;obtain⟨O,d,e,h1,a,b,q⟩:=h;exact My (A:=X.A) U h1 a g i b.1 (by lia) (by lia) _ _ _ _ ⟨.bl _,H,U,rfl,q⟩
end
def iY{e:Type}{c:Prop}[Decidable c]{a b:e}(h:(if c then Y a else I)=Y b):c/\a=b:=by
 split at h
 .rename_i d;exact⟨d,kE h⟩
 .cases h
section
variable {X:Cx}{c:jq}{f:L2.St}{H:Hp}{s:iC}
def DD(I:Inv X c f H s){A:iU}{l:List D}{o:List V}{a:jy}{O C:AP'}{b:D}{T:V}{x:iK}(r:RepL X.K H O l o)(v:Vals o a)(hx:ke X.K H C b T)(rx:RelV T x)(hn:D.depL l<=50)(hxn:b.dep<=50)(hA:A.units+60<aT):
  ∃e:iK->Bool,(∀y∈a,EqAt A.in1 s y x<|e y)/\a.any e=l.any λd=>D.eqb d b:=by
 let e:iK->Bool:=λy=>match(a.zip l).find? (λp=>p.1==y) with
  |some p=>D.eqb p.2 b
  |none=>Zy
 have Z:=v.length;have e3:=r.length
 have m: ∀(j:Nat) (g:j<a.length) (h:j<l.length),e a[j]=D.eqb l[j] b:=λj g h=>by
  show(match(a.zip l).find? (λp=>p.1==a[j]) with|some p=>D.eqb p.2 b|none=>Zy)=_
  cases t:(a.zip l).find? (λp=>p.1==a[j]) with
  |none=>
   have:=List.find?_eq_none.mp t (a[j],l[j]) (by
    have:(a.zip l)[j]?=Zv (a[j],l[j]):=by simp[D5,jt g,jt h]
    exact mG this)
   simp at this
  |some p=>
   have P:=List.find?_some t;have F:=List.mem_of_find?_eq_some t;obtain⟨i,Q⟩:=se F;obtain⟨S,p2⟩:=p;rw[D5] at Q;have M:S=a[j]:=uE P;obtain⟨h1,k⟩:=Q;have E:i<o.length:=by have:=(rT.mp h1).1;lia
   obtain⟨w,n,B⟩:=v.get<|jt E;have q:j<o.length:=by lia
   obtain⟨w',G,W⟩:=v.get<|jt q;rw[h1] at n;cases n;rw[jt g] at G;cases G;subst M;have hv:=B.inj W;have a1:=r.views k<|jt E;have J:=r.views (jt h)<|jt q;rw[hv] at a1;have Y:=D.dep_mem k;have:=Rep.inj I (by lia) a1 J;exact mV (λz=>D.eqb z b) this
 refine⟨e,λy R=>?_,?_⟩
 .obtain⟨j,g⟩:=se R;have u:=(rT.mp g).1;have q:=(rT.mp g).2;have h:j<l.length:=by lia
  have L:j<o.length:=by lia
  obtain⟨w,n,B⟩:=v.get<|jt L;rw[g] at n;cases n;have hk:=m j u h;rw[q] at hk;rw[hk];have hd:=D.dep_mem<|jt h;exact AG I 50 _ _ _ _ _ _ O C A.in1 (.inl<|r.views (jt h)<|jt L) hx B rx (by lia) (by lia) (by show A.units+1+50<aT;lia)
 .have:a.map e=l.map λd=>D.eqb d b:=by
   apply zq
   .simp;lia
   .intro j h1 k;simp only[kh] at h1 k;simp only[zp];exact m j h1 k
  have N:a.any e=(a.map e).any id:=by rw[el];rfl
  have U:(l.any λd=>D.eqb d b)=(l.map λd=>D.eqb d b).any id:=by rw[el];rfl
  rw[N,U,this]
noncomputable def inD(x:D):D->Option Bool
 | .tup l=>if D.depL l<=50/\x.dep<=50 then Y (l.any λd=>D.eqb d x) else I
 | .lst l=>if D.depL l<=50/\x.dep<=50 then Y (l.any λd=>D.eqb d x) else I
 |_=>I
def UL(B:X.A.units+60<aT):OpR X (aJ .In) (λx y H Q=> ∃O d e b,ke X.K H O d x/\ke X.K H O e y/\inD d e=Y b/\Q (.bl b) H):=by
 intro c s f H x y v u Q U T E h;obtain⟨O,d,e,b,h1,z,j,q⟩:=h
 cases e with
 |tup l=>
  obtain⟨i,rfl⟩:=iY j
  .skip
   obtain⟨a,L,rfl,n,r⟩:=lz z;cases E;obtain⟨g,t,p,_⟩:=U.tuple n;obtain⟨e,m,k⟩:=DD (A:=X.A) U r t h1 T i.1 i.2 B;refine in_tupleAt e p (λw o=>m w<|by simpa using o) ⟨.bl _,H,U,rfl,?_⟩;rw[show g.toArray.any e=g.any e by simp,k];exact q
 |lst l=>
  obtain⟨i,rfl⟩:=iY j
  .skip
   obtain⟨a,L,rfl,n,r⟩:=kn z;cases E;obtain⟨g,t,p,_⟩:=U.list n;obtain⟨e,m,k⟩:=DD (A:=X.A) U r t h1 T i.1 i.2 B;refine in_listAt e p.isList (λw o=>m w<|by simpa using o) ⟨.bl _,H,U,rfl,?_⟩;rw[show g.toArray.any e=g.any e by simp,k];exact q
 |_=>cases j
def Bw(B:X.A.units+60<aT):OpR X (aJ .NotIn) (λx y H Q=> ∃O d e b,ke X.K H O d x/\ke X.K H O e y/\inD d e=Y b/\Q (.bl (!b)) H):=by
 intro c s f H x y v u Q U T E h;obtain⟨O,d,e,b,h1,z,j,q⟩:=h
 cases e with
 |tup l=>
  obtain⟨i,rfl⟩:=iY j
  .skip
   obtain⟨a,L,rfl,n,r⟩:=lz z;cases E;obtain⟨g,t,p,_⟩:=U.tuple n;obtain⟨e,m,k⟩:=DD (A:=X.A) U r t h1 T i.1 i.2 B;refine notIn_tupleAt e p (λw o=>m w<|by simpa using o) ⟨.bl _,H,U,rfl,?_⟩;rw[show g.toArray.any e=g.any e by simp,k];exact q
 |lst l=>
  obtain⟨i,rfl⟩:=iY j
  .skip
   obtain⟨a,L,rfl,n,r⟩:=kn z;cases E;obtain⟨g,t,p,_⟩:=U.list n;obtain⟨e,m,k⟩:=DD (A:=X.A) U r t h1 T i.1 i.2 B;refine notIn_listAt e p.isList (λw o=>m w<|by simpa using o) ⟨.bl _,H,U,rfl,?_⟩;rw[show g.toArray.any e=g.any e by simp,k];exact q
 |_=>cases j
end
def rD1(K:iW)(g:D->Option (D×Bool)):V->Hp->VK->Prop:=λx U Q=> ∃(O:AP') (d:D) (z:D×Bool),(∀p,¬Ow (U p)-> ¬O p)/\ke K U O d x/\g d=Y z/\Gen K U O z Q
def rD(K:iW)(g:D->D->Option (D×Bool)):R2:=λx y U Q=> ∃(O:AP') (d e:D) (z:D×Bool),(∀p,¬Ow (U p)-> ¬O p)/\ke K U O d x/\ke K U O e y/\g d e=Y z/\Gen K U O z Q
def rDn(K:iW)(g:List D->Option (D×Bool)):List V->Hp->VK->Prop:=λb U Q=> ∃(O:AP') (a:List D) (z:D×Bool),(∀p,¬Ow (U p)-> ¬O p)/\(ZB a)=ZB b/\(∀(j:Nat) d v,a[j]?=Y d->b[j]?=Y v->ke K U O d v)/\g a=Y z/\Gen K U O z Q
section
variable {X:Cx}{e a b:iI}{c o:FO}{fs:List FO}{k:bI}
def px1(h:PE X e (tUn (rD1 X.K g)<|tO X.K c)):PX X e (kB g c):=T5 h λx z v U O Q np f d G=>⟨O,x,z,np,f,d,G⟩
def px2(h:PE X e (tOp (rD X.K g) (tO X.K c)<|tO X.K o)):PX X e (iN g c o):=T4 h λx y z v u U O Q np f i d G=>⟨O,x,y,z,np,f,i,d,G⟩
def pxn(h:PE X e (tCB (rDn X.K g)<|tA X.K fs)):PX X e (jh g fs):=Qg h λd z j U O Q np i hv f G=>⟨O,d,z,np,i,hv,f,G⟩
def jr{K U}{O:AP'}{i:Int}{v:V}(h:ke K U O (.int i) v):v= .int i:=h.elim (λh=>h.int) λ⟨_,_,h⟩=>h.elim
def CY{K U}(h:ke K U O (.bl i) v):v= .bl i:=h.elim (λh=>h.bl) λ⟨_,_,h⟩=>h.elim
def vW{K U}(h:ke K U O (.str i) v):v= .str i:=h.elim (λh=>h.str) λ⟨_,_,h⟩=>h.elim
def Ed{K U}(h:ke K U O .non v):v= .non:=h.elim (λh=>h.non) λ⟨_,_,h⟩=>h.elim
def Gen.str{K U}(g:Gen K U O (.str i,C) Q):Q (.str i) U:=g _ U (λ_ _ e=>e) Rep.mkStr
noncomputable def gI(f:Int->Int->Option D):D->D->Option (D×Bool)
 | .int i,.int j=>(f i j).map λz=>(z,C)
 |_,_=>I
def yW{f:Int->Int->Option D}{d e:D}{z:D×Bool}(h:gI f d e=Y z): ∃i j y,d= .int i/\e= .int j/\f i j=Y y/\z=(y,C):=by
 cases d with
 |int i=>
  cases e with
  |int j=>
   cases g:f i j with
   |none=>simp only[gI,g] at h;cases h
   |some y=>simp only[gI,g] at h;cases h;exact⟨i,j,y,rfl,rfl,g,rfl⟩
  |_=>cases h
 |_=>cases h
def yT{f:yY}{N:Int->Int->Prop}[∀i j,Decidable<|N i j]{g:Int->Int->Int}(r:OpR X f (rI N λi j=> .int (g i j))):OpR X f (rD X.K (gI λi j=>if N i j then Y (.int<|g i j) else I)):=by intro l s B T x y v u Q U t A h;obtain⟨O,d,e,z,np,h1,m,q,G⟩:=h;obtain⟨i,j,w,rfl,rfl,p,rfl⟩:=yW q;obtain⟨n,rfl⟩:=iY p;exact r l s B T x y v u Q U t A ⟨i,j,jr h1,jr m,n,G.int⟩
def Np{f:yY}{g:Int->Int->Int}(q:OpR X f (rI0 λi j=> .int (g i j))):OpR X f (rD X.K<|gI λi j=>Y<|.int<|g i j):=by intro l s A T x y v u Q U r t h;obtain⟨O,d,e,z,np,h1,m,p,G⟩:=h;obtain⟨i,j,w,rfl,rfl,n,rfl⟩:=yW p;cases n;exact q l s A T x y v u Q U r t ⟨i,j,jr h1,jr m,G.int⟩
instance(i j:Int):Decidable (CMul i j):=by unfold CMul;exact inferInstance
instance(i j:Int):Decidable (Kv i j):=by unfold Kv;exact inferInstance
instance(i j:Int):Decidable (D4 i j):=by unfold D4;exact inferInstance
noncomputable def gSub:=gI λi j=>Y<|.int<|i-j
noncomputable def pk:=gI λi j=>if CMul i j then Y (.int<|i*j) else I
noncomputable def Od:=gI λi j=>if Kv i j then Y (.int<|i / j) else I
noncomputable def A9:=gI λi j=>if 0<j then Y (.int<|i%j) else I
noncomputable def J9:=gI λi j=>if D4 i j then Y (.int<|i^j.toNat) else I
def yS:OpR X (bH .Sub) (rD X.K gSub):=Np UG
def nI:OpR X (bH .Mult) (rD X.K pk):=yT UJ
def Ip:OpR X (bH .FloorDiv) (rD X.K Od):=yT QY
def uf:OpR X (bH .Mod) (rD X.K A9):=yT UK
def Io:OpR X (bH .Pow) (rD X.K J9):=yT UH
noncomputable def lP:D->D->Option (D×Bool)
 | .int i,.int j=>Y (.int<|i+j,C)
 | .str i,.str j=>if i.length+j.length<=sizeLine then Y (.str<|i++j,C) else I
 | .tup l,.tup m=>if l.length+m.length<=sizeLine then Y (.tup<|l++m,C) else I
 | .lst l,.lst m=>if l.length+m.length<=sizeLine then Y (.lst<|l++m,J) else I
 |_,_=>I
def kL:OpR X (bH .Add) (rD X.K lP):=by
 intro q s σ H x y v u Q I M N h;obtain⟨O,d,e,z,np,h1,U,r,G⟩:=h
 cases d with
 |int i=>
  cases e with
  |int j=>cases r;exact UN q s σ H x y v u Q I M N ⟨i,j,jr h1,jr U,G.int⟩
  |_=>cases r
 |str i=>
  cases e with
  |str j=>obtain⟨hc,rfl⟩:=iY r;exact GY q s σ H x y v u Q I M N ⟨i,j,vW h1,vW U,hc,G.str⟩
  |_=>cases r
 |tup l=>
  cases e with
  |tup m=>
   obtain⟨hc,rfl⟩:=iY r;have k1:Rep X.K H O (.tup l) x:=h1.elim id λ⟨_,_,z⟩=>z.elim;have k2:Rep X.K H O (.tup m) y:=U.elim id λ⟨_,_,z⟩=>z.elim;obtain⟨Y,xs,rfl,D,T⟩:=k1.tup;obtain⟨L,ys,rfl,P,J⟩:=k2.tup;have l1:=T.length;have l2:=J.length;by_cases hx:xs=[]
   .subst hx;have:l=[]:=by simpa using l1.symm
    subst this;cases M;cases N;obtain⟨g,R,W,_⟩:=I.tuple D.sq;obtain⟨t,v2,Z,_⟩:=I.tuple P.sq;have e1:g=[]:=by have:=R.length;simpa using this.symm
    subst e1;obtain⟨⟨S,V,w,sl⟩,A,C,n,hd⟩:=id W;obtain⟨⟨cV,r0,data2,n5⟩,E,B,n2,f⟩:=id Z;simp only at C hd B f;subst C hd B f
    refine CN ⟨_,A,rfl⟩ ⟨_,E,rfl⟩ Gp Gn Gm Gk (Gj _ _)
     (tuple_addW0 Y L #[] t.toArray n n2 V r0 sl n5 (by simp)) ⟨A,E,⟨.ref L,H,I,rfl,?_⟩⟩
    exact G _ H (λ_ _ e=>e) (by simpa using k2)
   .refine QZ q s σ H _ _ v u Q I M N ⟨Y,L,xs,ys,rfl,rfl,D.sq,P.sq,hx,by lia,λhy=>?_,λhy p hp=>?_⟩
    .subst hy;have:m=[]:=by simpa using l2.symm
     subst this;exact G _ H (λ_ _ e=>e) (by simpa using k1)
    .exact G.tup hp (np p<|nOw hp) (T.append J)
  |_=>cases r
 |lst l=>
  cases e with
  |lst m=>
   obtain⟨hc,rfl⟩:=iY r;obtain⟨Y,xs,rfl,D,T⟩:=kn h1;obtain⟨L,ys,rfl,P,J⟩:=kn U;have l1:=T.length;have l2:=J.length;cases M;cases N;obtain⟨g,R,W,_⟩:=I.list D;obtain⟨t,v2,Z,_⟩:=I.list P;have e1:=R.length;have e2:=v2.length;obtain⟨⟨S,V,w,sl⟩,A,C,n,hd⟩:=id W.isList;obtain⟨⟨cV,r0,data2,n5⟩,E,B,n2,f⟩:=id Z.isList;simp only at C hd B f;subst C hd B f
   refine CN ⟨_,A,rfl⟩ ⟨_,E,rfl⟩ noFill_list_add seq_list_add PySem.F.slot_list_add PySem.F.entry_list_add (PySem.F.args_list_add_2 _ _)
    (list_addW Y L g.toArray t.toArray n n2 V r0 sl n5<|by simp only[kj];lia) ⟨A,E,?_⟩
   rw[show g.toArray++t.toArray=(g++t).toArray by simp];exact⟨.ref _,_,I.lnew (t':=s.toks) (R.append v2)<|by rw[mF];lia,rfl,G.lst I.fresh<|T.append J⟩
  |_=>cases r
 |_=>cases r
noncomputable def gEq(d e:D):Option (D×Bool):=if d.dep<=50/\e.dep<=50 then Y (.bl<|D.eqb d e,C) else I
noncomputable def gNe(d e:D):Option (D×Bool):=if d.dep<=50/\e.dep<=50 then Y (.bl (!D.eqb d e),C) else I
noncomputable def gIn(d e:D):Option (D×Bool):=(inD d e).map λb=>(.bl b,C)
noncomputable def lg(d e:D):Option (D×Bool):=(inD d e).map λb=>(.bl (!b),C)
def qQ(l:X.A.units+60<aT):OpR X (aJ .Eq) (rD X.K gEq):=by intro f s p T x y v u Q U m n h;obtain⟨O,d,e,z,np,h1,g,j,G⟩:=h;obtain⟨i,rfl⟩:=iY j;exact UM l f s p T x y v u Q U m n ⟨O,d,e,h1,g,i,G.bl⟩
def qP(l:X.A.units+60<aT):OpR X (aJ .NotEq) (rD X.K gNe):=by intro f s p T x y v u Q U m n h;obtain⟨O,d,e,z,np,h1,g,j,G⟩:=h;obtain⟨i,rfl⟩:=iY j;exact UI l f s p T x y v u Q U m n ⟨O,d,e,h1,g,i,G.bl⟩
def jk{d g:Type}{x:Option d}{f:d->g}{b:g}(h:x.map f=Y b): ∃a,x=Y a/\f a=b:=by
 cases x with
 |none=>cases h
 |some a=>exact⟨a,rfl,kE h⟩
def Nq(l:X.A.units+60<aT):OpR X (aJ .In) (rD X.K gIn):=by intro f s p T x y v u Q U m n h;obtain⟨O,d,e,z,np,h1,g,j,G⟩:=h;obtain⟨b,i,rfl⟩:=jk j;exact UL l f s p T x y v u Q U m n ⟨O,d,e,b,h1,g,i,G.bl⟩
def qu(l:X.A.units+60<aT):OpR X (aJ .NotIn) (rD X.K lg):=by intro f s p T x y v u Q U m n h;obtain⟨O,d,e,z,np,h1,g,j,G⟩:=h;obtain⟨b,i,rfl⟩:=jk j;exact Bw l f s p T x y v u Q U m n ⟨O,d,e,b,h1,g,i,G.bl⟩
noncomputable def nA:D->Option (D×Bool)
 | .int i=>Y (.int (-i),C)
 |_=>I
def Pu:UnR X (Ss .USub) (rD1 X.K nA):=by
 intro f s l T x v Q U j h;obtain⟨O,d,z,np,h1,g,G⟩:=h
 cases d with
 |int i=>cases g;exact Ta f s l T x v Q U j ⟨i,jr h1,G.int⟩
 |_=>cases g
noncomputable def gIx:D->D->Option (D×Bool)
 | .tup l,.int i=>(atI l i).map λd=>(d,C)
 | .lst l,.int i=>(atI l i).map λd=>(d,C)
 |_,_=>I
def Jh{K U}{O:AP'}{l:List D}{f:List V}{i:Int}{d:D}(r:RepL K U O l f)(h:atI l i=Y d): ∃v,atI f i=Y v/\Rep K U O d v:=by unfold atI at h ⊢;rw[r.length];obtain⟨j,h1,g⟩:=ir h;rw[h1];exact r.get g
def WK:IxR X (rD X.K gIx):=by
 intro f slice g s T N x y v u Q U E L h M;obtain⟨O,d,e,z,np,h1,B,j,G⟩:=h
 cases d with
 |tup l=>
  cases e with
  |int i=>obtain⟨w,n,rfl⟩:=jk j;obtain⟨p,A,rfl,q,r⟩:=lz h1;obtain⟨t,hv,m⟩:=Jh r n;exact U0 f slice g s T N _ _ v u Q U E L ⟨p,A,i,t,rfl,jr B,q,hv,G _ N (λ_ _ e=>e) m⟩ M
  |_=>cases j
 |lst l=>
  cases e with
  |int i=>obtain⟨w,n,rfl⟩:=jk j;obtain⟨p,A,rfl,q,r⟩:=kn h1;obtain⟨t,hv,m⟩:=Jh r n;exact Rr f slice g s T N _ _ v u Q U E L ⟨p,A,i,t,rfl,jr B,q,hv,G _ N (λ_ _ e=>e) m⟩ M
  |_=>cases j
 |_=>cases j
def Uc(h:OpR X (bH op) (rD X.K g))(d:PO X a c)(f:PO X b o):PX X (.BinOp a op b k) (iN g c o):=px2<|Wt h d f
def Ub{d:dW}{g:D->D->Option (D×Bool)}(j:OpR X (aJ d) (rD X.K g))(f:PO X a c)(h:PO X b o)(i:cE d b=C):PX X (.Compare a [d] [b] k) (iN g c o):=px2<|QK j f h i
def T7(d:PO X a c):PX X (.UnaryOp .USub a k) (kB nA c):=px1<|Ws Pu d
def Wo(d:PO X a c)(f:PO X b o)(g:D2 b):PX X (.Subscript a b k) (iN gIx c o):=px2<|Wu WK d f g
end
noncomputable def pQ:List Opd->Option (List D)
 |[]=>Y []
 | .val r::os=>(pQ os).map (r.1:: ·)
 | .slot _::_=>I
noncomputable def mJ(fs:List F):F:=λδ=>(ki (fs.map iA) δ).bind λp=>(pQ p.1).bind λa=>if (ZB a)<=sizeLine then Y ((.tup a,C),p.2) else I
noncomputable def lq(fs:List F):F:=λδ=>(ki (fs.map iA) δ).bind λp=>(pQ p.1).bind λa=>if (ZB a)<=sizeLine then Y ((.lst a,J),p.2) else I
section
variable {K:iW}{T m:AP'}{f:L2.St}{g e:Dn}{H H':Hp}{os:List Opd}{c:List V}
def Ops.rep(E:ER K H T f g)(B:Ops K T f g H os c e H' m){j:Nat}{r:D×Bool}{v:V}(h1:os[j]?=Y (.val r))(h:c[j]?=Y v):Rep K H' (λa=>OwnA f e a\/T a) r.1 v:=by
 obtain⟨d,b⟩:=r
 cases b with
 |false=>exact B.val j d v h1 h
 |true=>
  obtain⟨p,rfl,k,i,ok⟩:=B.tmp j d v h1 h;refine ok.rep (λz=>?_) λb _ z=>z;rcases z with z|z
  .exact B.er.nT p z k
  .exact(E.dom p z).ne i
theorem vD{O:AP'}: ∀{os:List Opd} {c:List V} {d:List D},pQ os=Y d->os.length=ZB c->(∀(j:Nat) (r:D×Bool) (v:V),os[j]?=Y (.val r)->c[j]?=Y v->Rep K H' O r.1 v)->RepL K H' O d c
 |[],c,d,h,n,_=>by
  cases h;have:c=[]:=by simpa using n.symm
  subst this;exact RepL.nil
 | .slot i::os,c,d,h,_,_=>by cases h
 | .val r::os,c,d,h,n,k=>by
  obtain⟨l,h1,rfl⟩:=jk h
  cases c with
  |nil=>simp at n
  |cons v c=>exact RepL.cons (k 0 r v Zz Zz)<|vD h1 (by simpa using n) λj o p a b=>k (j+1) o p (by simpa using a) (by simpa using b)
end
section
variable {X:Cx}{e a b:iI}{m:kr}{n fb:FO}{fs:List F}{c:bI}
def TV{x1}(h:PA X m (tA X.K<|fs.map iA)):PX X (.Tuple m x1 c) (mJ fs):=PX.imp (Nc h) λy U Q l=>by obtain⟨o,T,w,q,E,e,k⟩:=l;obtain⟨⟨os,d⟩,h1,e⟩:=ir e;obtain⟨u,g,e⟩:=ir e;obtain⟨i,e⟩:=iY e;obtain⟨rfl,rfl⟩:=rA e;refine⟨o,T,os,d,E,h1,λx s t B=>?_⟩;have r:=vD g B.len λj r v a b=>B.rep E a b;exact⟨by rw[r.length];exact i,λp f=>(B.done k).tup f (B.np<|nOw f) r⟩
def T8(h:PA X m (tA X.K<|fs.map iA)):PX X (.List m c) (lq fs):=PX.imp (Uz h) λy U Q l=>by obtain⟨o,T,w,q,E,e,k⟩:=l;obtain⟨⟨os,d⟩,h1,e⟩:=ir e;obtain⟨u,f,e⟩:=ir e;obtain⟨g,e⟩:=iY e;obtain⟨rfl,rfl⟩:=rA e;refine⟨o,T,os,d,E,h1,λx s t B=>?_⟩;have r:=vD f B.len λj r v a b=>B.rep E a b;exact⟨by rw[r.length];exact g,λp i=>(B.done k).lst i r⟩
def Iq{g:List D}{f:List V}{d:D}(h:(ZB g)=ZB f)(hd:g=[d]): ∃v,f=[v]:=by
 subst hd
 cases f with
 |nil=>simp at h
 |cons v r=>
  cases r with
  |nil=>exact⟨v,rfl⟩
  |cons _ _=>simp at h
noncomputable def g1(g:D->Option (D×Bool)):List D->Option (D×Bool)
 |[d]=>g d
 |_=>I
noncomputable def g2(g:D->D->Option (D×Bool)):List D->Option (D×Bool)
 |[d,e]=>g d e
 |_=>I
def nE{f:iK}{g:D->Option (D×Bool)}(h: ∀(i:jq) (s:iC) (j:L2.St) (T:Hp) (x:V) (u:iK) (Q:VK) (O:AP') (d:D) (z:D×Bool),Inv X i j T s->RelV x u->(∀p,¬Ow (T p)-> ¬O p)->ke X.K T O d x->g d=Y z->Gen X.K T O z Q->
  ag (ah X.prog X.w) X.A (call f [u]) (EP X i j Q) X.xe s):kF X f (rDn X.K<|g1 g):=by
 intro i s j T xs y Q U r q;obtain⟨O,l,z,np,o,hv,k,G⟩:=q
 match l,k with
 |[d],k=>obtain⟨v,rfl⟩:=Iq o H;obtain⟨u,rfl,t⟩:=rF r;exact h i s j T v u Q O d z U t np (hv 0 d v H H) k G
def OS{f:iK}{g:D->D->Option (D×Bool)}(h: ∀(i:jq) (s:iC) (k:L2.St) (T:Hp) (x y:V) (j:jy) (Q:VK) (O:AP') (d e:D) (z:D×Bool),Inv X i k T s->Vals [x,y] j->(∀p,¬Ow (T p)-> ¬O p)->ke X.K T O d x->ke X.K T O e y->g d e=Y z->Gen X.K T O z Q->
  ag (ah X.prog X.w) X.A (call f j) (EP X i k Q) X.xe s):kF X f (rDn X.K<|g2 g):=by
 intro i s k T u j Q U r t;obtain⟨O,o,z,np,q,hv,l,G⟩:=t;rcases o with _|⟨d,_|⟨e,_|⟨_,_⟩⟩⟩<;>try cases l
 rcases u with _|⟨x,_|⟨y,_|⟨_,_⟩⟩⟩<;>try cases q
 exact h i s k T x y j Q O d e z U r np (hv 0 d x H H) (hv 1 e y H H) l G
noncomputable def yc:D->Option (D×Bool)
 | .tup l=>Y (.int<|ZB l,C)
 | .lst l=>Y (.int<|ZB l,C)
 |_=>I
def nG:kF X (.builtin "len") (rDn X.K<|g1 yc):=nE λf s j T x u Q O d z U i np hd g G=>by
 cases d with
 |tup l=>
  cases g;obtain⟨p,h,rfl,q,r⟩:=lz hd;refine wO f s j T [_] [u] Q U (.cons i .nil) ⟨p,h,rfl,.inr q,?_⟩;rw[r.length];exact G.int
 |lst l=>
  cases g;obtain⟨p,h,rfl,q,r⟩:=kn hd;refine wO f s j T [_] [u] Q U (.cons i .nil) ⟨p,h,rfl,.inl q,?_⟩;rw[r.length];exact G.int
 |_=>cases g
noncomputable def E6:D->Option (D×Bool)
 | .int i=>Y (.int (if i<0 then -i else i),C)
 |_=>I
def yk:kF X (.builtin "abs") (rDn X.K<|g1 E6):=nE λf s j T x u Q O d z U h np hd g G=>by
 cases d with
 |int i=>cases g;exact OT f s j T [x] [u] Q U (.cons h .nil) ⟨i,by rw[jr hd],G.int⟩
 |_=>cases g
noncomputable def Oc:D->Option (D×Bool)
 | .int i=>Y (.int i,C)
 | .bl b=>Y (.int (if b then 1 else 0),C)
 |_=>I
def BU:kF X (.type "int") (rDn X.K<|g1 Oc):=nE λf s j T x u Q O d z U h np hd g G=>by
 cases d with
 |int i=>cases g;exact BV f s j T [x] [u] Q U (.cons h .nil)<|.inl ⟨i,by rw[jr hd],G.int⟩
 |bl i=>
  cases g;refine BV f s j T [x] [u] Q U (.cons h .nil)<|.inr ⟨i,by rw[CY hd],?_⟩;have:=G.int;cases i<;>exact this
 |_=>cases g
noncomputable def ny:D->Option (D×Bool)
 | .tup l=>Y (.tup l,C)
 | .lst l=>Y (.tup l,C)
 |_=>I
def lD:kF X (.type "tuple") (rDn X.K<|g1 ny):=nE λf s o T x u Q O d z U k np hd g G=>by
 cases d with
 |tup l=>
  cases g;have j:Rep X.K T O (.tup l) x:=hd.elim id λ⟨_,_,z⟩=>z.elim;obtain⟨p,h,rfl,q,r⟩:=j.tup;exact uR f s o T [_] [u] Q U (.cons k .nil) ⟨p,h,rfl,.inr ⟨q.sq,G _ T (λ_ _ e=>e) j⟩⟩
 |lst l=>
  cases g;obtain⟨p,h,rfl,q,r⟩:=kn hd;exact uR f s o T [_] [u] Q U (.cons k .nil) ⟨p,h,rfl,.inl ⟨q,λt i=>G.tup i (np t<|nOw i) r⟩⟩
 |_=>cases g
noncomputable def BI:D->Option (D×Bool)
 | .tup l=>Y (.lst l,J)
 | .lst l=>Y (.lst l,J)
 |_=>I
def Hx:kF X (.type "list") (rDn X.K<|g1 BI):=nE λf s k T x u Q O d z U j np hd g G=>by
 cases d with
 |tup l=>
  cases g;obtain⟨p,i,rfl,q,r⟩:=lz hd;exact wN f s k T [_] [u] Q U (.cons j .nil) ⟨p,i,rfl,.inr q,λt h=>G.lst h r⟩
 |lst l=>
  cases g;obtain⟨p,i,rfl,q,r⟩:=kn hd;exact wN f s k T [_] [u] Q U (.cons j .nil) ⟨p,i,rfl,.inl q,λt h=>G.lst h r⟩
 |_=>cases g
end
abbrev FT:=Dn->Option (Bool×Dn)
def tT(K:iW)(f:FT):TT:=λe U Q=> ∃d T b a,ER K U T e d/\f d=Y (b,a)/\ ∀c,Keep e d U a c->ER K c T e a->Q b c
def PTX(X:Cx)(e:iI)(f:FT):Prop:=PT X e<|tT X.K f
def PWX(X:Cx)(e:iI)(f:FT):Prop:=PW X e<|tT X.K f
noncomputable def asB:(D×Bool)×Dn->Option (Bool×Dn)
 |((.bl b,_),a)=>Y (b,a)
 |_=>I
noncomputable def fT(f:F):FT:=λδ=>(f δ).bind asB
def Fm(h:asB p=Y q): ∃o,p=((.bl q.1,o),q.2):=by
 obtain⟨⟨d,o⟩,a⟩:=p
 cases d with
 |bl b=>cases h;exact⟨o,rfl⟩
 |_=>cases h
def Sf{K:iW}{f:F}{a:L2.St}{U:Hp}{Q:Bool->Hp->Prop}(h:tT K (fT f) a U Q):tF K f a U λx i=> ∃c,x= .bl c/\Q c i:=by obtain⟨l,T,b,m,E,e,k⟩:=h;obtain⟨p,h1,j⟩:=ir e;obtain⟨o,rfl⟩:=Fm j;refine⟨l,T,_,_,E,h1,λv g P=>?_⟩;obtain⟨d,r⟩:=P.rep E;exact⟨b,r.bl,k g P.1 d⟩
section
variable {X:Cx}{e a b c:iI}{m:kr}{C A:FO}{f g:F}{l n:FT}{i:bI}
def PT.imp'(h:PT X e t)(k: ∀j T Q,p j T Q->t j T Q):PT X e p:=λd s j T Q U o=>h d s j T Q U<|k j T Q o
def PW.imp'(h:PW X e t)(k: ∀j T Q,p j T Q->t j T Q):PW X e p:=λq d s j T Q U o=>h q d s j T Q U<|k j T Q o
def Qm(h:PX X e f)(j: ∀d,isTrue e X.env d=(do let v <-d;cu e.pos;br [v] (gL v))):PTX X e (fT f):=PT.imp' (Uk h j) λo U Q k=>Sf k
def Q0{r:R2}{g:D->D->Option (D×Bool)}(M:VA X.K r g){t:L2.St}{H:Hp}{Q:VK}(N:tF X.K (iN g C A) t H Q):tOp r (tO X.K C) (tO X.K A) t H Q:=by obtain⟨Y,T,R,F,E,e,k⟩:=N;obtain⟨⟨o,d⟩,h1,e⟩:=ir e;obtain⟨⟨U,q⟩,I,e⟩:=ir e;obtain⟨x,L,e⟩:=ir e;obtain⟨y,O,e⟩:=ir e;obtain⟨z,G,e⟩:=ir e;obtain⟨rfl,rfl⟩:=jd e;refine⟨Y,T,o,d,E,h1,λv P h=>⟨d,TmpO T o v,U,q,h.er E,I,λu w s=>?_⟩⟩;have B:=Ops.cons E h<|Ops.cons (h.er E) s<|Ops.nil<|s.er<|h.er E;exact M x y z v u w _ Q (λp J=>B.np J) (B.view (j:=0) Zz Zz L) (B.view (j:=1) Zz Zz O) G (B.done k)
def Wm{K:iW}{g:D->D->Option (D×Bool)}:VA K (rD K g) g:=λx y z v u U O Q np h j d G=>⟨O,x,y,z,np,h,j,d,G⟩
def Qp{d:dW}{g:D->D->Option (D×Bool)}(o:OpR X (aJ d) (rD X.K g))(h:PO X a C)(j:PO X b A)(k:cE d b=Zy):PTX X (.Compare a [d] [b] i) (fT<|iN g C A):=
 PT.imp' (Qq o h j k) λq U Q p=>Q0 Wm<|Sf p
noncomputable def wI(f g:FT):FT:=λd=>(f d).bind λp=>if p.1=J then g p.2 else Y (Zy,p.2)
noncomputable def yO(f g:FT):FT:=λd=>(f d).bind λp=>if p.1=J then Y (J,p.2) else g p.2
noncomputable def pz(f:FT):FT:=λδ=>(f δ).bind λp=>Y (!p.1,p.2)
def MK(d:PTX X a l):PWX X (.BoolOp .And [a] i) l:=Qk d
def Qi(d:PTX X a l):PWX X (.BoolOp .Or [a] i) l:=Uh d
def Qj(u:PTX X a l)(v:PWX X (.BoolOp .And (b::m) i) n):PWX X (.BoolOp .And (a::b::m) i) (wI l n):=PW.imp' (Ui u v) λy U Q w=>by
 obtain⟨x,T,c,h,E,e,k⟩:=w;obtain⟨⟨p,d⟩,h1,e⟩:=ir e;refine⟨x,T,p,d,E,h1,λr o j=>?_⟩
 cases p with
 |true=>rw[iP H] at e;rw[iP H];exact⟨d,T,c,h,j,e,λs t q=>k s (o.trans t) q⟩
 |false=>rw[jc ku] at e;rw[jc ku];obtain⟨rfl,rfl⟩:=jd e;exact k r o j
def Ug(u:PTX X a l)(v:PWX X (.BoolOp .Or (b::m) i) n):PWX X (.BoolOp .Or (a::b::m) i) (yO l n):=PW.imp' (Wr u v) λy U Q w=>by
 obtain⟨x,T,c,h,E,e,k⟩:=w;obtain⟨⟨p,d⟩,h1,e⟩:=ir e;refine⟨x,T,p,d,E,h1,λr o j=>?_⟩
 cases p with
 |true=>rw[iP H] at e;rw[iP H];obtain⟨rfl,rfl⟩:=jd e;exact k r o j
 |false=>rw[jc ku] at e;rw[jc ku];exact⟨d,T,c,h,j,e,λs t q=>k s (o.trans t) q⟩
def Qo(j:PTX X a l):PTX X (.UnaryOp .Not a i) (pz l):=PT.imp' (Ul j) λr U Q o=>by obtain⟨p,T,c,q,E,e,k⟩:=o;obtain⟨⟨h,d⟩,h1,e⟩:=ir e;obtain⟨rfl,rfl⟩:=jd e;exact⟨p,T,h,d,E,h1,k⟩
noncomputable def Hk(f g:F):F:=λd=>(f d).bind λp=>(asB p).bind λq=>if q.1=J then g q.2 else Y ((.bl Zy,Zy),q.2)
noncomputable def fOr(f g:F):F:=λd=>(f d).bind λp=>(asB p).bind λq=>if q.1=J then Y ((.bl J,Zy),q.2) else g q.2
noncomputable def YV(f:F):F:=λd=>(f d).bind λp=>(asB p).bind λq=>Y ((.bl (!q.1),Zy),q.2)
def Post.pre{K:iW}{T:AP'}{h:L2.St}{δ δ1 δ2:Dn}{U j q:Hp}{r:D×Bool}{v:V}(k:Keep h δ U δ1 j)(P:Post K T h δ1 j r δ2 v q):Post K T h δ U r δ2 v q:=by
 refine⟨k.trans P.1,?_⟩;obtain⟨d,o⟩:=r
 cases o with
 |false=>exact P.2
 |true=>
  obtain⟨p,h1,s,t⟩:=P.2;refine⟨p,h1,?_,t⟩
  cases u:U p with
  |none=>rfl
  |some w=>exact absurd s<|k.dm p (by rw[u];simp)
def Ud(y:PX X a f)(z:PX X (.BoolOp .And (b::m) i) g):PX X (.BoolOp .And (a::b::m) i) (Hk f g):=PX.imp (UC y z) λO N Q B=>by
 obtain⟨L,T,r,h,E,e,k⟩:=B;obtain⟨p,h1,e⟩:=ir e;obtain⟨⟨c,j⟩,x,d⟩:=ir e;obtain⟨o,rfl⟩:=Fm x;refine⟨L,T,_,_,E,h1,λv s P=>?_⟩;obtain⟨q,U⟩:=P.rep E;refine⟨c,U.bl,?_⟩
 cases c with
 |true=>rw[iP H] at d;rw[iP H];exact⟨j,T,r,h,q,d,λw t u=>k w t<|u.pre P.1⟩
 |false=>rw[jc ku] at d;rw[jc ku];obtain⟨rfl,rfl⟩:=jd d;exact k _ s (Post.val P.1 q Rep.mkBl)
def Qh{op}(d:PX X a f):PX X (.BoolOp op [a] i) f:=Ux d
noncomputable def fIf(t:FT)(f g:F):F:=λd=>(t d).bind λp=>if p.1=J then f p.2 else g p.2
def Wq(u:PTX X c l)(s:PX X a f)(t:PX X b g):PX X (.IfExp c a b i) (fIf l f g):=PX.imp (Nh u s t) λz U Q v=>by
 obtain⟨x,T,r,h,E,e,k⟩:=v;obtain⟨⟨c,d⟩,h1,e⟩:=ir e;refine⟨x,T,c,d,E,h1,λy q p=>?_⟩
 cases c with
 |true=>rw[iP H] at e;rw[iP H];exact⟨d,T,r,h,p,e,λw j o=>k w j<|o.pre q⟩
 |false=>rw[jc ku] at e;rw[jc ku];exact⟨d,T,r,h,p,e,λw j o=>k w j<|o.pre q⟩
end
inductive Out where
 |nx(δ:Dn)|rt(r:D×Bool)(δ:Dn)|bk(δ:Dn)|ct(δ:Dn)
abbrev FS:=Dn->Option Out
structure SK(A:jW)(σ:L2.St)(δ:Dn)(H:Hp)(σ':L2.St)(δ':Dn)(H':Hp):Prop where
 kp: ∀a o,H a=Zv o-> ¬OwnA σ δ a->H' a=Zv o
 owi: ∀i a,OwnI σ' δ' i a->OwnI σ δ i a\/H a=Zw
 dm: ∀a,H a≠Zw->H' a≠Zw
 as: ∀i,¬A i->σ'[i]?=σ[i]?
structure FI(L:jW)(H0:Hp)(σ:L2.St)(δ:Dn)(H:Hp):Prop where
 ow: ∀i a,OwnI σ δ i a->L i\/H0 a=Zw
 dm: ∀a,H0 a≠Zw->H a≠Zw
def RV(K:iW)(T:AP')(f:Hp)(r:D×Bool)(c:L2.St)(b:Dn)(v:V)(e:Hp):Prop:=
 match r with
 |(d,C)=>ER K e T c b/\Rep K e (λa=>OwnA c b a\/T a) d v
 |(d,J)=> ∃p,v= .ref p/\f p=I/\ER K e (λa=>T a\/a=p) c b/\OwnOk K e (λa=>OwnA c b a\/T a\/a=p) d p
section
variable {A:jW}{c b l:L2.St}{δ δ1 δ2:Dn}{H j g m:Hp}{L:jW}{K:iW}{T:AP'}
def SK.refl:SK A c δ H c δ H:=⟨λ_ _ e _=>e,λ_ _ z=> .inl z,λ_ z=>z,λ_ _=>rfl⟩
def SK.ow(k:SK A c δ H b δ1 g)(a:iu)(h:OwnA b δ1 a):OwnA c δ a\/H a=I:=by
 obtain⟨i,d,h1,f⟩:=h;rcases k.owi i a ⟨d,h1,f⟩ with⟨e,n,o⟩|z
 .exact .inl ⟨i,e,n,o⟩
 .exact .inr z
def SK.trans(x:SK A c δ H b δ1 g)(y:SK A b δ1 g l δ2 m):SK A c δ H l δ2 m where
 kp:=λa o e n=>y.kp a o (x.kp a o e n) λz=>(x.ow a z).elim n λz=>by rw[z] at e;cases e
 owi:=λi a z=>(y.owi i a z).elim (x.owi i a) λz=> .inr (by
  cases h:H a with
  |none=>rfl
  |some o=>exact absurd z<|x.dm a<|by rw[h];simp)
 dm:=λa z=>y.dm a<|x.dm a z
 as:=λi h=>(y.as i h).trans<|x.as i h
def Keep.sk(k:Keep c δ H δ1 g):SK A c δ H c δ1 g:=⟨k.kp,λi a z=> .inl (k.owi i a z),k.dm,λ_ _=>rfl⟩
def FI.step(f:FI L j c δ H)(k:SK A c δ H b δ1 g):FI L j b δ1 g where
 ow:=λi a z=>(k.owi i a z).elim (f.ow i a) λz=> .inr (by
  cases h:j a with
  |none=>rfl
  |some o=>exact absurd z<|f.dm a<|by rw[h];simp)
 dm:=λa z=>k.dm a<|f.dm a z
def FI.fresh(f:FI L j c δ H)(a:H p=I):j p=I:=by
 cases h:j p with
 |none=>rfl
 |some o=>exact absurd a<|f.dm p (by rw[h];simp)
end
def tS(K:iW)(A L:jW)(h:Hp)(f:FS):TS:=λD e U=> ∃d T g,ER K U T e d/\FI L h e d U/\f d=Y g/\
 match g with
 | .nx b=> ∀a c,SK A e d U a b c->ER K c T a b->D.nx a c
 | .bk b=> ∀a c,SK A e d U a b c->ER K c T a b->D.bk a c
 | .ct b=> ∀a c,SK A e d U a b c->ER K c T a b->D.ct a c
 | .rt r b=> ∀v a c,SK A e d U a b c->RV K T h r a b v c->D.rt v c
def PSX(X:Cx)(A L:jW)(a:Hp)(st:bD)(f:FS):Prop:=PS X st<|tS X.K A L a f
def Bg(X:Cx)(A L:jW)(a:Hp)(st:List bD)(f:FS):Prop:=PSs X st<|tS X.K A L a f
noncomputable def iZ:FS:=λδ=>Y<|.nx δ
noncomputable def iL(f g:FS):FS:=λδ=>(f δ).bind λo=>match o with
 | .nx δ1=>g δ1
 |o=>Y o
noncomputable def lU(f:F):FS:=λa=>(f a).bind λp=>Y<|.nx p.2
noncomputable def kN(f:F):FS:=λa=>(f a).bind λp=>Y<|.rt p.1 p.2
noncomputable def pN(i:Nat):FS:=λa=>match a[i]? with
 |some (Y (d,J))=>Y<|.rt (d,J)<|a.set i I
 |some (Y (d,C))=>Y<|.rt (d,C) a
 |_=>I
noncomputable def sIf(t:FT)(f g:FS):FS:=λa=>(t a).bind λp=>if p.1=J then f p.2 else g p.2
noncomputable def jD(i:Nat)(f:F):FS:=λδ=>(f δ).bind λp=>if i<(ZB p.2) then Y (.nx<|p.2.set i<|Y p.1) else I
section
variable {X:Cx}{A L:jW}{i:Hp}{st:bD}{l:List bD}{f g:FS}{m:F}{n:FT}{e c:iI}{j:bI}
def PS.imp'(h:PS X st t)(k: ∀D b T,o D b T->t D b T):PS X st o:=λa s b T D U d=>h a s b T D U<|k D b T d
def PSs.imp'(h:PSs X l t)(k: ∀D b T,o D b T->t D b T):PSs X l o:=λa s b T D U d=>h a s b T D U<|k D b T d
def MQ:Bg X A L i [] iZ:=PSs.imp' Ii λD d U a=>by obtain⟨o,T,b,E,h,e,k⟩:=a;cases e;exact k d U .refl E
def JK(h1:PSX X A L i st f)(x:Bg X A L i l g):Bg X A L i (st::l) (iL f g):=PSs.imp' (qr h1 x) λD O Q z=>by
 obtain⟨B,T,t,E,u,e,k⟩:=z;obtain⟨o,y,e⟩:=ir e;refine⟨B,T,o,E,u,y,?_⟩
 cases o with
 |nx b=>
  intro N U s w;refine⟨b,T,t,w,u.step s,e,?_⟩
  cases t with
  |nx p=>exact λa d h q=>k a d (s.trans h) q
  |bk p=>exact λa d h q=>k a d (s.trans h) q
  |ct p=>exact λa d h q=>k a d (s.trans h) q
  |rt r p=>exact λv a d h R2=>k v a d (s.trans h) R2
 |rt r b=>cases e;exact k
 |bk b=>cases e;exact k
 |ct b=>cases e;exact k
def MN(h:PX X e m)(d:bJ e I j.line X.env=pure C):PSX X A L i (.Expr e j) (lU m):=PS.imp' (Ij h d) λD s U o=>by obtain⟨r,T,q,E,t,e,k⟩:=o;obtain⟨p,b,e⟩:=ir e;cases e;exact⟨r,T,p.1,p.2,E,b,λv a P=>k s a P.1.sk (P.rep E).1⟩
def Qt(h:PX X e m):PSX X A L i (.Return (Y e) j) (kN m):=PS.imp' (MT h) λD y U t=>by
 obtain⟨w,T,u,E,r,e,k⟩:=t;obtain⟨p,a,e⟩:=ir e;cases e;refine⟨w,T,p.1,p.2,E,a,λv b P=>k v y b P.1.sk ?_⟩;obtain⟨⟨d,o⟩,x⟩:=p
 cases o with
 |false=>exact P.2
 |true=>obtain⟨q,h1,s,a⟩:=P.2;exact⟨q,h1,r.fresh s,a⟩
def Um(G:PTX X c n)(O:Bg X A L i a f)(Q:Bg X A L i b g):PSX X A L i (.If c a b j) (sIf n f g):=PS.imp' (Sn G O Q) λD x N M=>by
 obtain⟨z,T,s,E,U,e,k⟩:=M;obtain⟨⟨c,o⟩,h1,e⟩:=ir e;refine⟨z,T,c,o,E,h1,λy C B=>?_⟩;have w:SK A x z N x o y:=C.sk
 have fin: ∀(h:FS),h o=Y s->tS X.K A L i h D x y:=λh J=>by
  refine⟨o,T,s,B,U.step w,J,?_⟩
  cases s with
  |nx t=>exact λd p q u=>k d p (w.trans q) u
  |bk t=>exact λd p q u=>k d p (w.trans q) u
  |ct t=>exact λd p q u=>k d p (w.trans q) u
  |rt r t=>exact λv d p q R2=>k v d p (w.trans q) R2
 cases c with
 |true=>rw[iP H] at e;exact(show(if Zx=Zx then tS X.K A L i f D x y else _) from by rw[iP H];exact fin f e)
 |false=>rw[jc ku] at e;exact(show(if Zy=Zx then _ else tS X.K A L i g D x y) from by rw[jc ku];exact fin g e)
end
def lW{b:Type}{l:List b}{i j:Nat}{x y:b}(h:(l.set i x)[j]?=Y y):(i=j/\i<ZB l/\y=x)\/(i≠j/\l[j]?=Y y):=by
 rw[zr] at h;split at h
 .rename_i a;split at h
  .rename_i c;exact .inl ⟨a,c,(kE h).symm⟩
  .cases h
 .rename_i a;exact .inr ⟨a,h⟩
section
variable {K:iW}{T:AP'}{f:L2.St}{l c:Dn}{H g:Hp}{x:D×Bool}{v:V}{i:Nat}
def OwnI.store{j:Nat}{a:iu}(h:OwnI (f.set i<|Y v) (l.set i<|Y x) j a):(i≠j/\OwnI f l j a)\/(i=j/\x.2=J/\v= .ref a):=by
 obtain⟨d,h1,m⟩:=h;rcases lW h1 with⟨e,_,q⟩|⟨ne,q⟩
 .rcases lW m with⟨_,_,k⟩|⟨b,_⟩
  .right;cases q;exact⟨e,rfl,(kE k).symm⟩
  .exact absurd e b
 .rcases lW m with⟨n,_,_⟩|⟨_,k⟩
  .exact absurd n ne
  .exact .inl ⟨ne,d,q,k⟩
def OwnA.store(h:OwnA (f.set i<|Y v) (l.set i<|Y x) a):OwnA f l a\/(x.2=J/\v= .ref a):=by
 obtain⟨j,d,h1,k⟩:=h;rcases OwnI.store ⟨d,h1,k⟩ with⟨_,e,b,m⟩|⟨_,b⟩
 .exact .inl ⟨j,e,b,m⟩
 .exact .inr b
def ER.store(h:ER K g (Tmp T x v) f c)(E:i<ZB c)(u:match x with|(d,C)=>Rep K g (λa=>OwnA f c a\/T a) d v|(d,J)=> ∃p,v= .ref p/\ ¬T p/\OwnOk K g (λa=>OwnA f c a\/T a\/a=p) d p):
  ER K g T (f.set i<|Y v) (c.set i<|Y x):=by
 have r:i<(ZB f):=by rw[h.len];exact E
 have sub: ∀b,g b≠I->(OwnA (f.set i<|Y v) (c.set i<|Y x) b\/T b)->(OwnA f c b\/Tmp T x v b):=λb _ z=>by
  rcases z with z|z
  .rcases z.store with z|z
   .exact .inl z
   .exact .inr (.inr z)
  .exact .inr (.inl z)
 refine⟨by rw[qK,qK];exact h.len,λj d o=>?_,λj d o=>?_,λj k d e a o hk h1 n=>?_,λa z=>?_,λa z=>h.dom a<|.inl z⟩
 .rcases lW o with⟨rfl,_,q⟩|⟨ne,q⟩
  .have q:=kE q;subst q
   exact⟨v,ox r,Rep.mono (λ_ _ e _=>e) (λb Q z=>by
    rcases z with z|z
    .rcases z.store with z|z
     .exact .inl z
     .exact absurd z.1 (by simp)
    .exact .inr z) u⟩
  .obtain⟨w,h1,n⟩:=h.val j d q;exact⟨w,by rw[oM ne];exact h1,Rep.mono (λ_ _ e _=>e) sub n⟩
 .rcases lW o with⟨rfl,_,q⟩|⟨ne,q⟩
  .have q:=kE q;subst q;obtain⟨p,rfl,np,ok⟩:=u;refine⟨p,ox r,ok.mono (λ_ _ e _=>e) (λb Q z=>?_) λ_ e=>e⟩;rcases z with z|z
   .rcases z.store with z|z
    .exact .inl z
    .have:=z.2;cases this;exact .inr<|.inr Zz
   .exact .inr (.inl z)
  .obtain⟨a,h1,n⟩:=h.own j d q;exact⟨a,by rw[oM ne];exact h1,n.mono (λ_ _ e _=>e) sub λ_ e=>e⟩
 .rcases OwnI.store ⟨d,o,h1⟩ with⟨L,y,g1,g2⟩|⟨B,g1,g2⟩
  .rcases OwnI.store ⟨e,hk,n⟩ with⟨U,s,g3,m⟩|⟨A,g3,m⟩
   .exact h.inj j k y s a g1 g3 g2 m
   .exact absurd (bO ⟨g3,m⟩) (h.nT a ⟨j,y,g1,g2⟩)
  .rcases OwnI.store ⟨e,hk,n⟩ with⟨U,s,g3,m⟩|⟨A,g3,m⟩
   .exact absurd (bO ⟨g1,g2⟩) (h.nT a ⟨k,s,g3,m⟩)
   .exact B.symm.trans A
 .rcases z.store with z|z
  .exact λt=>h.nT a z<|.inl t
  .obtain⟨d,b⟩:=x
   cases b with
   |false=>exact absurd z.1 (by simp)
   |true=>obtain⟨p,rfl,np,_⟩:=u;have:=z.2;cases this;exact np
def SK.store(k:Keep f l H c g)(b:A i)(h:x.2=J-> ∀p,v= .ref p->H p=I):SK A f l H (f.set i<|Y v) (c.set i<|Y x) g where
 kp:=k.kp
 owi:=λj a z=>by
  rcases z.store with⟨_,z⟩|⟨_,m,n⟩
  .exact .inl (k.owi j a z)
  .exact .inr (h m a n)
 dm:=k.dm
 as:=λj d=>oM λ(e:i=j)=>d (by subst e;exact b)
end
section
variable {X:Cx}{A L:jW}{m:Hp}{l:F}{e c:iI}{g f:bI}
def zO{K:iW}{T:AP'}{b:L2.St}{n a:Dn}{U j:Hp}{r:D×Bool}{v:V}{i:Nat}(E:ER K U T b n)(P:Post K T b n U r a v j)(u:i<ZB a)(t:A i):
  SK A b n U (b.set i<|Y v) (a.set i<|Y r) j/\ER K j T (b.set i<|Y v) (a.set i<|Y r):=by
 have w:r.2=J-> ∀p,v= .ref p->U p=I:=λh p hv=>by
  obtain⟨d,o⟩:=r
  cases o with
  |false=>cases h
  |true=>obtain⟨q,h1,k,_⟩:=P.2;rw[hv] at h1;cases h1;exact k
 refine⟨SK.store P.1 t w,ER.store (P.er E) u ?_⟩;obtain⟨d,o⟩:=r
 cases o with
 |false=>exact P.2.2
 |true=>obtain⟨p,rfl,k,x,s⟩:=P.2;exact⟨p,rfl,λz=>(E.dom p z).ne k,s⟩
def Qs{i:Nat}{x:ax}(n:X.N.Nodup)(a:X.N[i]?=Y x)(u:Loc X.env.scope x)(p:PX X e l)(s:bJ e (Y<|.Name x f) g.line X.env=pure C)(q:X.fn x=J\/X.env.scope.names.lookup x=Y .local)(o:A i):
  PSX X A L m (.Assign [.Name x f] e g) (jD i l):=PS.imp' (MS n a u p s q) λD B U t=>by
 obtain⟨y,T,w,E,z,e,k⟩:=t;obtain⟨⟨r,b⟩,j,e⟩:=ir e;obtain⟨a,rfl⟩:=iY e;refine⟨y,T,r,b,E,j,λv d P=>?_⟩;obtain⟨h1,h⟩:=zO (A:=A) E P a o;exact k _ d h1 h
def GO{i:Nat}{x:ax}(Y:X.N[i]?=Zv x)(hv:Vis X.env.scope x)(hd:(x==("__debug__":ax))=Zy)(l6:(x==("__classdict__":ax))=Zy)(hl: ¬L i):PSX X A L m (.Return (Zv<|.Name x f) g) (pN i):=PS.imp' (MT<|Aa Y hv hd l6) λD u H K=>by
 obtain⟨s,T,P,E,U,e,k⟩:=K;unfold pN at e
 cases o:s[i]? with
 |none=>rw[o] at e;cases e
 |some q=>
  cases q with
  |none=>rw[o] at e;cases e
  |some p=>
   obtain⟨d,b⟩:=p;have F:i<(ZB s):=(rT.mp o).1
   cases b with
   |false=>rw[o] at e;cases e;obtain⟨v,h1,C⟩:=E.val i d o;exact⟨v,h1,k v u H .refl ⟨E,C⟩⟩
   |true=>
    rw[o] at e;cases e;obtain⟨a,h1,C⟩:=E.own i d o
    have h: ∀j b,OwnI u (s.set i Zw) j b->i≠j/\OwnI u s j b:=λj b a'=>by
     obtain⟨r,g1,g2⟩:=a'
     rcases lW g1 with⟨_,_,q⟩|⟨ne,q⟩
     .cases q
     .exact⟨ne,r,q,g2⟩
    have n: ∀b,OwnA u (s.set i Zw) b->OwnA u s b/\b≠a:=λb a'=>by
     obtain⟨j,r,g1,g2⟩:=a'
     obtain⟨ne,B,g3,Q⟩:=h j b ⟨r,g1,g2⟩;exact⟨⟨j,B,g3,Q⟩,λz=>ne<|by subst z;exact E.inj i j d B _ o g3 h1 Q⟩
    have G:OwnA u s a:=⟨i,d,o,h1⟩
    have sub: ∀b,H b≠Zw->(OwnA u (s.set i Zw) b\/(T b\/b=a))->(OwnA u s b\/T b):=λb _ z=>by
     rcases z with z|z|z
     .exact .inl (n b z).1
     .exact .inr z
     .subst z;exact .inl G
    refine⟨.ref a,h1,k (.ref a) u H ⟨λ_ _ e _=>e,λj b z=> .inl (h j b z).2,λ_ z=>z,λ_ _=>rfl⟩ ⟨a,rfl,?_,?_,C.mono (λ_ _ e _=>e) sub λ_ e=>e⟩⟩
    .rcases U.ow i a ⟨d,o,h1⟩ with z|z
     .exact absurd z hl
     .exact z
    .refine⟨by rw[qK];exact E.len,λj r y=>?_,λj r y=>?_,λj k r M b y hk g1 g2=>?_,λb z t=>?_,λb z=>?_⟩
     .rcases lW y with⟨_,_,q⟩|⟨ne,q⟩
      .cases q
      .obtain⟨w,I,O⟩:=E.val j r q;exact⟨w,I,Rep.mono (λ_ _ e _=>e) sub O⟩
     .rcases lW y with⟨_,_,q⟩|⟨ne,q⟩
      .cases q
      .obtain⟨w,I,O⟩:=E.own j r q;exact⟨w,I,O.mono (λ_ _ e _=>e) sub λ_ e=>e⟩
     .obtain⟨_,B,R,S⟩:=h j b ⟨r,y,g1⟩;obtain⟨_,J,V,W⟩:=h k b ⟨M,hk,g2⟩;exact E.inj j k B J b R V S W
     .obtain⟨Z,z2⟩:=n b z;rcases t with t|t
      .exact E.nT b Z t
      .exact z2 t
     .rcases z with z|z
      .exact E.dom b z
      .subst z;exact E.ownOw G
end
abbrev Tg:=D->Dn->Option Dn
def tG(K:iW)(A:jW)(g:Tg):TG:=λv f U Q=> ∃e T d b,ER K U T f e/\Rep K U (λa=>OwnA f e a\/T a) d v/\g d e=Y b/\ ∀c,SK A f e U c b U->ER K U T c b->Q c U
def PGX(X:Cx)(A:jW)(e:iI)(a:Tg):Prop:=PG X e<|tG X.K A a
noncomputable def iF(i:Nat):Tg:=λd δ=>if i<(ZB δ) then Y (δ.set i<|Y (d,C)) else I
noncomputable def HP:List Tg->List D->Dn->Option Dn
 |[],[],a=>Y a
 |t::b,d::ds,a=>(t d a).bind<|HP b ds
 |_,_,_=>I
noncomputable def qk(a:List Tg):Tg
 | .tup ds,δ=>HP a ds δ
 |_,_=>I
def tGs(K:iW)(A:jW)(g:List Tg):TGs:=λh e U Q=> ∃d T f b,ER K U T e d/\RepL K U (λa=>OwnA e d a\/T a) f h/\HP g f d=Y b/\ ∀c,SK A e d U c b U->ER K U T c b->Q c U
section
variable {X:Cx}{A:jW}{g:bI}{e:iI}{f:kr}{t:Tg}{c:List Tg}
def PG.imp'{t d:TG}(h:PG X e t)(k: ∀v b T Q,d v b T Q->t v b T Q):PG X e d:=λa s b T v u Q U r i=>h a s b T v u Q U r<|k v b T Q i
def PGs.imp'{t d:TGs}(h:PGs X f t)(k: ∀v b T Q,d v b T Q->t v b T Q):PGs X f d:=λa s b T v u Q U r i=>h a s b T v u Q U r<|k v b T Q i
def M8{i:Nat}{x:ax}(h:X.N.Nodup)(a:X.N[i]?=Y x)(n:Loc X.env.scope x)(l:X.fn x=J\/X.env.scope.names.lookup x=Y .local)(j:A i):PGX X A (.Name x g) (iF i):=PG.imp' (Ik h a n l) λv q U Q m=>by obtain⟨p,T,d,o,E,r,e,k⟩:=m;obtain⟨a,rfl⟩:=iY e;obtain⟨h1,b⟩:=zO (A:=A) (r:=(d,C)) (v:=v) E (Post.val .refl E r) a j;exact k _ h1 b
def M9:PGs X [] (tGs X.K A []):=PGs.imp' QH λv h U Q b=>by
 obtain⟨i,T,a,d,E,r,e,k⟩:=b
 cases a with
 |nil=>
  cases e;rw[RepL] at r;exact⟨r,k h .refl E⟩
 |cons _ _=>cases e
def Bv(h1:PGX X A e t)(p:PGs X f (tGs X.K A c))(u:(aU (e::f) X.env).map (·.2)=ce e X.env::(aU f X.env).map (·.2)):PGs X (e::f) (tGs X.K A (t::c)):=PGs.imp' (Na h1 p u) λv O N Q w=>by
 obtain⟨U,T,h,i,E,r,e,k⟩:=w
 cases h with
 |nil=>cases e
 |cons d h=>rw[RepL] at r;obtain⟨B,M,rfl,x,y⟩:=r;obtain⟨a,q,e⟩:=ir e;refine⟨B,M,rfl,U,T,d,a,E,x,q,λL l m=>⟨a,T,h,i,m,?_,e,λj o n=>k j (l.trans o) n⟩⟩;exact RepL.mono (λ_ _ e _=>e) (λb s z=>z.elim (λz=>(l.ow b z).elim bz λz=>absurd z s) bO) y
def QE{k:Nat}(o:X.calm=J)(h:PGs X f (tGs X.K A c)){n:Nat}(s:(aU f X.env).length=n)(p:c.length=n)(x:(aU f X.env).findIdx? (·.1)=I):PGX X A (.Tuple f k g) (qk c):=PG.imp' (Uv o h s x) λv z U Q u=>by
 obtain⟨i,T,d,j,E,r,e,k⟩:=u
 cases d with
 |tup b=>
  obtain⟨a,y,rfl,q,m⟩:=r.tup;refine⟨a,y,rfl,q.sq,?_,i,T,b,j,E,m,e,k⟩
  have: ∀(c:List Tg) (b:List D) (i:Dn),HP c b i=Y j->b.length=c.length:=by
   intro c
   induction c with
   |nil=>intro b i h;cases b with|nil=>rfl|cons _ _=>cases h
   |cons t c w=>
    intro b i h
    cases b with
    |nil=>cases h
    |cons d b=>obtain⟨l,_,h⟩:=ir h;simp[w b l h]
  rw[m.length,this c b i e,p]
 |_=>cases e
end
abbrev SB:=Nat->Prop
def OwB(B:SB)(T:AP')(c:L2.St)(b:Dn):AP':=λa=>(∃i,¬B i/\OwnI c b i a)\/T a
def OwB.own(h:OwB B T σ δ a):OwnA σ δ a\/T a:=h.imp (λU=>by obtain⟨i,_,d,h1,b⟩:=U;exact ⟨i,d,h1,b⟩) id
structure ItOk(K:iW)(J:It)(ds:List D)(P O:AP')(H1:Hp):Prop where
 go: ∀(i:Nat) d Hi,ds[i]?=Zv d->(∀a o,H1 a=Zv o-> ¬P a->Hi a=Zv o)->J.go i Hi/\ ∀x H',J.yld i Hi x H'->(∀a o,Hi a=Zv o->H' a=Zv o)/\
  ∀O':AP',(∀b,H1 b≠Zw->O' b->O b)->(∀b,Hi b=Zw-> ¬O' b)->Rep K H' O' d x
 stop: ∀(i:Nat) Hi,ZB ds<=i->(∀a o,H1 a=Zv o-> ¬P a->Hi a=Zv o)->J.stop i Hi
abbrev FIt:=Dn->Option (List D×Dn)
def tI(K:iW)(B:SB)(g:FIt):TI:=λc U R=> ∃e T f b,ER K U T c e/\g e=Y (f,b)/\ ∀Q d,Keep c e U b d->ER K d T c b->ItOk K Q f (OwB B T c b) (λa=>OwnA c b a\/T a) d->R Q d
def PIX(X:Cx)(B:SB)(tg iter:iI)(a:FIt):Prop:=PI X tg iter<|tI X.K B a
noncomputable def yn:D->Option (List D)
 | .tup l=>Y l
 | .lst l=>Y l
 |_=>I
noncomputable def Aq(f:FO):FIt:=λa=>(f a).bind λp=>(res p.2 p.1).bind λd=>(yn d).bind λl=>Y (l,p.2)
noncomputable def jx(f:F):FIt:=λδ=>(f δ).bind λp=>match p.1.1 with
 | .lst l=>Y (l,p.2)
 | .tup l=>Y (l,p.2)
 |_=>I
noncomputable def jv(lo:Int)(n:Nat):List D:=(aw n).map λ(k:Nat)=> .int (lo+k)
noncomputable def EU(f:FO):FIt:=λa=>(ki [f] a).bind λp=>match uv p.2 p.1 with
 |some [.int j]=>if -(2^62)<=j/\j<2^62 then Y (jv 0 j.toNat,p.2) else I
 |_=>I
def SlB(B:SB)(f:FO):Prop:= ∀b i a,f b=Y (.slot i,a)->B i
def PH:SlB B (iA f):=λb i a h=>by obtain⟨p,_,h⟩:=ir h;cases h
def C6(h:B i):SlB B (iw i):=λb j a e=>by
 unfold iw at e;split at e<;>cases e
 exact h
noncomputable def isL:D->Bool
 | .lst _=>J
 |_=>C
def SqA(b:Bool)(K:iW)(U:Hp)(P:AP')(a:iu)(c:List V):Prop:=if b=J then SqLO K U P a c else SqTO K U P a c
def SqA.mono{K U H'}{P P':AP'}(q:SqA b K U P a xs)(k: ∀b o,U b=Y o-> ¬P b->H' b=Y o)(c: ∀b,P' b->P b):SqA b K H' P' a xs:=by
 cases b with
 |true=>exact SqLO.mono q k λb _=>c b
 |false=>exact SqTO.mono (K:=K) q k λb _=>c b
def SqA.l{K U}(q:SqA J K U P a xs):SqL K U a xs:=SqLO.sq q
def SqA.t{K U}(q:SqA C K U P a xs):SqT K U a xs:=SqTO.sq (K:=K) q
def Bs{K U}(h:yn d=Y l)(r:Rep K U O d v): ∃a b,v= .ref a/\SqA (isL d) K U O a b/\RepL K U O l b:=by
 cases d with
 |tup m=>cases h;obtain⟨a,b,rfl,q,c⟩:=r.tup;exact⟨a,b,rfl,q,c⟩
 |lst m=>cases h;obtain⟨a,b,rfl,q,c⟩:=r.lst;exact⟨a,b,rfl,q,c⟩
 |_=>cases h
def Ops.seq{K:iW}{T M:AP'}{h:L2.St}{A c:Dn}{N n:Hp}{os:List Opd}{y:List V}(E:ER K N T h A)(W:Ops K T h A N os y c n M){j:Nat}(h1:os[j]?=Y o)(x:y[j]?=Y v)(s:res c o=Y d)(t:yn d=Y l)(L: ∀i,o= .slot i->B i):
  ∃a g,v= .ref a/\SqA (isL d) K n (OwB B T h c) a g/\RepL K n (λa=>OwnA h c a\/T a) l g:=by
 have fin:Rep K n (λa=>OwnA h c a\/T a) d v-> ∃a g,v= .ref a/\SqA (isL d) K n (OwB B T h c) a g/\RepL K n (λa=>OwnA h c a\/T a) l g:=λr=>by obtain⟨a,g,rfl,q,u⟩:=Bs t r;exact⟨a,g,rfl,q.mono (λ_ _ e _=>e) λa z=>z.own,u⟩
 cases o with
 |val r=>cases s;exact fin<|W.rep E h1 x
 |slot i=>
  have hk:=W.slt j i _ h1 x
  have hd: ∃f,c[i]?=Y (Y (d,f)):=by
   unfold res at s;dsimp only at s;split at s<;>cases s
   exact⟨_,by assumption⟩
  obtain⟨f,hd⟩:=hd
  cases f with
  |false=>obtain⟨w,p,U⟩:=W.er.val i _ hd;rw[hk] at p;cases p;exact fin<|Rep.mono (λ_ _ e _=>e) (λb _ z=>z.imp id<|W.tt b) U
  |true=>
   obtain⟨a,p,ok⟩:=W.er.own i _ hd;rw[hk] at p;cases p
   cases d with
   |lst m=>
    cases t;obtain⟨g,e,u⟩:=ok;exact⟨a,g,rfl,.inl ⟨.inl e,λz=>z.elim (λG=>by obtain⟨k,O,Q,g1,g2⟩:=G;exact O<|W.er.inj i k _ _ a hd g1 hk g2▸L i H) λz=>W.er.nT a ⟨i,_,hd,hk⟩<|W.tt a z⟩,RepL.mono (λ_ _ e _=>e) (λb _ z=>z.imp id<|W.tt b) u⟩
   |tup m=>exact ok.elim
   |_=>cases t
section
variable {X:Cx}{B:SB}{tg e:iI}{f:F}{c:FO}{g p:bI}
def PI.imp'(h:PI X tg e t)(k: ∀b T R,i b T R->t b T R):PI X tg e i:=λa s b T R U d=>h a s b T R U<|k b T R d
def PI.or(h:PI X tg e t)(d:PI X tg e j):PI X tg e (λb T R=>t b T R\/j b T R):=λa s b T R U i=>i.elim (h a s b T R U)<|d a s b T R U
noncomputable def ItS(b:Bool)(K:iW)(a:iu):It:=if b=J then Itl K a else Itt K a
def N2{K:iW}{P O:AP'}{m:Hp}{a:iu}{k:List V}{l:List D}(q:SqA b K m P a k)(r:RepL K m O l k)(v: ∀a,P a->O a):ItOk K (ItS b K a) l P O m:=by
 cases b<;>(
  refine⟨λi d Hi hd j=>?_,λi Hi w j=>?_⟩
  .have h:=SqA.mono q j λ_ z=>z
   first|replace h:=h.l|replace h:=h.t
   obtain⟨x,u,A⟩:=r.get hd;refine⟨⟨k,x,h,u⟩,λy T s=>?_⟩;obtain⟨rfl,s⟩:=s;have:=s k h;rw[u] at this;cases this;exact⟨λ_ _ e=>e,λE h1 U=>Rep.mono (λb o e n=>j b o e λz=>n<|v b z) h1 A⟩
  .exact⟨k,by first|exact(SqA.mono q j λ_ z=>z).l|exact(SqA.mono q j λ_ z=>z).t,by rw[r.length];exact w⟩)
def Ar{K:iW}{P O:AP'}{b:Hp}(lo:Int)(n:Nat):ItOk K (Itr lo n) (jv lo n) P O b:=by
 refine⟨λi d Hi hd j=>?_,λi Hi a j=>?_⟩
 .unfold jv at hd;rw[kD] at hd;obtain⟨k,h1,h⟩:=jk hd;have a:i<n:=by have:=(rT.mp h1).1;simpa using this
  have hk:k=i:=by rw[List.getElem?_range a] at h1;exact(kE h1).symm
  subst hk;refine⟨a,λy m l=>?_⟩;obtain⟨rfl,rfl⟩:=l;refine⟨λ_ _ e=>e,λo _ _=>?_⟩;rw[<-h];exact Rep.mkInt
 .unfold jv at a;have:n<=i:=by simpa using a
  exact this
def Ey(h:PO X e c)(U:SlB B c):PIX X B tg e (Aq c):=PI.imp' (PI.or (QD (tg:=tg) h)<|Uu h) λA N R O=>by
 obtain⟨x,T,J,G,E,e,k⟩:=O;obtain⟨⟨o,w⟩,h1,e⟩:=ir e;obtain⟨d,M,e⟩:=ir e;obtain⟨l,y,e⟩:=ir e;obtain⟨rfl,rfl⟩:=jd e
 have u: ∀v n,PostO X.K T A x N o w v n-> ∃a s,v= .ref a/\SqA (isL d) X.K n (OwB B T A w) a s/\R (ItS (isL d) X.K a) n:=λv n P=>by have W:=Ops.cons E P<|Ops.nil<|P.er E;obtain⟨a,s,rfl,q,Q⟩:=W.seq E (j:=0) H H M y λi L=>U _ _ _ (L▸h1);exact⟨a,s,rfl,q,k _ n W.keep (W.er.mono (λ_ _ e _=>e) (λb _ z=>W.tt b z) λa z=>W.er.dom a<|W.tt a z) (N2 q Q λa z=>z.own)⟩
 cases d with
 |lst m=>exact .inl ⟨x,T,_,_,E,h1,λv n P=>let⟨a,s,e,q,r⟩:=u v n P;⟨a,e,⟨s,q.l⟩,r⟩⟩
 |tup m=>exact .inr ⟨x,T,_,_,E,h1,λv n P=>let⟨a,s,e,q,r⟩:=u v n P;⟨a,e,⟨s,q.t⟩,r⟩⟩
 |_=>cases y
def Qx(h:PX X e f):PIX X B tg e (jx f):=PI.imp' (Ey (B:=B) (PX.po h) PH) λj U R a=>by
 have:jx f=Aq (iA f):=funext λb=>by
  unfold jx Aq iA
  cases f b with
  |none=>rfl
  |some p=>obtain⟨⟨d,o⟩,i⟩:=p;cases d<;>rfl
 rwa [this] at a
end
noncomputable def qy(tg:Tg)(fb:FS):List D->FS
 |[],b=>Y<|.nx b
 |d::ds,b=>(tg d b).bind λc=>(fb c).bind λo=>match o with
  | .nx a=>qy tg fb ds a
  | .ct a=>qy tg fb ds a
  | .bk a=>Y<|.nx a
  | .rt r a=>Y<|.rt r a
noncomputable def pV(b:FIt)(c:Tg)(a:FS):FS:=λd=>(b d).bind λp=>qy c a p.1 p.2
section
variable {X:Cx}{A L:jW}{l:Hp}{g iter:iI}{c:List bD}{j:FIt}{t:Tg}{f:FS}{h:bI}
def Qu(hp:fx (ah X.prog X.w) X.A X.env X.xe)(hc:X.calm=Zx)(hi:PIX X (λ_=>False) g iter j)(hg:PGX X A g t)(G:Bg X A L l c f)(hs: ∀x,aM iter X.env x=pure x):
  PSX X A L l (.For g iter c [] h) (pV j t f):=PS.imp' (Uq hp hc hi hg G hs) λD M H hw=>by
 obtain⟨δ,T,R,E,hU,e,k⟩:=hw;obtain⟨⟨u,q⟩,h1,e⟩:=ir e;refine⟨δ,T,u,q,E,h1,λJ Y K1 E1 ok=>?_⟩;have V:SK A M δ H M q Y:=K1.sk;refine⟨λi m s C'=>m=ZB u-i/\i<=ZB u/\ ∃p,SK A M q Y s p C'/\ER X.K C' T s p/\qy t f (u.drop i) p=Zv R,⟨ZB u,by simp,lL _,q,.refl,E1,by simpa using e⟩,?_⟩;rintro i m O H2 ⟨rfl,hle,I',S2,N,e2⟩;have aH: ∀a o,Y a=Zv o-> ¬OwB (λ_=>False) T M q a->H2 a=Zv o:=λa o ea n=>S2.kp a o ea λ⟨i,d,z⟩=>n<|.inl ⟨i,id,d,z⟩;by_cases Z:i<ZB u
 .refine .inr ?_;have hd:u[i]?=Zv u[i]:=jt Z;obtain⟨go,yl⟩:=ok.go i _ H2 hd aH;rw[xt Z] at e2;obtain⟨S,h3,e3⟩:=ir e2;obtain⟨o,h4,W⟩:=ir e3;refine⟨go,λs C'=> ∃p,SK A M q Y s p C'/\ER X.K C' T s p/\qy t f (u.drop<|i+1) p=Zv R,λs C' ⟨p,q1,q2,q3⟩=>⟨ZB u-(i+1),by omega,rfl,Z,p,q1,q2,q3⟩,λx C' hy=>?_⟩;obtain⟨ext,rep⟩:=yl x C' hy;have ez:ER X.K C' T O I':=N.mono (λb ob eb _=>ext b ob eb) (λ_ _ z=>z) λa z=>(N.dom a z).up<|ext a;have ie:SK A M q Y O I' C':=S2.trans (Keep.ext ext).sk;have rx:=rep (λa=>OwnA O I' a\/T a) (λb G z=>z.elim (λz=>(S2.ow b z).elim bz λz=>absurd z G) bO) λb G z=>z.elim (λz=>N.ownDom z G) λz=>(N.dom b z).ne G;refine⟨I',T,u[i],S,ez,rx,h3,λσ3 S3 E3=>?_⟩;have P:=ie.trans S3;refine⟨S,T,o,E3,(hU.step V).step P,h4,?_⟩
  cases o with
  |nx y=>exact λB F Q U=>⟨y,P.trans Q,U,W⟩
  |ct y=>exact λB F Q U=>⟨y,P.trans Q,U,W⟩
  |bk y=>cases W;exact λB F Q U=>k B F (V.trans<|P.trans Q) U
  |rt r y=>cases W;exact λv B F Q R4=>k v B F (V.trans<|P.trans Q) R4
 .refine .inl ⟨ok.stop i H2 (by omega) aH,?_⟩;rw[zo<|by omega] at e2;cases e2;exact k O H2 (V.trans S2) N
end
noncomputable def ml(b:FT)(a:FS):Nat->FS
 |0,_=>I
 |n+1,c=>(b c).bind λp=>if p.1=J then(a p.2).bind λo=>(match o with
   | .nx δ2=>ml b a n δ2
   | .ct δ2=>ml b a n δ2
   | .bk δ2=>Y<|.nx δ2
   | .rt r δ2=>Y<|.rt r δ2) else Y (.nx p.2)
noncomputable def vM(f g:FO):FIt:=λδ=>(ki [f,g] δ).bind λp=>match uv p.2 p.1 with
 |some [.int i,.int j]=>if -(2^62)<=i/\i<2^62/\ -(2^62)<=j/\j<2^62 then Y (jv i (j-i).toNat,p.2) else I
 |_=>I
section
variable {X:Cx}{A L:jW}{C:Hp}{B:SB}{t e c a b:iI}{d:List bD}{g:FT}{l:FS}{s u:FO}{f p:bI}
def JH{n:Nat}(hp:fx (ah X.prog X.w) X.A X.env X.xe)(hc:PTX X c g)(hb:Bg X A L C d l):PSX X A L C (.While c d [] f) (ml g l n):=PS.imp' (MR hp hc hb) λD F H hw=>by
 obtain⟨Y,T,J,E,hU,e,k⟩:=hw;refine⟨λm i I=> ∃h,SK A F Y H i h I/\ER X.K I T i h/\ml g l m h=Zv J,⟨n,Y,.refl,E,e⟩,?_⟩;rintro m M H2 ⟨δ2,S2,E2,e2⟩
 cases m with
 |zero=>cases e2
 |succ m=>
  obtain⟨⟨S,z⟩,Z,N⟩:=ir e2;refine⟨δ2,T,S,z,E2,Z,λR V P=>?_⟩;have O:SK A F Y H M z R:=S2.trans V.sk
  cases S with
  |false=>rw[jc ku] at N;cases N;exact U2<|k M R O P
  |true=>
   rw[iP Zz] at N;obtain⟨o,h4,U⟩:=ir N;refine U1 ⟨λi I=> ∃h,SK A F Y H i h I/\ER X.K I T i h/\ml g l m h=Zv J,λi I q=>⟨m,sv _,q⟩,z,T,o,P,hU.step O,h4,?_⟩
   cases o with
   |nx j=>exact λx G y Q=>⟨j,O.trans y,Q,U⟩
   |ct j=>exact λx G y Q=>⟨j,O.trans y,Q,U⟩
   |bk j=>cases U;exact λx G y Q=>k x G (O.trans y) Q
   |rt r j=>cases U;exact λv x G y W=>k v x G (O.trans y) W
def tQ{K:iW}{T v:AP'}{E:L2.St}{z m:Dn}{U r:Hp}{os:List Opd}{k:List V}{n:List D}(B:Ops K T E z U os k m r v)(h:uv m os=Y n){j:Nat}{i:Int}(hd:n[j]?=Y (.int i)):k[j]?=Y (.int i):=by
 obtain⟨h1,w⟩:=oY h;obtain⟨o,q,x⟩:=w j _ hd;have y:j<(ZB k):=by have:=(rT.mp q).1;have:=B.len;lia
 have hv:k[j]?=Y k[j]:=jt y;have:=jr<|B.view q hv x;rw[hv,this]
def GS(y:Gl X "range")(O:X.mg "range"=Zw)(x:PA X [a] (tA X.K [s]))(Q:ac [a] X.env=[(Zy,aE a X.env)]):PIX X B t (.Call (.Name "range" p) [a] [] f) (EU s):=PI.imp' (JP y O x Q) λY H R G=>by
 obtain⟨J,T,U,M,E,e,k⟩:=G;obtain⟨⟨os,i⟩,h1,e⟩:=ir e;refine⟨J,T,os,i,E,h1,λn o N B=>?_⟩;dsimp only at e;split at e
 .rename_i j m;obtain⟨⟨q,w⟩,e⟩:=iY e;obtain⟨rfl,rfl⟩:=rA e;have hv:=tQ B m (j:=0) Zz;obtain⟨I,_⟩:=oY m
  have:n=[.int j]:=by
   have h:=B.len
   cases n with
   |nil=>simp at hv
   |cons v r=>
    cases r with
    |nil=>simp at hv;rw[hv]
    |cons _ _=>simp at I h;lia
  exact⟨j,this,q,w,k _ o B.keep (B.er.mono (λ_ _ e _=>e) (λb _ z=>B.tt b z) λa z=>B.er.dom a<|B.tt a z) (Ar 0 j.toNat)⟩
 .cases e
def GR(Q:Gl X "range")(J:X.mg "range"=Zw)(O:PA X [a,b] (tA X.K [s,u]))(M:ac [a,b] X.env=[(Zy,aE a X.env),(Zy,aE b X.env)])(w:ac [b] X.env=[(Zy,aE b X.env)]):PIX X B t (.Call (.Name "range" p) [a,b] [] f) (vM s u):=PI.imp' (JO Q J O M w) λP H R N=>by
 obtain⟨U,T,F,Y,E,e,k⟩:=N;obtain⟨⟨os,o⟩,h1,e⟩:=ir e;refine⟨U,T,os,o,E,h1,λq v D B=>?_⟩;dsimp only at e;split at e
 .rename_i i j n;obtain⟨I,e⟩:=iY e;obtain⟨rfl,rfl⟩:=rA e;have hv:=tQ B n (j:=0) Zz;have m:=tQ B n (j:=1) Zz;obtain⟨G,_⟩:=oY n
  have:q=[.int i,.int j]:=by
   have h:=B.len
   match q,hv,m with
   |[x,y],hv,m=>simp at hv m;rw[hv,m]
   |x::y::z::r,_,_=>simp at G h;lia
  exact⟨i,j,this,I,k _ v B.keep (B.er.mono (λ_ _ e _=>e) (λb _ z=>B.tt b z) λa z=>B.er.dom a<|B.tt a z) (Ar i (j-i).toNat)⟩
 .cases e
end
abbrev EvF:=List (D×Bool)->Option ((D×Bool)×Dn)
def spF(K:iW)(e:EvF):Sp:=λd U Q _=> ∃T a r b,ER K U T (d.map Y) (a.map Y)/\e a=Y (r,b)/\ ∀v c,Post K T (d.map Y) (a.map Y) U r b v c->Q v c
noncomputable def jS(args:List (D×Bool))(δ:Dn):Dn:=args.zipIdx.map λp=>if p.1.2=J then(δ[p.2]?).join else Y p.1
noncomputable def evF(n np:Nat)(asg:jU)(f:FS):EvF:=λa=>
 if (ZB a)=np/\np<=n/\(a.zipIdx.all λp=>!(p.1.2&&asg.contains p.2))=J then
  match f (a.map Y++ae (n-np) I) with
  |some (.rt r δ)=>Y (r,jS a δ)
  |some (.nx δ)=>Y ((.non,C),jS a δ)
  |_=>I
 else I
def Nl(a:List (D×Bool))(b:Dn)(i:Nat):(jS a b)[i]?=a[i]?.map λx=>if x.2=J then(b[i]?).join else Y x:=by
 unfold jS;rw[kD,CF]
 cases a[i]? with
 |none=>rfl
 |some x=>simp
def oG(h:x.join=Y p):x=Y (Y p):=by
 cases x with
 |none=>cases h
 |some y=>exact mV Y h
section
variable {K:iW}{T:AP'}{A:jW}{k:List V}{f:List (D×Bool)}{H q:Hp}{m:Nat}{l:L2.St}{g:Dn}{r:D×Bool}{v:V}
def D6{b:Type}{a:List b}{m i:Nat}{y:b}:(a.map Y++ae m I)[i]?=Y (Y y)↔a[i]?=Y y:=by
 by_cases h:i<ZB a
 .rw[qf<|by simpa using h,kD];cases a[i]?<;>simp
 .rw[qg<|by simpa using h];constructor
  .intro e;rw[vV] at e;split at e<;>cases e
  .intro e;exact absurd (rT.mp e).1 h
def rV{b:Type}{a:List b}{i:Nat}{y:b}:(a.map Y)[i]?=Y (Y y)↔a[i]?=Y y:=by rw[kD];cases a[i]?<;>simp
def Kz{i:Nat}{a:iu}:OwnI (k.map Y++ae m I) (f.map Y++ae m I) i a↔OwnI (k.map Y) (f.map Y) i a:=by unfold OwnI;simp only[D6,rV]
def Ez:OwnA σ b a↔ ∃i,OwnI σ b i a:=Iff.rfl
def Nk:OwnA (k.map Y++ae m I) (f.map Y++ae m I) a↔OwnA (k.map Y) (f.map Y) a:=by rw[Ez,Ez];exact exists_congr λi=>Kz
def ER.pad(E:ER K H T (k.map Y) (f.map Y)):ER K H T (k.map Y++ae m I) (f.map Y++ae m I):=by
 have len:(ZB k)=(ZB f):=by simpa using E.len
 refine⟨by simp[len],λi d h=>?_,λi d h=>?_,λi j d e a h1 o p s=>?_,λa z=>E.nT a<|Nk.mp z,E.dom⟩
 .obtain⟨w,c,n⟩:=E.val i d<|rV.mpr<|D6.mp h;exact⟨w,D6.mpr<|rV.mp c,Rep.mono (λ_ _ e _=>e) (λb _ z=>z.imp Nk.mp id) n⟩
 .obtain⟨w,c,n⟩:=E.own i d<|rV.mpr<|D6.mp h;exact⟨w,D6.mpr<|rV.mp c,n.mono (λ_ _ e _=>e) (λb _ z=>z.imp Nk.mp id) λ_ e=>e⟩
 .exact E.inj i j d e a (rV.mpr<|D6.mp h1) (rV.mpr<|D6.mp o) (rV.mpr<|D6.mp p) (rV.mpr<|D6.mp s)
def Im{J:AP'}(E:ER K H T (k.map Zv) (f.map Zv))(S:SK A (k.map Zv++ae m Zw) (f.map Zv++ae m Zw) H l g q)(hA: ∀(i:Nat) d,f[i]?=Zv (d,Zx)-> ¬A i)
  (Q:ER K q J l g)(hT: ∀b,H b≠Zw->J b->T b):ER K q J (k.map Zv) (jS f g)/\(∀b,OwnA (k.map Zv) (jS f g) b->OwnA l g b)/\Keep (k.map Zv) (f.map Zv) H (jS f g) q:=by
 have len:(ZB k)=(ZB f):=by simpa using E.len
 have s: ∀(i:Nat) d w,f[i]?=Zv (d,Zx)->k[i]?=Zv w->l[i]?=Zv (Zv w):=λi d w h1 p=>by rw[S.as i<|hA i d h1];exact D6.mpr p
 have t: ∀(i:Nat) d b,(jS f g)[i]?=Zv (Zv (d,b))->(∃e,f[i]?=Zv (e,Zx)/\g[i]?=Zv (Zv (d,b)))\/(b=Zy/\f[i]?=Zv (d,Zy)):=λi d b h=>by
  rw[Nl] at h;obtain⟨⟨e,c⟩,h1,p⟩:=jk h
  cases c with
  |true=>left;exact⟨e,h1,oG<|by simpa using p⟩
  |false=>
   right;have:Zv (e,Zy)=Zv (d,b):=by simpa using p
   cases this;exact⟨rfl,h1⟩
 have B: ∀i a,OwnI (k.map Zv) (jS f g) i a->OwnI l g i a/\OwnI (k.map Zv) (f.map Zv) i a:=λi a a'=>by
  obtain⟨d,h1,p⟩:=a'
  rcases t i d Zx h1 with⟨e,u,x⟩|⟨z,_⟩
  .exact⟨⟨d,x,s i e _ u (rV.mp p)⟩,⟨e,rV.mpr u,p⟩⟩
  .cases z
 have G: ∀b,OwnA (k.map Zv) (jS f g) b->OwnA l g b:=λb a'=>by
  obtain⟨i,d,h1,p⟩:=a'
  obtain⟨⟨e,I,L⟩,_⟩:=B i b ⟨d,h1,p⟩;exact⟨i,e,I,L⟩
 have C: ∀b,OwnA (k.map Zv) (jS f g) b->OwnA (k.map Zv) (f.map Zv) b:=λb a'=>by
  obtain⟨i,d,h1,p⟩:=a'
  obtain⟨_,⟨e,I,L⟩⟩:=B i b ⟨d,h1,p⟩;exact⟨i,e,I,L⟩
 have U: ∀a o,H a=Zv o-> ¬OwnA (k.map Zv) (f.map Zv) a->q a=Zv o:=λa o e n=>S.kp a o e λz=>n<|Nk.mp z;refine⟨⟨?_,λi d h=>?_,λi d h=>?_,λi j d e a h1 p u x=>?_,λa z=>Q.nT a<|G a z,Q.dom⟩,G,⟨U,λi a z=>(B i a z).2,S.dm⟩⟩
 .simp[jS,len]
 .have M:i<(ZB k):=by
   have:=(rT.mp h).1;simp[jS] at this
   lia
  have hv:k[i]?=Zv k[i]:=jt M;rcases t i d Zy h with⟨e,u,x⟩|⟨_,u⟩
  .obtain⟨w,y,O⟩:=Q.val i d x;rw[s i e _ u hv] at y;cases y;exact⟨_,rV.mpr hv,Rep.mono (λ_ _ e _=>e) (λb _ z=>z.imp (G b) id) O⟩
  .obtain⟨w,y,O⟩:=E.val i d<|rV.mpr u;exact⟨w,y,Rep.mono (λb o e n=>U b o e λz=>n<|.inl z) (λb F z=>z.imp (C b)<|hT b F) O⟩
 .have M:i<(ZB k):=by
   have:=(rT.mp h).1;simp[jS] at this
   lia
  have hv:k[i]?=Zv k[i]:=jt M;rcases t i d Zx h with⟨e,u,x⟩|⟨z,_⟩
  .obtain⟨w,y,O⟩:=Q.own i d x;rw[s i e _ u hv] at y;have N:k[i]=V.ref w:=by simpa using y
   exact⟨w,by rw[<-N];exact rV.mpr hv,O.mono (λ_ _ e _=>e) (λb _ z=>z.imp (G b) id) λ_ e=>e⟩
  .cases z
 .obtain⟨_,⟨Y,I,L⟩⟩:=B i a ⟨d,h1,u⟩;obtain⟨_,⟨D,P,R⟩⟩:=B j a ⟨e,p,x⟩;exact E.inj i j Y D a I P L R
def uo(E:ER K H T (k.map Y) (f.map Y))(S:SK A (k.map Y++ae m I) (f.map Y++ae m I) H l g q)(j: ∀(i:Nat) d,f[i]?=Y (d,J)-> ¬A i)
  (R:RV K T H r l g v q):Post K T (k.map Y) (f.map Y) H r (jS f g) v q:=by
 obtain⟨d,b⟩:=r
 cases b with
 |false=>obtain⟨a,s⟩:=R;obtain⟨c,ow,h⟩:=Im E S j a λ_ _ z=>z;exact⟨h,c,Rep.mono (λ_ _ e _=>e) (λb _ z=>z.imp (ow b) id) s⟩
 |true=>obtain⟨p,rfl,n,a,ok⟩:=R;obtain⟨c,ow,h⟩:=Im E S j a (λb o z=>z.elim id λz=>by subst z;exact absurd n o);exact⟨h,p,rfl,n,c,ok.mono (λ_ _ e _=>e) (λb _ z=>z.imp (ow b) id) λ_ e=>e⟩
end
section
variable {P:iX}{w:iR}{K:iW}{g:ll}{base:iT}{N:je}{m:Nat}{b:jU}{fs:FS}{c:List V}{H:Hp}{Q:VK}{E:XK}
def HR(h:spF K (evF (ZB N) m b fs) c H Q E):(ZB c)=m:=by
 obtain⟨T,a,r,d,E0,e,_⟩:=h;unfold evF at e;split at e
 .rename_i f;have:=E0.len;simp at this;rw[this];exact f.1
 .cases e
def Md(h:spF K (evF (ZB N) m b fs) c H Q E): ∃L:Nat->Prop,(∀i,L i->i<m)/\tS K (λi=>i∈b) L H fs {nx:=λ_ k=>Q .non k,rt:=Q} (L2.oy N c) H:=by
 obtain⟨T,f,r,u,E0,e,t⟩:=h;unfold evF at e;split at e
 .rename_i C;obtain⟨h1,M,B⟩:=C;have l:(ZB c)=(ZB f):=by simpa using E0.len
  refine⟨λi=> ∃d,f[i]?=Y (d,Zx),λi ⟨d,hd⟩=>by have:=(rT.mp hd).1;lia,?_⟩;have G:L2.oy N c=c.map Y++ae (ZB N-m) Zw:=by unfold L2.oy;rw[l,h1]
  have s: ∀(i:Nat) d,f[i]?=Y (d,Zx)-> ¬(i∈b):=λi d hd I=>by
   have O:(f.zipIdx)[i]?=Y ((d,Zx),i):=by rw[CF,hd];simp
   have:=mY.mp B _ (mG O);simp at this;exact this I
  rw[G]
  have A:FI (λi=> ∃d,f[i]?=Y (d,Zx)) H (c.map Y++ae (ZB N-m) Zw) (f.map Y++ae (ZB N-m) Zw) H:=⟨λi a z=>by obtain⟨d,J,_⟩:=Kz.mp z;exact .inl ⟨d,rV.mp J⟩,λ_ z=>z⟩
  cases p:fs (f.map Y++ae (ZB N-m) Zw) with
  |none=>rw[p] at e;cases e
  |some n=>
   rw[p] at e;refine⟨_,T,n,E0.pad,A,p,?_⟩
   cases n with
   |rt U j=>obtain⟨rfl,rfl⟩:=jd e;exact λv q k o y=>t v k<|uo E0 o s y
   |nx j=>obtain⟨rfl,rfl⟩:=jd e;exact λq k o x=>t .non k<|uo (r:=(.non,Zy)) E0 o s ⟨x,Rep.mkNon⟩
   |bk j=>cases e
   |ct j=>cases e
 .cases e
def U8{x qual:ax}{st:bD}{f:iu}{j:mD}{e:je}{k:Nat}(F:Fun K x qual st f j)(S:FnScope N e (iB st))
  (o: ∀(d:iK) (A:iU) (a:List d1) (s:iC) (H:Hp) (E:XK) (L:jW),(∀i,L i->i<ZB e)->Room k (A.deeper<|aZ qual (iB st) s.heap.objs.size f d)->
   Bg (pZ CX0 P w K g base N qual (iB st) f d A a s H E).nox (λi=>i∈b) L H (lJ st) fs):FnOk P w K g base CX0 (k+1) f j e (spF K<|evF (ZB N) (ZB e) b fs):=
 F.ok S (λc H Q E h=>HR h) λd A a s H c Q E n h=>let⟨L,h1,l⟩:=Md h;⟨_,o d A a s H E L h1 n,l⟩
end
noncomputable def yD(a:Dn):Opd->Option (D×Bool)
 | .val r=>Y (r.1,C)
 | .slot i=>(a[i]?).join
noncomputable def kb(δ:Dn):List Opd->Option (List<|D×Bool)
 |[]=>Y []
 |o::os=>(yD δ o).bind λa=>(kb δ os).bind λl=>Y (a::l)
noncomputable def jl:List Opd->List (D×Bool)->List Nat
 | .slot i::os,(_,J)::as=>i::jl os as
 |_::os,_::as=>jl os as
 |_,_=>[]
noncomputable def wb:List Opd->List (D×Bool)->Dn->Dn->Dn
 | .slot i::os,(_,J)::as,o::outs,δ=>wb os as outs<|δ.set i o
 |_::os,_::as,_::outs,δ=>wb os as outs δ
 |_,_,_,δ=>δ
noncomputable def iQ(a:EvF)(fs:List FO):F:=λδ=>(ki fs δ).bind λp=>(kb p.2 p.1).bind λargs=>if(jl p.1 args).Nodup then(a args).bind λq=>Y (q.1,wb p.1 args q.2 p.2) else I
def nH{δ:Dn}: ∀{os:List Opd} {b:List (D×Bool)},kb δ os=Y b->ZB b=os.length/\ ∀(j:Nat) a,b[j]?=Y a-> ∃o,os[j]?=Y o/\yD δ o=Y a:=by
 intro m
 induction m with
 |nil=>intro b h;cases h;exact⟨rfl,λj d h=>by simp at h⟩
 |cons o os k=>
  intro b h;unfold kb at h;obtain⟨d,h1,h⟩:=ir h;obtain⟨l,f,h⟩:=ir h;cases h;obtain⟨g,i⟩:=k f;refine⟨by simp[g],λj e c=>?_⟩
  cases j with
  |zero=>simp at c;subst c;exact⟨o,rfl,h1⟩
  |succ j=>obtain⟨n,p,q⟩:=i j e (by simpa using c);exact⟨n,by simpa using p,q⟩
theorem ug: ∀{os:List Opd} {as:List (D×Bool)} {j i:Nat} {d:D},os[j]?=Y (.slot i)->as[j]?=Y (d,J)->i∈jl os as
 |[],_,_,_,_,h,_=>by simp at h
 |_::_,[],_,_,_,_,h=>by simp at h
 |o::os,(e,b)::as,0,i,d,h1,a=>by simp at h1 a;obtain⟨rfl,rfl⟩:=a;subst h1;simp[jl]
 |o::os,(e,b)::as,j+1,i,d,h1,a=>by
  have c:=ug (os:=os) (as:=as) (j:=j) (i:=i) (d:=d) (by simpa using h1) (by simpa using a)
  cases o with
  |val r=>simpa[jl] using c
  |slot k=>
   cases b with
   |true=>simp[jl,c]
   |false=>simpa[jl] using c
theorem Bz: ∀{os:List Opd} {a:List (D×Bool)} {i:Nat},i∈jl os a-> ∃(j:Nat) (d:D),os[j]?=Y (.slot i)/\a[j]?=Y (d,J)
 |[],_,_,h=>by simp[jl] at h
 |o::_,[],_,h=>by cases o<;>simp[jl] at h
 |o::os,(e,b)::a,i,h=>by
  have c:i∈jl os a-> ∃(j:Nat) (d:D),(o::os)[j]?=Y (.slot i)/\((e,b)::a)[j]?=Y (d,J):=λh=>by obtain⟨j,d,h1,f⟩:=Bz h;exact⟨j+1,d,by simpa using h1,by simpa using f⟩
  cases o with
  |val r=>exact c (by simpa[jl] using h)
  |slot k=>
   cases b with
   |true=>
    simp[jl] at h;rcases h with rfl|h
    .exact⟨0,e,rfl,rfl⟩
    .exact c h
   |false=>exact c (by simpa[jl] using h)
theorem BC: ∀{os:List Opd} {as:List (D×Bool)} {j k i:Nat} {d e:D},(jl os as).Nodup->os[j]?=Y (.slot i)->as[j]?=Y (d,J)->os[k]?=Y (.slot i)->as[k]?=Y (e,J)->j=k
 |[],_,_,_,_,_,_,_,h,_,_,_=>by simp at h
 |_::_,[],_,_,_,_,_,_,_,h,_,_=>by simp at h
 |o::os,(n,b)::as,j,k,i,d,e,a,h1,c,f,g=>by
  cases j with
  |zero=>
   cases k with
   |zero=>rfl
   |succ k=>simp at h1 c;obtain⟨rfl,rfl⟩:=c;subst h1;have:=ug (os:=os) (as:=as) (j:=k) (by simpa using f) (by simpa using g);simp[jl] at a;exact absurd this a.1
  |succ j=>
   cases k with
   |zero=>simp at f g;obtain⟨rfl,rfl⟩:=g;subst f;have:=ug (os:=os) (as:=as) (j:=j) (by simpa using h1) (by simpa using c);simp[jl] at a;exact absurd this a.1
   |succ k=>
    have l:(jl os as).Nodup:=by
     cases o with
     |val r=>simpa[jl] using a
     |slot m=>
      cases b with
      |true=>simp[jl] at a;exact a.2
      |false=>simpa[jl] using a
    have:=BC (os:=os) (as:=as) (j:=j) (k:=k) l (by simpa using h1) (by simpa using c) (by simpa using f) (by simpa using g)
    lia
theorem zH: ∀{os:List Opd} {c:List (D×Bool)} {a δ:Dn} {i:Nat},i∉jl os c->(wb os c a δ)[i]?=δ[i]?
 |[],_,_,_,_,_=>by simp[wb]
 |o::_,[],_,_,_,_=>by cases o<;>simp[wb]
 |o::os,(e,b)::c,[],_,_,_=>by cases o<;>cases b<;>simp[wb]
 |o::os,(e,b)::c,x::a,δ,i,h=>by
  cases o with
  |val r=>simp only[wb];exact zH (by simpa[jl] using h)
  |slot k=>
   cases b with
   |true=>simp[jl] at h;rw[wb,zH h.2,oM<|ni h.1]
   |false=>simp only[wb];exact zH (by simpa[jl] using h)
theorem zJ: ∀{os:List Opd} {c:List (D×Bool)} {a δ:Dn},(wb os c a δ).length=ZB δ
 |[],_,_,_=>by simp[wb]
 |o::_,[],_,_=>by cases o<;>simp[wb]
 |o::os,(e,b)::c,[],_=>by cases o<;>cases b<;>simp[wb]
 |o::os,(e,b)::c,x::a,δ=>by
  cases o with
  |val r=>simp only[wb];exact zJ
  |slot k=>
   cases b with
   |true=>simp only[wb];rw[zJ,qK]
   |false=>simp only[wb];exact zJ
theorem HJ: ∀{os:List Opd} {c:List (D×Bool)} {a δ:Dn} {i j:Nat} {d:D} {x:Sl},(jl os c).Nodup->os[j]?=Y (.slot i)->c[j]?=Y (d,J)->a[j]?=Y x->i<ZB δ->(wb os c a δ)[i]?=Y x
 |[],_,_,_,_,_,_,_,_,h,_,_,_=>by simp at h
 |o::_,[],_,_,_,_,_,_,_,_,h,_,_=>by simp at h
 |o::os,(e,b)::c,[],_,_,_,_,_,_,_,_,h,_=>by simp at h
 |o::os,(e,b)::c,y::a,δ,i,0,d,x,f,h1,g,l,n=>by simp at h1 g l;obtain⟨rfl,rfl⟩:=g;subst h1;subst l;simp[jl] at f;rw[wb,zH f.1,ox n]
 |o::os,(e,b)::c,y::a,δ,i,j+1,d,x,f,h1,g,l,n=>by
  have p:(jl os c).Nodup:=by
   cases o with
   |val r=>simpa[jl] using f
   |slot m=>
    cases b with
    |true=>simp[jl] at f;exact f.2
    |false=>simpa[jl] using f
  cases o with
  |val r=>simp only[wb];exact HJ p (by simpa using h1) (by simpa using g) (by simpa using l) n
  |slot k=>
   cases b with
   |true=>simp only[wb];exact HJ p (by simpa using h1) (by simpa using g) (by simpa using l) (by rw[qK];exact n)
   |false=>simp only[wb];exact HJ p (by simpa using h1) (by simpa using g) (by simpa using l) n
section
variable {K:iW}{T u:AP'}{l:L2.St}{δ f:Dn}{H m s:Hp}{os:List Opd}{vs:List V}{c:List (D×Bool)}{g:Dn}{r:D×Bool}{v:V}
noncomputable def Tc(T:AP')(l:L2.St)(f:Dn)(vs:List V)(c:List (D×Bool)):AP':=λa=>T a\/(OwnA l f a/\ ¬OwnA (vs.map Y) (c.map Y) a)
def wu(B:Ops K T l δ H os vs f m u)(p:kb f os=Y c){j:Nat}{d:D}(h:c[j]?=Y (d,J)): ∃(i:Nat) (a:iu),os[j]?=Y (.slot i)/\f[i]?=Y (Y (d,J))/\vs[j]?=Y (.ref a)/\l[i]?=Y (Y<|.ref a):=by
 obtain⟨w,q⟩:=nH p;obtain⟨o,h1,b⟩:=q j _ h
 cases o with
 |val r=>cases b
 |slot i=>
  have e:f[i]?=Y (Y (d,J)):=oG b;have t:j<(ZB vs):=by have:=(rT.mp h1).1;have:=B.len;lia
  have hv:vs[j]?=Y vs[j]:=jt t;have k:=B.slt j i _ h1 hv;obtain⟨a,n,_⟩:=B.er.own i d e;rw[k] at n;have:vs[j]=V.ref a:=by simpa using n
  exact⟨i,a,h1,e,by rw[hv,this],by rw[k,this]⟩
def EL(B:Ops K T l δ H os vs f m u)(n:kb f os=Y c){j:Nat}{a:iu}(h:OwnI (vs.map Y) (c.map Y) j a): ∃(i:Nat) (d:D),os[j]?=Y (.slot i)/\c[j]?=Y (d,J)/\OwnI l f i a:=by obtain⟨d,h1,k⟩:=h;have e:=rV.mp h1;obtain⟨i,b,o,p,q,t⟩:=wu B n e;have:=rV.mp k;rw[q] at this;cases this;exact⟨i,d,o,e,d,p,t⟩
def IE(B:Ops K T l δ H os vs f m u)(k:kb f os=Y c)(h:OwnA (vs.map Y) (c.map Y) a):OwnA l f a:=by obtain⟨j,d,h1,b⟩:=h;obtain⟨i,_,_,_,e,n,o⟩:=EL B k ⟨d,h1,b⟩;exact⟨i,e,n,o⟩
def yX(E:ER K H T l δ)(B:Ops K T l δ H os vs f m u)(n:kb f os=Zv c)(nd:(jl os c).Nodup):ER K m (Tc T l f vs c) (vs.map Zv) (c.map Zv):=by
 obtain⟨D,U⟩:=nH n
 have sub: ∀b,(OwnA (vs.map Zv) (c.map Zv) b\/Tc T l f vs c b)->OwnA l f b\/T b:=λb z=>by
  rcases z with z|z|z
  .exact .inl (IE B n z)
  .exact .inr z
  .exact .inl z.1
 refine⟨by simp[D,B.len],λj d h=>?_,λj d h=>?_,λj k d e a h1 p x y=>?_,λa z t=>?_,λa z=>?_⟩
 .have h:=rV.mp h;obtain⟨o,h1,p⟩:=U j _ h;have Y:j<(ZB vs):=by have:=(rT.mp h1).1;have:=B.len;lia
  have hv:vs[j]?=Zv vs[j]:=jt Y;refine⟨_,rV.mpr hv,?_⟩
  cases o with
  |val q=>
   have:q.1=d:=by cases p;rfl
   subst this;exact Rep.mono (λ_ _ e _=>e) (λb _ z=>sub b z)<|B.rep E h1 hv
  |slot i=>
   have x:f[i]?=Zv (Zv (d,Zy)):=oG p;have y:=B.slt j i _ h1 hv;obtain⟨w,Q,P⟩:=B.er.val i d x;rw[y] at Q;have:vs[j]=w:=by simpa using Q
   rw[this];exact Rep.mono (λ_ _ e _=>e) (λb _ z=>(sub b z).imp id<|B.tt b) P
 .obtain⟨i,a,O,A,C,I⟩:=wu B n<|rV.mp h;obtain⟨b,L,N⟩:=B.er.own i d A;rw[I] at L;cases L;exact⟨a,rV.mpr C,N.mono (λ_ _ e _=>e) (λb _ z=>(sub b z).imp id<|B.tt b) λ_ e=>e⟩
 .obtain⟨i,R,O,A,G,C,I⟩:=EL B n ⟨d,h1,x⟩;obtain⟨F,S,g1,g2,J,g3,M⟩:=EL B n ⟨e,p,y⟩;have:=B.er.inj i F G J a C g3 I M;subst this;exact BC nd O A g1 g2
 .rcases t with t|t
  .exact B.er.nT a (IE B n z) (B.tt a t)
  .exact t.2 z
 .rcases z with z|z
  .exact B.er.dom a (B.tt a z)
  .exact B.er.ownOw z.1
def Jd{T' Y:AP'}(E:ER K H T l δ)(B:Ops K T l δ H os vs f m u)(M:kb f os=Zv c)(nd:(jl os c).Nodup)(kC:Keep (vs.map Zv) (c.map Zv) m g s)
  (U:ER K s Y (vs.map Zv) g)(t1: ∀b,Tc T l f vs c b->Y b)(t2: ∀b,T' b->Y b)(t3: ∀b,m b≠Zw->T' b->T b):
  ER K s T' l (wb os c g f)/\(∀b,OwnA l (wb os c g f) b->OwnA (vs.map Zv) g b\/Tc T l f vs c b)/\Keep l f m (wb os c g f) s:=by
 obtain⟨hl,hg⟩:=nH M;have ol:(ZB g)=(ZB c):=by have:=U.len;have:=B.len;simp at*;lia
 have R: ∀(i:Nat) (x:Sl),(wb os c g f)[i]?=Zv x->(i∉jl os c/\f[i]?=Zv x)\/ ∃(j:Nat) (d:D),os[j]?=Zv (.slot i)/\c[j]?=Zv (d,Zx)/\g[j]?=Zv x:=λi x h=>by
  by_cases A:i∈jl os c
  .right;obtain⟨j,d,h1,p⟩:=Bz A;have hj:j<(ZB g):=by have:=(rT.mp p).1;lia
   have X:g[j]?=Zv g[j]:=jt hj;have hi:i<(ZB f):=by have:=(rT.mp h).1;rwa [zJ] at this
   have:=HJ (δ:=f) nd h1 p X hi;rw[h] at this;cases this;exact⟨j,d,h1,p,X⟩
  .left;rw[zH A] at h;exact⟨A,h⟩
 have I: ∀{i:Nat} {a:iu},i∉jl os c->OwnI l f i a-> ¬OwnA (vs.map Zv) (c.map Zv) a:=λ{i a} A ⟨e,q,C'⟩ ⟨j,d,h1,p⟩=>by obtain⟨P,d2,g1,g2,S,g3,g4⟩:=EL B M ⟨d,h1,p⟩;have:=B.er.inj i P e S a q g3 C' g4;subst this;exact A<|ug g1 g2
 have N: ∀i a,OwnI l (wb os c g f) i a->OwnI l f i a/\(OwnA (vs.map Zv) g a\/Tc T l f vs c a):=λi a a'=>by
  obtain⟨d,h1,p⟩:=a'
  rcases R i _ h1 with⟨A,y⟩|⟨j,e,g1,g2,g3⟩
  .exact⟨⟨d,y,p⟩,.inr<|.inr ⟨⟨i,d,y,p⟩,I A ⟨d,y,p⟩⟩⟩
  .obtain⟨P,b,q,C',G,L⟩:=wu B M g2;rw[g1] at q;cases q;rw[p] at L;cases L;exact⟨⟨e,C',p⟩,.inl ⟨j,d,g3,rV.mpr G⟩⟩
 have Z: ∀b,OwnA l (wb os c g f) b->OwnA (vs.map Zv) g b\/Tc T l f vs c b:=λb ⟨i,d,h1,p⟩=>(N i b ⟨d,h1,p⟩).2
 have F: ∀b,OwnA l (wb os c g f) b->OwnA l f b:=λb a'=>by
  obtain⟨i,d,h1,p⟩:=a'
  obtain⟨⟨e,q,C'⟩,_⟩:=N i b ⟨d,h1,p⟩;exact⟨i,e,q,C'⟩
 have W: ∀a o,m a=Zv o-> ¬OwnA l f a->s a=Zv o:=λa o e n=>kC.kp a o e λz=>n<|IE B M z
 have O: ∀b,(OwnA l (wb os c g f) b\/T' b)->OwnA (vs.map Zv) g b\/Y b:=λb z=>by
  rcases z with z|z
  .exact(Z b z).imp id (t1 b)
  .exact .inr (t2 b z)
 refine⟨⟨by rw[zJ];exact B.er.len,λi d h=>?_,λi d h=>?_,λi k d e a h1 p y h4=>?_,λa z t=>?_,λa z=>U.dom a<|t2 a z⟩,Z,⟨W,λi a z=>(N i a z).1,kC.dm⟩⟩
 .rcases R i _ h with⟨A,y⟩|⟨j,e,g1,g2,g3⟩
  .obtain⟨w,Q,J⟩:=B.er.val i d y;exact⟨w,Q,Rep.mono (λb o e n=>W b o e λz=>n<|.inl z) (λb V z=>z.imp (F b) λz=>B.tt b<|t3 b V z) J⟩
  .obtain⟨P,b,q,C',G,L⟩:=wu B M g2;rw[g1] at q;cases q;obtain⟨w,Q,J⟩:=U.val j d g3;have:=rV.mp Q;rw[G] at this;cases this;exact⟨_,L,Rep.mono (λ_ _ e _=>e) (λb _ z=>O b z) J⟩
 .rcases R i _ h with⟨A,y⟩|⟨j,e,g1,g2,g3⟩
  .obtain⟨a,Q,J⟩:=B.er.own i d y;exact⟨a,Q,J.mono (λb o e n=>W b o e λz=>n<|.inl z) (λb V z=>z.imp (F b) λz=>B.tt b<|t3 b V z) λo e=>kC.kp a o e<|I A ⟨d,y,Q⟩⟩
  .obtain⟨P,b,q,C',G,L⟩:=wu B M g2;rw[g1] at q;cases q;obtain⟨a,Q,J⟩:=U.own j d g3;have:=rV.mp Q;rw[G] at this;cases this;exact⟨_,L,J.mono (λ_ _ e _=>e) (λb _ z=>O b z) λ_ e=>e⟩
 .obtain⟨⟨e1,q,C'⟩,_⟩:=N i a ⟨d,h1,y⟩;obtain⟨⟨S,G,L⟩,_⟩:=N k a ⟨e,p,h4⟩;exact B.er.inj i k e1 S a q G C' L
 .exact B.er.nT a (F a z) (B.tt a<|t3 a (B.er.ownDom<|F a z) t)
def AK(E:ER K H T l δ)(B:Ops K T l δ H os vs f m u)(n:kb f os=Y c)(q:(jl os c).Nodup)(P:Post K (Tc T l f vs c) (vs.map Y) (c.map Y) m r g v s):
  Post K T l δ H r (wb os c g f) v s:=by
 obtain⟨d,b⟩:=r
 cases b with
 |false=>
  obtain⟨k,h,x⟩:=P;obtain⟨i,ow,j⟩:=Jd (T':=T) E B n q k h (λ_ z=>z) (λ_ z=> .inl z) λ_ _ z=>z;refine⟨B.keep.trans j,i,Rep.mono (λ_ _ e _=>e) (λb _ z=>?_) x⟩;rcases z with z|z
  .exact ow b z
  .exact .inr (.inl z)
 |true=>
  obtain⟨k,p,rfl,o,h,ok⟩:=P;obtain⟨i,ow,j⟩:=Jd (T':=λa=>T a\/a=p) E B n q k h (λ_ z=> .inl z) (λb z=>z.elim (λz=> .inl (.inl z)) .inr) (λb w z=>z.elim id λz=>by subst z;exact absurd o w);refine⟨B.keep.trans j,p,rfl,?_,i,ok.mono (λ_ _ e _=>e) (λb _ z=>?_) λ_ e=>e⟩
  .cases t:H p with
   |none=>rfl
   |some y=>exact absurd o<|B.keep.dm p (by rw[t];simp)
  .rcases z with z|z|z
   .exact(ow b z).imp id .inl
   .exact .inr (.inl<|.inl z)
   .exact .inr (.inr z)
end
section
variable {X:Cx}{e:iI}{b:kr}{fs:List FO}{a p:bI}{k:Nat}{f:iu}{g:mD}{d:je}{c:EvF}{x:ax}
def P4(F:FnOk X.prog X.w X.K X.mg X.base CX0 k f g d (spF X.K c))(L:Room k X.A)(C:Gl X x)(I:X.mg x=Zv (.ref f))(hk:cw X.K (.ref f)=Zx)(y:Binds X.K g d [])
  (u:PA X (e::b) (tA X.K fs))(G:(x==("__debug__":ax))=Zy)(z:ac (e::b) X.env=(Zy,aE e X.env)::ac b X.env)(s:(aP a<|ac b X.env).any (·.1)=Zy):
  PX X (.Call (.Name x p) (e::b) [] a) (iQ c fs):=PX.imp (Dj F L C I hk y (.nil) Sq u G z s) λN H Q O=>by
 obtain⟨J,T,Y,M,E,e,k⟩:=O;obtain⟨⟨os,j⟩,h1,e⟩:=ir e;obtain⟨h,l,e⟩:=ir e;dsimp only at e;split at e
 .rename_i m;obtain⟨⟨r,i⟩,t,e⟩:=ir e;obtain⟨rfl,rfl⟩:=jd e;refine⟨J,T,os,j,E,h1,λn q U B=>?_⟩;show spF X.K c (n++[]) q Q E0;rw[vq];exact⟨Tc T N j n h,h,r,i,yX E B l m,t,λv o P=>k v o<|AK E B l m P⟩
 .cases e
end
structure SKd(A:jW)(d:iu)(σ:L2.St)(δ:Dn)(H:Hp)(σ':L2.St)(δ':Dn)(H':Hp):Prop where
 kp: ∀a o,H a=Zv o-> ¬OwnA σ δ a->a≠d->H' a=Zv o
 owi: ∀i a,OwnI σ' δ' i a->OwnI σ δ i a\/H a=Zw
 dm: ∀a,H a≠Zw->H' a≠Zw
 as: ∀i,¬A i->σ'[i]?=σ[i]?
section
variable {A:jW}{d:iu}{c b f:L2.St}{δ δ1 δ2:Dn}{H g j:Hp}
def SK.skd(k:SK A c δ H b δ1 g):SKd A d c δ H b δ1 g:=⟨λa o e n _=>k.kp a o e n,k.owi,k.dm,k.as⟩
def SKd.ow(k:SKd A d c δ H b δ1 g)(a:iu)(h:OwnA b δ1 a):OwnA c δ a\/H a=I:=by
 obtain⟨i,e,h1,l⟩:=h;rcases k.owi i a ⟨e,h1,l⟩ with⟨e,m,n⟩|z
 .exact .inl ⟨i,e,m,n⟩
 .exact .inr z
def SKd.trans(x:SKd A d c δ H b δ1 g)(y:SKd A d b δ1 g f δ2 j):SKd A d c δ H f δ2 j where
 kp:=λa o e n k=>y.kp a o (x.kp a o e n k) (λz=>(x.ow a z).elim n λz=>by rw[z] at e;cases e) k
 owi:=λi a z=>(y.owi i a z).elim (x.owi i a) λz=> .inr (by
  cases h:H a with
  |none=>rfl
  |some o=>exact absurd z<|x.dm a<|by rw[h];simp)
 dm:=λa z=>y.dm a<|x.dm a z
 as:=λi h=>(y.as i h).trans<|x.as i h
end
noncomputable def PJ(p:(Int->Bool)×Nat)(d:D):(Int->Bool)×Nat:=match d with
 | .int k=>(λa=>p.1 a||decide (a=k),if p.1 k then p.2 else p.2+1)
 |_=>p
noncomputable def Jz(l:List D):(Int->Bool)×Nat:=l.foldl PJ (λ_=>C,0)
def AtD(S:Bool)(K:iW)(U:Hp)(O:AP')(d:iu)(a:List D):Prop:=match S with
 |false=> ∃b,U d=Y (.lst b)/\RepL K U O a b
 |true=>U d=Y (.set (Jz a).1 (Jz a).2)
structure BS(S:Bool)(K:iW)(d:iu)(T:AP')(σ:L2.St)(δ:Dn)(acc:List D)(H:Hp):Prop where
 er:ER K H T σ δ
 td:T d
 at':AtD S K H (λa=>OwnA σ δ a\/T a) d acc
abbrev FB:=List D->Dn->Option (List D×Dn)
def tBx(S:Bool)(K:iW)(A:jW)(d:iu)(f:FB):TB:=λi U N=> ∃g T c h a,BS S K d T i g c U/\f c g=Y (h,a)/\ ∀b e,SKd A d i g U b a e->BS S K d T b a h e->N b e
noncomputable def jA(f:F):FB:=λa δ=>(f δ).bind λp=>if (ZB a)<sizeLine then Y (a++[p.1.1],p.2) else I
noncomputable def lj(b:Tg)(ti:FT)(a:FB):List D->FB
 |[],acc,δ=>Y (acc,δ)
 |x::xs,acc,δ=>(b x δ).bind λδ1=>(ti δ1).bind λp=>(if p.1=J then a acc p.2 else Y (acc,p.2)).bind λq=>lj b ti a xs q.1 q.2
noncomputable def OZ(c:FIt)(d:Tg)(ti:FT)(b:FB):FB:=λa e=>(c e).bind λp=>lj d ti b p.1 a p.2
section
variable {K:iW}{A:jW}{d:iu}{T:AP'}{f q:L2.St}{l r:Dn}{j:List D}{H p:Hp}
def BS.step(b:BS S K d T f l j H)(k:SK A f l H q r p)(a:ER K p T q r):BS S K d T q r j p:=by
 refine⟨a,b.td,?_⟩;have h:=b.at'
 cases S with
 |true=>exact k.kp d _ h λz=>b.er.nT d z b.td
 |false=>
  obtain⟨m,h1,g⟩:=h;refine⟨m,k.kp d _ h1 λz=>b.er.nT d z b.td,RepL.mono (λb o e n=>k.kp b o e λz=>n<|.inl z) (λc i z=>?_) g⟩;rcases z with z|z
  .exact(k.ow c z).elim bz λz=>absurd z i
  .exact .inr z
def IA(hg: ∀v f H Q,tG K A tg v f H Q->g v f H Q)(hi: ∀f H Q,tT K ft f H Q->ti f H Q)(hb: ∀f H N,tBx S K A d fb f H N->tb f H N)
  (b:BS S K d T f l j H)(P O:AP')(ok:ItOk K J' ds P O p)(s1: ∀a o,p a=Y o-> ¬P a->H a=Y o)(s0: ∀a,p a≠I->OwnA f l a\/a=d->P a)(s2: ∀a,p a≠I->(OwnA f l a\/T a)->O a)(s3: ∀a,p a≠I->H a≠I)(e:lj tg ft fb ds j l=Y (j5,B))
  (k: ∀E t,SKd A d f l H E B t->BS S K d T E B j5 t->N E t):HQ J' g ti tb f H N:=by
 refine⟨λi m s w=>m=ZB ds-i/\i<=ZB ds/\ ∃h G,SKd A d f l H s h w/\BS S K d T s h G w/\lj tg ft fb (ds.drop i) G h=Y (j5,B),⟨ZB ds,by simp,lL _,l,j,SK.refl.skd,b,by simpa using e⟩,?_⟩;rintro i m s w ⟨rfl,hle,h,G,Y',I',e2⟩
 have hO: ∀a,p a≠I->(OwnA s h a\/T a)->O a:=λa W z=>by
  rcases z with z|z
  .exact(Y'.ow a z).elim (λz=>s2 a W<|.inl z) λz=>absurd z<|s3 a W
  .exact s2 a W (.inr z)
 have aH: ∀a o,p a=Y o-> ¬P a->w a=Y o:=λa o V n=>Y'.kp a o (s1 a o V n) (λz=>n<|s0 a (by rw[V];simp)<|.inl z) λz=>n<|s0 a (by rw[V];simp)<|.inr z;by_cases F:i<ZB ds
 .refine .inr ?_;have hd:ds[i]?=Y ds[i]:=jt F;obtain⟨go,yl⟩:=ok.go i _ w hd aH;rw[xt F] at e2;obtain⟨C,h3,e3⟩:=ir e2;obtain⟨⟨c,u⟩,h4,e4⟩:=ir e3;obtain⟨⟨y,M⟩,D,e5⟩:=ir e4;refine⟨go,λx t hy=>?_⟩;obtain⟨ext,rep⟩:=yl x t hy;have ez:ER K t T s h:=I'.er.mono (λb ob eb _=>ext b ob eb) (λ_ _ z=>z) λa z=>(I'.er.dom a z).up<|ext a;have SX:SK A s h w s h t:=(Keep.ext ext).sk;have R:=I'.step SX ez;have ie:SKd A d f l H s h t:=Y'.trans SX.skd;have rx:=rep (λa=>OwnA s h a\/T a) hO λb hb z=>z.elim (λz=>I'.er.ownDom z hb) λz=>(I'.er.dom b z).ne hb;refine hg _ _ _ _ ⟨h,T,ds[i],C,ez,rx,h3,λU S3 Z=>?_⟩;have B3:=R.step S3 Z;have cW:=ie.trans S3.skd;refine hi _ _ _ ⟨C,T,c,u,Z,h4,λH4 K4 E4=>?_⟩;have S4:SK A U C t U u H4:=K4.sk;have X:=B3.step S4 E4;have L:=cW.trans S4.skd
  cases c with
  |false=>rw[jc ku] at D;obtain⟨rfl,rfl⟩:=jd D;exact U2 ⟨ZB ds-(i+1),by lia,rfl,F,u,G,L,X,e5⟩
  |true=>rw[iP Zz] at D;exact U1<|hb _ _ _ ⟨u,T,G,y,M,X,D,λσ5 H5 S5 B5=>⟨ZB ds-(i+1),by lia,rfl,F,M,y,L.trans S5,B5,e5⟩⟩
 .refine .inl ⟨ok.stop i w (by lia) aH,?_⟩;rw[zo<|by lia] at e2;obtain⟨rfl,rfl⟩:=jd e2;exact k s w Y' I'
end
section
variable {X:Cx}{A:jW}{d:iu}{g:iI}{f:F}
def PB.imp'{code:ey Unit}{t c:TB}(h:PB X code t)(k: ∀b T N,c b T N->t b T N):PB X code c:=λa s b T N U e=>h a s b T N U<|k b T N e
def Nj{h:rX}{J:jL}{p:bI}{depth:Nat}(E:h[depth+1]?=Zw)(C:PX X g f):PB X (kd (.ListComp g h J p) depth (.ref d) X.env) (tBx Zy X.K A d<|jA f):=PB.imp' (QN E C) λq H N I=>by
 obtain⟨w,T,y,U,M,B,e,k⟩:=I;obtain⟨⟨r,c⟩,h1,e⟩:=ir e;obtain⟨O,e⟩:=iY e;obtain⟨rfl,rfl⟩:=rA e;refine⟨w,T,r,c,B.er,h1,λv j P=>?_⟩;obtain⟨s,G⟩:=P.rep B.er;have t:SK A q w H q c j:=P.1.sk;have x:=B.step t s;obtain⟨m,L,u⟩:=x.at';refine⟨m,L,by rw[u.length];exact O,k q _ ?_ ?_⟩
 .have:SKd A d q c j q c (upd j d<|.lst<|m++[v]):=⟨λa o e n Q=>by rw[jb Q];exact e,λi a z=> .inl z,λa z=>by
   by_cases l:a=d
   .subst l;rw[ja];simp
   .rw[jb l];exact z,λ_ _=>rfl⟩
  exact t.skd.trans this
 .have hk: ∀b o,j b=Y o-> ¬T b->upd j d (.lst<|m++[v]) b=Y o:=λb o e n=>by rw[jb<|by intro z;subst z;exact n B.td];exact e
  have hd: ∀a,T a->Ow (upd j d (.lst<|m++[v]) a):=λa z=>by
   by_cases l:a=d
   .subst l;rw[ja];trivial
   .rw[jb l];exact s.dom a z
  refine⟨s.mono hk (λ_ _ z=>z) hd,B.td,m++[v],ja,?_⟩;exact RepL.mono (λb o e n=>hk b o e λz=>n<|.inr z) (λ_ _ z=>z)<|u.append<|RepL.one G
def QM{S:Bool}{e:iI}{depth:Nat}{c:qc}{r:FIt}{u:Tg}{s:FT}{q:FB}(Q:X.xe=λ_ _=>False)(hc:X.calm=Zx)
  (hl:(∃g b l p,e= .ListComp g b l p)\/(∃g b l p,e= .SetComp g b l p))(hg:(cC e)[depth+1]?=Zv c)(Y:c.is_async=0)(k9: ∀t,(cC e)[depth+1+1]?=Zv t->t.is_async=0)
  (hs: ∀x,aM c.iter X.env x=pure x)(pi:PIX X (λ_=>False) c.target c.iter r)(pg:PGX X A c.target u)(M:PIf X c.ifs (tT X.K s))(pb:PB X (kd e (depth+1) (.ref d) X.env) (tBx S X.K A d q)):
  PB X (kd e depth (.ref d) X.env) (tBx S X.K A d<|OZ r u s q):=PB.imp' (UD Q hc hl hg Y k9 hs pi pg M pb) λw H N D=>by
 obtain⟨v,T,G,P,F,B,e,k⟩:=D;obtain⟨⟨U,j⟩,h1,e⟩:=ir e;refine⟨v,T,U,j,B.er,h1,λJ I L C ok=>?_⟩;have n:SK A w v H w j I:=L.sk;exact IA (λ_ _ _ _ h=>h) (λ_ _ _ h=>h) (λ_ _ _ h=>h) (B.step n C) _ _ ok (λa o e _=>e) (λa _ z=>z.elim (λa'=>by obtain⟨i,x,z⟩:=a';exact .inl ⟨i,id,x,z⟩) λz=> .inr (z▸B.td)) (λa _ z=>z) (λa z=>z) e λm E O y=>k m E (n.skd.trans O) y
end
noncomputable def jI(caps:jU)(k:Nat)(fi:FIt)(b:Tg)(ti:FT)(a:FB):F:=λδ=>(fi δ).bind λp=>(kb p.2<|caps.map .slot).bind λargs=>if(jl (caps.map .slot) args).Nodup then(lj b ti a p.1 []<|args.map Y++ae k I).bind λq=>Y ((.lst q.1,J),wb (caps.map .slot) args (jS args q.2) p.2) else I
noncomputable def Df(a:jU)(k:Nat)(b:L2.St):L2.St:=(a.map λj=>(b[j]?).join)++ae k I
noncomputable def o0(S:Bool):HO:=match S with
 |false=> .lst []
 |true=> .set (λ_=>C) 0
noncomputable def qS(S:Bool)(Q:VK):VK:=match S with
 |false=>Q
 |true=>λx b=> ∃S n,∃a,x= .ref a/\b a=Y (.set S n)/\Q (.int n) b
noncomputable def rS(S:Bool)(a:List D):D×Bool:=match S with
 |false=>(.lst a,J)
 |true=>(.int (Jz a).2,C)
noncomputable def Vn(S:Bool)(b:jU)(k:Nat)(d:FIt)(e:Tg)(f:FT)(c:FB):F:=λg=>(d g).bind λp=>(kb p.2<|b.map .slot).bind λa=>if(jl (b.map .slot) a).Nodup then(lj e f c p.1 []<|a.map Y++ae k I).bind λq=>Y (rS S q.1,wb (b.map .slot) a (jS a q.2) p.2) else I
def Kk{S:Bool}{K:iW}{f:jU}{k:Nat}{fi:FIt}{tg:Tg}{ti:FT}{fb:FB}{m:L2.St}{H:Hp}{Q:VK}(h:tF K (Vn S f k fi tg ti fb) m H Q):
  tI K (λi=>i∉f) fi m H λJ' p=>L6 (o0 S) J' (tG K (λi=>ZB f<=i) tg) (tT K ti) (λd=>tBx S K (λi=>ZB f<=i) d fb) (Df f k) m p (qS S Q):=by
 obtain⟨δ,T,rr,δr,E,e,kq⟩:=h;obtain⟨⟨ds,s⟩,h1,e⟩:=ir e;obtain⟨g,u,e⟩:=ir e;dsimp only at e u;split at e
 case isFalse=>cases e
 rename_i F;obtain⟨⟨q,X⟩,h2,e⟩:=ir e;obtain⟨rfl,rfl⟩:=jd e;refine⟨δ,T,ds,s,E,h1,λJ' p K1 B ok d hd=>?_⟩;obtain⟨hl,hg⟩:=nH u;have bS:(ZB g)=(ZB f):=by simpa using hl
 let A:List V:=f.map λj=>((m[j]?).join).getD .non
 have there: ∀(i j:Nat),f[i]?=Zv j-> ∃v,m[j]?=Zv (Zv v):=λi j l=>by
  have hi:i<(ZB g):=by have:=(rT.mp l).1;lia
  obtain⟨o,t,W⟩:=hg i _ (jt hi);rw[kD,l] at t;cases t;have L:=oG W;generalize g[i]=y at L;obtain⟨x,b⟩:=y
  cases b with
  |false=>obtain⟨v,h,_⟩:=B.val j x L;exact⟨v,h⟩
  |true=>obtain⟨a,h,_⟩:=B.own j x L;exact⟨_,h⟩
 have gf: ∀(i j:Nat),f[i]?=Zv j-> ∃v,A[i]?=Zv v/\m[j]?=Zv (Zv v):=λi j l=>by obtain⟨v,hv⟩:=there i j l;refine⟨v,?_,hv⟩;show(f.map λj=>((m[j]?).join).getD .non)[i]?=Zv v;rw[kD,l];simp[hv]
 have aa:Df f k m=A.map Zv++ae k Zw:=by
  unfold Df
  congr 1
  apply zm;intro i;show _=((f.map λj=>((m[j]?).join).getD .non).map Zv)[i]?;rw[kD,kD,kD]
  cases l:f[i]? with
  |none=>rfl
  |some j=>obtain⟨v,hv⟩:=there i j l;simp[hv]
 have C:Ops K T m s p (f.map Opd.slot) A s p T:=by
  refine⟨by simp[A],.refl,B,λ_ z=>z,λj x v l=>?_,λj x v l=>?_,λj i v l hv=>?_⟩
  .rw[kD] at l;obtain⟨_,_,z⟩:=jk l;cases z
  .rw[kD] at l;obtain⟨_,_,z⟩:=jk l;cases z
  .rw[kD] at l;obtain⟨c,D,z⟩:=jk l;cases z;obtain⟨v',t,W⟩:=gf j i D;rw[hv] at t;cases t;exact W
 have O:=yX B C u F
 have hA: ∀(i:Nat) x,g[i]?=Zv (x,J)-> ¬(ZB f<=i):=λi x w=>by
  have:=(rT.mp w).1
  lia
 rw[aa];have w:=lr (o:=o0 S) hd
 have R: ∀a,p a≠Zw->upd p d (o0 S) a≠Zw:=λa z=>by
  cases N:p a with
  |none=>exact absurd N z
  |some o=>rw[w a o N];simp
 have b0:BS S K d (λa=>Tc T m s A g a\/a=d) (A.map Zv++ae k Zw) (g.map Zv++ae k Zw) [] (upd p d<|o0 S):=by
  refine⟨(O.pad).mono (λb o eb _=>w b o eb) (λb hb z=>z.elim id λz=>by subst z;exact absurd hd hb) λa z=>?_,.inr Zz,?_⟩
  .rcases z with z|z
   .exact(O.dom a z).up (w a)
   .subst z;rw[ja];cases S<;>trivial
  .cases S with
   |false=>exact⟨[],ja,RepL.nil⟩
   |true=>exact ja
 refine IA (λ_ _ _ _ h=>h) (λ_ _ _ h=>h) (λ_ _ _ h=>h) b0 _ _ ok (λa o M _=>w a o M) (λa Y z=>?_) (λa Y z=>?_) R h2 λZ U G I=>?_
 .rcases z with z|z
  .obtain⟨j,x,g1,g2⟩:=Nk.mp z;obtain⟨i,_,t,_,L⟩:=EL C u ⟨x,g1,g2⟩;refine .inl ⟨i,λn=>n ?_,L⟩;rw[kD] at t;obtain⟨c,D,e⟩:=jk t;cases e;exact mG D
  .subst z;exact absurd hd Y
 .rcases z with z|z|z
  .exact .inl (IE C u<|Nk.mp z)
  .rcases z with z|z
   .exact .inr z
   .exact .inl z.1
  .subst z;exact absurd hd Y
 .have SS:SK (λi=>ZB f<=i) (A.map Zv++ae k Zw) (g.map Zv++ae k Zw) p Z X U:=
   ⟨λa o M n=>G.kp a o (w a o M) n (by intro z;subst z;rw[M] at hd;cases hd),λi a z=>(G.owi i a z).imp id λz=>by
    cases N:p a with
    |none=>rfl
    |some o=>exact absurd z<|R a<|by rw[N];simp,λa z=>G.dm a<|R a z,G.as⟩
  cases S with
  |false=>obtain⟨ys,hy,ry⟩:=I.at';have P:=uo (r:=(.lst q,J)) (v:= .ref d) O SS hA ⟨d,rfl,hd,I.er,ys,hy,RepL.mono (λ_ _ e _=>e) (λb _ z=>z) ry⟩;exact kq (.ref d) U<|(AK B C u F P).pre K1
  |true=>have P:=uo (r:=(.int (Jz q).2,Zy)) (v:= .int (Jz q).2) O SS hA ⟨I.er.mono (λ_ _ e _=>e) (λb _ z=> .inl z) λa z=>I.er.dom a<|.inl z,Rep.mkInt⟩;exact⟨_,_,d,rfl,I.at',kq (.int (Jz q).2) U<|(AK B C u F P).pre K1⟩
def Fg{K:iW}{a:jU}{k:Nat}{c:FIt}{e:Tg}{ti:FT}{b:FB}{f:L2.St}{U:Hp}{Q:VK}(h:tF K (jI a k c e ti b) f U Q):
  L5 (tI K (λi=>i∉a) c) (tG K (λi=>ZB a<=i) e) (tT K ti) (λd=>tBx C K (λi=>ZB a<=i) d b) (Df a k) f U Q:=Kk (S:=C) h
section
variable {X:Cx}{elt:iI}{c:qc}{jw:rX}{scope:jL}{pos g0 py:bI}{N':je}{caps:jU}{k:Nat}{fi:FIt}{tg:Tg}{ti:FT}{fb:FB}{A L:jW}{H0:Hp}
structure CompOk(X:Cx)(N':je)(scope:jL)(caps:jU)(k:Nat):Prop where
 cell: ∀y∈scope.names,y.2= .cell->scope.names.lookup y.1=Zv .cell
 kind:scope.kind= .function
 names: ∀y∈scope.names,y.2= .local->scope.names.lookup y.1=Zv .local
 free: ∀y∈scope.names,y.2= .free->X.env.scope.names.lookup y.1=Zv .cell\/X.env.scope.names.lookup y.1=Zv .free
 len:(ZB caps)+k=ZB N'
 caps: ∀(i j:Nat) (x:ax),caps[i]?=Zv j->N'[i]?=Zv x->X.N[j]?=Zv x/\scope.names.lookup x=Zv .free
def CompOk.sco(U:CompOk X N' scope caps k):CompScope X N' scope (Df caps k):=by
 refine⟨U.cell,U.kind,U.names,U.free,λd=>by simp[Df,U.len],λd i v x h1 f=>?_⟩;unfold Df at h1;by_cases b:i<ZB caps
 .rw[qf<|by simpa using b,kD,jt b] at h1;obtain⟨g,h⟩:=U.caps i caps[i] x (jt b) f;refine⟨h,caps[i],g,?_⟩;have a:(d[caps[i]]?).join=Y v:=by simpa using h1
  cases e:d[caps[i]]? with
  |none=>rw[e] at a;cases a
  |some y=>rw[e] at a;exact mV Y a
 .rw[qg<|by simpa using b,vV] at h1;split at h1<;>cases h1
def Qf(T:CompOk X N' scope caps k)(n:X.calm=J)(m:c.is_async=0)(p: ∀e,jw[0]?=Y e->e.is_async=0)
  (o: ∀x,aM c.iter X.env x=pure x)(q:PIX X (λi=>i∉caps) c.target c.iter fi)
  (j: ∀(cl:kU) (T:iu) (r:iC) (f:Hp) (l:kI) (a:jq),let b:=X.comp N' scope cl T r f l a
   PGX b (λi=>ZB caps<=i) c.target tg/\PIf b c.ifs (tT X.K ti)/\ ∀d,PB b (kd (.ListComp elt (c::jw) scope pos) 0 (.ref d) b.env)<|tBx C X.K (λi=>ZB caps<=i) d fb):
  PX X (.ListComp elt (c::jw) scope pos) (jI caps k fi tg ti fb):=PX.imp (Ng (g:=tG X.K (λi=>ZB caps<=i) tg) (ti:=tT X.K ti) (tb:=λd=>tBx C X.K (λi=>ZB caps<=i) d fb) T.sco n m p o q j) λs U Q h=>Fg h
def MP{y:ax}{i:Nat}(n:bJ (.ListComp elt (c::jw) scope pos) (Y<|.Name y py) g0.line X.env=pure Zx)
  (C:CompOk X N' scope caps k)(w:X.calm=Zx)(u:c.is_async=0)(O: ∀h,jw[0]?=Y h->h.is_async=0)
  (B: ∀x,aM c.iter X.env x=pure x)(G:PIX X (λi=>i∉caps) c.target c.iter fi)(o:PG X (.Name y py) (EX i))(t:A i)
  (m: ∀(cl:kU) (C:iu) (J:iC) (l:Hp) (p:kI) (a:jq),let b:=X.comp N' scope cl C J l p a
   PGX b (λi=>ZB caps<=i) c.target tg/\PIf b c.ifs (tT X.K ti)/\ ∀d,PB b (kd (.ListComp elt (c::jw) scope pos) 0 (.ref d) b.env)<|tBx Zy X.K (λi=>ZB caps<=i) d fb):
  PSX X A L H0 (.Assign [.Name y py] (.ListComp elt (c::jw) scope pos) g0) (jD i<|jI caps k fi tg ti fb):=PS.imp' (MV (g:=tG X.K (λi=>ZB caps<=i) tg) (ti:=tT X.K ti) (tb:=λd=>tBx Zy X.K (λi=>ZB caps<=i) d fb) n C.sco w u O B G o m) λD N H U=>by
 obtain⟨M,T,Q,E,fi,e,k⟩:=U;obtain⟨⟨r,f⟩,s,e⟩:=ir e;obtain⟨z,rfl⟩:=iY e;refine Fg ⟨M,T,r,f,E,s,λv j P=>?_⟩;obtain⟨h1,q⟩:=zO (A:=A) E P z t;exact k _ j h1 q
end
section
variable {K:iW}{T:AP'}{d:L2.St}{c:Dn}{H:Hp}{i:Nat}{l g:List D}{a:iu}{m:List V}
def OwnI.write{j:Nat}{b:iu}(hd:c[i]?=Y (Y (.lst l,J)))(h:OwnI d (c.set i<|Y (.lst g,J)) j b):OwnI d c j b:=by
 obtain⟨e,h1,f⟩:=h;rcases lW h1 with⟨rfl,_,_⟩|⟨_,q⟩
 .exact⟨_,hd,f⟩
 .exact⟨e,q,f⟩
def ER.write(E:ER K H T d c)(hd:c[i]?=Y (Y (.lst l,Zx)))(t:d[i]?=Y (Y<|.ref a))(r:RepL K H (λb=>OwnA d c b\/T b) g m):
  ER K (upd H a<|.lst m) T d (c.set i<|Y (.lst g,Zx))/\Keep d c H (c.set i<|Y (.lst g,Zx)) (upd H a<|.lst m):=by
 have N:i<(ZB c):=(rT.mp hd).1;have v:OwnA d c a:=⟨i,_,hd,t⟩
 have C: ∀b,OwnA d (c.set i<|Y (.lst g,Zx)) b->OwnA d c b:=λb a'=>by
  obtain⟨j,e,h1,s⟩:=a'
  obtain⟨L,x,y⟩:=OwnI.write hd ⟨e,h1,s⟩;exact⟨j,L,x,y⟩
 have u: ∀b o,H b=Y o-> ¬(OwnA d c b\/T b)->upd H a (.lst m) b=Y o:=λb o e n=>by rw[jb<|by intro z;subst z;exact n<|.inl v];exact e
 have U: ∀b,H b≠I->upd H a (.lst m) b≠I:=λb z=>by
  by_cases B:b=a
  .subst B;rw[ja];simp
  .rw[jb B];exact z
 have sub: ∀b,H b≠I->(OwnA d (c.set i<|Y (.lst g,Zx)) b\/T b)->OwnA d c b\/T b:=λb _ z=>z.imp (C b) id;refine⟨⟨by rw[qK];exact E.len,λj e h=>?_,λj e h=>?_,λj k e f b h hk h1 s=>?_,λb z=>E.nT b<|C b z,λb z=>by have ne:b≠a:=λe=>E.nT a v<|e▸z;rw[jb ne];exact E.dom b z⟩,⟨λb o e n=>by rw[jb<|by intro z;subst z;exact n v];exact e,λj b z=>OwnI.write hd z,U⟩⟩
 .rcases lW h with⟨_,_,q⟩|⟨_,q⟩
  .cases q
  .obtain⟨w,p,A⟩:=E.val j e q;exact⟨w,p,Rep.mono u sub A⟩
 .rcases lW h with⟨rfl,_,q⟩|⟨ne,q⟩
  .cases q;exact⟨a,t,m,ja,RepL.mono u sub r⟩
  .obtain⟨b,p,A⟩:=E.own j e q;refine⟨b,p,A.mono u sub λo G=>?_⟩;rw[jb]
   .exact G
   .intro z;subst z;exact ne<|E.inj i j _ _ _ hd q t p
 .obtain⟨O,x,y⟩:=OwnI.write hd ⟨e,h,h1⟩;obtain⟨Q,J,M⟩:=OwnI.write hd ⟨f,hk,s⟩;exact E.inj j k O Q b x J y M
end
noncomputable def kY(i:Nat)(f:F):F:=λa=>match a[i]? with
 |some (Y (.lst _,J))=>(f a).bind λp=>match p.2[i]? with
  |some (Y (.lst l,J))=>if (ZB l)<sizeLine then Y ((.non,C),p.2.set i<|Y (.lst<|l++[p.1.1],J)) else I
  |_=>I
 |_=>I
noncomputable def vO(i:Nat)(f:FO):F:=λa=>match a[i]? with
 |some (Y (.lst _,J))=>(f a).bind λp=>match res p.2 p.1,p.2[i]? with
  |some (.int k),Y (Y (.lst l,J))=>if -(2^63)<=k/\k<2^63 then(ixN (ZB l) k).bind λj=>(l[j]?).bind λd=>Y ((d,C),p.2.set i<|Y (.lst<|l.eraseIdx j,J)) else I
  |_,_=>I
 |_=>I
noncomputable def xP(i:Nat)(f:F)(g:FO):FS:=λa=>(f a).bind λp=>match p.2[i]? with
 |some (Y _)=>(g p.2).bind λq=>match res q.2 q.1,q.2[i]? with
  |some (.int k),Y (Y (.lst l,J))=>(ixN (ZB l) k).bind λj=>Y<|.nx<|q.2.set i<|Y (.lst<|l.set j p.1.1,J)
  |_,_=>I
 |_=>I
section
variable {X:Cx}{e p:iI}{f:F}{s:FO}{q c g m:bI}{i:Nat}{x:ax}{A L:jW}{t:Hp}
theorem RepL.erase{K U}{O:AP'}: ∀{l:List D} {a:List V} (j:Nat),RepL K U O l a->RepL K U O (l.eraseIdx j) (a.eraseIdx j)
 |[],a,j,h=>by rw[RepL] at h;subst h;simp[RepL]
 |d::l,a,0,h=>by rw[RepL] at h;obtain⟨v,r,rfl,h1,b⟩:=h;exact b
 |d::l,a,j+1,h=>by rw[RepL] at h;obtain⟨v,r,rfl,h1,b⟩:=h;exact RepL.cons h1<|RepL.erase j b
def JG(hv:PO X (.Name x c) (iw i))(Y:PX X e f)(U:bb (.Name x c) "append" X.env (aE (.Name x c) X.env)=aE (.Name x c) X.env)
  (i7:((aP m<|ac [e] X.env).all (λx=>!x.1)&&(dn m<|ca [] X.env).all (λx=>x.1.isSome)&&decide ([e].length+([]:List bG).length+(if([]:List bG).isEmpty then 0 else 1)<30))=Zx)
  (N:(g.endLine==m.line)=Zx)(z:ac [e] X.env=(Zy,aE e X.env)::ac [] X.env)(M:(aP m<|ac [] X.env).any (·.1)=Zy):
  PX X (.Call (.Attribute (.Name x c) "append" g) [e] [] m) (kY i f):=
 PX.imp (Il zk PySem.F.slot_list_append PySem.F.type_list_append JW hv (lu Y oh z) U i7 N z M) λσ H Q D=>by
 obtain⟨h,T,rr,W,E,e,k⟩:=D;unfold kY at e;split at e
 .rename_i l0 u;obtain⟨⟨r,j⟩,h1,e⟩:=ir e;dsimp only at e;split at e
  .rename_i l w;obtain⟨K,e⟩:=iY e;obtain⟨rfl,rfl⟩:=rA e;refine⟨h,T,.slot i,h,E,by unfold iw;rw[u],λv Z P=>?_⟩;obtain⟨O,d,b⟩:=P;obtain⟨a,g1,J,g2,g3⟩:=d.own i _ u;rw[b] at g1;cases g1;refine⟨.inl ⟨rfl,J,SqL.of g2⟩,h,T,r,j,d,h1,λy H2 o=>?_⟩;obtain⟨n,S⟩:=o.rep d;obtain⟨a',B,V,R,C⟩:=n.own i _ w;rw[b] at B;cases B;refine⟨_,V,y,rfl,rfl,R,by rw[C.length];exact K,?_⟩;obtain⟨I,G⟩:=n.write w b<|C.append<|RepL.one S;exact k _ _ (Post.val ((O.trans o.1).trans G) I Rep.mkNon)
  .cases e
 .cases e
def MI(hv:PO X (.Name x c) (iw i))(he:PO X e s)(f9:bb (.Name x c) "pop" X.env (aE (.Name x c) X.env)=aE (.Name x c) X.env)
  (i7:((aP m<|ac [e] X.env).all (λx=>!x.1)&&(dn m<|ca [] X.env).all (λx=>x.1.isSome)&&decide ([e].length+([]:List bG).length+(if([]:List bG).isEmpty then 0 else 1)<30))=Zx)
  (f7:(g.endLine==m.line)=Zx)(Y:ac [e] X.env=(Zy,aE e X.env)::ac [] X.env)(d8:(aP m<|ac [] X.env).any (·.1)=Zy):
  PX X (.Call (.Attribute (.Name x c) "pop" g) [e] [] m) (vO i s):=
 PX.imp (Il zk Lh Lg NA hv (lu he oh Y) f9 i7 f7 Y d8) λσ H Q hw=>by
 obtain⟨O,T,rr,δ',E,e,k⟩:=hw;unfold vO at e;split at e
 .rename_i l0 M;obtain⟨⟨o,r⟩,h1,e⟩:=ir e;dsimp only at e;split at e
  .rename_i D l hk N;split at e
   case isFalse=>cases e
   rename_i U;obtain⟨j,hj,e⟩:=ir e;obtain⟨d,hd,e⟩:=ir e;obtain⟨rfl,rfl⟩:=jd e;refine⟨O,T,.slot i,O,E,by unfold iw;rw[M],λv H1 P=>?_⟩;obtain⟨W,u,h⟩:=P;obtain⟨a,g1,Z,g2,g3⟩:=u.own i _ M;rw[h] at g1;cases g1;refine⟨.inl ⟨rfl,Z,SqL.of g2⟩,O,T,o,r,u,h1,λy V J=>?_⟩;have B:=Ops.cons u J<|Ops.nil<|J.er u;have vy:=jr<|B.view (j:=0) Zz Zz hk;have G:ER X.K V T σ r:=B.er.mono (λ_ _ e _=>e) (λb _ z=>B.tt b z) λa z=>B.er.dom a<|B.tt a z;obtain⟨a',F,R,q2,I⟩:=G.own i _ N;rw[h] at F;cases F;obtain⟨w,w1,w2⟩:=I.get hd;have hl:=I.length;have gy:ixN R.length D=Zv j:=by rw[hl];exact hj
   obtain⟨s1,s2,s3,s4⟩:=Dx gy;obtain⟨S,C⟩:=G.write N h<|RepL.erase j I;refine⟨_,R,D,j,w,rfl,by rw[vy],q2,U.1,U.2,s1,w1,?_⟩;exact k _ _ (Post.val ((W.trans B.keep).trans C) S<|Rep.mono (λb o e n=>C.kp b o e λz=>n<|.inl z) (λb _ z=>z.imp (C.ow b) id) w2)
  .cases e
 .cases e
def JJ{h:bI}(hv:PO X (.Name x c) (iw i))(he:PX X e f)(hi:PO X p s)
  (ha: ∀v,ce (.Subscript (.Name x c) p h) X.env v=(do
   let C' <-br [v] (aE (.Name x c) X.env)
   let O <-br [v,C'] (aE p X.env)
   cu h
   br [v,C',O] (fU C' O v)
   li [v,C',O] []))
  (hs:c4 [.Subscript (.Name x c) p h] e q.line X.env=pure C)(I:c5 [.Subscript (.Name x c) p h] e X.env=pure Zw)
  (h1:(aU [.Subscript (.Name x c) p h] X.env).map (·.2)=[ce (.Subscript (.Name x c) p h) X.env]):
  PSX X A L t (.Assign [.Subscript (.Name x c) p h] e q) (xP i f s):=PS.imp' (GP he (Nb hv hi Mm ha) hs I h1) λD Q H I=>by
 obtain⟨U,T,out,E,fi,e,k⟩:=I;obtain⟨⟨r,d⟩,h1,e⟩:=ir e;dsimp only at e;split at e
 case h_2=>cases e
 rename_i y0 S;obtain⟨⟨o,y⟩,V,e⟩:=ir e;dsimp only at e;split at e
 .rename_i kk l hk J;obtain⟨j,W,e⟩:=ir e;cases e;refine⟨U,T,r,d,E,h1,λv F n=>⟨d,Tmp T r v,.slot i,d,n.er E,by unfold iw;rw[S],λv2 H2 u=>⟨d,Tmp T r v,o,y,u.er<|n.er E,V,λv3 P P3=>?_⟩⟩⟩;have Z:PostO X.K T Q U H (.val r) d v F:=n;have B:=Ops.cons E Z<|Ops.cons (n.er E) u<|Ops.cons (u.er<|n.er E) P3<|Ops.nil<|P3.er<|u.er<|n.er E;have G:ER X.K P T Q y:=B.er.mono (λ_ _ e _=>e) (λb _ z=>B.tt b z) λa z=>B.er.dom a<|B.tt a z;have w:Q[i]?=Zv (Zv v2):=u.2.2;obtain⟨a,M,xs,q2,N⟩:=G.own i _ J;rw[w] at M;cases M;have vk:=jr<|B.view (j:=2) Zz Zz hk;have rv:=B.rep E (j:=0) (r:=r) Zz Zz;refine⟨a,xs,kk,j,rfl,vk,q2,by rw[N.length];exact W,?_⟩;obtain⟨Y,R⟩:=G.write J w<|RepL.set rv j N;exact k _ _ (B.keep.trans R).sk Y
 .cases e
end
noncomputable def PL(b:Tg)(f:F):FS:=λc=>(f c).bind λp=>(b p.1.1 p.2).bind λa=>Y<|.nx a
section
variable {X:Cx}{A L:jW}{l:Hp}{a b d e:iI}{fs:List F}{f:F}{t:Tg}{c n m pt h:bI}{x y:ax}{i j:Nat}{kt k2}
def Qr(C:PX X e f)(U:PGX X A d t)(O:c4 [d] e c.line X.env=pure Zy)(o:c5 [d] e X.env=pure I)(h1:(aU [d] X.env).map (·.2)=[ce d X.env]):
  PSX X A L l (.Assign [d] e c) (PL t f):=PS.imp' (GP C U O o h1) λD N H o=>by
 obtain⟨J,T,Q,E,M,e,k⟩:=o;obtain⟨⟨r,g⟩,h1,e⟩:=ir e;obtain⟨p,B,e⟩:=ir e;cases e;refine⟨J,T,r,g,E,h1,λv w P=>?_⟩;obtain⟨u,G⟩:=P.rep E;exact⟨g,T,r.1,p,u,G,B,λq z s=>k q w (P.1.sk.trans z) s⟩
def Ig{id:String}{p:bI}{k:kr}{o:List FO}{g:List D->Option (D×Bool)}{z:ax}(s:kF X (.builtin id) (rDn X.K g))(v:Gl X z)(w:X.mg z=I)(hv:ay z=Y (.builtin id))(r:PA X (e::k) (tA X.K o))(B:z≠"__name__")(U:(z==("__debug__":ax))=C)
  (u:ac (e::k) X.env=(C,aE e X.env)::ac k X.env)(q:(aP c<|ac k X.env).any (·.1)=C):PX X (.Call (.Name z p) (e::k) [] c) (jh g o):=pxn<|wj s v w hv r B U u q
def Ic{id:String}{p:bI}{k:kr}{o:List FO}{g:List D->Option (D×Bool)}{z:ax}(s:kF X (.type id) (rDn X.K g))(v:Gl X z)(w:X.mg z=I)(hv:ay z=Y (.type id))(r:PA X (e::k) (tA X.K o))(B:z≠"__name__")(U:(z==("__debug__":ax))=C)
  (u:ac (e::k) X.env=(C,aE e X.env)::ac k X.env)(q:(aP c<|ac k X.env).any (·.1)=C):PX X (.Call (.Name z p) (e::k) [] c) (jh g o):=pxn<|qt s v w hv r B U u q
end
def Vv:ay "abs"=Y (.builtin "abs"):=by decide+kernel
noncomputable def DS(N:je)(c scope:jL)(b:je)(a:jU)(k:Nat):Bool:=
 (scope.names.all λy=>y.2 != .cell||scope.names.lookup y.1==Y .cell)&&decide (scope.kind= .function)&&(scope.names.all λy=>y.2 != .local||scope.names.lookup y.1==Y .local)&&
 (scope.names.all λy=>y.2 != .free||(c.names.lookup y.1==Y .cell||c.names.lookup y.1==Y .free))&&decide (ZB a+k=ZB b)&&
 ((a.zip b).all λp=>N[p.1]?==Y p.2&&scope.names.lookup p.2==Y .free)
def OP(m:X.N=N)(p:X.env.scope=sc)(h:DS N sc scope N' a k=J):CompOk X N' scope a k:=by
 subst m;subst p;unfold DS at h;simp only[lC,mY,vh] at h;obtain⟨⟨⟨⟨⟨h1,c⟩,d⟩,f⟩,g⟩,l⟩:=h;refine⟨λy b e=>?_,c,λy b e=>?_,λy b e=>?_,g,λi j x n q=>?_⟩
 .have:=h1 y b;rw[e] at this;simpa using this
 .have:=d y b;rw[e] at this;simpa using this
 .have:=f y b;rw[e] at this;simpa using this
 .have o:(j,x)∈a.zip N':=by
   have:(a.zip N')[i]?=Y (j,x):=by rw[D5];exact⟨n,q⟩
   exact mG this
  have:=l _ o;simpa using this
noncomputable def kK:FT:=λδ=>Y (J,δ)
def M5{X:Cx}:PIf X [] (tT X.K kK):=λa s d O Q U h=>by obtain⟨f,T,b,c,E,e,k⟩:=h;cases e;exact Qz a s d O Q U<|k O .refl E
inductive Ty where
 |int|bool|str|tuple|list|dict
noncomputable def Ty.n:Ty->String
 | .int=>"int"| .bool=>"bool"| .str=>"str"| .tuple=>"tuple"| .list=>"list"| .dict=>"dict"
noncomputable def isT:D->Ty->Bool
 | .bl _,.bool=>J
 | .bl _,.int=>J
 | .int _,.int=>J
 | .str _,.str=>J
 | .tup _,.tuple=>J
 | .lst _,.list=>J
 | .oth .dct _ _,.dict=>J
 |_,_=>C
noncomputable def tyD:D->String
 | .non=>"NoneType"| .bl _=>"bool"| .int _=>"int"| .str _=>"str"| .tup _=>"tuple"| .lst _=>"list"| .oth .dct _ _=>"dict"| .oth .set _ _=>"set"| .oth _ _ _=>"NoneType"
section
variable {X:Cx}{b:jq}{c:L2.St}{H:Hp}{s:iC}
def Dv(K:iW)(d:D)(t:Ty):dJ K (.type<|tyD d) (.type t.n)=Y (isT d t):=by
 cases d with
 |oth k _ _=>cases k<;>cases t<;>with_unfolding_all rfl
 |_=>cases t<;>with_unfolding_all rfl
def Dk(U:Inv X b c H s)(h:OthB X.K (H a) k l i us)(hk:k= .dct\/k= .set:=by first|exact .inl rfl|exact .inr Zz):s.TypeIs (.ref a) (tyD<|.oth k l i):=by
 cases k with
 |dct=>
  rcases h with⟨d,e,_⟩|⟨d,e,_⟩
  .obtain⟨_,_,i,_,o,g,j,h1,f,_⟩:=(show ObjOk X.prog X.w H s.heap a (.dK d) from U.hok a _ e)
   exact⟨o,h1,f.1⟩
  .obtain⟨_,_,p,_,o,g,j,h1,f,_⟩:=(show ObjOk X.prog X.w H s.heap a (.dT d) from U.hok a _ e)
   exact⟨o,h1,f.1⟩
 |set=>
  obtain⟨_,m,e,_⟩:=h;obtain⟨g,n,t,h1,_⟩:=(show ObjOk X.prog X.w H s.heap a (.stt m) from U.hok a _ e)
  exact⟨_,h1,rfl⟩
 |exc T=>rcases hk with z|z<;>cases z
 |_=>exact h.elim
def nQ{K H}(h:ke K H O (.oth k g f) v): ∃a d,v= .ref a/\OthB K (H a) k g f d/\RepL K H O f d:=by
 rcases h with h|⟨a,rfl,h⟩
 .obtain⟨a,d,e,q,r⟩:=h.oth;exact⟨a,d,e,q.2,r⟩
 .obtain⟨d,e,r⟩:=h;exact⟨a,d,rfl,e,r⟩
end
theorem mq(K:iW)(d:D): ∀a:List Ty,eu K (.type<|tyD d) (a.map λt=>bQ t.n)=Y (a.any<|isT d)
 |[]=>rfl
 |t::a=>by
  rw[jY,eu,Dv,vg]
  cases isT d t with
  |true=>rfl
  |false=>simpa using mq K d a
def SH{K:iW}{U:Nat}(h: ∀n∈["int","bool","str","tuple","list","dict"],dJ K (.ref U) (.type n)=Y C)(t:Ty){ks vs:List D}:dJ K (.ref U) (.type t.n)=Y (isT (.oth (.exc U) ks vs) t):=by
 cases t<;>exact h _ (by simp[Ty.n])
theorem IV{K:iW}{U:Nat}(h: ∀n∈["int","bool","str","tuple","list","dict"],dJ K (.ref U) (.type n)=Y C){ks vs:List D}: ∀a:List Ty,eu K (.ref U) (a.map λt=>bQ t.n)=Y (a.any<|isT<|.oth (.exc U) ks vs)
 |[]=>rfl
 |t::a=>by
  rw[jY,eu,SH h t (ks:=ks) (vs:=vs),vg]
  cases isT (.oth (.exc U) ks vs) t with
  |true=>rfl
  |false=>simpa using IV h a
section
variable {X:Cx}{c:jq}{f:L2.St}{H:Hp}{s:iC}
def YK(U:Inv X c f H s)(hd:ke X.K H O d x)(g:RelV x u)(h: ∀m,Q (.bool<|isT d t) {s with toks:=m}):
  ag (ah X.prog X.w) A (call (.builtin "isinstance") [u,.type t.n]) Q E s:=by
 cases d with
 |non=>have:=Ed hd;subst this;cases g;exact qI gY U.kIn be (Dv X.K .non t) (λz=>nomatch z) h
 |bl b=>have:=CY hd;subst this;cases g;exact qI hL U.kIn be (Dv X.K (.bl b) t) (λz=>nomatch z) h
 |int b=>have:=jr hd;subst this;obtain⟨m,rfl⟩:=g;exact qI ik U.kIn be (Dv X.K (.int b) t) (λz=>nomatch z) h
 |str b=>have:=vW hd;subst this;obtain⟨m,rfl⟩:=g;exact qI ia U.kIn be (Dv X.K (.str b) t) (λz=>nomatch z) h
 |tup l=>obtain⟨a,y,rfl,q,_⟩:=lz hd;cases g;obtain⟨j,_,⟨o,h1,i,_⟩,_⟩:=U.tuple q;exact qI gV U.kIn ⟨o,h1,i⟩ (Dv X.K (.tup l) t) (λz=>nomatch z) h
 |lst l=>obtain⟨a,y,rfl,q,_⟩:=kn hd;cases g;obtain⟨j,_,⟨o,n,h1,i,_⟩,_⟩:=U.list q;exact qI hD U.kIn ⟨o,h1,i⟩ (Dv X.K (.lst l) t) (λz=>nomatch z) h
 |oth k p r=>
  obtain⟨a,B,rfl,q,_⟩:=nQ hd;cases g
  cases k with
  |dct=>exact qI hH U.kIn (Dk U q) (Dv X.K (.oth .dct p r) t) (λz=>nomatch z) h
  |set=>exact qI ib U.kIn (Dk U q) (Dv X.K (.oth .set p r) t) (λz=>nomatch z) h
  |exc T=>obtain⟨_,o,e,h1,i,v⟩:=q;exact qI (i a) U.kIn (show ObjOk X.prog X.w H s.heap a (.frz o<|.own 0) from U.hok a _ e).1 (SH v t) (λz=>nomatch z) h
  |_=>exact q.elim
def YJ{A:iU}{E:jn}{Q:jn}(U:Inv X c f H s){O:AP'}{d:D}{x:V}{u:iK}{ts:List Ty}{p:iu}{B:Option iu}{n:Nat}{T:rY}(hd:ke X.K H O d x)(i:RelV x u)
  (g:s.heap.get? p=Y ⟨.type "tuple",B,.seq (ts.map λt=>bQ t.n).toArray n,T⟩)(h: ∀r,Q (.bool<|ts.any<|isT d) {s with toks:=r}):ag (ah X.prog X.w) A (call (.builtin "isinstance") [u,.ref p]) Q E s:=by
 cases d with
 |non=>have:=Ed hd;subst this;cases i;exact qH gY U.kIn be g (mq X.K .non ts) (λz=>nomatch z) h
 |bl b=>have:=CY hd;subst this;cases i;exact qH hL U.kIn be g (mq X.K (.bl b) ts) (λz=>nomatch z) h
 |int b=>have:=jr hd;subst this;obtain⟨r,rfl⟩:=i;exact qH ik U.kIn be g (mq X.K (.int b) ts) (λz=>nomatch z) h
 |str b=>have:=vW hd;subst this;obtain⟨r,rfl⟩:=i;exact qH ia U.kIn be g (mq X.K (.str b) ts) (λz=>nomatch z) h
 |tup l=>obtain⟨a,G,rfl,q,_⟩:=lz hd;cases i;obtain⟨m,_,⟨o,h1,j,_⟩,_⟩:=U.tuple q;exact qH gV U.kIn ⟨o,h1,j⟩ g (mq X.K (.tup l) ts) (λz=>nomatch z) h
 |lst l=>obtain⟨a,G,rfl,q,_⟩:=kn hd;cases i;obtain⟨m,_,⟨o,n,h1,j,_⟩,_⟩:=U.list q;exact qH hD U.kIn ⟨o,h1,j⟩ g (mq X.K (.lst l) ts) (λz=>nomatch z) h
 |oth k v y=>
  obtain⟨a,M,rfl,q,_⟩:=nQ hd;cases i
  cases k with
  |dct=>exact qH hH U.kIn (Dk U q) g (mq X.K (.oth .dct v y) ts) (λz=>nomatch z) h
  |set=>exact qH ib U.kIn (Dk U q) g (mq X.K (.oth .set v y) ts) (λz=>nomatch z) h
  |exc N=>obtain⟨_,o,e,h1,j,L⟩:=q;exact qH (j a) U.kIn (show ObjOk X.prog X.w H s.heap a (.frz o<|.own 0) from U.hok a _ e).1 g (IV L ts) (λz=>nomatch z) h
  |_=>exact q.elim
end
noncomputable def yd(ts:List Ty)(d:D):Option (D×Bool):=Y (.bl<|ts.any<|isT d,C)
section
variable {X:Cx}{e:iI}{g:FO}{f p c:bI}{z:ax}
def T9{t:Ty}(G:PO X e g)(M:Gl X "isinstance")(N:X.mg "isinstance"=Zw)(w:Gl X z)(y:X.mg z=Zw)(hz:ay z=Zv (.type t.n))(U:z≠"__name__")(i8:(z==("__debug__":ax))=Zy)(hv:ay "isinstance"=Zv (.builtin "isinstance"))
  (s1:ac [e,.Name z c] X.env=(Zy,aE e X.env)::ac [.Name z c] X.env)(s2:ac [.Name z c] X.env=(Zy,aE (.Name z c) X.env)::ac [] X.env)(A:(aP f<|ac [.Name z c] X.env).any (·.1)=Zy):
  PX X (.Call (.Name "isinstance" p) [e,.Name z c] [] f) (kB (yd [t]) g):=by
 have J:kF X (.builtin "isinstance") (λl H Q=> ∃(O:AP') (d:D) (x:V),l=[x,.ty t.n]/\ke X.K H O d x/\Q (.bl<|isT d t) H):=by intro i s S H l us Q I r h;obtain⟨O,d,x,rfl,hd,q⟩:=h;obtain⟨u,w',rfl,F,m⟩:=vX r;cases m;exact YK I hd F λtk=>⟨.bl _,H,I.tok _,rfl,q⟩
 refine PX.imp (wj J M N hv (lu G (lu (yQ (v:= .ty t.n) w y hz Zz U i8) oh s2) s1) (by decide) (by decide) s1 A) λS H Q Y=>?_;obtain⟨P,T,Z,R,E,e,k⟩:=Y;obtain⟨⟨o,a⟩,h1,e⟩:=ir e;obtain⟨x,C,e⟩:=ir e;obtain⟨zz,L,e⟩:=ir e;cases L;obtain⟨rfl,rfl⟩:=jd e;refine⟨P,T,o,a,E,h1,λv W b=>?_⟩;have B:=Ops.cons E b<|Ops.nil<|b.er E;refine⟨_,x,v,rfl,B.view (j:=0) Zz Zz C,?_⟩;have:=(B.done k).bl;simpa using this
def Qa{t m:Ty}{z i:ax}{l p4:bI}{w}(ha:PO X e g)(hg:Gl X "isinstance")(hm:X.mg "isinstance"=Zw)(aV:Gl X z)(dQ:X.mg z=Zw)(hz:ay z=Zv (.type t.n))(hn:z≠"__name__")(i8:(z==("__debug__":ax))=Zy)
  (cJ:Gl X i)(y:X.mg i=Zw)(eQ:ay i=Zv (.type m.n))(aQ:i≠"__name__")(cP:(i==("__debug__":ax))=Zy)(hv:ay "isinstance"=Zv (.builtin "isinstance"))
  (s1:ac [e,.Tuple [.Name z c,.Name i l] w p4] X.env=(Zy,aE e X.env)::ac [.Tuple [.Name z c,.Name i l] w p4] X.env)(s2:ac [.Tuple [.Name z c,.Name i l] w p4] X.env=(Zy,aE (.Tuple [.Name z c,.Name i l] w p4) X.env)::ac [] X.env)
  (s3:ac [.Name z c,.Name i l] X.env=(Zy,aE (.Name z c) X.env)::ac [.Name i l] X.env)(s4:ac [.Name i l] X.env=(Zy,aE (.Name i l) X.env)::ac [] X.env)
  (g8:(aP f<|ac [.Tuple [.Name z c,.Name i l] w p4] X.env).any (·.1)=Zy):
  PX X (.Call (.Name "isinstance" p) [e,.Tuple [.Name z c,.Name i l] w p4] [] f) (kB (yd [t,m]) g):=by
 have S:kF X (.builtin "isinstance") (λY H Q=> ∃(O:AP') (d:D) (x:V) (q:iu),Y=[x,.ref q]/\H q=Zv (.tup [.ty t.n,.ty m.n])/\ke X.K H O d x/\Q (.bl<|[t,m].any<|isT d) H):=by intro U s F H Y us Q I r h;obtain⟨O,d,x,q,rfl,M,hd,k⟩:=h;obtain⟨u,w',rfl,ru,P⟩:=vX r;cases P;obtain⟨_,Z,v1,o,h1,L,n,G⟩:=I.hok q _ M;obtain⟨u1,u2,rfl,r1,r2⟩:=vX v1;cases r1;cases r2;obtain⟨R,dd,dt,sl⟩:=o;simp only at L G;subst L;subst G;exact YJ (ts:=[t,m]) I hd ru h1 λtk=>⟨.bl _,H,I.tok _,rfl,k⟩
 refine PX.imp (wj S hg hm hv (lu ha (lu (Nc<|lu (yQ (v:= .ty t.n) aV dQ hz Zz hn i8) (lu (yQ (v:= .ty m.n) cJ y eQ Zz aQ cP) oh s4) s3) oh s2) s1) (by decide) (by decide) s1 g8) λF H Q W=>?_;obtain⟨δ,T,rr,δ',E,e,k⟩:=W;obtain⟨⟨o,C⟩,h1,e⟩:=ir e;obtain⟨x,L,e⟩:=ir e;obtain⟨zz,G,e⟩:=ir e;cases G;obtain⟨rfl,rfl⟩:=jd e;refine⟨δ,T,o,C,E,h1,λv H1 N=>⟨by show 2<=sizeLine;decide,λq M=>?_⟩⟩;have B:=Ops.cons E N<|Ops.nil<|N.er E;have J:=lr (o:= .tup [.ty t.n,.ty m.n]) M;have A:=B.view (j:=0) Zz Zz L;refine⟨λa=>OwnA F C a\/T a,x,v,q,rfl,ja,?_,?_⟩
 .rcases A with A|⟨a,rfl,A⟩
  .exact .inl (Rep.mono (λb o e _=>J b o e) (λ_ _ z=>z) A)
  .exact .inr ⟨a,rfl,A.mono (λb o e _=>J b o e) (λ_ _ z=>z) λo e=>J a o e⟩
 .exact(B.done k) _ _ J Rep.mkBl
end
noncomputable def oE:List D->Option (List Bool)
 |[]=>Y []
 | .bl b::l=>(oE l).map (b:: ·)
 |_::_=>I
noncomputable def E5:D->Option (D×Bool)
 | .lst l=>(oE l).map λbs=>(.bl<|bs.all id,C)
 |_=>I
noncomputable def Kb:D->Option (D×Bool)
 | .lst l=>(oE l).map λbs=>(.bl<|bs.any id,C)
 |_=>I
theorem tH{K U}{O:AP'}: ∀{l:List D} {bs:List Bool} {e:List V} {d:jy},oE l=Y bs->RepL K U O l e->Vals e d->LSm.BoolsAre d bs
 |[],bs,e,d,h,r,v=>by
  cases h;rw[RepL] at r;subst r;cases v;exact .nil
 | .bl b::l,bs,e,d,h,r,v=>by
  obtain⟨f,h1,rfl⟩:=jk h;rw[RepL] at r;obtain⟨x,j,rfl,g,i⟩:=r;have:=g.bl;subst this
  cases v with
  |cons a c=>cases a;exact .cons b<|tH h1 i c
 | .non::l,_,_,_,h,_,_=>by cases h
 | .int _::l,_,_,_,h,_,_=>by cases h
 | .str _::l,_,_,_,h,_,_=>by cases h
 | .tup _::l,_,_,_,h,_,_=>by cases h
 | .lst _::l,_,_,_,h,_,_=>by cases h
 | .oth _ _ _::l,_,_,_,h,_,_=>by cases h
section
variable {X:Cx}
def wC{h a:iT}{o:e6}(hk: ∀b x,b∉[h.objs.size]->(h.push o).get? b=Y x->a.get? b=Y x)(b:iu)(x:e6)(e:h.get? b=Y x):a.get? b=Y x:=
 hk b x (λz=>by have:=AS.mp z;subst this;exact absurd (jN e)<|qj _) (jM _ e)
def BW(o:X.calm=Zx):kF X (.builtin "all") (rDn X.K<|g1 E5):=nE λj s M N x u Q O d z U y np hd h G=>by
 cases d with
 |lst l=>
  obtain⟨bs,n,rfl⟩:=jk h;obtain⟨p,J,rfl,q,r⟩:=kn hd;cases y;obtain⟨c,v,g,_⟩:=U.list q;have a:=tH n r v;have t:X.A.in1.handled=I:=U.ok.hd o;have k:p<s.heap.objs.size:=by obtain⟨_,e,_⟩:=g.isList;exact jN e
  refine call_all_walk (zy g.isList ⟨s.heap.objs.size,[s.heap.objs.size,p],[s.heap.objs.size],c.toArray.size,_,_,λi=>(bs[i]?).getD Zx,rfl,Walks.list t _ p (jF k) c.toArray,
   ⟨⟨_,kc _ rfl,rfl,rfl⟩,g.isList.push _⟩,λi w L C B m f=>?_,λE T hk=>?_⟩)
  .obtain⟨b,e,rfl⟩:=a.get i w (by simpa using m);dsimp only at f;rw[e] at f;exact vz f
  .rw[kj,a.length,LSm.range_all];exact⟨.bl _,N,U.kept<|wC hk,rfl,G.bl⟩
 |_=>cases h
def Ko(o:X.calm=Zx):kF X (.builtin "any") (rDn X.K<|g1 Kb):=nE λj s M N x u Q O d z U y np hd h G=>by
 cases d with
 |lst l=>
  obtain⟨bs,n,rfl⟩:=jk h;obtain⟨p,J,rfl,q,r⟩:=kn hd;cases y;obtain⟨c,v,g,_⟩:=U.list q;have a:=tH n r v;have t:X.A.in1.handled=I:=U.ok.hd o;have k:p<s.heap.objs.size:=by obtain⟨_,e,_⟩:=g.isList;exact jN e
  refine call_any_walk (zy g.isList ⟨s.heap.objs.size,[s.heap.objs.size,p],[s.heap.objs.size],c.toArray.size,_,_,λi=>(bs[i]?).getD Zy,rfl,Walks.list t _ p (jF k) c.toArray,
   ⟨⟨_,kc _ rfl,rfl,rfl⟩,g.isList.push _⟩,λi w L C B m f=>?_,λE T hk=>?_⟩)
  .obtain⟨b,e,rfl⟩:=a.get i w (by simpa using m);dsimp only at f;rw[e] at f;exact vz f
  .rw[kj,a.length,LSm.range_any];exact⟨.bl _,N,U.kept<|wC hk,rfl,G.bl⟩
 |_=>cases h
noncomputable def Ob:=gI λi j=>Y<|.int (if j>i then j else i)
noncomputable def Oa:=gI λi j=>Y<|.int (if j<i then j else i)
def Hw(c:X.calm=J):kF X (.builtin "max") (rDn X.K<|g2 Ob):=OS λa s k T x y h Q O d e z U r np h1 b g G=>by obtain⟨i,j,w,rfl,rfl,f,rfl⟩:=yW g;cases f;exact Kn c a s k T [x,y] h Q U r ⟨i,j,by rw[jr h1,jr b],G.int⟩
def Hv(c:X.calm=J):kF X (.builtin "min") (rDn X.K<|g2 Oa):=OS λa s k T x y h Q O d e z U r np h1 b g G=>by obtain⟨i,j,w,rfl,rfl,f,rfl⟩:=yW g;cases f;exact Km c a s k T [x,y] h Q U r ⟨i,j,by rw[jr h1,jr b],G.int⟩
def zV{lo:Int}{n:Nat}{a:mU}(h:mA (λi v=> ∃t,v= .int (lo+(i:Int)*1) t) a n):Vals ((aw n).map λ(k:Nat)=>V.int<|lo+k) a.toList:=by
 have b: ∀(l:jy) (m:Nat),(∀(j:Nat) v,l[j]?=Y v-> ∃t,v= .int (lo+((m+j:Nat):Int)) t)->Vals ((cF m<|ZB l).map λ(k:Nat)=>V.int<|lo+k) l:=by
  intro l
  induction l with
  |nil=>intro m _;exact .nil
  |cons v l f=>intro m hv;obtain⟨t,e⟩:=hv 0 v H;refine .cons ⟨t,by simpa using e⟩<|f (m+1) λj w d=>?_;obtain⟨g,c⟩:=hv (j+1) w (by simpa using d);exact⟨g,by rw[c];congr 2;first|done|lia⟩
 have:=b a.toList 0 λj v hv=>by obtain⟨t,e⟩:=h.2 j v (by simpa using hv);exact⟨t,by rw[e];congr 1⟩
 rw[kz,h.1,<-List.range_eq_range'] at this;exact this
def GN{K U}(lo:Int)(n:Nat):RepL K U O (jv lo n) ((aw n).map λ(k:Nat)=>V.int<|lo+k):=by
 unfold jv
 induction(aw n) with
 |nil=>exact RepL.nil
 |cons k l a=>exact RepL.cons Rep.mkInt a
end
def RgOk(lo a:Int):Prop:= -(2^62)<=lo/\lo<2^62/\ -(2^62)<=a/\a<2^62/\(a-lo).toNat<=2^24
instance(lo hi:Int):Decidable (RgOk lo hi):=by unfold RgOk;infer_instance
noncomputable def rgV(lo a:Int):List V:=(aw (a-lo).toNat).map λ(k:Nat)=>V.int<|lo+k
def RgOk.small{lo a:Int}(h:RgOk lo a):wT lo a 1=J:=small_one h.1 h.2.1 h.2.2.1 h.2.2.2.1
def HY(lo a:Int):fy lo a 1=((a-lo).toNat:Nat):=by rw[Ls];split<;>lia
section
variable {c:iX}{w:iR}{A:iU}{E:jn}{s:iC}
def Ht{Q:List iK->Shared->Prop}{r:iu}{lo n:Int}{t u v:wE}(T:A.handled=I)(x:UV s.heap r lo n 1 t u v)(ok:RgOk lo n)
  (B: ∀(g:iT) k (d:mU),(∀b o,s.heap.get? b=Y o->g.get? b=Y o)->mA (λi v=> ∃t,v= .int (lo+(i:Int)*1) t) d (n-lo).toNat->Q d.toList {s with heap:=g,toks:=k}):
  ag (ah c w) A (fV<|.ref r) Q E s:=by
 unfold fV;refine iz<|F9<|rq F.entry_proto_collect ?_;rw[uA F.plain_proto_collect _];refine iz (m:=lw [])<|nh ?_;refine iM ⟨qG F.plain_list_iadd _,rq F.entry_list_iadd ?_⟩;rw[uA F.plain_list_iadd _];have z:=kc s.heap (o:=({cls:= .type "list",data:= .seq ([]:List iK).toArray}:e6)) H
 let R:ms->Shared->Prop:=λr j=> ∃(g:iT) (k:Nat) (d:mU) (l:Nat),r= .ok (.ret<|.ref s.heap.objs.size)/\j={s with heap:=g,toks:=k}/\(∀b o,s.heap.get? b=Y o->g.get? b=Y o)/\
  g.get? s.heap.objs.size=Y {cls:= .type "list",dict:=I,data:= .seq d l,slots:= #[]}/\mA (λi v=> ∃t,v= .int (lo+(i:Int)*1) t) d (n-lo).toNat
 have fin: ∀{r j},R r j-> ∃v,r= .ok (.ret v)/\ag (ah c w) A (match v with
   |Value.ref a=>do
    match(<-load a).data with
     |Data.seq xs _=>pure xs.toList
     |_=>o8 "internal:collect"
   |_=>o8 "internal:collect") Q E j:=λ{r j} O=>by
  obtain⟨g,k,d,l,rfl,rfl,hk,p,y⟩:=O;exact⟨_,rfl,iz (m:=load s.heap.objs.size)<|xG p<|iM<|B g k d hk y⟩
 refine ou (wpAny_extend_range (A:=A) (R:=R) (s:={s with heap:=s.heap.push {cls:= .type "list",data:= .seq ([]:List iK).toArray}}) T (jM _ x) ok.small (HY lo n) ok.2.2.2.2 _ _ 0 z λg k U l hk p y=>⟨g,k,U,l,rfl,rfl,λb o e=>hk b o (jF<|jN e)<|jM _ e,p,y⟩) (λf j h=>?_) λe j h=>?_
 .cases f with
  |done f=>obtain⟨v,hv,q⟩:=fin h;cases hv;exact q
  |again l=>exact⟨h.1,uG h.2 λr L x=>by obtain⟨v,rfl,q⟩:=fin x;exact q⟩
 .obtain⟨v,hv,_⟩:=fin h;cases hv
def CZ{Q₁:jn}{r:iu}{lo g:Int}{t u v:wE}(p:A.handled=I)(l:UV s.heap r lo g 1 t u v)(ok:RgOk lo g)
  (h: ∀(d:iT) k (a:mU),(∀b o,s.heap.get? b=Y o->d.get? b=Y o)->mA (λi v=> ∃t,v= .int (lo+(i:Int)*1) t) a (g-lo).toNat->Q₁ (.ref d.objs.size) {s with heap:=d.push {cls:= .type "tuple",data:= .seq a},toks:=k}):
  cU (ah c w) A (.call (.builtin "tuple.__new__") ⟨[.type "tuple",.ref r],[]⟩) (wants Q₁ E) s:=by
 refine zt ?_;refine iz (m:=gi "tuple.__new__" _)<|rB (F.newCall_tuple_1 _)<|iM ⟨qG F.plain_tuple_new _,rq F.entry_tuple_new ?_⟩;rw[uA F.plain_tuple_new _];have z:=sub_tuple_self;have j:=init_tuple_lookup;have q:=madeHere_tuple;have y:s.TypeIs (.ref r) "range":=⟨_,l,rfl⟩
 have f:A.in1.handled=I:=p
 wp_walk using sh y,Ht f l ok
 intro d k a hk n;have x:a.size<=sizeLine:=by rw[n.1,jH];have:=ok.2.2.2.2;omega
 refine iz (m:=bn a.toList.toArray) ?_;unfold bn;refine nh ?_ (by show a.toList.toArray.size<=sizeLine;simpa using x);refine iM ?_;have e:a.toList.toArray=a:=by simp
 rw[e];exact h d k a hk n
def Be{Q:jn}{r:iu}{lo g:Int}{t u v:wE}(k:A.handled=I)(m:UV s.heap r lo g 1 t u v)(ok:RgOk lo g)
  (h: ∀(f:iT) j (e:mU),(∀b o,s.heap.get? b=Y o->f.get? b=Y o)->mA (λi v=> ∃t,v= .int (lo+(i:Int)*1) t) e (g-lo).toNat->Q (.ref f.objs.size) {s with heap:=f.push {cls:= .type "tuple",data:= .seq e},toks:=j}):
  ag (ah c w) A (call (.type "tuple") [.ref r]) Q E s:=by
 refine IN (Q₁:=λobj a=>a.TypeIs obj "tuple"/\Q obj a) Pl (F.typeCall_tuple_1 _) F.entry_object_init
  (CZ k m ok λf j e l n=>⟨⟨_,kc _ rfl,rfl⟩,h f j e l n⟩) λobj a d=>?_
 exact⟨d.1,Lf obj _,object_init_meets Pl.init.lookup Pl.made (by decide) c w A.in1 _ a ⟨d.1,rfl,d.2⟩⟩
end
section
variable {X:Cx}
def BR:kF X (.type "range") (λc T Q=> ∃i j,c=[.int i,.int j]/\ ∀r,T r=I->Q (.ref r) (upd T r<|.rng i j)):=by intro a s k T c g Q U r h;obtain⟨i,j,rfl,h⟩:=h;obtain⟨u,f,rfl,⟨t,rfl⟩,⟨d,rfl⟩⟩:=vX r;exact Uf ⟨.ref _,_,U.laid (o:= .rng i j) (λb o e=>jM _ e) (jQ _) ⟨_,_,_,kc _ rfl⟩,rfl,h _ U.fresh⟩
def Bf(j:X.calm=J):kF X (.type "list") (λg T Q=> ∃r lo b,g=[.ref r]/\T r=Y (.rng lo b)/\RgOk lo b/\ ∀l,T l=I->Q (.ref l) (upd T l<|.lst<|rgV lo b)):=by intro f s y T g x Q U i h;obtain⟨r,lo,b,rfl,k,ok,h⟩:=h;obtain⟨u,rfl,n⟩:=rF i;cases n;obtain⟨t,u,v,er⟩:=U.hok r _ k;refine call_list_range (A:=X.A) (U.ok.hd j) er ok.small (HY lo b) ok.2.2.2.2 λp q d c m e a=>?_;have o:=zV a;refine⟨.ref _,_,U.laid m (jQ _) (show ObjOk X.prog X.w _ _ _ (.lst<|rgV lo b) from⟨?_,d.toList,c,o,by simpa using e⟩),rfl,h _ U.fresh⟩;have:=ok.2.2.2.2;simp only[rgV,kh,na,jH];omega
def AJ(m:X.calm=J):kF X (.type "tuple") (λj T Q=> ∃r lo d,j=[.ref r]/\T r=Y (.rng lo d)/\RgOk lo d/\ ∀l,T l=I->Q (.ref l) (upd T l<|.tup<|rgV lo d)):=by intro f s z T j B Q U k h;obtain⟨r,lo,d,rfl,n,ok,h⟩:=h;obtain⟨u,rfl,q⟩:=rF k;cases q;obtain⟨t,u,v,er⟩:=U.hok r _ n;refine Be (A:=X.A) (U.ok.hd m) er ok λi y c p a=>?_;have x:=zV a;have g:Inv X f z T {s with heap:=i,toks:=y}:=U.kept p;refine⟨.ref _,_,g.laid (λb o e=>jM _ e) (jQ _) (show ObjOk X.prog X.w _ _ _ (.tup<|rgV lo d) from⟨?_,c.toList,x,by have:=CM i c;simpa using this⟩),rfl,h _ g.fresh⟩;have:=ok.2.2.2.2;simp only[rgV,kh,na,jH];omega
noncomputable def gRg(mk:List D->D)(o:Bool):List D->Option (D×Bool)
 |[.int j]=>if RgOk 0 j then Y (mk<|jv 0 j.toNat,o) else I
 |[.int i,.int j]=>if RgOk i j then Y (mk<|jv i (j-i).toNat,o) else I
 |_=>I
def HZ{K U}(lo a:Int):RepL K U O (jv lo (a-lo).toNat) (rgV lo a):=GN lo _
variable {a b:iI}{n m:FO}{p g d f:bI}
def Eg(h:upd U r o l=I):U l=I:=by
 by_cases e:l=r
 .subst e;rw[ja] at h;cases h
 .rwa [jb e] at h
def B9{K:iW}{T q:AP'}{s:L2.St}{r c:Dn}{U o:Hp}{os:List Opd}{l:List V}{e:List D}(B:Ops K T s r U os l c o q)(h:uv c os=Y e){is:iO}(hd:e=is.map .int):l=is.map .int:=by
 obtain⟨h1,t⟩:=oY h;apply zm;intro j;by_cases k:j<ZB is
 .rw[tQ B h (j:=j) (i:=is[j])<|by rw[hd];simp[k]];simp[k]
 .have u:=B.len;subst hd;simp at h1;rw[gX<|by lia,gX<|by simp;lia]
def TY{T:String}{z:ax}{mk:List D->D}{o:Bool}(hT:(T="list"/\mk= .lst/\o=Zx)\/(T="tuple"/\mk= .tup/\o=Zy))(U:X.calm=Zx)(Y:Gl X z)(hm:X.mg z=Zw)(hv:ay z=Zv (.type T))(hn:z≠"__name__")(i8:(z==("__debug__":ax))=Zy)
  (J:Gl X "range")(O:X.mg "range"=Zw)(N:PA X [a,b] (tA X.K [n,m]))
  (s1:ac [.Call (.Name "range" g) [a,b] [] f] X.env=(Zy,aE (.Call (.Name "range" g) [a,b] [] f) X.env)::ac [] X.env)(s2:ac [a,b] X.env=(Zy,aE a X.env)::ac [b] X.env)
  (M:(aP d<|ac [] X.env).any (·.1)=Zy)(G:(aP f<|ac [b] X.env).any (·.1)=Zy):
  PX X (.Call (.Name z p) [.Call (.Name "range" g) [a,b] [] f] [] d) (jh (gRg mk o) [n,m]):=by
 have t: ∀{w c:Dn} {os:List Opd},ki [n,m] w=Zv (os,c)->os.length=2:=λ{w c os} h1=>by unfold ki at h1;obtain⟨p,q1,h1⟩:=ir h1;obtain⟨q,v,h1⟩:=ir h1;unfold ki at v;obtain⟨p3,q3,v⟩:=ir v;obtain⟨q4,F,v⟩:=ir v;unfold ki at F;cases F;obtain⟨rfl,rfl⟩:=jd h1;cases v;rfl
 rcases hT with⟨rfl,rfl,rfl⟩|⟨rfl,rfl,rfl⟩
 .refine PX.imp (qt (Bf U) Y hm hv (lu (qt BR J O CS N (by decide) (by decide) s2 G) oh s1) hn i8 s1 M) λZ H Q C=>?_;obtain⟨w,T,S,L,E,e,k⟩:=C;obtain⟨⟨os,c⟩,h1,e⟩:=ir e;obtain⟨R,y,e⟩:=ir e;obtain⟨W,h,e⟩:=ir e;obtain⟨rfl,rfl⟩:=jd e;refine⟨w,T,os,c,E,h1,λV x P B=>?_⟩;unfold gRg at h;split at h
  .obtain⟨s,_⟩:=oY y;have:=t h1;simp at s;omega
  .rename_i i j;obtain⟨ok,rfl⟩:=iY h;refine⟨i,j,B9 B y (is:=[i,j]) Zz,λr A=>⟨r,i,j,rfl,ja,ok,λl s=>?_⟩⟩;have I: ∀a u,x a=Zv u->upd (upd x r<|.rng i j) l (.lst<|rgV i j) a=Zv u:=λa u e=>lr s a u<|lr A a u e;exact(B.done k) l _ (Eg s) I ⟨rgV i j,ja,HZ i j⟩
  .cases h
 .refine PX.imp (qt (AJ U) Y hm hv (lu (qt BR J O CS N (by decide) (by decide) s2 G) oh s1) hn i8 s1 M) λZ H Q C=>?_;obtain⟨w,T,S,L,E,e,k⟩:=C;obtain⟨⟨os,c⟩,h1,e⟩:=ir e;obtain⟨R,y,e⟩:=ir e;obtain⟨W,h,e⟩:=ir e;obtain⟨rfl,rfl⟩:=jd e;refine⟨w,T,os,c,E,h1,λV x P B=>?_⟩;unfold gRg at h;split at h
  .obtain⟨s,_⟩:=oY y;have:=t h1;simp at s;omega
  .rename_i i j;obtain⟨ok,rfl⟩:=iY h;refine⟨i,j,B9 B y (is:=[i,j]) Zz,λr A=>⟨r,i,j,rfl,ja,ok,λl s=>?_⟩⟩;have I: ∀a u,x a=Zv u->upd (upd x r<|.rng i j) l (.tup<|rgV i j) a=Zv u:=λa u e=>lr s a u<|lr A a u e;exact(B.done k) _ _ I (Rep.mkTup ⟨ja,B.np<|nOw<|Eg s⟩<|HZ i j)
  .cases h
end
def Src(h:iT)(a l:iu)(i:Nat)(b:mU):Prop:=(h.IsListIter a l i/\h.IsList l b)\/(h.IsTupleIter a l i/\h.IsTuple l b)
section
variable {prog:iX}{w:iR}{A:iU}{E:jn}{s:iC}{it l:iu}{i:Nat}{c:mU}
def Src.ne(x:Src h it l i c):l≠it:=by intro e;subst e;rcases x with⟨⟨o,h1,b,a⟩,d,g1,g2,n,g3⟩|⟨⟨o,h1,b,a⟩,d,g1,g2,n,g3⟩<;>(rw[h1] at g1;cases g1;rw[a] at g3;cases g3)
def Src.lt(x:Src h it l i c):it<h.objs.size/\l<h.objs.size:=by rcases x with⟨⟨o,h1,_⟩,a,g1,_⟩|⟨⟨o,h1,_⟩,a,g1,_⟩<;>exact⟨jN h1,jN g1⟩
def Src.keep(x:Src h it l i c)(d: ∀o,h.get? it=Y o->h'.get? it=Y o)(e: ∀o,h.get? l=Y o->h'.get? l=Y o):Src h' it l i c:=by
 rcases x with⟨⟨o,h1,r⟩,a,g1,b⟩|⟨⟨o,h1,r⟩,a,g1,b⟩
 .exact .inl ⟨⟨o,d _ h1,r⟩,a,e _ g1,b⟩
 .exact .inr ⟨⟨o,d _ h1,r⟩,a,e _ g1,b⟩
def Bn{Q:jn}(d:s.heap.IsTupleIter it l i)(r:s.heap.IsTuple l c)(p: ∀x,c[i]?=Y x-> ∀b,b.IsTupleIter it l (i+1)->aI it s.heap b->Q x {s with heap:=b})
  (h:c[i]?=I->A.handled=I/\ ∀b e,eJ it s.heap b->(∃o,b.get? e=Y o/\o.cls= .type "StopIteration")->E (.ref e) {s with heap:=b}):ag (ah prog w) A (aR<|.ref it) Q E s:=by
 obtain⟨o,f,q,hd⟩:=id d;obtain⟨u,n,_,t,k⟩:=r;unfold aR;refine iz<|uF (name:=bi "__next__") d.typeIs Le<|nO Le d.typeIs F.entry_tuple_iterator_next ?_<|F.args_tuple_iterator_next_1 _;refine iz (m:=j1 (.ref it) 0)<|oK f hd (x:= .ref l) H ?_;show ag _ _ (if(bg l==au)=J then _ else _) _ _ s;rw[jc (by show ¬(bg l==au)=J;exact ku)];refine iz (m:=j1 (.ref it) 1)<|oK f hd (x:= .int i 0) H ?_;refine iz (m:=seqItems?<|.ref l)<|qF n k ?_
 cases g:c[i]? with
 |some x=>simp only[si,g];refine iz<|vf f hd (by simp)<|iM ⟨x,rfl,iM<|p x g _ ⟨_,uD _ f (CD<|uz hd _),(CC ..).trans q,?_⟩ (rp ..)⟩;rw[uz hd];simp[cZ]
 |none=>
  obtain⟨j,h⟩:=h g;simp only[si,g];refine iz<|sf<|iz<|vf f hd (by simp) ?_;refine iz (m:=l4 (.type "StopIteration") []) ?_;simp -iota only[l4,pp];refine iz<|nh (iz (m:=dg _ _)<|rB (a:=au) (by first|rfl|(simp -iota only[dg];rfl)) ?_) (by size_fits);refine nh ?_ (by size_fits);simp -iota only[F2];refine iz<|F8 ?_
  first|rw[show A.in1.handled=I from j]|rw[j]
  exact iz<|iM<|F7<|h _ _ (((rp ..).extBut.push _).push _) ⟨_,kc _ rfl,rfl⟩
def Src.item{x:iK}{Q:jn}(st:Src s.heap it l i c)(h:c[i]?=Y x)(j: ∀d,Src d it l (i+1) c->aI it s.heap d->Q x {s with heap:=d}):
  ag (ah prog w) A (aR<|.ref it) Q E s:=by
 have ne:=st.ne;rcases st with⟨a,b⟩|⟨a,b⟩
 .exact wpAny_nextOf_list_item a b h λd g f=>j d (.inl ⟨g,b.extBut f.extBut ne⟩) f
 .exact Bn a b (λk e d g f=>by rw[h] at e;cases e;exact j d (.inr ⟨g,b.extBut f.extBut ne⟩) f) λe=>by rw[h] at e;cases e
def Src.stop{Q:jn}(g:A.handled=I)(st:Src s.heap it l i c)(h:c[i]?=I)
  (f: ∀d e,eJ it s.heap d->(∃o,d.get? e=Y o/\o.cls= .type "StopIteration")->E (.ref e) {s with heap:=d}):ag (ah prog w) A (aR<|.ref it) Q E s:=by
 rcases st with⟨a,b⟩|⟨a,b⟩
 .exact wpAny_nextOf_list_end g a b h f
 .exact Bn a b (λx e=>by rw[h] at e;cases e) λ_=>⟨g,f⟩
def Src.new(a:s.heap.IsList l c\/s.heap.IsTuple l c)(f: ∀d,Src d s.heap.objs.size l 0 c->d.objs.size=s.heap.objs.size+1->(∀b o,s.heap.get? b=Y o->d.get? b=Y o)->Q (.ref s.heap.objs.size) {s with heap:=d}):
  ag (ah prog w) A (en<|.ref l) Q E s:=by
 rcases a with a|a
 .exact zy a (f _ (.inl ⟨⟨_,kc _ rfl,rfl,rfl⟩,a.push _⟩) (rC ..) λb o e=>jM _ e)
 .exact tc a (f _ (.inr ⟨⟨_,kc _ rfl,rfl,rfl⟩,a.push _⟩) (rC ..) λb o e=>jM _ e)
end
section
variable {h:iX}{w:iR}{A:iU}{E:jn}{s:iC}{e f l:iu}{i:Nat}{c:Int}{j:mU}
def Ki{x z:iK}{Q:jn}(he:eR s.heap e f c z)(st:Src s.heap f l i j)(hx:j[i]?=Zv x)(i5:e≠f)(dO:e≠l)
  (hQ: ∀T,ka T e f (c+1) x s.heap.objs.size->Src T f l (i+1) j->T.get? s.heap.objs.size=Zv {cls:= .type "tuple",data:= .seq #[.int c s.toks,x]}->T.objs.size=s.heap.objs.size+1->
   (∀b o,b≠e->b≠f->s.heap.get? b=Zv o->T.get? b=Zv o)->Q (.ref s.heap.objs.size) {s with heap:=T,toks:=s.toks+1}):
  ag (ah h w) A (bc.«enumerate.__next__» ⟨[.ref e],[]⟩) (λfin s'=> ∃v,fin= .done (.ret v)/\Q v s') E s:=by
 obtain⟨I,g,d,n,os⟩:=s;refine iz (m:=j1 (.ref e) 2)<|oK he Zz (x:= .ref f) Zz<|iz<|st.item hx λk O M=>?_;replace M:aI f I k:=M;have W:eR k e f c z:=(M.2 e i5).trans he;refine iz (m:=j1 (.ref e) 3)<|oK (s:=⟨k,g,d,n,os⟩) W Zz (x:=cZ c) Zz ?_;refine iz (m:=j1 (.ref e) 4)<|oK (s:=⟨k,g,d,n,os⟩) W Zz (x:= .none) Zz ?_;refine iz (m:=mkInt c)<|wpAny_mkInt (s:=⟨k,g,d,n,os⟩) ?_;refine iz (m:=pc (.ref e) 3<|cZ<|c+1)<|uy (s:=⟨k,g,d,n+1,os⟩) W (by simp) λr V J=>?_;replace J:aI e k r:=J;replace V:eR r e f (c+1) z:=V;refine iz (m:=pc (.ref e) 4 .none)<|uy (s:=⟨r,g,d,n+1,os⟩) V (by simp) λa S G=>?_;replace G:aI e r a:=G;replace S:eR a e f (c+1) z:=S;refine iz (m:=pp [.int c n,x])<|CB (s:=⟨a,g,d,n+1,os⟩) ?_;have L:a.objs.size=I.objs.size:=by rw[G.1,J.1,M.1]
 have Y:eR (a.push {cls:= .type "tuple",data:= .seq #[.int c n,x]}) e f (c+1) z:=jM _ S;have X:e<I.objs.size:=jN he;have B:(a.push {cls:= .type "tuple",data:= .seq #[.int c n,x]}).get? I.objs.size=Zv {cls:= .type "tuple",data:= .seq #[.int c n,x]}:=by rw[<-L];exact kc _ rfl
 have up: ∀b o,b≠e->b≠f->I.get? b=Zv o->(a.push {cls:= .type "tuple",data:= .seq #[.int c n,x]}).get? b=Zv o:=λb o H F q=>jM _ (G.extBut b o H<|J.extBut b o H<|M.extBut b o F q);have C:Src (a.push {cls:= .type "tuple",data:= .seq #[.int c n,x]}) f l (i+1) j:=O.keep (λo q=>jM _ (G.extBut _ o i5.symm (J.extBut _ o i5.symm q))) λo q=>jM _ (G.extBut _ o dO.symm (J.extBut _ o dO.symm q));have Z:(a.push {cls:= .type "tuple",data:= .seq #[.int c n,x]}).objs.size=I.objs.size+1:=by rw[rC,L]
 rw[L];generalize (a.push {cls:= .type "tuple",data:= .seq #[.int c n,x]})=p at Y B up C Z;refine iz (m:=bv<|.ref e) ?_;unfold bv;refine iz<|oK (s:=⟨p,g,d,n+1,os⟩) Y Zz (x:= .none) Zz<|iM ?_;simp -iota only[kG];refine iz<|sf<|iz<|oK (s:=⟨p,g,d,n+1,os⟩) Y Zz (x:=z) Zz<|iz<|uy (s:=⟨p,g,d,n+1,os⟩) Y (by simp) λt R D=>?_;replace D:aI e p t:=D;replace R:eR t e f (c+1) x:=R;refine iz (m:=bq (.ref e)<|.ref I.objs.size) ?_;unfold bq;refine iz<|uy (s:=⟨t,g,d,n+1,os⟩) R (by simp) λu P U=>?_;replace U:aI e t u:=U;replace P:ka u e f (c+1) x I.objs.size:=P;refine uy (s:=⟨u,g,d,n+1,os⟩) P (by simp) λy K N=>?_;replace N:aI e u y:=N;replace K:ka y e f (c+1) x I.objs.size:=K;have all: ∀b o,b≠e->p.get? b=Zv o->y.get? b=Zv o:=λb o H q=>N.extBut b o H<|U.extBut b o H<|D.extBut b o H q;refine iz<|Cz<|iM ⟨_,rfl,hQ y K (C.keep (λo q=>all _ o i5.symm q) λo q=>all _ o dO.symm q) (all _ _ (ot X) B) ?_ λb o H F q=>all b o H<|up b o H F q⟩;rw[N.1,U.1,D.1,Z]
def xR{x m:iK}{Q:Bi}(p:eR s.heap e f c m)(st:Src s.heap f l i j)(t:j[i]?=Y x)(u:e≠f)(q:e≠l)
  (r: ∀g,ka g e f (c+1) x s.heap.objs.size->Src g f l (i+1) j->g.get? s.heap.objs.size=Y {cls:= .type "tuple",data:= .seq #[.int c s.toks,x]}->g.objs.size=s.heap.objs.size+1->
   (∀b o,b≠e->b≠f->s.heap.get? b=Y o->g.get? b=Y o)->Q (Y<|.ref s.heap.objs.size) {s with heap:=g,toks:=s.toks+1}):
  ag (ah h w) A (cM<|.ref e) Q E s:=by
 have n:s.TypeIs (.ref e) "enumerate":=⟨_,p,rfl⟩
 unfold cM
 exact iz (sd (uF (name:=bi "__next__") n Cy (nO Cy n Ld
  (Ki p st t u q λg a b c d k=>iM<|r g a b c d k) (Lc _))))
def yG{d:iK}{Q:Bi}(q:A.handled=I)(k:eR s.heap e f c d)(st:Src s.heap f l i j)(t:j[i]?=I)
  (n: ∀a,eJ f s.heap a->Q I {s with heap:=a}):ag (ah h w) A (cM<|.ref e) Q E s:=by
 have g:s.TypeIs (.ref e) "enumerate":=⟨_,k,rfl⟩
 unfold cM;refine iz<|sd<|uF (name:=bi "__next__") g Cy<|nO Cy g Ld ?_<|Lc _;refine iz (m:=j1 (.ref e) 2)<|oK k H (x:= .ref f) H<|iz<|st.stop q t λa x u U=>?_;obtain⟨o,r,p⟩:=U;exact iz<|vd (T:="StopIteration") (b:=J) ⟨o,r,p⟩ Cw<|iM<|n _ u
end
section
variable {X:Cx}{d:jq}{g:L2.St}{H:Hp}{s:iC}{f:iT}
def Bl{t':Nat}{ch:kI}{a:iu}{o:HO}(U:Inv X d g H s)(j: ∀b∈ch,tJ X d H b)(k: ∀b u,b∉ch->s.heap.get? b=Y u->f.get? b=Y u)(p:s.heap.objs.size<=a)(new:ObjOk X.prog X.w (upd H a o) f a o):
  Inv X d g (upd H a o) {s with heap:=f,toks:=t'}:=by
 have E:=U.hok.fresh p;have l: ∀b u,H b=Y u->b∉ch:=λb u e z=>by have:=(j b z).1;rw[this] at e;cases e
 have up: ∀b u,H b=Y u->upd H a o b=Y u:=λb u e=>by rw[jb<|kP e E];exact e
 have fr: ∀b u,s.heap.get? b=Y u->H b=I->upd H a o b=I:=λb u e n=>by rw[jb λz=>by subst z;exact absurd (jN e)<|Ph.mpr p];exact n
 refine U.step (g':=s.gens) (d':=s.drawn) (ch:=ch) (λb i=>?_) (λb u _ _ h e _=>k b u h e) (λb u _ _ h e _=>⟨u.slots,k b u h e⟩) (λb u _ e n=>fr b u e n)
  (λb u h e=>⟨u,k b u h e⟩) (λb O e=>up b _ e) (λb _ _ e=>up b _ e) (λb Q e=>⟨#[],by rw[up b _ e];simp⟩) (λm T=>?_) (λb u e=>?_) U.bare
 .obtain⟨_,f1,f2,y,A,B⟩:=j b i;exact⟨y,f1,A,B⟩
 .obtain⟨u,x,t,L,r⟩:=T;exact⟨u,x,t,k _ u (λz=>(j _ z).2.1 Zz) L,r⟩
 .by_cases i:b=a
  .subst i;rw[ja] at e;cases e;exact new
  .rw[jb i] at e;refine(U.hok b u e).stay (λc v h q=>k c v ?_ q) (λc q=>up c _ q) (λc O q=>up c _ q) λc _ _ q=>up c _ q;rcases h with z|z
   .rw[z];exact l b u e
   .exact l c _ z
def Bm{t':Nat}{ch:kI}(U:Inv X d g H s)(h: ∀b∈ch,tJ X d H b)(k: ∀b u,b∉ch->s.heap.get? b=Y u->f.get? b=Y u):Inv X d g H {s with heap:=f,toks:=t'}:=by
 have i: ∀b u,H b=Y u->b∉ch:=λb u e z=>by have:=(h b z).1;rw[this] at e;cases e
 refine U.step (g':=s.gens) (d':=s.drawn) (ch:=ch) (λb w=>?_) (λb u _ _ a e _=>k b u a e) (λb u _ _ a e _=>⟨u.slots,k b u a e⟩) (λb u _ e n=>n)
  (λb u a e=>⟨u,k b u a e⟩) (λb A e=>e) (λb _ _ e=>e) (λb B e=>⟨#[],by rw[e];simp⟩) (λm x=>?_) (λb u e=>?_) U.bare
 .obtain⟨_,f1,f2,o,p,t⟩:=h b w;exact⟨o,f1,p,t⟩
 .obtain⟨u,l,j,y,r⟩:=x;exact⟨u,l,j,k _ u (λz=>(h _ z).2.1 Zz) y,r⟩
 .refine(U.hok b u e).stay (λc v a q=>k c v ?_ q) (λc q=>q) λc A q=>q;rcases a with z|z
  .rw[z];exact i b u e
  .exact i c _ z
end
def SqX(b:Bool)(K:iW)(U:Hp)(l:iu)(a:List V):Prop:=if b=J then SqL K U l a else SqT K U l a
def ItX(b:Bool)(h:iT)(a l:iu)(i:Nat):Prop:=if b=J then h.IsListIter a l i else h.IsTupleIter a l i
def ItX.keep(x:ItX b h it l i)(k: ∀o,h.get? it=Y o->h'.get? it=Y o):ItX b h' it l i:=by
 cases b
 .exact PySem.Heap.IsTupleIter.at (show h.IsTupleIter it l i from x) k
 .exact PySem.Heap.IsListIter.at (show h.IsListIter it l i from x) k
def ItX.obj(x:ItX b h it l i): ∃o,h.get? it=Y o/\ ∀v,o.data≠ .cell v:=by
 cases b<;>(obtain⟨o,e,c,d⟩:=x;exact⟨o,e,λv z=>by rw[d] at z;cases z⟩)
section
variable {X:Cx}{d:jq}{e:L2.St}{H:Hp}{s:iC}
def tY(U:Inv X d e H s)(q:SqX b X.K H l xs)(t:ItX b s.heap it l i): ∃a,Vals xs a/\Src s.heap it l i a.toArray:=by
 cases b with
 |true=>obtain⟨a,v,p,_⟩:=U.list q;exact⟨a,v,.inl ⟨t,p.isList⟩⟩
 |false=>obtain⟨a,v,p,_⟩:=U.tuple q;exact⟨a,v,.inr ⟨t,p⟩⟩
def C3(U:Inv X d e H s)(q:SqX b X.K H l xs)(a:SqX b X.K H l c):xs=c:=by
 cases b with
 |true=>exact U.list_inj q a
 |false=>exact U.tuple_inj q a
def Ha(t:ItX b h it l i)(m:Src h it l i xs)(j:Src k it l p xs)(n: ∀o,h.get? l=Y o->k.get? l=Y o):ItX b k it l p:=by
 cases b with
 |true=>
  rcases j with⟨a,_⟩|⟨a,c⟩
  .exact a
  .rcases m with⟨_,o,h1,f,_⟩|⟨⟨o,h1,f,_⟩,_⟩
   .obtain⟨g,g1,g2,_⟩:=c;rw[n _ h1] at g1;cases g1;rw[f] at g2;injection g2 with g2;exact absurd g2 (by decide)
   .obtain⟨g,g1,g2,_⟩:=t;rw[h1] at g1;cases g1;rw[f] at g2;injection g2 with g2;exact absurd g2 (by decide)
 |false=>
  rcases j with⟨a,c⟩|⟨a,_⟩
  .rcases m with⟨⟨o,h1,f,_⟩,_⟩|⟨_,o,h1,f,_⟩
   .obtain⟨g,g1,g2,_⟩:=t;rw[h1] at g1;cases g1;rw[f] at g2;injection g2 with g2;exact absurd g2 (by decide)
   .obtain⟨g,g1,g2,_⟩:=c;rw[n _ h1] at g1;cases g1;rw[f] at g2;injection g2 with g2;exact absurd g2 (by decide)
  .exact a
end
noncomputable def ItE(b:Bool)(K:iW)(l:iu)(c:Int):It:=⟨λi U=> ∃a x,SqX b K U l a/\a[i]?=Y x,
 λi U x d=> ∃(T:iu) (y:V),x= .ref T/\U T=I/\d=upd U T (.tup [.int<|c+i,y])/\ ∀a,SqX b K U l a->a[i]?=Y y,λi U=> ∃a,SqX b K U l a/\(ZB a)<=i⟩
def Jt{P:iX}{w:iR}{K:iW}{p:kr}{k1}{pos:bI}(b:Bool)(e j l:iu)(c:Int)(i5:e≠j):
  Turn P w K (.Tuple p k1 pos) (ItE b K l c) [e,j] e (λi h=>(∃d,eR h e j (c+i) d)/\ItX b h j l i) where
 mem:=by simp
 obj:=λi h st a L=>by
  obtain⟨⟨d,g⟩,st⟩:=st;have l7:a=e\/a=j:=by simpa using L
  rcases l7 with rfl|rfl
  .exact⟨_,g,λv z=>by have z':hX _=fL v:=z;cases z'⟩
  .exact st.obj
 keep:=λi h h' st k=>by obtain⟨⟨d,g⟩,st⟩:=st;exact⟨⟨d,k e (by simp) _ g⟩,st.keep λo q=>k j (by simp) o q⟩
 item:=by
  intro X M U J S i m s σ H E I y st N;subst M U J;obtain⟨⟨d,g⟩,st⟩:=st;obtain⟨xs,x,O,Y⟩:=N;obtain⟨D,F,f⟩:=tY I O st;obtain⟨u,hu,ru⟩:=F.get Y
  have G:e≠l:=λz=>by subst z;have V:=(y e<|by simp).1;rcases f with⟨_,o,h1,C',_⟩|⟨_,o,h1,C',_⟩<;>(have Z:s.heap.get? e=_:=g;rw[h1] at Z;cases Z;injection C' with C';exact absurd C'<|by decide)
  refine xR g f (x:=u) (by simpa using hu) i5 G λh' ho A hT hsz kp=>⟨.ref s.heap.objs.size,rfl,?_⟩
  refine wpAny_letOwnedTupleGo_enum ho λn r T=>?_;have t:e<s.heap.objs.size:=jN g
  have R: ∀a o,a∉[e,j]->s.heap.get? a=Zv o->n.get? a=Zv o:=λa o Q q=>by have W:a≠e:=λz=>Q (by simp[z]);have n2:a≠j:=λz=>Q (by simp[z]);exact T.extBut a o W<|kp a o W n2 q
  have cR:n.get? s.heap.objs.size=Zv {cls:= .type "tuple",data:= .seq #[.int (c+i) s.toks,u]}:=T.extBut _ _ (ot t) hT
  have I1:Inv X m σ (upd H s.heap.objs.size<|.tup [.int<|c+i,x]) {s with heap:=n,toks:=s.toks+1}:=
   Bl I y R (jQ _) (show ObjOk X.prog X.w _ _ _ (.tup [.int<|c+i,x]) from⟨by show 2<=sizeLine;decide,[.int (c+i) s.toks,u],.cons ⟨_,rfl⟩<|.cons ru .nil,_,cR,rfl,0,rfl⟩)
  have B:ItX b n j l (i+1):=by refine Ha st f (A.keep (λo q=>T.extBut _ o i5.symm q) λo q=>T.extBut _ o G.symm q) λo q=>R l o ?_ q;have:=f.ne;simp only[kT,my,nM,qe];exact⟨G.symm,this⟩
  refine⟨.ref s.heap.objs.size,_,I1,rfl,⟨_,x,rfl,I.fresh,rfl,λys hy=>by rw[C3 I hy O];exact Y⟩,⟨⟨u,?_⟩,B⟩,λa L=>?_⟩
  .have e1:c+((i+1:Nat):Int)=c+i+1:=by lia
   show eR n e j (c+((i+1:Nat):Int)) u;rw[e1];exact r
  .have V:=(y a L).1;rw[jb]
   .exact V
   .intro z;have k9:a=e\/a=j:=by simpa using L
    rcases k9 with rfl|rfl
    .exact absurd z (jF t)
    .exact absurd z (jF f.lt.1)
 done:=by intro X M U J S i m s σ H E I y st N;subst M U J;obtain⟨⟨d,g⟩,st⟩:=st;obtain⟨xs,O,Y⟩:=N;obtain⟨D,F,f⟩:=tY I O st;have hl:=F.length;exact yG (I.ok.hd S) g f (by simp;lia) λh' eb=>⟨rfl,Bm (t':=s.toks) I y λa o Q q=>eb a o (λz=>Q<|by simp[z]) q⟩
 self:=λ_ _ _ _ _ st h=>by obtain⟨⟨d,g⟩,_⟩:=st;exact u6 g h
def zP{K U}(q:SqA b K U P a xs):SqX b K U a xs:=by
 cases b with
 |true=>exact q.l
 |false=>exact q.t
def J5{K:iW}{P O:AP'}{h:Hp}{a:iu}{g:List V}{l:List D}{b:Bool}{c:Int}(q:SqA b K h P a g)(r:RepL K h O l g)(A: ∀a,P a->O a):
  ItOk K (ItE b K a c) (l.zipIdx.map λp=> .tup [.int<|c+p.2,p.1]) P O h:=by
 have sq: ∀Hi,(∀a o,h a=Y o-> ¬P a->Hi a=Y o)->SqX b K Hi a g:=λHi f=>zP<|q.mono f λ_ z=>z;refine⟨λi d Hi hd f=>?_,λi Hi M f=>⟨g,sq Hi f,by rw[r.length];simpa using M⟩⟩;rw[kD] at hd;obtain⟨⟨Q,j⟩,h1,u⟩:=jk hd;rw[CF] at h1;obtain⟨G,v,w⟩:=jk h1;obtain⟨rfl,rfl⟩:=rA w;obtain⟨x,s,N⟩:=r.get v;refine⟨⟨g,x,sq Hi f,s⟩,λy U E=>?_⟩;obtain⟨T,z,rfl,m,rfl,k⟩:=E;have k:=k g<|sq Hi f;rw[s] at k;cases k;have ext:=lr (o:= .tup [.int<|c+i,x]) m;refine⟨ext,λL h1 t=>?_⟩;subst u;refine Rep.mkTup ⟨ja,t T m⟩<|RepL.cons ?_<|RepL.cons (Rep.mono (λb o e n=>ext b o<|f b o e λz=>n<|A b z) (λb B z=>h1 b B z) N) RepL.nil;simp only[xq];exact Rep.mkInt
open AutoSeq1 (wpAny_loadPart')
section
variable {e:iX}{w:iR}{A:iU}{E:jn}{s:iC}
noncomputable def uk(a:iu)(c:Int):Obj:={cls:= .type "enumerate",data:= .fields #[.none,.bool C,.ref a,cZ c,.none,.none]}
def Kh(l:iu)(i:mU):vu (bc.«enumerate.__new__» ⟨[.type "enumerate",.ref l],[]⟩) (λ_ R s=>(s.heap.IsList l i\/s.heap.IsTuple l i)/\
  ∀f,Src f s.heap.objs.size l 0 i->f.objs.size=s.heap.objs.size+1->(∀b o,s.heap.get? b=Y o->f.get? b=Y o)->R (.ok<|.ret<|.ref f.objs.size) {s with heap:=f.push (uk s.heap.objs.size 0)}):=
 .of_wp λe w A R s h=>by
  obtain⟨k,g,d,m,os⟩:=s;obtain⟨j,h⟩:=h;have n:=sub_enumerate
  wp_walk
  refine wpAny_stack_any λst=>iM ?_;split
  .rename_i c _ _ _ _ _;cases(c==bQ "enumerate")<;>(wp_walk using Src.new j;intro f a b c;wp_walk;exact⟨_,rfl,h f a b c⟩)
  .wp_walk using Src.new j
   intro f a b c
   wp_walk
   exact⟨_,rfl,h f a b c⟩
def Hz(f:s.heap.IsList l xs\/s.heap.IsTuple l xs)
  (h: ∀d,Src d s.heap.objs.size l 0 xs->d.objs.size=s.heap.objs.size+1->(∀b o,s.heap.get? b=Y o->d.get? b=Y o)->Q (.ref d.objs.size) {s with heap:=d.push (uk s.heap.objs.size 0)}):
  ag (ah e w) A (call (.type "enumerate") [.ref l]) Q E s:=
 UF F.called_enumerate (by decide) (F.typeCall_enumerate_1 _) (F.newCall_enumerate_1 _) (λobj=>Lf obj _) F.entry_enumerate_new (Kh l xs) ⟨f,λd a b c=>⟨⟨_,kc _ rfl,rfl⟩,h d a b c⟩⟩
end
section
variable {X:Cx}{g:jq}{i:L2.St}{H:Hp}{s:iC}{m:kr}{t:Nat}{n:bI}
def RN{R:It->Hp->Prop}{E:jn}{b:Bool}{l:iu}{L:List V}{j:jy}{h':iT}{c:Int}(U:Inv X g i H s)(u:SqX b X.K H l L)(k:Src h' s.heap.objs.size l 0 j.toArray)(h:h'.objs.size=s.heap.objs.size+1)
  (B: ∀b o,s.heap.get? b=Y o->h'.get? b=Y o)(r:R (ItE b X.K l c) H):ag (ah X.prog X.w) X.A (en<|.ref h'.objs.size) (PIE X g i (.Tuple m t n) R) E {s with heap:=h'.push (uk s.heap.objs.size c)}:=by
 have q:eR (h'.push<|uk s.heap.objs.size c) h'.objs.size s.heap.objs.size c .none:=kc _ rfl;refine u6 q ?_;have d:Inv X g i H {s with heap:=h'.push (uk s.heap.objs.size c)}:=U.kept (t':=s.toks) λb o e=>jM _ (B b o e);have y:h'.objs.size≠s.heap.objs.size:=by rw[h];exact Nat.succ_ne_self _
 refine⟨h'.objs.size,[h'.objs.size,s.heap.objs.size],_,_,H,rfl,d,Jt b h'.objs.size s.heap.objs.size l c y,⟨⟨.none,by simpa using q⟩,?_⟩,λa x=>?_,r⟩
 .have v:=k.keep (h':=h'.push<|uk s.heap.objs.size c) (λo e=>jM _ e) (λo e=>jM _ e)
  cases b with
  |true=>
   rcases v with⟨a,_⟩|⟨_,o,h1,f,_⟩
   .exact a
   .obtain⟨_,_,p,_⟩:=d.list u;obtain⟨T,g1,g2,_⟩:=p.isList;rw[h1] at g1;cases g1;rw[f] at g2;injection g2 with g2;exact absurd g2 (by decide)
  |false=>
   rcases v with⟨_,o,h1,f,_⟩|⟨a,_⟩
   .obtain⟨_,_,p,_⟩:=d.tuple u;obtain⟨T,g1,g2,_⟩:=p;rw[h1] at g1;cases g1;rw[f] at g2;injection g2 with g2;exact absurd g2 (by decide)
   .exact a
 .have z:a=h'.objs.size\/a=s.heap.objs.size:=by simpa using x
  rcases z with rfl|rfl
  .exact U.fpOk (by rw[h];exact xw _) (U.hok.fresh<|by rw[h];exact xw _)
  .exact U.fpOk (jQ _) (U.hok.fresh<|jQ _)
def SA(K:iW)(c:Int)(d:TA):TI:=λi H R=>d i H λe a=> ∃b l f,e=[.ref l]/\SqX b K a l f/\R (ItE b K l c) a
def GF(U:Inv X g i H s)(q:SqX b X.K H l xs): ∃a,Vals xs a/\(s.heap.IsList l a.toArray\/s.heap.IsTuple l a.toArray):=by
 cases b with
 |true=>obtain⟨a,v,p,_⟩:=U.list q;exact⟨a,v,.inl p.isList⟩
 |false=>obtain⟨a,v,p,_⟩:=U.tuple q;exact⟨a,v,.inr p⟩
def RU:ay "enumerate"=Y (.type "enumerate"):=by decide+kernel
def M7{a:iI}{j:TA}{p c:bI}(o:Gl X "enumerate")(v:X.mg "enumerate"=I)(k:PA X [a] j)(w:ac [a] X.env=[(C,aE a X.env)]):PI X (.Tuple m t n) (.Call (.Name "enumerate" p) [a] [] c) (SA X.K 0 j):=by intro g s i H R U h;refine Call_<|pX U o v RU<|zw (thn (k c g s i H _ U h) λL s1 N=>?_) w Zz;obtain⟨O,T,e,A,b,l,Q,hv,f,q⟩:=N;subst hv;obtain⟨u,rfl,B⟩:=rF A;cases B;obtain⟨y,_,r⟩:=GF e f;exact Hz r λE d x z=>RN e f d x z q
noncomputable def Dz(c:Int)(f:F):FIt:=λa=>(f a).bind λp=>match p.1.1 with
 | .tup l=>Y (l.zipIdx.map λq=> .tup [.int<|c+q.2,q.1],p.2)
 | .lst l=>Y (l.zipIdx.map λq=> .tup [.int<|c+q.2,q.1],p.2)
 |_=>I
def QV{K:iW}{T:AP'}{i:L2.St}{d c:Dn}{H:Hp}{r:D×Bool}{f:F}{Q:List V->Hp->Prop}(E:ER K H T i d)(h:f d=Y (r,c))(k: ∀v l,Keep i d H c l->ER K l T i c->Rep K l (λa=>OwnA i c a\/T a) r.1 v->Q [v] l):tA K [iA f] i H Q:=by
 refine⟨d,T,[.val r],c,E,?_,λw o x B=>?_⟩
 .show((iA f d).bind λp=>(ki [] p.2).bind λq=>Y (p.1::q.1,q.2))=_;simp only[iA,h,ul,ki]
 .have u:=B.len;rcases w with _|⟨v,_|⟨_,_⟩⟩<;>try cases u
  exact k v o B.keep (B.er.mono (λ_ _ e _=>e) (λb _ z=>B.tt b z) λa z=>B.er.dom a<|B.tt a z)<|B.rep E (j:=0) Zz Zz
def OD{K:iW}{B:SB}{c:Int}{f:F}{i:L2.St}{H:Hp}{R:It->Hp->Prop}(Q:tI K B (Dz c f) i H R):SA K c (tA K [iA f]) i H R:=by
 obtain⟨O,T,y,u,E,e,k⟩:=Q;obtain⟨⟨⟨d,o⟩,j⟩,h1,e⟩:=ir e;refine QV E h1 λv p x w L=>?_
 have h: ∀{l},yn d=Y l->Y (l.zipIdx.map λq=>D.tup [.int<|c+q.2,q.1],j)=Y (y,u)-> ∃b a r,[v]=[V.ref a]/\SqX b K p a r/\R (ItE b K a c) p:=λA e=>by obtain⟨rfl,rfl⟩:=jd e;obtain⟨a,r,rfl,q,U⟩:=Bs A L;have q:=q.mono (λ_ _ e _=>e) (P':=OwB B T i j) λa z=>z.own;exact⟨_,a,r,rfl,zP q,k _ p x w (J5 q U λa z=>z.own)⟩
 cases d with
 |tup l=>exact h Zz e
 |lst l=>exact h Zz e
 |_=>cases e
def JN{B:SB}{a:iI}{f:F}{p b:bI}(d:Gl X "enumerate")(e:X.mg "enumerate"=I)(c:PX X a f)(h:ac [a] X.env=[(C,aE a X.env)])(s0:ac [a] X.env=(C,aE a X.env)::ac [] X.env):
  PIX X B (.Tuple m t n) (.Call (.Name "enumerate" p) [a] [] b) (Dz 0 f):=PI.imp' (M7 d e (sP (PX.po c) yR s0) h) λi H R j=>OD j
end
section
variable {j:iX}{w:iR}{A:iU}{E:jn}{s:iC}{z TI TO f d n l:iu}{k:Nat}{i g:mU}{x y a b:iK}
def SU{Q:jn}(D:pC z TI TO f d n l)(hz:eU s.heap z TI TO .none)(t8:c3 s.heap TI (.ref f) (.ref d))(y4:c3 s.heap TO a b)(h1:Src s.heap f n k i)(h2:Src s.heap d l k g)
  (hQ: ∀x y,i[k]?=Zv x->g[k]?=Zv y-> ∀G,eU G z TI TO (cZ s.heap.objs.size)->c3 G TO x y->Src G f n (k+1) i->Src G d l (k+1) g->c3 G s.heap.objs.size x y->(∀c o,c≠z->c≠TO->c≠f->c≠d->s.heap.get? c=Zv o->G.get? c=Zv o)->Q (.ref s.heap.objs.size) {s with heap:=G})
  (hE:i[k]?=Zw\/g[k]?=Zw->A.handled=Zw/\ ∀G e,(∀c o,c≠z->c≠TO->c≠f->c≠d->s.heap.get? c=Zv o->G.get? c=Zv o)->(∃o,G.get? e=Zv o/\o.cls= .type "StopIteration")->E (.ref e) {s with heap:=G}):
  ag (ah j w) A (bc.«zip.__next__» ⟨[.ref z],[]⟩) (λfin s'=> ∃v,fin= .done (.ret v)/\Q v s') E s:=by
 have L: ∀{h:iT} {e:iu} {oe:e6} {f0:iK},eU h z TI TO f0->h.get? e=Zv oe->oe.cls= .type "StopIteration"->e≠z:=λhzz cA bL q=>by subst q;have R:_=_:=hzz;rw[cA] at R;cases R;injection bL with bL;exact absurd bL (by decide)
 refine iz (m:=j1 (.ref z) 2)<|oK hz Zz (x:= .bool Zy) Zz<|iz (m:=j1 (.ref z) 3)<|oK hz Zz (x:= .ref TI) Zz<|iz<|qF t8 Zz<|iz (m:=bv<|.ref z) ?_;unfold bv;refine iz<|oK hz Zz (x:= .none) Zz<|iM ?_;simp -iota only[kG];refine iz<|sf<|iz<|oK hz Zz (x:= .ref TO) Zz<|iz<|uy hz (by simp) λH dI K=>?_;replace dI:eU H z TI TO .ellipsis:=dI;refine iz ?_;simp -iota only[n8,List.zipIdx_nil,zu,f8];have c1:Src H f n k i:=h1.keep (λo e=>K.extBut _ o D.i1z e) λo e=>K.extBut _ o D.l1z e
 cases hx:i[k]? with
 |none=>obtain⟨hh,hE⟩:=hE<|.inl hx;refine iz<|iz<|zj<|iz (m:=aR<|.ref f)<|c1.stop (s:={s with heap:=H}) hh hx λr e U a'=>?_;obtain⟨oe,cA,bL⟩:=a';have M:eU r z TI TO .ellipsis:=U _ _ D.i1z.symm dI;exact uy (s:={s with heap:=r}) M (by simp) λt _ T=>hE t e (λc o O _ d3 _ q=>T.extBut _ _ O (U _ _ d3 (K.extBut _ _ O q))) ⟨oe,T.extBut _ _ (L M cA bL) cA,bL⟩
 |some x=>
  refine iz<|iz<|zj<|iz (m:=aR<|.ref f)<|c1.item (s:={s with heap:=H}) hx λr V U=>iM ?_;have B:c3 r TO a b:=U.extBut _ _ D.TOi1 (K.extBut _ _ D.TOz y4);refine iz<|qF (s:={s with heap:=r}) B Zz<|iz<|Lb (s:={s with heap:=r}) B λt cQ T=>iz<|Cz<|iM ?_;replace cQ:c3 t TO x b:=cQ;have c2:Src t d l k g:=h2.keep (λo e=>T.extBut _ o D.TOi2.symm (U.extBut _ o D.i12.symm (K.extBut _ o D.i2z e))) λo e=>T.extBut _ o D.l2TO (U.extBut _ o D.l2i1 (K.extBut _ o D.l2z e))
  cases hy:g[k]? with
  |none=>obtain⟨hh,hE⟩:=hE<|.inr hy;refine iz<|iz<|zj<|iz (m:=aR<|.ref d)<|c2.stop (s:={s with heap:=t}) hh hy λu e bx a'=>?_;obtain⟨oe,cA,bL⟩:=a';have dH:eU u z TI TO .ellipsis:=bx _ _ D.i2z.symm (T.extBut _ _ D.TOz.symm (U.extBut _ _ D.i1z.symm dI));exact uy (s:={s with heap:=u}) dH (by simp) λp _ F=>hE p e (λc o O d2 d3 d4 q=>F.extBut _ _ O (bx _ _ d4 (T.extBut _ _ d2 (U.extBut _ _ d3 (K.extBut _ _ O q))))) ⟨oe,F.extBut _ _ (L dH cA bL) cA,bL⟩
  |some y=>
   refine iz<|iz<|zj<|iz (m:=aR<|.ref d)<|c2.item (s:={s with heap:=t}) hy λu X bx=>iM ?_;have C:c3 u TO x b:=bx.extBut _ _ D.TOi2 cQ;refine iz<|qF (s:={s with heap:=u}) C Zz<|iz<|Lb (s:={s with heap:=u}) C λp bN F=>iz<|Cz<|iM<|iM ?_;replace bN:c3 p TO x y:=bN;refine iz<|qF (s:={s with heap:=p}) bN Zz<|iz<|CB (s:={s with heap:=p}) ?_;have hsz:p.objs.size=s.heap.objs.size:=by rw[F.1,bx.1,T.1,U.1,K.1]
   have N:eU p z TI TO .ellipsis:=F.extBut _ _ D.TOz.symm (bx.extBut _ _ D.i2z.symm (T.extBut _ _ D.TOz.symm (U.extBut _ _ D.i1z.symm dI)));have hk₅: ∀c o,c≠z->c≠TO->c≠f->c≠d->s.heap.get? c=Zv o->p.get? c=Zv o:=λc o O d2 d3 d4 e=>F.extBut _ _ d2 (bx.extBut _ _ d4 (T.extBut _ _ d2 (U.extBut _ _ d3 (K.extBut _ _ O e))));have W:Src p f n (k+1) i:=V.keep (λo e=>F.extBut _ o D.TOi1.symm (bx.extBut _ o D.i12 (T.extBut _ o D.TOi1.symm e))) λo e=>F.extBut _ o D.l1TO (bx.extBut _ o D.l1i2 (T.extBut _ o D.l1TO e));have Z:Src p d l (k+1) g:=X.keep (λo e=>F.extBut _ o D.TOi2.symm e) λo e=>F.extBut _ o D.l2TO e;have P:z<p.objs.size:=jN N;refine iz (m:=bq (.ref z)<|.ref p.objs.size) ?_;unfold bq;have hz₆:eU (p.push {cls:= .type "tuple",data:= .seq #[x,y]}) z TI TO .ellipsis:=jM _ N;refine iz<|uy (s:={s with heap:=p.push {cls:= .type "tuple",data:= .seq #[x,y]}}) hz₆ (by simp) λS fW bZ=>?_;replace fW:eU S z TI TO (cZ p.objs.size):=fW;refine uy (s:={s with heap:=S}) fW (by simp) λI eO Y=>?_;replace eO:eU I z TI TO (cZ p.objs.size):=eO;have up: ∀c o,c≠z->p.get? c=Zv o->I.get? c=Zv o:=λc o O e=>Y.extBut _ _ O (bZ.extBut _ _ O (jM _ e));have J:c3 I p.objs.size x y:=Y.extBut _ _ (ot P) (bZ.extBut _ _ (ot P) (kc _ rfl));rw[hsz] at eO J;refine iM ⟨_,rfl,?_⟩;show Q (.ref p.objs.size) _;rw[hsz];exact hQ x y hx hy I eO (up _ _ D.TOz bN) (W.keep (λo e=>up _ o D.i1z e) λo e=>up _ o D.l1z e) (Z.keep (λo e=>up _ o D.i2z e) λo e=>up _ o D.l2z e) J λc o O d2 d3 d4 e=>up c o O<|hk₅ c o O d2 d3 d4 e
def zW{Q:Bi}(D:pC z TI TO f d n l)(t:eU s.heap z TI TO .none)(J:c3 s.heap TI (.ref f) (.ref d))(M:c3 s.heap TO a b)(h1:Src s.heap f n k i)(U:Src s.heap d l k g)
  (L: ∀x y,i[k]?=Y x->g[k]?=Y y-> ∀h,eU h z TI TO (cZ s.heap.objs.size)->c3 h TO x y->Src h f n (k+1) i->Src h d l (k+1) g->c3 h s.heap.objs.size x y->(∀c o,c≠z->c≠TO->c≠f->c≠d->s.heap.get? c=Y o->h.get? c=Y o)->Q (Y<|.ref s.heap.objs.size) {s with heap:=h})
  (m:i[k]?=I\/g[k]?=I->A.handled=I/\ ∀h,(∀c o,c≠z->c≠TO->c≠f->c≠d->s.heap.get? c=Y o->h.get? c=Y o)->Q I {s with heap:=h}):
  ag (ah j w) A (cM<|.ref z) Q E s:=by
 have p:s.TypeIs (.ref z) "zip":=⟨_,t,rfl⟩
 unfold cM
 exact iz (sd (uF (name:=bi "__next__") p F.slot_zip_next (nO F.slot_zip_next p F.entry_zip_next
  (SU D t J M h1 U (λx y q r h a1 u v B C N=>iM<|L x y q r h a1 u v B C N) λq=>⟨(m q).1,λh e hk ⟨o,G,O⟩=>iz<|vd (T:="StopIteration") (b:=Zx) ⟨o,G,O⟩ Cw<|iM<|(m q).2 _ hk⟩) (F.args_zip_next_1 _))))
end
def Pm(j c:iu)(l i:mU):vu (bc.«zip.__new__» ⟨[.type "zip",.ref j,.ref c],[]⟩) (λ_ R s=>(s.heap.IsList j l\/s.heap.IsTuple j l)/\(s.heap.IsList c i\/s.heap.IsTuple c i)/\
  ∀h1 a,Src h1 s.heap.objs.size j 0 l->h1.objs.size=s.heap.objs.size+1->(∀b o,s.heap.get? b=Y o->h1.get? b=Y o)->Src a h1.objs.size c 0 i->a.objs.size=h1.objs.size+1->(∀b o,h1.get? b=Y o->a.get? b=Y o)->
   R (.ok<|.ret<|.ref ((a.push {cls:= .type "tuple",data:= .seq #[.ref s.heap.objs.size,.ref h1.objs.size]}).push {cls:= .type "tuple",data:= .seq #[.none,.none]}).objs.size)
    {s with heap:=((a.push {cls:= .type "tuple",data:= .seq #[.ref s.heap.objs.size,.ref h1.objs.size]}).push {cls:= .type "tuple",data:= .seq #[.none,.none]}).push {cls:= .type "zip",data:= .fields #[.none,.bool C,.bool C,.ref a.objs.size,.ref (a.push {cls:= .type "tuple",data:= .seq #[.ref s.heap.objs.size,.ref h1.objs.size]}).objs.size]}}):=
 .of_wp λm w A R s h=>by
  obtain⟨y,g,d,v,os⟩:=s;obtain⟨p,x,h⟩:=h;have z:=sub_zip
  wp_walk using Src.new p
  intro h1 a1 n k
  have f:h1.IsList c i\/h1.IsTuple c i:=by
   rcases x with⟨o,e,r⟩|⟨o,e,r⟩
   .exact .inl ⟨o,k _ _ e,r⟩
   .exact .inr ⟨o,k _ _ e,r⟩
  wp_walk using Src.new (s:=⟨h1,g,d,v,os⟩) f
  intro a q t u
  wp_walk
  exact⟨_,rfl,h h1 a a1 n k q t u⟩
noncomputable def ItZ(c d:Bool)(K:iW)(e f:iu):It:=⟨λi U=> ∃a b x y,SqX c K U e a/\SqX d K U f b/\a[i]?=Y x/\b[i]?=Y y,
 λi U x g=> ∃(T:iu) (u v:V),x= .ref T/\U T=I/\g=upd U T (.tup [u,v])/\ ∀a b,SqX c K U e a->SqX d K U f b->a[i]?=Y u/\b[i]?=Y v,
 λi U=> ∃a b,SqX c K U e a/\SqX d K U f b/\(ZB a<=i\/(ZB b)<=i)⟩
structure ZA(z TI TO i1 i2:iu):Prop where
 a1:TI≠z
 a2:TO≠z
 a3:i1≠z
 a4:i2≠z
 a5:TI≠TO
 a6:TI≠i1
 a7:TI≠i2
 a8:TO≠i1
 a9:TO≠i2
 a10:i1≠i2
def vZ{b:Bool}{K:iW}{T:Hp}{l:iu}{m:List V}{X:Cx}{c:jq}{p:L2.St}{s:iC}(U:Inv X c p T s)(k:X.K=K)(q:SqX b K T l m){h:kI}(i: ∀a∈h,tJ X c T a):l∉h:=by
 subst k;intro j;have d:=(i l j).1
 have base: ∀o,X.K.lookup l=Y o->False:=λo e=>by
  have g:=U.mod.kin l o e;rcases(i l j).2.2.2.1 with z|z
  .exact U.ok.noex l o g z
  .have:=(U.ok.bs l o g).1;exact absurd (jN this)<|Ph.mpr z
 cases b with
 |true=>
  rcases q with(q|⟨o,q⟩)|⟨o,f,n,e,_⟩
  .rw[d] at q;cases q
  .rw[d] at q;cases q
  .exact base o e
 |false=>
  rcases q with(q|⟨o,q⟩)|⟨o,f,n,e,_⟩
  .rw[d] at q;cases q
  .rw[d] at q;cases q
  .exact base o e
def LU{P:iX}{w:iR}{K:iW}{Y:kr}{k1}{pos:bI}(b1 b2:Bool)(z TI TO m n J M:iu)(D:ZA z TI TO m n):
  Turn P w K (.Tuple Y k1 pos) (ItZ b1 b2 K J M) [z,TI,TO,m,n] z (λi h=>eU h z TI TO .none/\c3 h TI (.ref m) (.ref n)/\(∃a b,c3 h TO a b)/\ItX b1 h m J i/\ItX b2 h n M i) where
 mem:=by simp
 obj:=λi h st a G=>by
  obtain⟨l,p,⟨u,v,C⟩,s1,B⟩:=st;simp only[kT,my,nM] at G;rcases G with rfl|rfl|rfl|rfl|rfl
  .exact⟨_,l,λv e=>by have U:hX _=fL v:=e;cases U⟩
  .exact⟨_,p,λv e=>by have U:P0 _ _=fL v:=e;cases U⟩
  .exact⟨_,C,λv e=>by have U:P0 _ _=fL v:=e;cases U⟩
  .exact s1.obj
  .exact B.obj
 keep:=λi h h' st k=>by obtain⟨l,p,⟨u,v,C⟩,s1,B⟩:=st;exact⟨k z (by simp) _ l,k TI (by simp) _ p,⟨u,v,k TO (by simp) _ C⟩,s1.keep λo q=>k m (by simp) o q,B.keep λo q=>k n (by simp) o q⟩
 item:=by
  intro X hP hw L hc i A s σ H E I t st hg;obtain⟨l,p,⟨a0,b0,C⟩,s1,B⟩:=st;obtain⟨xs,ys,x,y,T,Q,hx,hy⟩:=hg;have d:=vZ I L T t;have f:=vZ I L Q t;simp only[kT,my,nM,qe] at d f;subst hP hw L;obtain⟨cg,fM,S⟩:=tY I T s1;obtain⟨b9,Z,N⟩:=tY I Q B;obtain⟨u,hu,ru⟩:=fM.get hx;obtain⟨v,hv,rv⟩:=Z.get hy;have AP:pC z TI TO m n J M:=⟨D.a1,D.a2,D.a3,D.a4,D.a5,D.a6,D.a7,D.a8,D.a9,D.a10,d.1,d.2.2.1,d.2.2.2.1,d.2.2.2.2,f.1,f.2.2.1,f.2.2.2.1,f.2.2.2.2⟩
  refine zW AP l p C S N (λx' y' q r h' z' t1 c1 c2 hT V=>?_) λq=>absurd q (by simp[hu,hv]);obtain rfl:u=x':=by simpa[hu] using q
  obtain rfl:v=y':=by simpa[hv] using r
  refine⟨.ref s.heap.objs.size,rfl,?_⟩;refine wpAny_letOwnedTupleGo_zip (s:={s with heap:=h'}) z' λO z'' j=>?_;replace j:aI z h' O:=j
  have W: ∀a o,a∉[z,TI,TO,m,n]->s.heap.get? a=Zv o->O.get? a=Zv o:=λa o g q=>by simp only[kT,my,nM,qe] at g;exact j.extBut a o g.1<|V a o g.1 g.2.2.1 g.2.2.2.1 g.2.2.2.2 q
  have lt: ∀{c o},s.heap.get? c=Zv o->s.heap.objs.size≠c:=λe=>ot<|jN e;have cR:c3 O s.heap.objs.size u v:=j.extBut _ _ (lt l) hT
  have I1:Inv X A σ (upd H s.heap.objs.size<|.tup [x,y]) {s with heap:=O}:=
   Bl (t':=s.toks) I t W (jQ _) (show ObjOk X.prog X.w _ _ _ (.tup [x,y]) from⟨by show 2<=sizeLine;decide,[u,v],.cons ru<|.cons rv .nil,_,cR,rfl,0,rfl⟩)
  have F:ItX b1 O m J (i+1):=Ha s1 S (c1.keep (λo q=>j.extBut _ o D.a3 q) λo q=>j.extBut _ o d.1 q) λo q=>W J o (by simp only[kT,my,nM,qe];exact d) q;have R:ItX b2 O n M (i+1):=Ha B N (c2.keep (λo q=>j.extBut _ o D.a4 q) λo q=>j.extBut _ o f.1 q) λo q=>W M o (by simp only[kT,my,nM,qe];exact f) q;refine⟨.ref s.heap.objs.size,_,I1,rfl,⟨_,x,y,rfl,I.fresh,rfl,λbP ys' q1 q2=>by rw[C3 I q1 T,C3 I q2 Q];exact⟨hx,hy⟩⟩,⟨z'',j.extBut _ _ D.a1 (V _ _ D.a1 D.a5 D.a6 D.a7 p),⟨u,v,j.extBut _ _ D.a2 t1⟩,F,R⟩,λa G=>?_⟩;have n0:=(t a G).1;rw[jb]
  .exact n0
  .intro e;simp only[kT,my,nM] at G;rcases G with rfl|rfl|rfl|rfl|rfl
   .exact lt l e.symm
   .exact lt p e.symm
   .exact lt C e.symm
   .exact absurd e (jF S.lt.1)
   .exact absurd e (jF N.lt.1)
 done:=by
  intro X hP hw L hc i A s σ H E I t st hg;obtain⟨l,p,⟨a0,b0,C⟩,s1,B⟩:=st;obtain⟨xs,ys,T,Q,hend⟩:=hg;have d:=vZ I L T t;have f:=vZ I L Q t;simp only[kT,my,nM,qe] at d f;subst hP hw L;obtain⟨cg,fM,S⟩:=tY I T s1;obtain⟨b9,Z,N⟩:=tY I Q B;have e1:=fM.length;have e2:=Z.length;have AP:pC z TI TO m n J M:=⟨D.a1,D.a2,D.a3,D.a4,D.a5,D.a6,D.a7,D.a8,D.a9,D.a10,d.1,d.2.2.1,d.2.2.2.1,d.2.2.2.2,f.1,f.2.2.1,f.2.2.2.1,f.2.2.2.2⟩
  refine zW AP l p C S N (λx y q r=>?_) λ_=>⟨I.ok.hd hc,λh' V=>⟨rfl,Bm (t':=s.toks) I t λa o g q=>?_⟩⟩
  .have z1:=(Kx.mp q).1;have z2:=(Kx.mp r).1;simp at z1 z2;omega
  simp only[kT,my,nM,qe] at g;exact V a o g.1 g.2.2.1 g.2.2.2.1 g.2.2.2.2 q
 self:=λ_ _ _ _ _ st h=>wf st.1 h
def N1{K:iW}{P O:AP'}{g:Hp}{a1 m:iu}{f h:List V}{t A:List D}{r s:Bool}(k:SqA r K g P a1 f)(I:RepL K g O t f)(l:SqA s K g P m h)(L:RepL K g O A h)(B: ∀a,P a->O a):
  ItOk K (ItZ r s K a1 m) ((t.zip A).map λp=> .tup [p.1,p.2]) P O g:=by
 have sq: ∀{b:Bool} {a:iu} {f:List V},SqA b K g P a f-> ∀Hi,(∀a o,g a=Zv o-> ¬P a->Hi a=Zv o)->SqX b K Hi a f:=λq Hi c=>zP<|q.mono c λ_ z=>z;refine⟨λi d Hi hd c=>?_,λi Hi U c=>⟨f,h,sq k Hi c,sq l Hi c,by rw[I.length,L.length];simp at U;lia⟩⟩;rw[kD] at hd;obtain⟨⟨X,Z⟩,h1,J⟩:=jk hd;obtain⟨M,N⟩:=D5.mp h1;obtain⟨x,E,F⟩:=I.get M;obtain⟨y,H,R⟩:=L.get N;refine⟨⟨f,h,x,y,sq k Hi c,sq l Hi c,E,H⟩,λv S G=>?_⟩;obtain⟨T,u,w,rfl,C,rfl,Y⟩:=G;obtain⟨g1,g2⟩:=Y f h (sq k Hi c)<|sq l Hi c;rw[E] at g1;cases g1;rw[H] at g2;cases g2;have ext:=lr (o:= .tup [x,y]) C;refine⟨ext,λW h1 Q=>?_⟩;subst J;exact Rep.mkTup ⟨ja,Q T C⟩<|RepL.cons (Rep.mono (λb o e n=>ext b o<|c b o e λz=>n<|B b z) (λb j z=>h1 b j z) F)<|RepL.cons (Rep.mono (λb o e n=>ext b o<|c b o e λz=>n<|B b z) (λb j z=>h1 b j z) R) RepL.nil
section
variable {X:Cx}{d:kr}{n:Nat}{r:bI}
def Vt:ay "zip"=Y (.type "zip"):=by decide+kernel
def YN(K:iW)(g:TA):TI:=λk U R=>g k U λh a=> ∃e f b c i j,h=[.ref b,.ref c]/\SqX e K a b i/\SqX f K a c j/\R (ItZ e f K b c) a
def IK(U:Inv X pins σ T s)(f:SqX b X.K T l xs)(c:Src s.heap it l i g):ItX b s.heap it l i:=by
 cases b with
 |true=>
  rcases c with⟨a,_⟩|⟨_,o,h1,e,_⟩
  .exact a
  .obtain⟨_,_,p,_⟩:=U.list f;obtain⟨h,g1,g2,_⟩:=p.isList;rw[h1] at g1;cases g1;rw[e] at g2;injection g2 with g2;exact absurd g2 (by decide)
 |false=>
  rcases c with⟨_,o,h1,e,_⟩|⟨a,_⟩
  .obtain⟨_,_,p,_⟩:=U.tuple f;obtain⟨h,g1,g2,_⟩:=p;rw[h1] at g1;cases g1;rw[e] at g2;injection g2 with g2;exact absurd g2 (by decide)
  .exact a
def Ut{a b:iI}{J:TA}{p l:bI}(hg:Gl X "zip")(hm:X.mg "zip"=I)(A:PA X [a,b] J)(hs:ac [a,b] X.env=(Zy,aE a X.env)::ac [b] X.env)(g8:(aP l<|ac [b] X.env).any (·.1)=Zy):
  PI X (.Tuple d n r) (.Call (.Name "zip" p) [a,b] [] l) (YN X.K J):=by
 intro j s0 M N R L h;refine sA<|pX L hg hm Vt<|zw (thn (A l j s0 M N _ L h) λus s a'=>?_) hs g8;obtain⟨vs,H',I',r1,Y',b2,T,G,xs,ys,hv,Q,O,q⟩:=a';subst hv;obtain⟨u,v,rfl,ru,rv⟩:=vX r1;cases ru;cases rv;obtain⟨V,_,U⟩:=GF I' Q;obtain⟨D,_,v8⟩:=GF I' O;refine UF F.called_zip (by decide) (F.typeCall_zip_2 _ _) (F.newCall_zip_2 _ _) (λobj=>F.args_object_init_3 obj _ _) F.entry_zip_new (Pm T G V.toArray D.toArray) ⟨U,v8,λh1 f P k n S i E=>?_⟩;generalize t:({cls:= .type "tuple",data:= .seq #[.ref s.heap.objs.size,.ref h1.objs.size]}:e6)=g;generalize w:({cls:= .type "tuple",data:= .seq #[.none,.none]}:e6)=o4;have m:(f.push g).objs.size=f.objs.size+1:=rC ..;have z:((f.push g).push o4).objs.size=f.objs.size+2:=by rw[rC,m]
 generalize x:({cls:= .type "zip",data:= .fields #[.none,.bool Zy,.bool Zy,.ref f.objs.size,.ref (f.push g).objs.size]}:e6)=o5;have g5:(((f.push g).push o4).push o5).get? ((f.push g).push o4).objs.size=Y o5:=kc _ (by rw[<-x];rfl);have g4:(((f.push g).push o4).push o5).get? (f.push g).objs.size=Y o4:=jM _ (kc _ (by rw[<-w];rfl));have g3:(((f.push g).push o4).push o5).get? f.objs.size=Y g:=jM _ (jM _ (kc _ (by rw[<-t];rfl)));have y: ∀c o,f.get? c=Y o->(((f.push g).push o4).push o5).get? c=Y o:=λc o e=>jM _ (jM _ (jM _ e));have C:eU (((f.push g).push o4).push o5) ((f.push g).push o4).objs.size f.objs.size (f.push g).objs.size .none:=by show _=_;rw[g5,<-x]
 have t8:c3 (((f.push g).push o4).push o5) f.objs.size (.ref s.heap.objs.size) (.ref h1.objs.size):=by show _=_;rw[g3,<-t]
 have y4:c3 (((f.push g).push o4).push o5) (f.push g).objs.size .none .none:=by show _=_;rw[g4,<-w]
 have B:Inv X j M H' {s with heap:=((f.push g).push o4).push o5}:=I'.kept (t':=s.toks) λc o e=>y c o<|E c o<|n c o e;have W:=P.keep (h':=((f.push g).push o4).push o5) (λo e=>y _ o (E _ o e)) λo e=>y _ o (E _ o e);have Z:=S.keep (h':=((f.push g).push o4).push o5) (λo e=>y _ o e) λo e=>y _ o e;refine⟨⟨_,C,rfl⟩,wf (s:={s with heap:=((f.push g).push o4).push o5}) C ?_⟩;refine⟨((f.push g).push o4).objs.size,[((f.push g).push o4).objs.size,f.objs.size,(f.push g).objs.size,s.heap.objs.size,h1.objs.size],_,_,H',rfl,B,LU Y' b2 _ _ _ _ _ T G ⟨?_,?_,?_,?_,?_,?_,?_,?_,?_,?_⟩,⟨C,t8,⟨_,_,y4⟩,IK B Q W,IK B O Z⟩,λa A=>?_,q⟩
 .rw[z];exact jF<|Nat.lt_add_of_pos_right (by decide)
 .rw[z,m];exact jF<|sv _
 .rw[z,i,k];exact jF (by
   have:s.heap.objs.size<s.heap.objs.size+1+1+2:=by lia
   exact this)
 .rw[z,i];exact jF (by
   have:h1.objs.size<h1.objs.size+1+2:=by lia
   exact this)
 .rw[m];exact jF<|sv _
 .rw[i,k];exact ot (by
   have:s.heap.objs.size<s.heap.objs.size+1+1:=by lia
   exact this)
 .rw[i];exact ot<|sv _
 .rw[m,i,k];exact ot (by
   have:s.heap.objs.size<s.heap.objs.size+1+1+1:=by lia
   exact this)
 .rw[m,i];exact ot (by
   have:h1.objs.size<h1.objs.size+1+1:=by lia
   exact this)
 .rw[k];exact jF<|sv _
 .have le:s.heap.objs.size<=a:=by
   simp only[kT,my,nM] at A;rcases A with rfl|rfl|rfl|rfl|rfl
   .rw[z,i,k];have:s.heap.objs.size<=s.heap.objs.size+1+1+2:=by lia
    exact this
   .rw[i,k];have:s.heap.objs.size<=s.heap.objs.size+1+1:=by lia
    exact this
   .rw[m,i,k];have:s.heap.objs.size<=s.heap.objs.size+1+1+1:=by lia
    exact this
   .exact jQ _
   .rw[k];exact xw _
  exact I'.fpOk le<|I'.hok.fresh le
noncomputable def Ap(f g:FO):FIt:=λδ=>(f δ).bind λp=>(g p.2).bind λq=>(res q.2 p.1).bind λx=>(res q.2 q.1).bind λy=>(yn x).bind λl=>(yn y).bind λm=>Y ((l.zip m).map λp=> .tup [p.1,p.2],q.2)
def M3{B:SB}{a b:iI}{f g:FO}{p c:bI}(hg:Gl X "zip")(hm:X.mg "zip"=Zw)(ha:PO X a f)(hb:PO X b g)(I:SlB B f)(L:SlB B g)(w:ac [a,b] X.env=(Zy,aE a X.env)::ac [b] X.env)(G:ac [b] X.env=(Zy,aE b X.env)::ac [] X.env)(J:(aP c<|ac [b] X.env).any (·.1)=Zy):
  PIX X B (.Tuple d n r) (.Call (.Name "zip" p) [a,b] [] c) (Ap f g):=PI.imp' (Ut hg hm (sP ha (sP hb yR G) w) w J) λσ H R F=>by
 obtain⟨δ,T,ds,δ',E,e,k⟩:=F;obtain⟨⟨K,δ1⟩,h1,e⟩:=ir e;obtain⟨⟨P,t⟩,h,e⟩:=ir e;obtain⟨x,M,e⟩:=ir e;obtain⟨y,N,e⟩:=ir e;obtain⟨l,U,e⟩:=ir e;obtain⟨m,Y,e⟩:=ir e;obtain⟨rfl,rfl⟩:=jd e;dsimp only at h;refine⟨δ,T,[K,P],t,E,?_,λS O T1 W=>?_⟩
 .simp only[ki,h1,h,ul]
 .have D:=W.len;rcases S with _|⟨v,_|⟨u,_|⟨_,_⟩⟩⟩<;>try cases D
  .obtain⟨a1,V,rfl,A,q⟩:=W.seq E (j:=0) Zz Zz M U λi o=>I _ _ _ (o▸h1);obtain⟨Q,Z,rfl,C,s⟩:=W.seq E (j:=1) Zz Zz N Y λi o=>L _ _ _ (o▸h);exact⟨_,_,a1,Q,V,Z,rfl,zP A,zP C,k _ O W.keep (W.er.mono (λ_ _ e _=>e) (λb _ z=>W.tt b z) λa z=>W.er.dom a<|W.tt a z) (N1 A q C s λa z=>z.own)⟩
end
end PX
namespace TS
def Ask(M:gA)(A:iU)(G:Shared->Prop)(a:Nat->eV)(e:rd)(N:Nat)(lt:Nat->Nat->Bool):Prop:= ∀i j,i<N->j<N-> ∀s,G s-> ∀c,ag M A (KE e (a i).1 (a j).1) (λb d=>G d/\b=lt i j) c s
structure Cs where
 M:gA
 A:iU
 E:iK->Shared->Prop
 G:Shared->Prop
 it:Nat->eV
 lt:Nat->Nat->Bool
 κ:rd
 N:Nat
 as: ∀i j,lt i j=Zx->lt j i=Zy
 tr: ∀{i j k},lt j i=Zy->lt k j=Zy->lt k i=Zy
 ask:Ask M A G it κ N lt
section
variable {X:Cs}{α β:Type}{f:α->StateT rW ey β}{Q:β->rW->Prop}{st:rW}
def wp(X:Cs){α:Type}(m:StateT rW ey α)(Q:α->rW->Prop)(st:rW):Prop:= ∀s,X.G s->ag X.M X.A (m.run st) (λr a=>X.G a/\Q r.1 r.2) X.E s
def iJ{a:β}(h:Q a st):wp X (pure a) Q st:=λs g=>by rw[F6];exact iM ⟨g,h⟩
def kx{m:StateT rW ey α}(h:wp X m (λa c=>wp X (f a) Q c) st):wp X (m>>=f) Q st:=λs g=>by rw[StateT.run_bind];exact iz<|ou (h s g) (λr d b=>b.2 d b.1) λ_ _ e=>e
def HG{m:StateT rW ey α}{Q b:α->rW->Prop}(h:wp X m Q st)(i: ∀a c,Q a c->b a c):wp X m b st:=λs g=>ou (h s g) (λr _ d=>⟨d.1,i _ _ d.2⟩) λ_ _ e=>e
def jm{c:Prop}[Decidable c]{t e:StateT rW ey β}(h1:c->wp X t Q st)(a: ¬c->wp X e Q st):wp X (if c then t else e) Q st:=by split<;>simp_all
def oP{f:rW->StateT rW ey β}(h:wp X (f st) Q st):wp X (get>>=f) Q st:=kx λs g=>by rw[StateT.run_get];exact iM ⟨g,h⟩
def vC{g:rW->rW}{f:PUnit->StateT rW ey β}(h:wp X (f ⟨⟩) Q (g st)):wp X (modify g>>=f) Q st:=kx λs g=>by rw[StateT.run_modify];exact iM ⟨g,h⟩
def HH{m:ey α}(h: ∀s,X.G s->ag X.M X.A m (λa b=>X.G b/\wp X (f a) Q st) X.E s):wp X (liftM m>>=f) Q st:=kx λs g=>by show ag X.M X.A ((StateT.lift m:StateT rW ey α).run st) _ X.E s;rw[StateT.run_lift];exact iz<|ou (h s g) (λa b c=>iM c) λ_ _ e=>e
def tM{x:String}{f:Unit->StateT rW ey β}(h:wp X (f ()) Q st):wp X (liftM (rule x)>>=f) Q st:=HH λs g=>sf ⟨g,h⟩
def Pq{e:Nat}{g:Nat->α->StateT rW ey (ForInStep α)}{U:Nat->α->rW->Prop}{T:α->rW->Prop}
  (m: ∀i c st,i<e->U i c st->wp X (g i c) (λr b=>match r with| .done d=>T d b| .yield d=>U (i+1) d b) st)(l: ∀c st,U e c st->T c st):
  ∀(n a:Nat) (c:α) (st:rW),a+n=e->U a c st->wp X (forIn (cF a n 1) c g) T st:=by
 intro p
 induction p with
 |zero=>intro a c st rfl h;exact iJ<|l _ _ h
 |succ n o=>
  intro a c st q h;rw[Cv,zu];refine kx<|HG (m a c st (by lia) h) λr b k=>?_
  cases r with
  |done j=>exact iJ k
  |yield j=>exact o _ j b (by lia) k
def mz{g:Nat->α->StateT rW ey (ForInStep α)}(U:Nat->α->rW->Prop)(T:α->rW->Prop){a b:Nat}{c:α}(h:U a c st)
  (l: ∀i c st,i<a+(b-a)->U i c st->wp X (g i c) (λr e=>match r with| .done d=>T d e| .yield d=>U (i+1) d e) st)
  (j: ∀c st,U (a+(b-a)) c st->T c st)(k: ∀c st,T c st->wp X (f c) Q st):wp X (forIn [a:b] c g>>=f) Q st:=by
 refine kx<|HG ?_ k;rw[Std.Legacy.Range.forIn_eq_forIn_range'];exact Pq l j _ _ _ _ (by simp[Std.Legacy.Range.size]) h
noncomputable abbrev ar(X:Cs)(l:jU):Array Keyed:=(l.map X.it).toArray
def md{l:jU}{i x:Nat}{f:eV->StateT rW ey β}(e:l[i]?=Y x)(h:wp X (f<|X.it x) Q st):wp X (elem' (ar X l) i>>=f) Q st:=kx (by rw[elem'_eq,show(ar X l)[i]?=Y (X.it x) by simp[e]];exact iJ h)
def Ea{i j:Nat}{f:Option Bool->StateT rW ey β}(hk:kindOf st=X.κ)(k:i<X.N)(l:j<X.N)(h: ∀b,X.lt i j=b->wp X (f<|Y b) Q st):wp X (lt' (X.it i) (X.it j)>>=f) Q st:=kx (by rw[lt'_eq];refine oP ?_;rw[hk];refine HH λs g=>sd<|ou (X.ask i j k l s g λ_ _=>False) (λb m c=>?_) λe m d=>d.elim;obtain⟨a,rfl⟩:=c;exact⟨a,iJ<|h _ rfl⟩)
structure Rp(X:Cs)(q:Array (Nat×Nat×Nat))(L:jU)(st:rW):Prop where
 a:fO st=ar X L
 k:kindOf st=X.κ
 f:fZ st=Zw
 q:pendingOf st=q
 p:L.Perm (aw X.N)
def Rp.n{q:Array (Nat×Nat×Nat)}{L:jU}(R:Rp X q L st){i x:Nat}(e:L[i]?=Y x):x<X.N:=by simpa using R.p.mem_iff.mp<|mG e
def Eb{q:Array (Nat×Nat×Nat)}{L:jU}(R:Rp X q L st){i j x y:Nat}{f:Option Bool->StateT rW ey β}(c:L[i]?=Y x)(d:L[j]?=Y y)(h: ∀b,X.lt x y=b->wp X (f<|Y b) Q st):wp X (ltAt' i j>>=f) Q st:=kx (by rw[ltAt'_eq];refine oP ?_;rw[R.a];exact md c<|md d<|by rw[<-bind_pure (lt' _ _)];exact Ea R.k (R.n c) (R.n d) λb e=>iJ<|h b e)
def EI{α:Type}(T A R:List α){d:Nat}(hd:d=(ZB A) / 2):mirror (T++(A++R)).toArray (ZB T) (ZB T+ZB A) d=(T++(A.reverse++R)).toArray:=by
 have hd:d=(ZB T+ZB A-ZB T) / 2:=by lia
 subst hd;apply Array.ext_getElem?;intro k;rw[getElem?_mirror_all<|by simp];simp only[List.getElem?_toArray];by_cases h1:k<ZB T
 .rw[jc<|by lia,qf h1,qf h1]
 .obtain⟨k,rfl⟩:=Nat.exists_eq_add_of_le<|r8 h1;rw[qg (by lia) (l₂:=A.reverse++R),F5];by_cases a:k<ZB A
  .rw[iP<|by lia,qg<|by lia,qf<|by lia,qf<|by simpa using a,List.getElem?_reverse a]
   congr 1;lia
  .rw[jc<|by lia,qg<|by lia,F5,qg<|by lia,qg<|by simpa using a,List.length_reverse]
def Fl{α:Type}(R:List α)(x:α): ∀(A T:List α) {i:Nat},i=ZB T+ZB A->bubble (T++(A++x::R)).toArray i (ZB A)=(T++(x::(A++R))).toArray:=by
 intro c
 induction c with
 |nil=>intro T i h;exact H
 |cons a A b=>
  intro T i h;have:=b (T++[a]) (i:=i) (by simp at h ⊢;lia);rw[lQ,bubble_succ,show T++(a::A++x::R)=T++[a]++(A++x::R) by simp,this];have e:i-ZB A=ZB T+1:=by simp at h;lia
  rw[e,m4];simp[Array.swapIfInBounds]
variable {q:Array (Nat×Nat×Nat)}{T A R:jU}{i j x:Nat}
def LF{b:Bh}{L a:jU}(S:Rp X q L st)(e:b=ar X a)(p:a.Perm L):Rp X q a (setArr st b):=⟨e,S.k,S.f,S.q,p.trans S.p⟩
def Gz{f:Unit->StateT rW ey β}(S:Rp X q (T++(A++R)) st)(c:i=ZB T)(e:j=ZB T+ZB A)(h: ∀b,Rp X q (T++(A.reverse++R)) b->wp X (f ()) Q b):wp X (Sc i j>>=f) Q st:=by rw[reverseSlice'_eq];subst c e;refine vC<|h _ (LF S ?_<|((Cu A).append_right R).append_left T);have:=EI (T.map X.it) (A.map X.it) (R.map X.it) (d:=(ZB T+ZB A-ZB T) / 2) (by simp);simpa[ar,S.a] using this
def S8{f:Unit->StateT rW ey β}(S:Rp X q (T++(A++x::R)) st)(c:i=ZB T+ZB A)(d:j=ZB T)(h: ∀b,Rp X q (T++(x::(A++R))) b->wp X (f ()) Q b):wp X (moveDown' i j>>=f) Q st:=by rw[moveDown'_eq];subst c d;refine vC<|h _ (LF S ?_<|Pf.symm.append_left T);have:=Fl (R.map X.it) (X.it x) (A.map X.it) (T.map X.it) (i:=ZB T+ZB A) (by simp);simpa[ar,S.a] using this
end
abbrev Cs.le(X:Cs)(i j:Nat):Prop:=X.lt j i=C
section
variable {X:Cs}{o:Type}{Q:o->rW->Prop}{st:rW}{q:Array (Nat×Nat×Nat)}{T A B D R L:jU}{i j x y:Nat}{r:Nat->Nat->Prop}
def ix0(h:i=ZB T+ZB A):(T++(A++x::R))[i]?=Y x:=by subst h;simp
def ix1(h:i=ZB T+ZB A+1):(T++(A++x::y::R))[i]?=Y y:=by subst h;rw[<-oq,qg<|by simp];simp
def Eo(u:D.Pairwise r)(h: ∀z∈D,r z y):(D++[y]).Pairwise r:=tK.mpr ⟨u,La _ _,λa c b d=>AS.mp d▸h a c⟩
def EO(e: ∀{a b c},r a b->r b c->r a c)(u:(D++[x]).Pairwise r)(h:r x y): ∀z∈D++[x],r z y:=λz d=>by
 rcases qb.mp d with d|d
 .exact e ((tK.mp u).2.2 z d x jT) h
 .rw[AS.mp d];exact h
def LK{g:Nat->Option (Option Nat)×Nat->StateT rW ey (ForInStep<|Option (Option Nat)×Nat)}{f:Option (Option Nat)×Nat->StateT rW ey o}{lo n m:Nat}
  (p: ∀i n,g i (I,n)=(ltAt' (lo+n) (lo+n-1)>>=λx=>match x with|some b=>if b=J then pure (.done (I,n)) else pure (.yield (I,n+1))|_=>pure<|.done (Y I,n)))
  (S:Rp X q (T++(A++x::R)) st)(v:(ZB T)=lo)(t:n=ZB A+1)(a:m=n+R.length)(u:(A++[x]).Pairwise X.le)
  (h: ∀A x R,Rp X q (T++(A++x::R)) st->m=ZB A+1+R.length->(A++[x]).Pairwise X.le->(∀y l,R=y::l->X.lt y x=J)->wp X (f (I,ZB A+1)) Q st):wp X (forIn [n:m] (I,n) g>>=f) Q st:=by
 refine mz (λi c s=>s=st/\c=(I,i)/\ ∃A x R,Rp X q (T++(A++x::R)) st/\i=ZB A+1/\m=i+R.length/\(A++[x]).Pairwise X.le)
  (λc s=>s=st/\ ∃A x R,Rp X q (T++(A++x::R)) st/\c=(I,ZB A+1)/\m=ZB A+1+R.length/\(A++[x]).Pairwise X.le/\ ∀y l,R=y::l->X.lt y x=J) ⟨rfl,rfl,A,x,R,S,t,a,u⟩ ?_ ?_ ?_
 .rintro i c s d ⟨rfl,rfl,A,x,R,S,rfl,h1,u⟩;rw[p];obtain⟨y,l,rfl⟩:=sj (l:=R) (by lia);refine Eb S (ix1<|by lia) (ix0<|by lia) λb e=>?_
  cases b with
  |true=>exact iJ ⟨rfl,A,x,_,S,rfl,h1,u,λ_ _ k=>by cases k;exact e⟩
  |false=>exact iJ ⟨rfl,rfl,A++[x],y,l,by simpa using S,by simp,by simp at h1;lia,Eo u<|EO X.tr u e⟩
 .rintro c s ⟨rfl,rfl,A,x,R,S,d,h1,u⟩;exact⟨rfl,A,x,R,S,by rw[d],by lia,u,λy l e=>by subst e;simp at h1;lia⟩
 .rintro c s ⟨rfl,A,x,R,S,rfl,a,u,e⟩;exact h A x R S a u e
def LG{c:Prop}[Decidable c]{k:StateT rW ey o}(S:Rp X q (T++(A++R)) st)(e:i=ZB T)(f:j=ZB T+ZB A)(d: ¬c->ZB A=1)(h: ∀b,Rp X q (T++(A.reverse++R)) b->wp X k Q b):wp X (if c then Sc i j>>=λ_=>k else k) Q st:=jm (λ_=>Gz S e f h) λz=>h _ (by obtain⟨a,rfl⟩:=List.length_eq_one_iff.mp<|d z;exact S)
def dnT(d:(A++B).Pairwise λa b=>X.le b a)(u:B.Pairwise X.le):(A++B.reverse).Pairwise λa b=>X.le b a:=by rw[tK] at d ⊢;exact⟨d.1,Gw.mpr u,λa c b e=>d.2.2 a c b<|n9.mp e⟩
def Cs.rf(X:Cs)(i:Nat):X.le i i:=nw.mpr λh=>oO<|h.symm.trans<|X.as i i h
def Sb{k m:StateT rW ey o}(P:rW->Prop)(b:(∀a,P a->wp X k Q a)->wp X m Q st)(hk: ∀a,P a->wp X k Q a):wp X m Q st:=b hk
def LJ{lo m:Nat}{Q:Option Nat->rW->Prop}(S:Rp X q (T++x::R) st)(p:(ZB T)=lo)(f:m=1+R.length)(h: ∀A R g,Rp X q (T++(A++R)) g->A≠[]->A.Pairwise X.le->m=ZB A+R.length->Q (Y<|ZB A) g):wp X (countRun' lo m) Q st:=by
 have fin: ∀A x R g,Rp X q (T++(A++x::R)) g->m=ZB A+1+R.length->(A++[x]).Pairwise X.le->Q (Y<|ZB A+1) g:=λA x R g S f u=>by simpa using h (A++[x]) R g (by simpa using S) (by simp) u (by simpa using f)
 have ge: ∀{a b c},X.le b a->X.le c b->X.le c a:=λh1 t=>X.tr t h1;rw[countRun'_eq];dsimp only;refine LK (λ_ _=>rfl) (A:=[]) S p H f (by simp) λA x R S f u U=>?_;refine jm (λ_=>iJ<|fin A x R _ S f u) λO=>?_;obtain⟨y,l,rfl⟩:=sj (l:=R) (by simp at O;lia);apply Sb λg=>Rp X q (T++((A++[x]).reverse++y::l)) g/\ ∀z∈A++[x],X.le y z
 .intro F;have w:=X.as _ _ (U y l H);refine jm (λh1=>?_) λh1=>F _ ?_
  .obtain⟨a,A,rfl⟩:=sj (l:=A)<|Nat.lt_of_succ_lt_succ h1;refine Eb S (x:=a) (y:=x) (ix0 (A:=[])<|by simpa using p.symm) (ix0<|by simp;lia) λb e=>?_
   cases b with
   |true=>exact iJ<|fin _ x _ _ S f u
   |false=>
    refine Gz (A:=a::A++[x]) (by simpa using S) p.symm (by simp;lia) λg n=>F _ ⟨n,λz k=>X.tr (X.tr w e) ?_⟩;rcases kT.mp k with rfl|k
    .exact X.rf _
    .exact(D8.mp u).1 z k
  .obtain rfl:=zi (l:=A) (by simpa using h1);exact⟨S,by simpa using w⟩
 .rintro st ⟨S,d⟩;have t:(ZB A)+2<=m:=by simp at f;lia
  dsimp only
  refine tM (mz (λi c s=> ∃M B x R,c=(I,i,ZB B)/\Rp X q (T++(M++(B++x::R))) s/\i=ZB M+ZB B+1/\m=i+R.length/\(M++(B++[x])).Pairwise (λa b=>X.le b a)/\(B++[x]).Pairwise X.le)
   (λc s=> ∃M B x R,c=(I,ZB M+ZB B+1,ZB B)/\Rp X q (T++(M++(B++x::R))) s/\m=ZB M+ZB B+1+R.length/\(M++(B++[x])).Pairwise (λa b=>X.le b a)/\(B++[x]).Pairwise X.le) ⟨(A++[x]).reverse,[],y,l,rfl,S,by simp,by simp at f ⊢;lia,?_,by simp⟩ ?_ ?_ ?_)
  .exact Eo (Gw.mpr u) λz k=>d z<|n9.mp k
  .rintro i c s v ⟨M,B,x,R,rfl,S,rfl,f,d,u⟩;obtain⟨y,l,rfl⟩:=sj (l:=R) (by lia);rw[<-oq] at S;refine Eb S (ix1<|by simp;lia) (ix0<|by simp;lia) λb e=>?_
   cases b with
   |true=>refine LG (T:=T++M) (A:=B++[x]) (by simpa using S) (by simp;lia) (by simp;lia) (λz=>by simp at z ⊢;exact z) λg n=>iJ ⟨M++(B++[x]).reverse,[],y,l,rfl,by simpa using n,by simp;lia,by simp at f;lia,Eo (dnT d u) λz k=>?_,by simp⟩;rw[<-oq] at d;exact EO (r:=λa b=>X.le b a) ge d (X.as _ _ e) z (by simpa[or_comm] using k)
   |false=>
    refine Eb S (ix0<|by simp;lia) (ix1<|by simp;lia) λb N=>?_
    cases b with
    |true=>exact iJ ⟨M,B,x,_,rfl,by simpa using S,f,d,u⟩
    |false=>refine iJ ⟨M,B++[x],y,l,by simp,by simpa using S,by simp;lia,by simp at f;lia,?_,Eo u<|EO X.tr u e⟩;rw[<-oq] at d ⊢;rw[<-oq];exact Eo d<|EO (r:=λa b=>X.le b a) ge d N
  .rintro c s ⟨M,B,x,R,rfl,S,v,f,d,u⟩;exact⟨M,B,x,R,by rw[v],S,by lia,d,u⟩
  .rintro c s ⟨M,B,x,R,rfl,S,f,d,u⟩;refine LG (T:=T++M) (A:=B++[x]) (by simpa using S) (by simp;lia) (by simp;lia) (λz=>by simp at z ⊢;exact z) λg n=>?_;refine Gz (T:=T) (A:=M++(B++[x]).reverse) (by simpa using n) p.symm (by simp;lia) λg n=>?_;have u:=Gw.mpr<|dnT d u;rcases zh (M++(B++[x]).reverse).reverse with e|⟨E,G,e⟩
   .simp at e
   .rw[e,zg] at n u;have k:=mV dB e;simp at k;exact LK (λ_ _=>rfl) (A:=E) (x:=G) (R:=R) (by simpa using n) p (by dsimp only;lia) (by dsimp only;lia) u λA x R S f u _=>iJ<|fin A x R _ S f u
end
section
variable {X:Cs}{g:Type}{Q:g->rW->Prop}{st:rW}{q:Array (Nat×Nat×Nat)}{T A B D R L:jU}{i j x y:Nat}{p:Nat->Bool}
abbrev Mo(X:Cs)(p:Nat->Bool):Prop:= ∀a b,X.le a b->p b=J->p a=J
abbrev Lo(p:Nat->Bool)(A:jU)(a:Nat):Prop:= ∀i,i<a->p (A.getD i 0)=J
abbrev Hi(p:Nat->Bool)(A:jU)(a:Nat):Prop:= ∀i,a<=i->i<ZB A->p (A.getD i 0)=C
def NC:Mo X λz=>!X.lt x z:=λa b h c=>by simp only[dZ] at c ⊢;exact X.tr h c
def WC:Mo X λz=>X.lt z x:=λa b h c=>by
 cases e:X.lt a x with
 |true=>exact e
 |false=>exact oO<|(X.tr e h).symm.trans c
def upD(u:A.Pairwise X.le)(b:i<=j)(h:j<ZB A):X.le (A.getD i 0) (A.getD j 0):=by
 have a:i<(ZB A):=by lia
 simp only[nL,jt h,jt a,kl];rcases mN b with e|rfl
 .exact Pe.mp u i j a h e
 .exact X.rf _
def EK(u:A.Pairwise X.le)(m:Mo X p)(h:i<ZB A)(e:p (A.getD i 0)=J):Lo p A (i+1):=λj a=>m _ _ (upD u (by lia) h) e
def EW(u:A.Pairwise X.le)(m:Mo X p)(e:p (A.getD i 0)=C):Hi p A i:=λj a h=>by
 cases c:p (A.getD j 0) with
 |false=>rfl
 |true=>exact(m _ _ (upD u a h) c).symm.trans e
def IB(h:Lo p A i): ∀z∈A.take i,p z=J:=λz a=>by obtain⟨k,hk,rfl⟩:=zf a;have hk:=rE▸hk;have:=h k (by lia);simpa[show k<(ZB A) by lia] using this
def IQ(h:Hi p A i): ∀z∈A.drop i,p z=C:=λz a=>by obtain⟨k,hk,rfl⟩:=zf a;simp at hk;have:=h (i+k) (by lia) (by lia);simpa[show i+k<(ZB A) by lia] using this
def ixD(a:(ZB T)=j)(h:i<ZB A):(T++(A++R))[j+i]?=Y (A.getD i 0):=by subst a;rw[qg<|by lia,F5,qf h];simp[h]
def YM(u:A.Pairwise X.le)(h1: ∀z∈A.take i,(!X.lt y z)=J)(e: ∀z∈A.drop i,(!X.lt y z)=C):(A.take i++y::A.drop i).Pairwise X.le:=by
 rw[<-vb i A,tK] at u;refine tK.mpr ⟨u.1,D8.mpr ⟨λz f=>X.as _ _ (by simpa using e z f),u.2.1⟩,λa d b c=>?_⟩;rcases kT.mp c with rfl|c
 .simpa using h1 a d
 .exact u.2.2 a d b c
def S9{lo n k:Nat}{Q:Bool->rW->Prop}(S:Rp X q (T++(A++R)) st)(N:(ZB T)=lo)(E:(ZB A)=k)(O:0<k)(o:n<=k+R.length)(hk:k<=n)(u:A.Pairwise X.le)
  (h: ∀A R w,Rp X q (T++(A++R)) w->ZB A=n->A.Pairwise X.le->Q J w):wp X (binarySort' lo n k) Q st:=by
 rw[binarySort'_eq,show max k 1=k by lia];dsimp only;refine mz (λk c s=>c=(I,())/\ ∃A R,Rp X q (T++(A++R)) s/\(ZB A)=k/\A.Pairwise X.le/\n<=k+R.length) (λc s=>c=(I,())/\ ∃A R,Rp X q (T++(A++R)) s/\(ZB A)=n/\A.Pairwise X.le) ⟨rfl,A,R,S,E,u,o⟩ ?_ ?_ ?_
 .rintro k c s m ⟨rfl,A,R,S,rfl,u,o⟩;obtain⟨y,l,rfl⟩:=sj (l:=R) (by lia)
  refine mz (λi c r=>r=s/\ ∃a b,c=(I,a,b)/\a<=b/\b<=ZB A/\b<=a+(ZB A-i)/\Lo (λz=>!X.lt y z) A a/\Hi (λz=>!X.lt y z) A b)
   (λc r=>r=s/\ ∃a b,c=(I,a,b)/\a<=ZB A/\Lo (λz=>!X.lt y z) A a/\Hi (λz=>!X.lt y z) A a) ⟨rfl,0,ZB A,rfl,by lia,by lia,by lia,λi h=>by lia,λi h U=>by lia⟩ ?_ ?_ ?_
  .rintro i c _ m ⟨rfl,a,b,rfl,h1,t,v,d,f⟩;dsimp only;refine jm (λe=>iJ ⟨rfl,a,b,rfl,by lia,d,(show a=b by lia)▸f⟩) λe=>?_;refine Eb S (ix0<|by lia) (ixD N<|by lia) λc e=>?_
   cases c with
   |true=>exact iJ ⟨rfl,a,_,rfl,by lia,by lia,by lia,d,EW u NC<|by rw[e];rfl⟩
   |false=>exact iJ ⟨rfl,_,b,rfl,by lia,by lia,by lia,EK u NC (by lia)<|by rw[e];rfl,f⟩
  .rintro c _ ⟨rfl,a,b,rfl,h1,t,v,d,f⟩;exact⟨rfl,a,b,rfl,by lia,d,(show a=b by lia)▸f⟩
  .rintro c _ ⟨rfl,a,b,rfl,h1,t,v⟩;refine S8 (T:=T++A.take a) (A:=A.drop a) (by rw[oq,<-oq (A.take a),vb];exact S) (by simp;lia) (by simp;lia) λr M=>iJ ⟨rfl,A.take a++y::A.drop a,l,by simpa using M,by simp;lia,YM u (IB t)<|IQ v,by simp at o;lia⟩
 .rintro c s ⟨rfl,A,R,S,m,u,o⟩;exact⟨rfl,A,R,S,by lia,u⟩
 .rintro c s ⟨rfl,A,R,S,m,u⟩;exact iJ<|h A R s S m u
noncomputable def Ru:Bool->eV->Array eV->Nat->Nat->Nat->StateT rW ey (Option Nat):=sortPriv%PySem.Builtin.gallop
noncomputable def ND:Array eV->Array eV->StateT rW ey (Array eV):=sortPriv%PySem.Builtin.mergeLo
noncomputable def NF:Array eV->Array eV->StateT rW ey (Array eV):=sortPriv%PySem.Builtin.mergeHi
noncomputable def PK:Nat->StateT rW ey Unit:=sortPriv%PySem.Builtin.setMinGallop
def VT{k:Nat->Nat->StateT rW ey g}{m:StateT rW ey g}(P:Nat->Nat->Prop)(c:(∀a b,P a b->wp X (k a b) Q st)->wp X m Q st)(hk: ∀a b,P a b->wp X (k a b) Q st):wp X m Q st:=c hk
noncomputable abbrev gp(X:Cs)(left:Bool)(x z:Nat):Bool:=if left=J then X.lt z x else !X.lt x z
def CV{left:Bool}{base:Nat}{f:Option Bool->StateT rW ey g}(hk:kindOf st=X.κ)(k: ∀z∈A,z<X.N)(c:x<X.N)(l:(ZB T)=base)(a:i<ZB A)(h: ∀b,gp X left x (A.getD i 0)=b->wp X (f<|Y b) Q st):
  wp X ((elem' (ar X<|T++(A++R)) (base+i)>>=λz=>if left=J then lt' z (X.it x) else lt' (X.it x) z>>=λr=>pure<|vw (λx=>!x) r)>>=f) Q st:=by
 have d:A.getD i 0<X.N:=k _ (by simp[a]);refine kx<|md (ixD l a) ?_
 cases left with
 |true=>rw[iP H,<-bind_pure (lt' _ _)];exact Ea hk d c λb e=>iJ<|h b e
 |false=>exact Ea hk c d λb e=>iJ<|h (!b)<|mV not e
def xJ{left:Bool}{base n hint:Nat}{Q:Option Nat->rW->Prop}(hk:kindOf st=X.κ)(t: ∀z∈A,z<X.N)(w:x<X.N)(u:A.Pairwise X.le)(G:L=T++(A++R))(v:(ZB T)=base)(H:(ZB A)=n)(C:hint<n)
  (h: ∀r,r<=n->(∀z∈A.take r,gp X left x z=Zx)->(∀z∈A.drop r,gp X left x z=Zy)->Q (Y r) st):wp X (Ru left (X.it x) (ar X L) base n hint) Q st:=by
 subst G
 have m:Mo X (gp X left x):=by
  cases left with
  |true=>exact WC
  |false=>exact NC
 apply VT λa b=>a<=b/\b<=n/\Lo (gp X left x) A a/\Hi (gp X left x) A b
 .intro F;refine CV hk t w v (H▸C) λb e=>?_;refine jm (λz=>?_) λz=>?_
  .subst z
   refine mz (λi c s=>st=s/\ ∃a b,c=(I,a,b)/\a<b/\i<b/\hint+a<n/\Lo (gp X left x) A (hint+a+1)) (λc s=>st=s/\ ∃a b,c=(I,a,b)/\a<b/\hint+a<n/\Lo (gp X left x) A (hint+a+1)/\(n-hint<=b\/Hi (gp X left x) A (hint+b)))
    ⟨rfl,0,1,rfl,by lia,by lia,C,EK u m (H▸C) e⟩ ?_ ?_ ?_
   .rintro i c _ E ⟨rfl,a,b,rfl,h1,o,l,f⟩;dsimp only;refine jm (λz=>iJ ⟨rfl,a,b,rfl,h1,l,f,.inl z⟩) λz=>CV hk t w v (by lia) λc e=>?_
    cases c with
    |true=>exact iJ ⟨rfl,_,_,rfl,by lia,by lia,by lia,EK u m (by lia) e⟩
    |false=>exact iJ ⟨rfl,a,b,rfl,h1,l,f,.inr<|EW u m e⟩
   .rintro c _ ⟨rfl,a,b,rfl,h1,o,l,f⟩;exact⟨rfl,a,b,rfl,h1,l,f,.inl<|by lia⟩
   .rintro c _ ⟨rfl,a,b,rfl,h1,l,f,k⟩;dsimp only;generalize U:hint+a+1=c at*;generalize O:hint+min b (n-hint)=d;refine F c d ⟨by lia,by lia,f,λi J M=>?_⟩;rcases k with k|k
    .lia
    .exact k i (by lia) M
  .refine mz (λi c s=>st=s/\ ∃a b,c=(I,a,b)/\a<b/\i<b/\a<=hint/\Hi (gp X left x) A (hint-a)) (λc s=>st=s/\ ∃a b,c=(I,a,b)/\a<b/\a<=hint/\Hi (gp X left x) A (hint-a)/\(hint<b\/Lo (gp X left x) A (hint-b+1)))
    ⟨rfl,0,1,rfl,by lia,by lia,by lia,EW u m<|by simpa[z] using e⟩ ?_ ?_ ?_
   .rintro i c _ E ⟨rfl,a,b,rfl,h1,o,l,f⟩;dsimp only;refine jm (λz=>iJ ⟨rfl,a,b,rfl,h1,l,f,.inl z⟩) λz=>CV hk t w v (by lia) λc e=>?_
    cases c with
    |true=>exact iJ ⟨rfl,a,b,rfl,h1,l,f,.inr<|EK u m (by lia) e⟩
    |false=>exact iJ ⟨rfl,_,_,rfl,by lia,by lia,by lia,EW u m e⟩
   .rintro c _ ⟨rfl,a,b,rfl,h1,o,l,f⟩;exact⟨rfl,a,b,rfl,h1,l,f,.inl<|by lia⟩
   .rintro c _ ⟨rfl,a,b,rfl,h1,l,f,k⟩;dsimp only;generalize O:hint-a=d at*;generalize U:hint+1-min b (hint+1)=c;refine F c d ⟨by lia,by lia,λi J=>?_,f⟩;rcases k with k|k
    .lia
    .exact k i (by lia)
 .rintro a b ⟨h1,o,l,f⟩;refine mz (λi c s=>st=s/\ ∃a b,c=(I,a,b)/\a<=b/\b<=n/\b<=a+(n-i)/\Lo (gp X left x) A a/\Hi (gp X left x) A b) (λc s=>st=s/\ ∃a,c=(I,a,a)/\a<=n/\Lo (gp X left x) A a/\Hi (gp X left x) A a) ⟨rfl,a,b,rfl,h1,o,by lia,l,f⟩ ?_ ?_ ?_
  .rintro i c _ E ⟨rfl,a,b,rfl,h1,o,l,f,k⟩;refine jm (λz=>?_) λz=>CV hk t w v (by dsimp only at z ⊢;lia) λc e=>?_
   .have:a=b:=by dsimp only at z;lia
    subst this;exact iJ ⟨rfl,a,rfl,o,f,k⟩
   .dsimp only at z
    cases c with
    |true=>exact iJ ⟨rfl,_,b,rfl,by dsimp only;lia,o,by dsimp only;lia,EK u m (by dsimp only;lia) e,k⟩
    |false=>exact iJ ⟨rfl,a,_,rfl,by dsimp only;lia,by dsimp only;lia,by dsimp only;lia,f,EW u m e⟩
  .rintro c _ ⟨rfl,a,b,rfl,h1,o,l,f,k⟩;have:a=b:=by lia
   subst this;exact⟨rfl,a,rfl,o,f,k⟩
  .rintro c _ ⟨rfl,a,rfl,o,f,k⟩;exact iJ<|h a o (IB f)<|IQ k
end
section
variable {X:Cs}{β:Type}{Q:β->rW->Prop}{st:rW}{pq:Array (Nat×Nat×Nat)}{q r L Z a b o k:jU}{i j x y:Nat}{le:Nat->Nat->Prop}{out:Bh}
structure MG(le:Nat->Nat->Prop)(Z a b o:jU):Prop where
 s:o.Pairwise le
 c: ∀x∈o,∀y∈a++b,le x y
 p:(o++(a++b)).Perm Z
 ua:a.Pairwise le
 ub:b.Pairwise le
def MG.put(m:MG le Z (k++a) b o)(h: ∀x∈k,∀y∈b,le x y):MG le Z a b (o++k):=by
 have f:=tK.mp m.ua;refine⟨tK.mpr ⟨m.s,f.1,λx e y d=>m.c x e y<|by simp[d]⟩,λx e y d=>?_,by simpa using m.p,f.2.1,m.ub⟩;rcases qb.mp e with e|e
 .refine m.c x e y ?_;simp at d ⊢;exact .inr d
 .rcases qb.mp d with d|d
  .exact f.2.2 x e y d
  .exact h x e y d
def Mg(X:Cs)(le:Nat->Nat->Prop)(Z a b:jU)(out:Bh):Prop:= ∃o,out=ar X o/\MG le Z a b o
def Rs(X:Cs)(Z:jU)(out:Bh):Prop:= ∃o,out=ar X o/\o.Pairwise X.le/\o.Perm Z
def Mg.sw(m:Mg X le Z a b out):Mg X le Z b a out:=by obtain⟨o,e,m⟩:=m;exact⟨o,e,m.s,λx d y f=>m.c x d y<|by simpa[or_comm] using f,(R7.append_left o).trans m.p,m.ub,m.ua⟩
def Mg.put(m:Mg X le Z a b out){a':jU}{c:Bh}(e:a=k++a')(h: ∀x∈k,∀y∈b,le x y)(d:c=out++ar X k):Mg X le Z a' b c:=by obtain⟨o,rfl,m⟩:=m;exact⟨o++k,by simpa[ar] using d,(e▸m).put h⟩
def Mg.a1(m:Mg X le Z (q.drop i) b out)(c:i<ZB q)(h: ∀y∈b,le q[i] y):Mg X le Z (q.drop<|i+1) b (out.push<|X.it q[i]):=m.put (k:=[q[i]]) (xt c) (by simpa using h) (by simp[ar])
def Mg.ak(m:Mg X le Z (q.drop i) b out)(h: ∀x∈(q.drop i).take j,∀y∈b,le x y):Mg X le Z (q.drop<|i+j) b (out++(ar X q).extract i (i+j)):=m.put (by rw[<-ta,vb]) h (by simp[ar,Ct])
def Mg.fin(m:Mg X X.le Z (q.drop i) (r.drop j) out)(h: ∀x∈q.drop i,∀y∈r.drop j,X.le x y):Rs X Z (out++(ar X q).extract i (ar X q).size++(ar X r).extract j (ar X r).size):=by obtain⟨o,e,m⟩:=((m.put (k:=q.drop i) (a':=[]) (by simp) h H).sw).put (k:=r.drop j) (a':=[]) (by simp) (by simp) H;exact⟨o,by rw[<-e];simp[ar,Ct,xp],m.s,by simpa using m.p⟩
def Mg.end(m:Mg X X.le Z (q.drop i) (r.drop j) out)(h:(ZB q)<=i\/(ZB r)<=j):Rs X Z (out++(ar X q).extract i (ar X q).size++(ar X r).extract j (ar X r).size):=m.fin λx c y d=>by
 rcases h with h|h
 .rw[zo h] at c;cases c
 .rw[zo h] at d;cases d
def Mg.hd(m:Mg X le Z (q.drop i) b out)(f: ∀{a b c},le a b->le b c->le a c)(e:i<ZB q)(h:le x q[i]): ∀y∈q.drop i,le x y:=λy d=>by
 obtain⟨o,_,m⟩:=m;have:=m.ua;rw[xt e] at this d;rcases kT.mp d with rfl|d
 .exact h
 .exact f h ((D8.mp this).1 y d)
def CU{f:Unit->StateT rW ey β}{n:Nat}(S:Rp X pq L st)(h: ∀c,Rp X pq L c->wp X (f ()) Q c):wp X (PK n>>=f) Q st:=vC (g:=λs=>SortSt.mk' (kindOf s) (fO s) (pendingOf s) n<|fZ s)<|h _ ⟨S.a,S.k,S.f,S.q,S.p⟩
def HI{e:Type}{k:e->Nat->StateT rW ey β}{m:StateT rW ey β}(P:e->Nat->rW->Prop)(f:(∀c n d,P c n d->wp X (k c n) Q d)->wp X m Q st)(hk: ∀c n d,P c n d->wp X (k c n) Q d):wp X m Q st:=f hk
def LH{k:Nat->StateT rW ey β}{m:StateT rW ey β}(P:Nat->rW->Prop)(d:(∀n c,P n c->wp X (k n) Q c)->wp X m Q st)(hk: ∀n c,P n c->wp X (k n) Q c):wp X m Q st:=d hk
def VS{Q:Array eV->rW->Prop}(S:Rp X pq L st)(u1:q.Pairwise X.le)(u2:r.Pairwise X.le)(U: ∀z∈q,z<X.N)(Y: ∀z∈r,z<X.N)(h1:0<ZB q)(h2:0<ZB r)(hd: ∀y∈q,X.le r[0] y)(top: ∀x∈r,X.le x q[ZB q-1])
  (h: ∀out s,Rp X pq L s->Rs X (q++r) out->Q out s):wp X (ND (ar X q)<|ar X r) Q st:=by
 have sq:(ar X q).size=(ZB q):=by simp
 have sr:(ar X r).size=(ZB r):=by simp
 have K:Mg X X.le (q++r) (q.drop 0) (r.drop 1) #[X.it r[0]]:=Mg.sw<|Mg.a1 (q:=r) (i:=0) (out:= #[]) ⟨[],rfl,.nil,by simp,by simpa using R7,by simpa using u2,by simpa using u1⟩ h2 hd
 have last: ∀{out i j},Mg X X.le (q++r) (q.drop i) (r.drop j) out->i+1=ZB q->Rs X (q++r) (out++(ar X r).extract j (ar X r).size++(ar X q).extract i (ar X q).size):=λ{_ i j} m e=>m.sw.fin λx O y C=>by
  have hi:i<(ZB q):=by lia
  rw[xt hi,zo<|by lia,AS] at C;have:=top x<|Cr O;simpa only[C,<-e,m4] using this
 refine tM<|md (x:=r[0]) (by simp[h2]) ?_;refine jm (λe=>iJ<|h _ _ S (K.end<|.inr<|by simp at e;lia)) λe=>jm (λv=>iJ<|h _ _ S (last K<|by simpa using v)) λv=>oP ?_
 let I:=λ(c:Nat) out d f s=>Rp X pq L s/\Mg X X.le (q++r) (q.drop d) (r.drop f) out/\d+1<ZB q/\f<ZB r/\c<=d+f
 refine mz (λi c s=> ∃out d f B,c=(Zw,out,d,f,B)/\I (i+1) out d f s) (λc s=> ∃out t,c=(Zv out,t)/\Rp X pq L s/\Rs X (q++r) out) ⟨_,0,1,_,rfl,S,K,by simp at v;lia,by simp at e;lia,by lia⟩ ?_ ?_ ?_
 .rintro i c s _ ⟨out,d,f,B,rfl,G⟩;refine mz (λj c s=> ∃out d f p u,c=(Zw,out,d,f,p,u)/\I (i+1+j) out d f s) (λc s=>(∃out t,c=(Zv out,t)/\Rp X pq L s/\Rs X (q++r) out)\/ ∃out d f p u,c=(Zw,out,d,f,p,u)/\I (i+1) out d f s) ⟨_,_,_,_,_,rfl,G⟩ ?_ ?_ ?_
  .rintro j c s _ ⟨out,d,f,p,u,rfl,S,m,E,l,H'⟩;dsimp only;refine md (x:=r[f]) (by simp[l]) (md (x:=q[d]) (by simp)<|Ea S.k (Y _ (by simp)) (U _ (by simp)) λb e=>?_)
   cases b with
   |true=>have n:=(m.sw.a1 l<|m.hd X.tr (by lia)<|X.as _ _ e).sw;exact md (x:=r[f]) (by simp[l])<|jm (λe=>iJ<|.inl ⟨_,_,rfl,S,n.end<|.inr<|by simp at e;lia⟩) λe=>jm (λ_=>iJ<|.inr ⟨_,_,_,_,_,rfl,S,n,E,by simp at e;lia,by lia⟩) λ_=>iJ ⟨_,_,_,_,_,rfl,S,n,E,by simp at e;lia,by lia⟩
   |false=>have n:=m.a1 (by lia)<|m.sw.hd X.tr l e;exact md (x:=q[d]) (by simp)<|jm (λe=>iJ<|.inl ⟨_,_,rfl,S,last n<|by simpa using e⟩) λe=>jm (λ_=>iJ<|.inr ⟨_,_,_,_,_,rfl,S,n,by simp at e;lia,l,by lia⟩) λ_=>iJ ⟨_,_,_,_,_,rfl,S,n,by simp at e;lia,l,by lia⟩
  .rintro c s ⟨out,d,f,p,u,rfl,S,m,E,l,H'⟩;exfalso;lia
  .rintro c s (⟨out,t,rfl,hs⟩|⟨out,d,f,p,u,rfl,G⟩)
   .exact iJ ⟨out,_,rfl,hs⟩
   .refine tM (mz (λj c s=> ∃out d f B p u,c=(Zw,out,d,f,B,p,u)/\I (i+1+j) out d f s) (λc s=>(∃out t,c=(Zv out,t)/\Rp X pq L s/\Rs X (q++r) out)\/ ∃out d f B p u,c=(Zw,out,d,f,B,p,u)/\I (i+2) out d f s) ⟨_,_,_,_,_,_,rfl,G⟩ ?_ ?_ ?_)
    .rintro j c s _ ⟨out,d,f,B,p,u,rfl,S,m,E,l,H'⟩;dsimp only;apply LH λ_ s=>Rp X pq L s
     .intro F;refine jm (λ_=>?_) λ_=>?_
      .generalize B-1=g;exact F g s S
      .exact F B s S
     intro g s S;refine CU S λs S=>md (x:=r[f]) (by simp[l])<|kx<|xJ (T:=q.take d) (A:=q.drop d) (R:=[]) S.k (λz D=>U z<|Cr D) (Y _ (by simp)) (u1.sublist<|F4 _ _) (by simp) (by simp;lia) (by simp) (by simp;lia) λk _ P V=>?_;dsimp only;apply HI λout d s=>Rp X pq L s/\Mg X X.le (q++r) (q.drop d) (r.drop f) out/\d+1<ZB q/\i+1+j<=d+f/\ ∀y∈q.drop d,X.le r[f] y
     .intro F;have mk:=m.ak (j:=k) λx O y C=>m.sw.hd (x:=x) X.tr l (by simpa using P x O) y C;have w: ∀y∈q.drop (d+k),X.le r[f] y:=λy C=>X.as _ _ (by simpa using V y<|by simpa using C);refine jm (λe=>?_) λe=>?_
      .refine jm (λM=>iJ<|.inl ⟨_,_,rfl,S,last mk<|by simpa using M⟩) λM=>jm (λv=>iJ<|.inl ⟨_,_,rfl,S,mk.end<|.inl<|by simp at v;lia⟩) λv=>?_;generalize out++(ar X q).extract d (d+k)=out at mk ⊢;generalize W:d+k=ic at mk w M v ⊢;exact F out ic s ⟨S,mk,by simp at M v;lia,by lia,w⟩
      .rw[show k=0 by lia] at w;exact F out d s ⟨S,m,E,H',w⟩
     rintro out d s ⟨S,m,E,H',w⟩;have n:=(m.sw.a1 l w).sw;refine md (x:=r[f]) (by simp[l])<|jm (λe=>iJ<|.inl ⟨_,_,rfl,S,n.end<|.inr<|by simp at e;lia⟩) λe=>md (x:=q[d]) (by simp)<|kx<|xJ (T:=r.take<|f+1) (A:=r.drop<|f+1) (R:=[]) S.k (λz D=>Y z<|Cr D) (U _ (by simp)) (u2.sublist<|F4 _ _) (by simp) (by simp;lia) (by simp) (by simp at e ⊢;lia) λJ _ P V=>?_;dsimp only;apply HI λout f s=>Rp X pq L s/\Mg X X.le (q++r) (q.drop d) (r.drop f) out/\f<ZB r/\i+1+j<d+f/\ ∀y∈r.drop f,X.le q[d] y
     .intro F;have mk:=(n.sw.ak (j:=J) λx O y C=>n.hd X.tr (by lia) (X.as _ _ (P x O)) y C).sw;have w: ∀y∈r.drop (f+1+J),X.le q[d] y:=λy C=>V y (by simpa using C);refine jm (λ_=>?_) λe3=>?_
      .refine jm (λv=>iJ<|.inl ⟨_,_,rfl,S,mk.end<|.inr<|by simp at v;lia⟩) λv=>?_;generalize out.push (X.it r[f])++(ar X r).extract (f+1) (f+1+J)=out at mk ⊢;generalize W:f+1+J=ic at mk w v ⊢;exact F out ic s ⟨S,mk,by simp at v;lia,by lia,w⟩
      .rw[show J=0 by lia] at w;exact F _ _ s ⟨S,n,by simp at e;lia,by lia,w⟩
     rintro out f s ⟨S,m,l,H',w⟩;have n:=m.a1 (by lia) w;exact md (x:=q[d]) (by simp)<|jm (λe=>iJ<|.inl ⟨_,_,rfl,S,last n<|by simpa using e⟩) λe=>jm (λ_=>iJ<|.inr ⟨_,_,_,_,_,_,rfl,S,n,by simp at e;lia,l,by lia⟩) λ_=>iJ ⟨_,_,_,_,_,_,rfl,S,n,by simp at e;lia,l,by lia⟩
    .rintro c s ⟨out,d,f,B,p,u,rfl,S,m,E,l,H'⟩;exfalso;lia
    .rintro c s (⟨out,t,rfl,hs⟩|⟨out,d,f,B,p,u,rfl,S,G⟩)
     .exact iJ ⟨out,_,rfl,hs⟩
     .exact CU S λs S=>iJ ⟨_,_,_,_,rfl,S,G⟩
 .rintro c s ⟨out,d,f,B,rfl,S,m,E,l,H'⟩;exfalso;lia
 .rintro c s ⟨out,t,rfl,S,m⟩;exact iJ<|h _ _ S m
end
section
variable {X:Cs}{f:Type}{Q:f->rW->Prop}{st:rW}{d:Array (Nat×Nat×Nat)}{q r L Z a b o k:jU}{i j x y n:Nat}{out:Bh}
theorem ss1(n:Nat):n+1-1=n:=rfl
abbrev Cs.ge(X:Cs)(i j:Nat):Prop:=X.le j i
def Mg.h1(m:Mg X X.ge Z (q.take<|n+1).reverse b out)(c:n<ZB q)(h: ∀y∈b,X.le y q[n]):Mg X X.ge Z (q.take n).reverse b (out.push<|X.it q[n]):=m.put (k:=[q[n]]) (by rw[F3];simp[c]) (by simpa using h) (by simp[ar])
def Mg.hk(m:Mg X X.ge Z (q.take n).reverse b out)(c:i<=n)(h: ∀x∈(q.take n).drop i,∀y∈b,X.le y x):Mg X X.ge Z (q.take i).reverse b (out++((ar X q).extract i n).reverse):=m.put (k:=((q.take n).drop i).reverse) (by rw[<-List.reverse_append,<-ze c,<-f4,ze c,vb]) (by simpa using h) (by simp[ar,List.extract_eq_drop_take'])
def Mg.finH(m:Mg X X.ge Z (q.take i).reverse (r.take j).reverse out)(h: ∀x∈q.take i,∀y∈r.take j,X.le x y):Rs X Z ((ar X q).extract 0 i++(ar X r).extract 0 j++out.reverse):=by obtain⟨o,e,m⟩:=(m.sw.put (k:=(r.take j).reverse) (a':=[]) (by simp) (by simpa using λx c y g=>h y g x c) H).sw.put (k:=(q.take i).reverse) (a':=[]) (by simp) (by simp) H;refine⟨o.reverse,?_,Gw.mpr m.s,(Cu o).trans<|by simpa using m.p⟩;have:=mV Array.reverse e;simpa[ar,Ct] using this
def Mg.endH(m:Mg X X.ge Z (q.take i).reverse (r.take j).reverse out)(h:i=0\/j=0):Rs X Z ((ar X q).extract 0 i++(ar X r).extract 0 j++out.reverse):=m.finH λx c y e=>by
 rcases h with rfl|rfl
 .cases c
 .cases e
def Mg.hdH(m:Mg X X.ge Z (q.take<|n+1).reverse b out)(e:n<ZB q)(h:X.le q[n] x): ∀y∈(q.take<|n+1).reverse,X.le y x:=λy c=>by
 obtain⟨o,_,m⟩:=m;have:=m.ua;rw[show(q.take<|n+1).reverse=q[n]::(q.take n).reverse by rw[F3];simp[e]] at this c;rcases kT.mp c with rfl|c
 .exact h
 .exact X.tr ((D8.mp this).1 y c) h
def VU{Q:Array eV->rW->Prop}(S:Rp X d L st)(u1:q.Pairwise X.le)(u2:r.Pairwise X.le)(hq: ∀z∈q,z<X.N)(hr: ∀z∈r,z<X.N)(h1:0<ZB q)(h2:0<ZB r)(hd: ∀y∈q,X.le r[0] y)(top: ∀x∈r,X.le x q[ZB q-1])
  (h: ∀out s,Rp X d L s->Rs X (q++r) out->Q out s):wp X (NF (ar X q)<|ar X r) Q st:=by
 have sq:(ar X q).size=(ZB q):=by simp
 have sr:(ar X r).size=(ZB r):=by simp
 have K:Mg X X.ge (q++r) (q.take<|ZB q-1).reverse (r.take<|ZB r).reverse #[X.it q[ZB q-1]]:=Mg.h1 (out:= #[]) ⟨[],rfl,.nil,by simp,by simpa[mL h1] using(Cu q).append (Cu r),by simpa[mL h1,Gw] using u1,by simpa[Gw] using u2⟩ (by lia) (by simpa using top)
 have last: ∀{out i},Mg X X.ge (q++r) (q.take i).reverse (r.take 1).reverse out->Rs X (q++r) ((ar X r).extract 0 1++(ar X q).extract 0 i++out.reverse):=λm=>m.sw.finH λx Y y U=>by obtain⟨b,r,rfl⟩:=sj h2;simp at Y;subst Y;exact hd y<|xo U
 refine tM<|md (x:=q[ZB q-1]) (by simp[h1]) ?_;rw[sq,sr];refine jm (λe=>iJ<|h _ _ S (K.endH<|.inl<|by simpa using e)) λe=>jm (λE=>iJ<|h _ _ S ?_) λE=>oP ?_
 .have E:(ZB r)=1:=by simpa using E
  rw[E] at K ⊢;exact last K
 let I:=λ(c:Nat) out l u s=>Rp X d L s/\Mg X X.ge (q++r) (q.take l).reverse (r.take u).reverse out/\0<l/\l<=ZB q/\1<u/\u<=ZB r/\c+l+u<=ZB q+ZB r
 refine mz (λi c s=> ∃l u out C,c=(Zw,l,u,out,C)/\I (i+1) out l u s) (λc s=> ∃out t,c=(Zv out,t)/\Rp X d L s/\Rs X (q++r) out) ⟨_,_,_,_,rfl,S,K,by simp at e;lia,by lia,by simp at E;lia,by lia,by lia⟩ ?_ ?_ ?_
 .rintro i c s _ ⟨l,u,out,C,rfl,i0⟩;refine mz (λj c s=> ∃l u out w B,c=(Zw,l,u,out,w,B)/\I (i+1+j) out l u s) (λc s=>(∃out t,c=(Zv out,t)/\Rp X d L s/\Rs X (q++r) out)\/ ∃l u out w B,c=(Zw,l,u,out,w,B)/\I (i+1) out l u s) ⟨_,_,_,_,_,rfl,i0⟩ ?_ ?_ ?_
  .rintro j c s _ ⟨l,u,out,w,B,rfl,S,m,G,J',H',b4,b5⟩;obtain⟨n,rfl⟩: ∃n,l=n+1:=⟨l-1,by lia⟩
   obtain⟨p,rfl⟩: ∃n,u=n+1:=⟨u-1,by lia⟩
   dsimp only[ss1];refine md (x:=r[p]) (by simp)<|md (x:=q[n]) (by simp)<|Ea S.k (hr _ (by simp)) (hq _ (by simp)) λb e=>?_
   cases b with
   |true=>have v:=m.h1 (by lia)<|m.sw.hdH (by lia)<|X.as _ _ e;exact md (x:=q[n]) (by simp)<|jm (λe=>iJ<|.inl ⟨_,_,rfl,S,v.endH<|.inl<|by simpa using e⟩) λe=>jm (λ_=>iJ<|.inr ⟨_,_,_,_,_,rfl,S,v,by simp at e;lia,by lia,H',b4,by lia⟩) λ_=>iJ ⟨_,_,_,_,_,rfl,S,v,by simp at e;lia,by lia,H',b4,by lia⟩
   |false=>
    have v:=(m.sw.h1 (by lia)<|m.hdH (by lia) e).sw;refine md (x:=r[p]) (by simp)<|jm (λe=>?_) λe=>jm (λ_=>iJ<|.inr ⟨_,_,_,_,_,rfl,S,v,G,J',by simp at e;lia,by lia,by lia⟩) λ_=>iJ ⟨_,_,_,_,_,rfl,S,v,G,J',by simp at e;lia,by lia,by lia⟩;obtain rfl:p=1:=by simpa using e
    exact iJ<|.inl ⟨_,_,rfl,S,last v⟩
  .rintro c s ⟨l,u,out,w,B,rfl,S,m,G,J',H',b4,b5⟩;exfalso;lia
  .rintro c s (⟨out,t,rfl,hs⟩|⟨l,u,out,w,B,rfl,i0⟩)
   .exact iJ ⟨out,_,rfl,hs⟩
   .refine tM (mz (λj c s=> ∃l u out C w B,c=(Zw,l,u,out,C,w,B)/\I (i+1+j) out l u s) (λc s=>(∃out t,c=(Zv out,t)/\Rp X d L s/\Rs X (q++r) out)\/ ∃l u out C w B,c=(Zw,l,u,out,C,w,B)/\I (i+2) out l u s) ⟨_,_,_,_,_,_,rfl,i0⟩ ?_ ?_ ?_)
    .rintro j c s _ ⟨l,u,out,C,w,B,rfl,S,m,G,J',H',b4,b5⟩;obtain⟨p,rfl⟩: ∃n,u=n+1:=⟨u-1,by lia⟩
     dsimp only[ss1];apply LH λ_ s=>Rp X d L s
     .intro F;refine jm (λ_=>?_) λ_=>?_
      .generalize C-1=g;exact F g s S
      .exact F C s S
     intro g s S;refine CU S λs S=>md (x:=r[p]) (by simp)<|kx<|xJ (T:=[]) (A:=q.take l) (R:=q.drop l) S.k (λz V=>hq z<|xo V) (hr _ (by simp)) (u1.sublist<|xF _ _) (by simp) H (by simp;lia) (by lia) λk hk W t2=>?_;dsimp only;apply HI λout l s=>Rp X d L s/\Mg X X.ge (q++r) (q.take l).reverse (r.take<|p+1).reverse out/\0<l/\l<=ZB q/\i+1+j+l+p<ZB q+ZB r/\ ∀y∈q.take l,X.le y r[p]
     .intro F;have mk:=m.hk hk λx Y y U=>m.sw.hdH (x:=x) (by lia) (X.as _ _ (by simpa using t2 x Y)) y U;have M: ∀y∈q.take k,X.le y r[p]:=λy U=>by simpa using W y (by rwa [f4,ze hk])
      refine jm (λe=>?_) λe=>?_
      .refine jm (λO=>iJ<|.inl ⟨_,_,rfl,S,mk.endH<|.inl<|by simpa using O⟩) λO=>?_;generalize out++((ar X q).extract k l).reverse=out at mk ⊢;generalize ea:k=ic at mk M O ⊢;exact F out ic s ⟨S,mk,by simp at O;lia,by lia,by lia,M⟩
      .obtain rfl:k=l:=by lia
       exact F out _ s ⟨S,m,G,J',by lia,M⟩
     rintro out na' s ⟨S,m,G,J',b5,M⟩;have v:=(m.sw.h1 (by lia)<|by simpa using M).sw;obtain⟨n,rfl⟩: ∃n,na'=n+1:=⟨na'-1,by lia⟩
     dsimp only[ss1];refine md (x:=r[p]) (by simp)<|jm (λe=>?_) λe=>md (x:=q[n]) (by simp)<|kx<|xJ (T:=[]) (A:=r.take p) (R:=r.drop p) S.k (λz V=>hr z<|xo V) (hq _ (by simp)) (u2.sublist<|xF _ _) (by simp) H (by simp;lia) (by lia) λD bu W t2=>?_
     .obtain rfl:p=1:=by simpa using e
      exact iJ<|.inl ⟨_,_,rfl,S,last v⟩
     dsimp only;apply HI λout u s=>Rp X d L s/\Mg X X.ge (q++r) (q.take<|n+1).reverse (r.take u).reverse out/\1<u/\u<=ZB r/\i+1+j+(n+1)+u<ZB q+ZB r/\ ∀y∈r.take u,X.le y q[n]
     .intro F;have mk:=(v.sw.hk bu λx Y y U=>v.hdH (x:=x) (by lia) (t2 x Y) y U).sw;have P: ∀y∈r.take D,X.le y q[n]:=λy U=>X.as _ _ (W y<|by rwa [f4,ze bu]);refine jm (λ_=>?_) λe3=>?_
      .refine jm (λO=>?_) λO=>jm (λE=>iJ<|.inl ⟨_,_,rfl,S,mk.endH<|.inr<|by simpa using E⟩) λE=>?_
       .obtain rfl:D=1:=by simpa using O
        exact iJ<|.inl ⟨_,_,rfl,S,last mk⟩
       generalize out.push (X.it r[p])++((ar X r).extract D p).reverse=out at mk ⊢;generalize ea:D=ic at mk P O E ⊢;exact F out ic s ⟨S,mk,by simp at O E;lia,by lia,by lia,P⟩
      .obtain rfl:D=p:=by lia
       exact F _ _ s ⟨S,v,by simp at e;lia,by lia,b5,P⟩
     rintro out u s ⟨S,m,H',b4,b5,M⟩;have v:=m.h1 (by lia) (by simpa using M);exact md (x:=q[n]) (by simp)<|jm (λe=>iJ<|.inl ⟨_,_,rfl,S,v.endH<|.inl<|by simpa using e⟩) λe=>jm (λ_=>iJ<|.inr ⟨_,_,_,_,_,_,rfl,S,v,by simp at e;lia,by lia,H',b4,by lia⟩) λ_=>iJ ⟨_,_,_,_,_,_,rfl,S,v,by simp at e;lia,by lia,H',b4,by lia⟩
    .rintro c s ⟨l,u,out,C,w,B,rfl,S,m,G,J',H',b4,b5⟩;exfalso;lia
    .rintro c s (⟨out,t,rfl,hs⟩|⟨l,u,out,C,w,B,rfl,S,i0⟩)
     .exact iJ ⟨out,_,rfl,hs⟩
     .exact CU S λs S=>iJ ⟨_,_,_,_,rfl,S,i0⟩
 .rintro c s ⟨l,u,out,C,rfl,S,m,G,J',H',b4,b5⟩;exfalso;lia
 .rintro c s ⟨out,t,rfl,S,m⟩;exact iJ<|h _ _ S m
end
section
variable {X:Cs}{t:Type}{Q:t->rW->Prop}{st:rW}{d:Array (Nat×Nat×Nat)}{T A B R L:jU}{i j x y n s:Nat}{o C:List (List Nat)}{r w:List (Nat×Nat×Nat)}
def Oi{c:Type}: ∀(m K T R:List c) (j a:Nat),a+j=ZB T->K.length=ZB m->(m.zipIdx j).foldl (λ(x:Array c) (p:c×Nat)=>x.setIfInBounds (a+p.2) p.1) (T++(K++R)).toArray=(T++(m++R)).toArray:=by
 intro f
 induction f with
 |nil=>intro K T R j a h b;rw[zi b];rfl
 |cons y m e=>intro K T R j a h b;obtain⟨k,K,rfl⟩:=sj (l:=K) (by simp[b]);rw[n8,Ge];have:=e K (T++[y]) R (j+1) a (by simp;lia) (by simpa using b);simpa[h] using this
def Rn(X:Cs):Nat->List (List Nat)->List (Nat×Nat×Nat)->Prop
 |_,[],[]=>True
 |s,A::o,p::r=>p.1=s/\p.2.1=ZB A/\A≠[]/\A.Pairwise X.le/\Rn X (s+ZB A) o r
 |_,_,_=>False
theorem Rn.cut: ∀{r:List (Nat×Nat×Nat)} {s:Nat} {o:List (List Nat)},Rn X s o (r++w)-> ∃a L2,o=a++L2/\Rn X (s+ZB a.flatten) L2 w/\ ∀M q,Rn X (s+ZB a.flatten) M q->Rn X s (a++M) (r++q)
 |[],s,o,h=>⟨[],o,rfl,h,λ_ _ h=>h⟩
 |p::r,s,[],h=>h.elim
 |p::r,s,A::o,h=>by
  obtain⟨h1,b,c,f,g⟩:=h;obtain⟨a,L2,rfl,k,l⟩:=Rn.cut g;have e:s+(A::a).flatten.length=s+ZB A+(ZB a.flatten):=by simp;lia
  exact⟨A::a,L2,rfl,e▸k,λM q h=>⟨h1,b,c,f,l M q<|e▸h⟩⟩
def S7{s:rW}{f:PUnit->StateT rW ey t}(h:wp X (f ⟨⟩) Q s):wp X (set s>>=f) Q st:=kx λ_ g=>by rw[StateT.run_set];exact iM ⟨g,h⟩
def upA(u:A.Pairwise X.le)(v:B.Pairwise X.le)(h: ∀a∈A,∀b∈B,X.le a b):(A++B).Pairwise X.le:=tK.mpr ⟨u,v,h⟩
def SR(a:L=T++(A++R))(b:i=ZB T)(c:j=ZB T+ZB A):(ar X L).extract i j=ar X A:=by subst a b c;simp[ar,Ct]
def Sa{Q:Bool->rW->Prop}(S:Rp X d (o.flatten++R) st)(hr:Rn X 0 o d.toList)(hi:i+1<d.size)(h: ∀f6 cc ip,Rp X cc (ip.flatten++R) f6->Rn X 0 ip cc.toList->cc.size+1=d.size->ZB ip.flatten=ZB o.flatten->Q Zx f6):wp X (mergeAt' i) Q st:=by
 obtain⟨d⟩:=d
 obtain⟨H,⟨D,F,P⟩,⟨sb,K,eE⟩,Y,rfl,rfl⟩: ∃H x y Y,d=H++x::y::Y/\(ZB H)=i:=by have hi:i+1<(ZB d):=hi;exact⟨d.take i,d[i],d[i+1],d.drop<|i+2,by simp,by simp;lia⟩
 obtain⟨L1,L2,rfl,h2,h3⟩:=Rn.cut hr
 obtain⟨A,B,L2,rfl⟩: ∃A B L,L2=A::B::L:=by
  match L2,h2 with
  |A::B::L,_=>exact⟨A,B,L,rfl⟩
  |[A],h=>exact h.2.2.2.2.elim
  |[],h=>exact h.elim
 obtain⟨O,v7,a1,V,hb,dP,b1,W,h4⟩:=h2;dsimp only at O v7 hb dP;obtain⟨κ',a',p',g,f'⟩:=st;have e1:a'=_:=S.a;have e2:p'=_:=S.q;subst e1 e2;rw[show(L1++A::B::L2).flatten++R=L1.flatten++(A++(B++(L2.flatten++R))) by simp] at S ⊢
 have fin: ∀f6 M,Rp X (H++(D,F+K,P)::Y).toArray (L1.flatten++(M++(L2.flatten++R))) f6->M.Perm (A++B)->M.Pairwise X.le->Q Zx f6:=λf6 M U em u=>by have em:=em.length_eq;rw[mF,<-v7,<-dP] at em;refine h _ (H++(D,F+K,P)::Y).toArray (L1++M::L2) (by simpa using U) (h3 _ _ ⟨O,em.symm,λe=>a1 ?_,u,by rwa [em,v7,dP,<-xm]⟩) (by simp;lia) (by simp;lia);exact zi (by rw[e] at em;simp at em;lia)
 have ep: ∀z,((H++(D,F,P)::(sb,K,eE)::Y).toArray.setIfInBounds (ZB H) z).eraseIdxIfInBounds (ZB H+1)=(H++z::Y).toArray:=λz=>by simp[sa,List.eraseIdx_append];intro;lia
 clear h h3 h4 hr;generalize L1.flatten=T at*;generalize L2.flatten++R=R at*;have hN: ∀z,z∈A\/z∈B->z<X.N:=λz l=>by simpa using S.p.mem_iff.mp<|qi _ (by rcases l with h|h<;>simp[h])
 obtain⟨y,B',eB⟩:=List.exists_cons_of_ne_nil b1
 have hy: ∀z∈B,X.le y z:=λz l=>by
  rw[eB] at W l;rcases kT.mp l with rfl|l
  .exact X.rf _
  .exact(D8.mp W).1 z l
 refine oP ?_;dsimp only;rw[show(H++(D,F,P)::(sb,K,eE)::Y).toArray[ZB H]?=Zv (D,F,P) by simp,show(H++(D,F,P)::(sb,K,eE)::Y).toArray[ZB H+1]?=Zv (sb,K,eE) by simp];dsimp only;rw[ep];refine S7<|md (x:=y) (by rw[eB];exact ix0<|by lia)<|kx<|xJ S.k (λz h=>hN z<|.inl h) (hN y<|.inr<|by simp[eB]) V Zz (by lia) v7.symm (by have:=LA.mpr a1;lia) λk hk t1 t2=>?_;have S2:Rp X (H++(D,F+K,P)::Y).toArray (T++(A++(B++R))) (SortSt.mk' κ' (ar X<|T++(A++(B++R))) (H++(D,F+K,P)::Y).toArray g f'):=⟨rfl,S.k,S.f,rfl,S.p⟩
 have done:(∀a∈A,X.le a y)->Q Zx (SortSt.mk' κ' (ar X<|T++(A++(B++R))) (H++(D,F+K,P)::Y).toArray g f'):=λz=>fin _ (A++B) (by simpa using S2) (.refl _) (upA V W λa O b hb=>X.tr (z a O)<|hy b hb);rw[v7] at hk;obtain⟨v,E,rfl,rfl⟩: ∃v E,A=v++E/\(ZB v)=k:=⟨A.take k,A.drop k,by simp,by simp;lia⟩
 have t1: ∀z∈v,X.le z y:=λz l=>by simpa using t1 z (by simpa using l)
 have t2: ∀z∈E,X.le y z:=λz l=>X.as _ _ (by simpa using t2 z<|by simpa using l);rw[mF] at v7 hb;dsimp only;rcases zh E with e|⟨A3,x,e⟩
 .subst e;rw[iP<|by simp[v7]];exact iJ<|done (by simpa using t1)
 rw[zg] at e;have l1:0<(ZB E):=by simp[e]
 rw[jc<|by simp;lia];refine md (x:=x) (by rw[e,show T++(v++(A3++[x])++(B++R))=T++((v++A3)++x::(B++R)) by simp];exact ix0 (by have:=mV dB e;simp at this ⊢;lia))<|kx<|xJ (T:=T++(v++E)) (R:=R) S.k (λz h=>hN z<|.inr h) (hN x<|.inl<|by simp[e]) W (by rw[<-oq]) (by simp;lia) dP.symm (by have:=LA.mpr b1;lia) λk2 bu t3 t4=>?_;rw[dP] at bu;obtain⟨I',J,rfl,rfl⟩: ∃I' J,B=I'++J/\(ZB I')=k2:=⟨B.take k2,B.drop k2,by simp,by simp;lia⟩
 have v3: ∀z∈I',X.le z x:=λz l=>X.as _ _ (by simpa using t3 z<|by simpa using l);have v4: ∀z∈J,X.le x z:=λz l=>by simpa using t4 z (by simpa using l)
 have lx: ∀a∈v++E,X.le a x:=by rw[e,<-oq] at V ⊢;exact EO X.tr V<|X.rf x
 cases I' with
 |nil=>exact iJ<|done λa O=>X.tr (lx a O)<|v4 y (by simp[show J=y::B' from eB])
 |cons b I'=>
  obtain rfl:b=y:=(va eB).1;refine jm (λc=>by simp at c) λ_=>?_;rw[SR (A:=E) (T:=T++v) (R:=b::I'++J++R) (by simp) (by simp;lia)<|by simp;lia,SR (A:=b::I') (T:=T++(v++E)) (R:=J++R) (by simp) (by simp;lia)<|by simp;lia]
  have Z: ∀G s,Rp X (H++(D,F+K,P)::Y).toArray (T++(v++E++(b::I'++J++R))) s->Rs X (E++b::I') G->Q (fZ s).isNone (setArr s<|G.toList.zipIdx.foldl (λa x=>a.setIfInBounds (D+ZB v+x.2) x.1)<|fO s):=λG s U ho=>by
   obtain⟨M,rfl,u,hp⟩:=ho;rw[U.f,U.a];refine fin _ (v++(M++J)) ⟨?_,U.k,U.f,U.q,h9 ?_ U.p⟩ ?_ ?_
   .have:=Oi (M.map X.it) ((E++b::I').map X.it) ((T++v).map X.it) ((J++R).map X.it) 0 (D+ZB v) (by simp;lia) (by simpa using hp.length_eq.symm);simpa[ar] using this
   .simpa using(((hp.append_right<|J++R).append_left v).append_left T)
   .simpa using((hp.append_right J).append_left v)
   .rw[tK] at V W;refine upA V.1 (upA u W.2.1 λa O c m=>?_) λa O c m=>?_
    .rcases qb.mp (hp.mem_iff.mp O) with O|O
     .exact X.tr (lx a<|by simp[O]) (v4 c m)
     .exact W.2.2 a O c m
    .have m:c∈E\/c∈b::I'++J:=by
      rcases qb.mp m with m|m
      .rcases qb.mp (hp.mem_iff.mp m) with m|m
       .exact .inl m
       .exact .inr (vA _ m)
      .exact .inr (qi _ m)
     rcases m with m|m
     .exact V.2.2 a O c m
     .exact X.tr (t1 a O) (hy c m)
  have hd: ∀z∈E,X.le (b::I')[0] z:=t2;have top: ∀z∈b::I',X.le z E[ZB E-1]:=λz l=>by subst e;simpa using v3 z l
  have l2:0<(b::I').length:=by simp
  have h3: ∀z∈E,z<X.N:=λz l=>hN z<|.inl (by simp[l]);have h4: ∀z∈b::I',z<X.N:=λz l=>hN z<|.inr<|vA _ l;have u1:=(tK.mp V).2.1;have u2:=(tK.mp W).1;exact jm (λc=>kx<|VS S2 u1 u2 h3 h4 l1 l2 hd top λG s U ho=>vC<|oP<|iJ<|Z G s U ho) λc=>kx<|VU S2 u1 u2 h3 h4 l1 l2 hd top λG s U ho=>vC<|oP<|iJ<|Z G s U ho
end
section
variable {X:Cs}{st:rW}{b:Array (Nat×Nat×Nat)}{A L:jU}
theorem Rn.mod{w:Nat}: ∀{c:List (Nat×Nat×Nat)} {s:Nat} {a:List (List Nat)} (i:Nat),Rn X s a c->Rn X s a (c.modify i λx=>(x.1,x.2.1,w))
 |[],s,a,i,h=>by cases i<;>exact h
 |p::c,s,[],i,h=>h.elim
 |p::c,s,A::a,0,h=>h
 |p::c,s,A::a,i+1,h=>⟨h.1,h.2.1,h.2.2.1,h.2.2.2.1,Rn.mod i h.2.2.2.2⟩
theorem Rn.le: ∀{c:List (Nat×Nat×Nat)} {s:Nat} {a:List (List Nat)},Rn X s a c->ZB c<=ZB a.flatten
 |[],s,a,h=>lL _
 |p::c,s,[],h=>h.elim
 |p::c,s,A::a,h=>by have:=Rn.le h.2.2.2.2;have:=LA.mpr h.2.2.1;simp at*;omega
theorem Rn.push{A:jU}{w:Nat}: ∀{d:List (Nat×Nat×Nat)} {s:Nat} {c:List (List Nat)},Rn X s c d->A≠[]->A.Pairwise X.le->Rn X s (c++[A]) (d++[(s+ZB c.flatten,ZB A,w)])
 |[],s,[],h,a,u=>⟨rfl,rfl,a,u,trivial⟩
 |[],s,A::c,h,a,u=>h.elim
 |p::d,s,[],h,a,u=>h.elim
 |p::d,s,B::c,h,a,u=>⟨h.1,h.2.1,h.2.2.1,h.2.2.2.1,by simpa[xm] using Rn.push (w:=w) h.2.2.2.2 a u⟩
def Pp{Q:Unit->rW->Prop}(S:Rp X #[] L st)(h: ∀E b L,Rp X b L E->L.Pairwise X.le->Q () E):wp X sortRuns' Q st:=by
 have I:(fO st).size=X.N:=by rw[S.a];simpa using S.p.length_eq
 have w: ∀{b L st},Rp X b L st->ZB L=X.N:=λS=>by simpa using S.p.length_eq
 rw[sortRuns'_eq];refine oP ?_;rw[I];dsimp only;refine mz (λi c s=> ∃b,∃g:List (List Nat),∃R,c=(Zw,ZB g.flatten)/\Rp X b (g.flatten++R) s/\Rn X 0 g b.toList/\i<=ZB g.flatten) (λc s=>c.1=Zw/\ ∃b g,Rp X b g.flatten s/\Rn X 0 g b.toList) ⟨#[],[],L,rfl,S,trivial,lL _⟩ ?_ ?_ ?_
 .rintro i c s t ⟨b,g,R,rfl,S,d,o⟩;have r:=w S;dsimp only;refine jm (λe=>?_) λe=>?_
  .obtain rfl:R=[]:=zi (by simp at r e;omega);exact iJ ⟨rfl,b,g,by simpa using S,d⟩
  obtain⟨x,R,rfl⟩:=sj (l:=R) (by simp at r e;omega);refine kx<|LJ S Zz (by simp at r ⊢;omega) λA R s S a1 u M=>?_;apply LH λn s=> ∃A R,n=ZB A/\Rp X b (g.flatten++(A++R)) s/\A≠[]/\A.Pairwise X.le
  .intro F;have T:=LA.mpr a1;refine jm (λe=>?_) λe=>?_
   .refine tM (kx<|S9 S Zz Zz T (by simp at r;omega) (by omega) u λA R s S o u=>jm (λc=>by simp at c) λ_=>?_);generalize J:min (X.N-ZB g.flatten) (minRun' X.N X.N 0)=n at o ⊢;exact F n s ⟨A,R,o.symm,S,by intro z;subst z;simp at o e;omega,u⟩
   .exact F (ZB A) s ⟨A,R,rfl,S,a1,u⟩
  rintro _ s ⟨A,R,rfl,S,a1,u⟩;refine oP ?_;apply Sb λs=> ∃b m,Rp X b (m.flatten++(A++R)) s/\Rn X 0 m b.toList/\(ZB m.flatten)=ZB g.flatten
  .intro F;rw[S.q]
   cases b.back? with
   |none=>exact F s ⟨b,g,S,d,rfl⟩
   |some z=>
    refine mz (λ_ c s=>c=(Zw,())/\ ∃b m,Rp X b (m.flatten++(A++R)) s/\Rn X 0 m b.toList/\(ZB m.flatten)=ZB g.flatten) (λc s=>c=(Zw,())/\ ∃b m,Rp X b (m.flatten++(A++R)) s/\Rn X 0 m b.toList/\(ZB m.flatten)=ZB g.flatten) ⟨rfl,b,g,S,d,rfl⟩ ?_ (λ_ _ h=>h) ?_
    .rintro j c s _ ⟨rfl,b,m,S,d,o⟩;refine oP ?_;rw[S.q]
     cases H:(if b.size>1 then b[b.size-2]? else Zw) with
     |none=>exact iJ ⟨rfl,b,m,S,d,o⟩
     |some z=>
      refine jm (λ_=>iJ ⟨rfl,b,m,S,d,o⟩) λ_=>kx<|Sa S d ?_ λs v y S d _ O=>jm (λc=>by simp at c) λ_=>iJ ⟨rfl,v,y,S,d,O.trans o⟩;split at H
      .omega
      .cases H
    .rintro c s ⟨rfl,b,m,S,d,o⟩;exact vC<|F _ ⟨_,m,⟨S.a,S.k,S.f,rfl,S.p⟩,by rw[S.q,Array.toList_modify];exact d.mod _,o⟩
  .rintro s ⟨b,m,S,d,o⟩;refine vC<|iJ ⟨_,m++[A],R,?_,⟨by simpa using S.a,S.k,S.f,rfl,by simpa using S.p⟩,?_,?_⟩
   .rw[List.flatten_append,mF,o];simp
   .rw[S.q,fo,<-o,<-xq (ZB m.flatten)];exact d.push a1 u
   .have:=LA.mpr a1;simp at*;omega
 .rintro c s ⟨b,g,R,rfl,S,d,o⟩;have r:=w S;obtain rfl:R=[]:=zi (by simp at r o;omega);exact⟨rfl,b,g,by simpa using S,d⟩
 .rintro⟨_,c⟩ s ⟨rfl,b,g,S,d⟩;have r:=w S;have G:=d.le;refine mz (λi c s=>c=(Zw,())/\ ∃b g,Rp X b g.flatten s/\Rn X 0 g b.toList/\(b.size<=1\/b.size+i<=X.N)) (λc s=>c=(Zw,())/\ ∃b g,Rp X b g.flatten s/\Rn X 0 g b.toList/\b.size<=1) ⟨rfl,b,g,S,d,.inr<|by rw[kz] at G;omega⟩ ?_ ?_ ?_
  .rintro i c s _ ⟨rfl,b,g,S,d,t⟩;refine oP ?_;rw[S.q];refine jm (λe=>iJ ⟨rfl,b,g,S,d,e⟩) λe=>kx<|Sa (R:=[]) (by simpa using S) d ((λc:Bool=>show(if c=Zx then b.size-2-1 else b.size-2)+1<b.size by split<;>omega) _) λs v y S d I _=>jm (λc=>by simp at c) λ_=>iJ ⟨rfl,v,y,by simpa using S,d,.inr<|by omega⟩
  .rintro c s ⟨rfl,b,g,S,d,t⟩;exact⟨rfl,b,g,S,d,by omega⟩
  .rintro c s ⟨rfl,b,g,S,d,t⟩;refine iJ<|h s b _ S ?_;obtain⟨C'⟩:=b
   match C',g,d,t with
   |[],[],_,_=>exact .nil
   |[p],[A],d,_=>simpa using d.2.2.2.1
   |p::[],A::B::g,d,_=>exact d.2.2.2.2.elim
   |[],A::g,d,_=>exact d.elim
   |p::C',[],d,_=>exact d.elim
   |p::U::C',g,d,t=>simp at t
end
end TS
namespace PX
open L2 PySem.SeqAt
open PySem.AutoSeq1 (wpAny_loadPart')
open PySem.MeetsSeq PySem.MeetsSeq2 PySem.MeetsSeq3
noncomputable def lG(op:dW)(i j:Int):Bool:=match op with
 | .Lt=>decide (i<j)| .LtE=>decide (i<=j)| .Gt=>decide (i>j)|_=>decide<|i>=j
def IM(op:dW):Prop:=op= .Lt\/op= .LtE\/op= .Gt\/op= .GtE
def R6(op:dW)(A:iU)(s:iC)(y x:iK)(b:Bool):Prop:= ∀(a:iX) (w:iR) (E:jn) (Q:jn),Q (.bool b) s->ag (ah a w) A (richCompare op y x) Q E s
def AR(op:dW)(A:iU)(s:iC)(fin:Bool):List (iK×iK)->Bool->Prop
 |[],r=>r=fin
 |(y,x)::jw,r=> ∃e,EqAt A s y x e/\(if e=J then AR op A s fin jw r else R6 op A s y x r)
def LW(l b:iu)(a i:mU)(n z:Nat)(q Q:Option iu)(E B:rY)(r:Bool):
  vu (bc.«tuple.__lt__» ⟨[.ref l,.ref b],[]⟩) (λA R s=>s.heap.get? l=Y {cls:= .type "tuple",dict:=q,data:= .seq a n,slots:=E}/\s.heap.get? b=Y {cls:= .type "tuple",dict:=Q,data:= .seq i z,slots:=B}/\
   AR .Lt A.in1 s (lG .Lt a.size i.size) (a.toList.zip i.toList) r/\R (.ok<|.ret<|.bool r) s):=
 .of_wp λf w A R s h=>by
  obtain⟨m,g,d,o,os⟩:=s;obtain⟨v,t,c,h⟩:=h;have f2:=Cq
  wp_walk using bX v,bX t,qE _ (λjw b k=>b.1=I/\k=⟨m,g,d,o,os⟩/\AR .Lt A.in1 ⟨m,g,d,o,os⟩ (lG .Lt a.size i.size) jw r) _
  case turn=>
   rintro⟨y,x⟩ jw b k ⟨j,rfl,e,u,c⟩;refine iz<|u f w _ _ ?_
   cases e with
   |true=>
    simp only[kG] at c
    wp_walk
    exact⟨rfl,rfl,c⟩
   |false=>
    simp only[jz,jP] at c;have p:=c f w
    wp_walk using p
    exact⟨_,rfl,by simpa using h⟩
  case fin=>
   rintro⟨T,U⟩ k ⟨j,rfl,c⟩;simp only at j;subst j;have c:r=lG .Lt a.size i.size:=c;rw[c] at h
   wp_walk
   exact⟨_,rfl,by simpa[bR,lG] using h⟩
  case h=>exact⟨rfl,rfl,c⟩
def LX(l b:iu)(a i:mU)(n z:Nat)(q Q:Option iu)(E B:rY)(r:Bool):
  vu (bc.«tuple.__le__» ⟨[.ref l,.ref b],[]⟩) (λA R s=>s.heap.get? l=Y {cls:= .type "tuple",dict:=q,data:= .seq a n,slots:=E}/\s.heap.get? b=Y {cls:= .type "tuple",dict:=Q,data:= .seq i z,slots:=B}/\
   AR .LtE A.in1 s (lG .LtE a.size i.size) (a.toList.zip i.toList) r/\R (.ok<|.ret<|.bool r) s):=
 .of_wp λf w A R s h=>by
  obtain⟨m,g,d,o,os⟩:=s;obtain⟨v,t,c,h⟩:=h;have f2:=Cq
  wp_walk using bX v,bX t,qE _ (λjw b k=>b.1=I/\k=⟨m,g,d,o,os⟩/\AR .LtE A.in1 ⟨m,g,d,o,os⟩ (lG .LtE a.size i.size) jw r) _
  case turn=>
   rintro⟨y,x⟩ jw b k ⟨j,rfl,e,u,c⟩;refine iz<|u f w _ _ ?_
   cases e with
   |true=>
    simp only[kG] at c
    wp_walk
    exact⟨rfl,rfl,c⟩
   |false=>
    simp only[jz,jP] at c;have p:=c f w
    wp_walk using p
    exact⟨_,rfl,by simpa using h⟩
  case fin=>
   rintro⟨T,U⟩ k ⟨j,rfl,c⟩;simp only at j;subst j;have c:r=lG .LtE a.size i.size:=c;rw[c] at h
   wp_walk
   exact⟨_,rfl,by simpa[bR,lG] using h⟩
  case h=>exact⟨rfl,rfl,c⟩
def LY(l b:iu)(a i:mU)(n z:Nat)(q Q:Option iu)(E B:rY)(r:Bool):
  vu (bc.«tuple.__gt__» ⟨[.ref l,.ref b],[]⟩) (λA R s=>s.heap.get? l=Y {cls:= .type "tuple",dict:=q,data:= .seq a n,slots:=E}/\s.heap.get? b=Y {cls:= .type "tuple",dict:=Q,data:= .seq i z,slots:=B}/\
   AR .Gt A.in1 s (lG .Gt a.size i.size) (a.toList.zip i.toList) r/\R (.ok<|.ret<|.bool r) s):=
 .of_wp λf w A R s h=>by
  obtain⟨m,g,d,o,os⟩:=s;obtain⟨v,t,c,h⟩:=h;have f2:=Cq
  wp_walk using bX v,bX t,qE _ (λjw b k=>b.1=I/\k=⟨m,g,d,o,os⟩/\AR .Gt A.in1 ⟨m,g,d,o,os⟩ (lG .Gt a.size i.size) jw r) _
  case turn=>
   rintro⟨y,x⟩ jw b k ⟨j,rfl,e,u,c⟩;refine iz<|u f w _ _ ?_
   cases e with
   |true=>
    simp only[kG] at c
    wp_walk
    exact⟨rfl,rfl,c⟩
   |false=>
    simp only[jz,jP] at c;have p:=c f w
    wp_walk using p
    exact⟨_,rfl,by simpa using h⟩
  case fin=>
   rintro⟨T,U⟩ k ⟨j,rfl,c⟩;simp only at j;subst j;have c:r=lG .Gt a.size i.size:=c;rw[c] at h
   wp_walk
   exact⟨_,rfl,by simpa[bR,lG] using h⟩
  case h=>exact⟨rfl,rfl,c⟩
def LZ(l b:iu)(a i:mU)(n z:Nat)(q Q:Option iu)(E B:rY)(r:Bool):
  vu (bc.«tuple.__ge__» ⟨[.ref l,.ref b],[]⟩) (λA R s=>s.heap.get? l=Y {cls:= .type "tuple",dict:=q,data:= .seq a n,slots:=E}/\s.heap.get? b=Y {cls:= .type "tuple",dict:=Q,data:= .seq i z,slots:=B}/\
   AR .GtE A.in1 s (lG .GtE a.size i.size) (a.toList.zip i.toList) r/\R (.ok<|.ret<|.bool r) s):=
 .of_wp λf w A R s h=>by
  obtain⟨m,g,d,o,os⟩:=s;obtain⟨v,t,c,h⟩:=h;have f2:=Cq
  wp_walk using bX v,bX t,qE _ (λjw b k=>b.1=I/\k=⟨m,g,d,o,os⟩/\AR .GtE A.in1 ⟨m,g,d,o,os⟩ (lG .GtE a.size i.size) jw r) _
  case turn=>
   rintro⟨y,x⟩ jw b k ⟨j,rfl,e,u,c⟩;refine iz<|u f w _ _ ?_
   cases e with
   |true=>
    simp only[kG] at c
    wp_walk
    exact⟨rfl,rfl,c⟩
   |false=>
    simp only[jz,jP] at c;have p:=c f w
    wp_walk using p
    exact⟨_,rfl,by simpa using h⟩
  case fin=>
   rintro⟨T,U⟩ k ⟨j,rfl,c⟩;simp only at j;subst j;have c:r=lG .GtE a.size i.size:=c;rw[c] at h
   wp_walk
   exact⟨_,rfl,by simpa[bR,lG] using h⟩
  case h=>exact⟨rfl,rfl,c⟩
section
variable {A:iU}{s:iC}{l b:iu}{a c:mU}{r:Bool}
def Mw(T:IM op)(B:s.heap.IsTuple l a)(z:s.heap.IsTuple b c)(i:A.units<aT)(j:AR op A.in1 s (lG op a.size c.size) (a.toList.zip c.toList) r):R6 op A s (.ref l) (.ref b) r:=λv w E Q h=>by
 obtain⟨⟨y,g,t,p⟩,d,u,n,hd⟩:=id B;obtain⟨⟨U,o,data2,m⟩,e,q,k,f⟩:=id z;simp only at u hd q f;subst u hd q f;rcases T with rfl|rfl|rfl|rfl
 .exact Cp (op:= .Lt) ⟨_,d,rfl⟩ ⟨_,e,rfl⟩ PySem.F.slot_tuple_lt PySem.F.entry_tuple_lt (PySem.F.args_tuple_lt_2 _ _) (LW l b a c n k g o p m r) ⟨d,e,j,show cY r≠dr/\Q (.bool r) s from⟨(λx=>nomatch x),h⟩⟩ i
 .exact Cp (op:= .LtE) ⟨_,d,rfl⟩ ⟨_,e,rfl⟩ PySem.F.slot_tuple_le PySem.F.entry_tuple_le (PySem.F.args_tuple_le_2 _ _) (LX l b a c n k g o p m r) ⟨d,e,j,show cY r≠dr/\Q (.bool r) s from⟨(λx=>nomatch x),h⟩⟩ i
 .exact Cp (op:= .Gt) ⟨_,d,rfl⟩ ⟨_,e,rfl⟩ PySem.F.slot_tuple_gt PySem.F.entry_tuple_gt (PySem.F.args_tuple_gt_2 _ _) (LY l b a c n k g o p m r) ⟨d,e,j,show cY r≠dr/\Q (.bool r) s from⟨(λx=>nomatch x),h⟩⟩ i
 .exact Cp (op:= .GtE) ⟨_,d,rfl⟩ ⟨_,e,rfl⟩ PySem.F.slot_tuple_ge PySem.F.entry_tuple_ge (PySem.F.args_tuple_ge_2 _ _) (LZ l b a c n k g o p m r) ⟨d,e,j,show cY r≠dr/\Q (.bool r) s from⟨(λx=>nomatch x),h⟩⟩ i
end
mutual
noncomputable def ng(a:dW):D->D->Option Bool
 | .int i,.int j=>Y<|lG a i j
 | .tup l,.tup m=>rm a l m
 |_,_=>I
noncomputable def rm(a:dW):List D->List D->Option Bool
 |[],m=>Y<|lG a 0<|ZB m
 |x::l,[]=>Y<|lG a ((x::l).length) 0
 |x::l,y::m=>if D.eqb x y=J then rm a l m else ng a x y
end
def qX(c:dW)(a b k:Int):lG c (a+k) (b+k)=lG c a b:=by
 cases c<;>simp[lG]
section
variable {X:Cx}{c:jq}{f:L2.St}{H:Hp}{s:iC}
def Eu(b:IM op):R6 op A s (.int i t) (.int j u) (lG op i j):=λa w E Q h=>by
 rcases b with rfl|rfl|rfl|rfl
 .exact(A2 h:ag (ah a w) A (aJ .Lt _ _) Q E s)
 .exact(BB h:ag (ah a w) A (aJ .LtE _ _) Q E s)
 .exact(B1 h:ag (ah a w) A (aJ .Gt _ _) Q E s)
 .exact(B2 h:ag (ah a w) A (aJ .GtE _ _) Q E s)
def Mx(N:IM op)(I:Inv X c f H s): ∀(n:Nat) (d e:D) (v u:V) (a b:iK) (O B:AP') (A:iU) (r:Bool),ke X.K H O d v->ke X.K H B e u->RelV v a->RelV u b->d.dep<=n->e.dep<20000->A.units+n<aT->ng op d e=Zv r->R6 op A s a b r:=by
 intro n
 induction n with
 |zero=>
  intro d e v u a b O B A r hd T G J M W hA g
  cases d with
  |int i=>
   cases e with
   |int j=>have:=jr hd;subst this;have:=jr T;subst this;obtain⟨t,rfl⟩:=G;obtain⟨t',rfl⟩:=J;rw[ng] at g;rw[<-kE g];exact Eu N
   |_=>rw[ng] at g<;>first|cases g|(intros;simp_all)
  |tup l=>rw[D.dep] at M;lia
  |_=>rw[ng] at g<;>first|cases g|(intros;simp_all)
 |succ n ih=>
  intro d e v u a b O B A r hd T G J M W hA g
  cases d with
  |int i=>
   cases e with
   |int j=>have:=jr hd;subst this;have:=jr T;subst this;obtain⟨t,rfl⟩:=G;obtain⟨t',rfl⟩:=J;rw[ng] at g;rw[<-kE g];exact Eu N
   |_=>rw[ng] at g<;>first|cases g|(intros;simp_all)
  |tup l=>
   cases e with
   |tup m=>
    rw[ng] at g;rw[D.dep] at M W;obtain⟨p,E,rfl,q,z⟩:=lz hd;obtain⟨p2,L,rfl,q2,o⟩:=lz T;cases G;cases J;obtain⟨h,Q,pl,_⟩:=I.tuple q;obtain⟨w,C,g7,_⟩:=I.tuple q2;have S:A.in1.units=A.units+1:=rfl
    have Y: ∀(l m:List D) (E L:List V) (h w:jy) (k:Int),D.depL l+1<=n+1->D.depL m<20000->RepL X.K H O l E->RepL X.K H B m L->Vals E h->Vals L w->rm op l m=Zv r->AR op A.in1 s (lG op (h.length+k)<|w.length+k) (h.zip w) r:=by
     intro l
     induction l with
     |nil=>
      intro m E L h w k F P z o Q C g;rw[RepL] at z;subst z;cases Q;rw[rm] at g;have e1:=o.length;have e2:=C.length;show r=_;rw[qX,<-kE g]
      congr 1
      lia
     |cons x l U=>
      intro m E L h w k F P z o Q C g;rw[RepL] at z;obtain⟨Z,xr,rfl,g1,g2⟩:=z
      cases Q with
      |cons a1 a2=>
       cases m with
       |nil=>
        rw[RepL] at o;subst o;cases C;rw[rm] at g;have e1:=g2.length;have e2:=a2.length;rw[kA];show r=_;rw[qX,<-kE g]
        congr 1
        simp only[lQ];lia
       |cons y m=>
        rw[RepL] at o;obtain⟨vy,yr,rfl,g3,g4⟩:=o
        cases C with
        |cons b1 b2=>
         rw[rm] at g;rw[D.depL] at F P;rw[qD];refine⟨D.eqb x y,AG I n x y Z vy _ _ O B A.in1 (.inl g1) (.inl g3) a1 b1 (by lia) (by lia) (by rw[S];lia),?_⟩
         cases R:D.eqb x y with
         |true=>
          rw[R,iP Zz] at g;rw[iP Zz];have:=U m xr yr _ _ (k+1) (by lia) (by lia) g2 g4 a2 b2 g;simp only[lQ];have e: ∀a:Nat,(((a+1:Nat):Int)+k)=(a:Int)+(k+1):=λa=>by lia
          rw[e,e];exact this
         |false=>rw[R,jc ku] at g;rw[jc ku];exact ih x y Z vy _ _ O B A.in1 r (.inl g1) (.inl g3) a1 b1 (by lia) (by lia) (by rw[S];lia) g
    have:=Y l m E L h w 0 (by lia) (by lia) z o Q C g;refine Mw N pl g7 (by lia) ?_;simpa using this
   |_=>rw[ng] at g<;>first|cases g|(intros;simp_all)
  |_=>rw[ng] at g<;>first|cases g|(intros;simp_all)
noncomputable def rQ(a:dW)(d e:D):Option (D×Bool):=if d.dep<=50/\e.dep<=50 then(ng a d e).map λb=>(.bl b,C) else I
def ue(b:IM op)(l:X.A.units+60<aT):OpR X (aJ op) (rD X.K<|rQ op):=by
 intro c s f H x y v u Q U j k h;obtain⟨O,d,e,z,np,h1,g,a,G⟩:=h;unfold rQ at a;split at a
 .rename_i hd;obtain⟨r,i,rfl⟩:=jk a;have:=Mx b U 50 d e x y v u O O X.A r h1 g j k hd.1 (by lia) (by lia) i X.prog X.w X.xe (EP X c f Q) ⟨.bl r,H,U,rfl,G.bl⟩;rcases b with rfl|rfl|rfl|rfl<;>exact this
 .cases a
end
open TS
section
variable {b:iX}{w:iR}{A:iU}{E:jn}{s:iC}
noncomputable def pM(h:iT)(a:iu)(c:jy):Heap:=((h.update a<|aG λ_=> #[]).push<|bp "tuple" c.toArray 0).push<|bp "list" #[] 0
noncomputable def N3(a:jy)(i:Nat):Keyed:=(a.getD i au,a.getD i au)
def uO{a:iu}{c:jy}{n:Nat}{P:z8->Shared->Prop}{κ:rd}{lt:Nat->Nat->Bool}(t:s.heap.get? a=Zv (bp "list" c.toArray n))(B:(ZB c)<=sizeLine)(T: ∀i j,lt i j=Zx->lt j i=Zy)(N: ∀{i j k},lt j i=Zy->lt k j=Zy->lt k i=Zy)
  (hk:2<=ZB c->ag (ah b w) A (keyKind' c.toArray) (λg d=>d={s with heap:=pM s.heap a c}/\g=κ) (λ_ _=>False) {s with heap:=pM s.heap a c})
  (ask:2<=ZB c->Ask (ah b w) A (λd=>d={s with heap:=pM s.heap a c}) (N3 c) κ (ZB c) lt)
  (h: ∀p:List Nat,p.Perm (aw<|ZB c)->p.Pairwise (λi j=>lt j i=Zy)->P (.done<|.ret .none) {s with heap:=(pM s.heap a c).update a (aG λ_=>(p.map λi=>c.getD i au).toArray)}):
  ag (ah b w) A (bc.«list.sort» ⟨[.ref a],[]⟩) P E s:=by
 rw[list_sort_plain];have U:a<s.heap.objs.size:=jN t;refine iz<|FZ t Zz<|iz<|uZ t Zz ?_ (by rw[kj];exact B)<|lL _;obtain⟨v,C⟩: ∃v,(s.heap.update a<|aG λ_=>(#[]:Array iK)).get? a=Zv (bp "list" #[] v):=⟨_,xl t λ_=> #[]⟩
 refine iz<|zd C Zz<|iz<|CB ?_ (by show (ZB c)<=_;exact B);refine iz<|Co ?_<|lL _;refine lM ?_;have q:(pM s.heap a c).get? a=Zv (bp "list" #[] v):=jM _ (jM _ C);show ag (ah b w) A _ P E {s with heap:=pM s.heap a c};dsimp only;by_cases l:c.toArray.size<2
 .rw[iP l,iP l];refine iz<|iM ?_;rw[F6];refine iz<|iM ?_;dsimp only;refine iz<|zd q Zz<|iz<|uZ q Zz ?_ (lL _) ?_
  .simp only[uC,jz,jP];refine iM ?_;have u:(ZB c)<2:=by simpa using l
   have:=h (aw<|ZB c) (uY _) (by rw[Pe];intro i j m J Y;simp at m J;lia)
   have e:((c.toArray.zip c.toArray).map (·.2))=((aw<|ZB c).map λi=>c.getD i au).toArray:=by
    apply Ev
    .simp
    .intro i h1 G;have m:i<(ZB c):=by simpa using h1
     simp[m]
   rw[e];exact this
  .rw[ss,sm];simp;lia
 .rw[jc l,jc l];have u:2<=(ZB c):=by simpa using l
  refine iz<|ou (hk u) (λg d z=>?_) λ_ _ x=>x.elim;obtain⟨rfl,rfl⟩:=z;refine iz (ou (Pp (X:=⟨_,A,E,λd=>d={s with heap:=pM s.heap a c},N3 c,lt,g,ZB c,T,N,ask u⟩) (L:=aw<|ZB c) ⟨?_,rfl,rfl,rfl,.refl _⟩ (Q:=λ_ r=> ∃p,(fO r).map (·.2)=(p.map λi=>c.getD i au).toArray/\fZ r=Zw/\p.Perm (aw<|ZB c)/\p.Pairwise λi j=>lt j i=Zy) (λr _ p R y=>⟨p,?_,R.f,R.p,y⟩) _ rfl) ?_ λ_ _ e=>e)
  .show c.toArray.zip c.toArray=_;apply Ev
   .simp
   .intro i h1 G;have m:i<(ZB c):=by simpa using h1
    simp[N3,m]
  .rw[R.a];simp[N3]
  rintro⟨⟨⟩,r⟩ d ⟨rfl,H,o,O,I,y⟩;dsimp only;have M:(ZB H)=(ZB c):=by simpa using I.length_eq
  refine iz<|zd q Zz<|iz<|uZ q Zz ?_ (lL _) ?_
  .rw[O];simp only[uC,jz,jP];rw[o];exact iM<|h H I y
  .rw[o,kj,kh,M];lia
end
mutual
noncomputable def cT:D->D->Ordering
 | .int i,.int j=>if i<j then .lt else if i=j then .eq else .gt
 | .int _,_=> .lt
 | .tup _,.int _=> .gt
 | .tup l,.tup m=>cL l m
 | .tup _,_=> .lt
 |_,.int _=> .gt
 |_,.tup _=> .gt
 |_,_=> .eq
noncomputable def cL:List D->List D->Ordering
 |[],[]=> .eq
 |[],_::_=> .lt
 |_::_,[]=> .gt
 |x::l,y::m=>match cT x y with
  | .lt=> .lt
  | .gt=> .gt
  | .eq=>cL l m
end
mutual
theorem Je: ∀x:D,cT x x= .eq
 | .int i=>by simp[cT]
 | .tup l=>by rw[cT];exact Jg l
 | .non=>by simp[cT]
 | .bl _=>by simp[cT]
 | .str _=>by simp[cT]
 | .lst _=>by simp[cT]
 | .oth _ _ _=>by simp[cT]
theorem Jg: ∀l:List D,cL l l= .eq
 |[]=>by simp[cL]
 |x::l=>by rw[cL,Je x];exact Jg l
end
mutual
theorem wR: ∀x y:D,cT y x=(cT x y).swap
 | .int i,.int j=>by
  rw[cT,cT];by_cases h1:i<j
  .rw[iP h1,jc<|by lia,jc<|by lia];rfl
  .rw[jc h1];by_cases a:i=j
   .rw[iP a,jc<|by lia,iP a.symm];rfl
   .rw[jc a,iP<|by lia];rfl
 | .tup l,.tup m=>by rw[cT,cT];exact Jf l m
 | .int _,.tup _=>by simp[cT]
 | .int _,.non=>by simp[cT]
 | .int _,.bl _=>by simp[cT]
 | .int _,.str _=>by simp[cT]
 | .int _,.lst _=>by simp[cT]
 | .int _,.oth _ _ _=>by simp[cT]
 | .tup _,.int _=>by simp[cT]
 | .tup _,.non=>by simp[cT]
 | .tup _,.bl _=>by simp[cT]
 | .tup _,.str _=>by simp[cT]
 | .tup _,.lst _=>by simp[cT]
 | .tup _,.oth _ _ _=>by simp[cT]
 | .non,y=>by cases y<;>simp[cT]
 | .bl _,y=>by cases y<;>simp[cT]
 | .str _,y=>by cases y<;>simp[cT]
 | .lst _,y=>by cases y<;>simp[cT]
 | .oth _ _ _,y=>by cases y<;>simp[cT]
theorem Jf: ∀l m:List D,cL m l=(cL l m).swap
 |[],[]=>by simp[cL]
 |[],_::_=>by simp[cL]
 |_::_,[]=>by simp[cL]
 |x::l,y::m=>by
  rw[cL,cL,wR x y];cases h:cT x y<;>simp[fR]
  exact Jf l m
end
def NQ(h1:cT x y≠ .gt)(a:cT y x≠ .gt):cT x y= .eq:=by
 rw[wR x y] at a
 cases h:cT x y with
 |lt=>rw[h] at a;exact absurd H a
 |eq=>rfl
 |gt=>exact absurd h h1
mutual
theorem wQ: ∀x y z:D,cT x y≠ .gt->cT y z≠ .gt->cT x z≠ .gt
 | .int i,y,z,h1,d=>by
  cases z with
  |int k=>
   cases y with
   |int j=>
    rw[cT] at h1 d ⊢
    have a:i<=j:=by
     by_cases a:i<j
     .lia
     .rw[jc a] at h1;by_cases b:i=j
      .lia
      .rw[jc b] at h1;exact absurd H h1
    have b:j<=k:=by
     by_cases a:j<k
     .lia
     .rw[jc a] at d;by_cases b:j=k
      .lia
      .rw[jc b] at d;exact absurd H d
    by_cases c:i<k
    .rw[iP c];simp
    .rw[jc c,iP<|by lia];simp
   |_=>simp[cT] at d
  |_=>simp[cT]
 | .tup l,y,z,h1,d=>by
  cases y with
  |int j=>simp[cT] at h1
  |tup m=>
   cases z with
   |int k=>simp[cT] at d
   |tup n=>rw[cT] at h1 d ⊢;exact Fi l m n h1 d
   |_=>simp[cT]
  |_=>cases z<;>simp_all [cT]
 | .non,y,z,h1,d=>by cases y<;>cases z<;>simp_all [cT]
 | .bl _,y,z,h1,d=>by cases y<;>cases z<;>simp_all [cT]
 | .str _,y,z,h1,d=>by cases y<;>cases z<;>simp_all [cT]
 | .lst _,y,z,h1,d=>by cases y<;>cases z<;>simp_all [cT]
 | .oth _ _ _,y,z,h1,d=>by cases y<;>cases z<;>simp_all [cT]
 termination_by x y z=>sizeOf x+sizeOf y+sizeOf z
theorem Fi: ∀l m n:List D,cL l m≠ .gt->cL m n≠ .gt->cL l n≠ .gt
 |[],m,n,_,_=>by cases n<;>simp[cL]
 |x::l,[],n,h1,_=>by simp[cL] at h1
 |x::l,y::m,[],_,a=>by simp[cL] at a
 |x::l,y::m,z::n,h1,a=>by
  have a1:cT x y≠ .gt:=λh=>by rw[cL,h] at h1;exact h1 H
  have c:cT y z≠ .gt:=λh=>by rw[cL,h] at a;exact a H
  have g:=wQ x y z a1 c;rw[cL]
  cases b:cT x z with
  |lt=>simp
  |gt=>exact absurd b g
  |eq=>
   have f:cT z x≠ .gt:=by rw[wR x z,b];simp[fR]
   have d:cT x y= .eq:=NQ a1<|wQ y z x c f;have e:cT y z= .eq:=NQ c<|wQ z x y f a1;rw[cL,d] at h1;rw[cL,e] at a;exact Fi l m n h1 a
 termination_by l m n=>sizeOf l+sizeOf m+sizeOf n
end
noncomputable def ltT(x y:D):Bool:=cT x y== .lt
def WD:ltT x y=J↔cT x y= .lt:=by simp[ltT]
def qv:ltT x y=C↔cT x y≠ .lt:=by simp[ltT]
def Sw:ltT y x=C↔cT x y≠ .gt:=by rw[qv,wR x y];cases cT x y<;>simp[fR]
def Xg(x y:D)(h:ltT x y=J):ltT y x=C:=by rw[Sw,WD.mp h];simp
def VW(h1:ltT y x=C)(a:ltT z y=C):ltT z x=C:=Sw.mpr<|wQ _ _ _ (Sw.mp h1) (Sw.mp a)
mutual
/-- ints,and tuples of such -/
noncomputable def D.pr:D->Bool
 | .int _=>J
 | .tup l=>D.prL l
 |_=>C
noncomputable def D.prL:List D->Bool
 |[]=>J
 |x::l=>D.pr x&&D.prL l
end
mutual
theorem Hn: ∀x y:D,D.pr x=J->D.pr y=J->D.eqb x y=(cT x y== .eq)
 | .int i,.int j,_,_=>by
  rw[D.eqb,cT];by_cases h:i=j
  .subst h;simp
  .rw[jc h];by_cases a:i<j<;>simp[h,a]
 | .int _,.tup _,_,_=>by simp[D.eqb,cT]
 | .tup _,.int _,_,_=>by simp[D.eqb,cT]
 | .tup l,.tup m,h1,a=>by rw[D.eqb,cT];rw[D.pr] at h1 a;exact IY l m h1 a
 | .non,_,h,_=>by simp[D.pr] at h
 | .bl _,_,h,_=>by simp[D.pr] at h
 | .str _,_,h,_=>by simp[D.pr] at h
 | .lst _,_,h,_=>by simp[D.pr] at h
 | .oth _ _ _,_,h,_=>by simp[D.pr] at h
 |_,.non,_,h=>by simp[D.pr] at h
 |_,.bl _,_,h=>by simp[D.pr] at h
 |_,.str _,_,h=>by simp[D.pr] at h
 |_,.lst _,_,h=>by simp[D.pr] at h
 |_,.oth _ _ _,_,h=>by simp[D.pr] at h
theorem IY: ∀l m:List D,D.prL l=J->D.prL m=J->D.eqbL l m=(cL l m== .eq)
 |[],[],_,_=>by simp[D.eqbL,cL]
 |[],_::_,_,_=>by simp[D.eqbL,cL]
 |_::_,[],_,_=>by simp[D.eqbL,cL]
 |x::l,y::m,h1,a=>by rw[D.prL,lC] at h1 a;rw[D.eqbL,cL,Hn x y h1.1 a.1,IY l m h1.2 a.2];cases cT x y<;>simp
end
mutual
theorem wU: ∀x y:D,D.pr x=J->D.pr y=J->cT x y= .eq->x=y
 | .int i,.int j,_,_,h=>by
  rw[cT] at h;by_cases h1:i<j
  .rw[iP h1] at h;cases h
  .rw[jc h1] at h;by_cases c:i=j
   .rw[c]
   .rw[jc c] at h;cases h
 | .tup l,.tup m,a,b,h=>by rw[cT] at h;rw[D.pr] at a b;rw[Fj l m a b h]
 | .int _,.tup _,_,_,h=>by simp[cT] at h
 | .tup _,.int _,_,_,h=>by simp[cT] at h
 | .non,_,a,_,_=>by simp[D.pr] at a
 | .bl _,_,a,_,_=>by simp[D.pr] at a
 | .str _,_,a,_,_=>by simp[D.pr] at a
 | .lst _,_,a,_,_=>by simp[D.pr] at a
 | .oth _ _ _,_,a,_,_=>by simp[D.pr] at a
 |_,.non,_,a,_=>by simp[D.pr] at a
 |_,.bl _,_,a,_=>by simp[D.pr] at a
 |_,.str _,_,a,_=>by simp[D.pr] at a
 |_,.lst _,_,a,_=>by simp[D.pr] at a
 |_,.oth _ _ _,_,a,_=>by simp[D.pr] at a
theorem Fj: ∀l m:List D,D.prL l=J->D.prL m=J->cL l m= .eq->l=m
 |[],[],_,_,_=>rfl
 |[],_::_,_,_,h=>by simp[cL] at h
 |_::_,[],_,_,h=>by simp[cL] at h
 |x::l,y::m,a,b,h=>by
  rw[D.prL,lC] at a b;rw[cL] at h
  cases e:cT x y with
  |eq=>rw[e] at h;rw[wU x y a.1 b.1 e,Fj l m a.2 b.2 h]
  |lt=>rw[e] at h;cases h
  |gt=>rw[e] at h;cases h
end
mutual
theorem DT: ∀x y:D,D.pr x=J->D.pr y=J-> ∀b,ng .Lt x y=Y b->b=ltT x y
 | .int i,.int j,_,_,b,h=>by
  rw[ng] at h;rw[<-kE h,ltT,cT,lG];by_cases h1:i<j
  .simp[h1]
  .rw[jc h1];by_cases a:i=j<;>simp[h1,a]
 | .int _,.tup _,_,_,b,h=>by simp[ng] at h
 | .tup _,.int _,_,_,b,h=>by simp[ng] at h
 | .tup l,.tup m,h1,a,b,h=>by rw[ng] at h;rw[D.pr] at h1 a;rw[ltT,cT];exact Jb l m h1 a b h
 | .non,_,h,_,_,_=>by simp[D.pr] at h
 | .bl _,_,h,_,_,_=>by simp[D.pr] at h
 | .str _,_,h,_,_,_=>by simp[D.pr] at h
 | .lst _,_,h,_,_,_=>by simp[D.pr] at h
 |_,.non,_,h,_,_=>by simp[D.pr] at h
 |_,.bl _,_,h,_,_=>by simp[D.pr] at h
 |_,.str _,_,h,_,_=>by simp[D.pr] at h
 |_,.lst _,_,h,_,_=>by simp[D.pr] at h
theorem Jb: ∀l m:List D,D.prL l=J->D.prL m=J-> ∀b,rm .Lt l m=Y b->b=(cL l m== .lt)
 |[],[],_,_,b,h=>by rw[rm] at h;rw[<-kE h];simp[lG,cL]
 |[],_::_,_,_,b,h=>by rw[rm] at h;rw[<-kE h];simp[lG,cL]<;>lia
 |_::_,[],_,_,b,h=>by rw[rm] at h;rw[<-kE h];simp[lG,cL]<;>lia
 |x::l,y::m,h1,a,b,h=>by
  rw[D.prL,lC] at h1 a;rw[rm,Hn x y h1.1 a.1] at h;rw[cL]
  cases c:cT x y with
  |eq=>rw[c] at h;simp at h;exact Jb l m h1.2 a.2 b h
  |lt=>rw[c] at h;simp at h;have:=DT x y h1.1 a.1 b h;rw[this,ltT,c]
  |gt=>rw[c] at h;simp at h;have:=DT x y h1.1 a.1 b h;rw[this,ltT,c]
end
section
variable {a:Type}(lt:a->a->Bool)
noncomputable def DC(x:a):List a->List a
 |[]=>[x]
 |y::l=>if lt y x=J then y::DC x l else x::y::l
noncomputable def mH:List a->List a
 |[]=>[]
 |x::l=>DC lt x<|mH l
theorem ui(x:a): ∀l:List a,(DC lt x l).Perm (x::l)
 |[]=>uY _
 |y::l=>by
  rw[DC];split
  .exact((ui x l).cons y).trans (im x y l)
  .exact uY _
theorem kH: ∀l:List a,(mH lt l).Perm l
 |[]=>uY _
 |x::l=>(ui lt x _).trans<|(kH l).cons x
end
def N4{x:D}: ∀{l:List D},(l.Pairwise λx y=>ltT y x=C)->(DC ltT x l).Pairwise λx y=>ltT y x=C:=by
 intro d
 induction d with
 |nil=>intro _;exact La _ _
 |cons y l c=>
  intro h;have h:=D8.mp h;rw[DC]
  cases b:ltT y x with
  |true=>
   refine D8.mpr ⟨λz a=>?_,c h.2⟩;rcases kT.mp ((ui ltT x l).mem_iff.mp a) with rfl|a
   .exact Xg _ _ b
   .exact h.1 z a
  |false=>
   refine D8.mpr ⟨λz a=>?_,D8.mpr h⟩;rcases kT.mp a with rfl|a
   .exact b
   .exact VW b (h.1 z a)
theorem qm: ∀l:List D,(mH ltT l).Pairwise λx y=>ltT y x=C
 |[]=>cH
 |x::l=>N4<|qm l
def Mb{l m:List D}(h: ∀x∈m,D.pr x=J)(a:l.Perm m)(c:l.Pairwise λx y=>ltT y x=C):l=mH ltT m:=
 K9 (λx y d e h1 b=>wU x y (h x<|a.mem_iff.mp d) (h y<|(kH ltT m).mem_iff.mp e)<|NQ (Sw.mp h1)<|Sw.mp b) c (qm m) (a.trans (kH ltT m).symm)
def Jw{a:List D}{p:jU}(pr: ∀x∈a,D.pr x=J)(d:p.Perm (aw<|ZB a))(f:p.Pairwise λi j=>ltT (a.getD j .non) (a.getD i .non)=C):p.map (λi=>a.getD i .non)=mH ltT a:=by
 have e:(aw<|ZB a).map (λi=>a.getD i .non)=a:=by apply zm;intro i;by_cases c:i<ZB a<;>simp[c]
 have b:=d.map λi=>a.getD i .non;rw[e] at b;exact Mb pr b<|pG.mpr f
noncomputable def lA:D->Option Nat
 | .int _=>Y 0
 | .tup (.int _::_)=>Y 1
 | .tup (.tup _::_)=>Y 2
 |_=>I
noncomputable def IJ:Nat->rd
 |0=>J4
 |1=>V2 J
 |_=>V2 C
structure SortsBy(k:Nat)(l:List D):Prop where
 hd: ∀x∈l,lA x=Zv k
 pr: ∀x∈l,D.pr x=Zx
 dp: ∀x∈l,x.dep<=50
 cm: ∀x∈l,∀y∈l,(ng .Lt x y).isSome=Zx
noncomputable def nr(l:List D):Bool:=ZB l<=1||match l with
 |[]=>J
 |x::_=>(lA x).isSome&&(l.all λy=>lA y==lA x&&D.pr y&&decide (y.dep<=50))&&l.all λy=>l.all λz=>(ng .Lt y z).isSome
def Bq(h:nr l=J):(ZB l)<=1\/ ∃k,SortsBy k l:=by
 unfold nr at h;rw[xj] at h;rcases h with h|h
 .left;simpa using h
 .right
  cases l with
  |nil=>exact⟨0,λx a=>absurd a my,λx a=>absurd a my,λx a=>absurd a my,λx a=>absurd a my⟩
  |cons x m=>simp only[lC,mY,vh] at h;obtain⟨⟨h1,c⟩,d⟩:=h;obtain⟨k,hk⟩:=Jn.mp h1;refine⟨k,λy b=>?_,λy b=>(c y b).1.2,λy b=>(c y b).2,λy b z e=>d y b z e⟩;have:=(c y b).1.1;rw[hk] at this;simpa using this
section
variable {X:Cx}{d:jq}{f:L2.St}{H:Hp}{s:iC}
def tR(v:Vals xs a)(b:i<a.length):RelV (xs.getD i .non) (a.getD i au):=by
 have e:=v.length;have h:xs[i]?=Y xs[i]:=jt (by omega);obtain⟨w,c,j⟩:=v.get h;have h1:xs.getD i .non=xs[i]:=by simp[show i<xs.length by omega]
 have g:a.getD i au=w:=by rw[jt b] at c;have:=kE c;simp[b,this]
 rw[h1,g];exact j
def uc(r:RepL X.K H O ds xs)(a:i<ds.length):Rep X.K H O (ds.getD i .non) (xs.getD i .non):=by
 have e:=r.length;have hd:ds[i]?=Y ds[i]:=jt a;obtain⟨v,b,g⟩:=r.get hd;have h1:ds.getD i .non=ds[i]:=by simp[a]
 have c:xs.getD i .non=v:=by rw[jt<|by lia] at b;have:=kE b;simp[show i<xs.length by lia,this]
 rw[h1,c];exact g
def Ak{ds:List D}{i:Nat}(a:i<ZB ds):ds.getD i .non∈ds:=by simp[a]
theorem ET(I:Inv X d f H s){A:iU}{b:Bool}{O z:AP'}(hA:A.units+60<aT){r:Bool}{Q:vU}(n:Q r s): ∀(l m:List D) (u v:List V) (g o:jy) (k:Int) (i:Nat),D.depL l<=50->D.depL m<=50->
  ((b&&i==0)=J-> ∀x y l' m',l=x::l'->m=y::m'->(∃a,x= .int a)/\ ∃c,y= .int c)->RepL X.K H O l u->RepL X.K H z m v->Vals u g->Vals v o->rm .Lt l m=Zv r->
  ∀fin:Bool,fin=lG .Lt (g.length+k) (o.length+k)->PySem.W.KatLex X.prog X.w A b fin Q (g.zip o) i s
 |[],m,u,v,g,o,k,i,_,_,_,p,q,v1,v2,j,fin,hf=>by
  rw[RepL] at p;subst p;cases v1;rw[rm] at j;have U:=q.length;have Y:=v2.length;show Q fin s;rw[hf,qX];rw[<-kE j] at n;have:lG .Lt ((([]:List iK).length:Nat):Int) (o.length:Int)=lG .Lt 0 (m.length:Int):=by congr 1;lia
  rw[this];exact n
 |x::l,[],u,v,g,o,k,i,_,_,_,p,q,v1,v2,j,fin,hf=>by
  rw[RepL] at q;subst q;cases v2;rw[rm] at j;have U:=p.length;have Y:=v1.length;rw[kA];show Q fin s;rw[hf,qX];rw[<-kE j] at n;have:lG .Lt (g.length:Int) ((([]:List iK).length:Nat):Int)=lG .Lt (((x::l).length:Nat):Int) 0:=by congr 1;lia
  rw[this];exact n
 |x::l,y::m,u,v,g,o,k,i,J',M,hb,p,q,v1,v2,j,fin,hf=>by
  rw[RepL] at p q;obtain⟨L,P,rfl,g1,g2⟩:=p;obtain⟨T,R,rfl,g3,F⟩:=q
  cases v1 with
  |cons a1 G=>
   cases v2 with
   |cons B N=>
    rw[rm] at j;rw[D.depL] at J' M;rw[qD];refine PySem.W.kat_cons<|AG I 50 x y L T _ _ O z A (.inl g1) (.inl g3) a1 B (by lia) (by lia) (by lia) X.prog X.w _ _ ?_
    cases E:D.eqb x y with
    |true=>
     rw[E,iP Zz] at j;refine PySem.W.kat_yes<|ET I hA n l m P R _ _ (k+1) (i+1) (by lia) (by lia) (λh=>by simp at h) g2 F G N j fin ?_;rw[hf];simp only[lQ];have e: ∀a:Nat,(((a+1:Nat):Int)+k)=(a:Int)+(k+1):=λa=>by lia
     rw[e,e]
    |false=>
     rw[E,jc ku] at j;refine PySem.W.kat_no ?_
     cases C:(b&&i==0) with
     |true=>obtain⟨⟨a,rfl⟩,c,rfl⟩:=hb C x y l m Zz Zz;have:=g1.int;subst this;have:=g3.int;subst this;obtain⟨t,rfl⟩:=a1;obtain⟨S,rfl⟩:=B;rw[ng] at j;rw[<-kE j] at n;exact oneLt_int n
     |false=>exact PySem.W.kat_one _ _ (Mx (.inl Zz) I 50 x y L T _ _ O z A r (.inl g1) (.inl g3) a1 B (by lia) (by lia) (by lia) j X.prog X.w _ _ n)
def Xf(I:Inv X d f H s){O:AP'}{u:List D}{N:List V}{e:jy}{A:iU}(hA:A.units+60<aT)(rr:RepL X.K H O u N)(v:Vals N e){k:Nat}(B:SortsBy k u):
  Ask (ah X.prog X.w) A (λT=>T=s) (N3 e) (IJ k) e.length (λi j=>ltT (u.getD i .non)<|u.getD j .non):=by
 intro i j hi hj T aj E';subst aj;have e1:=rr.length;have e2:=v.length;have J:u.getD i .non∈u:=Ak (by lia);have M:u.getD j .non∈u:=Ak (by lia);have ri:=uc rr (i:=i) (by lia);have rj:=uc rr (i:=j) (by lia);have vi:=tR v hi;have vj:=tR v hj;obtain⟨b,E⟩:=Jn.mp<|B.cm _ J _ M;have i6:=DT _ _ (B.pr _ J) (B.pr _ M) b E;have r:=B.hd _ J;have g:=B.hd _ M;have di:=B.dp _ J;have dj:=B.dp _ M;show ag _ _ (KE (IJ k) (e.getD i au)<|e.getD j au) _ _ _;dsimp only;rw[<-i6];generalize u.getD i .non=x at*;generalize u.getD j .non=y at*;generalize N.getD i .non=vx at*;generalize N.getD j .non=vy at*;generalize e.getD i au=a at*;generalize e.getD j au=c at*
 have C: ∀(l m:List D) (G:Bool),x= .tup l->y= .tup m->(G=Zx-> ∀x y Z m',l=x::Z->m=y::m'->(∃a,x= .int a)/\ ∃c,y= .int c)->ag (ah X.prog X.w) A (KE (V2 G) a c) (λU R=>R=T/\U=b) E' T:=λl m G F P hh=>by subst F P;obtain⟨p,us,rfl,q,r1⟩:=ri.tup;obtain⟨p2,ws,rfl,q2,r2⟩:=rj.tup;cases vi;cases vj;obtain⟨S,w1,⟨o,ho,hc,n,hd⟩,_⟩:=I.tuple q.sq;obtain⟨L,w2,⟨o2,o6,ba,n2,Y⟩,_⟩:=I.tuple q2.sq;rw[ng] at E;rw[D.dep] at di dj;refine PySem.W.kat_lt ho hd o6 Y ?_;have:=ET I (b:=G) hA (Q:=λU R=>R=T/\U=b) ⟨rfl,rfl⟩ l m us ws S L 0 0 (by lia) (by lia) (λh=>hh<|by simpa using h) r1 r2 w1 w2 E (decide<|S.toArray.size<L.toArray.size) (by simp[lG]);simpa using this
 match k,r,g with
 |0,r,g=>
  cases x with
  |int ix=>
   cases y with
   |int iy=>have:=ri.int;subst this;have:=rj.int;subst this;obtain⟨t,rfl⟩:=vi;obtain⟨t',rfl⟩:=vj;rw[ng] at E;rw[<-kE E];show ag _ _ (KE J4 _ _) _ _ _;rw[keyLt'_oneType];exact oneLt_int ⟨rfl,rfl⟩
   |tup m=>cases m with
    |nil=>simp[lA] at g
    |cons z m=>cases z<;>simp[lA] at g
   |_=>simp[lA] at g
  |tup m=>cases m with
   |nil=>simp[lA] at r
   |cons z m=>cases z<;>simp[lA] at r
  |_=>simp[lA] at r
 |1,r,g=>
  cases x with
  |tup l=>
   cases y with
   |tup m=>
    refine C l m Zx Zz Zz λ_ x y Z m' F P=>?_;subst F P;refine⟨?_,?_⟩
    .cases x with
     |int a=>exact⟨a,rfl⟩
     |_=>simp[lA] at r
    .cases y with
     |int a=>exact⟨a,rfl⟩
     |_=>simp[lA] at g
   |_=>simp[lA] at g
  |_=>simp[lA] at r
 |(n+2),r,g=>
  cases x with
  |tup l=>
   cases y with
   |tup m=>exact C l m Zy Zz Zz λh=>absurd h ku
   |_=>simp[lA] at g
  |_=>simp[lA] at r
end
open PySem.W
section
variable {X:Cx}{c:jq}{y:L2.St}{H:Hp}{s:iC}
def Fb(I:Inv X c y H s){O:AP'}{T:iK}(P:D->Prop)(m: ∀x v u,P x->Rep X.K H O x v->RelV v u->Looks (ah X.prog X.w) s.heap (lf u) T): ∀{ds:List D} {b:List V} {a:jy},RepL X.K H O ds b->Vals b a->
  (∀d∈ds,∃x l,d= .tup (x::l)/\P x)-> ∃fs,KatTups s.heap a fs/\(ZB fs)=ZB a/\ ∀f∈fs,Looks (ah X.prog X.w) s.heap (lf f) T:=by
 intro C
 induction C with
 |nil=>intro b a r v _;rw[RepL] at r;subst r;cases v;exact⟨[],KatTups.nil,rfl,λf z=>absurd z my⟩
 |cons d ds B=>
  intro b a r v h;rw[RepL] at r;obtain⟨R,S,rfl,g1,g2⟩:=r
  cases v with
  |cons a1 j=>
   obtain⟨fs,E,L,Q⟩:=B g2 j λd hd=>h d<|jX _ hd;obtain⟨x,l,rfl,G⟩:=h d jT;obtain⟨p,F,rfl,q,i⟩:=g1.tup;cases a1;obtain⟨U,M,⟨o,A,t,n,hd⟩,_⟩:=I.tuple q.sq;rw[RepL] at i;obtain⟨J,W,rfl,g3,Y⟩:=i
   cases M with
   |cons k N=>
    rename_i f fr;refine⟨f::fs,KatTups.cons A t hd (by simp) E,by simp[L],λg e=>?_⟩;rcases kT.mp e with rfl|e
    .exact m x J _ G g3 k
    .exact Q g e
def UY(I:Inv X c y H s){O:AP'}{ds:List D}{J:List V}{b:jy}{A:iU}(f:RepL X.K H O ds J)(v:Vals J b){k:Nat}(B:SortsBy k ds)(M:2<=b.length):
  ag (ah X.prog X.w) A (keyKind' b.toArray) (λL s'=>s'=s/\L=IJ k) (λ_ _=>False) s:=by
 have P:=f.length;have R:=v.length
 match k,B with
 |0,B=>
  refine kas_kind (T:= .type "int") M (λu Y=>?_) Zz Zz ⟨rfl,rfl⟩;obtain⟨i,Q,e⟩:=zf Y;have G:=uc f (i:=i) (by lia);have E:=tR v Q;have hd:=B.hd _ (Ak (ds:=ds) (i:=i)<|by lia);have:b.getD i au=u:=by simp[Q,e]
  rw[this] at E
  cases h:ds.getD i .non with
  |int a=>rw[h] at G;have:=G.int;rw[this] at E;obtain⟨t,rfl⟩:=E;exact Looks.of_pure Zz
  |tup l=>
   rw[h] at hd
   cases l with
   |nil=>simp[lA] at hd
   |cons z m=>cases z<;>simp[lA] at hd
  |_=>rw[h] at hd;simp[lA] at hd
 |1,B=>
  obtain⟨fs,f1,f2,g⟩:=Fb I (T:= .type "int") (λx=> ∃a,x= .int a) (λx F u j C r=>by
   obtain⟨a,rfl⟩:=j;have:=C.int;subst this;obtain⟨t,rfl⟩:=r
   exact Looks.of_pure Zz) f v λd hd=>by
    have:=B.hd d hd
    cases d with
    |tup l=>
     cases l with
     |nil=>simp[lA] at this
     |cons z m=>
      cases z with
      |int a=>exact⟨_,m,rfl,a,rfl⟩
      |_=>simp[lA] at this
    |_=>simp[lA] at this
  exact kat_kind f1 (by lia) g Zz ⟨rfl,rfl⟩
 |(n+2),B=>
  obtain⟨fs,f1,f2,g⟩:=Fb I (T:= .type "tuple") (λx=> ∃a,x= .tup a) (λx F u j C r=>by
   obtain⟨a,rfl⟩:=j;obtain⟨p,Z,rfl,q,W⟩:=C.tup;cases r;obtain⟨S,w1,⟨o,U,N,n,hd⟩,_⟩:=I.tuple q.sq;have:Looks (ah X.prog X.w) s.heap (lf<|.ref p) o.cls:=(Looks.ld U).andThen .now
   rw[N] at this;exact this) f v λd hd=>by
    have:=B.hd d hd
    cases d with
    |tup l=>
     cases l with
     |nil=>simp[lA] at this
     |cons z m=>
      cases z with
      |tup a=>exact⟨_,m,rfl,a,rfl⟩
      |_=>simp[lA] at this
    |_=>simp[lA] at this
  exact kat_kind f1 (by lia) g Zz ⟨rfl,rfl⟩
noncomputable def kJ(l:List D):Option (D×Bool):=if nr l=J/\(ZB l)<=sizeLine then Y (.lst<|mH ltT l,J) else I
def mw(d:D):Option (D×Bool):=(yn d).bind kJ
def LQ{b:List V}{a:jy}(v:Vals b a): ∀(p:jU),(∀i∈p,i<ZB a)->Vals (p.map λi=>b.getD i .non) (p.map λi=>a.getD i au):=by
 intro f
 induction f with
 |nil=>intro _;exact .nil
 |cons i p e=>intro h;exact .cons (tR v<|h i jT)<|e λj d=>h j<|jX _ d
def Mq{O:AP'}{a:List D}{b:List V}(r:RepL X.K H O a b): ∀(p:jU),(∀i∈p,i<ZB a)->RepL X.K H O (p.map λi=>a.getD i .non) (p.map λi=>b.getD i .non):=by
 intro f
 induction f with
 |nil=>intro _;exact RepL.nil
 |cons i p e=>intro h;exact RepL.cons (uc r<|h i jT)<|e λj d=>h j<|jX _ d
def GH{b:List D}{n:Nat}(e:n=ZB b)(h1:(ZB b)<=1){p:jU}(a:p.Perm (aw n)):p.map (λi=>b.getD i .non)=mH ltT b:=by
 subst e
 match b,h1,a with
 |[],_,a=>
  have:p=[]:=by simpa using a.length_eq
  subst this;rfl
 |[d],_,a=>
  have e:(ZB p)=1:=by simpa using a.length_eq
  match p,e,a with
  |[i],_,a=>
   have:i=0:=by have:=a.mem_iff.mp<|AS.mpr Zz;simpa using this
   subst this;rfl
def ql(hu:X.A.units+62<aT)(I:Inv X c y H s){O:AP'}{f:List D}{M:List V}{a:jy}{x:iK}{Q:VK}{z:D×Bool}(u:RepL X.K H O f M)(v:Vals M a)(hg:kJ f=Zv z)(G:Gen X.K H O z Q)
  (hc: ∀(Y:List iK->Shared->Prop) (E':jn) (N:iU),N.handled=X.A.handled->(∀(h':iT) (d:Nat),(∀b o,s.heap.get? b=Zv o->h'.get? b=Zv o)->Y a {s with heap:=h',toks:=d})->ag (ah X.prog X.w) N (fV x) Y E' s):
  ag (ah X.prog X.w) X.A (call (.builtin "sorted") [x]) (EP X c y Q) X.xe s:=by
 unfold kJ at hg;obtain⟨⟨L,hz⟩,rfl⟩:=iY hg;have r:=u.length;have e2:=v.length;refine Calls.call_function_entry Zu Wp WP (args_sorted1 _) ?_;unfold bc.«sorted»;refine iz (m:=checkCount "sorted" 1 1 _)<|iM ?_;refine iz<|hc _ _ _ rfl λh1 d S=>?_;refine iz<|Co ?_ (by lia);have t:(h1.push<|bp "list" a.toArray 0).get? h1.objs.size=Zv (bp "list" a.toArray 0):=kc _ rfl;have C:Inv X c y H {s with heap:=h1,toks:=d}:=I.kept S
 have keep: ∀b o,h1.get? b=Zv o->(pM (h1.push<|bp "list" a.toArray 0) h1.objs.size a).get? b=Zv o:=λb o l=>by have R:b≠h1.objs.size:=jF<|jN l;refine jM _ (jM _ ?_);rw[FY _ _ _ _ R];exact jM _ l
 have U:Inv X c y H {s with heap:=pM (h1.push<|bp "list" a.toArray 0) h1.objs.size a,toks:=d}:=C.kept keep;have Z: ∀i∈aw a.length,i<a.length:=λi q=>by simpa using q
 refine iz<|lM<|nO (s:={s with heap:=h1.push<|bp "list" a.toArray 0,toks:=d}) I0 ⟨_,t,rfl⟩ B4 ?body<|args_list_sort _
 case body=>
  have fin: ∀p:List Nat,p.Perm (aw a.length)->p.map (λi=>f.getD i .non)=mH ltT f->EP X c y Q (.ref h1.objs.size) {s with heap:=(pM (h1.push<|bp "list" a.toArray 0) h1.objs.size a).update h1.objs.size<|aG λ_=>(p.map λi=>a.getD i au).toArray,toks:=d}:=λp e T=>by
   have F: ∀i∈p,i<a.length:=λi q=>by simpa using e.mem_iff.mp q
   have J: ∃n,(pM (h1.push<|bp "list" a.toArray 0) h1.objs.size a).get? h1.objs.size=Zv (bp "list" #[] n):=by
    obtain⟨r,W⟩: ∃r,((h1.push<|bp "list" a.toArray 0).update h1.objs.size<|aG λ_=>(#[]:Array iK)).get? h1.objs.size=Zv (bp "list" #[] r):=⟨_,xl t λ_=> #[]⟩
    exact⟨r,jM _ (jM _ W)⟩
   obtain⟨n,J⟩:=J;obtain⟨E,P⟩: ∃E,((pM (h1.push<|bp "list" a.toArray 0) h1.objs.size a).update h1.objs.size<|aG λ_=>(p.map λi=>a.getD i au).toArray).get? h1.objs.size=Zv (bp "list" (p.map λi=>a.getD i au).toArray E):=⟨_,xl J λ_=>(p.map λi=>a.getD i au).toArray⟩
   have g: ∀b o,h1.get? b=Zv o->((pM (h1.push<|bp "list" a.toArray 0) h1.objs.size a).update h1.objs.size<|aG λ_=>(p.map λi=>a.getD i au).toArray).get? b=Zv o:=λb o l=>by rw[FY _ _ _ _ (jF<|jN l)];exact keep b o l
   have pl:p.length=a.length:=by simpa using e.length_eq
   refine⟨.ref h1.objs.size,_,C.laid (t':=d) g (jQ _) (show ObjOk X.prog X.w _ _ _ (.lst<|p.map λi=>M.getD i .non) from⟨by rw[kh];lia,_,E,LQ v p F,P⟩),rfl,?_⟩;refine G.lst C.fresh ?_;rw[<-T];exact Mq u p λi q=>by have:=F i q;lia
  rcases Bq L with hlen|⟨k,B⟩
  .refine uO (κ:=general') (lt:=λ_ _=>Zy) (s:={s with heap:=h1.push<|bp "list" a.toArray 0,toks:=d}) t (by lia) (λ_ _ _=>rfl) (λ_ _=>rfl) (λh=>by lia) (λh=>by lia) λp e _=>⟨_,rfl,iM ⟨_,rfl,fin p e ?_⟩⟩
   exact GH (by lia) hlen e
  .refine uO (κ:=IJ k) (lt:=λi j=>ltT (f.getD i .non)<|f.getD j .non) (s:={s with heap:=h1.push<|bp "list" a.toArray 0,toks:=d}) t (by lia) (λ_ _=>Xg _ _) VW (λh=>UY U u v B h) (λ_=>Xf (A:=X.A.in1.in1) U (by show X.A.units+1+1+60<aT;lia) u v B) λp e T=>⟨_,rfl,iM ⟨_,rfl,fin p e<|Jw B.pr (by rw[show f.length=a.length by lia];exact e) T⟩⟩
def rn(j:X.A.units+62<aT):kF X (.builtin "sorted") (rDn X.K<|g1 mw):=nE λc s y H x u Q O d z U t np hd a G=>by
 obtain⟨l,g,a⟩:=ir a
 have M:l.length<=sizeLine:=by unfold kJ at a;exact(iY a).1.2
 cases d with
 |lst m=>
  cases g;obtain⟨p,J,rfl,q,r⟩:=kn hd;cases t;obtain⟨i,v,T,_⟩:=U.list q;have E:=r.length;have L:=v.length;obtain⟨o,h,f,n,hd⟩:=T.isList;refine ql j U r v a G λN B w _ e=>FX p (.inl Zz) h f hd (λb k=>by simpa using e b s.toks k) (by rw[kj];lia)
 |tup m=>
  cases g;obtain⟨p,J,rfl,q,r⟩:=lz hd;cases t;obtain⟨i,v,⟨o,h,f,n,hd⟩,_⟩:=U.tuple q;have E:=r.length;have L:=v.length;refine ql j U r v a G λN B w _ e=>FX p (.inr Zz) h f hd (λb k=>by simpa using e b s.toks k) (by rw[kj];lia)
 |_=>cases g
def Kr:ay "sorted"=Y (.builtin "sorted"):=by decide+kernel
end
def nJ:ay "isinstance"=Y (.builtin "isinstance"):=by decide+kernel
structure Tx(mg:ll):Prop where
 n_len:mg "len"=Zw
 n_abs:mg "abs"=Zw
 n_int:mg "int"=Zw
 n_tuple:mg "tuple"=Zw
 n_list:mg "list"=Zw
 n_range:mg "range"=Zw
 n_isinstance:mg "isinstance"=Zw
 n_bool:mg "bool"=Zw
 n_max:mg "max"=Zw
 n_min:mg "min"=Zw
 n_all:mg "all"=Zw
 n_any:mg "any"=Zw
 n_sorted:mg "sorted"=Zw
 n_enumerate:mg "enumerate"=Zw
 n_zip:mg "zip"=Zw
 n_set:mg "set"=Zw
def Ry{P:iX}{w:iR}{K:iW}{g:ll}{base:iT}{f:iu}{d:mD}{i:je}{k:Nat}:FnOk P w K g base CX0 k f d i (spF K λ_=>I) where
 len:=λj U Q E h=>by obtain⟨T,a,r,b,_,e,_⟩:=h;cases e
 run:=λA c s U a l j Q E _ _ _ _ h=>by obtain⟨T,a,r,b,_,e,_⟩:=h;cases e
def JC{K:iW}{U:Hp}{O:AP'}: ∀a:List Int,RepL K U O (a.map .int) (a.map V.int):=by
 intro c
 induction c with
 |nil=>exact RepL.nil
 |cons n a b=>exact RepL.cons Rep.mkInt<|b
section
variable {X:Cx}{a b c:iI}{i h g:FO}{d:bI}{f e:dW}
end
noncomputable def vIs(x:V)(c:Bool):Bool:=match x with
 | .bl b=>b==c
 |_=>C
noncomputable def gIs:D->D->Option (D×Bool)
 | .bl b,.bl c=>Y (.bl<|b==c,C)
 |_,.bl _=>Y (.bl C,C)
 | .non,.non=>Y (.bl J,C)
 |_,.non=>Y (.bl C,C)
 |_,_=>I
section
variable {X:Cx}
def Pr(a:RelV x v)(c:Bool):plainIs v (.bool c)=J/\(v== .bool c)=vIs x c:=by
 cases x<;>first
  |(cases a;exact⟨rfl,rfl⟩)
  |(obtain⟨t,rfl⟩:=a;exact⟨rfl,rfl⟩)
  |(rename_i b;cases a;refine⟨rfl,?_⟩;cases b<;>cases c<;>rfl)
def Nt:OpR X (aJ .Is) (λx y T Q=> ∃c,y= .bl c/\Q (.bl<|vIs x c) T):=by intro a s f T x y v u Q U d e h;obtain⟨c,rfl,q⟩:=h;cases e;obtain⟨h1,b⟩:=Pr d c;exact wpAny_is_plain h1<|Om U q (by rw[b])
def zK{K U}(h:ke K U O (.bl b) v):v= .bl b:=h.elim (λh=>h.bl) λ⟨_,_,h⟩=>h.elim
def xK{K U}(h:ke K U O .non v):v= .non:=h.elim (λh=>h.non) λ⟨_,_,h⟩=>h.elim
def LP{K U}(h:ke K U O d v)(f: ∀b,d≠ .bl b)(c:Bool):vIs v c=C:=by
 cases d with
 |bl b=>exact absurd H<|f b
 |non=>rw[xK h];rfl
 |int i=>rw[jr h];rfl
 |str x=>
   rcases h with h|⟨a,_,h⟩
   .rw[h.str];rfl
   .exact h.elim
 |tup l=>
   rcases h with h|⟨a,_,h⟩
   .rw[Rep] at h;obtain⟨a,e,rfl,_⟩:=h;rfl
   .exact h.elim
 |lst l=>
   rcases h with h|⟨a,rfl,h⟩
   .rw[Rep] at h;obtain⟨a,e,rfl,_⟩:=h;rfl
   .rfl
 |oth _ _ _=>
   rcases h with h|⟨a,rfl,h⟩
   .rw[Rep] at h;obtain⟨a,e,rfl,_⟩:=h;rfl
   .rfl
def Ee{K U}(h:ke K U O d v)(e:d≠ .non):v≠ .non:=by
 cases d with
 |bl b=>rw[zK h];intro z;cases z
 |non=>exact absurd H e
 |int i=>rw[jr h];intro z;cases z
 |str x=>
   rcases h with h|⟨a,_,h⟩
   .rw[h.str];intro z;cases z
   .exact h.elim
 |tup l=>
   rcases h with h|⟨a,_,h⟩
   .rw[Rep] at h;obtain⟨a,c,rfl,_⟩:=h;intro z;cases z
   .exact h.elim
 |lst l=>
   rcases h with h|⟨a,rfl,h⟩
   .rw[Rep] at h;obtain⟨a,c,rfl,_⟩:=h;intro z;cases z
   .intro z;cases z
 |oth _ _ _=>
   rcases h with h|⟨a,rfl,h⟩
   .rw[Rep] at h;obtain⟨a,c,rfl,_⟩:=h;intro z;cases z
   .intro z;cases z
def UE:OpR X (aJ .Is) (rD X.K gIs):=by
 intro a s l T x y v u Q U j k h;obtain⟨O,d,e,z,np,h1,n,g,G⟩:=h
 cases e with
 |bl c=>
  have i:=zK n;by_cases f: ∃b,d= .bl b
  .obtain⟨b,rfl⟩:=f;cases g;refine Nt a s l T x y v u Q U j k ⟨c,i,?_⟩;rw[zK h1];exact G.bl
  .have o: ∀b,d≠ .bl b:=λb z=>f ⟨b,z⟩;have m:z=(.bl C,C):=by cases d<;>first|exact absurd H (o _)|(cases g;rfl)
   subst m;refine Nt a s l T x y v u Q U j k ⟨c,i,?_⟩;rw[LP h1 o c];exact G.bl
 |non=>
  have i:=xK n;by_cases f:d= .non
  .subst f;cases g;refine Nr a s l T x y v u Q U j k ⟨i,?_⟩;rw[xK h1];exact G.bl
  .have m:z=(.bl C,C):=by cases d<;>first|exact absurd H f|(cases g;rfl)
   subst m;refine Nr a s l T x y v u Q U j k ⟨i,?_⟩;rw[lS<|Ee h1 f];exact G.bl
 |_=>cases d<;>cases g
end
end PX
namespace HT
open L2
section
variable {a:iX}{w:iR}{A:iU}{E:jn}{s:iC}
def Hd{t d:iu}{b:mU}{i j:iK}{lo e:Option Int}{Q:jn}(c:ro s.heap t b)(f:s.heap.IsSliceOf d i j .none)(o:eA i lo)(p:eA j e)
  (g:sIx b.size 0 lo=0/\sIx b.size b.size e=b.size)(h:Q (.ref t) s):ag (ah a w) A (fu (.ref t)<|.ref d) Q E s:=by
 obtain⟨os,l,k,q⟩:=id f;have n:s.TypeIs (.ref d) "slice":=⟨os,l,k⟩
 unfold fu
 try with_reducible refine lM ?_
 first|refine iz (iM ?_)|skip
 refine iz<|u5 c.typeIs (by decide) ?_
 refine iz (uF (name:=bi "__getitem__") c.typeIs AV
  (nO AV c.typeIs Lp ?_<|t9 _ _))
 show ag _ _ (c9 (.ref t)>>=_) _ _ s;refine iz<|P1 c ?_;refine iz<|sh n ?_;rw[iP<|by decide];refine iz<|qp f o p ?_;rw[g.1,g.2];show ag _ _ (if((((0:Nat):Int)==0&&(1:Int)==1&&(b.size-0)==b.size)=J) then _ else _) _ _ s;rw[iP<|by simp];refine iz (m:=e7 _) ?_;unfold e7;refine iz<|sh c.typeIs ?_;refine iM ?_;rw[iP<|by decide];refine iz<|sf ?_
 first
  |exact iz<|iM ⟨_,rfl,iM h⟩
  |exact iM ⟨_,rfl,iM h⟩
  |exact iz<|iM<|iM ⟨_,rfl,iM h⟩
  |(refine iz ?_;trace_state;done)
end
end HT
namespace PX
open L2 PySem.SeqAt
def DP(l:List D)(lo a:Option Int):List D:=(l.drop<|HT.sIx (ZB l) 0 lo).take<|HT.sIx (ZB l) (ZB l) a-HT.sIx (ZB l) 0 lo
def gSl(lo a:Option Int):D->Option (D×Bool)
 | .tup l=>Y (.tup<|DP l lo a,C)
 | .lst l=>Y (.lst<|DP l lo a,J)
 |_=>I
def YA(K:iW):V->Option Int->Option Int->Hp->VK->Prop:=λx lo a U Q=> ∃(O:AP') (d:D) (z:D×Bool),(∀p,¬Ow (U p)-> ¬O p)/\ke K U O d x/\gSl lo a d=Y z/\Gen K U O z Q
def RepL.cut{K U}(r:RepL K U O l xs)(lo a:Option Int):RepL K U O (DP l lo a) (Fe xs lo a):=by unfold DP Fe;rw[r.length];exact(r.drop _).take _
section
variable {X:Cx}
def Ep{b:jq}{s:iC}{h:L2.St}{N:Hp}{a:iu}{v e f:iK}{lo c:Option Int}{d:iu}{Q:VK}{O:AP'}{l:List D}{g:List V}(U:Inv X b h N s)(n:RelV (.ref a) v)(j:s.heap.IsSliceOf d e f .none)(k:eA e lo)(m:eA f c)
  (q:SqL X.K N a g)(r:RepL X.K N O l g)(G:Gen X.K N O (.lst<|DP l lo c,J) Q): ∃T id,tl (.type T) "__getitem__"=pure (Y<|.builtin id)/\s.TypeIs v T/\ag (ah X.prog X.w) X.A (fu v<|.ref d) (EP X b h Q) X.xe s:=
 PF b s h N (.ref a) v e f lo c d Q U n j k m ⟨a,g,rfl,q,λp i=>G.lst i<|r.cut lo c⟩
def XX:SlR X (YA X.K):=by
 intro f s E T x v B N lo g A Q U n i k m h;obtain⟨O,d,z,np,hd,o,G⟩:=h
 cases d with
 |tup l=>
  cases o;rcases hd with hd|⟨a,_,h⟩
  .obtain⟨a,b,rfl,q,r⟩:=hd.tup;by_cases j:HT.sIx b.length 0 lo=0/\HT.sIx b.length b.length g=b.length
   .cases n;obtain⟨t,y,w,L⟩:=U.tuple q.sq;have c:t.toArray.size=b.length:=by rw[kj];exact y.length.symm
    refine⟨"tuple",_,AV.lookup,w.typeIs,?_⟩;refine HT.Hd w i k m (by rw[c];exact j) ⟨.ref a,T,U,rfl,?_⟩
    have e:DP l lo g=l:=by unfold DP;rw[<-r.length,j.1,j.2];simp[r.length]
    rw[e] at G;exact G (.ref a) T (λ_ _ e=>e) hd
   .exact Tq f s E T (.ref a) v B N lo g A Q U n i k m ⟨a,b,rfl,q.sq,j,λp u=>G.tup u (np p<|nOw u)<|r.cut lo g⟩
  .exact h.elim
 |lst l=>
  cases o;rcases hd with hd|⟨a,rfl,h⟩
  .obtain⟨a,b,rfl,q,r⟩:=hd.lst;exact Ep U n i k m q.sq r G
  .obtain⟨b,e,r⟩:=h;exact Ep U n i k m (.inl<|.inl e) r G
 |_=>cases o
end
def AD(a b:FO):F:=λδ=>(a δ).bind λp=>(b p.2).bind λq=>match res q.2 q.1 with
 |some (.int i)=>(res q.2 p.1).bind λx=>(gSl I (Y i) x).bind λz=>Y (z,q.2)
 |_=>I
section
variable {X:Cx}{a lo b:iI}{f h d:FO}{c g:bI}
def P6(s:PO X a f)(t:PO X b d):PX X (.Subscript a (.Slice I (Y b) I g) c) (AD f d):=
 PX.imp (Nf XX s Qw<|Qv t) λN H Q y=>by
  obtain⟨L,T,M,O,E,e,k⟩:=y;unfold AD at e;obtain⟨⟨q,l⟩,h1,e⟩:=ir e;obtain⟨⟨U,n⟩,r,e⟩:=ir e;dsimp only at e;split at e
  .rename_i i b;obtain⟨x,A,e⟩:=ir e;obtain⟨z,C,e⟩:=ir e;obtain⟨rfl,rfl⟩:=jd e;refine⟨L,T,q,l,E,h1,λv G m=>⟨l,TmpO T q v,U,n,m.er E,r,λu J o=>?_⟩⟩;have B:=Ops.cons E m<|Ops.cons (m.er E) o<|Ops.nil<|o.er<|m.er E;exact⟨i,jr<|B.view (j:=1) Zz Zz b,_,x,z,λp w=>B.np w,B.view (j:=0) Zz Zz A,C,B.done k⟩
  .cases e
end
end PX
namespace L2
section
variable {X:Cx}
end
end L2
namespace PX
open L2 PySem.SeqAt
section
variable {X:Cx}{A:jW}{d:iu}{a:iI}{f:F}
end
section
variable {X:Cx}{e:iI}{c:qc}{jw:rX}{scope:jL}{d a p:bI}{j:je}{b:jU}{k:Nat}{h:FIt}{g:Tg}{f:FT}{i:FB}
end
end PX
namespace HT
open L2
section
variable {a:iX}{w:iR}{A:iU}{E:jn}{s:iC}
end
end HT
namespace L2
section
variable {X:Cx}{e st:iI}{c b:TE}{a d:bI}
end
end L2
namespace PX
open L2 PySem.SeqAt
section
variable {X:Cx}{a st:iI}{d fs:FO}{b c:bI}
end
section
variable {b:kr}{a:d1}
end
end PX
namespace TT
noncomputable def S:Nat->Nat
 |0=>0
 |n+1=>5*S n+1
theorem Jm(m:Nat): ∀n:Nat,S (m+n)=5^n*S m+S n
 |0=>by simp[S]
 |n+1=>by rw[<-xm,S,Jm m n,S,qC,uX,<-qB,uW 5 (5^n)];lia
theorem AA: ∀n:Nat,∃c,5^n=4*c+1
 |0=>⟨0,rfl⟩
 |n+1=>by obtain⟨c,e⟩:=AA n;exact⟨5*c+1,by rw[qC,e];lia⟩
theorem Pc: ∀k:Nat,∃c,S (2^k)=2^k*(2*c+1)
 |0=>⟨0,rfl⟩
 |k+1=>by
  obtain⟨c,e⟩:=Pc k;obtain⟨d,f⟩:=AA (2^k)
  have h:S (2^(k+1))=(5^2^k+1)*S (2^k):=by rw[qC,Nat.mul_two,Jm,FW,FV]
  refine⟨2*(d*c)+d+c,?_⟩;rw[h,f,e,qC];have:4*d+1+1=2*(2*d+1):=by lia
  rw[this,qB 2,uW (2*d+1),qB (2^k),qB (2^k),<-qB 2 (2^k),uW 2 (2^k),qB (2^k) 2]
  congr 2
  rw[FW,uX,FV,xi,qB 2 c,Cn c 2 d,uW c d]
  lia
def Pd(k n:Nat):S (2^k+n)%2^k=S n%2^k:=by obtain⟨c,e⟩:=Pc k;rw[Jm,e,Cn,s8]
def Jl: ∀(k e:Nat),e<2^k-> ∃n,n<2^k/\S n%2^k=e:=by
 intro u
 induction u with
 |zero=>intro e h;exact⟨0,by simp,by simp at h;subst h;rfl⟩
 |succ k t=>
  intro e h;have l:0<2^k:=sK k;obtain⟨n,z,s⟩:=t (e%2^k)<|xh _ l;obtain⟨c,m⟩:=Pc k;obtain⟨d,o⟩:=AA n
  have b:S (2^k+n)=2^(k+1)*(4*d*c+2*d+c)+2^k+S n:=by
   rw[Jm,m,o,qC,Cn,qB (2^k) 2]
   have:(4*d+1)*(2*c+1)=2*(4*d*c+2*d+c)+1:=by rw[FW,uX,FV,xi,Cn (4*d) 2 c];lia
   rw[this,uX,xi]
  rw[qC] at h b ⊢;generalize 2^k=P at*;have j:=s9 (S n) P;have i:=s9 e P;rw[s] at j;have A:e / P<2:=Nat.div_lt_of_lt_mul (by rw[uW] at h;lia)
  have mk: ∀a q x,a=P*2*q+x->x<P*2->a%(P*2)=x:=λa q x h1 b=>by rw[h1,s8,Nat.mod_eq_of_lt b]
  have y:=xh e l;have v:S n / P=2*(S n / P / 2)+S n / P%2:=by lia
  have g:S n=P*2*(S n / P / 2)+(P*(S n / P%2)+e%P):=by rw[qB,<-xm,<-uX,<-v];exact j.symm
  generalize S n / P / 2=q at g;have w:S n / P%2<2:=xh _ (by decide);generalize S n / P%2=r at g w;generalize e / P=f at*;by_cases p:r=f
  .exact⟨n,by lia,mk _ q _ (by rw[g,p,i]) h⟩
  .refine⟨P+n,by lia,mk _ (4*d*c+2*d+c+q+r) _ ?_ h⟩;rw[b,g,uX (P*2) _ r,uX (P*2) _ q];rcases(show r=0\/r=1 by lia) with rfl|rfl
   .have:f=1:=by lia
    subst this;rw[FU,FU];rw[xi] at i;lia
   .have:f=0:=by lia
    subst this;rw[xi,xi];rw[FU] at i;lia
noncomputable def ls(mask:Nat)(h:Int):Nat->Nat×Nat
 |0=>(aO h%(mask+1),aO h)
 |k+1=>c6 mask (ls mask h k).1 (ls mask h k).2
def RW(h:Int):aO h<2^64:=by
 unfold aO;have:=FR h (show(0:Int)<2^64 by decide);have:=FQ h (show(2^64:Int)≠0 by decide)
 lia
def Iy(mask:Nat)(h:Int): ∀k,(ls mask h k).1<=mask
 |0=>by have:=xh (aO h) (show 0<mask+1 by lia);show _%(mask+1)<=_;lia
 |k+1=>by show(_%(mask+1))<=_;have:=xh ((ls mask h k).1*5+1+(ls mask h k).2 / 32) (show 0<mask+1 by lia);lia
theorem Iw(mask:Nat)(h:Int): ∀k,(ls mask h k).2=aO h / 32^k
 |0=>by simp[ls]
 |k+1=>by show(ls mask h k).2 / 32=_;rw[Iw mask h k,qC,Nat.div_div_eq_div_mul]
def Q7(mask:Nat)(h:Int)(k:Nat)(hk:13<=k):(ls mask h k).2=0:=by rw[Iw];refine Nat.div_eq_of_lt<|nj (RW h) ?_;exact ma (show 2^64<=32^13 by decide)<|zc (by decide) hk
theorem NI(mask:Nat)(h:Int)(m:Nat)(a:(ls mask h 13).1=S m%(mask+1)): ∀n,(ls mask h (13+n)).1=S (m+n)%(mask+1)
 |0=>a
 |n+1=>by show(((ls mask h (13+n)).1*5+1+(ls mask h (13+n)).2 / 32)%(mask+1))=_;rw[Q7 mask h _ (by lia),NI mask h m a n,Nat.zero_div,fJ,<-xm m n 1,S,C2,Nat.mod_mul_mod,<-C2,uW 5]
def EJ(hk:mask+1=2^k)(h:Int)(g:e<=mask): ∃n,n<mask+14/\(ls mask h n).1=e:=by
 have i:=Iy mask h 13;obtain⟨m,c,b⟩:=Jl k (ls mask h 13).1 (by lia);obtain⟨q,d,eq⟩:=Jl k e (by lia);rw[<-hk] at b eq c d;have a:=NI mask h m b.symm;by_cases f:m<=q
 .exact⟨13+(q-m),by lia,by rw[a,show m+(q-m)=q by lia];exact eq⟩
 .refine⟨13+(q+(mask+1)-m),by lia,?_⟩;rw[a,show m+(q+(mask+1)-m)=2^k+q by lia,hk,Pd,<-hk];exact eq
def GK(mask i:Nat)(h:i<=mask):i<=aF mask i/\aF mask i<=mask/\aF mask i<=i+9:=by unfold aF;split<;>lia
noncomputable def tm(mask:Nat)(h:Int):Nat->Nat
 |0=>0
 |k+1=>tm mask h k+(aF mask (ls mask h k).1-(ls mask h k).1)+1
theorem Se(mask:Nat)(h:Int): ∀k,tm mask h k<=10*k
 |0=>jQ _
 |k+1=>by have:=Se mask h k;have:=GK mask _ (Iy mask h k);unfold tm;lia
noncomputable def at_(mask:Nat)(h:Int)(k t:Nat):SetTable.Probe:=⟨(ls mask h k).1+t,aF mask (ls mask h k).1-(ls mask h k).1-t,(ls mask h k).1,(ls mask h k).2,I⟩
theorem vI(mask:Nat)(h:Int): ∀k t,t<=aF mask (ls mask h k).1-(ls mask h k).1->pr mask h (tm mask h k+t)=at_ mask h k t
 |0,0,_=>rfl
 |k+1,0,_=>by have e:=vI mask h k (aF mask (ls mask h k).1-(ls mask h k).1)<|jQ _;show adv mask (pr mask h<|tm mask h k+(aF mask (ls mask h k).1-(ls mask h k).1))=_;rw[e];unfold adv at_;simp only[Nat.sub_self,qj,jP,gt_iff_lt];rfl
 |k,t+1,a=>by
  have e:=vI mask h k t (by lia);show adv mask (pr mask h<|tm mask h k+t)=_;rw[e];unfold adv at_;rw[iP (show aF mask (ls mask h k).1-(ls mask h k).1-t>0 by lia)];simp only[SetTable.Probe.mk.injEq,and_true,true_and]
  lia
def MZ(hk:mask+1=2^k)(h:Int)(a:e<=mask): ∃n,n<10*(mask+14)/\(pr mask h n).j=e:=by obtain⟨r,b,er⟩:=EJ hk h a;have:=Se mask h r;refine⟨tm mask h r,by lia,?_⟩;have:=vI mask h r 0<|lL _;rw[fJ] at this;rw[this];exact er
theorem MY(mask:Nat)(h:Int): ∀n,(pr mask h n).dummy=I
 |0=>rfl
 |n+1=>by show(adv mask<|pr mask h n).dummy=I;unfold adv;split<;>exact MY mask h n
theorem Ex(mask:Nat)(h:Int): ∀n,∃k t,n=tm mask h k+t/\t<=aF mask (ls mask h k).1-(ls mask h k).1
 |0=>⟨0,0,rfl,lL _⟩
 |n+1=>by
  obtain⟨k,t,e,b⟩:=Ex mask h n;by_cases a:t+1<=aF mask (ls mask h k).1-(ls mask h k).1
  .exact⟨k,t+1,by lia,a⟩
  .exact⟨k+1,0,by unfold tm;lia,lL _⟩
def MX(mask:Nat)(h:Int)(n:Nat):(pr mask h n).j<=mask:=by obtain⟨k,t,e,a⟩:=Ex mask h n;rw[e,vI mask h k t a];have:=GK mask _ (Iy mask h k);show(ls mask h k).1+t<=mask;lia
def Dc{c:Array Nat}(g:c.toList.Pairwise (· < ·)){i j:Nat}{a b:Nat}(h:i<j)(h1:c[i]?=Y a)(d:c[j]?=Y b):a<b:=by rw[<-lR] at h1 d;obtain⟨e,rfl⟩:=rT.mp h1;obtain⟨f,rfl⟩:=rT.mp d;exact Pe.mp g i j e f h
def OY{c:Array Nat}(o:c.toList.Pairwise (· < ·))(j:Nat): ∀(d lo b:Nat),lo<=b->b<=c.size->b-lo<=d->
  (∀i a,i<lo->c[i]?=Y a->a<j)->(∀i a,b<=i->c[i]?=Y a->j<=a)->
  let p:=SetTable.below.go c j d lo b
  p<=c.size/\(∀i a,i<p->c[i]?=Y a->a<j)/\(∀i a,p<=i->c[i]?=Y a->j<=a):=by
 intro u
 induction u with
 |zero=>
  intro lo b h1 g t h k;have:lo=b:=by lia
  subst this;exact⟨g,h,k⟩
 |succ d r=>
  intro lo b h1 g t h k;unfold SetTable.below.go;by_cases q:lo<b
  .rw[iP q];have n:(lo+b) / 2<c.size:=by lia
   have m:c[(lo+b) / 2]?=Y c[(lo+b) / 2]:=pK n;have hd:c.getD ((lo+b) / 2) j=c[(lo+b) / 2]:=by simp[f3,n]
   dsimp only;rw[hd];by_cases l:c[(lo+b) / 2]<j
   .rw[iP l];refine r ((lo+b) / 2+1) b (by lia) g (by lia) (λi a s f=>?_) k;by_cases e:i=(lo+b) / 2
    .subst e;rw[m] at f;cases f;exact l
    .exact CJ (Dc o (by lia) f m) l
   .rw[jc l];refine r lo ((lo+b) / 2) (by lia) (by lia) (by lia) h λi a s f=>?_;by_cases e:i=(lo+b) / 2
    .subst e;rw[m] at f;cases f;lia
    .have:=Dc o (show(lo+b) / 2<i by lia) m f;lia
  .rw[jc q];have:lo=b:=by lia
   subst this;exact⟨g,h,k⟩
def pE{b:Array Nat}(d:b.toList.Pairwise (· < ·))(j:Nat):ap b j<=b.size/\(∀i a,i<ap b j->b[i]?=Y a->a<j)/\(∀i a,ap b j<=i->b[i]?=Y a->j<=a):=
 OY d j b.size 0 b.size (lL _) (jQ _) (by lia) (λi a h=>by lia) (λi a h1 c=>by have:=(Kx.mp c).1;lia)
def AL{a:Array Nat}(c:a.toList.Pairwise (· < ·)){i j:Nat}(h:a[i]?=Y j):ap a j=i:=by
 obtain⟨h1,d,e⟩:=pE c j;by_cases g:i<ap a j
 .exact absurd (d i j g h) (qj _)
 .by_cases f:ap a j<i
  .have k:=(Kx.mp h).1;have b:a[ap a j]?=Y a[ap a j]:=pK (by omega);have:=e _ _ (jQ _) b;have:=Dc c f b h;omega
  .omega
theorem DE(j:Nat):Zp #[] j=C:=rfl
def qo{t:mE}(a:t.place.toList.Pairwise (· < ·)){i j:Nat}(h:t.place[i]?=Y j):t.slot j= .live i:=by unfold me;dsimp only;rw[AL a h,h];simp
def GI{t:mE}(hd:t.dummies= #[]){j:Nat}(h:j∉t.place.toList):t.slot j= .empty:=by
 unfold me;dsimp only
 have:(t.place[ap t.place j]?==Y j)=C:=by rw[yZ];intro e;rw[<-lR] at e;exact h<|mG e
 rw[this,hd,DE];rfl
def Pb(t:mE)(p:dF):t.advance p=adv t.mask p:=by unfold Zr adv;split<;>rfl
def MW{k:iO}{t:mE}(ok:TabOk k t)(hashAt:Nat->Int)(h:Int): ∀(a n:Nat),(∃M,n<=M/\M<n+a/\(pr t.mask h M).j∉t.place.toList)->
    ∃m,n<=m/\(∀q,n<=q->q<m-> ∃i,t.place[i]?=Y (pr t.mask h q).j/\hashAt i≠h)/\
      (((pr t.mask h m).j∉t.place.toList/\ef t hashAt h a (pr t.mask h n)=Y (.empty (pr t.mask h m).j I))\/
       (∃i,t.place[i]?=Y (pr t.mask h m).j/\hashAt i=h/\ef t hashAt h a (pr t.mask h n)=Y (.candidate (pr t.mask h m).j i<|pr t.mask h<|m+1))):=by
  intro o
  induction o with
  |zero=>
    rintro n ⟨M,h1,f,g⟩
    lia
  |succ a l=>
    rintro n ⟨M,h1,f,g⟩;unfold ef;by_cases d:(pr t.mask h n).j∈t.place.toList
    · obtain⟨i,c⟩:=se d
      rw[lR] at c;rw[qo ok.ris c];dsimp only;by_cases b:hashAt i=h
      · refine⟨n,jQ _,λq h1 f=>by lia,.inr ⟨i,c,b,?_⟩⟩
        rw[iP<|by simpa using b,Pb];rfl
      · rw[jc<|by simpa using b,Pb]
        have r:M≠n:=λe=>g<|e▸d;obtain⟨m,g1,g2,g3⟩:=l (n+1) ⟨M,by lia,by lia,g⟩;refine⟨m,by lia,λq s p=>?_,g3⟩;by_cases e:q=n
        · subst e;exact⟨i,c,b⟩
        · exact g2 q (by lia) p
    · rw[GI ok.dum d]
      dsimp only;rw[MY];exact⟨n,jQ _,λq h1 f=>by lia,.inl ⟨d,rfl⟩⟩
def EM: ∀(n:Nat) (l:jU),ZB l<=n-> ∃e,e<=n/\e∉l:=by
 intro d
 induction d with
 |zero=>intro l h;exact⟨0,jQ _,by cases l with|nil=>simp|cons _ _=>simp at h⟩
 |succ n c=>
  intro l h;by_cases a:n+1∈l
  .obtain⟨e,h1,b⟩:=c (l.erase<|n+1) (by rw[List.length_erase_of_mem a];lia);exact⟨e,by lia,λz=>b<|(FP<|by lia).mpr z⟩
  .exact⟨n+1,jQ _,a⟩
def TabOk.free(ok:TabOk f t)(h:Int): ∃M,M<10*(t.mask+14)/\(pr t.mask h M).j∉t.place.toList:=by
 obtain⟨k,_,_,hk⟩:=ok.pow
 have h1:(ZB t.place.toList)<=t.mask:=by have:=ok.len;have:=ok.room;rw[kz];lia
 obtain⟨e,c,d⟩:=EM t.mask _ h1;obtain⟨n,a,b⟩:=MZ hk h c;exact⟨n,a,by rw[b];exact d⟩
def mh{b:Type}(a:Array b)(p:Nat)(x:b):(aA a p x).toList=a.toList.take p++x::a.toList.drop p:=by unfold aA;simp[Array.toList_extract,List.extract];rw[xp<|by simp]
def GL(h:xs.toList.Pairwise (· < ·))(n:j∉xs.toList):(aA xs (ap xs j) j).toList.Pairwise (· < ·):=by
 obtain⟨h1,l,k⟩:=pE h j;rw[mh,tK];refine⟨h.sublist<|xF _ _,?_,?_⟩
 .rw[D8];refine⟨λa d=>?_,h.sublist<|F4 _ _⟩;obtain⟨i,c⟩:=se d;rw[dY] at c;have m:=k _ _ (show ap xs j<=ap xs j+i by lia) (by rw[<-lR];exact c);have:a≠j:=λe=>n (e▸mG c)
  lia
 .intro a d b g
  have f:a<j:=by
   obtain⟨i,c⟩:=se d;rw[List.getElem?_take] at c;split at c
   .rename_i o;exact l i a o (by rw[<-lR];exact c)
   .cases c
  rcases kT.mp g with rfl|g
  .exact f
  .obtain⟨i,c⟩:=se g;rw[dY] at c;have m:=k _ _ (show ap xs j<=ap xs j+i by lia) (by rw[<-lR];exact c)
   lia
def TabOk.fresh(finger moves:Nat)(led:Bool):TabOk [] (j8 finger moves led) where
 pow:=⟨3,by lia,by lia,rfl⟩
 dum:=rfl
 len:=rfl
 room:=by show 5*0<3*7;lia
 ris:= .nil
 bd:=λj h=>by simp[j8] at h
 road:=λi h j h1=>by simp at h1
def TabOk.put(ok:TabOk g t)(A:(pr t.mask h n).j∉t.place.toList)(z: ∀m,m<n->(pr t.mask h m).j∈t.place.toList)(U:5*(ZB g+1)<3*t.mask)(Q:j=(pr t.mask h n).j)(E:p=ap t.place j):
  TabOk (g.take p++h::g.drop p) (t.put j).1/\(t.put j).2=p:=by
 subst Q;subst E
 have v:(t.put (pr t.mask h n).j).1={t with place:=aA t.place (ap t.place (pr t.mask h n).j) (pr t.mask h n).j,dummies:= #[]}:=by unfold nF;dsimp only;rw[ok.dum,DE];rfl
 obtain⟨h1,_,_⟩:=pE ok.ris (pr t.mask h n).j;have T:=ok.len
 have c: ∀x,x∈t.place.toList->x∈(aA t.place (ap t.place (pr t.mask h n).j) (pr t.mask h n).j).toList:=λx a=>by
  rw[mh];rw[<-vb (ap t.place (pr t.mask h n).j) t.place.toList] at a;rcases qb.mp a with a|a
  .exact qb.mpr (.inl a)
  .exact qb.mpr (.inr<|jX _ a)
 refine⟨?_,rfl⟩;rw[v];generalize y:ap t.place (pr t.mask h n).j=P at*;refine⟨ok.pow,rfl,?_,?_,?_,λx a=>?_,λi f k g1 g2=>?_⟩
 .show(aA t.place P (pr t.mask h n).j).size=_;rw[<-kz,mh];simp only[mF,lQ,rE,d7,kz];lia
 .show 5*_<3*t.mask;simp only[mF,lQ,rE,d7];lia
 .have:=GL ok.ris A;rw[y] at this;exact this
 .have s:x∈(aA t.place P (pr t.mask h n).j).toList:=a;rw[mh] at s;show x<=t.mask;rcases qb.mp s with a|a
  .exact ok.bd x (xo a)
  .rcases kT.mp a with rfl|a
   .exact MX _ _ _
   .exact ok.bd x (Cr a)
 .have b:(aA t.place P (pr t.mask h n).j).toList[i]?=Y k:=by rw[lR];exact g2
  rw[mh] at b;show ∃u,(pr t.mask f u).j=k/\ ∀m,m<u->(pr t.mask f m).j∈(aA t.place P (pr t.mask h n).j).toList;have w:(t.place.toList.take P).length=P:=by rw[rE,kz];lia
  have l:(g.take P).length=P:=by rw[rE];lia
  by_cases B:i<P
  .rw[qf<|by lia,Lv B] at g1 b;rw[lR] at b;obtain⟨q,o,r⟩:=ok.road i f k g1 b;exact⟨q,o,λm e=>c _ (r m e)⟩
  .rw[qg<|by lia,w] at b;rw[qg<|by lia,l] at g1
   cases hd:i-P with
   |zero=>rw[hd] at g1 b;simp at g1 b;subst g1;subst b;exact⟨n,rfl,λm e=>c _ (z m e)⟩
   |succ d=>rw[hd] at g1 b;simp only[gG,dY] at g1 b;rw[lR] at b;obtain⟨q,o,r⟩:=ok.road _ f k g1 b;exact⟨q,o,λm e=>c _ (r m e)⟩
def occ(ow:vT)(j:Nat):Prop:= ∃i,ow.getD j I=Y i
def DF{ow:vT}{j:Nat}{d:Option Nat}(h:j<ow.size):ow.getD j d=ow.getD j I:=by simp[f3,h]
def Kd{mask:Nat}{ow:vT}(U:ow.size=mask+1)(h:Int): ∀(a k:Nat),(∃r,k<=r/\r<k+a/\ ¬occ ow (ls mask h r).1)->(∀m,m<tm mask h k->occ ow (pr mask h m).j)->
  ∃n,bV mask ow a (ls mask h k).1 (ls mask h k).2=Y (pr mask h n).j/\ ¬occ ow (pr mask h n).j/\ ∀m,m<n->occ ow (pr mask h m).j:=by
 intro A
 induction A with
 |zero=>
  rintro k ⟨r,h1,v,_⟩ _
  lia
 |succ a z=>
  rintro k ⟨r,h1,v,g⟩ l;unfold bV;have x:=Iy mask h k;have y:=GK mask _ x
  cases c:(aw<|aF mask (ls mask h k).1+1-(ls mask h k).1).find? λt=>(ow.getD ((ls mask h k).1+t)<|Y 0).isNone with
  |some t=>
   rw[List.find?_range_eq_some] at c;obtain⟨a1,q,s⟩:=c;rw[wY] at q;have p:t<=aF mask (ls mask h k).1-(ls mask h k).1:=by lia
   have e:=vI mask h k t p;refine⟨tm mask h k+t,by rw[e];rfl,?_,λm o=>?_⟩
   .rw[e];rintro⟨i,w⟩;rw[DF (by show(ls mask h k).1+t<_;lia)] at a1;have u:ow.getD ((ls mask h k).1+t) I=Y i:=w;rw[u] at a1;simp at a1
   .by_cases f:m<tm mask h k
    .exact l m f
    .have b:=vI mask h k (m-tm mask h k) (by lia);rw[show tm mask h k+(m-tm mask h k)=m by lia] at b;rw[b];have:=s (m-tm mask h k) (by lia);rw[DF (by show(ls mask h k).1+(m-tm mask h k)<_;lia)] at this;show occ ow ((ls mask h k).1+(m-tm mask h k));unfold occ
     cases d:ow.getD ((ls mask h k).1+(m-tm mask h k)) I with
     |none=>rw[d] at this;simp at this
     |some i=>exact⟨i,rfl⟩
  |none=>
   rw[List.find?_range_eq_none] at c
   have all: ∀t,t<=aF mask (ls mask h k).1-(ls mask h k).1->occ ow ((ls mask h k).1+t):=λt p=>by
    have:=c t (by lia);rw[DF<|by lia] at this;unfold occ
    cases d:ow.getD ((ls mask h k).1+t) I with
    |none=>rw[d] at this;simp at this
    |some i=>exact⟨i,rfl⟩
   have B:r≠k:=λe=>g (by subst e;have:=all 0<|lL _;simpa using this)
   have:=z (k+1) ⟨r,by lia,by lia,g⟩ (λm o=>by
    by_cases f:m<tm mask h k
    .exact l m f
    .unfold tm at o;have b:=vI mask h k (m-tm mask h k) (by lia);rw[show tm mask h k+(m-tm mask h k)=m by lia] at b;rw[b];exact all _ (by lia))
   exact this
def E9{a e:Type}{f g:a->Option e}: ∀{l:List a},(∀x∈l,f x=g x)->l.filterMap f=l.filterMap g:=by
 intro d
 induction d with
 |nil=>intro _;exact H
 |cons x l c=>intro h;rw[uH,uH,h x jT,c λy b=>h y<|jX _ b]
noncomputable def pj(mask:Nat)(ow:vT):List (Nat×Nat):=(aw<|mask+1).filterMap λj=>(ow.getD j I).map (j,·)
def Pj:(j,i)∈pj mask ow↔j<=mask/\ow.getD j I=Y i:=by
 unfold pj;simp only[dX,wY,d6,Prod.mk.injEq];constructor
 .rintro⟨a,h1,b,c,rfl,rfl⟩;exact⟨by lia,c⟩
 .rintro⟨h1,c⟩;exact⟨j,by lia,i,c,rfl,rfl⟩
def NN(mask:Nat)(ow:vT):((pj mask ow).map (·.1)).Pairwise (· < ·):=by unfold pj;rw[List.map_filterMap,List.pairwise_filterMap];refine VM.imp λ{a b} e x c y d=>?_;simp only[Option.mem_def,nP,d6,bW] at c d;obtain⟨_,_,rfl⟩:=c;obtain⟨_,_,rfl⟩:=d;exact e
def NM{mask:Nat}{ow:vT}(f:ow.size=mask+1){j k:Nat}(d:j<=mask)(c:ow.getD j I=I):(pj mask<|ow.setIfInBounds j<|Y k).Perm ((j,k)::pj mask ow):=by
 have g: ∀i,(ow.setIfInBounds j<|Y k).getD i I=if i=j then Y k else ow.getD i I:=λi=>by
  simp only[uV,Cm];by_cases e:i=j
  .subst e;simp[show i<ow.size by lia]
  .rw[jc λz=>e z.symm,jc e]
 have split:aw (mask+1)=aw j++j::(aw<|mask-j).map (λx=>j+1+x):=by rw[show mask+1=j+(mask-j+1) by lia,List.range_add,ek];simp[sx,xm,xz 1]
 unfold pj;rw[split,K8,K8,uH,uH];simp only[g,c,iP H,Option.map_none,Option.map_some]
 have a1:(aw j).filterMap (λi=>(if i=j then Y k else ow.getD i I).map (i,·))=(aw j).filterMap (λi=>(ow.getD i I).map (i,·)):=
  E9 λi a=>by rw[wY] at a;rw[jc<|by lia]
 have b:((aw<|mask-j).map λx=>j+1+x).filterMap (λi=>(if i=j then Y k else ow.getD i I).map (i,·))=((aw<|mask-j).map λx=>j+1+x).filterMap (λi=>(ow.getD i I).map (i,·)):=
  E9 λi a=>by obtain⟨x,_,rfl⟩:=lZ.mp a;rw[jc<|by lia]
 rw[a1,b];exact Pf
structure LayOk(mask:Nat)(hs:iO)(ow:vT):Prop where
 size:ow.size=mask+1
 perm:((pj mask ow).map (·.2)).Perm (aw<|ZB hs)
 road: ∀j i h,ow.getD j Zw=Zv i->hs[i]?=Zv h-> ∃n,(pr mask h n).j=j/\ ∀m,m<n->occ ow (pr mask h m).j
def Ir(h:occ ow x):occ (ow.setIfInBounds j<|Y k) x:=by
 obtain⟨i,a⟩:=h;unfold occ;simp only[uV,Cm] at a ⊢;by_cases e:j=x
 .subst e;rw[iP H];split
  .exact⟨k,rfl⟩
  .rename_i b;rw[Ck<|by lia] at a;simp at a
 .rw[jc e];exact⟨i,a⟩
def LayOk.step{mask k:Nat}(hk:mask+1=2^k){a:iO}{ow:vT}(ok:LayOk mask a ow)(h:Int)(E:(ZB a)<=mask):
  ∃j,bV mask ow (cp mask) (aO h%(mask+1)) (aO h)=Y j/\LayOk mask (a++[h]) (ow.setIfInBounds j<|Y<|ZB a):=by
 have o:(pj mask ow).length=(ZB a):=by have:=ok.perm.length_eq;simpa using this
 obtain⟨e,l,x⟩:=EM mask ((pj mask ow).map (·.1)) (by rw[kh];lia)
 have s: ¬occ ow e:=by rintro⟨i,f⟩;exact x<|lZ.mpr ⟨(e,i),Pj.mpr ⟨l,f⟩,rfl⟩
 obtain⟨r,A,u⟩:=EJ hk h l;obtain⟨n,f1,f2,t⟩:=Kd ok.size h (cp mask) 0 ⟨r,lL _,by unfold cp;lia,by rw[u];exact s⟩ (λm c=>by simp[tm] at c);have w:=MX mask h n
 have p:ow.getD (pr mask h n).j I=I:=by
  cases y:ow.getD (pr mask h n).j I with
  |none=>rfl
  |some i=>exact absurd ⟨i,y⟩ f2
 refine⟨_,f1,⟨by rw[Array.size_setIfInBounds];exact ok.size,?_,λj i v g1 g2=>?_⟩⟩
 .refine((NM ok.size w p).map _).trans ?_;rw[jY,mF,xv,List.range_succ];exact(io _ ok.perm).trans (K7 _ _).symm
 .by_cases b:j=(pr mask h n).j
  .subst b
   have:i=(ZB a):=by simp only[uV,Cm,iP H] at g1;rw[iP be,iP<|by rw[ok.size];lia] at g1;exact(kE g1).symm
   subst this;rw[qg<|jQ _] at g2;simp at g2;subst g2;exact⟨n,rfl,λm c=>Ir<|t m c⟩
  .have d:ow.getD j I=Y i:=by simp only[uV,Cm] at g1 ⊢;rw[jc λz=>b z.symm] at g1;exact g1
   have f:i<(ZB a):=by
    have g:j<=mask:=by
     by_cases q:j<ow.size
     .have:=ok.size;lia
     .rw[uV,Ck<|by lia] at d;simp at d
    have:=ok.perm.mem_iff.mp<|lZ.mpr ⟨(j,i),Pj.mpr ⟨g,d⟩,rfl⟩;exact wY.mp this
   rw[qf f] at g2;obtain⟨q,B,U⟩:=ok.road j i v d g2;exact⟨q,B,λm c=>Ir<|U m c⟩
def LayOk.start(mask:Nat):LayOk mask [] (fQ (mask+1) I) where
 size:=by simp
 perm:=by
  have:pj mask (fQ (mask+1) I)=[]:=by unfold pj;refine List.filterMap_eq_nil_iff.mpr λj a=>?_;rw[uV,K6];split<;>rfl
  rw[this];exact uY _
 road:=λj i h h1=>by rw[uV,K6] at h1;split at h1<;>cases h1
noncomputable def wy(mask:Nat)(a:Option (Array (Option Nat)×Nat))(h:Int):Option (Array (Option Nat)×Nat):=do
 let(owner,k) <-a
 let j <-bV mask owner (cp mask) (aO h%(mask+1)) (aO h)
 pure (owner.setIfInBounds j<|Y k,k+1)
def NS{mask k:Nat}(hk:mask+1=2^k): ∀(l a:iO) (ow:vT),LayOk mask a ow->ZB a+ZB l<=mask+1->
  ∃c,l.foldl (wy mask) (Y (ow,ZB a))=Y (c,ZB a+ZB l)/\LayOk mask (a++l) c:=by
 intro m
 induction m with
 |nil=>intro a ow ok _;exact⟨ow,rfl,by rw[vq];exact ok⟩
 |cons h l i=>
  intro a ow ok g;rw[lQ] at g;obtain⟨j,e,d⟩:=ok.step hk h (by lia);obtain⟨c,f,b⟩:=i (a++[h]) _ d (by rw[mF,xv];lia);refine⟨c,?_,by rw[oq] at b;exact b⟩;rw[Ge]
  have:wy mask (Y (ow,ZB a)) h=Y (ow.setIfInBounds j<|Y<|ZB a,ZB a+1):=by unfold wy;show(bV mask ow (cp mask) (aO h%(mask+1)) (aO h)>>=_)=_;rw[e];rfl
  rw[this];rw[mF,xv] at f;rw[f,lQ]
  congr 2;lia
def EN(hk:mask+1=2^k)(a:iO)(c:(ZB a)<=mask): ∃ow,gW mask a.toArray=Y ow/\LayOk mask a ow:=by
 obtain⟨ow,e,ok⟩:=NS hk a [] _ (LayOk.start mask) (by simp;lia);refine⟨ow,?_,by simpa using ok⟩;unfold gW;rw[<-Array.foldl_toList];show vw _ (fh (wy mask) _ a)=_;have b:fh (wy mask) (Y (fQ (mask+1) I,0)) a=Y (ow,ZB a):=by simpa using e
 rw[b];rfl
def Rk(hk:mask+1=2^k)(w:3<=k)(o:k<=11)(finger moves:Nat)(led plain:Bool)(d:iO)(E:5*(ZB d)<3*mask):
  ∃t c,mi mask finger moves led plain d.toArray=Y (t,c)/\c.toList.Perm (aw<|ZB d)/\TabOk (c.toList.map λi=>d.getD i 0) t/\t.plain=plain/\t.led=led:=by
 obtain⟨ow,e,ok⟩:=EN hk d (by lia);refine⟨{mask,place:=((pj mask ow).map (·.1)).toArray,dummies:= #[],finger,led,moves,plain},((pj mask ow).map (·.2)).toArray,?_,by simpa using ok.perm,?_,rfl,rfl⟩
 .unfold mi;rw[e];rfl
 .have g:(pj mask ow).length=(ZB d):=by have:=ok.perm.length_eq;simpa using this
  refine⟨⟨k,w,o,hk⟩,rfl,by simp,by simp[g];lia,by simpa using NN mask ow,λj z=>?_,λi h j g1 g2=>?_⟩
  .have v:j∈(pj mask ow).map (·.1):=by simpa using z
   obtain⟨⟨a,b⟩,q,rfl⟩:=lZ.mp v;exact(Pj.mp q).1
  .have s:((pj mask ow).map (·.2)).map (λi=>d.getD i 0)=(((pj mask ow).map (·.2)).toArray).toList.map λi=>d.getD i 0:=by simp
   rw[<-s,kD,kD] at g1;have f:((pj mask ow).map (·.1))[i]?=Y j:=by simpa using g2
   rw[kD] at f
   cases l:(pj mask ow)[i]? with
   |none=>rw[l] at f;cases f
   |some p=>
    obtain⟨a,b⟩:=p;rw[l] at g1 f;simp at g1 f;subst f;have q:=Pj.mp<|mG l
    have x:b<(ZB d):=by have:=ok.perm.mem_iff.mp<|lZ.mpr ⟨(a,b),mG l,rfl⟩;exact wY.mp this
    have y:d[b]?=Y h:=by rw[jt x] at g1 ⊢;simpa using g1
    obtain⟨n,B,U⟩:=ok.road a b h q.2 y;refine⟨n,B,λm u=>?_⟩;obtain⟨A,r⟩:=U m u;show(pr mask h m).j∈(((pj mask ow).map (·.1)).toArray).toList;have:(pr mask h m).j∈(pj mask ow).map (·.1):=lZ.mpr ⟨(_,A),Pj.mpr ⟨MX mask h m,r⟩,rfl⟩;simpa using this
def C8: ∀n,n<2048-> ∃k,3<=k/\k<=11/\eI n=2^k/\n<2^k:=by
 intro n h
 have step: ∀(f k:Nat),3<=k->k<=11->11<k+f-> ∃b,3<=b/\b<=11/\SetTable.sizeAbove.go n f (2^k)=2^b/\n<2^b:=by
  intro f
  induction f with
  |zero=>intro k h1 c d;lia
  |succ f g=>
   intro k h1 c d;unfold SetTable.sizeAbove.go;by_cases a:2^k<=n
   .rw[iP a,<-qC];have:k≠11:=λe=>by subst e;lia
    exact g (k+1) (by lia) (by lia) (by lia)
   .rw[jc a];exact⟨k,h1,c,rfl,by lia⟩
 exact step 64 3 (by lia) (by lia) (by lia)
open PyProof.Rows PySem.SeqAt
def JL{g:iO}{t:mE}(ok:TabOk g t){hashAt:Nat->Int}{h:Int}{p:dF}{n:Nat}(f:p=pr t.mask h n)(e: ∀m,m<n->(pr t.mask h m).j∈t.place.toList):
    ∃m,n<=m/\m<10*(t.mask+14)/\(∀q,n<=q->q<m-> ∃i,t.place[i]?=Y (pr t.mask h q).j/\hashAt i≠h)/\
      (((pr t.mask h m).j∉t.place.toList/\t.probe hashAt h p=Y (.empty (pr t.mask h m).j I))\/
       (∃i,t.place[i]?=Y (pr t.mask h m).j/\hashAt i=h/\t.probe hashAt h p=Y (.candidate (pr t.mask h m).j i<|pr t.mask h<|m+1))):=by
  subst f;obtain⟨M,h1,a⟩:=ok.free h
  have c:n<=M:=by
    by_cases b:M<n
    · exact absurd (e M b) a
    · lia
  obtain⟨m,g1,g2,g3⟩:=MW ok hashAt h (10*cp t.mask) n ⟨M,c,by unfold cp;lia,a⟩
  have k:m<=M:=by
    by_cases b:M<m
    · obtain⟨i,d,_⟩:=g2 M c b
      rw[<-lR] at d;exact absurd (mG d) a
    · lia
  exact⟨m,g1,by lia,g2,g3⟩
section
variable {prog:iX}{w:iR}{A:iU}{E:jn}{s:iC}
structure Srch(A:iU)(s:iC)(a:iu)(es:uq)(n:Nat)(t:mE)(x:iK)(h:Int)(eqs:Nat->Bool):Prop where
 at_: ∃o,s.heap.get? a=Zv o/\o.data= .set es n t
 tab:TabOk (es.toList.map (·.1)) t
 refs: ∀(i:Nat) (e:Int×iK),es[i]?=Zv e-> ∃b,e.2= .ref b
 eq: ∀(i:Nat) (e:Int×iK),es[i]?=Zv e->EqAt A s e.2 x (eqs i)
 hash: ∀(i:Nat) (e:Int×iK),es[i]?=Zv e->eqs i=Zx->e.1=h
 quiet: ∀(l:jy) (prog:iX) (w:iR) (E:jn) (Q:vU),(∀v∈l,∃e∈es.toList,e.2=v)->Q Zy s->ag (ah prog w) A (u8 x l) Q E s
def Nw(ok:TabOk c t):t.gaveWay=C:=by
 obtain⟨k,h1,_,b⟩:=ok.pow;obtain⟨a,rfl⟩: ∃a,k=a+1:=⟨k-1,by lia⟩
 rw[qC] at b;unfold Zq;rw[yZ];lia
def IT(ok:TabOk a t)(h:(ZB a)=n):t.fits n=J:=by have:=ok.len;have:=ok.room;unfold mj mo;rw[ok.dum];simp only[lC,Fo,vh];exact⟨by lia,by show _+0<=_;lia⟩
def Srch.fits{a b n t x h eqs}(S:Srch A s a b n t x h eqs):t.fits b.size=J:=IT S.tab (by simp)
def yo{a:iu}{k:uq}{nn:Nat}{t:mE}{x:iK}{h:Int}{c:Nat->Bool}{adding:Bool}(S:Srch A s a k nn t x h c){Q:SetFound->Shared->Prop}
  (H: ∀i r,c i=Zx->i<k.size->(r=Zw\/r=Zv i)->(adding=Zy->r=Zv i)->Q (.there r) s)
  (k6:(∀i,i<k.size->c i=Zy)-> ∀n,(pr t.mask h n).j∉t.place.toList->(∀m,m<n->(pr t.mask h m).j∈t.place.toList)->Q (.free (pr t.mask h n).j Zy) s):
  ∀(l n:Nat) (u:Option dF),u.getD (t.probeStart h)=pr t.mask h n->(∀q,q<n-> ∃i,t.place[i]?=Zv (pr t.mask h q).j/\c i=Zy)->10*(t.mask+14)<n+l->n<=10*(t.mask+14)->
   ag (ah prog w) A (K3 a x h adding l u) Q E s:=by
 intro iV
 induction iV with
 |zero=>
  intro n u _ _ V X
  lia
 |succ l iH=>
  intro n u m5 U V X;obtain⟨o,T,hd⟩:=S.at_
  have occ: ∀m,m<n->(pr t.mask h m).j∈t.place.toList:=λm W=>by obtain⟨i,g,_⟩:=U m W;rw[<-lR] at g;exact mG g
  unfold K3;refine iz<|rZ T hd S.fits ?_;dsimp only;rw[Nw S.tab];simp only[jz,↓reduceIte];generalize R:t.probe _ h _=P;obtain⟨m,m1,m2,m3,F⟩:=JL S.tab m5 occ (hashAt:=λi=>(k[i]?.map (·.1)).getD 0);have O:t.probe (λi=>(k[i]?.map (·.1)).getD 0) h (u.getD<|t.probeStart h)=P:=R;rw[O] at F
  have N: ∀(i:Nat) (j:Nat),t.place[i]?=Zv j-> ∃e,k[i]?=Zv e/\(k[i]?.map (·.1)).getD 0=e.1:=λi j g=>by have h1:=(Kx.mp g).1;have L:=S.tab.len;rw[kh,kz] at L;exact⟨k[i],pK<|by lia,by rw[pK<|by lia];rfl⟩
  have ne: ∀(i:Nat) (j:Nat),t.place[i]?=Zv j->(k[i]?.map (·.1)).getD 0≠h->c i=Zy:=λi j g J=>by
   obtain⟨e,f,Y⟩:=N i j g
   cases d:c i with
   |false=>rfl
   |true=>exact absurd (Y.trans<|S.hash i e f d) J
  have seen: ∀q,q<m-> ∃i,t.place[i]?=Zv (pr t.mask h q).j/\c i=Zy:=λq d=>by
   by_cases p:q<n
   .exact U q p
   .obtain⟨i,g,J⟩:=m3 q (by lia) d;exact⟨i,g,ne i _ g J⟩
  rcases F with⟨a1,a2⟩|⟨i,a1,a2,a3⟩
  .subst a2;dsimp only;refine iM<|k6 (λi g=>?_) m a1 λq d=>?_
   .cases d:c i with
    |false=>rfl
    |true=>
     exfalso;have f:k[i]?=Zv k[i]:=pK g;have h1:=S.hash i _ f d;have L:=S.tab.len;rw[kh,kz] at L;have C:t.place[i]?=Zv t.place[i]:=pK (by lia);obtain⟨M,K,r2⟩:=S.tab.road i h t.place[i] (by rw[kD,lR,f];exact mV Zv h1) C
     have:M<m:=by
      by_cases p:M<m
      .exact p
      .exfalso;rcases mN (Ph.mp p) with p|heq
       .exact a1 (r2 m p)
       .subst heq;rw[<-lR] at C;rw[K] at a1;exact a1<|mG C
     obtain⟨Z,g1,g2⟩:=seen M this;rw[K] at g1;have:Z=i:=by rw[<-AL S.tab.ris g1,AL S.tab.ris C]
     rw[this,d] at g2;cases g2
   .obtain⟨i,g,_⟩:=seen q d;rw[<-lR] at g;exact mG g
  .subst a3;dsimp only;obtain⟨e,f,Y⟩:=N i _ a1;obtain⟨h',y⟩:=e;obtain⟨b,D⟩:=S.refs i _ f;dsimp only at D;subst D;have I:t.sameMemory t.moves t.mask=Zv Zx:=by simp[Zn]
   have B:i<k.size:=(Kx.mp f).1;cases hl:t.led
   .simp only[zb,↓reduceIte];refine iz<|S.quiet _ _ _ _ _ (λv hv=>?_) ?_
    .obtain⟨e,v9,rfl⟩:=lZ.mp hv;exact⟨e,(VL.mp (by simpa using(Array.mem_filter.mp<|VL.mp v9).1) |> λz=>by simpa using z),rfl⟩
    simp only[jz,↓reduceIte];rw[f];dsimp only;refine iz<|lM<|S.eq i _ f _ _ _ _ ?_;refine iz<|rZ T hd S.fits ?_;dsimp only
    cases d:c i with
    |true=>
     cases adding with
     |true=>simp only[gE,↓reduceIte];exact iM<|H i Zw d B (.inl Zz) (λz=>by cases z)
     |false=>simp only[eL,jz,↓reduceIte,I,qo S.tab.ris a1,f];refine iz<|Cj ?_;simp only[↓reduceIte];exact iz<|iM<|iM<|H i _ d B (.inr Zz) λ_=>rfl
    |false=>
     simp only[eM,jz,↓reduceIte,I,qo S.tab.ris a1,f];refine iz<|Cj ?_;simp only[↓reduceIte];refine iz<|iM ?_
     exact iH (m+1) _ rfl (λq G=>by
      by_cases e:q=m
      .subst e;exact⟨i,a1,d⟩
      .exact seen q (by lia)) (by lia) (by lia)
   .simp only[oJ,jz,↓reduceIte];rw[f];dsimp only;refine iz<|lM<|S.eq i _ f _ _ _ _ ?_;refine iz<|rZ T hd S.fits ?_;dsimp only
    cases d:c i with
    |true=>
     cases adding with
     |true=>simp only[gE,↓reduceIte];exact iM<|H i Zw d B (.inl Zz) (λz=>by cases z)
     |false=>simp only[eL,jz,↓reduceIte,I,qo S.tab.ris a1,f];refine iz<|Cj ?_;simp only[↓reduceIte];exact iz<|iM<|iM<|H i _ d B (.inr Zz) λ_=>rfl
    |false=>
     simp only[eM,jz,↓reduceIte,I,qo S.tab.ris a1,f];refine iz<|Cj ?_;simp only[↓reduceIte];refine iz<|iM ?_
     exact iH (m+1) _ rfl (λq G=>by
      by_cases e:q=m
      .subst e;exact⟨i,a1,d⟩
      .exact seen q (by lia)) (by lia) (by lia)
end
noncomputable abbrev mW(a:uq)(n:Nat)(t:mE):Obj:={cls:= .type "set",data:= .set a n t}
section
variable {c:iX}{w:iR}{A:iU}{E:jn}{s:iC}
def Ej{h:iT}{a:iu}{b es':uq}{n:Nat}{t t':mE}(d:h.get? a=Y (mW b n t)):(h.update a<|mu es' t').get? a=Y (mW es' (n+1) t'):=by have:=uD (mu es' t') d (by rw[putSet_of es' t' H];rfl);rw[putSet_of es' t' H] at this;exact this
def Mz{b:Type}(a:Array b):(aw a.size).filterMap (λi=>a[i]?)=a.toList:=by
 have: ∀(l:List b),(aw<|ZB l).filterMap (λi=>l[i]?)=l:=by
  intro l
  induction l with
  |nil=>rfl
  |cons x l d=>rw[lQ,ek,uH];simp only[List.getElem?_cons_zero,k8,sx,gG,d]
 have h:=this a.toList;simpa using h
def Rz{a:uq}: ∀(l:jU),(∀i∈l,i<a.size)->(l.filterMap λi=>a[i]?).map (·.1)=l.map λi=>(a.toList.map (·.1)).getD i 0:=by
 intro f
 induction f with
 |nil=>intro _;exact H
 |cons i l e=>
  intro h;have b:=h i jT;rw[uH,pK b];simp only[jY];rw[e λj d=>h j<|jX _ d]
  congr 1
  simp[b]
def Mv{a:iu}{d:uq}{n:Nat}{t:mE}(g:s.heap.get? a=Y (mW d n t))(v:t.fits d.size=J)(T:5<=d.size)(L:d.size<=500){Q:Unit->Shared->Prop}
  (h: ∀f es' O t',aI a s.heap f->f.get? a=Y (mW es' O t')->es'.toList.Perm d.toList->TabOk (es'.toList.map (·.1)) t'->t'.plain=t.plain->t'.led=t.led->Q () {s with heap:=f}):
  ag (ah c w) A (setRelay a<|fK d.size) Q E s:=by
 have x:fK d.size=d.size*4:=by unfold fK;rw[jc<|by lia]
 obtain⟨k,B,j,u,lk⟩:=C8 (d.size*4) (by lia);have z:eI (d.size*4)-1+1=2^k:=by have:=sK k;lia
 obtain⟨t',b,o,e,p,q,r⟩:=Rk z B j t.finger (t.movedTo<|eI (d.size*4)-1) t.led t.plain (d.toList.map (·.1)) (by rw[kh,kz];lia);rw[kh,kz] at e
 have er:t.relaid (d.map (·.1)) (d.size*4)=Y (t',b):=by unfold Zo;rw[<-o,<-Array.toList_map]
 have m: ∀i∈b.toList,i<d.size:=λi y=>wY.mp<|e.mem_iff.mp y;have l:(b.filterMap (d[·]?)).toList=b.toList.filterMap (λi=>d[i]?):=by simp
 have perm:(b.filterMap (d[·]?)).toList.Perm d.toList:=by rw[l];refine(e.filterMap _).trans ?_;rw[Mz]
 have sz:(b.filterMap (d[·]?)).size=d.size:=by rw[<-kz,perm.length_eq,kz]
 rw[x];unfold setRelay;refine iz<|rZ g H v ?_;dsimp only
 have U:2^k<=sizeLine:=by have:2^k<=2^11:=zc (by decide) j;rw[jH];lia
 rw[jc<|by rw[u];lia,er];refine iz ?_;change ag _ _ (if((b.filterMap (d[·]?)).size !=d.size)=J then _ else _) _ _ _;rw[jc<|by rw[sz];simp];refine iM ?_;dsimp only;refine u4 g H ?_ (by rw[sz,jH];lia);refine h _ (b.filterMap (d[·]?)) (n+1) t' (rp s.heap a _) (Ej g) perm ?_ q r;rw[l,Rz _ m];exact p
def pP{b:Type}(a:Array b)(p:Nat)(x:b):(aA a p x).toList.Perm (x::a.toList):=by rw[mh];refine Pf.trans ?_;rw[vb]
def Xy{a b:iu}{d:uq}{n:Nat}{t:mE}{h:Int}{p:Nat->Bool}(S:Srch A s a d n t (.ref b) h p)(H:s.heap.get? a=Zv (mW d n t))(g8:t.plain=Zx)(hz:d.size+1<=500)
  (G: ∀(N:vU),N Zx s->ag (ah c w) A (dM 8<|.ref b) N E s){Q:vU}
  (y:(∃i,i<d.size/\p i=Zx)->Q Zy s)
  (t7:(∀i,i<d.size->p i=Zy)-> ∀h' es' M t',aI a s.heap h'->h'.get? a=Zv (mW es' M t')->es'.toList.Perm ((h,.ref b)::d.toList)->TabOk (es'.toList.map (·.1)) t'->t'.plain=Zx->t'.led=t.led->Q Zx {s with heap:=h'}):
  ag (ah c w) A (Tk a (.ref b) h) Q E s:=by
 unfold Tk setAddHashedIn;refine lM<|iz<|rZ H Zz S.fits ?_;dsimp only;have Z:byScan (.ref b) d=Zy:=rfl;rw[Z];simp only[jz,↓reduceIte]
 have hm:t.mask+1<=2048:=by
  obtain⟨k,_,K,R⟩:=S.tab.pow;have:2^k<=2^11:=zc (by decide) K
  lia
 refine iz<|yo S (adding:=Zx) (λi r h1 T _ _=>?_) (λU m h1 T=>?_) 100000 0 Zw Zz (λq hq=>by lia) (by lia) (by lia)
 .dsimp only;exact iM<|y ⟨i,T,h1⟩
 .dsimp only;refine iz<|rZ H Zz S.fits ?_;dsimp only
  have x:(t.put (pr t.mask h m).j).1={t with place:=aA t.place (ap t.place (pr t.mask h m).j) (pr t.mask h m).j,dummies:= #[]}:=by unfold nF;dsimp only;rw[S.tab.dum,DE];rfl
  have P:(t.put (pr t.mask h m).j).2=ap t.place (pr t.mask h m).j:=rfl;have O:(t.put (pr t.mask h m).j).1.plain=Zx:=by rw[x];exact g8
  rw[iP O];refine iz<|G _ ?_;simp only[↓reduceIte]
  have v:(aA d (t.put (pr t.mask h m).j).2 (h,bg b)).size=d.size+1:=by rw[<-kz,(pP d _ _).length_eq,lQ,kz]
  refine iz<|u4 H Zz ?_ (by rw[v,jH];lia);have D:=Ej (es':=aA d (t.put (pr t.mask h m).j).2 (h,bg b)) (t':=(t.put (pr t.mask h m).j).1) H;have C:=rp s.heap a<|mu (aA d (t.put (pr t.mask h m).j).2 (h,bg b)) (t.put (pr t.mask h m).j).1;have f:(ZB d.toList)=d.size:=kz;have o:=S.tab.len;rw[kh,f] at o
  have l:(t.put (pr t.mask h m).j).1.place.size=d.size+1:=by rw[x];show(aA t.place _ _).size=_;rw[<-kz,(pP t.place _ _).length_eq,lQ,kz,o]
  have L:(t.put (pr t.mask h m).j).1.fill=d.size+1:=by unfold mo;rw[l,x];rfl
  have I:(t.put (pr t.mask h m).j).1.mask=t.mask:=by rw[x]
  have g:(t.put (pr t.mask h m).j).1.led=t.led:=by rw[x]
  by_cases e:(t.put (pr t.mask h m).j).1.tooFull=Zx
  .rw[e];simp only[zb,gE,↓reduceIte];have u:=S.tab.room;rw[kh,f] at u
   have Y:3*t.mask<=5*(d.size+1):=by unfold hV at e;rw[L,I] at e;have:=FN e;lia
   have m7:7<=t.mask:=by
    obtain⟨k,k3,_,R⟩:=S.tab.pow;have:2^3<=2^k:=zc (by decide) k3
    lia
   have F:(t.put (pr t.mask h m).j).1.fits (aA d (t.put (pr t.mask h m).j).2 (h,bg b)).size=Zx:=by unfold mj;rw[l,v,L,I];simp only[BEq.rfl,fe,vh];lia
   rw[<-v];refine iz<|Mv D F (by rw[v];lia) (by rw[v];lia) λh' es' M t' g1 g2 g3 V W X=>?_;exact iM<|t7 U h' es' M t' (C.trans g1) g2 (g3.trans<|pP d _ _) V (by rw[W];exact O) (by rw[X];exact g)
  .have B:(t.put (pr t.mask h m).j).1.tooFull=Zy:=by simpa using e
   rw[B];simp only[eM,jz,↓reduceIte]
   have J:5*(d.size+1)<3*t.mask:=by
    unfold hV at e;rw[L,I] at e;have: ¬(d.size+1)*5>=t.mask*3:=λz=>e<|nN z
    lia
   obtain⟨p1,p2⟩:=S.tab.put h1 T (by rw[kh,f];exact J) Zz Zz;refine iM<|t7 U _ _ _ _ C D (pP d _ _) ?_ O g;rw[mh,nK,jY,<-FL,<-List.map_drop] at*;rw[P];exact p1
def WY(S:Srch A s a d n t (.ref b) h eqs)(l:s.heap.get? a=Y (mW d n t)) 
  (h1: ∀i,i<d.size->eqs i=J->Q (Y i) s)(j:(∀i,i<d.size->eqs i=C)->Q I s):ag (ah c w) A (setFind a (.ref b) h) Q E s:=by
 unfold setFind setFindIn;refine iz<|rZ l H S.fits ?_;dsimp only;have g:byScan (.ref b) d=C:=rfl;rw[g];simp only[jz,↓reduceIte]
 have p:t.mask+1<=2048:=by
  obtain⟨k,_,f,o⟩:=S.tab.pow;have:2^k<=2^11:=zc (by decide) f
  lia
 refine iz<|yo S (adding:=C) (λi r g1 g2 _ g3=>?_) (λe m _ _=>?_) 100000 0 I H (λq u=>by lia) (by lia) (by lia)
 .rw[g3 H];exact iM<|h1 i g2 g1
 .exact iM (j e)
end
end TT
namespace PX
open L2 PySem.SeqAt TS
def D.hashL_map: ∀l:List D,D.hashL l=l.map D.hash:=by
 intro b
 induction b with
 |nil=>rw[D.hashL];rfl
 |cons d l a=>rw[D.hashL,a];rfl
def Dg: ∀{l:List D} {d:D},D.prL l=J->d∈l->D.pr d=J:=by
 intro c
 induction c with
 |nil=>intro d _ h;simp at h
 |cons e l b=>
  intro d a h;rw[D.prL,lC] at a;rcases kT.mp h with rfl|h
  .exact a.1
  .exact b a.2 h
def rh: ∀{l:List D} {d:D},d∈l->d.dep<=D.depL l:=λ{l d} h=>by obtain⟨j,a⟩:=se h;exact D.dep_mem a
section
variable {X:Cx}{c:jq}{f:L2.St}{H:Hp}{s:iC}
def RepV(X:Cx)(H:Hp)(O:AP')(d:List D)(a:jy):Prop:= ∃b,RepL X.K H O d b/\Vals b a
def RepV.cons(h:RepV X H O (d::ds) (v::e)):(∃x,Rep X.K H O d x/\RelV x v)/\RepV X H O ds e:=by
 obtain⟨k,r,vs⟩:=h;rw[RepL] at r;obtain⟨x,j,rfl,g,i⟩:=r
 cases vs with
 |cons a b=>exact⟨⟨x,g,a⟩,j,i,b⟩
def RepV.nil_of{O:AP'}{a:List D}(h:RepV X H O a []):a=[]:=by
 obtain⟨g,r,b⟩:=h;cases b
 cases a with
 |nil=>rfl
 |cons d a=>rw[RepL] at r;obtain⟨_,_,e,_⟩:=r;cases e
def RepV.cons_of(h:RepV X H O a (v::e)): ∃d b,a=d::b:=by
 cases a with
 |nil=>obtain⟨i,r,g⟩:=h;rw[RepL] at r;subst r;cases g
 |cons d a=>exact⟨d,a,rfl⟩
def N7: ∀(n:Nat) {s:iC} (I:Inv X c f H s) (d:D) (v:V) (u:iK) (O:AP') (A:iU) (E:jn) (Q:Int->Shared->Prop),Rep X.K H O d v->RelV v u->D.pr d=Zx->d.dep<=n->A.units+n<aT->(∀j,s.toks<=j->Q d.hash {s with toks:=j})->
  ag (ah X.prog X.w) A (pyHash u) Q E s:=by
 intro n
 induction n with
 |zero=>
  intro s I d v u O A E Q g T m hd R z
  cases d with
  |int i=>have:=g.int;subst this;obtain⟨t,rfl⟩:=T;have:=z (s.toks+1)<|xw _;rw[D.hash] at this;exact Gv this
  |tup l=>rw[D.dep] at hd;lia
  |_=>simp[D.pr] at m
 |succ n ih=>
  intro s I d v u O A E Q g T m hd R z
  cases d with
  |int i=>have:=g.int;subst this;obtain⟨t,rfl⟩:=T;have:=z (s.toks+1)<|xw _;rw[D.hash] at this;exact Gv this
  |tup l=>
   rw[D.pr] at m;rw[D.dep] at hd;obtain⟨a,xs,rfl,q,r⟩:=g.tup;cases T;obtain⟨Z,vs,⟨o,U,S,nn,Y⟩,_⟩:=I.tuple q.sq;have B:s.TypeIs (.ref a) "tuple":=⟨o,U,S⟩
   have W:A.units<cLine:=by lia
   unfold pyHash;unfold pyHashByItsType;refine iz<|wpAny_cRoomFor_or (.inr W) ?_;refine iz<|uU B HF.lookup ?_;show ag _ _ (if(Zv (cS "tuple.__hash__")==Zv au)=Zx then _ else _) Q E s;rw[jc<|by rw[ww];exact ku];refine iz<|uU B HF.lookup ?_;show ag _ _ (callSpecialIfBoundUnlessNone? (.ref a) "__hash__" _>>=_) Q E s;refine iz<|wpAny_callSpecialIfBoundUnlessNone?_slot B HF<|nO HF B PySem.F.entry_tuple_hash ?_<|PySem.F.args_tuple_hash_1 _;show ag _ _ (c9 (.ref a)>>=_) _ _ s;refine iz<|wpAny_tupleItemsOf U Y ?_;refine iz ?_;rw[<-Ci]
   refine qE _
    (λjw (b:Array Int) G=> ∃done left,l=done++left/\RepV X H (λa=>O a) left jw/\b.toList=done.map D.hash/\ ∃j,s.toks<=j/\G={s with toks:=j})
    _ ?_ ?_ _ _ ⟨[],l,rfl,⟨xs,r,by simpa using vs⟩,rfl,s.toks,jQ _,rfl⟩
   .rintro x jw b G ⟨done,left,rfl,L,C',j,p,rfl⟩;obtain⟨d,left,rfl⟩:=L.cons_of;obtain⟨⟨y,h1,P⟩,M⟩:=L.cons;have N:d∈done++d::left:=by simp
    have aY:=rh N;refine iz<|ih (I.kept (h':=s.heap) (t':=j) λ_ _ e=>e) d y x O A.in1 E _ h1 P (Dg m N) (by lia) (by show A.units+1+n<aT;lia) λJ k=>?_
    first
     |exact iM ⟨done++[d],left,by simp,M,by simp[C'],J,ma p k,rfl⟩
     |exact iz<|iM<|iM ⟨done++[d],left,by simp,M,by simp[C'],J,ma p k,rfl⟩
   .rintro b G ⟨done,left,rfl,L,C',j,p,rfl⟩;have:=L.nil_of;subst this;have h:=z (j+1)<|n7 p;rw[D.hash,D.hashL_map,vq] at h;show ag _ _ (retInt<|bh b.toList) _ _ _;rw[C'];refine wpAny_ret_mkInt ?_;show ag _ _ (if(decide (-(2:Int)^63<=bh (done.map D.hash))&&decide (bh (done.map D.hash)<2^63))=Zx then _ else _) Q E _;unfold reduceHash at h;by_cases g:(decide (-(2:Int)^63<=bh (done.map D.hash))&&decide (bh (done.map D.hash)<2^63))=Zx
    .rw[iP g];rw[iP g] at h;exact iM h
    .rw[jc g];rw[jc g] at h;exact iz<|sf<|iM h
  |_=>simp[D.pr] at m
def WO(I:Inv X c f H s): ∀(n:Nat) (d:D) (v:V) (u:iK) (O:AP') (A:iU) (E:jn) (Q:vU),Rep X.K H O d v->RelV v u->D.pr d=Zx->d.dep<=n->Q Zx s->ag (ah X.prog X.w) A (dM n u) Q E s:=by
 intro n
 induction n with
 |zero=>
  intro d v u O A E Q g j b hd e
  cases d with
  |int i=>have:=g.int;subst this;obtain⟨t,rfl⟩:=j;exact rB (show dM 0 (.int i t)=pure Zx by simp[dM]) e
  |tup l=>rw[D.dep] at hd;lia
  |_=>simp[D.pr] at b
 |succ n U=>
  intro d v u O A E Q g j b hd e
  cases d with
  |int i=>have:=g.int;subst this;obtain⟨t,rfl⟩:=j;exact rB (show dM (n+1) (.int i t)=pure Zx by simp[dM]) e
  |tup l=>
   rw[D.pr] at b;rw[D.dep] at hd;obtain⟨a,F,rfl,q,r⟩:=g.tup;cases j;obtain⟨m,Y,⟨o,C,N,R,T⟩,_⟩:=I.tuple q.sq;have M:s.TypeIs (.ref a) "tuple":=⟨o,C,N⟩
   unfold dM;refine iz<|uU M HF.lookup ?_;dsimp only;refine iz<|qF C T ?_;refine iz ?_;show ag _ _ (forIn m.toArray _ _) _ _ s;rw[<-Ci];refine qE _ (λjw L p=>L.1=Zw/\p=s/\ ∃left,(∀d∈left,d∈l)/\RepV X H O left jw) _ ?_ ?_ _ _ ⟨rfl,rfl,l,λd h=>h,F,r,by simpa using Y⟩
   .rintro x jw L p ⟨k,rfl,left,hm,B⟩;obtain⟨d,left,rfl⟩:=B.cons_of;obtain⟨⟨y,h1,G⟩,J⟩:=B.cons;have z:=hm d jT;have P:=rh z;refine iz<|U d y x O A E _ h1 G (Dg b z) (by lia) ?_;simp -iota only[oJ,jz,jP];exact iM ⟨rfl,rfl,left,λd h=>hm d<|jX _ h,J⟩
   .rintro⟨S,W⟩ p ⟨k,rfl,_⟩;simp only at k;subst k;exact iM e
  |_=>simp[D.pr] at b
def PU{P:iX}{W:iR}(I:Inv X c f H s): ∀(n:Nat) (d:D) (v:V) (u:iK) (O:AP') (A:iU) (E:jn) (Q:vU),Rep X.K H O d v->RelV v u->D.pr d=Zx->d.dep<=n->Q Zx s->ag (ah P W) A (wn n u) Q E s:=by
 intro n
 induction n with
 |zero=>
  intro d v u O A E Q g j b hd e
  cases d with
  |int i=>have:=g.int;subst this;obtain⟨t,rfl⟩:=j;exact rB (vl 0 Zz) e
  |tup l=>rw[D.dep] at hd;omega
  |_=>simp[D.pr] at b
 |succ n N=>
  intro d v u O A E Q g j b hd e
  cases d with
  |int i=>have:=g.int;subst this;obtain⟨t,rfl⟩:=j;exact rB (vl (n+1) Zz) e
  |tup l=>
   rw[D.pr] at b;rw[D.dep] at hd;obtain⟨a,Y,rfl,q,r⟩:=g.tup;cases j;obtain⟨m,U,⟨o,C,M,S,T⟩,_⟩:=I.tuple q.sq;have z:s.TypeIs (.ref a) "tuple":=⟨o,C,M⟩
   unfold wn;refine iz<|uU z PySem.F.slot_tuple_eq.lookup ?_;show ag _ _ (tz (.ref a) (.type "tuple")>>=_) _ _ s;refine iz<|vd z isSubtype_tuple_tuple ?_;simp -iota only[oJ,jz,jP];refine iz<|qF C T ?_;refine iz ?_;show ag _ _ (forIn m.toArray _ _) _ _ s;rw[<-Ci];refine qE _ (λjw L p=>L.1=Zw/\p=s/\ ∃left,(∀d∈left,d∈l)/\RepV X H O left jw) _ ?_ ?_ _ _ ⟨rfl,rfl,l,λd h=>h,Y,r,by simpa using U⟩
   .rintro x jw L p ⟨k,rfl,left,hm,B⟩;obtain⟨d,left,rfl⟩:=B.cons_of;obtain⟨⟨y,h1,G⟩,J⟩:=B.cons;have w:=hm d jT;have R:=rh w;refine iz<|N d y x O A E _ h1 G (Dg b w) (by omega) ?_;simp -iota only[oJ,jz,jP];exact iM ⟨rfl,rfl,left,λd h=>hm d<|jX _ h,J⟩
   .rintro⟨Z,r2⟩ p ⟨k,rfl,_⟩;simp only at k;subst k;exact iM e
  |_=>simp[D.pr] at b
def JS{P:iX}{W:iR}(I:Inv X c f H s): ∀(n:Nat) (d:D) (v:V) (u:iK) (O:AP') (A:iU) (E:jn) (Q:vU),Rep X.K H O d v->RelV v u->D.pr d=Zx->d.dep<=n->Q Zy s->ag (ah P W) A (b3 n u) Q E s:=by
 intro n
 induction n with
 |zero=>
  intro d v u O A E Q g j b hd e
  cases d with
  |int i=>have:=g.int;subst this;obtain⟨t,rfl⟩:=j;exact rB (show b3 0 (.int i t)=pure Zy by simp[b3]) e
  |tup l=>rw[D.dep] at hd;omega
  |_=>simp[D.pr] at b
 |succ n N=>
  intro d v u O A E Q g j b hd e
  cases d with
  |int i=>have:=g.int;subst this;obtain⟨t,rfl⟩:=j;exact rB (show b3 (n+1) (.int i t)=pure Zy by simp[b3]) e
  |tup l=>
   rw[D.pr] at b;rw[D.dep] at hd;obtain⟨a,Y,rfl,q,r⟩:=g.tup;cases j;obtain⟨m,U,⟨o,B,M,R,L⟩,_⟩:=I.tuple q.sq;have J:s.TypeIs (.ref a) "tuple":=⟨o,B,M⟩
   unfold b3;refine iz<|sh J ?_;dsimp only;rw[iP<|by decide];refine iz<|iM ?_;simp -iota only[oJ,jz,jP];refine iz<|qF B L ?_;dsimp only;refine iz ?_;show ag _ _ (forIn m.toArray _ _) _ _ s;rw[<-Ci];refine qE _ (λjw C p=>C.1=Zw/\p=s/\ ∃left,(∀d∈left,d∈l)/\RepV X H O left jw) _ ?_ ?_ _ _ ⟨rfl,rfl,l,λd h=>h,Y,r,by simpa using U⟩
   .rintro x jw C p ⟨k,rfl,left,hm,z⟩;obtain⟨d,left,rfl⟩:=z.cons_of;obtain⟨⟨y,h1,T⟩,G⟩:=z.cons;have w:=hm d jT;have F:=rh w;refine iz<|N d y x O A E _ h1 T (Dg b w) (by omega) ?_;simp -iota only[jz,jP];exact iM ⟨rfl,rfl,left,λd h=>hm d<|jX _ h,G⟩
   .rintro⟨S,Z⟩ p ⟨k,rfl,_⟩;simp only at k;subst k;exact iM e
  |_=>simp[D.pr] at b
end
end PX
namespace TT
open PySem.SeqAt
def AI:pw F1 "set.__iter__"=Y bc.«frozenset.__iter__»:=G0 (id':="frozenset.__iter__") (by kernel_rfl) H (by decide+kernel) (by kernel_rfl)
def nX:Slot "set_iterator" "__next__" "set_iterator.__next__":= .of (owner:="set_iterator") (n:="__next__") (by rw[FK,FH];kernel_rfl) (by decide+kernel) (by decide+kernel) (by decide+kernel) (by first|exact .inl (by decide+kernel)|exact .inr<|by decide+kernel) (by rw[Cg];kernel_rfl)
def wa:Slot "set_iterator" "__iter__" "set_iterator.__iter__":= .of (owner:="set_iterator") (n:="__iter__") (by rw[FK,FH];kernel_rfl) (by decide+kernel) (by decide+kernel) (by decide+kernel) (by first|exact .inl (by decide+kernel)|exact .inr<|by decide+kernel) (by rw[Cg];kernel_rfl)
def uQ:pw F1 "set_iterator.__next__"=Y bc.«set_iterator.__next__»:=entryFor_of_fast (by kernel_rfl)
def Bc:pw F1 "set_iterator.__iter__"=Y bc.«dict_keyiterator.__iter__»:=G0 (id':="dict_keyiterator.__iter__") (by kernel_rfl) H (by decide+kernel) (by kernel_rfl)
def wW(a:iK):IR "set_iterator.__next__" ⟨[a],[]⟩:=by unfold IR;kernel_rfl
def DW(a:iK):IR "set_iterator.__iter__" ⟨[a],[]⟩:=by unfold IR;kernel_rfl
theorem rM{a:Type}: ∀(l:List a) {i:Nat} (h:i<ZB l),(l[i]::l.eraseIdx i).Perm l
 |x::l,0,_=>by simp
 |x::l,i+1,h=>by have:=rM l (i:=i) (by simpa using h);simp only[List.getElem_cons_succ,gH];exact(im x _ _).trans (io x this)
def Dh{d:Type}(next:Nat->Nat): ∀(a k:Nat) (left:List d) (b:Array d),ZB left<=a->(pickOrder.go next a k left b).toList.Perm (b.toList++left):=by
 intro f
 induction f with
 |zero=>intro k left b h;have:left=[]:=Pg.mp (by lia);subst this;unfold pickOrder.go;simp
 |succ a e=>
  intro k left b h;unfold pickOrder.go
  cases left with
  |nil=>simp
  |cons y l=>have c:next k%(y::l).length<(y::l).length:=xh _ (by simp);rw[jt c];dsimp only;refine(e (k+1) _ _ (by rw[Cf,iP c];simp at h ⊢;lia)).trans ?_;rw[fo,oq];refine K5 _ ?_;exact rM _ c
def zZ{b:Type}(next:Nat->Nat)(a:Array b):(gh next a).toList.Perm a.toList:=by unfold gh;have:=Dh next a.size 0 a.toList #[] (by simp);simpa using this
noncomputable def nW(w:iR)(a:iu)(n:Nat)(b:uq):Array (Int×iK):=if w.params.followText "set-order"=J then gh (w.params.setOrder a n) b else b
def Fp(w:iR)(a:iu)(n:Nat)(b:uq):(nW w a n b).toList.Perm b.toList:=by
 unfold nW;split
 .exact zZ _ _
 .exact uY _
def oQ(w:iR)(a:iu)(n:Nat)(b:uq):(nW w a n b).size=b.size:=by rw[<-kz,(Fp w a n b).length_eq,kz]
noncomputable def HU(t:mE):Nat->Nat
 |0=>0
 |i+1=>t.place.getD i 0+1
noncomputable def mB(w:iR)(t:mE)(i:Nat):Nat:=if w.params.followText "set-order"=J then 0 else HU t i
structure SetIs(w:iR)(h:iT)(a:iu)(es:uq)(n:Nat)(t:mE):Prop where
 at_:h.get? a=Zv (mW es n t)
 tab:TabOk (es.toList.map (·.1)) t
 plain:t.plain=Zx
 led:t.led=!w.params.followText "set-order"
def SetIter(w:iR)(h:iT)(c a:iu)(t:mE)(b n i:Nat):Prop:= ∃o,h.get? c=Y o/\o.cls= .type "set_iterator"/\o.data= .fields #[.int (mB w t i) 0,.int i 0,.ref a,.int b 0,.int n 0]
section
variable {prog:iX}{w:iR}{A:iU}{E:jn}{s:iC}
def SetIs.fits{h a b n t}(S:SetIs w h a b n t):t.fits b.size=J:=IT S.tab (by simp)
def HB(c:t.place.toList.Pairwise (· < ·))(j:i<=t.place.size):ap t.place (HU t i)=i:=by
 cases i with
 |zero=>
  obtain⟨h1,a,_⟩:=pE c 0
  cases g:ap t.place 0 with
  |zero=>exact g
  |succ k=>
   have h:0<t.place.size:=by lia
   have:=a 0 _ (by lia) (pK h)
   lia
 |succ i=>
  have hd:t.place.getD i 0=t.place[i]:=by simp[f3,show i<t.place.size by lia]
  show ap t.place (t.place.getD i 0+1)=i+1;rw[hd];have e:t.place[i]?=Y t.place[i]:=pK (by lia);obtain⟨h1,a,f⟩:=pE c<|t.place[i]+1;by_cases l:ap t.place (t.place[i]+1)<i+1
  .have:=f i _ (by lia) e;lia
  .by_cases b:i+1<ap t.place (t.place[i]+1)
   .have d:t.place[i+1]?=Y t.place[i+1]:=pK (by lia);have:=a (i+1) _ b d;have:=Dc c (sv i) e d
    lia
   .lia
def zS{a:iu}{b:uq}{n:Nat}{t:mE}(S:SetIs w s.heap a b n t){i:Nat}(q:i<=b.size){Q:Option (iK×Nat)->Shared->Prop}
  (h1: ∀e,(nW w a n b)[i]?=Y e->Q (Y (e.2,mB w t<|i+1)) s)(h:i=b.size->Q I s):ag (ah prog w) A (setNext a (mB w t i) i n) Q E s:=by
 have p:=S.tab.len;rw[kh,kz] at p;unfold setNext;refine iz<|rZ S.at_ H S.fits ?_;dsimp only;unfold tv;refine iz<|iz<|xu<|iM ?_;by_cases c:w.params.followText "set-order"=J
 .have f:(ah prog w).w.params.followText "set-order"=J:=c;rw[iP f,jc<|by simp];unfold setWalk tv;refine iz<|iz<|rZ S.at_ H S.fits ?_;dsimp only;refine iz<|iz<|xu<|iM ?_;rw[iP f];refine iz<|xu<|iM<|iM ?_;have g:nW w a n b=gh (w.params.setOrder a n) b:=by unfold nW;rw[iP c]
  have d: ∀k,mB w t k=0:=λk=>by unfold mB;rw[iP c]
  show Q (((gh (w.params.setOrder a n) b)[i]?).map λe=>(e.2,mB w t i)) s;rw[<-g];rw[d] at h1;rw[d]
  cases j:(nW w a n b)[i]? with
  |some e=>exact h1 e j
  |none=>have:=VD.mp j;rw[oQ] at this;exact h (by lia)
 .have f: ¬(ah prog w).w.params.followText "set-order"=J:=c;rw[jc f];change ag _ _ (if(!t.plain&&decide (b.size>1))=J then _ else _) _ _ _;rw[jc<|by rw[S.plain];simp];have m:t.led=J:=by rw[S.led];simpa using c
  refine iz ?_;change ag _ _ (if(!t.led&&!b.isEmpty)=J then _ else _) _ _ _;rw[jc<|by rw[m];simp];refine iM ?_;have g:nW w a n b=b:=by unfold nW;rw[jc c]
  have d: ∀k,mB w t k=HU t k:=λk=>by unfold mB;rw[jc c]
  have l:ap t.place (mB w t i)=i:=by rw[d];exact HB S.tab.ris (by lia)
  rw[l];rw[g] at h1;by_cases o:i<b.size
  .have g1:b[i]?=Y b[i]:=pK o;have g2:t.place[i]?=Y t.place[i]:=pK (by lia);rw[g1,g2];have:=h1 b[i] g1;rw[d] at this;rw[show HU t (i+1)=t.place.getD i 0+1 from H] at this;have hd:t.place.getD i 0=t.place[i]:=by simp[f3,show i<t.place.size by lia]
   rw[hd] at this;exact iM this
  .rw[Ck<|by lia];exact iM<|h (by lia)
def SetIs.typeIs{a b n t}(S:SetIs w s.heap a b n t):s.TypeIs (.ref a) "set":=⟨_,S.at_,rfl⟩
def SetIter.typeIs{it a t z n i}(S:SetIter w s.heap it a t z n i):s.TypeIs (.ref it) "set_iterator":=let⟨o,c,b,_⟩:=S;⟨o,c,b⟩
def N0(S:SetIs w s.heap a d n t) 
  (f: ∀c,SetIter w c s.heap.objs.size a t d.size n 0->(∀b o,s.heap.get? b=Y o->c.get? b=Y o)->c.objs.size=s.heap.objs.size+1->Q (.ref s.heap.objs.size) {s with heap:=c}):
  ag (ah prog w) A (en<|.ref a) Q E s:=by
 refine FG S.typeIs KZ<|nO KZ S.typeIs AI ?_<|PySem.F.args_set_iter_1 _;unfold bc.«frozenset.__iter__» qs o9;simp -iota only[xg,oJ,jz,↓reduceIte,uB,uT,uC];unfold df q9;refine iz<|iM ?_;dsimp only;refine iz<|iM ?_;refine iz<|iz<|FF S.at_ H S.fits<|iM ?_;unfold setDrawn tv;refine iz<|iz<|rZ S.at_ H S.fits ?_;dsimp only;refine iz<|iz<|xu<|iM ?_;refine iM ?_;change ag _ _ (if(!w.params.followText "set-order"&&(!t.plain&&decide (d.size>1)))=J then _ else _) _ _ _;rw[jc<|by rw[S.plain];simp];refine iz<|iM ?_;unfold setEpoch;refine iz<|iz<|rZ S.at_ H S.fits<|iM ?_;refine iz<|nh<|iM ⟨_,rfl,"set_iterator",_,⟨_,kc _ rfl,rfl⟩,nX.lookup,?_⟩;refine f _ ⟨_,kc _ rfl,rfl,?_⟩ (λb o e=>jM _ e) (rC _ _);have:mB w t 0=0:=by unfold mB;split<;>rfl
 rw[this];rfl
def A4{c a:iu}{b:uq}{n:Nat}{t:mE}(S:SetIs w s.heap a b n t){i:Nat}(f:SetIter w s.heap c a t b.size n i)(x:c≠a){e:Int×iK}(h:(nW w a n b)[i]?=Y e){Q:Bi}
  (p: ∀d,SetIter w d c a t b.size n (i+1)->aI c s.heap d->Q (Y e.2) {s with heap:=d}):ag (ah prog w) A (cM<|.ref c) Q E s:=by
 obtain⟨o,g,q,hd⟩:=id f;have r:i<b.size:=by have:=(Kx.mp h).1;rw[oQ] at this;exact this
 unfold cM;refine iz<|sd<|uF (name:=bi "__next__") f.typeIs nX<|nO nX f.typeIs uQ ?_<|wW _;unfold bc.«set_iterator.__next__» o9;simp only[xg,oJ,jz,↓reduceIte,uB,uT,uC];refine iz<|iM ?_;unfold fieldsOf;simp only[uB];refine iz<|xG g ?_;rw[hd];refine iz<|iM ?_;dsimp only;refine iz<|FF S.at_ H S.fits ?_;rw[jc<|by simp];have h1:((mB w t i:Nat):Int).toNat=mB w t i:=si _;have l:((i:Nat):Int).toNat=i:=si _;have m:((n:Nat):Int).toNat=n:=si _;rw[h1,l,m];refine iz (zS S (sD r) (λv k=>?_) λz=>by lia);rw[h] at k;cases k;dsimp only;refine iz<|vf g hd (by simp) ?_;have j:=uD (gF λu=>u.setIfInBounds 0<|cZ<|mB w t<|i+1) g<|CD<|uz hd _;refine iz<|vf j (uz hd _) (by simp)<|iM ⟨_,rfl,iM<|p _ ?_ ((rp ..).trans (rp ..))⟩;refine⟨_,uD _ j (CD<|uz (uz hd _) _),?_,?_⟩
 .rw[CC,CC];exact q
 .rw[uz<|uz hd _];simp[cZ]
def Ds(j:A.handled=I)(S:SetIs w s.heap a c n t)(d:SetIter w s.heap it a t c.size n c.size)(q:it≠a) 
  (i: ∀e,eJ it s.heap e->Q I {s with heap:=e}):ag (ah prog w) A (cM<|.ref it) Q E s:=by
 obtain⟨o,f,p,hd⟩:=id d;unfold cM;refine iz<|sd<|uF (name:=bi "__next__") d.typeIs nX<|nO nX d.typeIs uQ ?_<|wW _;unfold bc.«set_iterator.__next__» o9;simp only[xg,oJ,jz,↓reduceIte,uB,uT,uC];refine iz<|iM ?_;unfold fieldsOf;simp only[uB];refine iz<|xG f ?_;rw[hd];refine iz<|iM ?_;dsimp only;refine iz<|FF S.at_ H S.fits ?_;rw[jc<|by simp];have h1:((mB w t c.size:Nat):Int).toNat=mB w t c.size:=si _;have g:((c.size:Nat):Int).toNat=c.size:=si _;have h:((n:Nat):Int).toNat=n:=si _;rw[h1,g,h];refine iz<|zS S (jQ _) (λl k=>?_) λ_=>?_
 .have:=(Kx.mp k).1;rw[oQ] at this;omega
 dsimp only;refine iz<|vf f hd (by simp) ?_;show ag _ _ (l4 (.type "StopIteration") []>>=_) _ _ _;refine iz ?_;simp -iota only[l4,pp];refine iz<|nh ?_ (by size_fits);refine iz (m:=dg _ _)<|rB (a:=au) (by first|rfl|(simp -iota only[dg];rfl)) ?_;refine nh ?_ (by size_fits);simp -iota only[F2];refine iz<|F8 ?_;rw[show A.in1.handled=I from j];refine iz<|iM<|F7 ?_;refine iz<|vd (T:="StopIteration") (b:=J) ⟨_,kc _ rfl,rfl⟩ Cw ?_;exact iM<|i _ (((rp ..).extBut.push _).push _)
def J3(b:SetIter w s.heap it a t z n i)(c:Q (.ref it) s):ag (ah prog w) A (en<|.ref it) Q E s:=by refine FG b.typeIs wa<|nO wa b.typeIs Bc ?_<|DW _;unfold bc.«dict_keyiterator.__iter__» o9;simp -iota only[xg,oJ,jz,↓reduceIte,uB,uT,uC];exact iz<|iM<|iM ⟨_,rfl,"set_iterator",_,b.typeIs,nX.lookup,c⟩
def SetIs.stay{a b n t}(S:SetIs w h a b n t)(k: ∀o,h.get? a=Y o->c.get? a=Y o):SetIs w c a b n t:=⟨k _ S.at_,S.tab,S.plain,S.led⟩
def Jy(q:A.handled=I)(U a:iu)(j:U≠a)(c:uq)(n:Nat)(t:mE):
  Walks prog w A U [U,a] [U] c.size (λi v=> ∃e,(nW w a n c)[i]?=Y e/\v=e.2) (λi h=>SetIter w h U a t c.size n i/\SetIs w h a c n t) where
 sub:=λb d=>by simp at d;simp[d]
 frame:=λ_ _ _ st hk=>⟨(by obtain⟨o,h1,p⟩:=st.1;exact⟨o,hk U (by simp) o h1,p⟩),st.2.stay λo e=>hk a (by simp) o e⟩
 item:=λi s Q E r st f=>by
  have u:i<(nW w a n c).size:=by rw[oQ];exact r
  have l:(nW w a n c)[i]?=Y (nW w a n c)[i]:=pK u;refine A4 st.2 st.1 j l λg m k=>?_;exact f _ g s.toks ⟨_,l,rfl⟩ ⟨m,st.2.stay λo e=>k.extBut a o (λh=>j h.symm) e⟩ λb o d e=>k.extBut b o (λh=>d<|by simp[h]) e
 done:=λs Q E st f=>Ds q st.2 st.1 j λg x=>f g s.toks λb o d e=>x b o (λh=>d<|by simp[h]) e
 self:=λ_ _ _ _ st f=>J3 st.1 f
def RP(hh:A.handled=Zw)(S:SetIs w s.heap a d n t)(hn:d.size<=sizeLine) 
  (hQ: ∀i tk,(∀b o,s.heap.get? b=Zv o->i.get? b=Zv o)->Q ((nW w a n d).toList.map (·.2)) {s with heap:=i,toks:=tk}):ag (ah prog w) A (fV<|.ref a) Q E s:=by
 have u:a<s.heap.objs.size:=jN S.at_;have r:a≠s.heap.objs.size:=jF u;have M:a≠s.heap.objs.size+1:=jF<|vo u;have y:s.heap.objs.size≠s.heap.objs.size+1:=jF<|sv _;unfold fV;refine iz<|F9<|rq KY ?_;rw[uA KW _];show ag _ A.in1 (lw []>>=λl=>again<|.builtin "list.__iadd__" ⟨[l,.ref a],[]⟩) _ _ s;refine iz<|nh ?_;refine iM ⟨qG Ce _,rq KU ?_⟩;rw[uA Ce _];show ag _ A.in1 (cb (.ref s.heap.objs.size) (.ref a)<|.ref s.heap.objs.size) _ _ _;generalize z:({cls:= .type "list",data:= .seq ([]:List iK).toArray}:e6)=g;have p:SetIs w (s.heap.push g) a d n t:=S.stay λo e=>jM _ e;unfold cb;refine iz<|sh (T:="set") (s:={s with heap:=s.heap.push g}) p.typeIs ?_;have h1:cy (.ref s.heap.objs.size) (.ref a)=Zy:=by simp only[cy,yZ];exact r.symm
 have c:(bQ "set"==bQ "list")=Zy:=by decide
 have Z:(bQ "set"==bQ "tuple")=Zy:=by decide
 simp -iota only[h1,c,Z,ut,jz,jP];refine iz<|N0 (s:={s with heap:=s.heap.push g}) p λc v q z2=>?_;have x:(s.heap.push g).objs.size=s.heap.objs.size+1:=rC _ _;have h:SetIs w c a d n t:=p.stay λo e=>q _ _ e;refine iz<|lM ?_;unfold e9;refine iz<|uU (T:="set") (s:={s with heap:=c}) h.typeIs PySem.F.slot_set_len.lookup ?_;generalize B:("set.__len__":String)=id0;dsimp only;rw[show SI id0=Zv ("set","__len__") from by subst B;decide+kernel];dsimp only;refine iz<|vd (T:="set") (s:={s with heap:=c}) (b:=Zx) h.typeIs (by rw[Cg];kernel_rfl) ?_;simp -iota only[oJ,jz,jP];change ag _ _ (if _=Zx then _ else _) _ _ _;rw[iP<|by subst B;decide+kernel];refine iz<|sh (T:="set") (s:={s with heap:=c}) h.typeIs ?_;dsimp only;refine iM ?_;change ag _ _ (if _=Zx then _ else _) _ _ _;rw[iP<|by decide+kernel];refine iz<|sf ?_;have H:c.get? s.heap.objs.size=Zv g:=q _ _ (kc _ (by subst z;rfl));subst z;refine iz ?_;show ag _ A.in1 (i3 s.heap.objs.size (·.push .none)>>=λ_=>i3 s.heap.objs.size (·.pop)) _ _ _;refine iz<|Cd (s:={s with heap:=c}) H Zz ?_;have C:=uD (aG (·.push au)) H Zz;refine Cd C Zz ?_;have V:=uD (aG (·.pop)) C Zz
 have oth: ∀b o,b≠s.heap.objs.size->c.get? b=Zv o->((c.update s.heap.objs.size (aG (·.push au))).update s.heap.objs.size (aG (·.pop))).get? b=Zv o:=
  λb o f e=>(xD _ _ (ni f)).trans<|(xD _ _ (ni f)).trans e
 have W:=(Jy (prog:=prog) (w:=w) (A:=A.in1) (by show A.handled=Zw;exact hh) (s.heap.objs.size+1) a M.symm d n t).toS;rw[x] at v;refine iM ⟨qG KS _,?_⟩;rw[x];refine KR W hn s.heap.objs.size (by simp -iota only[kT,my,nM,qe];exact⟨y,r.symm⟩) _ d.size 0 _ _ _ rfl (lL _) ?_ V (ItemsOf.nil _) λL m c' k J l9=>?_
 .refine⟨?_,h.stay λo e=>oth a o r e⟩;obtain⟨o,g1,g2⟩:=v;exact⟨o,oth _ o y.symm g1,g2⟩
 show ag _ A (load s.heap.objs.size>>=_) _ _ L;refine iz<|xG J ?_;obtain⟨i,R,Y,G,U⟩:=L;have K:R=s.gens:=k.gens;have D:Y=s.drawn:=k.drawn;have P:U=s.os:=k.os;subst K;subst D;subst P
 have N:m.toList=(nW w a n d).toList.map (·.2):=by
  obtain⟨a1,O⟩:=l9;apply zq
  .rw[kh,kz,kz,a1,oQ]
  .intro j g1 g2;have X:m[j]?=Zv m.toList[j]:=by rw[<-lR];exact jt g1
   obtain⟨e,I,hv⟩:=O j _ X;rw[hv];rw[kh,kz] at g2;rw[zp];rw[<-lR,jt<|by rw[kz];exact g2] at I;cases I;rfl
 refine iM ?_;show Q m.toList _;rw[N];refine hQ i G λb o e=>?_;have f:=jN e;exact k.heap b o (by simp -iota only[kT,my,nM,qe];exact⟨jF f,jF<|vo f⟩)<|oth b o (jF f)<|q _ _ (jM _ e)
end
section
variable {a:iX}{w:iR}{A:iU}{R:ms->Shared->Prop}{I:iu}{c b:kI}{G:Array eD->Array eD->Prop}{n:Nat}{P:Nat->iK->Prop}{St:Nat->Shared->Prop}
end
section
variable {a:iX}{w:iR}{A:iU}{E:jn}{s:iC}
noncomputable abbrev yh(w:iR):SetTable:= .fresh 0 0 (!w.params.followText "set-order")
end
end TT
namespace PX
open L2 PySem.SeqAt TS
def okS:D->Bool
 | .tup l=>D.prL l&&decide (D.depL l<=6)
 |_=>C
def pO(h:okS d=J): ∃l,d= .tup l:=by cases d<;>first|exact⟨_,rfl⟩|(simp[okS] at h)
def sQ(h:okS d=J):D.pr d=J:=by obtain⟨l,rfl⟩:=pO h;simp only[okS,lC] at h;rw[D.pr];exact h.1
def qR(h:okS d=J):d.dep<=7:=by obtain⟨l,rfl⟩:=pO h;simp -iota only[okS,lC,vh] at h;rw[D.dep];lia
def Hm(h1:D.pr x=J)(a:D.pr y=J):D.eqb x y=J↔x=y:=by
 rw[Hn x y h1 a];constructor
 .intro h;exact wU x y h1 a (by simpa using h)
 .rintro rfl;rw[Je];rfl
def DZ(a:List D)(d:D):List D:=if a.any (D.eqb · d)=J then a else a++[d]
def mI{d i:Type}(f:d->i){g m:List i}(h:g.Perm m): ∀l:List d,m=l.map f-> ∃c:List d,c.Perm l/\g=c.map f:=by
 induction h with
 |nil=>
  intro l e;have:l=[]:=by simpa using e.symm
  subst this;exact⟨[],.refl _,rfl⟩
 |cons x _ n=>
  intro l e
  cases l with
  |nil=>simp at e
  |cons y l=>simp -iota only[jY,d0] at e;obtain⟨c,p,q⟩:=n l e.2;exact⟨y::c,p.cons y,by rw[q,e.1];rfl⟩
 |swap x y w=>
  intro l e
  cases l with
  |nil=>simp at e
  |cons a l=>
   cases l with
   |nil=>simp at e
   |cons b l=>simp -iota only[jY,d0] at e;exact⟨b::a::l,.swap a b l,by rw[e.1,e.2.1,e.2.2];rfl⟩
 |trans _ _ k j=>intro l e;obtain⟨o,s,u⟩:=j l e;obtain⟨r,t,v⟩:=k o u;exact⟨r,t.trans s,v⟩
def yq{b d:Type}{F:b->d->Prop}{c m:List d}(h:c.Perm m): ∀{z:List b},Paired F z m-> ∃a:List b,Paired F a c/\a.Perm z:=by
 induction h with
 |nil=>intro z p;exact⟨z,p,.refl _⟩
 |cons x _ i=>
  intro z p
  cases p with
  |cons r t=>obtain⟨a,h1,g⟩:=i t;exact⟨_::a,.cons r h1,g.cons _⟩
 |swap x y s=>
  intro z p
  cases p with
  |cons r t=>
   cases t with
   |cons o t=>exact⟨_,.cons o<|.cons r t,.swap _ _ _⟩
 |trans _ _ f e=>intro z p;obtain⟨u,j,l⟩:=e p;obtain⟨q,k,n⟩:=f j;exact⟨q,k,n.trans l⟩
def RepL.zip{K U}{O:AP'}: ∀{l:List D} {b:List V},RepL K U O l b-> ∀p∈l.zip b,Rep K U O p.1 p.2:=by
 intro f
 induction f with
 |nil=>intro b h p a;simp at a
 |cons d l e=>
  intro b h p a;rw[RepL] at h;obtain⟨v,r,rfl,h1,c⟩:=h;rw[qD] at a;rcases kT.mp a with rfl|a
  .exact h1
  .exact e c p a
def RepL.ofZip{K U}{O:AP'}: ∀{l:List (D×V)},(∀p∈l,Rep K U O p.1 p.2)->RepL K U O (l.map (·.1)) (l.map (·.2)):=by
 intro c
 induction c with
 |nil=>intro _;exact RepL.nil
 |cons p l b=>intro h;exact RepL.cons (h p jT)<|b λq a=>h q<|jX _ a
abbrev hv(p:D×V):Int×V:=(D.hash p.1,p.2)
theorem zF: ∀(b:List D) (a:List V),(D.hashL b).zip a=(b.zip a).map hv
 |[],a=>by simp[D.hashL]
 |d::b,[]=>by simp
 |d::b,u::a=>by rw[D.hashL,qD,qD,jY,zF b a]
section
variable {X:Cx}{pins:jq}{σ:L2.St}{H:Hp}{s:iC}
structure SetV(X:Cx)(H:Hp)(O:AP')(h:iT)(a:iu)(vs:List D)(es:uq)(n:Nat)(t:mE)(l:List (D×V)):Prop where
 is:TT.SetIs X.w h a es n t
 perm:(l.map (·.1)).Perm vs
 rep: ∀p∈l,Rep X.K H O p.1 p.2
 par:Paired (λ(z:Int×V) (e:Int×iK)=>z.1=e.1/\RelV z.2 e.2) (l.map hv) es.toList
def GV{d c:Type}{F:d->c->Prop}{l:List d}{m:List c}(h:Paired F l m): ∀{i:Nat} {b:c},m[i]?=Y b-> ∃a,l[i]?=Y a/\F a b:=by
 induction h with
 |nil=>intro i b h;simp at h
 |cons r t f=>
  intro i b h
  cases i with
  |zero=>simp at h;subst h;exact⟨_,rfl,r⟩
  |succ i=>obtain⟨a,h1,e⟩:=f (i:=i) (b:=b) (by simpa using h);exact⟨a,by simpa using h1,e⟩
def GU{a b:Type}{F:a->b->Prop}: ∀{l:List a} {m:List b},Paired F l m->ZB l=(ZB m):=sG
def Ab{l:List (Int×V)}{m:List (Int×iK)}(h:Paired (λ(z:Int×V) (e:Int×iK)=>z.1=e.1/\RelV z.2 e.2) l m):l.map (·.1)=m.map (·.1):=by
 induction h with
 |nil=>rfl
 |cons r t a=>rw[jY,jY,r.1,a]
def SetV.srch(I:Inv X pins σ H s){O U:AP'}{a:iu}{vs:List D}{G n t l}(S:SetV X H O s.heap a vs G n t l)(hok:vs.all okS=Zx){d:D}{v:V}{u:iK}(hd:ke X.K H U d v)(ru:RelV v u)(N:okS d=Zx){A:iU}(hA:A.units+60<aT):
  ∃b,u= .ref b/\TT.Srch A s a G n t u d.hash (λi=>match l[i]? with|some p=>D.eqb p.1 d|none=>Zy):=by
 obtain⟨ld,rfl⟩:=pO N;obtain⟨b,xs,rfl,q,r⟩:=lz hd;cases ru;have hdp:=qR N;have gn:=sQ N;have h: ∀p∈l,okS p.1=Zx:=λp J=>mY.mp hok _ (S.perm.mem_iff.mp<|oI J)
 have at_: ∀(i:Nat) (e:Int×iK),G[i]?=Zv e-> ∃p,l[i]?=Zv p/\p∈l/\D.hash p.1=e.1/\RelV p.2 e.2:=λi e m=>by
  obtain⟨z,h1,f,C⟩:=GV S.par (i:=i) (b:=e) (by rw[lR];exact m);rw[kD] at h1
  cases Z:l[i]? with
  |none=>rw[Z] at h1;cases h1
  |some p=>rw[Z] at h1;cases h1;exact⟨p,rfl,mG Z,f,C⟩
 have M: ∀(e:D) (y:V) (T:iK) (x:AP') (B:iU) (P:iX) (W:iR) (Q:vU) (E:jn),okS e=Zx->ke X.K H x e y->RelV y T->Q Zx s->ag (ah P W) B (wn 8 T) Q E s:=λe y T x B P W Q E L hv hr o=>by
  obtain⟨le,rfl⟩:=pO L;rcases hv with hv|⟨_,_,hv⟩
  .exact PU I 8 _ _ _ x B E Q hv hr (sQ L) (by have:=qR L;lia) o
  .exact hv.elim
 have l5: ∀(e:D) (y:V) (T:iK) (x:AP') (B:iU) (P:iX) (W:iR) (Q:vU) (E:jn),okS e=Zx->ke X.K H x e y->RelV y T->Q Zy s->ag (ah P W) B (b3 8 T) Q E s:=λe y T x B P W Q E L hv hr o=>by
  obtain⟨le,rfl⟩:=pO L;rcases hv with hv|⟨_,_,hv⟩
  .exact JS I 8 _ _ _ x B E Q hv hr (sQ L) (by have:=qR L;lia) o
  .exact hv.elim
 refine⟨b,rfl,⟨_,S.is.at_,rfl⟩,S.is.tab,λi e m=>?_,λi e m=>?_,λi e m o=>?_,λls g w E Q hls o=>?_⟩
 .obtain⟨p,h1,f,C,j⟩:=at_ i e m;obtain⟨lp,J⟩:=pO<|h p f;have:=S.rep p f;rw[J] at this;obtain⟨c,xs,F,_⟩:=this.tup;rw[F] at j;exact⟨c,j⟩
 .obtain⟨p,h1,f,C,j⟩:=at_ i e m;rw[h1];have:=qR<|h p f;exact AG I 50 p.1 (.tup ld) p.2 (.ref b) _ _ O U A (.inl<|S.rep p f) hd j rfl (by lia) (by lia) (by lia)
 .obtain⟨p,h1,f,C,j⟩:=at_ i e m;rw[h1] at o;rw[(Hm (sQ<|h p f) gn).mp o] at C;exact C.symm
 .unfold u8;refine iz ?_;refine qE _ (λjw rr s'=>rr.1=Zw/\s'=s/\ ∀v∈jw,∃e∈G.toList,e.2=v) _ ?_ ?_ _ _ ⟨rfl,rfl,hls⟩
  .rintro y jw rr s' ⟨R,rfl,hm⟩;have k: ∀v∈jw,∃e∈G.toList,e.2=v:=λv hv=>hm v<|jX _ hv;obtain⟨e,m,rfl⟩:=hm y jT;obtain⟨i,hi⟩:=se m;rw[lR] at hi;obtain⟨p,h1,f,C,j⟩:=at_ i e hi;obtain⟨lp,J⟩:=pO<|h p f;have Y:=S.rep p f
   obtain⟨c,ec⟩: ∃c,e.2= .ref c:=by rw[J] at Y;obtain⟨c,xs,F,_⟩:=Y.tup;rw[F] at j;exact⟨c,j⟩
   rw[ec] at j ⊢;dsimp only;split
   .exact iM ⟨rfl,rfl,k⟩
   .refine iz (M _ _ _ U A g w _ _ N hd rfl ?_);simp -iota only[oJ,jz,jP];refine iz<|M _ _ _ O A g w _ _ (h p f) (.inl Y) j ?_;simp -iota only[oJ,jz,jP];refine iz<|l5 _ _ _ U A g w _ _ N hd rfl ?_;simp -iota only[jz,jP];refine iz<|l5 _ _ _ O A g w _ _ (h p f) (.inl Y) j ?_;simp -iota only[jz,jP];exact iM ⟨rfl,rfl,k⟩
  .rintro⟨r1,r2⟩ s' ⟨R,rfl,_⟩;simp only at R;subst R;exact iM o
def OthB.setV(U:Inv X pins σ H s)(h:OthB X.K (H a) .set o f us)(r:RepL X.K H O f us): ∃b n t l,SetV X H O s.heap a f b n t l:=by
 obtain⟨_,m,e,p⟩:=h;obtain⟨b,n,t,h1,c,g,i,j⟩:=(show ObjOk X.prog X.w H s.heap a (.stt m) from U.hok a _ e)
 rw[zF] at p;obtain⟨l,d,rfl⟩:=mI hv p _ rfl;refine⟨b,n,t,l,⟨h1,by rw[<-Ab c];exact g,i,j⟩,?_,λq k=>r.zip q<|d.mem_iff.mp k,c⟩;have:=d.map (·.1);rw[on<|by rw[r.length];exact jQ _] at this;exact this
def SetV.objOk{b n t l}(S:SetV X H O h a c b n t l):ObjOk X.prog X.w H' h a (.stt<|l.map hv):=
 ⟨b,n,t,S.is.at_,S.par,by rw[Ab S.par];exact S.is.tab,S.is.plain,S.is.led⟩
def SetV.lens{b n t l}(S:SetV X H O h a c b n t l):b.size=ZB c/\(ZB l)=(ZB c):=by
 have h1:=GU S.par;have d:=S.perm.length_eq;simp only[kh,kz] at h1 d
 lia
def SetV.oth{O:AP'}{h:iT}{a:iu}{vs:List D}{e n t l}(S:SetV X H O h a vs e n t l){K H'}{O':AP'}(i: ∀p∈l,Rep K H' O' p.1 p.2)(f:H' a=Y (.stt<|l.map hv)): ∃us,OthB K (H' a) .set [] vs us/\RepL K H' O' vs us:=by
 obtain⟨b,c,d⟩:=mI (·.1) S.perm.symm l Zz;refine⟨b.map (·.2),⟨rfl,l.map hv,f,?_⟩,?_⟩
 .rw[d,zF]
  have:(b.map (·.1)).zip (b.map (·.2))=b:=by
   clear c d
   induction b with
   |nil=>rfl
   |cons x l j=>rw[jY,jY,qD,j]
  rw[this];exact(c.map hv).symm
 .rw[d];exact RepL.ofZip λp g=>i p<|c.mem_iff.mp g
def SetV.add(I:Inv X pins σ H s){y n t l}(S:SetV X H O s.heap a c y n t l)(L:c.all okS=J)(hd:ke X.K H O' d v)(N:Rep X.K H O d v)(q:RelV v u)(o:okS d=J)(hz:(ZB c)<500)
  (hA:A.units+60<aT) 
  (h: ∀r h' f g J' t' T,s.toks<=f->aI a s.heap h'->SetV X H O h' a (DZ c d) g J' t' T->Q r {s with heap:=h',toks:=f}):ag (ah X.prog X.w) A (setAdd a u) Q E s:=by
 obtain⟨av,v8⟩:=S.lens;unfold setAdd;refine lM<|iz<|N7 50 I d v u O A E _ N q (sQ o) (by have:=qR o;lia) (by lia) λf Y=>?_;have U:Inv X pins σ H {s with toks:=f}:=I.kept (h':=s.heap) (t':=f) λ_ _ e=>e;obtain⟨b,rfl,R⟩:=SetV.srch (s:={s with toks:=f}) U S L hd q o hA;have G: ∀p∈l,p.1∈c:=λp j=>S.perm.mem_iff.mp<|oI j;refine TT.Xy R S.is.at_ S.is.plain (by lia) (λP k=>WO U 8 d v _ O A E P N q (sQ o) (by have:=qR o;lia) k) (λ⟨i,B,k⟩=>?_) λaq h' g J' t' g1 g2 g3 g4 g5 g6=>?_
 .have:DZ c d=c:=by
   unfold DZ
   cases C:l[i]? with
   |none=>rw[C] at k;cases k
   |some p=>rw[C] at k;rw[iP<|VC.mpr ⟨p.1,G p<|mG C,k⟩]
  exact h Zy s.heap f y n t l Y (CG a s.heap) (by rw[this];exact S)
 .have Z:c.any (D.eqb · d)=Zy:=by rw[nf];intro x hx;have W:=S.perm.mem_iff.mpr hx;obtain⟨p,j,rfl⟩:=lZ.mp W;obtain⟨i,B⟩:=se j;have:=aq i (by have:=(rT.mp B).1;lia);rw[B] at this;simpa using this
  have m:DZ c d=c++[d]:=by unfold DZ;rw[Z,jc ku]
  have M:Paired (λ(z:Int×V) (e:Int×iK)=>z.1=e.1/\RelV z.2 e.2) (((d,v)::l).map hv) ((d.hash,bg b)::y.toList):= .cons ⟨rfl,q⟩ S.par;obtain⟨z',p1,p2⟩:=yq g3 M;obtain⟨T,F,rfl⟩:=mI hv p2 _ rfl;refine h J h' f g J' t' T Y g1 ⟨⟨g2,g4,g5,g6.trans S.is.led⟩,?_,λp j=>?_,p1⟩
  .rw[m];refine(F.map (·.1)).trans ?_;rw[jY];exact(S.perm.cons d).trans (K7 d c).symm
  .rcases kT.mp (F.mem_iff.mp j) with rfl|j
   .exact N
   .exact S.rep p j
def Vu:ay "set"=Y (.type "set"):=by decide+kernel
def Vb(I:Inv X pins σ H s){G n t l}(S:SetV X H O s.heap a g G n t l)(q:g.all okS=Zx)(hd:ke X.K H O d v)(z:RelV v u)(k:okS d=Zx)(J:A.units+60<aT) 
  (h: ∀c,Q (g.any (D.eqb · d)) {s with toks:=c}):ag (ah X.prog X.w) A (YP a u) Q E s:=by
 obtain⟨Y,F⟩:=S.lens
 have N:Rep X.K H O d v:=by
  obtain⟨ld,rfl⟩:=pO k;rcases hd with hd|⟨_,_,hd⟩
  .exact hd
  .exact hd.elim
 unfold YP;refine lM<|iz<|N7 50 I d v u O A E _ N z (sQ k) (by have:=qR k;lia) (by lia) λc U=>?_;have B:Inv X pins σ H {s with toks:=c}:=I.kept (h':=s.heap) (t':=c) λ_ _ e=>e;obtain⟨b,rfl,C⟩:=SetV.srch (s:={s with toks:=c}) B S q hd z k J;have y: ∀p∈l,p.1∈g:=λp r=>S.perm.mem_iff.mp<|oI r;refine iz<|TT.WY C S.is.at_ (λi m j=>?_) λT=>?_
 .have:g.any (D.eqb · d)=Zx:=by
   cases o:l[i]? with
   |none=>rw[o] at j;cases j
   |some p=>rw[o] at j;exact VC.mpr ⟨p.1,y p<|mG o,j⟩
  have f:=h c;rw[this] at f;exact iM f
 .have:g.any (D.eqb · d)=Zy:=by rw[nf];intro x M;have L:=S.perm.mem_iff.mpr M;obtain⟨p,r,rfl⟩:=lZ.mp L;obtain⟨i,m⟩:=se r;have:=T i (by have:=(rT.mp m).1;lia);rw[m] at this;simpa using this
  have f:=h c;rw[this] at f;exact iM f
def Hs(U:Inv X pins σ H s){g n t l}(S:SetV X H O s.heap a f g n t l)(c:f.all okS=J)(hd:ke X.K H O d v)(i:RelV v u)(j:okS d=J)(k:A.units+61<aT) 
  (h: ∀e,Q (f.any (D.eqb · d)) {s with toks:=e}):ag (ah X.prog X.w) A (G1 (.ref a) u) Q E s:=by
 have b:=S.is.typeIs;unfold G1;refine lM<|iz<|uU b Kw.lookup ?_;change ag _ _ (if(Y (cS "set.__contains__")==Y au)=J then _ else _) _ E s;rw[jc<|by rw[ww];exact ku];refine iz<|wpAny_callSpecialUnlessNone?_slot (name:=bi "__contains__") b Kw<|nO Kw b entry_set_contains ?_<|PySem.F.args_set_contains_2 _ _;unfold bc.«frozenset.__contains__» eG;simp only[xg,uB];unfold df p0;refine iz<|iM ?_;dsimp only;refine iz<|iM ?_;dsimp only;refine iz<|EQ ?_;refine Vb U S c hd i j (by show A.units+1+60<aT;omega) λe=>?_;exact iM ⟨_,rfl,vz<|h e⟩
def inX(d e:D):Option Bool:=match e with
 | .oth .set [] a=>if a.all okS=J/\okS d=J then Y (a.any (D.eqb · d)) else I
 |_=>inD d e
def wF(d e:D):Option (D×Bool):=(inX d e).map λb=>(.bl (!b),C)
def GX(B:X.A.units+62<aT):OpR X (aJ .NotIn) (rD X.K wF):=by
 intro pins s σ H x y v u Q U j k h;obtain⟨O,d,e,z,np,h1,g,m,G⟩:=h;obtain⟨b,c,rfl⟩:=jk m;by_cases i: ∃f,e= .oth .set [] f
 .obtain⟨f,rfl⟩:=i;obtain⟨⟨o,hd⟩,rfl⟩:=iY (show(if f.all okS=J/\okS d=J then Y (f.any (D.eqb · d)) else I)=Y b from c);obtain⟨a,T,rfl,q,r⟩:=nQ g;cases k;obtain⟨w,n,t,l,S⟩:=q.setV U r;change ag _ _ (G1 (.ref a) v>>=λb=>pure<|cY (!b)) _ _ s;refine iz<|Hs U S o h1 j hd (by lia) λp=>?_;exact iM ⟨.bl _,H,U.kept (h':=s.heap) (t':=p) λ_ _ e=>e,rfl,G.bl⟩
 .have:inD d e=Y b:=by
   unfold inX at c;split at c
   .exact absurd ⟨_,rfl⟩ i
   .exact c
  exact Bw (by lia) pins s σ H x y v u Q U j k ⟨O,d,e,b,h1,g,this,G.bl⟩
end
def Mh(a:l.Perm m)(b: ∀x∈l,D.pr x=J):mH ltT l=mH ltT m:=Mb (λx c=>b x<|a.mem_iff.mpr c) ((kH ltT l).trans a)<|qm l
def Jx{k:Nat}{l:List D}(h:SortsBy k l):nr l=J:=by
 unfold nr;rw[xj];right
 cases l with
 |nil=>rfl
 |cons x m=>simp only[lC,mY,vh];refine⟨⟨by rw[h.hd x jT];rfl,λy a=>⟨⟨?_,h.pr y a⟩,h.dp y a⟩⟩,λy a z b=>h.cm y a z b⟩;rw[h.hd x jT,h.hd y a];simp
def Em(b:l.Perm m)(h:nr m=J):nr l=J:=by
 rcases Bq h with c|⟨k,B⟩
 .unfold nr;rw[xj];left;rw[b.length_eq];simpa using c
 .exact Jx (k:=k) ⟨λx a=>B.hd x<|b.mem_iff.mp a,λx a=>B.pr x<|b.mem_iff.mp a,λx a=>B.dp x<|b.mem_iff.mp a,λx a y d=>B.cm x (b.mem_iff.mp a) y<|b.mem_iff.mp d⟩
def sZ(d:D):Option (D×Bool):=match d with
 | .oth .set [] a=>if a.all okS=J then kJ a else I
 |_=>mw d
section
variable {X:Cx}
def DU(hc:X.calm=Zx)(L:X.A.units+62<aT):kF X (.builtin "sorted") (rDn X.K<|g1 sZ):=nE λg s σ H x u Q O d z I M np hd C G=>by
 by_cases E: ∃h,d= .oth .set [] h
 .obtain⟨h,rfl⟩:=E;have e:(if h.all okS=Zx then kJ h else Zw)=Zv z:=C;split at e
  .rename_i y;obtain⟨a,us,rfl,q,r⟩:=nQ hd;cases M;obtain⟨i,n,t,l,S⟩:=q.setV I r;obtain⟨N,v8⟩:=S.lens;have wp:=TT.Fp X.w a n i;obtain⟨z',o,T⟩:=yq wp S.par;obtain⟨c,B,rfl⟩:=mI hv T _ rfl;have J:RepL X.K H O (c.map (·.1)) (c.map (·.2)):=RepL.ofZip λp V=>S.rep p (B.mem_iff.mp V)
   have vv:Vals (c.map (·.2)) ((TT.nW X.w a n i).toList.map (·.2)):=by
    clear T B J wp;generalize (TT.nW X.w a n i).toList=m at o;revert o;generalize f:c.map hv=zz;intro o
    induction o generalizing c with
    |nil=>
      have:c=[]:=by simpa using f
      subst this;exact .nil
    |cons r t ih=>
     cases c with
     |nil=>simp at f
     |cons p c=>simp only[jY,d0] at f;rw[jY,jY];refine .cons ?_<|ih c f.2;have:=r.2;rw[<-f.1] at this;exact this
   have v:(c.map (·.1)).Perm h:=(B.map (·.1)).trans S.perm
   have U:kJ (c.map (·.1))=Zv z:=by unfold kJ at e ⊢;obtain⟨⟨h1,F⟩,rfl⟩:=iY e;rw[iP ⟨Em v h1,by rw[v.length_eq];exact F⟩,Mh v λx W=>sQ<|mY.mp y x<|v.mem_iff.mp W]
   have R:X.A.handled=Zw:=I.ok.hd hc
   have f:i.size<=sizeLine:=by unfold kJ at e;rw[N];exact(iY e).1.2
   exact ql L I J vv U G λQ' E' A' Y P=>TT.RP (by rw[Y];exact R) S.is f λD Z k=>P D Z k
  .cases e
 .have e:g1 mw [d]=Zv z:=by
   have:sZ d=mw d:=by
    unfold sZ;split
    .exact absurd ⟨_,rfl⟩ E
    .rfl
   show mw d=Zv z;rw[<-this];exact C
  exact rn L g s σ H [x] [u] Q I (.cons M .nil) ⟨O,[d],z,np,rfl,(λj d' v' a b=>by
   cases j with
   |zero=>simp at a b;subst a;subst b;exact hd
   |succ j=>simp at a),e,G⟩
end
end PX
namespace L2
section
variable {κ:Type}[DecidableEq κ]
def rO(a:List (κ×V))(k:κ):Option V:=(a.find? λb=>decide<|b.1=k).map (·.2)
def rP(a:List (κ×V))(k:κ)(v:V):List (κ×V):=
 if(a.any λb=>decide<|b.1=k)=J then a.map (λb=>if b.1=k then(b.1,v) else b) else a++[(k,v)]
theorem sJ{p:κ×V}{r:List (κ×V)}{k:κ}(e:p.1=k):rO (p::r) k=Y p.2:=by simp[rO,xb,e]
theorem oR{p:κ×V}{r:List (κ×V)}{k:κ}(e: ¬p.1=k):rO (p::r) k=rO r k:=by simp[rO,xb,e]
theorem Ef(k:κ): ∀a:List (κ×V),(a.any λb=>decide<|b.1=k)=(rO a k).isSome
 |[]=>rfl
 |p::r=>by
  rw[vg];by_cases e:p.1=k
  .simp only[sJ e,nN e,v6,eW]
  .rw[oR e,lS e,uu];exact Ef k r
theorem yy(a:List (κ×V))(k:κ)(v:V):(rP a k v).length<=ZB a+1:=by
 unfold rP;split
 .rw[kh];lia
 .rw[mF,lQ,uT];lia
theorem RelO.isSome_eq{o:Option V}{u:Option iK}(r:RelO o u):o.isSome=u.isSome:=by
 cases o with
 |none=>cases u with
  |none=>rfl
  |some _=>exact(show False from r).elim
 |some _=>cases u with
  |none=>exact(show False from r).elim
  |some _=>rfl
theorem KV.val{kvs:List (κ×V)}{vs:List (κ×iK)}(r:KV kvs vs)(k:κ):RelO (rO kvs k) (gJ vs k):=by
 unfold KV at r
 induction r with
 |nil=>exact be
 | @cons p q g c h t f=>
  obtain⟨h1,d⟩:=h;by_cases e:p.1=k
  .have a:q.1=k:=h1.symm.trans e;have b:gJ (q::c) k=Y q.2:=by simp[gJ,xb,a]
   rw[sJ e,b];exact d
  .have a: ¬q.1=k:=λz=>e<|h1.trans z;have b:gJ (q::c) k=gJ c k:=by simp[gJ,xb,a]
   rw[oR e,b];exact f
theorem KV.any{a:List (κ×V)}{vs:List (κ×iK)}(r:KV a vs)(k:κ):(a.any λb=>decide<|b.1=k)=vs.any λb=>decide (b.1=k):=by
 unfold KV at r
 induction r with
 |nil=>rfl
 |cons h t c=>rw[vg,vg,c,h.1]
theorem KV.repl{b:List (κ×V)}{c:List (κ×iK)}(r:KV b c)(k:κ){y:V}{u:iK}(g:RelV y u):
  KV (b.map λa=>if a.1=k then(a.1,y) else a) (c.map λa=>if a.1=k then(a.1,u) else a):=by
 unfold KV at r ⊢
 induction r with
 |nil=>exact .nil
 | @cons p q i j h t f=>
  rw[jY,jY];refine .cons ?_ f;obtain⟨h1,d⟩:=h;by_cases e:p.1=k
  .rw[iP e,iP<|h1.symm.trans e];exact⟨h1,g⟩
  .rw[jc e,jc λz=>e<|h1.trans z];exact⟨h1,d⟩
theorem KV.put{a:List (κ×V)}{b:List (κ×iK)}(r:KV a b)(k:κ){y:V}{u:iK}(c:RelV y u):KV (rP a k y) (stored b k u):=by
 unfold rP stored;rw[r.any k];by_cases e:(b.any λd=>decide<|d.1=k)=J
 .rw[iP e,iP e];exact r.repl k c
 .rw[jc e,jc e];exact Paired.snoc r ⟨rfl,c⟩
theorem KV.length{a:List (κ×V)}{vs:List (κ×iK)}(r:KV a vs):(ZB a)=(ZB vs):=sG r
end
def BF{P:iX}{w:iR}{k:Key}{u:iK}(r:RelV (kV k) u):(ky P w).is k u=J:=by
 cases k with
 |inl i=>obtain⟨t,e⟩:=(show ∃t,u=gk i t from r);subst e;exact EH P w i t
 |inr x=>obtain⟨t,e⟩:=(show ∃t,u=l8 x t from r);subst e;exact EG P w x t
theorem BG{P:iX}{w:iR}: ∀{a:List Key} {b:jy},Vals (a.map kV) b->ItemsAre (ky P w) a b
 |[],_,r=>by rw[vp] at r;cases r;exact .nil
 |k::a,_,r=>by
  rw[jY] at r
  cases r with
  |cons h t=>exact .cons (BF h)<|BG t
abbrev KT(U:Hp):List (List Key×V)->List (List Key×iu×iK)->Prop:=Paired λp q=>p.1=q.1/\U q.2.1=Y (.tup<|p.1.map kV)/\RelV p.2 q.2.2
def KT.val{U:Hp}{kvs:List (List Key×V)}{d:List (List Key×iu×iK)}(r:KT U kvs d)(k:List Key):RelO (rO kvs k) ((gU d k).map (·.2)):=by
 induction r with
 |nil=>exact be
 | @cons p q i c h t g=>
  obtain⟨h1,_,f⟩:=h;by_cases e:p.1=k
  .have a:q.1=k:=h1.symm.trans e;have b:gU (q::c) k=Y q.2:=by simp[gU,xb,a]
   rw[sJ e,b];exact f
  .have a: ¬q.1=k:=λz=>e<|h1.trans z;have b:gU (q::c) k=gU c k:=by simp[gU,xb,a]
   rw[oR e,b];exact g
def KT.repl{U:Hp}{a:List (List Key×V)}{d:List (List Key×iu×iK)}(r:KT U a d)(k:List Key){y:V}{u:iK}(i:RelV y u):
  KT U (a.map λb=>if b.1=k then(b.1,y) else b) (d.map<|putAt k u):=by
 induction r with
 |nil=>exact .nil
 | @cons p q j l h t g=>
  rw[jY,jY];refine .cons ?_ g;obtain⟨h1,c,f⟩:=h;unfold putAt;by_cases e:p.1=k
  .rw[iP e,iP<|h1.symm.trans e];exact⟨h1,c,i⟩
  .rw[jc e,jc λz=>e<|h1.trans z];exact⟨h1,c,f⟩
def KT.put{U:Hp}{a:List (List Key×V)}{c:List (List Key×iu×iK)}(r:KT U a c)(k:List Key){b:iu}{y:V}{u:iK}(f:U b=Y (.tup<|k.map kV))(d:RelV y u):
  KT U (rP a k y) (storedH c k b u):=by
 have e:(a.any λg=>decide<|g.1=k)=(gU c k).isSome:=by rw[Ef,(r.val k).isSome_eq,FE]
 unfold rP storedH;rw[e];by_cases q:(gU c k).isSome=J
 .rw[iP q,iP q];exact r.repl k d
 .rw[jc q,jc q];exact Paired.snoc r ⟨rfl,f,d⟩
def KT.keeps{U c:Hp}{a:List (List Key×V)}{d:List (List Key×iu×iK)}(r:KT U a d)(f: ∀b e,U b=Y (.tup e)->c b=Y (.tup e)):KT c a d:=
 Paired.mapP r λ_ _ z=>⟨z.1,f _ _ z.2.1,z.2.2⟩
section
variable {P:iX}{w:iR}{H:Hp}{h:iT}{a:iu}
def Si{u:HO}(ok:HOk P w H h)(e:Rd H a u):ObjOk P w H h a u:=e.ok ok
def OG{b:List (Key×V)}(ok:HOk P w H h)(e:Rd H a (.dK b)):(ZB b)<=sizeLine/\(a==bw)=C/\ ∃c,KV b c/\h.DictOf (ky P w) a c:=
 show ObjOk P w H h a (.dK b) from Si ok e
def OH{b:List (Key×V)}(ok:HOk P w H h)(e:H a=Y (.dK b)):(ZB b)<=sizeLine/\(a==bw)=C/\ ∃c,KV b c/\h.DictOf (ky P w) a c:=OG ok<|.inl e
def qW{c:List Key}(ok:HOk P w H h)(e:H a=Y (.tup<|c.map kV)):(cB<|ky P w).is h c a:=by
 obtain⟨_,b,r,o,h1,d,n,f⟩:=(show ObjOk P w H h a (.tup<|c.map kV) from ok a _ e)
 exact⟨o,b.toArray,n,h1,d,f,by simpa using BG r⟩
def OE{b:List (List Key×V)}(ok:HOk P w H h)(e:Rd H a (.dT b)):(ZB b)<=sizeLine/\(a==bw)=C/\
  ∃d,KT H b d/\h.DictOfH (cB<|ky P w) a d:=by
 obtain⟨z,y,d,r,o,i,g,h1,j,k,n,s⟩:=(show ObjOk P w H h a (.dT b) from Si ok e)
 refine⟨z,y,d,r,o,i,g,h1,j,k,n,λx c=>?_,s⟩
 have all: ∀{l:List (List Key×V)} {m:List (List Key×iu×iK)},KT H l m-> ∀x∈m,(cB<|ky P w).is h x.1 x.2.1:=by
  intro l m q
  induction q with
  |nil=>intro x c;exact nomatch c
  | @cons p q v A f t u=>
   intro x c;rcases kT.mp c with e|c
   .subst e;exact qW ok (by rw[<-f.1];exact f.2.1)
   .exact u x c
 exact all r x c
def IZ{b:List (List Key×V)}(ok:HOk P w H h)(e:H a=Y (.dT b)):(ZB b)<=sizeLine/\(a==bw)=C/\
  ∃c,KT H b c/\h.DictOfH (cB<|ky P w) a c:=OE ok<|.inl e
end
def DGet(U:Hp)(a:iu)(y:V)(r:Option V):Prop:=
 (∃c k,Rd U a (.dK c)/\y=kV k/\r=rO c k)\/ ∃c k b,Rd U a (.dT c)/\y= .ref b/\U b=Y (.tup<|k.map kV)/\r=rO c k
def DPut(U:Hp)(a:iu)(y v:V)(c:Hp):Prop:=
 (∃kvs k,U a=Y (.dK kvs)/\y=kV k/\(ZB kvs)<sizeLine/\c=upd U a (.dK<|rP kvs k v))\/
 ∃kvs k b,U a=Y (.dT kvs)/\y= .ref b/\U b=Y (.tup<|k.map kV)/\(ZB kvs)<sizeLine/\c=upd U a (.dT<|rP kvs k v)
def DGet.k{U:Hp}{a:iu}{kvs:List (Key×V)}{k:Key}(e:U a=Y (.dK kvs)):DGet U a (kV k) (rO kvs k):= .inl ⟨kvs,k,.inl e,rfl,rfl⟩
def DGet.t{U:Hp}{a b:iu}{kvs:List (List Key×V)}{k:List Key}(e:U a=Y (.dT kvs))(c:U b=Y (.tup<|k.map kV)):DGet U a (.ref b) (rO kvs k):= .inr ⟨kvs,k,b,.inl e,rfl,c,rfl⟩
def DPut.k{U:Hp}{a:iu}{kvs:List (Key×V)}{k:Key}{v:V}(e:U a=Y (.dK kvs))(b:(ZB kvs)<sizeLine):DPut U a (kV k) v (upd U a<|.dK<|rP kvs k v):= .inl ⟨kvs,k,e,rfl,b,rfl⟩
def DPut.t{U:Hp}{a b:iu}{kvs:List (List Key×V)}{k:List Key}{v:V}(e:U a=Y (.dT kvs))(c:U b=Y (.tup<|k.map kV))(d:(ZB kvs)<sizeLine):
  DPut U a (.ref b) v (upd U a<|.dT<|rP kvs k v):= .inr ⟨kvs,k,b,e,rfl,c,d,rfl⟩
section
variable {X:Cx}{d:jq}{f:St}{H:Hp}{s:iC}{a:iu}{y v:V}{u r:iK}{o:Option V}{A:iU}{E:jn}
def Inv.big(U:Inv X d f H s):bw<s.heap.objs.size:=by have h:am<s.heap.objs.size:=(U.mod.glob.keeps U.bk).lt;exact CJ (by decide) h
def Xd{Q:jn}(x:A.units+1<aT)(U:Inv X d f H s)(g:DGet H a y o)(n:RelV y u)(h: ∀p,Inv X d f H p->Q (.bool o.isSome) p):
  ag (ah X.prog X.w) A (aJ .In u<|.ref a) Q E s:=by
 rcases g with⟨m,k,e,j,l⟩|⟨m,k,b,e,j,t,l⟩
 .subst j;obtain⟨z,hd,B,c,i⟩:=OG U.hok e;refine XV (BF n) hd i.mapOf ?_;rw[<-(c.val k).isSome_eq,<-l];exact h _ (U.tok _)
 .subst j;cases(show u=bg b from n);obtain⟨z,hd,T,c,i⟩:=OE U.hok e;refine K2 (za x) (qW U.hok t) hd i ?_;have q:=(c.val k).isSome_eq;rw[FE] at q;rw[<-q,<-l];exact h _ (U.tok _)
def Ja{Q:jn}(x:A.units+1<aT)(U:Inv X d f H s)(g:DGet H a y o)(n:RelV y u)(h: ∀p,Inv X d f H p->Q (.bool (!o.isSome)) p):
  ag (ah X.prog X.w) A (aJ .NotIn u<|.ref a) Q E s:=by
 rcases g with⟨m,k,e,j,l⟩|⟨m,k,b,e,j,t,l⟩
 .subst j;obtain⟨z,hd,B,c,i⟩:=OG U.hok e;refine Fa (BF n) hd i.mapOf ?_;rw[<-(c.val k).isSome_eq,<-l];exact h _ (U.tok _)
 .subst j;cases(show u=bg b from n);obtain⟨z,hd,T,c,i⟩:=OE U.hok e;refine w5 (za x) (qW U.hok t) hd i ?_;have q:=(c.val k).isSome_eq;rw[FE] at q;rw[<-q,<-l];exact h _ (U.tok _)
def um{h':iT}{t':Nat}{c:HO}(U:Inv X d f H s)(j:Mut (H a))(i:aI a s.heap h')(h: ∃q,h'.get? a=Y q)(new:ObjOk X.prog X.w (upd H a c) h' a c):
  Inv X d f (upd H a c) {s with heap:=h',toks:=t'}:=
 U.write (x:=a) (e:=a) j (.inl Zz) (λb q g z=>(i.2 b g).trans z) h new
def Vq{P:iX}{w:iR}{h:Hp}{g:iT}{b:List (Key×V)}{e:List (Key×iK)}(z:(ZB b)<=sizeLine)(hd:(a==bw)=C)(c:KV b e)(i:g.DictOf (ky P w) a e):
  ObjOk P w h g a (.dK b):=⟨z,hd,e,c,i⟩
def yi{O:Hp}{Q:Unit->Shared->Prop}(hu:A.units+1<aT)(I:Inv X d f H s)(g:DPut H a y v O)(N:RelV y u)(M:RelV v r)(h: ∀U,Inv X d f O U->Q () U):
  ag (ah X.prog X.w) A (fU (.ref a) u r) Q E s:=by
 rcases g with⟨i,k,e,x,l,t⟩|⟨i,k,b,e,x,T,l,t⟩
 .subst x t;obtain⟨z,hd,V,j,p⟩:=OH I.hok e;have L:V.length<=sizeLine:=by rw[<-j.length];exact z
  have B:(rP i k v).length<=sizeLine:=by have:=yy i k v;lia
  refine wpAny_setItem_pairs (hsz:=L) (BF N) p λJ m C=>h _ ?_;have S: ∃q,J.get? a=Zv q:=let⟨q,_,_,n,_⟩:=m;⟨q,n⟩
  exact um I (by rw[e];exact be) C S<|Vq B hd (j.put k M) m
 .subst x t;cases(show u=bg b from N);obtain⟨z,hd,W,j,p⟩:=IZ I.hok e;have L:W.length<=sizeLine:=by rw[<-sG j];exact z
  have B:(rP i k v).length<=sizeLine:=by have:=yy i k v;lia
  refine wpAny_setItem_heap (hsz:=L) (za hu) (qW I.hok T) p λJ m C=>h _ ?_;obtain⟨q,D,Y,n,F,K,P,_,R⟩:=m;refine um I (by rw[e];exact be) C ⟨q,n⟩ ⟨B,hd,_,(j.put k T M).keeps λc Z G=>?_,q,D,Y,n,F,K,P,R⟩;rw[jb<|Nz G e (λz=>nomatch z)];exact G
end
def OI{P:iX}{w:iR}{U:Hp}(h:iT)(a:bw<h.objs.size):ObjOk P w U (h.push {cls:= .type "dict",data:= .dict #[]}) h.objs.size (.dK []):=
 ⟨lL _,yZ.mpr<|ni<|jF a,[],.nil,Heap.DictOf.new h⟩
def OF{P:iX}{w:iR}{U:Hp}(h:iT)(a:bw<h.objs.size):ObjOk P w U (h.push {cls:= .type "dict",data:= .dict #[]}) h.objs.size (.dT []):=
 ⟨lL _,yZ.mpr<|ni<|jF a,[],.nil,_,#[],0,kc _ rfl,⟨rfl,rfl,rfl⟩,rfl,rfl,pJ⟩
def Ti:TE:=λ_ U Q=> ∀p,U p=I->Q (.ref p) (upd U p<|.dK [])
section
variable {X:Cx}{b:bI}
def Ni:PE X (.Dict [] [] b) Ti:=λc s d T Q U h=>wpAny_Dict_empty ⟨.ref s.heap.objs.size,_,U.laid (a:=s.heap.objs.size) (o:= .dK []) (t':=s.toks) (λ_ _ q=>jM _ q) (jQ _)<|OI s.heap U.big,rfl,h _ (U.hok.fresh<|jQ _)⟩
end
end L2
namespace PX
open L2 PySem.SeqAt TS
noncomputable def An:D->Option Key
 | .int i=>Y<|.inl i
 | .str x=>Y<|.inr x
 |_=>I
noncomputable def A7:List D->Option (List Key)
 |[]=>Y []
 |d::l=>(An d).bind λk=>(A7 l).map (k:: ·)
noncomputable def wz:D->Option (List Key)
 | .tup l=>A7 l
 |_=>I
def qw(h:An d=Y k):d=kg k:=by
 cases d<;>simp[An] at h<;>subst h<;>rfl
def NZ: ∀{l:List D} {a:List Key},A7 l=Y a->l=a.map kg:=by
 intro e
 induction e with
 |nil=>intro a h;cases h;rfl
 |cons d l c=>intro a h;rw[A7] at h;obtain⟨k,h1,h⟩:=ir h;obtain⟨m,b,rfl⟩:=jk h;rw[qw h1,c b];rfl
def sY(h:wz d=Y a):d= .tup (a.map kg):=by
 cases d with
 |tup l=>rw[NZ (show A7 l=Y a from h)]
 |_=>cases h
def wK(a b:Key):D.eqb (kg a) (kg b)=decide (a=b):=by
 cases a with
 |inl i=>cases b with
  |inl j=>simp only[kg,D.eqb,NY]
  |inr y=>simp only[kg,D.eqb,NX]
 |inr x=>cases b with
  |inl j=>simp only[kg,D.eqb,NW]
  |inr y=>simp only[kg,D.eqb,NV];rfl
theorem uj: ∀a b:List Key,D.eqbL (a.map kg) (b.map kg)=decide (a=b)
 |[],[]=>by simp[D.eqbL]
 |[],_::_=>by simp[D.eqbL]
 |_::_,[]=>by simp[D.eqbL]
 |x::a,y::b=>by simp only[jY];rw[D.eqbL,wK,uj a b];simp only[d0,fS]
def mS:List D->List D->D->Option D
 |a::b,v::c,k=>if D.eqb a k=J then Y v else mS b c k
 |_,_,_=>I
def uJ:List D->List D->D->D->List D
 |b::c,v::a,k,w=>(if D.eqb b k=J then w else v)::uJ c a k w
 |_,a,_,_=>a
def uw(a b:List D)(k w:D):List D×List D:=if a.any (D.eqb · k)=J then(a,uJ a b k w) else(a++[k],b++[w])
noncomputable def wB(a:List D)(k:D):Bool:=((An k).isSome&&a.all λx=>(An x).isSome)||((wz k).isSome&&a.all λx=>(wz x).isSome)
section
variable {K:iW}{H:Hp}{O:AP'}
def Et(h:Rep K H O (kg k) v):v=kV k:=by
 cases k with
 |inl i=>exact Rep.int h
 |inr x=>exact Rep.str h
def JD: ∀{b:List Key} {a:List V},RepL K H O (b.map kg) a->a=b.map kV:=by
 intro e
 induction e with
 |nil=>intro a h;rw[vp,RepL] at h;exact h
 |cons k b d=>intro a h;rw[jY,RepL] at h;obtain⟨v,r,rfl,h1,c⟩:=h;rw[Et h1,d c];rfl
def tP(hk:An d=Y k)(h:ke K H O d v):v=kV k:=by
 rw[qw hk] at h;rcases h with h|⟨a,rfl,h⟩
 .exact Et h
 .cases k<;>exact h.elim
def oF(hk:wz d=Y c)(h:ke K H O d v): ∃b,v= .ref b/\H b=Y (.tup<|c.map kV):=by
 rw[sY hk] at h;rcases h with h|⟨a,rfl,h⟩
 .obtain⟨b,xs,rfl,q,r⟩:=h.tup;rw[JD r] at q;exact⟨b,rfl,q.1⟩
 .exact h.elim
theorem NK{k:Key}: ∀{a:List (Key×V)} {b:List D},RepL K H O b (a.map (·.2))->(∀d,mS (a.map λp=>kg p.1) b (kg k)=Y d-> ∃v,rO a k=Y v/\Rep K H O d v)/\(mS (a.map λp=>kg p.1) b (kg k)=I->rO a k=I)
 |[],b,_=>⟨λd h=>by cases b<;>simp[mS] at h,λ_=>rfl⟩
 |(c,v)::a,[],h=>by rw[jY,RepL] at h;cases h
 |(c,v)::a,m::b,h=>by
  rw[jY,RepL] at h;obtain⟨w,r,e,h1,f⟩:=h;obtain⟨rfl,rfl⟩:=va e;obtain⟨j,l⟩:=NK (k:=k) f;simp only[jY,mS,wK];by_cases hk:c=k
  .simp only[hk,decide_true,kG];exact⟨λd h=>by cases h;exact⟨v,sJ (p:=(k,v)) Zz,h1⟩,λh=>by cases h⟩
  .simp only[hk,decide_false,jz,jP];refine⟨λd h=>?_,λh=>?_⟩
   .obtain⟨u,g,i⟩:=j d h;exact⟨u,by rw[oR (p:=(c,v)) hk];exact g,i⟩
   .rw[oR (p:=(c,v)) hk];exact l h
theorem NJ{k:List Key}: ∀{a:List (List Key×V)} {b:List D},RepL K H O b (a.map (·.2))->(∀d,mS (a.map λp=> .tup (p.1.map kg)) b (.tup<|k.map kg)=Y d-> ∃v,rO a k=Y v/\Rep K H O d v)/\(mS (a.map λp=> .tup (p.1.map kg)) b (.tup<|k.map kg)=I->rO a k=I)
 |[],b,_=>⟨λd h=>by cases b<;>simp[mS] at h,λ_=>rfl⟩
 |(c,v)::a,[],h=>by rw[jY,RepL] at h;cases h
 |(c,v)::a,m::b,h=>by
  rw[jY,RepL] at h;obtain⟨w,r,e,h1,f⟩:=h;obtain⟨rfl,rfl⟩:=va e;obtain⟨j,l⟩:=NJ (k:=k) f;simp only[jY,mS,D.eqb,uj];by_cases hk:c=k
  .simp only[hk,decide_true,kG];exact⟨λd h=>by cases h;exact⟨v,sJ (p:=(k,v)) Zz,h1⟩,λh=>by cases h⟩
  .simp only[hk,decide_false,jz,jP];refine⟨λd h=>?_,λh=>?_⟩
   .obtain⟨u,g,i⟩:=j d h;exact⟨u,by rw[oR (p:=(c,v)) hk];exact g,i⟩
   .rw[oR (p:=(c,v)) hk];exact l h
end
section
variable {P:iX}{w:iR}{H H':Hp}{h:iT}{a:iu}
def SJ(x:ObjOk P w H h a (.dT [])):ObjOk P w H' h a (.dK []):=by
 obtain⟨z,y,k,r,o,b,c,h1,d,f,g,j⟩:=x;cases r
 have:b= #[]:=by
  have:b.toList=[]:=by simpa using g
  exact VJ.mp this
 subst this;refine⟨z,y,[],.nil,o,#[],c,h1,d,f,?_,?_,pJ⟩
 .first|exact λe i=>by simp at i|(intro;simp)
 .first|exact .nil|trivial|simp[Pairs]
def SM(x:ObjOk P w H h a (.dK [])):ObjOk P w H' h a (.dT []):=by
 obtain⟨z,y,n,r,o,c,d,h1,f,g,k,b,m⟩:=x;cases r
 have:c= #[]:=by
  have j:(ZB c.toList)=0:=by
   first
    |simpa using (ZB b)
    |simpa using(sG b)
    |(
      cases i:c.toList with
      |nil=>rfl
      |cons e l=>rw[i] at b;cases b)
  exact VJ.mp<|Pg.mp j
 subst this;exact⟨z,y,[],.nil,o,#[],d,h1,f,g,rfl,pJ⟩
end
section
variable {X:Cx}{f:jq}{g:L2.St}{H:Hp}{s:iC}
def J7{A:iU}{E:jn}(U:Inv X f g H s){H':Hp}{a:iu}{k:Key}{u:iK}{Q:jn}(x:ObjOk X.prog X.w H' s.heap a (.dK []))(e:RelV (kV k) u)(b:Bool)(h: ∀i,Inv X f g H i->Q (.bool b) i):
  ag (ah X.prog X.w) A (aJ (if b=J then .NotIn else .In) u<|.ref a) Q E s:=by
 obtain⟨z,hd,j,c,d⟩:=x;cases c
 cases b with
 |false=>exact XV (BF e) hd d.mapOf<|h _ (U.tok _)
 |true=>exact Fa (BF e) hd d.mapOf<|h _ (U.tok _)
def J6{A:iU}{E:jn}(i:A.units+1<aT)(U:Inv X f g H s){H':Hp}{a b:iu}{k:List Key}{Q:jn}(x:ObjOk X.prog X.w H' s.heap a (.dT []))(e:H b=Y (.tup<|k.map kV))(c:Bool)(h: ∀j,Inv X f g H j->Q (.bool c) j):
  ag (ah X.prog X.w) A (aJ (if c=J then .NotIn else .In) (.ref b)<|.ref a) Q E s:=by
 obtain⟨z,hd,v,r,o,m,l,h1,n,p,q,t⟩:=x;cases r;have d:s.heap.DictOfH (cB<|ky X.prog X.w) a []:=⟨o,m,l,h1,n,p,q,(λx (u:x∈[])=>by simp at u),t⟩
 cases c with
 |false=>exact K2 (za i) (qW U.hok e) hd d<|h _ (U.tok _)
 |true=>exact w5 (za i) (qW U.hok e) hd d<|h _ (U.tok _)
def wA(h:wB d k=J):(∃e,An k=Y e/\ ∀x∈d,∃c,An x=Y c)\/(∃i,wz k=Y i/\ ∀x∈d,∃c,wz x=Y c):=by
 unfold wB at h;rw[xj,lC,lC,mY,mY] at h;rcases h with⟨h1,a⟩|⟨h1,a⟩
 .exact .inl ⟨_,(Jn.mp h1).choose_spec,λx b=>Jn.mp<|a x b⟩
 .exact .inr ⟨_,(Jn.mp h1).choose_spec,λx b=>Jn.mp<|a x b⟩
def HN{a:List Key}{c:Key}(h:An (.tup<|a.map kg)=Y c):False:=by cases h
def ES(h:wz (kg k)=Y c):False:=by cases k<;>cases h
def Xc(z:A.units+1<aT)(I:Inv X f g H s)(q:OthB X.K (H a) .dct ks n us)(r:RepL X.K H O n us)(hk:wB ks k=Zx)(T:ke X.K H O k y)(o:RelV y u)(l:Bool)
  (h: ∀j,Inv X f g H j->Q (.bool<|xor l (mS ks n k).isSome) j):ag (ah X.prog X.w) A (aJ (if l=Zx then .NotIn else .In) u<|.ref a) Q E s:=by
 have nil: ∀n:List D,mS [] n k=Zw:=λn=>by cases n<;>rfl
 rcases q with⟨i,e,rfl,rfl⟩|⟨i,e,rfl,rfl⟩
 .rcases wA hk with⟨B,h1,_⟩|⟨C',h1,M⟩
  .have:=tP h1 T;subst this;have G:=qw h1;subst G;obtain⟨F,P⟩:=NK (k:=B) r
   have Y:(rO i B).isSome=(mS (i.map λp=>kg p.1) n<|kg B).isSome:=by
    cases x:mS (i.map λp=>kg p.1) n (kg B) with
    |none=>rw[P x];rfl
    |some d=>obtain⟨v,N,_⟩:=F d x;rw[N];rfl
   rw[<-Y] at h
   cases l with
   |false=>exact Xd z I (DGet.k e) o λj m=>by simpa using h j m
   |true=>exact Ja z I (DGet.k e) o λj m=>by simpa using h j m
  .have J:i=[]:=by
    cases i with
    |nil=>rfl
    |cons p i=>obtain⟨c,U⟩:=M (kg p.1) (by simp);exact(ES U).elim
   subst J;obtain⟨b,rfl,L⟩:=oF h1 T;cases o;rw[vp,nil] at h;exact J6 z I (SM (H':=H)<|I.hok a _ e) L l λj m=>by simpa using h j m
 .rcases wA hk with⟨B,h1,M⟩|⟨C',h1,_⟩
  .have J:i=[]:=by
    cases i with
    |nil=>rfl
    |cons p i=>obtain⟨c,U⟩:=M (.tup<|p.1.map kg) (by simp);exact(HN U).elim
   subst J;have:=tP h1 T;subst this;rw[vp,nil] at h;exact J7 I (SJ (H':=H)<|I.hok a _ e) o l λj m=>by simpa using h j m
  .obtain⟨b,rfl,L⟩:=oF h1 T;have G:=sY h1;subst G;obtain⟨F,P⟩:=NJ (k:=C') r
   have Y:(rO i C').isSome=(mS (i.map λp=> .tup (p.1.map kg)) n<|.tup<|C'.map kg).isSome:=by
    cases x:mS (i.map λp=> .tup (p.1.map kg)) n (.tup<|C'.map kg) with
    |none=>rw[P x];rfl
    |some d=>obtain⟨v,N,_⟩:=F d x;rw[N];rfl
   rw[<-Y] at h
   cases l with
   |false=>exact Xd z I (DGet.t e L) o λj m=>by simpa using h j m
   |true=>exact Ja z I (DGet.t e L) o λj m=>by simpa using h j m
end
section
variable {X:Cx}
noncomputable def Ox:F:=λa=>Y ((.oth .dct [] [],J),a)
def Qe{a:bI}:PX X (.Dict [] [] a) Ox:=PX.imp Ni λh U Q c=>by obtain⟨g,T,f,d,E,e,k⟩:=c;cases e;intro p b;have B:=Ops.nil E;exact(B.done k) p _ b (lr b) ⟨[],.inl ⟨[],ja,rfl,rfl⟩,RepL.nil⟩
end
section
variable {K:iW}{T:AP'}{d:L2.St}{c:Dn}{H:Hp}{i:Nat}{g d':D}{a:iu}{o:HO}
def OwnI.writeG{j:Nat}{b:iu}(hd:c[i]?=Y (Y (g,J)))(h:OwnI d (c.set i<|Y (d',J)) j b):OwnI d c j b:=by
 obtain⟨e,h1,f⟩:=h;rcases lW h1 with⟨rfl,_,_⟩|⟨_,q⟩
 .exact⟨_,hd,f⟩
 .exact⟨e,q,f⟩
def ER.writeG(E:ER K H T d c)(hd:c[i]?=Y (Y (g,Zx)))(p:d[i]?=Y (Y<|.ref a))(r:OwnOk K (upd H a o) (λb=>OwnA d c b\/T b) d' a):
  ER K (upd H a o) T d (c.set i<|Y (d',Zx))/\Keep d c H (c.set i<|Y (d',Zx)) (upd H a o):=by
 have M:i<(ZB c):=(rT.mp hd).1;have s:OwnA d c a:=⟨i,_,hd,p⟩
 have B: ∀b,OwnA d (c.set i<|Y (d',Zx)) b->OwnA d c b:=λb a'=>by
  obtain⟨j,e,h1,m⟩:=a'
  obtain⟨U,t,v⟩:=OwnI.writeG hd ⟨e,h1,m⟩;exact⟨j,U,t,v⟩
 have A: ∀b u,H b=Y u-> ¬(OwnA d c b\/T b)->upd H a o b=Y u:=λb u e n=>by rw[jb<|by intro z;subst z;exact n<|.inl s];exact e
 have N: ∀b,H b≠I->upd H a o b≠I:=λb z=>by
  by_cases y:b=a
  .subst y;rw[ja];simp
  .rw[jb y];exact z
 have sub: ∀b,(OwnA d (c.set i<|Y (d',Zx)) b\/T b)->OwnA d c b\/T b:=λb z=>z.imp (B b) id;refine⟨⟨by rw[qK];exact E.len,λj e h=>?_,λj e h=>?_,λj k e f b h hk h1 m=>?_,λb z=>E.nT b<|B b z,λb z=>by have ne:b≠a:=λe=>E.nT a s<|e▸z;rw[jb ne];exact E.dom b z⟩,⟨λb u e n=>by rw[jb<|by intro z;subst z;exact n s];exact e,λj b z=>OwnI.writeG hd z,N⟩⟩
 .rcases lW h with⟨_,_,q⟩|⟨_,q⟩
  .cases q
  .obtain⟨w,l,x⟩:=E.val j e q;exact⟨w,l,Rep.mono A (λb _ z=>sub b z) x⟩
 .rcases lW h with⟨rfl,_,q⟩|⟨ne,q⟩
  .cases q;exact⟨a,p,r.mono (λ_ _ e _=>e) (λb _ z=>sub b z) λ_ e=>e⟩
  .obtain⟨b,l,x⟩:=E.own j e q;refine⟨b,l,x.mono A (λb _ z=>sub b z) λu Q=>?_⟩;rw[jb]
   .exact Q
   .intro z;subst z;exact ne<|E.inj i j _ _ _ hd q p l
 .obtain⟨L,t,v⟩:=OwnI.writeG hd ⟨e,h,h1⟩;obtain⟨O,G,J⟩:=OwnI.writeG hd ⟨f,hk,m⟩;exact E.inj j k L O b t G v J
end
section
variable {X:Cx}{c:jq}{d:L2.St}{H:Hp}{s:iC}{a:iu}
def TH(U:Inv X c d H s)(e:H a=Y (.dT [])):Inv X c d (upd H a<|.dK []) s:=by have:=um (t':=s.toks) (h':=s.heap) U (by rw[e];exact be) (CG a s.heap) (by obtain⟨z,y,g,r,o,f,b,h1,_⟩:=(show ObjOk X.prog X.w H s.heap a (.dT []) from U.hok a _ e);exact⟨o,h1⟩)<|SJ (H':=upd H a<|.dK [])<|U.hok a _ e;exact this
def TF(U:Inv X c d H s)(e:H a=Y (.dK [])):Inv X c d (upd H a<|.dT []) s:=by have:=um (t':=s.toks) (h':=s.heap) U (by rw[e];exact be) (CG a s.heap) (by obtain⟨z,y,g,r,o,f,b,h1,_⟩:=(show ObjOk X.prog X.w H s.heap a (.dK []) from U.hok a _ e);exact⟨o,h1⟩)<|SM (H':=upd H a<|.dT [])<|U.hok a _ e;exact this
def Wl:R5:=λo i v H Q=> ∃a,o= .ref a/\((∃e,DPut H a i v e/\Q e)\/(∃f,H a=Y (.dT [])/\i=kV f/\Q (upd H a<|.dK [(f,v)]))\/
 (∃g b,H a=Y (.dK [])/\i= .ref b/\H b=Y (.tup<|g.map kV)/\Q (upd H a<|.dT [(g,v)])))
def Mn(j:X.A.units+1<aT):VB X Wl:=by
 intro c s d H o i v E T u Q U x l m h;obtain⟨a,rfl,h⟩:=h;cases x;rcases h with⟨r,g,q⟩|⟨y,e,rfl,q⟩|⟨B,b,e,rfl,n,q⟩
 .exact yi j U g l m λp f=>⟨r,f,q⟩
 .refine yi j (TH U e) (DPut.k (k:=y) (v:=v) ja<|by rw[jH];decide) l m λp f=>⟨_,f,?_⟩
  rw[HM];exact q
 .have w:b≠a:=Nz n e (λz=>nomatch z);refine yi j (TF U e) (DPut.t (k:=B) (v:=v) (b:=b) ja (by rw[jb w];exact n)<|by rw[jH];decide) l m λp f=>⟨_,f,?_⟩
  rw[HM];exact q
end
section
variable {K:iW}{H:Hp}{O:AP'}
theorem Mu{k:Key}{w:D}{v:V}(d:Rep K H O w v): ∀{a:List (Key×V)} {b:List D},RepL K H O b (a.map (·.2))->RepL K H O (uJ (a.map λp=>kg p.1) b (kg k) w) ((a.map λc=>if c.1=k then(c.1,v) else c).map (·.2))
 |[],b,h=>by cases b<;>simpa[uJ] using h
 |(f,u)::a,[],h=>by rw[jY,RepL] at h;cases h
 |(f,u)::a,i::b,h=>by
  rw[jY,RepL] at h;obtain⟨x,r,e,h1,g⟩:=h;obtain⟨rfl,rfl⟩:=va e;simp only[jY,uJ,wK];refine RepL.cons ?_<|Mu d g;by_cases hk:f=k
  .simp only[hk,decide_true,kG];exact d
  .simp only[hk,decide_false,jz,jP];exact h1
theorem Mt{k:List Key}{w:D}{v:V}(d:Rep K H O w v): ∀{a:List (List Key×V)} {b:List D},RepL K H O b (a.map (·.2))->RepL K H O (uJ (a.map λp=> .tup (p.1.map kg)) b (.tup<|k.map kg) w) ((a.map λc=>if c.1=k then(c.1,v) else c).map (·.2))
 |[],b,h=>by cases b<;>simpa[uJ] using h
 |(f,u)::a,[],h=>by rw[jY,RepL] at h;cases h
 |(f,u)::a,i::b,h=>by
  rw[jY,RepL] at h;obtain⟨x,r,e,h1,g⟩:=h;obtain⟨rfl,rfl⟩:=va e;simp only[jY,uJ,D.eqb,uj];refine RepL.cons ?_<|Mt d g;by_cases hk:f=k
  .simp only[hk,decide_true,kG];exact d
  .simp only[hk,decide_false,jz,jP];exact h1
def Sm(a:Rep K H O w v)(h:RepL K H O b (kvs.map (·.2))):
  (uw (kvs.map λp=>kg p.1) b (kg k) w).1=(rP kvs k v).map (λp=>kg p.1)/\RepL K H O (uw (kvs.map λp=>kg p.1) b (kg k) w).2 ((rP kvs k v).map (·.2)):=by
 have c:(kvs.map λp=>kg p.1).any (D.eqb · (kg k))=kvs.any λd=>decide (d.1=k):=by rw[el];congr 1;funext p;exact wK _ _
 unfold uw rP;rw[c];split
 .refine⟨?_,Mu a h⟩;rw[km];apply qd;intro p _;simp only[bW];split<;>rfl
 .exact⟨by simp,by rw[nK];exact h.append<|RepL.one a⟩
def Sk{k:List Key}{w:D}{v:V}(b:Rep K H O w v){kvs:List (List Key×V)}{a:List D}(h:RepL K H O a (kvs.map (·.2))):
  (uw (kvs.map λp=> .tup (p.1.map kg)) a (.tup<|k.map kg) w).1=(rP kvs k v).map (λp=> .tup (p.1.map kg))/\RepL K H O (uw (kvs.map λp=> .tup (p.1.map kg)) a (.tup<|k.map kg) w).2 ((rP kvs k v).map (·.2)):=by
 have c:(kvs.map λp=>D.tup<|p.1.map kg).any (D.eqb · (.tup<|k.map kg))=kvs.any λd=>decide (d.1=k):=by rw[el];congr 1;funext p;simp only[bW,D.eqb,uj]
 unfold uw rP;rw[c];split
 .refine⟨?_,Mt b h⟩;rw[km];apply qd;intro p _;simp only[bW];split<;>rfl
 .exact⟨by simp,by rw[nK];exact h.append<|RepL.one b⟩
end
def uI(i:Nat)(f:F)(g:FO):FS:=λc=>(f c).bind λp=>match p.2[i]? with
 |some (Y _)=>(g p.2).bind λq=>match res q.2 q.1,q.2[i]? with
  |some k,Y (Y (.oth .dct a b,J))=>if wB a k=J/\(ZB a)<10000 then Y (.nx<|q.2.set i<|Y (.oth .dct (uw a b k p.1.1).1 (uw a b k p.1.1).2,J)) else I
  |_,_=>I
 |_=>I
section
variable {X:Cx}{e d:iI}{f:F}{l:FO}{h g m s:bI}{i:Nat}{x:ax}{A L:jW}{q:Hp}
def MO{Q:bI}(hu:X.A.units+1<aT)(hv:PO X (.Name x g) (iw i))(he:PX X e f)(hi:PO X d l)
  (ha: ∀v,ce (.Subscript (.Name x g) d Q) X.env v=(do
   let ov <-br [v] (aE (.Name x g) X.env)
   let iv <-br [v,ov] (aE d X.env)
   cu Q
   br [v,ov,iv] (fU ov iv v)
   li [v,ov,iv] []))
  (hs:c4 [.Subscript (.Name x g) d Q] e h.line X.env=pure Zy)(hw:c5 [.Subscript (.Name x g) d Q] e X.env=pure Zw)
  (h1:(aU [.Subscript (.Name x g) d Q] X.env).map (·.2)=[ce (.Subscript (.Name x g) d Q) X.env]):
  PSX X A L q (.Assign [.Subscript (.Name x g) d Q] e h) (uI i f l):=PS.imp' (GP he (Nb hv hi (Mn hu) ha) hs hw h1) λD U H hw=>by
 obtain⟨δ,T,out,E,fi,e,k⟩:=hw;obtain⟨⟨r,w⟩,h1,e⟩:=ir e;dsimp only at e;split at e
 case h_2=>cases e
 rename_i y0 h0;obtain⟨⟨o,y⟩,h2,e⟩:=ir e;dsimp only at e;split at e
 .rename_i S V W hk h3;obtain⟨⟨R,C⟩,e⟩:=iY e;cases e;refine⟨δ,T,r,w,E,h1,λv H1 Y=>⟨w,Tmp T r v,.slot i,w,Y.er E,by unfold iw;rw[h0],λv2 H2 P=>⟨w,Tmp T r v,o,y,P.er<|Y.er E,h2,λv3 F P3=>?_⟩⟩⟩;have ig:PostO X.K T U δ H (.val r) w v H1:=Y;have B:=Ops.cons E ig<|Ops.cons (Y.er E) P<|Ops.cons (P.er<|Y.er E) P3<|Ops.nil<|P3.er<|P.er<|Y.er E;have E3:ER X.K F T U y:=B.er.mono (λ_ _ e _=>e) (λb _ z=>B.tt b z) λa z=>B.er.dom a<|B.tt a z;have J:U[i]?=Zv (Zv v2):=P.2.2;obtain⟨a,q1,us,q2,q3⟩:=E3.own i _ h3;rw[J] at q1;cases q1;have vk:=B.view (j:=2) Zz Zz hk;have rv:=B.rep E (j:=0) (r:=r) Zz Zz;have oa:OwnA U y a:=⟨i,_,h3,J⟩
  have kp: ∀(I:HO) b u,F b=Zv u-> ¬(OwnA U y b\/T b)->upd F a I b=Zv u:=λI b u e n=>by rw[jb<|by intro z;subst z;exact n<|.inl oa];exact e
  have ks10:10000<sizeLine:=by rw[jH];decide
  have fin: ∀I Z,OthB X.K (Zv I) .dct (uw V W S r.1).1 (uw V W S r.1).2 Z->RepL X.K F (λa=>OwnA U y a\/T a) (uw V W S r.1).2 Z->D.nx U (upd F a I):=λI Z g1 g2=>by obtain⟨E4,K4⟩:=E3.writeG (o:=I) (d':= .oth .dct (uw V W S r.1).1 (uw V W S r.1).2) h3 J ⟨Z,by rw[ja];exact g1,RepL.mono (kp I) (λ_ _ z=>z) g2⟩;exact k _ _ (B.keep.trans K4).sk E4
  refine⟨a,rfl,?_⟩;rcases q2 with⟨kvs,eH,rfl,rfl⟩|⟨kvs,eH,rfl,rfl⟩
  .rw[kh] at C;rcases wA R with⟨κ,g1,_⟩|⟨τ,g1,g2⟩
   .have G:=tP g1 vk;have O:=qw g1;subst O;obtain⟨M,N⟩:=Sm (k:=κ) rv q3;refine .inl ⟨_,by rw[G];exact DPut.k eH<|by lia,fin _ _ (.inl ⟨_,rfl,M,rfl⟩) N⟩
   .have cI:kvs=[]:=by
     cases kvs with
     |nil=>rfl
     |cons p kvs=>obtain⟨c,hc⟩:=g2 (kg p.1) (by simp);exact(ES hc).elim
    subst cI;obtain⟨b,G,eb⟩:=oF g1 vk;have O:=sY g1;subst O;obtain⟨M,N⟩:=Sk (k:=τ) (kvs:=[]) rv q3;exact .inr<|.inr ⟨τ,b,eH,G,eb,fin _ _ (.inr ⟨[(τ,v)],rfl,M,rfl⟩) N⟩
  .rw[kh] at C;rcases wA R with⟨κ,g1,g2⟩|⟨τ,g1,_⟩
   .have cI:kvs=[]:=by
     cases kvs with
     |nil=>rfl
     |cons p kvs=>obtain⟨c,hc⟩:=g2 (.tup<|p.1.map kg) (by simp);exact(HN hc).elim
    subst cI;have G:=tP g1 vk;have O:=qw g1;subst O;obtain⟨M,N⟩:=Sm (k:=κ) (kvs:=[]) rv q3;exact .inr<|.inl ⟨κ,eH,G,fin _ _ (.inl ⟨[(κ,v)],rfl,M,rfl⟩) N⟩
   .obtain⟨b,G,eb⟩:=oF g1 vk;have O:=sY g1;subst O;obtain⟨M,N⟩:=Sk (k:=τ) rv q3;refine .inl ⟨_,by rw[G];exact DPut.t eH eb<|by lia,fin _ _ (.inr ⟨_,rfl,M,rfl⟩) N⟩
 .cases e
end
end PX
namespace TT
open PySem.SeqAt
structure DRaw(h:iT)(d:iu)(es:Array eF)(ep:Nat):Prop where
 at_: ∃o,h.get? d=Zv o/\o.ExactDict/\o.data= .dict es ep
def DRaw.stay{d b a}(x:DRaw h d b a)(k: ∀o,h.get? d=Y o->c.get? d=Y o):DRaw c d b a:=let⟨o,h1,r⟩:=x.at_;⟨o,k _ h1,r⟩
section
variable {prog:iX}{w:iR}{A:iU}{E:jn}{s:iC}
def DRaw.typeIs{d b a}(x:DRaw s.heap d b a):s.TypeIs (.ref d) "dict":=let⟨o,h1,r,_⟩:=x.at_;⟨o,h1,r.1⟩
def IL(hd:(d==bw)=C)(c:DRaw s.heap d g f)
  (h:Q (.ref s.heap.objs.size) {s with heap:=s.heap.push {cls:= .type "dict_keyiterator",data:= .fields #[.ref d,.int 0 0,.int g.size 0,.int f 0]}}):ag (ah prog w) A (en<|.ref d) Q E s:=by
 have a:=c.typeIs;obtain⟨o,e,i,b⟩:=c.at_;refine FG a KQ<|nO KQ a PySem.F.entry_dict_iter ?_<|PySem.F.args_dict_iter_1 _;unfold bc.«dict.__iter__»;refine iz ?_;unfold AT;refine iz<|KP a ?_;change ag _ _ (pure<|bg d) _ _ s;refine iM ?_;change ag _ _ (fP d>>=_) _ _ s;unfold fP;rw[jc<|by rw[hd];exact ku];refine iz<|iM ?_;refine iz<|FD e b ?_;refine iz<|FC e b ?_;refine iz<|nh<|iM ⟨_,rfl,"dict_keyiterator",_,⟨_,kc _ rfl,rfl⟩,Bj.lookup,?_⟩;simpa[cZ] using h
def Aj{b d:iu}{i f:Nat}{c:Array eF}{e:eF}{Q:Bi}(a:s.heap.IsKeyIter b d i c.size f)(q:DRaw s.heap d c f)(r:c[i]?=Y e)
  (n: ∀g,g.IsKeyIter b d (i+1) c.size f->aI b s.heap g->Q (Y e.key) {s with heap:=g}):ag (ah prog w) A (cM<|.ref b) Q E s:=by
 obtain⟨o,h,p,hd⟩:=id a;obtain⟨u,l,t,j⟩:=q.at_;unfold cM;refine iz<|sd<|uF (name:=bi "__next__") a.typeIs Bj<|nO Bj a.typeIs KO ?_<|KN _;refine iz<|iM ?_;refine iz ?_;refine iz ?_;refine iz<|Cc a.typeIs<|iM ?_;refine iz<|Fk h hd ?_;have m:Builtin.Dict_items.ownsTuple "dict_keyiterator"=C:=by decide
 simp only[m,jz,jP];change ag _ _ (if(bg d==au)=J then _ else _) _ _ s;rw[jc (show ¬((bg d==au)=J) from ku)];refine iz<|iM ?_;refine iz<|FD l j ?_;rw[jc<|by simp];refine iz<|iM ?_;refine iz<|FC l j ?_;rw[jc<|by simp];refine iM ?_;simp only[show ¬((i:Int)<0) from by lia,jP,si,r];refine iz ?_;refine iz<|Cc a.typeIs<|iM ?_;refine iz<|KJ a.typeIs ?_;change ag _ _ (pc (.ref b) 1 (cZ<|(i:Int)+1)>>=_) _ _ s;refine iz<|vf h hd (by simp) ?_
 have k:(s.heap.update b (gF (·.setIfInBounds 1 (cZ<|(i:Int)+1)))).IsKeyIter b d (i+1) c.size f:=
  ⟨_,uD _ h (CD<|uz hd _),(CC ..).trans p,by rw[uz hd];simp[cZ]⟩
 refine iz<|lM ?_;refine iz (KJ (s:={s with heap:=s.heap.update b (gF (·.setIfInBounds 1 (cZ<|(i:Int)+1)))}) k.typeIs ?_);change ag _ _ (pure e.key) _ _ _;exact iM<|iM ⟨_,rfl,iM<|n _ k (rp ..)⟩
def A5(n:A.handled=I)(c:s.heap.IsKeyIter it d e.size e.size k)(p:DRaw s.heap d e k)
  (l: ∀h,eJ it s.heap h->Q I {s with heap:=h}):ag (ah prog w) A (cM<|.ref it) Q E s:=by
 obtain⟨o,i,q,hd⟩:=id c;obtain⟨t,g,r,f⟩:=p.at_;unfold cM;refine iz<|sd<|uF (name:=bi "__next__") c.typeIs Bj<|nO Bj c.typeIs KO ?_<|KN _;refine iz<|iM ?_;refine iz ?_;refine iz ?_;refine iz<|Cc c.typeIs<|iM ?_;refine iz<|Fk i hd ?_;have j:Builtin.Dict_items.ownsTuple "dict_keyiterator"=C:=by decide
 simp only[j,jz,jP];change ag _ _ (if(bg d==au)=J then _ else _) _ _ s;rw[jc (show ¬((bg d==au)=J) from ku)];refine iz<|iM ?_;refine iz<|FD g f ?_;rw[jc<|by simp];refine iz<|iM ?_;refine iz<|FC g f ?_;rw[jc<|by simp];refine iM ?_;simp only[show ¬((e.size:Int)<0) from by lia,jP,si,Ck<|jQ e.size];refine iz ?_;refine iz<|Cc c.typeIs<|iM ?_;change ag _ _ (pc (.ref it) 0 .none>>=_) _ _ s;refine iz<|vf i hd (by simp) ?_;change ag _ _ (l4 (.type "StopIteration") []>>=_) _ _ _;refine iz ?_;simp -iota only[l4,pp];refine iz<|nh ?_ (by size_fits);refine iz (m:=dg _ _)<|rB (a:=au) (by first|rfl|(simp -iota only[dg];rfl)) ?_;refine nh ?_ (by size_fits);simp -iota only[F2];refine iz<|F8 ?_;rw[show A.in1.handled=I from n];refine iz<|iM<|F7 ?_;refine iz<|vd (T:="StopIteration") (b:=J) ⟨_,kc _ rfl,rfl⟩ Cw ?_;exact iM<|l _ (((rp ..).extBut.push _).push _)
def Fq(n:A.handled=I)(U d:iu)(q:U≠d)(a:Array eF)(k:Nat):Walks prog w A U [U,d] [U] a.size (λi v=> ∃e,a[i]?=Y e/\v=e.key) (λi h=>h.IsKeyIter U d i a.size k/\DRaw h d a k) where
 sub:=λb c=>by simp at c;simp[c]
 frame:=λ_ _ _ st hk=>⟨st.1.at λo e=>hk U (by simp) o e,st.2.stay λo e=>hk d (by simp) o e⟩
 item:=λi s Q E p st f=>by have l:a[i]?=Y a[i]:=pK p;refine Aj st.1 st.2 l λg m j=>?_;exact f _ g s.toks ⟨_,l,rfl⟩ ⟨m,st.2.stay λo e=>j.extBut d o (λh=>q h.symm) e⟩ λb o c e=>j.extBut b o (λh=>c<|by simp[h]) e
 done:=λs Q E st f=>A5 n st.1 st.2 λg r=>f g s.toks λb o c e=>r b o (λh=>c<|by simp[h]) e
 self:=λ_ _ _ _ st f=>wpAny_pyIter_keyiter st.1 f
def OQ(hd:(a==bw)=Zy)(hh:A.handled=Zw)(S:DRaw s.heap a d n)(hn:d.size<=sizeLine) 
  (hQ: ∀i tk,(∀b o,s.heap.get? b=Zv o->i.get? b=Zv o)->Q (d.toList.map (·.key)) {s with heap:=i,toks:=tk}):ag (ah prog w) A (fV<|.ref a) Q E s:=by
 have u:a<s.heap.objs.size:=let⟨_,h1,_⟩:=S.at_;jN h1;have t:a≠s.heap.objs.size:=jF u;have M:a≠s.heap.objs.size+1:=jF<|vo u;have y:s.heap.objs.size≠s.heap.objs.size+1:=jF<|sv _;unfold fV;refine iz<|F9<|rq KY ?_;rw[uA KW _];show ag _ A.in1 (lw []>>=λl=>again<|.builtin "list.__iadd__" ⟨[l,.ref a],[]⟩) _ _ s;refine iz<|nh ?_;refine iM ⟨qG Ce _,rq KU ?_⟩;rw[uA Ce _];show ag _ A.in1 (cb (.ref s.heap.objs.size) (.ref a)<|.ref s.heap.objs.size) _ _ _;generalize z:({cls:= .type "list",data:= .seq ([]:List iK).toArray}:e6)=f;have p:DRaw (s.heap.push f) a d n:=S.stay λo e=>jM _ e;unfold cb;refine iz<|sh (T:="dict") (s:={s with heap:=s.heap.push f}) p.typeIs ?_;have h1:cy (.ref s.heap.objs.size) (.ref a)=Zy:=by simp only[cy,yZ];exact t.symm
 have c:(bQ "dict"==bQ "list")=Zy:=by decide
 have Z:(bQ "dict"==bQ "tuple")=Zy:=by decide
 simp -iota only[h1,c,Z,ut,jz,jP];refine iz<|IL (s:={s with heap:=s.heap.push f}) hd p ?_;obtain⟨c,q⟩: ∃c,c=(s.heap.push f).push {cls:= .type "dict_keyiterator",data:= .fields #[.ref a,.int 0 0,.int d.size 0,.int n 0]}:=⟨_,rfl⟩
 have v:c.IsKeyIter (s.heap.push f).objs.size a 0 d.size n:=by rw[q];exact⟨_,kc _ rfl,rfl,rfl⟩
 have r: ∀b o,(s.heap.push f).get? b=Zv o->c.get? b=Zv o:=λb o e=>by rw[q];exact jM _ e
 rw[<-q];have x:(s.heap.push f).objs.size=s.heap.objs.size+1:=rC _ _;have h:DRaw c a d n:=p.stay λo e=>r _ _ e;refine iz<|lM ?_;unfold e9;refine iz<|uU (T:="dict") (s:={s with heap:=c}) h.typeIs PySem.F.slot_dict_len.lookup ?_;generalize B:("dict.__len__":String)=id0;dsimp only;rw[show SI id0=Zv ("dict","__len__") from by subst B;decide+kernel];dsimp only;refine iz<|vd (T:="dict") (s:={s with heap:=c}) (b:=Zx) h.typeIs (by rw[Cg];kernel_rfl) ?_;simp -iota only[oJ,jz,jP];change ag _ _ (if _=Zx then _ else _) _ _ _;rw[iP<|by subst B;decide+kernel];refine iz<|sh (T:="dict") (s:={s with heap:=c}) h.typeIs ?_;dsimp only;refine iM ?_;change ag _ _ (if _=Zx then _ else _) _ _ _;rw[iP<|by decide+kernel];refine iz<|sf ?_;have H:c.get? s.heap.objs.size=Zv f:=r _ _ (kc _ (by subst z;rfl));subst z;refine iz ?_;show ag _ A.in1 (i3 s.heap.objs.size (·.push .none)>>=λ_=>i3 s.heap.objs.size (·.pop)) _ _ _;refine iz<|Cd (s:={s with heap:=c}) H Zz ?_;have C:=uD (aG (·.push au)) H Zz;refine Cd C Zz ?_;have V:=uD (aG (·.pop)) C Zz
 have oth: ∀b o,b≠s.heap.objs.size->c.get? b=Zv o->((c.update s.heap.objs.size (aG (·.push au))).update s.heap.objs.size (aG (·.pop))).get? b=Zv o:=
  λb o g e=>(xD _ _ (ni g)).trans<|(xD _ _ (ni g)).trans e
 have W:=(Fq (prog:=prog) (w:=w) (A:=A.in1) (by show A.handled=Zw;exact hh) (s.heap.objs.size+1) a M.symm d n).toS;rw[x] at v;refine iM ⟨qG KS _,?_⟩;rw[x];refine KR W hn s.heap.objs.size (by simp -iota only[kT,my,nM,qe];exact⟨y,t.symm⟩) _ d.size 0 _ _ _ rfl (lL _) ?_ V (ItemsOf.nil _) λL m c' k J l9=>?_
 .refine⟨?_,h.stay λo e=>oth a o t e⟩;obtain⟨o,g1,g2⟩:=v;exact⟨o,oth _ o y.symm g1,g2⟩
 show ag _ A (load s.heap.objs.size>>=_) _ _ L;refine iz<|xG J ?_;obtain⟨i,R,Y,G,U⟩:=L;have K:R=s.gens:=k.gens;have D:Y=s.drawn:=k.drawn;have P:U=s.os:=k.os;subst K;subst D;subst P
 have N:m.toList=d.toList.map (·.key):=by
  obtain⟨a1,O⟩:=l9;apply zq
  .rw[kh,kz,kz,a1]
  .intro j g1 g2;have X:m[j]?=Zv m.toList[j]:=by rw[<-lR];exact jt g1
   obtain⟨e,I,hv⟩:=O j _ X;rw[hv];rw[kh,kz] at g2;rw[zp];rw[<-lR,jt<|by rw[kz];exact g2] at I;cases I;rfl
 refine iM ?_;show Q m.toList _;rw[N];refine hQ i G λb o e=>?_;have g:=jN e;exact k.heap b o (by simp -iota only[kT,my,nM,qe];exact⟨jF g,jF<|vo g⟩)<|oth b o (jF g)<|r _ _ (jM _ e)
end
end TT
namespace PX
open L2 PySem.SeqAt TS
section
variable {X:Cx}
def Bk{P:iX}{w:iR}{e:List eF}{f:List (Key×iK)}{a:List (Key×V)}(h:Pairs (ky P w) e f)(q:KV a f):Vals (a.map λp=>kV p.1) (e.map (·.key)):=by
 induction h generalizing a with
 |nil=>cases q;exact .nil
 |cons h1 j t g=>
  obtain _|⟨r,q⟩:=q;refine .cons ?_<|g q;dsimp only;rw[r.1];rcases kM (show Ao _ _=J from h1) with⟨i,d,b,c⟩|⟨x,d,b,c⟩
  .rw[b,c];exact⟨d,rfl⟩
  .rw[b,c];exact⟨d,rfl⟩
theorem xQ{K:iW}{U:Hp}{O:AP'}: ∀(a:List (Key×V)),RepL K U O (a.map λp=>kg p.1)<|a.map λp=>kV p.1
 |[]=>RepL.nil
 |(k,v)::a=>by
  refine RepL.cons ?_<|xQ a
  cases k with
  |inl i=>exact Rep.mkInt
  |inr x=>exact Rep.mkStr
def Qc(a:Gl X x)(b:X.mg x=Y (.int i t))(hd:(x==("__debug__":ax))=C):PX X (.Name x pos) (fC<|.int i):=PX.imp (Di (v:= .int i) a b ⟨t,rfl⟩ hd) λf U Q h=>by obtain⟨d,T,r,c,E,e,k⟩:=h;cases e;exact k _ _ (Post.val .refl E Rep.mkInt)
def Qb(a:Gl X x)(b:X.mg x=Y (.str i t))(hd:(x==("__debug__":ax))=C):PX X (.Name x pos) (fC<|.str i):=PX.imp (Di (v:= .str i) a b ⟨t,rfl⟩ hd) λf U Q h=>by obtain⟨d,T,r,c,E,e,k⟩:=h;cases e;exact k _ _ (Post.val .refl E Rep.mkStr)
noncomputable def GJ:FS:=λ_=>I
def JI{A L:jW}{b:Hp}{st:bD}:PSX X A L b st GJ:=λa s g Q D U h=>by obtain⟨f,T,c,E,d,e,k⟩:=h;cases e
end
noncomputable def qZ(i:Nat)(f:F):F:=λa=>match a[i]? with
 |some (Y (.lst _,J))=>(f a).bind λp=>match p.1,p.2[i]? with
  |(.lst m,J),Y (Y (.lst l,J))=>if (ZB l)+ZB m<=sizeLine then Y ((.non,C),p.2.set i<|Y (.lst<|l++m,J)) else I
  |_,_=>I
 |_=>I
section
variable {X:Cx}{e:iI}{f:F}{h g c d:bI}{i:Nat}{x:ax}
def JF(hv:PO X (.Name x g) (iw i))(he:PX X e f)(f9:bb (.Name x g) "extend" X.env (aE (.Name x g) X.env)=aE (.Name x g) X.env)
  (i7:((aP d<|ac [e] X.env).all (λx=>!x.1)&&(dn d<|ca [] X.env).all (λx=>x.1.isSome)&&decide ([e].length+([]:List bG).length+(if([]:List bG).isEmpty then 0 else 1)<30))=Zx)
  (Y:(c.endLine==d.line)=Zx)(A:ac [e] X.env=(Zy,aE e X.env)::ac [] X.env)(U:(aP d<|ac [] X.env).any (·.1)=Zy):
  PX X (.Call (.Attribute (.Name x g) "extend" c) [e] [] d) (qZ i f):=
 PX.imp (Il zk PySem.F.slot_list_extend PySem.F.type_list_extend JV hv (lu he oh A) f9 i7 Y A U) λσ H Q R=>by
 obtain⟨s,T,rr,δ',E,e,k⟩:=R;unfold qZ at e;split at e
 .rename_i l0 u;obtain⟨⟨r,n⟩,h1,e⟩:=ir e;dsimp only at e;split at e
  .rename_i m l w;obtain⟨S,e⟩:=iY e;obtain⟨rfl,rfl⟩:=rA e;refine⟨s,T,.slot i,s,E,by unfold iw;rw[u],λv H1 P=>?_⟩;obtain⟨J,o,j⟩:=P;obtain⟨a,g1,N,g2,g3⟩:=o.own i _ u;rw[j] at g1;cases g1;refine⟨.inl ⟨rfl,N,SqL.of g2⟩,s,T,_,n,o,h1,λy G q=>?_⟩;obtain⟨t,ry⟩:=q.rep o;obtain⟨p,rfl,hp,ez,L,V,B⟩:=q.2;obtain⟨a',C,Z,W,I⟩:=t.own i _ w;rw[j] at C;cases C;have D:RepL X.K G (λb=>OwnA σ n b\/T b) m L:=RepL.mono (λ_ _ e _=>e) (λb _ z=>z.elim bz λz=>bO<|bz z) B;refine⟨_,p,Z,L,rfl,rfl,W,V,by rw[I.length,B.length];exact S,?_⟩;obtain⟨O,M⟩:=t.write w j<|I.append D;exact k _ _ (Post.val ((J.trans q.1).trans M) O Rep.mkNon)
  .cases e
 .cases e
end
structure PXs(X:Cx)(es:kr)(fs:List F):Prop where
 pa:PA X es (tA X.K<|fs.map iA)
section
variable {X:Cx}{e:iI}{a:kr}{f:F}{fs:List F}{b:bI}
def PY:PXs X [] []:=⟨yR⟩
def MF(h:PX X e f)(c:PXs X a fs)(d:ac (e::a) X.env=(C,aE e X.env)::ac a X.env):PXs X (e::a) (f::fs):=⟨sP (PX.po h) c.pa d⟩
def P9(h:PXs X a fs):PX X (.List a b) (lq fs):=T8 h.pa
def P5{x1}(h:PXs X a fs):PX X (.Tuple a x1 b) (mJ fs):=TV h.pa
def M4{c:FT}(h:PTX X e c):PIf X [e] (tT X.K c):=Qy h
def Ue{c:FT}(h:PWX X e c):PTX X e c:=PW.pt h
end
structure QX(X:Cx)(e:iI)(f:F):Prop where
 h:PX X e f
structure QO(X:Cx)(e:iI)(f:FO):Prop where
 h:PX.PO X e f
structure QA(X:Cx)(es:kr)(fs:List FO):Prop where
 h:PA X es (tA X.K fs)
structure QL(X:Cx)(es:kr)(fs:List F):Prop where
 h:PXs X es fs
structure QT(X:Cx)(e:iI)(f:FT):Prop where
 h:PTX X e f
structure QW(X:Cx)(e:iI)(f:FT):Prop where
 h:PWX X e f
structure QG(X:Cx)(A:jW)(e:iI)(t:Tg):Prop where
 h:PGX X A e t
structure QI(X:Cx)(B:SB)(tg e:iI)(f:FIt):Prop where
 h:PIX X B tg e f
structure QF(X:Cx)(es:kr)(f:FT):Prop where
 h:PIf X es (tT X.K f)
structure QB(X:Cx)(A:jW)(d:iu)(e:iI)(n:Nat)(f:FB):Prop where
 h:PB X (kd e n (.ref d) X.env) (tBx Zy X.K A d f)
structure QS(X:Cx)(A L:jW)(H0:Hp)(st:bD)(f:FS):Prop where
 h:PSX X A L H0 st f
structure QQ(X:Cx)(A L:jW)(H0:Hp)(st:List bD)(f:FS):Prop where
 h:Bg X A L H0 st f
structure QC(X:Cx)(v:iK)(g:List D->Option (D×Bool)):Prop where
 h:kF X v (rDn X.K g)
structure QP(X:Cx)(o:yY)(g:D->D->Option (D×Bool)):Prop where
 h:OpR X o (rD X.K g)
abbrev SE(X:Cx)(e:iI)(a:kr):Prop:=ac (e::a) X.env=(C,aE e X.env)::ac a X.env
abbrev BA(X:Cx)(p:bI)(a:kr):Prop:=(aP p<|ac a X.env).any (·.1)=C
abbrev DB(x:ax):Prop:=(x==("__debug__":ax))=C
abbrev un(A:iU)(n:Nat):Prop:=A.units+n<aT
structure ZZ where
 P:iX
 w:iR
 K:iW
 mg:ax->Option iK
 base:iT
def Oz(Z:ZZ)(k:Nat)(x:ax)(b:je)(c:EvF):Prop:= ∃f a,FnOk Z.P Z.w Z.K Z.mg Z.base CX0 k f a b (spF Z.K c)/\Z.mg x=Y (.ref f)/\cw Z.K (.ref f)=J/\Binds Z.K a b []
def Oz.up{Z:ZZ}{k j:Nat}{x:ax}{d:je}{c:EvF}(o:Oz Z k x d c)(h:k<=j:=by decide):Oz Z j x d c:=let⟨f,e,a,b⟩:=o;⟨f,e,a.mono h,b⟩
noncomputable abbrev zX(X:Cx):ZZ:=⟨X.prog,X.w,X.K,X.mg,X.base⟩
noncomputable def btT:List (ax×iK):=[("len",.builtin "len"),("abs",.builtin "abs"),("int",.type "int"),("tuple",.type "tuple"),("list",.type "list"),("bool",.type "bool"),("max",.builtin "max"),("min",.builtin "min"),("all",.builtin "all"),("any",.builtin "any"),("sorted",.builtin "sorted"),("set",.type "set")]
def btA{c:ll}(T:Tx c): ∀p∈btT,c p.1=I/\ay p.1=Y p.2:=by
 have h: ∀p∈btT,ay p.1=Y p.2:=by decide+kernel
 intro p b;refine⟨?_,h p b⟩;have a:p∈btT:=b;unfold btT at a;simp only[kT,my,nM] at a;rcases a with rfl|rfl|rfl|rfl|rfl|rfl|rfl|rfl|rfl|rfl|rfl|rfl
 .exact T.n_len
 .exact T.n_abs
 .exact T.n_int
 .exact T.n_tuple
 .exact T.n_list
 .exact T.n_bool
 .exact T.n_max
 .exact T.n_min
 .exact T.n_all
 .exact T.n_any
 .exact T.n_sorted
 .exact T.n_set
theorem G6{z:ax}{v:iK}: ∀{l:List (ax×iK)},l.lookup z=Y v->(z,v)∈l
 |[],h=>by cases h
 |(y,u)::l,h=>by
  rw[oo] at h;split at h
  .rename_i q;cases h;rw[uE q];exact .head _
  .exact .tail _ (G6 h)
def btM{a:ll}{z:ax}{v:iK}(T:Tx a)(h:btT.lookup z=Y v):a z=I:=(btA T _ (G6 h)).1
def btN{z:ax}{v:iK}(h:btT.lookup z=Y v):ay z=Y v:=(show ∀p∈btT,ay p.1=Y p.2 from by decide+kernel) _ (G6 h)
section
variable {X:Cx}{x z:ax}{e a b c st lo H:iI}{m:kr}{r fb fc J fl Y:FO}{f g:F}{s U:FT}{p I Q l q y:bI}{A L:jW}{B:SB}{E:Hp}{fs:List FO}{M:List F}{i j k:Nat}{tg:iI}{S:bD}{G Ts:List bD}{u v:FS}
def xV(h1:X.N[i]?=Zv x:=by rfl)(d:Vis X.env.scope x:=by first|exact bz rfl|exact bO (bz Zz)|exact bO<|bO Zz)(h:DB x:=by decide)(n:(x==("__classdict__":ax))=C:=by decide):QO X (.Name x l) (iw i):=⟨Us h1 d h n⟩
def xW(h1:X.N[i]?=Zv x:=by rfl)(d:Vis X.env.scope x:=by first|exact bz rfl|exact bO (bz Zz)|exact bO<|bO Zz)(h:DB x:=by decide)(n:(x==("__classdict__":ax))=C:=by decide):QX X (.Name x l) (ju i):=⟨TU h1 d h n⟩
def xO(h:QX X e f):QO X e (iA f):=⟨PX.po h.h⟩
def x1{j}:QX X (.Constant .none j l) (fC .non):=⟨T6⟩
def x2{i j}:QX X (.Constant (.bool i) j l) (fC<|.bl i):=⟨Sj⟩
def x3{i j}:QX X (.Constant (.int i) j l) (fC<|.int i):=⟨Ua⟩
def x4{i j}:QX X (.Constant (.str i) j l) (fC<|.str i):=⟨TX⟩
def x5{i:Int}(h: ∃t,X.mg x=Zv (.int i t))(g:Gl X x:=by rfl)(d:DB x:=by decide):QX X (.Name x l) (fC<|.int i):=let⟨_,h⟩:=h;⟨Qc g h d⟩
def x6{i:ax}(h: ∃t,X.mg x=Zv (.str i t))(g:Gl X x:=by rfl)(d:DB x:=by decide):QX X (.Name x l) (fC<|.str i):=let⟨_,h⟩:=h;⟨Qb g h d⟩
def x7:QX X (.Dict [] [] l) Ox:=⟨Qe⟩
def lb{d:Operator}{g:D->D->Option (D×Bool)}(o:QP X (bH d) g)(n:QO X a r)(t:QO X b fb):QX X (.BinOp a d b l) (iN g r fb):=⟨Uc o.h n.h t.h⟩
def zG(d:QO X a r):QX X (.UnaryOp .USub a l) (kB nA r):=⟨T7 d.h⟩
def Jo{d:dW}{g:D->D->Option (D×Bool)}(o:QP X (aJ d) g)(n:QO X a r)(t:QO X b fb)(w:cE d b=C:=by first|exact Nx _|with_unfolding_all rfl):QX X (.Compare a [d] [b] l) (iN g r fb):=⟨Ub o.h n.h t.h w⟩
def tCmp{d:dW}{g:D->D->Option (D×Bool)}(o:QP X (aJ d) g)(n:QO X a r)(t:QO X b fb)(w:cE d b=C:=by first|exact Nx _|with_unfolding_all rfl):QT X (.Compare a [d] [b] l) (fT<|iN g r fb):=⟨Qp o.h n.h t.h w⟩
def xBo{op}(d:QX X a f):QX X (.BoolOp op [a] l) f:=⟨Qh d.h⟩
def VR(d:QX X a f)(n:QX X (.BoolOp .And (b::m) l) g):QX X (.BoolOp .And (a::b::m) l) (Hk f g):=⟨Ud d.h n.h⟩
def VV(d:QT X a s)(n:QW X (.BoolOp .And (b::m) l) U):QW X (.BoolOp .And (a::b::m) l) (wI s U):=⟨Qj d.h n.h⟩
def wOr(d:QT X a s)(n:QW X (.BoolOp .Or (b::m) l) U):QW X (.BoolOp .Or (a::b::m) l) (yO s U):=⟨Ug d.h n.h⟩
def Sd(d:QT X a s):QW X (.BoolOp .And [a] l) s:=⟨MK d.h⟩
def LO(d:QT X a s):QW X (.BoolOp .Or [a] l) s:=⟨Qi d.h⟩
def tW{op}(h:QW X (.BoolOp op m l) s):QT X (.BoolOp op m l) s:=⟨Ue h.h⟩
def tNot(d:QT X a s):QT X (.UnaryOp .Not a l) (pz s):=⟨Qo d.h⟩
def AW(h:QX X e f)(n: ∀d,isTrue e X.env d=(do let v <-d;cu e.pos;br [v] (gL v)):=by intro _;rfl):QT X e (fT f):=⟨Qm h.h n⟩
def xIf(o:QT X c s)(d:QX X a f)(n:QX X b g):QX X (.IfExp c a b l) (fIf s f g):=⟨Wq o.h d.h n.h⟩
def xIx(d:QO X a r)(n:QO X b fb)(o:D2 b:=by exact λ_ _=>rfl):QX X (.Subscript a b l) (iN gIx r fb):=⟨Wo d.h n.h o⟩
def VP(d:QO X a r)(n:QO X H Y):QX X (.Subscript a (.Slice Zw (Zv H) Zw I) l) (AD r Y):=⟨P6 d.h n.h⟩
def xL0:QL X [] []:=⟨PY⟩
def xL(d:QX X e f)(n:QL X m M)(o:SE X e m:=by rfl):QL X (e::m) (f::M):=⟨MF d.h n.h o⟩
def xA0:QA X [] []:=⟨yR⟩
def xA(d:QO X e r)(n:QA X m fs)(o:SE X e m:=by rfl):QA X (e::m) (r::fs):=⟨sP d.h n.h o⟩
def ur{k}(h:QL X m M):QX X (.Tuple m k l) (mJ M):=⟨P5 h.h⟩
def nk(h:QL X m M):QX X (.List m l) (lq M):=⟨P9 h.h⟩
def xB{id:String}{g:List D->Option (D×Bool)}(T:Tx X.mg)(hv:btT.lookup z=Zv (.builtin id))(o:QC X (.builtin id) g)(n:QA X (e::m) fs)(w:Gl X z:=by rfl)(N:z≠"__name__":=by decide)(O:DB z:=by decide)(t:SE X e m:=by rfl)(d:BA X l m:=by rfl):QX X (.Call (.Name z p) (e::m) [] l) (jh g fs):=⟨Ig o.h w (btM T hv) (btN hv) n.h N O t d⟩
def xT{id:String}{g:List D->Option (D×Bool)}(T:Tx X.mg)(hv:btT.lookup z=Zv (.type id))(o:QC X (.type id) g)(n:QA X (e::m) fs)(w:Gl X z:=by rfl)(N:z≠"__name__":=by decide)(O:DB z:=by decide)(t:SE X e m:=by rfl)(d:BA X l m:=by rfl):QX X (.Call (.Name z p) (e::m) [] l) (jh g fs):=⟨Ic o.h w (btM T hv) (btN hv) n.h N O t d⟩
def xI{t:Ty}(T:Tx X.mg)(d:btT.lookup z=Zv (.type t.n))(C:QO X e r)(O:Gl X "isinstance":=by rfl)(o:Gl X z:=by rfl)(N:z≠"__name__":=by decide)(i8:DB z:=by decide)
  (s1:SE X e [.Name z I]:=by rfl)(s2:SE X (.Name z I) []:=by rfl)(w:BA X l [.Name z I]:=by rfl):
  QX X (.Call (.Name "isinstance" p) [e,.Name z I] [] l) (kB (yd [t]) r):=⟨T9 C.h O T.n_isinstance o (btM T d) (btN d) N i8 nJ s1 s2 w⟩
def xI2{t O:Ty}{d:ax}{p4:bI}{o}(T:Tx X.mg)(C:btT.lookup z=Zv (.type t.n))(w:btT.lookup d=Zv (.type O.n))(ha:QO X e r)(hg:Gl X "isinstance":=by rfl)(aV:Gl X z:=by rfl)(hn:z≠"__name__":=by decide)(i8:DB z:=by decide)(cJ:Gl X d:=by rfl)(N:d≠"__name__":=by decide)(cP:DB d:=by decide)
  (s1:SE X e [.Tuple [.Name z I,.Name d Q] o p4]:=by rfl)(s2:SE X (.Tuple [.Name z I,.Name d Q] o p4) []:=by rfl)
  (s3:SE X (.Name z I) [.Name d Q]:=by rfl)(s4:SE X (.Name d Q) []:=by rfl)
  (g8:BA X l [.Tuple [.Name z I,.Name d Q] o p4]:=by rfl):
  QX X (.Call (.Name "isinstance" p) [e,.Tuple [.Name z I,.Name d Q] o p4] [] l) (kB (yd [t,O]) r):=⟨Qa ha.h hg T.n_isinstance aV (btM T C) (btN C) hn i8 cJ (btM T w) (btN w) N cP nJ s1 s2 s3 s4 g8⟩
def xU{k:Nat}{ps:je}{d:EvF}(O:Oz (zX X) k x ps d)(N:Room k X.A)(t:QA X (e::m) fs)(C:Gl X x:=by rfl)(i8:DB x:=by decide)
  (w:SE X e m:=by rfl)(o:BA X l m:=by rfl):QX X (.Call (.Name x p) (e::m) [] l) (iQ d fs):=
 let⟨_,_,ok,T,D,n⟩:=O;⟨P4 ok N C T D n t.h i8 w o⟩
def S6{T:String}{mk:List D->D}{o:Bool}(d:Tx X.mg)(hv:btT.lookup z=Zv (.type T))(O:QA X [a,b] [r,fb])(C:(T="list"/\mk= .lst/\o=Zx)\/(T="tuple"/\mk= .tup/\o=Zy):=by first|exact .inl ⟨rfl,rfl,rfl⟩|exact .inr ⟨rfl,rfl,rfl⟩)(N:X.calm=Zx:=by rfl)(hg:Gl X z:=by rfl)(hn:z≠"__name__":=by decide)(i8:DB z:=by decide)(t:Gl X "range":=by rfl)
  (s1:SE X (.Call (.Name "range" I) [a,b] [] Q) []:=by rfl)(s2:SE X a [b]:=by rfl)
  (w:BA X l []:=by rfl)(n:BA X Q [b]:=by rfl):
  QX X (.Call (.Name z p) [.Call (.Name "range" I) [a,b] [] Q] [] l) (jh (gRg mk o) [r,fb]):=⟨TY C N hg (btM d hv) (btN hv) hn i8 t d.n_range O.h s1 s2 w n⟩
def Jp(hv:QO X (.Name x q) (iw i))(t:QX X e f)(o:bb (.Name x q) "append" X.env (aE (.Name x q) X.env)=aE (.Name x q) X.env:=by rfl)
  (T:((aP l<|ac [e] X.env).all (λx=>!x.1)&&(dn l<|ca [] X.env).all (λx=>x.1.isSome)&&decide ([e].length+([]:List bG).length+(if([]:List bG).isEmpty then 0 else 1)<30))=Zx:=by rfl)
  (n:(y.endLine==l.line)=Zx:=by rfl)(w:SE X e []:=by rfl)(d:BA X l []:=by rfl):QX X (.Call (.Attribute (.Name x q) "append" y) [e] [] l) (kY i f):=⟨JG hv.h t.h o T n w d⟩
def XE(hv:QO X (.Name x q) (iw i))(t:QX X e f)(o:bb (.Name x q) "extend" X.env (aE (.Name x q) X.env)=aE (.Name x q) X.env:=by rfl)
  (T:((aP l<|ac [e] X.env).all (λx=>!x.1)&&(dn l<|ca [] X.env).all (λx=>x.1.isSome)&&decide ([e].length+([]:List bG).length+(if([]:List bG).isEmpty then 0 else 1)<30))=Zx:=by rfl)
  (n:(y.endLine==l.line)=Zx:=by rfl)(w:SE X e []:=by rfl)(d:BA X l []:=by rfl):QX X (.Call (.Attribute (.Name x q) "extend" y) [e] [] l) (qZ i f):=⟨JF hv.h t.h o T n w d⟩
def XC(hv:QO X (.Name x q) (iw i))(t:QO X e J)(o:bb (.Name x q) "pop" X.env (aE (.Name x q) X.env)=aE (.Name x q) X.env:=by rfl)
  (T:((aP l<|ac [e] X.env).all (λx=>!x.1)&&(dn l<|ca [] X.env).all (λx=>x.1.isSome)&&decide ([e].length+([]:List bG).length+(if([]:List bG).isEmpty then 0 else 1)<30))=Zx:=by rfl)
  (n:(y.endLine==l.line)=Zx:=by rfl)(w:SE X e []:=by rfl)(d:BA X l []:=by rfl):QX X (.Call (.Attribute (.Name x q) "pop" y) [e] [] l) (vO i J):=⟨MI hv.h t.h o T n w d⟩
def iR1(T:Tx X.mg)(d:QA X [a] [r])(n:Gl X "range":=by rfl)(o:ac [a] X.env=[(C,aE a X.env)]:=by rfl):QI X B tg (.Call (.Name "range" p) [a] [] l) (EU r):=⟨GS n T.n_range d.h o⟩
def iR2(T:Tx X.mg)(n:QA X [a,b] [r,fb])(o:Gl X "range":=by rfl)(t:ac [a,b] X.env=[(C,aE a X.env),(C,aE b X.env)]:=by rfl)(d:ac [b] X.env=[(C,aE b X.env)]:=by rfl):QI X B tg (.Call (.Name "range" p) [a,b] [] l) (vM r fb):=⟨GR o T.n_range n.h t d⟩
def iE{d:kr}{w:Nat}{O:bI}(T:Tx X.mg)(n:QX X a f)(o:Gl X "enumerate":=by rfl)(t:ac [a] X.env=[(C,aE a X.env)]:=by rfl)(s0:SE X a []:=by rfl):QI X B (.Tuple d w O) (.Call (.Name "enumerate" p) [a] [] l) (Dz 0 f):=⟨JN o T.n_enumerate n.h t s0⟩
def iS(h:QX X e f):QI X B tg e (jx f):=⟨Qx h.h⟩
def iSV(h:QO X e (iw i))(d:B i:=by decide):QI X B tg e (Aq<|iw i):=⟨Ey h.h<|C6 d⟩
def iZV{d:kr}{k1:Nat}{m6:bI}(T:Tx X.mg)(C:QO X a (iw i))(O:QO X b (iw j))(n:B i:=by decide)(o:B j:=by decide)(N:Gl X "zip":=by rfl)(hs:SE X a [b]:=by rfl)(t:SE X b []:=by rfl)(w:BA X l [b]:=by rfl):
  QI X B (.Tuple d k1 m6) (.Call (.Name "zip" p) [a,b] [] l) (Ap (iw i)<|iw j):=⟨M3 N T.n_zip C.h O.h (C6 n) (C6 o) hs t w⟩
def gN(d:X.N.Nodup)(H:X.N[i]?=Zv x:=by rfl)(o:Loc X.env.scope x:=by first|exact bz rfl|exact bO Zz)(n:X.fn x=Zx\/X.env.scope.names.lookup x=Zv .local:=by first|exact bz rfl|exact bO Zz)(h:A i:=by decide):QG X A (.Name x l) (iF i):=⟨M8 d H o n h⟩
def gT{d n:Tg}{k:Nat}(h1:QG X A a d)(o:QG X A b n)(t:X.calm=Zx:=by rfl)(O:(aU [a,b] X.env).map (·.2)=ce a X.env::(aU [b] X.env).map (·.2):=by rfl)(T:(aU [b] X.env).map (·.2)=ce b X.env::(aU [] X.env).map (·.2):=by rfl)
  (w:(aU [a,b] X.env).length=2:=by rfl)(N:(aU [a,b] X.env).findIdx? (·.1)=Zw:=by rfl):QG X A (.Tuple [a,b] k l) (qk [d,n]):=⟨QE t (Bv h1.h (Bv o.h M9 T) O) w Zz N⟩
def f0:QF X [] kK:=⟨M5⟩
def f1(h:QT X e s):QF X [e] s:=⟨M4 h.h⟩
def bE{o:rX}{T:jL}{d:iu}{n:Nat}(t:QX X e f)(w:o[n+1]?=Zw:=by rfl):QB X A d (.ListComp e o T p) n (jA f):=⟨Nj w t.h⟩
def bF{o:rX}{C:jL}{d:iu}{n:Nat}{c:qc}{w:FIt}{tt:Tg}{fb:FB}(hg:o[n+1]?=Zv c)(pi:QI X (λ_=>False) c.target c.iter w)(pg:QG X A c.target tt)(T:QF X c.ifs s)(pb:QB X A d (.ListComp e o C p) (n+1) fb)(O:X.xe=λ_ _=>False:=by rfl)(hc:X.calm=Zx:=by rfl)
  (N:c.is_async=0:=by rfl)(k9: ∀t,o[n+1+1]?=Zv t->t.is_async=0:=by intro t h;cases h;try rfl)(hs: ∀x,aM c.iter X.env x=pure x:=by intro _;rfl):QB X A d (.ListComp e o C p) n (OZ w tt s fb):=⟨QM O hc (bz ⟨_,_,_,_,rfl⟩) hg N k9 hs pi.h pg.h T.h pb.h⟩
def cOk{N P:je}{n scope:jL}{N':je}{d:jU}(S:FnScope N P n)(h:DS N n scope N' d k=Zx:=by decide+kernel)(o:X.N=N:=by rfl)(t:X.env.scope=n:=by rfl):CompOk X N' scope d k:=OP o t h
def xC{c:qc}{jw:rX}{T:iI}{scope:jL}{fi:FIt}{tt:Tg}{ti:FT}{fb:FB}{o:jU}{N':je}(C:CompOk X N' scope o k)(nd:N'.Nodup)(pi:QI X (λi=>i∉o) c.target c.iter fi)
  (ai: ∀(cl:kU) (C:iu) (O:iC) (t:Hp) (w:kI) (n:jq),(X.comp N' scope cl C O t w n).N.Nodup->
   QG (X.comp N' scope cl C O t w n) (λi=>ZB o<=i) c.target tt/\QF (X.comp N' scope cl C O t w n) c.ifs ti/\ ∀d,QB (X.comp N' scope cl C O t w n) (λi=>ZB o<=i) d (.ListComp T (c::jw) scope l) 0 fb)
  (hc:X.calm=Zx:=by rfl)(ha:c.is_async=0:=by rfl)(k9: ∀g',jw[0]?=Zv g'->g'.is_async=0:=by intro g' h;cases h;try rfl)(hs: ∀x,aM c.iter X.env x=pure x:=by intro _;rfl):QX X (.ListComp T (c::jw) scope l) (jI o k fi tt ti fb):=⟨Qf C hc ha k9 hs pi.h λcl C O t w n=>let⟨a,b,c⟩:=ai cl C O t w n nd;⟨a.h,b.h,λd=>(c d).h⟩⟩
def sC{c:qc}{jw:rX}{t:iI}{scope:jL}{fi:FIt}{tt:Tg}{ti:FT}{fb:FB}{o:jU}{N':je}{py g0:bI}(hN:X.N.Nodup)(C:CompOk X N' scope o k)(nd:N'.Nodup)(pi:QI X (λi=>i∉o) c.target c.iter fi)
  (ai: ∀(cl:kU) (C:iu) (T:iC) (w:Hp) (O:kI) (n:jq),(X.comp N' scope cl C T w O n).N.Nodup->
   QG (X.comp N' scope cl C T w O n) (λi=>ZB o<=i) c.target tt/\QF (X.comp N' scope cl C T w O n) c.ifs ti/\ ∀d,QB (X.comp N' scope cl C T w O n) (λi=>ZB o<=i) d (.ListComp t (c::jw) scope l) 0 fb)
  (bC:bJ (.ListComp t (c::jw) scope l) (Zv<|.Name x py) g0.line X.env=pure Zx:=by rfl)(H:X.N[i]?=Zv x:=by rfl)(hx:X.env.scope.names.lookup x=Zv .local:=by rfl)(hf:X.fn x=Zx:=by rfl)(hA:A i:=by decide)
  (hc:X.calm=Zx:=by rfl)(ha:c.is_async=0:=by rfl)(k9: ∀g',jw[0]?=Zv g'->g'.is_async=0:=by intro g' h;cases h;try rfl)(hs: ∀x,aM c.iter X.env x=pure x:=by intro _;rfl):QS X A L E (.Assign [.Name x py] (.ListComp t (c::jw) scope l) g0) (jD i<|jI o k fi tt ti fb):=⟨MP bC C hc ha k9 hs pi.h (Ik hN H (bz hx)<|bz hf) hA λcl C T w O n=>let⟨a,b,c⟩:=ai cl C T w O n nd;⟨a.h,b.h,λd=>(c d).h⟩⟩
def s0:QQ X A L E [] iZ:=⟨MQ⟩
def s1(h:QS X A L E S u)(d:QQ X A L E G v):QQ X A L E (S::G) (iL u v):=⟨JK h.h d.h⟩
def sX:QS X A L E S GJ:=⟨JI⟩
def sR(h:QX X e f):QS X A L E (.Return (Zv e) l) (kN f):=⟨Qt h.h⟩
def sRV(o: ¬L i)(h1:X.N[i]?=Zv x:=by rfl)(d:Vis X.env.scope x:=by first|exact bz rfl|exact bO (bz Zz)|exact bO<|bO Zz)(h:DB x:=by decide)(n:(x==("__classdict__":ax))=C:=by decide):QS X A L E (.Return (Zv<|.Name x p) l) (pN i):=⟨GO h1 d h n o⟩
def sE(h:QX X e f)(d:bJ e Zw l.line X.env=pure C:=by rfl):QS X A L E (.Expr e l) (lU f):=⟨MN h.h d⟩
def sI(o:QT X c s)(d:QQ X A L E G u)(n:QQ X A L E Ts v):QS X A L E (.If c G Ts l) (sIf s u v):=⟨Um o.h d.h n.h⟩
def sW{n:Nat}(o:QT X c s)(d:QQ X A L E G u)(t:fx (ah X.prog X.w) X.A X.env X.xe:=by exact PassesOwn.never):QS X A L E (.While c G [] l) (ml s u n):=⟨JH t o.h d.h⟩
def sF{d:FIt}{t:Tg}(H:QI X (λ_=>False) tg e d)(N:QG X A tg t)(n:QQ X A L E G u)(O:fx (ah X.prog X.w) X.A X.env X.xe:=by exact PassesOwn.never)(o:X.calm=Zx:=by rfl)(T: ∀x,aM e X.env x=pure x:=by intro _;rfl):QS X A L E (.For tg e G [] l) (pV d t u):=⟨Qu O o H.h N.h n.h T⟩
def sS(d:X.N.Nodup)(o:QX X e f)(H:X.N[i]?=Zv x:=by rfl)(T:Loc X.env.scope x:=by first|exact bz rfl|exact bO Zz)(t:X.fn x=Zx\/X.env.scope.names.lookup x=Zv .local:=by first|exact bz rfl|exact bO Zz)(n:A i:=by decide)(w:bJ e (Zv<|.Name x p) l.line X.env=pure C:=by rfl):QS X A L E (.Assign [.Name x p] e l) (jD i f):=⟨Qs d H T o.h w t n⟩
def sT{t:Tg}{pt:bI}(d:QX X e f)(n:QG X A (.Tuple m k pt) t)(o:c4 [.Tuple m k pt] e l.line X.env=pure C:=by rfl)(w:c5 [.Tuple m k pt] e X.env=pure Zw:=by rfl)(h1:(aU [.Tuple m k pt] X.env).map (·.2)=[ce (.Tuple m k pt) X.env]:=by rfl):QS X A L E (.Assign [.Tuple m k pt] e l) (PL t f):=⟨Qr d.h n.h o w h1⟩
def sIx{d:bI}(hv:QO X (.Name x q) (iw i))(w:QX X e f)(H:QO X a J)
  (t: ∀v,ce (.Subscript (.Name x q) a d) X.env v=(do
   let n <-br [v] (aE (.Name x q) X.env)
   let o <-br [v,n] (aE a X.env)
   cu d
   br [v,n,o] (fU n o v)
   li [v,n,o] []):=by intro _;rfl)
  (T:c4 [.Subscript (.Name x q) a d] e l.line X.env=pure C:=by rfl)(O:c5 [.Subscript (.Name x q) a d] e X.env=pure Zw:=by rfl)
  (h1:(aU [.Subscript (.Name x q) a d] X.env).map (·.2)=[ce (.Subscript (.Name x q) a d) X.env]:=by rfl):QS X A L E (.Assign [.Subscript (.Name x q) a d] e l) (xP i f J):=⟨JJ hv.h w.h H.h t T O h1⟩
def sDP{d:bI}(O:un X.A 1)(hv:QO X (.Name x q) (iw i))(w:QX X e f)(H:QO X a J)
  (t: ∀v,ce (.Subscript (.Name x q) a d) X.env v=(do
   let n <-br [v] (aE (.Name x q) X.env)
   let o <-br [v,n] (aE a X.env)
   cu d
   br [v,n,o] (fU n o v)
   li [v,n,o] []):=by intro _;rfl)
  (N:c4 [.Subscript (.Name x q) a d] e l.line X.env=pure C:=by rfl)(T:c5 [.Subscript (.Name x q) a d] e X.env=pure Zw:=by rfl)
  (h1:(aU [.Subscript (.Name x q) a d] X.env).map (·.2)=[ce (.Subscript (.Name x q) a d) X.env]:=by rfl):QS X A L E (.Assign [.Subscript (.Name x q) a d] e l) (uI i f J):=⟨MO O hv.h w.h H.h t N T h1⟩
end
def Fz(K:iW)(b:ll)(x:ax)(st:bD):Prop:= ∃f a,b x=Y (.ref f)/\Fun K x x st f a
def fz{K:iW}{h:iT}{e:ll}{x:ax}{st:bD}{f:iu}{i:iK}{j g:Option iu}{n:rY}{kV b m d ct:iK}(X:K.In h)(G:h.Ns am e)(a:aS K am x=Y (Y<|.ref f))
  (l:K.lookup f=Y ⟨i,j,.func<|cz x x (rk st) (lJ st) (iB st) .none kV b m g d ct,n⟩)(c:ew K d x=J)(k:cw K (.ref f)=J):Fz K e x st:=⟨f,_,nz X G a,Of l c k⟩
def BdA(x:ax)(st:bD)(c:je):Prop:= ∀(kV a f:iK) (d:Option iu) (e ct:iK) (b:jy),ZB b=ZB c->fm (cz x x (rk st) (lJ st) (iB st) .none kV a f d e ct) ⟨b,[]⟩=pure (c.zip b)
def scM{N P:je}{a:jL}(h1:a.kind= .function:=by rfl)(b:a.isCoroutine=C:=by rfl)(c:a.isGenerator=C:=by rfl)(d:N.Nodup:=by decide+kernel)(e:N.take P.length=P:=by rfl)(f: ∀x∈P,a.names.lookup x=Y .local\/a.names.lookup x=Y .cell:=by decide+kernel)(g: ∀y∈a.names,y.2≠ .free:=by decide+kernel):FnScope N P a:=⟨h1,b,c,d,e,f,g⟩
def Bd(Z:ZZ)(k:Nat)(x:ax)(st:bD)(N d:je)(c:jU)(fs:FS):Prop:= ∀(f:iu) (b:iK) (A:iU) (a:List d1) (s:iC) (U:Hp) (E:XK) (L:jW),(∀i,L i->i<ZB d)->Room k (A.deeper<|aZ x (iB st) s.heap.objs.size f b)->
 un (A.deeper<|aZ x (iB st) s.heap.objs.size f b) 60->un (A.deeper<|aZ x (iB st) s.heap.objs.size f b) 1->un (A.deeper<|aZ x (iB st) s.heap.objs.size f b) 62->un (A.deeper<|aZ x (iB st) s.heap.objs.size f b) 90->N.Nodup->
 QQ (pZ CX0 Z.P Z.w Z.K Z.mg Z.base N x (iB st) f b A a s U E).nox (λi=>i∈c) L U (lJ st) fs
def fnB{Z:ZZ}{k:Nat}{x:ax}{st:bD}{N c:je}{b:jU}{fs:FS}{f:iu}{d:mD}(F:Fun Z.K x x st f d)(S:FnScope N c (iB st))(j:Bd Z k x st N c b fs):FnOk Z.P Z.w Z.K Z.mg Z.base CX0 (k+1) f d c (spF Z.K<|evF (ZB N) (ZB c) b fs):=
 U8 F S λg A a s U E L i e=>by have:=e.un;exact(j f g A a s U E L i e (by unfold un;omega) (by unfold un;omega) (by unfold un;omega) (by unfold un;omega) S.nd).h
def ozB{Z:ZZ}{k:Nat}{x:ax}{st:bD}{N c:je}{asg:jU}{fs:FS}(a:Fz Z.K Z.mg x st)(S:FnScope N c (iB st))(b:BdA x st c)(e:Bd Z k x st N c asg fs):Oz Z (k+1) x c (evF (ZB N) (ZB c) asg fs):=
 let⟨f,d,m,F⟩:=a;⟨f,d,fnB F S e,m,F.kp,F.binds b⟩
def us0{P:List iK->Prop}(h:P []): ∀b:List iK,ZB b=0->P b:=λb e=>by cases b with|nil=>exact h|cons a l=>cases e
def us1{P:List iK->Prop}{n:Nat}(h: ∀a,∀b:List iK,ZB b=n->P (a::b)): ∀b:List iK,ZB b=n+1->P b:=λb e=>by cases b with|nil=>cases e|cons a l=>exact h a l<|Nat.succ.inj e
def oz0{Z:ZZ}{x:ax}{st:bD}{c:je}(a:Fz Z.K Z.mg x st)(b:BdA x st c):Oz Z 0 x c (λ_=>I):=
 let⟨f,d,m,F⟩:=a;⟨f,d,Ry,m,F.kp,F.binds b⟩
def mgI{K:iW}{h:iT}{b:ll}{x:ax}{i:Int}{t:wE}(X:K.In h)(G:h.Ns am b)(a:aS K am x=Y (Y<|.int i t)): ∃t,b x=Y (.int i t):=⟨t,nz X G a⟩
def txK{K:iW}{h:iT}{g:ll}(X:K.In h)(G:h.Ns am g)(i:aS K am "len"=Y I)(j:aS K am "abs"=Y I)(k:aS K am "int"=Y I)(l:aS K am "tuple"=Y I)(m:aS K am "list"=Y I)(n:aS K am "range"=Y I)(o:aS K am "isinstance"=Y I)(p:aS K am "bool"=Y I)(q:aS K am "max"=Y I)(r:aS K am "min"=Y I)(a:aS K am "all"=Y I)(b:aS K am "any"=Y I)(c:aS K am "sorted"=Y I)(d:aS K am "enumerate"=Y I)(e:aS K am "zip"=Y I)(f:aS K am "set"=Y I):Tx g:=⟨om X G i,om X G j,om X G k,om X G l,om X G m,om X G n,om X G o,om X G p,om X G q,om X G r,om X G a,om X G b,om X G c,om X G d,om X G e,om X G f⟩
end PX
namespace L2
open PySem.W
structure Fly(P:iX)(w:iR)(outer:List d1)(H:Hp)(s:iC)(C:iu)(H':Hp)(ea:iu)(s':iC)(h0 B:iT)(F:kI):Prop where
 os:s'.os=s.os
 bare:ej s'.gens
 un:Un (frs outer) [] H H' s.heap h0
 hok:HOk P w H' h0
 fr: ∀b∈F,H' b=Zw/\(b∈frs outer\/s.heap.objs.size<=b)
 st: ∀b o,h0.get? b=Zv o->b∉F->B.get? b=Zv o
 fl: ∃a0,Heap.FlyingW B outer ea (.ref C) a0 s'.heap
 up:h0.UpToSlots s'.heap
 ne:h0.get? ea=Zw
def CXx(P:iX)(w:iR):CXT:=λa U s E e f=> ∃T b c d B F,e= .ref c/\Fly P w a U s T b c f d B F/\E (.ref T) I b
section
variable {P:iX}{w:iR}{c:List d1}{H h:Hp}{s s':iC}{C i:iu}{g B d:iT}{F:kI}
def Fly.end(f:Fly P w c H s C h i s' g B F)(t: ∀b∈frs c,∃o,s.heap.get? b=Y o/\(∀O,o.data≠ .fields O)/\H b=I)(E:B.StaysIn d)(v:g.UpToSlots d):Un (frs c) [] H h s.heap d/\HOk P w h d:=by
 have keep: ∀b o,g.get? b=Y o->b∉F->d.get? b=Y o:=λb o e n=>E b o<|f.st b o e n
 have y: ∀b o,s.heap.get? b=Y o->b∉frs c->b∉F:=λb o e n z=>by
  rcases(f.fr b z).2 with q|q
  .exact n q
  .exact absurd (jN e) (Ph.mpr q)
 refine⟨⟨λb o e n j k=>keep b o (f.un.keep b o e n j k)<|y b o e j,λb o e n j k=>?_,f.un.free,λb o e k=>?_,f.un.tups,f.un.frzs,f.un.tbls⟩,λa o e=>?_⟩
 .obtain⟨U,m,r,_⟩:=t b j;rw[e] at m;cases m;obtain⟨L,l⟩:=f.un.slot b o e n j k;obtain⟨x,p⟩:=v b _ l r;exact⟨x,p⟩
 .by_cases j:b∈frs c
  .obtain⟨U,m,r,n⟩:=t b j;rw[e] at m;cases m;obtain⟨L,l⟩:=f.un.slot b o e n j k;obtain⟨x,p⟩:=v b _ l r;exact⟨_,p⟩
  .obtain⟨A,l⟩:=f.un.there b o e k;exact⟨A,keep b A l<|y b o e j⟩
 .refine(f.hok a o e).stay (λb u j q=>keep b u q λz=>?_) (λ_ q=>q) λ_ _ q=>q;have:=(f.fr b z).1;rcases j with rfl|j
  .rw[e] at this;cases this
  .rw[j] at this;cases this
end
section
variable {X:Cx}{g:jq}{k:St}{H:Hp}{s s':iC}{C j:iu}
def Inv.frsOk(U:Inv X g k H s): ∀b∈frs X.stack,∃o,s.heap.get? b=Y o/\(∀d,o.data≠ .fields d)/\H b=I:=λb a=>by obtain⟨_,o,c,hd⟩:=U.stack.mem a;exact⟨o,c,hd,U.stkFree b a⟩
def XeOk(X:Cx)(P:iX)(w:iR)(d:List d1)(i:Hp)(s0:iC)(E:XK):Prop:=X.prog=P/\X.w=w/\X.stack=X.env::d/\X.outer=d/\X.H₀=i/\X.s₀=s0/\X.ex=[]/\X.env.frame=Y X.env.locals/\
 ∀e s',ag (ah P w) X.A (TD X.env e) (λ_ a=>CXx P w d i s0 E e a) (λb a=>CXx P w d i s0 E b a) s'->X.xe e s'
def tL{P:iX}{w:iR}{K:iW}{a:ll}{base:iT}{N:je}{qual:ax}{scope:jL}{f:iu}{cd:iK}{A:iU}{d:List d1}{s:iC}{H:Hp}{E:XK}:
  XeOk (pZ (CXx P w) P w K a base N qual scope f cd A d s H E) P w d H s E:=⟨rfl,rfl,rfl,rfl,rfl,rfl,rfl,rfl,λ_ _ h=>h⟩
variable {P:iX}{w:iR}{d:List d1}{i:Hp}{s0:iC}{E:XK}
def Jr{r:Hp}{u:iT}{L:iu}(a:Un (frs d) [] i H s0.heap s.heap)(b:Un (L::frs d) [] H r s.heap u)(A:s0.heap.objs.size<=L):Un (frs d) [] i r s0.heap u where
 keep:=λc o q n h e=>b.keep c o (a.keep c o q n h e) (a.free c o q n e) (λz=>(kT.mp z).elim (λz=>by subst z;exact absurd (jN q)<|Ph.mpr A) h) e
 slot:=λc o q n h e=>by obtain⟨Q,f⟩:=a.slot c o q n h e;obtain⟨y,m⟩:=b.slot c _ f (a.free c o q n e) (jX _ h) e;exact⟨y,m⟩
 free:=λc o q n e=>by obtain⟨p,f⟩:=a.there c o q e;exact b.free c p f (a.free c o q n e) e
 there:=λc o q e=>by obtain⟨p,f⟩:=a.there c o q e;exact b.there c p f e
 tups:=λc l q=>b.tups c l<|a.tups c l q
 frzs:=λc o l q=>b.frzs c o l<|a.frzs c o l q
 tbls:=λc O q=>by obtain⟨B,f⟩:=a.tbls c O q;obtain⟨U,m⟩:=b.tbls c _ f;exact⟨B++U,by rw[m,Gu]⟩
def Az{a:d1}{L:iu}(h:a.frame=Y L):frs (a::d)=L::frs d:=by unfold frs;rw[uH,h]
def XeOk.made(x:XeOk X P w d i s0 E)(U:Inv X g k H s){r:iT}{f:jy}(p:Heap.MadeExcOf s.heap r j (.ref C) f)(q:E (.ref C) I H):X.xe (.ref j) {s with heap:=r}:=by
 obtain⟨rfl,rfl,c,B,rfl,rfl,hex,u,v⟩:=x;refine v _ _ (wpAny_leaves_madeW (base:=hideAll s.heap<|frs X.stack) (h:=s.heap) (L:=X.env.locals) (U.ok.frames.trans<|by rw[c]) u (λb o e=>of_hideAll _ e) ?_ p λO t y _ _ up=>?_)
 .rw[<-c];exact funFrames_hide U.stack λm A a z=>dX.mpr ⟨m,A,z⟩
 .refine⟨C,H,j,s.heap,_,frs X.stack,rfl,⟨U.os,U.bare,?_,U.hok,λb l=>⟨U.stkFree b l,?_⟩,λb o e n=>hideAll_get _ e n,⟨_,y⟩,(Heap.UpToSlots.of_keeps p.keeps).trans up,p.new⟩,q⟩
  .have:=U.base;unfold Cx.fs at this
   rwa [B,hex] at this
  .rw[c,Az u] at l;rcases kT.mp l with rfl|l
   .exact .inr U.ok.above
   .exact .inl l
def XeOk.pass(x:XeOk X P w d i s0 E):D3 (CXx P w) X E:=λg k H s e s' U h=>by
 obtain⟨rfl,rfl,c,v,rfl,rfl,hex,l,r⟩:=x;obtain⟨C,o,j,u,B,F,rfl,f,q⟩:=h;obtain⟨p,m⟩:=f.fl;rw[c] at m;refine r _ _ (wpAny_leaves_onW (L:=X.env.locals) (U.ok.frames.trans<|by rw[c]) l m λy t up=>?_);refine⟨C,o,j,u,B,F,rfl,⟨f.os.trans U.os,f.bare,?_,f.hok,λb n=>⟨(f.fr b n).1,?_⟩,f.st,⟨p,t⟩,f.up.trans up,f.ne⟩,q⟩
 .have a:=U.base;unfold Cx.fs at a;rw[v,hex] at a;have b:=f.un;rw[c,Az l] at b;exact Jr a b U.ok.above
 .rcases(f.fr b n).2 with z|z
  .rw[c,Az l] at z;rcases kT.mp z with rfl|z
   .exact .inr U.ok.above
   .exact .inl z
  .exact .inr (ma U.sz z)
end
abbrev veB:List Value:=[.type "ValueError",.type "Exception",.type "BaseException",.type "object"]
def RQ{K:Frag}{h:iT}{U:iu}{b:jy}{e:String}(c:K.In h)(q:excIn K U b e=J):
  ∃a N nm g bs hd sn sub ab col dd k0 k1 k2 k3 k5 j,h.get? U=Y (excClassObj nm g U N bs a hd sn sub ab col dd k0 k1 k2 k3 k5 e)/\h.Ns N j/\j "__init__"=I/\OwnTail h b a:=by
 unfold excIn at q;split at q
 case h_2=>cases q
 rename_i dd cd i lk;split at q
 case h_2=>cases q
 rename_i y a k0 k1 k2 k3 n k5 p r;rw[lC,lC,lC,lC,lC] at q;obtain⟨⟨⟨⟨⟨t,u⟩,v⟩,w⟩,k⟩,x⟩:=q;cases Fo.mp t;cases Fo.mp u;obtain⟨nm,bs,f,s,g,hd,sn,sub,ab,col,d⟩:=cd;have l:f= .ref U::a:=p;have m:d=C:=by simpa using v
 obtain⟨i⟩:=i;have o:i=[k0,k1,k2,k3,Y<|.builtin e,k5]:=r;subst l m o;exact⟨a,s,nm,g,bs,hd,sn,sub,ab,col,dd,k0,k1,k2,k3,k5,_,c _ _ lk,.of_isNs<|isNs_of_in c k,nsMap_none_of_in c k<|Fo.mp x,tail_of_in c w⟩
section
variable {X:Cx}{P:iX}{w:iR}{b:List d1}{g:Hp}{s0:iC}{E:XK}{x:ax}{C:iu}{a:iI}{d:TE}{np f c:bI}
def MU(T:XeOk X P w b g s0 E)(z:X.calm=Zx)(t:excIn X.K C veB "ValueError.__new__"=Zx)(B:X.mg x=Y (.ref C))(A:Gl X x)(y:PE X a d)(hd:(x==("__debug__":ax))=Zy)
  (n:ac [a] X.env=[(Zy,aE a X.env)]):PS X (.Raise (Y<|.Call (.Name x np) [a] [] f) Zw c) (λD k H'=>d k H' λ_ l=>E (.ref C) Zw l):=by
 intro i s k H' D I h;obtain⟨G,N,nm,Q,bs,o,sn,sub,ab,col,dd,k0,k1,k2,k3,k5,M,h1,p,r,m⟩:=RQ I.ok.mod.kin t;have L:(aP f<|ac [a] X.env).any (·.1)=Zy:=by rw[n];rfl
 refine wpAny_Raise_call_subT (nm:=nm) (q:=Q) (N:=N) (bs:=bs) (hdct:=o) (sn:=sn) (sub:=sub) (ab:=ab) (col:=col) (dd:=dd) (k0:=k0) (k1:=k1) (k2:=k2) (k3:=k3) (k5:=k5) PySem.F.excBase_ValueError (m.hasType<|by decide) (I.ok.hd z) L r<|wx I A B ⟨rfl,?_⟩ hd;rw[n];refine Gf<|Gq (thn (y i s k H' _ I h) λu s1 a'=>by obtain⟨v,l,j,U,O⟩:=a';exact Gr ⟨rfl,(show 1<=sizeLine by decide),j.bk _ _ h1,p.keeps j.bk,m.keeps j.bk,λJ e mk=>T.made j mk O⟩)
end
def ya(q:ax):HO:= .tbl #[.str q 0]
structure OnlyT(TB:List (iu×ax))(H:Hp):Prop where
 one: ∀b,H b=Zw\/(∃o xs,H b=Zv (.frz o<|.lst xs))\/ ∃q,(b,q)∈TB/\H b=Zv (ya q)
 all: ∀p∈TB,H p.1=Zv (ya p.2)
def JY{P:iX}{w:iR}{K:iW}{C mb:ll}{CX:CXT}{k:Nat}{fa a:iu}{fd:mD}{x:ax}{sp:Sp}{c:iC}{O:jy}{Q:iO}{TB:List (iu×ax)}
  (KX:K.In c.heap)(ao:c.heap.Ns am C)(g:c.heap.Ns gQ mb)(hbb: ∀x:ax,x≠"__name__"->mb x=ay x)(Y:c.heap.NoLimit)(hg:c.gens= #[])
  (M: ∀p∈TB,c.heap.get? p.1=Zv (tabObj #[]))(fD: ∀p∈TB,K.lookup p.1=Zw)(fA: ∀p∈TB,isCodeTable c.heap p.1)(eh:(TB.map (·.1)).Nodup)(U: ∀p∈TB,c.heap.BuiltinsAt C p.1)
  (N:c.heap.get? a=Zv {cls:= .type "list",data:= .seq O.toArray})(hi:ei O Q)(hl:Q.length<=sizeLine)(hr:Room k fX)
  (F: ∀base:iT,K.In base->base.Ns am C->(∀p∈TB,base.BuiltinsAt C p.1)->FnOk P w K C base CX k fa fd [x] sp)(m9: ∀(s:iC) (u:iK),fY s fd ⟨[u],[]⟩ [(x,u)])
  (cq: ∀H8:Hp,OnlyT TB H8->SqL K H8 a (Q.map V.int)->sp [.ref a] H8 (λv H'=>v= .bl Zx/\ ∀p∈TB,H' p.1=Zv (ya p.2)) λ_ _ _=>False)
  (hCX: ∀H8 e j,CX [] H8 c (λ_ _ _=>False) e j->False):
  cU (ah P w) fX (.call (.ref fa) ⟨[.ref a],[]⟩) (λr j=>r= .ok (.ret<|.bool Zx)/\OldK c.heap j.heap/\j.os=c.os/\ej j.gens) c:=by
 have rv:=Jq hi;have R:=hi.length
 have Z: ∀p∈TB,p.1≠a:=λp f e=>by have:=M p f;rw[e,N] at this;cases this
 have t: ∀H8:Hp,OnlyT TB H8->SqL K H8 a (Q.map V.int)->HOk P w H8 c.heap->(∀b,H8 b≠Zw->b=a\/ ∃p∈TB,b=p.1)->(H8 a≠Zw->K.lookup a=Zw)->
   cU (ah P w) fX (.call (.ref fa) ⟨[.ref a],[]⟩) (λr j=>r= .ok (.ret<|.bool Zx)/\OldK c.heap j.heap/\j.os=c.os/\ej j.gens) c:=by
  intro H8 hO hS D hA hK;have r6: ∀{b:iu} {o:e6},c.heap.get? b=Zv o->H8 b=Zw->(A8 c.heap H8).get? b=Zv o:=λe n=>N6 e n
  have bo: ∀{b:iu} {o:e6},c.heap.get? b=Zv o->(∀its n,o.data≠ .seq its n)->(∀I,o.data≠ .fields I)->H8 b=Zw:=λ{b o} e d d2=>by
   cases q:H8 b with
   |none=>rfl
   |some u=>
    rcases hA b (by rw[q];simp) with rfl|⟨p,f,rfl⟩
    .rw[N] at e;cases e;exact absurd H<|d _ _
    .rw[M p f] at e;cases e;exact absurd H<|d2 _
  have X: ∀{b:iu} {m:ll},c.heap.Ns b m->(A8 c.heap H8).Ns b m:=λ{b m} ⟨o,es,ep,e,d,r⟩=>⟨o,es,ep,r6 e (bo e (λ_ _ z=>by rw[d] at z;cases z) λ_ z=>by rw[d] at z;cases z),d,r⟩
  have J:K.In (A8 c.heap H8):=λb o e=>r6 (KX b o e) (by
   cases q:H8 b with
   |none=>rfl
   |some u=>
    rcases hA b (by rw[q];simp) with rfl|⟨p,f,rfl⟩
    .rw[hK<|by rw[q];simp] at e;cases e
    .rw[fD p f] at e;cases e)
  have hBA: ∀p∈TB,(A8 c.heap H8).BuiltinsAt C p.1:=λp f=>by obtain⟨bm,o,h1,h2,h3,h4,h5,h6,h7,h8⟩:=U p f;exact⟨bm,o,h1,h2,h3,h4,r6 h5 (bo h5 (λ_ _ z=>by rw[h8] at z;cases z) λ_ z=>by rw[h8] at z;cases z),h6,h7,h8⟩
  have hM:Mod K C (A8 c.heap H8):=⟨J,X ao,⟨mb,X g,hbb⟩,let⟨mc,h1,h2⟩:=Y;⟨mc,X h1,h2⟩⟩
  have e0:Env0 P w K C (A8 c.heap H8) fX [] c H8:=⟨rfl,hM,λb o e=>Q1 e,FA<|J8 _ _,trivial,λb g=>absurd (show b∈([]:List iu) from g)<|by simp,D,.of_eq hg⟩
  refine uG ((F _ J (X ao) hBA).run fX [] c H8 ⟨[.ref a],[]⟩ [.ref a] [.ref a] _ _ hr e0 (m9 c<|.ref a) (.cons H .nil) (cq H8 hO hS)) λr j h=>?_
  cases r with
  |error e=>exact(hCX H8 e j h).elim
  |ok fl=>
   cases fl with
   |next=>exact aW h
   |brk=>exact aW h
   |cont=>exact aW h
   |ret u=>
    obtain⟨v,H',os,T,un,B,r',q,L⟩:=h;subst q;obtain rfl:u=cY Zx:=r'
    have W: ∀p∈TB,∃I,j.heap.get? p.1=Zv (tabObj I):=λp f=>by
     obtain⟨_,_,I,_,e,_⟩:=(show ObjOk P w H' j.heap p.1 (.tbl #[.str p.2 0]) from B _ _ (L p f))
     exact⟨I,e⟩
    have keep: ∀b o,c.heap.get? b=Zv o->(∀p∈TB,b≠p.1)->j.heap.get? b=Zv o:=λb o e n=>by
     cases q:H8 b with
     |none=>exact un.keep b o e q (by intro z;exact absurd (show b∈([]:List iu) from z)<|by simp) (by simp)
     |some u=>
      rcases hO.one b with z|⟨ob,xs,z⟩|⟨qq,hm,z⟩
      .rw[q] at z;cases z
      .have z2:=un.frzs b ob _ z;obtain⟨e1,_⟩:=D b _ z;obtain⟨G,_⟩:=B b _ z2;rw[e] at e1;cases e1;exact G
      .exact absurd H (n _ hm)
    refine⟨rfl,⟨λb o e=>?_,λb o e=>?_⟩,os,T⟩
    .by_cases g: ∃p∈TB,b=p.1
     .obtain⟨p,f,rfl⟩:=g;obtain⟨I,G⟩:=W p f;rw[M p f] at e;cases e;refine .inr<|.inl ⟨fA p f,rfl,#[],I,rfl,?_⟩;rw[G];simp
     .exact .inl (keep b o e λp f z=>g ⟨p,f,z⟩)
    .by_cases g: ∃p∈TB,b=p.1
     .obtain⟨p,f,rfl⟩:=g;obtain⟨I,G⟩:=W p f;exact⟨_,G⟩
     .exact⟨o,keep b o e λp f z=>g ⟨p,f,z⟩⟩
 have A: ∀{b q},TB.lookup b=Zv q->(b,q)∈TB:=λh=>by
  revert h;generalize TB=l
  induction l with
  |nil=>intro h;simp at h
  |cons x l ih=>
   intro h;rw[oo] at h;split at h
   .rename_i g;cases h;rw[Fo.mp g];exact jT
   .exact jX _ (ih h)
 have S: ∀p∈TB,TB.lookup p.1=Zv p.2:=by
  clear A t Z cq fD fA U F M
  induction TB with
  |nil=>intro p f;simp at f
  |cons x l ih=>
   intro p f;rw[jY,zD] at eh;rw[oo];rcases kT.mp f with rfl|f
   .simp
   .have:(p.1==x.1)=Zy:=by rw[yZ];exact λe=>eh.1 (e▸oI f)
    rw[this];exact ih eh.2 p f
 have E: ∀(H8:Hp) (b:iu) (q:ax),(b,q)∈TB->ObjOk P w H8 c.heap b (ya q):=λH8 b q hm=>⟨q,0,#[],rfl,M _ hm,trivial,λpos cv z=>by simp[eC] at z⟩
 cases hk:K.lookup a with
 |some o=>
  have e:=KX a o hk;rw[N] at e;cases e;refine t (λb=>(TB.lookup b).map ya) ⟨λb=>?_,λp f=>by rw[S p f];rfl⟩ (.inr ⟨_,O.toArray,_,hk,rfl,rfl,rfl,by rw[kj,R];exact hl,by simpa using rv⟩) (λb u z=>?_) (λb z=>?_) λz=>?_
  .cases q:TB.lookup b with
   |none=>exact .inl H
   |some y=>exact .inr<|.inr ⟨y,A q,rfl⟩
  .have i:(TB.lookup b).map ya=Zv u:=z
   cases q:TB.lookup b with
   |none=>rw[q] at i;cases i
   |some y=>rw[q] at i;cases i;exact E _ b y (A q)
  .have i:(TB.lookup b).map ya≠Zw:=z
   cases q:TB.lookup b with
   |none=>rw[q] at i;exact absurd H i
   |some y=>exact .inr ⟨_,A q,rfl⟩
  .have i:(TB.lookup a).map ya≠Zw:=z
   cases q:TB.lookup a with
   |none=>rw[q] at i;exact absurd H i
   |some y=>exact absurd H<|Z _ (A q)
 |none=>
  have gS: ∀p∈TB,(if p.1=a then Zv (HO.frz {cls:= .type "list",data:= .seq O.toArray}<|.lst<|Q.map V.int) else(TB.lookup p.1).map ya)=Zv (ya p.2):=λp f=>by rw[jc<|Z p f,S p f];rfl
  refine t (λb=>if b=a then Zv (.frz {cls:= .type "list",data:= .seq O.toArray}<|.lst<|Q.map V.int) else(TB.lookup b).map ya) ⟨λb=>?_,gS⟩ (.inl<|.inr ⟨{cls:= .type "list",data:= .seq O.toArray},iP H⟩) (λb u z=>?_) (λb z=>?_) λ_=>hk
  .by_cases g:b=a
   .exact .inr (.inl ⟨_,_,iP g⟩)
   .cases q:TB.lookup b with
    |none=>exact .inl (by simp[g,q])
    |some y=>exact .inr<|.inr ⟨y,A q,by simp[g,q]⟩
  .by_cases g:b=a
   .have i:=(iP g).symm.trans z;cases i;subst g;exact⟨N,by rw[kh];exact hl,O,_,rv,N⟩
   .have i:=(jc g).symm.trans z
    cases q:TB.lookup b with
    |none=>rw[q] at i;cases i
    |some y=>rw[q] at i;cases i;exact E _ b y (A q)
  .by_cases g:b=a
   .exact .inl g
   .cases q:TB.lookup b with
    |none=>exact absurd (by simp[g,q]) z
    |some y=>exact .inr ⟨_,A q,rfl⟩
end L2
namespace PX
open L2
def Rh{TB:List (iu×ax)}{K:iW}{k:EvF}{U:Hp}{a:iu}{f:iO}(m: ∀p∈TB,U p.1=Y (ya p.2))(l:SqL K U a (f.map V.int)){o:Bool}{c:Dn}(h:k [(.lst<|f.map .int,C)]=Y ((.bl J,o),c)):spF K k [.ref a] U (λv g=>v= .bl J/\ ∀p∈TB,g p.1=Y (ya p.2)) λ_ _ _=>False:=by
 have no: ∀b,¬OwnA [Y<|V.ref a] [Y (D.lst<|f.map .int,C)] b:=λb T=>by
  obtain⟨i,d,h1,q⟩:=T
  cases i with
  |zero=>simp at h1
  |succ i=>simp at h1
 refine⟨λ_=>False,[(.lst<|f.map .int,C)],_,c,⟨rfl,λi d hd=>?_,λi d hd=>?_,λi j d e b h1=>?_,λb z=>absurd z<|no b,λb z=>z.elim⟩,h,λv g P=>?_⟩
 .cases i with
  |zero=>simp at hd;subst hd;refine⟨_,rfl,Rep.mkLst (a:=a) (xs:=f.map V.int) ?_<|JC f⟩;exact l.imp (λz=>⟨z,λz=>z.elim (no a) id⟩) id
  |succ i=>simp at hd
 .cases i with
  |zero=>simp at hd
  |succ i=>simp at hd
 .cases i with
  |zero=>simp at h1
  |succ i=>simp at h1
 .refine⟨?_,λp n=>P.1.kp _ _ (m p n) (no _)⟩
  cases o with
  |false=>exact P.2.2.bl
  |true=>obtain⟨p,_,_,_,ok⟩:=P.2;exact ok.elim
end PX
namespace L2
open PySem.W
theorem vY{a b:Int}{t u:Nat}{c:iK}: ∀l:List iK,j7 l->j7 (l++[.int a t,.int b u,c])
 |[],_=>trivial
 | .int _ _:: .int _ _::_::jw,h=>vY jw h
theorem AN{a b:Int}{t u:Nat}{e:bI}{c f:iK}: ∀l:List iK,j7 l->eC e (l++[.int a t,.int b u,c])=Y f->eC e l=Y f\/f=c
 |[],_,h=>by
  simp only[xa,eC] at h;split at h
  .exact .inr (kE h).symm
  .cases h
 | .int i _:: .int j _::d::jw,h0,h=>by
  simp only[oC,eC] at h ⊢;split at h
  .rename_i q;rw[iP q];exact .inl h
  .rename_i q;rw[jc q];exact AN jw h0 h
structure LamAt(q:ax)(params:c8)(body:iI)(scope:jL)(b7:kU)(H:Hp)(h:iT)(fl:iu):Prop where
 fn: ∃pm c' n4,h.get? fl=Zv (kla_obj "<lambda>" q params body scope b7 pm c' n4)/\ ∃ob u vs t,H c'=Zv (.frz ob u)/\ob.data= .fields vs/\vs[1]?=Zv (.str q t)
 un:H fl=Zw
section
variable {X:Cx}{i:jq}{m:St}{H:Hp}{s:iC}{P c:iu}{f:c8}{g:iI}{scope:jL}{j:kU}{l:bI}
def Su{h:iT}{a:iu}(e:h.objs.size<=a):h.get? a=I:=by
 cases q:h.get? a with
 |none=>rfl
 |some o=>exact absurd (jN q)<|Ph.mpr e
def NT{M:gA}{A:iU}{E:jn}{Q:jn}(I:Inv X i m H s){more:mU}(N:H P=Zv (.tbl (#[.str (X.env.qual++"<lambda>") 0]++more)))(hc:X.env.code= .ref c)(C:CodeHd X.base c P)(hB:X.base.BuiltinsAt X.mg P)(gC:am≠P)
  (l5:t6 scope X.env=pure j)(aX:t5 f X.env=([],[]))
  (k: ∀s1 T fl,Inv X i m T s1->(∀b o,H b=Zv o->T b=Zv o)->LamAt (X.env.qual++"<lambda>") f g scope j T s1.heap fl->(∀b o,s.heap.get? b=Zv o->H b=Zw->s1.heap.get? b=Zv o)->(∀b o,s.heap.get? b=Zv o->H b=Zw->T b=Zw)->s.heap.get? fl=Zw->Q (.ref fl) s1):
  ag M A (aE (.Lambda f g scope l) X.env) Q E s:=by
 refine kla_eval aX ?_;obtain⟨qq,tq,ps,J,B,Y,hm⟩:=(show ObjOk X.prog X.w H s.heap P (.tbl (#[.str (X.env.qual++"<lambda>") 0]++more)) from I.hok P _ N)
 have W:qq=X.env.qual++"<lambda>":=by rw[Array.getElem?_append_left<|by simp] at J;simp at J;exact J.1.symm
 subst W;have l7:s.heap.BuiltinsAt X.mg P:=let⟨bm,o,h1,F,K,R,h5,h6⟩:=hB;⟨bm,o,h1,F,K,R,I.bk _ _ h5,h6⟩
 have hg:s.heap.Ns am X.mg:=I.ok.mod.glob.keeps I.bk
 cases S:eC l ps.toList with
 |some cv=>refine kla_makeFunctionHit l5 I.ok.glob hg hc (C.keeps I.bk) B Y S l7 λh v D p sz=>?_;obtain⟨a,ob,u,vs,t,rfl,F,K,R⟩:=hm l cv S;have bB: ∀b o,s.heap.get? b=Zv o->(v.push<|kla_obj "<lambda>" (X.env.qual++"<lambda>") f g scope j ((X.mg "__name__").getD .none) a h).get? b=Zv o:=λb o e=>jM _ (p b o e);exact k _ H _ (I.kept (t':=D) bB) (λ_ _ e=>e) ⟨⟨_,a,h,kc _ rfl,ob,u,vs,t,F,K,R⟩,I.hok.fresh sz⟩ (λb o e _=>bB b o e) (λ_ _ _ n=>n) (Su sz)
 |none=>
  refine kla_makeFunction l5 I.ok.glob hg hc (C.keeps I.bk) B Y S gC l7 λa h v D ex G x cr tb=>?_;obtain⟨c0,r,vs,t,ec,dN,dq,hq⟩:=cr;cases ec;have nc:H a=Zw:=I.hok.fresh G;have p: ∀b o,b≠P->s.heap.get? b=Zv o->(v.push<|kla_obj "<lambda>" (X.env.qual++"<lambda>") f g scope j ((X.mg "__name__").getD .none) a h).get? b=Zv o:=λb o n e=>jM _ (ex b o n e);have up: ∀b o,H b=Zv o->upd H a (.frz r<|.own 0) b=Zv o:=λb o e=>by rw[jb<|kP e nc];exact e
  have Z: ∀b,H b=Zw->b≠P:=λb n z=>by rw[z,N] at n;cases n
  have y:=jM (kla_obj "<lambda>" (X.env.qual++"<lambda>") f g scope j ((X.mg "__name__").getD .none) a h) tb
  have un:Un (frs X.stack) [] H (upd H a<|.frz r<|.own 0) s.heap (v.push<|kla_obj "<lambda>" (X.env.qual++"<lambda>") f g scope j ((X.mg "__name__").getD .none) a h):=
   ⟨λb o e n _ _=>p b o (Z b n) e,λb o e n _ _=>⟨o.slots,p b o (Z b n) e⟩,λb o e n _=>by rw[jb<|jF<|nj (jN e) G];exact n,λb o e _=>by
    by_cases z:b=P
    .subst z;exact⟨_,y⟩
    .exact⟨o,p b o z e⟩,λb xs e=>up b _ e,λb o xs e=>up b _ e,λb ps e=>⟨#[],by rw[up b _ e];simp⟩⟩
  have V:HOk X.prog X.w (upd H a<|.frz r<|.own 0) (v.push<|kla_obj "<lambda>" (X.env.qual++"<lambda>") f g scope j ((X.mg "__name__").getD .none) a h):=λb u e=>by
   by_cases U:b=a
   .subst U;rw[ja] at e;cases e;exact⟨jM _ dN,⟨r,jM _ dN⟩⟩
   .rw[jb U] at e;by_cases L:b=P
    .subst L;rw[N] at e;cases e;refine⟨_,tq,_,J,y,?_,λO cv z=>?_⟩
     .rw[KI];exact vY _ Y
     .rw[KI] at z;rcases AN _ Y z with z|z
      .obtain⟨x,ob,u,vs,t,r1,r2,r3,r4⟩:=hm O cv z;exact⟨x,ob,u,vs,t,r1,up _ _ r2,r3,r4⟩
      .exact⟨a,r,_,vs,t,z,ja,dq,hq⟩
    .refine(I.hok b u e).stay (λd w hd q=>p d w (λz=>?_) q) (λd q=>up d _ q) (λd xs q=>up d _ q) λd _ _ q=>up d _ q;subst z;rcases hd with z|z
     .exact L z.symm
     .rw[N] at z;cases z
  have I1:Inv X i m (upd H a<|.frz r<|.own 0) {s with heap:=v.push<|kla_obj "<lambda>" (X.env.qual++"<lambda>") f g scope j ((X.mg "__name__").getD .none) a h,toks:=D}:=I.call (g':=s.gens) (d':=s.drawn) (t':=D) un V I.bare λb U=>absurd U (by simp);refine k _ _ _ I1 up ⟨⟨_,a,h,kc _ rfl,r,_,vs,t,ja,dq,hq⟩,?_⟩ (λb o e n=>p b o (Z b n) e) (λb o e n=>un.free b o e n<|by simp) (Su<|sD<|Fy G x);rw[jb<|ot x];exact I.hok.fresh<|sD<|Fy G x
end
def AH(q:ax)(scope:jL)(L fl:iu)(cd:iK)(a:kU):Env:=
 newEnv scope L am a (q++".<locals>.") (Y fl) cd I gQ
def tE(CX:CXT)(P:iX)(w:iR)(K:Frag)(d:ll)(base:iT)(N:je)(q:ax)(scope:jL)(fl:iu)(cd:iK)(b:kU)(A:iU)(a:List d1)(s:iC)(U:Hp)(E:XK):Cx where
 prog:=P
 w:=w
 K:=K
 mg:=d
 base:=base
 A:=A.deeper<|AH q scope s.heap.objs.size fl cd b
 N:=N
 s₀:=s
 H₀:=U
 env:=AH q scope s.heap.objs.size fl cd b
 outer:=a
 stack:=AH q scope s.heap.objs.size fl cd b::a
 ex:=[]
 calm:=J
 fn:=λ_=>C
 pn:=[]
 xe:=λe h=>ag (ah P w) (A.deeper<|AH q scope s.heap.objs.size fl cd b) (TD (AH q scope s.heap.objs.size fl cd b) e) (λ_ c=>CX a U s E e c) (λg c=>CX a U s E g c) h
structure LamScope(scope:jL):Prop where
 kind:scope.kind= .function
 co:scope.isCoroutine=Zy
 gen:scope.isGenerator=Zy
 cell: ∀y∈scope.names,y.2≠ .cell
structure LamCells(N:je)(scope:jL)(b7:kU)(σ:St)(H:Hp)(h:iT):Prop where
 inj: ∀x y c,b7.lookup x=Zv c->b7.lookup y=Zv c->x=y
 has: ∀x,scope.names.lookup x=Zv .free-> ∃c,b7.lookup x=Zv c
 cell: ∀x c,b7.lookup x=Zv c->(∃v,h.IsCell c v)/\H c=Zw
 val: ∀(i:Nat) (x:ax) (v:V),N[i]?=Zv x->σ[i]?=Zv (Zv v)->scope.names.lookup x=Zv .free/\ ∃c u,b7.lookup x=Zv c/\h.IsCell c (Zv u)/\RelV v u
 len:(ZB σ)=(ZB N)
section
variable {CX:CXT}{P:iX}{w:iR}{K:Frag}{g:ll}{base:iT}{N:je}{q:ax}{scope:jL}{fl:iu}{cd:iK}{d:kU}{A:iU}{a:List d1}{s:iC}{H:Hp}{E:XK}{f:St}
def Rt(S:LamScope scope)(hd:A.handled=I)(e:Env0 P w K g base A a s H)(U:LamCells N scope d f H s.heap){h1:iT}{t1:Nat}(l:h1.Ns s.heap.objs.size (λ_=>I))(hk: ∀b o,s.heap.get? b=Y o->h1.get? b=Y o):
  Inv (tE CX P w K g base N q scope fl cd d A a s H E) [] f H {s with heap:=h1,toks:=t1}:=by
 have k: ∀b:iu,b∉(tE CX P w K g base N q scope fl cd d A a s H E).ex:=λb z=>absurd (show b∈([]:List iu) from z) (by simp)
 refine⟨⟨e.mod,S.kind,rfl,rfl,jQ _,U.inj,λy j=>?_,λy c z _=>absurd z<|by simp[tE],λ_=>hd,Lw e.frames,.inr ⟨rfl,rfl⟩,λb z=>absurd z<|k b,e.bs,e.bsz,λb _ _=>k b,λb z=>absurd z<|k b,e.funs,e.frf⟩,
  rfl,e.bare,Un.kept hk,⟨_,l,λi y v h1 m _=>?_⟩,λy c h=>?_,e.hok.fresh<|jQ _,λy c h=>(U.cell y c h).2,λp x=>absurd (show p∈([]:List (iu×e6)) from x)<|by simp,e.hok.kept hk,U.len⟩
 .have j:scope.names.lookup y=Y .cell\/scope.names.lookup y=Y .free:=j;rcases j with j|j
  .exact absurd Zz (S.cell _ (qh j))
  .exact U.has y j
 .obtain⟨t,c,u,n,B,r⟩:=U.val i y v h1 m;exact⟨u,r,.inr ⟨.inr t,c,n,B.keeps hk⟩⟩
 .obtain⟨⟨v,hv⟩,_⟩:=U.cell y c h;exact⟨v,hv.keeps hk⟩
def Rj{h:c8}{c:iI}{k:Nat}{t:TE}{Q:VK}(S:LamScope scope)(n:Room (k+1) A)(m:Env0 P w K g base A a s H)(C:LamCells N scope d f H s.heap)(L:LamAt q h c scope d H s.heap fl)
  (m9: ∀B i z,fm (kla_fn "<lambda>" q h c scope d B (.ref i) z) ⟨[],[]⟩=pure [])
  (Y: ∀i:iu,Room k (A.deeper<|AH q scope s.heap.objs.size fl (.ref i) d)->PE (tE CX P w K g base N q scope fl (.ref i) d A a s H E) c t)(ht:t f H Q):
  cU (ah P w) A (.call (.ref fl) ⟨[],[]⟩) (CR CX a P w H s Q E) s:=by
 obtain⟨B,i,z,D,V,u,vs,tk,h1,M,U⟩:=L.fn;have R:s.heap.CodeRec (.ref i) q:=⟨i,V,vs,tk,rfl,(m.hok i _ h1).1,M,U⟩
 have r:s.heap.NoLimit:=m.mod.nolimit.keeps λb o e=>(m.bs b o e).1;refine kla_callFunE n.depth D Zz S.co S.gen Zz R ?_;rw[m9];refine iM<|wpAny_newFunctionEnv S.cell (by intro y F;simp at F) (λl G O=>⟨r.fresh _ O,?_⟩) S.kind;show cU _ _ (.expr c<|AH q scope s.heap.objs.size fl (.ref i) d) _ _;have j: ∀b o,s.heap.get? b=Zv o->l.get? b=Zv o:=λb o e=>O.extBut b o (jF<|jN e)<|jM _ e;have I:=Rt (CX:=CX) (q:=q) (fl:=fl) (cd:= .ref i) (E:=E) (t1:=s.toks+([]:List (ax×iK)).length) S n.hd m C (by simpa using G) j;refine kla_codeExpr<|ou (Y i (n.deeper _) [] _ f H Q I ht) (λv Z p=>?_) λe Z p=>p;obtain⟨x,T,J,X,W⟩:=p;exact⟨x,T,J.os,J.bare,J.base,J.hok,X,W⟩
end
open PySem.Calls Builtin Builtin.ObjectAttr Builtin.Getset_descriptor
structure ExcK(K:Frag)(C:iu):Prop where
 ga:findIn K (.ref C) "__getattribute__"=Zv (Zv<|.builtin "BaseException.__getattribute__")
 gb:findIn K (.ref C) "__getattr__"=Zv Zw
 mrB:mroIn K C (.type "BaseException")=Zv Zx
 dct:hasDictIn K C=Zx
 fnd:findIn K (.ref C) "__class__"=Zv (Zv<|.builtin "object.__class__")
 spc:specialIn K (.builtin "object.__class__") "__get__"=Zv (Zv<|.builtin "getset_descriptor.__get__")
 tks:takesIn K (.builtin "object.__class__")=Zv Zx
 mro:mroIn K C (.type "object")=Zv Zx
section
variable {K:Frag}{C x:iu}{o:e6}
def Ol{M:gA}{h:iT}(Z:ExcK K C)(X:K.In h):Looks M h (find (.ref x) (.ref C) "__class__") (.bind (.builtin "getset_descriptor.__get__")<|.builtin "object.__class__"):=by have a:=looks_takesIn (M:=M) X Z.tks;exact(looks_findIn X Z.fnd).andThen ((show Looks M h (getOf<|Y<|.builtin "object.__class__") _ from looks_specialIn X Z.spc).andThen<|(show Looks M h (dataDescriptor? (Y<|.builtin "object.__class__")<|Y<|.builtin "getset_descriptor.__get__") (Y (.builtin "getset_descriptor.__get__",.builtin "object.__class__")) from a.andThen .now).andThen<|Looks.tag .now)
def NU(Z:ExcK K C)(v:o.cls= .ref C):KitX K (.ref x) (.ref C) λh=>h.get? x=Zv o:=by
 have ty: ∀(M:gA) (h:iT),h.get? x=Zv o->Looks M h (lf<|.ref x) (.ref C):=λM h e=>v▸(Looks.ld e).andThen .now;obtain⟨r,f,_⟩:=any_some Z.dct;unfold clsIn at f;split at f
 case h_2=>cases f
 rename_i U Y p P i;refine⟨λM h _ e=>ty M h e,λM h X _=>?_,λh I D B n V X m=>?_,λ{a w A E Q s} X e k=>?_⟩
 .intro L N O S H q;unfold isType loadHead;exact iz<|wpAny_loadPart (H _ _ (X _ _ i))<|iM q
 .refine nw.mpr λq=>?_;have e:C=I:=Value.ref.inj<|Fo.mp q;subst e;have z:=(X _ _ i).symm.trans m;cases z
 .obtain⟨y,g,d,t,os⟩:=s;have T0:=ty (ah a w) y e;have j:=looks_findIn (M:=ah a w) X Z.ga;have l:=looks_findIn (M:=ah a w) X Z.gb;have T:=Ol (x:=x) (M:=ah a w) Z X;have G:=looks_mroIn (M:=ah a w) X Z.mro;unfold Gc getAttrBy? getAttrBy;refine iz<|wpAny_mkText<|iz<|sd<|lM<|iz<|T0.at<|iz<|j.at ?_;have J:=looks_mroIn (M:=ah a w) X Z.mrB;have u:(cS "BaseException.__getattribute__"==cS "object.__getattribute__")=Zy:=by decide+kernel
  show ag _ _ (if onTheHeap (bg C)&&cS "BaseException.__getattribute__"==cS "object.__getattribute__" then _ else z7 _ _ _ _ _ _) _ _ _;rw[jc<|by rw[u];simp];unfold z7;refine iz<|(show Looks _ _ (hookBefore<|.ref C) Zw from l).at<|iz<|sd<|lM ?_;show ag _ _ (IP (.builtin "BaseException.__getattribute__") (.ref x)<|.str "__class__" _) _ _ _;unfold IP;rw[show bindSpecial (.builtin "BaseException.__getattribute__") (.ref x)=pure (.builtin "BaseException.__getattribute__",[.ref x]) from VI.ga.bind _];refine iz<|iM<|zv<|Fx VI.ga.plain F.entry_bexc_ga ?_;have hk:builtinKind "BaseException.__getattribute__"=Zv .slot:=by decide+kernel
  have b:SI "BaseException.__getattribute__"=Zv ("BaseException","__getattribute__"):=by decide+kernel
  have R:=F.args_bexc_ga (.ref x)<|.str "__class__" t;simp only[gi,hk,b];refine iz ?_;unfold tz
  repeat lk
  refine wpAny_run (h:=Zw) (c:= .call (.builtin "getset_descriptor.__get__") ⟨[.builtin "object.__class__",.ref x,.ref C],[]⟩) ?_;refine Fx KF.slot_gs.plain KF.entry_gs<|KF.slot_gs.check _ _ _ _ _ _ _ _ (show eP _ (.builtin "object.__class__") "getset_descriptor" from KF.type_class) (KF.args_gs _ _ _) ?_;unfold bc.«getset_descriptor.__get__» descrGet;rw[dga_obj];refine iz<|iM ?_;unfold descrGetter descrCheckInstance descrNameAndClass tz;simp only[KF.owner_class]
  repeat lk
  refine⟨Code.quiet_builtin _ (by decide+kernel),rq KF.entry_class ?_⟩;unfold bc.«object.__class__» shownTypeOf
  repeat lk
  exact k
end
section
variable {X:Cx}{f:jq}{h g:St}{H:Hp}{s:iC}{a:iu}{o:e6}{j:iT}
def Inv.track(U:Inv X f h H s)(L:H a=I)(B:X.s₀.heap.get? a=I)(r:s.heap.get? a=Y o)(T: ∀v,o.data≠ .cell v)(E:a≠X.env.locals)(O: ∀p∈X.pn++f,p.1≠a):Inv X f h (upd H a<|.frz o<|.own 0) s:=by
 have up: ∀b u,H b=Y u->upd H a (.frz o<|.own 0) b=Y u:=λb u e=>by rw[jb<|kP e L];exact e
 refine⟨U.ok,U.os,U.bare,⟨U.base.keep,U.base.slot,λb k e n i=>?_,U.base.there,λb y e=>up _ _ (U.base.tups b y e),λb k u e=>up _ _ (U.base.frzs b k u e),λb Q e=>?_⟩,U.loc,U.cell,?_,λx c i=>?_,λp w=>?_,λb u e=>?_,U.len⟩
 .rw[jb (λz=>by subst z;rw[B] at e;cases e)];exact U.base.free b k e n i
 .obtain⟨m,d⟩:=U.base.tbls b Q e;exact⟨m,up _ _ d⟩
 .rw[jb<|ni E];exact U.free
 .rw[jb λz=>?_];exact U.freeC x c i;obtain⟨v,k,d,l⟩:=U.cell x c i;subst z;rw[r] at d;cases d;exact T v l
 .obtain⟨d,l,A⟩:=U.pin p w;exact⟨d,by rw[jb<|O p w];exact l,A⟩
 .by_cases t:b=a
  .subst t;rw[ja] at e;cases e;exact⟨r,⟨o,r⟩⟩
  .rw[jb t] at e;exact(U.hok b u e).stay (λ_ _ _ q=>q) (λc q=>up c _ q) (λc y q=>up c _ q) λc _ _ q=>up c _ q
def Inv.names(I:Inv X f h H s){t':Nat}(L:aI X.env.locals s.heap j)(U:(ZB g)=ZB h)(w: ∀(i:Nat) v,g[i]?=Zv (Zv v)->h[i]?=Zv (Zv v))
  (Y: ∀m,s.heap.Ns X.env.locals m-> ∃B,j.Ns X.env.locals B/\ ∀(i:Nat) x v,X.N[i]?=Zv x->g[i]?=Zv (Zv v)->B x=m x):Inv X f g H {s with heap:=j,toks:=t'}:=by
 obtain⟨m,D,G⟩:=id I.loc;obtain⟨B,T,E⟩:=Y m D;have oth: ∀b l,b≠X.env.locals->s.heap.get? b=Zv l->j.get? b=Zv l:=λb l n e=>(L.2 b n).trans e;have O: ∀{b l},X.s₀.heap.get? b=Zv l->b≠X.env.locals:=λe=>jF<|nj (jN e) I.ok.above;refine⟨I.ok,I.os,I.bare,⟨λb l e n C A=>oth b l (O e)<|I.base.keep b l e n C A,λb l e n C A=>?_,I.base.free,λb l e A=>?_,I.base.tups,I.base.frzs,I.base.tbls⟩,⟨B,T,λi x v t Q J=>?_⟩,λx c e=>?_,I.free,I.freeC,λp F=>?_,λb u e=>?_,U.trans I.len⟩
 .obtain⟨R,t⟩:=I.base.slot b l e n C A;exact⟨R,oth b _ (O e) t⟩
 .obtain⟨P,t⟩:=I.base.there b l e A;exact⟨P,oth b _ (O e) t⟩
 .obtain⟨u,r,q⟩:=G i x v t (w i v Q) J;refine⟨u,r,?_⟩;rcases q with⟨k,z⟩|⟨k,c,z,y⟩
  .exact .inl ⟨k,(E i x v t Q).trans z⟩
  .exact .inr ⟨k,c,z,y.sameBut L<|I.cne x c z⟩
 .obtain⟨v,z⟩:=I.cell x c e;exact⟨v,z.sameBut L<|I.cne x c e⟩
 .obtain⟨e,n,ne,K,d⟩:=I.pin p F;exact⟨oth _ _ ne e,n,ne,K,d⟩
 .refine(I.hok b u e).stay (λc v M q=>oth c v (λz=>?_) q) (λ_ q=>q) λ_ _ q=>q;subst z;rcases M with z|z
  .subst z;rw[I.free] at e;cases e
  .rw[I.free] at z;cases z
def Cx.mark(X:Cx)(e:iK)(E:jn):Cx:={X with A:=X.A.mark<|Y e,calm:=C,xe:=E}
def Inv.mark(U:Inv X f h H s)(e:iK)(E:jn):Inv (X.mark e E) f h H s:=
 ⟨⟨U.ok.mod,U.ok.kind,U.ok.glob,U.ok.blt,U.ok.above,U.ok.inj,U.ok.has,U.ok.cab,(λz=>by cases z),U.ok.frames,U.ok.stk,U.ok.exf,U.ok.bs,U.ok.bsz,U.ok.noex,U.ok.exfs,U.ok.funs,U.ok.frf⟩,U.os,U.bare,U.base,U.loc,U.cell,U.free,U.freeC,U.pin,U.hok,U.len⟩
def Inv.unmark{e:iK}{E:jn}(U:Inv (X.mark e E) f h H s)(hd:X.calm=J->X.A.handled=I):Inv X f h H s:=
 ⟨⟨U.ok.mod,U.ok.kind,U.ok.glob,U.ok.blt,U.ok.above,U.ok.inj,U.ok.has,U.ok.cab,hd,U.ok.frames,U.ok.stk,U.ok.exf,U.ok.bs,U.ok.bsz,U.ok.noex,U.ok.exfs,U.ok.funs,U.ok.frf⟩,U.os,U.bare,U.base,U.loc,U.cell,U.free,U.freeC,U.pin,U.hok,U.len⟩
end
def ObjOk.there{P:iX}{w:iR}{U:Hp}{h:iT}{a:iu}{o:HO}(x:ObjOk P w U h a o): ∃c,h.get? a=Y c:=by
 cases o with
 |lst d=>obtain⟨_,_,_,_,e⟩:=x;exact⟨_,e⟩
 |tup d=>obtain⟨_,_,_,c,e,_⟩:=x;exact⟨_,e⟩
 |dK b=>obtain⟨_,_,_,_,o,_,_,e,_⟩:=x;exact⟨_,e⟩
 |dT b=>obtain⟨_,_,_,_,o,_,_,e,_⟩:=x;exact⟨_,e⟩
 |set S n=>obtain⟨o,_,_,_,e,_⟩:=x;exact⟨_,e⟩
 |stt k=>obtain⟨_,_,_,e,_⟩:=x;exact⟨_,e⟩
 |ins T g fs=>obtain⟨_,_,_,e,_⟩:=x;exact⟨_,e⟩
 |own y=>exact x
 |xd fs=>obtain⟨_,⟨_,_,_,e,_⟩,_⟩:=x;exact⟨_,e⟩
 |rng lo i=>obtain⟨_,_,_,e⟩:=x;exact⟨_,e⟩
 |frz c u=>exact⟨_,x.1⟩
 |tbl j=>obtain⟨_,_,_,_,e,_⟩:=x;exact⟨_,e⟩
 |met f y=>exact⟨_,x⟩
 |ext l=>exact x.2.1
section
variable {X:Cx}{c:jq}{g:St}{H d:Hp}{s s':iC}{C a:iu}{n B h':iT}{F:kI}{r:iK}
def Fly.inv(U:Inv X c g H s)(f:Fly X.prog X.w X.stack H s C d a s' n B F)(h:B.StaysIn h')(j:n.UpToSlots h'):Inv X c g d {s' with heap:=h'}:=by obtain⟨un,e⟩:=f.end U.frsOk h j;exact U.call' (s':={s' with heap:=h'}) f.os un e f.bare λb i=>absurd i (by simp)
def Fly.fresh(U:Inv X c g H s)(hex:X.ex=[])(f:Fly X.prog X.w X.stack H s C d a s' n B F):d a=I/\X.s₀.heap.get? a=I/\s.heap.get? a=I:=by
 have h:s.heap.get? a=I:=by
  cases e:s.heap.get? a with
  |none=>rfl
  |some o=>obtain⟨i,b⟩:=f.un.there a o e (by simp);rw[f.ne] at b;cases b
 refine⟨?_,?_,h⟩
 .cases e:d a with
  |none=>rfl
  |some o=>obtain⟨j,z⟩:=(f.hok a o e).there;rw[f.ne] at z;cases z
 .cases e:X.s₀.heap.get? a with
  |none=>rfl
  |some o=>obtain⟨i,b⟩:=U.base.there a o e (by rw[hex];simp);rw[h] at b;cases b
def YG{E:XK}{e:iK}{xr xx t:ax}{CR:iu}{i j:Nat}{D:Ends}{p4 p5 p6 p7 p8:bI}(m5:X.stack=X.env::X.outer)(ee:X.env.frame=Y X.env.locals)(hex:X.ex=[])(I:Inv X c g H s)(h:CXx X.prog X.w X.stack H s E e s')
  (hg:Gl X xr)(hm:X.mg xr=Y (.ref CR))(i8:(xr==("__debug__":ax))=Zy)(cN: ∀C d,E (.ref C) Zw d->exmOne X.K (.ref C) (.ref CR)=Y Zx)
  (hN:X.N.Nodup)(hi:X.N[i]?=Y xx)(hj:X.N[j]?=Y t)(m8:i≠j)(lx:X.env.scope.names.lookup xx=Y .local)(ln:X.env.scope.names.lookup t=Y .local)(gM:(t==("__debug__":ax))=Zy)(gO:(t==("__classdict__":ax))=Zy)
  (bC:bJ (.Name t p6) (Y<|.Name xx p5) p7.line X.env=pure Zy)
  (k: ∀C d a o,E (.ref C) Zw d->d a=Zw->o.cls= .ref C->D.nx ((g.set j Zw).set i<|Y<|.ref a) (upd d a<|.frz o<|.own 0)):
  ag (ah X.prog X.w) X.A (i4 e X.env) (λ_ U=>ag (ah X.prog X.w) X.A (setFlight e Zw) (λ_ Y'=>ag (ah X.prog X.w) X.A (handleBy e X.env [.ExceptHandler (Y<|.Name xr p4) (Y t) [.Assign [.Name xx p5] (.Name t p6) p7] p8]) (SP X c D) X.xe Y') X.xe U) X.xe s':=by
 obtain⟨C,d,a,n,B,F,rfl,f,q⟩:=h;obtain⟨r,V⟩:=f.fl;obtain⟨n1,n2,n3⟩:=f.fresh I hex;rw[m5] at V;have fj:i<(ZB g):=by rw[I.len];exact(rT.mp hi).1
 have gx:j<(ZB g):=by rw[I.len];exact(rT.mp hj).1
 have bK:(X.env.scope.kind== .class||(X.env.scope.kind== .module&&X.env.locals !=X.env.globals))=Zy:=by rw[I.ok.kind];rfl
 refine wpAny_looks_onW (I.ok.frames.trans<|by rw[m5]) ee V λh2 J bj=>?_;refine wpAny_landsW J λh3 hJ dz=>?_;have I3:Inv X c g d {s' with heap:=h3}:=f.inv I hJ.1<|f.up.trans<|bj.trans dz;obtain⟨ob3,he3,hc3⟩:=hJ.there;refine wpAny_handleBy_cons (codeAny_handlers_test ?_) (by intro q;cases q);refine wx (X:=X.mark (.ref a) λ_ _=>False) (I3.mark _ _) hg hm ?_ i8;refine(exm_one (M:=ah X.prog X.w) I3.kIn (hc3▸(Looks.ld he3).andThen .now)<|cN C d q).here ?_;refine codeAny_handlers_suite_as ?_;obtain⟨g1,g2,g3,g4⟩:=id hJ;refine wpAny_setFlight_noneW g1 g3 g4 λh4 k1 k2 k3 k4=>?_;have up4:h3.UpToSlots h4:=λb o hb W=>⟨o.slots,k4 b o hb W⟩
 have I4:Inv X c g d {s' with heap:=h4}:=f.inv I k1<|f.up.trans<|bj.trans<|dz.trans up4;obtain⟨oe,vs,T,oT,ts,he,⟨y,_⟩,hd,_⟩:=id k3
 have I5:Inv X c g (upd d a<|.frz oe<|.own 0) {s' with heap:=h4}:=by
  refine I4.track n1 n2 he (λv z=>by rw[hd] at z;cases z) (λz=>?_) λp hp z=>?_
  .have:=I.lt;obtain⟨m,⟨o,_,_,ho,_⟩,_⟩:=id I.loc;rw[<-z,n3] at ho;cases ho
  .obtain⟨S,_⟩:=I.pin p hp;rw[z,n3] at S;cases S
 refine zM I5 hN hj (.inl ln) (v:= .ref a) Zz (λs6 I6=>?_)<|.inr ln;have ps:=λE0:iK->Shared->Prop=>qr (X:=X.mark (.ref a) E0) (MS (X:=X.mark (.ref a) E0) hN hi (.inl lx) (Aa (X:=X.mark (.ref a) E0) hj (.inl ln) gM gO) bC<|.inr lx)<|Ii (X:=X.mark (.ref a) E0);refine thn (ps _ c s6 _ _ {nx:=λP H7=>P=(g.set j<|Y<|.ref a).set i (Y<|.ref a)/\H7=upd d a (.frz oe<|.own 0),rt:=λ_ _=>False} (I6.mark (.ref a) _) ⟨.ref a,by rw[ox gx],rfl,rfl⟩) λV s7 Z=>?_
 cases V with
 |ret u=>obtain⟨_,_,_,_,_,z⟩:=Z;exact z.elim
 |brk=>obtain⟨_,_,_,z⟩:=Z;exact z.elim
 |cont=>obtain⟨_,_,_,z⟩:=Z;exact z.elim
 |next=>
  obtain⟨P,H7,R,rfl,rfl⟩:=Z;have R:=R.unmark I.ok.hd;obtain⟨m,W,_⟩:=id R.loc;refine iz<|wpAny_bindName<|Ly ln W (λh₁ L Q=>?_) bK;unfold unbindBehindTheSuite;refine zj ?_;unfold unbindName;refine iz<|W3<|iz ?_;unfold deleteName;have ln':X.env.kindOf t=Y .local:=ln;simp only[ln',bK];rw[jc<|by decide];refine iz<|wpAny_nsDel_keeps L λh₂ v₂ O G=>?_;simp only[kG,eW,oJ,jz,jP];refine iM<|W3 ⟨(g.set j Zw).set i<|Y<|.ref a,_,R.names (Q.trans G) (by simp) (λl v z=>?_) λm0 dR=>?_,k C d a oe q n1 y⟩
  .by_cases hl:l=i
   .subst hl;rw[ox<|by simpa using fj] at z ⊢;exact z
   .rw[oM<|ni hl] at z ⊢;by_cases v8:l=j
    .subst v8;rw[ox gx] at z;cases z
    .rw[oM<|ni v8] at z ⊢;exact z
  .refine⟨_,O,λl x v S e2=>?_⟩
   have hx:x≠t:=λz=>by subst z;have:=Ai hN S hj;subst this;rw[oM m8,ox gx] at e2;cases e2
   simp only[hx,jP];obtain⟨o1,es1,ep1,z1,z2,_,z3⟩:=id W;obtain⟨o2,es2,ep2,y1,y2,_,y3⟩:=id dR;rw[z1] at y1;cases y1;rw[z2] at y2;cases y2;exact(z3 x).symm.trans (y3 x)
end
end L2
namespace PX
open L2 PySem.SeqAt PySem.W
abbrev XS:=Dn->Option ax
def tZ(K:iW)(f:ll)(E:XK)(x:XS):L2.St->Hp->Prop:=λe U=> ∃b T c,ER K U T e b/\(∀a,¬OwnA e b a)/\x b=Y c/\ ∀d Q,(∀a o,U a=Y o->d a=Y o)->f c=Y (.ref Q)->E (.ref Q) I d
def PZ(X:Cx)(E:XK)(st:bD)(x:XS):Prop:=PS X st λ_=>tZ X.K X.mg E x
def PZs(X:Cx)(E:XK)(st:List bD)(x:XS):Prop:=PSs X st λ_=>tZ X.K X.mg E x
def PZE(X:Cx)(E:XK)(e:iI)(x:XS):Prop:=PE X e λa U _=>tZ X.K X.mg E x a U
def spR(K:iW)(f:ll)(h:List D->Option ax):Sp:=λg U _ E=> ∃T e c,ER K U T (g.map Y) ((e.map λd=>(d,C)).map Y)/\h e=Y c/\ ∀Q b,(∀a o,U a=Y o->b a=Y o)->f c=Y (.ref Q)->E (.ref Q) I b
def xcF(n np:Nat)(x:XS):List D->Option Str:=λa=>if (ZB a)=np/\np<=n then x (((a.map λd=>(d,C)).map Y)++ae (n-np) I) else I
def D9(c:List D->Option ax)(fs:List FO):XS:=λd=>(ki fs d).bind λp=>(kb p.2 p.1).bind λb=>if(b.all λa=>!a.2)=J then c (b.map (·.1)) else I
def Gy(c:ax)(f:F):XS:=λa=>(f a).bind λ_=>Y c
def Hf(a:Dn):Bool:=a.all λx=>match x with
 |some (_,J)=>C
 |_=>J
def LB(f:FS)(x:XS):XS:=λb=>(f b).bind λo=>match o with
 | .nx a=>if Hf a=J then x a else I
 |_=>I
def zIf(t:FT)(x y:XS):XS:=λa=>(t a).bind λp=>if Hf p.2=J then(if p.1=J then x p.2 else y p.2) else I
def zNo:XS:=λ_=>I
def DL{b:Dn}(h:Hf b=J)(c:L2.St)(a:iu): ¬OwnA c b a:=λU=>by
 obtain⟨i,d,h1,_⟩:=U
 have:=mY.mp h _ (mG h1);simp at this
section
variable {X:Cx}{P:iX}{w:iR}{i:List d1}{L:Hp}{s0:iC}{E:XK}{A:jW}{st:bD}{j a b:List bD}{x y:XS}{e:iI}{g:bI}
def Xz:PZs X E j zNo:=λc s d T D U h=>by obtain⟨_,_,_,_,_,e,_⟩:=h;cases e
def Uo:PSs X j λ_ _ _=>False:=λ_ _ _ _ _ _ h=>h.elim
def Gx(h:PZ X E st x):PZs X E (st::j) x:=PSs.imp' (qr h Uo) λ_ _ _ h=>h
def SV{f:FS}(h1:PSX X A (λ_=>True) (λ_=>I) st f)(r:PZs X E j x):PZs X E (st::j) (LB f x):=PSs.imp' (qr h1 r) λD B U h=>by
 obtain⟨u,T,c,E0,no,e,k⟩:=h;obtain⟨o,h1,e⟩:=ir e
 cases o with
 |nx d=>
  have e:(if Hf d=J then x d else I)=Y c:=e;split at e
  case isFalse=>cases e
  rename_i fz;exact⟨u,T,_,E0,⟨λ_ _ _=> .inl trivial,λ_ z=>absurd H z⟩,h1,λl v p m=>⟨d,T,c,m,DL fz l,e,λn Q t s=>k n Q (λa o q=>t a o<|p.kp a o q<|no a) s⟩⟩
 |_=>cases e
def Pn{z:ax}{M:iu}{a:iI}{f:F}{np p:bI}(O:XeOk X P w i L s0 E)(u:X.calm=J)(s:excIn X.K M veB "ValueError.__new__"=J)(l:X.mg z=Y (.ref M))(B:Gl X z)(t:PX X a f)(hd:(z==("__debug__":ax))=C)
  (U:ac [a] X.env=[(C,aE a X.env)]):PZ X E (.Raise (Y<|.Call (.Name z np) [a] [] p) I g) (Gy z f):=PS.imp' (MU O u s l B t hd U) λD G N h=>by
 obtain⟨Q,T,c,E0,no,e,k⟩:=h;obtain⟨⟨r,d⟩,h1,e⟩:=ir e;cases e;exact⟨Q,T,r,d,E0,h1,λv m n=>k m M (λa o q=>n.1.kp a o q<|no a) l⟩
def XA{c:iI}{f:FT}(v:PTX X c f)(s:PZs X E a x)(u:PZs X E b y):PZ X E (.If c a b g) (zIf f x y):=PS.imp' (Sn v s u) λD l N h=>by
 obtain⟨Q,T,c,E0,no,e,k⟩:=h;obtain⟨⟨t,d⟩,h1,e⟩:=ir e;dsimp only at e;split at e
 case isFalse=>cases e
 rename_i fz;refine⟨Q,T,t,d,E0,h1,λp r m=>?_⟩;have fin: ∀z:XS,z d=Y c->tZ X.K X.mg E z l p:=λz U=>⟨d,T,c,m,DL fz l,U,λn M O B=>k n M (λa o q=>O a o<|r.kp a o q<|no a) B⟩
 cases t with
 |true=>exact U1<|fin x (by simpa using e)
 |false=>exact U2<|fin y (by simpa using e)
def SY(h:PZE X E e x)(c:bJ e I g.line X.env=pure C):PZ X E (.Expr e g) x:=PS.imp' (Ij h c) λ_ _ _ h=>h
variable {k:Nat}{f:iu}{u:mD}{n:je}{m:List D->Option ax}{l:kr}{fs:List FO}{z:ax}{p:bI}
def S0(xk:XeOk X P w i L s0 E)(F:FnOk X.prog X.w X.K X.mg X.base (CXx P w) k f u n (spR X.K X.mg m))(hr:Room k X.A)(hg:Gl X z)(hm:X.mg z=Zv (.ref f))(hk:cw X.K (.ref f)=Zx)(hb:Binds X.K u n [])
  (t:PA X (e::l) (tA X.K fs))(i8:(z==("__debug__":ax))=Zy)(he:ac (e::l) X.env=(Zy,aE e X.env)::ac l X.env)(U:(aP g<|ac l X.env).any (·.1)=Zy):
  PZE X E (.Call (.Name z p) (e::l) [] g) (D9 m fs):=PE.imp' (Dj F hr hg hm hk hb (.nil) xk.pass t i8 he U) λσ H Q h=>by
 obtain⟨δ,T,c,E0,no,e,V⟩:=h;obtain⟨⟨os,I⟩,h1,e⟩:=ir e;obtain⟨r,G,e⟩:=ir e;dsimp only at e G;split at e
 case isFalse=>cases e
 rename_i R;refine⟨δ,T,os,I,E0,h1,λvs N T1 B=>?_⟩;show spR X.K X.mg m (vs++[]) N Q E;rw[vq]
 have J: ∀a∈r,a=(a.1,Zy):=λa t=>by
  have:=mY.mp R a t;obtain⟨d,f⟩:=a
  cases f with
  |false=>rfl
  |true=>cases this
 have v:r=(r.map (·.1)).map λd=>(d,Zy):=by
  rw[km]
  conv=>lhs;rw[<-ux r]
  exact qd λa t=>J a t
 have nd: ∀(os:List Opd) (s:List (D×Bool)),(∀a∈s,a=(a.1,Zy))->jl os s=[]:=λos=>by
  induction os with
  |nil=>intro s _;cases s<;>simp[jl]
  |cons o os ih=>
   intro s h
   cases s with
   |nil=>simp[jl]
   |cons a s=>have Y:=h a jT;obtain⟨d,f⟩:=a;cases Y;cases o<;>simp[jl,ih s λa t=>h a<|jX _ t]
 have O:=yX E0 B G (by rw[nd os r J];exact pJ);rw[v] at O;exact⟨_,r.map (·.1),c,O,e,λC M Z S=>V M C (λa o q=>Z a o<|B.keep.kp a o q<|no a) S⟩
end
def Rv{P:iX}{w:iR}{K:iW}{j:ll}{base:iT}{x qual:ax}{st:bD}{f:iu}{n:mD}{N b:je}{k:Nat}{t:XS}(F:Fun K x qual st f n)(S:FnScope N b (iB st))
  (G: ∀(i:iK) (A:iU) (a:List d1) (s:iC) (H:Hp) (E:XK),Room k (A.deeper<|aZ qual (iB st) s.heap.objs.size f i)->PZs (pZ (CXx P w) P w K j base N qual (iB st) f i A a s H E) E (lJ st) t):
  FnOk P w K j base (CXx P w) (k+1) f n b (spR K j<|xcF (ZB N) (ZB b) t):=by
 obtain⟨U,Y,kV,v,D,M,i,ct,R,e,lk,J⟩:=F.ex;subst e;refine Oj lk J S (λr H Q E h=>?_) λA a s H r Q E I h=>?_
 .obtain⟨T,l,c,E0,e,_⟩:=h;unfold xcF at e;split at e
  case isFalse=>cases e
  rename_i q;have:=E0.len;simp at this;rw[this,q.1]
 .obtain⟨T,l,c,E0,e,L⟩:=h;unfold xcF at e;split at e
  case isFalse=>cases e
  rename_i q;have o:=E0.len;simp at o;refine⟨_,G i A a s H E I,((l.map λd=>(d,Zy)).map Zv)++ae (ZB N-ZB b) Zw,T,c,?_,?_,e,λu C O y=>L C u O y⟩
  .have:=E0.pad (m:=ZB N-ZB b);unfold L2.oy;rw[show (ZB r)=(ZB b) by rw[o,q.1]];exact this
  .refine DL ?_ _;unfold Hf;rw[mY];intro z g;rcases qb.mp g with g|g
   .obtain⟨p,B,rfl⟩:=lZ.mp g;obtain⟨d,_,rfl⟩:=lZ.mp B;rfl
   .rw[(List.mem_replicate.mp g).2]
end PX
namespace L2
open PySem.W
def WX{CX:CXT}{P:iX}{w:iR}{K:Frag}{B:ll}{base:iT}{k:Nat}{f:iu}{j qual:ax}{c:c8}{d:List bD}{scope:jL}{Y kV p pm l ct oc:iK}{U od:Option iu}
  {r9:rY}{N C:je}{A:iU}{a:List d1}{s:iC}{H:Hp}{i:Args}{us:jy}{vs:List V}{Q:VK}{E:XK}(lk:K.lookup f=Zv ⟨oc,od,.func<|fnOf j qual c d scope Y kV p pm U l ct,r9⟩)(l6:codeIn K l qual=Zx)(S:FnScope N C scope)
  (L:Room (k+1) A)(z:Env0 P w K B base A a s H)(hb:fY s (fnOf j qual c d scope Y kV p pm U l ct) i (C.zip us))(r:Vals vs us)(hl:(ZB vs)=ZB C)
  (l3:Room k (A.deeper<|aZ qual scope s.heap.objs.size f l)-> ∃t,PSs (pZ CX P w K B base N qual scope f l A a s H E) d t/\t {nx:=λ_ h=>Q .non h,rt:=Q} (oy N vs) H):
  cU (ah P w) A (.call (.ref f) i) (CR CX a P w H s Q E) s:=by
 have M:K.In s.heap:=z.mod.kin.keeps λb o e=>(z.bs b o e).1;have O:s.heap.NoLimit:=z.mod.nolimit.keeps λb o e=>(z.bs b o e).1
 have D: ∀y∈C.zip us,scope.names.lookup y.1=Zv .local\/(scope.names.lookup y.1=Zv .cell/\((bt (s.heap.objs.size+1) scope.names []).lookup y.1).isSome=Zx):=λ⟨n,v⟩ hy=>by
  rcases S.par n (CQ hy).1 with q|q
  .exact .inl q
  .exact .inr ⟨q,cellsFrom_some _ _ _ (.inl q)⟩
 refine Lr L.depth (M _ _ lk) Zz S.co S.gen Zz (codeRec_of M l6)<|hb _ _ _ _ ?_;refine Lq S.kind D λF W s1 x=>?_;subst W;refine⟨O.keeps x.toInCall.keep,T2 ?_⟩;obtain⟨t,Z,X⟩:=l3<|L.deeper _;have I:Inv (pZ CX P w K B base N qual scope f l A a s H E) [] (oy N vs) H s1:=BH S L.hd z hl r x;refine ou (Z [] s1 (oy N vs) H _ I X) (λR G m=>?_) λe G m=>m
 have fin: ∀{g:St} {h:Hp} {v:V} {u:iK},Inv (pZ CX P w K B base N qual scope f l A a s H E) [] g h G->RelV v u->Q v h->CE a P w H s Q u G:=
  λ{g h v u} J T q=>⟨v,h,J.os,J.bare,J.base,J.hok,T,q⟩
 cases R with
 |ret u=>obtain⟨v,g,h,J,T,q⟩:=m;exact fin J T q
 |next=>obtain⟨g,h,J,q⟩:=m;exact fin (v:=V.non) (u:=au) J Zz q
 |brk=>obtain⟨_,_,_,q⟩:=m;exact aW q
 |cont=>obtain⟨_,_,_,q⟩:=m;exact aW q
section
variable {fs:kI}{N:je}{scope:jL}{d:kU}{j:St}{H g:Hp}{h h':iT}{q:ax}{a:c8}{b:iI}{f:iu}
def LamCells.keep(U:LamCells N scope d j H h)(u:Un fs [] H g h h')(n: ∀x c,d.lookup x=Y c->c∉fs):LamCells N scope d j g h':=by
 have p: ∀{x c v},d.lookup x=Y c->h.IsCell c v->h'.IsCell c v:=λ{x c v} e z=>by obtain⟨o,k,l⟩:=z;exact⟨o,u.keep c o k (U.cell x c e).2 (n x c e)<|by simp,l⟩
 refine⟨U.inj,U.has,λx c e=>?_,λi x v h1 s=>?_,U.len⟩
 .obtain⟨⟨v,o,k,l⟩,y⟩:=U.cell x c e;exact⟨⟨v,p e ⟨o,k,l⟩⟩,u.free c o k y<|by simp⟩
 .obtain⟨t,c,w,m,A,r⟩:=U.val i x v h1 s;exact⟨t,c,w,m,p m A,r⟩
def LamAt.keep(L:LamAt q a b scope d H h f)(u:Un fs [] H g h h')(n:f∉fs):LamAt q a b scope d g h' f:=by obtain⟨m,c,k,e,l,w,o,t,h1,i⟩:=L.fn;exact⟨⟨m,c,k,u.keep f _ e L.un n (by simp),l,w,o,t,u.frzs _ _ _ h1,i⟩,u.free f _ e L.un (by simp)⟩
end
section
variable {X:Cx}{N:je}{scope:jL}{b7:kU}{σl:St}{q:ax}{params:c8}{body:iI}{fl:iu}{k:Nat}{t:XK->TE}
structure LamIn(X:Cx)(N:je)(scope:jL)(b7:kU)(σl:St)(q:ax)(params:c8)(body:iI)(fl:iu)(k:Nat)(t:XK->TE):Prop where
 sc:LamScope scope
 cel:LamCells N scope b7 σl X.H₀ X.s₀.heap
 lam:LamAt q params body scope b7 X.H₀ X.s₀.heap fl
 nfl:fl∉X.fs
 ncl: ∀x c,b7.lookup x=Zv c->c∉X.fs
 bnd: ∀pm c' n4,fm (kla_fn "<lambda>" q params body scope b7 pm (.ref c') n4) ⟨[],[]⟩=pure []
 run: ∀(E:XK) (c':iu) (s:iC) (H:Hp),Room k (X.A.deeper<|AH q scope s.heap.objs.size fl (.ref c') b7)->PE (tE (CXx X.prog X.w) X.prog X.w X.K X.mg X.base N q scope fl (.ref c') b7 X.A X.stack s H E) body (t E)
def Up{g y B b:ax}{CR:iu}{l i j:Nat}{M U Y p4 p5 p6 p7 p8 p9:bI}(L:LamIn X N scope b7 σl q params body fl k t)(m5:X.stack=X.env::X.outer)(ee:X.env.frame=Zv X.env.locals)(hex:X.ex=[])(hr:Room (k+1) X.A)
  (hc:X.N[l]?=Zv g)(vc:Vis X.env.scope g)(dq:(g==("__debug__":ax))=C)(fq:(g==("__classdict__":ax))=C)
  (T:bJ (.Call (.Name g M) [] [] U) Zw Y.line X.env=pure C)
  (hg:Gl X y)(hm:X.mg y=Zv (.ref CR))(i8:(y==("__debug__":ax))=C)
  (hN:X.N.Nodup)(hi:X.N[i]?=Zv B)(hj:X.N[j]?=Zv b)(m8:i≠j)(lx:X.env.scope.names.lookup B=Zv .local)(ln:X.env.scope.names.lookup b=Zv .local)(gM:(b==("__debug__":ax))=C)(gO:(b==("__classdict__":ax))=C)
  (bC:bJ (.Name b p6) (Zv<|.Name B p5) p7.line X.env=pure C):
  PS X (.Try [.Expr (.Call (.Name g M) [] [] U) Y] [.ExceptHandler (Zv<|.Name y p4) (Zv b) [.Assign [.Name B p5] (.Name b p6) p7] p8] [] [] p9)
   (λD c H'=>c[l]?=Zv (Zv<|.ref fl)/\ ∃E:XK,t E σl H' (λ_ a=>D.nx c a)/\(∀C' a,E (.ref C') Zw a->exmOne X.K (.ref C') (.ref CR)=Zv Zx)/\
    ∀C' a O o,E (.ref C') Zw a->a O=Zw->o.cls= .ref C'->D.nx ((c.set j Zw).set i<|Zv<|.ref O) (upd a O<|.frz o<|.own 0)):=by
 intro p s c H' D I h;obtain⟨W,E,ht,S,hk⟩:=h;have un:Un X.fs [] X.H₀ H' X.s₀.heap s.heap:=by have:=I.base;rwa [hex] at this
 have C1:=L.cel.keep un L.ncl;have L1:=L.lam.keep un L.nfl;refine wpAny_Try_except ?_;refine wh<|FM ?_ I.quiet T;refine sA ?_;refine ou (Aa (X:=X.nox) hc vc dq fq p s c H' (λv a=>v= .ref fl/\a=H') (I.wish _) ⟨.ref fl,W,rfl,rfl⟩) (λf s1 Z=>?_) λ_ _ z=>aW z;obtain⟨v,G,d,rv,rfl,rfl⟩:=Z;cases rv;have d:=d.unwish;have x:Un X.fs [] X.H₀ G X.s₀.heap s1.heap:=by have:=d.base;rwa [hex] at this
 have F:=L.cel.keep x L.ncl;have m:=L.lam.keep x L.nfl;obtain⟨pm,J,n4,e,_⟩:=id m.fn;refine callWith_F0 ⟨_,_,_,_,e⟩<|zv<|uG (Rj (CX:=CXx X.prog X.w) (E:=E) (t:=t E) (Q:=λ_ a=>D.nx c a) L.sc hr d.env0 F m L.bnd (λJ V=>L.run E J s1 G V) ht) λr s2 n=>?_
 cases r with
 |error e=>exact YG m5 ee hex d n hg hm i8 S hN hi hj m8 lx ln gM gO bC hk
 |ok f=>
  cases f with
  |next=>exact aW n
  |brk=>exact aW n
  |cont=>exact aW n
  |ret u=>obtain⟨v,P,R,_,qq⟩:=d.after n;exact zB<|zB ⟨c,P,R,qq⟩
end
end L2
namespace PX
open L2 PySem.SeqAt PySem.W
def sim:D->Bool
 | .non| .bl _| .int _| .str _=>J
 |_=>C
def HV{K c:Frag}{U a:Hp}{O e:AP'}{d:D}{v:V}(h:sim d=J)(r:Rep K U O d v):Rep c a e d v:=by
 cases d with
 |non=>rw[Rep] at r ⊢;exact r
 |bl b=>rw[Rep] at r ⊢;exact r
 |int b=>rw[Rep] at r ⊢;exact r
 |str b=>rw[Rep] at r ⊢;exact r
 |_=>cases h
def Bo(n i:Nat)(fs:FS)(d:D):Option D:=match fs ((ae n I).set i<|Y (d,C)) with
 |some (.rt (r,C) _)=>if sim r=J then Y r else I
 |_=>I
def Kf(e:jU)(f:F)(x:XS)(n i:Nat)(fs:FS)(h:ax->Option Nat):F:=λg=>(kb g<|e.map .slot).bind λb=>if(b.all λa=>!a.2)=J then
  (match f (b.map Y) with
   |some _=>Bo n i fs .non
   |none=>(x<|b.map Y).bind λc=>(h c).bind λU=>Bo n i fs<|.oth (.exc U) [] []).bind λd=>Y ((d,C),g)
 else I
def yV{n i:Nat}{d:D}(c:L2.St)(a:iu): ¬OwnA c ((ae n I).set i<|Y (d,C)) a:=λU=>by
 obtain⟨j,e,h1,_⟩:=U
 by_cases b:j=i
 .subst b;rw[zr] at h1;split at h1
  .split at h1<;>simp at h1
  .rename_i z;exact z H
 .rw[oM<|ni b,vV] at h1;split at h1<;>cases h1
def Vp{K:Frag}{U:Hp}{f:L2.St}{n i:Nat}{d:D}{v:V}(o:(ZB f)=n)(k:f[i]?=Y (Y v))(r:Rep K U (λ_=>False) d v):ER K U (λ_=>False) f ((ae n I).set i<|Y (d,C)):=by
 have c: ∀{j:Nat} {e:D} {b:Bool},((ae n I).set i<|Y (d,C))[j]?=Y (Y (e,b))->j=i/\e=d/\b=C:=λ{j e b} h=>by
  by_cases m:j=i
  .subst m;rw[ox<|by rw[Lu,<-o];exact(rT.mp k).1] at h;cases h;exact⟨rfl,rfl,rfl⟩
  .rw[oM<|ni m,vV] at h;split at h<;>cases h
 refine⟨by simp[o],λj e h=>?_,λj e h=>?_,λj l e g a h=>?_,λa z=>absurd z<|yV f a,λ_ z=>z.elim⟩
 .obtain⟨rfl,rfl,_⟩:=c h;exact⟨v,k,Rep.mono (λ_ _ e _=>e) (λb _ z=>z.elim (yV f b) id) r⟩
 .obtain⟨_,_,z⟩:=c h;cases z
 .obtain⟨_,_,z⟩:=c h;cases z
structure ClK(K:Frag)(C CR:iu):Prop where
 k:ExcK K C
 ty: ∀n∈["int","bool","str","tuple","list","dict"],kitOne K (.ref C) (.type n)=Zv Zy
 up:exmOne K (.ref C) (.ref CR)=Zv Zx
def Rx{b:List (D×Bool)}(h:(b.all λa=>!a.2)=J): ∀a∈b,a=(a.1,C):=λa c=>by
 have:=mY.mp h a c;obtain⟨d,f⟩:=a
 cases f with
 |false=>rfl
 |true=>cases this
theorem E8: ∀(os:List Opd) (b:List (D×Bool)),(∀a∈b,a=(a.1,C))->jl os b=[]
 |[],b,_=>by cases b<;>simp[jl]
 |o::os,[],_=>by simp[jl]
 |o::os,a::b,h=>by have c:=h a jT;obtain⟨d,f⟩:=a;cases c;cases o<;>simp[jl,E8 os b λa e=>h a<|jX _ e]
def U9{b:List (D×Bool)}(h: ∀a∈b,a=(a.1,C))(f:L2.St)(a:iu): ¬OwnA f (b.map Y) a:=λU=>by
 obtain⟨i,d,h1,_⟩:=U
 rw[kD] at h1;obtain⟨p,c,e⟩:=jk h1;cases e;have:=h _ (mG c);simp at this
section
variable {X:Cx}
def PE.or{e:iI}{t u:TE}(h1:PE X e t)(c:PE X e u):PE X e λb T Q=>t b T Q\/u b T Q:=λa s b T Q U h=>h.elim (h1 a s b T Q U)<|c a s b T Q U
def OR{T:AP'}{g:L2.St}{l:Dn}{U:Hp}{d:jU}{f:List (D×Bool)}{K:Frag}(m:ER K U T g l)(r:kb l (d.map .slot)=Y f):
  ∃vs:List V,Df d 0 g=vs.map Y/\Ops K T g l U (d.map Opd.slot) vs l U T:=by
 obtain⟨u,s⟩:=nH r
 have there: ∀(i j:Nat),d[i]?=Y j-> ∃v,g[j]?=Y (Y v):=λi j e=>by
  have t:i<(ZB f):=by have:=(rT.mp e).1;simp at u;lia
  obtain⟨o,q,k⟩:=s i _ (jt t);rw[kD,e] at q;cases q;have n:=oG k;generalize f[i]=y at n;obtain⟨x,b⟩:=y
  cases b with
  |false=>obtain⟨v,h,_⟩:=m.val j x n;exact⟨v,h⟩
  |true=>obtain⟨a,h,_⟩:=m.own j x n;exact⟨_,h⟩
 refine⟨d.map λj=>((g[j]?).join).getD .non,?_,by simp,.refl,m,λ_ z=>z,λj x v e=>?_,λj x v e=>?_,λj i v e hv=>?_⟩
 .unfold Df;rw[il,vq];apply zm;intro i;rw[kD,kD,kD]
  cases e:d[i]? with
  |none=>rfl
  |some j=>obtain⟨v,hv⟩:=there i j e;simp[hv]
 .rw[kD] at e;obtain⟨_,_,z⟩:=jk e;cases z
 .rw[kD] at e;obtain⟨_,_,z⟩:=jk e;cases z
 .rw[kD] at e;obtain⟨c,p,z⟩:=jk e;cases z;obtain⟨w,k⟩:=there j i p;rw[kD,p] at hv;simp[k] at hv;rw[k,hv]
end
section
variable {X:Cx}{Pt c:iu}{params:c8}{body:iI}{scope:jL}{pos u9 pf:bI}{caps:jU}{N' NR:je}{fB:F}{xB:XS}{bf:FS}{CI:ax->Option Nat}{asg:jU}{st:bD}{fr:iu}{dw:mD}{xf xc xr xx xn:ax}{CR:iu}{i j k:Nat}
structure RefBody(X:Cx)(st:bD)(NR:je)(fr:iu)(xf xc xr xx xn:ax)(CR:iu)(i j k:Nat)(asg:jU)(bf:FS):Prop where
 sc:FnScope NR [xc] (iB st)
 as0:0∉asg
 hi:NR[i]?=Zv xx
 hj:NR[j]?=Zv xn
 ij:i≠j
 j0:j≠0
 lc:(iB st).names.lookup xc=Zv .local
 lx:(iB st).names.lookup xx=Zv .local
 ln:(iB st).names.lookup xn=Zv .local
 gl:(iB st).names.lookup xr=Zv .globalImplicit
 mg:X.mg xr=Zv (.ref CR)
 db:(xc==("__debug__":ax))=Zy/\(xc==("__classdict__":ax))=Zy/\(xn==("__debug__":ax))=Zy/\(xn==("__classdict__":ax))=Zy/\(xr==("__debug__":ax))=Zy
 body: ∃p1 p2 p3 p4 p5 p6 p7 p8 p9 S1 jw,lJ st=S1:: .Try [.Expr (.Call (.Name xc p1) [] [] p2) p3] [.ExceptHandler (Zv<|.Name xr p4) (Zv xn) [.Assign [.Name xx p5] (.Name xn p6) p7] p8] [] [] p9::jw/\
  ∀(b8:iK) (A:iU) (outer:List d1) (s:iC) (H:Hp) (L:jW),(∀i,L i->i<1)->Room k (A.deeper<|aZ xf (iB st) s.heap.objs.size fr b8)->
   bJ (.Call (.Name xc p1) [] [] p2) Zw p3.line (aZ xf (iB st) s.heap.objs.size fr b8)=pure Zy/\bJ (.Name xn p6) (Zv<|.Name xx p5) p7.line (aZ xf (iB st) s.heap.objs.size fr b8)=pure Zy/\
   PSX (pZ CX0 X.prog X.w X.K X.mg X.base NR xf (iB st) fr b8 A outer s H L2.E0).nox (λi=>i∈asg) L H S1 (jD i<|fC .non)/\Bg (pZ CX0 X.prog X.w X.K X.mg X.base NR xf (iB st) fr b8 A outer s H L2.E0).nox (λi=>i∈asg) L H jw bf
def TZ{more:mU}(R:RefBody X st NR fr xf xc xr xx xn CR i j (k+1) asg bf)(F:Fun X.K xf xf st fr dw)(gR:Binds X.K dw [xc] [])(gB:Gl X xf)(hmf:X.mg xf=Zv (.ref fr))(cO:(xf==("__debug__":ax))=Zy)
  (cK: ∀x,X.fn x=Zx)(hr:Room (k+2) X.A)(hTb:X.H₀ Pt=Zv (.tbl (#[.str (X.env.qual++"<lambda>") 0]++more)))(l6:X.env.code= .ref c)(C:CodeHd X.base c Pt)(hB:X.base.BuiltinsAt X.mg Pt)(gC:am≠Pt)
  (CO:CompOk X N' scope caps 0)(LS:LamScope scope)(aX:t5 params X.env=([],[]))(m9: ∀b7 pm J n4,fm (kla_fn "<lambda>" (X.env.qual++"<lambda>") params body scope b7 pm (.ref J) n4) ⟨[],[]⟩=pure [])
  (he:ac [.Lambda params body scope u9] X.env=(Zy,aE (.Lambda params body scope u9) X.env)::ac [] X.env)(g8:(aP pos<|ac [] X.env).any (·.1)=Zy)
  (gZ: ∀z C0,CI z=Zv C0->X.mg z=Zv (.ref C0)/\ClK X.K C0 CR)
  (hb: ∀(B:iu) (b7:kU) (J:iu) (A:iU) (N:List d1) (s:iC) (H:Hp) (E:XK),Room k (A.deeper<|AH (X.env.qual++"<lambda>") scope s.heap.objs.size B (.ref J) b7)->
   PX (tE (CXx X.prog X.w) X.prog X.w X.K X.mg X.base N' (X.env.qual++"<lambda>") scope B (.ref J) b7 A N s H E) body fB/\PZE (tE (CXx X.prog X.w) X.prog X.w X.K X.mg X.base N' (X.env.qual++"<lambda>") scope B (.ref J) b7 A N s H E) E body xB):
  PX X (.Call (.Name xf pf) [.Lambda params body scope u9] [] pos) (Kf caps fB xB (ZB NR) i bf CI):=by
 intro pins s g H Q I hw;obtain⟨U,T,r,δ',E1,e,kq⟩:=hw;obtain⟨t,ha,e⟩:=ir e;split at e
 case isFalse=>cases e
 rename_i hfz;have dh:=Rx hfz;obtain⟨d,hd,e⟩:=ir e;obtain⟨rfl,rfl⟩:=jd e;obtain⟨vs,gf,B0⟩:=OR E1 ha;have nd0:=E8 (caps.map Opd.slot) t dh;have Ec:=yX E1 B0 ha (by rw[nd0];exact pJ);obtain⟨S,hclo,j6,j9⟩:=vR X.env scope λx hx hf=>I.ok.has x.1<|CO.free x hx hf;obtain⟨more2,hP⟩:=I.base.tbls Pt _ hTb;rw[Gu] at hP;refine sA<|wx I gB hmf ?_ cO;refine callWith_K (h₀:=X.base) I.ok.mod.kin F.kp ?_ he g8;rw[he];show ag _ _ (Td ((Zy,aE (.Lambda params body scope u9) X.env)::aP pos (ac [] X.env))) _ _ s;refine Gq<|NT I hP l6 C hB gC hclo aX λs1 Y B P up L kp fr0 new=>?_;refine Gr ⟨P.kIn,?_⟩
 have nst: ∀x c,S.lookup x=Zv c->c∉frs X.stack:=λx c e z=>by
  rcases kT.mp (I.stkSub c z) with q|q
  .exact I.cne x c (j6 x c e) q
  .obtain⟨_,o,ho,_⟩:=I.ok.funs.mem q;exact absurd (jN ho)<|Ph.mpr<|I.ok.cab x c (cK x)<|j6 x c e
 have nfl:B∉frs X.stack:=λz=>by obtain⟨_,o,ho,_⟩:=I.stack.mem z;rw[new] at ho;cases ho
 have LC:LamCells N' scope S (vs.map Zv) Y s1.heap:=by
  rw[<-gf];refine⟨λx y c h1 h2=>I.ok.inj x y c (j6 x c h1)<|j6 y c h2,λx hx=>j9 x<|qh hx,λx c h=>⟨P.cell x c<|j6 x c h,P.freeC x c<|j6 x c h⟩,λl x v h1 h2=>?_,CO.sco.len g⟩;obtain⟨hf,jj,hj,hv⟩:=CO.sco.pre g l v x h2 h1;refine⟨hf,?_⟩;obtain⟨m,hn,hl⟩:=P.loc;have k6:=CO.free (x,.free) (qh hf) Zz;obtain⟨u,r,q⟩:=hl jj x v hj hv (by rcases k6 with z|z;exact .inr<|.inl z;exact .inr<|.inr z);rcases q with⟨gw,_⟩|⟨_,c,hc,i9⟩
  .have bu:X.env.scope.names.lookup x=Zv .local:=gw;rcases k6 with z|z<;>(have z':X.env.scope.names.lookup x=_:=z;rw[bu] at z';cases z')
  .obtain⟨J,bU⟩:=j9 x<|qh hf;have:=j6 x J bU;rw[hc] at this;cases this;exact⟨c,u,bU,i9,r⟩
 have noT: ∀(g:L2.St) (a:iu),¬OwnA g (t.map Zv) a:=U9 dh;obtain⟨oc,od,kV,doc,pm,an,b8,ct,r9,rfl,lkr,hcdr⟩:=F.ex;have fw:=gR s1 [.ref B] P.kIn Zz;refine thn (zv<|uG (WX (CX:=CX0) (E:=L2.E0) (Q:=λv p=>Post X.K T g U H (d,Zy) U v p) (vs:=[.ref B]) lkr hcdr R.sc hr P.env0 fw (.cons Zz .nil) Zz λda=>?_) (R:=L2.CR CX0 X.stack X.prog X.w Y s1 (λv p=>Post X.K T g U H (d,Zy) U v p) L2.E0) λrr s2 hq=>?_) (Q:=EP X pins g λv p=>Post X.K T g U H (d,Zy) U v p) λv s2 ⟨x,G,I2,rx,q⟩=>⟨x,G,I2,rx,kq x G q⟩
 .obtain⟨p1,p2,p3,p4,p5,p6,p7,p8,p9,S1,jw,bM,hq⟩:=R.body;obtain⟨sw1,sw2,fG,Z⟩:=hq b8 X.A X.stack s1 Y (λ_=>False) (λ_ z=>z.elim) da
  have nl: ∀{n:Nat} {a:iu} {g:L2.St},¬OwnA g (ae n Zw) a:=λ{n a g} a'=>by
   obtain⟨l,e,h1,_⟩:=a'
   rw[vV] at h1;split at h1<;>cases h1
  have hlen:(L2.oy NR [V.ref B]).length=(ZB NR):=by
   have:1<=(ZB NR):=by have:=mV dB R.sc.pre;rw[rE] at this;simp at this;lia
   unfold L2.oy;simp;lia
  have fin: ∀(z:D) (G:Hp) (O:L2.St) (v0:V),Bo (ZB NR) i bf z=Zv d->(∀a o,Y a=Zv o->G a=Zv o)->(∀a,Y a≠Zw->G a≠Zw)->ZB O=ZB NR->O[i]?=Zv (Zv v0)->Rep X.K G (λ_=>False) z v0->
    tS X.K (λi=>i∈asg) (λ_=>False) Y bf {nx:=λ_ p=>Post X.K T g U H (d,Zy) U .non p,rt:=λv p=>Post X.K T g U H (d,Zy) U v p} O G:=λz G O v0 ht W dm2 v8 de rz=>by
   unfold Bo at ht;split at ht
   case h_2=>cases ht
   rename_i rr δr gD;obtain⟨hs,rfl⟩:=iY ht;refine⟨_,λ_=>False,_,Vp v8 de rz,⟨λl a ⟨d,h1,h2⟩=>absurd ⟨l,d,h1,h2⟩<|yV O a,dm2⟩,gD,λv σ3 H3 S3 hrv=>?_⟩;have ext: ∀a o,H a=Zv o->H3 a=Zv o:=λa o q=>S3.kp a o (W a o<|up a o q)<|yV O a;exact⟨.ext ext,E1.mono (λb o q _=>ext b o q) (λ_ _ z=>z) λa z=>(E1.dom a z).up<|ext a,HV hs hrv.2⟩
  rw[bM];have Xs:=(pZ CX0 X.prog X.w X.K X.mg X.base NR xf (iB st) fr b8 X.A X.stack s1 Y L2.E0).nox
  have run: ∀(E:XK) (J:iu) (s:iC) (H:Hp),Room k ((X.A.deeper<|aZ xf (iB st) s1.heap.objs.size fr b8).deeper<|AH (X.env.qual++"<lambda>") scope s.heap.objs.size B (.ref J) S)->
    PE (tE (CXx X.prog X.w) X.prog X.w X.K X.mg X.base N' (X.env.qual++"<lambda>") scope B (.ref J) S (X.A.deeper<|aZ xf (iB st) s1.heap.objs.size fr b8) (aZ xf (iB st) s1.heap.objs.size fr b8::X.stack) s H E) body (λg H Q=>tF X.K fB g H Q\/tZ X.K X.mg E xB g H):=λE J s H gm=>
   let⟨h1,h2⟩:=hb B S J _ _ s H E gm
   PE.or h1 h2
  have LI:LamIn (pZ CX0 X.prog X.w X.K X.mg X.base NR xf (iB st) fr b8 X.A X.stack s1 Y L2.E0).nox N' scope S (vs.map Zv) (X.env.qual++"<lambda>") params body B k (λE g H Q=>tF X.K fB g H Q\/tZ X.K X.mg E xB g H):=⟨LS,LC,L,nfl,nst,m9 S,run⟩
  have h0:NR[0]?=Zv xc:=by have:=mV (λl=>l[0]?) R.sc.pre;simpa using this
  have pt:=Up (p4:=p4) (p8:=p8) (p9:=p9) LI Zz Zz Zz da h0 (.inl R.lc) R.db.1 R.db.2.1 sw1 R.gl R.mg R.db.2.2.2.2 R.sc.nd R.hi R.hj R.ij R.lx R.ln R.db.2.2.1 R.db.2.2.2.1 sw2;refine⟨_,(qr fG<|qr pt Z).nox,?_⟩;have gz:i<(ZB NR):=(rT.mp R.hi).1;refine⟨ae (ZB NR) Zw,λ_=>False,.nx<|(ae (ZB NR) Zw).set i<|Zv (.non,Zy),⟨by simp[hlen],λl d h=>?_,λl d h=>?_,λl m d e a h=>?_,λa z=>absurd z nl,λ_ z=>z.elim⟩,⟨λl a ⟨d,h1,h2⟩=>absurd ⟨l,d,h1,h2⟩ nl,λ_ z=>z⟩,?_,λσ1 G K1 ER1=>?_⟩
  .rw[vV] at h;split at h<;>cases h
  .rw[vV] at h;split at h<;>cases h
  .rw[vV] at h;split at h<;>cases h
  .show(if i<(ae (ZB NR) (Zw:Sl)).length then Zv (Out.nx _) else Zw)=_;rw[iP<|by simpa using gz]
  .have W: ∀a o,Y a=Zv o->G a=Zv o:=λa o q=>K1.kp a o q nl;have av:(ZB σ1)=(ZB NR):=by have:=ER1.len;simpa using this
   have hs0:σ1[0]?=Zv (Zv<|V.ref B):=by rw[K1.as 0 R.as0];unfold L2.oy;rfl
   have Ec2:ER X.K G (Tc T g U vs t) (vs.map Zv) (t.map Zv):=Ec.mono (λb o q _=>W b o<|up b o q) (λ_ _ z=>z) λa z=>(Ec.dom a z).up λo q=>W a o<|up a o q;split at hd
   ·
    rename_i z hz;refine⟨hs0,λ_ _ _=>False,.inl ⟨_,_,z.1,z.2,Ec2,hz,λv H3 P3=>?_⟩,λ_ _ z=>z.elim,λ_ _ _ _ z=>z.elim⟩;obtain⟨v0,eT,dE⟩:=ER1.val i .non (by rw[ox<|by simpa using gz]);refine fin .non H3 σ1 v0 hd (λa o q=>P3.1.kp a o (W a o q)<|noT _ a) (λa q=>P3.1.dm a<|K1.dm a q) av eT<|HV Zz dE
   ·
    obtain⟨cn,hx,hd⟩:=ir hd;obtain⟨C0,hC0,hd⟩:=ir hd;obtain⟨hmC,ck⟩:=gZ cn C0 hC0;refine⟨hs0,λcls _ p=>cls= .ref C0/\ ∀a o,G a=Zv o->p a=Zv o,.inr ⟨_,_,cn,Ec2,noT _,hx,λp C' eK eZ=>?_⟩,λC' p ⟨q,_⟩=>?_,λC' p ea o ⟨q,eK⟩ hn ho=>?_⟩
    .rw[hmC] at eZ;cases eZ;exact⟨rfl,eK⟩
    .cases q;exact ck.up
    .cases q;have dz: ∀a M,p a=Zv M->upd p ea (.frz o<|.own 0) a=Zv M:=λa M q=>by rw[jb<|kP q hn];exact q
     refine fin (.oth (.exc C0) [] []) _ _ (.ref ea) hd (λa M q=>dz a M<|eK a M<|W a M q) (λa q=>?_) (by simp[av]) (by rw[ox<|by simpa[av] using gz]) (Rep.mkOth (us:=[]) (λz=>z) ⟨⟨rfl,rfl,rfl⟩,o,ja,ho,λa=>NU ck.k ho,ck.ty⟩ RepL.nil)
     cases hh:Y a with
     |none=>exact absurd hh q
     |some M=>rw[dz a M<|eK a M<|W a M hh];simp
 .cases rr with
  |error e=>exact aW hq
  |ok f=>
   cases f with
   |ret u=>exact P.after hq
   |_=>exact aW hq
end
open TS
noncomputable abbrev abI(i:Int):Int:=if i<0 then -i else i
section
variable {d:iX}{w:iR}{A:iU}{E:jn}{s:iC}
def Mf{a:iu}{f:jy}{r:iO}{n:Nat}{P:z8->Shared->Prop}(N:s.heap.get? a=Zv (bp "list" f.toArray n))(hi:ei f r)(h64:f.length<64)
  (h: ∀g y J' c,(∀b o,b≠a->s.heap.get? b=Zv o->g.get? b=Zv o)->g.get? a=Zv (bp "list" J' c)->KskOut Zy (r.map abI) f J'.toList->P (.done<|.ret .none) {s with heap:=g,toks:=y}):
  ag (ah d w) A (ksk_tree a (.builtin "abs") Zy) P E s:=by
 have ha:a<s.heap.objs.size:=jN N;have hlen:=hi.length;have T: ∀k,k<=f.length->k<=sizeLine:=λk hk=>by rw[jH];omega
 unfold ksk_tree;refine iz<|FZ N Zz<|iz<|uZ N Zz ?_ (T _ (by simp))<|lL _;obtain⟨B,n6⟩: ∃B,(s.heap.update a<|aG λ_=>(#[]:Array iK)).get? a=Zv (bp "list" #[] B):=⟨_,xl N λ_=> #[]⟩
 refine iz<|zd n6 Zz<|iz<|CB ?_<|T _ (by simp);refine iz<|Co ?_<|lL _;refine lM ?_
 let h1:=pM s.heap a f
 let m:Addr:=((s.heap.update a<|aG λ_=>(#[]:Array iK)).push<|bp "tuple" f.toArray 0).objs.size
 have hk:m=s.heap.objs.size+1:=by show _=_;simp -iota only[m];rw[size_push',Heap.size_update]
 have L:a≠m:=by rw[hk];exact jF<|vo ha
 have W: ∀b o,b≠a->s.heap.get? b=Zv o->h1.get? b=Zv o:=λb o z e=>jM _ (jM _ (by rw[FY _ _ _ _ z];exact e));have K:h1.get? a=Zv (bp "list" #[] B):=jM _ (jM _ n6);have S:h1.get? m=Zv (bp "list" #[] 0):=kc _ rfl;show ag (ah d w) A (ksk_rest a (.builtin "abs") Zy f.toArray B<|.ref m) P E {s with heap:=h1};unfold ksk_rest;refine iz<|sf ?_;rw[List.forIn_toArray];refine iz<|ksk_fold (λi Y=> ∃g y l e,Y={s with heap:=g,toks:=y}/\(∀b o,b≠m->h1.get? b=Zv o->g.get? b=Zv o)/\g.get? m=Zv (bp "list" l e)/\ei l.toList ((r.map abI).take i)) f 0 _ ⟨h1,s.toks,#[],0,rfl,λ_ _ _ e=>e,S,.nil⟩ (λj x Y hx F=>?_) λY F=>?_
 .obtain⟨g,y,l,e,rfl,U,G,p⟩:=F;have Z:j<f.length:=(rT.mp hx).1;obtain⟨t,ht⟩:=hi.get j r[j]<|jt (by omega);rw[hx] at ht;cases ht
  have q:l.size<=f.length:=by have:=p.length;rw[kz,rE] at this;omega
  refine iz<|sd<|W1 λu X=>?_;dsimp only;have s1:=rp g m (aG (·.push (.int (abI r[j]) u)));refine iz<|uZ (s:={s with heap:=g,toks:=X}) G Zz ?_ (T _ q)<|ma (FA (Array.size_push ..)) (by rw[jH];omega);refine iM ⟨rfl,_,_,l.push<|.int (abI r[j]) u,_,rfl,λb o z e=>(s1.2 b z).trans<|U b o z e,xl G _,?_⟩;rw[xq,List.take_add_one,kD,jt (show j<r.length by omega),fo];rw[xq] at p;exact p.append<|.cons _ _ .nil
 .obtain⟨g,y,l,e,rfl,U,G,p⟩:=F;have p:ei l.toList (r.map abI):=by rwa [xq,xp<|by simp;omega] at p
  have q:l.size=f.length:=by have:=p.length;rw[kz,kh] at this;omega
  have M:(l.zip f.toArray).size=f.length:=by rw[sm,q,kj,Nat.min_self]
  refine iz<|FZ (s:={s with heap:=g,toks:=y}) G Zz ?_
  have v: ∀st:rW,(fO st).Perm (l.zip f.toArray)->SortedTo (fO st) (fO st).size->fZ st=Zw->ag (ah d w) A (ksk_tail a Zy B (.ref m) st) P E {s with heap:=g,toks:=y}:=λst O V R=>by
   have s1:=rp g m<|aG λ_=>(#[]:Array iK);have D:(g.update m<|aG λ_=>(#[]:Array iK)).get? a=Zv (bp "list" #[] B):=(s1.2 a L).trans<|U a _ L K;have s2:=rp (g.update m<|aG λ_=>(#[]:Array iK)) a (aG λ_=>(fO st).map (·.2));unfold ksk_tail;simp -iota only[jz,jP];refine iz<|uZ (s:={s with heap:=g,toks:=y}) G Zz ?_ (T _ (by omega))<|lL _;refine iz (Cz (iz (zd D Zz (iz (uZ D Zz ?_ (lL _) (n7 (show((fO st).map (·.2)).size<=sizeLine from T _ (by rw[ss,O.size_eq,M];exact jQ _))))))));rw[R];simp -iota only[uC,jz,jP];refine iM<|h _ _ _ _ (λb o z e=>?_) (xl D _) (ksk_out (b:=Zy) p O V);have I:b≠m:=by rw[hk];exact jF<|vo<|jN e
   exact(s2.2 b z).trans ((s1.2 b I).trans<|U b o I<|W b o z e)
  unfold ksk_end;simp -iota only[jz,jP];by_cases H:f.toArray.size<2
  .rw[iP H,iP H];refine iz<|iM ?_;rw[F6];refine iz<|iM<|v _ (Array.Perm.refl _) (λi j m8 Z=>?_) rfl;have dc:j<(l.zip f.toArray).size:=Z;rw[M] at dc;rw[kj] at H;have:i=j:=by omega
   subst this;exact Int.le_refl _
  .rw[jc H,jc H];rw[kj] at H;rw[ksk_kind p<|by rw[q];omega];refine iz (iM ?_)
   refine iz (ou (wpS_sortRuns (a₀:=l.zip f.toArray) (st:=SortSt.mk' J4 (l.zip f.toArray) #[] 7 Zw) (Q:=λ_ C=>(fO C).Perm (l.zip f.toArray)/\fZ C=Zw/\SortedTo (fO C) (l.zip f.toArray).size)
    (ksk_intKeys p) ⟨Array.Perm.refl _,rfl,rfl,rfl⟩ (by rw[M];omega) (by rw[M];exact h64) λC a1 a2 a3=>⟨a1,a2,a3⟩) ?_ λ_ _ e=>e)
   rintro⟨⟨⟩,C⟩ Y ⟨rfl,O,R,V⟩;exact v C O (by rw[O.size_eq];exact V) R
end
noncomputable def aD:D->Int
 | .int i=>abI i
 |_=>0
noncomputable def isI:D->Bool
 | .int _=>J
 |_=>C
noncomputable def ltA(x y:D):Bool:=decide<|aD x<aD y
noncomputable def yb:D->Option (D×Bool)
 | .lst l=>if l.all isI=J/\(l.map aD).Nodup/\(ZB l)<64 then Y (.lst<|mH ltA l,J) else I
 |_=>I
def N5{x:D}: ∀{l:List D},l.Pairwise (λa b=>aD a<=aD b)->(DC ltA x l).Pairwise λa b=>aD a<=aD b:=by
 intro g
 induction g with
 |nil=>intro _;simp[DC]
 |cons y l f=>
  intro h;obtain⟨h1,e⟩:=D8.mp h;unfold DC;by_cases d:aD y<aD x
  .rw[iP<|by simpa[ltA] using d];refine D8.mpr ⟨λz c=>?_,f e⟩;rcases kT.mp ((ui ltA x l).mem_iff.mp c) with rfl|c
   .omega
   .exact h1 z c
  .rw[jc<|by simpa[ltA] using d];refine D8.mpr ⟨λz c=>?_,h⟩;rcases kT.mp c with rfl|c
   .omega
   .have:=h1 z c;omega
def Br: ∀l:List D,(mH ltA l).Pairwise λa b=>aD a<=aD b:=by
 intro d
 induction d with
 |nil=>exact .nil
 |cons _ l c=>exact N5<|c
theorem By: ∀{l:List D},(l.map aD).Nodup-> ∀a∈l,∀b∈l,aD a=aD b->a=b
 |x::l,h,a,d,b,f,e=>by
  rw[jY,zD] at h;rcases kT.mp d with h1|h1<;>rcases kT.mp f with c|c
  .rw[h1,c]
  .exact absurd (h1▸e▸oI c) h.1
  .exact absurd (c▸e▸oI h1) h.1
  .exact By h.2 a h1 b c e
def Mi{l m:List D}(c:m.Perm l)(g:m.Pairwise λa b=>aD a<=aD b)(f:(l.map aD).Nodup):m=mH ltA l:=by refine(c.trans (kH ltA l).symm).eq_of_pairwise (le:=λa b=>aD a<=aD b) (λa b d e x y=>By f a (c.mem_iff.mp d) b ((kH ltA l).mem_iff.mp e)<|by omega) g (Br l)
section
variable {X:Cx}{f:jq}{g:L2.St}{H:Hp}{s:iC}
def Wf{O:AP'}: ∀{l:List D} {j:List V} {c:jy},l.all isI=J->RepL X.K H O l j->Vals j c-> ∃e:List Int,l=e.map .int/\ei c e:=by
 intro n
 induction n with
 |nil=>intro j c _ r v;rw[RepL] at r;subst r;cases v;exact⟨[],rfl,.nil⟩
 |cons d l m=>
  intro j c h r v;rw[RepL] at r;obtain⟨x,q,rfl,o,p⟩:=r;rw[vn,lC] at h
  cases d with
  |int i=>
   cases v with
   |cons a b=>obtain⟨e,rfl,k⟩:=m h.2 p b;rw[jr<|.inl o] at a;obtain⟨t,rfl⟩:=a;exact⟨i::e,rfl,.cons _ _ k⟩
  |_=>exact absurd h.1 (by simp[isI])
theorem VN: ∀{l:List D} {a:iO} {xs:List V} {its:jy},l=a.map .int->ZB xs=ZB l->ZB its=ZB l->(a.map abI).zip its=(l.zip<|xs.zip its).map λt=>(aD t.1,t.2.2)
 |[],[],_,_,_,_,_=>by simp
 |d::l,i::a,x::xs,u::its,h,h1,b=>by obtain⟨rfl,c⟩:=va h;have:=VN (xs:=xs) (its:=its) c (by simpa using h1) (by simpa using b);simp -iota only[jY,qD,this];rfl
def GG{u:iK}{Q:VK}{O:AP'}{d:D}{z:D×Bool}{x:V}(I:Inv X f g H s)(ru:RelV x u)(np: ∀p,¬Ow (H p)-> ¬O p)(hd:ke X.K H O d x)(N:yb d=Zv z)(G:Gen X.K H O z Q):
  ag (ah X.prog X.w) X.A (call (.builtin "sorted") [u] [(bi "key",.builtin "abs")]) (EP X f g Q) X.xe s:=by
 cases d with
 |lst l=>
  obtain⟨⟨hI,hn,hz⟩,rfl⟩:=iY N;obtain⟨p,xs,rfl,q,L⟩:=kn hd;cases ru;obtain⟨j,v,pl,_⟩:=I.list q;have e1:=L.length;have e2:=v.length;obtain⟨ns,S,r⟩:=Wf hI L v;have hl:j.length<=sizeLine:=by rw[jH];omega
  obtain⟨o,ho,hc,n,W⟩:=pl.isList;refine call_function_entry_kw Zu Wp WP (ksk_s1 _ _) ?_;unfold bc.«sorted»;refine iz (m:=checkCount "sorted" 1 1 _)<|iM ?_;refine iz<|FX p (.inl Zz) ho hc W (λh1 k1=>?_) (by rw[kj];omega);rw[List.toList_toArray];refine iz<|Co ?_ hl;have J:(h1.push<|bp "list" j.toArray 0).get? h1.objs.size=Zv (bp "list" j.toArray 0):=kc _ rfl;have T:Inv X f g H {s with heap:=h1}:=I.kept k1;refine iz<|lM<|wpAny_call_entry_kw (s:={s with heap:=h1.push (bp "list" j.toArray 0)}) I0 ⟨_,J,rfl⟩ B4 ?body<|ksk_l1 _ _
  case body=>
   show ag _ _ (bc.«list.sort» ⟨[.ref h1.objs.size],[(bi "key",.builtin "abs")]⟩) _ _ _;rw[ksk_t4];refine Mf (s:={s with heap:=h1.push (bp "list" j.toArray 0)}) J r (by omega) λh' tk E c k2 k3 ko=>⟨_,rfl,iM ⟨_,rfl,?_⟩⟩
   obtain⟨ps,Y,k,F⟩:=ko;rw[VN S (by omega)<|by omega] at Y;obtain⟨a,P,rfl⟩:=mI _ Y _ rfl;rw[km] at k
   have Z: ∀t∈a,Rep X.K H O t.1 t.2.1/\RelV t.2.1 t.2.2:=λt hm=>by obtain⟨i,hi⟩:=se<|P.mem_iff.mp hm;obtain⟨B,de⟩:=D5.mp hi;obtain⟨y,C⟩:=D5.mp de;obtain⟨w,R,w2⟩:=v.get y;rw[C] at R;cases R;exact⟨L.views B y,w2⟩
   have M:a.map (·.1)=mH ltA l:=by
    refine Mi ?_ (by rw[pG] at F ⊢;exact F.imp λh=>by simpa using h) hn;have:=P.map (·.1)
    rwa [on<|by simp;omega] at this
   have hR: ∀a:List (D×V×iK),(∀t∈a,Rep X.K H O t.1 t.2.1/\RelV t.2.1 t.2.2)->RepL X.K H O (a.map (·.1)) (a.map (·.2.1))/\Vals (a.map (·.2.1)) (a.map (·.2.2)):=λa=>by
    induction a with
    |nil=>exact λ_=>⟨.nil,.nil⟩
    |cons t a ih=>intro h;obtain⟨i1,i2⟩:=ih λx hx=>h x<|jX _ hx;exact⟨.cons (h t jT).1 i1,.cons (h t jT).2 i2⟩
   obtain⟨r1,r2⟩:=hR a Z;have keep: ∀b o,h1.get? b=Zv o->h'.get? b=Zv o:=λb o e=>k2 b o (jF<|jN e)<|jM _ e;have U:a.length=l.length:=by have:=mV dB M;rw[(kH ltA l).length_eq,kh] at this;exact this
   refine⟨.ref h1.objs.size,_,T.laid (t':=tk) keep (jQ _) (show ObjOk X.prog X.w _ _ _ (.lst (a.map (·.2.1))) from⟨by rw[kh,jH];omega,E.toList,c,?_,?_⟩),rfl,?_⟩
   .rw[k];exact r2
   .rw[KH];exact k3
   .refine G.lst T.fresh ?_;rw[<-M];exact r1
 |_=>cases N
def Nd{a:iI}{i:TA}{p b w v:bI}(c:Gl X "sorted")(r:X.mg "sorted"=I)(k:Gl X "abs")(m:X.mg "abs"=I)(n:PA X [a] i)
  (o:aP b (ac [a] X.env)=(C,aE a X.env)::aP b (ac [] X.env))(j:(aP b<|ac [a] X.env).any (·.1)=C):
  PE X (.Call (.Name "sorted" p) [a] [⟨Y "key",.Name "abs" w,v⟩] b) (tCB (rDn X.K<|g1 yb) i):=by
 intro f s g H Q U h;refine sA<|pX U c r Kr<|callWith_kw (thn (n b f s g H _ U h) λT s1 ⟨E,B,e,y,t⟩=>kws_cons<|pX e k m Vv<|kws_nil ?_) o j Zz Zz;obtain⟨O,l,z,np,q,hv,c,G⟩:=t
 match l,c with
 |[d],c=>obtain⟨x,rfl⟩:=Iq q Zz;obtain⟨u,rfl,A⟩:=rF y;exact GG e A np (hv 0 d x Zz Zz) c G
def MH{a:iI}{c:FO}{p b n m:bI}(k:Gl X "sorted")(l:X.mg "sorted"=I)(e:Gl X "abs")(h:X.mg "abs"=I)(i:PA X [a] (tA X.K [c]))
  (j:aP b (ac [a] X.env)=(C,aE a X.env)::aP b (ac [] X.env))(d:(aP b<|ac [a] X.env).any (·.1)=C):
  PX X (.Call (.Name "sorted" p) [a] [⟨Y "key",.Name "abs" n,m⟩] b) (jh (g1 yb) [c]):=pxn<|Nd k l e h i j d
end
noncomputable def fPop(i:Nat):F:=λa=>match a[i]? with
 |some (Y (.lst l,J))=>(l[ZB l-1]?).bind λd=>Y ((d,C),a.set i<|Y (.lst l.dropLast,J))
 |_=>I
def RepL.dropLast{K U}{O:AP'}{l:List D}{a:List V}(r:RepL K U O l a):RepL K U O l.dropLast a.dropLast:=by rw[KG,KG,r.length];exact r.take _
section
variable {X:Cx}{x:ax}{i:Nat}{f c g:bI}
def T3(hv:PO X (.Name x f) (iw i))(y:bb (.Name x f) "pop" X.env (aE (.Name x f) X.env)=aE (.Name x f) X.env)(u:(c.endLine==g.line)=Zx):
  PX X (.Call (.Attribute (.Name x f) "pop" c) [] [] g) (fPop i):=
 PX.imp (UB zk Lh Lg UQ hv y u) λJ N Q B=>by
 obtain⟨r,T,G,L,E,e,k⟩:=B;unfold fPop at e;split at e
 .rename_i l m;obtain⟨d,hd,e⟩:=ir e;obtain⟨rfl,rfl⟩:=jd e;refine⟨r,T,.slot i,r,E,by unfold iw;rw[m],λv O P=>?_⟩;obtain⟨t,p,h⟩:=P;obtain⟨a,g1,q,g2,g3⟩:=p.own i _ m;rw[h] at g1;cases g1;obtain⟨w,M,U⟩:=g3.get hd;have A:=g3.length;obtain⟨s,j⟩:=p.write m h<|RepL.dropLast g3;refine⟨.inl ⟨rfl,q,SqL.of g2⟩,_,q,w,rfl,rfl,g2,by rw[A];exact M,?_⟩;exact k _ _ (Post.val (t.trans j) s<|Rep.mono (λb o e n=>j.kp b o e λz=>n<|.inl z) (λb _ z=>z.imp (j.ow b) id) U)
 .cases e
end
section
variable {X:Cx}
variable {a:iI}{e:FO}{p b f g d c:bI}{x:ax}{i:Nat}
def xSA(T:Tx X.mg)(l:QA X [a] [e])(n:Gl X "sorted":=by rfl)(j:Gl X "abs":=by rfl)(m:aP b (ac [a] X.env)=(C,aE a X.env)::aP b (ac [] X.env):=by rfl)(k:BA X b [a]:=by rfl):
  QX X (.Call (.Name "sorted" p) [a] [⟨Y "key",.Name "abs" f,g⟩] b) (jh (g1 yb) [e]):=⟨MH n (btM T (z:="sorted") H) j (btM T (z:="abs") H) l.h m k⟩
def R9(hv:QO X (.Name x d) (iw i))(k:bb (.Name x d) "pop" X.env (aE (.Name x d) X.env)=aE (.Name x d) X.env:=by rfl)(j:(c.endLine==b.line)=J:=by rfl):
  QX X (.Call (.Attribute (.Name x d) "pop" c) [] [] b) (fPop i):=⟨T3 hv.h k j⟩
end
section
variable {X:Cx}{a:jq}{b:L2.St}{H:Hp}{s:iC}
theorem H9{K:iW}{O:AP'}: ∀(c:List Key),RepL K H O (c.map kg)<|c.map kV
 |[]=>RepL.nil
 |k::c=>by
  refine RepL.cons ?_<|H9 c
  cases k with
  |inl i=>exact Rep.mkInt
  |inr x=>exact Rep.mkStr
theorem vH{K:iW}{O:AP'}(np: ∀p,¬Ow (H p)-> ¬O p): ∀{c:List (List Key×V)} {d:List (List Key×iu×iK)},L2.KT H c d->RepL K H O (c.map λp=> .tup (p.1.map kg)) (d.map λx=>V.ref x.2.1)
 |_,_,.nil=>RepL.nil
 |_,_,.cons h t=>by refine RepL.cons (Rep.mkTup ⟨h.2.1,np _ λz=>z.nt _ h.2.1⟩<|H9 _)<|vH np t
def zL{P:iX}{w:iR}(c:List (List Key×iu×iK)):Vals (c.map λx=>V.ref x.2.1) ((c.map<|t0<|cB<|ky P w).map (·.key)):=by
 induction c with
 |nil=>exact .nil
 |cons x c d=>exact .cons Zz d
end
def DH(d:D):Option (D×Bool):=match d with
 | .oth .dct a _=>Y (.lst a,J)
 |_=>BI d
def Mc{b:iX}{w:iR}{a:iu}{c:Array eF}{d:Nat}(hd:(a==bw)=C):PySem.W.KdlSrc b w "dict" a a c.size (λi v=> ∃e,c[i]?=Y e/\v=e.key) (λh=>TT.DRaw h a c d) where
 type:=λs x=>x.typeIs
 there:=λh x=>let⟨_,h1,_⟩:=x.at_;⟨jN h1,jN h1⟩
 keep:=λh j x k=>x.stay λo e=>k a (.inl H) o e
 notList:=by decide
 notTuple:=by decide
 hint:=λA E s Q x h=>PySem.W.kdl_hint_dict x.typeIs h
 iter:=λA s g x=>by have f:a<s.heap.objs.size:=let⟨_,h1,_⟩:=x.at_;jN h1;exact⟨_,_,λE Q h=>TT.IL hd x h,TT.Fq g s.heap.objs.size a (ot f) c d,⟨⟨_,kc _ rfl,rfl,rfl⟩,x.stay λo e=>jM _ e⟩⟩
section
variable {X:Cx}{b:jq}{f:L2.St}{H:Hp}{s:iC}
def wq(p:X.A.handled=I)(U:Inv X b f H s){a:iu}{g:Array eF}{n:Nat}{O:AP'}{k:List D}{j:List V}{Q:VK}(hd:(a==bw)=C)(S:TT.DRaw s.heap a g n)(l:g.size<=sizeLine)
  (x:RepL X.K H O k j)(v:Vals j (g.toList.map (·.key)))(G:Gen X.K H O (.lst k,J) Q):ag (ah X.prog X.w) X.A (call (.type "list") [.ref a]) (EP X b f Q) X.xe s:=by
 refine PySem.W.kdl_call (Mc hd) p S l λz y d c t r m=>?_
 have o:d.toList=g.toList.map (·.key):=by
  apply zm;intro i;rw[lR,kD,lR]
  cases h:d[i]? with
  |some u=>obtain⟨e,h1,rfl⟩:=m.2 i u h;rw[h1];rfl
  |none=>have:=VD.mp h;rw[VD.mpr<|by rw[<-m.1];exact this];rfl
 have q:=v.length;refine⟨.ref s.heap.objs.size,_,U.laid (t':=y) t (jQ _) (show ObjOk X.prog X.w _ _ _ (.lst j) from⟨by rw[q,kh,kz];exact l,d.toList,c,by rw[o];exact v,by rw[KH];exact r⟩),rfl,?_⟩;exact G.lst U.fresh x
def Hy(M:X.calm=Zx):kF X (.type "list") (rDn X.K<|g1 DH):=nE λb s f H x u Q O d z I B np hd t G=>by
 by_cases y: ∃l C,d= .oth .dct l C
 .obtain⟨l,C,rfl⟩:=y;cases(show Zv (D.lst l,Zx)=Zv z from t);obtain⟨a,P,rfl,q,r⟩:=nQ hd;cases B;have v:X.A.handled=Zw:=I.ok.hd M;rcases q with⟨h,e,rfl,rfl⟩|⟨h,e,rfl,rfl⟩
  .obtain⟨U,m,N,c,o,n,T,h1,g,i,k,p,J⟩:=OH I.hok e;have E:=Bk p c;have w:=E.length;simp only[kh,kz] at w;exact wq v I m ⟨o,h1,g,i⟩ (by lia) (xQ h) E G
  .obtain⟨U,m,L,c,o,n,T,h1,g,i,k,p,J⟩:=IZ I.hok e;have w:=sG c;have F:n.size=L.length:=zx k;exact wq v I m ⟨o,h1,g,i⟩ (by lia) (vH np c) (by rw[k];exact zL L) G
 .have:DH d=BI d:=by
   unfold DH;split
   .exact absurd ⟨_,_,rfl⟩ y
   .rfl
  exact Hx b s f H [x] [u] Q I (.cons B .nil) ⟨O,[d],z,np,rfl,λj Y R h1 g=>by
   cases j with
   |zero=>cases h1;cases g;exact hd
   |succ j=>simp at h1,by show BI d=Zv z;rw[<-this];exact t,G⟩
end
def EY(d e:D):Option (D×Bool):=match d,e with
 | .lst l,.int k=>if 0<=k/\k<1000/\(ZB l)*k.toNat<=sizeLine then Y (.lst (ae k.toNat l).flatten,J) else I
 |_,_=>pk d e
theorem RepL.rep{K U}{O:AP'}{l:List D}{a:List V}(r:RepL K U O l a): ∀n:Nat,RepL K U O (ae n l).flatten (ae n a).flatten
 |0=>RepL.nil
 |n+1=>by rw[sy,sy,xy,xy];exact r.append<|RepL.rep r n
section
variable {X:Cx}
def Nn:OpR X (bH .Mult) (rD X.K EY):=by
 intro g s σ H x y v u Q I N i h;obtain⟨O,d,e,z,np,h1,B,C,G⟩:=h;by_cases E: ∃l k,d= .lst l/\e= .int k
 .obtain⟨l,k,rfl,rfl⟩:=E;obtain⟨⟨W,Z,L⟩,rfl⟩:=iY (show(if 0<=k/\k<1000/\l.length*k.toNat<=sizeLine then Zv (D.lst (ae k.toNat l).flatten,Zx) else Zw)=Zv z from C);obtain⟨p,xs,rfl,q,r⟩:=kn h1;cases N;rw[jr B] at i;obtain⟨t,rfl⟩:=i;obtain⟨b,M,pl,_⟩:=I.list q;obtain⟨⟨S,w,o,Y⟩,n,e,J,_,j⟩:=pl;simp only at J j;subst J j;have A:=r.length;have V:=M.length;have f:b.toArray.size*k.toNat<=sizeLine:=by rw[kj,<-V,A];exact L
  have c: ¬b.toArray.size*k.toNat>(2^63-1) / 8:=by
   have:(sizeLine:Nat)<=(2^63-1) / 8:=by decide
   lia
  have R: ¬(!z9 k)=Zx:=by rw[Go (by lia)<|by lia];exact ku
  have P: ¬cx (b.toArray.size*k.toNat)=Zx:=by rw[EE f];exact ku
  have t7:fh (λx1 x2=>x1++x2) #[] (ae (if b.toArray.isEmpty=Zx then 0 else k.toNat) b.toArray)=(ae k.toNat b).flatten.toArray:=by
   have f0: ∀m:Nat,fh (λx1 x2=>x1++x2) #[] (ae m b.toArray)=(ae m b).flatten.toArray:=λm=>by
    have:=BJ b m []
    rwa [xa] at this
   rw[f0]
   cases b with
   |nil=>simp
   |cons a r'=>rw[jc<|by simp]
  refine wpAny_binaryOp_repeat_ref (T:="list") (U:="int") (by decide) ⟨_,e,rfl⟩ (λs'=>tp s' k t) noFill_list_mul F.fills_int_mul F.slot_int_rmul repeat_list F.slot_int_index.lookup
   (qJ F.slot_int_rmul (tp s k t) F.entry_int_rmul (F.args_int_rmul_2 _ _) (lm_int_rmul_list_any k t p b.toArray n w Y)
    ⟨e,rfl,⟨_,e,rfl⟩,qJ F.slot_list_mul ⟨_,e,rfl⟩ F.entry_list_mul (F.args_list_mul_2 _ _) (lm_list_mul_any p b.toArray n w Y k t R c P) ⟨e,?_⟩⟩)
  rw[t7];exact⟨.ref _,_,I.lnew (t':=s.toks) (M.rep k.toNat)<|by rw[Ra,uW,A];exact L,rfl,G.lst I.fresh<|r.rep k.toNat⟩
 .have:EY d e=pk d e:=by
   unfold EY;split
   .exact absurd ⟨_,_,rfl,rfl⟩ E
   .rfl
  exact nI g s σ H x y v u Q I N i ⟨O,d,e,z,np,h1,B,by rw[<-this];exact C,G⟩
end
section
variable {a:iX}{w:iR}{A:iU}{E:jn}{I:iu}{c b:kI}{n:Nat}{P:Nat->iK->Prop}{St:Nat->iT->Prop}
end
section
variable {X:Cx}{A:jW}{a:bI}{c:kr}{b:List Tg}
end
section
variable {X:Cx}{A:jW}{a b:iI}{c:bI}
variable {e d:iI}{f:F}{x z:ax}{p j g h:bI}{i k:Nat}{L:jW}{l:Hp}
end
def tf(d:D):Option (D×Bool):=match d with
 | .oth .dct a _=>kJ a
 |_=>I
def lX(d e:D):Option (D×Bool):=match e with
 | .oth .dct a b=>if wB a d=J then Y (.bl (!(mS a b d).isSome),C) else I
 |_=>I
section
variable {X:Cx}{b:jq}{c:L2.St}{H:Hp}{s:iC}
def vJ(o:X.A.units+62<aT):OpR X (aJ .NotIn) (rD X.K lX):=by
 intro b s c H x y v u Q U m n h;obtain⟨O,d,e,z,np,h1,l,f,G⟩:=h;by_cases j: ∃g i,e= .oth .dct g i
 .obtain⟨g,i,rfl⟩:=j;obtain⟨hk,rfl⟩:=iY (show(if wB g d=J then Y (D.bl (!(mS g i d).isSome),C) else I)=Y z from f);obtain⟨a,t,rfl,q,r⟩:=nQ l;cases n;exact Xc (by lia) U q r hk h1 m J λp k=>⟨.bl _,H,k,by simp[L2.RelV],G.bl⟩
 .unfold lX at f;split at f
  .exact absurd ⟨_,_,rfl⟩ j
  .cases f
def wM(hc:X.calm=Zx)(J:X.A.units+62<aT):kF X (.builtin "sorted") (rDn X.K<|g1 tf):=nE λb s c H x u Q O d z I W np hd h G=>by
 by_cases T: ∃t M,d= .oth .dct t M
 .obtain⟨t,M,rfl⟩:=T;have U:kJ t=Zv z:=h;obtain⟨a,us,rfl,q,r⟩:=nQ hd;cases W;have E:X.A.handled=Zw:=I.ok.hd hc;rcases q with⟨g,e,rfl,rfl⟩|⟨g,e,rfl,rfl⟩
  .obtain⟨zl,y,Z,f,o,B,S,h1,l,m,n,C,V⟩:=OH I.hok e;have N:=Bk C f;have L:=N.length;simp only[kh,kz] at L;exact ql J I (xQ (O:=O) g) N U G λR F D i p=>TT.OQ y (by rw[i];exact E) ⟨o,h1,l,m⟩ (by lia) λj v k=>p j v k
  .obtain⟨zl,y,Y,f,o,B,S,h1,l,m,n,C,V⟩:=IZ I.hok e;have L:=sG f;have hz:B.size=Y.length:=zx n;refine ql J I (vH np f) (zL (P:=X.prog) (w:=X.w) Y) U G λR F D i p=>TT.OQ y (by rw[i];exact E) ⟨o,h1,l,m⟩ (by lia) λj v k=>?_;rw[n];exact p j v k
 .unfold tf at h;split at h
  .exact absurd ⟨_,_,rfl⟩ T
  .cases h
end
def iD:D->Int
 | .int i=>i
 |_=>0
def U6:D->Option (D×Bool)
 | .lst l=>if l.all isI=J then Y (.int<|lv (λj=>iD<|l.getD j .non)<|ZB l,C) else I
 |_=>I
theorem Au: ∀{c:jy} {b:iO},ei c b-> ∃a:List (Int×wE),c=a.map (λp=>gk p.1 p.2)/\b=a.map (·.1)
 |_,_,.nil=>⟨[],rfl,rfl⟩
 |_,_,.cons n t r=>let⟨a,h1,d⟩:=Au r;⟨(n,t)::a,by rw[h1];rfl,by rw[d];rfl⟩
theorem yp{f g:Nat->Int}: ∀n,(∀j,j<n->f j=g j)->lv f n=lv g n
 |0,_=>rfl
 |n+1,h=>by rw[lv,lv,yp n λj a=>h j<|by lia,h n<|by lia]
section
variable {X:Cx}
def Kl(i:X.calm=Zx):kF X (.builtin "sum") (rDn X.K<|g1 U6):=nE λe s J N x u Q O d z U B np hd b G=>by
 cases d with
 |lst l=>
  obtain⟨h,rfl⟩:=iY b;obtain⟨p,T,rfl,q,r⟩:=kn hd;cases B;obtain⟨t,v,y,_⟩:=U.list q;obtain⟨L,c,n⟩:=Wf h r v;obtain⟨f,g,a⟩:=Au n;have k:X.A.handled=I:=U.ok.hd i
  have o:s.heap.IsList p (intItems f.toArray):=by have:=y.isList;rw[g] at this;simpa[intItems] using this
  refine sum_intListG k o λE M t' w=>?_;refine⟨.int<|lv (λj=>iD<|l.getD j .non)<|ZB l,N,U.kept (t':=M) w,⟨t',?_⟩,G.int⟩;have:(ZB l)=(ZB f):=by rw[c,a];simp
  rw[this,kj]
  congr 1
  refine yp _ λj m=>?_;rw[c,a];simp[numAt,iD,nL,m]
 |_=>cases b
def Va(l:List D):Option Nat:=(oE l).bind λbs=>bs.findIdx? id
def RL(i:Nat):F:=λa=>match a[i]? with
 |some (Y (.lst l,J))=>(Va l).bind λj=>if (ZB l)<=1000 then Y ((.int j,C),a) else I
 |_=>I
def YE(x:V)(b:List V)(U:Hp)(Q:VK):Prop:= ∃(l:iu) (a:List V) (bs:List Bool) (j:Nat),x= .ref l/\b=[.bl J]/\U l=Y (.lst a)/\a=bs.map V.bl/\bs.findIdx? id=Y j/\(ZB bs)<=1000/\Q (.int j) U
theorem HL: ∀{bs:List Bool} {a:jy},Vals (bs.map V.bl) a->a=bs.map cY
 |[],_,.nil=>rfl
 |b::bs,_,.cons r t=>by cases r;rw[HL t];rfl
def NB:MtM X "list.index" YE:=by
 intro c s J N x T v O Q U M B h;obtain⟨l,G,bs,j,rfl,rfl,g,rfl,k,E,q⟩:=h;cases M;obtain⟨u,rfl,w⟩:=B.one;cases w;obtain⟨z,t,n,r,a,e⟩:=U.lstM g;have i:=HL r;subst i;obtain⟨h1,d,f⟩:=List.findIdx?_eq_some_iff_getElem.mp k
 refine qJ F.slot_list_index ⟨_,e,rfl⟩ F.entry_list_index (F.args_list_index_2 _ _)
  (list_indexAt l (bs.map cY).toArray n I #[] (.bool Zx) (λy=>match y with| .bool b=>b|_=>C) j (by simpa using h1) (by lia) (by simpa using d) (λm L p=>?_)) ⟨e,λy o=>?_,⟨.int j,N,U.tok _,⟨_,rfl⟩,q⟩⟩
 .have:=f m p;simpa using this
 .obtain⟨b,_,rfl⟩:=lZ.mp<|List.mem_toArray.mp o;have:=hW (A:=X.A.in1) (s:=s) b Zx;cases b<;>simpa using this
variable {B w c o f:bI}{i:Nat}{x:ax}{g:Nat}
theorem Ia{K:iW}{U:Hp}{O:AP'}: ∀{l:List D} {bs:List Bool} {a:List V},oE l=Y bs->RepL K U O l a->a=bs.map V.bl
 |[],bs,a,h,r=>by cases h;rw[RepL] at r;exact r
 | .bl b::l,bs,a,h,r=>by obtain⟨d,h1,rfl⟩:=jk h;rw[RepL] at r;obtain⟨v,k,rfl,e,j⟩:=r;rw[e.bl,Ia h1 j];rfl
theorem BY: ∀{l:List D} {bs:List Bool},oE l=Y bs->ZB bs=ZB l
 |[],_,h=>by cases h;rfl
 | .bl b::l,_,h=>by obtain⟨a,h1,rfl⟩:=jk h;simp[BY h1]
def MJ(hv:PO X (.Name x w) (iw i))(I:bb (.Name x w) "index" X.env (aE (.Name x w) X.env)=aE (.Name x w) X.env)
  (J:((aP o<|ac [.Constant (.bool Zx) g f] X.env).all (λx=>!x.1)&&(dn o<|ca [] X.env).all (λx=>x.1.isSome)&&decide ([Expr.Constant (.bool Zx) g f].length+([]:List bG).length+(if([]:List bG).isEmpty then 0 else 1)<30))=Zx)
  (C:(c.endLine==o.line)=Zx)(s:ac [.Constant (.bool Zx) g f] X.env=(Zy,aE (.Constant (.bool Zx) g f) X.env)::ac [] X.env)(A:(aP o<|ac [] X.env).any (·.1)=Zy):
  PX X (.Call (.Attribute (.Name x w) "index" c) [.Constant (.bool Zx) g f] [] o) (RL i):=
 PX.imp (Il zk PySem.F.slot_list_index PySem.F.type_list_index NB hv (lu Sj oh s) I J C s A) λW H Q O=>by
 obtain⟨d,T,V,D,E,e,k⟩:=O;unfold RL at e;split at e
 .rename_i l m;obtain⟨j,n,e⟩:=ir e;obtain⟨bs,r,n⟩:=ir n;obtain⟨L,e⟩:=iY e;obtain⟨rfl,rfl⟩:=rA e;refine⟨d,T,.slot i,d,E,by unfold iw;rw[m],λv K P=>?_⟩;obtain⟨u,h,b⟩:=P;obtain⟨a,g1,z,g2,g3⟩:=h.own i _ m;rw[b] at g1;cases g1;refine⟨.inl ⟨rfl,z,SqL.of g2⟩,d,T,_,d,h,rfl,λy R q=>?_⟩;obtain⟨p,U⟩:=q.rep h;have G:=U.bl;subst G;obtain⟨S,t,Y,M,N⟩:=p.own i _ m;rw[b] at t;cases t;refine⟨_,Y,bs,j,rfl,rfl,M,Ia r N,n,by rw[BY r];exact L,?_⟩;exact k _ _ (Post.val (u.trans q.1) p Rep.mkInt)
 .cases e
end
def yM(a:jU)(b:Nat):D->Option (D×Bool)
 | .oth (.exc U) _ _=>if a.contains U=J then Y (.bl<|U==b,C) else I
 |_=>I
def U7(a:jU):D->Option (D×Bool)
 | .oth (.exc U) _ _=>if a.contains U=J then Y (.bl J,C) else I
 |_=>I
section
variable {X:Cx}{e:iI}{fa:FO}{pos p p2:bI}{z:ax}{CL:jU}{D0:Nat}
def U4{g:D->Option (D×Bool)}{f:iK}{i:V}(M:RelV i f)(E: ∀l,RelV i l->l=f)(B: ∀d t,g d=Zv t-> ∃C' b j m,d= .oth (.exc C') j m/\t=(.bl b,C)/\kitOne X.K (.ref C') f=Zv b):
  kF X (.builtin "isinstance") (λn H' Q=> ∃(O:AP') (d:D) (x:V) (b:Bool),n=[x,i]/\ke X.K H' O d x/\g d=Zv (.bl b,C)/\Q (.bl b) H'):=by
 intro k s Y H' n T Q I r h;obtain⟨O,d,x,b,rfl,hd,c,q⟩:=h;obtain⟨u,U,rfl,L,v⟩:=vX r;have:=E _ v;subst this;obtain⟨C',G,j,m,rfl,y,hk⟩:=B _ _ c;cases y;obtain⟨a,T,rfl,oth,_⟩:=nQ hd;cases L;obtain⟨_,o,e,h1,A,J⟩:=oth;exact kia_one (A a) I.kIn (show ObjOk X.prog X.w H' s.heap a (.frz o<|.own 0) from I.hok a _ e).1 hk (λz=>nomatch z) λN=>⟨.bl _,H',I.tok _,rfl,q⟩
def Ie{g:D->Option (D×Bool)}{w2:V}{h:iK}{a:iI}(y:PO X e fa)(c:PE X a (tC w2))(f:RelV w2 h)(U: ∀s,RelV w2 s->s=h)(q: ∀d i,g d=Y i-> ∃C' b r t,d= .oth (.exc C') r t/\i=(.bl b,C)/\kitOne X.K (.ref C') h=Y b)
  (u:Gl X "isinstance")(A:X.mg "isinstance"=I)(hv:ay "isinstance"=Y (.builtin "isinstance"))(s1:ac [e,a] X.env=(C,aE e X.env)::ac [a] X.env)(L:ac [a] X.env=(C,aE a X.env)::ac [] X.env)(w:(aP pos<|ac [a] X.env).any (·.1)=C):
  PX X (.Call (.Name "isinstance" p) [e,a] [] pos) (kB g fa):=by
 refine PX.imp (wj (U4 (X:=X) f U q) u A hv (lu y (lu c oh L) s1) (by decide) (by decide) s1 w) λN H Q f=>?_;obtain⟨O,T,M,G,E,e,k⟩:=f;obtain⟨⟨o,l⟩,h1,e⟩:=ir e;obtain⟨x,c,e⟩:=ir e;obtain⟨i,n,e⟩:=ir e;obtain⟨rfl,rfl⟩:=jd e;obtain⟨C',b,r,t,rfl,rfl,hk⟩:=q _ _ n;refine⟨O,T,o,l,E,h1,λv J m=>?_⟩;have B:=Ops.cons E m<|Ops.nil<|m.er E;exact⟨_,_,v,b,rfl,B.view (j:=0) Zz Zz c,n,(B.done k).bl⟩
structure ClT(K:Frag)(mg:ll)(CL:jU)(D0:Nat)(z:ax):Prop where
 mg:mg z=Zv (.ref D0)
 is: ∀C∈CL,kitOne K (.ref C) (.ref D0)=Zv (C==D0)
def xE(T:Tx X.mg)(c:ClT X.K X.mg CL D0 z)(g:QO X e fa)(b:Gl X "isinstance":=by rfl)(a:Gl X z:=by rfl)(j:DB z:=by decide)(s1:ac [e,.Name z p2] X.env=(C,aE e X.env)::ac [.Name z p2] X.env:=by rfl)(l:SE X (.Name z p2) []:=by rfl)(f:BA X pos [.Name z p2]:=by rfl):
  QX X (.Call (.Name "isinstance" p) [e,.Name z p2] [] pos) (kB (yM CL D0) fa):=⟨Ie (w2:= .ref D0) g.h (Di a c.mg H j) H (λu h=>by cases h;rfl) (λd n h=>by
 unfold yM at h;split at h
 .rename_i U k m;obtain⟨i,rfl⟩:=iY h;exact⟨U,_,k,m,rfl,rfl,c.is U<|by simpa using i⟩
 .cases h) b T.n_isinstance nJ s1 l f⟩
def xEV(T:Tx X.mg)(b:X.mg "ValueError"=I)(hk: ∀U∈CL,kitOne X.K (.ref U) (.type "ValueError")=Y J)(g:QO X e fa)(c:Gl X "isinstance":=by rfl)(a:Gl X "ValueError":=by rfl)(s1:ac [e,.Name "ValueError" p2] X.env=(C,aE e X.env)::ac [.Name "ValueError" p2] X.env:=by rfl)(k:SE X (.Name "ValueError" p2) []:=by rfl)(f:BA X pos [.Name "ValueError" p2]:=by rfl):
  QX X (.Call (.Name "isinstance" p) [e,.Name "ValueError" p2] [] pos) (kB (U7 CL) fa):=⟨Ie (w2:= .ty "ValueError") g.h (yQ (v:= .ty "ValueError") a b (by decide+kernel) H (by decide)<|by decide) H (λu h=>by cases h;rfl) (λd m h=>by
 unfold U7 at h;split at h
 .rename_i U j l;obtain⟨i,rfl⟩:=iY h;exact⟨U,_,j,l,rfl,rfl,hk U<|by simpa using i⟩
 .cases h) c T.n_isinstance nJ s1 k f⟩
variable {x:ax}{i kk:Nat}{b6 apos:bI}{a:iI}{f:F}
def XD(hv:QO X (.Name x b6) (iw i))(d:bb (.Name x b6) "index" X.env (aE (.Name x b6) X.env)=aE (.Name x b6) X.env:=by rfl)
  (j:((aP pos<|ac [.Constant (.bool J) kk p2] X.env).all (λx=>!x.1)&&(dn pos<|ca [] X.env).all (λx=>x.1.isSome)&&decide ([Expr.Constant (.bool J) kk p2].length+([]:List bG).length+(if([]:List bG).isEmpty then 0 else 1)<30))=J:=by rfl)
  (c:(apos.endLine==pos.line)=J:=by rfl)(g:SE X (.Constant (.bool J) kk p2) []:=by rfl)(b:BA X pos []:=by rfl):QX X (.Call (.Attribute (.Name x b6) "index" apos) [.Constant (.bool J) kk p2] [] pos) (RL i):=⟨MJ hv.h d j c g b⟩
end
def Oy(Z:ZZ)(k:Nat)(x:ax)(b:je)(c:List D->Option ax):Prop:= ∃f a,FnOk Z.P Z.w Z.K Z.mg Z.base (CXx Z.P Z.w) k f a b (spR Z.K Z.mg c)/\Z.mg x=Y (.ref f)/\keepIn Z.K (.ref f)=J/\Binds Z.K a b []
def Oy.up{Z:ZZ}{k j:Nat}{x:ax}{c:je}{d:List D->Option ax}(o:Oy Z k x c d)(h:k<=j:=by decide):Oy Z j x c d:=let⟨f,e,a,b⟩:=o;⟨f,e,a.mono h,b⟩
def oyB{Z:ZZ}{k:Nat}{x:ax}{st:bD}{N e:je}{xs:XS}(a:Fz Z.K Z.mg x st)(S:FnScope N e (iB st))(b:BdA x st e)
  (i: ∀(f:iu) (d:iK) (A:iU) (c:List d1) (s:iC) (U:Hp) (E:XK),Room k (A.deeper<|aZ x (iB st) s.heap.objs.size f d)->un (A.deeper<|aZ x (iB st) s.heap.objs.size f d) 60->un (A.deeper<|aZ x (iB st) s.heap.objs.size f d) 1->un (A.deeper<|aZ x (iB st) s.heap.objs.size f d) 62->N.Nodup->
   PZs (pZ (CXx Z.P Z.w) Z.P Z.w Z.K Z.mg Z.base N x (iB st) f d A c s U E) E (lJ st) xs):Oy Z (k+1) x e (xcF (ZB N) (ZB e) xs):=
 let⟨f,h,m,F⟩:=a
 ⟨f,h,Rv F S λd A c s U E g=>by have:=g.un;exact i f d A c s U E g (by unfold un;omega) (by unfold un;omega) (by unfold un;omega) S.nd,m,F.kp,F.binds b⟩
def ClX(Z:ZZ)(z:ax):Prop:= ∃U,Z.mg z=Y (.ref U)/\excIn Z.K U veB "ValueError.__new__"=J
section
variable {X:Cx}{P:iX}{w:iR}{g:List d1}{o:Hp}{s0:iC}{E:XK}{A:jW}{st:bD}{i b:List bD}{x y:XS}{e:iI}{d p r:bI}{f:FS}{z:ax}{a:iI}{n:F}{k:Nat}{q:je}{l:List D->Option ax}{j:kr}{fs:List FO}{m:FT}{c:iI}
def zN(h1:QS X A (λ_=>True) (λ_=>I) st f)(s:PZs X E i x):PZs X E (st::i) (LB f x):=SV h1.h s
def zR(U:XeOk X P w g o s0 E)(c:ClX (zX X) z)(t:QX X a n)(u:X.calm=J:=by rfl)(v:Gl X z:=by rfl)(hd:DB z:=by decide)(T:ac [a] X.env=[(C,aE a X.env)]:=by rfl):PZ X E (.Raise (Y<|.Call (.Name z p) [a] [] r) I d) (Gy z n):=
 let⟨_,B,s⟩:=c;Pn U u s B v t.h hd T
def zI(t:QT X c m)(s:PZs X E i x):PZ X E (.If c i b d) (zIf m x zNo):=XA t.h s Xz
def zC(T:XeOk X P w g o s0 E)(O:Oy (zX X) k z q l)(U:Room k X.A)(t:QA X (e::j) fs)(B:Gl X z:=by rfl)(Q:DB z:=by decide)(v:SE X e j:=by rfl)(s:BA X d j:=by rfl)(N:X.prog=P:=by rfl)(L:X.w=w:=by rfl):PZE X E (.Call (.Name z p) (e::j) [] d) (D9 l fs):=by subst N;subst L;obtain⟨f,G,F,M,hk,u⟩:=O;exact S0 T F U B M hk u t.h Q v s
def zE(h:PZE X E e x)(s:bJ e I d.line X.env=pure C:=by rfl):PZ X E (.Expr e d) x:=SY h s
end
def LD{P:iX}{w:iR}{K:Frag}{d:ll}{base:iT}{N:je}{q:ax}{scope:jL}{c:iu}{cd:iK}{b:kU}{A:iU}{a:List d1}{s:iC}{U:Hp}{E:XK}:
  XeOk (tE (CXx P w) P w K d base N q scope c cd b A a s U E) P w a U s E:=⟨rfl,rfl,rfl,rfl,rfl,rfl,rfl,rfl,λ_ _ h=>h⟩
def R3(q:ax)(a:iu)(U:Hp):Prop:= ∃more,U a=Y (.tbl (#[.str q 0]++more))
def spT(TB:List (iu×ax))(a:Sp):Sp:=λb U Q E=>(∀p∈TB,R3 p.2 p.1 U)/\a b U Q E
structure TabX(X:Cx)(Pt:iu):Prop where
 t:R3 (X.env.qual++"<lambda>") Pt X.H₀
 c: ∃c,X.env.code= .ref c/\CodeHd X.base c Pt
 b:X.base.BuiltinsAt X.mg Pt
 g:am≠Pt
def Rf(Z:ZZ)(st:bD)(g:je)(a e m n l:ax)(i j k:Nat)(c:jU)(h:FS)(f:ax->Option Nat):Prop:=
 ∃fr d CR,Fun Z.K a a st fr d/\Binds Z.K d [e] []/\Z.mg a=Y (.ref fr)/\(∀X:Cx,zX X=Z->RefBody X st g fr a e m n l CR i j (k+1) c h)/\ ∀z b,f z=Y b->Z.mg z=Y (.ref b)/\ClK Z.K b CR
def G9(scope:jL):Bool:=decide (scope.kind= .function)&&!scope.isCoroutine&&!scope.isGenerator&&(scope.names.all λy=>y.2 != .cell)
def WI{scope:jL}(h:G9 scope=J):LamScope scope:=by unfold G9 at h;simp only[lC,mY,vh,dZ,bne_iff_ne] at h;exact⟨h.1.1.1,h.1.1.2,h.1.2,h.2⟩
def xRf{X:Cx}{L:iu}{d:c8}{f:iI}{scope:jL}{p B pf:bI}{l:jU}{N' v:je}{z:F}{xB:XS}{y:FS}{u:ax->Option Nat}{asg:jU}{st:bD}{r xc xr xx xn:ax}{i j k:Nat}
  (R:Rf (zX X) st v r xc xr xx xn i j k asg y u)(q:TabX X L)(hr:Room (k+2) X.A)(C:CompOk X N' scope l 0)(I:G9 scope=Zx)
  (hb: ∀(o:iu) (m:kU) (n:iu) (A:iU) (e:List d1) (s:iC) (H:Hp) (E:XK),Room k (A.deeper<|AH (X.env.qual++"<lambda>") scope s.heap.objs.size o (.ref n) m)->
   QX (tE (CXx X.prog X.w) X.prog X.w X.K X.mg X.base N' (X.env.qual++"<lambda>") scope o (.ref n) m A e s H E) f z/\PZE (tE (CXx X.prog X.w) X.prog X.w X.K X.mg X.base N' (X.env.qual++"<lambda>") scope o (.ref n) m A e s H E) E f xB)
  (M:Gl X r:=by rfl)(T:DB r:=by decide)(Q: ∀x,X.fn x=Zx:=by exact λ_=>rfl)(O:t5 d X.env=([],[]):=by rfl)(m9: ∀m pm n n4,fm (kla_fn "<lambda>" (X.env.qual++"<lambda>") d f scope m pm (.ref n) n4) ⟨[],[]⟩=pure []:=by exact λ_ _ _ _=>rfl)
  (he:SE X (.Lambda d f scope B) []:=by rfl)(J:BA X p []:=by rfl):
  QX X (.Call (.Name r pf) [.Lambda d f scope B] [] p) (Kf l z xB (ZB v) i y u):=by
 obtain⟨fr,W,CR,F,N,S,D,U⟩:=R;obtain⟨more,V⟩:=q.t;obtain⟨c,P,Y⟩:=q.c;exact⟨TZ (D X Zz) F N M S T Q hr V P Y q.b q.g C (WI I) O m9 he J U λo m n A e s H E G=>let⟨a,b⟩:=hb o m n A e s H E G;⟨a.h,b⟩⟩
def walkT{l:OpenLaw}{q:iX}{m:je}{XP:(ax->Option iK)->iT->Prop}{E:iR->iT->Prop}{d:DefRec}{K:Params->Frag}{LV:Nat}{x:ax}{Q:EvF}{TB:List (iu×ax)}(hk:Room LV fX)(hn:l.most=Zv 63)(cO:d.params.defaults=[])(hY: ∀(w:iR) (h:iT),E w h->(K w.params).In h)
  (L: ∀(w:iR) (h:iT),E w h-> ∀p∈TB,h.get? p.1=Zv (tabObj #[]))(fD: ∀(w:iR),∀p∈TB,(K w.params).lookup p.1=I)(eh:(TB.map (·.1)).Nodup)
  (F: ∀(w:iR) (n:ll) (v:iu) (h:iT),(K w.params).In h->h.Ns am n->n d.name=Zv (.ref v)-> ∃I':mD,(∀(s:iC) (u:iK),fY s I' ⟨[u],[]⟩ [(x,u)])/\(∀p∈TB,∃c,codeHdIn (K w.params) c p.1=Zx)/\ ∀base:iT,(K w.params).In base->base.Ns am n->(∀p∈TB,base.BuiltinsAt n p.1)->FnOk l.prog w (K w.params) n base CX0 LV v I' [x] (spT TB<|spF (K w.params) Q))
  (M: ∀A:List Int,ZB A<=63-> ∃o j,Q [(.lst<|A.map .int,Zy)]=Zv ((.bl Zx,o),j)):WalkO q m XP E l.row.toRowW d [] (λf B=>wr f B):=by
 refine Att.RX hn cO λw U D n mb v o pm cd V a B A G Y ho hd l6 O R k i hg=>?_;have C:=hY w _ Y;obtain⟨I',hb,fA,hF⟩:=F w n v _ C G.T.g O;have N:=L w _ Y;refine JY (TB:=TB) C G.T.g G.T.b G.T.builtins G.T.nolimit hg N (fD w) (λp t=>?_) eh (λp t=>?_) R k (ma i<|by decide) hk hF hb (λH J hS=>?_) λH e s' z=>z
 .obtain⟨c,hc⟩:=fA p t;obtain⟨o,B,_,_,_,_,_,_,_,W,X,Z,e4,_⟩:=codeHd_of_K C hc;exact⟨c,o,B,W,X,Z,e4⟩
 .obtain⟨P,ob,h1,h2,r,h4,h5,y⟩:=G.T.bmain;refine⟨P,ob,h1,h2,λz=>?_,λz=>?_,r,h4,h5,y⟩
  .obtain⟨o',es,ep,e,S,_⟩:=G.T.g;rw[z,e] at r;cases r;rw[S] at y;cases y
  .rw[z,N p t] at r;cases r;cases y
 .obtain⟨o,j,e⟩:=M A i;exact⟨λp t=>⟨#[],by rw[J.all p t];rfl⟩,Rh J.all hS e⟩
def YY(TB:List (iu×ax))(U:Hp):Prop:= ∀p∈TB,R3 p.2 p.1 U
def fnU{Z:ZZ}{k:Nat}{x:ax}{st:bD}{N d:je}{c:jU}{fs:FS}{f:iu}{e:mD}{TB:List (iu×ax)}(F:Fun Z.K x x st f e)(S:FnScope N d (iB st))
  (m: ∀(b:iK) (A:iU) (a:List d1) (s:iC) (U:Hp) (E:XK) (L:jW),(∀i,L i->i<ZB d)->Room k (A.deeper<|aZ x (iB st) s.heap.objs.size f b)->
   un (A.deeper<|aZ x (iB st) s.heap.objs.size f b) 60->un (A.deeper<|aZ x (iB st) s.heap.objs.size f b) 1->un (A.deeper<|aZ x (iB st) s.heap.objs.size f b) 62->un (A.deeper<|aZ x (iB st) s.heap.objs.size f b) 90->N.Nodup->
   b=e.code->YY TB U->QQ (pZ CX0 Z.P Z.w Z.K Z.mg Z.base N x (iB st) f b A a s U E).nox (λi=>i∈c) L U (lJ st) fs):
  FnOk Z.P Z.w Z.K Z.mg Z.base CX0 (k+1) f e d (spT TB<|spF Z.K<|evF (ZB N) (ZB d) c fs):=by
 obtain⟨q,r,kV,j,t,p,b,ct,u,rfl,lk,n⟩:=F.ex;refine Oj lk n S (λo U Q E h=>HR h.2) λA a s U o Q E g h=>?_;obtain⟨L,h1,l⟩:=Md h.2;have:=g.un;exact⟨_,((m b A a s U E L h1 g (by unfold un;omega) (by unfold un;omega) (by unfold un;omega) (by unfold un;omega) S.nd H h.1).h).nox,l⟩
def YU{Z:ZZ}{k:Nat}{x q:ax}{st:bD}{N e:je}{asg:jU}{fs:FS}{f c d:iu}{g:mD}{TB:List (iu×ax)}(F:Fun Z.K x x st f g)(t:g.code= .ref c)(n:CodeHd Z.base c d)(m:Z.base.BuiltinsAt Z.mg d)(v:am≠d)(y:(d,q)∈TB)(S:FnScope N e (iB st))
  (r: ∀(f:iu) (b:iK) (A:iU) (a:List d1) (s:iC) (U:Hp) (E:XK) (L:jW),(∀i,L i->i<ZB e)->Room k (A.deeper<|aZ x (iB st) s.heap.objs.size f b)->
   un (A.deeper<|aZ x (iB st) s.heap.objs.size f b) 60->un (A.deeper<|aZ x (iB st) s.heap.objs.size f b) 1->un (A.deeper<|aZ x (iB st) s.heap.objs.size f b) 62->un (A.deeper<|aZ x (iB st) s.heap.objs.size f b) 90->N.Nodup->
   TabX (pZ CX0 Z.P Z.w Z.K Z.mg Z.base N x (iB st) f b A a s U E).nox d->QQ (pZ CX0 Z.P Z.w Z.K Z.mg Z.base N x (iB st) f b A a s U E).nox (λi=>i∈asg) L U (lJ st) fs)
  (z: ∀(L f:iu) (cd:iK),(aZ x (iB st) L f cd).qual++"<lambda>"=q:=by exact λ_ _ _=>rfl):FnOk Z.P Z.w Z.K Z.mg Z.base CX0 (k+1) f g e (spT TB<|spF Z.K<|evF (ZB N) (ZB e) asg fs):=
 fnU F S λb A a s U E L o B h1 h j l T u p=>r f b A a s U E L o B h1 h j l T ⟨by show R3 ((aZ x (iB st) s.heap.objs.size f b).qual++"<lambda>") d U;rw[z];exact p _ y,⟨c,u.trans t,n⟩,m,v⟩
def FzT(K:Frag)(d:ll)(x:ax)(st:bD)(b:iu):Prop:= ∃f a c,d x=Y (.ref f)/\Fun K x x st f a/\a.code= .ref c/\codeHdIn K c b=J
def fzT{K:Frag}{h:iT}{g:ll}{x:ax}{st:bD}{f c d:iu}{m:iK}{n i:Option iu}{p:rY}{kV b o ct:iK}(X:K.In h)(G:h.Ns am g)(a:nsIn K am x=Y (Y<|.ref f))
  (l:K.lookup f=Y ⟨m,n,.func<|fnOf x x (rk st) (lJ st) (iB st) .none kV b o i (.ref c) ct,p⟩)(e:codeIn K (.ref c) x=J)(k:keepIn K (.ref f)=J)(j:codeHdIn K c d=J):FzT K g x st d:=⟨f,_,c,mg_of X G a,Of l e k,rfl,j⟩
def FzT.cd{K:Frag}{d:ll}{x:ax}{st:bD}{b:iu}(a:FzT K d x st b): ∃c,codeHdIn K c b=J:=let⟨_,_,c,_,_,_,h⟩:=a;⟨c,h⟩
section
variable {X:Cx}{k:Nat}{f:iu}{g:mD}{d:je}{x:ax}{p b:bI}{e a:iI}{j:kr}{i:EvF}{fs:List FO}{c:FO}{TB:List (iu×ax)}
def XB(r:X.mg "sum"=I)(m:QA X [a] [c])(n:X.calm=J:=by rfl)(q:Gl X "sum":=by rfl)(o:SE X a []:=by rfl)(l:BA X b []:=by rfl):QX X (.Call (.Name "sum" p) [a] [] b) (jh (g1 U6) [c]):=
 ⟨Ig (Kl n) q r (by decide+kernel) m.h (by decide) (by decide) o l⟩
end
structure ClsK(K:Frag)(mg:ll)(ct rs:List (ax×Nat))(CR:Nat):Prop where
 m: ∀p∈ct,mg p.1=Zv (.ref p.2)
 mr: ∀p∈rs,mg p.1=Zv (.ref p.2)
 is: ∀p∈rs,∀r∈ct,kitOne K (.ref p.2) (.ref r.2)=Zv (p.2==r.2)
 ve: ∀p∈rs,kitOne K (.ref p.2) (.type "ValueError")=Zv Zx
 ck: ∀p∈rs,ClK K p.2 CR
 ex: ∀p∈rs,excIn K p.2 veB "ValueError.__new__"=Zx
 su:mg "sum"=Zw
 vm:mg "ValueError"=Zw
 re:mg "RiddleError"=Zv (.ref CR)
def aN{a:Type}{P:a->Prop}: ∀p∈([]:List a),P p:=λ_ h=>nomatch h
def aC{b:Type}{P:b->Prop}{a:b}{l:List b}(h:P a)(r: ∀p∈l,P p): ∀p∈a::l,P p:=List.forall_mem_cons.mpr ⟨h,r⟩
def ctD(ct:List (ax×Nat))(z:ax):Nat:=(ct.lookup z).getD 0
section
variable {Z:ZZ}{ct a:List (ax×Nat)}{CR:Nat}
def lkM{z:ax}{U:Nat}(h:ct.lookup z=Y U):(z,U)∈ct:=qh h
def ClsK.x(c:ClsK Z.K Z.mg ct a CR)(z:ax)(h:(a.lookup z).isSome=J:=by decide):ClX Z z:=by obtain⟨U,b⟩:=Jn.mp h;exact⟨U,c.mr _ (lkM b),c.ex _ (lkM b)⟩
def ClsK.t(c:ClsK Z.K Z.mg ct a CR)(z:ax)(h:(ct.lookup z).isSome=J:=by decide):ClT Z.K Z.mg (a.map (·.2)) (ctD ct z) z:=by
 obtain⟨U,b⟩:=Jn.mp h;have:ctD ct z=U:=by unfold ctD;rw[b];rfl
 rw[this];refine⟨c.m _ (lkM b),λD d=>?_⟩;obtain⟨p,e,rfl⟩:=lZ.mp d;exact c.is p e _ (lkM b)
def ClsK.v(c:ClsK Z.K Z.mg ct a CR): ∀U∈a.map (·.2),kitOne Z.K (.ref U) (.type "ValueError")=Y J:=λD b=>by obtain⟨p,d,rfl⟩:=lZ.mp b;exact c.ve p d
def ClsK.ci(c:ClsK Z.K Z.mg ct a CR): ∀z b,a.lookup z=Y b->Z.mg z=Y (.ref b)/\ClK Z.K b CR:=λz U h=>⟨c.mr _ (lkM h),c.ck _ (lkM h)⟩
end
def YS{K:Frag}{j:ll}{x y:ax}{st:bD}{i h:iu}(a:FzT K j x st h)(n:j x=Y (.ref i))(b:BdA x st [y]): ∃d c,Fun K x x st i d/\d.code= .ref c/\codeHdIn K c h=J/\ ∀(s:iC) (v:iK),fY s d ⟨[v],[]⟩ [(y,v)]:=by obtain⟨f,d,c,m,F,h1,o⟩:=a;have e:=n.symm.trans m;cases e;refine⟨d,c,F,h1,o,?_⟩;obtain⟨q,r,kV,g,p,k,l,ct,t,e,_⟩:=F.ex;exact λs v=>by subst e;exact .of_eq<|b kV g p k l ct [v] H
section
variable {X:Cx}{x y a b c d:iI}{u v z:ax}{s r q p:FO}{f k j i p4 h:bI}{o n m:Nat}{l g e:dW}
end
end PX
namespace TT
section
variable {a:iX}{w:iR}{A:iU}{E:jn}{s:iC}
def Ny(h:Q₁ (.ref s.heap.objs.size) {s with heap:=s.heap.push (mW #[] 0 (yh w))}):
  cU (ah a w) A (.call (.builtin "set.__new__") ⟨[.type "set"],[]⟩) (wants Q₁ E) s:=by
 refine zt ?_;change ag _ A.in1 (gi "set.__new__" ⟨[.type "set"],[]⟩>>=λ_=>again<|.builtin "set.__new__" ⟨[.type "set"],[]⟩) _ _ s;refine iz<|rB PySem.F.newCall_set_0<|iM ⟨qG KD _,rq PySem.F.entry_set_new ?_⟩;rw[uA KD _];unfold bc.«set.__new__» rc;have e:=sub_set_self;obtain⟨b,g,d,c,os⟩:=s;dsimp only
 wp_walk
 refine xu<|iM ?_;dsimp only;simp only[newObj];refine iz<|Gb<|iM ?_;exact iM h
set_option maxHeartbeats 8000000 in
def Vs{Q:jn}(h:Q (.ref s.heap.objs.size) {s with heap:=s.heap.push (mW #[] 0 (yh w))}):ag (ah a w) A (call (.type "set") []) Q E s:=by
 obtain⟨c,x,k⟩:=Lz.mro;have i:=Lz.made;have y:=Lz.sub;refine zv<|zt ?_;change ag _ _ (callAny (.type "set") ⟨[],[]⟩) _ _ s;refine iM ⟨Code.quiet_builtin _ (by decide+kernel),rq PySem.F.entry_type_call ?_⟩;rw[Around.under_plain (weight_type_call_type "set" ([]:List iK) []) H];have h1:=Lz.notType;have u:=Lz.canCreate;have q:=PySem.F.typeCall_set_0
 repeat (any_goals (first|assumption|wp_step))
 refine uG (Ny (E:=E) (Q₁:=λobj b=>obj= .ref s.heap.objs.size/\b={s with heap:=s.heap.push (mW #[] 0 (yh w))}) ⟨rfl,rfl⟩) λr b j=>?_
 cases r with
 |error e=>exact j
 |ok m=>
  cases m with
  |ret obj=>
   obtain⟨rfl,rfl⟩:=j;have n:(s.heap.push<|mW #[] 0 (yh w)).get? s.heap.objs.size=Y (mW #[] 0 (yh w)):=kc _ rfl;have o:eP {s with heap:=s.heap.push (mW #[] 0 (yh w))} (.ref s.heap.objs.size) "set":=⟨_,n,rfl⟩
   have t:=Lz.init.lookup;have p:=Lz.init.bind<|.ref s.heap.objs.size
   repeat (any_goals (first|assumption|wp_step))
   refine uG (Fx (R:=wants (λr z=>r= .none/\Q (.ref s.heap.objs.size) z) E) Lz.init.plain PySem.F.entry_set_init<|check_set_init o ?_) λf l g=>?_
   .unfold bc.«set.__init__» noKeywords
    wp_walk
    exact⟨rfl,h⟩
   .cases f with
    |error e=>exact g
    |ok d=>
     cases d with
     |ret r=>
      obtain⟨rfl,v⟩:=g
      repeat (any_goals (first|assumption|wp_step))
     |_=>exact g.elim
  |_=>exact j.elim
end
end TT
namespace PX
open L2 PySem.SeqAt
def Ou:F:=λa=>Y ((.oth .set [] [],J),a)
def yA(i:Nat)(f:F):F:=λb=>match b[i]? with
 |some (Y (.oth .set _ _,J))=>(f b).bind λp=>match p.2[i]? with
  |some (Y (.oth .set _ a,J))=>if a.all okS=J/\okS p.1.1=J/\(ZB a)<500 then Y ((.non,C),p.2.set i<|Y (.oth .set []<|DZ a p.1.1,J)) else I
  |_=>I
 |_=>I
def Ot(a:FO):FT:=λb=>(a b).bind λp=>match res p.2 p.1 with
 |some (.lst l)=>Y (!l.isEmpty,p.2)
 |_=>I
section
variable {X:Cx}{e:iI}{f:F}{C:FO}{c g d m p:bI}{i:Nat}{x:ax}
def Qn(h:PO X e C)(w: ∀n,isTrue e X.env n=(do let v <-n;cu e.pos;br [v] (gL v))):PTX X e (Ot C):=PT.imp' (MM h w) λO N Q A=>by
 obtain⟨U,T,b,L,E,e,k⟩:=A;obtain⟨⟨o,s⟩,h1,e⟩:=ir e;refine⟨U,T,o,s,E,h1,λv u P=>?_⟩;dsimp only at e;split at e
 .rename_i l y;obtain⟨rfl,rfl⟩:=jd e;have B:=Ops.cons E P<|Ops.nil<|P.er E;obtain⟨a,t,rfl,q,r⟩:=kn<|B.view (j:=0) H H y;refine⟨!l.isEmpty,.inl ⟨t,q,?_⟩,k u B.keep<|B.er.mono (λ_ _ e _=>e) (λb _ z=>B.tt b z) λa z=>B.er.dom a<|B.tt a z⟩;have:=r.length;cases l<;>cases t<;>simp_all
 .cases e
def P7(j:Gl X "set")(l:X.mg "set"=I):PX X (.Call (.Name "set" p) [] [] c) Ou:=λh s w O Q U n=>by obtain⟨v,T,u,r,E,e,k⟩:=n;cases e;refine sA<|pX U j l Vu ?_ (by decide) (by decide);refine Ch<|TT.Vs ?_;have a:=U.hok.fresh<|jQ s.heap.objs.size;refine⟨.ref s.heap.objs.size,upd O s.heap.objs.size<|.stt [],U.laid (t':=s.toks) (o:= .stt []) (λb t q=>jM _ q) (jQ _) ?_,rfl,(Ops.nil E).done k _ _ a (lr a) ⟨[],⟨rfl,[],ja,.nil⟩,RepL.nil⟩⟩;exact⟨#[],0,_,kc _ rfl,.nil,TT.TabOk.fresh _ _ _,rfl,rfl⟩
def P8(hu:X.A.units+90<aT)(hn:PO X (.Name x g) (iw i))(he:PX X e f)(f9:bb (.Name x g) "add" X.env (aE (.Name x g) X.env)=aE (.Name x g) X.env)
  (i7:((aP m<|ac [e] X.env).all (λx=>!x.1)&&(dn m<|ca [] X.env).all (λx=>x.1.isSome)&&decide ([e].length+([]:List bG).length+(if([]:List bG).isEmpty then 0 else 1)<30))=J)
  (f7:(d.endLine==m.line)=J)(hs:ac [e] X.env=(Zy,aE e X.env)::ac [] X.env)(d8:(aP m<|ac [] X.env).any (·.1)=Zy):
  PX X (.Call (.Attribute (.Name x g) "add" d) [e] [] m) (yA i f):=λB s L H Q I hw=>by
 obtain⟨G,T,rr,δ',E,j,k⟩:=hw;unfold yA at j;split at j
 case h_2=>cases j
 rename_i k0 w0 Z;obtain⟨⟨r,h⟩,h1,j⟩:=ir j;dsimp only at j;split at j
 case h_2=>cases j
 rename_i k1 V D;obtain⟨⟨o1,o2,o3⟩,j⟩:=iY j;obtain⟨rfl,rfl⟩:=rA j;refine Lm f9 i7 f7 Zz<|thn (hn B s L H (λv J'=>PostO X.K T L G H (.slot i) G v J') I ⟨G,T,.slot i,G,E,by unfold iw;rw[Z],λ_ _ P=>P⟩) λv s1 b'=>?_;obtain⟨y,J',I1,r1,K1,U,q⟩:=b';obtain⟨a,g1,us0,⟨_,zs,g2,_⟩,g3⟩:=U.own i _ Z;rw[q] at g1;cases g1;cases r1;obtain⟨es,n,t,M,_⟩:=(show ObjOk X.prog X.w J' s1.heap a (.stt zs) from I1.hok a _ g2)
 refine⟨"set","set.add",PySem.F.plainAttrs_set,KC,PySem.F.type_set_add,⟨_,M,rfl⟩,λb eb=>by cases eb;exact⟨_,M,rfl⟩,?_⟩;have hA:=lu he oh hs m B s1 L J' (λV O=> ∃y,V=[y]/\Post X.K T L G J' r h y O) I1 ⟨G,T,r,h,U,h1,λy O P=>⟨y,rfl,P⟩⟩;rw[hs] at hA ⊢;refine Gg (by show(Zy||(aP m<|ac [] X.env).any (·.1))=Zy;rw[d8];rfl)<|Gf<|thn hA λus s2 b'=>?_;obtain⟨ws,O,Y',r2,y,hy,P2⟩:=b';subst hy;obtain⟨u,rfl,ru⟩:=r2.one;obtain⟨W,ry⟩:=P2.rep U;obtain⟨a',q1,us,q2,q3⟩:=W.own i _ D;rw[q] at q1;cases q1;obtain⟨es,n,t,l,S⟩:=OthB.setV Y' q2 q3;refine nO KC ⟨_,S.is.at_,rfl⟩ PySem.F.entry_set_add ?_<|PySem.F.args_set_add_2 _ _;unfold bc.«set.add» eG;simp only[xg,uB];unfold df;refine iz<|iM ?_
 try dsimp only
 refine iz<|SetV.add Y' S o1 (.inl ry) ry ru o2 o3 (by show X.A.units+1+60<aT;lia) λb h' tk es' n' t' R ht y9 N=>?_;show ag _ _ (ret au) _ _ _;have rl: ∀p∈R,Rep X.K O (λa=>OwnA L h a\/T a) p.1 p.2:=N.rep;have oa:OwnA L h a:=⟨i,_,D,q⟩
 have kp: ∀(M:HO) b u,O b=Y u-> ¬(OwnA L h b\/T b)->upd O a M b=Y u:=λM b u e n=>by rw[jb<|by intro z;subst z;exact n<|.inl oa];exact e
 obtain⟨cX,z1,z2⟩:=N.oth (K:=X.K) (H':=upd O a<|.stt<|R.map hv) (O':=λa=>OwnA L h a\/T a) (λp hp=>Rep.mono (kp _) (λ_ _ z=>z)<|rl p hp) ja;obtain⟨E4,K4⟩:=W.writeG (o:= .stt (R.map hv)) (d':= .oth .set [] (DZ V r.1)) D q ⟨cX,z1,z2⟩;refine iM ⟨_,rfl,.non,_,?_,rfl,k _ _ (Post.val ((K1.trans P2.1).trans K4) E4 Rep.mkNon)⟩;obtain⟨us2,zs2,g4,_⟩:=q2;exact um (t':=tk) Y' (by rw[g4];exact be) y9 ⟨_,N.is.at_⟩ N.objOk
def R8(o:X.A.units+90<aT)(l:QO X (.Name x g) (iw i))(k:QX X e f)(j:bb (.Name x g) "add" X.env (aE (.Name x g) X.env)=aE (.Name x g) X.env:=by rfl)
  (q:((aP c<|ac [e] X.env).all (λx=>!x.1)&&(dn c<|ca [] X.env).all (λx=>x.1.isSome)&&decide ([e].length+([]:List bG).length+(if([]:List bG).isEmpty then 0 else 1)<30))=J:=by rfl)
  (b:(d.endLine==c.line)=J:=by rfl)(n:SE X e []:=by rfl)(a:BA X c []:=by rfl):QX X (.Call (.Attribute (.Name x g) "add" d) [e] [] c) (yA i f):=⟨P8 o l.h k.h j q b n a⟩
def tTr(h:QO X e C)(b: ∀a,isTrue e X.env a=(do let v <-a;cu e.pos;br [v] (gL v)):=by exact λ_=>rfl):QT X e (Ot C):=⟨Qn h.h b⟩
def VQ{p:bI}(b:X.mg "set"=I)(a:Gl X "set":=by rfl):QX X (.Call (.Name "set" p) [] [] c) Ou:=⟨P7 a b⟩
end
open PySem.W
section
variable {X:Cx}{E:XK}{A:jW}{c iter:iI}{a:List bD}{d:FIt}{t:Tg}{e:FS}{x:XS}{b:bI}
end
def Ov(a:FO):F:=λb=>(a b).bind λp=>match res p.2 p.1 with
 |some d=>if(wz d).isSome=J then Y ((.oth .dct [d] [.bl J],J),p.2) else I
 |none=>I
def TmpO.le{T:AP'}{o:Opd}{v:V}{a:iu}(h:T a):TmpO T o v a:=by cases o<;>first|exact .inl h|exact h
section
variable {X:Cx}{k:iI}{h:FO}{f g:bI}{j:Nat}
def Qd(hu:X.A.units+62<aT)(hk:PO X k h):PX X (.Dict [Zv k] [.Constant (.bool J) j g] f) (Ov h):=λC s r H Q I hw=>by
 obtain⟨i,T,rr,δ',E,e,kq⟩:=hw;obtain⟨⟨o,L⟩,h1,e⟩:=ir e;dsimp only at e;split at e
 case h_2=>cases e
 rename_i d hd;obtain⟨bu,e⟩:=iY e;obtain⟨rfl,rfl⟩:=rA e;obtain⟨G,x⟩:=Jn.mp bu;have l:=I.hok.fresh<|jQ s.heap.objs.size;generalize N:s.heap.objs.size=p at l;have Z:=I.laid (a:=p) (o:= .dT []) (h':=s.heap.push {cls:= .type "dict",data:= .dict #[]}) (t':=s.toks) (λ_ _ q=>jM _ q) (FA N)<|N▸OF s.heap I.big;have F:PostO X.K T r i H (.val (.oth .dct [] [],J)) i (.ref p) (upd H p<|.dT []):=((Ops.nil E).done (Q:=λv W=>Post X.K T r i H (.oth .dct [] [],J) i v W) λ_ _ P=>P) p _ l (lr l) ⟨[],.inr ⟨[],ja,rfl,rfl⟩,RepL.nil⟩;have O:=F.er E;rw[arm_eval_Dict,zip_pairTrees [Zv k] [.Constant (.bool J) j g] X.env f Zz Zz,dictDisplay_pairs _ (λz=>by cases z) (by show 1<17;decide)];refine iz<|xH<|iz ?_;unfold subDict;refine iz<|Gb ?_;refine iz<|lM ?_;rw[iP (by show 1<=15;decide),N];refine iz<|pairTrees_cons_walk<|thn (hk C _ r _ (λv m=>PostO X.K _ r i (upd H p<|.dT []) o L v m) Z ⟨i,_,o,L,O,h1,λ_ _ P=>P⟩) λkv s1 ⟨y,m,J',r1,P⟩=>Sr<|evalPairs_nil ?_;have B:=Ops.cons E F<|Ops.cons O P<|Ops.nil<|P.er O;obtain⟨b,rfl,U⟩:=oF x<|B.view (j:=1) Zz Zz hd;cases r1;have np: ¬OwnA r i p:=λz=>E.ownDom z l;have R:TmpO T (.val (.oth .dct [] [],J)) (.ref p) p:= .inr ⟨rfl,rfl⟩;have np1: ¬OwnA r i p:=np;have M:m p=Zv (.dT []):=P.keep.kp p _ ja np;obtain⟨z,t,xs,D,dd⟩:=IZ J'.hok M;cases D;refine lM<|iz ?_;rw[zu];refine iz<|iz<|te (show(cB<|ky X.prog X.w).room X.A from(by show X.A.units<aT;lia)) (qW J'.hok U) dd (λh' dy hs=>iM ?_) (by simp);dsimp only;rw[f8];refine iM<|iM<|iM<|iM ?_;obtain⟨q,es,ep,V,h2,h3,h4,_,h5⟩:=dy;have i5:b≠p:=Nz U M (λz=>nomatch z)
 have dm: ∀a,m a≠Zw->upd m p (.dT [(G,.bl J)]) a≠Zw:=λa z=>by
  by_cases S:a=p
  .subst S;rw[ja];simp
  .rw[jb S];exact z
 refine⟨.ref p,upd m p<|.dT [(G,.bl J)],um J' (by rw[M];exact be) hs ⟨q,V⟩ ⟨by rw[jH];simp,t,[(G,b,.bool J)],.cons ⟨rfl,by rw[jb i5];exact U,rfl⟩ .nil,q,es,ep,V,h2,h3,h4,h5⟩,rfl,kq _ _ ⟨⟨λa u q n=>?_,B.keep.owi,λa z=>dm a<|B.keep.dm a z⟩,p,rfl,l,B.er.mono (λc u q n=>?_) (λc _ z=>?_) λc z=>?_,[.bl J],.inr ⟨[(G,.bl J)],ja,?_,rfl⟩,RepL.one Rep.mkBl⟩⟩
 .rw[jb (λz=>by subst z;rw[q] at l;cases l)];exact B.keep.kp a u q n
 .rw[jb λz=>by subst z;exact n<|TmpO.le R];exact q
 .rcases z with z|rfl
  .exact TmpO.le (.inl z)
  .exact TmpO.le R
 .by_cases Y:c=p
  .subst Y;rw[ja];trivial
  .rw[jb Y];rcases z with z|z
   .exact(P.er O).dom c (TmpO.le<|.inl z)
   .exact absurd z Y
 .rw[sY x];rfl
end
section
variable {X:Cx}{c:jq}{f:L2.St}{H:Hp}{s:iC}
variable {a:iI}{g:FO}{b p:bI}{k:iI}{d:FO}{e:bI}{j:Nat}
def xDT(i:X.A.units+62<aT)(hk:QO X k d):QX X (.Dict [Y k] [.Constant (.bool J) j e] b) (Ov d):=⟨Qd i hk.h⟩
end
end PX
namespace TT
open PySem.SeqAt
def BO:pw F1 "dict.update.loop"=Y bc.«dict.update.loop»:=entryFor_of_tree (by kernel_rfl)
def ud:plainId "dict.update.loop"=J:=by decide+kernel
section
variable {prog:iX}{w:iR}{A:iU}{R:ms->Shared->Prop}{I:iu}{c a:kI}{G:Array eD->Array eD->Prop}{n:Nat}{P:Nat->iK->Prop}{St:Nat->Shared->Prop}
def Kj(W:WalksS prog w A.in1 I c a G n P St)(S:iu)(O:S∉c)(s0:iC)(j:Nat->iT->Prop)(stay: ∀i h f,j i h->(∀o,h.get? S=Zv o->f.get? S=Zv o)->j i f)
  (step: ∀i v (d:iC),i<n->P i v->j i d.heap->IX (S::a) G s0 d-> ∃p k x,v= .ref p/\d.heap.IsTuple p #[k,x]/\ ∀(Q:Unit->Shared->Prop) (E:jn),(∀f H',d.toks<=H'->aI S d.heap f->j (i+1) f->Q () {d with heap:=f,toks:=H'})->ag (ah prog w) A.in1 (TW S k x) Q E d):
  ∀(k i:Nat) (s:iC),n-i=k->i<=n->St i s->j i s.heap->IX (S::a) G s0 s->(∀d,IX (S::a) G s0 d->j n d.heap->R (.ok<|.ret .none) d)->
   cU (ah prog w) A (.builtin "dict.update.loop" ⟨[.ref S,.ref I,cZ i,.none],[]⟩) R s:=by
 have l:S∉a:=λh=>O<|W.sub _ h;have N: ∀b∈a,b∈S::a:=λb m=>jX _ m;intro k
 induction k with
 |zero=>
  intro i s hk X C y t u;have D:i=n:=by lia
  subst D;refine rq BO ?_;rw[uA ud _];show ag _ A.in1 (cM (.ref I)>>=_) _ _ s;refine iz<|W.done s _ _ C λd q=>?_;show ag _ A.in1 (A1 S []>>=λ_=>ret au) _ _ d;exact iz<|iM<|iM<|u d (Moved.trans W.gtrans t<|q.mono N)<|stay _ _ _ y λo e=>q.heap S o l e
 |succ k ih=>
  intro i s hk X C y t u;have B:i<n:=by lia
  refine rq BO ?_;rw[uA ud _];show ag _ A.in1 (cM (.ref I)>>=_) _ _ s;refine iz<|W.item i s _ _ B C λv d F r q=>?_;have T:=Moved.trans W.gtrans t<|q.mono N;obtain⟨p,M,x,rfl,Z,g⟩:=step i v d B F (stay _ _ _ y λo e=>q.heap S o l e) T;show ag _ A.in1 (br [.ref p] _>>=_) _ _ d;refine iz<|lM ?_;obtain⟨o,J,V,n',Y⟩:=Z;have K:d.TypeIs (.ref p) "tuple":=⟨o,J,V⟩
  refine iz<|EQ ?_;unfold AC;refine iz<|sh K ?_;show ag _ _ (seqItems? (.ref p)>>=_) _ _ _;refine iz<|qF J Y ?_;refine iM ?_;show ag _ _ (br [M,x]<|TW S M x) _ _ _;refine lM<|g _ _ λf H' L U z=>?_;refine iM ⟨qG ud _,ih (i+1) _ (by lia) B (W.frame _ d _ _ r L λb m o e=>?_) z (T.then_heap L λb o m e=>?_) u⟩
  .rw[U.2 b λh:b=S=>O<|by rw[<-h];exact m];exact e
  .rw[U.2 b λh:b=S=>m<|by rw[h];exact jT];exact e
end
end TT
namespace PX
open L2 PySem.SeqAt TS
section
variable {prog:iX}{w:iR}{A:iU}{E:jn}{s:iC}
def Q3:tl (.type "list") "keys"=pure I:=by rw[FK,FH];kernel_rfl
def UR{a:iu}{o:e6}{q:mU}{k:Nat}{Q:Bi}(n:s.heap.get? a=Y o)(m:o.cls= .type "list")(j:o.data= .seq q k)(hd:o.dict=I)(t:A.handled=I)
  (h: ∀b p e,Heap.NewExcOf s.heap b e "AttributeError"->Q I {s with heap:=b,toks:=p}):ag (ah prog w) A (Gc (.ref a) "keys") Q E s:=by
 obtain⟨c,dct,r,v⟩:=o;simp only at m j hd;subst m j hd;obtain⟨u,g,d,p,os⟩:=s;have l: ∀f,(⟨u,g,d,f,os⟩:Shared).TypeIs (.ref a) "list":=λ_=>⟨_,n,rfl⟩
 have f1:=sub_AttributeError;have x:=Pk.lookup;have y:=Pk.bind<|.ref a;have z:=am_list_getattr_none;unfold Gc getAttrBy? getAttrBy
 repeat (any_goals (first|assumption|exact l _|((with_reducible show ag _ _ (call (cS "list.__getattribute__") _ _) _ _ _);refine qJ Pk (l _) am_entry_list_getattribute (F.args_list_getattribute_2 _ _) (meets_getattribute_miss_list a q k v "keys" _ Q3 (by decide+kernel)) ⟨n,t,λb f e i=>?_⟩)|wp_step))
 obtain⟨T,U,B⟩:=i.there;show ag _ _ (tV _ _ _ _ _ _ _) _ _ _;unfold tV
 repeat (any_goals (first|assumption|wp_step))
 exact h _ _ _ i.of
end
end PX
namespace TT
open PySem.SeqAt
section
variable {prog:iX}{w:iR}{A:iU}{E:jn}{s:iC}
noncomputable abbrev Hq:Obj:={cls:= .type "dict",data:= .dict #[]}
def SN{l:iu}{a:mU}{n:Nat}{r:e6}{Q:jn}(N:A.handled=Zw)(U:s.heap.get? l=Zv r)(y:r.cls= .type "list")(O:r.data= .seq a n)(gv:r.dict=Zw)(j:Nat->iT->Prop)
  (stay: ∀i h d,j i h->(∀o,h.get? s.heap.objs.size=Zv o->d.get? s.heap.objs.size=Zv o)->j i d)
  (oy: ∀d,d.get? s.heap.objs.size=Zv Hq->j 0 d)
  (step: ∀i v (c:iC) (B:iU),B.units<=A.units+20->a[i]?=Zv v->j i c.heap->(∀b o,s.heap.get? b=Zv o->c.heap.get? b=Zv o)->c.gens=s.gens->c.drawn=s.drawn->c.os=s.os->
   ∃p k x,v= .ref p/\c.heap.IsTuple p #[k,x]/\ ∀(Q:Unit->Shared->Prop) (E:jn),(∀d t,c.toks<=t->aI s.heap.objs.size c.heap d->j (i+1) d->Q () {c with heap:=d,toks:=t})->ag (ah prog w) B (TW s.heap.objs.size k x) Q E c)
  (h: ∀(d:iT) (t:Nat),j a.size d->(∀b o,s.heap.get? b=Zv o->d.get? b=Zv o)->Q (.ref s.heap.objs.size) {s with heap:=d,toks:=t}):
  ag (ah prog w) A (call (.type "dict") [.ref l]) Q E s:=by
 refine IN (Q₁:=λobj g=>obj= .ref s.heap.objs.size/\g={s with heap:=s.heap.push Hq}) F.kt_called_dict (F.kt_typeCall_dict_1 _) F.entry_dict_init (kt_code_dict_new _ ⟨rfl,rfl⟩) ?_;rintro obj g ⟨rfl,rfl⟩;have T:(s.heap.push Hq).get? s.heap.objs.size=Zv Hq:=kc _ rfl;have M:eP {s with heap:=s.heap.push Hq} (.ref s.heap.objs.size) "dict":=⟨_,T,rfl⟩
 have u:(s.heap.push Hq).get? l=Zv r:=jM _ U;have H:eP {s with heap:=s.heap.push Hq} (.ref l) "list":=⟨_,u,y⟩
 refine⟨M,F.args_dict_init_2 _ _,?_⟩;unfold bc.«dict.__init__»;refine iz ?_;unfold At;refine iz<|KP M ?_;show ag _ _ (pure (s.heap.objs.size,[bg l])) _ _ _;refine iM ?_;show ag _ _ (fI "dict.__init__" s.heap.objs.size (.ref l) [] .none) _ _ _;unfold fI;refine iz<|sh H ?_;rw[iP<|by decide];refine iz<|PX.UR u y O gv (by simp[N]) λh1 tk1 e1 z=>?_;have m:h1.IsList l a:=⟨_,z.keeps _ _ u,y,n,O⟩
 have L:=z.keeps _ _ T;have hlS:l<s.heap.objs.size:=jN U;have J:s.heap.objs.size<h1.objs.size:=jN L;have q:l≠h1.objs.size:=by lia
 have X:s.heap.objs.size∉[h1.objs.size,l]:=by simp only[kT,my,nM,qe];lia
 have I:A.in1.in1.handled=Zw:=by simp[N]
 have W:=Walks.list (prog:=prog) (w:=w) I h1.objs.size l q a;show ag _ _ (rule _>>=λ_=>en (.ref l)>>=λit=>again<|.builtin "dict.update.loop" ⟨[.ref s.heap.objs.size,it,cZ 0,.none],[]⟩) _ _ _;refine iz<|sf ?_;refine iz<|zy m ?_;refine iM ⟨qG ud _,?_⟩
 have ext: ∀{G:Array eD->Array eD->Prop} {s0 c:iC},(∀b o,h1.get? b=Zv o->s0.heap.get? b=Zv o)->IX (s.heap.objs.size::[h1.objs.size]) G s0 c-> ∀b o,s.heap.get? b=Zv o->c.heap.get? b=Zv o:=λ{G s0 c} h0 f b o e=>by have hb:=jN e;exact f.heap b o (by simp only[kT,my,nM,qe];lia)<|h0 _ _ (z.keeps _ _ (jM _ e))
 refine Kj W.toS s.heap.objs.size X _ j stay ?st (a.size-0) 0 _ (by lia) (lL _) ⟨⟨_,kc _ rfl,rfl,rfl⟩,m.push _⟩ (oy _ (jM _ L)) (IX.refl λ_=>rfl) ?hR
 case st=>exact λi v c hi hP C f=>step i v c _ (by show A.units+1+1<=A.units+20;lia) hP C (ext (λ_ _ e=>jM _ e) f) f.gens f.drawn f.os
 case hR=>intro c f D;have ex:=ext (λ_ _ e=>jM _ e) f;obtain⟨d,Z,P,Y,K⟩:=c;have S:Z=s.gens:=f.gens;have R:P=s.drawn:=f.drawn;have V:K=s.os:=f.os;subst S;subst R;subst V;exact⟨rfl,h d Y D ex⟩
end
end TT
namespace PX
open L2 PySem.SeqAt
noncomputable def kyT:D->Option (List Key)
 | .tup [k,.bl J]=>wz k
 |_=>I
noncomputable def JZ:List D->Option (List<|List Key)
 |[]=>Y []
 |d::l=>(kyT d).bind λk=>(JZ l).map (k:: ·)
def Av:D->Option (D×Bool)
 | .lst l=>(JZ l).bind λa=>if (ZB a)<=1000/\a.Nodup then Y (.oth .dct (a.map λk=> .tup (k.map kg))<|a.map λ_=> .bl J,J) else I
 |_=>I
noncomputable abbrev kvT(a:List (List Key)):List (List Key×V):=a.map λk=>(k,V.bl J)
def Rl: ∀{l:List D} {a:List (List Key)},JZ l=Y a->ZB l=ZB a/\ ∀(i:Nat) k,a[i]?=Y k-> ∃d,wz d=Y k/\l[i]?=Y (.tup [d,.bl J]):=by
 intro j
 induction j with
 |nil=>intro a h;cases h;exact⟨rfl,λi p h=>by simp at h⟩
 |cons d l g=>
  intro a h;obtain⟨p,h1,h⟩:=ir h;obtain⟨m,f,rfl⟩:=jk h;obtain⟨c,e⟩:=g f;refine⟨by simp[c],λi q b=>?_⟩
  cases i with
  |zero=>
   simp at b;subst b;unfold kyT at h1;split at h1
   .exact⟨_,h1,rfl⟩
   .cases h1
  |succ i=>simpa using e i q (by simpa using b)
def WJ{P:iX}{w:iR}{U:Hp}{h:iT}(ok:HOk P w U h): ∀{l:List (List Key×V)} {m:List (List Key×iu×iK)},L2.KT U l m-> ∀x∈m,(cB<|ky P w).is h x.1 x.2.1:=by
 intro l m q
 induction q with
 |nil=>intro x a;exact nomatch a
 | @cons p q d f b t c=>
  intro x a;rcases kT.mp a with e|a
  .subst e;exact qW ok (by rw[<-b.1];exact b.2.1)
  .exact c x a
def II{U:Hp}{l:List (List Key×V)}{m:List (List Key×iu×iK)}(q:L2.KT U l m):m.map (·.1)=l.map (·.1):=by
 induction q with
 |nil=>rfl
 |cons a t b=>rw[jY,jY,b,a.1]
def Rm{U:Hp}{l:List (List Key×V)}{m:List (List Key×iu×iK)}{p q}(h:L2.KT U l m)(a:p.1=q.1/\U q.2.1=Y (.tup<|p.1.map kV)/\RelV p.2 q.2.2):L2.KT U (l++[p]) (m++[q]):=by
 induction h with
 |nil=>exact .cons a .nil
 |cons h t b=>exact .cons h b
def Ro{U b:Hp}{l:List (List Key×V)}{m:List (List Key×iu×iK)}(c: ∀a u,U a=Y u->b a=Y u)(h:L2.KT U l m):L2.KT b l m:=by
 induction h with
 |nil=>exact .nil
 |cons h t d=>exact .cons ⟨h.1,c _ _ h.2.1,h.2.2⟩ d
def TJ{K:iW}{U:Hp}{O:AP'}: ∀a:List (List Key),RepL K U O (a.map λ_=> .bl J) ((kvT a).map (·.2)):=by
 intro c
 induction c with
 |nil=>exact RepL.nil
 |cons _ a b=>exact RepL.cons Rep.mkBl<|b
def DIs(P:iX)(w:iR)(U:Hp)(S:iu)(c:List (List Key))(h:iT):Prop:= ∃m:List (List Key×iu×iK),L2.KT U (kvT c) m/\ ∃o a b,h.get? S=Y o/\o.ExactDict/\o.data= .dict a b/\a.toList=m.map (t0<|cB<|ky P w)/\(m.map (·.1)).Nodup
section
variable {X:Cx}
def HA(hu:X.A.units+62<aT)(hc:X.calm=Zx):kF X (.type "dict") (rDn X.K<|g1 Av):=nE λT s σ H x u Q O d z I ru np hd J G=>by
 cases d with
 |lst l=>
  obtain⟨f,V,J⟩:=ir J;obtain⟨⟨hz,S⟩,rfl⟩:=iY J;obtain⟨p,xs,rfl,q,r⟩:=kn hd;cases ru;obtain⟨n,v,⟨ol,nn,gq,cG,gv,fg⟩,_⟩:=I.list q;obtain⟨e0,y⟩:=Rl V;have e1:=r.length;have e2:=v.length;have hh:X.A.handled=Zw:=I.ok.hd hc;have t7:=I.fresh
  refine TT.SN hh gq cG fg gv (λi h=>DIs X.prog X.w H s.heap.objs.size (f.take i) h)
   (λi h h' ⟨m,k,o,Y',U,e,c⟩ st=>⟨m,k,o,Y',U,st _ e,c⟩) (λh' e=>⟨[],.nil,_,#[],0,e,⟨rfl,rfl,rfl⟩,rfl,rfl,pJ⟩) (λi w s' B hB hi ⟨m,hk,hd⟩ M eg ed eo=>?_) (λh' tk ⟨m,hk,hd⟩ M=>?_)
  .have hil:i<n.length:=by have:=(Kx.mp hi).1;simpa using this
   have hw:n[i]?=Y w:=by simpa using hi
   have C:f[i]?=Y f[i]:=jt (by lia);have L:xs[i]?=Y xs[i]:=jt (by lia);obtain⟨w',w1,w2⟩:=v.get L;rw[hw] at w1;cases w1;obtain⟨dk,F,R⟩:=y i _ C;have E:Rep X.K H O (.tup [dk,.bl Zx]) xs[i]:=r.views R L;obtain⟨h1,g1,dr1,tk1,os1⟩:=s';dsimp only at M eg ed eo hd;subst eg;subst ed;subst eo;have N:Inv X T σ H {s with heap:=h1,toks:=tk1}:=I.kept M;obtain⟨a,ys,ea,sq,g⟩:=lz<|.inl E;rw[ea] at w2;cases w2;obtain⟨b9,v2,cj,_⟩:=N.tuple sq;rw[RepL] at g;obtain⟨y1,r1,rfl,p1,g⟩:=g;rw[RepL] at g;obtain⟨y2,r2,rfl,p2,g⟩:=g;rw[RepL] at g;subst g;obtain⟨b,rfl,hb⟩:=oF F<|.inl p1;rw[Rep] at p2;subst p2;obtain⟨u1,u2,rfl,Z,ru2⟩:=vX v2;cases Z;refine⟨a,_,_,rfl,cj,λQ' E' hq=>?_⟩;obtain⟨o,Y',U,g1,g2,g3,g4,g5⟩:=hd
   have hm:f[i]∉m.map (·.1):=by rw[II hk];intro fk;rw[km] at fk;obtain⟨x,hx,e⟩:=lZ.mp fk;obtain⟨j,P,e3⟩:=zf hx;rw[rE] at P;rw[List.getElem_take] at e3;have i5:=Pe.mp S j i (by lia) (by lia) (by lia);exact i5<|e3.trans e
   have gS:gU m f[i]=Zw:=atKey_none_of_get λj p' P=>hm<|lZ.mpr ⟨_,mG P,rfl⟩
   have hml:m.length<=1000:=by have:=mV dB<|II hk;simp at this;lia
   refine te (knd:=cB<|ky X.prog X.w) (k:=f[i]) (show(cB<|ky X.prog X.w).room B from(by show B.units<aT;lia)) (qW N.hok hb) (xs:=m) ⟨o,Y',U,g1,g2,g3,g4,WJ N.hok hk,g5⟩ (λh2 t y9=>hq h2 _ (Nat.le_add_right _ _) y9 ?_) (by rw[jH];lia);rw[storedH_new gS] at t;obtain⟨o',D,et,k1,k2,k3,k4,_,k5⟩:=t;refine⟨_,?_,o',D,et,k1,k2,k3,k4,k5⟩;rw[F3,C];show L2.KT H (f5 _ (f.take i++[f[i]])) _;rw[nK];exact Rm hk ⟨rfl,hb,ru2⟩
  .have W:n.toArray.size=f.length:=by simp;lia
   rw[W,List.take_length] at hk;refine⟨.ref s.heap.objs.size,upd H s.heap.objs.size<|.dT<|kvT f,I.laid M (jQ _) ⟨?_,?_,m,Ro (λa u e=>by rw[jb<|kP e t7];exact e) hk,hd⟩,rfl,?_⟩
   .rw[kh,jH];lia
   .have:=I.big;simp only[yZ,ne_eq]
    lia
   .refine G s.heap.objs.size _ t7 (lr t7) ⟨(kvT f).map (·.2),.inr ⟨kvT f,ja,?_,rfl⟩,?_⟩
    .rw[km];rfl
    .exact TJ _
 |_=>cases J
variable {a:iI}{g:FO}{p f:bI}
def XF(k:X.A.units+62<aT)(j:X.mg "dict"=I)(c:QA X [a] [g])(d:X.calm=J:=by rfl)(i:Gl X "dict":=by rfl)(e:SE X a []:=by rfl)(b:BA X f []:=by rfl):QX X (.Call (.Name "dict" p) [a] [] f) (jh (g1 Av) [g]):=
 ⟨Ic (HA k d) i j (by decide+kernel) c.h (by decide) (by decide) e b⟩
end
mutual
theorem Rep.fr{K U}{O c:AP'}(h: ∀b,c b->Ow (U b)): ∀{d:D} {v:V},D.pr d=J->Rep K U O d v->Rep K U c d v
 | .int _,_,_,r=>by rw[Rep] at r ⊢;exact r
 | .tup l,_,p,r=>by rw[D.pr] at p;obtain⟨a,f,rfl,s,e⟩:=r.tup;exact Rep.mkTup ⟨s.1,λz=>(h a z).nt f s.1⟩<|RepL.fr h p e
 | .non,_,p,_=>by simp[D.pr] at p
 | .bl _,_,p,_=>by simp[D.pr] at p
 | .str _,_,p,_=>by simp[D.pr] at p
 | .lst _,_,p,_=>by simp[D.pr] at p
 | .oth _ _ _,_,p,_=>by simp[D.pr] at p
theorem RepL.fr{K U}{O a:AP'}(h: ∀b,a b->Ow (U b)): ∀{l:List D} {vs:List V},D.prL l=J->RepL K U O l vs->RepL K U a l vs
 |[],_,_,r=>r
 |d::l,_,p,r=>by rw[D.prL,lC] at p;rw[RepL] at r ⊢;obtain⟨v,q,e,h1,c⟩:=r;exact⟨v,q,e,Rep.fr h p.1 h1,RepL.fr h p.2 c⟩
end
def okR:D×Bool->Bool
 |(.lst l,J)=>D.prL l
 |(.bl _,C)=>J
 |(d,C)=>D.pr d
 |_=>C
def vN(b:EvF)(fs:List FO):F:=λc=>(ki fs c).bind λp=>(kb p.2 p.1).bind λargs=>(b<|args.map λa=>(a.1,C)).bind λq=>if okR q.1=J then Y (q.1,p.2) else I
section
variable {K:iW}{T y:AP'}{m:L2.St}{t c:Dn}{H s n:Hp}{os:List Opd}{g:List V}{f:List (D×Bool)}{u:Dn}{r:D×Bool}{v:V}
def Q2{g:List V}{a:iu}: ¬OwnA (g.map Y) ((f.map λa=>(a.1,C)).map Y) a:=λ⟨j,d,h,_⟩=>by simp at h
def OU(E:ER K H T m t)(B:Ops K T m t H os g c s y)(Q:kb c os=Y f):ER K s (λ_=>False) (g.map Y) ((f.map λa=>(a.1,C)).map Y):=by
 obtain⟨M,G⟩:=nH Q;refine⟨by simp[M,B.len],λj d h=>?_,λj d h=>by simp at h,λj k d e a h=>by simp at h,λa z=>absurd z Q2,λa z=>z.elim⟩;have h:=rV.mp h;rw[kD] at h;obtain⟨⟨l,b⟩,L,h⟩:=jk h;obtain rfl:l=d:=by cases h;rfl
 obtain⟨o,h1,A⟩:=G j _ L;have J:j<(ZB g):=by have:=(rT.mp h1).1;have:=B.len;lia
 have hv:g[j]?=Y g[j]:=jt J;refine⟨_,rV.mpr hv,?_⟩;have sub: ∀{O:AP'} (b:iu),s b≠I->(OwnA (g.map Y) ((f.map λa=>(a.1,C)).map Y) b\/False)->O b:=λb _ z=>z.elim (λz=>absurd z Q2) aW
 cases o with
 |val q=>
  have:q.1=l:=by cases A;rfl
  subst this;exact Rep.mono (λ_ _ e _=>e) sub<|B.rep E h1 hv
 |slot i=>
  have N:c[i]?=Y (Y (l,b)):=oG A;have U:=B.slt j i _ h1 hv
  cases b with
  |false=>
   obtain⟨w,p,x⟩:=B.er.val i l N;rw[U] at p;have:g[j]=w:=by simpa using p
   rw[this];exact Rep.mono (λ_ _ e _=>e) sub x
  |true=>
   obtain⟨w,p,x⟩:=B.er.own i l N;rw[U] at p;have:g[j]= .ref w:=by simpa using p
   rw[this];exact x.rep (λz=>z.elim (λz=>absurd z Q2) aW) sub
def Kp(E:ER K H T m t)(B:Ops K T m t H os g c s y)(P:Post K (λ_=>False) (g.map Y) ((f.map λa=>(a.1,C)).map Y) s r u v n)(ok:okR r=J):
  Post K T m t H r c v n:=by
 have up: ∀a o,s a=Y o->n a=Y o:=λa o e=>P.1.kp a o e Q2;have h: ∀a,y a->Ow (n a):=λa z=>(B.er.dom a z).up<|up a;have j:ER K n y m c:=B.er.mono (λb o e _=>up b o e) (λ_ _ z=>z) h;have i: ∀b,(OwnA m c b\/T b)->Ow (n b):=λb z=>z.elim j.ownOw λz=>h b<|B.tt b z;have A:ER K n T m c:=j.mono (λ_ _ e _=>e) (λb _ z=>B.tt b z) λa z=>h a<|B.tt a z;have q:=B.keep.trans<|Keep.ext up;obtain⟨d,b⟩:=r
 cases b with
 |false=>
  refine⟨q,A,?_⟩
  cases d with
  |bl x=>have:=P.2.2;rw[Rep] at this ⊢;exact this
  |_=>exact Rep.fr i ok P.2.2
 |true=>
  cases d with
  |lst l=>
   obtain⟨p,rfl,k,Q,O,e,L⟩:=P.2;have w:Ow (n p):=by rw[e];trivial
   refine⟨q,p,rfl,?_,B.er.mono (λb o e _=>up b o e) (λb U z=>z.elim (B.tt b) λz=>absurd (z▸k) U) λa z=>z.elim (λz=>h a<|B.tt a z) λz=>z▸w,O,e,RepL.fr (λb z=>?_) ok L⟩
   .cases N:H p with
    |none=>rfl
    |some G=>exact absurd k<|B.keep.dm p (by rw[N];simp)
   .rcases z with z|z|z
    .exact i b (.inl z)
    .exact i b (.inr z)
    .exact z▸w
  |_=>cases ok
end
section
variable {X:Cx}{e:iI}{b:kr}{fs:List FO}{a p:bI}{k:Nat}{d:je}{c:EvF}{x:ax}
def xUB(O:Oz (zX X) k x d c)(y:Room k X.A)(s:QA X (e::b) fs)(u:Gl X x:=by rfl)(C:DB x:=by decide)
  (t:SE X e b:=by rfl)(n:BA X a b:=by rfl):QX X (.Call (.Name x p) (e::b) [] a) (vN c fs):=
 let⟨_,_,ok,w,I',m⟩:=O;⟨PX.imp (Dj ok y u w I' m (.nil) Sq s.h C t n) λU H Q z=>by
 obtain⟨G,T,N,J,E,e,k⟩:=z;obtain⟨⟨os,g⟩,h1,e⟩:=ir e;obtain⟨i,o,e⟩:=ir e;obtain⟨⟨r,f⟩,q,e⟩:=ir e;obtain⟨ok,e⟩:=iY e;obtain⟨rfl,rfl⟩:=rA e;refine⟨G,T,os,g,E,h1,λL l M B=>?_⟩;show spF X.K c (L++[]) l Q L2.E0;rw[vq];exact⟨_,_,r,f,OU E B o,q,λv j P=>k v j<|Kp E B P ok⟩⟩
end
def ozD{Z:ZZ}{k:Nat}{x:ax}{st:bD}{N d:je}{c:jU}{fs:FS}(a:Fz Z.K Z.mg x st)(S:FnScope N d (iB st))(e:Bd Z k x st N d c fs)(b:BdA x st d:=by intro _ _ _ _ _ _;repeat' (first|exact us0 rfl|refine us1 λ_=>?_)):Oz Z (k+1) x d (evF (ZB N) (ZB d) c fs):=ozB a S b e
end PX
set_option backward.eqns.nonrecursive true
namespace PV
open L2 PX
noncomputable abbrev Ku:Nat:=100000
abbrev RD:Nat:=6
def yz:FS:=iL (kN<|fIf (fT<|iN (rQ .Gt) (iw 1)<|iA<|fC<|.int 0) (iN gIx (iw 0)<|iA<|iN gSub (iw 1)<|iA<|fC<|.int 1)<|kB nA<|iA<|iN gIx (iw 0)<|iA<|iN gSub (iA<|kB nA<|iw 1)<|iA<|fC<|.int 1) iZ
def mT:EvF:=evF 2 2 [] yz
def pv:FS:=iL (sIf (fT<|iN (rQ .Lt) (iw 1)<|iA<|jh (g1 yc) [iw 0]) (iL (kN<|iN gIx (iw 0)<|iw 1) iZ) iZ)<|iL (kN<|fC<|.int 0) iZ
def mm:EvF:=evF 2 2 [] pv
def qY:FS:=iL (jD 2<|iQ mm [iw 0,iw 1])<|iL (sIf (fT<|iN (rQ .GtE) (iw 2)<|iA<|iN J9 (iA<|fC<|.int 10)<|iA<|fC<|.int 18) (iL (kN<|lq [iN gSub (iw 2)<|iA<|iN J9 (iA<|fC<|.int 10)<|iA<|fC<|.int 18,fC<|.bl J]) iZ) iZ)<|iL (kN<|lq [iN A9 (iw 2)<|iA<|fC<|.int 2147483647,fC<|.bl C]) iZ
def mx:EvF:=evF 3 2 [2] qY
def tj:FS:=iL (sIf (fT<|iN gIx (iw 0)<|iA<|fC<|.int 1) (iL (jD 2<|iN A9 (iA<|iN gIx (iw 0)<|iA<|fC<|.int 0)<|iw 1)<|iL (xP 0 (iN Od (iA<|iN gIx (iw 0)<|iA<|fC<|.int 0)<|iw 1)<|iA<|fC<|.int 0)<|iL (pN 2) iZ) iZ)<|iL (xP 0 (iN A9 (iA<|iN lP (iA<|iN pk (iA<|iN gIx (iw 0)<|iA<|fC<|.int 0)<|iA<|fC<|.int 48271)<|iA<|fC<|.int 29)<|iA<|fC<|.int 2147483647)<|iA<|fC<|.int 0)<|iL (jD 3<|iN A9 (iA<|iN lP (iA<|iN lP (iA<|iN pk (iA<|iN gIx (iw 0)<|iA<|fC<|.int 0)<|iA<|iN gIx (iw 0)<|iA<|fC<|.int 0)<|iA<|iN pk (iA<|fC<|.int 39373)<|iA<|iN gIx (iw 0)<|iA<|fC<|.int 0)<|iA<|fC<|.int 7)<|iA<|fC<|.int 2147483629)<|iL (jD 3<|iN A9 (iA<|iN lP (iA<|iN pk (iw 3)<|iw 3)<|iA<|iN pk (iA<|fC<|.int 16807)<|iw 3)<|iA<|fC<|.int 2147483587)<|iL (kN<|iN A9 (iA<|iN Od (iw 3)<|iA<|fC<|.int 8)<|iw 1) iZ
def jf:EvF:=evF 4 2 [2,3] tj
def Aw:FS:=iL (jD 2<|jh (gRg .lst J) [iA<|fC<|.int 1,iA<|iN lP (iw 1)<|iA<|fC<|.int 1])<|iL (jD 3<|lq [])<|iL (pV (EU<|iw 1) (iF 4)<|iL (lU<|kY 3<|iN pk (iA<|vO 2<|iA<|iQ jf [iw 0,iA<|jh (g1 yc) [iw 2]])<|iA<|iN gIx (iA<|lq [fC<|.int 1,kB nA<|iA<|fC<|.int 1])<|iA<|iQ jf [iw 0,iA<|fC<|.int 2]) iZ)<|iL (kN<|jh (g1 ny) [iw 3]) iZ
def pD:EvF:=evF 5 2 [2,3,4] Aw
def oA:FS:=iL (kN<|iN pk (iA<|iN gIx (iw 0)<|iA<|iN gSub (iA<|jh (g1 E6) [iw 1])<|iA<|fC<|.int 1)<|iA<|iN gIx (iA<|lq [fC<|.int 1,kB nA<|iA<|fC<|.int 1])<|iA<|jh (g1 Oc) [iA<|iN (rQ .Lt) (iw 1)<|iA<|fC<|.int 0]) iZ
def ji:EvF:=evF 2 2 [] oA
def mQ(a:EvF):FS:=iL (sIf (fT<|kB (yd [.tuple,.list])<|iw 1) (iL (sIf (yO (fT<|iN gNe (iA<|kB (yd [.tuple])<|iw 0)<|iA<|kB (yd [.tuple])<|iw 1)<|fT<|iN gNe (iA<|kB (yd [.list])<|iw 0)<|iA<|kB (yd [.list])<|iw 1) (iL (kN<|fC<|.bl C) iZ) iZ)<|iL (kN<|Hk (iN gEq (iA<|jh (g1 yc) [iw 0])<|iA<|jh (g1 yc) [iw 1])<|jh (g1 E5) [iA<|jI [] 2 (Ap (iw 0)<|iw 1) (qk [iF 0,iF 1]) kK<|jA<|iQ a [iw 0,iw 1]]) iZ) iZ)<|iL (kN<|Hk (iN gEq (iw 0)<|iw 1)<|iN gEq (iA<|kB (yd [.bool])<|iw 0)<|iA<|kB (yd [.bool])<|iw 1) iZ
def jJ:Nat->EvF
 |0=>λ_=>I
 |m+1=>evF 2 2 []<|mQ<|jJ m
def Bb:FS:=iL (kN<|jh (g1 ny) [iA<|jh (g1 yb) [iA<|jI [1] 1 (jx<|ju 0) (iF 1) kK<|jA<|iQ mT [iw 0,iw 1]]]) iZ
def mK:EvF:=evF 2 2 [] Bb
def Kc:FS:=iL (kN<|jh (g1 ny) [iA<|jI [1] 1 (jx<|ju 0) (iF 1) kK<|jA<|iQ mT [iw 0,iw 1]]) iZ
def qz:EvF:=evF 2 2 [] Kc
def Og:FS:=iL (kN<|jh (gRg .tup C) [iA<|fC<|.int 1,iA<|iN lP (iw 0)<|iA<|fC<|.int 1]) iZ
def pB:EvF:=evF 1 1 [] Og
def wG:FS:=iL (jD 2<|jI [0] 1 (vM (iA<|fC<|.int 1)<|iA<|iN lP (iw 1)<|iA<|fC<|.int 1) (iF 1) (fT<|iN gEq (iA<|iQ jf [iw 0,iA<|fC<|.int 2])<|iA<|fC<|.int 0)<|jA<|iN pk (iw 1)<|iA<|iN gIx (iA<|lq [fC<|.int 1,kB nA<|iA<|fC<|.int 1])<|iA<|iQ jf [iw 0,iA<|fC<|.int 2])<|iL (sIf (fT<|iN gEq (iw 2)<|iA<|lq []) (iL (jD 2<|lq [iN pk (iA<|iN lP (iA<|fC<|.int 1)<|iA<|iQ jf [iw 0,iw 1])<|iA<|iN gIx (iA<|lq [fC<|.int 1,kB nA<|iA<|fC<|.int 1])<|iA<|iQ jf [iw 0,iA<|fC<|.int 2]]) iZ) iZ)<|iL (kN<|jh (g1 ny) [iw 2]) iZ
def la:EvF:=evF 3 2 [2] wG
def rR:FS:=iL (jD 2<|jI [1] 1 (jx<|ju 0) (iF 1) kK<|jA<|mJ [jh (g1 E6) [iA<|iQ ji [iw 0,iw 1]],iQ ji [iw 0,iw 1]])<|iL (kN<|jh (g1 ny) [iA<|jI [] 2 (jx<|jh (g1 mw) [iw 2]) (qk [iF 0,iF 1]) kK<|jA<|ju 1]) iZ
def jB:EvF:=evF 3 2 [2] rR
def yg:FS:=iL (sIf (fT<|iN gEq (iw 1)<|iA<|fC<|.int 0) (iL (kN<|mJ [fC<|.int 0,mJ []]) iZ) iZ)<|iL (jD 2<|iN gIx (iA<|lq [fC<|.int 3,fC<|.int 5,fC<|.int 12])<|iA<|iQ jf [iw 0,iA<|fC<|.int 3])<|iL (jD 3 Ox)<|iL (pV (EU<|iA<|iQ jf [iw 0,iA<|iN lP (iw 2)<|iA<|fC<|.int 1]) (iF 4)<|iL (uI 3 (fC<|.bl J)<|iA<|iQ la [iw 0,iw 1]) iZ)<|iL (jD 5<|iQ pD [iw 0,iw 1])<|iL (jD 6<|iN EY (iA<|jh (g1 DH) [iw 3])<|iA<|iN gIx (iA<|lq [fC<|.int 1,fC<|.int 0])<|iA<|iQ jf [iw 0,iA<|fC<|.int 2])<|iL (ml (fT<|iN gNe (iw 6)<|iA<|lq []) (iL (jD 7<|iQ jB [iA<|fPop 6,iw 5])<|iL (sIf (fT<|iN lX (iw 7)<|iw 3) (iL (uI 3 (fC<|.bl J)<|iw 7)<|iL (lU<|kY 6<|ju 7) iZ) iZ) iZ) Ku)<|iL (kN<|mJ [ju 1,jh (g1 ny) [iA<|AD (iA<|jh (g1 tf) [iw 3])<|iA<|fC<|.int 30]]) iZ
def kO:EvF:=evF 8 2 [2,3,4,5,6,7] yg
def DK:FS:=iL (kN<|jI [] 1 (vM (iA<|kB nA<|iw 0)<|iA<|iN lP (iw 0)<|iA<|fC<|.int 1) (iF 0) (fT<|iN gNe (iw 0)<|iA<|fC<|.int 0)<|jA<|ju 0) iZ
def oD:EvF:=evF 1 1 [] DK
def ye:FS:=iL (kN<|jI [0] 2 (jx<|ju 1) (iF 1) kK<|OZ (jx<|iQ oD [iw 0]) (iF 2) (wI (fT<|iN lg (iw 2)<|iw 1)<|fT<|iN lg (iA<|kB nA<|iw 2)<|iw 1)<|jA<|iN lP (iw 1)<|iA<|mJ [ju 2]) iZ
def lB:EvF:=evF 2 2 [] ye
def yf:FS:=iL (PL (qk [iF 2,iF 3])<|ju 0)<|iL (jD 4<|lq [mJ []])<|iL (pV (vM (iA<|fC<|.int 1)<|iA<|iN lP (iw 2)<|iA<|fC<|.int 1) (iF 5)<|iL (jD 6<|jI [5] 1 (jx<|ju 3) (iF 1) (fT<|iN gEq (iA<|jh (g1 E6) [iA<|iN gIx (iw 1)<|iA<|kB nA<|iA<|fC<|.int 1])<|iw 0)<|jA<|ju 1)<|iL (jD 4<|jI [1,6] 1 (jx<|iQ lB [iw 2,iw 4]) (iF 2) (fT<|jh (g1 E5) [iA<|jI [0,2] 1 (jx<|ju 1) (iF 2) kK<|jA<|iN gIn (iA<|iQ mK [iw 2,iw 1])<|iw 0])<|jA<|ju 2) iZ)<|iL (pN 4) iZ
def nC:EvF:=evF 7 2 [2,3,4,5,6] yf
def Ay:FS:=iL (kN<|fIf (fT<|iN gEq (iA<|jh (g1 yc) [iA<|iN gIx (iw 0)<|iA<|fC<|.int 1])<|iA<|jh (g1 yc) [iA<|iN gIx (iw 1)<|iA<|fC<|.int 1]) (iQ nC [iw 0,iA<|iN gIx (iw 1)<|iA<|fC<|.int 1])<|lq []) iZ
def tx:EvF:=evF 2 2 [] Ay
def Ba:FS:=iL (kN<|iQ tx [iw 0,iw 0]) iZ
def pY:EvF:=evF 1 1 [] Ba
def CT:List (ax×Nat):=[("NoName",37),("NoBit",49),("NoTurning",61),("NoAnswer",73),("NoNumber",85),("NoClause",97),("NoPutting",109),("TooMany",121),("NoRiddle",133),("BadNote",145)]
def kQ(ct a:List (ax×Nat)):FS:=(iL (sIf (fT<|iN gIs (iw 1)<|iA<|fC .non) (iL (kN<|fC .non) iZ) iZ) (iL (jD 3 (lq [(kB (yM (a.map (·.2))<|ctD ct "NoName")<|iw 1),(kB (yM (a.map (·.2))<|ctD ct "NoBit")<|iw 1),(kB (yM (a.map (·.2))<|ctD ct "NoTurning")<|iw 1)])) (iL (jD 3 (iN lP (iw 3) (iA (lq [(kB (yM (a.map (·.2))<|ctD ct "NoAnswer")<|iw 1),(kB (yM (a.map (·.2))<|ctD ct "NoNumber")<|iw 1),(kB (yM (a.map (·.2))<|ctD ct "NoClause")<|iw 1)])))) (iL (jD 3 (iN lP (iw 3) (iA (lq [(kB (yM (a.map (·.2))<|ctD ct "NoPutting")<|iw 1),(kB (yM (a.map (·.2))<|ctD ct "TooMany")<|iw 1),(kB (yM (a.map (·.2))<|ctD ct "NoRiddle")<|iw 1)])))) (iL (lU (kY 3 (kB (yM (a.map (·.2))<|ctD ct "BadNote")<|iw 1))) (iL (sIf (yO (pz (fT (kB (U7 (a.map (·.2)))<|iw 1)))<|fT<|iN gNe (iA<|jh (g1 U6) [iA<|jI [] 1 (Aq<|iw 3) (iF 0) kK<|jA<|jh (g1 Oc) [iw 0]])<|iA<|fC<|.int 1) (iL (kN<|fC<|.str "none of these") iZ) iZ)<|iL (jD 4<|lq [fC<|.str "name",fC<|.str "bit",fC<|.str "turning",fC<|.str "answer",fC<|.str "number",fC<|.str "clause",fC<|.str "putting",fC<|.str "many",fC<|.str "riddle",fC<|.str "note"])<|iL (kN<|iN gIx (iw 4)<|iA<|RL 3) iZ))))))
def He:FS:=iL (jD 2 Ou)<|iL (lU<|yA 2<|iQ pB [iw 0])<|iL (jD 3<|lq [iQ pB [iw 0]])<|iL (ml (Ot<|iw 3) (iL (jD 4<|lq [])<|iL (pV (jx<|ju 3) (iF 5)<|iL (pV (jx<|ju 1) (iF 6)<|iL (jD 7<|iQ qz [iw 5,iw 6])<|iL (sIf (fT<|iN wF (iw 7)<|iw 2) (iL (lU<|yA 2<|ju 7)<|iL (lU<|kY 4<|ju 7) iZ) iZ) iZ) iZ)<|iL (jD 3<|ju 4) iZ) Ku)<|iL (kN<|jh (g1 sZ) [iw 2]) iZ
def nB:EvF:=evF 8 2 [2,3,4,5,6,7] He
def E7:FS:=iL (jD 2<|jh (gRg .tup C) [iA<|fC<|.int 1,iA<|iN lP (iw 0)<|iA<|fC<|.int 1])<|iL (jD 3<|Ov<|iw 2)<|iL (jD 4<|lq [ju 2])<|iL (ml (fT<|iN gNe (iw 4)<|iA<|lq []) (iL (jD 5<|fPop 4)<|iL (pV (jx<|ju 1) (iF 6)<|iL (jD 7<|jh (g1 ny) [iA<|jI [6] 1 (jx<|ju 5) (iF 1) kK<|jA<|iQ ji [iw 0,iw 1]])<|iL (sIf (fT<|iN lX (iw 7)<|iw 3) (iL (uI 3 (fC<|.bl J)<|iw 7)<|iL (lU<|kY 4<|ju 7) iZ) iZ) iZ) iZ) Ku)<|iL (kN<|jh (g1 tf) [iw 3]) iZ
def nV:EvF:=evF 8 2 [2,3,4,5,6,7] E7
def lH:FS:=iL (sIf (fT<|iN (rQ .Gt) (iw 0)<|iA<|fC<|.int 4) (iL GJ iZ) iZ) iZ
def kR:EvF:=evF 1 1 [] lH
def lE:XS:=zIf (fT<|iN (rQ .Gt) (iw 0)<|iA<|fC<|.int 4) (Gy "TooMany" (fC<|.str "the riddle has more than four names")) zNo
def oN:List D->Option Str:=xcF 1 1 lE
def rL:FS:=iL (jD 1<|iN gIx (iw 0)<|iA<|fC<|.int 0)<|iL (lU<|iQ kR [iw 1])<|iL (jD 2<|lq [])<|iL (jD 3<|vN nB [iw 1,iw 2])<|iL (pV (jx<|iQ pY [iw 0]) (iF 4)<|iL (sIf (fT<|iN lg (iw 4)<|iw 3) (iL (lU<|kY 2<|ju 4)<|iL (jD 3<|vN nB [iw 1,iw 2]) iZ) iZ) iZ)<|iL (kN<|jh (g1 ny) [iw 2]) iZ
def jZ:EvF:=evF 5 1 [1,2,3,4] rL
def mO:XS:=LB (jD 1<|iN gIx (iw 0)<|iA<|fC<|.int 0)<|D9 oN [iw 1]
def mP:List D->Option Str:=xcF 5 1 mO
def yN:FS:=iL (jD 1<|lq [mJ []])<|iL (pV (EU<|iw 0) (iF 2)<|iL (jD 3<|lq [])<|iL (pV (jx<|ju 1) (iF 4)<|iL (jD 5<|jI [4] 1 (vM (iA<|fC<|.int 1)<|iA<|iN lP (iw 0)<|iA<|fC<|.int 1) (iF 1) (wI (fT<|iN lg (iw 1)<|iw 0)<|fT<|iN lg (iA<|kB nA<|iw 1)<|iw 0)<|jA<|ju 1)<|iL (lU<|qZ 3<|jI [4] 1 (jx<|jh (g1 mw) [iA<|iN lP (iw 5)<|iA<|jI [] 1 (jx<|ju 5) (iF 0) kK<|jA (kB nA (iw 0))]) (iF 1) kK<|jA<|iN lP (iw 0)<|iA<|mJ [ju 1]) iZ)<|iL (jD 1<|ju 3) iZ)<|iL (pN 1) iZ
def oj:EvF:=evF 6 1 [1,2,3,4,5] yN
def oi:FS:=iL (pV (jx<|iN gIx (iw 0)<|iA<|fC<|.int 1) (iF 3)<|iL (sIf (fT<|iN lX (iA<|iQ jB [iw 3,iw 2])<|iw 1) (iL (kN<|fC<|.bl C) iZ) iZ) iZ)<|iL (kN<|fC<|.bl J) iZ
def mR:EvF:=evF 4 3 [3] oi
def DJ:FS:=iL (jD 1<|jh (g1 Av) [iA<|jI [] 1 (jx<|iN gIx (iw 0)<|iA<|fC<|.int 1) (iF 0) kK<|jA<|mJ [ju 0,fC<|.bl J]])<|iL (kN<|jI [0,1] 1 (jx<|iQ oj [iA<|iN gIx (iw 0)<|iA<|fC<|.int 0]) (iF 2) (fT<|iQ mR [iw 0,iw 1,iw 2])<|jA<|ju 2) iZ
def rg:EvF:=evF 2 1 [1] DJ
def AQ:List (ax×Nat):=[("TooMany",121)]
def DI:FS:=iL (jD 1<|iQ rg [iw 0])<|iL (jD 2<|iQ jZ [iw 0])<|iL (sIf (yO (pz<|fT<|kB (yd [.tuple])<|iw 2)<|fT<|iN gNe (iA<|iQ jZ [iw 0])<|iw 2) (iL (kN<|fC<|.bl C) iZ) iZ)<|iL (jD 3<|iQ nV [iA<|iN gIx (iw 0)<|iA<|fC<|.int 0,iA<|lq []])<|iL (pV (Dz 0<|ju 2) (qk [iF 4,iF 5])<|iL (sIf (yO (pz<|fT<|jh (g1 Kb) [iA<|jI [5] 1 (jx<|ju 1) (iF 1) kK<|jA<|iQ (jJ RD) [iw 0,iw 1]])<|fT<|iN gIn (iw 5)<|iw 3) (iL (kN<|fC<|.bl C) iZ) iZ)<|iL (jD 3<|iQ nV [iA<|iN gIx (iw 0)<|iA<|fC<|.int 0,iA<|AD (iw 2)<|iA<|iN lP (iw 4)<|iA<|fC (.int 1)]) iZ)<|iL (kN<|iN gEq (iw 3)<|iw 1) iZ
def kZ:EvF:=evF 6 1 [1,2,3,4,5] DI
def Ax:FS:=iL (sIf (yO (fT<|iN gNe (iA<|iQ jZ [iA<|mJ [fC<|.int 0,mJ []]])<|iA<|mJ [])<|yO (pz<|fT<|iQ kZ [iA<|mJ [fC<|.int 1,mJ []]])<|pz<|fT<|iQ kZ [iA<|mJ [fC<|.int 2,mJ []]]) (iL (kN<|fC<|.bl C) iZ) iZ)<|iL (pV (EU<|iA<|jh (g2 Ob) [iA<|fC<|.int 1,iA<|jh (g2 Oa) [iA<|jh (g1 yc) [iw 0],iA<|fC<|.int 4]]) (iF 1)<|iL (jD 2<|iQ mx [iw 0,iw 1])<|iL (sIf (pz<|fT<|iQ kZ [iA<|iQ kO [iw 2,iA<|iN gIx (iA<|lq [iQ jf [(iw 2),(iA<|fC<|.int 5)],fC<|.int 3,fC<|.int 4])<|iA<|iQ jf [iw 2,iA<|fC<|.int 3]]]) (iL (kN<|fC<|.bl C) iZ) iZ)<|iL (jD 3<|iQ kO [iw 2,iA<|fC<|.int 5])<|iL (sIf (fT<|iN gNe (iA<|Kf [3] (iQ jZ [iw 0]) (D9 mP [iw 0]) 5 1 (kQ CT AQ) λz=>AQ.lookup z)<|iA<|fC<|.str "many") (iL (kN<|fC<|.bl C) iZ) iZ) iZ)<|iL (kN<|fC<|.bl J) iZ
def uP:EvF:=evF 4 1 [1,2,3] Ax
end PV
namespace K43
open L2 PX PV
noncomputable def top(i:Nat):Stmt:=PySem.Challenge.pw_twinriddles_k43_few_that_span.main.body.getD i<|.Pass ⟨0,0,0,0⟩
abbrev TB43:List (iu×ax):=[(317,"law.<locals>.<lambda>")]
section
variable {Z:ZZ}{k:Nat}
abbrev kW:Stmt:=top 14
def oS:FnScope ["names"] ["names"] (iB kW):=scM
abbrev mX(Z:ZZ)(k:Nat):Prop:=Oz Z k "check_few_names" ["names"] kR
def pF:BdA "check_few_names" kW ["names"]:=λ_ _ _ _ _ _=>us1 λ_=>us0 H
abbrev pL(Z:ZZ)(k:Nat):Prop:=Oy Z k "check_few_names" ["names"] oN
def vB{CR:Nat}(a:Fz Z.K Z.mg "check_few_names" kW)(T:Tx Z.mg)(c:ClsK Z.K Z.mg CT AQ CR)(d: ∃t,Z.mg "FEW_NAMES"=Y (.int 4 t)):pL Z (k+1):=by have S:=oS;have m:= @tL;refine oyB (xs:=lE) a S pF λf g A b s U E h e j i l=>?_;exact(Gx<|zI (tCmp ⟨ue (.inr<|.inr<|.inl H) e⟩ xV<|xO<|x5 d)<|Gx<|zR tL (c.x "TooMany") x4)
def vK(a:Fz Z.K Z.mg "check_few_names" kW)(T:Tx Z.mg)(c: ∃t,Z.mg "FEW_NAMES"=Y (.int 4 t)):mX Z (k+1):=by have S:=oS;refine ozB (asg:=[]) (fs:=lH) a S pF λf e A b s U E L g h d j i l m=>?_;exact(s1 (sI (tCmp ⟨ue (.inr<|.inr<|.inl H) d⟩ xV<|xO<|x5 c) (s1 sX s0) s0) s0)
noncomputable abbrev vE:Stmt:=top 16
abbrev vL(Z:ZZ)(k:Nat):Prop:=Oz Z k "led_sign" ["turning","sign"] mT
def EA(a:Fz Z.K Z.mg "led_sign" vE)(T:Tx Z.mg):vL Z (k+1):=by have S:FnScope ["turning","sign"] ["turning","sign"] (iB vE):=scM;refine ozD a S λf d A b s U E L e g c i h j l=>?_;exact(s1 (sR<|xIf (tCmp ⟨ue (.inr<|.inr<|.inl H) c⟩ xV<|xO x3) (xIx xV<|xO<|lb ⟨yS⟩ xV<|xO x3)<|zG<|xO<|xIx xV<|xO<|lb ⟨yS⟩ (xO<|zG xV)<|xO x3) s0)
noncomputable abbrev qN:Stmt:=top 17
abbrev wm(Z:ZZ)(k:Nat):Prop:=Oz Z k "led_clause" ["clause","turning"] mK
def AZ(a:Fz Z.K Z.mg "led_clause" qN)(T:Tx Z.mg)(e:vL Z k):wm Z (k+1):=by have S:FnScope ["clause","turning"] ["clause","turning"] (iB qN):=scM;refine ozD a S λf g A b s U E L h d i l j m c=>?_;exact(s1 (sR<|xT T H ⟨lD⟩<|xA (xO<|xSA T<|xA (xO<|by exact xC (N':=["turning","sign"]) (cOk S) (by decide+kernel) (iS xW) λ_ _ _ _ _ _ c=>⟨gN c,f0,λ_=>bE<|xU e d<|xA xV<|xA xV xA0⟩) xA0) xA0) s0)
abbrev zT:Stmt:=top 18
abbrev ED(Z:ZZ)(k:Nat):Prop:=Oz Z k "behind" ["one","other"] qz
def JQ(a:Fz Z.K Z.mg "behind" zT)(T:Tx Z.mg)(e:vL Z k):ED Z (k+1):=by have S:FnScope ["one","other"] ["one","other"] (iB zT):=scM;refine ozD a S λf g A b s U E L h d i l j m c=>?_;exact(s1 (sR<|xT T H ⟨lD⟩<|xA (xO<|by exact xC (N':=["other","sign"]) (cOk S) (by decide+kernel) (iS xW) λ_ _ _ _ _ _ c=>⟨gN c,f0,λ_=>bE<|xU e d<|xA xV<|xA xV xA0⟩) xA0) s0)
abbrev C9:Stmt:=top 19
abbrev Iu(Z:ZZ)(k:Nat):Prop:=Oz Z k "still" ["names"] pB
def Nu(a:Fz Z.K Z.mg "still" C9)(T:Tx Z.mg):Iu Z (k+1):=by have S:FnScope ["names"] ["names"] (iB C9):=scM;refine ozD a S λf c A b s U E L d e g i h j l=>?_;exact(s1 (sR<|S6 T H<|xA (xO x3)<|xA (xO<|lb ⟨kL⟩ xV<|xO x3) xA0) s0)
abbrev sO:Stmt:=top 21
abbrev yx(Z:ZZ)(k:Nat):Prop:=Oz Z k "all_signs" ["names"] oD
def Dr(a:Fz Z.K Z.mg "all_signs" sO)(T:Tx Z.mg):yx Z (k+1):=by have S:FnScope ["names"] ["names"] (iB sO):=scM;refine ozD a S λf e A b s U E L g h d j i l c=>?_;exact(s1 (sR<|by exact xC (N':=["sign"]) (cOk S) (by decide+kernel) (iR2 T<|xA (xO<|zG xV)<|xA (xO<|lb ⟨kL⟩ xV<|xO x3) xA0) λ_ _ _ _ _ _ c=>⟨gN c,f1<|tCmp ⟨qP d⟩ xV<|xO x3,λ_=>bE xW⟩) s0)
abbrev nY:Stmt:=top 22
abbrev rH(Z:ZZ)(k:Nat):Prop:=Oz Z k "longer_by_one" ["names","begun"] lB
def xS(a:Fz Z.K Z.mg "longer_by_one" nY)(T:Tx Z.mg)(b:yx Z k):rH Z (k+1):=by have S:FnScope ["names","begun"] ["names","begun"] (iB nY):=scM;refine ozD a S λf h A d s U E L i g e l j m c=>?_;exact(s1 (sR<|by exact xC (N':=["names","begin","sign"]) (cOk S) (by decide+kernel) (iS xW) λ_ _ _ _ _ _ c=>⟨gN c,f0,λ_=>bF H (iS<|xU b g<|xA xV xA0) (gN c) (f1<|tW<|VV (tCmp ⟨qu e⟩ xV xV)<|Sd<|tCmp ⟨qu e⟩ (xO<|zG xV) xV)<|bE<|lb ⟨kL⟩ xV<|xO<|ur<|xL xW xL0⟩) s0)
abbrev nZ:Stmt:=top 23
abbrev rJ(Z:ZZ)(k:Nat):Prop:=Oz Z k "leading_among" ["riddle","others"] nC
def xX(a:Fz Z.K Z.mg "leading_among" nZ)(T:Tx Z.mg)(b:rH Z k)(c:wm Z k):rJ Z (k+1):=by have S:FnScope ["riddle","others","names","clauses","begun","name","ready"] ["riddle","others"] (iB nZ):=scM;refine ozD a S λf l A e s U E L j g i n m o d=>?_;exact(s1 (sT xW<|gT (gN d)<|gN d)<|s1 (sS d<|nk<|xL (ur xL0) xL0)<|s1 (sF (iR2 T<|xA (xO x3)<|xA (xO<|lb ⟨kL⟩ xV<|xO x3) xA0) (gN d)<|s1 (sS d<|by exact xC (N':=["name","clause"]) (cOk S) (by decide+kernel) (iS xW) λ_ _ _ _ _ _ d=>⟨gN d,f1<|tCmp ⟨qQ i⟩ (xO<|xB T H ⟨yk⟩<|xA (xO<|xIx xV<|xO<|zG<|xO x3) xA0) xV,λ_=>bE xW⟩)<|s1 (sC (N':=["others","ready","begin"]) d (cOk S) (by decide+kernel) (iS<|xU b g<|xA xV<|xA xV xA0) λ_ _ _ _ _ _ d=>⟨gN d,f1<|AW<|xB T H ⟨BW H⟩<|xA (xO<|by exact xC (N':=["others","begin","clause"]) (OP H H<|by with_unfolding_all rfl) (by decide+kernel) (iS xW) λ_ _ _ _ _ _ d=>⟨gN d,f0,λ_=>bE<|Jo ⟨Nq i⟩ (xO<|xU c g<|xA xV<|xA xV xA0) xV⟩) xA0,λ_=>bE xW⟩) s0)<|s1 (sRV λh=>absurd (j _ h)<|by decide) s0)
abbrev pU:Stmt:=top 24
abbrev uN(Z:ZZ)(k:Nat):Prop:=Oz Z k "all_leading" ["one","other"] tx
def Ag(a:Fz Z.K Z.mg "all_leading" pU)(T:Tx Z.mg)(b:rJ Z k):uN Z (k+1):=by have S:FnScope ["one","other"] ["one","other"] (iB pU):=scM;refine ozD a S λf g A c s U E L h d e j i l m=>?_;exact(s1 (sR<|xIf (tCmp ⟨qQ e⟩ (xO<|xB T H ⟨nG⟩<|xA (xO<|xIx xV<|xO x3) xA0)<|xO<|xB T H ⟨nG⟩<|xA (xO<|xIx xV<|xO x3) xA0) (xU b d<|xA xV<|xA (xO<|xIx xV<|xO x3) xA0)<|nk xL0) s0)
abbrev qM:Stmt:=top 25
abbrev qT(Z:ZZ)(k:Nat):Prop:=Oz Z k "likenesses" ["riddle"] pY
def AY(a:Fz Z.K Z.mg "likenesses" qM)(T:Tx Z.mg)(b:uN Z k):qT Z (k+1):=by have S:FnScope ["riddle"] ["riddle"] (iB qM):=scM;refine ozD a S λf e A c s U E L g d h j i l m=>?_;exact(s1 (sR<|xU b d<|xA xV<|xA xV xA0) s0)
abbrev xN:Stmt:=top 27
abbrev xZ(Z:ZZ)(k:Nat):Prop:=Oz Z k "span_of" ["names","turnings"] nB
def GZ(a:Fz Z.K Z.mg "span_of" xN)(T:Tx Z.mg)(b:Iu Z k)(c:ED Z k):xZ Z (k+1):=by have S:FnScope ["names","turnings","seen","fresh","reached","begun","turning","done"] ["names","turnings"] (iB xN):=scM;refine ozD a S λf j A g s U E L l e m n h i d=>?_;exact(s1 (sS d<|VQ T.n_set)<|s1 (sE<|R8 i xV<|xU b e<|xA xV xA0)<|s1 (sS d<|nk<|xL (xU b e<|xA xV xA0) xL0)<|s1 (sW (tTr xV)<|s1 (sS d<|nk xL0)<|s1 (sF (iS xW) (gN d)<|s1 (sF (iS xW) (gN d)<|s1 (sS d<|xU c e<|xA xV<|xA xV xA0)<|s1 (sI (tCmp ⟨GX h⟩ xV xV) (s1 (sE<|R8 i xV xW)<|s1 (sE<|Jp xV xW) s0) s0) s0) s0)<|s1 (sS d xW) s0)<|s1 (sR<|xB T H ⟨DU H h⟩<|xA xV xA0) s0)
abbrev mf:Stmt:=top 28
def rG:FnScope ["riddle","names","chosen","reached","turning"] ["riddle"] (iB mf):=scM
abbrev ph(Z:ZZ)(k:Nat):Prop:=Oz Z k "few_spanning" ["riddle"] jZ
def rN:BdA "few_spanning" mf ["riddle"]:=λ_ _ _ _ _ _=>us1 λ_=>us0 H
abbrev sH(Z:ZZ)(k:Nat):Prop:=Oy Z k "few_spanning" ["riddle"] mP
def yF{CR:Nat}(a:Fz Z.K Z.mg "few_spanning" mf)(T:Tx Z.mg)(j:ClsK Z.K Z.mg CT AQ CR)(c:mX Z k)(p:xZ Z k)(d:qT Z k)(b:pL Z k):sH Z (k+1):=by have S:=rG;have q:= @tL;refine oyB (xs:=mO) a S rN λf l A e s U E g m o n h=>?_;exact(zN (A:=λi=>i<40) (sS h<|xIx xV<|xO x3)<|Gx<|zE<|zC tL b g<|xA xV xA0)
def yK(a:Fz Z.K Z.mg "few_spanning" mf)(T:Tx Z.mg)(b:mX Z k)(h:xZ Z k)(c:qT Z k):ph Z (k+1):=by have S:=rG;refine ozB (asg:=[1,2,3,4]) (fs:=rL) a S rN λf j A g s U E L l e i n m o d=>?_;exact(s1 (sS d<|xIx xV<|xO x3)<|s1 (sE<|xU b e<|xA xV xA0)<|s1 (sS d<|nk xL0)<|s1 (sS d<|xUB h e<|xA xV<|xA xV xA0)<|s1 (sF (iS<|xU c e<|xA xV xA0) (gN d)<|s1 (sI (tCmp ⟨qu i⟩ xV xV) (s1 (sE<|Jp xV xW)<|s1 (sS d<|xUB h e<|xA xV<|xA xV xA0) s0) s0) s0)<|s1 (sR<|xT T H ⟨lD⟩<|xA xV xA0) s0)
noncomputable abbrev pT:Stmt:=top 30
abbrev uM(Z:ZZ)(k:Nat):Prop:=Oz Z k "_law_cell_at" ["_law_script","_law_k"] mm
def Af(a:Fz Z.K Z.mg "_law_cell_at" pT)(T:Tx Z.mg):uM Z (k+1):=by have S:FnScope ["_law_script","_law_k"] ["_law_script","_law_k"] (iB pT):=scM;refine ozD a S λf d A b s U E L e g c i h j l=>?_;exact(s1 (sI (tCmp ⟨ue (.inl H) c⟩ xV<|xO<|xB T H ⟨nG⟩<|xA xV xA0) (s1 (sR<|xIx xV xV) s0) s0)<|s1 (sR x3) s0)
noncomputable abbrev sL:Stmt:=top 31
abbrev yu(Z:ZZ)(k:Nat):Prop:=Oz Z k "_law_state" ["_law_script","_law_k"] mx
def Dm(a:Fz Z.K Z.mg "_law_state" sL)(T:Tx Z.mg)(b:uM Z k):yu Z (k+1):=by have S:FnScope ["_law_script","_law_k","_law_cell"] ["_law_script","_law_k"] (iB sL):=scM;refine ozD a S λf h A c s U E L i d e l j m g=>?_;exact(s1 (sS g<|xU b d<|xA xV<|xA xV xA0)<|s1 (sI (tCmp ⟨ue (.inr<|.inr<|.inr H) e⟩ xV<|xO<|lb ⟨Io⟩ (xO x3)<|xO x3) (s1 (sR<|nk<|xL (lb ⟨yS⟩ xV<|xO<|lb ⟨Io⟩ (xO x3)<|xO x3)<|xL x2 xL0) s0) s0)<|s1 (sR<|nk<|xL (lb ⟨uf⟩ xV<|xO x3)<|xL x2 xL0) s0)
noncomputable abbrev vF:Stmt:=top 32
abbrev pd(Z:ZZ)(k:Nat):Prop:=Oz Z k "_law_take" ["_law_state_here","_law_many"] jf
def EB(a:Fz Z.K Z.mg "_law_take" vF)(T:Tx Z.mg):pd Z (k+1):=by have S:FnScope ["_law_state_here","_law_many","_law_found","_law_mixed"] ["_law_state_here","_law_many"] (iB vF):=scM;refine ozD a S λf e A c s U E L d g i l j m b=>?_;exact(s1 (sI (AW<|xIx xV<|xO x3) (s1 (sS b<|lb ⟨uf⟩ (xO<|xIx xV<|xO x3) xV)<|s1 (sIx xV (lb ⟨Ip⟩ (xO<|xIx xV<|xO x3) xV)<|xO x3)<|s1 (sRV λh=>absurd (d _ h)<|by decide) s0) s0)<|s1 (sIx xV (lb ⟨uf⟩ (xO<|lb ⟨kL⟩ (xO<|lb ⟨nI⟩ (xO<|xIx xV<|xO x3)<|xO x3)<|xO x3)<|xO x3)<|xO x3)<|s1 (sS b<|lb ⟨uf⟩ (xO<|lb ⟨kL⟩ (xO<|lb ⟨kL⟩ (xO<|lb ⟨nI⟩ (xO<|xIx xV<|xO x3)<|xO<|xIx xV<|xO x3)<|xO<|lb ⟨nI⟩ (xO x3)<|xO<|xIx xV<|xO x3)<|xO x3)<|xO x3)<|s1 (sS b<|lb ⟨uf⟩ (xO<|lb ⟨kL⟩ (xO<|lb ⟨nI⟩ xV xV)<|xO<|lb ⟨nI⟩ (xO x3) xV)<|xO x3)<|s1 (sR<|lb ⟨uf⟩ (xO<|lb ⟨Ip⟩ xV<|xO x3) xV) s0)
noncomputable abbrev pR:Stmt:=top 33
abbrev uL(Z:ZZ)(k:Nat):Prop:=Oz Z k "_law_turning" ["_law_state_here","_law_names"] pD
def Ad(a:Fz Z.K Z.mg "_law_turning" pR)(T:Tx Z.mg)(d:pd Z k):uL Z (k+1):=by have S:FnScope ["_law_state_here","_law_names","_law_rest","_law_found","_law_turn"] ["_law_state_here","_law_names"] (iB pR):=scM;refine ozD a S λf g A c s U E L h e i l j m b=>?_;exact(s1 (sS b<|S6 T H<|xA (xO x3)<|xA (xO<|lb ⟨kL⟩ xV<|xO x3) xA0)<|s1 (sS b<|nk xL0)<|s1 (sF (iR1 T<|xA xV xA0) (gN b)<|s1 (sE<|Jp xV<|lb ⟨nI⟩ (xO<|XC xV<|xO<|xU d e<|xA xV<|xA (xO<|xB T H ⟨nG⟩<|xA xV xA0) xA0)<|xO<|xIx (xO<|nk<|xL x3<|xL (zG<|xO x3) xL0)<|xO<|xU d e<|xA xV<|xA (xO x3) xA0) s0)<|s1 (sR<|xT T H ⟨lD⟩<|xA xV xA0) s0)
noncomputable abbrev oW:Stmt:=top 34
abbrev pe(Z:ZZ)(k:Nat):Prop:=Oz Z k "_law_led_sign" ["_law_turning_here","_law_sign"] ji
def yI(a:Fz Z.K Z.mg "_law_led_sign" oW)(T:Tx Z.mg):pe Z (k+1):=by have S:FnScope ["_law_turning_here","_law_sign"] ["_law_turning_here","_law_sign"] (iB oW):=scM;refine ozD a S λf d A b s U E L e g c i h j l=>?_;exact(s1 (sR<|lb ⟨nI⟩ (xO<|xIx xV<|xO<|lb ⟨yS⟩ (xO<|xB T H ⟨yk⟩<|xA xV xA0)<|xO x3)<|xO<|xIx (xO<|nk<|xL x3<|xL (zG<|xO x3) xL0)<|xO<|xT T H ⟨BU⟩<|xA (xO<|Jo ⟨ue (.inl H) c⟩ xV<|xO x3) xA0) s0)
noncomputable abbrev qO:Stmt:=top 35
abbrev wo(Z:ZZ)(k:Nat):Prop:=Oz Z k "_law_clause" ["_law_state_here","_law_names"] la
def A0(a:Fz Z.K Z.mg "_law_clause" qO)(T:Tx Z.mg)(b:pd Z k):wo Z (k+1):=by have S:FnScope ["_law_state_here","_law_names","_law_signs"] ["_law_state_here","_law_names"] (iB qO):=scM;refine ozD a S λf h A e s U E L i c g l j m d=>?_;exact(s1 (sC (N':=["_law_state_here","_law_name"]) d (cOk S) (by decide+kernel) (iR2 T<|xA (xO x3)<|xA (xO<|lb ⟨kL⟩ xV<|xO x3) xA0) λ_ _ _ _ _ _ d=>⟨gN d,f1<|tCmp ⟨qQ g⟩ (xO<|xU b c<|xA xV<|xA (xO x3) xA0)<|xO x3,λ_=>bE<|lb ⟨nI⟩ xV<|xO<|xIx (xO<|nk<|xL x3<|xL (zG<|xO x3) xL0)<|xO<|xU b c<|xA xV<|xA (xO x3) xA0⟩)<|s1 (sI (tCmp ⟨qQ g⟩ xV<|xO<|nk xL0) (s1 (sS d<|nk<|xL (lb ⟨nI⟩ (xO<|lb ⟨kL⟩ (xO x3)<|xO<|xU b c<|xA xV<|xA xV xA0)<|xO<|xIx (xO<|nk<|xL x3<|xL (zG<|xO x3) xL0)<|xO<|xU b c<|xA xV<|xA (xO x3) xA0) xL0) s0) s0)<|s1 (sR<|xT T H ⟨lD⟩<|xA xV xA0) s0)
noncomputable abbrev nu:Stmt:=top 36
abbrev nv(Z:ZZ)(k:Nat):Prop:=Oz Z k "_law_led_clause" ["_law_clause_here","_law_turning_here"] jB
def wk(a:Fz Z.K Z.mg "_law_led_clause" nu)(T:Tx Z.mg)(d:pe Z k):nv Z (k+1):=by have S:FnScope ["_law_clause_here","_law_turning_here","_law_row"] ["_law_clause_here","_law_turning_here"] (iB nu):=scM;refine ozD a S λf h A c s U E L i e j l g m b=>?_;exact(s1 (sC (N':=["_law_turning_here","_law_sign"]) b (cOk S) (by decide+kernel) (iS xW) λ_ _ _ _ _ _ b=>⟨gN b,f0,λ_=>bE<|ur<|xL (xB T H ⟨yk⟩<|xA (xO<|xU d e<|xA xV<|xA xV xA0) xA0)<|xL (xU d e<|xA xV<|xA xV xA0) xL0⟩)<|s1 (sR<|xT T H ⟨lD⟩<|xA (xO<|by exact xC (N':=["_law_name","_law_sign"]) (cOk S) (by decide+kernel) (iS<|xB T H ⟨rn g⟩<|xA xV xA0) λ_ _ _ _ _ _ b=>⟨gT (gN b)<|gN b,f0,λ_=>bE xW⟩) xA0) s0)
abbrev og:Stmt:=top 38
abbrev rK(Z:ZZ)(k:Nat):Prop:=Oz Z k "_law_riddle_of" ["_law_state_here","_law_names"] kO
def xY(a:Fz Z.K Z.mg "_law_riddle_of" og)(T:Tx Z.mg)(g:pd Z k)(c:wo Z k)(b:uL Z k)(m:nv Z k):rK Z (k+1):=by have S:FnScope ["_law_state_here","_law_names","_law_most","_law_some","_law_turn","_law_turning_here","_law_fresh","_law_clause_here"] ["_law_state_here","_law_names"] (iB og):=scM;refine ozD a S λf n A h s U E L o d i l j p e=>?_;exact(s1 (sI (tCmp ⟨qQ i⟩ xV<|xO x3) (s1 (sR<|ur<|xL x3<|xL (ur xL0) xL0) s0) s0)<|s1 (sS e<|xIx (xO<|nk<|xL x3<|xL x3<|xL x3 xL0)<|xO<|xU g d<|xA xV<|xA (xO x3) xA0)<|s1 (sS e x7)<|s1 (sF (iR1 T<|xA (xO<|xU g d<|xA xV<|xA (xO<|lb ⟨kL⟩ xV<|xO x3) xA0) xA0) (gN e)<|s1 (sDP l xV x2<|xO<|xU c d<|xA xV<|xA xV xA0) s0)<|s1 (sS e<|xU b d<|xA xV<|xA xV xA0)<|s1 (sS e<|lb ⟨Nn⟩ (xO<|xT T H ⟨Hy H⟩<|xA xV xA0)<|xO<|xIx (xO<|nk<|xL x3<|xL x3 xL0)<|xO<|xU g d<|xA xV<|xA (xO x3) xA0)<|s1 (sW (tCmp ⟨qP i⟩ xV<|xO<|nk xL0)<|s1 (sS e<|xU m d<|xA (xO<|R9 xV)<|xA xV xA0)<|s1 (sI (tCmp ⟨vJ j⟩ xV xV) (s1 (sDP l xV x2 xV)<|s1 (sE<|Jp xV xW) s0) s0) s0)<|s1 (sR<|ur<|xL xW<|xL (xT T H ⟨lD⟩<|xA (xO<|VP (xO (xB T H ⟨wM H j⟩ (xA xV xA0))) (xO x3)) xA0) xL0) s0)
abbrev oU:Stmt:=top 39
abbrev sU(Z:ZZ)(k:Nat):Prop:=Oz Z k "_law_turnings" ["_law_names"] oj
def yH(a:Fz Z.K Z.mg "_law_turnings" oU)(T:Tx Z.mg):sU Z (k+1):=by have S:FnScope ["_law_names","_law_found","_law_turn","_law_longer","_law_row","_law_rest"] ["_law_names"] (iB oU):=scM;refine ozD a S λf i A c s U E L e j d l g m b=>?_;exact(s1 (sS b<|nk<|xL (ur xL0) xL0)<|s1 (sF (iR1 T<|xA xV xA0) (gN b)<|s1 (sS b<|nk xL0)<|s1 (sF (iS xW) (gN b)<|s1 (sC (N':=["_law_row","_law_name"]) b (cOk S) (by decide+kernel) (iR2 T<|xA (xO x3)<|xA (xO<|lb ⟨kL⟩ xV<|xO x3) xA0) λ_ _ _ _ _ _ b=>⟨gN b,f1<|tW<|VV (tCmp ⟨qu d⟩ xV xV)<|Sd<|tCmp ⟨qu d⟩ (xO<|zG xV) xV,λ_=>bE xW⟩)<|s1 (sE<|XE xV<|by exact xC (N':=["_law_row","_law_sign"]) (cOk S) (by decide+kernel) (iS<|xB T H ⟨rn g⟩<|xA (xO<|lb ⟨kL⟩ xV<|xO<|by exact xC (N':=["_law_name"]) (cOk S) (by decide+kernel) (iS xW) λ_ _ _ _ _ _ b=>⟨gN b,f0,λ_=>bE (zG xV)⟩) xA0) λ_ _ _ _ _ _ b=>⟨gN b,f0,λ_=>bE<|lb ⟨kL⟩ xV<|xO<|ur<|xL xW xL0⟩) s0)<|s1 (sS b xW) s0)<|s1 (sRV λh=>absurd (e _ h)<|by decide) s0)
abbrev oX:Stmt:=top 40
abbrev sV(Z:ZZ)(k:Nat):Prop:=Oz Z k "_law_leads_to" ["_law_riddle","_law_there","_law_turning_here"] mR
def yJ(a:Fz Z.K Z.mg "_law_leads_to" oX)(T:Tx Z.mg)(d:nv Z k):sV Z (k+1):=by have S:FnScope ["_law_riddle","_law_there","_law_turning_here","_law_clause_here"] ["_law_riddle","_law_there","_law_turning_here"] (iB oX):=scM;refine ozD a S λf h A b s U E L i c j l e m g=>?_;exact(s1 (sF (iS<|xIx xV<|xO x3) (gN g)<|s1 (sI (tCmp ⟨vJ e⟩ (xO<|xU d c<|xA xV<|xA xV xA0) xV) (s1 (sR x2) s0) s0) s0)<|s1 (sR x2) s0)
abbrev sN:Stmt:=top 41
abbrev yw(Z:ZZ)(k:Nat):Prop:=Oz Z k "_law_likes" ["_law_riddle"] rg
def Dq(a:Fz Z.K Z.mg "_law_likes" sN)(T:Tx Z.mg)(i:Z.mg "dict"=I)(c:sU Z k)(b:sV Z k):yw Z (k+1):=by have S:FnScope ["_law_riddle","_law_there"] ["_law_riddle"] (iB sN):=scM;refine ozD a S λf j A e s U E L l g m n h o d=>?_;exact(s1 (sS d<|XF h i<|xA (xO<|by exact xC (N':=["_law_clause_here"]) (cOk S) (by decide+kernel) (iS<|xIx xV<|xO x3) λ_ _ _ _ _ _ d=>⟨gN d,f0,λ_=>bE<|ur<|xL xW<|xL x2 xL0⟩) xA0)<|s1 (sR<|by exact xC (N':=["_law_riddle","_law_there","_law_turning_here"]) (cOk S) (by decide+kernel) (iS<|xU c g<|xA (xO<|xIx xV<|xO x3) xA0) λ_ _ _ _ _ _ d=>⟨gN d,f1<|AW<|xU b g<|xA xV<|xA xV<|xA xV xA0,λ_=>bE xW⟩) s0)
abbrev vG:Stmt:=top 42
abbrev Ah(Z:ZZ)(k:Nat):Prop:=Oz Z k "_law_span" ["_law_names","_law_some"] nV
def EC(a:Fz Z.K Z.mg "_law_span" vG)(T:Tx Z.mg)(e:pe Z k):Ah Z (k+1):=by have S:FnScope ["_law_names","_law_some","_law_start","_law_found","_law_fresh","_law_here","_law_one","_law_later"] ["_law_names","_law_some"] (iB vG):=scM;refine ozD a S λf j A d s U E L l g h i c m b=>?_;exact(s1 (sS b<|S6 T H<|xA (xO x3)<|xA (xO<|lb ⟨kL⟩ xV<|xO x3) xA0)<|s1 (sS b<|xDT c xV)<|s1 (sS b<|nk<|xL xW xL0)<|s1 (sW (tCmp ⟨qP h⟩ xV<|xO<|nk xL0)<|s1 (sS b<|R9 xV)<|s1 (sF (iS xW) (gN b)<|s1 (sS b<|xT T H ⟨lD⟩<|xA (xO<|by exact xC (N':=["_law_one","_law_sign"]) (cOk S) (by decide+kernel) (iS xW) λ_ _ _ _ _ _ b=>⟨gN b,f0,λ_=>bE<|xU e g<|xA xV<|xA xV xA0⟩) xA0)<|s1 (sI (tCmp ⟨vJ c⟩ xV xV) (s1 (sDP i xV x2 xV)<|s1 (sE<|Jp xV xW) s0) s0) s0) s0)<|s1 (sR<|xB T H ⟨wM H c⟩<|xA xV xA0) s0)
abbrev oV:Stmt:=top 43
abbrev G4(Z:ZZ)(k:Nat):Prop:=Oz Z k "_law_same" ["_law_found","_law_due"] (jJ RD)
def yC:BdA "_law_same" oV ["_law_found","_law_due"]:=λ_ _ _ _ _ _=>us1 λ_=>us1 λ_=>us0 H
def Dl{c:EvF}(a:Fz Z.K Z.mg "_law_same" oV)(T:Tx Z.mg)(h:Oz Z k "_law_same" ["_law_found","_law_due"] c):Oz Z (k+1) "_law_same" ["_law_found","_law_due"] (evF 2 2 []<|mQ c):=by have S:FnScope ["_law_found","_law_due"] ["_law_found","_law_due"] (iB oV):=scM;refine ozB (asg:=[]) (fs:=mQ c) a S yC λf i A e s U E L j g b m l n d=>?_;exact(s1 (sI (AW<|xI2 T H H xV) (s1 (sI (tW<|wOr (tCmp ⟨qP b⟩ (xO<|xI T H xV)<|xO<|xI T H xV)<|LO<|tCmp ⟨qP b⟩ (xO<|xI T H xV)<|xO<|xI T H xV) (s1 (sR x2) s0) s0)<|s1 (sR<|VR (Jo ⟨qQ b⟩ (xO<|xB T H ⟨nG⟩<|xA xV xA0)<|xO<|xB T H ⟨nG⟩<|xA xV xA0)<|xBo<|xB T H ⟨BW H⟩<|xA (xO<|by exact xC (N':=["_law_one","_law_other"]) (cOk S) (by decide+kernel) (iZV T xV xV) λ_ _ _ _ _ _ d=>⟨gT (gN d)<|gN d,f0,λ_=>bE<|xU h g<|xA xV<|xA xV xA0⟩) xA0) s0) s0)<|s1 (sR<|VR (Jo ⟨qQ b⟩ xV xV)<|xBo<|Jo ⟨qQ b⟩ (xO<|xI T H xV)<|xO<|xI T H xV) s0)
theorem yt(a:Fz Z.K Z.mg "_law_same" oV)(T:Tx Z.mg): ∀m,Oz Z m "_law_same" ["_law_found","_law_due"] (jJ m)
 |0=>oz0 a yC
 |m+1=>Dl a T<|yt a T m
abbrev lO:Stmt:=top 44
def AM:BdA "_law_refused" lO ["_law_call"]:=λ_ _ _ _ _ _=>us1 λ_=>us0 H
abbrev uK(Z:ZZ)(k:Nat):Prop:=Rf Z lO ["_law_call","_law_error","e","_law_sorts","_law_words"] "_law_refused" "_law_call" "RiddleError" "_law_error" "e" 1 2 k [1,2,3,4] (kQ CT AQ) (λz=>AQ.lookup z)
def Ae{CR:Nat}(a:Fz Z.K Z.mg "_law_refused" lO)(T:Tx Z.mg)(b:ClsK Z.K Z.mg CT AQ CR):uK Z k:=by
 have S:FnScope ["_law_call","_law_error","e","_law_sorts","_law_words"] ["_law_call"] (iB lO):=scM;obtain⟨f,g,m,F⟩:=a;refine⟨f,g,CR,F,F.binds AM,m,λX i=>?_,b.ci⟩;subst i;refine⟨S,by decide,rfl,rfl,by decide,by decide,rfl,rfl,rfl,rfl,b.re,by decide,_,_,_,_,_,_,_,_,_,_,_,rfl,λe A d s U L n j=>?_⟩;have c:=S.nd;have o:=j.un;have l:un (A.deeper<|aZ "_law_refused" (iB lO) s.heap.objs.size f e) 60:=by unfold un;omega
 refine⟨rfl,rfl,QS.h (show QS _ _ _ _ _ _ from(sS c x1)),QQ.h (show QQ _ _ _ _ _ (kQ CT AQ) from(s1 (sI (tCmp ⟨UE⟩ xV<|xO x1) (s1 (sR x1) s0) s0)<|s1 (sS c<|nk<|xL (xE T (b.t "NoName") xV)<|xL (xE T (b.t "NoBit") xV)<|xL (xE T (b.t "NoTurning") xV) xL0)<|s1 (sS c<|lb ⟨kL⟩ xV<|xO<|nk<|xL (xE T (b.t "NoAnswer") xV)<|xL (xE T (b.t "NoNumber") xV)<|xL (xE T (b.t "NoClause") xV) xL0)<|s1 (sS c<|lb ⟨kL⟩ xV<|xO<|nk<|xL (xE T (b.t "NoPutting") xV)<|xL (xE T (b.t "TooMany") xV)<|xL (xE T (b.t "NoRiddle") xV) xL0)<|s1 (sE<|Jp xV<|xE T (b.t "BadNote") xV)<|s1 (sI (tW<|wOr (tNot<|AW<|xEV T b.vm b.v xV)<|LO<|tCmp ⟨qP l⟩ (xO<|XB b.su<|xA (xO<|by exact xC (N':=["_law_kind"]) (cOk S) (by decide+kernel) (iSV xV) λ_ _ _ _ _ _ c=>⟨gN c,f0,λ_=>bE<|xT T H ⟨BU⟩ (xA xV xA0)⟩) xA0)<|xO x3) (s1 (sR x4) s0) s0)<|s1 (sS c<|nk<|xL x4<|xL x4<|xL x4<|xL x4<|xL x4 (xL x4 (xL x4 (xL x4 (xL x4 (xL x4 xL0))))))<|s1 (sR<|xIx xV<|xO<|XD xV) s0))⟩
abbrev sM:Stmt:=top 45
abbrev yv(Z:ZZ)(k:Nat):Prop:=Oz Z k "_law_right" ["_law_riddle"] kZ
def Dp(a:Fz Z.K Z.mg "_law_right" sM)(T:Tx Z.mg)(c:yw Z k)(i:ph Z k)(b:Ah Z k)(j:G4 Z k):yv Z (k+1):=by have S:FnScope ["_law_riddle","_law_likes_here","_law_found","_law_ahead","_law_number","_law_one"] ["_law_riddle"] (iB sM):=scM;refine ozD a S λf l A h s U E L m e g o n p d=>?_;exact(s1 (sS d<|xU c e<|xA xV xA0)<|s1 (sS d<|xU i e<|xA xV xA0)<|s1 (sI (tW<|wOr (tNot<|AW<|xI T H xV)<|LO<|tCmp ⟨qP g⟩ (xO<|xU i e<|xA xV xA0) xV) (s1 (sR x2) s0) s0)<|s1 (sS d<|xU b e<|xA (xO<|xIx xV<|xO x3)<|xA (xO<|nk xL0) xA0)<|s1 (sF (iE T xW) (gT (gN d)<|gN d)<|s1 (sI (tW<|wOr (tNot<|AW<|xB T H ⟨Ko H⟩<|xA (xO<|by exact xC (N':=["_law_one","_law_like"]) (cOk S) (by decide+kernel) (iS xW) λ_ _ _ _ _ _ d=>⟨gN d,f0,λ_=>bE<|xU j e<|xA xV (xA xV xA0)⟩) xA0)<|LO<|tCmp ⟨Nq g⟩ xV xV) (s1 (sR x2) s0) s0)<|s1 (sS d<|xU b e<|xA (xO<|xIx xV<|xO x3)<|xA (xO<|VP xV<|xO<|lb ⟨kL⟩ xV (xO x3)) xA0) s0)<|s1 (sR<|Jo ⟨qQ g⟩ xV xV) s0)
noncomputable abbrev HW:Stmt:=top 46
def Vz:BdA "law" HW ["_law_script"]:=λ_ _ _ _ _ _=>us1 λ_=>us0 H
def UO{f c:iu}{o:mD}(F:Fun Z.K "law" "law" HW f o)(z:o.code= .ref c)(y:PySem.W.CodeHd Z.base c 317)(x:Z.base.BuiltinsAt Z.mg 317)(T:Tx Z.mg)(b:ph Z k)(i:yv Z k)(l:yu Z k)(m:pd Z k)(d:rK Z k)(g:uK Z k)(e:sH Z k):FnOk Z.P Z.w Z.K Z.mg Z.base CX0 (k+3) f o ["_law_script"] (spT TB43<|spF Z.K uP):=by have S:FnScope ["_law_script","_law_k","_law_state_here","_law_great"] ["_law_script"] (iB HW):=scM;have B:=b.up (j:=k+2) (by omega);have p:=i.up (j:=k+2) (by omega);have h:=l.up (j:=k+2) (by omega);have u:=m.up (j:=k+2) (by omega);have a:=d.up (j:=k+2) (by omega);refine YU (q:="law.<locals>.<lambda>") (asg:=[1,2,3]) (fs:=Ax) F z y x (by decide) (by decide) S λf U A t s N E L O n v G Q J r M=>?_;exact(s1 (sI (tW<|wOr (tCmp ⟨qP v⟩ (xO<|xU B n<|xA (xO<|ur<|xL x3<|xL (ur xL0) xL0) xA0)<|xO<|ur xL0)<|wOr (tNot<|AW<|xU p n<|xA (xO<|ur<|xL x3<|xL (ur xL0) xL0) xA0)<|LO<|tNot<|AW<|xU p n<|xA (xO<|ur<|xL x3<|xL (ur xL0) xL0) xA0) (s1 (sR x2) s0) s0)<|s1 (sF (iR1 T<|xA (xO<|xB T H ⟨Hw H⟩<|xA (xO x3)<|xA (xO<|xB T H ⟨Hv H⟩<|xA (xO<|xB T H ⟨nG⟩<|xA xV xA0)<|xA (xO x3) xA0) xA0) xA0) (gN r)<|s1 (sS r<|xU h n<|xA xV<|xA xV xA0)<|s1 (sI (tNot<|AW<|xU p n<|xA (xO<|xU a n<|xA xV<|xA (xO<|xIx (xO<|nk<|xL (xU u n (xA xV (xA (xO x3) xA0))) (xL x3 (xL x3 xL0)))<|xO<|xU u n (xA xV (xA (xO x3) xA0))) xA0) xA0) (s1 (sR x2) s0) s0)<|s1 (sS r<|xU a n<|xA xV<|xA (xO x3) xA0)<|s1 (sI (tCmp ⟨qP v⟩ (xO<|xRf (N':=["_law_great"]) g M n (cOk S) (by decide+kernel) λ_ _ _ _ _ _ _ _ n=>⟨xU b n<|xA xV xA0,zC LD e n<|xA xV xA0⟩)<|xO x4) (s1 (sR x2) s0) s0) s0)<|s1 (sR x2) s0)
end
def all_mk{l:PySem.W.OpenLaw}{w:iR}{K:iW}{a:ll}{fa:iu}(dh:a "law"=Zv (.ref fa))(T:Tx a)
  (a0:Fz K a "check_few_names" kW)
  (a1:Fz K a "led_sign" vE)
  (a2:Fz K a "led_clause" qN)
  (a3:Fz K a "behind" zT)
  (a4:Fz K a "still" C9)
  (a5:Fz K a "all_signs" sO)
  (a6:Fz K a "longer_by_one" nY)
  (a7:Fz K a "leading_among" nZ)
  (a8:Fz K a "all_leading" pU)
  (a9:Fz K a "likenesses" qM)
  (L:Fz K a "span_of" xN)
  (g:Fz K a "few_spanning" mf)
  (O:Fz K a "_law_cell_at" pT)
  (Q:Fz K a "_law_state" sL)
  (G:Fz K a "_law_take" vF)
  (J:Fz K a "_law_turning" pR)
  (M:Fz K a "_law_led_sign" oW)
  (N:Fz K a "_law_clause" qO)
  (U:Fz K a "_law_led_clause" nu)
  (Y:Fz K a "_law_riddle_of" og)
  (a20:Fz K a "_law_turnings" oU)
  (a21:Fz K a "_law_leads_to" oX)
  (a22:Fz K a "_law_likes" sN)
  (a23:Fz K a "_law_span" vG)
  (a24:Fz K a "_law_same" oV)
  (a25:Fz K a "_law_refused" lO)
  (a26:Fz K a "_law_right" sM)
  (h:FzT K a "law" HW 317)
  (w6:a "dict"=Zw)
  (m:ClsK K a CT AQ 24)
  (g9: ∃t,a "FEW_NAMES"=Zv (.int 4 t))
  : ∃j:mD,(∀(s:iC) (v:iK),fY s j ⟨[v],[]⟩ [("_law_script",v)])/\(∀p∈TB43,∃c,PySem.W.codeHdIn K c p.1=Zx)/\ ∀base:iT,K.In base->base.Ns am a->(∀p∈TB43,base.BuiltinsAt a p.1)->FnOk l.prog w K a base CX0 12 fa j ["_law_script"] (spT TB43<|spF K uP):=by
 obtain⟨j,c,F,hc,hC,hb⟩:=YS h dh Vz;refine⟨j,hb,aC h.cd<|aN,λbase KB _ S=>?_⟩
 let z:ZZ:=⟨l.prog,w,K,a,base⟩
 have D:=vK (Z:=z) (k:=0) a0 T g9;have Y0:=vB (Z:=z) (k:=0) a0 T m g9;have P:=EA (Z:=z) (k:=0) a1 T;have V:=AZ (Z:=z) (k:=1) a2 T P.up;have X:=JQ (Z:=z) (k:=1) a3 T P.up;have O4:=Nu (Z:=z) (k:=0) a4 T;have O5:=Dr (Z:=z) (k:=0) a5 T;have O6:=xS (Z:=z) (k:=1) a6 T O5.up;have O7:=xX (Z:=z) (k:=2) a7 T O6.up V.up;have O8:=Ag (Z:=z) (k:=3) a8 T O7.up;have R:=AY (Z:=z) (k:=4) a9 T O8.up;have b:=GZ (Z:=z) (k:=2) L T O4.up X.up;have d:=yK (Z:=z) (k:=5) g T D.up b.up R.up;have I:=yF (Z:=z) (k:=5) g T m D.up b.up R.up Y0.up;have n:=Af (Z:=z) (k:=0) O T;have o:=Dm (Z:=z) (k:=1) Q T n.up;have i:=EB (Z:=z) (k:=0) G T;have q:=Ad (Z:=z) (k:=1) J T i.up;have e:=yI (Z:=z) (k:=0) M T;have r:=A0 (Z:=z) (k:=1) N T i.up;have f:=wk (Z:=z) (k:=1) U T e.up;have u:=xY (Z:=z) (k:=2) Y T i.up r.up q.up f.up;have x:=yH (Z:=z) (k:=0) a20 T;have y:=yJ (Z:=z) (k:=2) a21 T f.up;have A:=Dq (Z:=z) (k:=3) a22 T w6 x.up y.up;have B:=EC (Z:=z) (k:=1) a23 T e.up;have C:=yt (Z:=z) a24 T RD;have E:=Ae (Z:=z) (k:=9) a25 T m;have H:=Dp (Z:=z) (k:=8) a26 T A.up d.up B.up C.up;exact UO (Z:=z) (k:=9) F hc (PySem.W.codeHd_of_K KB hC) (S _ jT) T d.up H.up o.up i.up u.up E I.up
end K43
namespace PV
open L2 PX
@[simp] theorem Yv(d:D)(δ:Dn):fC d δ=Y ((d,C),δ):=rfl
@[simp] theorem TN(f:F)(δ:Dn):iA f δ=(f δ).bind λp=>Y (.val p.1,p.2):=rfl
@[simp] theorem Xt(x:D×Bool)(a:Dn):iw 0 (Y x::a)=Y (.slot 0,Y x::a):=rfl
@[simp] theorem Xr(a:Sl)(x:D×Bool)(b:Dn):iw 1 (a::Y x::b)=Y (.slot 1,a::Y x::b):=rfl
@[simp] theorem Xq(a b:Sl)(x:D×Bool)(c:Dn):iw 2 (a::b::Y x::c)=Y (.slot 2,a::b::Y x::c):=rfl
@[simp] theorem Xp(a b c:Sl)(x:D×Bool)(d:Dn):iw 3 (a::b::c::Y x::d)=Y (.slot 3,a::b::c::Y x::d):=rfl
@[simp] theorem Xo(a b c d:Sl)(x:D×Bool)(e:Dn):iw 4 (a::b::c::d::Y x::e)=Y (.slot 4,a::b::c::d::Y x::e):=rfl
@[simp] theorem Xn(a b c d e:Sl)(x:D×Bool)(f:Dn):iw 5 (a::b::c::d::e::Y x::f)=Y (.slot 5,a::b::c::d::e::Y x::f):=rfl
@[simp] theorem Xm(a b c d e f:Sl)(x:D×Bool)(g:Dn):iw 6 (a::b::c::d::e::f::Y x::g)=Y (.slot 6,a::b::c::d::e::f::Y x::g):=rfl
@[simp] theorem Xl(a b c d e f g:Sl)(x:D×Bool)(h:Dn):iw 7 (a::b::c::d::e::f::g::Y x::h)=Y (.slot 7,a::b::c::d::e::f::g::Y x::h):=rfl
@[simp] theorem Xk(a b c d e f g h:Sl)(x:D×Bool)(i:Dn):iw 8 (a::b::c::d::e::f::g::h::Y x::i)=Y (.slot 8,a::b::c::d::e::f::g::h::Y x::i):=rfl
@[simp] theorem TL(δ:Dn)(r:D×Bool):res δ (.val r)=Y r.1:=rfl
@[simp] theorem Yh(x:D×Bool)(a:Dn):res (Y x::a) (.slot 0)=Y x.1:=rfl
@[simp] theorem Yg(a:Sl)(x:D×Bool)(b:Dn):res (a::Y x::b) (.slot 1)=Y x.1:=rfl
@[simp] theorem Yf(a b:Sl)(x:D×Bool)(c:Dn):res (a::b::Y x::c) (.slot 2)=Y x.1:=rfl
@[simp] theorem Ye(a b c:Sl)(x:D×Bool)(d:Dn):res (a::b::c::Y x::d) (.slot 3)=Y x.1:=rfl
@[simp] theorem Yd(a b c d:Sl)(x:D×Bool)(e:Dn):res (a::b::c::d::Y x::e) (.slot 4)=Y x.1:=rfl
@[simp] theorem Yc(a b c d e:Sl)(x:D×Bool)(f:Dn):res (a::b::c::d::e::Y x::f) (.slot 5)=Y x.1:=rfl
@[simp] theorem Yb(a b c d e f:Sl)(x:D×Bool)(g:Dn):res (a::b::c::d::e::f::Y x::g) (.slot 6)=Y x.1:=rfl
@[simp] theorem Ya(a b c d e f g:Sl)(x:D×Bool)(h:Dn):res (a::b::c::d::e::f::g::Y x::h) (.slot 7)=Y x.1:=rfl
@[simp] theorem X9(a b c d e f g h:Sl)(x:D×Bool)(i:Dn):res (a::b::c::d::e::f::g::h::Y x::i) (.slot 8)=Y x.1:=rfl
@[simp] theorem Yt(g:D->Option (D×Bool))(a:FO)(b:Dn):kB g a b=(a b).bind λp=>(res p.2 p.1).bind λx=>(g x).bind λz=>Y (z,p.2):=rfl
@[simp] theorem Ys(g:D->D->Option (D×Bool))(a b:FO)(c:Dn):iN g a b c=(a c).bind λp=>(b p.2).bind λq=>(res q.2 p.1).bind λx=>(res q.2 q.1).bind λy=>(g x y).bind λz=>Y (z,q.2):=rfl
@[simp] theorem Wg(a:Dn):ki [] a=Y ([],a):=rfl
@[simp] theorem Xw(f:FO)(fs:List FO)(a:Dn):ki (f::fs) a=(f a).bind λp=>(ki fs p.2).bind λq=>Y (p.1::q.1,q.2):=rfl
@[simp] theorem PM(a:Dn):uv a []=Y []:=rfl
@[simp] theorem TM(a:Dn)(o:Opd)(os:List Opd):uv a (o::os)=(res a o).bind λd=>(uv a os).bind λl=>Y (d::l):=rfl
@[simp] theorem Xv(g:List D->Option (D×Bool))(fs:List FO)(a:Dn):jh g fs a=(ki fs a).bind λp=>(uv p.2 p.1).bind λb=>(g b).bind λz=>Y (z,p.2):=rfl
@[simp] theorem Xj:pQ []=Y []:=rfl
@[simp] theorem X1(r:D×Bool)(os:List Opd):pQ (.val r::os)=(pQ os).map (r.1:: ·):=rfl
@[simp] theorem TQ(fs:List F)(b:Dn):mJ fs b=(ki (fs.map iA) b).bind λp=>(pQ p.1).bind λa=>if (ZB a)<=sizeLine then Y ((.tup a,C),p.2) else I:=rfl
@[simp] theorem MC(fs:List F)(δ:Dn):lq fs δ=(ki (fs.map iA) δ).bind λp=>(pQ p.1).bind λa=>if (ZB a)<=sizeLine then Y ((.lst a,J),p.2) else I:=rfl
@[simp] theorem Zf(b o:Bool)(a:Dn):asB ((.bl b,o),a)=Y (b,a):=rfl
@[simp] theorem Zl(f:F)(a:Dn):fT f a=(f a).bind asB:=rfl
@[simp] theorem Xx(f g:FT)(a:Dn):wI f g a=(f a).bind λp=>if p.1=J then g p.2 else Y (C,p.2):=rfl
@[simp] theorem Yr(f g:FT)(a:Dn):yO f g a=(f a).bind λp=>if p.1=J then Y (J,p.2) else g p.2:=rfl
@[simp] theorem Xu(f:FT)(a:Dn):pz f a=(f a).bind λp=>Y (!p.1,p.2):=rfl
@[simp] theorem MD(f g:F)(a:Dn):Hk f g a=(f a).bind λp=>(asB p).bind λq=>if q.1=J then g q.2 else Y ((.bl C,C),q.2):=rfl
@[simp] theorem Zc(f g:F)(a:Dn):fOr f g a=(f a).bind λp=>(asB p).bind λq=>if q.1=J then Y ((.bl J,C),q.2) else g q.2:=rfl
@[simp] theorem Yu(f:F)(a:Dn):YV f a=(f a).bind λp=>(asB p).bind λq=>Y ((.bl (!q.1),C),q.2):=rfl
@[simp] theorem Zd(t:FT)(f g:F)(a:Dn):fIf t f g a=(t a).bind λp=>if p.1=J then f p.2 else g p.2:=rfl
@[simp] theorem X7(a:Dn):iZ a=Y (.nx a):=rfl
noncomputable def nxt(g:FS):Out->Option Out
 | .nx a=>g a
 |o=>Y o
@[simp] theorem Yj(g:FS)(a:Dn):nxt g (.nx a)=g a:=rfl
@[simp] theorem Yi(g:FS)(r:D×Bool)(a:Dn):nxt g (.rt r a)=Y (.rt r a):=rfl
@[simp] theorem MA(f g:FS)(a:Dn):iL f g a=(f a).bind (nxt g):=by
 unfold iL
 cases f a with
 |none=>rfl
 |some o=>cases o<;>rfl
@[simp] theorem Ib(f:F)(a:Dn):lU f a=(f a).bind λp=>Y (.nx p.2):=rfl
@[simp] theorem X6(f:F)(a:Dn):kN f a=(f a).bind λp=>Y (.rt p.1 p.2):=rfl
@[simp] theorem Y5(t:FT)(f g:FS)(a:Dn):sIf t f g a=(t a).bind λp=>if p.1=J then f p.2 else g p.2:=rfl
@[simp] theorem X5(i:Nat)(f:F)(a:Dn):jD i f a=(f a).bind λp=>if i<(ZB p.2) then Y (.nx<|p.2.set i<|Y p.1) else I:=rfl
@[simp] theorem X4(b:Tg)(f:F)(c:Dn):PL b f c=(f c).bind λp=>(b p.1.1 p.2).bind λa=>Y (.nx a):=rfl
@[simp] theorem Zk(g:D->Option (D×Bool))(d:D):g1 g [d]=g d:=rfl
@[simp] theorem Zj(g:D->D->Option (D×Bool))(d e:D):g2 g [d,e]=g d e:=rfl
@[simp] theorem Wi(i j:Int):lP (.int i) (.int j)=Y (.int<|i+j,C):=rfl
@[simp] theorem Y4(i j:Int):PX.gSub (.int i) (.int j)=Y (.int<|i-j,C):=rfl
@[simp] theorem Y6(i:Int):nA (.int i)=Y (.int (-i),C):=rfl
@[simp] theorem Wj(i:Int):E6 (.int i)=Y (.int (if i<0 then -i else i),C):=rfl
@[simp] theorem Ym(l:List D):yc (.tup l)=Y (.int<|ZB l,C):=rfl
@[simp] theorem Yn(l:List D):yc (.lst l)=Y (.int<|ZB l,C):=rfl
@[simp] theorem X3(l:List D):ny (.lst l)=Y (.tup l,C):=rfl
@[simp] theorem X2(l:List D):ny (.tup l)=Y (.tup l,C):=rfl
@[simp] theorem Yk(l:List D):BI (.tup l)=Y (.lst l,J):=rfl
@[simp] theorem Yl(l:List D):BI (.lst l)=Y (.lst l,J):=rfl
@[simp] theorem Yp(b:Bool):Oc (.bl b)=Y (.int (if b then 1 else 0),C):=rfl
@[simp] theorem Yo(b:Int):Oc (.int b)=Y (.int b,C):=rfl
@[simp] theorem Za(i j:Int):Ob (.int i) (.int j)=Y (.int (if j>i then j else i),C):=rfl
@[simp] theorem Y9(i j:Int):Oa (.int i) (.int j)=Y (.int (if j<i then j else i),C):=rfl
@[simp] theorem Zb(a:List Ty)(d:D):yd a d=Y (.bl<|a.any<|isT d,C):=rfl
@[simp] theorem ME(i j:Int):gEq (.int i) (.int j)=Y (.bl<|i==j,C):=by unfold gEq;rw[iP<|by simp[D.dep]];simp[D.eqb]
@[simp] theorem Y7(i j:Int):gNe (.int i) (.int j)=Y (.bl (!(i==j)),C):=by unfold gNe;rw[iP<|by simp[D.dep]];simp[D.eqb]
@[simp] theorem Ze(i j:Bool):gEq (.bl i) (.bl j)=Y (.bl<|i==j,C):=by unfold gEq;rw[iP<|by simp[D.dep]];simp[D.eqb]
@[simp] theorem Y8(i j:Bool):gNe (.bl i) (.bl j)=Y (.bl (!(i==j)),C):=by unfold gNe;rw[iP<|by simp[D.dep]];simp[D.eqb]
@[simp] theorem Zg(i j:Int):rQ .Lt (.int i) (.int j)=Y (.bl<|decide<|i<j,C):=by simp[rQ,ng,lG,D.dep]
@[simp] theorem Zh(i j:Int):rQ .LtE (.int i) (.int j)=Y (.bl<|decide<|i<=j,C):=by simp[rQ,ng,lG,D.dep]
@[simp] theorem Yq(i j:Int):rQ .Gt (.int i) (.int j)=Y (.bl<|decide<|i>j,C):=by simp[rQ,ng,lG,D.dep]
@[simp] theorem Zi(i j:Int):rQ .GtE (.int i) (.int j)=Y (.bl<|decide<|i>=j,C):=by simp[rQ,ng,lG,D.dep]
@[simp] theorem Dd(f:F)(δ:Dn):jx f δ=(f δ).bind λp=>match p.1.1 with| .lst l=>Y (l,p.2)| .tup l=>Y (l,p.2)|_=>I:=rfl
@[simp] theorem X8(b:FIt)(c:Tg)(a:FS)(d:Dn):pV b c a d=(b d).bind λp=>qy c a p.1 p.2:=rfl
@[simp] theorem De(a:Dn):kK a=Y (J,a):=rfl
@[simp] theorem we(f:F)(a:List D)(b:Dn):jA f a b=(f b).bind λp=>if (ZB a)<sizeLine then Y (a++[p.1.1],p.2) else I:=rfl
def qL(h:n<=10000):n<=sizeLine:=by rw[jH];lia
def C7(h:n<=10000):n<sizeLine:=by rw[jH];lia
noncomputable abbrev enc(t:iO):D×Bool:=(.tup<|t.map .int,C)
noncomputable abbrev ii(n:Int):Sl:=Y (.int n,C)
noncomputable abbrev eN(t:iO):Sl:=Y<|enc t
noncomputable abbrev pI(n:Int):D×Bool:=(.int n,C)
noncomputable abbrev pS(a:Int)(b:Bool):D×Bool:=(.lst [.int a,.bl b],J)
def nd1(i:Nat):([i]:List Nat).Nodup:=by simp
noncomputable abbrev stt(a:Int)(b:Bool):Sl:=Y (.lst [.int a,.bl b],J)
noncomputable abbrev lsi(l:iO):Sl:=Y (.lst<|l.map .int,J)
@[simp] theorem PN(b:EvF)(fs:List FO)(c:Dn):iQ b fs c=(ki fs c).bind λp=>(kb p.2 p.1).bind λa=>if(jl p.1 a).Nodup then(b a).bind λq=>Y (q.1,wb p.1 a q.2 p.2) else I:=rfl
@[simp] theorem JE(δ:Dn):kb δ []=Y []:=rfl
@[simp] theorem Wh(b:Dn)(o:Opd)(os:List Opd):kb b (o::os)=(yD b o).bind λa=>(kb b os).bind λl=>Y (a::l):=rfl
@[simp] theorem Yw(a:Dn)(r:D×Bool):yD a (.val r)=Y (r.1,C):=rfl
@[simp] theorem Yx(a:Dn)(i:Nat):yD a (.slot i)=(a[i]?).join:=rfl
def tU(a:Int)(b:Bool)(m:Int)(c:0<m)(d:m<1073741824):
  ∃v e,0<=v/\v<m/\jf [pS a b,pI m]=Y ((.int v,C),[Y (.lst [.int e,.bl b],J),ii m]):=by
 cases b
 .have h1: ∀x:Int, -18446744073709551616<x%2147483647/\x%2147483647<18446744073709551616:=λx=>by lia
  have f: ∀x:Int, -18446744073709551616<x%2147483629/\x%2147483629<18446744073709551616:=λx=>by lia
  simp only[jf,tj];simp[evF,gIx,atI,ixN,A9,gI,Od,pk,J9,xP,pN,jS,jl,wb,Kv,D4,CMul,c,d,h1,f];exact⟨FQ _ (by lia),FR _ c⟩
 .simp only[jf,tj];simp[evF,gIx,atI,ixN,A9,gI,Od,pk,J9,xP,pN,jS,jl,wb,Kv,D4,CMul,c,d];exact⟨FQ _ (by lia),FR _ c⟩
theorem wV(x y:Int):(x==y)=decide (x=y):=rfl
def nU{g:List D->Option (D×Bool)}{fs:List FO}{δ a:Dn}{os:List Opd}{ds:List D}{z:D×Bool}(h1:ki fs δ=Y (os,a))(b:uv a os=Y ds)(c:g ds=Y z):jh g fs δ=Y (z,a):=by unfold jh;rw[h1];simp only[jK];rw[b];simp only[jK];rw[c];rfl
def lh(h1:(ZB args)=np/\np<=n/\(args.zipIdx.all λp=>!(p.1.2&&asg.contains p.2))=J)(a:f (args.map Y++ae (n-np) I)=Y (.rt r δ)):evF n np asg f args=Y (r,jS args δ):=by unfold evF;rw[iP h1,a]
def iG(h:f δ=Y (.nx δ1)):iL f g δ=g δ1:=by unfold iL;rw[h];rfl
def kf{r}(h:f δ=Y (.rt r δ1)):iL f g δ=Y (.rt r δ1):=by unfold iL;rw[h];rfl
def lF{r}(h:f δ=Y (r,δ1)):kN f δ=Y (.rt r δ1):=by unfold kN;rw[h];rfl
def jG{r}(h:f δ=Y (r,δ1))(a:i<ZB δ1):jD i f δ=Y (.nx<|δ1.set i<|Y r):=by unfold jD;rw[h];simp only[jK];rw[iP a]
def lY(h:f δ=Y ((.bl b,o),δ1)):fT f δ=Y (b,δ1):=by unfold fT;rw[h];rfl
def jo{r}(h:f δ=Y (r,δ1)):iA f δ=Y (.val r,δ1):=by unfold iA;rw[h];rfl
def lI(h1:a δ=Y (o1,δ1))(c:b δ1=Y (o2,δ2))(d:res δ2 o1=Y x)(e:res δ2 o2=Y y)(f:g x y=Y z):iN g a b δ=Y (z,δ2):=by unfold iN;rw[h1];simp only[jK];rw[c];simp only[jK];rw[d,e];simp only[jK];rw[f];rfl
def kX{b:EvF}{fs:List FO}{δ δ1:Dn}{os:List Opd}{args:List (D×Bool)}{r:D×Bool}{a:Dn}(h1:ki fs δ=Y (os,δ1))(c:kb δ1 os=Y args)(d:(jl os args).Nodup)(e:b args=Y (r,a)):iQ b fs δ=Y (r,wb os args a δ1):=by unfold iQ;rw[h1];simp only[jK];rw[c];simp only[jK];rw[iP d,e];rfl
def DM(h:f δ=Y (C,δ1)):yO f g δ=g δ1:=by unfold yO;rw[h];rfl
def AE(h:f δ=Y (b,δ1)):pz f δ=Y (!b,δ1):=by unfold pz;rw[h];rfl
def wd(h:t δ=Y (C,δ1)):sIf t f g δ=g δ1:=by unfold sIf;rw[h];rfl
def wc(h:t δ=Y (J,δ1)):sIf t f g δ=f δ1:=by unfold sIf;rw[h];rfl
def tw{a b:FO}{δ δ1 δ2:Dn}{o1 o2:Opd}(h1:a δ=Y (o1,δ1))(c:b δ1=Y (o2,δ2)):ki [a,b] δ=Y ([o1,o2],δ2):=by simp only[ki];rw[h1];simp only[jK];rw[c];rfl
def vP{a:FO}{δ δ1:Dn}{o1:Opd}(h1:a δ=Y (o1,δ1)):ki [a] δ=Y ([o1],δ1):=by simp only[ki];rw[h1];rfl
def lT(h:a δ=Y (ds,δ1)):pV a tg fb δ=qy tg fb ds δ1:=by unfold pV;rw[h];rfl
def Hh{os}(h1:b δ=Y (o1,δ1))(c:ki fs δ1=Y (os,a)):ki (b::fs) δ=Y (o1::os,a):=by simp only[ki];rw[h1];simp only[jK];rw[c];rfl
def IU{fs:List F}{δ δ1:Dn}{os:List Opd}{ds:List D}(h1:ki (fs.map iA) δ=Y (os,δ1))(a:pQ os=Y ds)(b:(ZB ds)<=sizeLine):lq fs δ=Y ((.lst ds,J),δ1):=by unfold lq;rw[h1];simp only[jK];rw[a];simp only[jK];rw[iP b]
def RS(a:iO)(k:Nat): ∃c,mm [(.lst<|a.map .int,C),pI k]=Y ((.int c,C),[Y (.lst<|a.map .int,C),ii k]):=by
 by_cases hk:k<ZB a
 .refine⟨a[k],?_⟩;simp[mm,pv,evF,gIx,atI,ixN,jS,hk]
 .refine⟨0,?_⟩;simp[mm,pv,evF,jS,hk]
def So:J9 (.int 10) (.int 18)=ii 1000000000000000000:=by
 have:D4 10 18:=by unfold D4;decide+kernel
 show((if D4 10 18 then Y (D.int (10^(18:Int).toNat)) else I).map λz=>(z,C))=_;rw[iP this];rfl
def L8(d:iO)(k:Nat): ∃a b,mx [(.lst<|d.map .int,C),pI k]=Y ((.lst [.int a,.bl b],J),[Y (.lst<|d.map .int,C),ii k]):=by
 obtain⟨c,e⟩:=RS d k;by_cases h:c>=1000000000000000000
 .refine⟨c-1000000000000000000,J,?_⟩;simp[mx,qY,evF,e,jl,wb,So,h,jH,jS]
 .refine⟨c%2147483647,C,?_⟩;simp[mx,qY,evF,e,jl,wb,So,h,jH,jS,A9,gI]
noncomputable def st(n:Nat):List Int:=(aw n).map λ(k:Nat)=>(1+(k:Int))
def L9(n:Nat):(st n).map D.int=jv 1 n:=by simp[st,jv]
noncomputable def oZ:Nat->List Int->List Int->List (List Int)
 |0,_,f=>[f]
 |k+1,r,f=>(aw<|ZB r).flatMap λv=>oZ k (r.eraseIdx v) (f++[r.getD v 0*1])++oZ k (r.eraseIdx v) (f++[r.getD v 0* -1])
theorem BM(f:Int->D): ∀(l:iO) (k:Nat),(l.map f).eraseIdx k=(l.eraseIdx k).map f
 |[],k=>by simp
 |x::l,0=>by simp
 |x::l,k+1=>by simp[BM f l k]
def Kg{i:Nat}{f:FO}{a δ1:Dn}{o:Opd}{n l:List D}{k:Int}{j:Nat}{d:D}(b:a[i]?=Y (Y (.lst n,J)))(h1:f a=Y (o,δ1))(c:res δ1 o=Y (.int k))(e:δ1[i]?=Y (Y (.lst l,J)))(g: -(2^63)<=k/\k<2^63)(h:ixN (ZB l) k=Y j)(m:l[j]?=Y d):
  vO i f a=Y ((d,C),δ1.set i<|Y (.lst<|l.eraseIdx j,J)):=by
 unfold vO;rw[b];simp only[];rw[h1];simp only[jK];rw[c,e];simp only[];rw[iP g,h];simp only[jK];rw[m];rfl
def pA{i:Nat}{f:F}{δ δ1:Dn}{r:D×Bool}{l0 l:List D}(a:δ[i]?=Y (Y (.lst l0,J)))(h1:f δ=Y (r,δ1))(b:δ1[i]?=Y (Y (.lst l,J)))(c:(ZB l)<sizeLine):
  kY i f δ=Y ((.non,C),δ1.set i<|Y (.lst<|l++[r.1],J)):=by
 unfold kY;rw[a];simp only[];rw[h1];simp only[jK];rw[b];simp only[];rw[iP c]
def nS{r}(h:f δ=Y (r,δ1)):lU f δ=Y (.nx δ1):=by unfold lU;rw[h];rfl
noncomputable abbrev fPop:F:=vO 2<|iA<|iQ jf [iw 0,iA<|jh (g1 yc) [iw 2]]
abbrev Xa:F:=iN gIx (iA<|lq [fC<|.int 1,kB nA<|iA<|fC<|.int 1])<|iA<|iQ jf [iw 0,iA<|fC<|.int 2]
abbrev fbT:FS:=iL (lU<|kY 3<|iN pk (iA fPop)<|iA Xa) iZ
def Ur(a:Int)(b:Bool)(n:Sl)(r f:iO)(x:Sl)(i:0<ZB r)(l:(ZB r)<=5): ∃v c,v<ZB r/\fPop [stt a b,n,lsi r,lsi f,x]=Y ((.int<|r.getD v 0,C),[stt c b,n,lsi<|r.eraseIdx v,lsi f,x]):=by
 obtain⟨v,c,h,hv,e⟩:=tU a b (ZB r) (by lia) (by lia);have d:v.toNat<(ZB r):=by lia
 refine⟨v.toNat,c,d,?_⟩;have g:(lsi (r.eraseIdx v.toNat):Sl)=Y (.lst<|(r.map D.int).eraseIdx v.toNat,J):=by rw[BM]
 rw[g];refine Kg (k:=v) (δ1:=[stt c b,n,lsi r,lsi f,x]) H (jo (r:=(.int v,C))<|kX (δ1:=[stt a b,n,lsi r,lsi f,x]) (os:=[.slot 0,.val (.int<|ZB r,C)]) (args:=[pS a b,pI<|ZB r]) ?_ H (show([0]:List Nat).Nodup from by decide) e) H H ⟨by lia,by lia⟩ (j:=v.toNat) ?_ ?_
 .show Y ([Opd.slot 0,Opd.val (D.int ((r.map D.int).length:Nat),C)],_)=_;rw[kh]
 .unfold ixN;rw[iP h,iP<|by simpa using hv]
 .simp[d]
def Tt(a:Int)(b:Bool)(n y z x:Sl): ∃s c,(s=1\/s= -1)/\Xa [stt a b,n,y,z,x]=Y ((.int s,C),[stt c b,n,y,z,x]):=by obtain⟨v,c,f,hv,e⟩:=tU a b 2 (by lia) (by lia);have d: ∀δ:Dn,lq [fC<|.int 1,kB nA<|iA<|fC<|.int 1] δ=Y ((.lst [.int 1,.int (-1)],J),δ):=λδ=>rfl;refine⟨if v=0 then 1 else -1,c,by split<;>simp,?_⟩;refine lI (δ1:=[stt a b,n,y,z,x]) (jo<|d _) (jo (δ1:=[stt c b,n,y,z,x])<|kX (δ1:=[stt a b,n,y,z,x]) (os:=[.slot 0,.val (.int 2,C)]) (args:=[pS a b,pI 2]) H H (show([0]:List Nat).Nodup from by decide) e) H H ?_;rcases(show v=0\/v=1 by lia) with rfl|rfl<;>rfl
def Ve(a:Int)(b:Bool)(n:Sl)(r f:iO)(x:Sl)(j:0<ZB r)(k:(ZB r)<=5)(m:(ZB f)<=5): ∃v s c,v<ZB r/\(s=1\/s= -1)/\fbT [stt a b,n,lsi r,lsi f,x]=Y (.nx [stt c b,n,lsi<|r.eraseIdx v,lsi<|f++[r.getD v 0*s],x]):=by
 obtain⟨v,a1,hv,e⟩:=Ur a b n r f x j k;obtain⟨s,d,q,g⟩:=Tt a1 b n (lsi<|r.eraseIdx v) (lsi f) x;refine⟨v,s,d,hv,q,?_⟩
 have p:pk (.int<|r.getD v 0) (.int s)=ii (r.getD v 0*s):=by have:CMul (r.getD v 0) s:= .inr (by lia);show((if CMul (r.getD v 0) s then Y (D.int<|r.getD v 0*s) else I).map λz=>(z,C))=_;rw[iP this];rfl
 have o:(f.map D.int).length<sizeLine:=by rw[kh];exact Fy m (by decide)
 have h:=pA (i:=3) (δ:=[stt a b,n,lsi r,lsi f,x]) (l0:=f.map .int) H (lI (jo e) (jo g) H H p) (l:=f.map .int) H o;refine(iG<|nS h).trans ?_;simp[iZ,lsi]
def WS(b:Bool)(n:Sl): ∀(c:List D) (a:Int) (r f:iO) (x:Sl),ZB c=ZB r->ZB f+ZB r<=5->
  ∃g t i j,t∈oZ (ZB c) r f/\qy (iF 4) fbT c [stt a b,n,lsi r,lsi f,x]=Y (.nx [stt g b,n,lsi i,lsi t,j]):=by
 intro p
 induction p with
 |nil=>intro a r f x _ _;exact⟨a,f,r,x,by simp[oZ],rfl⟩
 |cons d c o=>
  intro a r f x h q;simp only[lQ] at h;obtain⟨v,s,a1,hv,m,e⟩:=Ve a b n r f (Y (d,C)) (by lia) (by lia) (by lia);obtain⟨g,t,i,j,k,l⟩:=o a1 (r.eraseIdx v) (f++[r.getD v 0*s]) (Y (d,C)) (by rw[Cf,iP hv];lia) (by rw[Cf,iP hv,mF];simp only[lQ,uT];lia);refine⟨g,t,i,j,?_,?_⟩
  .simp only[lQ,oZ,yE,qb,wY];refine⟨v,hv,?_⟩;rcases m with rfl|rfl
   .exact .inl k
   .exact .inr k
  .unfold qy;rw[show iF 4 d [stt a b,n,lsi r,lsi f,x]=Y [stt a b,n,lsi r,lsi f,Y (d,C)] from H];simp only[jK];rw[e];simp only[jK];exact l
def TC(n:Nat)(b:n<=5):gRg .lst J [.int 1,.int<|(n:Int)+1]=Y (.lst<|(st n).map .int,J):=by
 have:n=0\/n=1\/n=2\/n=3\/n=4\/n=5:=by lia
 have h1:RgOk 1 ((n:Int)+1):=by rcases this with rfl|rfl|rfl|rfl|rfl|rfl<;>decide+kernel
 have a:((n:Int)+1-1).toNat=n:=by lia
 show(if RgOk 1 ((n:Int)+1) then Y (D.lst<|jv 1 ((n:Int)+1-1).toNat,J) else I)=_;rw[iP h1,a,<-L9]
def wD{f:FO}{δ δ1:Dn}{o:Opd}{n:Nat}(h1:f δ=Y (o,δ1))(a:res δ1 o=Y (.int n))(e:n<=63):EU f δ=Y (jv 0 n,δ1):=by
 have d:(-(2^62)<=(n:Int)/\(n:Int)<2^62):=⟨by lia,by lia⟩
 have b:ki [f] δ=Y ([o],δ1):=by simp[ki,h1]
 have c:uv δ1 [o]=Y [.int n]:=by simp[uv,a]
 unfold EU;rw[b];simp only[jK];rw[c];simp only[];rw[iP d];rfl
def GA(a:Int)(b:Bool)(n:Nat)(f:n<=5): ∃d t,t∈oZ n (st n) []/\pD [pS a b,pI n]=Y (enc t,[stt d b,ii n]):=by
 have c:(jv 0 n).length=n:=by simp[jv]
 have h:(st n).length=n:=by simp[st]
 obtain⟨d,t,j,k,g,e⟩:=WS b (ii n) (jv 0 n) a (st n) [] I (by rw[c,h]) (by rw[h];simpa using f);rw[c] at g;refine⟨d,t,g,?_⟩;refine lh (δ:=[stt d b,ii n,lsi j,lsi t,k]) ⟨rfl,by decide,rfl⟩ ?_;refine(iG (δ1:=[stt a b,ii n,lsi<|st n,I,I])<|jG (i:=2) (δ1:=[stt a b,ii n,I,I,I]) (nU (os:=[.val (.int 1,C),.val (.int<|(n:Int)+1,C)]) H H<|TC n f) (show 2<5 by decide)).trans ?_;refine(iG (δ1:=[stt a b,ii n,lsi<|st n,lsi [],I]) H).trans ?_;refine(iG<|(lT<|wD (o:= .slot 1) H H<|by lia).trans e).trans ?_;exact kf<|lF<|nU (os:=[.slot 3]) H H H
def wL: ∀t:List Int,D.depL (t.map .int)=0:=by
 intro b
 induction b with
 |nil=>simp[D.depL]
 |cons s t a=>simp[D.depL,D.dep,a]
theorem AF: ∀a b:List Int,D.eqbL (a.map .int) (b.map .int)=decide (a=b)
 |[],[]=>by simp[D.eqbL]
 |[],_::_=>by simp[D.eqbL]
 |_::_,[]=>by simp[D.eqbL]
 |x::a,y::b=>by simp[D.eqbL,D.eqb,AF a b,fS,wV]
@[simp] theorem Ka(a b:iO):gEq (.lst<|a.map .int) (.lst<|b.map .int)=Y (.bl<|decide<|a=b,C):=by unfold gEq;rw[iP<|by simp[D.dep,wL]];simp[D.eqb,AF]
def Q6: ∀(l m:iO),l.Nodup->(∀x∈l,x∈m)->ZB m<=ZB l->l.Perm m:=by
 intro k
 induction k with
 |nil=>intro m _ _ h;have:m=[]:=Pg.mp (by simpa using h);subst this;exact uY _
 |cons x l j=>
  intro m a c h;rw[zD] at a;have g:=c x jT;have b:=KA g;refine((j (m.erase x) a.2 (λy d=>?_) ?_).cons x).trans b.symm
  .have f:=c y<|jX _ d;have i:y≠x:=λe=>a.1<|e▸d;exact(FP i).mpr f
  .have:=b.length_eq;simp only[lQ] at this h
   lia
def Ky:x∈st n↔1<=x/\x<=n:=by
 simp only[st,lZ,wY];constructor
 .rintro⟨k,h,rfl⟩;lia
 .rintro⟨h1,a⟩;exact⟨(x-1).toNat,by lia,by lia⟩
def Sg(n:Nat):(st n).Pairwise (· < ·):=by simp only[st];rw[pG];exact VM.imp λh=>by lia
def V9(n:Nat):(st n).Nodup:=(Sg n).imp λh=>by lia
def QJ{n:Nat}{l:iO}:l.Perm (st n)↔(ZB l)=n/\(∀x∈l,1<=x/\x<=n)/\l.Nodup:=by
 constructor
 .intro h;refine⟨by rw[h.length_eq];simp[st],λx a=>Ky.mp<|h.mem_iff.mp a,h.symm.nodup<|V9 n⟩
 .rintro⟨h1,b,c⟩;exact Q6 l (st n) c (λx a=>Ky.mpr<|b x a) (by simp[st,h1])
def Kq(h1:ltT (.int i) (.int j)=C)(c:ltT (.int j) (.int i)=C):i=j:=by
 rw[qv] at h1 c;simp only[cT] at h1 c;by_cases a:i<j
 .simp[a] at h1
 .by_cases b:j<i
  .simp[b] at c
  .lia
def DA{l:iO}{m:List D}(h:m.Perm (l.map D.int)): ∃k:List Int,m=k.map .int:=by
 refine⟨m.map λd=>match d with|D.int i=>i|_=>0,?_⟩;rw[km]
 symm
 rw[qd (g:=id),ux];intro d hd;obtain⟨i,_,rfl⟩:=lZ.mp<|h.mem_iff.mp hd;rfl
def En(l:iO):nr (l.map .int)=J:=by
 unfold nr
 cases l with
 |nil=>rfl
 |cons x l=>rw[xj];right;simp only[jY];simp[lA,D.pr,D.dep,ng]
def DG(l:iO)(a:(ZB l)<64):mw (.lst<|l.map .int)=Y (.lst<|mH ltT<|l.map .int,J):=by simp only[mw,yn,jK,kJ];rw[iP ⟨En l,by first|(simpa using a)|(rw[jH];simp;lia)⟩]
def Pz(pre:Dn)(x:Sl)(d:D):iF (ZB pre) d (pre++[x])=Y (pre++[Y (d,C)]):=by unfold iF;rw[iP<|by simp];simp[sa]
def BX(p:D->Bool): ∀l:List D,oE (l.map λd=> .bl (p d))=Y (l.map p):=by
 intro b
 induction b with
 |nil=>exact H
 |cons d l a=>simp[oE,a]
def D7(p:D->Bool)(l:List D):E5 (.lst<|l.map λd=> .bl (p d))=Y (.bl<|l.all p,C):=by simp[E5,BX,fF,sx]
def Jj(p:D->Bool)(l:List D):Kb (.lst<|l.map λd=> .bl (p d))=Y (.bl<|l.any p,C):=by simp[Kb,BX,el,sx]
noncomputable def ab(s:Int):Int:=if s<0 then -s else s
noncomputable def sg(n:Int):D->Bool
 | .int s=>decide (1<=ab s)&&decide (ab s<=n)
 |_=>C
noncomputable def iOf:D->Int
 | .int s=>s
 |_=>0
def OkD(d:D):Prop:= ∀l,d= .tup l->ZB l<=60
def ixi{t:iO}{v:Int}(a:0<=v)(h:v<ZB t):gIx (.tup<|t.map .int) (.int v)=ii (t.getD v.toNat 0):=by
 have h1:v.toNat<(ZB t):=by lia
 simp[gIx,atI,ixN,a,h,h1]
def YI{t:iO}{v:Int}(a:0<=v)(h:v<ZB t):gIx (.lst<|t.map .int) (.int v)=ii (t.getD v.toNat 0):=by
 have h1:v.toNat<(ZB t):=by lia
 simp[gIx,atI,ixN,a,h,h1]
def tX(a:Int)(b:Bool)(m:Int)(j:0<m)(f:m<1073741824): ∃v c,0<=v/\v<m/\ ∀(d:FO) (δ:Dn) (o:Opd),d (stt a b::δ)=Y (o,stt a b::δ)->yD (stt a b::δ) o=ii m->iQ jf [iw 0,d] (stt a b::δ)=Y ((.int v,C),stt c b::δ):=by
 obtain⟨v,c,g,h1,e⟩:=tU a b m j f;refine⟨v,c,g,h1,λd δ o h i=>?_⟩;refine(kX (os:=[.slot 0,o]) (args:=[pS a b,pI m]) (tw H h) ?_ ?_ e).trans ?_
 .simp[i]
 .cases o<;>simp[jl]
 .cases o<;>simp[wb]
noncomputable def led(u:iO)(s:Int):Int:=if 0<s then u.getD (s-1).toNat 0 else -(u.getD (-s-1).toNat 0)
def UT(u:iO)(s:Int)(a:s≠0)(h1: -((ZB u):Int)<=s)(b:s<=ZB u):
  mT [enc u,pI s]=Y ((.int<|led u s,C),[eN u,ii s]):=by
 simp only[mT,yz];by_cases h:0<s
 .have:=ixi (t:=u) (v:=s-1) (by lia) (by lia);simp only[evF];simp[h,led,this,jS]
 .have:=ixi (t:=u) (v:= -s-1) (by lia) (by lia);simp only[evF];simp[h,led,this,jS]
def WB(x:Int):pk (.int x) (.int 1)=ii x:=by have:CMul x 1:= .inr (by lia);show((if CMul x 1 then Y (D.int<|x*1) else I).map λz=>(z,C))=_;rw[iP this,zA];rfl
def WA(x:Int):pk (.int x) (.int (-1))=ii (-x):=by have:CMul x (-1):= .inr (by lia);show((if CMul x (-1) then Y (D.int<|x*(-1)) else I).map λz=>(z,C))=_;rw[iP this,Do,zA];rfl
theorem pm0:gIx (.lst [.int 1,.int (-1)]) (.int 0)=ii 1:=rfl
theorem pm1:gIx (.lst [.int 1,.int (-1)]) (.int 1)=ii (-1):=rfl
def ID(u:iO)(s:Int)(b:s≠0)(h1: -((ZB u):Int)<=s)(c:s<=ZB u):
  ji [enc u,pI s]=Y ((.int<|led u s,C),[eN u,ii s]):=by
 simp only[ji,oA];by_cases h:0<s
 .have:=ixi (t:=u) (v:=s-1) (by lia) (by lia);have a: ¬s<0:=by lia
  simp only[evF];simp[h,a,led,this,jS,jH,pm0,WB]
 .have:=ixi (t:=u) (v:= -s-1) (by lia) (by lia);have a:s<0:=by lia
  simp only[evF];simp[h,a,led,this,jS,jH,pm1,WA]
def Ei(a:Int)(b:Bool)(m:Int)(l:0<m)(h:m<1073741824): ∃v f,0<=v/\v<m/\ ∀(g:FO) (c d:Sl) (δ:Dn) (o:Opd),g (c::d::stt a b::δ)=Y (o,c::d::stt a b::δ)->yD (c::d::stt a b::δ) o=ii m->iQ jf [iw 2,g] (c::d::stt a b::δ)=Y ((.int v,C),c::d::stt f b::δ):=by
 obtain⟨v,f,i,h1,e⟩:=tU a b m l h;refine⟨v,f,i,h1,λg c d δ o j k=>?_⟩;refine(kX (os:=[.slot 2,o]) (args:=[pS a b,pI m]) (tw H j) ?_ ?_ e).trans ?_
 .simp[k]
 .cases o<;>simp[jl]
 .cases o<;>simp[wb]
def ClOk(n:Nat)(c:iO):Prop:=c≠[]/\(c.map ab).Pairwise (· < ·)/\ ∀s∈c,1<=ab s/\ab s<=n
def CA(j:Int)(c:iO):Prop:=(c.map ab).Pairwise (· < ·)/\ ∀s∈c,1<=ab s/\ab s<j
def ym(h:0<=i):ab i=i:=by unfold ab;rw[jc<|by lia]
def D1(h:0<=i):ab (-i)=i:=by unfold ab;split<;>lia
def CA.snoc{j s:Int}{c:iO}(h:CA j c)(h1:ab s=j)(e:1<=j):CA (j+1) (c++[s]):=by
 refine⟨?_,λx a=>?_⟩
 .rw[nK,tK];refine⟨h.1,by simp,λx a y b=>?_⟩;obtain⟨z,d,rfl⟩:=lZ.mp a;simp at b;subst b;have:=h.2 z d;lia
 .rcases qb.mp a with a|a
  .have:=h.2 x a;lia
  .simp at a;subst a;lia
def CA.up(h:CA j c):CA (j+1) c:=⟨h.1,λx a=>by have:=h.2 x a;lia⟩
def Hj{i:Nat}{f:F}{a δ1:Dn}{r:D×Bool}{l0 l:List D}(b:a[i]?=Y (Y (.lst l0,J)))(h1:f a=Y (r,δ1))(c:δ1[i]?=Y (Y (.lst l,J)))(d:(ZB l)<=10000):
  iL (lU<|kY i f) iZ a=Y (.nx<|δ1.set i<|Y (.lst<|l++[r.1],J)):=
 (iG<|nS<|pA b h1 c<|C7 d).trans rfl
def Dy(h1:f δ=Y (o1,δ1))(a:g δ1=Y (o2,δ2))(b:res δ2 o1=Y (.int i))(c:res δ2 o2=Y (.int j))(d:0<=i/\i<=1000)(e:0<=j/\j<=1000):vM f g δ=Y (jv i (j-i).toNat,δ2):=by unfold vM;rw[tw h1 a];simp only[jK,TM,PM,b,c];rw[iP ⟨by lia,by lia,by lia,by lia⟩]
def mv(h:f δ=Y ((.lst l,o),δ1)):jx f δ=Y (l,δ1):=by unfold jx;rw[h];rfl
def Dt{b:Type}[BEq b][LawfulBEq b]: ∀(l m:List b),l.Nodup->(∀x∈l,x∈m)->ZB l<=(ZB m):=by
 intro n
 induction n with
 |nil=>intro m _ _;exact lL _
 |cons x l k=>
  intro m a c;rw[zD] at a;have i:=c x jT;have h:=KA i
  have:=k (m.erase x) a.2 (λy d=>by have f:=c y<|jX _ d;have j:y≠x:=λe=>a.1<|e▸d;exact(FP j).mpr f)
  have g:=h.length_eq;simp only[lQ] at g ⊢
  lia
def Ih{l:iO}(h:l.Pairwise (· < ·)):l.Nodup:=h.imp λh=>by lia
def ClOk.len{n:Nat}{c:iO}(h:ClOk n c):(ZB c)<=n:=by
 have:=Dt (c.map ab) (st n) (Ih h.2.1) (λx b=>by obtain⟨s,a,rfl⟩:=lZ.mp b;exact Ky.mpr<|h.2.2 s a)
 simpa[st] using this
def TOk(n:Nat)(t:iO):Prop:=ZB t=n/\ ∀x∈t,1<=ab x/\ab x<=n
def oH(i:Int):ab (-i)=ab i:=by unfold ab;split<;>split<;>lia
def qx{l:iO}{k:Nat}(h:k<ZB l):l.getD k 0∈l:=by rw[nL,jt h];exact List.getElem_mem h
def UU{n:Nat}{t:iO}(b:TOk n t){s:Int}(h1:1<=ab s)(a:ab s<=n):1<=ab (led t s)/\ab (led t s)<=n:=by
 unfold led;unfold ab at h1 a;have c:=b.1;split
 .rename_i h;rw[jc<|by omega] at h1 a;exact b.2 _ (qx<|by omega)
 .rename_i h;rw[oH];split at h1
  .rw[iP<|by assumption] at a;exact b.2 _ (qx<|by omega)
  .omega
noncomputable abbrev cD(c:iO):D:= .tup (c.map .int)
def Ho(c:iO):D.dep (cD c)=1:=by simp[D.dep,wL]
def I9: ∀a:List (List Int),D.depL (a.map cD)<=1:=by
 intro d
 induction d with
 |nil=>simp[D.depL]
 |cons c a b=>have:=b;simp only[jY,D.depL,Ho];lia
def OC(a b:iO):D.eqb (cD a) (cD b)=decide (a=b):=by simp[D.eqb,AF]
def DX(c:iO): ∀a:List (List Int),(a.map cD).any (λd=>D.eqb d<|cD c)=decide (c∈a):=by
 intro f
 induction f with
 |nil=>simp
 |cons x a b=>
  simp only[jY,vg,b,OC,kT];by_cases h:x=c
  .simp[h]
  .have: ¬c=x:=λe=>h e.symm;simp[h,this]
def EF(c:iO)(a:jg):lg (cD c) (.lst<|a.map cD)=Y (.bl (!decide (c∈a)),C):=by
 have:inD (cD c) (.lst<|a.map cD)=Y (decide<|c∈a):=by have hd:=I9 a;show(if D.depL (a.map cD)<=50/\(cD c).dep<=50 then Y ((a.map cD).any λd=>D.eqb d<|cD c) else I)=_;rw[iP ⟨by lia,by rw[Ho];lia⟩,DX]
 unfold lg;rw[this];rfl
noncomputable def AO:Nat->List (List Int)
 |0=>[[]]
 |k+1=>AO k++((AO k).map λc=>c++[(k:Int)+1])++((AO k).map λc=>c++[-((k:Int)+1)])
def Pa: ∀(k:Nat) (c:iO),(c.map ab).Pairwise (· < ·)->(∀s∈c,1<=ab s/\ab s<=k)->c∈AO k:=by
 intro j
 induction j with
 |zero=>
  intro c _ h
  cases c with
  |nil=>simp[AO]
  |cons s c=>have:=h s jT;lia
 |succ k f=>
  intro c b h;simp only[AO,qb,lZ];by_cases d:c=[]
  .subst d;exact .inl<|.inl<|f [] (by simp) (by simp)
  .have hd:=Fw d;generalize c.dropLast=i at hd;generalize c.getLast d=s at hd;subst hd;rw[nK,tK] at b;have l:=h s (by simp);have g: ∀x∈i,1<=ab x/\ab x<ab s:=λx a=>⟨(h x<|by simp[a]).1,b.2.2 (ab x) (oI a) (ab s)<|by simp⟩
   by_cases q:ab s<=k
   .refine .inl (.inl<|f _ ?_ λx a=>?_)
    .rw[nK,tK];exact b
    .rcases qb.mp a with a|a
     .have:=g x a;lia
     .simp at a;subst a;lia
   .have e:ab s=(k:Int)+1:=by lia
    have hk:=f i b.1 λx a=>by have:=g x a;lia
    unfold ab at e;split at e
    .exact .inr ⟨i,hk,by rw[show s= -((k:Int)+1) by lia]⟩
    .exact .inl (.inr ⟨i,hk,by rw[show s=((k:Int)+1) by lia]⟩)
def Kt: ∀(k:Nat) (n:Nat),n<=k->(AO n).length<=(AO k).length:=by
 intro b
 induction b with
 |zero=>intro n h;rw[show n=0 by lia];exact jQ _
 |succ k a=>
  intro n h;by_cases e:n=k+1
  .subst e;exact jQ _
  .have:=a n (by lia);simp only[AO,mF,kh];lia
def CsOk(n:Nat)(cs:jg):Prop:=cs.Nodup/\ ∀c∈cs,ClOk n c
def CsOk.len(b:n<=5)(h:CsOk n cs):(ZB cs)<=243:=by
 have h1:=Dt cs (AO n) h.1 λc a=>Pa n c (h.2 c a).2.1 (h.2 c a).2.2;have d:=Kt 5 n b;have e:(AO 5).length=243:=by decide
 lia
def CsOk.snoc{n:Nat}{b:jg}{c:iO}(h:CsOk n b)(f:ClOk n c)(g:c∉b):CsOk n (b++[c]):=by
 refine⟨?_,λx a=>?_⟩
 .rw[AU];exact⟨h.1,by simp,λx a y d e=>by simp at d;subst d;subst e;exact g a⟩
 .rcases qb.mp a with a|a
  .exact h.2 x a
  .simp at a;subst a;exact f
noncomputable abbrev lsC(cs:jg):Sl:=Y (.lst<|cs.map cD,J)
noncomputable def pH(a:jg)(c:iO):List (List Int):=if c∈a then a else a++[c]
def R0(a:jg)(c:iO):DZ (a.map cD) (cD c)=(pH a c).map cD:=by unfold DZ pH;rw[show(a.map cD).any (D.eqb · (cD c))=decide (c∈a) from DX c a];by_cases h:c∈a<;>simp[h]
def Jk(h:f.Nodup):(pH f c).Nodup:=by
 unfold pH;split
 .exact h
 .rename_i b;rw[AU];exact⟨h,by simp,λx d y a e=>by simp at a;subst a;subst e;exact b d⟩
def wg: ∀l:List Int,D.prL (l.map .int)=J:=by
 intro b
 induction b with
 |nil=>simp[D.prL]
 |cons x l a=>simp[D.prL,D.pr,a]
def G3(c:iO):okS (cD c)=J:=by simp[okS,wg,wL]
def G2(a:jg):(a.map cD).all okS=J:=by rw[mY];intro d hd;obtain⟨c,_,rfl⟩:=lZ.mp hd;exact G3 c
theorem BQ(c:dW): ∀a b:List Int,(rm c (a.map .int)<|b.map .int).isSome=J
 |[],b=>by simp[rm]
 |x::a,[]=>by simp[rm]
 |x::a,y::b=>by
  simp only[jY,rm];split
  .exact BQ c a b
  .simp[ng]
def xM(cs:jg)(h: ∀c∈cs,c≠[]):nr (cs.map cD)=J:=by
 have hk: ∀c:List Int,c≠[]->lA (cD c)=Y 1:=λc g=>by
  cases c with
  |nil=>exact absurd H g
  |cons=>rfl
 unfold nr
 cases cs with
 |nil=>rfl
 |cons c cs=>
  rw[xj];right;simp only[jY];rw[lC,lC,hk c<|h c jT];refine⟨⟨rfl,?_⟩,?_⟩
  .rw[mY];intro d hd;rw[<-jY (f:=cD)] at hd;obtain⟨x,b,rfl⟩:=lZ.mp hd;rw[hk x<|h x b,Ho];simp[D.pr,wg]
  .rw[mY];intro d hd;rw[mY];intro e a;rw[<-jY (f:=cD)] at hd a;obtain⟨x,b,rfl⟩:=lZ.mp hd;obtain⟨y,i,rfl⟩:=lZ.mp a;simp only[ng];exact BQ _ _ _
noncomputable def unC:D->List Int
 | .tup l=>l.map iOf
 |_=>[]
def nq(c:iO):unC (cD c)=c:=by simp only[unC,km];rw[qd (g:=id),ux];intro x _;rfl
def Hr(h:m.Perm (cs.map cD)): ∃a:List (List Int),m=a.map cD/\a.Perm cs:=by
 refine⟨m.map unC,?_,?_⟩
 .rw[km]
  symm
  rw[qd (g:=id),ux];intro d hd;obtain⟨c,_,rfl⟩:=lZ.mp<|h.mem_iff.mp hd;simp only[bW,nq];rfl
 .have:=h.map unC;rw[km] at this;rw[show f5 (unC∘cD) cs=f5 id cs from qd λc _=>nq c,ux] at this;exact this
def SrtC(c:jg):Prop:=c.Pairwise λa b=>ltT (cD b) (cD a)=C
def SrtC.take(h:SrtC a)(m:Nat):SrtC (a.take m):=x0 (xF m a) h
def CsOk.take(h:CsOk n a)(m:Nat):CsOk n (a.take m):=⟨List.Nodup.sublist (xF m a) h.1,λc b=>h.2 c<|xo b⟩
def HE(n:Nat)(a:jg):Prop:=n<=5/\CsOk n a/\SrtC a/\(ZB a)<=30
noncomputable abbrev rD'(n:Nat)(a:jg):D:= .tup [.int n,.tup<|a.map cD]
noncomputable abbrev rS(n:Nat)(a:jg):Sl:=Y (rD' n a,C)
noncomputable abbrev frz(a:List D):Dn:=a.map λd=>Y (d,C)
theorem wt: ∀(os:List Opd) (a:List D),jl os (a.map λd=>(d,C))=[]
 |[],_=>by simp[jl]
 |_::_,[]=>by simp[jl]
 |o::os,d::a=>by cases o<;>simp[jl,wt os a]
theorem HK: ∀(os:List Opd) (b:List D) (a c:Dn),wb os (b.map λd=>(d,C)) a c=c
 |[],_,_,_=>by simp[wb]
 |_::_,[],_,_=>by simp[wb]
 |_::_,_::_,[],_=>by simp[wb]
 |o::os,d::b,x::xs,c=>by cases o<;>simp[wb,HK os b xs]
def Vw{f:F}{ti:FT}{g:D->D}{p:D->Bool}{pre:Dn}: ∀(l a:List D) (x:Sl),(∀d∈l,ti (pre++[Y (d,C)])=Y (p d,pre++[Y (d,C)])/\(p d=J-> ∃o,f (pre++[Y (d,C)])=Y ((g d,o),pre++[Y (d,C)])))->ZB a+ZB l<=sizeLine->
  ∃b,lj (iF<|ZB pre) ti (jA f) l a (pre++[x])=Y (a++(l.filter p).map g,pre++[b]):=by
 intro r
 induction r with
 |nil=>intro a x _ _;exact⟨x,by simp[lj]⟩
 |cons d l m=>
  intro a x h j;obtain⟨h1,n⟩:=h d jT;have q:(ZB a)<sizeLine:=by simp at j;lia
  rw[lj,Pz];simp only[jK];rw[h1]
  cases k:p d with
  |false=>obtain⟨b,e⟩:=m a (Y (d,C)) (λc i=>h c<|jX _ i) (by simp at j ⊢;lia);exact⟨b,by simp[e,k]⟩
  |true=>obtain⟨o,hd⟩:=n k;obtain⟨b,e⟩:=m (a++[g d]) (Y (d,C)) (λc i=>h c<|jX _ i) (by simp at j ⊢;lia);refine⟨b,?_⟩;simp only[jK,kG,we];rw[hd];simp only[jK];rw[iP q];simp only[jK];rw[e];simp[k]
def DQ{caps:jU}{fi:FIt}{f:F}{ti:FT}{δ δ1:Dn}{l args:List D}(g:D->D)(p:D->Bool)(h1:fi δ=Y (l,δ1))(a:kb δ1 (caps.map .slot)=Y (args.map λd=>(d,C)))(b:(ZB args)=ZB caps)
  (h: ∀d∈l,ti (frz args++[Y (d,C)])=Y (p d,frz args++[Y (d,C)])/\(p d=J-> ∃o,f (frz args++[Y (d,C)])=Y ((g d,o),frz args++[Y (d,C)])))(c:(ZB l)<=10000):
  jI caps 1 fi (iF<|ZB caps) ti (jA f) δ=Y ((.lst<|(l.filter p).map g,J),δ1):=by
 obtain⟨i,e⟩:=Vw (f:=f) (ti:=ti) (g:=g) (p:=p) (pre:=frz args) l [] I h (by rw[jH];simp;lia);unfold jI;rw[h1];simp only[jK];rw[a];simp only[jK,wt,pJ,kG,km,HK];rw[show iF (ZB caps)=iF (frz args).length from by rw[kh,b]];rw[show((args.map<|Y∘λd=>(d,C))++ae 1 I:Dn)=frz args++[I] from H,e];simp
def vQ{caps:jU}{fi:FIt}{f:F}{δ δ1:Dn}{l args:List D}(g:D->D)(h1:fi δ=Y (l,δ1))(a:kb δ1 (caps.map .slot)=Y (args.map λd=>(d,C)))(b:(ZB args)=ZB caps)
  (h: ∀d∈l,∃o,f (frz args++[Y (d,C)])=Y ((g d,o),frz args++[Y (d,C)]))(c:(ZB l)<=10000):
  jI caps 1 fi (iF<|ZB caps) kK (jA f) δ=Y ((.lst<|l.map g,J),δ1):=by
 rw[DQ g (λ_=>J) h1 a b (λd hd=>⟨rfl,λ_=>h d hd⟩) c,VH.mpr λ_ _=>rfl]
def ON{caps:jU}{fi:FIt}{f:F}{δ δ1:Dn}{l args:List D}(p:D->Bool)(h1:fi δ=Y (l,δ1))(a:kb δ1 (caps.map .slot)=Y (args.map λd=>(d,C)))(b:(ZB args)=ZB caps)
  (h: ∀d∈l,∃o,f (frz args++[Y (d,C)])=Y ((.bl<|p d,o),frz args++[Y (d,C)]))(c:(ZB l)<=10000):
  jh (g1 E5) [iA<|jI caps 1 fi (iF<|ZB caps) kK<|jA f] δ=Y ((.bl<|l.all p,C),δ1):=
 nU (vP<|jo<|vQ (λd=> .bl (p d)) h1 a b h c) rfl (D7 p l)
def OM{caps:jU}{fi:FIt}{f:F}{δ δ1:Dn}{l args:List D}(p:D->Bool)(h1:fi δ=Y (l,δ1))(a:kb δ1 (caps.map .slot)=Y (args.map λd=>(d,C)))(b:(ZB args)=ZB caps)
  (h: ∀d∈l,∃o,f (frz args++[Y (d,C)])=Y ((.bl<|p d,o),frz args++[Y (d,C)]))(c:(ZB l)<=10000):
  jh (g1 Kb) [iA<|jI caps 1 fi (iF<|ZB caps) kK<|jA f] δ=Y ((.bl<|l.any p,C),δ1):=
 nU (vP<|jo<|vQ (λd=> .bl (p d)) h1 a b h c) rfl (Jj p l)
def oB{tg:Tg}{fb:FS}(U:List D->Dn->Prop)(step: ∀d ds δ,U (d::ds) δ-> ∃δ1 δ2,tg d δ=Y δ1/\fb δ1=Y (.nx δ2)/\U ds δ2): ∀(ds:List D) (δ:Dn),U ds δ-> ∃a,U [] a/\qy tg fb ds δ=Y (.nx a):=by
 intro i
 induction i with
 |nil=>intro δ h;exact⟨δ,h,rfl⟩
 |cons d ds g=>intro δ h;obtain⟨δ1,δ2,h1,b,c⟩:=step d ds δ h;obtain⟨a,e,f⟩:=g δ2 c;refine⟨a,e,?_⟩;unfold qy;rw[h1];simp only[jK];rw[b];exact f
def tu{caps:jU}{k:Nat}{fi:FIt}{d:Tg}{ti:FT}{c:FB}{δ δ1 b:Dn}{l a:List D}{args:List (D×Bool)}(h1:fi δ=Y (l,δ1))(e:kb δ1 (caps.map .slot)=Y args)(f:(jl (caps.map .slot) args).Nodup)(g:lj d ti c l [] (args.map Y++ae k I)=Y (a,b)):
  jI caps k fi d ti c δ=Y ((.lst a,J),wb (caps.map .slot) args (jS args b) δ1):=by
 unfold jI;rw[h1];simp only[jK];rw[e];simp only[jK];rw[iP f,g];rfl
def OA(h:f δ=Y ((.bl J,o),δ1)):Hk f g δ=g δ1:=by rw[MD,h];rfl
def Vo(h:f δ=Y ((.bl C,o),δ1)):Hk f g δ=Y ((.bl C,C),δ1):=by rw[MD,h];rfl
def BL(p:D->Bool)(L:jg):((L.map cD).filter p).map (λd=>d)=(L.filter λt=>p<|cD t).map cD:=by rw[v5,Cb];rfl
def Xh(x:Int)(c:iO):(c.map D.int).any (λd=>D.eqb d<|.int x)=c.contains x:=by
 induction c with
 |nil=>rfl
 |cons y c a=>rw[jY,vg,a,List.contains_cons];simp[D.eqb,wV,eq_comm]
def yU(x:Int)(c:iO):lg (.int x) (cD c)=Y (.bl (!c.contains x),C):=by
 have:inD (.int x) (cD c)=Y (c.contains x):=by show(if D.depL (c.map .int)<=50/\(D.int x).dep<=50 then Y ((c.map D.int).any λd=>D.eqb d<|.int x) else I)=_;rw[iP ⟨by rw[wL];lia,by simp[D.dep]⟩,Xh]
 unfold lg;rw[this];rfl
def Sz(c:iO)(a:jg):gIn (cD c) (.lst<|a.map cD)=Y (.bl<|decide<|c∈a,C):=by
 have h:=EF c a;unfold lg at h;unfold gIn
 cases d:inD (cD c) (.lst<|a.map cD) with
 |none=>rw[d] at h;cases h
 |some b=>rw[d] at h;simp at h ⊢;cases b<;>simp at h ⊢ <;>exact h
def EZ{d:D}(h:d.dep<=50):gEq d d=Y (.bl J,C):=by unfold gEq;rw[iP ⟨h,h⟩,D.eqb_refl]
def N9{d:D}(h:d.dep<=50):gNe d d=Y (.bl C,C):=by unfold gNe;rw[iP ⟨h,h⟩,D.eqb_refl];rfl
def DO(L:jg):(D.lst<|L.map cD).dep<=50:=by have:=I9 L;rw[D.dep];lia
def OL(l:List D)(v:Nat):PX.DP l I (Y (v:Int))=l.take v:=by
 unfold PX.DP;rw[HT.VE,HT.We,List.drop_zero,Nat.sub_zero];by_cases h:v<=ZB l
 .rw[ze h]
 .rw[Nat.min_eq_right<|by omega,xp<|jQ _,xp<|by omega]
def TT(n:Nat)(t:iO):Prop:=(t.map ab).Perm<|st n
def SG(n:Nat)(s:Int):Prop:=1<=ab s/\ab s<=n
def beh(t u:iO):List Int:=t.map<|led u
def TT.len{n:Nat}{t:iO}(h:TT n t):(ZB t)=n:=by simpa using(QJ.mp h).1
def TT.sg{n:Nat}{t:iO}(h:TT n t){x:Int}(a:x∈t):SG n x:=(QJ.mp h).2.1 _ (oI a)
def TT.tok{n:Nat}{t:iO}(h:TT n t):TOk n t:=⟨h.len,λx a=>h.sg a⟩
def Wb{n:Nat}{s:Int}(h:SG n s):s≠0:=by rintro rfl;have:=h.1;simp[ab] at this
def Tu{n:Nat}{s:Int}(h:SG n s):SG n (-s):=by unfold SG;rw[oH];exact h
def nR{n:Nat}{s:Int}(h:SG n s): ∃k:Nat,k<n/\(s=(k:Int)+1\/s= -((k:Int)+1)):=by
 have:=h;unfold SG ab at this;split at this
 .exact⟨(-s-1).toNat,by omega,.inr<|by omega⟩
 .exact⟨(s-1).toNat,by omega,.inl<|by omega⟩
def Wc{n k:Nat}(h:k<n):SG n ((k:Int)+1):=by unfold SG;rw[ym<|by lia];lia
def lV(t:iO)(k:Nat):led t ((k:Int)+1)=t.getD k 0:=by unfold led;rw[iP<|by lia,show((k:Int)+1-1).toNat=k by lia]
def lN(t:iO)(k:Nat):led t (-((k:Int)+1))= -t.getD k 0:=by unfold led;rw[jc<|by lia,show(- -((k:Int)+1)-1).toNat=k by lia]
def IF{n:Nat}(t:iO){s:Int}(h:SG n s):led t (-s)= -led t s:=by
 obtain⟨k,_,rfl|rfl⟩:=nR h
 .rw[lV,lN]
 .rw[Db,lV,lN,Db]
def HD{n:Nat}{t:iO}(a:(ZB t)=n){s:Int}(h:SG n s):ab (led t s)=(t.map ab).getD ((ab s).toNat-1) 0:=by
 obtain⟨k,hk,rfl|rfl⟩:=nR h
 .rw[lV,ym (i:=(k:Int)+1)<|by lia,show(((k:Int)+1).toNat-1)=k by lia];simp[nL,a,hk]
 .rw[lN,oH,D1<|by lia,show(((k:Int)+1).toNat-1)=k by lia];simp[nL,a,hk]
def TT.led{n:Nat}{t:iO}(h:TT n t){s:Int}(a:SG n s):SG n (led t s):=UU h.tok a.1 a.2
def IH{n:Nat}{t:iO}(h:TT n t)(u:iO){s:Int}(b:SG n s):PV.led (beh t u) s=PV.led u (PV.led t s):=by
 obtain⟨k,hk,rfl|rfl⟩:=nR b
 .rw[lV,lV];simp[beh,nL,h.len,hk]
 .have a:t.getD k 0∈t:=qx (by rw[h.len];exact hk);rw[lN,lN,IF u<|h.sg a];simp[beh,nL,h.len,hk]
def TT.beh{n:Nat}{t u:iO}(h:TT n t)(a:TT n u):TT n (beh t u):=by
 unfold TT
 have e:(PV.beh t u).map ab=(t.map ab).map λj=>(u.map ab).getD (j.toNat-1) 0:=by unfold PV.beh;rw[km,km];refine qd λx d=>?_;exact HD a.len<|h.sg d
 rw[e];refine(h.map _).trans (h9 (Fv ?_) a);apply zq
 .simp[st,a.len]
 .intro i h1 f;have c:i<n:=by simpa[st] using h1
  have b:((1:Int)+(i:Int)).toNat-1=i:=by lia
  simp only[st,km,zp,List.getElem_range,bW,b];simp[nL,a.len,c]
def IG{n:Nat}{t:iO}(h:TT n t){s r:Int}(g:SG n s)(f:SG n r)(e:PV.led t s=PV.led t r):s=r:=by
 have k:=(QJ.mp h).2.2
 have c: ∀{i j:Nat},i<n->j<n->ab (t.getD i 0)=ab (t.getD j 0)->i=j:=λ{i j} a b e=>by
  have l:=h.len
  have:=(Gs (xs:=t.map ab) (i:=i) (j:=j) (h₀:=by simpa[l] using a) (h₁:=by simpa[l] using b) k).mp (by simp only[zp];simpa[nL,l,a,b] using e)
  exact this
 have d: ∀{i:Nat},i<n->t.getD i 0≠0:=λ{i} a=>Wb<|h.sg<|qx (by rw[h.len];exact a);obtain⟨i,a,rfl|rfl⟩:=nR g<;>obtain⟨j,b,rfl|rfl⟩:=nR f
 .rw[lV,lV] at e;rw[c a b<|by rw[e]]
 .rw[lV,lN] at e;have:=c a b (by rw[e,oH]);subst this;exact absurd (show t.getD i 0=0 by lia)<|d a
 .rw[lV,lN] at e;have:=c a b (by rw[<-e,oH]);subst this;exact absurd (show t.getD i 0=0 by lia)<|d a
 .rw[lN,lN] at e;rw[c a b<|by rw[show t.getD i 0=t.getD j 0 by lia]]
def Rc{n:Nat}{t u:iO}(h1:(ZB t)=n)(a:(ZB u)=n)(h: ∀s,SG n s->PV.led t s=PV.led u s):t=u:=by apply zq (by rw[h1,a]);intro i b c;have:=h _ (Wc (n:=n) (k:=i)<|by lia);rw[lV,lV] at this;simpa[nL,b,c] using this
def GD(n:Nat):(st n).length=n:=by simp[st]
def Bp(n:Nat):TT n (st n):=by
 have:(st n).map ab=st n:=by
  conv=>rhs;rw[<-ux (st n)]
  refine qd λx a=>?_;have:=Ky.mp a;exact ym (by lia)
 unfold TT;rw[this]
def NP{n:Nat}{s:Int}(h:SG n s):PV.led (st n) s=s:=by
 obtain⟨k,hk,rfl|rfl⟩:=nR h
 .rw[lV];simp[st,nL,hk];lia
 .rw[lN];simp[st,nL,hk];lia
def pwT(n:Nat)(t:iO):Nat->List Int
 |0=>st n
 |k+1=>beh (pwT n t k) t
theorem ML{n:Nat}{t:iO}(h:TT n t): ∀k,TT n<|pwT n t k
 |0=>Bp n
 |k+1=>(ML h k).beh h
def Ql{n:Nat}{t:iO}(h:TT n t):pwT n t 1=t:=
 Rc (n:=n) (ML h 1).len h.len λs a=>by rw[show pwT n t 1=PV.beh (st n) t from H,IH (Bp n) t a,NP a]
def GW: ∀(k:Nat) (r f t:iO),ZB r=k->(∀x∈r,0<=x)->t∈oZ k r f->(t.map ab).Perm (f.map ab++r):=by
 intro m
 induction m with
 |zero=>intro r f t d _ h;simp[oZ] at h;subst h;rw[Pg.mp d];simp
 |succ k i=>
  intro r f t d b h;simp only[oZ,yE,qb,wY] at h;obtain⟨v,hv,h⟩:=h;have c:(r.eraseIdx v).length=k:=by rw[Cf,iP hv];lia
  have g: ∀x∈r.eraseIdx v,0<=x:=λx a=>b x<|List.mem_of_mem_eraseIdx a;have a:=b _ (qx hv)
  have fin: ∀y:Int,ab y=r.getD v 0->(f5 ab (f++[y])++r.eraseIdx v).Perm (f.map ab++r):=λy l=>by
   rw[nK,oq];refine K5 _ ?_;simp only[jY,vp,oC,xa,l];have e:r.getD v 0=r[v]:=by simp[nL,hv]
   rw[e];rw[List.eraseIdx_eq_take_drop_succ];have j:r=r.take v++r[v]::r.drop (v+1):=by rw[<-xt hv,vb]
   conv=>rhs;rw[j]
   exact Pf.symm
  rcases h with h|h
  .exact(i _ _ t c g h).trans (fin _ (by rw[zA];exact ym a))
  .exact(i _ _ t c g h).trans (fin _ (by rw[Do,zA];exact D1 a))
def Pw{n:Nat}{t:iO}(h:t∈oZ n (st n) []):TT n t:=by have:=GW n (st n) [] t (GD n) (λx a=>by have:=Ky.mp a;lia) h;unfold TT;simpa using this
noncomputable def lc(t c:iO):List Int:=(mH ltA<|(c.map<|led t).map D.int).map iOf
def LCs(t c d:iO):Prop:=d.Perm (c.map<|led t)/\(d.map ab).Pairwise (· < ·)
def EV{m:List D}{l:iO}(h:m.Perm (l.map D.int)):m=(m.map iOf).map D.int/\(m.map iOf).Perm l:=by
 obtain⟨k,rfl⟩:=DA h;have e:(k.map D.int).map iOf=k:=by rw[km];exact ux k
 rw[e];refine⟨rfl,?_⟩;have:=h.map iOf
 rwa [e,km,show f5 (iOf∘D.int) l=l from ux l] at this
def Ca{n:Nat}{t c:iO}(g:TT n t)(h1:(c.map ab).Nodup)(f: ∀s∈c,SG n s):((c.map<|led t).map ab).Nodup:=by
 rw[km,gc,pG];rw[gc,pG] at h1;refine h1.imp_of_mem λ{a b} j k i e=>i ?_;have e:ab (led t a)=ab (led t b):=e;have h:=f a j;have d:=f b k;by_cases q:led t a=led t b
 .rw[IG g h d q]
 .have:led t a=led t (-b):=by rw[IF t d];unfold ab at e;split at e<;>split at e<;>lia
  rw[IG g h (Tu d) this,oH]
def uh{n:Nat}{t c:iO}(j:TT n t)(g:ClOk n c):LCs t c (lc t c)/\(mH ltA<|(c.map<|led t).map D.int)=(lc t c).map D.int:=by
 obtain⟨e,i⟩:=EV<|kH ltA<|(c.map<|led t).map D.int;refine⟨⟨i,?_⟩,e⟩;have k:=Ca j (Ih g.2.1) λs f=>g.2.2 s f;have d:((lc t c).map ab).Nodup:=(i.map ab).symm.nodup k;have f:=Br<|(c.map<|led t).map D.int;rw[e,pG] at f;rw[pG];rw[gc,pG] at d;refine(f.and d).imp λ{a b} h=>?_;have h1:ab a<=ab b:=h.1;have l:ab a≠ab b:=h.2
 lia
def LCs.uniq{n:Nat}{t c d e:iO}(h1:LCs t c d)(f:LCs t c e):d=e:=by have g:=h1.2;have h:=f.2;rw[pG] at g h;refine(h1.1.trans f.1.symm).eq_of_pairwise (le:=λa b=>ab a<ab b) (λa b _ _ x y=>absurd x<|by lia) g h
def LCs.cl{n:Nat}{t c d:iO}(h:LCs t c d)(f:TT n t)(a:ClOk n c):ClOk n d:=by
 refine⟨λe=>a.1 ?_,h.2,λs b=>?_⟩
 .have:=h.1.length_eq;rw[e] at this;simp at this;exact Pg.mp this.symm
 .obtain⟨x,g,rfl⟩:=lZ.mp<|h.1.mem_iff.mp b;exact f.led<|a.2.2 x g
def Sx{n:Nat}{t c:iO}(b:TT n t)(a:ClOk n c):ClOk n (lc t c):=(uh b a).1.cl b a
def WH{n:Nat}{t u c:iO}(b:TT n t)(e:TT n u)(a:ClOk n c):lc u (lc t c)=lc (beh t u) c:=by have h1:=(uh b a).1;have d:=(uh e<|Sx b a).1;refine LCs.uniq (n:=n) (t:=beh t u) (c:=c) ⟨d.1.trans ?_,d.2⟩ (uh (b.beh e) a).1;refine(h1.1.map _).trans (Fv ?_);rw[km];exact qd λs f=>(IH b u<|a.2.2 s f).symm
def WG{n:Nat}{c:iO}(a:ClOk n c):lc (st n) c=c:=by
 refine LCs.uniq (n:=n) (t:=st n) (c:=c) (uh (Bp n) a).1 ⟨Fv ?_,a.2.1⟩
 conv=>lhs;rw[<-ux c]
 exact qd λs b=>(NP<|a.2.2 s b).symm
def RJ(b:FO)(a:Dn)(d:D):Prop:= ∃o,b a=Y (o,a)/\res a o=Y d
def FJ(b:FO)(a:Dn)(d:D):Prop:= ∃o,b a=Y (o,a)/\res a o=Y d/\yD a o=Y (d,C)
def FJ.r{c:FO}{δ:Dn}{d:D}(h:FJ c δ d):RJ c δ d:=let⟨o,a,b,_⟩:=h;⟨o,a,b⟩
def jV{i:Nat}{δ:Dn}{d:D}(h:δ[i]?=Y (Y (d,C))):FJ (iw i) δ d:=⟨.slot i,by unfold iw;rw[h],by unfold res;simp[h],by simp[h]⟩
def jR{i:Nat}{δ:Dn}{d:D}{b:Bool}(h:δ[i]?=Y (Y (d,b))):RJ (iw i) δ d:=⟨.slot i,by unfold iw;rw[h],by unfold res;simp[h]⟩
def jE{f:F}{δ:Dn}{d:D}{b:Bool}(h:f δ=Y ((d,b),δ)):FJ (iA f) δ d:=⟨.val (d,b),jo h,rfl,rfl⟩
def jU1{c:EvF}{e:FO}{δ:Dn}{a:D}{r:D×Bool}{b:Dn}(h:c [(a,C)]=Y (r,b))(g:FJ e δ a):iQ c [e] δ=Y (r,δ):=by obtain⟨o,h1,_,f⟩:=g;refine(kX (vP h1) (args:=[a].map λd=>(d,C)) (by simp[f]) (by rw[wt];exact pJ) h).trans ?_;rw[HK]
def jU2{c:EvF}{e fb:FO}{δ:Dn}{a b:D}{r:D×Bool}{outs:Dn}(h:c [(a,C),(b,C)]=Y (r,outs))(g:FJ e δ a)(i:FJ fb δ b):iQ c [e,fb] δ=Y (r,δ):=by obtain⟨o,h1,_,f⟩:=g;obtain⟨l,j,_,k⟩:=i;refine(kX (tw h1 j) (args:=[a,b].map λd=>(d,C)) (by simp[f,k]) (by rw[wt];exact pJ) h).trans ?_;rw[HK]
def jO{g:D->D->Option (D×Bool)}{c fb:FO}{δ:Dn}{a b:D}{r:D×Bool}(h:g a b=Y r)(e:RJ c δ a)(f:RJ fb δ b):iN g c fb δ=Y (r,δ):=by obtain⟨o,h1,d⟩:=e;obtain⟨k,i,j⟩:=f;exact lI h1 i d j h
def jC{g:D->Option (D×Bool)}{b:FO}{δ:Dn}{a:D}{r:D×Bool}(h:g a=Y r)(d:RJ b δ a):jh (g1 g) [b] δ=Y (r,δ):=by obtain⟨o,h1,c⟩:=d;exact nU (ds:=[a]) (vP h1) (by simp[c]) h
def JB{f:F}{np:Nat}{args:List (D×Bool)}{r:D×Bool}{δ:Dn}(h1:(ZB args)=np/\np<=np/\(args.zipIdx.all λp=>!(p.1.2&&([]:List Nat).contains p.2))=J)(a:f (args.map Y++ae (np-np) I)=Y (r,δ)):evF np np [] (iL (kN f) iZ) args=Y (r,jS args δ):=
 lh h1 (kf<|lF a)
def Ml{n:Nat}{s:Int}(h:SG n s):s≠0/\ -(n:Int)<=s/\s<=n:=by obtain⟨k,hk,rfl|rfl⟩:=nR h<;>lia
def WE{n:Nat}{u:iO}(d:(ZB u)=n){s:Int}(h:SG n s):mT [enc u,pI s]=Y ((.int<|led u s,C),[eN u,ii s]):=by obtain⟨a,b,c⟩:=Ml h;exact UT u s a (by rw[d];exact b) (by rw[d];exact c)
def NH(f:Int->Int)(l:iO):(l.map D.int).map (λd=>D.int<|f<|iOf d)=(l.map f).map D.int:=by rw[km,km];rfl
def yj{caps:jU}{a:FIt}{f:F}{δ δ1:Dn}{l:iO}{args:List D}(g:Int->Int)(h1:a δ=Y (l.map D.int,δ1))(b:kb δ1 (caps.map .slot)=Y (args.map λd=>(d,C)))(c:(ZB args)=ZB caps)
  (h: ∀x∈l,∃o,f (frz args++[ii x])=Y ((.int<|g x,o),frz args++[ii x]))(e:(ZB l)<=10000):
  jI caps 1 a (iF<|ZB caps) kK (jA f) δ=Y ((.lst<|(l.map g).map D.int,J),δ1):=by
 rw[vQ (λd=> .int (g<|iOf d)) h1 b c (λd hd=>by obtain⟨x,i,rfl⟩:=lZ.mp hd;exact h x i)<|by simpa using e,NH]
def Ks{n:Nat}(f:n<=5){t u:iO}(c:TT n t)(d:(ZB u)=n):qz [enc t,enc u]=Y (enc<|beh t u,[eN t,eN u]):=by refine JB ⟨rfl,by decide,rfl⟩<|jC (a:= .lst ((beh t u).map D.int)) H (jE (b:=J)<|yj (args:=[cD u]) (led u) H H H (λx e=>⟨C,?_⟩)<|by rw[c.len];lia).r;exact jU2 (WE d<|c.sg e) (jV H)<|jV H
def Mp(n:Nat)(b:n<=5):gRg .tup C [.int 1,.int<|(n:Int)+1]=Y (.tup<|(st n).map .int,C):=by
 have:n=0\/n=1\/n=2\/n=3\/n=4\/n=5:=by lia
 have h1:RgOk 1 ((n:Int)+1):=by rcases this with rfl|rfl|rfl|rfl|rfl|rfl<;>decide+kernel
 have a:((n:Int)+1-1).toNat=n:=by lia
 show(if RgOk 1 ((n:Int)+1) then Y (D.tup<|jv 1 ((n:Int)+1-1).toNat,C) else I)=_;rw[iP h1,a,<-L9]
def L7{n:Nat}(a:n<=5):pB [pI n]=Y (enc<|st n,[ii n]):=
 JB ⟨rfl,by decide,rfl⟩ (nU (os:=[.val (.int 1,C),.val (.int<|(n:Int)+1,C)]) H H<|Mp n a)
def CW{c:FT}{b:FS}{k:Nat}{d a δ2:Dn}(h:c d=Y (J,a))(e:b a=Y (.nx δ2)):ml c b (k+1) d=ml c b k δ2:=by rw[ml,h];simp only[jK,kG];rw[e];rfl
def yP{b:FT}{d:FS}{k:Nat}{c a:Dn}(h:b c=Y (C,a)):ml b d (k+1) c=Y (.nx a):=by rw[ml,h];rfl
def C4{cs:jg}(h:nr (cs.map cD)=J)(b:(ZB cs)<=10000): ∃a:List (List Int),a.Perm cs/\SrtC a/\kJ (cs.map cD)=Y (.lst<|a.map cD,J):=by
 obtain⟨a,e,c⟩:=Hr<|kH ltT<|cs.map cD;refine⟨a,c,?_,?_⟩
 .have:=qm<|cs.map cD;rw[e,pG] at this;exact this
 .unfold kJ;rw[iP ⟨h,by rw[kh];exact qL b⟩,e]
def Oq{f g:F}{δ:Dn}{a b:D×Bool}(h1:f δ=Y (a,δ))(c:g δ=Y (b,δ)):mJ [f,g] δ=Y ((.tup [a.1,b.1],C),δ):=by rw[TQ,show[f,g].map iA=[iA f,iA g] from H,tw (jo h1)<|jo c];simp[jH]
theorem OV: ∀(l:jg) (a:List D) (x y:Sl),(∀p∈l,∃i j,p=[i,j])->ZB a+ZB l<=1000-> ∃b c,lj (qk [iF 0,iF 1]) kK (jA<|ju 1) (l.map cD) a [x,y]=Y (a++l.map λp=>D.int<|p.getD 1 0,[b,c])
 |[],a,x,y,_,_=>⟨x,y,by simp[lj]⟩
 |p::l,a,x,y,h,d=>by obtain⟨i,j,rfl⟩:=h p jT;obtain⟨b,c,e⟩:=OV l (a++[.int j]) (ii i) (ii j) (λq f=>h q<|jX _ f) (by simp at d ⊢;lia);refine⟨b,c,?_⟩;rw[jY,lj];rw[show qk [iF 0,iF 1] (cD [i,j]) [x,y]=Y [ii i,ii j] from H];simp only[jK,De,kG,we];rw[show ju 1 [ii i,ii j]=Y ((.int j,C),[ii i,ii j]) from H];simp only[jK];rw[iP<|C7<|by simp at d;lia];simp only[jK];rw[e];simp
def RT{a s b r:Int}(h:ltT (cD [b,r]) (cD [a,s])=C):a<=b:=by
 rw[qv] at h;by_cases q:b<a
 .exact absurd (by simp[cT,cL,q]) h
 .lia
def NL{n:Nat}(N:n<=5){t c:iO}(o:TT n t)(k:ClOk n c): ∃L,jB [enc c,enc t]=Y (enc<|lc t c,[eN c,L])/\L=eN t:=by
 have M:=k.len
 let pr:Int->List Int:=λs=>[ab<|led t s,led t s]
 obtain⟨f,m,C,e⟩:=C4 (cs:=c.map pr) (xM _ λx E=>by obtain⟨y,_,rfl⟩:=lZ.mp E;simp[pr]) (by simp;lia)
 have z:jI [1] 1 (jx<|ju 0) (iF 1) kK (jA<|mJ [jh (g1 E6) [iA<|iQ ji [iw 0,iw 1]],iQ ji [iw 0,iw 1]]) [eN c,eN t,I]=Y ((.lst<|(c.map pr).map cD,Zx),[eN c,eN t,I]):=by
  refine(vQ (caps:=[1]) (args:=[cD t]) (l:=c.map D.int) (δ1:=[eN c,eN t,I]) (λd=>cD<|pr<|iOf d) Zz Zz Zz (λd hd=>?_)<|by simp;lia).trans ?_
  rotate_left
  .rw[km,km];rfl
  .obtain⟨x,E,rfl⟩:=lZ.mp hd;obtain⟨a1,O,z⟩:=Ml<|k.2.2 x E;have j:iQ ji [iw 0,iw 1] (frz [cD t]++[ii x])=Y ((.int<|led t x,Zy),frz [cD t]++[ii x]):=jU2 (ID t x a1 (by rw[o.len];exact O)<|by rw[o.len];exact z) (jV Zz)<|jV Zz;exact⟨Zy,Oq (jC (Wj _) (jE j).r) j⟩
 have A: ∀v:Sl,∃u w,lj (qk [iF 0,iF 1]) kK (jA<|ju 1) (f.map cD) [] [I,I]=Y (f.map λp=>D.int<|p.getD 1 0,[u,w]):=λv=>by
  obtain⟨u,w,e⟩:=OV f [] I I (λp B=>by obtain⟨y,_,rfl⟩:=lZ.mp<|m.mem_iff.mp B;exact⟨_,_,rfl⟩) (by rw[m.length_eq];simp;lia)
  exact⟨u,w,by simpa using e⟩
 obtain⟨u,w,A⟩:=A I
 have Q:(f.map λp=>p.getD 1 0)=lc t c:=by
  have j:(f.map λp=>p.getD 1 0).Perm (c.map<|led t):=by
   have:=m.map λp=>p.getD 1 0
   rwa [km] at this
  have g: ∀p∈f,p=[ab<|p.getD 1 0,p.getD 1 0]:=λp B=>by obtain⟨y,_,rfl⟩:=lZ.mp<|m.mem_iff.mp B;rfl
  refine LCs.uniq (n:=n) (t:=t) (c:=c) ⟨j,?_⟩ (uh o k).1;have U:((f.map λp=>p.getD 1 0).map ab).Nodup:=(j.map ab).symm.nodup<|Ca o (Ih k.2.1) λs C=>k.2.2 s C;rw[km,pG];rw[km,gc,pG] at U;refine(y7 C U).imp_of_mem λ{p q} h1 G h=>?_;have H:=h.1;rw[g p h1,g q G] at H;have:=RT H;have J:=h.2;simp only[bW] at J ⊢
  lia
 refine⟨_,?_,rfl⟩;refine lh (δ:=[eN c,eN t,Y (.lst<|(c.map pr).map cD,Zx)]) ⟨rfl,by decide,rfl⟩ ?_;refine(iG<|jG (i:=2) z (show 2<3 by decide)).trans (kf<|lF<|jC (a:= .lst ((lc t c).map D.int)) Zz (jE (b:=Zx) ?_).r);rw[tu (l:=f.map cD) (δ1:=[eN c,eN t,Y (.lst<|(c.map pr).map cD,Zx)]) (args:=[]) (fi:=jx<|jh (g1 mw) [iw 2]) ?_ Zz (by simp[jl]) A]
 .have T:(f.map λp=>D.int<|p.getD 1 0)=(lc t c).map D.int:=by rw[<-Q,km];rfl
  rw[T];rfl
 .rw[Dd,jC (show mw (.lst<|(c.map pr).map cD)=Y (.lst<|f.map cD,Zx) from e)<|jR Zz];rfl
abbrev fsg:F:=iN gIx (iA<|lq [fC<|.int 1,kB nA<|iA<|fC<|.int 1])<|iA<|iQ jf [iw 0,iA<|fC<|.int 2]
def Mk(a:Int)(b:Bool): ∃(s c:Int),(s=1\/s= -1)/\ ∀δ:Dn,fsg (stt a b::δ)=Y ((.int s,C),stt c b::δ):=by obtain⟨v,c,d,f,e⟩:=tX a b 2 (by lia) (by lia);refine⟨if v=0 then 1 else -1,c,by split<;>simp,λδ=>?_⟩;refine lI (o1:= .val (.lst [.int 1,.int (-1)],J)) (δ1:=stt a b::δ) H (jo<|e _ δ _ rfl rfl) H H ?_;rcases(show v=0\/v=1 by lia) with rfl|rfl<;>rfl
def Sv{x s:Int}(h:s=1\/s= -1): ∃y,(y=x\/y= -x)/\pk (.int x) (.int s)=ii y:=by
 rcases h with rfl|rfl
 .exact⟨x,.inl H,WB x⟩
 .exact⟨-x,.inr H,WA x⟩
abbrev tiC:FT:=fT<|iN gEq (iA<|iQ jf [iw 0,iA<|fC<|.int 2])<|iA<|fC<|.int 0
theorem SO(b:Bool): ∀(m j:Nat) (a:Int) (c:iO) (x:Sl),1<=j->CA j c->ZB c+m<=10-> ∃f d i,CA (j+m:Nat) d/\(ZB d)<=10/\lj (iF 1) tiC (jA<|iN pk (iw 1)<|iA fsg) ((cF j m).map λ(k:Nat)=>D.int (k:Int)) (c.map .int) [stt a b,x]=Y (d.map .int,[stt f b,i])
 |0,j,a,c,x,_,l,t=>⟨a,c,x,by simpa using l,by lia,rfl⟩
 |m+1,j,a,c,x,E,l,t=>by
  obtain⟨v,a1,T,U,n⟩:=tX a b 2 (by lia) (by lia)
  have Q:tiC [stt a b,ii j]=Y (v==0,[stt a1 b,ii j]):=
   lY (o:=C) (lI (o1:= .val (.int v,C)) (δ1:=[stt a1 b,ii j]) (o2:= .val (.int 0,C)) (jo<|n _ [ii j] _ rfl rfl) H H H<|ME _ _)
  rw[Cv,jY]
  have st: ∀(g:Int) (h:iO),CA (j+1:Nat) h->ZB h+m<=10->(if(v==0)=J then jA (iN pk (iw 1)<|iA fsg) (c.map .int) [stt a1 b,ii j] else Y (c.map .int,[stt a1 b,ii j]))=Y (h.map .int,[stt g b,ii j])->
    ∃f d i,CA (j+(m+1):Nat) d/\(ZB d)<=10/\lj (iF 1) tiC (jA<|iN pk (iw 1)<|iA fsg) (D.int j::(cF (j+1) m).map λ(k:Nat)=>D.int (k:Int)) (c.map .int) [stt a b,x]=Y (d.map .int,[stt f b,i]):=λg h h1 r e=>by
   obtain⟨f,d,i,z,A,B⟩:=SO b m (j+1) g h (ii j) (by lia) h1 r;refine⟨f,d,i,by rw[show j+(m+1)=j+1+m by lia];exact z,A,?_⟩;rw[lj,show iF 1 (.int j) [stt a b,x]=Y [stt a b,ii j] from H];simp only[jK];rw[Q];simp only[jK];rw[e];exact B
  by_cases hv:v=0
  .obtain⟨s,g,u,p⟩:=Mk a1 b;obtain⟨y,w,q⟩:=Sv (x:=j) u;refine st g (c++[y]) (by have:=l.snoc (s:=y) (by rcases w with rfl|rfl;exact ym (by lia);exact D1<|by lia) (by lia);simpa using this) (by simp;lia) ?_;rw[hv,iP (show((0:Int)==0)=J from H),we,lI (o1:= .slot 1) (δ1:=[stt a1 b,ii j]) H (jo<|p [ii j]) H H q];simp only[jK];rw[iP<|C7<|by simp;lia];simp
  .refine st a1 c (by simpa using l.up) (by lia) ?_;rw[jc<|by simpa using hv]
def Bu(n:Nat):jv 1 n=(cF 1 n).map λ(k:Nat)=>D.int (k:Int):=by unfold jv;rw[List.range'_eq_map_range,km];exact qd λk _=>by simp
def Hu(a:Int)(b:Bool)(n:Nat)(h1:1<=n)(E:n<=5): ∃t c,ClOk n c/\la [pS a b,pI n]=Y (enc c,[stt t b,ii n]):=by
 obtain⟨a1,c,x,p,T,u⟩:=SO b n 1 a [] I (by lia) ⟨by simp,by simp⟩ (by simp;lia)
 have Q:vM (iA<|fC<|.int 1) (iA<|iN lP (iw 1)<|iA<|fC<|.int 1) [stt a b,ii n,I]=Y ((cF 1 n).map λ(k:Nat)=>D.int (k:Int),[stt a b,ii n,I]):=by rw[Dy (o1:= .val (.int 1,C)) (o2:= .val (.int<|(n:Int)+1,C)) (i:=1) (j:=(n:Int)+1) H H H H (by lia)<|by lia,show((n:Int)+1-1).toNat=n by lia,Bu]
 have pre: ∀g,iL (jD 2<|jI [0] 1 (vM (iA<|fC<|.int 1)<|iA<|iN lP (iw 1)<|iA<|fC<|.int 1) (iF 1) tiC<|jA<|iN pk (iw 1)<|iA fsg) g [stt a b,ii n,I]=g [stt a1 b,ii n,lsi c]:=λg=>iG<|jG (i:=2) (δ1:=[stt a1 b,ii n,I]) ((tu (caps:=[0]) (args:=[pS a b]) Q H (nd1 0) u).trans H) (show 2<3 by decide)
 have f:fT (iN gEq (iw 2)<|iA<|lq []) [stt a1 b,ii n,lsi c]=Y (decide<|c=[],[stt a1 b,ii n,lsi c]):=
  lY (o:=C) (lI (o1:= .slot 2) (o2:= .val (.lst [],J)) (δ2:=[stt a1 b,ii n,lsi c]) H (jo<|by simp[jH]) H H<|Ka c [])
 by_cases e:c=[]
 .obtain⟨i,m,U,L,v⟩:=tX a1 b n (by lia) (by lia);obtain⟨s,d,l,w⟩:=Mk m b;obtain⟨y,B,A⟩:=Sv (x:=1+i) l;have h:ab y=1+i:=by rcases B with rfl|rfl;exact ym (by lia);exact D1 (by lia)
  refine⟨d,[y],⟨by simp,by simp,λz q=>by simp at q;subst q;rw[h];lia⟩,?_⟩;refine lh (δ:=[stt d b,ii n,lsi [y]]) ⟨rfl,by decide,rfl⟩<|(pre _).trans ?_;rw[e] at f;rw[e];refine(iG<|(wc f).trans<|(iG (δ1:=[stt d b,ii n,lsi [y]])<|jG (i:=2) (δ1:=[stt d b,ii n,lsi []]) (r:=(.lst [.int y],J)) ?_ (show 2<3 by decide)).trans H).trans (kf<|lF<|jC (a:= .lst [.int y]) H<|jR H);refine IU (os:=[.val (.int y,C)]) (vP<|jo<|lI (o1:= .val (.int (1+i),C)) (δ1:=[stt m b,ii n,lsi []]) (jo<|lI (o1:= .val (.int 1,C)) (δ1:=[stt a1 b,ii n,lsi []]) H (jo<|v _ [ii n,lsi []] (.slot 1) rfl rfl) H H<|Wi _ _) (jo<|w [ii n,lsi []]) H H A) H<|qL (by simp)
 .refine⟨a1,c,⟨e,p.1,λs l=>by have:=p.2 s l;lia⟩,?_⟩;refine lh (δ:=[stt a1 b,ii n,lsi c]) ⟨rfl,by decide,rfl⟩<|(pre _).trans ?_;rw[lS e] at f;exact(iG<|(wd f).trans H).trans (kf<|lF<|jC (a:= .lst (c.map D.int)) H<|jR H)
noncomputable def dC(cs:jg):D:= .oth .dct (cs.map cD) (cs.map λ_=> .bl J)
theorem BE: ∀l:List Int,(A7<|l.map .int).isSome=J
 |[]=>rfl
 |x::l=>by
  have:=BE l;simp only[jY,A7,An]
  cases h:A7 (l.map D.int) with
  |none=>rw[h] at this;cases this
  |some k=>rfl
def Dw(c:iO):(wz<|cD c).isSome=J:=BE c
def Rq(a:jg):((a.map cD).all λk=>(wz k).isSome)=J:=by rw[mY];intro d hd;obtain⟨c,_,rfl⟩:=lZ.mp hd;exact Dw c
def Am(a:jg)(c:iO):wB (a.map cD) (cD c)=J:=by unfold wB;rw[Dw,Rq];simp
theorem Mr(c:iO): ∀a:List (List Int),uJ (a.map cD) (a.map λ_=> .bl J) (cD c) (.bl J)=a.map λ_=> .bl J
 |[]=>rfl
 |x::a=>by simp[uJ,Mr c a]
def Uj(a:jg)(c:iO):D.oth .dct (uw (a.map cD) (a.map λ_=> .bl J) (cD c)<|.bl J).1 (uw (a.map cD) (a.map λ_=> .bl J) (cD c)<|.bl J).2=dC (pH a c):=by
 unfold uw pH dC;rw[DX];by_cases h:c∈a
 .rw[iP<|by simpa using h,iP h,Mr]
 .rw[jc<|by simpa using h,jc h];simp
theorem Du(c:iO): ∀a:List (List Int),(mS (a.map cD) (a.map λ_=> .bl J)<|cD c).isSome=decide (c∈a)
 |[]=>rfl
 |x::a=>by
  simp only[jY,mS,OC];by_cases h:x=c
  .simp[h]
  .have: ¬c=x:=λe=>h e.symm;simp[h,this,Du c a]
def Bx(c:iO)(cs:jg):lX (cD c) (dC cs)=Y (.bl (!decide (c∈cs)),C):=by show(if wB (cs.map cD) (cD c)=J then Y (D.bl (!(mS (cs.map cD) (cs.map λ_=>D.bl J)<|cD c).isSome),C) else I)=_;rw[iP<|Am cs c,Du]
def CsOk.add{n:Nat}{a:jg}{c:iO}(h:CsOk n a)(b:ClOk n c):CsOk n (pH a c):=by
 unfold pH;split
 .exact h
 .exact h.snoc b (by assumption)
def DN{i:Nat}{f:F}{g:FO}{δ δ1 δ2:Dn}{o:Opd}{x:D×Bool}{b:Bool}{cs:jg}{c:iO}(h1:f δ=Y ((.bl J,b),δ1))(a:δ1[i]?=Y (Y x))(d:g δ1=Y (o,δ2))(e:res δ2 o=Y (cD c))(h:δ2[i]?=Y (Y (dC cs,J)))(j:(ZB cs)<10000):uI i f g δ=Y (.nx<|δ2.set i<|Y (dC<|pH cs c,J)):=by unfold uI;rw[h1];simp only[jK];rw[a];simp only[];rw[d];simp only[jK];rw[e,h];unfold dC;simp only[];rw[iP ⟨Am cs c,by simpa using j⟩,Uj];rfl
abbrev fbD:FS:=iL (uI 3 (fC<|.bl J)<|iA<|iQ la [iw 0,iw 1]) iZ
def Vj(a:Int)(b:Bool){n:Nat}(h1:1<=n)(k:n<=5){d:jg}(l:CsOk n d)(f g:Sl): ∃h j,CsOk n j/\fbD [stt a b,ii n,f,Y (dC d,J),g,I,I,I]=Y (.nx [stt h b,ii n,f,Y (dC j,J),g,I,I,I]):=by
 obtain⟨h,c,o,e⟩:=Hu a b n h1 k;refine⟨h,pH d c,l.add o,(iG (δ1:=[stt h b,ii n,f,Y (dC<|pH d c,J),g,I,I,I]) ?_).trans H⟩
 have m:iA (iQ la [iw 0,iw 1]) [stt a b,ii n,f,Y (dC d,J),g,I,I,I]=Y (.val<|enc c,[stt h b,ii n,f,Y (dC d,J),g,I,I,I]):=
  jo (kX (δ1:=[stt a b,ii n,f,Y (dC d,J),g,I,I,I]) (os:=[.slot 0,.slot 1]) (args:=[pS a b,pI n]) H H (nd1 0) e)
 exact DN (i:=3) (b:=C) H H m H H (by have:=l.len k;lia)
def YT(b:Bool){n:Nat}(h1:1<=n)(q:n<=5)(g:Sl)(l:List D)(a:Int)(cs:jg)(c:Sl)(m:CsOk n cs): ∃i f o,CsOk n f/\qy (iF 4) fbD l [stt a b,ii n,g,Y (dC cs,J),c,I,I,I]=Y (.nx [stt i b,ii n,g,Y (dC f,J),o,I,I,I]):=by
 obtain⟨s,⟨i,f,o,k,rfl⟩,e⟩:=oB (fb:=fbD) (tg:=iF 4) (λ_ δ=> ∃a cs c,CsOk n cs/\δ=[stt a b,ii n,g,Y (dC cs,J),c,I,I,I]) (λd l δ h=>by obtain⟨a,cs,c,m,rfl⟩:=h;obtain⟨a1,j,r,p⟩:=Vj a b h1 q m g<|Y (d,C);exact⟨_,_,rfl,p,a1,j,_,r,rfl⟩) l _ ⟨a,cs,c,m,rfl⟩
 exact⟨i,f,o,k,e⟩
abbrev ftF:FT:=fT<|iN gNe (iw 6)<|iA<|lq []
abbrev fbF:FS:=iL (jD 7<|iQ jB [iA<|PX.fPop 6,iw 5])<|iL (sIf (fT<|iN lX (iw 7)<|iw 3) (iL (uI 3 (fC<|.bl J)<|iw 7)<|iL (lU<|kY 6<|ju 7) iZ) iZ) iZ
def IS(fs:jg):gNe (.lst<|fs.map cD) (.lst [])=Y (.bl (!decide (fs=[])),C):=by unfold gNe;rw[iP ⟨DO fs,by decide⟩];cases fs<;>simp[D.eqb,D.eqbL]
def Vi{n:Nat}(m:n<=5){t:iO}(q:TT n t){cs fs:jg}{c:iO}(p:CsOk n cs)(v:(ZB fs)<=1000)(s:ClOk n c)(a d f g j:Sl):
  fbF [a,d,f,Y (dC cs,J),g,eN t,lsC<|fs++[c],j]=Y (.nx [a,d,f,Y (dC<|pH cs<|lc t c,J),g,eN t,lsC (if lc t c∈cs then fs else fs++[lc t c]),eN<|lc t c]):=by
 obtain⟨_,e,rfl⟩:=NL m q s
 have u:iA (PX.fPop 6) [a,d,f,Y (dC cs,J),g,eN t,lsC<|fs++[c],j]=Y (.val<|enc c,[a,d,f,Y (dC cs,J),g,eN t,lsC fs,j]):=by refine jo ?_;unfold PX.fPop;simp[lsC]
 refine(iG (δ1:=[a,d,f,Y (dC cs,J),g,eN t,lsC fs,eN<|lc t c])<|jG (i:=7) (δ1:=[a,d,f,Y (dC cs,J),g,eN t,lsC fs,j]) (kX (δ1:=[a,d,f,Y (dC cs,J),g,eN t,lsC fs,j]) (os:=[.val<|enc c,.slot 5]) (args:=[enc c,enc t]) (tw u H) H (by simp[jl]) e) (show 7<8 by decide)).trans ?_
 have k:fT (iN lX (iw 7)<|iw 3) [a,d,f,Y (dC cs,J),g,eN t,lsC fs,eN<|lc t c]=Y (!decide (lc t c∈cs),[a,d,f,Y (dC cs,J),g,eN t,lsC fs,eN<|lc t c]):=
  lY (jO (Bx _ _) (jV H).r<|jR H)
 by_cases h:lc t c∈cs
 .rw[nN h] at k;refine(iG<|(wd k).trans H).trans ?_;rw[iP h,show pH cs (lc t c)=cs from iP h];rfl
 .rw[lS h] at k;refine(iG (δ1:=[a,d,f,Y (dC<|pH cs<|lc t c,J),g,eN t,lsC<|fs++[lc t c],eN<|lc t c])<|(wc k).trans<|(iG (δ1:=[a,d,f,Y (dC<|pH cs<|lc t c,J),g,eN t,lsC fs,eN<|lc t c]) ?_).trans<|(Hj (i:=6) (l0:=fs.map cD) (l:=fs.map cD) (r:=enc<|lc t c) (δ1:=[a,d,f,Y (dC<|pH cs<|lc t c,J),g,eN t,lsC fs,eN<|lc t c]) H H H<|by simp;lia).trans ?_).trans ?_
  .exact DN (i:=3) (b:=C) (o:= .slot 7) (cs:=cs) (δ1:=[a,d,f,Y (dC cs,J),g,eN t,lsC fs,eN<|lc t c]) (δ2:=[a,d,f,Y (dC cs,J),g,eN t,lsC fs,eN<|lc t c]) H H H H H (by have:=p.len m;lia)
  .simp[lsC]
  .rw[jc h];rfl
theorem LN{n:Nat}(s:n<=5){t:iO}(u:TT n t)(d f g i:Sl): ∀(a:Nat) (cs fs:jg) (j:Sl),CsOk n cs->(∀c∈fs,ClOk n c)->ZB fs<=500->2*(243-ZB cs)+ZB fs<a-> ∃m w v,CsOk n m/\ml ftF fbF a [d,f,g,Y (dC cs,J),i,eN t,lsC fs,j]=Y (.nx [d,f,g,Y (dC m,J),i,eN t,w,v])
 |0,_,_,_,_,_,_,h=>by lia
 |a+1,cs,fs,j,r,hf,U,h=>by
  have p:ftF [d,f,g,Y (dC cs,J),i,eN t,lsC fs,j]=Y (!decide (fs=[]),[d,f,g,Y (dC cs,J),i,eN t,lsC fs,j]):=
   lY (o:=C) (lI (o1:= .slot 6) (o2:= .val (.lst [],J)) (δ2:=[d,f,g,Y (dC cs,J),i,eN t,lsC fs,j]) H (jo<|by simp[jH]) H H<|IS fs)
  by_cases b:fs=[]
  .rw[nN b] at p;exact⟨cs,_,j,r,yP p⟩
  .rw[lS b] at p;have e:=Fw b;have A:(ZB fs.dropLast)+1=(ZB fs):=by rw[Gd];have:=LA.mpr b;lia
   have B:=hf _ (List.getLast_mem b);have x:=Vi s u r (fs:=fs.dropLast) (by lia) B d f g i j;rw[e] at x;have Q:=Sx u B;have y:=r.add Q;have l:=y.len s
   obtain⟨m,w,v,E,T⟩:=LN s u d f g i a _ (if lc t (fs.getLast b)∈cs then fs.dropLast else fs.dropLast++[lc t<|fs.getLast b]) (eN<|lc t<|fs.getLast b) y (λc k=>by
    have dl: ∀c∈fs.dropLast,ClOk n c:=λc k=>hf c<|List.dropLast_subset _ k;split at k
    .exact dl c k
    .rcases qb.mp k with z|z
     .exact dl c z
     .cases AS.mp z;exact Q) (by split<;>simp<;>lia) (by
    unfold pH at l ⊢;split
    .rename_i q;simp only[q,kG] at l ⊢;lia
    .rename_i q;simp only[q,jP] at l ⊢;simp at l ⊢;lia)
   exact⟨m,w,v,E,(CW p x).trans T⟩
def YF(cs:jg)(a:(ZB cs)<=243){k:Int}(h:k=0\/k=1): ∃fs:List (List Int),(∀c∈fs,c∈cs)/\(ZB fs)<=243/\EY (.lst<|cs.map cD) (.int k)=Y (.lst<|fs.map cD,J):=by
 have b:=qL (n:=243) (by decide);rcases h with rfl|rfl
 .refine⟨[],by simp,by simp,?_⟩;show(if(0:Int)<=0/\(0:Int)<1000/\(cs.map cD).length*0<=sizeLine then Y (D.lst (ae 0<|cs.map cD).flatten,J) else I)=_;rw[iP ⟨by decide,by decide,by simp⟩];rfl
 .refine⟨cs,λ_ h=>h,a,?_⟩;show(if(0:Int)<=1/\(1:Int)<1000/\(cs.map cD).length*1<=sizeLine then Y (D.lst (ae 1<|cs.map cD).flatten,J) else I)=_;rw[iP ⟨by decide,by decide,by simp;exact ma a b⟩];simp
def zU(a:Int)(b:Bool)(n:Nat)(f:n<=5): ∃I' d,HE n d/\kO [pS a b,pI n]=Zv ((rD' n d,Zy),[stt I' b,ii n]):=by
 have E: ∀δ:Dn,fT (iN gEq (iw 1)<|iA<|fC<|.int 0) (stt a b::ii n::δ)=Zv (decide<|(n:Int)=0,stt a b::ii n::δ):=λδ=>lY (o:=Zy)<|jO ((ME _ _).trans<|by rw[wV]) (jV Zz).r (jE Zz).r
 by_cases V:n=0
 .subst V;refine⟨a,[],⟨by lia,⟨by simp,by simp⟩,cH,by simp⟩,?_⟩;refine lh (δ:=[stt a b,ii (0:Nat),I,I,I,I,I,I]) ⟨rfl,by decide,rfl⟩<|kf<|(wc<|E _).trans<|kf<|lF ?_;exact Oq (a:=(.int 0,Zy)) (b:=(.tup [],Zy)) Zz (by simp)
 .have W:1<=n:=by lia
  obtain⟨u,a1,X,Z,T⟩:=tX a b 3 (by lia) (by lia)
  let p:List Int:=[3,5,12]
  let m:=p.getD u.toNat 0
  have hm:0<m/\m<=12:=by rcases(show u=0\/u=1\/u=2 by lia) with rfl|rfl|rfl<;>decide
  obtain⟨q,B,q0,q1,G⟩:=tX a1 b (m+1) (by lia) (by lia);obtain⟨s,rfl⟩: ∃s:Nat,q=s:=⟨q.toNat,by lia⟩
  obtain⟨w,cs,e,x,J⟩:=YT b W f (ii m) (jv 0 s) B [] I ⟨by simp,by simp⟩;obtain⟨g,t,A,M⟩:=GA w b n f;have A:=Pw A;obtain⟨v,j,v0,v1,N⟩:=tX g b 2 (by lia) (by lia);have L:=x.len f;obtain⟨fs,K,R,U⟩:=YF cs L (k:=if v=0 then 1 else 0) (by split<;>simp);obtain⟨z,O,Q,l,Y⟩:=LN f A (stt j b) (ii n) (ii m) e Ku cs fs I x (λc h=>x.2 c<|K c h) (by lia) (by show _<100000;lia);have y:=l.len f;obtain⟨d,C,S,D⟩:=C4 (cs:=z) (xM _ λc P=>(l.2 c P).1) (by lia);have hk:CsOk n d:=⟨C.symm.nodup l.1,λc h=>l.2 c<|C.mem_iff.mp h⟩
  refine⟨j,d.take 30,⟨f,hk.take 30,S.take 30,by rw[rE];lia⟩,?_⟩;refine lh (δ:=[stt j b,ii n,ii m,Zv (dC z,Zx),e,eN t,O,Q]) ⟨rfl,by decide,rfl⟩ ?_;have H:=E [I,I,I,I,I,I];rw[lS (show ¬(n:Int)=0 by lia)] at H;refine(iG<|(wd H).trans Zz).trans ?_;refine(iG<|jG (i:=2) (δ1:=[stt a1 b,ii n,I,I,I,I,I,I]) (lI (o1:= .val (.lst<|p.map .int,Zx)) (o2:= .val (.int u,Zy)) (jo (δ1:=[stt a b,ii n,I,I,I,I,I,I])<|by simp[p,jH]) (jo<|T _ [ii n,I,I,I,I,I,I] _ rfl rfl) Zz Zz<|YI X<|by simpa[p] using Z) (show 2<8 by decide)).trans ?_;refine(iG (δ1:=[stt a1 b,ii n,ii m,Zv (dC [],Zx),I,I,I,I]) Zz).trans ?_;refine(iG<|(lT<|wD (o:= .val (.int s,Zy)) (δ1:=[stt B b,ii n,ii m,Zv (dC [],Zx),I,I,I,I]) (jo<|G _ [ii n,ii m,Zv (dC [],Zx),I,I,I,I] (.val (.int<|m+1,Zy)) rfl rfl) Zz<|by lia).trans J).trans ?_;refine(iG<|jG (i:=5) (δ1:=[stt g b,ii n,ii m,Zv (dC cs,Zx),e,I,I,I]) (kX (δ1:=[stt w b,ii n,ii m,Zv (dC cs,Zx),e,I,I,I]) (os:=[.slot 0,.slot 1]) (args:=[pS w b,pI n]) Zz Zz (nd1 0) M) (show 5<8 by decide)).trans ?_;refine(iG<|jG (i:=6) (δ1:=[stt j b,ii n,ii m,Zv (dC cs,Zx),e,eN t,I,I]) (lI (o1:= .val (.lst<|cs.map cD,Zx)) (o2:= .val (.int (if v=0 then 1 else 0),Zy)) (δ1:=[stt g b,ii n,ii m,Zv (dC cs,Zx),e,eN t,I,I]) Zz (jo<|lI (o1:= .val (.lst [.int 1,.int 0],Zx)) (δ1:=[stt g b,ii n,ii m,Zv (dC cs,Zx),e,eN t,I,I]) Zz (jo<|N _ [ii n,ii m,Zv (dC cs,Zx),e,eN t,I,I] _ rfl rfl) Zz Zz ?_) Zz Zz U) (show 6<8 by decide)).trans ?_
  .rcases(show v=0\/v=1 by lia) with rfl|rfl<;>rfl
  refine(iG Y).trans (kf<|lF<|Oq (a:=(.int n,Zy)) (b:=(.tup<|(d.take 30).map cD,Zy)) Zz<|jC (a:= .lst ((d.take 30).map cD)) Zz (jE (b:=Zx) ?_).r);have F:tf (dC z)=Zv (.lst<|d.map cD,Zx):=D;unfold AD;rw[jo<|jC F<|jR Zz];simp only[jK,TN,Yv,TL];rw[show gSl I (Zv 30) (.lst<|d.map cD)=Zv (.lst<|PX.DP (d.map cD) I<|Zv ((30:Nat):Int),Zx) from Zz,OL,FL];rfl
def Wz{a b:D}{c fb:FO}{δ:Dn}(h:a=b)(hd:a.dep<=50)(d:RJ c δ a)(e:RJ fb δ b):fT (iN gNe c fb) δ=Y (C,δ):=by subst h;exact lY (o:=C)<|jO (N9 hd) d e
def no{t:FT}{f:FS}{δ:Dn}(g:FS)(h:t δ=Y (C,δ)):iL (sIf t f iZ) g δ=g δ:=iG<|(wd h).trans H
def Ma{k l:jg}(g:k.Perm l)(h1:SrtC k)(f:SrtC l):k=l:=by
 refine g.eq_of_pairwise (le:=λa b=>ltT (cD b) (cD a)=C) (λa b _ _ x y=>?_) h1 f;rw[qv] at x y;have d: ∀x:List Int,D.pr (cD x)=J:=λx=>by simp[D.pr,wg]
 have e:cT (cD a) (cD b)= .eq:=by
  rw[wR] at x
  cases c:cT (cD a) (cD b) with
  |lt=>exact absurd c y
  |gt=>rw[c] at x;exact absurd H x
  |eq=>rfl
 have:=wU _ _ (d a) (d b) e;simpa[nq] using mV unC this
def Po{f:FS}{x:XS}{b a:Dn}(h:f b=Y (.nx a))(c:Hf a=J):LB f x b=x a:=by unfold LB;rw[h];simp only[jK];rw[iP c]
def VO{t:FT}{x y:XS}{a:Dn}(h:t a=Y (J,a))(b:Hf a=J):zIf t x y a=x a:=by unfold zIf;rw[h];simp only[jK];rw[iP b];rfl
def Fc{n np:Nat}{a:jU}{f:FS}{args:List (D×Bool)}(h:f (args.map Y++ae (n-np) I)=I):evF n np a f args=I:=by
 unfold evF;split
 .rw[h]
 .rfl
def RK{b:jU}{f:F}{x:XS}{n i:Nat}{fs:FS}{e:ax->Option Nat}{δ:Dn}{args:List (D×Bool)}{c:ax}{U:Nat}{d:D}(h1:kb δ (b.map .slot)=Y args)(g:(args.all λa=>!a.2)=J)(h:f (args.map Y)=I)(j:x (args.map Y)=Y c)(k:e c=Y U)(l:Bo n i fs (.oth (.exc U) [] [])=Y d):Kf b f x n i fs e δ=Y ((d,C),δ):=by unfold Kf;rw[h1];simp only[jK];rw[iP g,h];simp only[];rw[j];simp only[jK];rw[k];simp only[jK];rw[l];rfl
def AB{a:EvF}{fs:List FO}{δ δ1:Dn}{os:List Opd}{args:List (D×Bool)}(h1:ki fs δ=Y (os,δ1))(b:kb δ1 os=Y args)(c:a args=I):iQ a fs δ=I:=by rw[PN,h1];simp only[jK];rw[b];simp only[jK];rw[c];split<;>rfl
def PT(n m:Nat)(p:iO):Prop:=ZB p=m/\(∀x∈p,SG n x)/\(p.map ab).Nodup
def PT.tt{n:Nat}{t:iO}(h:PT n n t):TT n t:=QJ.mpr ⟨by simp[h.1],λx a=>by obtain⟨y,b,rfl⟩:=lZ.mp a;exact h.2.1 y b,h.2.2⟩
def UP{n m:Nat}{p c:iO}(h:PT n m p)(d:ClOk m c):((c.map<|led p).map ab).Nodup:=by
 rw[km];have f:=Ih d.2.1;rw[List.nodup_iff_pairwise_ne] at f ⊢;rw[pG] at f ⊢;refine x9 ?_ f;intro a b g i l e;simp only[bW] at e;rw[HD h.1<|d.2.2 a g,HD h.1<|d.2.2 b i] at e;have h1:=d.2.2 a g;have o:=d.2.2 b i;have j:(ab a).toNat-1<(p.map ab).length:=by simp[h.1];lia
 have k:(ab b).toNat-1<(p.map ab).length:=by simp[h.1];lia
 simp only[nL,jt j,jt k,kl] at e;have:=(Gs h.2.2).mp e
 lia
def Rg(p c:iO):mH ltA ((c.map<|led p).map D.int)=(lc p c).map D.int:=(EV<|kH ltA _).1
def US{n m:Nat}(l:m<=5){p c:iO}(h:PT n m p)(e:ClOk m c):mK [enc c,enc p]=Y (enc<|lc p c,[eN c,eN p]):=by
 have k:=e.len
 have i:yb (.lst<|(c.map<|led p).map D.int)=Y (.lst<|(lc p c).map D.int,J):=by
  show(if((c.map<|led p).map D.int).all isI=J/\(((c.map<|led p).map D.int).map aD).Nodup/\((c.map<|led p).map D.int).length<64 then Y (D.lst<|mH ltA<|(c.map<|led p).map D.int,J) else I)=_
  have f:((c.map<|led p).map D.int).all isI=J:=by rw[mY];intro d hd;obtain⟨x,_,rfl⟩:=lZ.mp hd;rfl
  have g:(((c.map<|led p).map D.int).map aD).Nodup:=by rw[km];exact UP h e
  rw[iP ⟨f,g,by simp;lia⟩,Rg]
 refine JB ⟨rfl,by decide,rfl⟩<|jC (a:= .lst ((lc p c).map D.int)) H (jE (b:=J)<|jC i (jE (b:=J)<|yj (args:=[cD p]) (led p) H H H (λx j=>⟨C,?_⟩)<|by lia).r).r;exact jU2 (WE h.1<|e.2.2 x j) (jV H)<|jV H
def Rb{m:Nat}{p:iO}(a:(ZB p)=m)(r:iO){s:Int}(h:SG m s):led (p++r) s=led p s:=by
 obtain⟨k,hk,rfl|rfl⟩:=nR h
 .rw[lV,lV];simp[nL,qf (show k<(ZB p) by lia)]
 .rw[lN,lN];simp[nL,qf (show k<(ZB p) by lia)]
def UW{m:Nat}{p c:iO}(b:(ZB p)=m)(r:iO)(a:ClOk m c):lc (p++r) c=lc p c:=by unfold lc;rw[qd λs d=>Rb b r<|a.2.2 s d]
noncomputable def sgs(n:Nat):List Int:=((aw (2*n+1)).map λ(k:Nat)=> -(n:Int)+k).filter λs=>!(s==0)
noncomputable def fre(n:Nat)(t:iO):List Int:=(sgs n).filter λs=>!t.contains s&&!t.contains (-s)
noncomputable def exP(n:Nat)(L:jg):List (List Int):=L.flatMap λt=>(fre n t).map λs=>t++[s]
noncomputable def lK(n:Nat):Nat->List (List Int)
 |0=>[[]]
 |m+1=>exP n<|lK n m
def Mj{n:Nat}{s:Int}:s∈sgs n↔SG n s:=by
 unfold sgs SG;simp only[wZ,lZ,wY];constructor
 .rintro⟨⟨k,hk,rfl⟩,b⟩;unfold ab;simp at b;split<;>lia
 .rintro⟨h1,a⟩;unfold ab at h1 a;refine⟨⟨(s+n).toNat,by split at a<;>lia,by split at a<;>lia⟩,by simp;split at h1<;>lia⟩
def qA{n:Nat}: ∀{m:Nat} {t:iO},t∈lK n m->PT n m t:=by
 intro r
 induction r with
 |zero=>intro t h;simp[lK] at h;subst h;exact⟨rfl,λx c=>by simp at c,pJ⟩
 |succ m q=>
  intro t h;simp only[lK,exP,yE,lZ] at h;obtain⟨p,o,s,d,rfl⟩:=h;obtain⟨h1,j,k⟩:=q o;unfold fre at d;simp only[wZ,lC,dZ,hZ,decide_eq_false_iff_not] at d;obtain⟨d,f,g⟩:=d;have sg:=Mj.mp d;refine⟨by simp[h1],λx c=>?_,?_⟩
  .rcases qb.mp c with c|c
   .exact j x c
   .simp at c;subst c;exact sg
  .rw[nK,AU];refine⟨k,by simp,λa l b i e=>?_⟩;simp at i;subst i;subst e;obtain⟨x,c,e⟩:=lZ.mp l;unfold ab at e;have:x=s\/x= -s:=by split at e<;>split at e<;>lia
   rcases this with rfl|rfl
   .exact f c
   .exact g c
def wX: ∀n,n<6-> ∀m,m<6->(lK n m).length<=3840:=by decide+kernel
def U3{f g:FO}{δ δ1 δ2:Dn}{o1 o2:Opd}{i j:Int}(h1:f δ=Y (o1,δ1))(a:g δ1=Y (o2,δ2))(b:res δ2 o1=Y (.int i))(c:res δ2 o2=Y (.int j))(d: -1000<=i/\i<=1000)(e: -1000<=j/\j<=1000):vM f g δ=Y (jv i (j-i).toNat,δ2):=by unfold vM;rw[tw h1 a];simp only[jK,uv,b,c];rw[iP<|by lia]
def DY{n:Nat}(b:n<=5):oD [pI n]=Y ((.lst<|(sgs n).map .int,J),[ii n]):=by
 have e:=DQ (caps:=[]) (fi:=vM (iA<|kB nA<|iw 0)<|iA<|iN lP (iw 0)<|iA<|fC<|.int 1) (f:=ju 0) (ti:=fT<|iN gNe (iw 0)<|iA<|fC<|.int 0) (δ:=[ii n]) (δ1:=[ii n]) (l:=jv (-(n:Int)) (2*n+1)) (args:=[]) (λd=>d) (λd=>!(iOf d==0)) ?_ H H (λd hd=>?_) (by simp[jv];lia)
 .have a:((jv (-(n:Int)) (2*n+1)).filter λd=>!(iOf d==0)).map (λd=>d)=(sgs n).map .int:=by rw[v5];unfold jv sgs;rw[show(λ(k:Nat)=>D.int (-(n:Int)+k))=D.int∘(λ(k:Nat)=> -(n:Int)+k) from H,<-km,Cb];rfl
  rw[a] at e;exact JB ⟨rfl,by decide,rfl⟩ e
 .rw[U3 (o1:= .val (.int (-n),C)) (o2:= .val (.int<|n+1,C)) (δ1:=[ii n]) (δ2:=[ii n]) H H H H (by lia)<|by lia,show((n:Int)+1- -n).toNat=2*n+1 by lia]
 .obtain⟨k,_,rfl⟩:=lZ.mp hd;exact⟨by simp[iOf],λ_=>⟨C,rfl⟩⟩
abbrev tiE:FT:=wI (fT<|iN lg (iw 2)<|iw 1)<|fT<|iN lg (iA<|kB nA<|iw 2)<|iw 1
abbrev fE:F:=iN lP (iw 1)<|iA<|mJ [ju 2]
def Te(n:Nat)(t:iO)(s:Int):tiE [ii n,eN t,ii s]=Y (!t.contains s&&!t.contains (-s),[ii n,eN t,ii s]):=by
 have h1:fT (iN lg (iw 2)<|iw 1) [ii n,eN t,ii s]=Y (!t.contains s,[ii n,eN t,ii s]):=lY<|jO (yU s t) (jV H).r (jV H).r;have a:fT (iN lg (iA<|kB nA<|iw 2)<|iw 1) [ii n,eN t,ii s]=Y (!t.contains (-s),[ii n,eN t,ii s]):=lY<|jO (yU (-s) t) (jE (b:=C) H).r (jV H).r;unfold tiE wI;rw[h1];simp only[jK];cases t.contains s
 .simp only[zb,kG,fe];exact a
 .rfl
def Xb(n:Nat)(t:iO)(a:(ZB t)<=100)(s:Int):fE [ii n,eN t,ii s]=Y ((cD<|t++[s],C),[ii n,eN t,ii s]):=by refine jO (b:= .tup [.int s]) ?_ (jV H).r (jE (b:=C)<|by simp[jH,ju]).r;show lP (.tup<|t.map .int) (.tup [.int s])=_;simp only[lP];rw[iP<|qL<|by simp;lia,<-kS,<-nK]
theorem OX{n:Nat}(e:n<=5): ∀(L:jg) (a:List D) (x y:Sl),(∀t∈L,ZB t<=100)->ZB a+10*(ZB L)<=sizeLine->
  ∃u b,lj (iF 1) kK (OZ (jx<|iQ oD [iw 0]) (iF 2) tiE<|jA fE) (L.map cD) a [ii n,x,y]=Y (a++(exP n L).map cD,[ii n,u,b])
 |[],a,x,y,_,_=>⟨x,y,by simp[lj,exP]⟩
 |t::L,a,x,y,h,o=>by
  have q:(sgs n).length<=10:=by have:=uS (λs:Int=>!(s==0))<|(aw (2*n+1)).map λ(k:Nat)=> -(n:Int)+k;rcases(show n=0\/n=1\/n=2\/n=3\/n=4\/n=5 by lia) with rfl|rfl|rfl|rfl|rfl|rfl<;>decide
  simp only[lQ] at o
  obtain⟨b,c⟩:=Vw (f:=fE) (ti:=tiE) (g:=λd=>cD<|t++[iOf d]) (p:=λd=>!t.contains (iOf d)&&!t.contains (-(iOf d))) (pre:=[ii n,eN t]) ((sgs n).map .int) a y (λd hd=>by obtain⟨s,_,rfl⟩:=lZ.mp hd;exact⟨Te n t s,λ_=>⟨C,Xb n t (h t jT) s⟩⟩) (by simp;lia)
  have j:(((sgs n).map D.int).filter λd=>!t.contains (iOf d)&&!t.contains (-(iOf d))).map (λd=>cD<|t++[iOf d])=((fre n t).map λs=>t++[s]).map cD:=by rw[Cb,km,km];rfl
  rw[j] at c
  have m:((fre n t).map λs=>t++[s]).length<=10:=by rw[kh];exact ma (uS _ _) q
  obtain⟨x2,v,i⟩:=OX e L (a++((fre n t).map λs=>t++[s]).map cD) (eN t) b (λr l=>h r<|jX _ l) (by rw[mF,kh];lia);refine⟨x2,v,?_⟩;rw[jY,lj];rw[show iF 1 (cD t) [ii n,x,y]=Y [ii n,eN t,y] from H];simp only[jK,De,kG];unfold OZ;rw[mv<|jU1 (DY e)<|jV H];simp only[jK];rw[show lj (iF 2) tiE (jA fE) ((sgs n).map .int) a [ii n,eN t,y]=_ from c];simp only[jK];refine(show _=_ from i).trans ?_;simp[exP]
def JX{n:Nat}(a:n<=5)(L:jg)(h: ∀t∈L,ZB t<=100)(b:(ZB L)<=4000):lB [pI n,(.lst<|L.map cD,J)]=Y ((.lst<|(exP n L).map cD,J),[ii n,Y (.lst<|L.map cD,C)]):=by obtain⟨c,d,e⟩:=OX a L [] I I h (by rw[jH];simp;lia);refine lh (δ:=[ii n,Y (.lst<|L.map cD,C)]) ⟨rfl,by decide,rfl⟩<|kf<|lF ?_;exact(tu (caps:=[0]) (l:=L.map cD) (δ1:=[ii n,Y (.lst<|L.map cD,C)]) (args:=[pI n]) (mv (o:=C) H) H pJ e).trans H
def ln(c:iO):Nat:=(ab<|c.getLastD 0).toNat
def IC{n:Nat}{c:iO}(h:ClOk n c):1<=ln c/\ln c<=n/\ClOk (ln c) c:=by
 obtain⟨b,h1,d⟩:=h;rcases zh c with rfl|⟨l,x,rfl⟩
 .exact absurd H b
 rw[zg] at b h1 d ⊢;have e:ln (l++[x])=(ab x).toNat:=by simp[ln,gj]
 have f:=d x (by simp);rw[e];refine⟨by lia,by lia,b,h1,λs a=>⟨(d s a).1,?_⟩⟩;rcases qb.mp a with a|a
 .rw[nK,tK] at h1;have:=h1.2.2 (ab s) (oI a) (ab x) (by simp)
  lia
 .simp at a;subst a;lia
def ClOk.up{n m:Nat}{c:iO}(h:ClOk n c)(b:n<=m):ClOk m c:=⟨h.1,h.2.1,λs a=>by have:=h.2.2 s a;lia⟩
def Ri{n:Nat}{c:iO}(h:ClOk n c):gIx (cD c) (.int (-1))=ii (c.getLastD 0):=by
 rcases zh c with rfl|⟨l,x,rfl⟩
 .exact absurd H h.1
 simp only[zg];simp[gIx,atI,ixN,gj];rw[iP<|by lia,show(-1+(((ZB l):Int)+1)).toNat=(ZB l) by lia];simp
def U5(c:iO)(a:jg):gIn (cD c) (.tup<|a.map cD)=Y (.bl<|decide<|c∈a,C):=Sz c a
def okP(js a:jg)(m:Nat)(t:iO):Bool:=a.all λc=>!decide (ln c<=m)||decide (lc t c∈js)
def rdy(a:jg)(m:Nat):List (List Int):=a.filter λc=>ln c==m
theorem BK{d e:Type}{P:d->Bool}{Q R:e->Bool}{f:d->List e}: ∀L:List d,(∀t∈L,∀u∈f t,R u=(P t&&Q u))->((L.filter P).flatMap f).filter Q=(L.flatMap f).filter R
 |[],_=>rfl
 |t::L,h=>by
  have g:=BK L λt b=>h t<|jX _ b;have b:=h t jT;rw[Fu,k7,<-g]
  cases a:P t with
  |true=>
   rw[d9 a,Fu,k7]
   congr 1
   exact nb λu c=>by rw[b u c,a];rfl
  |false=>
   rw[Ft<|by rw[a];decide];have:(f t).filter R=[]:=List.filter_eq_nil_iff.mpr λu c=>by rw[b u c,a,eL];exact ku
   rw[this];rfl
def Nv{n m:Nat}{b a:jg}(hk: ∀c∈a,ClOk n c){t:iO}(f:(ZB t)=m)(s:Int):okP b a (m+1) (t++[s])=(okP b a m t&&(rdy a<|m+1).all λc=>decide<|lc (t++[s]) c∈b):=by
 unfold okP rdy
 induction a with
 |nil=>rfl
 |cons c a g=>
  have e:=IC<|hk c jT;rw[vn,vn,g λc h=>hk c<|jX _ h];by_cases h1:ln c=m+1
  .rw[d9<|by simp[h1],vn,nN (show ln c<=m+1 by lia),lS (show ¬ln c<=m by lia)];simp only[oJ,uu,zb,v6,fe];cases decide (lc (t++[s]) c∈b)<;>cases(a.all λc=>!decide (ln c<=m)||decide (lc t c∈b))<;>rfl
  .rw[Ft<|by simpa using h1];by_cases d:ln c<=m
   .rw[nN (show ln c<=m+1 by lia),nN d,UW f [s]<|e.2.2.up d,gg]
   .rw[lS (show ¬ln c<=m+1 by lia),lS d,gg];rfl
def OB{n m:Nat}{js a:jg}(hk: ∀c∈a,ClOk n c):(exP n<|(lK n m).filter<|okP js a m).filter (λu=>(rdy a<|m+1).all λc=>decide<|lc u c∈js)=(lK n<|m+1).filter (okP js a<|m+1):=by refine BK _ λt b u d=>?_;obtain⟨s,_,rfl⟩:=lZ.mp d;exact Nv hk (qA b).1 s
def Wy{n:Nat}{js a:jg}(hk: ∀c∈a,ClOk n c)(t:iO):okP js a 0 t=J:=mY.mpr λc b=>by rw[lS (by have:=(IC<|hk c b).1;lia)];rfl
def Wx{n:Nat}{js a:jg}(hk: ∀c∈a,ClOk n c)(t:iO):okP js a n t=a.all λc=>decide (lc t c∈js):=by unfold okP;rw[Bool.eq_iff_iff,mY,mY];refine forall_congr' λc=>forall_congr' λb=>?_;rw[nN (IC<|hk c b).2.1];rfl
abbrev Py:FT:=fT<|jh (g1 E5) [iA<|jI [0,2] 1 (jx<|ju 1) (iF 2) kK<|jA<|iN gIn (iA<|iQ mK [iw 2,iw 1])<|iw 0]
abbrev W5:FS:=iL (jD 6<|jI [5] 1 (jx<|ju 3) (iF 1) (fT<|iN gEq (iA<|jh (g1 E6) [iA<|iN gIx (iw 1)<|iA<|kB nA<|iA<|fC<|.int 1])<|iw 0)<|jA<|ju 1)<|iL (jD 4<|jI [1,6] 1 (jx<|iQ lB [iw 2,iw 4]) (iF 2) Py<|jA<|ju 2) iZ
noncomputable abbrev lsO(L:jg)(o:Bool):Sl:=Y (.lst<|L.map cD,o)
noncomputable abbrev tpC(L:jg):Sl:=Y (.tup<|L.map cD,C)
def Px{n m:Nat}(g:m<=5){js a:jg}(h: ∀c∈a,ClOk m c)(j:(ZB a)<=30){t:iO}(i:PT n m t)(o:Bool):Py [tpC js,lsO a o,eN t]=Y (a.all λc=>decide<|lc t c∈js,[tpC js,lsO a C,eN t]):=by
 have c:=ON (caps:=[0,2]) (fi:=jx<|ju 1) (f:=iN gIn (iA<|iQ mK [iw 2,iw 1])<|iw 0) (δ:=[tpC js,lsO a o,eN t]) (δ1:=[tpC js,lsO a C,eN t]) (l:=a.map cD) (args:=[.tup<|js.map cD,cD t]) (λd=>decide<|lc t (unC d)∈js) (by cases o<;>exact mv (o:=C) H) H H (λd hd=>by obtain⟨c,e,rfl⟩:=lZ.mp hd;rw[nq];exact⟨C,jO (b:= .tup (js.map cD)) (U5 _ _) (jE (b:=C)<|jU2 (US g i<|h c e) (jV H)<|jV H).r (jV H).r⟩) (by simp;lia)
 rw[show(a.map cD).all (λd=>decide<|lc t (unC d)∈js)=a.all λc=>decide (lc t c∈js) by rw[fF];simp only[sx,nq]] at c;exact lY c
theorem OW{n m:Nat}(i:m<=5){js b:jg}(j: ∀c∈b,ClOk m c)(g:(ZB b)<=30): ∀(L:jg) (a:List D) (o:Bool) (x:Sl),(∀t∈L,PT n m t)->ZB a+ZB L<=sizeLine->
  ∃d f,lj (iF 2) Py (jA<|ju 2) (L.map cD) a [tpC js,lsO b o,x]=Y (a++(L.filter λt=>b.all λc=>decide<|lc t c∈js).map cD,[tpC js,lsO b d,f])
 |[],a,o,x,_,_=>⟨o,x,by simp[lj]⟩
 |t::L,a,o,x,h,r=>by
  have q:=Px i j g (h t jT) (js:=js) o;have k: ∀t∈L,PT n m t:=λt s=>h t<|jX _ s;simp only[lQ] at r;rw[jY,lj,show iF 2 (cD t) [tpC js,lsO b o,x]=Y [tpC js,lsO b o,eN t] from H];simp only[jK];rw[q];simp only[jK]
  cases l:b.all λc=>decide (lc t c∈js) with
  |false=>obtain⟨d,f,e⟩:=OW i j g L a C (eN t) k (by lia);exact⟨d,f,by rw[jc ku,Ft (p:=λt=>b.all λc=>decide<|lc t c∈js)<|by rw[l];exact ku];exact e⟩
  |true=>obtain⟨d,f,e⟩:=OW i j g L (a++[cD t]) C (eN t) k (by simp;lia);refine⟨d,f,?_⟩;rw[iP H,d9 (p:=λt=>b.all λc=>decide<|lc t c∈js) l];simp only[we];rw[show ju 2 [tpC js,lsO b C,eN t]=Y ((cD t,C),[tpC js,lsO b C,eN t]) from H];simp only[jK];rw[iP<|by lia];simp only[jK];rw[e];simp
def Vl{t:FT}{f g:F}{δ δ1:Dn}{b:Bool}(h:t δ=Y (b,δ1)):fIf t f g δ=if b=J then f δ1 else g δ1:=by unfold fIf;rw[h];rfl
theorem wJ{n:Nat}(a:n<=5): ∀L:List (List Int),(exP n L).length<=10*(ZB L)
 |[]=>by simp[exP]
 |t::L=>by
  have:=wJ a L
  have b:((fre n t).map λs=>t++[s]).length<=10:=by rw[kh];refine ma (uS _ _) ?_;rcases(show n=0\/n=1\/n=2\/n=3\/n=4\/n=5 by lia) with rfl|rfl|rfl|rfl|rfl|rfl<;>decide
  unfold exP at*;rw[Fu,mF,lQ]
  lia
section
variable {n:Nat}{g js:jg}(j:n<=5)(hk: ∀c∈g,ClOk n c)(q:g.length<=30)
include j hk q
abbrev dLd(n:Nat)(g js L:jg)(x y:Sl):Dn:=[Y (rD' n g,C),tpC js,ii n,tpC g,lsO L J,x,y]
theorem RC{m:Nat}(G:m+1<=n)(y:Sl): ∃Q,W5 (dLd n g js ((lK n m).filter<|okP js g m) (ii<|(m:Int)+1) y)=Y (.nx<|dLd n g js ((lK n<|m+1).filter<|okP js g<|m+1) (ii<|(m:Int)+1) Q):=by
 have s:=DQ (caps:=[5]) (fi:=jx<|ju 3) (f:=ju 1) (ti:=fT<|iN gEq (iA<|jh (g1 E6) [iA<|iN gIx (iw 1)<|iA<|kB nA<|iA<|fC<|.int 1])<|iw 0) (δ:=dLd n g js ((lK n m).filter<|okP js g m) (ii<|(m:Int)+1) y) (δ1:=dLd n g js ((lK n m).filter<|okP js g m) (ii<|(m:Int)+1) y) (l:=g.map cD) (args:=[.int<|(m:Int)+1]) (λd=>d) (λd=>ln (unC d)==m+1) H H H (λd hd=>by
  obtain⟨c,u,rfl⟩:=lZ.mp hd;rw[nq];refine⟨lY (o:=C)<|jO (a:= .int (ab<|c.getLastD 0)) ?_ (jE (b:=C)<|jC H (jE (b:=C)<|jO (Ri<|hk c u) (jV H).r (jE (b:=C) H).r).r).r (jV H).r,λ_=>⟨C,rfl⟩⟩;have T:0<=ab (c.getLastD 0):=by unfold ab;split<;>lia
  have:(ln c==m+1)=decide (ab (c.getLastD 0)=(m:Int)+1):=by
   unfold ln;generalize ab (c.getLastD 0)=x at*;by_cases h:x=(m:Int)+1
   .rw[nN h,h];simp
   .rw[lS h];simp;lia
  rw[this];generalize ab (c.getLastD 0)=x;simp[gEq,D.eqb,D.dep,wV]) (by simp;lia)
 rw[BL] at s;have er:(g.filter λt=>ln (unC<|cD t)==m+1)=rdy g (m+1):=by simp only[nq];rfl
 rw[er] at s
 have O: ∀c∈rdy g (m+1),ClOk (m+1) c:=λc u=>by obtain⟨h1,w⟩:=wZ.mp u;have:=IC<|hk c h1;rw[Fo] at w;rw[<-w];exact this.2.2
 have A:(rdy g<|m+1).length<=30:=ma (uS _ _) q;have B: ∀t∈(lK n m).filter (okP js g m),PT n m t:=λt k=>qA (wZ.mp k).1;have M:((lK n m).filter<|okP js g m).length<=3840:=ma (uS _ _)<|wX n (by lia) m (by lia)
 have E: ∀t∈exP n ((lK n m).filter<|okP js g m),PT n (m+1) t:=λt k=>by refine qA (m:=m+1) ?_;obtain⟨p,U,L⟩:=yE.mp k;exact yE.mpr ⟨p,(wZ.mp U).1,L⟩
 have N:(exP n<|(lK n m).filter<|okP js g m).length<=38400:=by
  have:=wJ j<|(lK n m).filter<|okP js g m
  lia
 obtain⟨v,J,e⟩:=OW (n:=n) (m:=m+1) (by lia) (js:=js) O A (exP n<|(lK n m).filter<|okP js g m) [] Zx I E (by rw[jH];simp;lia);rw[xa,OB hk] at e;refine⟨lsO (rdy g<|m+1) v,?_⟩
 have z:jI [1,6] 1 (jx<|iQ lB [iw 2,iw 4]) (iF 2) Py (jA<|ju 2) (dLd n g js ((lK n m).filter<|okP js g m) (ii<|(m:Int)+1)<|lsO (rdy g<|m+1) Zx)=Y ((.lst<|((lK n<|m+1).filter<|okP js g<|m+1).map cD,Zx),[rS n g,tpC js,ii n,tpC g,lsO ((lK n m).filter<|okP js g m) C,ii<|(m:Int)+1,lsO (rdy g<|m+1) v]):=by
  refine(tu (caps:=[1,6]) (args:=[(.tup<|js.map cD,C),(.lst<|(rdy g<|m+1).map cD,Zx)]) (δ1:=[rS n g,tpC js,ii n,tpC g,lsO ((lK n m).filter<|okP js g m) C,ii<|(m:Int)+1,lsO (rdy g<|m+1) Zx]) (mv (o:=Zx) ?_) H (nd1 6) e).trans ?_
  .exact kX (δ1:=dLd n g js ((lK n m).filter<|okP js g m) (ii<|(m:Int)+1)<|lsO (rdy g<|m+1) Zx) (os:=[.slot 2,.slot 4]) (args:=[pI n,(.lst<|((lK n m).filter<|okP js g m).map cD,Zx)]) H H (nd1 4) (JX j _ (λt k=>by have:=(B t k).1;lia) (by lia))
  .cases v<;>rfl
 exact(iG<|jG s (show 6<7 by decide)).trans ((iG<|jG (i:=4) z (show 4<7 by decide)).trans H)
theorem G8:nC [(rD' n g,C),(.tup<|js.map cD,C)]=Y ((.lst<|((lK n n).filter λt=>g.all λc=>decide<|lc t c∈js).map cD,J),[rS n g,tpC js]):=by
 obtain⟨_,⟨m,x,y,i,rfl⟩,e⟩:=oB (tg:=iF 5) (fb:=W5) (λds δ=> ∃(m:Nat) (x y:Sl),(m<=n/\ds=(cF (m+1)<|n-m).map λ(k:Nat)=>D.int (k:Int))/\δ=dLd n g js ((lK n m).filter<|okP js g m) x y) (λd ds δ U=>by
  obtain⟨m,x,y,⟨h1,a⟩,h⟩:=U
  subst h
  have l:m<n:=by
   rcases w9 m n with h|h
   .exact h
   .rw[show n-m=0 by lia] at a;cases a
  rw[show n-m=(n-(m+1))+1 by lia,Cv,jY] at a;obtain⟨rfl,rfl⟩:=va a;obtain⟨o,e⟩:=RC (js:=js) j hk q (m:=m) (by lia) y
  exact⟨_,_,rfl,e,m+1,_,o,⟨l,rfl⟩,rfl⟩) ((cF 1 n).map λ(k:Nat)=>D.int (k:Int)) (dLd n g js [[]] I I) ⟨0,I,I,⟨lL _,rfl⟩,by rw[VH.mpr λt _=>Wy hk t];rfl⟩
 obtain⟨p,f⟩:=i
 have b:m=n:=by
  rcases w9 m n with h|h
  .rw[show n-m=(n-(m+1))+1 by lia,Cv] at f;cases f
  .lia
 subst b;rw[nb λt _=>Wx hk t] at e;refine lh (δ:=[rS m g,tpC js,ii m,tpC g,I,x,y]) ⟨rfl,by decide,rfl⟩ ?_;refine(iG (δ1:=[rS m g,tpC js,ii m,tpC g,I,I,I]) H).trans ((iG (δ1:=dLd m g js [[]] I I)<|by simp[jH]).trans ?_);refine(iG<|(lT (ds:=(cF 1 m).map λ(k:Nat)=>D.int (k:Int)) (δ1:=dLd m g js [[]] I I) ?_).trans e).trans (kf ?_)
 .rw[Dy (o1:= .val (.int 1,C)) (o2:= .val (.int<|(m:Int)+1,C)) (δ2:=dLd m g js [[]] I I) H H H H (by lia)<|by lia,show((m:Int)+1-1).toNat=m by lia,Bu]
 .rfl
theorem A6:pY [(rD' n g,C)]=Y ((.lst<|((lK n n).filter λt=>g.all λc=>decide<|lc t c∈g).map cD,J),[rS n g]):=by
 refine JB ⟨rfl,by decide,rfl⟩<|jU2 (b:=rD' n g) (outs:=[rS n g,rS n g]) ?_ (jV H)<|jV H;refine JB ⟨rfl,by decide,rfl⟩ (δ:=[rS n g,rS n g])<|(Vl (b:=J) (δ1:=[rS n g,rS n g])<|lY (o:=C)<|jO (a:= .int (ZB g)) (EZ<|by simp[D.dep]) (jE (b:=C)<|jC ?_ (jE (b:=C)<|jO H (jV H).r (jE H).r).r).r (jE (b:=C)<|jC ?_ (jE (b:=C)<|jO H (jV H).r (jE H).r).r).r).trans ?_
 .simp[yc]
 .simp[yc]
 .exact jU2 (G8 j hk q) (jV H) (jE (b:=C)<|jO H (jV H).r (jE H).r)
end
noncomputable abbrev dS(n:Nat)(a b:Sl)(F:jg)(c d:Sl):Dn:=[ii n,a,b,lsO F J,c,d]
def UZ: ∀c:List Int,A7 (c.map .int)=Y (c.map dA):=by
 intro b
 induction b with
 |nil=>exact H
 |cons x c a=>simp only[jY,A7,An,jK];rw[a];rfl
def UX: ∀a:List (List Int),JZ (a.map λc=> .tup [cD c,.bl J])=Y (a.map λc=>c.map dA):=by
 intro d
 induction d with
 |nil=>exact H
 |cons c a b=>simp only[jY,JZ,kyT];rw[b,show wz (cD c)=Y (c.map dA) from UZ c];rfl
def Oe{d:jg}(h:d.Nodup)(g:(ZB d)<=1000):Av (.lst<|d.map λc=> .tup [cD c,.bl J])=Y (dC d,J):=by
 show((JZ<|d.map λc=> .tup [cD c,.bl J]).bind λd=>if (ZB d)<=1000/\d.Nodup then Y (D.oth .dct (d.map λk=> .tup (k.map kg))<|d.map λ_=> .bl J,J) else I)=_;rw[UX];simp only[jK];have i:(d.map λc=>c.map (dA:Int->Key)).Nodup:=x8 _ (λa b f e=>f<|(List.map_inj_right λ_ _ e=>Sum.inl.inj e).mp e) h;rw[iP ⟨by simpa using g,i⟩];unfold dC;rw[km,km]
 have:((λk:List Key=>D.tup<|k.map kg)∘λc:List Int=>c.map dA)=cD:=by funext c;simp only[bW,km,cD];rfl
 rw[this];rfl
abbrev fDc(i:Nat):F:=jh (g1 Av) [iA<|jI [] 1 (jx<|iN gIx (iw i)<|iA<|fC<|.int 1) (iF 0) kK<|jA<|mJ [ju 0,fC<|.bl J]]
def Vm{n i:Nat}{a:jg}{δ:Dn}(c:δ[i]?=Y (rS n a))(h:a.Nodup)(g:(ZB a)<=1000):fDc i δ=Y ((dC a,J),δ):=by
 refine jC (Oe h g) (jE (b:=J) ?_).r;have e:=vQ (caps:=[]) (fi:=jx<|iN gIx (iw i)<|iA<|fC<|.int 1) (f:=mJ [ju 0,fC<|.bl J]) (δ:=δ) (δ1:=δ) (l:=a.map cD) (args:=[]) (λd=> .tup [d,.bl J]) ?_ H H (λd hd=>⟨C,by simp[jH,ju]⟩) (by simp;lia)
 .rw[km] at e;exact e
 .rw[Dd,jO (r:=(.tup<|a.map cD,C)) H (jV c).r (jE H).r];rfl
section
variable {n:Nat}{a:jg}(h:HE n a){d:D}(hd:OkD d)
include h hd
end
section
variable {n:Nat}{a:jg}(h:HE n a)
include h
noncomputable abbrev lik(n:Nat)(a:jg):List (List Int):=(lK n n).filter λt=>a.all λc=>decide<|lc t c∈a
theorem Q8:(lik n a).length<=3840:=ma (uS _ _)<|wX n (by have:=h.1;lia) n (by have:=h.1;lia)
theorem qV{t:iO}(b:t∈lik n a):TT n t:=(qA (wZ.mp b).1).tt
end
def Jv{l m:iO}(h:l.Perm m)(e:m.Pairwise (· < ·)):mH ltT (l.map .int)=m.map .int:=by
 have d:(m.map D.int).Pairwise (λa b=>ltT b a=C):=by
  rw[pG];refine e.imp λ{a b} h=>?_;have h1: ¬b<a:=by lia
  have c: ¬b=a:=by lia
  rw[qv];simp[cT,h1,c]
 refine K9 (λx y f g h1 c=>?_) (qm _) d<|(kH ltT _).trans<|h.map _;obtain⟨i,_,rfl⟩:=lZ.mp<|(kH ltT<|l.map D.int).mem_iff.mp f;obtain⟨j,_,rfl⟩:=lZ.mp g;rw[Kq c h1]
abbrev fr1(t:iO)(s:Int):Bool:=!t.contains s&&!t.contains (-s)
def pW(n:Nat)(t:iO):List Int:=(st n).filter<|fr1 t
def Tr: ∀n,n<6->(sgs n).Pairwise (· < ·):=by decide+kernel
def Oh{n:Nat}(a:n<=5)(t:iO):(fre n t).Pairwise (· < ·):=(Tr n<|by lia).filter _
def Rw{n:Nat}(k:n<=5)(t:iO):(pW n t++(pW n t).map (- ·)).Perm (fre n t):=by
 have h1:(pW n t).Nodup:=((Sg n).imp λ{a b} h=>by omega).filter _;have d: ∀x,x∈pW n t↔(1<=x/\x<=n)/\fr1 t x=J:=λx=>by unfold pW;rw[wZ,Ky]
 refine(Fs ?_ ?_).mpr λx=>?_
 .refine AU.mpr ⟨h1,?_,λa g b i e=>?_⟩
  .show List.Pairwise (· ≠ ·) _;rw[pG];exact y6 (λ{a b} h e=>h<|by omega) h1
  .obtain⟨c,j,rfl⟩:=lZ.mp i;have:=((d a).mp g).1;have:=((d c).mp j).1;omega
 .exact(Oh k t).imp λ{a b} h=>by omega
 .unfold fre;rw[qb,lZ,wZ,Mj];constructor
  .rintro(h|⟨y,h,rfl⟩)
   .have:=(d x).mp h;refine⟨?_,this.2⟩;unfold SG ab;split<;>omega
   .have:=(d y).mp h;refine⟨?_,by simpa[fr1,u0] using this.2⟩;unfold SG ab;split<;>omega
  .rintro⟨h1,f⟩;unfold SG ab at h1;by_cases l:0<=x
   .left;exact(d x).mpr ⟨by split at h1<;>omega,f⟩
   .right;exact⟨-x,(d (-x)).mpr ⟨by split at h1<;>omega,by simpa[fr1,u0] using f⟩,by omega⟩
def Me{n:Nat}(a:n<=5)(t:iO):mH ltT ((pW n t++(pW n t).map (- ·)).map .int)=(fre n t).map .int:=Jv (Rw a t)<|Oh a t
def p4(t:iO):D->Bool
 | .int s=>fr1 t s
 |_=>C
abbrev ti4:FT:=wI (fT<|iN lg (iw 1)<|iw 0)<|fT<|iN lg (iA<|kB nA<|iw 1)<|iw 0
def Tf(t:iO)(s:Int):ti4 [eN t,ii s]=Y (fr1 t s,[eN t,ii s]):=by
 have h1:fT (iN lg (iw 1)<|iw 0) [eN t,ii s]=Y (!t.contains s,[eN t,ii s]):=lY<|jO (yU s t) (jV H).r (jV H).r;have a:fT (iN lg (iA<|kB nA<|iw 1)<|iw 0) [eN t,ii s]=Y (!t.contains (-s),[eN t,ii s]):=lY<|jO (yU (-s) t) (jE (b:=C) H).r (jV H).r;unfold ti4 wI fr1;rw[h1];simp only[jK];cases t.contains s
 .simp only[zb,kG,fe];exact a
 .rfl
abbrev fR4:F:=jI [4] 1 (vM (iA<|fC<|.int 1)<|iA<|iN lP (iw 0)<|iA<|fC<|.int 1) (iF 1) ti4<|jA<|ju 1
def Tz{n:Nat}(h:n<=5)(a b:Sl)(F:jg)(t:iO)(e:Sl):fR4 (dS n a b F (eN t) e)=Y ((.lst<|(pW n t).map .int,J),dS n a b F (eN t) e):=by
 have g:vM (iA<|fC<|.int 1) (iA<|iN lP (iw 0)<|iA<|fC<|.int 1) (dS n a b F (eN t) e)=Y ((st n).map .int,dS n a b F (eN t) e):=by refine(Dy (o1:= .val (.int 1,C)) (o2:= .val (.int<|(n:Int)+1,C)) (i:=1) (j:=(n:Int)+1) H H H H (by lia)<|by lia).trans ?_;rw[show((n:Int)+1-1).toNat=n by lia];simp[jv,st]
 have c:=DQ (caps:=[4]) (f:=ju 1) (ti:=ti4) (args:=[cD t]) (l:=(st n).map .int) id (p4 t) g H H (λd hd=>by obtain⟨s,_,rfl⟩:=lZ.mp hd;exact⟨Tf t s,λ_=>⟨C,rfl⟩⟩) (by simp[GD];lia)
 refine c.trans ?_;rw[ux,Cb];rfl
abbrev fN4:F:=jI [] 1 (jx<|ju 5) (iF 0) kK<|jA<|kB nA<|iw 0
abbrev fS4:F:=jh (g1 mw) [iA<|iN lP (iw 5)<|iA fN4]
abbrev fX4:F:=jI [4] 1 (jx fS4) (iF 1) kK<|jA<|iN lP (iw 0)<|iA<|mJ [ju 1]
abbrev d5(n:Nat)(a b:Sl)(F:jg)(t:iO)(o:Bool):Dn:=dS n a b F (eN t)<|Y (.lst<|(pW n t).map .int,o)
def HX(n:Nat)(t:iO):(pW n t).length<=n:=by have:=uS (fr1 t)<|st n;rw[GD] at this;exact this
def Q5{n:Nat}(e:n<=5)(a b:Sl)(F:jg)(t:iO):fN4 (d5 n a b F t J)=Y ((.lst (((pW n t).map (- ·)).map .int),J),d5 n a b F t C):=by
 have c:=vQ (caps:=[]) (fi:=jx<|ju 5) (f:=kB nA<|iw 0) (δ:=d5 n a b F t J) (δ1:=d5 n a b F t C) (l:=(pW n t).map .int) (args:=[]) (λd=>match d with| .int s=> .int (-s)|d=>d) (mv (o:=C) H) H H (λd hd=>by obtain⟨s,_,rfl⟩:=lZ.mp hd;exact⟨C,rfl⟩) (by have:=HX n t;simp;lia)
 refine c.trans ?_;simp[km,sx]
def PD{n:Nat}(d:n<=5)(b c:Sl)(F:jg)(t:iO):fS4 (d5 n b c F t J)=Y ((.lst<|(fre n t).map .int,J),d5 n b c F t C):=by
 have e:=HX n t
 have a:iN lP (iw 5) (iA fN4) (d5 n b c F t J)=Y ((.lst ((pW n t++(pW n t).map (- ·)).map .int),J),d5 n b c F t C):=by unfold iN;rw[show iw 5 (d5 n b c F t J)=Y (.slot 5,d5 n b c F t J) from H];simp only[jK];rw[jo<|Q5 d b c F t];simp only[jK];rw[show res (d5 n b c F t C) (.slot 5)=Y (.lst<|(pW n t).map .int) from H];simp only[jK,res];rw[nK];simp only[lP];rw[iP<|qL<|by simp;lia];rfl
 refine nU (os:=[.val (.lst ((pW n t++(pW n t).map (- ·)).map .int),J)]) (ds:=[.lst ((pW n t++(pW n t).map (- ·)).map .int)]) ?_ H ?_
 .simp only[ki];rw[jo a];rfl
 .show mw _=_;rw[DG _ (by simp;lia),Me d t]
def RM{n:Nat}(h:n<=5)(e g:Sl)(F:jg){t:iO}(j:(ZB t)<=100):fX4 (d5 n e g F t J)=Y ((.lst<|((fre n t).map λs=>t++[s]).map cD,J),d5 n e g F t C):=by
 have i:(fre n t).length<=10:=by have:=wJ h [t];simpa[exP] using this
 have c:=vQ (caps:=[4]) (fi:=jx fS4) (f:=iN lP (iw 0)<|iA<|mJ [ju 1]) (δ:=d5 n e g F t J) (δ1:=d5 n e g F t C) (l:=(fre n t).map .int) (args:=[cD t]) (λd=>match d with| .int s=>cD (t++[s])|d=>d) (mv<|PD h e g F t) H H (λd hd=>by obtain⟨s,_,rfl⟩:=lZ.mp hd;refine⟨C,?_⟩;refine jO (a:=cD t) (b:= .tup [.int s]) ?_ (jV H).r (jE (b:=C)<|by simp[jH,ju,frz]).r;show lP (.tup<|t.map .int) (.tup [.int s])=_;simp only[lP];rw[iP<|qL<|by simp;lia,<-kS,<-nK]) (by simp;lia)
 refine c.trans ?_;simp[km,sx]
abbrev RH:FS:=iL (jD 5 fR4)<|iL (lU<|qZ 3 fX4) iZ
def RG{n:Nat}(c:n<=5)(a b:Sl){t:iO}(f:(ZB t)<=100)(F:jg)(h:F.length<=90000)(d:Sl): ∃g,RH (dS n a b F (eN t) d)=Y (.nx<|dS n a b (F++(fre n t).map λs=>t++[s]) (eN t) g):=by
 have i:(fre n t).length<=10:=by have:=wJ c [t];simpa[exP] using this
 refine⟨Y (.lst<|(pW n t).map .int,C),(iG<|jG (Tz c a b F t d)<|by simp).trans<|(iG (δ1:=dS n a b (F++(fre n t).map λs=>t++[s]) (eN t)<|Y (.lst<|(pW n t).map .int,C)) ?_).trans H⟩;show lU (qZ 3 fX4) (d5 n a b F t J)=_;rw[Ib];unfold qZ;rw[RM c a b F f];have e:F.length+(fre n t).length<=16777216:=by lia
 simp[jH,e]
def WV{n:Nat}(p:n<=5)(b c:Sl)(k:FS)(g: ∀{t:iO},ZB t<=100-> ∀F:List (List Int),F.length<=90000-> ∀a:Sl,∃f,k (dS n b c F (eN t) a)=Y (.nx<|dS n b c (F++(fre n t).map λs=>t++[s]) (eN t) f)): ∀(L F:jg) (d a:Sl),(∀t∈L,ZB t<=100)->F.length+10*(ZB L)<=80000-> ∃j f,qy (iF 4) k (L.map cD) (dS n b c F d a)=Y (.nx<|dS n b c (F++exP n L) j f):=by
 intro r
 induction r with
 |nil=>intro F d a _ _;exact⟨d,a,by simp[qy,exP]⟩
 |cons t L q=>
  intro F d a h o;simp only[lQ] at o;obtain⟨u,m⟩:=g (h t jT) F (by lia) a;have l:=wJ p [t];have i:exP n [t]=(fre n t).map λs=>t++[s]:=by simp[exP]
  rw[i] at l;simp only[xv] at l;obtain⟨j,f,e⟩:=q (F++(fre n t).map λs=>t++[s]) (eN t) u (λt i=>h t<|jX _ i) (by rw[mF];lia);refine⟨j,f,?_⟩;rw[jY];unfold qy;rw[show iF 4 (cD t) (dS n b c F d a)=Y (dS n b c F (eN t) a) from H];simp only[jK];rw[m];refine(show _=_ from e).trans ?_;simp[exP]
def WW{n:Nat}(e:n<=5)(a b:Sl)(L F:jg)(d c:Sl)(h: ∀t∈L,ZB t<=100)(g:F.length+10*(ZB L)<=80000): ∃k j,qy (iF 4) RH (L.map cD) (dS n a b F d c)=Y (.nx<|dS n a b (F++exP n L) k j):=WV e a b RH (λi F f c=>RG e a b i F f c) L F d c h g
abbrev W8:FS:=iL (jD 3<|lq [])<|iL (pV (jx<|ju 1) (iF 4) RH)<|iL (jD 1<|ju 3) iZ
def RI{n:Nat}(i:n<=5)(L:jg)(h: ∀t∈L,ZB t<=100)(j:(ZB L)<=4000)(o:Bool)(a g b c:Sl): ∃f d,W8 [ii n,lsO L o,a,g,b,c]=Y (.nx [ii n,lsO (exP n L) C,a,lsO (exP n L) C,f,d]):=by obtain⟨f,d,e⟩:=WW i (lsO L C) a L [] b c h (by simp;lia);refine⟨f,d,(iG (δ1:=[ii n,lsO L o,a,lsO [] J,b,c])<|by simp[jH]).trans<|(iG<|(lT<|mv (o:=C) (by cases o<;>rfl)).trans e).trans H⟩
def Eh{n:Nat}(k:n<=5): ∃o,oj [pI n]=Y ((.lst<|(lK n n).map cD,o),[ii n]):=by
 obtain⟨_,⟨m,o,f,a,b,c,i,rfl⟩,e⟩:=oB (tg:=iF 2) (fb:=W8) (λg δ=> ∃(m:Nat) (o:Bool) (f a b c:Sl),(m+ZB g=n)/\δ=[ii n,lsO (lK n m) o,f,a,b,c]) (λd g δ j=>by obtain⟨m,o,f,a,b,c,h1,h⟩:=j;subst h;simp only[lQ] at h1;obtain⟨q,p,e⟩:=RI k (lK n m) (λt l=>by have:=(qA l).1;lia) (by have:=wX n (by lia) m (by lia);lia) o (Y (d,C)) a b c;exact⟨_,_,rfl,e,m+1,C,_,_,_,_,by lia,rfl⟩) (jv 0 n) [ii n,lsO [[]] J,I,I,I,I] ⟨0,J,I,I,I,I,by simp[jv],rfl⟩
 simp only[uT,fJ] at i;subst i;refine⟨o,?_⟩;cases o
 .refine lh (δ:=[ii m,lsO (lK m m) C,f,a,b,c]) ⟨rfl,by decide,rfl⟩ ((iG (δ1:=[ii m,lsO [[]] J,I,I,I,I])<|by simp[jH]).trans<|(iG<|(lT ?_).trans e).trans<|kf H);exact wD (o:= .slot 0) H H (by lia)
 .refine lh (δ:=[ii m,I,f,a,b,c]) ⟨rfl,by decide,rfl⟩ ((iG (δ1:=[ii m,lsO [[]] J,I,I,I,I])<|by simp[jH]).trans<|(iG<|(lT ?_).trans e).trans<|kf H);exact wD (o:= .slot 0) H H (by lia)
def JU(c:iO)(a:jg):lX (cD c) (dC a)=Y (.bl (!decide (c∈a)),C):=by unfold lX dC;simp only;rw[iP<|Am a c,Du]
abbrev Hg:FS:=iL (sIf (fT<|iN lX (iA<|iQ jB [iw 3,iw 2])<|iw 1) (iL (kN<|fC<|.bl C) iZ) iZ) iZ
def WU{n:Nat}(s:n<=5){t:iO}(u:TT n t)(a:jg)(b:Bool)(f:Sl): ∀(g:jg) (x:Sl),(∀c∈g,ClOk n c)-> ∃j,qy (iF 3) Hg (g.map cD) [f,Y (dC a,b),eN t,x]=if(g.all λc=>decide<|lc t c∈a)=J then Y (.nx [f,Y (dC a,b),eN t,j]) else Y (.rt (.bl C,C) [f,Y (dC a,b),eN t,j]):=by
 intro w
 induction w with
 |nil=>intro x _;exact⟨x,rfl⟩
 |cons c g v=>
  intro x h;have p:=h c jT;obtain⟨y,q,rfl⟩:=NL s u p;have i:fT (iN lX (iA<|iQ jB [iw 3,iw 2])<|iw 1) [f,Y (dC a,b),eN t,eN c]=Y (!decide (lc t c∈a),[f,Y (dC a,b),eN t,eN c]):=lY<|jO (b:=dC a) (JU _ _) (jE (b:=C)<|jU2 q (jV H)<|jV H).r<|jR H
  have l:qy (iF 3) Hg ((c::g).map cD) [f,Y (dC a,b),eN t,x]=(Hg [f,Y (dC a,b),eN t,eN c]).bind λo=>match o with
   | .nx d=>qy (iF 3) Hg (g.map cD) d
   | .ct d=>qy (iF 3) Hg (g.map cD) d
   | .bk d=>Y<|.nx d
   | .rt r d=>Y (.rt r d):=rfl
  rw[l,vn];by_cases k:lc t c∈a
  .rw[nN k] at i ⊢;obtain⟨j,e⟩:=v (eN c) λc m=>h c<|jX _ m;refine⟨j,?_⟩;have s1:Hg [f,Y (dC a,b),eN t,eN c]=Y (.nx [f,Y (dC a,b),eN t,eN c]):=(iG<|(wd i).trans H).trans H;rw[s1];exact e
  .rw[lS k] at i ⊢;refine⟨eN c,?_⟩;have s1:Hg [f,Y (dC a,b),eN t,eN c]=Y (.rt (.bl C,C) [f,Y (dC a,b),eN t,eN c]):=kf<|(wc i).trans H;rw[s1];rfl
def G7{n:Nat}(i:n<=5){t:iO}(j:TT n t)(d a:jg)(hk: ∀c∈a,ClOk n c)(b:Bool):mR [(rD' n a,C),(dC d,b),enc t]=Y ((.bl<|a.all λc=>decide<|lc t c∈d,C),[Y (rD' n a,C),Y (dC d,b),eN t]):=by
 obtain⟨x,e⟩:=WU i j d b (Y (rD' n a,C)) a I hk;have h: ∀x,jS [(rD' n a,C),(dC d,b),enc t] [Y (rD' n a,C),Y (dC d,b),eN t,x]=[Y (rD' n a,C),Y (dC d,b),eN t]:=λx=>by cases b<;>rfl
 cases g:a.all λc=>decide (lc t c∈d) with
 |true=>
  rw[g,iP H] at e;have q:=lh (n:=4) (np:=3) (asg:=[3]) (f:=oi) (args:=[(rD' n a,C),(dC d,b),enc t]) (r:=(.bl J,C)) (δ:=[Y (rD' n a,C),Y (dC d,b),eN t,x]) ⟨rfl,by decide,by cases b<;>rfl⟩<|(iG<|(lT H).trans e).trans<|kf H
  rwa [h] at q
 |false=>
  rw[g,jc ku] at e;have q:=lh (n:=4) (np:=3) (asg:=[3]) (f:=oi) (args:=[(rD' n a,C),(dC d,b),enc t]) (r:=(.bl C,C)) (δ:=[Y (rD' n a,C),Y (dC d,b),eN t,x]) ⟨rfl,by decide,by cases b<;>rfl⟩<|kf<|(lT H).trans e
  rwa [h] at q
def NO{n:Nat}{a:jg}(h:HE n a):rg [(rD' n a,C)]=Y ((.lst<|((lK n n).filter λt=>a.all λc=>decide<|lc t c∈a).map cD,J),[rS n a]):=by
 obtain⟨j,hk,_,u⟩:=h;obtain⟨o,m⟩:=Eh j;have hd:=Vm (n:=n) (i:=0) (δ:=[rS n a,I]) H hk.1 (by lia);have q:=wX n (by lia) n (by lia)
 obtain⟨v,e⟩:=Vw (f:=ju 2) (ti:=fT<|iQ mR [iw 0,iw 1,iw 2]) (g:=λd=>d) (p:=λd=>a.all λc=>decide<|lc (unC d) c∈a) (pre:=[rS n a,Y (dC a,J)]) ((lK n n).map cD) [] I (λd hd=>by obtain⟨t,s,rfl⟩:=lZ.mp hd;rw[nq];have tt:=(qA s).tt;refine⟨lY (o:=C)<|(kX (δ1:=[rS n a,Y (dC a,J),eN t]) (os:=[.slot 0,.slot 1,.slot 2]) (args:=[(rD' n a,C),(dC a,J),enc t]) H H (nd1 1)<|G7 j tt a a hk.2 J).trans H,λ_=>⟨C,rfl⟩⟩) (by rw[jH];simp;lia)
 rw[xa,BL] at e;simp only[nq] at e;refine lh (δ:=[rS n a,Y (dC a,J)]) ⟨rfl,by decide,rfl⟩<|(iG<|jG (i:=1) hd (show 1<2 by decide)).trans<|kf<|lF ?_;refine(tu (caps:=[0,1]) (k:=1) (l:=(lK n n).map cD) (δ1:=[rS n a,Y (dC a,J)]) (args:=[(rD' n a,C),(dC a,J)]) (mv (o:=o) ?_) H (nd1 1) e).trans H;exact jU1 m<|jE (b:=C)<|jO H (jV H).r (jE H).r
section
variable {d:D}{lo a:Int}
end
theorem IW: ∀(r:iO) (v:Nat) (h:v<ZB r),r.Perm (r[v]::r.eraseIdx v)
 |x::r,0,_=> .refl _
 |x::r,v+1,h=>((IW r v<|by simpa using h).cons x).trans<|.swap _ _ _
theorem Er{b:Type}: ∀{l:List b} {i:Nat} {a:b},l[i]?=Y a->l.set i a=l
 |[],i,a,h=>by simp at h
 |x::l,0,a,h=>by simp at h;simp[h]
 |x::l,i+1,a,h=>by simp at h;simp[Er h]
theorem Ac: ∀(t r f:iO),(t.map ab).Perm r->f++t∈oZ (ZB t) r f
 |[],r,f,h=>by simp[oZ]
 |s::t,r,f,h=>by
  have c:ab s∈r:=h.mem_iff.mp (by simp);obtain⟨v,hv,e⟩:=zf c
  have a:(t.map ab).Perm (r.eraseIdx v):=by have h1:r.Perm (r[v]::r.eraseIdx v):=IW r v hv;rw[e] at h1;exact(List.perm_cons _).mp ((show(ab s::t.map ab).Perm r from h).trans h1)
  have b:r.getD v 0=ab s:=by rw[nL,jt hv,e];rfl
  rw[lQ,oZ,yE];refine⟨v,wY.mpr hv,?_⟩;rw[qb,b];have d:s=ab s*1\/s=ab s* -1:=by unfold ab;split<;>lia
  rcases d with q|q
  .left;have:=Ac t (r.eraseIdx v) (f++[ab s*1]) a;rw[<-q,oq] at this;rw[<-q];exact this
  .right;have:=Ac t (r.eraseIdx v) (f++[ab s* -1]) a;rw[<-q,oq] at this;rw[<-q];exact this
def RY: ∀n:Nat,n<5->(oZ n (st n) []).length<=384:=by decide+kernel
def few{n:Nat}(c:n<=4){V:jg}(b:V.Nodup)(h: ∀t∈V,TT n t):V.length<=384:=
 ma (Dt V (oZ n (st n) []) b λt a=>by
  have:=Ac t (st n) []<|h t a
  rwa [(h t a).len] at this) (RY n<|by lia)
abbrev mZ(V:jg):Sl:=Y (.oth .set []<|V.map cD,J)
def JT(V:jg)(t:iO):wF (cD t) (.oth .set []<|V.map cD)=Y (.bl (!decide (t∈V)),C):=by show((if(V.map cD).all okS=J/\okS (cD t)=J then Y ((V.map cD).any (D.eqb · (cD t))) else I).map λb=>(D.bl (!b),C))=_;rw[iP ⟨G2 V,G3 t⟩,DX t V];rfl
def Es{i:Nat}{f:F}{δ:Dn}{V:jg}{t:iO}(a:δ[i]?=Y (mZ V))(h1:f δ=Y ((cD t,C),δ))(b:V.length<500):yA i f δ=Y ((.non,C),δ.set i<|mZ<|pH V t):=by unfold yA;rw[a];simp only[];rw[h1];simp only[jK];rw[a];simp only[];rw[iP ⟨G2 V,G3 t,by simpa using b⟩,R0]
abbrev Vh:FS:=iL (jD 7<|iQ qz [iw 5,iw 6])<|iL (sIf (fT<|iN wF (iw 7)<|iw 2) (iL (lU<|yA 2<|ju 7)<|iL (lU<|kY 4<|ju 7) iZ) iZ) iZ
abbrev Vf:FS:=iL (pV (jx<|ju 1) (iF 6) Vh) iZ
abbrev WZ:FS:=iL (jD 4<|lq [])<|iL (pV (jx<|ju 3) (iF 5) Vf)<|iL (jD 3<|ju 4) iZ
section
variable {n m:Nat}{V R:jg}{d:D}
def sq(d:D)(L:jg):Prop:=d= .lst (L.map cD)\/d= .tup (L.map cD)
def Sy{L:jg}(h:sq d L){i:Nat}{a:Dn}(b:a[i]?=Y (Y (d,C))):jx (ju i) a=Y (L.map cD,a):=by
 have e:ju i a=Y ((d,C),a):=by unfold ju;rw[b];simp only[];rw[Er b]
 rw[Dd,e];rcases h with rfl|rfl<;>rfl
def L0(W:jg)(f:Bool)(a x1 x2:Sl)(b:Dn):Ot (iw 3) (a::x1::x2::Y (.lst<|W.map cD,f)::b)=Y (!W.isEmpty,a::x1::x2::Y (.lst<|W.map cD,f)::b):=by show Y (!(W.map cD).isEmpty,_)=_;cases W<;>rfl
end
structure Sp(n:Nat)(L V:jg):Prop where
 nd:V.Nodup
 tt: ∀t∈V,TT n t
 st:PV.st n∈V
 cl: ∀v∈V,∀t∈L,beh v t∈V
 mn: ∀P:List Int->Prop,P (PV.st n)->(∀v t,P v->t∈L->P (beh v t))-> ∀v∈V,P v
def Sp.perm{n:Nat}{L V W:jg}(h:Sp n L V)(k:Sp n L W):V.Perm W:=
 (Fs h.nd k.nd).mpr λx=>⟨λb=>h.mn (· ∈W) k.st (λv t hv a=>k.cl v hv t a) x b,λb=>k.mn (· ∈V) h.st (λv t hv a=>h.cl v hv t a) x b⟩
def DV{a b:iO}(h:cD a=cD b):a=b:=by have:=mV unC h;rwa [nq,nq] at this
structure SQ(n:Nat)(L V0 V R:jg):Prop where
 nd:V.Nodup
 tt: ∀t∈V,TT n t
 up: ∀t∈V0,t∈V
 rv: ∀t∈R,t∈V
 or: ∀t∈V,t∈V0\/t∈R
 len:V.length=ZB V0+R.length
 mn: ∀P:List Int->Prop,P (PV.st n)->(∀v t,P v->t∈L->P (beh v t))-> ∀v∈V,P v
def SQ.put{n:Nat}{L e V R:jg}(h:SQ n L e V R){b t:iO}(f:b∈V)(k:t∈L)(i:TT n t)(j:beh b t∉V):SQ n L e (V++[beh b t]) (R++[beh b t]):=by
 have a: ∀{x:iO} {l:jg},x∈l++[beh b t]↔x∈l\/x=beh b t:=by simp
 refine⟨?_,λx c=>?_,λx c=>a.mpr<|.inl<|h.up x c,λx c=>a.mpr<|(a.mp c).imp (h.rv x) id,λx c=>?_,by simp[h.len];lia,λP g d x c=>?_⟩
 .rw[<-show pH V (beh b t)=V++[beh b t] from jc j];exact Jk h.nd
 .rcases a.mp c with z|rfl
  .exact h.tt x z
  .exact(h.tt b f).beh i
 .rcases a.mp c with z|rfl
  .exact(h.or x z).imp id λz=>a.mpr<|.inl z
  .exact .inr (a.mpr<|.inr H)
 .rcases a.mp c with z|rfl
  .exact h.mn P g d x z
  .exact d b t (h.mn P g d b f) k
section
variable {n:Nat}{L V0 V R:jg}{d:D}
def W6(s:n<=4)(h:SQ n L V0 V R){b t:iO}(m:b∈V)(u:t∈L)(j:TT n t)(f k:Sl): ∃e g,SQ n L V0 e g/\(∀x∈V,x∈e)/\beh b t∈e/\Vh [ii n,Y (d,C),mZ V,f,lsC R,Y<|enc b,Y<|enc t,k]=Y (.nx [ii n,Y (d,C),mZ e,f,lsC g,Y<|enc b,Y<|enc t,Y<|enc<|beh b t]):=by
 have w:=few s h.nd h.tt
 let a:Sl->Sl->Sl->Dn:=λx y z=>[ii n,Y (d,C),x,f,y,Y<|enc b,Y<|enc t,z]
 have s1:jD 7 (iQ qz [iw 5,iw 6]) (a (mZ V) (lsC R) k)=Y (.nx<|a (mZ V) (lsC R)<|Y<|enc<|beh b t):=jG (i:=7) (jU2 (Ks (by lia) (h.tt b m) j.len) (jV H)<|jV H) (show 7<8 by decide);have p:fT (iN wF (iw 7)<|iw 2) (a (mZ V) (lsC R)<|Y<|enc<|beh b t)=Y (!decide (beh b t∈V),a (mZ V) (lsC R)<|Y<|enc<|beh b t):=lY (o:=C)<|jO (JT V _) (jV H).r<|jR H;by_cases c:beh b t∈V
 .exact⟨V,R,h,λ_ z=>z,c,(iG s1).trans<|(no _ (p.trans<|by rw[nN c];rfl)).trans H⟩
 .have hv: ∀x y,ju 7 (a x y<|Y<|enc<|beh b t)=Y (enc<|beh b t,a x y<|Y<|enc<|beh b t):=λ_ _=>rfl;have q:pH V (beh b t)=V++[beh b t]:=jc c;have v:R.length<=384:=by have:=h.len;lia
  refine⟨_,_,h.put m u j c,λx z=>vA _ z,by simp,(iG s1).trans<|(iG<|(wc<|p.trans<|by rw[lS c];rfl).trans ?_).trans H⟩;refine(iG (δ1:=a (mZ<|V++[beh b t]) (lsC R)<|Y<|enc<|beh b t)<|nS<|(Es (i:=2) (V:=V) H (hv _ _)<|by lia).trans<|by rw[q];rfl).trans ?_;exact(iG (δ1:=a (mZ<|V++[beh b t]) (lsC<|R++[beh b t])<|Y<|enc<|beh b t)<|nS (r:=(.non,C))<|(pA (i:=4) (l0:=R.map cD) (l:=R.map cD) (r:=enc<|beh b t) H (hv _ _) H<|by rw[jH];simp;lia).trans<|by simp only[lsC,nK];rfl).trans H
def WT(B:n<=4)(E:sq d L)(v: ∀t∈L,TT n t)(h:SQ n L V0 V R){b:iO}(w:b∈V)(g k m:Sl): ∃a c T Q,SQ n L V0 a c/\(∀x∈V,x∈a)/\(∀t∈L,beh b t∈a)/\Vf [ii n,Y (d,C),mZ V,g,lsC R,Y<|enc b,k,m]=Y (.nx [ii n,Y (d,C),mZ a,g,lsC c,Y<|enc b,T,Q]):=by
 obtain⟨_,⟨a,c,x,y,M,j,_,A,rfl⟩,e⟩:=oB (tg:=iF 6) (fb:=Vh) (λl r=> ∃a c x y,SQ n L V0 a c/\(∀x∈V,x∈a)/\(∀d∈l,∃t∈L,d=cD t)/\(∀t∈L,cD t∈l\/beh b t∈a)/\r=[ii n,Y (d,C),mZ a,g,lsC c,Y<|enc b,x,y]) (λz l r a'=>by
  obtain⟨J',G,x,y,h1,j,o,s,u⟩:=a'
  subst u;obtain⟨t,f,rfl⟩:=o z jT;obtain⟨a,c,U,p,O,e⟩:=W6 (d:=d) B h1 (j b w) f (v t f) g y;refine⟨_,_,rfl,e,a,c,_,_,U,λx N=>p x<|j x N,λq i=>o q<|jX _ i,λq i=>?_,rfl⟩;rcases s q i with z|z
  .rcases kT.mp z with z|z
   .rw[DV z];exact .inr O
   .exact .inl z
  .exact .inr (p _ z)) (L.map cD) [ii n,Y (d,C),mZ V,g,lsC R,Y<|enc b,k,m] ⟨V,R,k,m,h,λ_ z=>z,λq i=>by obtain⟨t,f,rfl⟩:=lZ.mp i;exact⟨t,f,rfl⟩,λt f=> .inl (oI f),rfl⟩
 exact⟨a,c,x,y,M,j,λt f=>(A t f).resolve_left<|by simp,(iG<|(lT<|Sy E H).trans e).trans H⟩
structure SW(n:Nat)(L V W:jg):Prop where
 nd:V.Nodup
 tt: ∀t∈V,TT n t
 st:PV.st n∈V
 wv: ∀t∈W,t∈V
 cl: ∀v∈V,v∈W\/ ∀t∈L,beh v t∈V
 mn: ∀P:List Int->Prop,P (PV.st n)->(∀v t,P v->t∈L->P (beh v t))-> ∀v∈V,P v
def W0(Q:n<=4)(T:sq d L)(H: ∀t∈L,TT n t){W:jg}(h:SW n L V W)(f:Bool)(B j k m:Sl): ∃c a U N u s,SW n L c a/\(ZB c)=V.length+ZB a/\WZ [ii n,Y (d,C),mZ V,Y (.lst<|W.map cD,f),B,j,k,m]=Y (.nx [ii n,Y (d,C),mZ c,Y (.lst<|a.map cD,C),U,N,u,s]):=by
 let p:Sl:=Y (.lst<|W.map cD,C)
 obtain⟨_,⟨c,a,x,y,z,g,_,O,rfl⟩,e⟩:=oB (tg:=iF 5) (fb:=Vf) (λl A=> ∃c a x y z,SQ n L V c a/\(∀d∈l,∃t∈W,d=cD t)/\(∀b∈W,cD b∈l\/ ∀t∈L,beh b t∈c)/\A=[ii n,Y (d,C),mZ c,p,lsC a,x,y,z]) (λq l A a'=>by
  obtain⟨V1,Y',x,y,z,h1,r,C',E⟩:=a'
  subst E;obtain⟨b,I,rfl⟩:=r q jT;obtain⟨c,a,u,s,G,J,M,e⟩:=WT Q T H h1 (h1.up b<|h.wv b I) p y z;refine⟨_,_,rfl,e,c,a,_,_,_,G,λq o=>r q<|jX _ o,λq o=>?_,rfl⟩;rcases C' q o with z|z
  .rcases kT.mp z with z|z
   .rw[DV z];exact .inr M
   .exact .inl z
  .exact .inr λt i=>J _ (z t i)) (W.map cD) [ii n,Y (d,C),mZ V,p,lsC [],j,k,m] ⟨V,[],j,k,m,⟨h.nd,h.tt,λ_ z=>z,by simp,λ_ z=> .inl z,by simp,h.mn⟩,λq o=>by obtain⟨t,i,rfl⟩:=lZ.mp o;exact⟨t,i,rfl⟩,λt i=> .inl (oI i),rfl⟩
 refine⟨c,a,Y (.lst<|a.map cD,C),x,y,z,⟨g.nd,g.tt,g.up _ h.st,g.rv,λv hv=>?_,g.mn⟩,g.len,?_⟩
 .rcases g.or v hv with q|q
  .rcases h.cl v q with w|w
   .exact .inr ((O v w).resolve_left<|by simp)
   .exact .inr λt i=>g.up _ (w t i)
  .exact .inl q
 refine(iG (δ1:=[ii n,Y (d,C),mZ V,Y (.lst<|W.map cD,f),lsC [],j,k,m]) Zz).trans ?_;exact(iG<|(lT (ds:=W.map cD) (δ1:=[ii n,Y (d,C),mZ V,p,lsC [],j,k,m]) Zz).trans e).trans Zz
def SW.fin(h:SW n L V []):Sp n L V:=⟨h.nd,h.tt,h.st,λv hv=>(h.cl v hv).resolve_left<|by simp,h.mn⟩
theorem LL(l:n<=4)(w:sq d L)(s: ∀t∈L,TT n t): ∀(a:Nat) (V W:jg) (f:Bool) (c g i j:Sl),SW n L V W->386<a+V.length-> ∃b B p o r q,Sp n L b/\ml (Ot<|iw 3) WZ a [ii n,Y (d,C),mZ V,Y (.lst<|W.map cD,f),c,g,i,j]=Y (.nx [ii n,Y (d,C),mZ b,B,p,o,r,q])
 |0,V,W,f,c,g,i,j,h,hf=>by have:=few l h.nd h.tt;omega
 |a+1,V,W,f,c,g,i,j,h,hf=>by
  have z:=L0 W f (ii n) (Y (d,C)) (mZ V) [c,g,i,j]
  cases x:W.isEmpty with
  |true=>
   have:W=[]:=by simpa using x
   subst this;exact⟨V,_,_,_,_,_,h.fin,yP z⟩
  |false=>
   obtain⟨b,m,p,o,r,q,v,E,e⟩:=W0 l w s h f c g i j;have y:=CW (k:=a) (z.trans<|by rw[x];rfl) e;by_cases u:m=[]
   .subst u;have hv:=few l h.nd h.tt
    cases a with
    |zero=>omega
    |succ a=>exact⟨b,_,_,_,_,_,v.fin,y.trans<|yP<|L0 [] C _ _ _ _⟩
   .have:0<(ZB m):=LA.mpr u;obtain⟨A,x3,x4,x5,x6,x7,h1,U⟩:=LL l w s a b m C p o r q v (by omega);exact⟨A,x3,x4,x5,x6,x7,h1,y.trans U⟩
def HS(i:n<=4)(h:V.Nodup)(tt: ∀t∈V,TT n t): ∃f,f.Perm V/\SrtC f/\kJ (V.map cD)=Y (.lst<|f.map cD,J):=by
 have j:=few i h tt;refine C4 ?_ (by lia);by_cases g:n=0
 .subst g;have h1: ∀a∈V,a=[]:=λa b=>Pg.mp (tt a b).len;have c:V.length<=1:=Dt V [[]] h λa b=>by rw[h1 a b];simp
  match V,h1,c with
  |[],_,_=>rfl
  |[x],h1,_=>rw[h1 x<|by simp];rfl
  |_::_::_,_,c=>simp at c
 .exact xM _ λa b e=>g (by rw[<-(tt a b).len,e];rfl)
def To(f:n<=4)(p:sq d L)(o: ∀t∈L,TT n t): ∃V a,Sp n L V/\a.Perm V/\SrtC a/\nB [(.int n,C),(d,C)]=Y ((.lst<|a.map cD,J),[ii n,Y (d,C)]):=by
 have s0: ∀δ:Dn,iQ pB [iw 0] (ii n::δ)=Y (enc<|st n,ii n::δ):=λδ=>jU1 (L7<|by lia)<|jV H;obtain⟨V,g,h,j,k,l,c,e⟩:=LL f p o Ku [st n] [st n] J I I I I ⟨by simp,λt q=>by cases AS.mp q;exact Bp n,by simp,λ_ z=>z,λv hv=> .inl hv,λP u _ v hv=>by cases AS.mp hv;exact u⟩ (by show 386<100000+1;decide);obtain⟨a,r,s,m⟩:=HS f c.nd c.tt
 have b:sZ (.oth .set []<|V.map cD)=Y (.lst<|a.map cD,J):=by show(if(V.map cD).all okS=J then kJ (V.map cD) else I)=_;rw[iP<|G2 V,m]
 refine⟨V,a,c,r,s,lh (δ:=[ii n,Y (d,C),mZ V,g,h,j,k,l]) ⟨rfl,by decide,rfl⟩ ?_⟩;refine(iG (δ1:=[ii n,Y (d,C),mZ [],I,I,I,I,I]) H).trans ?_;refine(iG (δ1:=[ii n,Y (d,C),mZ [st n],I,I,I,I,I])<|nS<|(Es (i:=2) (V:=[]) (t:=st n) H (s0 _)<|by decide).trans H).trans ?_
 refine(iG (δ1:=[ii n,Y (d,C),mZ [st n],Y (.lst<|[st n].map cD,J),I,I,I,I])<|jG (i:=3) (δ1:=[ii n,Y (d,C),mZ [st n],I,I,I,I,I]) (by rw[MC,show[iQ pB [iw 0]].map iA=[iA<|iQ pB [iw 0]] from H,vP<|jo<|s0 _];simp[jH]) (show 3<8 by decide)).trans ?_
 exact(iG e).trans (kf<|lF<|jC b<|jR (i:=2) H)
end
section
variable {a b c:D}
end
section
variable {n:Nat}{d:D}
end
abbrev Vg:FS:=iL (jD 7<|jh (g1 ny) [iA<|jI [6] 1 (jx<|ju 5) (iF 1) kK<|jA<|iQ ji [iw 0,iw 1]])<|iL (sIf (fT<|iN lX (iw 7)<|iw 3) (iL (uI 3 (fC<|.bl J)<|iw 7)<|iL (lU<|kY 4<|ju 7) iZ) iZ) iZ
abbrev W4:FS:=iL (jD 5<|PX.fPop 4)<|iL (pV (jx<|ju 1) (iF 6) Vg) iZ
abbrev WR:FT:=fT<|iN gNe (iw 4)<|iA<|lq []
structure SB(n:Nat)(L V0 F0 V F:jg)(b:iO):Prop where
 nd:V.Nodup
 tt: ∀t∈V,TT n t
 up: ∀t∈V0,t∈V
 fv: ∀t∈F,t∈V
 f0: ∀t∈F0,t∈F
 cl: ∀v∈V,v∈F\/v=b\/ ∀t∈L,beh v t∈V
 len:V.length+ZB F0=ZB V0+F.length
 mn: ∀P:List Int->Prop,P (PV.st n)->(∀v t,P v->t∈L->P (beh v t))-> ∀v∈V,P v
section
variable {n:Nat}{L c f V F:jg}{d:D}{b:iO}
def SB.put(h:SB n L c f V F b){t:iO}(i:b∈V)(o:t∈L)(k:TT n t)(m:beh b t∉V):SB n L c f (V++[beh b t]) (F++[beh b t]) b:=by
 have a: ∀{x:iO} {l:jg},x∈l++[beh b t]↔x∈l\/x=beh b t:=by simp
 refine⟨?_,λx e=>?_,λx e=>a.mpr<|.inl<|h.up x e,λx e=>a.mpr<|(a.mp e).imp (h.fv x) id,λx e=>a.mpr<|.inl<|h.f0 x e,λx e=>?_,by have:=h.len;simp;lia,λP j g x e=>?_⟩
 .rw[<-show pH V (beh b t)=V++[beh b t] from jc m];exact Jk h.nd
 .rcases a.mp e with z|rfl
  .exact h.tt x z
  .exact(h.tt b i).beh k
 .rcases a.mp e with z|rfl
  .rcases h.cl x z with q|q|q
   .exact .inl (a.mpr<|.inl q)
   .exact .inr (.inl q)
   .exact .inr (.inr λu p=>a.mpr<|.inl<|q u p)
  .exact .inl (a.mpr<|.inr H)
 .rcases a.mp e with z|rfl
  .exact h.mn P j g x z
  .exact g b t (h.mn P j g b i) o
abbrev dD4(n:Nat)(d:D)(V F:jg)(b:iO)(x y:Sl):Dn:=[ii n,Y (d,C),Y<|enc<|st n,Y (dC V,J),lsC F,Y<|enc b,x,y]
def RE(w:n<=4)(h:SB n L c f V F b){t:iO}(q:b∈V)(A:t∈L)(k:TT n t)(U:F.length<=900)(y:Sl): ∃g j,SB n L c f g j b/\(∀x∈V,x∈g)/\beh b t∈g/\(ZB j)<=F.length+1/\Vg (dD4 n d V F b (Y<|enc t) y)=Y (.nx<|dD4 n d g j b (Y<|enc t)<|Y<|enc<|beh b t):=by
 have E:=few w h.nd h.tt;have p:=h.tt b q
 have m:jh (g1 ny) [iA<|jI [6] 1 (jx<|ju 5) (iF 1) kK<|jA<|iQ ji [iw 0,iw 1]] (dD4 n d V F b (Y<|enc t) y)=Y (enc<|beh b t,dD4 n d V F b (Y<|enc t) y):=by refine jC (a:= .lst ((b.map<|led t).map D.int)) H (jE (b:=J)<|yj (caps:=[6]) (args:=[cD t]) (led t) H H H (λx B=>⟨C,?_⟩)<|by rw[p.len];lia).r;obtain⟨a1,u,m⟩:=Ml<|p.sg B;exact jU2 (ID t x a1 (by rw[k.len];exact u)<|by rw[k.len];exact m) (jV H)<|jV H
 have s1:=jG (i:=7) m (show 7<8 by decide);have s:fT (iN lX (iw 7)<|iw 3) (dD4 n d V F b (Y<|enc t)<|Y<|enc<|beh b t)=Y (!decide (beh b t∈V),dD4 n d V F b (Y<|enc t)<|Y<|enc<|beh b t):=lY (o:=C)<|jO (Bx _ _) (jV H).r<|jR H;by_cases e:beh b t∈V
 .exact⟨V,F,h,λ_ z=>z,e,by lia,(iG s1).trans<|(no (δ:=dD4 n d V F b (Y<|enc t)<|Y<|enc<|beh b t) _ (s.trans<|by rw[nN e];rfl)).trans H⟩
 .have v:pH V (beh b t)=V++[beh b t]:=jc e;refine⟨_,_,h.put q A k e,λx z=>vA _ z,by simp,by simp,(iG s1).trans<|(iG (δ1:=dD4 n d (V++[beh b t]) (F++[beh b t]) b (Y<|enc t)<|Y<|enc<|beh b t)<|(wc (δ1:=dD4 n d V F b (Y<|enc t)<|Y<|enc<|beh b t)<|s.trans<|by rw[lS e];rfl).trans ?_).trans H⟩;refine(iG (δ1:=dD4 n d (V++[beh b t]) F b (Y<|enc t)<|Y<|enc<|beh b t) ?_).trans ?_
  .rw[<-v];exact DN (i:=3) (b:=C) (o:= .slot 7) (cs:=V) (δ1:=dD4 n d V F b (Y<|enc t)<|Y<|enc<|beh b t) (δ2:=dD4 n d V F b (Y<|enc t)<|Y<|enc<|beh b t) H H H H H (by lia)
  .exact(iG (δ1:=dD4 n d (V++[beh b t]) (F++[beh b t]) b (Y<|enc t)<|Y<|enc<|beh b t)<|nS (r:=(.non,C))<|(pA (i:=4) (l0:=F.map cD) (l:=F.map cD) (r:=enc<|beh b t) (δ1:=dD4 n d (V++[beh b t]) F b (Y<|enc t)<|Y<|enc<|beh b t) H H H<|by rw[jH];simp;lia).trans<|by simp only[dD4,lsC,nK];rfl).trans H
def RB(s:n<=4)(T:sq d L)(I: ∀t∈L,TT n t)(h:SW n L V (F++[b]))(hF:F.length<=400)(x5 x6 x7:Sl): ∃a g A B C',SW n L a g/\(ZB a)+F.length=V.length+ZB g/\W4 [ii n,Y (d,C),Y<|enc<|st n,Y (dC V,Zx),lsC<|F++[b],x5,x6,x7]=Y (.nx [ii n,Y (d,C),Y<|enc<|st n,Y (dC a,Zx),lsC g,A,B,C']):=by
 have O:b∈V:=h.wv b (by simp)
 have N:PX.fPop 4 [ii n,Y (d,C),Y<|enc<|st n,Y (dC V,Zx),lsC<|F++[b],x5,x6,x7]=Y (enc b,[ii n,Y (d,C),Y<|enc<|st n,Y (dC V,Zx),lsC F,x5,x6,x7]):=by unfold PX.fPop;simp[lsC]
 obtain⟨_,⟨a,g,x,y,k,o,_,Q,rfl⟩,e⟩:=oB (tg:=iF 6) (fb:=Vg) (λl w=> ∃a g x y,SB n L V F a g b/\(∀x∈V,x∈a)/\(∀d∈l,∃t∈L,d=cD t)/\(∀t∈L,cD t∈l\/beh b t∈a)/\w=dD4 n d a g b x y) (λz l w a'=>by
  obtain⟨Y',U,x,y,h1,o,r,E,H'⟩:=a'
  subst H';have D:=h1.len;have:=few s h1.nd h1.tt;obtain⟨t,j,rfl⟩:=r z jT;obtain⟨a,g,J,u,M,K,e⟩:=RE (d:=d) s h1 (o b O) j (I t j) (by lia) y;refine⟨_,_,rfl,e,a,g,_,_,J,λx G=>u x<|o x G,λq m=>r q<|jX _ m,λq m=>?_,rfl⟩;rcases E q m with z|z
  .rcases kT.mp z with z|z
   .rw[DV z];exact .inr M
   .exact .inl z
  .exact .inr (u _ z)) (L.map cD) (dD4 n d V F b x6 x7) ⟨V,F,x6,x7,⟨h.nd,h.tt,λ_ z=>z,λt z=>h.wv t<|vA _ z,λ_ z=>z,λv hv=>by
   rcases h.cl v hv with q|q
   .rcases qb.mp q with q|q
    .exact .inl q
    .exact .inr (.inl<|AS.mp q)
   .exact .inr (.inr q),rfl,h.mn⟩,λ_ z=>z,λq m=>by
   obtain⟨t,j,rfl⟩:=lZ.mp m;exact⟨t,j,rfl⟩,λt j=> .inl (oI j),rfl⟩
 have p: ∀t∈L,beh b t∈a:=λt j=>(Q t j).resolve_left (by simp);refine⟨a,g,Y<|enc b,x,y,⟨k.nd,k.tt,o _ h.st,k.fv,λv hv=>?_,k.mn⟩,k.len,?_⟩
 .rcases k.cl v hv with q|rfl|q
  .exact .inl q
  .exact .inr p
  .exact .inr q
 exact(iG<|jG (i:=5) N (show 5<8 by decide)).trans ((iG<|(lT<|Sy T H).trans e).trans H)
theorem LM(m:n<=4)(v:sq d L)(s: ∀t∈L,TT n t): ∀(a:Nat) (V F:jg) (g i j:Sl),SW n L V F->F.length<=V.length->F.length+(384-V.length)<a-> ∃l T E O U,Sp n L l/\ml WR W4 a [ii n,Y (d,C),Y<|enc<|st n,Y (dC V,J),lsC F,g,i,j]=Y (.nx [ii n,Y (d,C),Y<|enc<|st n,Y (dC l,J),T,E,O,U])
 |0,_,_,_,_,_,_,_,h=>by lia
 |a+1,V,F,g,i,j,h,hle,hf=>by
  have hv:=few m h.nd h.tt
  have p:WR [ii n,Y (d,C),Y<|enc<|st n,Y (dC V,J),lsC F,g,i,j]=Y (!decide (F=[]),[ii n,Y (d,C),Y<|enc<|st n,Y (dC V,J),lsC F,g,i,j]):=
   lY (o:=C) (lI (o1:= .slot 4) (o2:= .val (.lst [],J)) (δ2:=[ii n,Y (d,C),Y<|enc<|st n,Y (dC V,J),lsC F,g,i,j]) H (jo<|by simp[jH]) H H<|IS F)
  by_cases k:F=[]
  .rw[nN k] at p;subst k;exact⟨V,_,_,_,_,h.fin,yP p⟩
  .rw[lS k] at p;have e:=Fw k;have u:F.dropLast.length+1=F.length:=by rw[Gd];have:=LA.mpr k;lia
   rw[<-e] at h;obtain⟨l,w,d5,y,z,q,Q,r⟩:=RB (d:=d) m v s h (by lia) g i j;rw[e] at r;have A:=few m q.nd q.tt;obtain⟨x,x4,x5,x6,x7,B,N⟩:=LM m v s a l w d5 y z q (by lia) (by lia);exact⟨x,x4,x5,x6,x7,B,(CW p r).trans N⟩
def Iv(j:n<=4)(s:sq d L)(q: ∀t∈L,TT n t): ∃V g,Sp n L V/\g.Perm V/\SrtC g/\nV [(.int n,C),(d,C)]=Y ((.lst<|g.map cD,J),[ii n,Y (d,C)]):=by
 obtain⟨V,k,l,m,o,h,e⟩:=LM j s q Ku [st n] [st n] I I I ⟨by simp,λt u=>by cases AS.mp u;exact Bp n,by simp,λ_ z=>z,λv hv=> .inl hv,λP y _ v hv=>by cases AS.mp hv;exact y⟩ (by simp) (by show 1+(384-1)<100000;decide);obtain⟨g,w,x,p⟩:=HS j h.nd h.tt;refine⟨V,g,h,w,x,lh (δ:=[ii n,Y (d,C),Y<|enc<|st n,Y (dC V,J),k,l,m,o]) ⟨rfl,by decide,rfl⟩ ?_⟩;refine(iG<|jG (i:=2) (δ1:=[ii n,Y (d,C),I,I,I,I,I,I]) (nU (os:=[.val (.int 1,C),.val (.int<|(n:Int)+1,C)]) H H<|Mp n<|by lia) (show 2<8 by decide)).trans ?_;refine(iG (δ1:=[ii n,Y (d,C),Y<|enc<|st n,Y (dC [st n],J),I,I,I,I])<|jG (i:=3) (δ1:=[ii n,Y (d,C),Y<|enc<|st n,I,I,I,I,I]) (r:=(dC [st n],J)) ?_ (show 3<8 by decide)).trans ?_
 .show(if(wz<|cD<|st n).isSome=J then _ else I)=_;rw[iP<|Dw<|st n];rfl
 refine(iG (δ1:=[ii n,Y (d,C),Y<|enc<|st n,Y (dC [st n],J),lsC [st n],I,I,I])<|jG (i:=4) (δ1:=[ii n,Y (d,C),Y<|enc<|st n,Y (dC [st n],J),I,I,I,I]) (by rw[MC];rfl) (show 4<8 by decide)).trans ?_
 exact(iG e).trans (kf<|lF<|jC (a:=dC V) p<|jR (i:=3) H)
end
def Ke{d:EvF}{fs:List FO}{e b:Dn}{os:List Opd}{args:List (D×Bool)}{r:D×Bool}{c:Dn}(h1:ki fs e=Y (os,b))(f:kb b os=Y args)(g:d (args.map λa=>(a.1,C))=Y (r,c))(h:okR r=J):vN d fs e=Y (r,b):=by unfold vN;rw[h1];simp only[jK];rw[f];simp only[jK];rw[g];simp only[jK];rw[iP h]
theorem M1: ∀L:List (List Int),D.prL (L.map cD)=J
 |[]=>rfl
 |t::L=>by rw[jY,D.prL,M1 L,D.pr,wg];rfl
def NG{n:Nat}: ∀{m:Nat} {t:iO},PT n m t->t∈lK n m:=by
 intro m
 induction m with
 |zero=>intro t h;rw[Pg.mp h.1];simp[lK]
 |succ m e=>
  intro t h;obtain⟨h1,c,a⟩:=h;rcases zh t with rfl|⟨p,s,rfl⟩
  .simp at h1
  rw[zg] at*;rw[nK,AU] at a;have d: ∀x∈p,ab x≠ab s:=λx b=>a.2.2 _ (oI b) _ (by simp);simp only[lK,exP,yE,lZ];refine⟨p,e ⟨by simpa using h1,λx b=>c x<|by simp[b],a.1⟩,s,?_,rfl⟩;unfold fre;simp only[wZ,lC,dZ,hZ,decide_eq_false_iff_not];refine⟨Mj.mpr<|c s<|by simp,λz=>d s z H,λz=>d (-s) z ?_⟩;unfold ab;split<;>split<;>lia
def TT.all{n:Nat}{t:iO}(h:TT n t):t∈lK n n:=NG ⟨h.len,λx a=>h.sg a,(QJ.mp h).2.2⟩
def Fn: ∀n,n<5->(lK n n).Pairwise λa b=>ltT (cD b) (cD a)=C/\a≠b:=by decide+kernel
def Vy{n:Nat}{t:iO}(h:TT n t):beh (st n) t=t:=Ql h
def Fine(n:Nat)(L:jg):Prop:= ∀(i:Nat) t V,L[i]?=Y t->Sp n (L.take i) V->t∉V
def Fine.snoc{n:Nat}{L V:jg}{t:iO}(h:Fine n L)(d:Sp n L V)(e:t∉V):Fine n (L++[t]):=λi u W a b=>by
 by_cases c:i<ZB L
 .rw[qf c] at a;rw[List.take_append_of_le_length<|by lia] at b;exact h i u W a b
 .have:i=(ZB L):=by have:=(rT.mp a).1;simp at this;lia
  subst this;simp at a;subst a;simp at b;exact λz=>e<|(b.perm d).mem_iff.mp z
def Sp.up{n:Nat}{L V W:jg}{t:iO}(h:Sp n L V)(k:Sp n (L++[t]) W): ∀v∈V,v∈W:=h.mn (· ∈W) k.st λv u hv a=>k.cl v hv u (by simp[a])
section
variable {n:Nat}{ks:jg}(h:HE n ks)
include h
theorem Q9{v t:iO}(hv:v∈lik n ks)(a:t∈lik n ks):beh v t∈lik n ks:=by have e:=qV h hv;have d:=qV h a;refine wZ.mpr ⟨(e.beh d).all,mY.mpr λc b=>?_⟩;have hv:=FN<|mY.mp (wZ.mp hv).2 c b;have a:=FN<|mY.mp (wZ.mp a).2 _ hv;rw[WH e d<|h.2.1.2 c b] at a;exact nN a
theorem Tn:st n∈lik n ks:=wZ.mpr ⟨(Bp n).all,mY.mpr λc a=>by rw[WG<|h.2.1.2 c a,nN a]⟩
theorem Tp{L V:jg}(a: ∀t∈L,t∈lik n ks)(b:Sp n L V): ∀v∈V,v∈lik n ks:=b.mn _ (Tn h) λv t hv c=>Q9 h hv<|a t c
theorem Wa(e:n<=4){L V K:jg}(b: ∀t∈L,t∈lik n ks)(a:Sp n L V)(d:K.Perm V)(hk:SrtC K)(c: ∀t∈lik n ks,t∈V):K=lik n ks:=by
 refine Ma (d.trans<|(Fs a.nd ?_).mpr λx=>⟨Tp h b a x,c x⟩) hk ?_
 .exact((Fn n<|by lia).imp And.right).filter _
 .exact((Fn n<|by lia).imp And.left).filter _
abbrev W7:FS:=iL (sIf (fT<|iN lg (iw 4)<|iw 3) (iL (lU<|kY 2<|ju 4)<|iL (jD 3<|vN nB [iw 1,iw 2]) iZ) iZ) iZ
structure CH(n:Nat)(ks L K:jg):Prop where
 sub: ∀t∈L,t∈lik n ks
 fine:Fine n L
 nd:L.Nodup
 up: ∀t∈L,t∈K
 sp: ∃V,Sp n L V/\K.Perm V/\SrtC K
abbrev dF4(n:Nat)(ks L K:jg)(x:Sl):Dn:=[rS n ks,ii n,lsC L,lsC K,x]
theorem spB{L:jg}(b:n<=4)(c: ∀t∈L,TT n t)(a x3 x4:Sl): ∃V K,Sp n L V/\K.Perm V/\SrtC K/\vN nB [iw 1,iw 2] [a,ii n,lsC L,x3,x4]=Y ((.lst<|K.map cD,J),[a,ii n,lsC L,x3,x4]):=by obtain⟨V,K,f,g,i,e⟩:=To (d:= .lst (L.map cD)) (L:=L) b (.inl H) c;exact⟨V,K,f,g,i,Ke (os:=[.slot 1,.slot 2]) (args:=[(.int n,C),(.lst<|L.map cD,J)]) H H e<|M1 K⟩
theorem RF(s:n<=4){L K:jg}(c:CH n ks L K){t:iO}(m:t∈lik n ks): ∃q d,CH n ks q d/\(∀v∈K,v∈d)/\t∈d/\W7 (dF4 n ks L K<|eN t)=Y (.nx<|dF4 n ks q d<|eN t):=by
 have w:fT (iN lg (iw 4)<|iw 3) (dF4 n ks L K<|eN t)=Y (!decide (t∈K),dF4 n ks L K<|eN t):=lY (o:=C)<|jO (EF _ _) (jV H).r<|jR H;obtain⟨V,x,p,U⟩:=c.sp;by_cases g:t∈K
 .exact⟨L,K,c,λ_ z=>z,g,no (δ:=dF4 n ks L K<|eN t) _ (w.trans<|by rw[nN g];rfl)⟩
 .have tt: ∀u∈L++[t],TT n u:=λu f=>by
   rcases qb.mp f with z|z
   .exact qV h (c.sub u z)
   .cases AS.mp z;exact qV h m
  obtain⟨W,d,k,j,T,e⟩:=spB h s tt (rS n ks) (lsC K)<|eN t;have up:=x.up k
  have tW:t∈W:=by
   have:=k.cl _ k.st t (by simp)
   rwa [Vy<|qV h m] at this
  have B:t∉V:=λz=>g<|p.mem_iff.mpr z;have E:=few s c.nd λu f=>qV h<|c.sub u f;refine⟨L++[t],d,⟨λu f=>?_,c.fine.snoc x B,?_,λu f=>?_,W,k,j,T⟩,λv hv=>j.mem_iff.mpr<|up v<|p.mem_iff.mp hv,j.mem_iff.mpr tW,?_⟩
  .rcases qb.mp f with z|z
   .exact c.sub u z
   .cases AS.mp z;exact m
  .refine AU.mpr ⟨c.nd,by simp,λa y b A e=>?_⟩;cases AS.mp A;subst e;exact g<|c.up a y
  .rcases qb.mp f with z|z
   .exact j.mem_iff.mpr (up u<|p.mem_iff.mp<|c.up u z)
   .cases AS.mp z;exact j.mem_iff.mpr tW
  .refine(iG (δ1:=dF4 n ks (L++[t]) d<|eN t)<|(wc<|w.trans<|by rw[lS g];rfl).trans<|(iG (δ1:=dF4 n ks (L++[t]) K<|eN t)<|nS (r:=(.non,C))<|(pA (i:=2) (l0:=L.map cD) (l:=L.map cD) (r:=enc t) (δ1:=dF4 n ks L K<|eN t) H H H<|by rw[jH];simp;lia).trans<|by simp only[dF4,lsC,nK];rfl).trans<|(iG<|jG (i:=3) e (show 3<5 by decide)).trans H).trans H
omit h in
theorem VG:fT (iN (rQ .Gt) (iw 0)<|iA<|fC<|.int 4) [ii n]=Y (decide<|(n:Int)>4,[ii n]):=lY (o:=C)<|jO (a:= .int n) (b:= .int 4) (Yq _ _) (jV H).r (jE H).r
omit h in
theorem Vr(a:n<=4):kR [pI n]=Y ((.non,C),[ii n]):=by have e:lH [ii n]=Y (.nx [ii n]):=(no (δ:=[ii n]) _ (VG.trans<|by rw[lS<|by lia])).trans H;simp only[kR,evF];rw[iP ⟨rfl,by decide,rfl⟩];show(match lH [ii n] with|some (.rt r δ)=>Y (r,jS _ δ)|some (.nx δ)=>Y ((D.non,C),jS _ δ)|_=>I)=_;rw[e];rfl
theorem Vd(g:n<=4): ∃L K,CH n ks L K/\(∀t∈lik n ks,t∈K)/\jZ [(rD' n ks,C)]=Y ((.tup<|L.map cD,C),[rS n ks]):=by
 obtain⟨m,f,B,U,E,s⟩:=spB h (L:=[]) g (by simp) (rS n ks) I I
 obtain⟨_,⟨L,K,x,c,_,v,rfl⟩,e⟩:=oB (tg:=iF 4) (fb:=W7) (λl δ=> ∃L K x,CH n ks L K/\(∀d∈l,∃t∈lik n ks,d=cD t)/\(∀t∈lik n ks,cD t∈l\/t∈K)/\δ=dF4 n ks L K x) (λd l δ T=>by
  obtain⟨L,K,x,c,h1,u,hd⟩:=T
  subst hd;obtain⟨t,a,rfl⟩:=h1 d jT;obtain⟨k,j,p,y,A,e⟩:=RF h g c a;refine⟨_,_,rfl,e,k,j,_,p,λq b=>h1 q<|jX _ b,λq b=>?_,rfl⟩;rcases u q b with z|z
  .rcases kT.mp z with z|z
   .rw[DV z];exact .inr A
   .exact .inl z
  .exact .inr (y q z)) ((lik n ks).map cD) (dF4 n ks [] f I) ⟨[],f,I,⟨by simp,λi t V w=>by simp at w,by simp,by simp,m,B,U,E⟩,λq b=>by obtain⟨t,a,rfl⟩:=lZ.mp b;exact⟨t,a,rfl⟩,λt a=> .inl (oI a),rfl⟩
 refine⟨L,K,c,λt a=>(v t a).resolve_left<|by simp,lh (δ:=dF4 n ks L K x) ⟨rfl,by decide,rfl⟩ ?_⟩;refine(iG<|jG (i:=1) (δ1:=[rS n ks,I,I,I,I]) (jO H (jV H).r (jE H).r) (show 1<5 by decide)).trans ?_;refine(iG (δ1:=[rS n ks,ii n,I,I,I])<|nS<|jU1 (Vr g)<|jV H).trans ?_;refine(iG (δ1:=[rS n ks,ii n,lsC [],I,I]) H).trans ?_;refine(iG (δ1:=dF4 n ks [] f I)<|jG (i:=3) s (show 3<5 by decide)).trans ?_;refine(iG<|(lT (δ1:=dF4 n ks [] f I)<|mv (o:=J)<|jU1 (A6 h.1 h.2.1.2 h.2.2.2)<|jV H).trans e).trans ?_;exact kf<|lF<|jC H<|jR (i:=2) H
end
def YL(ev:EvF)(i j:Int):evF 2 2 [] (mQ ev) [pI i,pI j]=Y ((.bl<|decide<|i=j,C),[ii i,ii j]):=by
 have e:iN gEq (iw 0) (iw 1) [ii i,ii j]=Y ((.bl<|decide<|i=j,C),[ii i,ii j]):=jO ((ME i j).trans<|by rw[wV]) (jV H).r (jV H).r;refine lh (δ:=[ii i,ii j]) ⟨rfl,by decide,rfl⟩<|(iG<|(wd (δ1:=[ii i,ii j]) H).trans H).trans<|kf<|lF ?_
 cases h:decide (i=j) with
 |false=>rw[h] at e;exact Vo e
 |true=>rw[h] at e;exact(OA e).trans H
def blZ{ev:EvF}(h: ∀i j,ev [pI i,pI j]=Y ((.bl<|decide<|i=j,C),[ii i,ii j])): ∀(a b:iO) (c:List D) (x y:Sl),ZB c+ZB a<=10000-> ∃d f,lj (qk [iF 0,iF 1]) kK (jA<|iQ ev [iw 0,iw 1]) (((a.map D.int).zip<|b.map D.int).map λp=> .tup [p.1,p.2]) c [x,y]=Y (c++(a.zip b).map λp=> .bl (decide<|p.1=p.2),[d,f]):=by
 intro a
 induction a with
 |nil=>intro b c x y _;exact⟨x,y,by simp[lj]⟩
 |cons i a l=>
  intro b c x y g
  cases b with
  |nil=>exact⟨x,y,by simp[lj]⟩
  |cons j b=>
   obtain⟨d,f,e⟩:=l b (c++[.bl<|decide<|i=j]) (ii i) (ii j) (by simp at g ⊢;lia);refine⟨d,f,?_⟩;have k:(ZB c)<sizeLine:=by rw[jH];simp at g;lia
   simp only[jY,qD,lj];rw[show qk [iF 0,iF 1] (.tup [.int i,.int j]) [x,y]=Y [ii i,ii j] from H];simp only[jK,De,kG,we];rw[jU2 (h i j) (jV H)<|jV H];simp only[jK];rw[iP k];simp only[jK];rw[e];simp
abbrev fZ4:F:=jI [] 2 (Ap (iw 0)<|iw 1) (qk [iF 0,iF 1]) kK<|jA<|iQ (jJ 5) [iw 0,iw 1]
def Wd(a b:iO)(g:(ZB a)=ZB b)(m:(ZB a)<=1000):jJ RD [enc a,enc b]=Y ((.bl<|decide<|a=b,C),[eN a,eN b]):=by
 obtain⟨n,q,e⟩:=blZ (ev:=jJ 5) (YL<|jJ 4) a b [] I I (by simp;lia)
 let δ:Dn:=[eN a,eN b]
 have k:fZ4 δ=Y ((.lst<|(a.zip b).map λp=> .bl (decide<|p.1=p.2),J),δ):=by unfold fZ4 jI;rw[show Ap (iw 0) (iw 1) δ=Y (((a.map D.int).zip<|b.map D.int).map λp=> .tup [p.1,p.2],δ) from H];simp only[jK,vp,JE,jl,pJ,kG,xa,sy,il];rw[e];rfl
 have f: ∀a b:List Int,ZB a=ZB b->(a.zip b).all (λp=>decide<|p.1=p.2)=decide (a=b):=by
  intro a
  induction a with
  |nil=>intro b h;cases b<;>simp_all
  |cons i a l=>
   intro b h
   cases b with
   |nil=>simp at h
   |cons j b=>rw[qD,vn,l b<|by simpa using h];simp[fS]
 have c:jh (g1 E5) [iA fZ4] δ=Y ((.bl<|decide<|a=b,C),δ):=
  jC (a:= .lst ((a.zip b).map λp=> .bl (decide<|p.1=p.2))) (by have:=D7 (λd=>match d with| .bl b=>b|_=>C)<|(a.zip b).map λp=> .bl (decide<|p.1=p.2);rw[km,fF] at this;refine Eq.trans this ?_;rw[<-f a b g];rfl) (jE k).r
 refine lh (δ:=δ) ⟨rfl,by decide,rfl⟩<|kf<|(wc (δ1:=δ) H).trans ?_;refine(iG<|(wd (δ1:=δ)<|by simp[δ,isT]).trans H).trans (kf<|lF<|(OA (δ1:=δ) (o:=C) ?_).trans c);simp[δ,g]
abbrev tR4:FT:=yO (pz<|fT<|jh (g1 Kb) [iA<|jI [5] 1 (jx<|ju 1) (iF 1) kK<|jA<|iQ (jJ RD) [iw 0,iw 1]])<|fT<|iN gIn (iw 5)<|iw 3
abbrev W2:FS:=iL (sIf tR4 (iL (kN<|fC<|.bl C) iZ) iZ)<|iL (jD 3<|iQ nV [iA<|iN gIx (iw 0)<|iA<|fC<|.int 0,iA<|AD (iw 2)<|iA<|iN lP (iw 4)<|iA<|fC<|.int 1]) iZ
section
variable {n:Nat}{a:jg}(h:HE n a)
include h
abbrev dR4(n:Nat)(a L K:jg)(o:Bool)(x y:Sl):Dn:=[rS n a,lsO (lik n a) o,tpC L,lsC K,x,y]
theorem RA(q:n<=4){L K V:jg}(s:Fine n L)(k: ∀t∈L,t∈lik n a){i:Nat}{t:iO}(m:L[i]?=Y t)(x:Sp n (L.take i) V)(w:K.Perm V)(o:Bool): ∃W c,Sp n (L.take<|i+1) W/\c.Perm W/\SrtC c/\W2 (dR4 n a L K o (ii i)<|eN t)=Y (.nx<|dR4 n a L c C (ii i)<|eN t):=by
 have p:=k t<|mG m;have v:=Q8 h;obtain⟨W,c,B,Q,E,e⟩:=Iv (d:= .tup ((L.take<|i+1).map cD)) (L:=L.take<|i+1) q (.inr H) λu g=>qV h<|k u<|xo g;refine⟨W,c,B,Q,E,?_⟩
 have j:=OM (caps:=[5]) (fi:=jx<|ju 1) (f:=iQ (jJ RD) [iw 0,iw 1]) (δ:=dR4 n a L K o (ii i)<|eN t) (δ1:=dR4 n a L K C (ii i)<|eN t) (l:=(lik n a).map cD) (args:=[cD t]) (λd=>decide<|t=unC d) H H H (λd hd=>by obtain⟨u,g,rfl⟩:=lZ.mp hd;rw[nq];have T:=(qV h p).len;have U:=(qV h g).len;exact⟨C,jU2 (Wd t u (by lia)<|by lia) (jV H)<|jV H⟩) (by simp;lia)
 have y:((lik n a).map cD).any (λd=>decide<|t=unC d)=J:=VC.mpr ⟨cD t,oI p,by rw[nq];simp⟩;rw[y] at j
 have A:tR4 (dR4 n a L K o (ii i)<|eN t)=Y (C,dR4 n a L K C (ii i)<|eN t):=by refine(DM<|AE (b:=J)<|lY (o:=C) j).trans (lY (o:=C)<|jO ((Sz t K).trans ?_) (jV H).r<|jR H);rw[lS λz=>s i t V m x<|w.mem_iff.mp z]
 refine(iG<|(wd A).trans H).trans ((iG<|jG (i:=3) (δ1:=dR4 n a L K C (ii i)<|eN t) (jU2 e (jE (b:=C)<|jO H (jV H).r (jE H).r)<|jE (b:=C) ?_) (show 3<6 by decide)).trans H);show Y ((D.tup<|PX.DP (L.map cD) I<|Y ((i+1:Nat):Int),C),_)=_;rw[OL,FL]
theorem Bt(k:n<=4):kZ [(rD' n a,Zy)]=Zv ((.bl Zx,Zy),[rS n a]):=by
 obtain⟨L,F,c,H,v⟩:=Vd h k;obtain⟨A,j,s1,T,G,C⟩:=Iv (d:= .lst []) (L:=[]) k (.inl Zz) (by simp);have I:=c.fine;have w:=c.sub
 let f:Sl->Dn:=λx=>[rS n a,lsO (lik n a) Zx,tpC L,x,Zw,Zw]
 obtain⟨_,⟨i,K,V,o,x,y,hd,g,s,z,rfl⟩,e⟩:=oB (tg:=qk [iF 4,iF 5]) (fb:=W2) (λl δ=> ∃i K V o x y,l=((L.map cD).zipIdx.map λq=>D.tup [.int (0+(q.2:Nat)),q.1]).drop i/\Sp n (L.take i) V/\K.Perm V/\SrtC K/\δ=dR4 n a L K o x y) (λd l δ a'=>by
  obtain⟨i,K,V,o,x,y,hd,g,s,z,p⟩:=a'
  subst p;have m:(((L.map cD).zipIdx.map λq=>D.tup [.int (0+(q.2:Nat)),q.1]).drop i)[0]?=Zv d:=by rw[<-hd];rfl
  simp only[dY,kD,CF,fJ,xq,nP,d6] at m;obtain⟨t,m,rfl⟩:=m;obtain⟨W,u,N,U,Y,e⟩:=RA h k I w m g s o;refine⟨dR4 n a L K o (ii i)<|eN t,dR4 n a L u Zy (ii i)<|eN t,?_,e,i+1,u,W,Zy,ii i,eN t,?_,N,U,Y,rfl⟩
  .show Zv [rS n a,lsO (lik n a) o,tpC L,lsC K,ii (0+(i:Int)),eN t]=_;rw[Int.zero_add]
  .rw[<-ta,<-hd];rfl) ((L.map cD).zipIdx.map λq=>D.tup [.int (0+(q.2:Nat)),q.1]) (f<|lsC j) ⟨0,j,A,Zx,Zw,Zw,rfl,s1,T,G,rfl⟩
 have O:(ZB L)<=i:=by have:=mV dB hd;simp at this;lia
 rw[xp O] at g;obtain⟨P,J,M,R⟩:=c.sp;have E:K=lik n a:=Wa h k w g s z λt Q=>(J.perm g).mem_iff.mp<|M.mem_iff.mp<|H t Q;subst E;refine lh (δ:=dR4 n a L (lik n a) o x y) ⟨rfl,by decide,rfl⟩ ?_;refine(iG<|jG (i:=1) (δ1:=[rS n a,Zw,Zw,Zw,Zw,Zw]) (jU1 (NO h)<|jV Zz) (show 1<6 by decide)).trans ?_;refine(iG<|jG (i:=2) (δ1:=[rS n a,lsO (lik n a) Zx,Zw,Zw,Zw,Zw]) (jU1 v<|jV Zz) (show 2<6 by decide)).trans ?_;have B:(D.tup<|L.map cD).dep<=50:=DO L;refine(no (δ:=f Zw) _ ((DM (δ1:=f Zw) Zz).trans<|Wz Zz B (jE<|jU1 v<|jV Zz).r (jV Zz).r)).trans ?_;refine(iG (δ1:=f<|lsC j)<|jG (i:=3) (δ1:=f Zw) (jU2 C (jE (b:=Zy)<|jO Zz (jV Zz).r (jE Zz).r)<|jE (b:=Zx) Zz) (show 3<6 by decide)).trans ?_;refine(iG<|(lT (δ1:=f<|lsC j) Zz).trans e).trans ?_;exact kf<|lF<|jO (EZ<|DO _) (jR Zz)<|jR Zz
end
def Vc(a:jg):jZ [(rD' 5 a,C)]=I/\mP [rD' 5 a]=Y "TooMany":=by
 have s1:jD 1 (iN gIx (iw 0)<|iA<|fC<|.int 0) [rS 5 a,I,I,I,I]=Y (.nx [rS 5 a,ii 5,I,I,I]):=rfl;have b:fT (iN (rQ .Gt) (iw 0)<|iA<|fC<|.int 4) [ii 5]=Y (J,[ii 5]):=VG (n:=5);constructor
 .refine Fc ?_;show iL _ _ [rS 5 a,I,I,I,I]=I;rw[iG s1,MA,Ib]
  have:iQ kR [iw 1] [rS 5 a,ii 5,I,I,I]=I:=AB (os:=[.slot 1]) (args:=[pI 5]) H H<|Fc (by show iL _ _ [ii 5]=I;rw[MA,wc b];rfl)
  rw[this];rfl
 .show mO [rS 5 a,I,I,I,I]=Y "TooMany";unfold mO;rw[Po s1 H];show lE [ii 5]=Y "TooMany";unfold lE;rw[VO b H];rfl
def XG:Bo 5 1 (kQ CT AQ) (.oth (.exc 121) [] [])=Y (.str "many"):=by kernel_rfl
def XY:(λz=>AQ.lookup z) ("TooMany":ax)=Y 121:=by kernel_rfl
abbrev W9:F:=iN gIx (iA<|lq [iQ jf [iw 2,iA<|fC<|.int 5],fC<|.int 3,fC<|.int 4])<|iA<|iQ jf [iw 2,iA<|fC<|.int 3]
abbrev Vk:F:=iQ kO [iw 2,iA W9]
abbrev SF:FS:=iL (jD 2<|iQ mx [iw 0,iw 1])<|iL (sIf (pz<|fT<|iQ kZ [iA Vk]) (iL (kN<|fC<|.bl C) iZ) iZ)<|iL (jD 3<|iQ kO [iw 2,iA<|fC<|.int 5])<|iL (sIf (fT<|iN gNe (iA<|Kf [3] (iQ jZ [iw 0]) (D9 mP [iw 0]) 5 1 (kQ CT AQ) λz=>AQ.lookup z)<|iA<|fC<|.str "many") (iL (kN<|fC<|.bl C) iZ) iZ) iZ
def Oo(f:iO)(k:Nat)(p c:Sl): ∃q s,SF [Y (.lst<|f.map .int,C),ii k,p,c]=Y (.nx [Y (.lst<|f.map .int,C),ii k,q,s]):=by
 let g:Sl:=Y (.lst<|f.map .int,C)
 obtain⟨a,b,t⟩:=L8 f k;obtain⟨v,a1,O,Q,u⟩:=Ei a b 5 (by lia) (by lia);obtain⟨w,e,T,G,y⟩:=Ei a1 b 3 (by lia) (by lia);obtain⟨n,j⟩: ∃n:Nat,(if w=0 then v else if w=1 then 3 else 4)=n:=⟨(if w=0 then v else if w=1 then 3 else 4).toNat,by split<;>(try split)<;>lia⟩
 have M:n<=4:=by split at j<;>(try split at j)<;>lia
 obtain⟨d,l,E,A⟩:=zU e b n (by lia);obtain⟨h,ds,N,B⟩:=zU d b 5 (by lia);obtain⟨f1,f2⟩:=Vc ds
 let δ:Int->Sl->Dn:=λa x=>[g,ii k,stt a b,x]
 refine⟨stt h b,rS 5 ds,?_⟩;refine(iG<|jG (i:=2) (δ1:=[g,ii k,p,c]) (jU2 t (jV H)<|jV H) (show 2<4 by decide)).trans ?_
 have U:W9 (δ a c)=Y ((.int n,C),δ e c):=by refine lI (o1:= .val (.lst [.int v,.int 3,.int 4],J)) (o2:= .val (.int w,C)) (δ1:=δ a1 c) (jo<|IU (os:=[.val (.int v,C),.val (.int 3,C),.val (.int 4,C)]) (ds:=[.int v,.int 3,.int 4]) (Hh (jo<|u _ g (ii k) [c] (.val (.int 5,C)) rfl rfl) H) H<|qL (by show 3<=10000;decide)) (jo<|y _ g (ii k) [c] (.val (.int 3,C)) rfl rfl) H H (z:=(.int n,C)) ?_;rw[<-j];rcases(show w=0\/w=1\/w=2 by lia) with rfl|rfl|rfl<;>rfl
 have m:Vk (δ a c)=Y ((rD' n l,C),δ d c):=kX (δ1:=δ e c) (os:=[.slot 2,.val (.int n,C)]) (args:=[pS e b,pI n]) (tw H<|jo U) H (nd1 2) A;have L:pz (fT<|iQ kZ [iA Vk]) (δ a c)=Y (C,δ d c):=AE (b:=J)<|lY (o:=C)<|kX (δ1:=δ d c) (os:=[.val (rD' n l,C)]) (args:=[(rD' n l,C)]) (vP<|jo m) H pJ<|Bt E M;refine(iG<|(wd L).trans H).trans ?_;refine(iG<|jG (i:=3) (δ1:=δ h c) (kX (δ1:=δ d c) (os:=[.slot 2,.val (.int 5,C)]) (args:=[pS d b,pI (5:Nat)]) H H (nd1 2) B) (show 3<4 by decide)).trans ?_;refine(no (δ:=δ h<|rS 5 ds) _ (Wz (a:= .str "many") H (by simp[D.dep]) (jE<|RK (args:=[(rD' 5 ds,C)]) H H (AB (os:=[.slot 0]) (args:=[(rD' 5 ds,C)]) H H f1) f2 XY XG).r (jE H).r)).trans H
abbrev δ43(a:Sl):Dn:=[a,I,I,I]
def XZ{n:Nat}(h:n<=5):HE n []:=⟨h,⟨pJ,by simp⟩,cH,by simp⟩
def c43(a:Sl):fT (iN gNe (iA<|iQ jZ [iA<|mJ [fC<|.int 0,mJ []]])<|iA<|mJ []) (δ43 a)=Y (C,δ43 a):=by kernel_rfl
def r43(a:Sl){n:Nat}(h:n<=4):pz (fT<|iQ kZ [iA<|mJ [fC<|.int n,mJ []]]) (δ43 a)=Y (C,δ43 a):=
 AE (b:=J) (lY (o:=C)<|jU1 (Bt (XZ<|by lia) h)<|jE (b:=C) H)
def VF(a:iO)(m:(ZB a)<=63): ∃o g,uP [(.lst<|a.map .int,C)]=Y ((.bl J,o),g):=by
 let b:Sl:=Y (.lst<|a.map .int,C)
 let N:Nat:=if 1<min (ZB a) 4 then min (ZB a) 4 else 1
 obtain⟨_,⟨i,c,f,_,rfl⟩,e⟩:=oB (tg:=iF 1) (fb:=SF) (λds δ=> ∃i c f,(∀d∈ds,∃k:Nat,d= .int k)/\δ=[b,i,c,f]) (λd ds δ U=>by
  obtain⟨i,c,f,h1,h⟩:=U
  subst h;obtain⟨k,rfl⟩:=h1 d jT;obtain⟨g2,g3,e⟩:=Oo a k c f
  exact⟨_,_,rfl,e,_,_,_,λx l=>h1 x<|jX _ l,rfl⟩) (jv 0 N) (δ43 b) ⟨I,I,I,λd hd=>by obtain⟨k,_,rfl⟩:=lZ.mp hd;exact⟨k,by simp⟩,rfl⟩
 refine⟨C,_,lh (δ:=[b,i,c,f]) ⟨rfl,by decide,rfl⟩ ?_⟩;refine(no (δ:=δ43 b) _ ((DM<|c43 b).trans<|(DM<|r43 b (n:=1)<|by decide).trans<|r43 b (n:=2)<|by decide)).trans ?_;refine(iG<|(lT (ds:=jv 0 N) (δ1:=δ43 b) ?_).trans e).trans (kf H);refine wD (o:= .val (.int N,C)) (jo ?_) H (by simp only[N];split<;>lia)
 have j:(N:Int)=if(if(4:Int)<(ZB a) then 4 else((ZB a):Int))>1 then(if(4:Int)<(ZB a) then 4 else((ZB a):Int)) else 1:=by simp only[N];split<;>split<;>split<;>lia
 rw[j];simp[b,δ43]
end PV
def K43.main(b:iO)(c:(ZB b)<=63): ∃o a,PV.uP [(.lst<|b.map .int,C)]=Y ((.bl J,o),a):=PV.VF b c
structure PySem.W.Fast:Prop where(tw3276534070414836655 tw8600706997609389915 tw14306336730709178982 tw14383218360691451254 tw12779739130477652030 tw71279204783207634 tw15693827455630582855 tw14440763238423674495 tw3332749646284894870 tw3305091057357704833 tw8723829330595979904 tw6506287780724921265 tw2408973512222215805 tw18295472681083313020 tw16878227263579086586 tw4440919639611004513 tw12636135095026719437 tw899359577832777711 tw8807438472643099279 tw12643283846209588820 tw1288569730405381764 tw2902284791762592374 tw13780256858983678871 tw7759201224588636291 tw933305242395304307 tw15283981227325306064 tw15408526408230782374 tw4138221107631493290 tw11459794760995611009 tw16553319362823341565 tw13834523995876158377 tw4007640491420416344 tw2234488954983442003 tw6266207939503944382 tw5544052919468231628 tw6647595085961503576 tw3774934768888021042 tw1388024205214261215 tw539352225649457528 tw11688955124146704155 tw14026456772968269076 tw4167946500336774578 tw13951491445096884250 tw463323705680047090 tw10561173914123032699 tw8404900844025944004 tw6877800622879734237 tw3071801198919245829 tw15686672771583425993 tw823966723692992677 tw6611887986699988594 tw12980733253233504809 tw4871094999544310231 tw1969343308402532647 tw8524720958091394063 tw17878138818708460398 tw2043691154785561542 tw4342892812996622404 tw16244892577733122187 tw13730391262560524978 tw3577453234763382235 tw7201917365522753720 tw1242524440158341790 tw11815641576569711454 tw5008559181876542680 tw937490731406244371 tw4640064880992081602 tw4576363685164718168 tw13538386038879439703 tw11807424821727751127 tw12388450883259389106 tw1084549785676754444 tw17972912671920613912 tw11934914320663058945 tw5830257324017260943 tw13297076133205390246 tw15009697905676876428 tw7460236080453292932 tw17867608794432156321 tw15573690881024977872 tw13430234620851405173 tw17556198013645155544 tw11571281143185543990 tw10622964183635429548 tw17908124139006628444 tw11396824108306483431 tw16862966675399065190 tw1821652942471665816 tw4914843953415693119 tw14409261968294558174 tw3787786200759848523 tw3739514272236565639 tw10398873309470656142 tw10543220313434349628 tw1622629299595051692 tw6107769016828325928 tw5020037917499000247 tw8222727043085284 tw6338693586325888500 tw10921982749470915997 tw16302508197080130931 tw4471191835653326533 tw819091782655099652 tw13567063499990945809 tw16277218539436392046 tw14629208294305810161 tw7575908117906381025 tw7465055341419058399 tw2354860447452499999 tw2069562652606411464 tw1739806897479954712 tw17339413577658933515 tw16230402552660156108 tw15507258420612655038 tw13104796216953080280 tw7752238176207246950 tw4773475157990751225 tw919499216147400654 tw1037655212788528364 tw14500225497420084952 tw12716184950619762621 tw6807610118066690378 tw8758515713418352218 tw4810641336839102230 tw16593019883673834550 tw12150328490558333483 tw15472871166644366630 tw15134953979556847990 tw14643731947158065064 tw10678478837635212646 tw9730128107204364936 tw5885191162784223419 tw16279811365694706037 tw18130042315201954242 tw11947067087601507871 tw11700533175975987583 tw9785972474544747888 tw9912116209929142840 tw15431356278943032946 tw4886170487521846915 tw1335189351730381686 tw6092598599775294408 tw5172450646800811058 tw2670742954855471671 tw12954943655292771591 tw5580948730765875520 tw10302138729785179333 tw995206245982634468 tw2678795103140384038 tw655526559276012978 tw44123117939592751 tw7890106424716984597 tw18085485698847335709 tw1109626581912899506 tw2933175022599561244 tw13586109593069096964 tw11023177272282498251 tw18294392675140056875 tw17238264653929160390 tw2338727335589515987 tw101680089232046755 tw5334486806563498219 tw15934867438863393661 tw15441902676563298183 tw11675969737358463118 tw7551968769782801125 tw14039659842570373085 tw11693189772844173334 tw14682770283777694037 tw3484245334253258532 tw18210324183674465140 tw7758438750568654563 tw1100108213770765375 tw13812817202082253480 tw9310418932563211044 tw17077050789380389789 tw13338823489304206819 tw10581949845634430379 tw5710895147632568509 tw3232897028816933515 tw657365277868572948 tw14415188279484098382 tw1478839859230641992 tw6495975463408628791 tw3608323296805975832 tw7565699308187189166 tw4817056109935403160 tw205940858628650202 tw15800076317535306040 tw8752972431617880881 tw7703691190137936359 tw6560789414594324291 tw1000373286127873888 tw5046812470145428683 tw14284655587645093111 tw13158950661617091440 tw8976522026019646005 tw8522320142169768688 tw836838038586181577 tw82195253624995846 tw7730892311515017952 tw18260585708328914863 tw17634009666283438528 tw1321987244623649326 tw12115194889033350387 tw271176762141711341 tw13618510846233712336 tw1639382175997678465 tw11041420890731377650 tw419026444959079963 tw858858214370912449 tw17679333532547962203 tw13267218348798020945 tw9580466819914082141 tw16748927354533113659 tw7157887658461542713 tw11765107495925338609 tw8968188849377270677 tw6723179880678682559 tw4664459097452154631 tw4618851586609012661 tw3562932675293607152 tw16846182349071350844 tw14414620970360267943 tw13549809140948443469 tw12739195623680225548 tw11181979340488259990 tw10907474626070122793 tw10017783006919499437:True)
open PySem PySem.W PyProof.Rows PX
set_option maxRecDepth 100000 in
set_option maxHeartbeats 0 in
theorem PySem.Challenge.cw_twinriddles_k43_few_that_span_holds : PySem.Challenge.rw_twinriddles_k43_few_that_span.Holds := by
  w_on; o_law; k_head; (case hw => w_witness2)
  k_fill
  refine walkT (TB:=K43.TB43) (l:=Challenge.rw_twinriddles_k43_few_that_span) (LV:=12) (x:="_law_script") ⟨rfl,by decide,by decide,rfl⟩ rfl rfl (fun w h Y=>km_in_of Y) (fun w h Y=>aC (km_tabs_of Y _ List.mem_cons_self) aN) (fun w=>aC ?K aN) (by decide) ?F K43.main
  case K=>show List.lookup 317 _ = none; kernel_rfl
  case F =>
   intro w mg fa h KX G hmg
   refine' K43.all_mk hmg (txK KX G ?_ ?_ ?_ ?_ ?_ ?_ ?_ ?_ ?_ ?_ ?_ ?_ ?_ ?_ ?_ ?_) ?_ ?_ ?_ ?_ ?_ ?_ ?_ ?_ ?_ ?_ ?_ ?_ ?_ ?_ ?_ ?_ ?_ ?_ ?_ ?_ ?_ ?_ ?_ ?_ ?_ ?_ ?_ (fzT KX G ?_ ?_ ?_ ?_ ?_) (mg_none_of KX G ?_) ⟨(aC (mg_of KX G ?_) (aC (mg_of KX G ?_) (aC (mg_of KX G ?_) (aC (mg_of KX G ?_) (aC (mg_of KX G ?_) (aC (mg_of KX G ?_) (aC (mg_of KX G ?_) (aC (mg_of KX G ?_) (aC (mg_of KX G ?_) (aC (mg_of KX G ?_) aN)))))))))),(aC (mg_of KX G ?_) aN),(aC (aC ?_ (aC ?_ (aC ?_ (aC ?_ (aC ?_ (aC ?_ (aC ?_ (aC ?_ (aC ?_ (aC ?_ aN)))))))))) aN),(aC ?_ aN),(aC (show ClK _ 121 24 from ⟨⟨?_,?_,?_,?_,?_,?_,?_,?_⟩,(aC ?_ (aC ?_ (aC ?_ (aC ?_ (aC ?_ (aC ?_ aN)))))),?_⟩) aN),(aC (show excIn _ 121 _ _ = true from ?_) aN),mg_none_of KX G ?_,mg_none_of KX G ?_,mg_of KX G ?_⟩ (mgI KX G ?_)<;>try first|refine' fz KX G ?_ ?_ ?_ ?_<;>try k_is|k_is|kernel_rfl
