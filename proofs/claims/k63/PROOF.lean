import PyProof.Rows.All
import Wide.All
import OpenK.AllK
import Wide.FinOn
import PyProof.EqAt
import PyProof.EqKinds
import PyProof.TupleCall
import Lean
import PySem.Challenge.RW_twinriddles_k63_papers_told
set_option Elab.async false
set_option linter.all false
set_option maxRecDepth 100000
set_option maxHeartbeats 8000000
set_option compiler.extract_closed false
set_option backward.eqns.nonrecursive false
noncomputable section
open List renaming length->Ls
namespace RfL
theorem r{a:α}:a=a:=rfl
end RfL
open RfL renaming r->H,r->K3
open Option renaming some->I,some->I8,none->C,none->J4
open Bool renaming true->Y,true->KE,false->J,false->K2
open Array renaming length_toList->jc,getElem?_toList->kE,getElem?_eq_getElem->pW,getElem?_eq_some_iff->MX,getD_eq_getD_getElem?->sN,getElem?_setIfInBounds->AM,getElem?_eq_none->AL,getElem?_eq_none_iff->Sr,getElem?_replicate->Jh,toList_eq_nil_iff->SH,toArray_toList->IS,toList_push->dZ,replicate->ez,getD->eQ,size_zip->mo,size_map->ms,toList->n9,ext->u3
open Bool renaming false_ne_true->jD,false_eq_true->jA,and_eq_true->lL,or_eq_true->vF,not_true->vC,eq_iff_iff->DK,not_eq_true'->ec,or_false->eY,eq_false_iff->i0,noConfusion->ka,decide_and->mm,true_and->n7
open False renaming elim->bX
open ForInStep renaming yield->bq
open Function renaming comp_def->rR,comp->bI
open Int renaming toNat_natCast->oB,neg_neg->sL,mul_one->ye,emod_lt_of_pos->DU,emod_nonneg->DT,fdiv_eq_ediv_of_nonneg->JE,mul_neg->ut,le_refl->u0
open LawfulBEq renaming eq_of_beq->qa
open LawfulMonad renaming bind_assoc->uv,pure_bind->sn
open List renaming length_map->iJ,map_cons->iR,getElem?_eq_getElem->gY,mem_map->lj,size_toArray->hG,mem_cons->jF,mem_cons_self->iX,getElem?_map->iW,mem_cons_of_mem->jd,getElem?_eq_some_iff->qc,mem_append->nO,map_map->jI,length_append->ky,not_mem_nil->kD,all_eq_true->lO,length_cons->kY,pairwise_map->lZ,nodup_nil->lC,map_append->lB,append_assoc->mh,mem_of_getElem?->mM,mem_singleton->zf,pairwise_append->sJ,pairwise_cons->AD,getElem?_append_right->nU,lookup_cons->nS,mem_append_right->oD,mem_range->xm,length_take->qb,foldl_cons->pZ,getElem?_of_mem->pY,mem_filter->zG,getElem?_set_ne->sh,getElem?_append_left->sd,length_singleton->rX,length_filter_le->rN,filterMap_cons->uz,getElem?_set_self->uy,length_set->ux,map_nil->uw,replicate_succ->qk,exists_cons_of_length_pos->qh,mem_of_mem_take->qg,length_pos_iff->JH,zip_cons_cons->qf,map_congr_left->qe,map_id->qd,append_nil->tu,nodup_cons->Bj,all_map->tf,getD_eq_getElem?_getD->sY,take_append_drop->sV,length_nil->sM,take_sublist->vS,flatten_cons->vQ,getElem?_zip_eq_some->Ck,any_map->vM,drop_eq_getElem_cons->vL,pairwise_reverse->Et,length_eq_zero_iff->M1,find?_cons->vB,mem_map_of_mem->vA,drop_eq_nil_of_le->yb,eq_nil_of_length_eq_zero->xZ,take_of_length_le->xY,isEmpty_nil->xP,getElem_mem->xM,map_id'->xJ,mem_append_left->Bi,getElem?_set->A9,ext_getElem?->A8,reverse_perm->AW,perm_middle->MW,extract_eq_take_drop->AV,mem_of_mem_drop->AU,length_eraseIdx->AJ,map_take->AF,filter_map->AE,of_mem_zip->Ep,length_dropLast->Eh,ext_getElem->Ee,getElem?_zipIdx->Ed,eq_nil_or_concat->D5,concat_eq_append->D4,pairwise_iff_getElem->MZ,getElem_of_mem->D3,drop_sublist->D2,take_succ->D1,mem_erase_of_ne->DS,dropLast_concat_getLast->DL,getElem?_take_of_lt->JD,eraseIdxIfInBounds_toArray->Jx,getElem?_range->Jw,pairwise_singleton->Jl,perm_append_comm->OX,pairwise_lt_range->SJ,filterMap_append->Jj,perm_append_singleton->Ji,dropLast_eq_take->IQ,findIdx?_eq_some_iff_getElem->SF,findIdx?_eq_none_iff->SD,perm_cons_erase->IM,dropLast_subset->IL,getElem?_concat_length->IK,filter_eq_nil_iff->IJ,replicate->ac,range->ai,range'->cP,any_cons->cS,mem_flatMap->cV,length_drop->cW,getElem_map->cY,getElem?_replicate->cZ,range_succ_eq_map->c5,Nodup->c6,nil_append->dd,forIn_cons->de,all_cons->dQ,mem_filterMap->dS,getElem?_drop->dX,foldl->dY,map->d8,zipIdx_cons->ew,length->ey,take_take->eR,getElem?_cons_succ->e7,eraseIdx_cons_succ->e8,getElem?_eq_none->fu,zip_nil_right->gV,filter_append->g6,filterMap_map->g7,nodup_append->io,length_range->iH,all_eq_false->iV,range'_succ->jp,mem_reverse->j0,map_fst_zip->j1,getLast_mem->j2,getElem_inj->j3,cons_append->j6,append_inj'->j7,any_eq_true->j9,set_append->me,length_zip->mi,all_append->mj,forIn_nil->m8
open List.Pairwise renaming nil->aU,sublist->r0,imp_of_mem->r9,and->sa
open List.Perm renaming refl->sQ,eq_of_pairwise->Jk,append_left->Jf,swap->fH,cons->fI,trans->Fa
open List.cons renaming inj->pX,injEq->cR
open Nat renaming le_refl->iD,ne_of_lt->hX,zero_le->kx,le_trans->lh,lt_of_lt_of_le->mO,ne_of_gt->mN,lt_irrefl->oE,lt_succ_of_lt->rT,lt_succ_self->uu,pow_succ->uo,mul_assoc->um,mul_add->sP,mul_comm->sO,le_of_lt->vV,le_succ->vP,zero_add->vI,add_assoc->vH,mul_one->vE,mod_lt->vD,min_eq_left->xX,pow_le_pow_right->xR,lt_trans->Bb,mul_left_comm->AN,lt_asymm->Eg,add_sub_cancel_left->D6,one_mul->DW,mul_zero->DV,add_mul->eD,sub_add_cancel->ij,add_sub_cancel->im,le_of_not_lt->l8,le_add_right->l9,two_pow_pos->mL,mul_add_mod->m4,div_add_mod->m6,le_of_eq->re,add_zero->ro,add_comm->rs,add_mod->ul,not_lt->wE
open Ne renaming symm->pJ
open Option renaming bind_some->iI,isSome_iff_exists->JI,isSome_map->DO,map->eC,map_eq_some_iff->eW,bind->fe,isSome_some->fE,getD_none->gl,map_some->ib
open Option.some renaming inj->jn
open Or renaming inl->bj,inr->bv
open Ordering renaming swap->eA
open Prod.mk renaming inj->qj
open PyProof.Rows renaming SortSt->pV,listUpdate_at->sU,slot_tuple_getitem->zg,get?_update_seq->vG,callWith_type1->yc,seqEpoch_at->xS,boot_range->Bh,listItems_at->DZ,entry_tuple_getitem->JC,subscriptTail_builtinR->JB,seqObj->aZ,envOfC->cG,IntsAre->dt,AllBare->dv,Keyed->dG,arrOf->ev,failedOf->eO,SortKind->lv,IsTup->lw,args_tuple_getitem->n4,wpAny_notIn_heap->rc,lt_int->tp,le_int->ts,gt_int->tv,ge_int->tz,entry_list_sort->t7,callWith_builtin1->t8,slot_list_sort->wn,slicePart_none->wr,oneType'->wv,keyLt'->ww,tupleItemsOf_->A1,subscriptTail->A2,reverseSlice'->Bn,tuples'->D0,plain_sorted->Ec,entry_sorted->Ev,call_abs_int->EQ,kind_sorted->I0
open PyProof.Rows.F renaming plain_set_update_loop->DP,entry_set_update_loop->IZ
open PyProof.Rows.IsTup renaming new->Be
open PySem renaming Shared->fY,Program->gM,Around->gJ,World->gB,SetTable->lz,Value->gu,Comprehension->mJ,FuncData->mZ,Heap->gH,Addr->fV,wpAny_bind->fX,wpAny_pure->gn,sizeLine_eq->jB,wpAny_holding->lM,wpAny_newObj_type->lK,wpAny_mono->ni,wpAny_field->ng,wpAny_call_entry->nc,codeAny_builtin->pH,wpAny_truthy_bool->sf,codeAny_mono->se,wpAny_callSpecial?_slot->rZ,wpAny_rule->rV,wpAny_setField_rec->rO,wpAny_attempt->uq,mem_of_lookup->qm,wpAny_typeOf->ql,plainId_quiet->qi,wpAny_standAt->tx,wpAny_passesOwn->tw,wpAny_askSetting->tq,wpAny_of_eq->tj,wpAny_setField->sZ,wpAny_load->vU,wpAny_Call_Name_kw->vT,call_meets->vO,codeAny_of_tree->vN,wpAny_isInstance->vJ,wpAny_pyIter_list->yd,wpAny_seqItems->ya,wpAny_setState_of->xQ,tupleKind_room_in1->xN,intKind_is->xK,concat_meets->Bf,wpAny_alloc->Bc,wpAny_runValue->A7,wpAny_newTuple->A4,wpAny_letGo->A0,isSubtype_stop->AY,wpAny_onRaise->AX,wpAny_forIn_list->AR,richCompare_meets_room->AQ,wpAny_newList->AO,isSubtype_type->AK,wpAny_updateSeq->AH,wpAny_typeNameOfWhole_keyiter->AG,wpAny_execs_nil->Es,wpAny_pyIter_tuple->Er,noFill_tuple_add->Eo,seq_tuple_add->En,seqIndex_of->Ej,seqIndex_neg->Ei,wpAny_comprehension_free->Ef,wpAny_handled->Ea,wpAny_throw->D9,codeAny_call_builtin->D8,wpAny_collect_seq->DX,wpAny_pyIter_slot->DR,wpAny_setEntries_of->DQ,wpAny_dictEntries->DN,wpAny_dictEpoch->DM,weight_type_call_type->Jo,wpAny_updateSeq_pair->Jm,builtinLookup_eq_fast->Jg,codeAny_extend_loopS->I9,wpAny_isOneOf_keyiter->IT,starEach->aa,wpAny->af,model->ah,compareOp->ap,mainGlobals->aq,foldedSetIterable->au,assignEach->av,bootBuiltins->aE,backTo->aJ,eval->aK,Str->aO,binaryOp->aP,Builtin->aQ,cLine->bc,cellsFrom->bi,holding->bt,sysModules->bx,assign->bz,Pos->bB,wpAny_loadPart'->bD,keywordEach->bG,clausesOf->b6,behindInMarks->b7,attributeBase->b8,pyNext->ca,Stmt->cb,standAt->cc,CmpOp->cd,IsPair->cf,swapsWithSole->ci,swappedStores->cj,intKind->cn,rawInt->cu,firstArgMember->cv,backToKw->cw,swapsWith->cE,codeAny->cJ,Keyword->cM,sliceBounds->cN,NameKind->cO,DictEntry->cQ,pyIter->cU,Sem->da,IsPart->db,tupleKind->df,checkBuiltinCall->dg,IsEnum->dq,letOwnedTupleGo->dz,IsZip->dD,lastMarks->d0,getItem->d1,callerA->d5,PassesOwn->d6,Obj->en,setItem->eF,collect->eJ,GenState->eK,BindsTo->eM,pickOrder->eS,Env->eT,valueAt->e9,setsByText->fj,newFunctionEnv->fk,argsOk->fm,Meets->fr,comprehension->fF,call->fG,updateSeq->fL,numAt->fM,list_append->fN,field->f3,compStart->f4,bindL->f5,bindC->f6,atKey->f8,Model->gi,IsEnumOut->gj,release->g8,relabel->g9,newList->hD,newExc->hF,Result->h8,ItemsOf->ia,unsupported->kl,slotArgs->kv,setField->kA,newTuple->kS,entryFor->k0,compTurn->k5,ZipApart->k7,wpAny_call->m9,wpAny_Name->na,typeOf->nb,typeLookup->nm,typeIs_int->nn,setAdd->nw,builtinsNs->n1,Tok->n3,wpAny_storeSet_of->on,wpAny_sequenceKey->oC,wpAny_pyIter_enum->o8,slot_list_getitem->o9,hashInt->pc,wpAny_pyIter_zip->pw,seqIndex?->px,noteFrame->pC,wpAny_stack_any->ss,wpAny_specialOf->sB,typeLookup_type->sK,theWindowsPlace->s8,size_of_entries->ta,pushCells_keeps->tc,Fin->te,wpAny_notIn_of->u5,wpAny_fieldsOf->u9,wants->vl,table->vn,raiseNew->vr,intItems->vu,fitsIndex_both->vv,entryFor_alias->v6,compPost->v8,cellOf->v9,bindArgs->wf,Params->wl,wpAny_notedAt->wP,wpAny_in_heap->wS,sub_enumerate->wT,rangeSize_one->w6,intBits_le_64->w9,evalPart_none->xz,checkTypeCall->x0,call_list_seq->y2,unaryOp->B0,spliced->B1,setAddHashed->B2,name_of_addr->B4,call_range_2->Ch,callType_new->Db,IsRange->Do,wpAny_in_of->Fk,subscripted->FM,interactive->F2,Moved->IR,IsRangeIter->IX
open PySem.Around renaming under_plainId->rQ,under_plain->fD
open PySem.AutoSeq1 renaming sub_tuple_tuple->AS
open PySem.Builtin renaming bitAnd->bQ
open PySem.Builtin.Frozenset renaming addrOf->dr,updateFrom->k8,slot0->lf,sizeOf->li,oneOther->lm,newClass->ln
open PySem.Builtin.List renaming listExtendWith->bH,listSameRef->bR,listTooLong->cz,listLengthHint->dO,listFitsIndex->th
open PySem.Builtin.Range renaming rangeSize->d7,small->q9
open PySem.Builtin.Slice renaming slicePlaces->bK,sliceAdjust->cy,sliceApplied->dN,slicePartIndex->p9,sliceFields->qs
open PySem.Builtin.SmallTypes renaming nextOf->aL,fitsIndex->ba,ownedTupleHandOut->bb,ownedTupleIsFree->be
open PySem.Builtin.Tuple renaming tupleExact->aY,tupleCompareSizes->bn,tupleItemsOf->dI,tupleIsExact->dM,tupleHashOf->p8
open PySem.Calls renaming Name_function_global->JF,callWith_builtin->JA
open PySem.Data renaming cell->eu,fields->fy,seq->mA
open PySem.F renaming called_set->JG,slot_dict_keyiterator_next->zH,slot_enumerate_next->AZ,plain_list_iadd->AI,slot_tuple_add->Em,entry_tuple_add->El,args_tuple_add_2->Ek,plainAttrs_list->Eb,called_tuple->M0,entry_list_append->Jz,args_list_append_2->Jy,slot_list_pop->Jv,type_list_pop->Ju,entry_object_init->Jt,args_object_init_2->Js,slot_tuple_iterator_next->Jr,entry_enumerate_next->Jq,args_enumerate_next_1->Jp,entry_enumerate_new->Jn,slot_set_iter->Je,entry_proto_collect->Jd,plain_proto_collect->Jc,entry_list_iadd->Jb,plain_extend_loop->Ja,plain_set_new->IY,slot_dict_iter->IW,entry_dict_keyiterator_next->IV,args_dict_keyiterator_next_1->IU
open PySem.Heap renaming get?_push_of_some->iF,lt_size->iM,get?_push_size->iQ,size_push->oA,get?_update_self->rY,get?_update_other->vR,get?_update_ne->DY,SameBut->aH,ExtBut->dk
open PySem.Heap.SameBut renaming update->pG,refl->Ba
open PySem.NameKind renaming free->aC,cell->cr
open PySem.Obj renaming data_mapFields->rP,isFreed_of_fields->A6,cls_mapFields->A5,mapSeq->ay,mapFields->e6,putSet->h9
open PySem.Paired renaming length->tD
open PySem.SeqAt.EqAt renaming str_int->eU,int_str->eV,same->fc,str_str->y3,str_none->y4,str_bool->y6,none_str->y8,none_int->y9,none_bool->zn,int_none->zx,int_int->z7,int_bool->z8,bool_str->z9,bool_none->At,bool_int->AC,bool_bool->AT
open PySem.SetTable renaming below->aj,insertAt->ao,runEnd->ax,bits->aF,turns->bN,leap->cp,Probe->c4,sizeAbove->dh,grown->el,layClean->fq,tooFull->fx,fresh->ga,slot->hL,laid->hZ,fits->h6,fill->h7,put->i9,relaid->Gc,orStandIn->Go,has->Ix,freeSlot->IN,advance->IP
open PySem.SetTable.layClean renaming free->bw
open PySem.SetTable.probe renaming go->c3
open PySem.Str renaming ofString->bh
open PySem.Value renaming none->am,type->bm,ref->bJ,notImplemented->cx,bool->c0,int->ei,str->hH,isStrOf->mu,isInt->pp
open PySem.W renaming Frag->gy,mg_none_of->mK,kia_one->ur,cellsFrom_some->Bg,nsIn->aM,fnOf->bV,keepIn->ce,kitOne->c7,codeIn->c8,methodObj->dH,OpenLaw->eh,mg_of->i3,WalkO->i8
open StateT renaming run_pure->D7
open Sum renaming inr->ee,inl->ef
open True renaming intro->bA
open PySem PySem.Spec PyProof.Rows
section
abbrev gX:=gu->fY->Prop
abbrev gU:=List<|fV×en
abbrev iz:=List<|List Int
abbrev gh:=List Int
abbrev il:=List gu
abbrev lE:=aO->Option gu
abbrev ja:=List Nat
abbrev uj:=Array<|Int×gu
abbrev lN:=Array gu
abbrev hU:=List aO
abbrev jg:=List Expr
abbrev FU:=Bool->fY->Prop
abbrev Cn:=Option gu->fY->Prop
abbrev wU:=gu->gu->da gu
abbrev uk:=Array<|Option Nat
abbrev wR:=Array<|Option gu
abbrev lA:=List<|aO×fV
abbrev nQ:=List mJ
abbrev zF:=Array dG
abbrev iO:=Nat->Prop
abbrev jz:=List fV
abbrev jt:=Scope
abbrev gm:=Expr
end
section
open PySem.SeqAt
theorem gr:type_of% @if_pos:=@if_pos
theorem gD:type_of% @if_neg:=@if_neg
theorem jb:type_of% @if_true:=@if_true
theorem jh:type_of% @if_false:=@if_false
theorem kh:type_of% @decide_eq_true:=@decide_eq_true
def kF:=@decide_eq_false
theorem lF:type_of% @or_false:=@or_false
def nh:=@congrArg
theorem nR:type_of% @not_or:=@not_or
theorem rW:type_of% @bne_self_eq_false:=@bne_self_eq_false
theorem zh:type_of% @beq_eq_false_iff_ne:=@beq_eq_false_iff_ne
theorem vK:type_of% @decide_eq_true_eq:=@decide_eq_true_eq
end
namespace TT
noncomputable def adv(mask:Nat)(p:c4):SetTable.Probe:=
 if p.more>0 then {p with j:=p.j+1,more:=p.more-1} else
 {p with j:=(cp mask p.i p.perturb).1,more:=ax mask (cp mask p.i p.perturb).1-(cp mask p.i p.perturb).1,i:=(cp mask p.i p.perturb).1,perturb:=(cp mask p.i p.perturb).2}
noncomputable def stt(mask:Nat)(h:Int):SetTable.Probe:={j:=aF h%(mask+1),more:=ax mask (aF h%(mask+1))-aF h%(mask+1),i:=aF h%(mask+1),perturb:=aF h,dummy:=C}
noncomputable def pr(mask:Nat)(h:Int):Nat->c4
 |0=>stt mask h
 |n+1=>adv mask<|pr mask h n
structure TabOk(hs:gh)(t:lz):Prop where
 pow: ∃k,3<=k/\k<=11/\t.mask+1=2^k
 dum:t.dummies= #[]
 len:t.place.size=Ls hs
 room:5*(Ls hs)<3*t.mask
 ris:t.place.toList.Pairwise (· < ·)
 bd: ∀j∈t.place.toList,j<=t.mask
 road: ∀(i:Nat) (h:Int) (j:Nat),hs[i]?=I8 h->t.place[i]?=I8 j-> ∃n,(pr t.mask h n).j=j/\ ∀m,m<n->(pr t.mask h m).j∈t.place.toList
end TT
namespace L2
abbrev Key:=Sum Int aO
noncomputable def yI:Key->gu->Bool
 | .inl k,v=>pp k v
 | .inr x,v=>mu x v
noncomputable def V0(w:gB):Key->Int
 | .inl k=>pc k
 | .inr x=>hashStr w x
def jG: ∀{k:Key} {v:gu},yI k v=Y->(∃i t,k=ef i/\v=ei i t)\/(∃x t,k=ee x/\v=hH x t)
 | .inl i,v,h=>by obtain⟨t,e⟩:=Value.isInt_shape (k:=i) (v:=v) h;exact .inl ⟨i,t,rfl,e⟩
 | .inr x,v,h=>by obtain⟨t,e⟩:=Value.isStrOf_shape (x:=x) (v:=v) h;exact .inr ⟨x,t,rfl,e⟩
def HY(i:Int)(t:n3):yI (.inl i) (.int i t)=Y:=by simp[yI,pp]
def HX(x:aO)(t:n3):yI (.inr x) (.str x t)=Y:=by simp[yI,mu]
def LU(a b:Int):decide ((ef a:Key)=ef b)=(a==b):=by
 by_cases e:a=b
 .subst e;simp
 .have h: ¬(ef a:Key)=ef b:=λq=>e<|Sum.inl.inj q;rw[kF h];exact(zh.mpr e).symm
def LQ(a b:aO):decide ((ee a:Key)=ee b)=decide (a=b):=by
 by_cases e:a=b
 .subst e;simp
 .have h: ¬(ee a:Key)=ee b:=λq=>e<|Sum.inr.inj q;rw[kF h,kF e]
def LS(a:Int)(b:aO):decide ((ef a:Key)=ee b)=J:=kF (λq=>nomatch q)
def LR(a:aO)(b:Int):decide ((ee a:Key)=ef b)=J:=kF (λq=>nomatch q)
noncomputable def kb(d:gM)(w:gB):PySem.KeyKind d w Key where
 is:=yI
 hash:=V0 w
 inj:=λv a b g f=>by
  rcases jG g with⟨i,t,rfl,rfl⟩|⟨x,t,rfl,rfl⟩
  .rcases jG f with⟨j,u,rfl,e⟩|⟨y,u,rfl,e⟩
   .injection e with c _;rw[c]
   .exact nomatch e
  .rcases jG f with⟨j,u,rfl,e⟩|⟨y,u,rfl,e⟩
   .exact nomatch e
   .injection e with c _;rw[c]
 byValue:=λk v h=>by rcases jG h with⟨i,t,rfl,rfl⟩|⟨x,t,rfl,rfl⟩<;>rfl
 pyHash:=λhv h=>by
  rcases jG hv with⟨i,t,rfl,rfl⟩|⟨x,t,rfl,rfl⟩
  .exact wpAny_pyHash_int h
  .exact wpAny_pyHash_str h
 eqBool:=λl hv h=>by
  rcases jG l with⟨i,t,rfl,rfl⟩|⟨x,t,rfl,rfl⟩
  .rcases jG hv with⟨j,u,rfl,rfl⟩|⟨y,u,rfl,rfl⟩
   .rw[LU] at h;exact wpAny_eqBool_int h
   .rw[LS] at h;exact eV i t y u _ _ _ _ h
  .rcases jG hv with⟨j,u,rfl,rfl⟩|⟨y,u,rfl,rfl⟩
   .rw[LR] at h;exact eU x t j u _ _ _ _ h
   .rw[LQ] at h;exact wpAny_eqBool_str h
 «strs»:=λk x t v h=>by
  rcases jG h with⟨i,u,rfl,e⟩|⟨y,u,rfl,e⟩
  .exact nomatch e
  .injection e with c _
   subst c;cases v<;>rfl
def C0(a:gM)(w:gB)(i:Int)(t:n3):(kb a w).is (.inl i) (.int i t)=Y:=HY i t
def CZ(a:gM)(w:gB)(x:aO)(t:n3):(kb a w).is (.inr x) (.str x t)=Y:=HX x t
inductive V where
 |non|bl(b:Bool)|int(i:Int)|str(x:aO)|byt(b:Array UInt8)|flt(b:UInt64)|ref(a:fV)|ty(n:String)
 deriving DecidableEq
def RelV:V->gu->Prop
 | .non,u=>u=am
 | .bl b,u=>u=c0 b
 | .int i,u=> ∃t,u=ei i t
 | .str x,u=> ∃t,u=hH x t
 | .byt b,u=> ∃t,u=Value.bytes b t
 | .flt b,u=> ∃t,u=Value.float b t
 | .ref a,u=>u=bJ a
 | .ty n,u=>u=bm n
abbrev Vals:List V->List gu->Prop:=Paired RelV
def Vals.length{xs:List V}{a:il}(r:Vals xs a):(Ls xs)=(Ls a):=tD r
def Vals.get{b:List V}{a:il}{i:Nat}{x:V}(h:Vals b a)(e:b[i]?=I x): ∃u,a[i]?=I u/\RelV x u:=by
 induction h generalizing i with
 |nil=>simp at e
 |cons r t c=>
  cases i with
  |zero=>simp at e;subst e;exact⟨_,rfl,r⟩
  |succ i=>simpa using c (by simpa using e)
theorem Vals.set{x:V}{u:gu}(r:RelV x u): ∀{b:List V} {a:il} (i:Nat),Vals b a->Vals (b.set i x) (a.set i u)
 |_,_,_,.nil=> .nil
 |_,_,0,.cons _ t=> .cons r t
 |_,_,i+1,.cons q t=> .cons q (Vals.set r i t)
def Vals.append{c d:List V}{a b:il}(h:Vals c a)(s:Vals d b):Vals (c++d) (a++b):=by
 induction h with
 |nil=>exact s
 |cons r t e=>exact .cons r e
theorem Vals.take: ∀{b:List V} {a:il} (n:Nat),Vals b a->Vals (b.take n) (a.take n)
 |_,_,0,_=> .nil
 |_,_,_+1,.nil=> .nil
 |_,_,n+1,.cons r t=> .cons r (Vals.take n t)
theorem Vals.drop: ∀{b:List V} {a:il} (n:Nat),Vals b a->Vals (b.drop n) (a.drop n)
 |_,_,0,r=>r
 |_,_,_+1,.nil=> .nil
 |_,_,n+1,.cons _ t=>Vals.drop n t
def RelO:Option V->Option gu->Prop
 |some v,I u=>RelV v u
 |none,C=>True
 |_,_=>False
def KV{a:Type}:List (a×V)->List (a×gu)->Prop:=Paired λ(p:a×V) (q:a×gu)=>p.1=q.1/\RelV p.2 q.2
noncomputable def kV:Key->V
 | .inl i=> .int i
 | .inr x=> .str x
inductive HO where
 /-- a list -/
 |lst(xs:List V)
 /-- a tuple(never changes) -/
 |tup(xs:List V)
 /-- a dict whose keys are ints and texts;one whose keys are tuples of ints and texts(the empty one is both) -/
 |dK(kvs:List (Key×V))|dT(kvs:List (List Key×V))
 /-- a set of ints:its members,its size -/
 |set (S:Int->Bool) (n:Nat)
 |stt (zs:List (Int×V))
 /-- an instance of the class at C,its dict at dx,its attributes -/
 |ins (C dx:fV) (fs:List (aO×V))
 /-- the dict of the instance at x -/
 |own (x:fV)
 /-- the dict of an exception -/
 |xd (fs:List (aO×V))
 /-- a bound method,f of x -/
 |met (f x:fV)
 /-- a range object lo,lo+1,.. below hi -/
 |rng (lo hi:Int)
 /-- a thing that is known to the object (the script;a dict while a loop walks it):read,never written while it is so -/
 |frz (o:en) (u:HO)
 /-- a code object's vn -/
 |tbl (ps:lN)
 /-- any other thing,by what is KE of its one object (a def of one's own:SetO a S n:=HO.ext λh=> ..) -/
 |ext (φ:gH->Prop)
abbrev Hp:=fV->Option HO
noncomputable def upd(U:Hp)(a:fV)(o:HO):Hp:=λb=>if b=a then I o else U b
def gS{U:Hp}{a:fV}{o:HO}:upd U a o a=I o:=by unfold upd;rw[gr H]
def gR{U:Hp}{a b:fV}{o:HO}(h:b≠a):upd U a o b=U b:=by unfold upd;rw[gD h]
def F1{U:Hp}{a:fV}{o u:HO}:upd (upd U a o) a u=upd U a u:=by funext b;unfold upd;split<;>rfl
def Ph{U:Hp}{a b:fV}{o u:HO}(h:U a=I o)(c:U b=I u)(d:o≠u):a≠b:=by intro e;subst e;rw[h] at c;exact d<|jn c
def lu{U:Hp}{a b:fV}{o:HO}(h:U a=I o)(c:U b=C):a≠b:=by intro e;subst e;rw[h] at c;cases c
section
variable(P:gM)(w:gB)
def ObjOk(T:Hp)(h:gH)(a:fV):HO->Prop
 | .lst g=>Ls g<=sizeLine/\ ∃(b:il) (n:Nat),Vals g b/\h.get? a=I {cls:= .type "list",data:= .seq b.toArray n}
 | .tup g=>Ls g<=sizeLine/\ ∃b:List gu,Vals g b/\lw h a b.toArray
 | .dK d=>Ls d<=sizeLine/\(a==bx)=J/\ ∃k,KV d k/\h.DictOf (kb P w) a k
 | .dT d=>Ls d<=sizeLine/\(a==bx)=J/\ ∃g:List (List Key×fV×gu),
   Paired (λ(p:List Key×V) (q:List Key×fV×gu)=>p.1=q.1/\T q.2.1=I (.tup<|p.1.map kV)/\RelV p.2 q.2.2) d g/\
   ∃o j U,h.get? a=I o/\o.ExactDict/\o.data= .dict j U/\j.toList=g.map (entryOfKey<|df<|kb P w)/\(g.map (·.1)).Nodup
 | .set S n=>h.SetOf (cn P w) a S n
 | .stt E=> ∃(j:uj) (n:Nat) (t:lz),h.get? a=I {cls:= .type "set",data:= .set j n t}/\Paired (λ(z:Int×V) (e:Int×gu)=>z.1=e.1/\RelV z.2 e.2) E j.toList/\
   TT.TabOk (E.map (·.1)) t/\t.plain=Y/\t.led=!w.params.followText "set-order"
 | .ins Q l fs=>T l=I (.own a)/\(Ls fs)<=1000/\l≠a/\h.get? a=I (PySem.W.instObj Q l)/\
   ∃i,h.Ns1 l i/\(∀f,RelO (fs.lookup f)<|i f)/\PySem.Within i (fs.map (·.1))
 | .own _=> ∃o,h.get? a=I o
 | .xd fs=> ∃i,h.Ns1 a i/\ ∀f,RelO (fs.lookup f)<|i f
 | .rng lo L=> ∃t u v,h.get? a=I {cls:= .type "range",data:= .fields #[.int lo t,.int L u,.int 1 v]}
 | .frz o u=>h.get? a=I o/\ObjOk T h a u
 | .tbl O=> ∃q t r,O[0]?=I (.str q t)/\h.get? a=I {cls:= .none,data:= .fields r}/\TriplesOk r.toList/\ ∀m y,codeAmong m r.toList=I y-> ∃c B u k t,y= .ref c/\T c=I (.frz B u)/\B.data= .fields k/\k[1]?=I (.str q t)
 | .met f x=>h.get? a=I (dH (.ref f)<|.ref x)
 | .ext s=>s h/\(∃o,h.get? a=I o)/\ ∀h1 A:gH,s h1->(∀o,h1.get? a=I o->A.get? a=I o)->s A
def HOk(U:Hp)(h:gH):Prop:= ∀a o,U a=I o->ObjOk P w U h a o
end
section
variable {P:gM}{w:gB}{H g:Hp}{h h':gH}{a:fV}{o:HO}
def ObjOk.lt(x:ObjOk P w H h a o):a<h.objs.size:=by
 cases o with
 |lst c=>obtain⟨_,_,_,_,e⟩:=x;exact iM e
 |tup c=>obtain⟨_,_,_,p⟩:=x;exact p.lt
 |dK b=>obtain⟨_,_,_,_,o,_,_,e,_⟩:=x;exact iM e
 |dT b=>obtain⟨_,_,_,_,o,_,_,e,_⟩:=x;exact iM e
 |set S n=>obtain⟨o,_,_,_,e,_⟩:=x;exact iM e
 |stt l=>obtain⟨_,_,_,e,_⟩:=x;exact iM e
 |ins U d fs=>obtain⟨_,_,_,e,_⟩:=x;exact iM e
 |own y=>obtain⟨_,e⟩:=x;exact iM e
 |xd fs=>obtain⟨_,⟨_,_,_,e,_⟩,_⟩:=x;exact iM e
 |rng lo i=>obtain⟨_,_,_,e⟩:=x;exact iM e
 |frz j u=>obtain⟨e,_⟩:=x;exact iM e
 |tbl k=>obtain⟨_,_,_,_,e,_⟩:=x;exact iM e
 |met f y=>exact iM (show h.get? a=I _ from x)
 |ext m=>obtain⟨_,⟨_,e⟩,_⟩:=x;exact iM e
def Paired.mapP{e i:Type}{F G:e->i->Prop}{c:List e}{d:List i}(h:Paired F c d)(f: ∀a b,F a b->G a b):Paired G c d:=by
 induction h with
 |nil=>exact .nil
 |cons r t j=>exact .cons (f _ _ r) j
def ObjOk.stay(x:ObjOk P w H h a o)(k: ∀b u,(b=a\/H b=I8 (.own a))->h.get? b=I8 u->h'.get? b=I8 u)
  (N: ∀b,H b=I8 (.own a)->g b=I8 (.own a))(U: ∀b A,H b=I8 (.tup A)->g b=I8 (.tup A))(Y: ∀b i u,H b=I8 (.frz i u)->g b=I8 (.frz i u):=by exact λ_ _ _ q=>q):ObjOk P w g h' a o:=by
 induction o with
 |lst A=>obtain⟨z,s,n,r,e⟩:=x;exact⟨z,s,n,r,k _ _ (.inl K3) e⟩
 |tup A=>obtain⟨z,s,r,i,e,c⟩:=x;exact⟨z,s,r,i,k _ _ (.inl K3) e,c⟩
 |dK B=>obtain⟨z,y,O,r,i,j,l,e,c⟩:=x;exact⟨z,y,O,r,i,j,l,k _ _ (.inl K3) e,c⟩
 |dT B=>obtain⟨z,y,A,r,i,j,l,e,c⟩:=x;exact⟨z,y,A,Paired.mapP r λp q z=>⟨z.1,U _ _ z.2.1,z.2.2⟩,i,j,l,k _ _ (.inl K3) e,c⟩
 |set S n=>obtain⟨i,j,l,t,e,c⟩:=x;exact⟨i,j,l,t,k _ _ (.inl K3) e,c⟩
 |stt zs=>obtain⟨j,n,t,e,c⟩:=x;exact⟨j,n,t,k _ _ (.inl K3) e,c⟩
 |ins C' dx fs=>obtain⟨d,z,ne,e,E,⟨I,j,l,G,c⟩,r⟩:=x;exact⟨N _ d,z,ne,k _ _ (.inl K3) e,E,⟨I,j,l,k _ _ (.inr d) G,c⟩,r⟩
 |own y=>obtain⟨i,e⟩:=x;exact⟨i,k _ _ (.inl K3) e⟩
 |xd fs=>obtain⟨E,⟨I,j,l,e,c⟩,r⟩:=x;exact⟨E,⟨I,j,l,k _ _ (.inl K3) e,c⟩,r⟩
 |rng lo hi=>obtain⟨t,u,v,e⟩:=x;exact⟨t,u,v,k _ _ (.inl K3) e⟩
 |frz i u ih=>obtain⟨e,q⟩:=x;exact⟨k _ _ (.inl K3) e,ih q⟩
 |tbl ps=>obtain⟨q,t,D,T,e,F,m⟩:=x;exact⟨q,t,D,T,k _ _ (.inl K3) e,F,λL Q z=>let⟨c,i,u,O,t,h1,J',M⟩:=m L Q z;⟨c,i,u,O,t,h1,Y _ _ _ J',M⟩⟩
 |met f y=>have e:h.get? a=I8 (dH (.ref f)<|.ref y):=x;show h'.get? a=I8 (dH (.ref f)<|.ref y);exact k a _ (.inl K3) e
 |ext φ=>obtain⟨p,⟨o,e⟩,st⟩:=x;exact⟨st _ _ p λo q=>k _ _ (.inl K3) q,⟨o,k _ _ (.inl K3) e⟩,st⟩
def HOk.lt(x:HOk P w H h)(e:H a=I o):a<h.objs.size:=(x a o e).lt
def HOk.fresh(x:HOk P w H h)(e:h.objs.size<=a):H a=C:=by
 cases q:H a with
 |none=>rfl
 |some u=>exact absurd (mO (x.lt q) e)<|oE _
def HOk.kept(x:HOk P w H h)(k: ∀b u,h.get? b=I u->h'.get? b=I u):HOk P w H h':=λa o e=>(x a o e).stay (λb u _ q=>k b u q) (λ_ q=>q) λ_ _ q=>q
def HOk.laid(x:HOk P w H h)(k: ∀b u,h.get? b=I u->h'.get? b=I u)(i:h.objs.size<=a)(new:ObjOk P w (upd H a o) h' a o):HOk P w (upd H a o) h':=λb u e=>by
 have d:=x.fresh i;by_cases f:b=a
 .subst f;rw[gS] at e;cases e;exact new
 .rw[gR f] at e;exact(x b u e).stay (λc v _ q=>k c v q) (λc q=>by rw[gR<|lu q d];exact q) (λc j q=>by rw[gR<|lu q d];exact q) λc _ _ q=>by rw[gR<|lu q d];exact q
end
def Rd(U:Hp)(a:fV)(u:HO):Prop:=U a=I u\/ ∃o,U a=I (.frz o u)
def Rd.ok{P:gM}{w:gB}{U:Hp}{h:gH}{a:fV}{u:HO}(r:Rd U a u)(x:HOk P w U h):ObjOk P w U h a u:=by
 rcases r with r|⟨o,r⟩
 .exact x a u r
 .obtain⟨_,q⟩:=x a _ r;exact q
def Mut:Option HO->Prop
 |some (.lst _)=>True
 |some (.dK _)=>True
 |some (.dT _)=>True
 |some (.set _ _)=>True
 |some (.stt _)=>True
 |some (.ins _ _ _)=>True
 |some (.ext _)=>True
 |_=>False
section
variable {P:gM}{w:gB}{H:Hp}{h a:gH}{x e:fV}{d:HO}
def HOk.write(ok:HOk P w H h)(g:Mut (H x))(o:e=x\/H e=I (.own x))(k: ∀b u,b≠e->h.get? b=I u->a.get? b=I u)(s: ∃u,a.get? e=I u)
  (new:ObjOk P w (upd H x d) a x d):HOk P w (upd H x d) a:=λb u q=>by
 have f: ∀c y,H c=I (.own y)->c≠x:=λc y r z=>by subst z;rw[r] at g;exact g
 have i: ∀c n,H c=I (.tup n)->c≠x:=λc n r z=>by subst z;rw[r] at g;exact g
 by_cases l:b=x
 .subst l;rw[gS] at q;cases q;exact new
 .rw[gR l] at q;by_cases j:b=e
  .have p:H b=I (.own x):=by
    rcases o with z|z
    .exact absurd (j.trans z) l
    .rw[j];exact z
   rw[q] at p;cases p;obtain⟨v,hv⟩:=s;exact⟨v,by rw[j];exact hv⟩
  .refine(ok b u q).stay (λc v m r=>k c v ?_ r) (λc r=>by rw[gR<|f c b r];exact r) (λc n r=>by rw[gR<|i c n r];exact r) λc _ _ r=>by rw[gR λz=>by subst z;rw[r] at g;exact g];exact r
   rcases m with rfl|m
   .exact j
   .rintro rfl;rcases o with z|z
    .exact f c b m z
    .rw[m] at z;cases z;exact l K3
end
structure Un(fs ex:jz)(H H':Hp)(h h':gH):Prop where
 keep: ∀b o,h.get? b=I8 o->H b=J4->b∉fs->b∉ex->h'.get? b=I8 o
 slot: ∀b o,h.get? b=I8 o->H b=J4->b∈fs->b∉ex-> ∃sl,h'.get? b=I8 {o with slots:=sl}
 free: ∀b o,h.get? b=I8 o->H b=J4->b∉ex->H' b=J4
 there: ∀b o,h.get? b=I8 o->b∉ex-> ∃o',h'.get? b=I8 o'
 tups: ∀b xs,H b=I8 (.tup xs)->H' b=I8 (.tup xs)
 frzs: ∀b o u,H b=I8 (.frz o u)->H' b=I8 (.frz o u)
 tbls: ∀b ps,H b=I8 (.tbl ps)-> ∃more,H' b=I8 (.tbl<|ps++more)
section
variable {fs c ex d:jz}{H f i:Hp}{h h1 g h':gH}{a x e:fV}{o:HO}
def Un.any(u:Un fs ex H f h h1){b:fV}{j:en}(q:h.get? b=I j)(n:H b=C)(l:b∉ex): ∃m,h1.get? b=I {j with slots:=m}:=by
 by_cases k:b∈fs
 .exact u.slot b j q n k l
 .exact⟨j.slots,u.keep b j q n k l⟩
def Un.kept(k: ∀b u,h.get? b=I u->h'.get? b=I u):Un fs ex H H h h':=
 ⟨λb j q _ _ _=>k b j q,λb j q _ _ _=>⟨j.slots,k b j q⟩,λ_ _ _ n _=>n,λb j q _=>⟨j,k b j q⟩,λ_ _ q=>q,λ_ _ _ q=>q,λ_ l q=>⟨#[],by rw[q];simp⟩⟩
def Un.refl:Un fs ex H H h h:=Un.kept λ_ _ q=>q
def Un.laid(k: ∀b u,h.get? b=I u->h'.get? b=I u)(r:h.objs.size<=a)(j:H a=C):Un fs ex H (upd H a o) h h' where
 keep:=λb u q _ _ _=>k b u q
 slot:=λb u q _ _ _=>⟨u.slots,k b u q⟩
 free:=λb u q n _=>by rw[gR<|hX<|mO (iM q) r];exact n
 there:=λb u q _=>⟨u,k b u q⟩
 tups:=λb s q=>by rw[gR<|lu q j];exact q
 frzs:=λb u s q=>by rw[gR<|lu q j];exact q
 tbls:=λb t q=>⟨#[],by rw[gR<|lu q j,q];simp⟩
def Un.write(j:Mut (H x))(v:e=x\/H e=I (.own x))(k: ∀b u,b≠e->h.get? b=I u->h'.get? b=I u)(t: ∃u,h'.get? e=I u):Un fs ex H (upd H x o) h h':=by
 have s: ∀b,H b=C->b≠x:=λb n z=>by subst z;rw[n] at j;exact j
 have p: ∀b,H b=C->b≠e:=λb n z=>by
  subst z;rcases v with r|r
  .exact s b n r
  .rw[n] at r;cases r
 have l: ∀b u,H b=I u-> ¬Mut (I u)->b≠x:=λb u q w z=>by subst z;rw[q] at j;exact w j
 refine⟨λb u q n _ _=>k b u (p b n) q,λb u q n _ _=>⟨u.slots,k b u (p b n) q⟩,λb u q n _=>by rw[gR<|s b n];exact n,λb u q _=>?_,
  λb y q=>by rw[gR<|l b _ q λz=>z];exact q,λb u y q=>by rw[gR<|l b _ q λz=>z];exact q,λb A q=>⟨#[],by rw[gR<|l b _ q λz=>z,q];simp⟩⟩
 by_cases m:b=e
 .subst m;exact t
 .exact⟨u,k b u m q⟩
end
noncomputable def trk(h:gH)(U:Hp):List Addr:=(ai h.objs.size).filter λa=>(U a).isSome
noncomputable def BR(h:gH)(U:Hp):Heap:=PySem.W.hideAll h<|trk h U
def Ig(h:gH)(U:Hp):(BR h U).objs.size=h.objs.size:=PySem.W.hideAll_size _ _
def L8{h:gH}{U:Hp}{b:fV}{o:en}(e:h.get? b=I o)(n:U b=C):(BR h U).get? b=I o:=
 PySem.W.hideAll_get _ e λa=>by have q:(U b).isSome=Y:=(zG.mp a).2;rw[n] at q;simp at q
def Oi{h:gH}{U:Hp}{b:fV}{o:en}(e:(BR h U).get? b=I o):h.get? b=I o/\U b=C:=by
 have a:h.get? b=I o:=PySem.W.of_hideAll (trk h U) e;refine⟨a,?_⟩
 cases q:U b with
 |none=>rfl
 |some x=>have c:b∈trk h U:=zG.mpr ⟨xm.mpr<|iM a,by simp[q]⟩;have z:(BR h U).get? b=C:=PySem.W.hideAll_none (trk h U) c;rw[z] at e;cases e
noncomputable def OR(g h:gH)(L:fV):List (fV×en):=(ai h.objs.size).filterMap λa=>if a=L\/(g.get? a).isSome=Y then C else(h.get? a).map λo=>(a,o)
noncomputable def ir(g h:gH)(L d:fV):List (fV×en):=(OR g h L).filter λp=>decide<|p.1≠d
structure Mod(K:gy)(mg:lE)(base:gH):Prop where
 kin:K.In base
 glob:base.Ns aq mg
 blt: ∃mb,base.Ns n1 mb/\ ∀x:aO,x≠"__name__"->mb x=aE x
 nolimit:base.NoLimit
structure Cx where
 prog:gM
 w:gB
 K:gy
 mg:aO->Option gu
 base:gH
 A:gJ
 N:List aO
 s₀:fY
 H₀:Hp
 env:eT
 outer:List eT
 stack:List eT
 ex:List fV
 fn:aO->Bool
 calm:Bool
 pn:List (fV×en)
 xe:gu->fY->Prop
noncomputable def frs(l:List eT):List Addr:=l.filterMap (·.frame)
abbrev Cx.fs(X:Cx):List Addr:=frs X.outer
def Vis(a:jt)(x:aO):Prop:=a.names.lookup x=I .local\/a.names.lookup x=I .cell\/a.names.lookup x=I .free
def Loc(a:jt)(x:aO):Prop:=a.names.lookup x=I .local\/a.names.lookup x=I .cell
def Wh(a:eT)(h:gH)(m:lE)(x:aO)(u:gu):Prop:=
 (a.kindOf x=I .local/\m x=I u)\/((a.kindOf x=I .cell\/a.kindOf x=I .free)/\ ∃c,a.cells.lookup x=I c/\h.IsCell c (I u))
structure Cx.Ok(X:Cx):Prop where
 mod:Mod X.K X.mg X.base
 kind:X.env.scope.kind= .function
 glob:X.env.globals=aq
 blt:X.env.builtins=n1
 above:X.s₀.heap.objs.size<=X.env.locals
 inj: ∀x y c,X.env.cells.lookup x=I8 c->X.env.cells.lookup y=I8 c->x=y
 has: ∀x,(X.env.kindOf x=I8 .cell\/X.env.kindOf x=I8 .free)-> ∃c,X.env.cells.lookup x=I8 c
 cab: ∀x c,X.fn x=KE->X.env.cells.lookup x=I8 c->X.s₀.heap.objs.size<=c
 hd:X.calm=KE->X.A.handled=J4
 frames:X.A.frames=I8 X.stack
 stk:X.stack=X.outer\/(X.stack=X.env::X.outer/\X.env.frame=I8 X.env.locals)
 exf: ∀b∈X.ex,b≠X.env.locals/\ ∀x c,X.env.cells.lookup x=I8 c->c≠b
 bs: ∀b o,X.base.get? b=I8 o->X.s₀.heap.get? b=I8 o/\X.H₀ b=J4
 bsz:X.base.objs.size<=X.s₀.heap.objs.size
 noex: ∀b o,X.base.get? b=I8 o->b∉X.ex
 exfs: ∀b∈X.ex,b∉X.fs
 funs:X.s₀.heap.FunFrames X.base X.outer
 frf: ∀b∈X.fs,X.H₀ b=J4
structure Inv(X:Cx)(pins:gU)(σ:List (Option V))(H:Hp)(s:fY):Prop where
 ok:X.Ok
 os:s.os=X.s₀.os
 bare:dv s.gens
 base:Un X.fs X.ex X.H₀ H X.s₀.heap s.heap
 loc: ∃m,s.heap.Ns X.env.locals m/\ ∀(i:Nat) (x:aO) (v:V),X.N[i]?=I8 x->σ[i]?=I8 (I8 v)->Vis X.env.scope x-> ∃u,RelV v u/\Wh X.env s.heap m x u
 cell: ∀x c,X.env.cells.lookup x=I8 c-> ∃v,s.heap.IsCell c v
 free:H X.env.locals=J4
 freeC: ∀x c,X.env.cells.lookup x=I8 c->H c=J4
 pin: ∀p∈X.pn++pins,s.heap.get? p.1=I8 p.2/\H p.1=J4/\p.1≠X.env.locals/\p.1∉X.fs/\ ∀v,p.2.data≠ .cell v
 hok:HOk X.prog X.w H s.heap
 len:(Ls σ)=X.N.length
section
variable {X:Cx}{f:gU}{g:List (Option V)}{H H':Hp}{s:fY}{h':gH}
def Cx.Ok.nofr(ok:X.Ok){b:fV}{o:en}(e:X.base.get? b=I o):b∉X.fs:=λa=>by have:=(ok.funs.mem a).1;rw[e] at this;cases this
def Inv.bs(U:Inv X f g H s): ∀b o,X.base.get? b=I o->s.heap.get? b=I o/\H b=C:=λb o e=>⟨U.base.keep b o (U.ok.bs b o e).1 (U.ok.bs b o e).2 (U.ok.nofr e)<|U.ok.noex b o e,U.base.free b o (U.ok.bs b o e).1 (U.ok.bs b o e).2<|U.ok.noex b o e⟩
def Inv.bk(U:Inv X f g H s): ∀b o,X.base.get? b=I o->s.heap.get? b=I o:=λb o e=>(U.bs b o e).1
def Inv.mod(U:Inv X f g H s):Mod X.K X.mg X.base:=U.ok.mod
def Inv.kIn(U:Inv X f g H s):X.K.In s.heap:=U.ok.mod.kin.keeps U.bk
def Inv.lt(U:Inv X f g H s):X.env.locals<s.heap.objs.size:=let⟨_,a,_⟩:=U.loc;a.lt
def Inv.sz(U:Inv X f g H s):X.s₀.heap.objs.size<=s.heap.objs.size:=lh U.ok.above<|vV U.lt
def Inv.nofs(U:Inv X f g H s){a:fV}(h:s.heap.objs.size<=a):a∉X.fs:=λb=>by obtain⟨_,o,c,_⟩:=U.ok.funs.mem b;exact absurd (mO (iM c)<|lh U.sz h)<|oE _
def Inv.cne(U:Inv X f g H s): ∀x c,X.env.cells.lookup x=I c->c≠X.env.locals:=λx c e z=>by obtain⟨v,o,a,hd⟩:=U.cell x c e;obtain⟨m,⟨j,i,h,d,b,_⟩,_⟩:=U.loc;rw[z,d] at a;cases a;rw[b] at hd;cases hd
def Inv.funs(U:Inv X f g H s):s.heap.FunFrames X.base X.outer:=by
 have all: ∀(l:List eT),(∀b∈frs l,b∈X.fs)->X.s₀.heap.FunFrames X.base l->s.heap.FunFrames X.base l:=by
  intro l
  induction l with
  |nil=>intro _ _;trivial
  |cons i r p=>intro h j;obtain⟨hk,⟨L,o,d,k,m,hd⟩,n⟩:=j;have a:L∈X.fs:=h L (by unfold frs;rw[uz,d];exact iX);obtain⟨q,e⟩:=U.base.slot L o m (U.ok.frf L a) a λz=>U.ok.exfs L z a;exact⟨hk,⟨L,_,d,k,e,hd⟩,p (λb c=>h b<|by unfold frs;rw[uz,d];exact jd _ c) n⟩
 exact all X.outer (λ_ c=>c) U.ok.funs
def Inv.stack(U:Inv X f g H s):s.heap.FunFrames X.base X.stack:=by
 rcases U.ok.stk with e|⟨e,hf⟩
 .rw[e];exact U.funs
 .rw[e];obtain⟨m,a,_⟩:=U.loc;refine .cons (by rw[U.ok.kind];decide) hf a ?_ U.funs;exact Heap.get?_none_of_le<|lh U.ok.bsz U.ok.above
def Inv.stkSub(U:Inv X f g H s): ∀b∈frs X.stack,b∈X.env.locals::X.fs:=λb a=>by
 rcases U.ok.stk with e|⟨e,hf⟩
 .rw[e] at a;exact jd _ a
 .rw[e] at a;unfold frs at a;rw[uz,hf] at a;exact a
def Inv.stkFree(U:Inv X f g H s): ∀b∈frs X.stack,H b=C:=λb a=>by
 rcases jF.mp (U.stkSub b a) with e|a
 .rw[e];exact U.free
 .obtain⟨_,o,c,_⟩:=U.ok.funs.mem a;exact U.base.free b o c (U.ok.frf b a) λz=>U.ok.exfs b z a
def Inv.step{g':Array eK}{t':Nat}{d':Drawn}{ch:jz}(I:Inv X f g H s)
  (B: ∀b∈ch,(b∈X.ex\/X.s₀.heap.objs.size<=b)/\b≠X.env.locals/\(∀x c,X.env.cells.lookup x=I8 c->c≠b)/\ ∀p∈X.pn++f,p.1≠b)
  (keep: ∀b o,b≠X.env.locals->b∉X.fs->b∉ch->s.heap.get? b=I8 o->H b=J4->h'.get? b=I8 o)
  (slot: ∀b o,b≠X.env.locals->b∈X.fs->b∉ch->s.heap.get? b=I8 o->H b=J4-> ∃U,h'.get? b=I8 {o with slots:=U})(free: ∀b o,b∉ch->s.heap.get? b=I8 o->H b=J4->H' b=J4)
  (there: ∀b o,b∉ch->s.heap.get? b=I8 o-> ∃Q,h'.get? b=I8 Q)
  (G: ∀b t,H b=I8 (.tup t)->H' b=I8 (.tup t))(L: ∀b o u,H b=I8 (.frz o u)->H' b=I8 (.frz o u))(T: ∀b M,H b=I8 (.tbl M)-> ∃more,H' b=I8 (.tbl<|M++more))
  (ns: ∀m,s.heap.Ns X.env.locals m->h'.Ns X.env.locals m)(N:HOk X.prog X.w H' h')(hg:dv g'):
  Inv X f g H' {s with heap:=h',gens:=g',drawn:=d',toks:=t'}:=by
 have O: ∀b o,X.s₀.heap.get? b=I8 o->b≠X.env.locals:=λb o e=>hX<|mO (iM e) I.ok.above
 have J: ∀b o,X.s₀.heap.get? b=I8 o->b∉X.ex->b∉ch:=λb o e a y=>by
  rcases(B b y).1 with z|z
  .exact a z
  .exact absurd (mO (iM e) z) (oE _)
 have h: ∀x c,X.env.cells.lookup x=I8 c-> ∀v,s.heap.IsCell c v->h'.IsCell c v:=λx c e v a'=>by
  obtain⟨o,A,hd⟩:=a'
  have C:c∉ch:=λz=>(B c z).2.2.1 x c e K3;by_cases D:c∈X.fs
  .obtain⟨U,q⟩:=slot c o (I.cne x c e) D C A<|I.freeC x c e;exact⟨_,q,hd⟩
  .exact⟨o,keep c o (I.cne x c e) D C A<|I.freeC x c e,hd⟩
 refine⟨I.ok,I.os,hg,⟨λb o e n y a=>?_,λb o e n y a=>?_,λb o e n a=>?_,λb o e a=>?_,λb t e=>G b t<|I.base.tups b t e,λb o t e=>L b o t<|I.base.frzs b o t e,λb M e=>?_⟩,?_,λx c e=>?_,?_,λx c e=>?_,λp F=>?_,N,I.len⟩
 .exact keep b o (O b o e) y (J b o e a) (I.base.keep b o e n y a) (I.base.free b o e n a)
 .obtain⟨U,j⟩:=I.base.slot b o e n y a;obtain⟨Y,E⟩:=slot b _ (O b o e) y (J b o e a) j (I.base.free b o e n a);exact⟨Y,E⟩
 .obtain⟨Q,j⟩:=I.base.there b o e a;exact free b Q (J b o e a) j<|I.base.free b o e n a
 .obtain⟨Q,j⟩:=I.base.there b o e a;exact there b Q (J b o e a) j
 .obtain⟨V,j⟩:=I.base.tbls b M e;obtain⟨W,E⟩:=T b _ j;exact⟨V++W,by rw[E,Array.append_assoc]⟩
 .obtain⟨m,S,R⟩:=I.loc;refine⟨m,ns m S,λi x v j E P=>?_⟩;obtain⟨u,r,l⟩:=R i x v j E P;refine⟨u,r,?_⟩;rcases l with l|⟨k,c,e,z⟩
  .exact .inl l
  .exact .inr ⟨k,c,e,h x c e _ z⟩
 .obtain⟨v,z⟩:=I.cell x c e;exact⟨v,h x c e v z⟩
 .obtain⟨m,⟨o,_,_,A,_⟩,_⟩:=I.loc;exact free _ o (λz=>(B _ z).2.1 K3) A I.free
 .obtain⟨v,o,A,hd⟩:=I.cell x c e;exact free c o (λz=>(B c z).2.2.1 x c e K3) A<|I.freeC x c e
 .obtain⟨e,n,ne,K,d⟩:=I.pin p F;have C:p.1∉ch:=λz=>(B p.1 z).2.2.2 p F K3;exact⟨keep p.1 p.2 ne K C e n,free p.1 p.2 C e n,ne,K,d⟩
def Inv.un{t':Nat}(U:Inv X f g H s)(u:Un X.fs [] H H' s.heap h')(d:HOk X.prog X.w H' h'):Inv X f g H' {s with heap:=h',toks:=t'}:=by
 obtain⟨m,⟨o,t,q,h,r⟩,_⟩:=id U.loc;obtain⟨y,k⟩:=u.any h U.free (by simp)
 exact U.step (g':=s.gens) (d':=s.drawn) (ch:=[]) (λ_ z=>nomatch z) (λb o _ c _ e n=>u.keep b o e n c<|by simp) (λb o _ c _ e n=>u.slot b o e n c<|by simp) (λb o _ e n=>u.free b o e n<|by simp) (λb o _ e=>u.there b o e<|by simp) u.tups u.frzs u.tbls (λv l=>by obtain⟨x,a,j,i,p⟩:=l;rw[h] at i;cases i;exact⟨_,a,j,k,p⟩) d U.bare
def Inv.call{g':Array eK}{t':Nat}{d':Drawn}{ch:jz}(U:Inv X f g H s)(u:Un (frs X.stack) ch H H' s.heap h')(i:HOk X.prog X.w H' h')(v:dv g')
  (j: ∀b∈ch,(b∈X.ex\/X.s₀.heap.objs.size<=b)/\b≠X.env.locals/\(∀x c,X.env.cells.lookup x=I c->c≠b)/\ ∀p∈X.pn++f,p.1≠b):
  Inv X f g H' {s with heap:=h',gens:=g',drawn:=d',toks:=t'}:=by
 obtain⟨m,⟨o,T,B,k,r⟩,_⟩:=id U.loc;obtain⟨O,h⟩:=u.any k U.free λz=>(j _ z).2.1 K3
 exact U.step (ch:=ch) j (λb o h t a e n=>u.keep b o e n (λz=>(jF.mp<|U.stkSub b z).elim h t) a) (λb o _ _ a e n=>u.any e n a) (λb o a e n=>u.free b o e n a) (λb o a e=>u.there b o e a) u.tups u.frzs u.tbls (λE y=>by obtain⟨L,d,q,l,A⟩:=y;rw[k] at l;cases l;exact⟨_,d,q,h,A⟩) i v
def Inv.turned{t':Nat}{it:fV}(U:Inv X f g H s)(k: ∀b o,b≠it->s.heap.get? b=I o->h'.get? b=I o)(A:H it=C)(h:it≠X.env.locals)
  (h1:it∈X.ex\/X.s₀.heap.objs.size<=it)(l: ∀x c,X.env.cells.lookup x=I c->c≠it)(t: ∀p∈X.pn++f,p.1≠it):Inv X f g H {s with heap:=h',toks:=t'}:=by
 have d: ∀b u,H b=I u->b≠it:=λb u e z=>by rw[z,A] at e;cases e
 refine U.step (g':=s.gens) (d':=s.drawn) (ch:=[it]) (λb w=>?_) (λb o _ _ a e _=>k b o (λz=>a<|by simp[z]) e) (λb o _ _ a e _=>⟨o.slots,k b o (λz=>a<|by simp[z]) e⟩) (λ_ _ _ _ n=>n)
  (λb o a e=>⟨o,k b o (λz=>a<|by simp[z]) e⟩) (λ_ _ e=>e) (λ_ _ _ e=>e) (λb T e=>⟨#[],by rw[e];simp⟩) (λm y=>?_) (λb u e=>?_) U.bare
 .have e:b=it:=by simpa using w
  subst e;exact⟨h1,h,l,t⟩
 .obtain⟨o,j,i,B,r⟩:=y;exact⟨o,j,i,k _ o (pJ h) B,r⟩
 .refine(U.hok b u e).stay (λc v a q=>k c v ?_ q) (λ_ q=>q) λ_ _ q=>q;rcases a with z|z
  .rw[z];exact d b u e
  .exact d c _ z
def Inv.tok(U:Inv X f g H s)(t:Nat):Inv X f g H {s with toks:=t}:=U.un (h':=s.heap) (t':=t) Un.refl U.hok
def Inv.kept{t':Nat}(U:Inv X f g H s)(k: ∀b u,s.heap.get? b=I u->h'.get? b=I u):Inv X f g H {s with heap:=h',toks:=t'}:=U.un (Un.kept k)<|U.hok.kept k
def Inv.laid{a:fV}{o:HO}{t':Nat}(U:Inv X f g H s)(k: ∀b u,s.heap.get? b=I u->h'.get? b=I u)(c:s.heap.objs.size<=a)(new:ObjOk X.prog X.w (upd H a o) h' a o):
  Inv X f g (upd H a o) {s with heap:=h',toks:=t'}:=U.un (Un.laid k c<|U.hok.fresh c)<|U.hok.laid k c new
def Inv.write{x e:fV}{o:HO}{h:Nat}(U:Inv X f g H s)(d:Mut (H x))(c:e=x\/H e=I (.own x))(k: ∀b u,b≠e->s.heap.get? b=I u->h'.get? b=I u)(a: ∃u,h'.get? e=I u)
  (new:ObjOk X.prog X.w (upd H x o) h' x o):Inv X f g (upd H x o) {s with heap:=h',toks:=h}:=U.un (Un.write d c k a)<|U.hok.write d c k a new
def Inv.pins_of{a:gU}(U:Inv X f g H s)(h: ∀p∈a,s.heap.get? p.1=I p.2/\H p.1=C/\p.1≠X.env.locals/\p.1∉X.fs/\ ∀v,p.2.data≠ .cell v):Inv X a g H s:=
 ⟨U.ok,U.os,U.bare,U.base,U.loc,U.cell,U.free,U.freeC,λp b=>(nO.mp b).elim (λz=>U.pin p<|Bi _ z)<|h p,U.hok,U.len⟩
def CY{N:hU}(e:N.Nodup){i j:Nat}{x:aO}(a:N[i]?=I x)(b:N[j]?=I x):i=j:=by obtain⟨h1,c⟩:=qc.mp a;obtain⟨h,d⟩:=qc.mp b;exact(j3 e).mp (c.trans d.symm)
def Hk{M:gi}{A:gJ}{E:gX}{i:Nat}{x:aO}{v:V}{u:gu}{Q:Unit->fY->Prop}(I:Inv X f g H s)(hN:X.N.Nodup)(hi:X.N[i]?=I8 x)(L:Loc X.env.scope x)(r:RelV v u)
  (h: ∀s',Inv X f (g.set i<|I8 v) H s'->(∃a,aH a s.heap s'.heap/\(a=X.env.locals\/X.env.cells.lookup x=I8 a))->Q () s')(hf:X.fn x=KE\/X.env.scope.names.lookup x=I8 .local:=by first|exact .inl rfl|exact .inr rfl|assumption):af M A (storeName X.env x u) Q E s:=by
 obtain⟨m,W,hl⟩:=id I.loc;have Y:(X.env.scope.kind== .class||(X.env.scope.kind== .module&&X.env.locals !=X.env.globals))=K2:=by rw[I.ok.kind];rfl
 have T:i<(Ls g):=by rw[I.len];exact(qc.mp hi).1
 have cne:=I.cne
 have B: ∀{a:fV} {h':gH},(∃o,s.heap.get? a=I8 o/\H a=J4)->aH a s.heap h'->HOk X.prog X.w H h':=λ{a h'} ha l b ob e=>by
  obtain⟨_,_,p4⟩:=ha;refine(I.hok b ob e).stay (λc P C q=>(l.2 c ?_).trans q) (λ_ q=>q) λ_ _ q=>q;rintro rfl;rcases C with rfl|C
  .rw[p4] at e;cases e
  .rw[p4] at C;cases C
 rcases L with hk|hk
 .refine wpAny_storeName_local hk W (λh' bY l=>?_) Y;obtain⟨oL,_,_,du,_⟩:=id W;refine h _ ⟨I.ok,I.os,I.bare,⟨λb o e n G L=>?_,λb o e n G L=>?_,I.base.free,λb o e L=>?_,I.base.tups,I.base.frzs,I.base.tbls⟩,⟨_,bY,λj y v' t O R=>?_⟩,λy c e=>?_,I.free,I.freeC,λp Z=>?_,B ⟨oL,du,I.free⟩ l,by simpa using I.len⟩ ⟨_,l,.inl K3⟩
  .exact(l.2 b<|hX<|mO (iM e) I.ok.above).trans (I.base.keep b o e n G L)
  .obtain⟨sl,t⟩:=I.base.slot b o e n G L;exact⟨sl,(l.2 b<|hX<|mO (iM e) I.ok.above).trans t⟩
  .obtain⟨o',t⟩:=I.base.there b o e L;exact⟨o',(l.2 b<|hX<|mO (iM e) I.ok.above).trans t⟩
  .by_cases J:j=i
   .subst J;rw[hi] at t;cases t;rw[uy T] at O;cases O;exact⟨u,r,.inl ⟨hk,by simp⟩⟩
   .rw[sh<|pJ J] at O;obtain⟨u',r',q⟩:=hl j y v' t O R;refine⟨u',r',?_⟩;rcases q with⟨k,e⟩|⟨k,c,e,z⟩
    .refine .inl ⟨k,?_⟩;have:y≠x:=λe=>J<|CY hN t<|e▸hi;simp[this,e]
    .exact .inr ⟨k,c,e,z.sameBut l<|cne y c e⟩
  .obtain⟨P,z⟩:=I.cell y c e;exact⟨P,z.sameBut l<|cne y c e⟩
  .obtain⟨e,n,ne,nf,d⟩:=I.pin p Z;exact⟨(l.2 p.1 ne).trans e,n,ne,nf,d⟩
 .have S:X.fn x=KE:=by
   rcases hf with z|z
   .exact z
   .rw[z] at hk;cases hk
  obtain⟨c,C⟩:=I.ok.has x<|.inl hk;obtain⟨P,z⟩:=I.cell x c C;refine wpAny_storeName_cell I.ok.kind hk C z λh' bM l=>?_;obtain⟨oc,D,F⟩:=id z;refine h {s with heap:=h'} ⟨I.ok,I.os,I.bare,⟨λb o e n G L=>?_,λb o e n G L=>?_,I.base.free,λb o e L=>?_,I.base.tups,I.base.frzs,I.base.tbls⟩,⟨m,W.sameBut l<|pJ<|cne x c C,λj y v' t O R=>?_⟩,λy K e=>?_,I.free,I.freeC,λp Z=>?_,B ⟨oc,D,I.freeC x c C⟩ l,by simpa using I.len⟩ ⟨c,l,.inr C⟩
  .exact(l.2 b<|hX<|mO (iM e)<|I.ok.cab x c S C).trans (I.base.keep b o e n G L)
  .obtain⟨sl,t⟩:=I.base.slot b o e n G L;exact⟨sl,(l.2 b<|hX<|mO (iM e)<|I.ok.cab x c S C).trans t⟩
  .obtain⟨o',t⟩:=I.base.there b o e L;exact⟨o',(l.2 b<|hX<|mO (iM e)<|I.ok.cab x c S C).trans t⟩
  .by_cases J:j=i
   .subst J;rw[hi] at t;cases t;rw[uy T] at O;cases O;exact⟨u,r,.inr ⟨.inl hk,c,C,bM⟩⟩
   .rw[sh<|pJ J] at O;obtain⟨u',r',q⟩:=hl j y v' t O R;refine⟨u',r',?_⟩;rcases q with q|⟨k,K,e,z'⟩
    .exact .inl q
    .refine .inr ⟨k,K,e,z'.sameBut l ?_⟩;rintro rfl;exact J<|CY hN t<|I.ok.inj _ _ _ e C▸hi
  .by_cases U:K=c
   .subst U;exact⟨_,bM⟩
   .obtain⟨w2,z2⟩:=I.cell y K e;exact⟨w2,z2.sameBut l U⟩
  .obtain⟨e,n,ne,nf,d⟩:=I.pin p Z;refine⟨(l.2 p.1 ?_).trans e,n,ne,nf,d⟩;intro q;rw[q,D] at e;have q':oc=p.2:=jn e;exact d P (by rw[<-q'];exact F)
def Cv{M:gi}{A:gJ}{E:gX}{i:Nat}{x:aO}{v:V}{u:gu}{Q:Unit->fY->Prop}(U:Inv X f g H s)(c:X.N.Nodup)(e:X.N[i]?=I x)(j:Loc X.env.scope x)(r:RelV v u)
  (h: ∀a,Inv X f (g.set i<|I v) H a->Q () a)(d:X.fn x=Y\/X.env.scope.names.lookup x=I .local:=by first|exact .inl rfl|exact .inr rfl|assumption):af M A (storeName X.env x u) Q E s:=
 Hk U c e j r (λa b _=>h a b) d
def Inv.call'{s':fY}{ch:jz}(U:Inv X f g H s)(i:s'.os=s.os)(u:Un (frs X.stack) ch H H' s.heap s'.heap)(a:HOk X.prog X.w H' s'.heap)(h:dv s'.gens)
  (d: ∀b∈ch,(b∈X.ex\/X.s₀.heap.objs.size<=b)/\b≠X.env.locals/\(∀x c,X.env.cells.lookup x=I c->c≠b)/\ ∀p∈X.pn++f,p.1≠b):Inv X f g H' s':=by
 obtain⟨h',g',d',t',j⟩:=s';have e:j=s.os:=i;subst e;exact U.call (g':=g') (t':=t') (d':=d') u a h d
end
abbrev XK:=gu->Option fV->Hp->Prop
abbrev St:=List<|Option V
abbrev VK:=V->Hp->Prop
abbrev TE:=St->Hp->VK->Prop
abbrev TT:=St->Hp->(Bool->Hp->Prop)->Prop
abbrev TA:=St->Hp->(List V->Hp->Prop)->Prop
structure Ends where
 nx:St->Hp->Prop
 rt:VK
 bk:St->Hp->Prop:=λ_ _=>False
 ct:St->Hp->Prop:=λ_ _=>False
abbrev TS:=Ends->St->Hp->Prop
def EP(X:Cx)(a:gU)(d:St)(Q:VK)(u:gu)(c:fY):Prop:= ∃v b,Inv X a d b c/\RelV v u/\Q v b
def TP(X:Cx)(a:gU)(e:St)(Q:Bool->Hp->Prop)(b:Bool)(d:fY):Prop:= ∃c,Inv X a e c d/\Q b c
def AP(X:Cx)(a:gU)(f:St)(Q:List V->Hp->Prop)(e:il)(d:fY):Prop:= ∃c b,Inv X a f b d/\Vals c e/\Q c b
def SP(X:Cx)(b:gU)(D:Ends)(f:Flow)(d:fY):Prop:=
 match f with
 | .next=> ∃a c,Inv X b a c d/\D.nx a c
 | .brk=> ∃a c,Inv X b a c d/\D.bk a c
 | .cont=> ∃a c,Inv X b a c d/\D.ct a c
 | .ret u=> ∃v a c,Inv X b a c d/\RelV v u/\D.rt v c
def PE(X:Cx)(e:gm)(t:TE):Prop:=
 ∀(a:gU) (s:fY) (b:St) (U:Hp) (Q:VK),Inv X a b U s->t b U Q->af (ah X.prog X.w) X.A (aK e X.env) (EP X a b Q) X.xe s
def PT(X:Cx)(e:gm)(t:TT):Prop:=
 ∀(a:gU) (s:fY) (b:St) (U:Hp) (Q:Bool->Hp->Prop),Inv X a b U s->t b U Q->af (ah X.prog X.w) X.A (isTrue e X.env<|aK e X.env) (TP X a b Q) X.xe s
def PW(X:Cx)(e:gm)(t:TT):Prop:=
 ∀(b:da gu) (a:gU) (s:fY) (c:St) (U:Hp) (Q:Bool->Hp->Prop),Inv X a c U s->t c U Q->af (ah X.prog X.w) X.A (isTrue e X.env b) (TP X a c Q) X.xe s
def PW.pt{X:Cx}{e:gm}{t:TT}(h:PW X e t):PT X e t:=h _
def PA(X:Cx)(d:jg)(t:TA):Prop:=
 ∀(b:bB) (a:gU) (s:fY) (c:St) (U:Hp) (Q:List V->Hp->Prop),Inv X a c U s->t c U Q->af (ah X.prog X.w) X.A (B1<|aJ b<|aa d X.env) (AP X a c Q) X.xe s
def PS(X:Cx)(st:cb)(t:TS):Prop:=
 ∀(a:gU) (s:fY) (b:St) (U:Hp) (D:Ends),Inv X a b U s->t D b U->af (ah X.prog X.w) X.A (exec st X.env) (SP X a D) X.xe s
def PSs(X:Cx)(st:List cb)(t:TS):Prop:=
 ∀(a:gU) (s:fY) (b:St) (U:Hp) (D:Ends),Inv X a b U s->t D b U->af (ah X.prog X.w) X.A (execs st X.env) (SP X a D) X.xe s
def thn{c:Type}{t:da c}{Q b:c->fY->Prop}{M:gi}{A:gJ}{E:gX}{s:fY}(h:af M A t Q E s)(d: ∀a s,Q a s->b a s):af M A t b E s:=ni h d λ_ _ x=>x
section
variable {X:Cx}
def Va(i:Nat):TE:=λa U Q=> ∃v,a[i]?=I (I v)/\Q v U
noncomputable def tC(v:V):TE:=λ_ U Q=>Q v U
def ET{i:Nat}{x:aO}{f:bB}(g:X.N[i]?=I x)(hv:Vis X.env.scope x)(hd:(x==("__debug__":aO))=J:=by decide)(n:(x==("__classdict__":aO))=J:=by decide):PE X (.Name x f) (Va i):=by
 intro a s o T Q U h;obtain⟨v,e,h⟩:=h;obtain⟨m,k,j⟩:=U.loc;obtain⟨u,r,l⟩:=j i x v g e hv;have fin:EP X a o Q u s:=⟨v,T,U,r,h⟩
 rcases l with⟨hk,hm⟩|⟨hk,c,b,d⟩
 .exact na (wpAny_loadName_local U.ok.kind hk k hm fin) hd
 .rcases hk with hk|hk
  .exact na (wpAny_loadName_cell U.ok.kind hk b d fin) hd
  .exact na (wpAny_loadName_free U.ok.kind hk b d fin n) hd
def Lc{i j f}:PE X (.Constant (.int i) j f) (tC<|.int i):=λ_ _ _ T _ U h=>wpAny_Constant_int ⟨.int i,T,U.tok _,⟨_,rfl⟩,h⟩
def T5{b j f}:PE X (.Constant (.bool b) j f) (tC<|.bl b):=λ_ _ _ T _ U h=>Constant_bool ⟨.bl b,T,U,rfl,h⟩
def Q9{j f}:PE X (.Constant .none j f) (tC .non):=λ_ _ _ T _ U h=>Constant_none ⟨.non,T,U,rfl,h⟩
def Q6{x j f}:PE X (.Constant (.str x) j f) (tC<|.str x):=λ_ _ _ T _ U h=>Calls.Constant_str ⟨.str x,T,U.tok _,⟨_,rfl⟩,h⟩
def Gl(X:Cx)(x:aO):Prop:=X.env.kindOf x=I .globalImplicit
def GG{E:gX}{a:gU}{s:fY}{d:St}{T:Hp}{x:aO}{u:gu}{f:bB}{Q:gX}(U:Inv X a d T s)(b:Gl X x)(c:X.mg x=I u)(h:Q u s)
  (hd:(x==("__debug__":aO))=J:=by decide):af (ah X.prog X.w) X.A (aK (.Name x f) X.env) Q E s:=
 JF U.ok.kind b (Calls.loadGlobal_global (by rw[U.ok.glob];exact U.mod.glob.keeps U.bk) c h) hd
def ou{E:gX}{a:gU}{s:fY}{g:St}{T:Hp}{x:aO}{u:gu}{f:bB}{Q:gX}(U:Inv X a g T s)(c:Gl X x)(d:X.mg x=C)(hv:aE x=I u)(h:Q u s)
  (e:x≠"__name__":=by decide)(hd:(x==("__debug__":aO))=J:=by decide):af (ah X.prog X.w) X.A (aK (.Name x f) X.env) Q E s:=by
 obtain⟨i,h1,b⟩:=U.mod.blt;exact JF U.ok.kind c (Calls.loadGlobal_builtin (by rw[U.ok.glob];exact U.mod.glob.keeps U.bk) d (by rw[U.ok.blt];exact h1.keeps U.bk) ((b x e).trans hv) h) hd
def Gj{x:aO}{v:V}{u:gu}{f:bB}(a:Gl X x)(b:X.mg x=I u)(r:RelV v u)(hd:(x==("__debug__":aO))=J:=by decide):PE X (.Name x f) (tC v):=
 λ_ _ _ T _ U h=>GG U a b ⟨v,T,U,r,h⟩ hd
def N5{x:aO}{v:V}{u:gu}{f:bB}(a:Gl X x)(b:X.mg x=C)(hv:aE x=I u)(r:RelV v u)(c:x≠"__name__":=by decide)(hd:(x==("__debug__":aO))=J:=by decide):PE X (.Name x f) (tC v):=
 λ_ _ _ T _ U h=>ou U a b hv ⟨v,T,U,r,h⟩ c hd
def t2I(g n:TE)(k:Int->Int->Hp->Prop):St->Hp->Prop:=λa U=>g a U λx b=>n a b λy c=> ∃i j,x= .int i/\y= .int j/\k i j c
variable {a b:gm}{g n:TE}{f:bB}
noncomputable def tCmp(p:Int->Int->Bool)(g n:TE):TE:=λd U Q=>t2I g n (λi j c=>Q (.bl<|p i j) c) d U
noncomputable def tB(t:TE):TT:=λe U Q=>t e U λx d=> ∃c,x= .bl c/\Q c d
def QN{e:gm}{t:TE}(h:PE X e t)(l: ∀c,isTrue e X.env c=(do let v <-c;cc e.pos;bt [v] (truthy v)):=by intro _;rfl):PT X e (tB t):=by intro i s r T Q U m;refine isTrue_plain (thn (h i s r T _ U m) λv s1 O=>?_)<|l _;obtain⟨x,j,k,p,o⟩:=O;obtain⟨d,rfl,q⟩:=o;cases p;exact sf ⟨j,k,q⟩
variable {tA o:TT}{ir:jg}
noncomputable def Vl(t u:TT):TT:=λe U Q=>t e U λc d=>if c=Y then u e d Q else Q J d
noncomputable def tOr(t u:TT):TT:=λe U Q=>t e U λc d=>if c=Y then Q Y d else u e d Q
noncomputable def tNot(t:TT):TT:=λe U Q=>t e U λc d=>Q (!c) d
def NI(i:PT X a tA):PW X (.BoolOp .And [a] f) tA:=by
 intro wh d s j T Q U h;refine isTrue_and<|thn (i d s j T Q U h) λc s1 e=>?_
 cases c with
 |true=>exact isTrue_and_nil e
 |false=>exact e
def QJ(i:PT X a tA):PW X (.BoolOp .Or [a] f) tA:=by
 intro wh d s j T Q U h;refine isTrue_or<|thn (i d s j T Q U h) λc s1 e=>?_
 cases c with
 |false=>exact isTrue_or_nil e
 |true=>exact e
def QK(l:PT X a tA)(m:PW X (.BoolOp .And (b::ir) f) o):PW X (.BoolOp .And (a::b::ir) f) (Vl tA o):=by
 intro wh d s k T Q U h;refine isTrue_and<|thn (l d s k T _ U h) λc s1 O=>?_;obtain⟨e,i,j⟩:=O
 cases c with
 |true=>exact m wh d s1 k e Q i j
 |false=>exact⟨e,i,j⟩
def TV(l:PT X a tA)(m:PW X (.BoolOp .Or (b::ir) f) o):PW X (.BoolOp .Or (a::b::ir) f) (tOr tA o):=by
 intro wh d s k T Q U h;refine isTrue_or<|thn (l d s k T _ U h) λc s1 O=>?_;obtain⟨e,i,j⟩:=O
 cases c with
 |true=>exact⟨e,i,j⟩
 |false=>exact m wh d s1 k e Q i j
def QR(i:PT X a tA):PT X (.UnaryOp .Not a f) (tNot tA):=by intro d s j T Q U h;exact isTrue_not<|i d s j T (λc e=>Q (!c) e) U h
def Ti(g n:TE):TE:=λe U Q=>g e U λx d=> ∃c,x= .bl c/\if c=Y then n e d Q else Q (.bl J) d
def Ve(g n:TE):TE:=λe U Q=>g e U λx d=> ∃c,x= .bl c/\if c=Y then Q (.bl Y) d else n e d Q
def S9(g:TE):TE:=λe U Q=>g e U λx d=> ∃c,x= .bl c/\Q (.bl (!c)) d
def Q7{op}{t:TE}(h:PE X a t):PE X (.BoolOp op [a] f) t:=λc s e T Q U d=>BoolOp_one<|h c s e T Q U d
def Rc(l:PE X a g)(m:PE X (.BoolOp .And (b::ir) f) n):PE X (.BoolOp .And (a::b::ir) f) (Ti g n):=by
 intro d s k T Q U h;refine BoolOp_and<|thn (l d s k T _ U h) λv s1 O=>?_;obtain⟨x,i,j,p,e⟩:=O;obtain⟨c,rfl,e⟩:=e;cases p;refine sf ?_
 cases c with
 |true=>exact m d s1 k i Q j e
 |false=>exact⟨.bl J,i,j,rfl,e⟩
def TZ(l:PE X a g)(m:PE X (.BoolOp .Or (b::ir) f) n):PE X (.BoolOp .Or (a::b::ir) f) (Ve g n):=by
 intro d s k T Q U h;refine BoolOp_or<|thn (l d s k T _ U h) λv s1 O=>?_;obtain⟨x,i,j,p,e⟩:=O;obtain⟨c,rfl,e⟩:=e;cases p;refine sf ?_
 cases c with
 |false=>exact m d s1 k i Q j e
 |true=>exact⟨.bl Y,i,j,rfl,e⟩
def Q8(k:PE X a g):PE X (.UnaryOp .Not a f) (S9 g):=by intro d s m T Q U h;refine UnaryOp_<|thn (k d s m T _ U h) λv s1 O=>?_;obtain⟨x,i,j,l,e⟩:=O;obtain⟨c,rfl,e⟩:=e;cases l;exact not_of<|sf ⟨.bl (!c),i,j,rfl,e⟩
noncomputable def tIf(t:TT)(g n:TE):TE:=λd U Q=>t d U λc e=>if c=Y then g d e Q else n d e Q
def Ld{c:gm}(q:PT X c tA)(m:PE X a g)(p:PE X b n):PE X (.IfExp c a b f) (tIf tA g n):=by
 intro e s i T Q U h;refine wpAny_IfExp<|thn (q e s i T _ U h) λd s1 O=>?_;obtain⟨j,k,l⟩:=O
 cases d with
 |true=>exact m e s1 i j Q k l
 |false=>exact p e s1 i j Q k l
end
def SqL(K:gy)(U:Hp)(a:fV)(xs:List V):Prop:=
 Rd U a (.lst xs)\/
  ∃(o:en) (b:lN) (n:Nat),K.lookup a=I o/\o.cls= .type "list"/\o.dict=C/\o.data= .seq b n/\b.size<=sizeLine/\Vals xs b.toList
def SqT(K:gy)(U:Hp)(a:fV)(c:List V):Prop:=
 Rd U a (.tup c)\/
  ∃(o:en) (b:lN) (n:Nat),K.lookup a=I o/\o.cls= .type "tuple"/\o.data= .seq b n/\b.size<=sizeLine/\Vals c b.toList
noncomputable def We:gu->Option V
 | .none=>I .non
 | .bool b=>I<|.bl b
 | .int i _=>I<|.int i
 | .str x _=>I<|.str x
 | .bytes b _=>I<|.byt b
 | .float b _=>I<|.flt b
 | .ref a=>I<|.ref a
 | .type n=>I<|.ty n
 |_=>C
def RelV.abs{x:V}{u:gu}(r:RelV x u):We u=I x:=by
 cases x with
 |non=>cases r;rfl
 |bl _=>cases r;rfl
 |int _=>obtain⟨t,rfl⟩:=r;rfl
 |str _=>obtain⟨t,rfl⟩:=r;rfl
 |byt _=>obtain⟨t,rfl⟩:=r;rfl
 |flt _=>obtain⟨t,rfl⟩:=r;rfl
 |ref _=>cases r;rfl
 |ty _=>cases r;rfl
def RelV.inj{x y:V}{u:gu}(r:RelV x u)(q:RelV y u):x=y:=jn<|r.abs.symm.trans q.abs
def Vals.inj{c a:List V}{b:il}(h:Vals c b)(q:Vals a b):c=a:=by
 induction h generalizing a with
 |nil=>cases q;rfl
 |cons r t d=>obtain _|⟨e,f⟩:=q;rw[r.inj e,d f]
section
variable {X:Cx}{b:gU}{f:St}{H:Hp}{s:fY}{a:fV}{c g:List V}
def SqL.of{K:gy}(h:H a=I (.lst c)):SqL K H a c:= .inl (.inl h)
def Inv.list(U:Inv X b f H s)(h:SqL X.K H a c): ∃d:List gu,Vals c d/\PlainL s.heap a d.toArray/\c.length<=sizeLine:=by
 rcases h with h|⟨o,d,n,hk,i,hd,j,k,r⟩
 .obtain⟨z,d,n,r,e⟩:=h.ok U.hok;exact⟨d,r,⟨_,n,e,rfl,rfl,rfl⟩,z⟩
 .refine⟨d.toList,r,⟨o,n,U.kIn a o hk,i,hd,by simpa using j⟩,?_⟩;have e:=r.length;simp only[jc] at e
  lia
def Inv.tuple(U:Inv X b f H s)(h:SqT X.K H a c): ∃d:List gu,Vals c d/\lw s.heap a d.toArray/\c.length<=sizeLine:=by
 rcases h with h|⟨o,d,n,hk,i,j,k,r⟩
 .obtain⟨z,d,r,p⟩:=h.ok U.hok;exact⟨d,r,p,z⟩
 .refine⟨d.toList,r,⟨o,U.kIn a o hk,i,n,by simpa using j⟩,?_⟩;have e:=r.length;simp only[jc] at e
  lia
def Inv.list_inj(U:Inv X b f H s)(h:SqL X.K H a c)(p:SqL X.K H a g):c=g:=by
 obtain⟨j,r,⟨o,n,e,_,_,d⟩,_⟩:=U.list h;obtain⟨i,q,⟨u,t,l,_,_,k⟩,_⟩:=U.list p;rw[e] at l;cases l;rw[d] at k;injection k with m _
 have:j=i:=by simpa using nh n9 m
 subst this;exact r.inj q
def Inv.tuple_inj(U:Inv X b f H s)(h:SqT X.K H a c)(p:SqT X.K H a g):c=g:=by
 obtain⟨j,r,⟨o,e,_,n,d⟩,_⟩:=U.tuple h;obtain⟨i,q,⟨u,l,_,t,k⟩,_⟩:=U.tuple p;rw[e] at l;cases l;rw[d] at k;injection k with m _
 have:j=i:=by simpa using nh n9 m
 subst this;exact r.inj q
end
noncomputable abbrev Cx.wish(X:Cx)(E:gX):Cx:={X with xe:=E}
noncomputable abbrev Cx.nox(X:Cx):Cx:=X.wish λ_ _=>False
def Cx.Ok.wish{X:Cx}(ok:X.Ok)(E:gX):(X.wish E).Ok:=
 ⟨ok.mod,ok.kind,ok.glob,ok.blt,ok.above,ok.inj,ok.has,ok.cab,ok.hd,ok.frames,ok.stk,ok.exf,ok.bs,ok.bsz,ok.noex,ok.exfs,ok.funs,ok.frf⟩
def Cx.Ok.unwish{X:Cx}{E:gX}(ok:(X.wish E).Ok):X.Ok:=
 ⟨ok.mod,ok.kind,ok.glob,ok.blt,ok.above,ok.inj,ok.has,ok.cab,ok.hd,ok.frames,ok.stk,ok.exf,ok.bs,ok.bsz,ok.noex,ok.exfs,ok.funs,ok.frf⟩
section
variable {X:Cx}{a:gU}{b:St}{H:Hp}{s:fY}{E:gX}
def Inv.wish(U:Inv X a b H s)(E:gX):Inv (X.wish E) a b H s:=⟨U.ok.wish E,U.os,U.bare,U.base,U.loc,U.cell,U.free,U.freeC,U.pin,U.hok,U.len⟩
def Inv.unwish(U:Inv (X.wish E) a b H s):Inv X a b H s:=⟨U.ok.unwish,U.os,U.bare,U.base,U.loc,U.cell,U.free,U.freeC,U.pin,U.hok,U.len⟩
def SP.unwish{D:Ends}{f:Flow}{e:fY}(h:SP (X.wish E) a D f e):SP X a D f e:=by
 cases f with
 |next=>obtain⟨c,d,U,q⟩:=h;exact⟨c,d,U.unwish,q⟩
 |brk=>obtain⟨c,d,U,q⟩:=h;exact⟨c,d,U.unwish,q⟩
 |cont=>obtain⟨c,d,U,q⟩:=h;exact⟨c,d,U.unwish,q⟩
 |ret u=>obtain⟨v,c,d,U,r,q⟩:=h;exact⟨v,c,d,U.unwish,r,q⟩
def PSs.nox{st:List cb}{t:TS}(h:PSs X.nox st t):PSs X st t:=λa s b H D U c=>ni (h a s b H D (U.wish _) c) (λ_ _ q=>q.unwish) λ_ _ z=>bX z
end
section
variable {X:Cx}{st:cb}{ir:List cb}{t u:TS}{e:gm}{i:TE}{g:bB}
noncomputable def Ta:TS:=λD a U=>D.nx a U
noncomputable def Vc(t u:TS):TS:=λD a U=>t {D with nx:=u D} a U
def NR:PSs X [] Ta:=λ_ _ a T _ U h=>Es ⟨a,T,U,h⟩
def KH(h1:PS X st t)(j:PSs X ir u):PSs X (st::ir) (Vc t u):=by
 intro a s k T D U h;refine wpAny_execs_cons<|thn (h1 a s k T {D with nx:=u D} U h) λf s1 q=>?_
 cases f with
 |next=>obtain⟨b,c,d,q⟩:=q;exact j a s1 b c D d q
 |ret v=>exact q
 |brk=>exact q
 |cont=>exact q
def Inv.quiet{a:gU}{b:St}{T:Hp}{s:fY}(U:Inv X a b T s):F2 X.env=J:=by simp[F2,U.ok.kind]
noncomputable def Te(i:TE):TS:=λD a U=>i a U λ_ b=>D.nx a b
def NT(f:PE X e i)(j:cE e C g.line X.env=pure J:=by rfl):PS X (.Expr e g) (Te i):=by intro a s b T D U h;exact wpAny_Expr_any (thn (f a s b T _ U h) λv s1 Q=>by obtain⟨x,c,d,l,k⟩:=Q;exact ⟨b,c,d,k⟩) U.quiet j
noncomputable def Vd(i:TE):TS:=λD a U=>i a U D.rt
def KJ(f:PE X e i):PS X (.Return (I e) g) (Vd i):=by intro a s b T D U h;exact wpAny_Return_some (thn (f a s b T _ U h) λv s1 Q=>by obtain⟨x,c,d,k,j⟩:=Q;exact ⟨x,b,c,d,k,j⟩)
noncomputable def S7:TS:=λD _ U=>D.rt .non U
def NS:PS X (.Return C g) S7:=λ_ _ a T _ U h=>wpAny_Return_none ⟨.non,a,T,U,rfl,h⟩
noncomputable def Vh(c:TT)(t u:TS):TS:=λD a U=>c a U λb d=>if b=Y then t D a d else u D a d
def TX{c:gm}{a b:List cb}{n:TT}(q:PT X c n)(o:PSs X a t)(p:PSs X b u):PS X (.If c a b g) (Vh n t u):=by
 intro f s j T D U h;refine wpAny_If<|thn (q f s j T _ U h) λd s1 Q=>?_;obtain⟨k,l,m⟩:=Q
 cases d with
 |true=>exact o f s1 j k D l m
 |false=>exact p f s1 j k D l m
end
abbrev TG:=V->St->Hp->(St->Hp->Prop)->Prop
abbrev TGs:=List V->St->Hp->(St->Hp->Prop)->Prop
def PG(X:Cx)(a:gm)(t:TG):Prop:=
 ∀(b:gU) (s:fY) (e:St) (U:Hp) (v:V) (u:gu) (Q:St->Hp->Prop),Inv X b e U s->RelV v u->t v e U Q->
  af (ah X.prog X.w) X.A (bz a X.env u) (λ_ f=> ∃c d,Inv X b c d f/\Q c d) X.xe s
def PGs(X:Cx)(h:jg)(t:TGs):Prop:=
 ∀(a:gU) (s:fY) (f:St) (U:Hp) (e:List V) (d:il) (Q:St->Hp->Prop),Inv X a f U s->Vals e d->t e f U Q->
  af (ah X.prog X.w) X.A (assignInOrder ((av h X.env).map (·.2)) d) (λ_ g=> ∃b c,Inv X a b c g/\Q b c) X.xe s
abbrev OV:=V->V->V->Hp->(Hp->Prop)->Prop
def So(X:Cx)(t:OV):Prop:=
 ∀(a:gU) (s:fY) (e:St) (U:Hp) (o i v:V) (d c u:gu) (Q:Hp->Prop),Inv X a e U s->RelV o d->RelV i c->RelV v u->t o i v U Q->
  af (ah X.prog X.w) X.A (eF d c u) (λ_ f=> ∃b,Inv X a e b f/\Q b) X.xe s
section
variable {X:Cx}{d:bB}
noncomputable def Di(i:Nat):TG:=λv a U Q=>Q (a.set i<|I v) U
def Gi{i:Nat}{x:aO}(c:X.N.Nodup)(f:X.N[i]?=I x)(g:Loc X.env.scope x)(e:X.fn x=Y\/X.env.scope.names.lookup x=I .local:=by first|exact .inl rfl|exact .inr rfl|assumption):PG X (.Name x d) (Di i):=by intro a s k T v u Q U r h;exact wpAny_assign_Name<|Cv U c f g r (λj b=>⟨_,T,b,h⟩) e
noncomputable def V8:TGs:=λa b U Q=>a=[]/\Q b U
def Uv(t:TG)(u:TGs):TGs:=λc e U Q=> ∃v r,c=v::r/\t v e U λa b=>u r a b Q
def NZ:PGs X [] V8:=by intro a s b T f c Q U r h;obtain⟨e,h⟩:=h;subst e;cases r;exact assignInOrder_nil ⟨b,T,U,h⟩
def K8{e:gm}{b:jg}{t:TG}{u:TGs}(h1:PG X e t)(j:PGs X b u)
  (k:(av (e::b) X.env).map (·.2)=bz e X.env::(av b X.env).map (·.2):=by rfl):PGs X (e::b) (Uv t u):=by
 intro a s n T q o Q U r h;obtain⟨v,p,i,h⟩:=h;subst i
 cases r with
 |cons r m=>rw[k];refine assignInOrder_cons<|thn (h1 a s n T _ _ _ U r h) λ_ s1 O=>?_;obtain⟨c,f,g,l⟩:=O;exact j a s1 c f _ _ Q g m l
def V7(K:gy)(n:Nat)(t:TGs):TG:=λv c U Q=> ∃a b,v= .ref a/\SqT K U a b/\(Ls b)=n/\t b c U Q
def Q3{f:jg}{k:Nat}{t:TGs}{n:Nat}(q:X.calm=Y)(h:PGs X f t)
  (x:(av f X.env).length=n:=by rfl)(O:(av f X.env).findIdx? (·.1)=C:=by rfl):PG X (.Tuple f k d) (V7 X.K n t):=by
 intro c s j T v u Q U r g;obtain⟨a,E,m,y,w,g⟩:=g;subst m;cases r;obtain⟨B,i,z,L⟩:=U.tuple y;refine assign_Tuple_tuple (U.ok.hd q) z (by simp[x,<-w,i.length]) O λp A=>?_;have l:Inv X c j T {s with heap:=p}:=U.kept (t':=s.toks) λb o e=>A b o (hX<|iM e) e;exact h c _ j T E _ Q l (by simpa using i) g
noncomputable def gSub(g f:TE)(t:OV):TG:=λv a U Q=>g a U λo b=>f a b λi c=>t o i v c λe=>Q a e
def K9{o i:gm}{g f:TE}{t:OV}(z:PE X o g)(w:PE X i f)(A:So X t)
  (q: ∀v,bz (.Subscript o i d) X.env v=(do
   let b <-bt [v] (aK o X.env)
   let c <-bt [v,b] (aK i X.env)
   cc d
   bt [v,b,c] (eF b c v)
   g8 [v,b,c] []):=by intro _;rfl):PG X (.Subscript o i d) (gSub g f t):=by
 intro a s e N v u Q U r h;rw[q];refine fX<|lM<|thn (z a s e N _ U h) λb s1 a'=>?_;obtain⟨x,j,m,L,B⟩:=a';refine fX<|lM<|thn (w a s1 e j _ m B) λc T a'=>?_;obtain⟨y,k,n,O,M⟩:=a';refine fX<|tx<|fX<|lM<|thn (A a T e k x y v b c u _ n L O r M) λ_ G a'=>?_;obtain⟨l,p,E⟩:=a';exact wpAny_release ⟨e,l,p,E⟩
noncomputable def PQ(c:TE)(g:TG):TS:=λD a U=>c a U λx b=>g x a b D.nx
def EL{b e:gm}{c:TE}{g:TG}(k:PE X e c)(l:PG X b g)(m:ci [b] e d.line X.env=pure J:=by rfl)(n:cj [b] e X.env=pure C:=by rfl)
  (h1:(av [b] X.env).map (·.2)=[bz b X.env]:=by rfl):PS X (.Assign [b] e d) (PQ c g):=by
 intro a s f T D U h;refine wpAny_Assign_stores (thn (k a s f T _ U h) λv s1 Q=>?_) m n;obtain⟨x,i,j,p,o⟩:=Q;rw[h1];exact thn (l a s1 f i x v _ j p o) λ_ r q=>q
def QV{i:Nat}{x:aO}{e:gm}{c:TE}{a:bB}(k:X.N.Nodup)(n:X.N[i]?=I x)(p:Loc X.env.scope x)(l:PE X e c)(o:cE e (I<|.Name x a) d.line X.env=pure J:=by rfl)(m:X.fn x=Y\/X.env.scope.names.lookup x=I .local:=by first|exact .inl rfl|exact .inr rfl|assumption):
  PS X (.Assign [.Name x a] e d) (PQ c<|Di i):=by
 intro b s t T D U h;refine wpAny_Assign_Name (thn (l b s t T _ U h) λv s1 Q=>?_) o;obtain⟨y,f,g,r,q⟩:=Q;exact Cv g k n p r (λu j=>⟨_,f,j,q⟩) m
def PM(c:TT)(i:TS):TS:=λD a U=> ∃W:Nat->St->Hp->Prop,(∃m,W m a U)/\ ∀m a U,W m a U->
 c a U λb g=>if b=Y then ∃N:St->Hp->Prop,(∀e f,N e f-> ∃h,h<m/\W h e f)/\i {D with nx:=N,ct:=N,bk:=D.nx} a g else D.nx a g
def KI{c:gm}{i:List cb}{L:TT}{E:TS}(C:d6 (ah X.prog X.w) X.A X.env X.xe)(T:PT X c L)(Q:PSs X i E):PS X (.While c i [] d) (PM L E):=by
 intro a s F H D I h;obtain⟨W,⟨G,U⟩,k⟩:=h;refine wpAny_While<|codeAny_whileLoop (λn J=> ∃l x,Inv X a l x J/\W n l x) ?_ G ⟨F,H,I,U⟩;rintro n s1 ⟨g,H1,O,Y'⟩;refine tw C<|thn (T a s1 g H1 _ O (k n g H1 Y')) λb M a'=>?_;obtain⟨y,z,m⟩:=a'
 cases b with
 |true=>
  obtain⟨N,B,m⟩:=m;rw[gr K3];refine tw C<|thn (Q a M g y _ z m) λf K o=>?_
  cases f with
  |next=>obtain⟨e,j,p,t⟩:=o;obtain⟨r,q,u⟩:=B e j t;exact⟨r,q,e,j,p,u⟩
  |cont=>obtain⟨e,j,p,t⟩:=o;obtain⟨r,q,u⟩:=B e j t;exact⟨r,q,e,j,p,u⟩
  |brk=>exact o
  |ret v=>exact o
 |false=>rw[gD jD];exact Es ⟨g,y,z,m⟩
end
structure It where
 go:Nat->Hp->Prop
 yld:Nat->Hp->V->Hp->Prop
 stop:Nat->Hp->Prop
def qO(X:Cx)(a:gU)(U:Hp)(b:fV):Prop:=
 U b=C/\b≠X.env.locals/\b∉X.fs/\(b∈X.ex\/X.s₀.heap.objs.size<=b)/\(∀x c,X.env.cells.lookup x=I c->c≠b)/\ ∀p∈X.pn++a,p.1≠b
def Inv.fpOk{X:Cx}{a:gU}{i:St}{T f:Hp}{s:fY}{b:fV}(U:Inv X a i T s)(d:s.heap.objs.size<=b)(g:f b=C):qO X a f b:=by
 refine⟨g,mN<|mO U.lt d,U.nofs d,.inr<|lh U.sz d,λx c e z=>?_,λp h z=>?_⟩
 .obtain⟨v,q⟩:=U.cell x c e;exact absurd (mO q.lt<|by rw[z];exact d)<|oE _
 .exact absurd (mO (iM (U.pin p h).1)<|by rw[z];exact d) (oE _)
structure Turn(P:gM)(w:gB)(K:gy)(tg:gm)(J:It)(fp:jz)(it:fV)(tn:Nat->gH->Prop):Prop where
 mem:it∈fp
 obj: ∀i h,tn i h-> ∀b∈fp,∃o,h.get? b=I8 o/\ ∀v,o.data≠ .cell v
 keep: ∀i h h',tn i h->(∀b∈fp,∀o,h.get? b=I8 o->h'.get? b=I8 o)->tn i h'
 item: ∀(X:Cx),X.prog=P->X.w=w->X.K=K->X.calm=KE-> ∀(i:Nat) (pins:gU) (s:fY) (σ:St) (H:Hp) (E:gX),Inv X pins σ H s->(∀b∈fp,qO X pins H b)->tn i s.heap->J.go i H->
  af (ah P w) X.A (ca<|.ref it) (λr s1=> ∃u,r=I8 u/\
   af (ah P w) X.A (dz tg (.ref it) u) (λ_ s2=> ∃x H',Inv X pins σ H' s2/\RelV x u/\J.yld i H x H'/\tn (i+1) s2.heap/\ ∀b∈fp,H' b=J4) E s1) E s
 done: ∀(X:Cx),X.prog=P->X.w=w->X.K=K->X.calm=KE-> ∀(i:Nat) (pins:gU) (s:fY) (σ:St) (H:Hp) (E:gX),Inv X pins σ H s->(∀b∈fp,qO X pins H b)->tn i s.heap->J.stop i H->
  af (ah P w) X.A (ca<|.ref it) (λr s1=>r=J4/\Inv X pins σ H s1) E s
 self: ∀(A:gJ) (i:Nat) (s:fY) (Q:gX) (E:gX),tn i s.heap->Q (.ref it) s->af (ah P w) A (cU<|.ref it) Q E s
abbrev TI:=St->Hp->(It->Hp->Prop)->Prop
def PIE(X:Cx)(a:gU)(j:St)(i:gm)(R:It->Hp->Prop)(h:gu)(f:fY):Prop:=
 ∃(e:fV) (d:jz) (g:Nat->gH->Prop) (U:It) (c:Hp),h= .ref e/\Inv X a j c f/\Turn X.prog X.w X.K i U d e g/\g 0 f.heap/\(∀b∈d,qO X a c b)/\R U c
def PI(X:Cx)(tg iter:gm)(c:TI):Prop:=
 ∀(a:gU) (s:fY) (b:St) (U:Hp) (R:It->Hp->Prop),Inv X a b U s->c b U R->
  af (ah X.prog X.w) X.A (aK iter X.env) (λv s1=>af (ah X.prog X.w) X.A (cU v) (PIE X a b tg R) X.xe s1) X.xe s
def L9{M:gi}{A:gJ}{E:gX}{s:fY}{c:gm}{b:fV}{u:gu}{o:en}{n:String}{d:lN}{Q:Unit->fY->Prop}(g:s.heap.get? b=I o)(e:o.cls= .type n)(hd:o.data= .fields d)
  (f:["enumerate","zip","dict_itemiterator","dict_reverseitemiterator","odict_iterator","itertools.zip_longest","itertools.pairwise"].contains n=J)(a:Q () s):af M A (dz c (.ref b) u) Q E s:=by
 unfold dz
 cases c<;>first
  |exact gn a
  |(cases u<;>first
    |exact gn a
    |(
      refine fX<|vU g ?_;rw[e,hd];show af M A (if(["enumerate","zip","dict_itemiterator","dict_reverseitemiterator","odict_iterator","itertools.zip_longest","itertools.pairwise"].contains n&&d[0]?==I (cu _))=Y then _ else _) Q E s;rw[gD (by intro h;rw[f,Bool.false_and] at h;cases h)];exact gn a))
noncomputable def Itl(K:gy)(a:fV):It:=
 ⟨λi U=> ∃b x,SqL K U a b/\b[i]?=I x,λi U x c=>c=U/\ ∀b,SqL K U a b->b[i]?=I x,λi U=> ∃b,SqL K U a b/\(Ls b)<=i⟩
noncomputable def Itt(K:gy)(a:fV):It:=
 ⟨λi U=> ∃b x,SqT K U a b/\b[i]?=I x,λi U x c=>c=U/\ ∀b,SqT K U a b->b[i]?=I x,λi U=> ∃b,SqT K U a b/\(Ls b)<=i⟩
noncomputable def Itr(lo:Int)(n:Nat):It:=⟨λi _=>i<n,λi U x a=>a=U/\x= .int (lo+i),λi _=>n<=i⟩
def Hh{P:gM}{w:gB}{K:gy}{tg:gm}(a j:fV):Turn P w K tg (Itl K a) [j] j (λi h=>h.IsListIter j a i) where
 mem:=by simp
 obj:=λi h st b g=>by
  have e:b=j:=by simpa using g
  subst e;obtain⟨o,e,c,d⟩:=st;exact⟨o,e,λv z=>by rw[d] at z;cases z⟩
 keep:=λi h l st k=>st.at λo e=>k j (by simp) o e
 item:=by intro X A C y G i f s J H E I m st B;subst A C y;obtain⟨S,x,n,L⟩:=B;obtain⟨O,Q,p,D⟩:=I.list n;obtain⟨u,U,F⟩:=Q.get L;obtain⟨f0,f1,f2,q,r,t⟩:=m j (by simp);refine wpAny_pyNext_list_item st p.isList (x:=u) (by simpa using U) λl T R=>?_;have M:Inv X f J H {s with heap:=l}:=I.turned (t':=s.toks) (λb o g e=>(R.2 b g).trans e) f0 f1 q r t;obtain⟨o,e,c,d⟩:=id T;exact⟨u,rfl,L9 (s:={s with heap:=l}) e c d (by decide) ⟨x,H,M,F,⟨rfl,λW Y=>by rw[I.list_inj Y n];exact L⟩,T,λb g=>(m b g).1⟩⟩
 done:=by intro X A C y G i f s J H E I m st B;subst A C y;obtain⟨S,n,L⟩:=B;obtain⟨O,Q,p,D⟩:=I.list n;obtain⟨f0,f1,f2,q,r,t⟩:=m j (by simp);have V:=Q.length;exact wpAny_pyNext_list_end (I.ok.hd G) st p.isList (by simp;lia) λl N=>⟨rfl,I.turned (t':=s.toks) (λb o g e=>N b o g e) f0 f1 q r t⟩
 self:=λ_ _ _ _ _ st h=>wpAny_pyIter_listiter st h
def Ez{P:gM}{w:gB}{K:gy}{tg:gm}(a j:fV):Turn P w K tg (Itt K a) [j] j (λi h=>h.IsTupleIter j a i) where
 mem:=by simp
 obj:=λi h st b g=>by
  have e:b=j:=by simpa using g
  subst e;obtain⟨o,e,c,d⟩:=st;exact⟨o,e,λv z=>by rw[d] at z;cases z⟩
 keep:=λi h m st k=>st.at λo e=>k j (by simp) o e
 item:=by intro X B L A G i f s J H E I n st C;subst B L A;obtain⟨S,x,q,O⟩:=C;obtain⟨l,Q,p,D⟩:=I.tuple q;obtain⟨u,U,F⟩:=Q.get O;obtain⟨f0,f1,f2,r,t,y⟩:=n j (by simp);refine wpAny_pyNext_tuple_item st (show s.heap.IsTuple a l.toArray from p) (x:=u) (by simpa using U) λm T R=>?_;have M:Inv X f J H {s with heap:=m}:=I.turned (t':=s.toks) (λb o g e=>(R.2 b g).trans e) f0 f1 r t y;obtain⟨o,e,c,d⟩:=id T;exact⟨u,rfl,L9 (s:={s with heap:=m}) e c d (by decide) ⟨x,H,M,F,⟨rfl,λW Y=>by rw[I.tuple_inj Y q];exact O⟩,T,λb g=>(n b g).1⟩⟩
 done:=by intro X B L A G i f s J H E I n st C;subst B L A;obtain⟨S,q,O⟩:=C;obtain⟨l,Q,p,D⟩:=I.tuple q;obtain⟨f0,f1,f2,r,t,y⟩:=n j (by simp);have V:=Q.length;exact wpAny_pyNext_tuple_end (I.ok.hd G) st (show s.heap.IsTuple a l.toArray from p) (by simp;lia) λm N=>⟨rfl,I.turned (t':=s.toks) (λb o g e=>N b o g e) f0 f1 r t y⟩
 self:=λ_ _ _ _ _ st h=>wpAny_pyIter_tupleiter st h
def EA{P:gM}{w:gB}{K:gy}{Q:gm}(a:fV)(lo:Int)(n:Nat):Turn P w K Q (Itr lo n) [a] a (λi h=>IX h a (lo+(i:Nat)*1) ((n:Int)-(i:Nat)) 1) where
 mem:=by simp
 obj:=λi h st b d=>by
  have e:b=a:=by simpa using d
  subst e
  exact⟨_,st,λv z=>by have T:fy _=eu v:=z;cases T⟩
 keep:=λi h f st k=>k a (by simp) _ st
 item:=by intro X q x p r i c s B N E U g st u;subst q x p;obtain⟨f0,f1,f2,j,l,m⟩:=g a (by simp);have W:=Walks.range (prog:=X.prog) (w:=X.w) (U.ok.hd r) a lo 1 n;refine W.item i s _ _ u st λv f A hv y O=>?_;obtain⟨t,rfl⟩:=hv;have M:Inv X c B N {s with heap:=f,toks:=A}:=U.turned (λb o d e=>O b o (by simpa using d) e) f0 f1 j l m;refine⟨_,rfl,L9 (s:={s with heap:=f,toks:=A}) (n:="range_iterator") y H H (by decide) ⟨.int<|lo+i,N,M,⟨t,?_⟩,⟨rfl,rfl⟩,y,λb d=>(g b d).1⟩⟩;rw[ye]
 done:=by intro X q x p r i c s B N E U g st u;subst q x p;obtain⟨f0,f1,f2,j,l,m⟩:=g a (by simp);exact wpAny_pyNext_range_end (U.ok.hd r) st (by have:n<=i:=u;lia) λf L=>⟨rfl,U.turned (t':=s.toks) (λb o d e=>L b o d e) f0 f1 j l m⟩
 self:=λ_ _ _ _ _ st h=>wpAny_pyIter_rangeiter st h
section
variable {X:Cx}{tg:gm}
def Us(K:gy)(c:TE):TI:=λe U R=>c e U λx b=> ∃a,x= .ref a/\(∃d,SqL K b a d)/\R (Itl K a) b
def V6(K:gy)(c:TE):TI:=λe U R=>c e U λx b=> ∃a,x= .ref a/\(∃d,SqT K b a d)/\R (Itt K a) b
def NY{l:gm}{f:TE}(j:PE X l f):PI X tg l (Us X.K f):=by
 intro c s t T R U h;refine thn (j c s t T _ U h) λv s1 Q=>?_;obtain⟨x,g,d,r,n⟩:=Q;obtain⟨a,e,⟨y,k⟩,q⟩:=n;subst e;cases r;obtain⟨m,w,p,u⟩:=d.list k;refine yd p.isList ?_;refine⟨s1.heap.objs.size,[s1.heap.objs.size],_,_,g,rfl,d.kept (t':=s1.toks) λb o e=>iF _ e,Hh a _,⟨_,iQ _ rfl,rfl,rfl⟩,λb i=>?_,q⟩;have e:b=s1.heap.objs.size:=by simpa using i
 subst e;exact d.fpOk (iD _)<|d.hok.fresh<|iD _
def Q2{l:gm}{g:TE}(k:PE X l g):PI X tg l (V6 X.K g):=by
 intro c s t T R U h;refine thn (k c s t T _ U h) λv s1 Q=>?_;obtain⟨x,i,d,r,n⟩:=Q;obtain⟨a,e,⟨y,m⟩,q⟩:=n;subst e;cases r;obtain⟨f,w,p,u⟩:=d.tuple m;refine Er (show s1.heap.IsTuple a f.toArray from p) ?_;refine⟨s1.heap.objs.size,[s1.heap.objs.size],_,_,i,rfl,d.kept (t':=s1.toks) λb o e=>iF _ e,Ez a _,⟨_,iQ _ rfl,rfl,rfl⟩,λb j=>?_,q⟩;have e:b=s1.heap.objs.size:=by simpa using j
 subst e;exact d.fpOk (iD _)<|d.hok.fresh<|iD _
def CI{c:gU}{g:St}{T:Hp}{s:fY}{R:It->Hp->Prop}{E:gX}{lo a:Int}{t u v:n3}{f:Nat}(U:Inv X c g T s)(h1: -(2^62)<=lo)(j:lo<2^62)(k: -(2^62)<=a)(l:a<2^62)
  (q:R (Itr lo (a-lo).toNat) T):af (ah X.prog X.w) X.A (cU<|.ref s.heap.objs.size) (PIE X c g tg R) E {s with heap:=s.heap.push {cls:= .type "range",data:= .fields #[.int lo t,.int a u,.int 1 v]},toks:=f}:=by
 refine wpAny_pyIter_range (IsRange.new ..) (small_one h1 j k l) ?_;have d:Inv X c g T {s with heap:=s.heap.push {cls:= .type "range",data:= .fields #[.int lo t,.int a u,.int 1 v]},toks:=f}:=U.kept λb o e=>iF _ e
 refine⟨(s.heap.push {cls:= .type "range",data:= .fields #[.int lo t,.int a u,.int 1 v]}).objs.size,[(s.heap.push {cls:= .type "range",data:= .fields #[.int lo t,.int a u,.int 1 v]}).objs.size],_,_,T,rfl,
  d.kept (t':=f) λb o e=>iF _ e,EA _ lo (a-lo).toNat,?_,λb m=>?_,q⟩
 .have h:lo+((0:Nat):Int)*1=lo:=by simp
  have i:(((a-lo).toNat:Nat):Int)-((0:Nat):Int)=d7 lo a 1:=by rw[w6];split<;>lia
  show IX _ _ (lo+((0:Nat):Int)*1) ((((a-lo).toNat:Nat):Int)-((0:Nat):Int)) 1;rw[h,i];exact iQ _ rfl
 .have e:b=(s.heap.push {cls:= .type "range",data:= .fields #[.int lo t,.int a u,.int 1 v]}).objs.size:=by simpa using m
  subst e;exact d.fpOk (iD _)<|d.hok.fresh<|iD _
def Ur(b:TA):TI:=λd U R=>b d U λc a=> ∃j:Int,c=[.int j]/\ -(2^62)<=j/\j<2^62/\R (Itr 0 j.toNat) a
def Uq(b:TA):TI:=λd U R=>b d U λc a=> ∃i j:Int,c=[.int i,.int j]/\(-(2^62)<=i/\i<2^62/\ -(2^62)<=j/\j<2^62)/\R (Itr i (j-i).toNat) a
def HL{a:gm}{f:TA}{p c:bB}(k:Gl X "range")(l:X.mg "range"=C)(i:PA X [a] f)(m:aa [a] X.env=[(J,aK a X.env)]:=by rfl):PI X tg (.Call (.Name "range" p) [a] [] c) (Ur f):=by
 intro b s v T R U h;refine Call_<|ou U k l Bh<|yc (thn (i c b s v T _ U h) λx s1 Q=>?_) m H;obtain⟨y,w,g,o,d⟩:=Q;obtain⟨j,e,d,n,q⟩:=d;subst e
 cases o with
 |cons r u=>
  cases u;obtain⟨t,rfl⟩:=r;exact call_range_1<|CI g (by lia) (by lia) d n (by simpa using q)
def HK{a b:gm}{k:TA}{p d:bB}(o:Gl X "range")(u:X.mg "range"=C)(n:PA X [a,b] k)(v:aa [a,b] X.env=[(J,aK a X.env),(J,aK b X.env)]:=by rfl)(l:aa [b] X.env=[(J,aK b X.env)]:=by rfl):
  PI X tg (.Call (.Name "range" p) [a,b] [] d) (Uq k):=by
 intro c s B T R U h;refine Call_<|ou U o u Bh<|yc (thn (n d c s B T _ U h) λL s1 N=>?_) (by rw[v,l]) (by rw[l];rfl);obtain⟨O,Q,m,A,f⟩:=N;obtain⟨i,j,e,⟨f,w,x,y⟩,q⟩:=f;subst e
 cases A with
 |cons r g=>
  cases g with
  |cons z g=>
   cases g;obtain⟨t,rfl⟩:=r;obtain⟨E,rfl⟩:=z;exact Ch<|CI m f w x y q
def Vi(k:TI)(g:TG)(j:TS):TS:=λD a U=>k a U λT f=> ∃W:Nat->Nat->St->Hp->Prop,(∃m,W 0 m a f)/\ ∀i m a U,W i m a U->
 (T.stop i U/\D.nx a U)\/(T.go i U/\ ∃N:St->Hp->Prop,(∀c b,N c b-> ∃e,e<m/\W (i+1) e c b)/\ ∀x b,T.yld i U x b->g x a b λd h=>j {D with nx:=N,ct:=N,bk:=D.nx} d h)
noncomputable def yx(a:jz)(h:gH):List (fV×en):=a.filterMap λb=>(h.get? b).map λo=>(b,o)
def pf{a:jz}{h:gH}{b:fV}{o:en}(c:b∈a)(e:h.get? b=I o):(b,o)∈yx a h:=dS.mpr ⟨b,c,by rw[e];rfl⟩
def HR{a:jz}{h:gH}{p:fV×en}(f:p∈yx a h):p.1∈a/\h.get? p.1=I p.2:=by
 obtain⟨b,d,e⟩:=dS.mp f
 cases q:h.get? b with
 |none=>rw[q] at e;cases e
 |some o=>rw[q] at e;have c:(b,o)=p:=jn e;subst c;exact⟨d,q⟩
def Inv.pinned{a:gU}{h:St}{T:Hp}{s:fY}{c:jz}(U:Inv X a h T s)(i: ∀b∈c,qO X a T b)(j: ∀b∈c,∃o,s.heap.get? b=I o/\ ∀v,o.data≠ .cell v):Inv X (a++yx c s.heap) h T s:=
 U.pins_of λp k=>(nO.mp k).elim (λz=>U.pin p<|oD _ z) λz=>by obtain⟨g,e⟩:=HR z;obtain⟨f0,f1,f2,_⟩:=i p.1 g;obtain⟨o,f,d⟩:=j p.1 g;rw[e] at f;cases f;exact⟨e,f0,f1,f2,d⟩
def Inv.unpinned{a d:gU}{b:St}{T:Hp}{s:fY}(U:Inv X (a++d) b T s):Inv X a b T s:=U.pins_of λp c=>U.pin p<|oD _ (Bi _ c)
def QY{iter:gm}{y:List cb}{wi:TI}{g:TG}{tb:TS}{U:bB}(C:d6 (ah X.prog X.w) X.A X.env X.xe)(hc:X.calm=KE)(hi:PI X tg iter wi)(hg:PG X tg g)(l:PSs X y tb)
  (hs: ∀x,au iter X.env x=pure x:=by intro _;rfl):PS X (.For tg iter y [] U) (Vi wi g tb):=by
 intro a s P H D I h;refine wpAny_For (thn (hi a s P H _ I h) λv s1 h1=>thn h1 λbW s2 Z=>?_) hs;obtain⟨it,B,K,J,R,e,S,T,u6,f2,W,⟨m0,w0⟩,L⟩:=Z;subst e;have M: ∀{t:Hp},(∀b∈B,t b=J4)-> ∀b∈B,qO X a t b:=λhn b l=>⟨hn b l,(f2 b l).2⟩
 refine codeAny_forLoop_any (λn F=> ∃i p t,Inv X a p t F/\K i F.heap/\(∀b∈B,t b=J4)/\W i n p t) ?_ m0 ⟨0,P,R,S,u6,λb l=>(f2 b l).1,w0⟩;rintro n s3 ⟨i,q,O,I3,cq,cg,w3⟩;rcases L i n q O w3 with⟨stop,qn⟩|⟨go,N,hN,step⟩
 .refine tw C (thn (T.done X K3 K3 K3 hc i a s3 q O X.xe I3 (M cg) cq stop) λr s4 a'=>?_);obtain⟨G,I4⟩:=a';subst G;exact Es ⟨q,O,I4,qn⟩
 .refine tw C (thn (T.item X K3 K3 K3 hc i a s3 q O X.xe I3 (M cg) cq go) λr s4 a'=>?_);obtain⟨u,G,h4⟩:=a';subst G;refine tw C<|thn h4 λ_ s5 a'=>?_;obtain⟨x,H5,I5,r5,y5,Q,fw⟩:=a';have V:=I5.pinned (M fw)<|T.obj _ _ Q;refine tw C<|thn (hg _ s5 q H5 x u _ V r5 (step x H5 y5)) λ_ s6 a'=>?_;obtain⟨σ6,H6,I6,q6⟩:=a';refine tw C (thn (l _ s6 σ6 H6 _ I6 q6) λf Y z=>?_)
  have again: ∀{c:St} {j:Hp},Inv X (a++yx B s5.heap) c j Y->N c j-> ∃m,m<n/\ ∃i p t,Inv X a p t Y/\K i Y.heap/\(∀b∈B,t b=J4)/\W i m p t:=λ{c j} k E=>by obtain⟨m',hm,w7⟩:=hN c j E;refine⟨m',hm,i+1,c,j,k.unpinned,T.keep _ _ _ Q λb l o e=>(k.pin (b,o)<|oD _ (oD _ (pf l e))).1,λb l=>?_,w7⟩;obtain⟨o,e,d⟩:=T.obj _ _ Q b l;exact(k.pin (b,o)<|oD _ (oD _ (pf l e))).2.1
  cases f with
  |next=>obtain⟨c,j,k,E⟩:=z;exact again k E
  |cont=>obtain⟨c,j,k,E⟩:=z;exact again k E
  |brk=>obtain⟨c,j,k,z⟩:=z;exact⟨c,j,k.unpinned,z⟩
  |ret v=>obtain⟨x7,c,j,k,r7,z⟩:=z;exact⟨x7,c,j,k.unpinned,r7,z⟩
end
abbrev R2:=V->V->Hp->VK->Prop
def OpR(X:Cx)(f:wU)(r:R2):Prop:=
 ∀(a:gU) (s:fY) (b:St) (U:Hp) (x y:V) (v u:gu) (Q:VK),Inv X a b U s->RelV x v->RelV y u->r x y U Q->
  af (ah X.prog X.w) X.A (f v u) (EP X a b Q) X.xe s
def UnR(X:Cx)(f:gu->da gu)(r:V->Hp->VK->Prop):Prop:=
 ∀(a:gU) (s:fY) (b:St) (U:Hp) (x:V) (v:gu) (Q:VK),Inv X a b U s->RelV x v->r x U Q->
  af (ah X.prog X.w) X.A (f v) (EP X a b Q) X.xe s
def jw(X:Cx)(f:gu)(r:List V->Hp->VK->Prop):Prop:=
 ∀(a:gU) (s:fY) (d:St) (U:Hp) (c:List V) (b:il) (Q:VK),Inv X a d U s->Vals c b->r c U Q->
  af (ah X.prog X.w) X.A (call f b) (EP X a d Q) X.xe s
noncomputable def tOp(r:R2)(d e:TE):TE:=λa U Q=>d a U λx b=>e a b λy c=>r x y c Q
def tUn(r:V->Hp->VK->Prop)(b:TE):TE:=λc U Q=>b c U λx a=>r x a Q
def rI(T:Int->Int->Prop)(g:Int->Int->V):R2:=λx y U Q=> ∃i j,x= .int i/\y= .int j/\T i j/\Q (g i j) U
def rI0(g:Int->Int->V):R2:=λx y U Q=> ∃i j,x= .int i/\y= .int j/\Q (g i j) U
def rU(g:Int->V):V->Hp->VK->Prop:=λx U Q=> ∃i,x= .int i/\Q (g i) U
section
variable {X:Cx}{a b c:gm}{l m o:TE}{n:bB}
def Sd(t:PE X a l)(z:PE X b m){d:gU}{s:fY}{g:St}{T:Hp}{R:V->V->Hp->Prop}(U:Inv X d g T s)
  (h:l g T λx p=>m g p λy e=>R x y e){Q:gX}{f:wU}
  (B: ∀v u k x y e,Inv X d g e k->RelV x v->RelV y u->R x y e->af (ah X.prog X.w) X.A (f v u) Q X.xe k):
  af (ah X.prog X.w) X.A (aK a X.env) (λv i=>af (ah X.prog X.w) X.A (aK b X.env) (λu j=>af (ah X.prog X.w) X.A (f v u) Q X.xe j) X.xe i) X.xe s:=by
 refine thn (t d s g T _ U h) λv s1 M=>?_;obtain⟨x,p,q,L,N⟩:=M;refine thn (z d s1 g p _ q N) λu k M=>?_;obtain⟨y,e,r,O,E⟩:=M;exact B v u k x y e r L O E
def T3{e:Operator}{r:R2}(k:OpR X (aP e) r)(i:PE X a l)(j:PE X b m):PE X (.BinOp a e b n) (tOp r l m):=by intro d s z T Q U h;exact wpAny_BinOp<|Sd i j U h λv u w x y f g p t q=>k d w z f x y v u Q g p t q
def TY{e:UnaryOp}{r:V->Hp->VK->Prop}(k:UnR X (B0 e) r)(j:PE X a l):PE X (.UnaryOp e a n) (tUn r l):=by intro d s f T Q U h;exact UnaryOp_ (thn (j d s f T _ U h) λv s1 O=>by obtain⟨x,g,i,q,p⟩:=O;exact k d s1 f g x v Q i q p)
def opI{f:wU}{O:Int->Int->Prop}{g:Int->Int->Int}
  (rule: ∀(i j:Int) (t u:n3) (s:fY) (Q:gX) (E:gX),O i j->Q (.int (g i j) s.toks) {s with toks:=s.toks+1}->af (ah X.prog X.w) X.A (f (.int i t)<|.int j u) Q E s):
  OpR X f (rI O λi j=> .int (g i j)):=by
 intro d s z T x y v u Q U k p h;obtain⟨i,j,rfl,rfl,e,q⟩:=h;obtain⟨t,rfl⟩:=k;obtain⟨r,rfl⟩:=p;exact rule i j t r s _ _ e ⟨.int<|g i j,T,U.tok _,⟨_,rfl⟩,q⟩
def Rv{f:wU}{g:Int->Int->Int}
  (rule: ∀(i j:Int) (t u:n3) (s:fY) (Q:gX) (E:gX),Q (.int (g i j) s.toks) {s with toks:=s.toks+1}->af (ah X.prog X.w) X.A (f (.int i t)<|.int j u) Q E s):
  OpR X f (rI0 λi j=> .int (g i j)):=by
 intro d s r T x y v u Q U e k h;obtain⟨i,j,rfl,rfl,q⟩:=h;obtain⟨t,rfl⟩:=e;obtain⟨p,rfl⟩:=k;exact rule i j t p s _ _ ⟨.int<|g i j,T,U.tok _,⟨_,rfl⟩,q⟩
def Og{f:wU}{g:Int->Int->Bool}
  (rule: ∀(i j:Int) (t u:n3) (s:fY) (Q:gX) (E:gX),Q (.bool<|g i j) s->af (ah X.prog X.w) X.A (f (.int i t)<|.int j u) Q E s):
  OpR X f (rI0 λi j=> .bl (g i j)):=by
 intro d s r T x y v u Q U e k h;obtain⟨i,j,rfl,rfl,q⟩:=h;obtain⟨t,rfl⟩:=e;obtain⟨p,rfl⟩:=k;exact rule i j t p s _ _ ⟨.bl<|g i j,T,U,rfl,q⟩
def IH(i j:Int):Prop:=0<j/\j<1073741824
def vz(i j:Int):Prop:=0<=j/\j<=1000000/\i.natAbs<2^64
def CMul(i j:Int):Prop:=(-(2^64)<i/\i<2^64)\/(-(2^64)<j/\j<2^64)
def CMul.ok{i j:Int}(h:CMul i j):IntMulOk i j:=by
 rcases h with⟨h1,d⟩|⟨h1,d⟩
 .exact .of_left (w9 h1 d)
 .exact .of_right (w9 h1 d)
def Ex(k:Nat):(0:Int)<=2^k:=by rw[two_pow_cast];exact Int.natCast_nonneg _
def Ru:OpR X (aP .Add) (rI0 λi j=> .int (i+j)):=Rv λ_ _ _ _ _ _ _ q=>add_int q
def Rh:OpR X (aP .Sub) (rI0 λi j=> .int (i-j)):=Rv λ_ _ _ _ _ _ _ q=>sub_int q
def Rm:OpR X (aP .Mult) (rI CMul λi j=> .int (i*j)):=opI λ_ _ _ _ _ _ _ d q=>mul_int q d.ok
def Oe:OpR X (aP .FloorDiv) (rI IH λi j=> .int (i / j)):=opI λi j _ _ _ _ _ d q=>by have h1:(0:Int)<j:=d.1;have e:j<1073741824:=d.2;exact floordiv_int (by lia) (by rw[JE i<|by lia];exact q)<|.inl<|PyProof.noPylong_small (by lia)
def Ro:OpR X (aP .Mod) (rI (λ_ j=>0<j) λi j=> .int (i%j)):=opI λi j _ _ _ _ _ d q=>by have h1:(0:Int)<j:=d;exact mod_int' (by lia) (by rw[Int.fmod_eq_emod_of_nonneg i<|by lia];exact q)
def Rk:OpR X (aP .Pow) (rI vz λi j=> .int (i^j.toNat)):=opI λ_ _ _ _ _ _ _ d q=>pow_int_small d.1 d.2.1 d.2.2 q
def Rj:OpR X (aP .LShift) (rI vz λi j=> .int (i*2^j.toNat)):=opI λ_ _ _ _ _ _ _ d q=>lshift_int_small d.1 d.2.1 d.2.2 q
def Ri:OpR X (aP .RShift) (rI (λ_ j=>0<=j) λi j=> .int (i / 2^j.toNat)):=opI λi j _ _ _ _ _ d q=>rshift_int d (by rw[JE i<|Ex _];exact q)
def Rt:OpR X (aP .BitAnd) (rI0 λi j=> .int (bQ i j)):=Rv λ_ _ _ _ _ _ _ q=>and_int q
def unI{f:gu->da gu}{g:Int->Int}
  (rule: ∀(i:Int) (t:n3) (s:fY) (Q:gX) (E:gX),Q (.int (g i) s.toks) {s with toks:=s.toks+1}->af (ah X.prog X.w) X.A (f<|.int i t) Q E s):
  UnR X f (rU λi=> .int (g i)):=by
 intro d s j T x v Q U e h;obtain⟨i,rfl,q⟩:=h;obtain⟨t,rfl⟩:=e;exact rule i t s _ _ ⟨.int<|g i,T,U.tok _,⟨_,rfl⟩,q⟩
def PL:UnR X (B0 .USub) (rU λi=> .int (-i)):=unI λ_ _ _ _ _ q=>neg_int q
def B6{d:gU}{g:St}{T:Hp}{s:fY}{Q:VK}{k f:Bool}(U:Inv X d g T s)(q:Q (.bl k) T)(e:k=f):EP X d g Q (.bool f) s:=by subst e;exact⟨.bl k,T,U,rfl,q⟩
def T7:OpR X (ap .Lt) (rI0 λi j=> .bl (decide<|i<j)):=Og λ_ _ _ _ _ _ _ q=>lt_int q
def T8:OpR X (ap .LtE) (rI0 λi j=> .bl (decide<|i<=j)):=Og λ_ _ _ _ _ _ _ q=>le_int q
def T9:OpR X (ap .Gt) (rI0 λi j=> .bl (decide<|j<i)):=Og λ_ _ _ _ _ _ _ q=>gt_int q
def Ua:OpR X (ap .GtE) (rI0 λi j=> .bl (decide<|j<=i)):=Og λ_ _ _ _ _ _ _ q=>ge_int q
def Ln:OpR X (ap .Is) (λx y T Q=>y= .non/\Q (.bl<|decide<|x= .non) T):=by
 intro d s g T x y v u Q U e f h;obtain⟨rfl,q⟩:=h;cases f;refine is_none_gen<|B6 U q ?_
 cases x<;>first
  |(cases e;rfl)
  |(obtain⟨t,rfl⟩:=e;rfl)
def Gp:OpR X (ap .IsNot) (λx y T Q=>y= .non/\Q (.bl (!decide (x= .non))) T):=by
 intro d s g T x y v u Q U e f h;obtain⟨rfl,q⟩:=h;cases f;refine isnot_none_gen<|B6 U q ?_
 cases x<;>first
  |(cases e;rfl)
  |(obtain⟨t,rfl⟩:=e;rfl)
def Lx(b:gm){d:cd}(h:d≠ .In:=by decide)(g:d≠ .NotIn:=by decide):b7 d b=J:=by
 have e:(d==cd.In)=J:=by cases d<;>first|rfl|exact absurd H h
 have f:(d==CmpOp.NotIn)=J:=by cases d<;>first|rfl|exact absurd H g
 cases b<;>simp[b7,e,f]
def N3{e:cd}{r:R2}(p:OpR X (ap e) r)(i:PE X a l)(j:PE X b m)(k:b7 e b=J):PE X (.Compare a [e] [b] n) (tOp r l m):=by intro d s A T Q U h;exact wpAny_Compare1 (Sd i j U h λv u z x y f g t w q=>p d z A f x y v u Q g t w q) k
def Pb(t:TE):TT:=λe U Q=>t e U λx d=> ∃k,x= .bl k/\Q k d
def NM{g:cd}{r:R2}(L:OpR X (ap g) r)(B:PE X a l)(C:PE X b m)(E:b7 g b=K2):PT X (.Compare a [g] [b] n) (Pb<|tOp r l m):=by intro d s i H Q I h;refine wpAny_isTrue_Compare1 (thn (B d s i H _ I h) λv s1 f=>?_) E;obtain⟨x,j,t,J,O⟩:=f;refine thn (C d s1 i j _ t O) λu U f=>?_;obtain⟨y,p,w,M,T⟩:=f;refine thn (L d U i p x y v u _ w J M T) λc Y f=>?_;obtain⟨z,q,A,N,k,e,G⟩:=f;subst e;cases N;exact sf ⟨q,A,G⟩
def EB(r i:R2)(l m o:TE):TE:=λd U Q=>l d U λx f=>m d f λy g=>r x y g λz e=> ∃k,z= .bl k/\
 (if k=Y then o d e λj h=>i y j h Q else Q (.bl J) e)
def Lf{p g:cd}{r A:R2}(Y:OpR X (ap p) r)(s9:OpR X (ap g) A)(J:PE X a l)(M:PE X b m)(N:PE X c o)
  (U:d0 [p,g] [b,c]=K2:=by with_unfolding_all rfl):PE X (.Compare a [p,g] [b,c] n) (EB r A l m o):=by
 intro f s j H Q I h;refine Compare_chain (thn (J f s j H _ I h) λv s1 i=>?_) U;obtain⟨x,C,O,K,D⟩:=i;refine chain_link<|thn (M f s1 j C _ O D) λu R i=>?_;obtain⟨y,E,T,B,F⟩:=i;refine thn (Y f R j E x y v u _ T K B F) λd S i=>?_;obtain⟨z,q,t,P,k,e,w⟩:=i;subst e;cases P;refine sf ?_
 cases k with
 |false=>exact ite_ff ⟨.bl K2,q,t,rfl,w⟩
 |true=>exact ite_tt<|chain_last (thn (N f S j q _ t w) λw' s4 a'=>by obtain⟨z',L,G,r4,q4⟩:=a';exact s9 f s4 j L y z' u w' Q G B r4 q4)
def Ky{p i:cd}{r A:R2}(ho:OpR X (ap p) r)(s9:OpR X (ap i) A)(Y:PE X a l)(hb:PE X b m)(hc:PE X c o)
  (hm:d0 [p,i] [b,c]=K2:=by with_unfolding_all rfl):PT X (.Compare a [p,i] [b,c] n) (Pb<|EB r A l m o):=by
 intro f s j H Q I h;refine isTrue_chain (thn (Y f s j H _ I h) λv s1 g=>?_) hm;obtain⟨x,C,T,S,F⟩:=g;refine test_link<|thn (hb f s1 j C _ T F) λu s2 g=>?_;obtain⟨y,E,G,B,K⟩:=g;refine thn (ho f s2 j E x y v u _ G S B K) λd s3 g=>?_;obtain⟨z,q,t,V,k,e,w⟩:=g;subst e;cases V;refine sf ?_
 cases k with
 |false=>obtain⟨k',N,D⟩:=w;cases N;exact ite_ff ⟨q,t,D⟩
 |true=>refine ite_tt<|test_last<|thn (hc f s3 j q _ t w) λw' s4 g=>?_;obtain⟨z',L,J,W,P⟩:=g;refine thn (s9 f s4 j L y z' u w' _ J B W P) λd' s5 g=>?_;obtain⟨z2,O,M,Z,k2,U,R⟩:=g;subst U;cases Z;exact sf ⟨O,M,R⟩
def BM:(sizeLine:Nat)<2^63:=by rw[jB];decide
def EX:OpR X (aP .Add) (λx y T Q=> ∃i j,x= .str i/\y= .str j/\i.length+j.length<=sizeLine/\Q (.str<|i++j) T):=by intro d s p T x y v u Q U f g h;obtain⟨i,j,rfl,rfl,e,q⟩:=h;obtain⟨t,rfl⟩:=f;obtain⟨t',rfl⟩:=g;exact add_str (λt' k=>⟨.str<|i++j,T,U.tok _,⟨_,rfl⟩,q⟩) e
def oG{x:V}{d:il}(r:Vals [x] d): ∃u,d=[u]/\RelV x u:=by
 cases r with
 |cons e f=>cases f;exact⟨_,rfl,e⟩
def Cr{x y:V}{d:il}(r:Vals [x,y] d): ∃u e,d=[u,e]/\RelV x u/\RelV y e:=by
 cases r with
 |cons f g=>
  cases g with
  |cons h i=>cases i;exact⟨_,_,rfl,f,h⟩
def MD:jw X (.builtin "abs") (λe T Q=> ∃i,e=[.int i]/\Q (.int (if i<0 then -i else i)) T):=by intro d s j T e g Q U r h;obtain⟨i,rfl,q⟩:=h;obtain⟨u,rfl,t,rfl⟩:=oG r;exact EQ λu f=>⟨.int (if i<0 then -i else i),T,U.tok _,⟨_,rfl⟩,q⟩
def IB(g:X.calm=Y):jw X (.builtin "max") (λf T Q=> ∃i j,f=[.int i,.int j]/\Q (.int (if j>i then j else i)) T):=by
 intro e s z T f x Q U r h;obtain⟨i,j,rfl,q⟩:=h;obtain⟨u,y,rfl,⟨t,rfl⟩,⟨v,rfl⟩⟩:=Cr r;refine max_two_ints (U.ok.hd g) λp w k=>⟨_,T,U.kept k,?_,q⟩
 by_cases d:j>i
 .rw[gr d,gr d];exact⟨_,rfl⟩
 .rw[gD d,gD d];exact⟨_,rfl⟩
def IA(g:X.calm=Y):jw X (.builtin "min") (λf T Q=> ∃i j,f=[.int i,.int j]/\Q (.int (if j<i then j else i)) T):=by
 intro e s z T f x Q U r h;obtain⟨i,j,rfl,q⟩:=h;obtain⟨u,y,rfl,⟨t,rfl⟩,⟨v,rfl⟩⟩:=Cr r;refine min_two_ints (U.ok.hd g) λp w k=>⟨_,T,U.kept k,?_,q⟩
 by_cases d:j<i
 .rw[gr d,gr d];exact⟨_,rfl⟩
 .rw[gD d,gD d];exact⟨_,rfl⟩
def As:jw X (.type "int") (λd T Q=>(∃i,d=[.int i]/\Q (.int i) T)\/ ∃k,d=[.bl k]/\Q (.int (if k then 1 else 0)) T):=by
 intro e s j T d g Q U r h;rcases h with⟨i,rfl,q⟩|⟨k,rfl,q⟩
 .obtain⟨u,rfl,t,rfl⟩:=oG r;exact call_int_int ⟨.int i,T,U,⟨_,rfl⟩,q⟩
 .obtain⟨u,rfl,f⟩:=oG r;cases f;exact call_int_bool ⟨.int (if k then 1 else 0),T,U.tok _,⟨_,rfl⟩,q⟩
end
section
variable {a:gM}{w:gB}{A:gJ}{E:gX}{s:fY}{K:gy}{x d C f:fV}{c:lE}{b:aO}{v:gu}
end
section
variable {P:gM}{w:gB}{H e:Hp}{h c:gH}{a C d:fV}{fs b:List (aO×V)}
end
section
variable {X:Cx}{b:gU}{c:St}{H:Hp}{s:fY}{a C d:fV}{fs:List (aO×V)}{f:aO}{v:V}{A:gJ}{E:gX}
end
section
variable {X:Cx}{o e a:gm}{f:aO}{c b h:bB}{g d:TE}
end
section
variable {X:Cx}{a:gU}{d:St}{H:Hp}{s:fY}{A:gJ}{E:gX}{Q:gX}{c:gu}{b:Bool}
end
structure Room(k:Nat)(A:gJ):Prop where
 hd:A.handled=J4
 dp:A.depth+3*k+5<recursionLimit
 un:A.units+16*k+200<bc
 gd:A.guards=I8 []:=by rfl
def Room.mono{j k:Nat}{A:gJ}(r:Room k A)(h:j<=k):Room j A:=⟨r.hd,by have:=r.dp;lia,by have:=r.un;lia,r.gd⟩
def Room.deeper{k:Nat}{A:gJ}(r:Room (k+1) A)(a:eT):Room k (A.deeper a):=
 ⟨r.hd,by have:=r.dp;show A.depth+1+3*k+5<_;lia,by have:=r.un;show A.units+3+16*k+200<_;lia,r.gd⟩
def Room.depth{k:Nat}{A:gJ}(r:Room k A):A.depth<recursionLimit:=by have:=r.dp;lia
noncomputable def Vf:TA:=λ_ U Q=>Q [] U
noncomputable def Tf(d:TE)(e:TA):TA:=λa U Q=>d a U λx b=>e a b λf c=>Q (x::f) c
section
variable {X:Cx}{e:gm}{c:jg}{d:TE}{t:TA}{a:bB}
def wo:PA X [] Vf:=λ_ _ _ _ T Q U h=>Calls.spliced_nil ⟨[],T,U,.nil,h⟩
def oZ(l:PE X e d)(m:PA X c t)(n:aa (e::c) X.env=(J,aK e X.env)::aa c X.env:=by rfl):PA X (e::c) (Tf d t):=by intro a b s f T Q U h;rw[n];show af _ _ (B1 ((J,aK e X.env)::aJ a (aa c X.env))) _ _ s;refine Calls.spliced_cons<|thn (l b s f T _ U h) λu s1 O=>?_;obtain⟨x,g,j,q,o⟩:=O;exact thn (m a b s1 f g _ j o) λy w ⟨v,i,k,r,p⟩=>⟨x::v,i,k,.cons q r,p⟩
noncomputable def Vb(t:TA):TE:=λg U Q=>t g U λf b=>Ls f<=sizeLine/\ ∀p,b p=C->Q (.ref p) (upd b p<|.tup f)
noncomputable def Vg(t:TA):TE:=λg U Q=>t g U λf b=>Ls f<=sizeLine/\ ∀p,b p=C->Q (.ref p) (upd b p<|.lst f)
def Q5{x1}(h:PA X c t):PE X (.Tuple c x1 a) (Vb t):=by intro f s n T Q U k;refine wpAny_Tuple_spliced<|thn (h a f s n T _ U k) λl s1 ⟨m,g,i,r,z,q⟩=>⟨by rw[<-r.length];exact z,?_⟩;have j:g s1.heap.objs.size=C:=i.hok.fresh<|iD _;refine⟨.ref s1.heap.objs.size,upd g s1.heap.objs.size<|.tup m,i.laid (t':=s1.toks) (λb u e=>iF _ e) (iD _) ?_,rfl,q _ j⟩;exact⟨z,l,r,⟨_,iQ _ rfl,rfl,_,rfl⟩⟩
def Ra(h:PA X c t):PE X (.List c a) (Vg t):=by intro f s n T Q U k;refine wpAny_List_spliced<|thn (h a f s n T _ U k) λl s1 ⟨m,g,i,r,z,q⟩=>⟨by rw[<-r.length];exact z,?_⟩;have j:g s1.heap.objs.size=C:=i.hok.fresh<|iD _;refine⟨.ref s1.heap.objs.size,upd g s1.heap.objs.size<|.lst m,i.laid (t':=s1.toks) (λb u e=>iF _ e) (iD _) ?_,rfl,q _ j⟩;exact⟨z,l,0,r,iQ _ rfl⟩
end
abbrev Sp:=List V->Hp->VK->XK->Prop
abbrev CXT:=List eT->Hp->fY->XK->gu->fY->Prop
structure Env0(P:gM)(w:gB)(K:gy)(mg:lE)(base:gH)(A:gJ)(outer:List eT)(s:fY)(H:Hp):Prop where
 frames:A.frames=I8 outer
 mod:Mod K mg base
 bs: ∀b o,base.get? b=I8 o->s.heap.get? b=I8 o/\H b=J4
 bsz:base.objs.size<=s.heap.objs.size
 funs:s.heap.FunFrames base outer
 frf: ∀b∈frs outer,H b=J4
 hok:HOk P w H s.heap
 bare:dv s.gens
def CE(a:List eT)(P:gM)(w:gB)(U:Hp)(s:fY)(Q:VK)(u:gu)(b:fY):Prop:=
 ∃v c,b.os=s.os/\dv b.gens/\Un (frs a) [] U c s.heap b.heap/\HOk P w c b.heap/\RelV v u/\Q v c
def CR(c:CXT)(a:List eT)(P:gM)(w:gB)(U:Hp)(s:fY)(Q:VK)(E:XK)(r:h8)(b:fY):Prop:=
 match r with
 | .ok (.ret u)=>CE a P w U s Q u b
 | .ok _=>False
 | .error e=>c a U s E e b
structure FnOk(P:gM)(w:gB)(K:gy)(mg:lE)(base:gH)(CX:CXT)(k:Nat)(f:fV)(fd:mZ)(ps:hU)(sp:Sp):Prop where
 len: ∀vs H Q E,sp vs H Q E->Ls vs=Ls ps
 run: ∀(A:gJ) (outer:List eT) (s:fY) (H:Hp) (args:Args) (us:il) (vs:List V) (Q:VK) (E:XK),Room k A->Env0 P w K mg base A outer s H->eM s fd args (ps.zip us)->Vals vs us->sp vs H Q E->
  cJ (ah P w) A (.call (.ref f) args) (CR CX outer P w H s Q E) s
def FnOk.mono{P:gM}{w:gB}{K:gy}{e:lE}{base:gH}{c:CXT}{j k:Nat}{f:fV}{d:mZ}{g:hU}{i:Sp}(F:FnOk P w K e base c j f d g i)(h:j<=k):
  FnOk P w K e base c k f d g i:=⟨F.len,λA a s U b m n Q E l=>F.run A a s U b m n Q E<|l.mono h⟩
section
variable {X:Cx}{a:gU}{c:St}{H:Hp}{s e:fY}
def Inv.env0(U:Inv X a c H s):Env0 X.prog X.w X.K X.mg X.base X.A X.stack s H:=
 ⟨U.ok.frames,U.ok.mod,U.bs,lh U.ok.bsz U.sz,U.stack,U.stkFree,U.hok,U.bare⟩
def Inv.after{Q:VK}{u:gu}(U:Inv X a c H s)(h:CE X.stack X.prog X.w H s Q u e):EP X a c Q u e:=by obtain⟨v,j,os,f,un,i,r,q⟩:=h;obtain⟨l,g,d,t,k⟩:=e;obtain rfl:k=s.os:=os;exact⟨v,j,U.call (h':=l) (g':=g) (d':=d) (t':=t) (ch:=[]) un i f λb z=>absurd z<|by simp,r,q⟩
end
noncomputable def Th(c:Sp)(b:List V)(E:XK)(t:TA):TE:=λe U Q=>t e U λd a=>c (d++b) a Q E
def Binds(K:gy)(d:mZ)(c:hU)(b:il):Prop:=
 ∀(s:fY) (a:il),K.In s.heap->(a++b).length=Ls c->eM s d ⟨a,[]⟩ (c.zip<|a++b)
def Binds.all{K:gy}{c:mZ}{b:hU}(h: ∀a:List gu,Ls a=Ls b->wf c ⟨a,[]⟩=pure (b.zip a)):Binds K c b []:=λs a _ d=>by rw[tu] at d ⊢;exact .of_eq<|h a d
def FR(c:CXT)(X:Cx)(E:XK):Prop:= ∀(a:gU) (d:St) (U:Hp) (s:fY) (e:gu) (b:fY),Inv X a d U s->c X.stack U s E e b->X.xe e b
section
variable {X:Cx}{l:CXT}{k:Nat}{f C:fV}{j:mZ}{d:hU}{i:Sp}{c:List V}{b:il}{E:XK}{x m:aO}{p a n:bB}{e o:gm}{g:jg}{v:TE}{t:TA}
def P8{q:gU}{L:St}{H:Hp}{s:fY}{Q:VK}{y:il}{B:List V}(F:FnOk X.prog X.w X.K X.mg X.base l k f j d i)(M:Room k X.A)(G:Binds X.K j d b)(hd:Vals c b)(N:FR l X E)
  (I:Inv X q L H s)(r:Vals B y)(h:i (B++c) H Q E):af (ah X.prog X.w) X.A (call (.ref f) y) (EP X q L Q) X.xe s:=by
 have O:Vals (B++c) (y++b):=r.append hd;have J:(y++b).length=d.length:=by rw[<-O.length];exact F.len _ _ _ _ h
 refine m9<|se (F.run X.A X.stack s H ⟨y,[]⟩ (y++b) (B++c) Q E M I.env0 (G s y I.kIn J) O h) λr U z=>?_
 cases r with
 |error e=>exact N q L H s e U I z
 |ok T=>
  cases T with
  |ret u=>exact I.after z
  |next=>exact bX z
  |brk=>exact bX z
  |cont=>exact bX z
def N4(F:FnOk X.prog X.w X.K X.mg X.base l k f j d i)(G:Room k X.A)(O:Gl X x)(T:X.mg x=I8 (.ref f))(hk:ce X.K (.ref f)=Y)(B:Binds X.K j d b)(hd:Vals c b)(J:FR l X E)
  (z:PA X (e::g) t)(N:(x==("__debug__":aO))=K2:=by decide)(L:aa (e::g) X.env=(K2,aK e X.env)::aa g X.env:=by rfl)(M:(aJ a<|aa g X.env).any (·.1)=K2:=by rfl):
  PE X (.Call (.Name x p) (e::g) [] a) (Th i c E t):=by
 intro u s U H Q I h;refine vT<|GG I O T ?_ N;refine PySem.W.callWith_K (h₀:=X.base) I.ok.mod.kin hk (thn (z a u s U H _ I h) λus s1 ⟨vs,Y',y,r,q⟩=>⟨y.kIn,?_⟩) L M;exact P8 F G B hd J y r q
end
section
variable {X:Cx}{w:CXT}{k:Nat}{f C:fV}{s:mZ}{l q:hU}{j:Sp}{E:XK}{x m:aO}{p c b a:bB}{e o:gm}{u:jg}{v:List cM}{h i:TE}{t d:TA}{n:Option aO}
variable {g:List gu->List gu->List gu}{r:List V->List V->List V}
end
structure FnScope(N P:hU)(sc:jt):Prop where
 kind:sc.kind= .function
 co:sc.isCoroutine=K2
 gen:sc.isGenerator=K2
 nd:N.Nodup
 pre:N.take P.length=P
 par: ∀x∈P,sc.names.lookup x=I8 .local\/sc.names.lookup x=I8 .cell
 nofree: ∀y∈sc.names,y.2≠ .free
theorem Aw{kindOf:aO->Option cO}{x:aO}: ∀{binds:List (aO×gu)} {m:lE},(∀v,(x,v)∉binds)->f5 kindOf binds m x=m x
 |[],_,_=>rfl
 |(n,v)::r,m,h=>by
  unfold f5;rw[Aw λw a=>h w<|jd _ a];split
  .have:x≠n:=by rintro rfl;exact h v iX
   simp[this]
  .rfl
theorem Ay{kindOf:aO->Option cO}{x:aO}: ∀{binds:List (aO×gu)} {m:lE},(∀v,(x,v)∉binds)->f6 kindOf binds m x=m x
 |[],_,_=>rfl
 |(n,v)::r,m,h=>by
  unfold f6;rw[Ay λw a=>h w<|jd _ a];split
  .rfl
  .have:x≠n:=by rintro rfl;exact h v iX
   simp[this]
theorem Ax{kindOf:aO->Option cO}{x:aO}{v:gu}: ∀{P:hU} {a:il} {i:Nat} {m:lE},P.Nodup->P[i]?=I x->a[i]?=I v->kindOf x=I .local->
  f5 kindOf (P.zip a) m x=I v
 |[],_,_,_,_,h,_,_=>by simp at h
 |_::_,[],_,_,_,_,h,_=>by simp at h
 |p::P,w::a,0,m,c,h1,b,hk=>by simp at h1 b;subst h1;subst b;show f5 kindOf ((p,w)::P.zip a) m p=_;unfold f5;rw[Aw λv hv=>(Bj.mp c).1 (Ep hv).1,gr hk];simp
 |p::P,w::a,i+1,m,c,h1,b,hk=>by show f5 kindOf ((p,w)::P.zip a) m x=_;unfold f5;exact Ax (i:=i) (Bj.mp c).2 (by simpa using h1) (by simpa using b) hk
theorem Az{kindOf:aO->Option cO}{x:aO}{v:gu}: ∀{P:hU} {a:il} {i:Nat} {m:lE},P.Nodup->P[i]?=I x->a[i]?=I v->kindOf x≠I .local->
  f6 kindOf (P.zip a) m x=I v
 |[],_,_,_,_,h,_,_=>by simp at h
 |_::_,[],_,_,_,_,h,_=>by simp at h
 |p::P,w::a,0,m,c,h1,b,hk=>by simp at h1 b;subst h1;subst b;show f6 kindOf ((p,w)::P.zip a) m p=_;unfold f6;rw[Ay λv hv=>(Bj.mp c).1 (Ep hv).1,gD hk];simp
 |p::P,w::a,i+1,m,c,h1,b,hk=>by show f6 kindOf ((p,w)::P.zip a) m x=_;unfold f6;exact Az (i:=i) (Bj.mp c).2 (by simpa using h1) (by simpa using b) hk
noncomputable def pP(N:hU)(a:List V):St:=a.map I++ac (Ls N-Ls a) C
noncomputable def Dx(d:CXT)(P:gM)(w:gB)(K:gy)(g:lE)(base:gH)(N:hU)(qual:aO)(scope:jt)(f:fV)(b:gu)(A:gJ)(a:List eT)(s:fY)(U:Hp)(E:XK):Cx where
 prog:=P
 w:=w
 K:=K
 mg:=g
 base:=base
 A:=A.deeper<|cG qual scope s.heap.objs.size f b
 N:=N
 s₀:=s
 H₀:=U
 env:=cG qual scope s.heap.objs.size f b
 outer:=a
 stack:=cG qual scope s.heap.objs.size f b::a
 ex:=[]
 calm:=Y
 fn:=λ_=>Y
 pn:=[]
 xe:=λe j=>af (ah P w) (A.deeper<|cG qual scope s.heap.objs.size f b) (leaving (cG qual scope s.heap.objs.size f b) e) (λ_ c=>d a U s E e c) (λi c=>d a U s E i c) j
def DC{a:jt}{n:Nat}{x:aO}(h:a.names.lookup x=I .cell): ∃c,(bi n a.names []).lookup x=I c:=by have q:=Bg a.names n []<|.inl h;exact JI.mp q
def Ia{T:CXT}{P:gM}{w:gB}{K:gy}{O:lE}{base:gH}{N m:hU}{qual:aO}{scope:jt}{f:fV}{C:gu}{A:gJ}{d:List eT}{s s1:fY}{H:Hp}{E:XK}{Q:il}{o:List V}
  (S:FnScope N m scope)(hd:A.handled=J4)(j:Env0 P w K O base A d s H)(Y:(Ls o)=Ls m)(r:Vals o Q)
  (x:InCallC s s.heap.objs.size (f5 (cG qual scope s.heap.objs.size f C).kindOf (m.zip Q) λ_=>J4) (bi (s.heap.objs.size+1) scope.names []) (f6 (cG qual scope s.heap.objs.size f C).kindOf (m.zip Q) λ_=>J4) s1):
  Inv (Dx T P w K O base N qual scope f C A d s H E) [] (pP N o) H s1:=by
 have D:(Ls m)<=(Ls N):=by have:=nh ey S.pre;rw[qb] at this;lia
 obtain⟨h1,F,rfl,hk⟩:=x.done;have L: ∀b:fV,b∉(Dx T P w K O base N qual scope f C A d s H E).ex:=λb z=>absurd (show b∈([]:List fV) from z) (by simp)
 refine⟨⟨j.mod,S.kind,rfl,rfl,iD _,λy z c h1 g=>?_,λy l=>?_,λy c _ h=>?_,λ_=>hd,Around.frames_deeper j.frames,.inr ⟨rfl,rfl⟩,λb z=>absurd z<|L b,j.bs,j.bsz,λb _ _=>L b,λb z=>absurd z<|L b,j.funs,j.frf⟩,
  rfl,j.bare,Un.kept hk,⟨_,x.toInCall.ns,λi y v h1 g U=>?_⟩,λy c h=>⟨_,x.cell y c h⟩,j.hok.fresh<|iD _,λy c h=>?_,λp t=>absurd (show p∈([]:List (fV×en)) from t)<|by simp,j.hok.kept hk,?_⟩
 .exact B4 x.apart (qm h1) (qm g)
 .have l:scope.names.lookup y=I8 .cell\/scope.names.lookup y=I8 .free:=l;rcases l with l|l
  .exact DC l
  .exact absurd K3 (S.nofree _ (qm l))
 .exact vV (x.above y c<|qm h)
 .have I:i<(Ls o):=by
   unfold pP at g;by_cases I:i<Ls o
   .exact I
   .rw[nU<|by simpa using I] at g;rw[cZ] at g;split at g<;>cases g
  have J:o[i]?=I8 v:=by
   unfold pP at g;rw[sd<|by simpa using I,iW] at g
   cases e:o[i]? with
   |none=>rw[e] at g;cases g
   |some a=>rw[e] at g;cases g;rfl
  obtain⟨u,G,M⟩:=r.get J
  have t:m[i]?=I8 y:=by rw[<-S.pre,JD<|by lia];exact h1
  have B:m.Nodup:=by rw[<-S.pre];exact S.nd.sublist<|vS _ _
  refine⟨u,M,?_⟩;rcases S.par y (mM t) with k|k
  .exact .inl ⟨k,Ax B t G k⟩
  .obtain⟨c,e⟩:=DC (n:=s.heap.objs.size+1) k;refine .inr ⟨.inl k,c,e,?_⟩;have q:=x.cell y c e;rw[Az B t G (by show scope.names.lookup y≠_;rw[k];decide)] at q;exact q
 .exact j.hok.fresh (vV<|x.above y c<|qm h)
 .unfold pP;show _=Ls N;rw[ky,iJ,List.length_replicate]
  lia
def Uy{C:CXT}{P:gM}{w:gB}{K:gy}{L:lE}{base:gH}{k:Nat}{f:fV}{j qual:aO}{c:Arguments}{d:List cb}{scope:jt}{dV kV z pm l ct oc:gu}{an od:Option fV}
  {ag:wR}{N O:hU}{Y:Sp}(lk:K.lookup f=I8 ⟨oc,od,.func<|bV j qual c d scope dV kV z pm an l ct,ag⟩)(p5:c8 K l qual=KE)(S:FnScope N O scope)
  (len: ∀g H Q E,Y g H Q E->Ls g=Ls O)
  (p6: ∀(A:gJ) (a:List eT) (s:fY) (H:Hp) (g:List V) (Q:VK) (E:XK),Room k (A.deeper<|cG qual scope s.heap.objs.size f l)->Y g H Q E->
   ∃t,PSs (Dx C P w K L base N qual scope f l A a s H E) d t/\t {nx:=λ_ i=>Q .non i,rt:=Q} (pP N g) H):
  FnOk P w K L base C (k+1) f (bV j qual c d scope dV kV z pm an l ct) O Y:=by
 refine⟨len,λA a s H R us g Q E T B hb r F=>?_⟩;have hl:=len _ _ _ _ F;have D:K.In s.heap:=B.mod.kin.keeps λb o e=>(B.bs b o e).1;have G:s.heap.NoLimit:=B.mod.nolimit.keeps λb o e=>(B.bs b o e).1
 have m: ∀y∈O.zip us,scope.names.lookup y.1=I8 .local\/(scope.names.lookup y.1=I8 .cell/\((bi (s.heap.objs.size+1) scope.names []).lookup y.1).isSome=KE):=λ⟨n,v⟩ hy=>by
  rcases S.par n (Ep hy).1 with q|q
  .exact .inl q
  .exact .inr ⟨q,Bg _ _ _ (.inl q)⟩
 refine codeAny_call_function T.depth (D _ _ lk) K3 S.co S.gen K3 (PySem.W.codeRec_of D p5)<|hb _ _ _ _ ?_;refine wpAny_newFunctionEnv_cells S.kind m λX he s1 x=>?_;subst he;refine⟨G.keeps x.toInCall.keep,codeAny_func ?_⟩;obtain⟨t,ht,hq⟩:=p6 A a s H g Q E (T.deeper _) F;have I:Inv (Dx C P w K L base N qual scope f l A a s H E) [] (pP N g) H s1:=Ia S T.hd B hl r x;refine ni (ht [] s1 (pP N g) H _ I hq) (λZ U p=>?_) λe U p=>p
 have fin: ∀{h:St} {i:Hp} {v:V} {u:gu},Inv (Dx C P w K L base N qual scope f l A a s H E) [] h i U->RelV v u->Q v i->CE a P w H s Q u U:=
  λ{h i v u} J M q=>⟨v,i,J.os,J.bare,J.base,J.hok,M,q⟩
 cases Z with
 |ret u=>obtain⟨v,h,i,J,M,q⟩:=p;exact fin J M q
 |next=>obtain⟨h,i,J,q⟩:=p;exact fin (v:=V.non) (u:=am) J K3 q
 |brk=>obtain⟨_,_,_,q⟩:=p;exact bX q
 |cont=>obtain⟨_,_,_,q⟩:=p;exact bX q
section
variable {X:Cx}{x:aO}{p a:bB}{e:gm}{b:jg}{t:TA}{id T:String}{r:List V->Hp->VK->Prop}
def tCB(r:List V->Hp->VK->Prop)(t:TA):TE:=λf U Q=>t f U λd c=>r d c Q
def CM(j:jw X (.builtin id) r)(l:Gl X x)(m:X.mg x=C)(hv:aE x=I (.builtin id))(i:PA X (e::b) t)(n:x≠"__name__":=by decide)(q:(x==("__debug__":aO))=J:=by decide)
  (k:aa (e::b) X.env=(J,aK e X.env)::aa b X.env:=by rfl)(o:(aJ a<|aa b X.env).any (·.1)=J:=by rfl):PE X (.Call (.Name x p) (e::b) [] a) (tCB r t):=by
 intro c s d O Q U h;refine vT<|ou U l m hv ?_ n q;exact t8 (thn (i a c s d O _ U h) λw s1 N=>by obtain⟨y,f,g,v,u⟩:=N;exact j c s1 d f y w Q g v u) k o
def oK(j:jw X (.type T) r)(l:Gl X x)(m:X.mg x=C)(hv:aE x=I (.type T))(i:PA X (e::b) t)(n:x≠"__name__":=by decide)(q:(x==("__debug__":aO))=J:=by decide)
  (k:aa (e::b) X.env=(J,aK e X.env)::aa b X.env:=by rfl)(o:(aJ a<|aa b X.env).any (·.1)=J:=by rfl):PE X (.Call (.Name x p) (e::b) [] a) (tCB r t):=by
 intro c s d O Q U h;refine vT<|ou U l m hv ?_ n q;exact yc (thn (i a c s d O _ U h) λw s1 N=>by obtain⟨y,f,g,v,u⟩:=N;exact j c s1 d f y w Q g v u) k o
end
end L2
namespace HT
section
open PySem.SeqAt
open PySem.AutoSeq1 (wpAny_loadPart')
open PySem.MeetsSeq PySem.MeetsSeq2 PySem.MeetsSeq3
end
section
variable {a:gM}{w:gB}{A:gJ}{E:gX}{s:fY}
def UK{t b:fV}{d c:il}{Q:gX}(z:lw s.heap t d.toArray)(y:lw s.heap b c.toArray)(hv:d≠[])
  (h1:c=[]->Q (.ref t) s)(x:c≠[]->Q (.ref s.heap.objs.size) {s with heap:=s.heap.push {cls:= .type "tuple",data:= .seq (d++c).toArray}})
  (l:(Ls d)+Ls c<=sizeLine):af (ah a w) A (aP .Add (.ref t)<|.ref b) Q E s:=by
 obtain⟨⟨k,m,f,u⟩,h,o,n,hd⟩:=id z;obtain⟨⟨B,r,data2,p⟩,j,v,q,g⟩:=id y;simp only at o hd v g;subst o hd v g;have e:d.toArray++c.toArray=(d++c).toArray:=by simp
 by_cases i:c=[]
 .exact Bf ⟨_,h,rfl⟩ ⟨_,j,rfl⟩ Eo En Em El (Ek _ _)
   (tuple_addW1 t b d.toArray c.toArray n q m r u p (by simpa using hv)<|by simp[i]) ⟨h,j,h1 i⟩
 .refine Bf ⟨_,h,rfl⟩ ⟨_,j,rfl⟩ Eo En Em El (Ek _ _)
   (tuple_addW2 t b d.toArray c.toArray n q m r u p (by simpa using hv) (by simpa using i)<|by rw[hG,hG];exact l) ⟨h,j,?_⟩
  rw[e];exact x i
noncomputable def sIx(n d:Nat):Option Int->Nat
 |none=>d
 |some v=>if v<0 then(v+(n:Int)).toNat else min v.toNat n
theorem P6(n d:Nat):sIx n d C=d:=rfl
def Su(n d k:Nat):sIx n d (I (k:Int))=min k n:=by show(if(k:Int)<0 then((k:Int)+(n:Int)).toNat else min (k:Int).toNat n)=min k n;rw[gD<|by lia,oB]
def P7(n d:Nat)(hd:d<=n)(o:Option Int):sIx n d o<=n:=by
 cases o with
 |none=>exact hd
 |some v=>
  show(if v<0 then(v+(n:Int)).toNat else min v.toNat n)<=n;by_cases hv:v<0
  .rw[gr hv];lia
  .rw[gD hv];exact Nat.min_le_right _ _
def G3(v:Int)(n d:Nat):(if v<0 then max (v+(n:Int)) 0 else min v (n:Int))=((sIx n d (I v):Nat):Int):=by
 show(if v<0 then max (v+(n:Int)) 0 else min v (n:Int))=(((if v<0 then(v+(n:Int)).toNat else min v.toNat n):Nat):Int)
 by_cases hv:v<0
 .simp only[gr hv];lia
 .simp only[gD hv];lia
def FN(lo b:Option Int)(n:Nat):cy lo b 1 (n:Int)=(((sIx n 0 lo:Nat):Int),((sIx n n b:Nat):Int)):=by
 have h1: ¬((1:Int)<0):=by lia
 unfold cy;simp only[h1,jh];refine Prod.ext ?_ ?_
 .cases lo with
  |none=>rfl
  |some v=>exact G3 v n 0
 .cases b with
  |none=>rfl
  |some v=>exact G3 v n n
def EN(i j:Nat):bK (i:Int) (j:Int) 1=j-i:=by
 unfold bK;have h1:(1:Int)>0:=by lia
 simp only[h1,jb,Int.ediv_one];split<;>lia
def yp{v:gu}{o:Option Int}{Q:Option Int->fY->Prop}(p:db v o)(h:Q o s):af (ah a w) A (p9 v) Q E s:=by
 cases p with
 |none=>exact wr h
 |int i t=>exact slicePart_int h
def oI{g:fV}{e f:gu}{lo b:Option Int}{n:Nat}{Q:Int×Int×Nat->fY->Prop}(i:s.heap.IsSliceOf g e f .none)(j:db e lo)(k:db f b)
  (h:Q (((sIx n 0 lo:Nat):Int),1,sIx n n b-sIx n 0 lo) s):af (ah a w) A (dN (.ref g)<|pure (n:Int)) Q E s:=by
 obtain⟨os,c,l,d⟩:=id i;unfold dN qs;refine fX<|fX<|ng c d (x:=e) H<|fX<|ng c d (x:=f) H<|fX<|ng c d (x:= .none) H<|gn ?_;refine fX<|wr ?_;show af _ _ (if((1:Int)==0)=Y then _ else _) _ _ s;rw[gD<|by decide];refine fX<|yp j<|fX<|yp k<|fX<|gn ?_;show af _ _ (match cy lo b 1 (n:Int) with|(lo,b)=>pure (lo,(1:Int),bK lo b 1)) _ _ s;rw[FN lo b n];show af _ _ (pure (((sIx n 0 lo:Nat):Int),(1:Int),bK ((sIx n 0 lo:Nat):Int) ((sIx n n b:Nat):Int) 1)) _ _ s;rw[EN];exact gn h
def K0(b:lN)(i k:Nat):((ai k).filterMap λ(m:Nat)=>b[((i:Int)+(m:Int)*1).toNat]?).toArray=((b.toList.drop i).take k).toArray:=by
 have e:(λ(m:Nat)=>b[((i:Int)+(m:Int)*1).toNat]?)=λm=>b[i+m]?:=by
  funext m;have:((i:Int)+(m:Int)*1).toNat=i+m:=by lia
  rw[this]
 rw[e];have:=pick_run b i k;rw[g7] at this;have c:((λx=>b[x]?)∘λx=>i+x)=λm=>b[i+m]?:=rfl;rw[c] at this;rw[this]
def Fe{t f:fV}{b:lN}{i j:gu}{lo c:Option Int}{Q:gX}(d:lw s.heap t b)(g:s.heap.IsSliceOf f i j .none)(r:db i lo)(u:db j c)
  (p: ¬(sIx b.size 0 lo=0/\sIx b.size b.size c=b.size))
  (h:Q (.ref s.heap.objs.size) {s with heap:=s.heap.push {cls:= .type "tuple",data:= .seq ((b.toList.drop<|sIx b.size 0 lo).take<|sIx b.size b.size c-sIx b.size 0 lo).toArray}})
  (o:b.size<=sizeLine):af (ah a w) A (d1 (.ref t)<|.ref f) Q E s:=by
 have e:sizeOk (.seq ((b.toList.drop<|sIx b.size 0 lo).take<|sIx b.size b.size c-sIx b.size 0 lo).toArray):=by show((b.toList.drop<|sIx b.size 0 lo).take<|sIx b.size b.size c-sIx b.size 0 lo).toArray.size<=sizeLine;rw[hG,qb,cW,jc];omega
 have y:sIx b.size b.size c<=b.size:=P7 _ _ (iD _) c;obtain⟨os,k,l,x⟩:=id g;have n:s.TypeIs (.ref f) "slice":=⟨os,k,l⟩
 unfold d1
 try with_reducible refine lM ?_
 first|refine fX (gn ?_)|skip
 refine fX<|oC d.typeIs (by decide) ?_
 refine fX (rZ (name:=bh "__getitem__") d.typeIs zg
  (nc zg d.typeIs JC ?_<|n4 _ _))
 show af _ _ (dI (.ref t)>>=_) _ _ s;refine fX<|A1 d ?_;refine fX<|ql n ?_;rw[gr<|by decide];refine fX<|oI g r u ?_
 have v: ¬((((sIx b.size 0 lo:Nat):Int)==0&&(1:Int)==1&&(sIx b.size b.size c-sIx b.size 0 lo)==b.size)=Y):=by intro q;rw[lL,lL] at q;have z:((sIx b.size 0 lo:Nat):Int)=0:=qa q.1.1;have B:sIx b.size b.size c-sIx b.size 0 lo=b.size:=qa q.2;exact p ⟨by omega,by omega⟩
 show af _ _ (if(((sIx b.size 0 lo:Nat):Int)==0&&(1:Int)==1&&(sIx b.size b.size c-sIx b.size 0 lo)==b.size)=Y then _ else _) _ _ s;rw[gD v,K0]
 first
  |exact fX (m:=aY _)<|lK (gn ⟨_,rfl,gn h⟩) e
  |exact fX (m:=aY _)<|lK (fX<|gn<|gn ⟨_,rfl,gn h⟩) e
  |exact fX<|fX (m:=aY _)<|lK (gn<|gn ⟨_,rfl,gn h⟩) e
  |exact fX<|fX (m:=aY _)<|lK (gn ⟨_,rfl,gn h⟩) e
end
end HT
namespace L2
abbrev TO:=St->Hp->(Option Int->Hp->Prop)->Prop
def PO(X:Cx)(e:Option Expr)(t:TO):Prop:=
 ∀(a:gU) (s:fY) (b:St) (U:Hp) (Q:Option Int->Hp->Prop),Inv X a b U s->t b U Q->
  af (ah X.prog X.w) X.A (evalPart e X.env) (λu d=> ∃o c,Inv X a b c d/\db u o/\Q o c) X.xe s
noncomputable def Nd:TO:=λ_ U Q=>Q C U
def S8(t:TE):TO:=λb U Q=>t b U λx a=> ∃i,x= .int i/\Q (I i) a
section
variable {X:Cx}{e:gm}{d:TE}{lo c:Option Expr}{f g:TO}{k j:bB}
def Gg:PO X C Nd:=by intro a s b T Q U h;rw[xz];exact gn ⟨C,T,U,.none,h⟩
def Gf(h:PE X e d):PO X (I e) (S8 d):=by intro a s p T Q U m;rw[evalPart_some];refine thn (h a s p T _ U m) λu s1 O=>?_;obtain⟨x,b,l,o,n⟩:=O;obtain⟨i,rfl,q⟩:=n;obtain⟨t,rfl⟩:=o;exact⟨I i,b,l,.int i t,q⟩
def SlR(X:Cx)(r:V->Option Int->Option Int->Hp->VK->Prop):Prop:=
 ∀(a:gU) (s:fY) (l:St) (U:Hp) (x:V) (v h i:gu) (lo c:Option Int) (b:fV) (Q:VK),Inv X a l U s->RelV x v->s.heap.IsSliceOf b h i .none->db h lo->db i c->r x lo c U Q->
  ∃T id,nm (.type T) "__getitem__"=pure (I<|.builtin id)/\s.TypeIs v T/\af (ah X.prog X.w) X.A (d1 v<|.ref b) (EP X a l Q) X.xe s
def tSl(r:V->Option Int->Option Int->Hp->VK->Prop)(d:TE)(f g:TO):TE:=λa U Q=>d a U λx b=>f a b λl h=>g a h λu i=>r x l u i Q
def CL{r:V->Option Int->Option Int->Hp->VK->Prop}(M:SlR X r)(O:PE X e d)(J:PO X lo f)(U:PO X c g):PE X (.Subscript e (.Slice lo c C j) k) (tSl r d f g):=by intro a s m H Q I h;refine Subscript_<|thn (O a s m H _ I h) λv s1 a'=>?_;obtain⟨x,t,z,r1,q1⟩:=a';refine wpAny_Slice<|thn (J a s1 m t _ z q1) λn s2 ⟨l,y,B,Y',q2⟩=>thn (U a s2 m y _ B q2) λo i a'=>?_;obtain⟨u,p,C',pu,q3⟩:=a';rw[xz];refine gn ?_;have E:Inv X a m p {i with heap:=i.heap.push {cls:= .type "slice",data:= .fields #[n,o,.none]}}:=C'.kept (t':=i.toks) λb D q=>iF _ q;obtain⟨T,id,L,N,G⟩:=M a {i with heap:=i.heap.push {cls:= .type "slice",data:= .fields #[n,o,.none]}} m p x v n o l u i.heap.objs.size Q E r1 (Heap.IsSliceOf.new ..) Y' pu q3;show af (ah X.prog X.w) X.A (A2 e (.Slice lo c C j) v<|.ref i.heap.objs.size) (EP X a m Q) X.xe {i with heap:=i.heap.push {cls:= .type "slice",data:= .fields #[n,o,.none]}};exact tail_any (ops:=[.ref i.heap.objs.size,v]) N L G (by with_unfolding_all rfl)
noncomputable def Dy(a:List V)(lo c:Option Int):List V:=(a.drop<|HT.sIx (Ls a) 0 lo).take<|HT.sIx (Ls a) (Ls a) c-HT.sIx (Ls a) 0 lo
def xj(a:List V)(lo c:Option Int):(Dy a lo c).length<=(Ls a):=by
 unfold Dy;rw[qb,cW]
 lia
def VT(K:gy):V->Option Int->Option Int->Hp->VK->Prop:=λx lo c U Q=> ∃a b,x= .ref a/\SqT K U a b/\
 ¬(HT.sIx (Ls b) 0 lo=0/\HT.sIx (Ls b) (Ls b) c=Ls b)/\ ∀p,U p=C->Q (.ref p) (upd U p<|.tup<|Dy b lo c)
def P0:SlR X (VT X.K):=by
 intro t s T N x v L O lo c E Q U B u z A h;obtain⟨a,l,rfl,y,w,q⟩:=h;cases B;obtain⟨m,r,n,p⟩:=U.tuple y;have i:m.toArray.size=(Ls l):=by rw[hG];exact r.length.symm
 refine⟨"tuple",_,zg.lookup,n.typeIs,?_⟩;refine HT.Fe n u z A (by rw[i];exact w) ?_ (by rw[i];exact p);rw[i];refine⟨.ref s.heap.objs.size,_,U.laid (t':=s.toks) (o:= .tup (Dy l lo c)) (λb M q=>iF _ q) (iD _) ?_,rfl,q _ (U.hok.fresh<|iD _)⟩;exact⟨lh (xj l lo c) p,_,(r.drop<|HT.sIx (Ls l) 0 lo).take<|HT.sIx (Ls l) (Ls l) c-HT.sIx (Ls l) 0 lo,Be _ _⟩
def TM(K:gy):R2:=λx y U Q=> ∃a b i h,x= .ref a/\y= .ref b/\SqT K U a i/\SqT K U b h/\i≠[]/\(Ls i)+Ls h<=sizeLine/\
 (h=[]->Q (.ref a) U)/\(h≠[]-> ∀p,U p=C->Q (.ref p) (upd U p<|.tup<|i++h))
def Vals.nil_iff{b:List V}{a:il}(r:Vals b a):a=[]↔b=[]:=by
 cases r with
 |nil=>simp
 |cons _ _=>simp
def Of:OpR X (aP .Add) (TM X.K):=by intro n s N H x y v u Q U L O h;obtain⟨a,b,T,G,rfl,rfl,p,r,t,m,C,E⟩:=h;cases L;cases O;obtain⟨A,l,B,_⟩:=U.tuple p;obtain⟨J,i,j,_⟩:=U.tuple r;refine HT.UK B j (λz=>t<|l.nil_iff.mp z) (λz=>⟨.ref a,H,U,rfl,C<|i.nil_iff.mp z⟩) (λz=>?_) (by rw[<-l.length,<-i.length];exact m);refine⟨.ref s.heap.objs.size,_,U.laid (t':=s.toks) (o:= .tup (T++G)) (λb M q=>iF _ q) (iD _) ?_,rfl,E (λw=>z<|i.nil_iff.mpr w) _ (U.hok.fresh<|iD _)⟩;exact⟨by rw[ky];exact m,_,l.append i,Be _ _⟩
end
noncomputable def ixN(n:Nat)(i:Int):Option Nat:=if 0<=i then(if i<n then I i.toNat else C) else if -(n:Int)<=i then I (i+n).toNat else C
noncomputable def atI{b:Type}(a:List b)(i:Int):Option b:=(ixN (Ls a) i).bind λj=>a[j]?
def BO{n:Nat}{i:Int}{j:Nat}(h:ixN n i=I j):px i n=I j/\j<n/\ -(n:Int)<=i/\i<n:=by
 unfold ixN at h;by_cases a:0<=i
 .rw[gr a] at h;by_cases h1:i<n
  .rw[gr h1] at h;have e:i.toNat=j:=jn h;exact⟨by rw[Ej a h1,e],by lia,by lia,h1⟩
  .rw[gD h1] at h;cases h
 .rw[gD a] at h;by_cases h1: -(n:Int)<=i
  .rw[gr h1] at h;have e:(i+n).toNat=j:=jn h;exact⟨by rw[Ei (by lia) h1,e],by lia,h1,by lia⟩
  .rw[gD h1] at h;cases h
def Hd{b:Type}{a:List b}{i:Int}{v:b}(h:atI a i=I v): ∃j,px i (Ls a)=I j/\a[j]?=I v/\j<Ls a/\ -((Ls a):Int)<=i/\i<(Ls a):=by
 unfold atI at h
 cases e:ixN (Ls a) i with
 |none=>rw[e] at h;cases h
 |some j=>rw[e] at h;obtain⟨h1,c,d,f⟩:=BO e;exact⟨j,h1,h,c,d,f⟩
def Ci(b:gm):Prop:= ∀o i,FM b J o i=operate [o,i] (d1 o i)
def IxR(X:Cx)(r:R2):Prop:=
 ∀(b slice:gm) (a:gU) (s:fY) (c:St) (U:Hp) (x y:V) (v u:gu) (Q:VK),Inv X a c U s->RelV x v->RelV y u->r x y U Q->
  FM slice J v u=operate [v,u] (d1 v u)->af (ah X.prog X.w) X.A (A2 b slice v u) (EP X a c Q) X.xe s
def MtR(X:Cx)(id:String)(r:V->List V->Hp->VK->Prop):Prop:=
 ∀(a:gU) (s:fY) (d:St) (U:Hp) (x:V) (c:List V) (v:gu) (b:il) (Q:VK),Inv X a d U s->RelV x v->Vals c b->r x c U Q->
  af (ah X.prog X.w) X.A (call (.builtin id) (v::b)) (EP X a d Q) X.xe s
section
variable {X:Cx}{a b:gm}{O L:TE}{E:bB}
def T4{r:R2}(i:IxR X r)(f:PE X a O)(g:PE X b L)(j:Ci b):PE X (.Subscript a b E) (tOp r O L):=by intro c s n T Q U h;exact Subscript_<|Sd f g U h λv u m x y d e k l q=>i a b c m n d x y v u Q e k l q<|j _ _
def VY(K:gy):R2:=λx y U Q=> ∃p c i v,x= .ref p/\y= .int i/\SqL K U p c/\atI c i=I v/\Q v U
def VX(K:gy):R2:=λx y U Q=> ∃p c i v,x= .ref p/\y= .int i/\SqT K U p c/\atI c i=I v/\Q v U
def OA:IxR X (VY X.K):=by
 intro g slice c s n H x y v u Q I M N h m;obtain⟨p,P,i,z,rfl,rfl,J,T,q⟩:=h;cases M;obtain⟨t,rfl⟩:=N;obtain⟨e,r,f,F⟩:=I.list J;obtain⟨j,h1,A,Y,B,C⟩:=Hd T;obtain⟨w,k,o⟩:=r.get A;have G:=r.length;have D:=BM;have fin:EP X c n Q w s:=⟨z,H,I,o,q⟩
 by_cases l:0<=i
 .have d:i.toNat=j:=by rw[Ej l C] at h1;exact jn h1
  exact item_listR f.isList l (by lia) (by rw[d];simpa using k) fin m
 .have d:(i+(e.toArray.size:Int)).toNat=j:=by rw[Ei (by lia) B] at h1;rw[hG,<-G];exact jn h1
  exact JB (x:=w) f.isList.typeIs o9.lookup
   (wpAny_getItem_list_neg (Q:=λr U=>r=w/\EP X c n Q r U) f.isList (by lia) (by rw[hG]<;>lia) (by lia) (by rw[d];simpa using k) ⟨rfl,fin⟩) m
def RK:IxR X (VX X.K):=by
 intro d slice c s f H x y v u Q I C T h A;obtain⟨p,D,i,z,rfl,rfl,o,m,q⟩:=h;cases C;obtain⟨t,rfl⟩:=T;obtain⟨B,r,e,Y⟩:=I.tuple o;obtain⟨j,h1,l,J,M,N⟩:=Hd m;obtain⟨w,k,g⟩:=r.get l;have n:=r.length;have U:=BM;have fin:EP X c f Q w s:=⟨z,H,I,g,q⟩
 exact JB (x:=w) e.typeIs zg.lookup
  (getItem_tuple (j:=j) (Q:=λr G=>r=w/\EP X c f Q r G) e (by lia) (by lia) (by rw[hG,<-n];exact h1) (by simpa using k) ⟨rfl,fin⟩) A
def E8(c:il)(n j:Nat)(u:gu):ay (·.setIfInBounds j u) {cls:= .type "list",data:= .seq c.toArray n}={cls:= .type "list",data:= .seq (c.set j u).toArray n}:=by simp[ay]
def Inv.lst{d:gU}{f:St}{T:Hp}{s:fY}{p:fV}{xs:List V}(U:Inv X d f T s)(h:T p=I (.lst xs)):
  ∃(c:il) (n:Nat),Vals xs c/\s.heap.get? p=I {cls:= .type "list",data:= .seq c.toArray n}/\(Ls xs)<=sizeLine:=by
 obtain⟨z,c,n,r,e⟩:=U.hok p _ h;exact⟨c,n,r,e,z⟩
def Inv.lstUpd{d:gU}{l:St}{T:Hp}{s:fY}{p:fV}{w j:List V}{g c:il}{n i:Nat}{f:en->en}(U:Inv X d l T s)(h:T p=I (.lst w))
  (o:s.heap.get? p=I {cls:= .type "list",data:= .seq g.toArray n})(k:f {cls:= .type "list",data:= .seq g.toArray n}={cls:= .type "list",data:= .seq c.toArray i})(r:Vals j c)(v:(Ls j)<=sizeLine)(t:Nat):
  Inv X d l (upd T p<|.lst j) {s with heap:=s.heap.update p f,toks:=t}:=by
 have e:(s.heap.update p f).get? p=I {cls:= .type "list",data:= .seq c.toArray i}:=by rw[rY f o<|by rw[k]<;>rfl,k]
 refine U.write (x:=p) (e:=p) (by rw[h];trivial) (.inl H) (λb u m q=>(vR _ _ (pJ m)).trans q) ⟨_,e⟩ ?_;exact⟨v,c,i,r,e⟩
def TJ:V->V->V->Hp->(Hp->Prop)->Prop:=λo i v U Q=> ∃p c k j,o= .ref p/\i= .int k/\U p=I (.lst c)/\ixN (Ls c) k=I j/\Q (upd U p<|.lst<|c.set j v)
def Kd:So X TJ:=by
 intro d s G H o i v U N u Q I B A C h;obtain⟨p,T,k,j,rfl,rfl,x,y,q⟩:=h;cases B;obtain⟨t,rfl⟩:=A;obtain⟨c,n,r,f,z⟩:=I.lst x;obtain⟨h1,J,m,w⟩:=BO y;have e:=r.length;have M:=BM
 have g:Inv X d G (upd H p<|.lst<|T.set j v) {s with heap:=s.heap.update p (ay (·.setIfInBounds j u))}:=
  I.lstUpd x f (E8 c n j u) (r.set C j) (by rw[ux];exact z) s.toks
 by_cases l:0<=k
 .have hk:k.toNat=j:=by rw[Ej l w] at h1;exact jn h1
  exact PySem.W.ki_setAt f l (by lia) (by rw[hG,<-e];exact w) (by rw[hk];exact⟨_,g,q⟩)
 .have hk:(k+(c.toArray.size:Int)).toNat=j:=by rw[Ei (by lia) m] at h1;rw[hG,<-e];exact jn h1
  exact PySem.W.ki_setBack f (by lia) (by rw[hG,<-e];exact m) (by lia) (by rw[hk];exact⟨_,g,q⟩)
def Bs(lo c:Option Int)(n:Nat):(cN lo c C n).1=((HT.sIx n 0 lo:Nat):Int)/\(cN lo c C n).2.1=((HT.sIx n n c:Nat):Int)/\(cN lo c C n).2.2=1:=by
 refine⟨?_,?_,rfl⟩
 .cases lo with
  |none=>simp[cN,HT.sIx]
  |some i=>
   simp only[cN,HT.sIx,gl,show(1:Int)>0 by decide,jb];by_cases h:i<0
   .simp only[h,jb]<;>lia
   .simp only[h,jh]<;>lia
 .cases c with
  |none=>simp[cN,HT.sIx]
  |some i=>
   simp only[cN,HT.sIx,gl,show(1:Int)>0 by decide,jb];by_cases h:i<0
   .simp only[h,jb]<;>lia
   .simp only[h,jh]<;>lia
def zj(c:il)(lo d:Option Int):slicePick c.toArray lo d C=((c.drop<|HT.sIx (Ls c) 0 lo).take<|HT.sIx (Ls c) (Ls c) d-HT.sIx (Ls c) 0 lo).toArray:=by obtain⟨h1,e,f⟩:=Bs lo d c.toArray.size;unfold slicePick;rw[h1,e,f];simp only[sliceRange_one,pick_run,hG]<;>rfl
def VU(K:gy):V->Option Int->Option Int->Hp->VK->Prop:=λx lo d U Q=> ∃a c,x= .ref a/\SqL K U a c/\ ∀p,U p=C->Q (.ref p) (upd U p<|.lst<|Dy c lo d)
def Ng:SlR X (VU X.K):=by intro g s z T x v w y lo e u Q U p i m n h;obtain⟨a,c,rfl,j,q⟩:=h;cases p;obtain⟨l,r,f,k⟩:=U.list j;have d:=r.length;refine⟨"list",_,o9.lookup,f.isList.typeIs,?_⟩;refine wpAny_getItem_list_slice f.isList i m n .none (by simp) ?_ (by rw[hG]<;>lia);rw[zj,<-d];refine⟨.ref s.heap.objs.size,_,U.laid (t':=s.toks) (o:= .lst (Dy c lo e)) (λb t q=>iF _ q) (iD _) ?_,rfl,q _ (U.hok.fresh<|iD _)⟩;exact⟨lh (xj c lo e) k,_,0,(r.drop<|HT.sIx c.length 0 lo).take<|HT.sIx c.length c.length e-HT.sIx c.length 0 lo,iQ _ rfl⟩
noncomputable def Po:V->Bool
 | .non=>Y
 | .bl _=>Y
 | .int _=>Y
 | .str _=>Y
 |_=>J
noncomputable def eqV:V->V->Bool
 | .non,.non=>Y
 | .bl a,.bl b=>a==b
 | .bl a,.int b=>(if a then 1 else 0)==b
 | .int a,.bl b=>a==(if b then 1 else 0)
 | .int a,.int b=>a==b
 | .str a,.str b=>a==b
 |_,_=>J
def lg{A:gJ}{s:fY}{y x:V}{u v:gu}(f:RelV y u)(c:RelV x v)(g:Po y=Y)(e:Po x=Y):SeqAt.EqAt A s u v (eqV y x):=by
 cases y with
 |non=>
  cases f
  cases x with
  |non=>cases c;exact fc _
  |bl b=>cases c;exact zn b
  |int b=>obtain⟨t,rfl⟩:=c;exact y9 b t
  |str b=>obtain⟨t,rfl⟩:=c;exact y8 b t
  |_=>exact absurd (show J=Y from e) jD
 |bl a=>
  cases f
  cases x with
  |non=>cases c;exact At a
  |bl b=>cases c;exact AT a b
  |int b=>obtain⟨t,rfl⟩:=c;exact AC a b t
  |str b=>obtain⟨t,rfl⟩:=c;exact z9 a b t
  |_=>exact absurd (show J=Y from e) jD
 |int a=>
  obtain⟨d,rfl⟩:=f
  cases x with
  |non=>cases c;exact zx a d
  |bl b=>cases c;exact z8 a d b
  |int b=>obtain⟨t,rfl⟩:=c;exact z7 a d b t
  |str b=>obtain⟨t,rfl⟩:=c;exact eV a d b t
  |_=>exact absurd (show J=Y from e) jD
 |str a=>
  obtain⟨d,rfl⟩:=f
  cases x with
  |non=>cases c;exact y4 a d
  |bl b=>cases c;exact y6 a d b
  |int b=>obtain⟨t,rfl⟩:=c;exact eU a d b t
  |str b=>obtain⟨t,rfl⟩:=c;exact y3 a d b t
  |_=>exact absurd (show J=Y from e) jD
 |_=>exact absurd (show J=Y from g) jD
def vo:jw X (.builtin "len") (λk T Q=> ∃p d,k=[.ref p]/\(SqL X.K T p d\/SqT X.K T p d)/\Q (.int d.length) T):=by
 intro j s t T k o Q U r h;obtain⟨p,d,rfl,e,q⟩:=h;obtain⟨u,rfl,m⟩:=oG r;cases m;have n:=BM;rcases e with e|e
 .obtain⟨f,i,g,l⟩:=U.list e;have c:=i.length;exact Calls.call_len_list g.isList (by simp only[hG]<;>lia) ⟨.int d.length,T,U.tok _,⟨s.toks+1,by rw[hG,c]⟩,q⟩
 .obtain⟨f,i,g,l⟩:=U.tuple e;have c:=i.length;exact len_tuple g (by simp only[hG]<;>lia) ⟨.int d.length,T,U.tok _,⟨s.toks+1,by rw[hG,c]⟩,q⟩
def vm:jw X (.type "list") (λB N Q=> ∃p i,B=[.ref p]/\(SqL X.K N p i\/SqT X.K N p i)/\ ∀l,N l=C->Q (.ref l) (upd N l<|.lst i)):=by
 intro v s T N B G Q U r h;obtain⟨p,i,rfl,k,q⟩:=h;obtain⟨u,rfl,M⟩:=oG r;cases M
 have fin: ∀(c:il),Vals i c->i.length<=sizeLine-> ∀(d:gH) (f:Nat),(∀b A,s.heap.get? b=I A->d.get? b=I A)->
   d.get? s.heap.objs.size=I {cls:= .type "list",dict:=C,data:= .seq c.toArray f,slots:= #[]}->EP X v T Q (.ref s.heap.objs.size) {s with heap:=d}:=λc g m d f t e=>
  ⟨.ref s.heap.objs.size,_,U.laid (t':=s.toks) t (iD _) (show ObjOk X.prog X.w _ d _ (.lst i) from⟨m,c,f,g,e⟩),rfl,q _ (U.hok.fresh<|iD _)⟩
 rcases k with k|k
 .obtain⟨c,g,z,m⟩:=U.list k;have j:=g.length;obtain⟨o,y,x,n,hd⟩:=z.isList;exact y2 p (.inl H) y x hd (λd f t e=>fin c g m d f t e) (by simp only[hG]<;>omega)
 .obtain⟨c,g,z,m⟩:=U.tuple k;have j:=g.length;obtain⟨o,y,x,n,hd⟩:=z;exact y2 p (.inr H) y x hd (λd f t e=>fin c g m d f t e) (by simp only[hG]<;>omega)
def sH:jw X (.type "tuple") (λv T Q=> ∃p f,v=[.ref p]/\((SqL X.K T p f/\ ∀l,T l=C->Q (.ref l) (upd T l<|.tup f))\/(SqT X.K T p f/\Q (.ref p) T))):=by
 intro c s x T v B Q U r h;obtain⟨p,f,rfl,h⟩:=h;obtain⟨u,rfl,A⟩:=oG r;cases A;rcases h with⟨i,q⟩|⟨i,q⟩
 .obtain⟨d,k,j,t⟩:=U.list i;have n:=k.length;refine call_tuple_list j.isList (λg z=>?_) (by simp only[hG]<;>lia);have m:Inv X c x T {s with heap:=g}:=U.kept (t':=s.toks) z
  have y:Inv X c x (upd T g.objs.size<|.tup f) {s with heap:=g.push {cls:= .type "tuple",data:= .seq d.toArray}}:=
   m.laid (t':=s.toks) (λb o e=>iF _ e) (iD _) (show ObjOk X.prog X.w _ _ _ (.tup f) from⟨t,d,k,Be _ _⟩)
  exact⟨.ref g.objs.size,_,y,rfl,q _ (m.hok.fresh<|iD _)⟩
 .obtain⟨d,k,j,t⟩:=U.tuple i;exact call_tuple_same j ⟨.ref p,T,U,rfl,q⟩
def tyV(K:gy)(T:String)(x:V)(U:Hp):Prop:=match x with
 | .str _=>T="str"
 | .int _=>T="int"
 | .ref p=>(T="list"/\ ∃d,SqL K U p d)\/(T="tuple"/\ ∃o,K.lookup p=I o/\o.cls= .type "tuple"/\o.dict=C)\/
   (T="dict"/\((∃c,U p=I (.dK c))\/ ∃c,U p=I (.dT c)))\/(T="set"/\ ∃S n,U p=I (.set S n))
 |_=>False
def JT{d:gU}{q:St}{Q:Hp}{s:fY}{T:String}{x:V}{v:gu}(U:Inv X d q Q s)(r:RelV x v)(ty:tyV X.K T x Q):
  s.TypeIs v T/\ ∀a,v= .ref a-> ∃h,s.heap.get? a=I h/\h.dict=C:=by
 cases x with
 |str z=>obtain⟨t,rfl⟩:=r;cases(show T="str" from ty);exact⟨typeIs_str s z t,λ_ e=>nomatch e⟩
 |int i=>obtain⟨t,rfl⟩:=r;cases(show T="int" from ty);exact⟨nn s i t,λ_ e=>nomatch e⟩
 |ref p=>
  cases r;rcases ty with⟨rfl,u,l⟩|⟨rfl,o,hk,k,hd⟩|⟨rfl,hk⟩|⟨rfl,S,n,hk⟩
  .obtain⟨m,_,j,_⟩:=U.list l;refine⟨j.isList.typeIs,λa e=>?_⟩;cases e;obtain⟨o,n,e,c,hd,_⟩:=j;exact⟨o,e,hd⟩
  .refine⟨⟨o,U.kIn p o hk,k⟩,λa e=>?_⟩;cases e;exact⟨o,U.kIn _ o hk,hd⟩
  .have z: ∃o,s.heap.get? p=I o/\o.ExactDict:=by
    rcases hk with⟨g,hk⟩|⟨g,hk⟩
    .obtain⟨_,_,_,_,o,_,_,e,ex,_⟩:=U.hok p _ hk;exact⟨o,e,ex⟩
    .obtain⟨_,_,_,_,o,_,_,e,ex,_⟩:=U.hok p _ hk;exact⟨o,e,ex⟩
   obtain⟨o,e,ex⟩:=z;refine⟨⟨o,e,ex.1⟩,λa f=>?_⟩;cases f;exact⟨o,e,ex.2.1⟩
  .obtain⟨o,_,_,_,e,ex,_⟩:=U.hok p _ hk;refine⟨⟨o,e,ex.1⟩,λa f=>?_⟩;cases f;exact⟨o,e,ex.2.1⟩
 |_=>exact bX ty
def Vk(K:gy)(T:String)(r:V->List V->Hp->VK->Prop)(B:TE):TE:=λd U Q=>B d U λx c=>tyV K T x c/\r x [] c Q
def tBM(K:gy)(T:String)(r:V->List V->Hp->VK->Prop)(B:TE)(t:TA):TE:=λd U Q=>B d U λx c=>tyV K T x c/\t d c λf e=>r x f e Q
variable {o e:gm}{C:jg}{B:TE}{t:TA}{d:aO}{g m:bB}{T id:String}{r:V->List V->Hp->VK->Prop}
def Rb(y:PlainAttrs T)(slot:Slot T d id)(l:nb (.builtin id)=pure (.type "method_descriptor"))(p:MtR X id r)(q:PE X o B)
  (w:b8 o d X.env (aK o X.env)=aK o X.env:=by rfl)(u:(g.endLine==m.line)=Y:=by rfl):PE X (.Call (.Attribute o d g) [] [] m) (Vk X.K T r B):=by
 intro c s j N Q U h;refine wpAny_Call_method0_late w u<|thn (q c s j N _ U h) λv s1 M=>?_;obtain⟨x,k,f,i,ty,z⟩:=M;obtain⟨h1,n⟩:=JT f i ty;exact⟨T,id,y,slot,l,h1,n,JA H<|PySem.evalArgs_none<|p c s1 j k x [] v [] Q f i .nil z⟩
def Pg(U:PlainAttrs T)(slot:Slot T d id)(q:nb (.builtin id)=pure (.type "method_descriptor"))(z:MtR X id r)(A:PE X o B)(y:PA X (e::C) t)
  (M:b8 o d X.env (aK o X.env)=aK o X.env:=by rfl)
  (N:((aJ m<|aa (e::C) X.env).all (λx=>!x.1)&&(cw m<|bG [] X.env).all (λx=>x.1.isSome)
   &&decide ((e::C).length+([]:List cM).length+(if([]:List cM).isEmpty then 0 else 1)<30))=Y:=by rfl)
  (J:(g.endLine==m.line)=Y:=by rfl)(G:aa (e::C) X.env=(K2,aK e X.env)::aa C X.env:=by rfl)(u:(aJ m<|aa C X.env).any (·.1)=K2:=by rfl):
  PE X (.Call (.Attribute o d g) (e::C) [] m) (tBM X.K T r B t):=by
 intro c s f H Q I h;refine wpAny_Call_method_late M N J K3<|thn (A c s f H _ I h) λv s1 a'=>?_;obtain⟨x,l,i,k,ty,Y'⟩:=a';obtain⟨h1,w⟩:=JT i k ty;refine⟨T,id,U,slot,q,h1,w,?_⟩;have j:=y m c s1 f l _ i Y';rw[G] at j ⊢;refine JA (by show(K2||(aJ m<|aa C X.env).any (·.1))=K2;rw[u]<;>rfl)<|Calls.evalArgs_plain ?_;exact thn j λus s2 ⟨vs,n,p,r2,q2⟩=>z c s2 f n x vs v us Q p k r2 q2
end
def MtM(X:Cx)(id:String)(r:V->List V->Hp->VK->Prop):Prop:=
 ∀(a:gU) (s:fY) (d:St) (U:Hp) (x:V) (c:List V) (v:gu) (b:il) (Q:VK),Inv X a d U s->RelV x v->Vals c b->r x c U Q->
  af (ah X.prog X.w) X.A (call (.builtin id) (v::b)) (EP X a d Q) X.xe s
def Vals.one{x:V}{a:il}:Vals [x] a-> ∃u,a=[u]/\RelV x u:=oG
def Vals.zero: ∀{a:il},Vals [] a->a=[]
 |_,.nil=>rfl
def Vals.dropLast{b:List V}{a:il}(h:Vals b a):Vals b.dropLast a.dropLast:=by
 induction h with
 |nil=>exact .nil
 |cons r t c=>
  cases t with
  |nil=>exact .nil
  |cons q d=>exact .cons r c
theorem Vals.eraseIdx: ∀{b:List V} {a:il} (i:Nat),Vals b a->Vals (b.eraseIdx i) (a.eraseIdx i)
 |_,_,_,.nil=> .nil
 |_,_,0,.cons _ t=>t
 |_,_,i+1,.cons r t=> .cons r (Vals.eraseIdx i t)
theorem Vals.rep{b:List V}{a:il}(h:Vals b a): ∀k:Nat,Vals (ac k b).flatten (ac k a).flatten
 |0=> .nil
 |k+1=>by rw[qk,qk,vQ,vQ];exact Vals.append h<|Vals.rep h k
def Fp{d:Type}(l:List d):l.eraseIdx (Ls l-1)=l.dropLast:=by
 induction l with
 |nil=>rfl
 |cons a r c=>
  cases r with
  |nil=>rfl
  |cons b r=>
   have e:(a::b::r).length-1=((b::r).length-1)+1:=by
    have h1:(a::b::r).length=Ls r+2:=rfl;have f:(b::r).length=Ls r+1:=rfl
    lia
   rw[e,e8,c]
   all_goals rfl
theorem Ad{a:Type}: ∀(l:List a) (i:Nat),(l.eraseIdx i).length<=Ls l
 |[],_=>iD _
 |_::_,0=>vP _
 |_::r,i+1=>Nat.succ_le_succ<|Ad r i
theorem Ak(b:il): ∀(k:Nat) (a:il),
  dY (λx1 x2=>x1++x2) a.toArray (ac k b.toArray)=(a++(ac k b).flatten).toArray
 |0,a=>by simp
 |k+1,a=>by
  have e:a.toArray++b.toArray=(a++b).toArray:=by simp
  have c:(a++b)++(ac k b).flatten=a++(ac (k+1) b).flatten:=by rw[qk,vQ,mh]
  rw[<-c,<-Ak b k (a++b),<-e,qk,pZ]
section
variable {X:Cx}{a:gU}{c:St}{H:Hp}{s:fY}{l b:fV}{g d i:List V}
def Inv.lset{h its':il}{n:Nat}{f:Array gu->Array gu}{r:Nat}(U:Inv X a c H s)(j:H l=I (.lst g))
  (e:s.heap.get? l=I {cls:= .type "list",data:= .seq h.toArray n})(m:f h.toArray=its'.toArray)(hv:Vals d its')(p:(Ls d)<=sizeLine):
  Inv X a c (upd H l<|.lst d) {s with heap:=s.heap.update l<|ay f,toks:=r}:=by
 have q:=PySem.IsL.update e f;rw[m] at q;refine U.write (x:=l) (e:=l) (by rw[j];exact trivial) (.inl K3) (λt u k o=>(vR s.heap (ay f)<|pJ k).trans o) ⟨_,q⟩ ?_;exact⟨p,its',_,hv,q⟩
def Inv.lnew{e:il}{t':Nat}(U:Inv X a c H s)(hv:Vals d e)(f:(Ls d)<=sizeLine):
  Inv X a c (upd H s.heap.objs.size<|.lst d) {s with heap:=s.heap.push {cls:= .type "list",data:= .seq e.toArray},toks:=t'}:=
 U.laid (λ_ _ q=>iF _ q) (iD _) ⟨f,e,0,hv,iQ _ rfl⟩
def Inv.fresh(U:Inv X a c H s):H s.heap.objs.size=C:=U.hok.fresh<|iD _
def Inv.lstM(U:Inv X a c H s)(h:H l=I (.lst g)):g.length<=sizeLine/\ ∃(f:il) (n:Nat),Vals g f/\g.length=f.length/\s.heap.get? l=I {cls:= .type "list",data:= .seq f.toArray n}:=by obtain⟨z,f,n,r,e⟩:=U.hok l _ h;exact⟨z,f,n,r,r.length,e⟩
def Lw{n:Nat}(h:n<=sizeLine):cz n=J:=by unfold cz;exact kF (by lia)
end
section
variable {X:Cx}
def Np:V->List V->Hp->VK->Prop:=λx b U Q=> ∃l a y,x= .ref l/\b=[y]/\U l=I (.lst a)/\(Ls a)<sizeLine/\Q .non (upd U l<|.lst<|a++[y])
def HU:MtM X "list.append" Np:=by
 intro c s p T x m v k Q U g f h;obtain⟨l,o,y,rfl,rfl,b,j,q⟩:=h;cases g;obtain⟨u,rfl,d⟩:=f.one;obtain⟨z,a,n,r,i,e⟩:=U.lstM b;refine vO F.slot_list_append ⟨_,e,rfl⟩ Jz (Jy _ _) (fN l a.toArray n u<|by rw[hG];lia) ⟨e,?_⟩;refine⟨.non,_,U.lset (its':=a++[u]) b e (by simp) (r.append<|.cons d .nil) ?_,rfl,q⟩;rw[ky,rX]
 lia
def VW:V->List V->Hp->VK->Prop:=λx b U Q=> ∃l a y,x= .ref l/\b=[]/\U l=I (.lst a)/\a[Ls a-1]?=I y/\Q y (upd U l<|.lst a.dropLast)
def Rz:MtM X "list.pop" VW:=by
 intro d s A T x t v p Q U o m h;obtain⟨l,w,y,rfl,rfl,c,j,q⟩:=h;cases o;have b:=m.zero;subst b;obtain⟨z,a,n,r,g,e⟩:=U.lstM c;obtain⟨u,i,k⟩:=r.get j
 have f:a.toArray[a.toArray.size-1]?=I u:=by show a.toArray[Ls a-1]?=I u;rw[<-kE,<-g];exact i
 refine vO F.slot_list_pop ⟨_,e,rfl⟩ F.entry_list_pop (F.args_list_pop_1 _) (MeetsSeq.list_pop_last l a.toArray n u f<|by rw[hG];lia) ⟨e,?_⟩;refine⟨y,_,U.lset (its':=a.dropLast) c e ?_ r.dropLast ?_,k,q⟩
 .show a.toArray.eraseIdxIfInBounds (a.toArray.size-1)=a.dropLast.toArray;rw[hG,Jx,Fp]
 .rw[Eh]
  lia
def Qj:V->List V->Hp->VK->Prop:=λx b U Q=> ∃l a i k y,x= .ref l/\b=[.int i]/\U l=I (.lst a)/\ -(2^63)<=i/\i<2^63/\px i (Ls a)=I k/\a[k]?=I y/\Q y (upd U l<|.lst<|a.eraseIdx k)
def Lz:MtM X "list.pop" Qj:=by
 intro c s L T x E v O Q U A p h;obtain⟨l,B,i,k,y,rfl,rfl,b,h1,f,hk,m,q⟩:=h;cases A;obtain⟨u,rfl,o⟩:=p.one;obtain⟨t,rfl⟩:=o;obtain⟨z,a,n,r,g,e⟩:=U.lstM b;obtain⟨w,j,d⟩:=r.get m
 refine vO F.slot_list_pop ⟨_,e,rfl⟩ F.entry_list_pop (F.args_list_pop_2 _ _)
  (MeetsSeq.list_pop_at l a.toArray n i t k w (vv h1 f) (by rw[hG,<-g];exact hk) (by rw[<-kE];exact j)<|by rw[hG];lia) ⟨e,?_⟩
 refine⟨y,_,U.lset (its':=a.eraseIdx k) b e ?_ (r.eraseIdx k) ?_,d,q⟩
 .show a.toArray.eraseIdxIfInBounds k=(a.eraseIdx k).toArray;rw[Jx]
 .have:=Ad B k
  lia
def Ou{c:Type}(a:List c)(k:Nat):(ac k a).flatten.length=k*(Ls a):=by
 induction k with
 |zero=>simp
 |succ k b=>rw[qk,vQ,ky,b,Nat.succ_mul,rs]
end
section
variable {a:gM}{w:gB}{A:gJ}{E:gX}{s:fY}
end
section
variable {X:Cx}
end
end L2
namespace Att
open PySem.W PySem.Calls
def xu{P:wl}{h:gH}: ∀(c:gh) (d:il),WellAll P h d (c.map WData.int)->dt d c:=by
 intro c
 induction c with
 |nil=>intro d w;rw[uw] at w;cases w;exact .nil
 |cons n c e=>
  intro d w;rw[iR] at w
  cases w with
  |cons a b=>
   cases a;exact .cons _ _ (e _ b)
def Hs{l:OpenLaw}{n:Nat}(u:l.most=I n){P:wl}{h:gH}{b:List WData}{e:il}
  (m:l.row.toRowW.claim.pre b=Y)(p:WellAll P h e b):
  ∃a o c,e=[bJ a]/\b=[WData.list<|c.map WData.int]/\h.get? a=I {cls:= .type "list",data:= .seq o.toArray}/\dt o c/\(Ls c)<=n:=by
 have j:WShape.hasAll [] b [.list .int]=Y:=(pre_splitW m).1;have k:l.pre.holds [] {args:=b}=Y:=(pre_splitW m).2;obtain⟨d,r,rfl,h1,s⟩:=hasAllW_cons j;obtain rfl:=hasAllW_nil s;obtain⟨A,rfl,t⟩:=hasW_list h1;obtain⟨c,rfl⟩:=items_int t
 have f:(Ls c)<=n:=by
  unfold OpenLaw.pre at k
  have g:(WTm.not<|.lt (.lit<|.int (n:Int))<|.len<|.arg 0).holds [] {args:=[.list<|c.map .int]}=Y:=by have g:=(holds_andW k).1;rw[u] at g;exact g
  have i:=condW_of g<|w_not<|w_lt w_lit<|w_len_list<|w_arg H;rw[iJ] at i;refine l8 λq=>?_;have w:(n:Int)<(((Ls c):Nat):Int):=by omega
  first
   |(rw[kh w] at i;exact absurd i<|by decide)
   |(simp at i;omega)
 cases p with
 |cons x y=>
  cases y
  cases x with
  |list v z=>exact⟨_,_,c,rfl,rfl,v,xu c _ z,f⟩
def HH(l:OpenLaw)(a:List WData):l.row.toRowW.claim.post a (.bool Y) a=Y:=
 postW_of (r:=l.row.toRowW) (X:=Y==Y)
  (show WShape.has [] (.bool Y) .bool=Y by first|rfl|decide|simp[WShape.has,WShape.arms,WShape.armsAll])
  (show(WTm.eq .res<|.lit<|.bool Y).value [] {args:=a,res:=I<|.bool Y,after:=a}=I (.bool<|Y==Y) from w_eq_bool (w_res H) w_lit) rfl
def OP{l:OpenLaw}{n:Nat}{q:gM}{c:hU}{y:(aO->Option gu)->gH->Prop}{z:gB->gH->Prop}{d:DefRec}
  (hn:l.most=I8 n)(I:d.params.defaults=[])
  (call: ∀(w:gB) (e b:fY) (p v:lE) (j:fV) (o:en) (x m g:gu) (a:fV) (i:il) (s:gh),
   Ground q c [] y w e p v b.heap->z w b.heap->
   b.heap.get? j=I8 o->o.data= .func (docDef d.name d.params d.body d.scope x m g)->b.heap.CodeRec m d.name->p d.name=I8 (.ref j)->
   b.heap.get? a=I8 {cls:= .type "list",data:= .seq i.toArray}->dt i s->Ls s<=n->b.gens= #[]->
   cJ (ah l.prog w) d5 (.call (.ref j) ⟨[.ref a],[]⟩) (λr t=>r= .ok (.ret<|.bool KE)/\OldK b.heap t.heap/\t.os=b.os/\dv t.gens) b):
  WalkO q c y z l.row.toRowW d [] (λf i=>fG f i):=by
 intro w e b p v G Y j o x m g L kV D hd P B u M A E S R C K O N;obtain rfl:L= .none:=Dflts.none B I;obtain rfl:kV= .none:=Dflts.noKw B;obtain⟨a,i,s,rfl,rfl,H,h,k⟩:=Hs hn R O;refine enter_call<|se (call w e b p v j o x m g a i s G Y D (fd_plain hd) P u H h k M) λr t F=>?_;obtain⟨rfl,Q,T,J⟩:=F;exact⟨.inl ⟨.bool KE,.bool KE,[],rfl,λ_=>rfl,.bool KE,HH l _,λ_=>⟨aU,λ_ U=>(nomatch U)⟩⟩,Q,T,J⟩
section
variable {a:gM}{w:gB}{A:gJ}{E:gX}{s:fY}{K:Frag}
end
end Att
namespace L2
def Hg{b:il}{a:gh}(h:dt b a):Vals (a.map V.int) b:=by
 induction h with
 |nil=>exact .nil
 |cons n t h c=>exact .cons ⟨t,rfl⟩ c
def Sq(U:Hp):Prop:= ∀b,U b=C\/ ∃o a,U b=I (.frz o<|.lst a)
def LP{P:gM}{w:gB}{K:gy}{O Y:lE}{CX:CXT}{k:Nat}{N a:fV}{fd:mZ}{x:aO}{sp:Sp}{c:fY}{p:il}{Q:gh}
  (KX:K.In c.heap)(aW:c.heap.Ns aq O)(g:c.heap.Ns n1 Y)(U: ∀x:aO,x≠"__name__"->Y x=aE x)(C:c.heap.NoLimit)(hg:c.gens= #[])
  (J:c.heap.get? a=I8 {cls:= .type "list",data:= .seq p.toArray})(hi:dt p Q)(hl:Q.length<=sizeLine)(hr:Room k d5)
  (F: ∀base:gH,K.In base->base.Ns aq O->FnOk P w K O base CX k N fd [x] sp)(l: ∀(s:fY) (u:gu),eM s fd ⟨[u],[]⟩ [(x,u)])
  (aV: ∀H8:Hp,Sq H8->SqL K H8 a (Q.map V.int)->sp [.ref a] H8 (λv _=>v= .bl KE) λ_ _ _=>False)
  (fv: ∀H8 e i,CX [] H8 c (λ_ _ _=>False) e i->False):
  cJ (ah P w) d5 (.call (.ref N) ⟨[.ref a],[]⟩) (λr i=>r= .ok (.ret<|.bool KE)/\OldK c.heap i.heap/\i.os=c.os/\dv i.gens) c:=by
 have W:=Hg hi;have L:=hi.length
 have j: ∀H8:Hp,Sq H8->SqL K H8 a (Q.map V.int)->HOk P w H8 c.heap->(∀b,H8 b≠J4->b=a)->(H8 a≠J4->K.lookup a=J4)->
   cJ (ah P w) d5 (.call (.ref N) ⟨[.ref a],[]⟩) (λr i=>r= .ok (.ret<|.bool KE)/\OldK c.heap i.heap/\i.os=c.os/\dv i.gens) c:=by
  intro H8 S hS E R hK;have f: ∀{b:fV} {o:en},c.heap.get? b=I8 o->H8 b=J4->(BR c.heap H8).get? b=I8 o:=λe n=>L8 e n
  have X: ∀{b:fV} {o:en} {A:Array cQ} {y:Nat},c.heap.get? b=I8 o->o.data= .dict A y->H8 b=J4:=λ{b o A y} e d=>by
   cases q:H8 b with
   |none=>rfl
   |some u=>have M:b=a:=R b (by rw[q];simp);subst M;rw[J] at e;cases e;have Z:mA p.toArray _=Data.dict A y:=d;cases Z
  have G: ∀{b:fV} {m:lE},c.heap.Ns b m->(BR c.heap H8).Ns b m:=λ{b m} ⟨o,A,y,e,d,r⟩=>⟨o,A,y,f e<|X e d,d,r⟩
  have B:K.In (BR c.heap H8):=λb o e=>f (KX b o e) (by
   cases q:H8 b with
   |none=>rfl
   |some u=>have M:b=a:=R b (by rw[q];simp);subst M;rw[hK<|by rw[q];simp] at e;cases e)
  have hM:Mod K O (BR c.heap H8):=⟨B,G aW,⟨Y,G g,U⟩,let⟨mc,h1,h2⟩:=C;⟨mc,G h1,h2⟩⟩
  have e0:Env0 P w K O (BR c.heap H8) d5 [] c H8:=⟨rfl,hM,λb o e=>Oi e,re<|Ig _ _,trivial,λb g=>absurd (show b∈([]:List fV) from g)<|by simp,E,.of_eq hg⟩
  refine se ((F _ B (G aW)).run d5 [] c H8 ⟨[.ref a],[]⟩ [.ref a] [.ref a] _ _ hr e0 (l c<|.ref a) (.cons H .nil) (aV H8 S hS)) λr i h=>?_
  cases r with
  |error e=>exact(fv H8 e i h).elim
  |ok fl=>
   cases fl with
   |next=>exact bX h
   |brk=>exact bX h
   |cont=>exact bX h
   |ret u=>
    obtain⟨v,H',os,t,un,I,r',q⟩:=h;have q':v= .bl KE:=q;subst q';obtain rfl:u=c0 KE:=r';refine⟨rfl,OldK.of_keep λb o e=>?_,os,t⟩
    cases q:H8 b with
    |none=>exact un.keep b o e q (by intro z;exact absurd (show b∈([]:List fV) from z)<|by simp) (by simp)
    |some u=>
     rcases S b with z|⟨ob,xs,z⟩
     .rw[q] at z;cases z
     .have z2:=un.frzs b ob _ z;obtain⟨D,_⟩:=E b _ z;obtain⟨e2,_⟩:=I b _ z2;rw[e] at D;cases D;exact e2
 cases hk:K.lookup a with
 |some o=>have e:=KX a o hk;rw[J] at e;cases e;refine j (λ_=>J4) (λ_=> .inl rfl) (.inr ⟨_,p.toArray,_,hk,rfl,rfl,rfl,by rw[hG,L];exact hl,by simpa using W⟩) (λb u z=>by have T:(J4:Option HO)=I8 u:=z;cases T) (λb z=>absurd H z) λz=>absurd H z
 |none=>
  refine j (λb=>if b=a then I8 (.frz {cls:= .type "list",data:= .seq p.toArray}<|.lst<|Q.map V.int) else J4) (λb=>?_) (.inl<|.inr ⟨{cls:= .type "list",data:= .seq p.toArray},gr H⟩) (λb u z=>?_) (λb z=>?_) λ_=>hk
  .by_cases g:b=a
   .exact .inr ⟨_,_,gr g⟩
   .exact .inl (gD g)
  .by_cases g:b=a
   .have T:=(gr g).symm.trans z;cases T;subst g;exact⟨J,by rw[iJ];exact hl,p,_,W,J⟩
   .have T:=(gD g).symm.trans z;cases T
  .by_cases g:b=a
   .exact g
   .exact absurd (gD g) z
def SW{l:eh}{n k:Nat}{q:gM}{j:hU}{O:(aO->Option gu)->gH->Prop}{E:gB->gH->Prop}{d:DefRec}{K:wl->gy}{CX:gB->CXT}{sp:gB->Sp}{x:aO}
  (hn:l.most=I8 n)(A:n<=sizeLine)(M:d.params.defaults=[])(hr:Room k d5)
  (hY: ∀(w:gB) (h:gH),E w h->(K w.params).In h)
  (F: ∀(w:gB) (m:lE) (r:fV) (h:gH),(K w.params).In h->h.Ns aq m->m d.name=I8 (.ref r)->
   ∃y:mZ,(∀(s:fY) (u:gu),eM s y ⟨[u],[]⟩ [(x,u)])/\
    ∀base:gH,(K w.params).In base->base.Ns aq m->FnOk l.prog w (K w.params) m base (CX w) k r y [x] (sp w))
  (Q: ∀(w:gB) (H:Hp) (a:fV) (t:gh),Ls t<=n->Sq H->SqL (K w.params) H a (t.map V.int)->sp w [.ref a] H (λv _=>v= .bl KE) λ_ _ _=>False)
  (U: ∀(w:gB) (H:Hp) (s:fY) (e:gu) (B:fY),CX w [] H s (λ_ _ _=>False) e B->False):
  i8 q j O E l.row.toRowW d [] (λf L=>fG f L):=by
 refine Att.OP hn M λw I p m mb r o pm Z N a L t G Y ho hd p5 z J i c X=>?_;have C:=hY w _ Y;obtain⟨y,S,D⟩:=F w m r _ C G.T.g z;exact LP C G.T.g G.T.b G.T.builtins G.T.nolimit X J i (lh c A) hr D S (λH P R=>Q w H a t c P R) λH e B=>U w H p e B
noncomputable def rH(s:cb):Arguments:=match s with
 | .FunctionDef _ a _ _ _ _ _ _ _ _=>a
 |_=>{posonlyargs:=[],args:=[],vararg:=C,kwonlyargs:=[],kw_defaults:=[],kwarg:=C,defaults:=[]}
noncomputable def mV(s:cb):List Stmt:=match s with
 | .FunctionDef _ _ b _ _ _ _ _ _ _=>b
 |_=>[]
noncomputable def gk(s:cb):Scope:=match s with
 | .FunctionDef _ _ _ _ _ _ a _ _ _=>a
 |_=>{kind:= .function,names:=[],isGenerator:=J,isCoroutine:=J}
abbrev CX0:CXT:=λ_ _ _ _ _ _=>False
abbrev E0:XK:=λ_ _ _=>False
def T6{X:Cx}:FR CX0 X E0:=λ_ _ _ _ _ _ _ h=>h.elim
structure Fun(K:gy)(x qual:aO)(st:cb)(f:fV)(fd:mZ):Prop where
 ex: ∃(oc:gu) (od:Option fV) (kV doc pm:gu) (an:Option fV) (d9 ct:gu) (ag:wR),
  fd=bV x qual (rH st) (mV st) (gk st) .none kV doc pm an d9 ct/\K.lookup f=I8 ⟨oc,od,.func fd,ag⟩/\c8 K d9 qual=KE
 kp:ce K (.ref f)=KE
section
variable {P:gM}{w:gB}{K:gy}{a:lE}{base:gH}
def Fun.ok{x qual:aO}{st:cb}{f:fV}{i:mZ}{N e:hU}{k:Nat}{g:Sp}(F:Fun K x qual st f i)(S:FnScope N e (gk st))(len: ∀c U Q E,g c U Q E->Ls c=Ls e)
  (p: ∀(d:gu) (A:gJ) (b:List eT) (s:fY) (U:Hp) (c:List V) (Q:VK) (E:XK),Room k (A.deeper<|cG qual (gk st) s.heap.objs.size f d)->g c U Q E->
   ∃t,PSs (Dx CX0 P w K a base N qual (gk st) f d A b s U E).nox (mV st) t/\t {nx:=λ_ j=>Q .non j,rt:=Q} (pP N c) U):FnOk P w K a base CX0 (k+1) f i e g:=by
 obtain⟨v,y,kV,m,z,u,d,ct,r,rfl,lk,o⟩:=F.ex;refine Uy lk o S len λA b s U c Q E n l=>?_;obtain⟨t,h,q⟩:=p d A b s U c Q E n l;exact⟨t,h.nox,q⟩
def Fun.binds{x qual:aO}{st:cb}{f:fV}{j:mZ}{g:hU}(F:Fun K x qual st f j)
  (h: ∀(kV b e:gu) (c:Option fV) (d ct:gu) (i:il),Ls i=Ls g->wf (bV x qual (rH st) (mV st) (gk st) .none kV b e c d ct) ⟨i,[]⟩=pure (g.zip i)):Binds K j g []:=by
 obtain⟨l,m,kV,b,e,c,d,ct,k,rfl,lk,n⟩:=F.ex;exact .all<|h kV b e c d ct
def RS{x qual:aO}{st:cb}{f:fV}{i:gu}{j e:Option fV}{h:wR}{kV b g d ct:gu}(l:K.lookup f=I ⟨i,j,.func<|bV x qual (rH st) (mV st) (gk st) .none kV b g e d ct,h⟩)
  (c:c8 K d qual=Y)(k:ce K (.ref f)=Y):Fun K x qual st f (bV x qual (rH st) (mV st) (gk st) .none kV b g e d ct):=⟨⟨i,j,kV,b,g,e,d,ct,h,rfl,l,c⟩,k⟩
end
section
variable {X:Cx}
end
def Up{A B:Prop}(h:B):if J=Y then A else B:=by rw[gD jD];exact h
def Uo{A B:Prop}(h:A):if Y=Y then A else B:=by rw[gr H];exact h
theorem ui(b:eT): ∀(l:List (aO×cO)) (g:lA),(∀x∈l,x.2= .free-> ∃c,b.cells.lookup x.1=I c)->(∀x c,g.lookup x=I c->b.cells.lookup x=I c)->
  ∃cl,(forIn l g λx r=>if x.2==aC then do let a <-v9 b x.1;pure (bq ((x.1,a)::r)) else pure (bq r))=(pure cl:da (List<|aO×fV))/\
   (∀x c,cl.lookup x=I c->b.cells.lookup x=I c)/\(∀x,(x,aC)∈l-> ∃c,cl.lookup x=I c)/\ ∀x c,g.lookup x=I c-> ∃c,cl.lookup x=I c
 |[],g,_,m=>⟨g,rfl,m,λx h=>by simp at h,λx c h=>⟨c,h⟩⟩
 |(n,k)::l,g,h,m=>by
  by_cases hk:k= .free
  .subst hk;obtain⟨c,e⟩:=h (n,.free) iX H;have q:b.cells.lookup n=I c:=e
   obtain⟨cl,h1,o,p,j⟩:=ui b l ((n,c)::g) (λx f=>h x<|jd _ f) (λx d f=>by
    rw[nS] at f
    cases i:x==n with
    |true=>rw[i] at f;have:=qa i;subst this;cases f;exact q
    |false=>rw[i] at f;exact m x d f)
   refine⟨cl,?_,o,λx f=>?_,λx d f=>?_⟩
   .rw[de];have:v9 b n=pure c:=by unfold v9;rw[q]
    simp -iota only[this,sn,beq_self_eq_true,jb];exact h1
   .rcases jF.mp f with z|z
    .cases z;exact j n c (by simp[nS])
    .exact p x z
   .cases i:x==n with
    |true=>have:=qa i;subst this;exact j x c (by simp[nS])
    |false=>exact j x d (by rw[nS,i];exact f)
  .obtain⟨cl,h1,o,p,j⟩:=ui b l g (λx f=>h x<|jd _ f) m;have i:(k==aC)=J:=by simpa using hk
   refine⟨cl,?_,o,λx f=>?_,j⟩
   .rw[de];simp -iota only[i,jA,jh,sn];exact h1
   .rcases jF.mp f with z|z
    .cases z;exact absurd H hk
    .exact p x z
def uh(b:eT)(scope:jt)(h: ∀x∈scope.names,x.2= .free-> ∃c,b.cells.lookup x.1=I c):
  ∃cl,closureFor scope b=pure cl/\(∀x c,cl.lookup x=I c->b.cells.lookup x=I c)/\ ∀x,(x,aC)∈scope.names-> ∃c,cl.lookup x=I c:=by
 obtain⟨cl,h1,d,e,_⟩:=ui b scope.names [] h (λx c f=>by simp at f);refine⟨cl,?_,d,e⟩;unfold closureFor;have:(forIn scope.names ([]:List (aO×fV)) λx r=>if x.2==aC then do let a <-v9 b x.1;pure (bq ((x.1,a)::r)) else pure (bq r))=(pure cl:da (List<|aO×fV)):=h1
 first
  |exact(nh (· >>=λr=>pure r) this).trans (sn _ _)
  |(simp -iota only[bind_pure];exact this)
  |exact this
theorem lp: ∀(b:List (aO×cO)) (n:Nat) (a:lA),bi n b a=bi n b []++a
 |[],_,_=>rfl
 |(x,k)::r,n,a=>by
  unfold bi;split
  .rw[lp r (n+1) ((x,n)::a),lp r (n+1) [(x,n)],mh];rfl
  .exact lp r n a
theorem oz{x:aO}{c:fV}: ∀(a:List (aO×cO)) (n:Nat),(x,c)∈bi n a []->(x,cr)∈a
 |[],_,h=>by simp[bi] at h
 |(y,k)::r,n,h=>by
  unfold bi at h;split at h
  .rename_i hk;rw[lp] at h;rcases nO.mp h with z|z
   .exact jd _ (oz r _ z)
   .cases zf.mp z;rw[qa hk];exact iX
  .exact jd _ (oz r _ h)
structure BCls(cells:lA)(scope:jt)(C:fV)(h:gH)(cl:lA):Prop where
 one: ∀x c,cl.lookup x=I8 c->(cells.lookup x=I8 c/\scope.names.lookup x≠I8 .cell)\/(C<c/\scope.names.lookup x=I8 .cell/\h.IsCell c J4)
 all: ∀x,(x,aC)∈scope.names\/(x,cr)∈scope.names-> ∃c,cl.lookup x=I8 c
 inj: ∀x y c,C<c->cl.lookup x=I8 c->cl.lookup y=I8 c->(∀z d,cells.lookup z=I8 d->d<C)->x=y
 ex: ∀x c,cl.lookup x=I8 c->cells.lookup x=I8 c\/C<c
def Ol{M:gi}{A:gJ}{E:gX}{s:fY}{scope:jt}{globals:fV}{a:eT}{cl:lA}{qual:aO}{Q:eT->fY->Prop}(u: ∀y∈scope.names,y.2= .cell->scope.names.lookup y.1=I .cell)
  (m: ∀x c,cl.lookup x=I c->a.cells.lookup x=I c)(U: ∀x,(x,aC)∈scope.names-> ∃c,cl.lookup x=I c)
  (B: ∀k r,k.Ns s.heap.objs.size (λ_=>C)->(∀b o,s.heap.get? b=I o->k.get? b=I o)->BCls a.cells scope s.heap.objs.size k r->
   Q {scope,locals:=s.heap.objs.size,globals,cells:=r,qual,func:=C,code:=a.code,frame:=a.frame,builtins:=a.builtins} {s with heap:=k}):
  af M A (fk scope globals cl [] qual C .none<|I a) Q E s:=by
 simp -iota only[fk,fE,jb];refine fX<|Bc ?_;refine fX<|wpAny_layCells _ (λv j i=>by cases n:j==cr<;>simp[n]) _ _ _ _ ?_;have ok:=cellsFrom_ok scope.names (s.heap.push {cls:= .type "dict",data:= .dict #[]}) (s.heap.objs.size+1) [] ⟨λ_ _ O=>(nomatch O),aU⟩ (by rw[oA];exact iD _);rw[oA] at ok;rw[show({s with heap:=s.heap.push {cls:= .type "dict",data:= .dict #[]}}:fY).heap.objs.size=s.heap.objs.size+1 from oA ..];simp -iota only[m8];have g: ∀x,(bi (s.heap.objs.size+1) scope.names cl).lookup x=((bi (s.heap.objs.size+1) scope.names []).lookup x).or (cl.lookup x):=λx=>by rw[lp,List.lookup_append]
 have f: ∀x c,(bi (s.heap.objs.size+1) scope.names cl).lookup x=I c->(cl.lookup x=I c/\(bi (s.heap.objs.size+1) scope.names []).lookup x=C)\/(x,c)∈bi (s.heap.objs.size+1) scope.names []:=λx c h=>by
  rw[g] at h
  cases p:(bi (s.heap.objs.size+1) scope.names []).lookup x with
  |none=>rw[p] at h;exact .inl ⟨h,rfl⟩
  |some d=>rw[p] at h;cases h;exact .inr<|qm p
 have lo: ∀{x:aO} {c:fV},(x,c)∈bi (s.heap.objs.size+1) scope.names []->s.heap.objs.size<c:=λ{x c} h=>(ok.empty x c h).2;refine fX<|gn<|gn<|B _ _ ((Heap.Ns.new s.heap<|.type "dict").keeps<|tc _ _) (λb o e=>tc _ _ b o (iF _ e)) ⟨λx c h=>?_,λx h=>?_,λx y c l h1 w t=>?_,λx c h=>?_⟩
 .rcases f x c h with⟨z,T⟩|z
  .refine .inl ⟨m x c z,λe=>?_⟩;have:=Bg scope.names (s.heap.objs.size+1) []<|.inl e;rw[T] at this;cases this
  .exact .inr ⟨lo z,u _ (oz _ _ z) rfl,(ok.empty x c z).1⟩
 .rcases h with h|h
  .obtain⟨c,l⟩:=U x h;rw[g,l];cases(bi (s.heap.objs.size+1) scope.names []).lookup x<;>exact⟨_,rfl⟩
  .have:=Bg scope.names (s.heap.objs.size+1) cl<|.inl<|u _ h rfl;exact JI.mp this
 .rcases f x c h1 with⟨z,_⟩|z
  .exact absurd (t x c<|m x c z) (Eg l)
  .rcases f y c w with⟨q,_⟩|q
   .exact absurd (t y c<|m y c q) (Eg l)
   .exact B4 ok.apart z q
 .rcases f x c h with⟨z,_⟩|z
  .exact .inl (m x c z)
  .exact .inr (lo z)
noncomputable def Cx.comp(X:Cx)(d:hU)(scope:jt)(cl:lA)(U:fV)(f:fY)(c:Hp)(e:jz)(a:gU):Cx:=
 {X with N:=d,s₀:=f,H₀:=c,env:=compEnvC scope cl U X.env,outer:=X.stack,stack:=X.stack,ex:=e,fn:=λx=>scope.names.lookup x==I .cell,pn:=X.pn++a,xe:=λ_ _=>False}
abbrev TB:=St->Hp->(St->Hp->Prop)->Prop
def PB(X:Cx)(code:da Unit)(t:TB):Prop:=
 ∀(a:gU) (s:fY) (c:St) (U:Hp) (N:St->Hp->Prop),Inv X a c U s->t c U N->
  af (ah X.prog X.w) X.A code (λ_ d=> ∃b H',Inv X a b H' d/\N b H') X.xe s
def PIf(X:Cx)(b:jg)(t:TT):Prop:=
 ∀(a:gU) (s:fY) (d:St) (U:Hp) (Q:Bool->Hp->Prop),Inv X a d U s->t d U Q->
  af (ah X.prog X.w) X.A (forIn b Y λc r=>if r=Y then do let ok <-isTrue c X.env (aK c X.env);pure (bq ok) else pure (bq r)) (TP X a d Q) X.xe s
noncomputable def S6:TT:=λ_ U Q=>Q Y U
section
variable {X:Cx}
def NX:PIf X [] S6:=λa s b T Q U h=>wpAny_tests_nil ⟨T,U,h⟩
def NW{c:gm}{t:TT}(h:PT X c t):PIf X [c] t:=λa s d T Q U b=>wpAny_tests_one<|h a s d T Q U b
noncomputable def hW(e:gm)(depth:Nat)(acc:gu)(a:eT):da Unit:=
 match(b6 e)[depth+1]? with
 |some c=>do
  let x <-aK c.iter a
  cc c.iter.pos
  let x <-au c.iter a x
  let _ <-runOwn (.compStart e (depth+1) (<-bt [x] (cU x)) acc a) a
 |none=>match e with
  | .ListComp b _ _ _=>do let _ <-call (.builtin "list.append") [acc,<-aK b a]
  | .SetComp b _ _ _=>do let v <-aK b a;cc b.pos;let _ <-call (.builtin "set.add") [acc,v]
  |_=>kl "no"
def F5(T:It)(g:TG)(n:TT)(l:TB):TB:=λd U N=> ∃W:Nat->Nat->St->Hp->Prop,(∃m,W 0 m d U)/\ ∀i m d U,W i m d U->
 (T.stop i U/\N d U)\/(T.go i U/\ ∀x f,T.yld i U x f->g x d f λa j=>n a j λb h=>if b=Y then l a h λe k=> ∃c,c<m/\W (i+1) c e k else ∃c,c<m/\W (i+1) c a h)
def Cb(e:gm)(depth:Nat)(k f:gu)(b:eT)(g:mJ)(q:(∃d a i p,e= .ListComp d a i p)\/(∃d a i p,e= .SetComp d a i p))
  (j:(b6 e)[depth]?=I g)(o:g.is_async=0)(l: ∀h,(b6 e)[depth+1]?=I h->h.is_async=0):
  k5 e depth k f b=(do
   cc g.iter.pos
   match <-ca k with
   |none=>pure<|.done .next
   |some v=>
    dz g.target k v
    bz g.target b v
    let ok <-forIn g.ifs Y λc r=>if r=Y then do let ok <-isTrue c b (aK c b);pure (bq ok) else pure (bq r)
    if ok=Y then hW e depth f b
    again (.compLoop e depth k f b)):=by
 rcases q with⟨d,a,i,p,rfl⟩|⟨d,a,i,p,rfl⟩
 .have m:a[depth]?=I g:=j;unfold k5 hW;simp only[clausesOf.eq_def] at j l ⊢;rw[m];simp only[o]
  cases n:a[depth+1]? with
  |none=>rfl
  |some h=>
   have:=l h n;simp only[this,rW,jA,jh]
   congr 1;funext _;congr 1;funext r
   cases r with
   |none=>rfl
   |some v=>
    dsimp only
    congr 1;funext _;congr 1;funext _;congr 1;funext ok
    cases ok with
    |false=>rfl
    |true=>simp only[jb,uv];rfl
 .have m:a[depth]?=I g:=j;unfold k5 hW;simp only[clausesOf.eq_def] at j l ⊢;rw[m];simp only[o]
  cases n:a[depth+1]? with
  |none=>rfl
  |some h=>
   have:=l h n;simp only[this,rW,jA,jh]
   congr 1;funext _;congr 1;funext r
   cases r with
   |none=>rfl
   |some v=>
    dsimp only
    congr 1;funext _;congr 1;funext _;congr 1;funext ok
    cases ok with
    |false=>rfl
    |true=>simp only[jb,uv];rfl
def Mz 
  (d:(∃b a c p,e= .ListComp b a c p)\/(∃b a c p,e= .SetComp b a c p))
  (h:af (ah prog w) A ((k5 e depth it acc env).onRaise (λx=>do pC x env;theTreesLotGoes x)) Q E s):
  af (ah prog w) (A.under<|.compLoop e depth it acc env) ((ah prog w).den<|.compLoop e depth it acc env) Q E s:=by
 rcases d with⟨b,a,c,p,rfl⟩|⟨b,a,c,p,rfl⟩
 .exact h
 .exact h
def Gz{e:gm}{depth:Nat}{acc:gu}{c:mJ}{g:TG}{ti:TT}{tb:TB}{J:It}{y:jz}{it:fV}{tn:Nat->gH->Prop}(bu:X.xe=λ_ _=>False)(hc:X.calm=Y)
  (hl:(∃B k sc p,e= .ListComp B k sc p)\/(∃B k sc p,e= .SetComp B k sc p))(hg:(b6 e)[depth]?=I8 c)(ha:c.is_async=0)(k4: ∀g',(b6 e)[depth+1]?=I8 g'->g'.is_async=0)
  (T:Turn X.prog X.w X.K c.target J y it tn)(pg:PG X c.target g)(aI:PIf X c.ifs ti)(pb:PB X (hW e depth acc X.env) tb)
  {a:gU}{s:fY}{σ:St}{H:Hp}{N:St->Hp->Prop}(I:Inv X a σ H s)(f2: ∀b∈y,qO X a H b)(st:tn 0 s.heap)(h:F5 J g ti tb σ H N):
  cJ (ah X.prog X.w) X.A (.compLoop e depth (.ref it) acc X.env) (λr s'=>r= .ok .next/\ ∃f j,Inv X a f j s'/\(∀b∈y,j b=C)/\N f j) s:=by
 obtain⟨W,⟨m0,w0⟩,G⟩:=h;have P: ∀{j:Hp},(∀b∈y,j b=C)-> ∀b∈y,qO X a j b:=λhn b v=>⟨hn b v,(f2 b v).2⟩
 have D: ∀{Z:Type} {t:da Z} {Q:Z->fY->Prop} {E:gX} {s:fY},af (ah X.prog X.w) X.A t Q X.xe s->af (ah X.prog X.w) X.A t Q E s:=λh=>ni h (λ_ _ x=>x) λ_ _ z=>by rw[bu] at z;exact z.elim
 refine codeAny_loop K3 (λn s'=> ∃i f j,Inv X a f j s'/\tn i s'.heap/\(∀b∈y,j b=C)/\W i n f j) (λn V hI=>?_) m0 ⟨0,σ,H,I,st,λb v=>(f2 b v).1,w0⟩;refine Mz hl ?_;refine wpAny_noted ?_;rw[Cb e depth (.ref it) acc X.env c hl hg ha k4];obtain⟨i,l,U,R,S,F,w3⟩:=hI;refine fX<|tx ?_;rcases G i n l U w3 with⟨stop,qn⟩|⟨go,step⟩
 .refine fX (thn (T.done X K3 K3 K3 hc i a V l U _ R (P F) S stop) λr s4 a'=>?_);obtain⟨hr,I4⟩:=a';subst hr;exact gn ⟨rfl,l,U,I4,F,qn⟩
 .refine fX (thn (T.item X K3 K3 K3 hc i a V l U _ R (P F) S go) λr s4 a'=>?_);obtain⟨u,hr,h4⟩:=a';subst hr;refine fX<|thn h4 λ_ s5 a'=>?_;obtain⟨x,H5,I5,r5,y5,bf,fw⟩:=a';have fP:=I5.pinned (P fw)<|T.obj _ _ bf;refine fX<|thn (D<|pg _ s5 l H5 x u _ fP r5 (step x H5 y5)) λ_ s6 a'=>?_;obtain⟨M,H6,I6,q6⟩:=a';refine fX<|thn (D<|aI _ s6 M H6 _ I6 q6) λok s7 a'=>?_;obtain⟨H7,I7,q7⟩:=a'
  have again: ∀{O:fY} {q:St} {C':Hp},Inv X (a++yx y s5.heap) q C' O->(∃Y',Y'<n/\W (i+1) Y' q C')-> ∃m,m<n/\ ∃i f j,Inv X a f j O/\tn i O.heap/\(∀b∈y,j b=C)/\W i m f j:=λ{O q C'} L a'=>by
   obtain⟨Y',hm,w8⟩:=a'
   refine⟨Y',hm,i+1,q,C',L.unpinned,T.keep _ _ _ bf λb v o e=>(L.pin (b,o)<|oD _ (oD _ (pf v e))).1,λb v=>?_,w8⟩;obtain⟨o,e,d⟩:=T.obj _ _ bf b v;exact(L.pin (b,o)<|oD _ (oD _ (pf v e))).2.1
  cases ok with
  |false=>rw[gD jD] at q7;exact gn ⟨rfl,again I7 q7⟩
  |true=>rw[gr K3] at q7;simp -iota only[jb];refine fX<|thn (D<|pb _ s7 M H7 _ I7 q7) λ_ O a'=>?_;obtain⟨q,C',L,q8⟩:=a';exact gn ⟨rfl,again L q8⟩
def Tb(d:fV)(e:TE):TB:=λc U N=>e c U λy b=> ∃a,b d=I (.lst a)/\(Ls a)<sizeLine/\N c (upd b d<|.lst<|a++[y])
def N7{b:gm}{a:nQ}{i:jt}{p:bB}{depth:Nat}{d:fV}{j:TE}(o:a[depth+1]?=C)(m:PE X b j):PB X (hW (.ListComp b a i p) depth (.ref d) X.env) (Tb d j):=by
 intro f s k T N U h
 have l:hW (.ListComp b a i p) depth (.ref d) X.env=(do let _ <-call (.builtin "list.append") [.ref d,<-aK b X.env]):=by unfold hW;simp -iota only[clausesOf.eq_def];rw[o]
 rw[l];refine fX<|thn (m f s k T _ U h) λu s1 Q=>?_;obtain⟨y,v,g,t,A,hd,x,q⟩:=Q;obtain⟨z,c,n,r,w,e⟩:=g.lstM hd;refine fX<|vO F.slot_list_append ⟨_,e,rfl⟩ Jz (Jy _ _) (fN d c.toArray n u<|by rw[hG];lia) ⟨e,?_⟩;refine gn ⟨k,_,g.lset (its':=c++[u]) hd e (by simp) (r.append<|.cons t .nil) ?_,q⟩;rw[ky,rX]
 lia
def Cy{b:gM}{w:gB}{A:gJ}{e:gm}{depth:Nat}{i acc:gu}{d:eT}{R:h8->fY->Prop}{s:fY}{c:mJ}
  (r:(∃g a j p,e= .ListComp g a j p)\/(∃g a j p,e= .SetComp g a j p))(q:(b6 e)[depth]?=I c)(o:c.is_async=0)
  (m:cJ (ah b w) A (.compLoop e depth i acc d) R s)
  (k: ∀(Q:gX) (E:gX),Q i s->af (ah b w) A (cU i) Q E s):
  cJ (ah b w) A (.compStart e depth i acc d) R s:=by
 have h:af (ah b w) A (f4 e depth i acc d) (λfin l=>match fin with| .done f=>R (.ok f) l| .again n=>n.quiet=Y/\cJ (ah b w) A n R l) (notedBy (ah b w) A d λx l=>R (.error x) l) s:=by
  unfold f4;rw[q];simp only[Option.elim,o,rW,jA,jh];refine fX<|tq<|wpAny_ite ?_;split
  .first
    |exact fX<|gn<|gn<|And.intro H m
    |exact gn<|And.intro H m
  .exact fX (rV<|fX<|tx<|fX<|k _ _ (gn<|And.intro H m))
 rcases r with⟨g,a,j,p,rfl⟩|⟨g,a,j,p,rfl⟩
 .refine vN ?_;show af _ A ((f4 (.ListComp g a j p) depth i acc d).onRaise (λx=>do pC x d;cc s8)) _ _ s;exact wP h
 .refine vN ?_;show af _ A ((f4 (.SetComp g a j p) depth i acc d).onRaise (λx=>do pC x d;cc s8)) _ _ s;exact wP h
noncomputable def J1(e:TI)(g:TG)(d:TT)(c:TB):TB:=λa U N=>e a U λT b=>F5 T g d c a b N
def Rf{e:gm}{depth:Nat}{b:gu}{c:mJ}{w:TI}{g:TG}{t:TT}{o:TB}(L:X.xe=λ_ _=>False)(M:X.calm=KE)
  (n:(∃d a j p,e= .ListComp d a j p)\/(∃d a j p,e= .SetComp d a j p))(i:(b6 e)[depth+1]?=I8 c)(m:c.is_async=0)(k4: ∀l,(b6 e)[depth+1+1]?=I8 l->l.is_async=0)
  (hs: ∀x,au c.iter X.env x=pure x)(pi:PI X c.target c.iter w)(pg:PG X c.target g)(C:PIf X c.ifs t)(pb:PB X (hW e (depth+1) b X.env) o):
  PB X (hW e depth b X.env) (J1 w g t o):=by
 intro f s K H N I h
 have O:hW e depth b X.env=(do
  let x <-aK c.iter X.env
  cc c.iter.pos
  let x <-au c.iter X.env x
  let _ <-runOwn (.compStart e (depth+1) (<-bt [x] (cU x)) b X.env) X.env):=by
  unfold hW;rw[i]
 rw[O];refine fX<|thn (pi f s K H _ I h) λv s1 h1=>fX<|tx<|fX<|tj (hs v)<|fX<|lM<|thn h1 λR F G=>?_;obtain⟨V,S,Z,J,P,rfl,z,T,u,f2,D⟩:=G;refine fX<|wpAny_runOwn ?_;refine Cy n i m ?_ λQ E U=>T.self X.A 0 F Q E u U;refine se (Gz L M n i m k4 T pg C pb z f2 u D) λr W Y=>?_;obtain⟨rfl,k,y,B,_,q⟩:=Y;exact gn ⟨k,y,B,q⟩
end
theorem mQ{a:eT}: ∀{b:List (aO×cO)} {x:aO},b.lookup x=I .free->
  (b.map λ(n,k)=>if(k==aC&&a.scope.kind== .function&&a.kindOf n==I .cell) then(n,cr) else(n,k)).lookup x=I .cell\/
  (b.map λ(n,k)=>if(k==aC&&a.scope.kind== .function&&a.kindOf n==I .cell) then(n,cr) else(n,k)).lookup x=I .free
 |[],_,h=>by simp at h
 |(n,k)::r,x,h=>by
  have e:= @mQ a r x;rw[iR]
  cases c:x==n with
  |true=>
   simp only[nS,c] at h;cases h;by_cases d:(aC==aC&&a.scope.kind== .function&&a.kindOf n==I .cell)=Y
   .left;simp only[d,jb,nS,c]
   .right;simp only[d,jh,nS,c,jA]
  |false=>
   simp only[nS,c] at h;by_cases d:(k==aC&&a.scope.kind== .function&&a.kindOf n==I .cell)=Y
   .simp only[d,jb,nS,c];exact e h
   .simp only[d,jh,nS,c,jA];exact e h
theorem kc{a:eT}: ∀{b:List (aO×cO)} {x:aO} {g:cO},
  (b.map λ(n,k)=>if(k==aC&&a.scope.kind== .function&&a.kindOf n==I .cell) then(n,cr) else(n,k)).lookup x=I g-> ∃k,(x,k)∈b/\(k=g\/k= .free)
 |[],_,_,h=>by simp at h
 |(n,k)::r,x,g,h=>by
  rw[iR] at h
  cases d:x==n with
  |true=>
   have e:=qa d;subst e;by_cases c:(k==aC&&a.scope.kind== .function&&a.kindOf x==I .cell)=Y
   .refine⟨k,iX,.inr ?_⟩
    have h1:(k==aC)=Y:=by
     cases hk:(k==aC) with
     |true=>rfl
     |false=>rw[hk] at c;simp at c
    exact qa h1
   .simp only[c,jh,nS,d,jA] at h;exact⟨k,iX,.inl<|by simpa using h⟩
  |false=>
   by_cases c:(k==aC&&a.scope.kind== .function&&a.kindOf n==I .cell)=Y
   .simp only[c,jb,nS,d] at h;obtain⟨i,h1,f⟩:=kc h;exact⟨i,jd _ h1,f⟩
   .simp only[c,jh,nS,d,jA] at h;obtain⟨i,h1,f⟩:=kc h;exact⟨i,jd _ h1,f⟩
structure CompScope(X:Cx)(N':hU)(scope:jt)(pre:St->St):Prop where
 cell: ∀y∈scope.names,y.2= .cell->scope.names.lookup y.1=I8 .cell
 kind:scope.kind= .function
 names: ∀y∈scope.names,y.2= .local->scope.names.lookup y.1=I8 .local
 free: ∀y∈scope.names,y.2= .free->X.env.scope.names.lookup y.1=I8 .cell\/X.env.scope.names.lookup y.1=I8 .free
 len: ∀σ:St,(pre σ).length=Ls N'
 pre: ∀(σ:St) (i:Nat) (v:V) (x:aO),(pre σ)[i]?=I8 (I8 v)->N'[i]?=I8 x->scope.names.lookup x=I8 .free/\ ∃j:Nat,X.N[j]?=I8 x/\σ[j]?=I8 (I8 v)
section
variable {X:Cx}
def OI{O:hU}{scope:jt}{pre:St->St}(S:CompScope X O scope pre){d:gU}{f:fY}{L:St}{t:Hp}{E:jz}{cl:lA}{H:gH}{t':Nat}(I:Inv X d L t f)
  (B:BCls X.env.cells scope f.heap.objs.size H cl)
  (C: ∀b∈E,qO X d t b)(T: ∀b∈E,b<f.heap.objs.size)
  (N:H.Ns f.heap.objs.size (λ_=>J4))(hk: ∀b o,f.heap.get? b=I8 o->H.get? b=I8 o):
  Inv (X.comp O scope cl f.heap.objs.size f t E d) [] (pre L) t {f with heap:=H,toks:=t'}:=by
 have F: ∀b∈frs X.stack,t b=J4:=I.stkFree;have w: ∀b,b≠X.env.locals->b∉X.fs->b∉frs X.stack:=λb h1 a z=>(jF.mp<|I.stkSub b z).elim h1 a;have A: ∀x c,X.env.cells.lookup x=I8 c->c<f.heap.objs.size:=λx c e=>(I.cell x c e).elim λ_ z=>z.lt
 refine⟨⟨I.ok.mod,?_,I.ok.glob,I.ok.blt,iD _,λx y c h1 a=>?_,λx h=>?_,λx c q e=>?_,I.ok.hd,I.ok.frames,.inl K3,λb g=>?_,
  I.bs,lh I.ok.bsz I.sz,λb o e g=>?_,λb g=>w b (C b g).2.1 (C b g).2.2.1,I.stack,F⟩,rfl,I.bare,Un.kept hk,⟨_,N,λi x v h1 a G=>?_⟩,λx c h=>?_,I.hok.fresh<|iD _,λx c h=>?_,λp V=>?_,I.hok.kept hk,S.len L⟩
 .show(g9 scope X.env).kind= .function;simp[g9,S.kind]
 .rcases B.ex x c h1 with z|z
  .rcases B.ex y c a with s|s
   .exact I.ok.inj x y c z s
   .exact absurd (A x c z) (Eg s)
  .exact B.inj x y c z h1 a A
 ·
  have D:(g9 scope X.env).names.lookup x=I8 .cell\/(g9 scope X.env).names.lookup x=I8 .free:=h;refine B.all x ?_;rcases D with z|z
  .obtain⟨k,h1,a⟩:=kc z;rcases a with a|a<;>subst a
   .exact .inr h1
   .exact .inl h1
  .obtain⟨k,h1,a⟩:=kc z;rcases a with a|a<;>(subst a;exact .inl h1)
 .rcases B.one x c e with⟨_,z⟩|⟨z,_⟩
  .exact absurd (qa q) z
  .exact vV z
 .refine⟨hX<|T b g,λx c h=>?_⟩;rcases B.ex x c h with z|z
  .exact(C b g).2.2.2.2.1 x c z
  .exact mN (Bb (T b g) z)
 ·
  have W:b∈E:=g;rcases(C b W).2.2.2.1 with z|z
  .exact I.ok.noex b o e z
  .exact absurd (mO (iM e)<|lh I.ok.bsz z) (oE _)
 .obtain⟨q,j,P,hv⟩:=S.pre L i v x a h1;obtain⟨m,hn,R⟩:=I.loc;have J:=S.free (x,.free) (qm q) K3;obtain⟨u,r,l⟩:=R j x v P hv (by rcases J with z|z;exact .inr<|.inl z;exact .inr<|.inr z);refine⟨u,r,.inr ⟨mQ q,?_⟩⟩;rcases l with⟨eG,_⟩|⟨_,c,K,Z⟩
  .have M:X.env.scope.names.lookup x=I8 .local:=eG;rcases J with z|z<;>(have s:X.env.scope.names.lookup x=_:=z;rw[M] at s;cases s)
  .obtain⟨Y,Q⟩:=B.all x<|.inl<|qm q;rcases B.one x Y Q with⟨this,_⟩|⟨_,z,_⟩
   .rw[K] at this;cases this;exact⟨c,Q,Z.keeps hk⟩
   .rw[q] at z;cases z
 .rcases B.one x c h with⟨z,_⟩|⟨_,_,z⟩
  .obtain⟨v,hv⟩:=I.cell x c z;exact⟨v,hv.keeps hk⟩
  .exact⟨_,z⟩
 .rcases B.ex x c h with z|z
  .exact I.freeC x c z
  .exact I.hok.fresh (vV z)
 .have U:p∈X.pn++d:=by simpa[Cx.comp] using V
  obtain⟨e,n,h1,a,G⟩:=I.pin p U;exact⟨hk _ _ e,n,hX<|iM e,w _ h1 a,G⟩
def yV{q:hU}{scope:jt}{a:gU}{f g:fY}{n k:St}{i l:Hp}{j:jz}{cl:lA}{m:gH}(U:Inv X a n i f)(h: ∀b∈j,qO X a i b)
  (T:Inv (X.comp q scope cl f.heap.objs.size f i j a) [] k l g)(t:aH f.heap.objs.size g.heap m):Inv X a n l {g with heap:=m}:=by
 have K:=U.call' (s':=g) (ch:=j) T.os T.base T.hok T.bare λb d=>⟨(h b d).2.2.2.1,(h b d).2.1,(h b d).2.2.2.2.1,(h b d).2.2.2.2.2⟩
 have r:X.env.locals<f.heap.objs.size:=U.lt;refine K.turned (it:=f.heap.objs.size) (t':=g.toks) (λb o d e=>by rw[t.2 b d];exact e) T.free (mN r) (.inr U.sz) (λx c u z=>?_) λp s z=>?_
 .obtain⟨v,o,e,_⟩:=U.cell x c u;exact absurd (iM e) (by rw[z];exact oE _)
 .obtain⟨e,_⟩:=U.pin p s;exact absurd (iM e) (by rw[z];exact oE _)
def F6(o:HO)(T:It)(g:TG)(c:TT)(b:fV->TB)(pre:St->St)(e:St)(U:Hp)(Q:VK):Prop:=
 ∀d,U d=C->F5 T g c (b d) (pre e) (upd U d o) λ_ a=>Q (.ref d) a
def Vj(T:It)(g:TG)(b:TT)(a:fV->TB)(pre:St->St)(c:St)(U:Hp)(Q:VK):Prop:=F6 (.lst []) T g b a pre c U Q
def wJ{e:gm}{o:HO}{l:en}{c:mJ}{ir:nQ}{scope:jt}{u:hU}{pre:St->St}{g:TG}{ti:TT}{tb:fV->TB}{U:lA}{J:It}{i:jz}{it:fV}{tn:Nat->gH->Prop}
  (hl:(∃N k sc p,e= .ListComp N k sc p)\/ ∃N k sc p,e= .SetComp N k sc p)(hg:b6 e=c::ir)
  (S:CompScope X u scope pre)(hc:X.calm=KE)(ha:c.is_async=0)(k4: ∀I',ir[0]?=I I'->I'.is_async=0)
  (o7: ∀(cl:lA) (C:fV) (s:fY) (t:Hp) (i:jz) (a:gU),let H':=X.comp u scope cl C s t i a
   PG H' c.target g/\PIf H' c.ifs ti/\ ∀d,PB H' (hW e 0 (.ref d) H'.env)<|tb d)
  (l4: ∀x c,U.lookup x=I c->X.env.cells.lookup x=I c)(k6: ∀x,(x,aC)∈scope.names-> ∃c,U.lookup x=I c)
  {a:gU}{f:fY}{L:St}{m:Hp}{Q:VK}{E:gX}{RR:gu->fV->h8->fY->Prop}(I2:Inv X a L m f)(T:Turn X.prog X.w X.K c.target J i it tn)(u6:tn 0 f.heap)(f2: ∀b∈i,qO X a m b)
  (G:Inv X a L (upd m f.heap.objs.size o) {f with heap:=f.heap.push l})
  (h:F6 o J g ti tb pre L m Q)
  (hRR: ∀(d:fV) (cl:lA) (s:fY) (t O:Hp) (σ':St) (s4:fY),Inv X a L t s->(∀b∈i,qO X a t b)->Inv (X.comp u scope cl s.heap.objs.size s t i a) [] σ' O s4->Q (.ref d) O->RR (.ref d) s.heap.objs.size (.ok .next) s4):
  af (ah X.prog X.w) X.A (fk scope X.env.globals U [] X.env.qual J4 .none<|I X.env) (λn y=>
   cJ (ah X.prog X.w) X.A (.compStart e 0 (.ref it) (.ref f.heap.objs.size) {n with scope:=g9 scope X.env}) (RR (.ref f.heap.objs.size) n.locals) y) E {f with heap:=f.heap.push l}:=by
 have P: ∀b∈i,b<f.heap.objs.size:=λb j=>by obtain⟨o,e,_⟩:=T.obj _ _ u6 b j;exact iM e
 have Y: ∀b∈i,qO X a (upd m f.heap.objs.size o) b:=λb j=>⟨by rw[gR<|hX<|P b j];exact(f2 b j).1,(f2 b j).2⟩
 refine Ol S.cell l4 k6 λh1 cl aW F B=>?_;have hk: ∀b o,(f.heap.push l).get? b=I o->h1.get? b=I o:=F;have M: ∀b∈i,b<(f.heap.push l).objs.size:=λb j=>by rw[oA];exact rT<|P b j
 have J0:=OI (t':=f.toks) S G B Y M aW hk;obtain⟨pg,aI,pb⟩:=o7 cl (f.heap.push l).objs.size {f with heap:=f.heap.push l} (upd m f.heap.objs.size o) i a;have v:tn 0 h1:=T.keep _ _ _ u6 λb j o e=>hk b o<|iF _ e;have hw:=h f.heap.objs.size<|I2.hok.fresh<|iD _
 have D: ∀b∈i,qO (X.comp u scope cl (f.heap.push l).objs.size {f with heap:=f.heap.push l} (upd m f.heap.objs.size o) i a) []
   (upd m f.heap.objs.size o) b:=λb j=>by
  obtain⟨z1,z2,z3,z4,z5,z6⟩:=Y b j;refine⟨z1,hX<|M b j,λz=>(jF.mp<|G.stkSub b z).elim z2 z3,.inl j,λx c hx=>(B.ex x c hx).elim (z5 x c) λz=>mN<|Bb (M b j) z,λp hp=>z6 p<|by simpa[Cx.comp] using hp⟩
 have R:(b6 e)[0]?=I c:=by rw[hg];rfl
 refine Cy hl R ha ?_ λQ' W hq=>T.self X.A 0 _ Q' W v hq
 refine se (Gz (X:=X.comp u scope cl (f.heap.push l).objs.size {f with heap:=f.heap.push l} (upd m f.heap.objs.size o) i a)
  (depth:=0) (acc:= .ref f.heap.objs.size) rfl hc hl R ha (λI' V=>k4 I'<|by rw[hg] at V;exact V) T pg aI (pb _) J0 D v hw) λr s4 hr=>?_
 obtain⟨rfl,σ4,O,Z,_,q⟩:=hr;exact hRR _ _ _ _ _ _ _ G Y Z q
noncomputable def J2(e:TI)(g:TG)(d:TT)(c:fV->TB)(pre:St->St):TE:=λa U Q=>e a U λT b=>Vj T g d c pre a b Q
def Lb{b:gm}{c:mJ}{ir:nQ}{scope:jt}{e:bB}{o:hU}{pre:St->St}{y:TI}{g:TG}{ti:TT}{tb:fV->TB}
  (S:CompScope X o scope pre)(Y:X.calm=KE)(U:c.is_async=0)(k4: ∀t,ir[0]?=I8 t->t.is_async=0)
  (hs: ∀x,au c.iter X.env x=pure x)(pi:PI X c.target c.iter y)
  (o7: ∀(cl:lA) (C:fV) (u:fY) (k:Hp) (r:jz) (a:gU),let f:=X.comp o scope cl C u k r a
   PG f c.target g/\PIf f c.ifs ti/\ ∀d,PB f (hW (.ListComp b (c::ir) scope e) 0 (.ref d) f.env)<|tb d):
  PE X (.ListComp b (c::ir) scope e) (J2 y g ti tb pre):=by
 intro a s z H Q I h;obtain⟨tg,p,j,O⟩:=c;obtain rfl:O=0:=U;obtain⟨cl,V,W,R⟩:=uh X.env scope λx P D=>I.ok.has x.1<|S.free x P D;rw[eval_ListComp];show af _ X.A (fF _ scope X.env _ (hD []) K2 (aK p X.env)) _ _ s;refine Ef (use:=J4) (g:=⟨tg,p,j,0⟩) (gs:=ir) K3 hs V S.kind S.names<|thn (pi a s z H _ I h) λv s1 h1=>thn h1 λbW Z N=>?_;obtain⟨it,r,tn,J,H2,rfl,l,T,u6,f2,K⟩:=N;refine lK<|wJ (RR:=λi C=>v8 (ah X.prog X.w) X.A X.xe J4 (EP X a z Q) i C) (.inl ⟨_,_,_,_,rfl⟩) K3 S Y K3 k4 o7 W R l T u6 f2 (l.lnew (t':=Z.toks) .nil<|by simp) K λd G u k B σ' s4 E M n q=>?_;obtain⟨m,F,_⟩:=id n.loc;exact⟨m,F,λh' L=>⟨.ref d,B,yV E M n L,rfl,q⟩⟩
def KN{f:gm}{c:mJ}{ir:nQ}{scope:jt}{j f7 k:bB}{N':hU}{pre:St->St}{wi:TI}{g:TG}{ti:TT}{tb:fV->TB}{y:aO}{i:Nat}
  (cC:cE (.ListComp f (c::ir) scope j) (I8<|.Name y k) f7.line X.env=pure KE)
  (S:CompScope X N' scope pre)(hc:X.calm=KE)(ha:c.is_async=0)(k4: ∀g',ir[0]?=I8 g'->g'.is_async=0)
  (hs: ∀x,au c.iter X.env x=pure x)(pi:PI X c.target c.iter wi)(dU:PG X (.Name y k) (Di i))
  (o7: ∀(cl:lA) (C:fV) (l:fY) (H3:Hp) (fp:jz) (a:gU),let u:=X.comp N' scope cl C l H3 fp a
   PG u c.target g/\PIf u c.ifs ti/\ ∀d,PB u (hW (.ListComp f (c::ir) scope j) 0 (.ref d) u.env)<|tb d):
  PS X (.Assign [.Name y k] (.ListComp f (c::ir) scope j) f7) (PQ (J2 wi g ti tb pre)<|Di i):=by
 intro a s E H D I h;obtain⟨W,G,t,az⟩:=c;obtain rfl:az=0:=ha;obtain⟨cl,k9,l4,k6⟩:=uh X.env scope λx Y hf=>I.ok.has x.1<|S.free x Y hf;rw[exec_Assign_Name_used _ _ _ _ cC];refine fX<|tx<|fX ?_;show af _ X.A (do let _ <-fF (.ListComp f (⟨W,G,t,0⟩::ir) scope j) scope X.env _ (hD []) K2 (aK G X.env) (I8<|bz (.Name y k) X.env)) _ _ s
 refine fX (ni (Ef (use:=I8<|bz (.Name y k) X.env) (g:=⟨W,G,t,0⟩) (gs:=ir) (Q:=λ_ B=>SP X a D .next B) K3 hs k9 S.kind S.names
  (thn (pi a s E H _ I h) λv s1 h1=>thn h1 λbW s2 h2=>?_)) (λ_ B hq=>gn<|gn hq) λ_ _ e=>e)
 obtain⟨it,fp,tn,J,H2,rfl,P,T,u6,f2,hw⟩:=h2;refine lK<|wJ (RR:=λM C=>v8 (ah X.prog X.w) X.A X.xe (I8<|bz (.Name y k) X.env) (λ_ B=>SP X a D .next B) M C) (.inl ⟨_,_,_,_,rfl⟩) K3 S hc K3 k4 o7 l4 k6 P T u6 f2 (P.lnew (t':=s2.toks) .nil<|by simp) hw λd cl' l H3 L σ' K n ff O q=>?_;obtain⟨m,hn,_⟩:=id O.loc;obtain⟨F,es,ep,ho,hd,hr⟩:=id hn;have R:Inv X a E L K:=yV n ff O (Ba ..);have r:l.heap.objs.size≠X.env.locals:=mN n.lt;have N:l.heap.objs.size∉X.fs:=λz=>n.nofs (iD _) z
 have Z:Inv X (a++[(l.heap.objs.size,F)]) E L K:=R.pins_of λp U=>by
  rcases nO.mp U with z|z
  .exact R.pin p (oD _ z)
  .rcases zf.mp z with rfl
   exact⟨ho,O.free,r,N,λv z=>by rw[hd] at z;cases z⟩
 show af _ X.A (bz (.Name y k) X.env<|.ref d) _ _ _;refine thn (dU _ K E L (.ref d) (.ref d) _ Z rfl q) λ_ s5 a'=>?_;obtain⟨σ5,H5,I5,q5⟩:=a';have V:=I5.pin (l.heap.objs.size,F) (by simp);refine⟨m,⟨F,es,ep,V.1,hd,hr⟩,λh' aA=>⟨σ5,H5,?_,q5⟩⟩;refine I5.unpinned.turned (it:=l.heap.objs.size) (t':=s5.toks) (λb o hb e=>by rw[aA.2 b hb];exact e) V.2.1 r (.inr n.sz) (λx c Y z=>?_) λp U z=>?_
 .obtain⟨v,o,e,_⟩:=n.cell x c Y;exact absurd (iM e) (by rw[z];exact oE _)
 .obtain⟨e,_⟩:=n.pin p U;exact absurd (iM e) (by rw[z];exact oE _)
end
end L2
namespace PX
open L2
inductive OK where
 |dct|set|fn(i:Nat)|exc(c:Nat)
 deriving DecidableEq
inductive D where
 |non|bl(b:Bool)|int(i:Int)|str(x:aO)|tup(l:List D)|lst(l:List D)|oth(k:OK)(ks vs:List D)
mutual
/-- the hash of ints and of tuples of such -/
noncomputable def D.hash:D->Int
 | .int i=>pc i
 | .tup l=>reduceHash<|p8<|D.hashL l
 |_=>0
noncomputable def D.hashL:List D->List Int
 |[]=>[]
 |d::l=>D.hash d::D.hashL l
end
noncomputable def iU:Key->D
 | .inl i=> .int i
 | .inr x=> .str x
def Wi(K:gy)(o:en)(U:Nat):Prop:=o.cls= .ref U/\(∀a:fV,PySem.W.KitX K (.ref a) (.ref U) λh=>h.get? a=I o)/\ ∀n∈["int","bool","str","tuple","list","dict"],c7 K (.ref U) (.type n)=I J
def OthB(K:gy)(h:Option HO)(k:OK)(a c:List D)(b:List V):Prop:=
 match k with
 | .dct=>(∃kvs:List (Key×V),h=I (.dK kvs)/\a=kvs.map (λp=>iU p.1)/\b=kvs.map (·.2))\/
   (∃kvs:List (List Key×V),h=I (.dT kvs)/\a=kvs.map (λp=> .tup (p.1.map iU))/\b=kvs.map (·.2))
 | .set=>a=[]/\ ∃d:List (Int×V),h=I (.stt d)/\d.Perm ((D.hashL c).zip b)
 | .exc U=>(a=[]/\c=[]/\b=[])/\ ∃o,h=I (.frz o<|.own 0)/\Wi K o U
 |_=>False
def OthB.ex{K h k a b us}(x:OthB K h k a b us): ∃o,h=I o:=by
 cases k with
 |dct=>rcases x with⟨_,e,_⟩|⟨_,e,_⟩<;>exact⟨_,e⟩
 |set=>obtain⟨_,_,e,_⟩:=x;exact⟨_,e⟩
 |exc U=>obtain⟨_,_,e,_⟩:=x;exact⟨_,e⟩
 |_=>exact x.elim
def OthB.keep{K k a b us}(x:OthB K h k a b us)(c: ∀o,h=I o->h'=I o):OthB K h' k a b us:=by obtain⟨o,e⟩:=x.ex;rw[c o e,<-e];exact x
abbrev AP':=fV->Prop
def KT(K:gy)(a:fV)(c:List V):Prop:= ∃(o:en) (b:lN) (n:Nat),K.lookup a=I o/\o.cls= .type "tuple"/\o.data= .seq b n/\b.size<=sizeLine/\Vals c b.toList
def KL(K:gy)(a:fV)(c:List V):Prop:= ∃(o:en) (b:lN) (n:Nat),K.lookup a=I o/\o.cls= .type "list"/\o.dict=C/\o.data= .seq b n/\b.size<=sizeLine/\Vals c b.toList
def SqTO(K:gy)(U:Hp)(O:AP')(a:fV)(b:List V):Prop:=U a=I (.tup b)/\ ¬O a
def SqLO(K:gy)(U:Hp)(O:AP')(a:fV)(b:List V):Prop:=(Rd U a (.lst b)/\ ¬O a)\/KL K a b
def SqTO.sq{K U O a xs}(h:SqTO K U O a xs):SqT K U a xs:= .inl (.inl h.1)
def SqLO.sq{K U O a xs}(h:SqLO K U O a xs):SqL K U a xs:=h.elim (λz=> .inl z.1) .inr
def Rd.mono{a u}(h:Rd U a u)(k: ∀o,U a=I o->H' a=I o):Rd H' a u:=by
 rcases h with h|⟨o,h⟩
 .exact .inl (k _ h)
 .exact .inr ⟨o,k _ h⟩
def SqTO.mono{K U H'}{a xs}(h:SqTO K U O a xs)(k: ∀b o,U b=I o-> ¬O b->H' b=I o)(c: ∀b,U b≠C->O' b->O b):SqTO K H' O' a xs:=
 ⟨k a _ h.1 h.2,λz=>h.2<|c a (by rw[h.1];simp) z⟩
def SqLO.mono{K U H'}{a xs}(h:SqLO K U O a xs)(k: ∀b o,U b=I o-> ¬O b->H' b=I o)(c: ∀b,U b≠C->O' b->O b):SqLO K H' O' a xs:=by
 rcases h with⟨r,n⟩|h
 .refine .inl ⟨Rd.mono r λo e=>k a o e n,λz=>n<|c a ?_ z⟩;rcases r with r|⟨_,r⟩<;>(rw[r];simp)
 .exact .inr h
mutual
/-- v is the datum,in H;nothing of it stands at an address of O -/
def Rep(K:gy)(U:Hp)(O:AP'):D->V->Prop
 | .non,v=>v= .non
 | .bl b,v=>v= .bl b
 | .int i,v=>v= .int i
 | .str x,v=>v= .str x
 | .tup l,v=> ∃a xs,v= .ref a/\SqTO K U O a xs/\RepL K U O l xs
 | .lst l,v=> ∃a xs,v= .ref a/\SqLO K U O a xs/\RepL K U O l xs
 | .oth k e d,v=> ∃a c,v= .ref a/\(¬O a/\OthB K (U a) k e d c)/\RepL K U O d c
def RepL(K:gy)(U:Hp)(O:AP'):List D->List V->Prop
 |[],a=>a=[]
 |d::l,a=> ∃v r,a=v::r/\Rep K U O d v/\RepL K U O l r
end
mutual
theorem Rep.mono{K U H'}{O O':AP'}(k: ∀b o,U b=I o-> ¬O b->H' b=I o)(c: ∀b,U b≠C->O' b->O b): ∀{d:D} {v:V},Rep K U O d v->Rep K H' O' d v
 | .non,_,h=>h
 | .bl _,_,h=>h
 | .int _,_,h=>h
 | .str _,_,h=>h
 | .tup l,_,h=>by rw[Rep] at h ⊢;obtain⟨a,f,e,s,r⟩:=h;exact⟨a,f,e,s.mono k c,RepL.mono k c r⟩
 | .lst l,_,h=>by rw[Rep] at h ⊢;obtain⟨a,f,e,s,r⟩:=h;exact⟨a,f,e,s.mono k c,RepL.mono k c r⟩
 | .oth i j m,_,h=>by rw[Rep] at h ⊢;obtain⟨a,g,e,s,r⟩:=h;exact⟨a,g,e,⟨λz=>s.1<|c a (by obtain⟨o,q⟩:=s.2.ex;rw[q];simp) z,s.2.keep λo q=>k a o q s.1⟩,RepL.mono k c r⟩
theorem RepL.mono{K U H'}{O O':AP'}(k: ∀b o,U b=I o-> ¬O b->H' b=I o)(a: ∀b,U b≠C->O' b->O b): ∀{l:List D} {c:List V},RepL K U O l c->RepL K H' O' l c
 |[],_,h=>h
 |d::l,_,h=>by rw[RepL] at h ⊢;obtain⟨v,r,e,h1,f⟩:=h;exact⟨v,r,e,Rep.mono k a h1,RepL.mono k a f⟩
end
def Rep.mkInt{K U O i}:Rep K U O (.int i) (.int i):=by rw[Rep]
def Rep.mkBl{K U O i}:Rep K U O (.bl i) (.bl i):=by rw[Rep]
def Rep.mkNon{K U O}:Rep K U O .non .non:=by rw[Rep]
def Rep.mkStr{K U O i}:Rep K U O (.str i) (.str i):=by rw[Rep]
def Rep.int{K U O i v}(h:Rep K U O (.int i) v):v= .int i:=by rwa [Rep] at h
def Rep.bl{K U O i v}(h:Rep K U O (.bl i) v):v= .bl i:=by rwa [Rep] at h
def Rep.non{K U O v}(h:Rep K U O .non v):v= .non:=by rwa [Rep] at h
def Rep.str{K U O i v}(h:Rep K U O (.str i) v):v= .str i:=by rwa [Rep] at h
def Rep.tup{K U O l v}(h:Rep K U O (.tup l) v): ∃a b,v= .ref a/\SqTO K U O a b/\RepL K U O l b:=by rwa [Rep] at h
def Rep.lst{K U O l v}(h:Rep K U O (.lst l) v): ∃a xs,v= .ref a/\SqLO K U O a xs/\RepL K U O l xs:=by rwa [Rep] at h
def Rep.oth{K U O k c b v}(h:Rep K U O (.oth k c b) v): ∃a d,v= .ref a/\(¬O a/\OthB K (U a) k c b d)/\RepL K U O b d:=by rwa [Rep] at h
def Rep.mkOth{K U O k c b a us}(n: ¬O a)(h:OthB K (U a) k c b us)(r:RepL K U O b us):Rep K U O (.oth k c b) (.ref a):=by rw[Rep];exact⟨a,us,rfl,⟨n,h⟩,r⟩
def Rep.mkTup{K U O l a xs}(h:SqTO K U O a xs)(r:RepL K U O l xs):Rep K U O (.tup l) (.ref a):=by rw[Rep];exact⟨a,xs,rfl,h,r⟩
def Rep.mkLst{K U O l a xs}(h:SqLO K U O a xs)(r:RepL K U O l xs):Rep K U O (.lst l) (.ref a):=by rw[Rep];exact⟨a,xs,rfl,h,r⟩
theorem RepL.length{K U O}: ∀{l:List D} {a:List V},RepL K U O l a->Ls a=Ls l
 |[],a,h=>by rw[RepL] at h;rw[h];rfl
 |d::l,a,h=>by rw[RepL] at h;obtain⟨v,r,rfl,_,b⟩:=h;simp[RepL.length b]
theorem RepL.get{K U O}: ∀{l:List D} {a:List V} {i:Nat} {d:D},RepL K U O l a->l[i]?=I d-> ∃v,a[i]?=I v/\Rep K U O d v
 |[],_,_,_,_,e=>by simp at e
 |d::l,a,0,b,h,e=>by rw[RepL] at h;obtain⟨v,r,rfl,h1,_⟩:=h;simp at e;subst e;exact⟨v,rfl,h1⟩
 |d::l,a,i+1,b,h,e=>by rw[RepL] at h;obtain⟨v,r,rfl,_,c⟩:=h;obtain⟨w,f,g⟩:=RepL.get (i:=i) c (by simpa using e);exact⟨w,by simpa using f,g⟩
def RepL.append{K U O}: ∀{l m:List D} {a c:List V},RepL K U O l a->RepL K U O m c->RepL K U O (l++m) (a++c):=by
 intro g
 induction g with
 |nil=>intro _ a _ h b;rw[RepL] at h;subst h;exact b
 |cons d l f=>intro _ a _ h b;rw[RepL] at h;obtain⟨v,r,rfl,h1,e⟩:=h;show RepL K U O (d::(l++_)) _;rw[RepL];exact⟨v,_,rfl,h1,f e b⟩
def RepL.one{K U O}{d:D}{v:V}(h:Rep K U O d v):RepL K U O [d] [v]:=by rw[RepL];exact⟨v,[],rfl,h,by rw[RepL]⟩
def RepL.nil{K U O}:RepL K U O [] []:=by rw[RepL]
def RepL.cons{K U O}{l a}(h:Rep K U O d v)(b:RepL K U O l a):RepL K U O (d::l) (v::a):=by rw[RepL];exact⟨v,a,rfl,h,b⟩
theorem RepL.take{K U O}: ∀{l:List D} {a:List V} (n:Nat),RepL K U O l a->RepL K U O (l.take n) (a.take n)
 |_,_,0,_=>by simp[RepL]
 |[],a,n+1,h=>by rw[RepL] at h;subst h;simp[RepL]
 |d::l,a,n+1,h=>by rw[RepL] at h;obtain⟨v,r,rfl,h1,b⟩:=h;exact RepL.cons h1<|RepL.take n b
theorem RepL.drop{K U O}: ∀{l:List D} {a:List V} (n:Nat),RepL K U O l a->RepL K U O (l.drop n) (a.drop n)
 |_,_,0,h=>h
 |[],a,n+1,h=>by rw[RepL] at h;subst h;simp[RepL]
 |d::l,a,n+1,h=>by rw[RepL] at h;obtain⟨v,r,rfl,h1,b⟩:=h;exact RepL.drop n b
theorem RepL.set{K U O}{d:D}{v:V}(hv:Rep K U O d v): ∀{l:List D} {a:List V} (i:Nat),RepL K U O l a->RepL K U O (l.set i d) (a.set i v)
 |[],a,i,h=>by rw[RepL] at h;subst h;simp[RepL]
 |e::l,a,0,h=>by rw[RepL] at h;obtain⟨w,r,rfl,h1,b⟩:=h;exact RepL.cons hv b
 |e::l,a,i+1,h=>by rw[RepL] at h;obtain⟨w,r,rfl,h1,b⟩:=h;exact RepL.cons h1<|RepL.set hv i b
abbrev Sl:=Option<|D×Bool
abbrev Dn:=List Sl
def OwnA(b:L2.St)(δ:Dn)(a:fV):Prop:= ∃(i:Nat) (d:D),δ[i]?=I (I (d,Y))/\b[i]?=I (I<|V.ref a)
def OwnOk(K:gy)(U:Hp)(O:AP'):D->fV->Prop
 | .lst l,a=> ∃d,U a=I (.lst d)/\RepL K U O l d
 | .oth k e c,a=> ∃b,OthB K (U a) k e c b/\RepL K U O c b
 |_,_=>False
def OwnOk.mono{K U H'}(h:OwnOk K U O d a)(k: ∀b o,U b=I o-> ¬O b->H' b=I o)(c: ∀b,U b≠C->O' b->O b)(f: ∀o,U a=I o->H' a=I o):OwnOk K H' O' d a:=by
 cases d with
 |lst l=>obtain⟨i,e,r⟩:=h;exact⟨i,f _ e,RepL.mono k c r⟩
 |oth j m n=>obtain⟨g,e,r⟩:=h;exact⟨g,e.keep f,RepL.mono k c r⟩
 |_=>exact h
def OwnOk.rep{K U}(h:OwnOk K U O d a)(f: ¬O' a)(c: ∀b,U b≠C->O' b->O b):Rep K U O' d (.ref a):=by
 cases d with
 |lst l=>obtain⟨g,e,r⟩:=h;rw[Rep];exact⟨a,g,rfl,.inl ⟨.inl e,f⟩,RepL.mono (λb o e _=>e) c r⟩
 |oth i j m=>obtain⟨k,e,r⟩:=h;exact Rep.mkOth f e<|RepL.mono (λb o e _=>e) c r
 |_=>exact h.elim
def Ow:Option HO->Prop
 |none=>False
 |some (.tup _)=>False
 |_=>True
def Ow.ne{o:Option HO}(h:Ow o):o≠C:=λe=>by rw[e] at h;exact h
def Ow.up{o a:Option HO}(h:Ow o)(k: ∀x,o=I x->a=I x):Ow a:=by
 cases o with
 |none=>exact h.elim
 |some x=>rw[k x H];exact h
def nOw{o:Option HO}(h:o=C): ¬Ow o:=λz=>z.ne h
def Ow.nt{o:Option HO}(h:Ow o)(a:List V):o≠I (.tup a):=λe=>by rw[e] at h;exact h
def OwnOk.ow{K U}{O:AP'}{d:D}{a:fV}(h:OwnOk K U O d a):Ow (U a):=by
 cases d with
 |lst l=>obtain⟨g,e,_⟩:=h;rw[e];trivial
 |oth k b f=>
  obtain⟨c,e,_⟩:=h
  cases k with
  |dct=>rcases e with⟨_,e,_⟩|⟨_,e,_⟩<;>(rw[e];trivial)
  |set=>obtain⟨_,_,e,_⟩:=e;rw[e];trivial
  |exc T=>obtain⟨_,_,e,_⟩:=e;rw[e];trivial
  |_=>exact e.elim
 |_=>exact h.elim
structure ER(K:gy)(H:Hp)(T:AP')(σ:L2.St)(δ:Dn):Prop where
 len:(Ls σ)=Ls δ
 val: ∀(i:Nat) (d:D),δ[i]?=I8 (I8 (d,K2))-> ∃v,σ[i]?=I8 (I8 v)/\Rep K H (λa=>OwnA σ δ a\/T a) d v
 own: ∀(i:Nat) (d:D),δ[i]?=I8 (I8 (d,KE))-> ∃a,σ[i]?=I8 (I8<|V.ref a)/\OwnOk K H (λa=>OwnA σ δ a\/T a) d a
 inj: ∀(i j:Nat) (d e:D) (a:fV),δ[i]?=I8 (I8 (d,KE))->δ[j]?=I8 (I8 (e,KE))->σ[i]?=I8 (I8<|V.ref a)->σ[j]?=I8 (I8<|V.ref a)->i=j
 nT: ∀a,OwnA σ δ a-> ¬T a
 dom: ∀a,T a->Ow (H a)
def ER.ownOw{K U T σ e}(E:ER K U T σ e)(h:OwnA σ e a):Ow (U a):=by obtain⟨i,d,h1,f⟩:=h;obtain⟨b,c,g⟩:=E.own i d h1;rw[f] at c;cases c;exact g.ow
def ER.ownDom{K U T σ δ}(E:ER K U T σ δ)(h:OwnA σ δ a):U a≠C:=(E.ownOw h).ne
def ER.mono{K U H' σ δ}(E:ER K U T σ δ)(k: ∀b o,U b=I o-> ¬T b->H' b=I o)(f: ∀b,U b≠C->T' b->T b)(hd: ∀a,T' a->Ow (H' a)):ER K H' T' σ δ where
 len:=E.len
 val:=λi d h=>by obtain⟨v,h1,c⟩:=E.val i d h;exact⟨v,h1,Rep.mono (λb o e n=>k b o e λz=>n<|.inr z) (λb g z=>z.elim .inl λz=> .inr (f b g z)) c⟩
 own:=λi d h=>by obtain⟨a,h1,c⟩:=E.own i d h;exact⟨a,h1,c.mono (λb o e n=>k b o e λz=>n<|.inr z) (λb g z=>z.elim .inl λz=> .inr (f b g z)) λo e=>k a o e<|E.nT a ⟨i,d,h,h1⟩⟩
 inj:=E.inj
 nT:=λa h z=>E.nT a h<|f a (E.ownDom h) z
 dom:=hd
def OwnA.set(h:OwnA σ (δ.set i<|I (d,J)) a):OwnA σ δ a:=by
 obtain⟨j,e,h1,b⟩:=h;rw[A9] at h1;split at h1
 .split at h1<;>simp at h1
 .exact⟨j,e,h1,b⟩
def ER.freeze{K U T σ m}(E:ER K U T σ m){i:Nat}{d:D}{b:Bool}(h:m[i]?=I (I (d,b))):ER K U T σ (m.set i<|I (d,J))/\ ∃v,σ[i]?=I (I v)/\Rep K U (λa=>OwnA σ (m.set i<|I (d,J)) a\/T a) d v:=by
 have o:i<(Ls m):=(qc.mp h).1
 have p: ∃v,σ[i]?=I (I v)/\Rep K U (λa=>OwnA σ (m.set i<|I (d,J)) a\/T a) d v:=by
  cases b with
  |false=>obtain⟨v,h1,l⟩:=E.val i d h;exact⟨v,h1,Rep.mono (λ_ _ e _=>e) (λb _ z=>z.elim (λz=> .inl z.set) .inr) l⟩
  |true=>
   obtain⟨a,h1,l⟩:=E.own i d h;refine⟨.ref a,h1,l.rep (λz=>?_) λb _ z=>z.elim (λz=> .inl z.set) .inr⟩;rcases z with⟨j,e,n,q⟩|z
   .rw[A9] at n;split at n
    .first
      |(split at n<;>simp at n)
      |simp at n
    .rename_i r;exact r<|E.inj i j d e a h n h1 q
   .exact E.nT a ⟨i,d,h,h1⟩ z
 refine⟨⟨by rw[ux];exact E.len,λj e c=>?_,λj e c=>?_,λj k e f a c hk h1 l=>?_,λa z=>E.nT a z.set,E.dom⟩,p⟩
 .by_cases g:i=j
  .subst g;rw[uy o] at c;cases c;exact p
  .rw[sh g] at c;obtain⟨v,h1,l⟩:=E.val j e c;exact⟨v,h1,Rep.mono (λ_ _ e _=>e) (λb _ z=>z.elim (λz=> .inl z.set) .inr) l⟩
 .by_cases g:i=j
  .subst g;rw[uy o] at c;cases c
  .rw[sh g] at c;obtain⟨a,h1,l⟩:=E.own j e c;exact⟨a,h1,l.mono (λ_ _ e _=>e) (λb _ z=>z.elim (λz=> .inl z.set) .inr) λ_ e=>e⟩
 .have g1:m[j]?=I (I (e,Y)):=by
   by_cases g:i=j
   .subst g;rw[uy o] at c;cases c
   .rwa [sh g] at c
  have g2:m[k]?=I (I (f,Y)):=by
   by_cases g:i=k
   .subst g;rw[uy o] at hk;cases hk
   .rwa [sh g] at hk
  exact E.inj j k e f a g1 g2 h1 l
def OwnI(b:L2.St)(δ:Dn)(i:Nat)(a:fV):Prop:= ∃d:D,δ[i]?=I (I (d,Y))/\b[i]?=I (I<|V.ref a)
structure Keep(σ:L2.St)(δ:Dn)(H:Hp)(δ':Dn)(H':Hp):Prop where
 kp: ∀a o,H a=I8 o-> ¬OwnA σ δ a->H' a=I8 o
 owi: ∀i a,OwnI σ δ' i a->OwnI σ δ i a
 dm: ∀a,H a≠J4->H' a≠J4
def Keep.ow{σ c U b f}(k:Keep σ c U b f)(a:fV)(h:OwnA σ b a):OwnA σ c a:=by obtain⟨i,d,h1,g⟩:=h;obtain⟨e,j,l⟩:=k.owi i a ⟨d,h1,g⟩;exact⟨i,e,j,l⟩
def Keep.refl{σ a U}:Keep σ a U a U:=⟨λ_ _ e _=>e,λ_ _ z=>z,λ_ z=>z⟩
def Keep.trans{σ δ δ1 δ2 U H1 b}(x:Keep σ δ U δ1 H1)(y:Keep σ δ1 H1 δ2 b):Keep σ δ U δ2 b:=
 ⟨λa o e n=>y.kp a o (x.kp a o e n) λz=>n<|x.ow a z,λi a z=>x.owi i a<|y.owi i a z,λa z=>y.dm a<|x.dm a z⟩
def Keep.ext{σ b U H1}(k: ∀a o,U a=I o->H1 a=I o):Keep σ b U b H1:=⟨λa o e _=>k a o e,λ_ _ z=>z,λa z=>by
 cases h:U a with
 |none=>exact absurd h z
 |some o=>rw[k a o h];simp⟩
def OwnI.set(h:OwnI σ (δ.set i<|I (d,J)) j a):OwnI σ δ j a:=by
 obtain⟨e,h1,b⟩:=h;rw[A9] at h1;split at h1
 .split at h1<;>simp at h1
 .exact⟨e,h1,b⟩
def Keep.set{σ δ U i d}:Keep σ δ U (δ.set i<|I (d,J)) U:=⟨λ_ _ e _=>e,λ_ _ z=>z.set,λ_ z=>z⟩
def Post(K:gy)(T:AP')(c:L2.St)(e:Dn)(U:Hp)(r:D×Bool)(b:Dn)(v:V)(H':Hp):Prop:=
 Keep c e U b H'/\
 match r with
 |(d,J)=>ER K H' T c b/\Rep K H' (λa=>OwnA c b a\/T a) d v
 |(d,Y)=> ∃p,v= .ref p/\U p=C/\ER K H' (λa=>T a\/a=p) c b/\OwnOk K H' (λa=>OwnA c b a\/T a\/a=p) d p
abbrev F:=Dn->Option ((D×Bool)×Dn)
def tF(K:gy)(f:F):TE:=λd U Q=> ∃b T r a,ER K U T d b/\f b=I (r,a)/\ ∀v c,Post K T d b U r a v c->Q v c
def PX(X:Cx)(e:gm)(f:F):Prop:=PE X e<|tF X.K f
noncomputable def Tmp(T:AP')(r:D×Bool)(v:V):AP':=λa=>T a\/(r.2=Y/\v= .ref a)
section
variable {K:gy}{T:AP'}{c:L2.St}{δ δ1 δ2:Dn}{H f g:Hp}{x y:D×Bool}{v u:V}
def Post.er(E:ER K H T c δ)(P:Post K T c δ H x δ1 v f):ER K f (Tmp T x v) c δ1:=by
 obtain⟨d,b⟩:=x
 cases b with
 |false=>
  refine P.2.1.mono (λ_ _ e _=>e) (λb _ z=>z.elim id λz=>absurd z.1<|by simp) λa z=>?_;rcases z with z|z
  .exact P.2.1.dom a z
  .exact absurd z.1 (by simp)
 |true=>
  obtain⟨p,rfl,i,h,j⟩:=P.2;refine h.mono (λ_ _ e _=>e) (λb _ z=>z.elim .inl λz=> .inr (by have:=z.2;cases this;rfl)) λa z=>?_;rcases z with z|z
  .exact h.dom a (.inl z)
  .have:=z.2;cases this;exact h.dom _ (.inr K3)
def Post.rep(E:ER K H T c δ)(P:Post K T c δ H x δ1 v f):ER K f T c δ1/\Rep K f (λa=>OwnA c δ1 a\/T a) x.1 v:=by
 obtain⟨d,b⟩:=x
 cases b with
 |false=>exact P.2
 |true=>
  obtain⟨p,rfl,i,h,j⟩:=P.2;refine⟨h.mono (λ_ _ e _=>e) (λb _ z=> .inl z) λa z=>h.dom a<|.inl z,j.rep (λz=>?_) λb _ z=>z.elim .inl λz=> .inr (.inl z)⟩;rcases z with z|z
  .exact h.nT p z (.inr K3)
  .exact(E.dom p z).ne i
def Post.val(k:Keep c δ H δ2 g)(E:ER K g T c δ2)(r:Rep K g (λa=>OwnA c δ2 a\/T a) d w):Post K T c δ H (d,J) δ2 w g:=⟨k,E,r⟩
end
def gA{e f:Type}{a c:e}{b d:f}(h:I (a,b)=I (c,d)):a=c/\b=d:=by cases h;exact⟨rfl,rfl⟩
noncomputable def fC(d:D):F:=λδ=>I ((d,J),δ)
noncomputable def gF(i:Nat):F:=λδ=>match δ[i]? with
 |some (I (d,_))=>I ((d,J),δ.set i<|I (d,J))
 |_=>C
section
variable {X:Cx}{a b c:gm}{g:bB}{n m l:F}
def PX.imp(h:PE X e t)(k: ∀i T Q,tF X.K f i T Q->t i T Q):PX X e f:=λd s i T Q U j=>h d s i T Q U<|k i T Q j
def Qx{i j}:PX X (.Constant (.int i) j g) (fC<|.int i):=PX.imp Lc λo U Q h=>by obtain⟨f,T,r,d,E,e,k⟩:=h;cases e;exact k _ _ (Post.val .refl E (by first|exact Rep.mkInt|exact Rep.mkBl|exact Rep.mkNon|exact Rep.mkStr))
def TU{i j}:PX X (.Constant (.bool i) j g) (fC<|.bl i):=PX.imp T5 λo U Q h=>by obtain⟨f,T,r,d,E,e,k⟩:=h;cases e;exact k _ _ (Post.val .refl E (by first|exact Rep.mkInt|exact Rep.mkBl|exact Rep.mkNon|exact Rep.mkStr))
def Qt{j}:PX X (.Constant .none j g) (fC .non):=PX.imp Q9 λi U Q h=>by obtain⟨f,T,r,d,E,e,k⟩:=h;cases e;exact k _ _ (Post.val .refl E (by first|exact Rep.mkInt|exact Rep.mkBl|exact Rep.mkNon|exact Rep.mkStr))
def Qm{i j}:PX X (.Constant (.str i) j g) (fC<|.str i):=PX.imp Q6 λo U Q h=>by obtain⟨f,T,r,d,E,e,k⟩:=h;cases e;exact k _ _ (Post.val .refl E (by first|exact Rep.mkInt|exact Rep.mkBl|exact Rep.mkNon|exact Rep.mkStr))
def Qk{i:Nat}{x:aO}(s:X.N[i]?=I x)(hv:Vis X.env.scope x)(hd:(x==("__debug__":aO))=J)(t:(x==("__classdict__":aO))=J):PX X (.Name x g) (gF i):=PX.imp (ET s hv hd t) λy U Q h=>by
 obtain⟨u,T,r,w,E,e,k⟩:=h;unfold gF at e
 cases f:u[i]? with
 |none=>rw[f] at e;cases e
 |some o=>
  cases o with
  |none=>rw[f] at e;cases e
  |some p=>obtain⟨d,b⟩:=p;rw[f] at e;cases e;obtain⟨j,v,h1,q⟩:=E.freeze f;exact⟨v,h1,k v U<|Post.val .set j q⟩
end
inductive Opd where
 |val(r:D×Bool)|slot(i:Nat)
noncomputable def res(a:Dn):Opd->Option D
 | .val r=>I r.1
 | .slot i=>match a[i]? with
  |some (I (d,_))=>I d
  |_=>C
def jm(K:gy)(U:Hp)(O:AP')(d:D)(v:V):Prop:=Rep K U O d v\/ ∃a,v= .ref a/\OwnOk K U O d a
abbrev FO:=Dn->Option (Opd×Dn)
def PostO(K:gy)(T:AP')(b:L2.St)(d:Dn)(U:Hp)(o:Opd)(a:Dn)(v:V)(c:Hp):Prop:=
 match o with
 | .val r=>Post K T b d U r a v c
 | .slot i=>Keep b d U a c/\ER K c T b a/\b[i]?=I (I v)
noncomputable def zE(T:AP')(o:Opd)(v:V):AP':=match o with
 | .val r=>Tmp T r v
 | .slot _=>T
def tO(K:gy)(f:FO):TE:=λd U Q=> ∃b T o a,ER K U T d b/\f b=I (o,a)/\ ∀v c,PostO K T d b U o a v c->Q v c
def PO(X:Cx)(e:gm)(f:FO):Prop:=PE X e<|tO X.K f
noncomputable def fQ(f:F):FO:=λδ=>(f δ).bind λp=>I (.val p.1,p.2)
noncomputable def fR(i:Nat):FO:=λδ=>match δ[i]? with
 |some (I _)=>I (.slot i,δ)
 |_=>C
def PE.imp'(h:PE X e t)(k: ∀b T Q,d b T Q->t b T Q):PE X e d:=λa s b T Q U c=>h a s b T Q U<|k b T Q c
section
variable {X:Cx}{a:bB}
def PX.po(h:PX X e f):PO X e (fQ f):=PE.imp' h λj U Q g=>by
 obtain⟨c,T,o,i,E,e,k⟩:=g;unfold fQ at e
 cases h1:f c with
 |none=>rw[h1] at e;cases e
 |some p=>obtain⟨r,b⟩:=p;rw[h1] at e;obtain⟨rfl,rfl⟩:=gA e;exact⟨c,T,r,b,E,h1,λv d P=>k v d P⟩
def Q0{i:Nat}{x:aO}(f:X.N[i]?=I x)(hv:Vis X.env.scope x)(hd:(x==("__debug__":aO))=J)(g:(x==("__classdict__":aO))=J):PO X (.Name x a) (fR i):=PE.imp' (ET f hv hd g) λr U Q h=>by
 obtain⟨j,T,o,l,E,e,k⟩:=h;unfold fR at e
 cases c:j[i]? with
 |none=>rw[c] at e;cases e
 |some q=>
  cases q with
  |none=>rw[c] at e;cases e
  |some p=>obtain⟨d,b⟩:=p;rw[c] at e;obtain⟨rfl,rfl⟩:=gA e;obtain⟨m,v,h1,n⟩:=E.freeze c;exact⟨v,h1,k v U ⟨.refl,E,h1⟩⟩
end
structure Ops(K:gy)(T:AP')(σ:L2.St)(δ:Dn)(H:Hp)(os:List Opd)(vs:List V)(δ':Dn)(H':Hp)(T':AP'):Prop where
 len:os.length=Ls vs
 keep:Keep σ δ H δ' H'
 er:ER K H' T' σ δ'
 tt: ∀a,T a->T' a
 val: ∀(j:Nat) (d:D) (v:V),os[j]?=I8 (.val (d,K2))->vs[j]?=I8 v->Rep K H' (λa=>OwnA σ δ' a\/T a) d v
 tmp: ∀(j:Nat) (d:D) (v:V),os[j]?=I8 (.val (d,KE))->vs[j]?=I8 v-> ∃p,v= .ref p/\T' p/\H p=J4/\OwnOk K H' (λa=>OwnA σ δ' a\/T a) d p
 slt: ∀(j i:Nat) (v:V),os[j]?=I8 (.slot i)->vs[j]?=I8 v->σ[i]?=I8 (I8 v)
section
variable {K:gy}{T T':AP'}{b:L2.St}{δ a c:Dn}{H H' f:Hp}{os:List Opd}{e:List V}{o:Opd}{v:V}
def Ops.nil(E:ER K H T b δ):Ops K T b δ H [] [] δ H T:=⟨rfl,.refl,E,λ_ z=>z,λj d v h=>by simp at h,λj d v h=>by simp at h,λj i v h=>by simp at h⟩
def PostO.keep(P:PostO K T b δ H o a v H'):Keep b δ H a H':=by
 cases o with
 |val r=>exact P.1
 |slot i=>exact P.1
def PostO.er(E:ER K H T b δ)(P:PostO K T b δ H o a v H'):ER K H' (zE T o v) b a:=by
 cases o with
 |val r=>exact Post.er E P
 |slot i=>exact P.2.1
end
def Gen(K:gy)(U:Hp)(O:AP')(z:D×Bool)(Q:VK):Prop:=
 match z with
 |(d,J)=> ∀w b,(∀a o,U a=I o->b a=I o)->Rep K b O d w->Q w b
 |(d,Y)=> ∀p b,U p=C->(∀a o,U a=I o->b a=I o)->OwnOk K b (λa=>O a\/a=p) d p->Q (.ref p) b
section
variable {K:gy}{T s:AP'}{f:L2.St}{δ δ1 c δ2:Dn}{H t H' h:Hp}{os:List Opd}{m:List V}{o:Opd}{v:V}{z:D×Bool}{Q:VK}
def Ops.cons(E:ER K H T f δ)(P:PostO K T f δ H o δ1 v t)(B:Ops K (zE T o v) f δ1 t os m δ2 h s):Ops K T f δ H (o::os) (v::m) δ2 h s:=by
 have O:=P.er E;have y:=B.keep.kp;have A:=B.keep.ow
 have u: ∀a,T a->zE T o v a:=λa z=>by
  cases o with
  |val r=>exact .inl z
  |slot i=>exact z
 refine⟨by simp[B.len],P.keep.trans B.keep,B.er,λa z=>B.tt a<|u a z,λj d w h1 g=>?_,λj d w h1 g=>?_,λj i w h1 g=>?_⟩
 .cases j with
  |zero=>simp at h1 g;subst h1;subst g;have q:Post K T f δ H (d,J) δ1 v t:=P;exact Rep.mono (λb k e n=>y b k e λz=>n<|.inl z) (λb _ z=>z.elim (λz=>bj<|A b z) bv) (q.rep E).2
  |succ j=>exact Rep.mono (λ_ _ e _=>e) (λb _ z=>z.elim bj λz=>bv<|u b z)<|B.val j d w (by simpa using h1) (by simpa using g)
 .cases j with
  |zero=>simp at h1 g;subst h1;subst g;have q:Post K T f δ H (d,Y) δ1 v t:=P;obtain⟨p,rfl,x,L,ok⟩:=q.2;have l:zE T (.val (d,Y)) (V.ref p) p:= .inr ⟨rfl,rfl⟩;refine⟨p,rfl,B.tt p l,x,ok.mono (λb k e n=>y b k e λz=>n<|.inl z) (λb _ z=>z.elim (λz=>bj<|A b z) λz=>bv<|bj z) λk e=>y p k e λz=>O.nT p z l⟩
  |succ j=>
   obtain⟨p,rfl,l,x,ok⟩:=B.tmp j d w (by simpa using h1) (by simpa using g);refine⟨p,rfl,l,?_,ok.mono (λ_ _ e _=>e) (λb _ z=>z.elim bj λz=>bv<|u b z) λ_ e=>e⟩
   cases U:H p with
   |none=>rfl
   |some k=>exact absurd x<|P.keep.dm p (by rw[U];simp)
 .cases j with
  |zero=>simp at h1 g;subst h1;subst g;exact P.2.2
  |succ j=>exact B.slt j i w (by simpa using h1) (by simpa using g)
def Ops.view(B:Ops K T f δ H os m c H' s){j:Nat}{d:D}(h1:os[j]?=I o)(n:m[j]?=I v)(g:res c o=I d):jm K H' (λa=>OwnA f c a\/T a) d v:=by
 cases o with
 |val r=>
  obtain⟨e,b⟩:=r;have hd:e=d:=jn g;subst hd
  cases b with
  |false=>exact .inl<|B.val j e v h1 n
  |true=>obtain⟨p,rfl,_,_,ok⟩:=B.tmp j e v h1 n;exact .inr ⟨p,rfl,ok⟩
 |slot i=>
  have x:=B.slt j i v h1 n;unfold res at g;dsimp only at g
  cases l:c[i]? with
  |none=>rw[l] at g;cases g
  |some q=>
   cases q with
   |none=>rw[l] at g;cases g
   |some p=>
    obtain⟨e,b⟩:=p;rw[l] at g;have hd:e=d:=jn g;subst hd
    cases b with
    |false=>obtain⟨w,k,u⟩:=B.er.val i e l;rw[x] at k;cases k;exact .inl<|Rep.mono (λ_ _ e _=>e) (λb _ z=>z.elim bj λz=>bv<|B.tt b z) u
    |true=>obtain⟨a,k,u⟩:=B.er.own i e l;rw[x] at k;cases k;exact .inr ⟨a,rfl,u.mono (λ_ _ e _=>e) (λb _ z=>z.elim bj λz=>bv<|B.tt b z) λ_ e=>e⟩
def Ops.done(B:Ops K T f δ H os m c H' s)(k: ∀v h,Post K T f δ H z c v h->Q v h):Gen K H' (λa=>OwnA f c a\/T a) z Q:=by
 obtain⟨d,b⟩:=z;have i: ∀{h:Hp},(∀a o,H' a=I o->h a=I o)-> ∀a,T a->Ow (h a):=λ{h} g a z=>(B.er.dom a<|B.tt a z).up<|g a
 cases b with
 |false=>intro w h g r;exact k w h ⟨B.keep.trans<|.ext g,B.er.mono (λb o e _=>g b o e) (λb _ z=>B.tt b z)<|i g,r⟩
 |true=>
  intro p h l g ok
  have j:H p=C:=by
   cases n:H p with
   |none=>rfl
   |some u=>exact absurd l<|B.keep.dm p (by rw[n];simp)
  refine k (.ref p) h ⟨B.keep.trans<|.ext g,p,rfl,j,B.er.mono (λb o e _=>g b o e) (λb q z=>z.elim (B.tt b) λz=>absurd (z▸l) q) λa z=>?_,ok.mono (λ_ _ e _=>e) (λb _ z=>?_) λ_ e=>e⟩
  .rcases z with z|z
   .exact i g a z
   .subst z;exact ok.ow
  .rcases z with z|z|z
   .exact bj (bj z)
   .exact bj (bv z)
   .exact bv z
def Gen.int(g:Gen K H O (.int i,J) Q):Q (.int i) H:=g _ H (λ_ _ e=>e) Rep.mkInt
def Gen.bl(g:Gen K H O (.bl i,J) Q):Q (.bl i) H:=g _ H (λ_ _ e=>e) Rep.mkBl
def kG{H:Hp}{p:fV}{o:HO}(b:H p=C): ∀a u,H a=I u->upd H p o a=I u:=λa u e=>by rw[gR (by intro z;subst z;rw[e] at b;cases b)];exact e
def Gen.lst{O:AP'}{l:List D}{xs:List V}{p:fV}(g:Gen K H O (.lst l,Y) Q)(a:H p=C)(r:RepL K H O l xs):Q (.ref p) (upd H p<|.lst xs):=
 g p _ a (kG a) ⟨xs,gS,RepL.mono (λb o e _=>kG a b o e) (λb d z=>z.elim id λz=>absurd (z▸a) d) r⟩
def Gen.tup(g:Gen K H O (.tup l,J) Q)(a:H p=C)(np: ¬O p)(r:RepL K H O l xs):Q (.ref p) (upd H p<|.tup xs):=
 g _ _ (kG a) (Rep.mkTup ⟨gS,np⟩<|RepL.mono (λb o e _=>kG a b o e) (λb d z=>z) r)
def Ops.np(B:Ops K T f δ H os m c H' s)(a: ¬Ow (H' p)): ¬(OwnA f c p\/T p):=λz=>a<|z.elim (λz=>B.er.ownOw z) λz=>B.er.dom p<|B.tt p z
end
noncomputable def iN(g:D->Option (D×Bool))(a:FO):F:=λδ=>(a δ).bind λp=>(res p.2 p.1).bind λx=>(g x).bind λz=>I (z,p.2)
noncomputable def fU(g:D->D->Option (D×Bool))(fa fb:FO):F:=λδ=>(fa δ).bind λp=>(fb p.2).bind λq=>(res q.2 p.1).bind λx=>(res q.2 q.1).bind λy=>(g x y).bind λz=>I (z,q.2)
noncomputable def jk:List FO->Dn->Option (List Opd×Dn)
 |[],a=>I ([],a)
 |f::fs,a=>(f a).bind λp=>(jk fs p.2).bind λq=>I (p.1::q.1,q.2)
noncomputable def tN(a:Dn):List Opd->Option (List D)
 |[]=>I []
 |o::os=>(res a o).bind λd=>(tN a os).bind λl=>I (d::l)
noncomputable def gf(g:List D->Option (D×Bool))(fs:List FO):F:=λδ=>(jk fs δ).bind λp=>(tN p.2 p.1).bind λds=>(g ds).bind λz=>I (z,p.2)
def tA(K:gy)(fs:List FO):TA:=λe U Q=> ∃b T os a,ER K U T e b/\jk fs b=I (os,a)/\ ∀d c f,Ops K T e b U os d a c f->Q d c
section
variable {X:Cx}{e a b:gm}{m:jg}{i n:FO}{fs:List FO}{c:bB}
def fS{d g:Type}{x:Option d}{f:d->Option g}{b:g}(h:x.bind f=I b): ∃a,x=I a/\f a=I b:=by
 cases x with
 |none=>cases h
 |some a=>exact⟨a,rfl,h⟩
def Wg(K:gy)(r:V->Hp->VK->Prop)(g:D->Option (D×Bool)):Prop:=
 ∀x z v U (O:AP') (Q:VK),(∀p,¬Ow (U p)-> ¬O p)->jm K U O x v->g x=I z->Gen K U O z Q->r v U Q
def Sn(K:gy)(r:R2)(g:D->D->Option (D×Bool)):Prop:=
 ∀x y z v u U (O:AP') (Q:VK),(∀p,¬Ow (U p)-> ¬O p)->jm K U O x v->jm K U O y u->g x y=I z->Gen K U O z Q->r v u U Q
def Wf(K:gy)(r:List V->Hp->VK->Prop)(g:List D->Option (D×Bool)):Prop:=
 ∀ds z f U (O:AP') (Q:VK),(∀p,¬Ow (U p)-> ¬O p)->Ls ds=Ls f->(∀(j:Nat) d v,ds[j]?=I d->f[j]?=I v->jm K U O d v)->g ds=I z->Gen K U O z Q->r f U Q
def Qr{r:V->Hp->VK->Prop}{g:D->Option (D×Bool)}(h:PE X e (tUn r<|tO X.K i))(u:Wg X.K r g):PX X e (iN g i):=PX.imp h λU O Q w=>by obtain⟨y,T,N,A,E,e,k⟩:=w;obtain⟨⟨o,d⟩,h1,e⟩:=fS e;obtain⟨x,q,e⟩:=fS e;obtain⟨z,s,e⟩:=fS e;obtain⟨rfl,rfl⟩:=gA e;refine⟨y,T,o,d,E,h1,λv l f=>?_⟩;have B:=Ops.cons E f<|Ops.nil<|f.er E;exact u x z v l _ Q (λp t=>B.np t) (B.view (j:=0) H H q) s (B.done k)
def Qq{r:R2}{g:D->D->Option (D×Bool)}(h:PE X e (tOp r (tO X.K i)<|tO X.K n))(L:Sn X.K r g):PX X e (fU g i n):=PX.imp h λY H Q O=>by obtain⟨J,T,U,M,E,e,k⟩:=O;obtain⟨⟨o,d⟩,h1,e⟩:=fS e;obtain⟨⟨G,l⟩,t,e⟩:=fS e;obtain⟨x,w,e⟩:=fS e;obtain⟨y,A,e⟩:=fS e;obtain⟨z,C,e⟩:=fS e;obtain⟨rfl,rfl⟩:=gA e;refine⟨J,T,o,d,E,h1,λv N f=>⟨d,zE T o v,G,l,f.er E,t,λu s q=>?_⟩⟩;have B:=Ops.cons E f<|Ops.cons (f.er E) q<|Ops.nil<|q.er<|f.er E;exact L x y z v u s _ Q (λp I=>B.np I) (B.view (j:=0) K3 K3 w) (B.view (j:=1) K3 K3 A) C (B.done k)
def uF:PA X [] (tA X.K []):=λc d s g O Q U h=>by obtain⟨j,T,os,f,E,e,k⟩:=h;obtain⟨rfl,rfl⟩:=gA e;exact wo c d s g O Q U<|k [] O T<|Ops.nil E
def oM(t:PO X e i)(u:PA X m (tA X.K fs))(w:aa (e::m) X.env=(J,aK e X.env)::aa m X.env):PA X (e::m) (tA X.K (i::fs)):=λc d s z O Q U h=>by obtain⟨x,T,os,y,E,e,k⟩:=h;unfold jk at e;obtain⟨⟨o,f⟩,h1,e⟩:=fS e;obtain⟨⟨g,j⟩,r,e⟩:=fS e;obtain⟨rfl,rfl⟩:=gA e;exact oZ t u w c d s z O Q U ⟨x,T,o,f,E,h1,λv A l=>⟨f,zE T o v,g,j,l.er E,r,λN p q B=>k _ p q (Ops.cons E l B)⟩⟩
def nA{k:Dn}: ∀{os:List Opd} {f:List D},tN k os=I f->Ls f=os.length/\ ∀(j:Nat) d,f[j]?=I d-> ∃o,os[j]?=I o/\res k o=I d:=by
 intro t
 induction t with
 |nil=>intro f h;cases h;exact⟨rfl,λj d h=>by simp at h⟩
 |cons o os s=>
  intro f h;unfold tN at h;obtain⟨d,h1,h⟩:=fS h;obtain⟨l,p,h⟩:=fS h;cases h;obtain⟨q,r⟩:=s p;refine⟨by simp[q],λj e g=>?_⟩
  cases j with
  |zero=>simp at g;subst g;exact⟨o,rfl,h1⟩
  |succ j=>obtain⟨u,v,w⟩:=r j e (by simpa using g);exact⟨u,by simpa using v,w⟩
def NC{r:List V->Hp->VK->Prop}{g:List D->Option (D×Bool)}(h:PE X e (tCB r<|tA X.K fs))(C:Wf X.K r g):PX X e (gf g fs):=PX.imp h λN H Q U=>by obtain⟨O,T,M,G,E,e,k⟩:=U;obtain⟨⟨os,l⟩,h1,e⟩:=fS e;obtain⟨s,t,e⟩:=fS e;obtain⟨z,u,e⟩:=fS e;obtain⟨rfl,rfl⟩:=gA e;obtain⟨w,x⟩:=nA t;refine⟨O,T,os,l,E,h1,λL q J B=>?_⟩;refine C s z L q _ Q (λp A=>B.np A) (w.trans B.len) (λj d v hd hv=>?_) u (B.done k);obtain⟨o,y,f⟩:=x j d hd;exact B.view y hv f
end
open PySem.SeqAt
mutual
/-- ==of data -/
noncomputable def D.eqb:D->D->Bool
 | .non,.non=>Y
 | .bl a,.bl b=>a==b
 | .bl a,.int b=>(if a then 1 else 0)==b
 | .int a,.bl b=>a==(if b then 1 else 0)
 | .int a,.int b=>a==b
 | .str a,.str b=>a==b
 | .tup l,.tup m=>D.eqbL l m
 | .lst l,.lst m=>D.eqbL l m
 | .oth _ _ _,.oth _ _ _=>Y
 |_,_=>J
noncomputable def D.eqbL:List D->List D->Bool
 |[],[]=>Y
 |a::l,b::m=>D.eqb a b&&D.eqbL l m
 |_,_=>J
end
mutual
noncomputable def D.dep:D->Nat
 | .tup l=>D.depL l+1
 | .lst l=>D.depL l+1
 | .oth _ _ _=>20000
 |_=>0
noncomputable def D.depL:List D->Nat
 |[]=>0
 |d::l=>max (D.dep d)<|D.depL l
end
mutual
theorem D.eqb_refl: ∀d:D,D.eqb d d=Y
 | .non=>rfl
 | .bl a=>by simp[D.eqb]
 | .int a=>by simp[D.eqb]
 | .str a=>by simp[D.eqb]
 | .tup l=>by rw[D.eqb];exact D.eqbL_refl l
 | .lst l=>by rw[D.eqb];exact D.eqbL_refl l
 | .oth _ _ _=>by rw[D.eqb]
theorem D.eqbL_refl: ∀l:List D,D.eqbL l l=Y
 |[]=>rfl
 |d::l=>by rw[D.eqbL,D.eqb_refl d,D.eqbL_refl l];rfl
end
theorem D.dep_mem{d:D}: ∀{l:List D} {j:Nat},l[j]?=I d->d.dep<=D.depL l
 |[],j,h=>by simp at h
 |e::l,0,h=>by simp at h;subst h;rw[D.depL];exact Nat.le_max_left _ _
 |e::l,j+1,h=>by rw[D.depL];exact lh (D.dep_mem<|by simpa using h)<|Nat.le_max_right _ _
noncomputable def qL(l m:List D)(j:Nat):Bool:=match l[j]?,m[j]? with
 |some d,I e=>D.eqb d e
 |_,_=>Y
theorem lX: ∀l m:List D,((ai<|min (Ls l)<|Ls m).all (qL l m)&&(Ls l)==Ls m)=D.eqbL l m
 |[],[]=>rfl
 |[],e::m=>by simp[D.eqbL]
 |d::l,[]=>by simp[D.eqbL]
 |d::l,e::m=>by
  rw[D.eqbL,<-lX l m];simp only[kY,Nat.succ_min_succ,c5,dQ,tf,rR];have a:qL (d::l) (e::m) 0=D.eqb d e:=rfl;have h1:(λx=>qL (d::l) (e::m)<|Nat.succ x)=qL l m:=by funext x;simp[qL]
  rw[a];simp only[h1,Bool.and_assoc]
  congr 2
  simp
section
variable {X:Cx}{pins:gU}{σ:L2.St}{H:Hp}{s:fY}
def kJ(h:jm X.K H O (.tup l) v): ∃a b,v= .ref a/\SqT X.K H a b/\RepL X.K H O l b:=by
 rcases h with h|⟨a,rfl,h⟩
 .obtain⟨a,b,e,q,r⟩:=h.tup;exact⟨a,b,e,q.sq,r⟩
 .exact h.elim
def ji(h:jm X.K H O (.lst l) v): ∃a b,v= .ref a/\SqL X.K H a b/\RepL X.K H O l b:=by
 rcases h with h|⟨a,rfl,h⟩
 .obtain⟨a,b,e,q,r⟩:=h.lst;exact⟨a,b,e,q.sq,r⟩
 .obtain⟨b,e,r⟩:=h;exact⟨a,b,rfl,.inl<|.inl e,r⟩
def RepL.views{O:AP'}{l:List D}{b:List V}(r:RepL X.K H O l b){j:Nat}{d:D}{v:V}(h1:l[j]?=I d)(c:b[j]?=I v):Rep X.K H O d v:=by obtain⟨w,a,e⟩:=r.get h1;rw[c] at a;cases a;exact e
def Ll(U:Inv X pins σ H s)(h:OthB X.K (H a) k l i us): ∃o,s.heap.get? a=I o/\(o.cls= .type "dict"\/o.cls= .type "set"\/ ∃T,o.cls= .ref T):=by
 cases k with
 |dct=>
  rcases h with⟨b,e,_⟩|⟨b,e,_⟩
  .obtain⟨_,_,i,_,o,d,g,h1,c,_⟩:=(show ObjOk X.prog X.w H s.heap a (.dK b) from U.hok a _ e)
   exact⟨o,h1,.inl c.1⟩
  .obtain⟨_,_,m,_,o,d,g,h1,c,_⟩:=(show ObjOk X.prog X.w H s.heap a (.dT b) from U.hok a _ e)
   exact⟨o,h1,.inl c.1⟩
 |set=>
  obtain⟨_,j,e,_⟩:=h;obtain⟨d,n,t,h1,_⟩:=(show ObjOk X.prog X.w H s.heap a (.stt j) from U.hok a _ e)
  exact⟨_,h1,.inr<|.inl K3⟩
 |exc T=>
  obtain⟨_,o,e,h1,_⟩:=h;obtain⟨f,_⟩:=(show ObjOk X.prog X.w H s.heap a (.frz o<|.own 0) from U.hok a _ e)
  exact⟨o,f,.inr<|.inr ⟨T,h1⟩⟩
 |_=>exact h.elim
def Cz(U:Inv X pins σ H s)(h1:SqT X.K H a xs)(f:SqL X.K H a k):False:=by obtain⟨g,_,⟨o,e,c,_⟩,_⟩:=U.tuple h1;obtain⟨h,_,⟨j,i,d,b,_⟩,_⟩:=U.list f;rw[e] at d;cases d;rw[c] at b;exact absurd b (by simp)
def N8(U:Inv X pins σ H s)(h1:SqT X.K H a xs)(f:OthB X.K (H a) k h j us):False:=by obtain⟨g,_,⟨o,e,c,_⟩,_⟩:=U.tuple h1;obtain⟨i,d,b⟩:=Ll U f;rw[e] at d;cases d;rw[c] at b;rcases b with b|b|⟨T,b⟩<;>exact absurd b (by simp)
def N9(U:Inv X pins σ H s)(h1:SqL X.K H a xs)(f:OthB X.K (H a) k h j us):False:=by obtain⟨g,_,⟨o,n,e,c,_⟩,_⟩:=U.list h1;obtain⟨i,d,b⟩:=Ll U f;rw[e] at d;cases d;rw[c] at b;rcases b with b|b|⟨T,b⟩<;>exact absurd b (by simp)
mutual
theorem Rep.inj(U:Inv X pins σ H s): ∀{d e:D} {v:V},d.dep<20000->Rep X.K H O d v->Rep X.K H u e v->d=e
 | .non,e,v,i,h,c=>by
  have:=h.non;subst this
  cases e with
  |non=>rfl
  |bl b=>have:=c.bl;cases this
  |int b=>have:=c.int;cases this
  |str b=>have:=c.str;cases this
  |tup m=>obtain⟨a,f,z,_⟩:=c.tup;cases z
  |lst m=>obtain⟨a,f,z,_⟩:=c.lst;cases z
  |oth m n o=>obtain⟨a,f,z,_⟩:=c.oth;cases z
 | .bl b,e,v,i,h,c=>by
  have:=h.bl;subst this
  cases e with
  |non=>have:=c.non;cases this
  |bl b=>have:=c.bl;cases this;rfl
  |int b=>have:=c.int;cases this
  |str b=>have:=c.str;cases this
  |tup m=>obtain⟨a,f,z,_⟩:=c.tup;cases z
  |lst m=>obtain⟨a,f,z,_⟩:=c.lst;cases z
  |oth m n o=>obtain⟨a,f,z,_⟩:=c.oth;cases z
 | .int b,e,v,i,h,c=>by
  have:=h.int;subst this
  cases e with
  |non=>have:=c.non;cases this
  |bl b=>have:=c.bl;cases this
  |int b=>have:=c.int;cases this;rfl
  |str b=>have:=c.str;cases this
  |tup m=>obtain⟨a,f,z,_⟩:=c.tup;cases z
  |lst m=>obtain⟨a,f,z,_⟩:=c.lst;cases z
  |oth m n o=>obtain⟨a,f,z,_⟩:=c.oth;cases z
 | .str b,e,v,i,h,c=>by
  have:=h.str;subst this
  cases e with
  |non=>have:=c.non;cases this
  |bl b=>have:=c.bl;cases this
  |int b=>have:=c.int;cases this
  |str b=>have:=c.str;cases this;rfl
  |tup m=>obtain⟨a,f,z,_⟩:=c.tup;cases z
  |lst m=>obtain⟨a,f,z,_⟩:=c.lst;cases z
  |oth m n o=>obtain⟨a,f,z,_⟩:=c.oth;cases z
 | .tup l,e,v,i,h,c=>by
  rw[D.dep] at i;obtain⟨a,f,rfl,q,r⟩:=h.tup
  cases e with
  |non=>have:=c.non;cases this
  |bl b=>have:=c.bl;cases this
  |int b=>have:=c.int;cases this
  |str b=>have:=c.str;cases this
  |tup m=>obtain⟨k,p,z,g,j⟩:=c.tup;cases z;have:=U.tuple_inj q.sq g.sq;subst this;rw[RepL.inj U (by lia) r j]
  |lst m=>obtain⟨k,p,z,g,j⟩:=c.lst;cases z;exact(Cz U q.sq g.sq).elim
  |oth m n o=>obtain⟨k,t,z,g,j⟩:=c.oth;cases z;exact(N8 U q.sq g.2).elim
 | .lst l,e,v,i,h,c=>by
  rw[D.dep] at i;obtain⟨a,f,rfl,q,r⟩:=h.lst
  cases e with
  |non=>have:=c.non;cases this
  |bl b=>have:=c.bl;cases this
  |int b=>have:=c.int;cases this
  |str b=>have:=c.str;cases this
  |tup m=>obtain⟨k,p,z,g,j⟩:=c.tup;cases z;exact(Cz U g.sq q.sq).elim
  |lst m=>obtain⟨k,p,z,g,j⟩:=c.lst;cases z;have:=U.list_inj q.sq g.sq;subst this;rw[RepL.inj U (by lia) r j]
  |oth m n o=>obtain⟨k,t,z,g,j⟩:=c.oth;cases z;exact(N9 U q.sq g.2).elim
 | .oth _ _ _,e,v,i,h,c=>by rw[D.dep] at i;lia
theorem RepL.inj(U:Inv X pins σ H s){O c:AP'}: ∀{l m:List D} {b:List V},D.depL l<20000->RepL X.K H O l b->RepL X.K H c m b->l=m
 |[],m,b,_,h,a=>by
  rw[RepL] at h;subst h
  cases m with
  |nil=>rfl
  |cons e m=>rw[RepL] at a;obtain⟨_,_,z,_⟩:=a;cases z
 |d::l,m,b,j,h,a=>by
  rw[D.depL] at j;rw[RepL] at h;obtain⟨v,r,rfl,h1,f⟩:=h
  cases m with
  |nil=>rw[RepL] at a;cases a
  |cons e m=>rw[RepL] at a;obtain⟨n,k,z,g,i⟩:=a;cases z;rw[Rep.inj U (by lia) h1 g,RepL.inj U (by lia) f i]
end
def va(h:jm X.K H O d v)(hd:d.dep=0)(nt: ∀l,d≠ .tup l)(b: ∀l,d≠ .lst l):Rep X.K H O d v:=by
 rcases h with h|⟨a,rfl,h⟩
 .exact h
 .cases d with
  |lst l=>exact absurd K3<|b l
  |oth _ _ _=>rw[D.dep] at hd;lia
  |_=>exact h.elim
inductive Sh(X:Cx)(H:Hp)(s:fY)(O:AP'):D->V->gu->Prop
 |non:Sh X H s O .non .non .none
 |bl (b:Bool):Sh X H s O (.bl b) (.bl b) (.bool b)
 |int (i:Int) (t:n3):Sh X H s O (.int i) (.int i) (.int i t)
 |str (x:aO) (t:n3):Sh X H s O (.str x) (.str x) (.str x t)
 |tup {l:List D} {p:fV} {xs:List V} {its:il} (q:SqT X.K H p xs) (r:RepL X.K H O l xs) (v:Vals xs its) (pl:lw s.heap p its.toArray):Sh X H s O (.tup l) (.ref p) (.ref p)
 |lst {l:List D} {p:fV} {xs:List V} {its:il} (q:SqL X.K H p xs) (r:RepL X.K H O l xs) (v:Vals xs its) (pl:s.heap.IsList p its.toArray):Sh X H s O (.lst l) (.ref p) (.ref p)
def qQ(U:Inv X pins σ H s)(h:jm X.K H O d v)(b:RelV v a)(i:d.dep<20000):Sh X H s O d v a:=by
 cases d with
 |oth m k n=>rw[D.dep] at i;omega
 |tup l=>obtain⟨p,j,rfl,q,r⟩:=kJ h;cases b;obtain⟨e,g,f,_⟩:=U.tuple q;exact .tup q r g f
 |lst l=>obtain⟨p,j,rfl,q,r⟩:=ji h;cases b;obtain⟨e,g,f,_⟩:=U.list q;exact .lst q r g f.isList
 |non=>have:=(va h K3 (by simp)<|by simp).non;subst this;cases b;exact .non
 |bl c=>have:=(va h K3 (by simp)<|by simp).bl;subst this;cases b;exact .bl c
 |int c=>have:=(va h K3 (by simp)<|by simp).int;subst this;obtain⟨t,rfl⟩:=b;exact .int c t
 |str c=>have:=(va h K3 (by simp)<|by simp).str;subst this;obtain⟨t,rfl⟩:=b;exact .str c t
def Am(I:Inv X pins σ H s)(n:Nat)
  (ih: ∀(d e:D) (v u:V) (a b:gu) (O O':AP') (A:gJ),jm X.K H O d v->jm X.K H O' e u->RelV v a->RelV u b->d.dep+1<=n->e.dep<20000->A.units+n<bc+1->EqAt A s a b (D.eqb d e)):
  ∀(d e:D) (v u:V) (a b:gu) (O O':AP') (A:gJ),jm X.K H O d v->jm X.K H O' e u->RelV v a->RelV u b->d.dep<=n->e.dep<20000->A.units+n<bc->EqAt A s a b (D.eqb d e):=by
 intro d e v u a b O O' A hd he o t N Z hA;have h:A.units<cLine:=by lia
 have k9:bc=9900:=rfl
 have L: ∀(l m:List D) (T G:List V) (c C':il) (R S:AP'),D.depL l+1<=n->D.depL m<20000->RepL X.K H R l T->RepL X.K H S m G->Vals T c->Vals G C'->
   ∀j (h1:j<c.toArray.size) (Q:j<C'.toArray.size),EqAt A.in1 s c.toArray[j] C'.toArray[j] (qL l m j):=λl m T G c C' R S F P r1 i M k j h1 Q=>by
  have e1:=M.length;have e2:=k.length;have e3:=r1.length;have e4:=i.length;simp only[hG] at h1 Q;have hx:T[j]?=I8 T[j]:=gY (by lia);have hy:G[j]?=I8 G[j]:=gY (by lia);have y1:l[j]?=I8 l[j]:=gY (by lia);have x9:m[j]?=I8 m[j]:=gY (by lia);obtain⟨w,w1,w2⟩:=M.get hx;obtain⟨w',w3,w4⟩:=k.get hy
  have i1:c.toArray[j]=w:=by have:c[j]?=I8 c[j]:=gY (by lia);rw[this] at w1;simpa using w1
  have i2:C'.toArray[j]=w':=by have:C'[j]?=I8 C'[j]:=gY (by lia);rw[this] at w3;simpa using w3
  rw[i1,i2];have hj:qL l m j=D.eqb l[j] m[j]:=by unfold qL;rw[y1,x9]
  rw[hj];have w5:=D.dep_mem y1;have W:=D.dep_mem x9;exact ih _ _ _ _ _ _ R S A.in1 (.inl<|r1.views y1 hx) (.inl<|i.views x9 hy) w2 w4 (by lia) (by lia) (by show A.units+1+n<bc+1;lia)
 have h1:=qQ I hd o (by lia);have Q:=qQ I he t Z
 cases h1 with
 |non=>
  cases Q with
  |non=>exact lg o t K3 K3
  |bl g=>exact lg o t K3 K3
  |int g x=>exact lg o t K3 K3
  |str g x=>exact lg o t K3 K3
  |tup B i k f=>exact EqAt.none_tuple f h
  |lst B i k f=>exact EqAt.none_list f h
 |bl J'=>
  cases Q with
  |non=>exact lg o t K3 K3
  |bl g=>exact lg o t K3 K3
  |int g x=>exact lg o t K3 K3
  |str g x=>exact lg o t K3 K3
  |tup B i k f=>exact EqAt.bool_tuple J' f h
  |lst B i k f=>exact EqAt.bool_list J' f h
 |int J' Y'=>
  cases Q with
  |non=>exact lg o t K3 K3
  |bl g=>exact lg o t K3 K3
  |int g x=>exact lg o t K3 K3
  |str g x=>exact lg o t K3 K3
  |tup B i k f=>exact EqAt.int_tuple J' Y' f h
  |lst B i k f=>exact EqAt.int_list J' Y' f h
 |str J' Y'=>
  cases Q with
  |non=>exact lg o t K3 K3
  |bl g=>exact lg o t K3 K3
  |int g x=>exact lg o t K3 K3
  |str g x=>exact lg o t K3 K3
  |tup B i k f=>exact EqAt.str_tuple J' Y' f h
  |lst B i k f=>exact EqAt.str_list J' Y' f h
 | @tup l p T c q r M y=>
  cases Q with
  |non=>exact EqAt.tuple_none y h
  |bl g=>exact EqAt.tuple_bool g y h
  |int g x=>exact EqAt.tuple_int g x y h
  |str g x=>exact EqAt.tuple_str g x y h
  | @tup m p2 G C' B i k f=>
   by_cases U:p=p2
   .subst U;have:=I.tuple_inj q B;subst this;rw[RepL.inj I (by rw[D.dep] at N;lia) r i,D.eqb_refl];exact fc _
   .refine .of_refs U ?_;have F:D.depL l+1<=n:=by rw[D.dep] at N;exact N
    have P:D.depL m<20000:=by rw[D.dep] at Z;lia
    have z:=RcAt.tuples y f h<|L l m T G c C' _ _ F P r i M k;have e1:=M.length;have e2:=k.length;have e3:=r.length;have e4:=i.length;simp only[hG] at z;rw[show c.length=l.length by lia,show C'.length=m.length by lia,lX] at z;rw[D.eqb];exact z
  |lst B i k f=>exact EqAt.tuple_list y f h
 | @lst l p T c q r M y=>
  cases Q with
  |non=>exact EqAt.list_none y h
  |bl g=>exact EqAt.list_bool g y h
  |int g x=>exact EqAt.list_int g x y h
  |str g x=>exact EqAt.list_str g x y h
  |tup B i k f=>exact EqAt.list_tuple y f h
  | @lst m p2 G C' B i k f=>
   by_cases U:p=p2
   .subst U;have:=I.list_inj q B;subst this;rw[RepL.inj I (by rw[D.dep] at N;lia) r i,D.eqb_refl];exact fc _
   .refine .of_refs U ?_;have F:D.depL l+1<=n:=by rw[D.dep] at N;exact N
    have P:D.depL m<20000:=by rw[D.dep] at Z;lia
    have e1:=M.length;have e2:=k.length;have e3:=r.length;have e4:=i.length;have al:=lX l m;by_cases E:l.length=m.length
    .have z:=RcAt.lists y f (by simp only[hG];lia) h<|L l m T G c C' _ _ F P r i M k;simp only[hG] at z;rw[show c.length=min l.length m.length by lia] at z;rw[D.eqb,<-al,E];rw[E] at z;simpa using z
    .have z:=RcAt.lists_lengths y f (by simp only[hG,bne_iff_ne,ne_eq];lia) h;rw[D.eqb,<-al];rw[show(l.length==m.length)=J by simpa using E];simpa using z
def B8(U:Inv X pins σ H s): ∀(n:Nat) (d e:D) (v u:V) (a b:gu) (O c:AP') (A:gJ),jm X.K H O d v->jm X.K H c e u->RelV v a->RelV u b->d.dep<=n->e.dep<20000->A.units+n<bc->EqAt A s a b (D.eqb d e):=by
 intro n
 induction n with
 |zero=>intro d e v u a b O c A hd f i j g h k;exact Am U 0 (λd e v u a b O c A hd f i j g h k=>absurd g<|by lia) d e v u a b O c A hd f i j g h k
 |succ n l=>intro d e v u a b O c A hd f i j g h k;exact Am U (n+1) (λd e v u a b O c A hd f i j g h k=>l d e v u a b O c A hd f i j (by lia) h<|by lia) d e v u a b O c A hd f i j g h k
end
section
variable {X:Cx}{c:gU}{f:L2.St}{H:Hp}{s:fY}
def Du(I:Inv X c f H s){A:gJ}{n:Nat}(N:A.units+n<bc): ∀(l m:List D) (d e:List V) (a b:il) (g h:AP'),D.depL l+1<=n->D.depL m<20000->RepL X.K H g l d->RepL X.K H h m e->Vals d a->Vals e b->
   ∀j (h1:j<a.toArray.size) (p:j<b.toArray.size),EqAt A.in1 s a.toArray[j] b.toArray[j] (qL l m j):=λl m d e a b g h U Y t u v x j h1 p=>by
 have T:=v.length;have G:=x.length;have J:=t.length;have M:=u.length;simp only[hG] at h1 p;have q:d[j]?=I8 d[j]:=gY (by omega);have r:e[j]?=I8 e[j]:=gY (by omega);have o:l[j]?=I8 l[j]:=gY (by omega);have k:m[j]?=I8 m[j]:=gY (by omega);obtain⟨w,y,O⟩:=v.get q;obtain⟨L,z,Q⟩:=x.get r
 have C:a.toArray[j]=w:=by have:a[j]?=I8 a[j]:=gY (by omega);rw[this] at y;simpa using y
 have E:b.toArray[j]=L:=by have:b[j]?=I8 b[j]:=gY (by omega);rw[this] at z;simpa using z
 rw[C,E];have B:qL l m j=D.eqb l[j] m[j]:=by unfold qL;rw[o,k]
 rw[B];have F:=D.dep_mem o;have i:=D.dep_mem k;exact B8 I (n-1) _ _ _ _ _ _ g h A.in1 (.inl<|t.views o q) (.inl<|u.views k r) O Q (by omega) (by omega) (by show A.units+1+(n-1)<bc;omega)
def Qc(I:Inv X c f H s)(hd:jm X.K H O d v)(he:jm X.K H O' e u)(ra:RelV v a)(rb:RelV u b)(G:d.dep<=n)(N:e.dep<20000)(hA:A.units+n<bc):RcAt A s a b (D.eqb d e):=by
 have j:A.units<cLine:=by lia
 have B:=Du I hA;have W:bc=9900:=rfl;have h1:=qQ I hd ra (by lia);have L:=qQ I he rb N
 cases h1 with
 |non=>
  cases L with
  |non=>exact RcAt.none_none
  |bl g=>exact RcAt.none_bool g
  |int g i=>exact RcAt.none_int g i
  |str g i=>exact RcAt.none_str g i
  |tup E o t h=>exact RcAt.none_tuple h j
  |lst E o t h=>exact RcAt.none_list h j
 |bl k=>
  cases L with
  |non=>exact RcAt.bool_none k
  |bl g=>exact RcAt.bool_bool k g
  |int g i=>exact RcAt.bool_int k g i
  |str g i=>exact RcAt.bool_str k g i
  |tup E o t h=>exact RcAt.bool_tuple k h j
  |lst E o t h=>exact RcAt.bool_list k h j
 |int k x=>
  cases L with
  |non=>exact RcAt.int_none k x
  |bl g=>exact RcAt.int_bool k x g
  |int g i=>exact RcAt.int_int k x g i
  |str g i=>exact RcAt.int_str k x g i
  |tup E o t h=>exact RcAt.int_tuple k x h j
  |lst E o t h=>exact RcAt.int_list k x h j
 |str k x=>
  cases L with
  |non=>exact RcAt.str_none k x
  |bl g=>exact RcAt.str_bool k x g
  |int g i=>exact RcAt.str_int k x g i
  |str g i=>exact RcAt.str_str k x g i
  |tup E o t h=>exact RcAt.str_tuple k x h j
  |lst E o t h=>exact RcAt.str_list k x h j
 | @tup l p U C' q r Q w=>
  cases L with
  |non=>exact RcAt.tuple_none w j
  |bl g=>exact RcAt.tuple_bool g w j
  |int g i=>exact RcAt.tuple_int g i w j
  |str g i=>exact RcAt.tuple_str g i w j
  | @tup m p2 Y' T E o t h=>
   have J:D.depL l+1<=n:=by rw[D.dep] at G;exact G
   have M:D.depL m<20000:=by rw[D.dep] at N;lia
   have P:=Q.length;have R:=t.length;have S:=r.length;have V:=o.length;have z:=RcAt.tuples w h j<|B l m U Y' C' T _ _ J M r o Q t;simp only[hG] at z;rw[show C'.length=l.length by lia,show T.length=m.length by lia,lX] at z;rw[D.eqb];exact z
  |lst E o t h=>exact RcAt.tuple_list w h j
 | @lst l p U C' q r Q w=>
  cases L with
  |non=>exact RcAt.list_none w j
  |bl g=>exact RcAt.list_bool g w j
  |int g i=>exact RcAt.list_int g i w j
  |str g i=>exact RcAt.list_str g i w j
  |tup E o t h=>exact RcAt.list_tuple w h j
  | @lst m p2 Y' T E o t h=>
   have J:D.depL l+1<=n:=by rw[D.dep] at G;exact G
   have M:D.depL m<20000:=by rw[D.dep] at N;lia
   have P:=Q.length;have R:=t.length;have S:=r.length;have V:=o.length;have F:=lX l m;by_cases y:l.length=m.length
   .have z:=RcAt.lists w h (by simp only[hG];lia) j<|B l m U Y' C' T _ _ J M r o Q t;simp only[hG] at z;rw[show C'.length=min l.length m.length by lia] at z;rw[D.eqb,<-F,y];rw[y] at z;simpa using z
   .have z:=RcAt.lists_lengths w h (by simp only[hG,bne_iff_ne,ne_eq];lia) j;rw[D.eqb,<-F];rw[show(l.length==m.length)=K2 by simpa using y];simpa using z
def Km(I:Inv X c f H s)(hd:jm X.K H O d v)(he:jm X.K H O' e u)(ra:RelV v a)(rb:RelV u b)(G:d.dep<=n)(N:e.dep<20000)(hA:A.units+n<bc):RcNeAt A s a b (!D.eqb d e):=by
 have j:A.units<cLine:=by lia
 have B:=Du I hA;have W:bc=9900:=rfl;have h1:=qQ I hd ra (by lia);have L:=qQ I he rb N
 cases h1 with
 |non=>
  cases L with
  |non=>exact RcNeAt.none_none
  |bl g=>exact RcNeAt.none_bool g
  |int g i=>exact RcNeAt.none_int g i
  |str g i=>exact RcNeAt.none_str g i
  |tup E o t h=>exact RcNeAt.none_tuple h j
  |lst E o t h=>exact RcNeAt.none_list h j
 |bl k=>
  cases L with
  |non=>exact RcNeAt.bool_none k
  |bl g=>exact RcNeAt.bool_bool k g
  |int g i=>exact RcNeAt.bool_int k g i
  |str g i=>exact RcNeAt.bool_str k g i
  |tup E o t h=>exact RcNeAt.bool_tuple k h j
  |lst E o t h=>exact RcNeAt.bool_list k h j
 |int k x=>
  cases L with
  |non=>exact RcNeAt.int_none k x
  |bl g=>exact RcNeAt.int_bool k x g
  |int g i=>exact RcNeAt.int_int k x g i
  |str g i=>exact RcNeAt.int_str k x g i
  |tup E o t h=>exact RcNeAt.int_tuple k x h j
  |lst E o t h=>exact RcNeAt.int_list k x h j
 |str k x=>
  cases L with
  |non=>exact RcNeAt.str_none k x
  |bl g=>exact RcNeAt.str_bool k x g
  |int g i=>exact RcNeAt.str_int k x g i
  |str g i=>exact RcNeAt.str_str k x g i
  |tup E o t h=>exact RcNeAt.str_tuple k x h j
  |lst E o t h=>exact RcNeAt.str_list k x h j
 | @tup l p U C' q r Q w=>
  cases L with
  |non=>exact RcNeAt.tuple_none w j
  |bl g=>exact RcNeAt.tuple_bool g w j
  |int g i=>exact RcNeAt.tuple_int g i w j
  |str g i=>exact RcNeAt.tuple_str g i w j
  | @tup m p2 Y' T E o t h=>
   have J:D.depL l+1<=n:=by rw[D.dep] at G;exact G
   have M:D.depL m<20000:=by rw[D.dep] at N;lia
   have P:=Q.length;have R:=t.length;have S:=r.length;have V:=o.length;have z:=RcNeAt.tuples w h j<|B l m U Y' C' T _ _ J M r o Q t;simp only[hG] at z;rw[show C'.length=l.length by lia,show T.length=m.length by lia,lX] at z;rw[D.eqb];exact z
  |lst E o t h=>exact RcNeAt.tuple_list w h j
 | @lst l p U C' q r Q w=>
  cases L with
  |non=>exact RcNeAt.list_none w j
  |bl g=>exact RcNeAt.list_bool g w j
  |int g i=>exact RcNeAt.list_int g i w j
  |str g i=>exact RcNeAt.list_str g i w j
  |tup E o t h=>exact RcNeAt.list_tuple w h j
  | @lst m p2 Y' T E o t h=>
   have J:D.depL l+1<=n:=by rw[D.dep] at G;exact G
   have M:D.depL m<20000:=by rw[D.dep] at N;lia
   have P:=Q.length;have R:=t.length;have S:=r.length;have V:=o.length;have F:=lX l m;by_cases y:l.length=m.length
   .have z:=RcNeAt.lists w h (by simp only[hG];lia) j<|B l m U Y' C' T _ _ J M r o Q t;simp only[hG] at z;rw[show C'.length=min l.length m.length by lia] at z;rw[D.eqb,<-F,y];rw[y] at z;simpa using z
   .have z:=RcNeAt.lists_lengths w h (by simp only[hG,bne_iff_ne,ne_eq];lia) j;rw[D.eqb,<-F];rw[show(l.length==m.length)=K2 by simpa using y];simpa using z
def Rr(j:X.A.units+60<bc):OpR X (ap .Eq) (λx y H Q=> ∃O d e,jm X.K H O d x/\jm X.K H O e y/\(d.dep<=50/\e.dep<=50)/\Q (.bl<|D.eqb d e) H):=by intro c s f H x y v u Q U g i h;obtain⟨O,d,e,h1,a,b,q⟩:=h;exact Qc (A:=X.A) U h1 a g i b.1 (by lia) (by lia) _ _ _ _ ⟨.bl _,H,U,rfl,q⟩
def Rl(j:X.A.units+60<bc):OpR X (ap .NotEq) (λx y H Q=> ∃O d e,jm X.K H O d x/\jm X.K H O e y/\(d.dep<=50/\e.dep<=50)/\Q (.bl (!D.eqb d e)) H):=by intro c s f H x y v u Q U g i h;obtain⟨O,d,e,h1,a,b,q⟩:=h;exact Km (A:=X.A) U h1 a g i b.1 (by lia) (by lia) _ _ _ _ ⟨.bl _,H,U,rfl,q⟩
end
def gP{e:Type}{c:Prop}[Decidable c]{a b:e}(h:(if c then I a else C)=I b):c/\a=b:=by
 split at h
 .rename_i d;exact⟨d,jn h⟩
 .cases h
section
variable {X:Cx}{c:gU}{f:L2.St}{H:Hp}{s:fY}
def BQ(I:Inv X c f H s){A:gJ}{l:List D}{q:List V}{a:il}{O E:AP'}{b:D}{T:V}{x:gu}(r:RepL X.K H O l q)(v:Vals q a)(hx:jm X.K H E b T)(rx:RelV T x)(hn:D.depL l<=50)(hxn:b.dep<=50)(hA:A.units+60<bc):
  ∃e:gu->Bool,(∀y∈a,EqAt A.in1 s y x<|e y)/\a.any e=l.any λd=>D.eqb d b:=by
 let e:gu->Bool:=λy=>match(a.zip l).find? (λp=>p.1==y) with
  |some p=>D.eqb p.2 b
  |none=>K2
 have W:=v.length;have Z:=r.length
 have n: ∀(j:Nat) (g:j<a.length) (h:j<l.length),e a[j]=D.eqb l[j] b:=λj g h=>by
  show(match(a.zip l).find? (λp=>p.1==a[j]) with|some p=>D.eqb p.2 b|none=>K2)=_
  cases u:(a.zip l).find? (λp=>p.1==a[j]) with
  |none=>
   have:=List.find?_eq_none.mp u (a[j],l[j]) (by
    have:(a.zip l)[j]?=I8 (a[j],l[j]):=by simp[Ck,gY g,gY h]
    exact mM this)
   simp at this
  |some p=>
   have F:=List.find?_some u;have Y:=List.mem_of_find?_eq_some u;obtain⟨i,Q⟩:=pY Y;obtain⟨R,p2⟩:=p;rw[Ck] at Q;have M:R=a[j]:=qa F;obtain⟨h1,k⟩:=Q;have L:i<q.length:=by have:=(qc.mp h1).1;lia
   obtain⟨w,o,C⟩:=v.get<|gY L;have t:j<q.length:=by lia
   obtain⟨w',G,S⟩:=v.get<|gY t;rw[h1] at o;cases o;rw[gY g] at G;cases G;subst M;have hv:=C.inj S;have a1:=r.views k<|gY L;have J:=r.views (gY h)<|gY t;rw[hv] at a1;have eX:=D.dep_mem k;have:=Rep.inj I (by lia) a1 J;exact nh (λz=>D.eqb z b) this
 refine⟨e,λy P=>?_,?_⟩
 .obtain⟨j,g⟩:=pY P;have B:=(qc.mp g).1;have t:=(qc.mp g).2;have h:j<l.length:=by lia
  have m:j<q.length:=by lia
  obtain⟨w,o,C⟩:=v.get<|gY m;rw[g] at o;cases o;have hk:=n j B h;rw[t] at hk;rw[hk];have hd:=D.dep_mem<|gY h;exact B8 I 50 _ _ _ _ _ _ O E A.in1 (.inl<|r.views (gY h)<|gY m) hx C rx (by lia) (by lia) (by show A.units+1+50<bc;lia)
 .have:a.map e=l.map λd=>D.eqb d b:=by
   apply Ee
   .simp;lia
   .intro j h1 k;simp only[iJ] at h1 k;simp only[cY];exact n j h1 k
  have N:a.any e=(a.map e).any id:=by rw[vM];rfl
  have U:(l.any λd=>D.eqb d b)=(l.map λd=>D.eqb d b).any id:=by rw[vM];rfl
  rw[N,U,this]
noncomputable def inD(x:D):D->Option Bool
 | .tup l=>if D.depL l<=50/\x.dep<=50 then I (l.any λd=>D.eqb d x) else C
 | .lst l=>if D.depL l<=50/\x.dep<=50 then I (l.any λd=>D.eqb d x) else C
 |_=>C
def Rq(B:X.A.units+60<bc):OpR X (ap .In) (λx y H Q=> ∃O d e b,jm X.K H O d x/\jm X.K H O e y/\inD d e=I b/\Q (.bl b) H):=by
 intro c s f H x y v u Q U T E h;obtain⟨O,d,e,b,h1,z,j,q⟩:=h
 cases e with
 |tup l=>
  obtain⟨i,rfl⟩:=gP j
  .skip
   obtain⟨a,L,rfl,n,r⟩:=kJ z;cases E;obtain⟨g,t,p,_⟩:=U.tuple n;obtain⟨e,m,k⟩:=BQ (A:=X.A) U r t h1 T i.1 i.2 B;refine in_tupleAt e p (λw o=>m w<|by simpa using o) ⟨.bl _,H,U,rfl,?_⟩;rw[show g.toArray.any e=g.any e by simp,k];exact q
 |lst l=>
  obtain⟨i,rfl⟩:=gP j
  .skip
   obtain⟨a,L,rfl,n,r⟩:=ji z;cases E;obtain⟨g,t,p,_⟩:=U.list n;obtain⟨e,m,k⟩:=BQ (A:=X.A) U r t h1 T i.1 i.2 B;refine in_listAt e p.isList (λw o=>m w<|by simpa using o) ⟨.bl _,H,U,rfl,?_⟩;rw[show g.toArray.any e=g.any e by simp,k];exact q
 |_=>cases j
def HN(B:X.A.units+60<bc):OpR X (ap .NotIn) (λx y H Q=> ∃O d e b,jm X.K H O d x/\jm X.K H O e y/\inD d e=I b/\Q (.bl (!b)) H):=by
 intro c s f H x y v u Q U T E h;obtain⟨O,d,e,b,h1,z,j,q⟩:=h
 cases e with
 |tup l=>
  obtain⟨i,rfl⟩:=gP j
  .skip
   obtain⟨a,L,rfl,n,r⟩:=kJ z;cases E;obtain⟨g,t,p,_⟩:=U.tuple n;obtain⟨e,m,k⟩:=BQ (A:=X.A) U r t h1 T i.1 i.2 B;refine notIn_tupleAt e p (λw o=>m w<|by simpa using o) ⟨.bl _,H,U,rfl,?_⟩;rw[show g.toArray.any e=g.any e by simp,k];exact q
 |lst l=>
  obtain⟨i,rfl⟩:=gP j
  .skip
   obtain⟨a,L,rfl,n,r⟩:=ji z;cases E;obtain⟨g,t,p,_⟩:=U.list n;obtain⟨e,m,k⟩:=BQ (A:=X.A) U r t h1 T i.1 i.2 B;refine notIn_listAt e p.isList (λw o=>m w<|by simpa using o) ⟨.bl _,H,U,rfl,?_⟩;rw[show g.toArray.any e=g.any e by simp,k];exact q
 |_=>cases j
end
def rD1(K:gy)(g:D->Option (D×Bool)):V->Hp->VK->Prop:=λx U Q=> ∃(O:AP') (d:D) (z:D×Bool),(∀p,¬Ow (U p)-> ¬O p)/\jm K U O d x/\g d=I z/\Gen K U O z Q
def rD(K:gy)(g:D->D->Option (D×Bool)):R2:=λx y U Q=> ∃(O:AP') (d e:D) (z:D×Bool),(∀p,¬Ow (U p)-> ¬O p)/\jm K U O d x/\jm K U O e y/\g d e=I z/\Gen K U O z Q
def rDn(K:gy)(g:List D->Option (D×Bool)):List V->Hp->VK->Prop:=λb U Q=> ∃(O:AP') (a:List D) (z:D×Bool),(∀p,¬Ow (U p)-> ¬O p)/\(Ls a)=Ls b/\(∀(j:Nat) d v,a[j]?=I d->b[j]?=I v->jm K U O d v)/\g a=I z/\Gen K U O z Q
section
variable {X:Cx}{e a b:gm}{fa fb:FO}{fs:List FO}{c:bB}
def px1(h:PE X e (tUn (rD1 X.K g)<|tO X.K fa)):PX X e (iN g fa):=Qr h λx z v U O Q np f d G=>⟨O,x,z,np,f,d,G⟩
def px2(h:PE X e (tOp (rD X.K g) (tO X.K fa)<|tO X.K fb)):PX X e (fU g fa fb):=Qq h λx y z v u U O Q np f i d G=>⟨O,x,y,z,np,f,i,d,G⟩
def pxn(h:PE X e (tCB (rDn X.K g)<|tA X.K fs)):PX X e (gf g fs):=NC h λd z j U O Q np i hv f G=>⟨O,d,z,np,i,hv,f,G⟩
def gO{K U}{O:AP'}{i:Int}{v:V}(h:jm K U O (.int i) v):v= .int i:=h.elim (λh=>h.int) λ⟨_,_,h⟩=>h.elim
def FZ{K U}(h:jm K U O (.bl i) v):v= .bl i:=h.elim (λh=>h.bl) λ⟨_,_,h⟩=>h.elim
def yj{K U}(h:jm K U O (.str i) v):v= .str i:=h.elim (λh=>h.str) λ⟨_,_,h⟩=>h.elim
def JQ{K U}(h:jm K U O .non v):v= .non:=h.elim (λh=>h.non) λ⟨_,_,h⟩=>h.elim
def Gen.str{K U}(g:Gen K U O (.str i,J) Q):Q (.str i) U:=g _ U (λ_ _ e=>e) Rep.mkStr
noncomputable def gI(f:Int->Int->Option D):D->D->Option (D×Bool)
 | .int i,.int j=>(f i j).map λz=>(z,J)
 |_,_=>C
def xF{f:Int->Int->Option D}{d e:D}{z:D×Bool}(h:gI f d e=I z): ∃i j y,d= .int i/\e= .int j/\f i j=I y/\z=(y,J):=by
 cases d with
 |int i=>
  cases e with
  |int j=>
   cases g:f i j with
   |none=>simp only[gI,g] at h;cases h
   |some y=>simp only[gI,g] at h;cases h;exact⟨i,j,y,rfl,rfl,g,rfl⟩
  |_=>cases h
 |_=>cases h
def rl{f:wU}{N:Int->Int->Prop}[∀i j,Decidable<|N i j]{g:Int->Int->Int}(p:OpR X f (rI N λi j=> .int (g i j))):OpR X f (rD X.K (gI λi j=>if N i j then I (.int<|g i j) else C)):=by intro k s t T x y v u Q U q r h;obtain⟨O,d,e,z,np,h1,l,o,G⟩:=h;obtain⟨i,j,w,rfl,rfl,n,rfl⟩:=xF o;obtain⟨m,rfl⟩:=gP n;exact p k s t T x y v u Q U q r ⟨i,j,gO h1,gO l,m,G.int⟩
def CP{f:wU}{g:Int->Int->Int}(o:OpR X f (rI0 λi j=> .int (g i j))):OpR X f (rD X.K<|gI λi j=>I<|.int<|g i j):=by intro k s r T x y v u Q U p q h;obtain⟨O,d,e,z,np,h1,l,n,G⟩:=h;obtain⟨i,j,w,rfl,rfl,m,rfl⟩:=xF n;cases m;exact o k s r T x y v u Q U p q ⟨i,j,gO h1,gO l,G.int⟩
instance(i j:Int):Decidable (CMul i j):=by unfold CMul;exact inferInstance
instance(i j:Int):Decidable (IH i j):=by unfold IH;exact inferInstance
instance(i j:Int):Decidable (vz i j):=by unfold vz;exact inferInstance
noncomputable def gSub:=gI λi j=>I<|.int<|i-j
noncomputable def nF:=gI λi j=>if CMul i j then I (.int<|i*j) else C
noncomputable def Mf:=gI λi j=>if IH i j then I (.int<|i / j) else C
noncomputable def zu:=gI λi j=>if 0<j then I (.int<|i%j) else C
noncomputable def Ih:=gI λi j=>if vz i j then I (.int<|i^j.toNat) else C
def mT:OpR X (aP .Sub) (rD X.K gSub):=CP Rh
def md:OpR X (aP .Mult) (rD X.K nF):=rl Rm
def Gn:OpR X (aP .FloorDiv) (rD X.K Mf):=rl Oe
def rk:OpR X (aP .Mod) (rD X.K zu):=rl Ro
def Gm:OpR X (aP .Pow) (rD X.K Ih):=rl Rk
noncomputable def jX:D->D->Option (D×Bool)
 | .int i,.int j=>I (.int<|i+j,J)
 | .str i,.str j=>if i.length+j.length<=sizeLine then I (.str<|i++j,J) else C
 | .tup l,.tup m=>if l.length+m.length<=sizeLine then I (.tup<|l++m,J) else C
 | .lst l,.lst m=>if l.length+m.length<=sizeLine then I (.lst<|l++m,Y) else C
 |_,_=>C
def jK:OpR X (aP .Add) (rD X.K jX):=by
 intro k s σ H x y v u Q I T J h;obtain⟨O,d,e,z,np,h1,M,o,G⟩:=h
 cases d with
 |int i=>
  cases e with
  |int j=>cases o;exact Ru k s σ H x y v u Q I T J ⟨i,j,gO h1,gO M,G.int⟩
  |_=>cases o
 |str i=>
  cases e with
  |str j=>obtain⟨W,rfl⟩:=gP o;exact EX k s σ H x y v u Q I T J ⟨i,j,yj h1,yj M,W,G.str⟩
  |_=>cases o
 |tup l=>
  cases e with
  |tup m=>
   obtain⟨W,rfl⟩:=gP o;have k1:Rep X.K H O (.tup l) x:=h1.elim id λ⟨_,_,z⟩=>z.elim;have k2:Rep X.K H O (.tup m) y:=M.elim id λ⟨_,_,z⟩=>z.elim;obtain⟨N,xs,rfl,U,E⟩:=k1.tup;obtain⟨C,ys,rfl,Y,L⟩:=k2.tup;have l1:=E.length;have l2:=L.length;by_cases hx:xs=[]
   .subst hx;have:l=[]:=by simpa using l1.symm
    subst this;cases T;cases J;obtain⟨g,D,R,_⟩:=I.tuple U.sq;obtain⟨q,v2,V,_⟩:=I.tuple Y.sq;have e1:g=[]:=by have:=D.length;simpa using this.symm
    subst e1;obtain⟨⟨P,S,r,sl⟩,t,A,n,hd⟩:=id R;obtain⟨⟨bS,o6,data2,Z⟩,B,w,n2,f⟩:=id V;simp only at A hd w f;subst A hd w f
    refine Bf ⟨_,t,rfl⟩ ⟨_,B,rfl⟩ Eo En Em El (Ek _ _)
     (tuple_addW0 N C #[] q.toArray n n2 S o6 sl Z (by simp)) ⟨t,B,⟨.ref C,H,I,rfl,?_⟩⟩
    exact G _ H (λ_ _ e=>e) (by simpa using k2)
   .refine Of k s σ H _ _ v u Q I T J ⟨N,C,xs,ys,rfl,rfl,U.sq,Y.sq,hx,by lia,λhy=>?_,λhy p hp=>?_⟩
    .subst hy;have:m=[]:=by simpa using l2.symm
     subst this;exact G _ H (λ_ _ e=>e) (by simpa using k1)
    .exact G.tup hp (np p<|nOw hp) (E.append L)
  |_=>cases o
 |lst l=>
  cases e with
  |lst m=>
   obtain⟨W,rfl⟩:=gP o;obtain⟨N,xs,rfl,U,E⟩:=ji h1;obtain⟨C,ys,rfl,Y,L⟩:=ji M;have l1:=E.length;have l2:=L.length;cases T;cases J;obtain⟨g,D,R,_⟩:=I.list U;obtain⟨q,v2,V,_⟩:=I.list Y;have e1:=D.length;have e2:=v2.length;obtain⟨⟨P,S,r,sl⟩,t,A,n,hd⟩:=id R.isList;obtain⟨⟨bS,o6,data2,Z⟩,B,w,n2,f⟩:=id V.isList;simp only at A hd w f;subst A hd w f
   refine Bf ⟨_,t,rfl⟩ ⟨_,B,rfl⟩ noFill_list_add seq_list_add PySem.F.slot_list_add PySem.F.entry_list_add (PySem.F.args_list_add_2 _ _)
    (list_addW N C g.toArray q.toArray n n2 S o6 sl Z<|by simp only[hG];lia) ⟨t,B,?_⟩
   rw[show g.toArray++q.toArray=(g++q).toArray by simp];exact⟨.ref _,_,I.lnew (t':=s.toks) (D.append v2)<|by rw[ky];lia,rfl,G.lst I.fresh<|E.append L⟩
  |_=>cases o
 |_=>cases o
noncomputable def gEq(d e:D):Option (D×Bool):=if d.dep<=50/\e.dep<=50 then I (.bl<|D.eqb d e,J) else C
noncomputable def gNe(d e:D):Option (D×Bool):=if d.dep<=50/\e.dep<=50 then I (.bl (!D.eqb d e),J) else C
noncomputable def gIn(d e:D):Option (D×Bool):=(inD d e).map λb=>(.bl b,J)
noncomputable def kL(d e:D):Option (D×Bool):=(inD d e).map λb=>(.bl (!b),J)
def jU(k:X.A.units+60<bc):OpR X (ap .Eq) (rD X.K gEq):=by intro f s n T x y v u Q U l m h;obtain⟨O,d,e,z,np,h1,g,j,G⟩:=h;obtain⟨i,rfl⟩:=gP j;exact Rr k f s n T x y v u Q U l m ⟨O,d,e,h1,g,i,G.bl⟩
def pd(k:X.A.units+60<bc):OpR X (ap .NotEq) (rD X.K gNe):=by intro f s n T x y v u Q U l m h;obtain⟨O,d,e,z,np,h1,g,j,G⟩:=h;obtain⟨i,rfl⟩:=gP j;exact Rl k f s n T x y v u Q U l m ⟨O,d,e,h1,g,i,G.bl⟩
def iq{d g:Type}{x:Option d}{f:d->g}{b:g}(h:x.map f=I b): ∃a,x=I a/\f a=b:=by
 cases x with
 |none=>cases h
 |some a=>exact⟨a,rfl,jn h⟩
def BD(k:X.A.units+60<bc):OpR X (ap .In) (rD X.K gIn):=by intro f s n T x y v u Q U l m h;obtain⟨O,d,e,z,np,h1,g,j,G⟩:=h;obtain⟨b,i,rfl⟩:=iq j;exact Rq k f s n T x y v u Q U l m ⟨O,d,e,b,h1,g,i,G.bl⟩
def oN(k:X.A.units+60<bc):OpR X (ap .NotIn) (rD X.K kL):=by intro f s n T x y v u Q U l m h;obtain⟨O,d,e,z,np,h1,g,j,G⟩:=h;obtain⟨b,i,rfl⟩:=iq j;exact HN k f s n T x y v u Q U l m ⟨O,d,e,b,h1,g,i,G.bl⟩
noncomputable def jW:D->Option (D×Bool)
 | .int i=>I (.int (-i),J)
 |_=>C
def Nb:UnR X (B0 .USub) (rD1 X.K jW):=by
 intro f s k T x v Q U j h;obtain⟨O,d,z,np,h1,g,G⟩:=h
 cases d with
 |int i=>cases g;exact PL f s k T x v Q U j ⟨i,gO h1,G.int⟩
 |_=>cases g
noncomputable def gIx:D->D->Option (D×Bool)
 | .tup l,.int i=>(atI l i).map λd=>(d,J)
 | .lst l,.int i=>(atI l i).map λd=>(d,J)
 |_,_=>C
def Hc{K U}{O:AP'}{l:List D}{f:List V}{i:Int}{d:D}(r:RepL K U O l f)(h:atI l i=I d): ∃v,atI f i=I v/\Rep K U O d v:=by unfold atI at h ⊢;rw[r.length];obtain⟨j,h1,g⟩:=fS h;rw[h1];exact r.get g
def Ul:IxR X (rD X.K gIx):=by
 intro f slice g s E T x y v u Q U B N h A;obtain⟨O,d,e,z,np,h1,t,j,G⟩:=h
 cases d with
 |tup l=>
  cases e with
  |int i=>obtain⟨w,m,rfl⟩:=iq j;obtain⟨p,o,rfl,q,r⟩:=kJ h1;obtain⟨n,hv,k⟩:=Hc r m;exact RK f slice g s E T _ _ v u Q U B N ⟨p,o,i,n,rfl,gO t,q,hv,G _ T (λ_ _ e=>e) k⟩ A
  |_=>cases j
 |lst l=>
  cases e with
  |int i=>obtain⟨w,m,rfl⟩:=iq j;obtain⟨p,o,rfl,q,r⟩:=ji h1;obtain⟨n,hv,k⟩:=Hc r m;exact OA f slice g s E T _ _ v u Q U B N ⟨p,o,i,n,rfl,gO t,q,hv,G _ T (λ_ _ e=>e) k⟩ A
  |_=>cases j
 |_=>cases j
def Qz(h:OpR X (aP op) (rD X.K g))(d:PO X a fa)(f:PO X b fb):PX X (.BinOp a op b c) (fU g fa fb):=px2<|T3 h d f
def Qy{d:cd}{g:D->D->Option (D×Bool)}(j:OpR X (ap d) (rD X.K g))(f:PO X a fa)(h:PO X b fb)(i:b7 d b=J):PX X (.Compare a [d] [b] c) (fU g fa fb):=px2<|N3 j f h i
def Qu(d:PO X a fa):PX X (.UnaryOp .USub a c) (iN jW fa):=px1<|TY Nb d
def TQ(d:PO X a fa)(f:PO X b fb)(g:Ci b):PX X (.Subscript a b c) (fU gIx fa fb):=px2<|T4 Ul d f g
end
noncomputable def oh:List Opd->Option (List D)
 |[]=>I []
 | .val r::os=>(oh os).map (r.1:: ·)
 | .slot _::_=>C
noncomputable def iP(fs:List F):F:=λδ=>(jk (fs.map fQ) δ).bind λp=>(oh p.1).bind λds=>if (Ls ds)<=sizeLine then I ((.tup ds,J),p.2) else C
noncomputable def jL(fs:List F):F:=λδ=>(jk (fs.map fQ) δ).bind λp=>(oh p.1).bind λds=>if (Ls ds)<=sizeLine then I ((.lst ds,Y),p.2) else C
section
variable {K:gy}{T m:AP'}{f:L2.St}{g e:Dn}{H H':Hp}{os:List Opd}{c:List V}
def Ops.rep(E:ER K H T f g)(B:Ops K T f g H os c e H' m){j:Nat}{r:D×Bool}{v:V}(h1:os[j]?=I (.val r))(h:c[j]?=I v):Rep K H' (λa=>OwnA f e a\/T a) r.1 v:=by
 obtain⟨d,b⟩:=r
 cases b with
 |false=>exact B.val j d v h1 h
 |true=>
  obtain⟨p,rfl,k,i,ok⟩:=B.tmp j d v h1 h;refine ok.rep (λz=>?_) λb _ z=>z;rcases z with z|z
  .exact B.er.nT p z k
  .exact(E.dom p z).ne i
theorem tH{O:AP'}: ∀{os:List Opd} {c:List V} {d:List D},oh os=I d->os.length=Ls c->(∀(j:Nat) (r:D×Bool) (v:V),os[j]?=I (.val r)->c[j]?=I v->Rep K H' O r.1 v)->RepL K H' O d c
 |[],c,d,h,n,_=>by
  cases h;have:c=[]:=by simpa using n.symm
  subst this;exact RepL.nil
 | .slot i::os,c,d,h,_,_=>by cases h
 | .val r::os,c,d,h,n,k=>by
  obtain⟨l,h1,rfl⟩:=iq h
  cases c with
  |nil=>simp at n
  |cons v c=>exact RepL.cons (k 0 r v K3 K3)<|tH h1 (by simpa using n) λj o p a b=>k (j+1) o p (by simpa using a) (by simpa using b)
end
section
variable {X:Cx}{e a b:gm}{m:jg}{fa fb:FO}{fs:List F}{c:bB}
def Ql{x1}(h:PA X m (tA X.K<|fs.map fQ)):PX X (.Tuple m x1 c) (iP fs):=PX.imp (Q5 h) λx U Q l=>by obtain⟨n,T,u,o,E,e,k⟩:=l;obtain⟨⟨os,d⟩,h1,e⟩:=fS e;obtain⟨t,g,e⟩:=fS e;obtain⟨i,e⟩:=gP e;obtain⟨rfl,rfl⟩:=qj e;refine⟨n,T,os,d,E,h1,λw q s B=>?_⟩;have r:=tH g B.len λj r v a b=>B.rep E a b;exact⟨by rw[r.length];exact i,λp f=>(B.done k).tup f (B.np<|nOw f) r⟩
def Qv(h:PA X m (tA X.K<|fs.map fQ)):PX X (.List m c) (jL fs):=PX.imp (Ra h) λx U Q l=>by obtain⟨n,T,u,o,E,e,k⟩:=l;obtain⟨⟨os,d⟩,h1,e⟩:=fS e;obtain⟨t,f,e⟩:=fS e;obtain⟨g,e⟩:=gP e;obtain⟨rfl,rfl⟩:=qj e;refine⟨n,T,os,d,E,h1,λw q s B=>?_⟩;have r:=tH f B.len λj r v a b=>B.rep E a b;exact⟨by rw[r.length];exact g,λp i=>(B.done k).lst i r⟩
def Gq{g:List D}{f:List V}{d:D}(h:(Ls g)=Ls f)(hd:g=[d]): ∃v,f=[v]:=by
 subst hd
 cases f with
 |nil=>simp at h
 |cons v r=>
  cases r with
  |nil=>exact⟨v,rfl⟩
  |cons _ _=>simp at h
noncomputable def g1(g:D->Option (D×Bool)):List D->Option (D×Bool)
 |[d]=>g d
 |_=>C
noncomputable def g2(g:D->D->Option (D×Bool)):List D->Option (D×Bool)
 |[d,e]=>g d e
 |_=>C
def lY{f:gu}{g:D->Option (D×Bool)}(h: ∀(i:gU) (s:fY) (j:L2.St) (T:Hp) (x:V) (u:gu) (Q:VK) (O:AP') (d:D) (z:D×Bool),Inv X i j T s->RelV x u->(∀p,¬Ow (T p)-> ¬O p)->jm X.K T O d x->g d=I z->Gen X.K T O z Q->
  af (ah X.prog X.w) X.A (call f [u]) (EP X i j Q) X.xe s):jw X f (rDn X.K<|g1 g):=by
 intro i s j T y t Q U r o;obtain⟨O,l,z,np,n,hv,k,G⟩:=o
 match l,k with
 |[d],k=>obtain⟨v,rfl⟩:=Gq n H;obtain⟨u,rfl,q⟩:=oG r;exact h i s j T v u Q O d z U q np (hv 0 d v H H) k G
def MC{f:gu}{g:D->D->Option (D×Bool)}(h: ∀(i:gU) (s:fY) (k:L2.St) (T:Hp) (x y:V) (j:il) (Q:VK) (O:AP') (d e:D) (z:D×Bool),Inv X i k T s->Vals [x,y] j->(∀p,¬Ow (T p)-> ¬O p)->jm X.K T O d x->jm X.K T O e y->g d e=I z->Gen X.K T O z Q->
  af (ah X.prog X.w) X.A (call f j) (EP X i k Q) X.xe s):jw X f (rDn X.K<|g2 g):=by
 intro i s k T t j Q U r q;obtain⟨O,n,z,np,o,hv,l,G⟩:=q;rcases n with _|⟨d,_|⟨e,_|⟨_,_⟩⟩⟩<;>try cases l
 rcases t with _|⟨x,_|⟨y,_|⟨_,_⟩⟩⟩<;>try cases o
 exact h i s k T x y j Q O d e z U r np (hv 0 d x H H) (hv 1 e y H H) l G
noncomputable def kz:D->Option (D×Bool)
 | .tup l=>I (.int<|Ls l,J)
 | .lst l=>I (.int<|Ls l,J)
 |_=>C
def iB:jw X (.builtin "len") (rDn X.K<|g1 kz):=lY λf s j T x u Q O d z U i np hd g G=>by
 cases d with
 |tup l=>
  cases g;obtain⟨p,h,rfl,q,r⟩:=kJ hd;refine vo f s j T [_] [u] Q U (.cons i .nil) ⟨p,h,rfl,.inr q,?_⟩;rw[r.length];exact G.int
 |lst l=>
  cases g;obtain⟨p,h,rfl,q,r⟩:=ji hd;refine vo f s j T [_] [u] Q U (.cons i .nil) ⟨p,h,rfl,.inl q,?_⟩;rw[r.length];exact G.int
 |_=>cases g
noncomputable def ox:D->Option (D×Bool)
 | .int i=>I (.int (if i<0 then -i else i),J)
 |_=>C
def kf:jw X (.builtin "abs") (rDn X.K<|g1 ox):=lY λf s j T x u Q O d z U h np hd g G=>by
 cases d with
 |int i=>cases g;exact MD f s j T [x] [u] Q U (.cons h .nil) ⟨i,by rw[gO hd],G.int⟩
 |_=>cases g
noncomputable def Dk:D->Option (D×Bool)
 | .int i=>I (.int i,J)
 | .bl b=>I (.int (if b then 1 else 0),J)
 |_=>C
def wL:jw X (.type "int") (rDn X.K<|g1 Dk):=lY λf s j T x u Q O d z U h np hd g G=>by
 cases d with
 |int i=>cases g;exact As f s j T [x] [u] Q U (.cons h .nil)<|.inl ⟨i,by rw[gO hd],G.int⟩
 |bl i=>
  cases g;refine As f s j T [x] [u] Q U (.cons h .nil)<|.inr ⟨i,by rw[FZ hd],?_⟩;have:=G.int;cases i<;>exact this
 |_=>cases g
noncomputable def km:D->Option (D×Bool)
 | .tup l=>I (.tup l,J)
 | .lst l=>I (.tup l,J)
 |_=>C
def jl:jw X (.type "tuple") (rDn X.K<|g1 km):=lY λf s n T x u Q O d z U k np hd g G=>by
 cases d with
 |tup l=>
  cases g;have j:Rep X.K T O (.tup l) x:=hd.elim id λ⟨_,_,z⟩=>z.elim;obtain⟨p,h,rfl,q,r⟩:=j.tup;exact sH f s n T [_] [u] Q U (.cons k .nil) ⟨p,h,rfl,.inr ⟨q.sq,G _ T (λ_ _ e=>e) j⟩⟩
 |lst l=>
  cases g;obtain⟨p,h,rfl,q,r⟩:=ji hd;exact sH f s n T [_] [u] Q U (.cons k .nil) ⟨p,h,rfl,.inl ⟨q,λt i=>G.tup i (np t<|nOw i) r⟩⟩
 |_=>cases g
noncomputable def uW:D->Option (D×Bool)
 | .tup l=>I (.lst l,Y)
 | .lst l=>I (.lst l,Y)
 |_=>C
def yY:jw X (.type "list") (rDn X.K<|g1 uW):=lY λf s k T x u Q O d z U j np hd g G=>by
 cases d with
 |tup l=>
  cases g;obtain⟨p,i,rfl,q,r⟩:=kJ hd;exact vm f s k T [_] [u] Q U (.cons j .nil) ⟨p,i,rfl,.inr q,λt h=>G.lst h r⟩
 |lst l=>
  cases g;obtain⟨p,i,rfl,q,r⟩:=ji hd;exact vm f s k T [_] [u] Q U (.cons j .nil) ⟨p,i,rfl,.inl q,λt h=>G.lst h r⟩
 |_=>cases g
end
abbrev FT:=Dn->Option (Bool×Dn)
def tT(K:gy)(f:FT):TT:=λe U Q=> ∃d T b a,ER K U T e d/\f d=I (b,a)/\ ∀c,Keep e d U a c->ER K c T e a->Q b c
def PTX(X:Cx)(e:gm)(f:FT):Prop:=PT X e<|tT X.K f
def PWX(X:Cx)(e:gm)(f:FT):Prop:=PW X e<|tT X.K f
noncomputable def asB:(D×Bool)×Dn->Option (Bool×Dn)
 |((.bl b,_),a)=>I (b,a)
 |_=>C
noncomputable def fT(f:F):FT:=λδ=>(f δ).bind asB
def vt(h:asB p=I q): ∃o,p=((.bl q.1,o),q.2):=by
 obtain⟨⟨d,o⟩,a⟩:=p
 cases d with
 |bl b=>cases h;exact⟨o,rfl⟩
 |_=>cases h
def JZ{K:gy}{f:F}{a:L2.St}{U:Hp}{Q:Bool->Hp->Prop}(h:tT K (fT f) a U Q):tF K f a U λx i=> ∃c,x= .bl c/\Q c i:=by obtain⟨l,T,b,m,E,e,k⟩:=h;obtain⟨p,h1,j⟩:=fS e;obtain⟨o,rfl⟩:=vt j;refine⟨l,T,_,_,E,h1,λv g P=>?_⟩;obtain⟨d,r⟩:=P.rep E;exact⟨b,r.bl,k g P.1 d⟩
section
variable {X:Cx}{e a b c:gm}{m:jg}{C A:FO}{f g:F}{l n:FT}{i:bB}
def PT.imp'(h:PT X e t)(k: ∀j T Q,p j T Q->t j T Q):PT X e p:=λd s j T Q U o=>h d s j T Q U<|k j T Q o
def PW.imp'(h:PW X e t)(k: ∀j T Q,p j T Q->t j T Q):PW X e p:=λwh d s j T Q U o=>h wh d s j T Q U<|k j T Q o
def NJ(h:PX X e f)(j: ∀d,isTrue e X.env d=(do let v <-d;cc e.pos;bt [v] (truthy v))):PTX X e (fT f):=PT.imp' (QN h j) λo U Q k=>JZ k
def Oh{r:R2}{g:D->D->Option (D×Bool)}(M:Sn X.K r g){t:L2.St}{H:Hp}{Q:VK}(N:tF X.K (fU g C A) t H Q):tOp r (tO X.K C) (tO X.K A) t H Q:=by obtain⟨Y,T,R,F,E,e,k⟩:=N;obtain⟨⟨o,d⟩,h1,e⟩:=fS e;obtain⟨⟨U,q⟩,I,e⟩:=fS e;obtain⟨x,L,e⟩:=fS e;obtain⟨y,O,e⟩:=fS e;obtain⟨z,G,e⟩:=fS e;obtain⟨rfl,rfl⟩:=gA e;refine⟨Y,T,o,d,E,h1,λv P h=>⟨d,zE T o v,U,q,h.er E,I,λu w s=>?_⟩⟩;have B:=Ops.cons E h<|Ops.cons (h.er E) s<|Ops.nil<|s.er<|h.er E;exact M x y z v u w _ Q (λp J=>B.np J) (B.view (j:=0) K3 K3 L) (B.view (j:=1) K3 K3 O) G (B.done k)
def TL{K:gy}{g:D->D->Option (D×Bool)}:Sn K (rD K g) g:=λx y z v u U O Q np h j d G=>⟨O,x,y,z,np,h,j,d,G⟩
def NL{d:cd}{g:D->D->Option (D×Bool)}(o:OpR X (ap d) (rD X.K g))(h:PO X a C)(j:PO X b A)(k:b7 d b=J):PTX X (.Compare a [d] [b] i) (fT<|fU g C A):=
 PT.imp' (NM o h j k) λq U Q p=>Oh TL<|JZ p
noncomputable def mx(f g:FT):FT:=λd=>(f d).bind λp=>if p.1=Y then g p.2 else I (J,p.2)
noncomputable def ly(f g:FT):FT:=λδ=>(f δ).bind λp=>if p.1=Y then I (Y,p.2) else g p.2
noncomputable def hJ(f:FT):FT:=λδ=>(f δ).bind λp=>I (!p.1,p.2)
def Kw(d:PTX X a l):PWX X (.BoolOp .And [a] i) l:=NI d
def NG(d:PTX X a l):PWX X (.BoolOp .Or [a] i) l:=QJ d
def NH(u:PTX X a l)(v:PWX X (.BoolOp .And (b::m) i) n):PWX X (.BoolOp .And (a::b::m) i) (mx l n):=PW.imp' (QK u v) λy U Q w=>by
 obtain⟨x,T,c,h,E,e,k⟩:=w;obtain⟨⟨p,d⟩,h1,e⟩:=fS e;refine⟨x,T,p,d,E,h1,λr o j=>?_⟩
 cases p with
 |true=>rw[gr H] at e;rw[gr H];exact⟨d,T,c,h,j,e,λs t q=>k s (o.trans t) q⟩
 |false=>rw[gD jD] at e;rw[gD jD];obtain⟨rfl,rfl⟩:=gA e;exact k r o j
def QH(u:PTX X a l)(v:PWX X (.BoolOp .Or (b::m) i) n):PWX X (.BoolOp .Or (a::b::m) i) (ly l n):=PW.imp' (TV u v) λy U Q w=>by
 obtain⟨x,T,c,h,E,e,k⟩:=w;obtain⟨⟨p,d⟩,h1,e⟩:=fS e;refine⟨x,T,p,d,E,h1,λr o j=>?_⟩
 cases p with
 |true=>rw[gr H] at e;rw[gr H];obtain⟨rfl,rfl⟩:=gA e;exact k r o j
 |false=>rw[gD jD] at e;rw[gD jD];exact⟨d,T,c,h,j,e,λs t q=>k s (o.trans t) q⟩
def NK(j:PTX X a l):PTX X (.UnaryOp .Not a i) (hJ l):=PT.imp' (QR j) λr U Q o=>by obtain⟨p,T,c,q,E,e,k⟩:=o;obtain⟨⟨h,d⟩,h1,e⟩:=fS e;obtain⟨rfl,rfl⟩:=gA e;exact⟨p,T,h,d,E,h1,k⟩
noncomputable def oy(f g:F):F:=λδ=>(f δ).bind λp=>(asB p).bind λq=>if q.1=Y then g q.2 else I ((.bl J,J),q.2)
noncomputable def fOr(f g:F):F:=λδ=>(f δ).bind λp=>(asB p).bind λq=>if q.1=Y then I ((.bl Y,J),q.2) else g q.2
noncomputable def Mp(f:F):F:=λd=>(f d).bind λp=>(asB p).bind λq=>I ((.bl (!q.1),J),q.2)
def Post.pre{K:gy}{T:AP'}{h:L2.St}{δ δ1 δ2:Dn}{U j q:Hp}{r:D×Bool}{v:V}(k:Keep h δ U δ1 j)(P:Post K T h δ1 j r δ2 v q):Post K T h δ U r δ2 v q:=by
 refine⟨k.trans P.1,?_⟩;obtain⟨d,o⟩:=r
 cases o with
 |false=>exact P.2
 |true=>
  obtain⟨p,h1,s,t⟩:=P.2;refine⟨p,h1,?_,t⟩
  cases u:U p with
  |none=>rfl
  |some w=>exact absurd s<|k.dm p (by rw[u];simp)
def QD(y:PX X a f)(z:PX X (.BoolOp .And (b::m) i) g):PX X (.BoolOp .And (a::b::m) i) (oy f g):=PX.imp (Rc y z) λO N Q B=>by
 obtain⟨L,T,r,h,E,e,k⟩:=B;obtain⟨p,h1,e⟩:=fS e;obtain⟨⟨c,j⟩,x,d⟩:=fS e;obtain⟨o,rfl⟩:=vt x;refine⟨L,T,_,_,E,h1,λv s P=>?_⟩;obtain⟨q,U⟩:=P.rep E;refine⟨c,U.bl,?_⟩
 cases c with
 |true=>rw[gr H] at d;rw[gr H];exact⟨j,T,r,h,q,d,λw t u=>k w t<|u.pre P.1⟩
 |false=>rw[gD jD] at d;rw[gD jD];obtain⟨rfl,rfl⟩:=gA d;exact k _ s (Post.val P.1 q Rep.mkBl)
def TN(y:PX X a f)(z:PX X (.BoolOp .Or (b::m) i) g):PX X (.BoolOp .Or (a::b::m) i) (fOr f g):=PX.imp (TZ y z) λO N Q B=>by
 obtain⟨L,T,r,h,E,e,k⟩:=B;obtain⟨p,h1,e⟩:=fS e;obtain⟨⟨c,j⟩,x,d⟩:=fS e;obtain⟨o,rfl⟩:=vt x;refine⟨L,T,_,_,E,h1,λv s P=>?_⟩;obtain⟨q,U⟩:=P.rep E;refine⟨c,U.bl,?_⟩
 cases c with
 |true=>rw[gr H] at d;rw[gr H];obtain⟨rfl,rfl⟩:=gA d;exact k _ s (Post.val P.1 q Rep.mkBl)
 |false=>rw[gD jD] at d;rw[gD jD];exact⟨j,T,r,h,q,d,λw t u=>k w t<|u.pre P.1⟩
def ND{op}(d:PX X a f):PX X (.BoolOp op [a] i) f:=Q7 d
def Qs(s:PX X a f):PX X (.UnaryOp .Not a i) (Mp f):=PX.imp (Q8 s) λz U Q t=>by obtain⟨w,T,r,x,E,e,k⟩:=t;obtain⟨p,h1,e⟩:=fS e;obtain⟨⟨c,y⟩,q,j⟩:=fS e;obtain⟨o,rfl⟩:=vt q;obtain⟨rfl,rfl⟩:=gA j;refine⟨w,T,_,_,E,h1,λv h P=>?_⟩;obtain⟨d,u⟩:=P.rep E;exact⟨c,u.bl,k _ h (Post.val P.1 d Rep.mkBl)⟩
noncomputable def fIf(t:FT)(f g:F):F:=λd=>(t d).bind λp=>if p.1=Y then f p.2 else g p.2
def TR(u:PTX X c l)(s:PX X a f)(t:PX X b g):PX X (.IfExp c a b i) (fIf l f g):=PX.imp (Ld u s t) λz U Q v=>by
 obtain⟨x,T,r,h,E,e,k⟩:=v;obtain⟨⟨c,d⟩,h1,e⟩:=fS e;refine⟨x,T,c,d,E,h1,λy q p=>?_⟩
 cases c with
 |true=>rw[gr H] at e;rw[gr H];exact⟨d,T,r,h,p,e,λw j o=>k w j<|o.pre q⟩
 |false=>rw[gD jD] at e;rw[gD jD];exact⟨d,T,r,h,p,e,λw j o=>k w j<|o.pre q⟩
end
inductive Out where
 |nx(δ:Dn)|rt(r:D×Bool)(δ:Dn)|bk(δ:Dn)|ct(δ:Dn)
abbrev FS:=Dn->Option Out
structure SK(A:iO)(σ:L2.St)(δ:Dn)(H:Hp)(σ':L2.St)(δ':Dn)(H':Hp):Prop where
 kp: ∀a o,H a=I8 o-> ¬OwnA σ δ a->H' a=I8 o
 owi: ∀i a,OwnI σ' δ' i a->OwnI σ δ i a\/H a=J4\/(A i/\ ∃j,A j/\OwnI σ δ j a)
 dm: ∀a,H a≠J4->H' a≠J4
 as: ∀i,¬A i->σ'[i]?=σ[i]?
structure FI(A L:iO)(H0:Hp)(σ:L2.St)(δ:Dn)(H:Hp):Prop where
 ow: ∀i a,OwnI σ δ i a->L i\/H0 a=J4
 dm: ∀a,H0 a≠J4->H a≠J4
 al: ∀j,A j-> ¬L j
def RV(K:gy)(T:AP')(f:Hp)(r:D×Bool)(c:L2.St)(b:Dn)(v:V)(e:Hp):Prop:=
 match r with
 |(d,J)=>ER K e T c b/\Rep K e (λa=>OwnA c b a\/T a) d v
 |(d,Y)=> ∃p,v= .ref p/\f p=C/\ER K e (λa=>T a\/a=p) c b/\OwnOk K e (λa=>OwnA c b a\/T a\/a=p) d p
section
variable {A:iO}{c b m:L2.St}{δ δ1 δ2:Dn}{H l g q:Hp}{L:iO}{K:gy}{T:AP'}
def SK.refl:SK A c δ H c δ H:=⟨λ_ _ e _=>e,λ_ _ z=> .inl z,λ_ z=>z,λ_ _=>rfl⟩
def SK.ow(k:SK A c δ H b δ1 g)(a:fV)(h:OwnA b δ1 a):OwnA c δ a\/H a=C:=by
 obtain⟨i,d,h1,o⟩:=h;rcases k.owi i a ⟨d,h1,o⟩ with⟨e,f,n⟩|z|⟨_,j,_,e,f,n⟩
 .exact .inl ⟨i,e,f,n⟩
 .exact .inr z
 .exact .inl ⟨j,e,f,n⟩
def SK.trans(x:SK A c δ H b δ1 g)(y:SK A b δ1 g m δ2 q):SK A c δ H m δ2 q where
 kp:=λa o e n=>y.kp a o (x.kp a o e n) λz=>(x.ow a z).elim n λz=>by rw[z] at e;cases e
 owi:=λi a z=>(y.owi i a z).elim (x.owi i a) λz=>z.elim (λz=> .inr (.inl (by
  cases h:H a with
  |none=>rfl
  |some o=>exact absurd z<|x.dm a<|by rw[h];simp))) λ⟨d,j,f,z⟩=>(x.owi j a z).elim (λz=> .inr (.inr ⟨d,j,f,z⟩)) λz=>z.elim (λz=> .inr (.inl z)) λ⟨_,k,ak,z⟩=> .inr (.inr ⟨d,k,ak,z⟩)
 dm:=λa z=>y.dm a<|x.dm a z
 as:=λi h=>(y.as i h).trans<|x.as i h
def Keep.sk(k:Keep c δ H δ1 g):SK A c δ H c δ1 g:=⟨k.kp,λi a z=> .inl (k.owi i a z),k.dm,λ_ _=>rfl⟩
def FI.step(f:FI A L l c δ H)(k:SK A c δ H b δ1 g):FI A L l b δ1 g where
 ow:=λi a z=>(k.owi i a z).elim (f.ow i a) λz=> .inr (z.elim (λz=>by
  cases h:l a with
  |none=>rfl
  |some o=>exact absurd z<|f.dm a<|by rw[h];simp) λU=>by obtain⟨_,j,d,z⟩:=U;exact (f.ow j a z).resolve_left<|f.al j d)
 dm:=λa z=>k.dm a<|f.dm a z
 al:=f.al
def FI.fresh(f:FI A L l c δ H)(a:H p=C):l p=C:=by
 cases h:l p with
 |none=>rfl
 |some o=>exact absurd a<|f.dm p (by rw[h];simp)
end
def tS(K:gy)(A L:iO)(h:Hp)(f:FS):TS:=λD e U=> ∃d T g,ER K U T e d/\FI A L h e d U/\f d=I g/\
 match g with
 | .nx b=> ∀a c,SK A e d U a b c->ER K c T a b->D.nx a c
 | .bk b=> ∀a c,SK A e d U a b c->ER K c T a b->D.bk a c
 | .ct b=> ∀a c,SK A e d U a b c->ER K c T a b->D.ct a c
 | .rt r b=> ∀v a c,SK A e d U a b c->RV K T h r a b v c->D.rt v c
def PSX(X:Cx)(A L:iO)(a:Hp)(st:cb)(f:FS):Prop:=PS X st<|tS X.K A L a f
def Cj(X:Cx)(A L:iO)(a:Hp)(st:List cb)(f:FS):Prop:=PSs X st<|tS X.K A L a f
noncomputable def gq:FS:=λδ=>I<|.nx δ
noncomputable def fZ(f g:FS):FS:=λδ=>(f δ).bind λo=>match o with
 | .nx δ1=>g δ1
 |o=>I o
noncomputable def jZ(f:F):FS:=λδ=>(f δ).bind λp=>I<|.nx p.2
noncomputable def ip(f:F):FS:=λδ=>(f δ).bind λp=>I<|.rt p.1 p.2
noncomputable def zQ:FS:=λδ=>I<|.rt (.non,J) δ
noncomputable def ma(i:Nat):FS:=λa=>match a[i]? with
 |some (I (d,Y))=>I<|.rt (d,Y)<|a.set i C
 |some (I (d,J))=>I<|.rt (d,J) a
 |_=>C
noncomputable def sIf(t:FT)(f g:FS):FS:=λδ=>(t δ).bind λp=>if p.1=Y then f p.2 else g p.2
noncomputable def iT(i:Nat)(f:F):FS:=λδ=>(f δ).bind λp=>if i<(Ls p.2) then I (.nx<|p.2.set i<|I p.1) else C
section
variable {X:Cx}{A L:iO}{i:Hp}{st:cb}{m:List cb}{f g:FS}{l:F}{n:FT}{e c:gm}{j:bB}
def PS.imp'(h:PS X st t)(k: ∀D b T,o D b T->t D b T):PS X st o:=λa s b T D U d=>h a s b T D U<|k D b T d
def PSs.imp'(h:PSs X m t)(k: ∀D b T,o D b T->t D b T):PSs X m o:=λa s b T D U d=>h a s b T D U<|k D b T d
def KG:Cj X A L i [] gq:=PSs.imp' NR λD d U a=>by obtain⟨o,T,b,E,h,e,k⟩:=a;cases e;exact k d U .refl E
def HE(h1:PSX X A L i st f)(x:Cj X A L i m g):Cj X A L i (st::m) (fZ f g):=PSs.imp' (KH h1 x) λD O Q z=>by
 obtain⟨B,T,t,E,u,e,k⟩:=z;obtain⟨o,y,e⟩:=fS e;refine⟨B,T,o,E,u,y,?_⟩
 cases o with
 |nx b=>
  intro N U s w;refine⟨b,T,t,w,u.step s,e,?_⟩
  cases t with
  |nx p=>exact λa d h q=>k a d (s.trans h) q
  |bk p=>exact λa d h q=>k a d (s.trans h) q
  |ct p=>exact λa d h q=>k a d (s.trans h) q
  |rt r p=>exact λv a d h R2=>k v a d (s.trans h) R2
 |rt r b=>cases e;exact k
 |bk b=>cases e;exact k
 |ct b=>cases e;exact k
def KA(h:PX X e l)(d:cE e C j.line X.env=pure J):PSX X A L i (.Expr e j) (jZ l):=PS.imp' (NT h d) λD s U o=>by obtain⟨r,T,q,E,t,e,k⟩:=o;obtain⟨p,b,e⟩:=fS e;cases e;exact⟨r,T,p.1,p.2,E,b,λv a P=>k s a P.1.sk (P.rep E).1⟩
def NP(h:PX X e l):PSX X A L i (.Return (I e) j) (ip l):=PS.imp' (KJ h) λD y U t=>by
 obtain⟨w,T,u,E,r,e,k⟩:=t;obtain⟨p,a,e⟩:=fS e;cases e;refine⟨w,T,p.1,p.2,E,a,λv b P=>k v y b P.1.sk ?_⟩;obtain⟨⟨d,o⟩,x⟩:=p
 cases o with
 |false=>exact P.2
 |true=>obtain⟨q,h1,s,a⟩:=P.2;exact⟨q,h1,r.fresh s,a⟩
def Kz:PSX X A L i (.Return C j) zQ:=PS.imp' NS λD d U a=>by obtain⟨o,T,b,E,h,e,k⟩:=a;cases e;exact k .non d U .refl ⟨E,Rep.mkNon⟩
def QU(G:PTX X c n)(O:Cj X A L i a f)(Q:Cj X A L i b g):PSX X A L i (.If c a b j) (sIf n f g):=PS.imp' (TX G O Q) λD x N M=>by
 obtain⟨z,T,s,E,U,e,k⟩:=M;obtain⟨⟨c,o⟩,h1,e⟩:=fS e;refine⟨z,T,c,o,E,h1,λy C B=>?_⟩;have w:SK A x z N x o y:=C.sk
 have fin: ∀(h:FS),h o=I s->tS X.K A L i h D x y:=λh J=>by
  refine⟨o,T,s,B,U.step w,J,?_⟩
  cases s with
  |nx t=>exact λd p q u=>k d p (w.trans q) u
  |bk t=>exact λd p q u=>k d p (w.trans q) u
  |ct t=>exact λd p q u=>k d p (w.trans q) u
  |rt r t=>exact λv d p q R2=>k v d p (w.trans q) R2
 cases c with
 |true=>rw[gr H] at e;exact(show(if Y=Y then tS X.K A L i f D x y else _) from by rw[gr H];exact fin f e)
 |false=>rw[gD jD] at e;exact(show(if K2=Y then _ else tS X.K A L i g D x y) from by rw[gD jD];exact fin g e)
end
def kH{b:Type}{l:List b}{i j:Nat}{x y:b}(h:(l.set i x)[j]?=I y):(i=j/\i<Ls l/\y=x)\/(i≠j/\l[j]?=I y):=by
 rw[A9] at h;split at h
 .rename_i a;split at h
  .rename_i c;exact .inl ⟨a,c,(jn h).symm⟩
  .cases h
 .rename_i a;exact .inr ⟨a,h⟩
section
variable {K:gy}{T:AP'}{f:L2.St}{l c:Dn}{H g:Hp}{x:D×Bool}{v:V}{i:Nat}
def OwnI.store{j:Nat}{a:fV}(h:OwnI (f.set i<|I v) (l.set i<|I x) j a):(i≠j/\OwnI f l j a)\/(i=j/\x.2=Y/\v= .ref a):=by
 obtain⟨d,h1,m⟩:=h;rcases kH h1 with⟨e,_,q⟩|⟨ne,q⟩
 .rcases kH m with⟨_,_,k⟩|⟨b,_⟩
  .right;cases q;exact⟨e,rfl,(jn k).symm⟩
  .exact absurd e b
 .rcases kH m with⟨n,_,_⟩|⟨_,k⟩
  .exact absurd n ne
  .exact .inl ⟨ne,d,q,k⟩
def OwnA.store(h:OwnA (f.set i<|I v) (l.set i<|I x) a):OwnA f l a\/(x.2=Y/\v= .ref a):=by
 obtain⟨j,d,h1,k⟩:=h;rcases OwnI.store ⟨d,h1,k⟩ with⟨_,e,b,m⟩|⟨_,b⟩
 .exact .inl ⟨j,e,b,m⟩
 .exact .inr b
def ER.store(h:ER K g (Tmp T x v) f c)(E:i<Ls c)(u:match x with|(d,J)=>Rep K g (λa=>OwnA f c a\/T a) d v|(d,Y)=> ∃p,v= .ref p/\ ¬T p/\OwnOk K g (λa=>OwnA f c a\/T a\/a=p) d p):
  ER K g T (f.set i<|I v) (c.set i<|I x):=by
 have r:i<(Ls f):=by rw[h.len];exact E
 have sub: ∀b,g b≠C->(OwnA (f.set i<|I v) (c.set i<|I x) b\/T b)->(OwnA f c b\/Tmp T x v b):=λb _ z=>by
  rcases z with z|z
  .rcases z.store with z|z
   .exact .inl z
   .exact .inr (.inr z)
  .exact .inr (.inl z)
 refine⟨by rw[ux,ux];exact h.len,λj d o=>?_,λj d o=>?_,λj k d e a o hk h1 n=>?_,λa z=>?_,λa z=>h.dom a<|.inl z⟩
 .rcases kH o with⟨rfl,_,q⟩|⟨ne,q⟩
  .have q:=jn q;subst q
   exact⟨v,uy r,Rep.mono (λ_ _ e _=>e) (λb Q z=>by
    rcases z with z|z
    .rcases z.store with z|z
     .exact .inl z
     .exact absurd z.1 (by simp)
    .exact .inr z) u⟩
  .obtain⟨w,h1,n⟩:=h.val j d q;exact⟨w,by rw[sh ne];exact h1,Rep.mono (λ_ _ e _=>e) sub n⟩
 .rcases kH o with⟨rfl,_,q⟩|⟨ne,q⟩
  .have q:=jn q;subst q;obtain⟨p,rfl,np,ok⟩:=u;refine⟨p,uy r,ok.mono (λ_ _ e _=>e) (λb Q z=>?_) λ_ e=>e⟩;rcases z with z|z
   .rcases z.store with z|z
    .exact .inl z
    .have:=z.2;cases this;exact .inr<|.inr K3
   .exact .inr (.inl z)
  .obtain⟨a,h1,n⟩:=h.own j d q;exact⟨a,by rw[sh ne];exact h1,n.mono (λ_ _ e _=>e) sub λ_ e=>e⟩
 .rcases OwnI.store ⟨d,o,h1⟩ with⟨L,y,g1,g2⟩|⟨B,g1,g2⟩
  .rcases OwnI.store ⟨e,hk,n⟩ with⟨U,s,g3,m⟩|⟨A,g3,m⟩
   .exact h.inj j k y s a g1 g3 g2 m
   .exact absurd (bv ⟨g3,m⟩) (h.nT a ⟨j,y,g1,g2⟩)
  .rcases OwnI.store ⟨e,hk,n⟩ with⟨U,s,g3,m⟩|⟨A,g3,m⟩
   .exact absurd (bv ⟨g1,g2⟩) (h.nT a ⟨k,s,g3,m⟩)
   .exact B.symm.trans A
 .rcases z.store with z|z
  .exact λt=>h.nT a z<|.inl t
  .obtain⟨d,b⟩:=x
   cases b with
   |false=>exact absurd z.1 (by simp)
   |true=>obtain⟨p,rfl,np,_⟩:=u;have:=z.2;cases this;exact np
def SK.store(k:Keep f l H c g)(b:A i)(h:x.2=Y-> ∀p,v= .ref p->H p=C):SK A f l H (f.set i<|I v) (c.set i<|I x) g where
 kp:=k.kp
 owi:=λj a z=>by
  rcases z.store with⟨_,z⟩|⟨_,m,n⟩
  .exact .inl (k.owi j a z)
  .exact .inr (.inl<|h m a n)
 dm:=k.dm
 as:=λj d=>sh λ(e:i=j)=>d (by subst e;exact b)
end
section
variable {X:Cx}{A L:iO}{m:Hp}{l:F}{e c:gm}{g f:bB}
def yn{K:gy}{T:AP'}{b:L2.St}{n a:Dn}{U j:Hp}{r:D×Bool}{v:V}{i:Nat}(E:ER K U T b n)(P:Post K T b n U r a v j)(u:i<Ls a)(t:A i):
  SK A b n U (b.set i<|I v) (a.set i<|I r) j/\ER K j T (b.set i<|I v) (a.set i<|I r):=by
 have w:r.2=Y-> ∀p,v= .ref p->U p=C:=λh p hv=>by
  obtain⟨d,o⟩:=r
  cases o with
  |false=>cases h
  |true=>obtain⟨q,h1,k,_⟩:=P.2;rw[hv] at h1;cases h1;exact k
 refine⟨SK.store P.1 t w,ER.store (P.er E) u ?_⟩;obtain⟨d,o⟩:=r
 cases o with
 |false=>exact P.2.2
 |true=>obtain⟨p,rfl,k,x,s⟩:=P.2;exact⟨p,rfl,λz=>(E.dom p z).ne k,s⟩
def NO{i:Nat}{x:aO}(n:X.N.Nodup)(a:X.N[i]?=I x)(u:Loc X.env.scope x)(p:PX X e l)(s:cE e (I<|.Name x f) g.line X.env=pure J)(q:X.fn x=Y\/X.env.scope.names.lookup x=I .local)(o:A i):
  PSX X A L m (.Assign [.Name x f] e g) (iT i l):=PS.imp' (QV n a u p s q) λD B U t=>by
 obtain⟨y,T,w,E,z,e,k⟩:=t;obtain⟨⟨r,b⟩,j,e⟩:=fS e;obtain⟨a,rfl⟩:=gP e;refine⟨y,T,r,b,E,j,λv d P=>?_⟩;obtain⟨h1,h⟩:=yn (A:=A) E P a o;exact k _ d h1 h
def EK{i:Nat}{x:aO}(Y:X.N[i]?=I8 x)(hv:Vis X.env.scope x)(hd:(x==("__debug__":aO))=K2)(p5:(x==("__classdict__":aO))=K2)(hl: ¬L i):PSX X A L m (.Return (I8<|.Name x f) g) (ma i):=PS.imp' (KJ<|ET Y hv hd p5) λD u H K=>by
 obtain⟨s,T,P,E,U,e,k⟩:=K;unfold ma at e
 cases o:s[i]? with
 |none=>rw[o] at e;cases e
 |some q=>
  cases q with
  |none=>rw[o] at e;cases e
  |some p=>
   obtain⟨d,b⟩:=p;have F:i<(Ls s):=(qc.mp o).1
   cases b with
   |false=>rw[o] at e;cases e;obtain⟨v,h1,C⟩:=E.val i d o;exact⟨v,h1,k v u H .refl ⟨E,C⟩⟩
   |true=>
    rw[o] at e;cases e;obtain⟨a,h1,C⟩:=E.own i d o
    have h: ∀j b,OwnI u (s.set i J4) j b->i≠j/\OwnI u s j b:=λj b a'=>by
     obtain⟨r,g1,g2⟩:=a'
     rcases kH g1 with⟨_,_,q⟩|⟨ne,q⟩
     .cases q
     .exact⟨ne,r,q,g2⟩
    have n: ∀b,OwnA u (s.set i J4) b->OwnA u s b/\b≠a:=λb a'=>by
     obtain⟨j,r,g1,g2⟩:=a'
     obtain⟨ne,B,g3,Q⟩:=h j b ⟨r,g1,g2⟩;exact⟨⟨j,B,g3,Q⟩,λz=>ne<|by subst z;exact E.inj i j d B _ o g3 h1 Q⟩
    have G:OwnA u s a:=⟨i,d,o,h1⟩
    have sub: ∀b,H b≠J4->(OwnA u (s.set i J4) b\/(T b\/b=a))->(OwnA u s b\/T b):=λb _ z=>by
     rcases z with z|z|z
     .exact .inl (n b z).1
     .exact .inr z
     .subst z;exact .inl G
    refine⟨.ref a,h1,k (.ref a) u H ⟨λ_ _ e _=>e,λj b z=> .inl (h j b z).2,λ_ z=>z,λ_ _=>rfl⟩ ⟨a,rfl,?_,?_,C.mono (λ_ _ e _=>e) sub λ_ e=>e⟩⟩
    .rcases U.ow i a ⟨d,o,h1⟩ with z|z
     .exact absurd z hl
     .exact z
    .refine⟨by rw[ux];exact E.len,λj r y=>?_,λj r y=>?_,λj k r M b y hk g1 g2=>?_,λb z t=>?_,λb z=>?_⟩
     .rcases kH y with⟨_,_,q⟩|⟨ne,q⟩
      .cases q
      .obtain⟨w,I,O⟩:=E.val j r q;exact⟨w,I,Rep.mono (λ_ _ e _=>e) sub O⟩
     .rcases kH y with⟨_,_,q⟩|⟨ne,q⟩
      .cases q
      .obtain⟨w,I,O⟩:=E.own j r q;exact⟨w,I,O.mono (λ_ _ e _=>e) sub λ_ e=>e⟩
     .obtain⟨_,B,R,S⟩:=h j b ⟨r,y,g1⟩;obtain⟨_,J,V,W⟩:=h k b ⟨M,hk,g2⟩;exact E.inj j k B J b R V S W
     .obtain⟨Z,z2⟩:=n b z;rcases t with t|t
      .exact E.nT b Z t
      .exact z2 t
     .rcases z with z|z
      .exact E.dom b z
      .subst z;exact E.ownOw G
end
abbrev Tg:=D->Dn->Option Dn
def tG(K:gy)(A:iO)(g:Tg):TG:=λv f U Q=> ∃e T d b,ER K U T f e/\Rep K U (λa=>OwnA f e a\/T a) d v/\g d e=I b/\ ∀c,SK A f e U c b U->ER K U T c b->Q c U
def PGX(X:Cx)(A:iO)(e:gm)(a:Tg):Prop:=PG X e<|tG X.K A a
noncomputable def fW(i:Nat):Tg:=λd δ=>if i<(Ls δ) then I (δ.set i<|I (d,J)) else C
noncomputable def F4:List Tg->List D->Dn->Option Dn
 |[],[],a=>I a
 |t::b,d::ds,a=>(t d a).bind<|F4 b ds
 |_,_,_=>C
noncomputable def jv(a:List Tg):Tg
 | .tup ds,δ=>F4 a ds δ
 |_,_=>C
def tGs(K:gy)(A:iO)(g:List Tg):TGs:=λh e U Q=> ∃d T f b,ER K U T e d/\RepL K U (λa=>OwnA e d a\/T a) f h/\F4 g f d=I b/\ ∀c,SK A e d U c b U->ER K U T c b->Q c U
section
variable {X:Cx}{A:iO}{g:bB}{e:gm}{f:jg}{t:Tg}{c:List Tg}
def PG.imp'{t d:TG}(h:PG X e t)(k: ∀v b T Q,d v b T Q->t v b T Q):PG X e d:=λa s b T v u Q U r i=>h a s b T v u Q U r<|k v b T Q i
def PGs.imp'{t d:TGs}(h:PGs X f t)(k: ∀v b T Q,d v b T Q->t v b T Q):PGs X f d:=λa s b T v u Q U r i=>h a s b T v u Q U r<|k v b T Q i
def K7{i:Nat}{x:aO}(h:X.N.Nodup)(a:X.N[i]?=I x)(n:Loc X.env.scope x)(l:X.fn x=Y\/X.env.scope.names.lookup x=I .local)(j:A i):PGX X A (.Name x g) (fW i):=PG.imp' (Gi h a n l) λv q U Q m=>by obtain⟨p,T,d,o,E,r,e,k⟩:=m;obtain⟨a,rfl⟩:=gP e;obtain⟨h1,b⟩:=yn (A:=A) (r:=(d,J)) (v:=v) E (Post.val .refl E r) a j;exact k _ h1 b
def CK:PGs X [] (tGs X.K A []):=PGs.imp' NZ λv h U Q b=>by
 obtain⟨i,T,a,d,E,r,e,k⟩:=b
 cases a with
 |nil=>
  cases e;rw[RepL] at r;exact⟨r,k h .refl E⟩
 |cons _ _=>cases e
def oJ(h1:PGX X A e t)(p:PGs X f (tGs X.K A c))(u:(av (e::f) X.env).map (·.2)=bz e X.env::(av f X.env).map (·.2)):PGs X (e::f) (tGs X.K A (t::c)):=PGs.imp' (K8 h1 p u) λv O N Q w=>by
 obtain⟨U,T,h,i,E,r,e,k⟩:=w
 cases h with
 |nil=>cases e
 |cons d h=>rw[RepL] at r;obtain⟨B,M,rfl,x,y⟩:=r;obtain⟨a,q,e⟩:=fS e;refine⟨B,M,rfl,U,T,d,a,E,x,q,λL l m=>⟨a,T,h,i,m,?_,e,λj o n=>k j (l.trans o) n⟩⟩;exact RepL.mono (λ_ _ e _=>e) (λb s z=>z.elim (λz=>(l.ow b z).elim bj λz=>absurd z s) bv) y
def Gh{k:Nat}(o:X.calm=Y)(h:PGs X f (tGs X.K A c)){n:Nat}(s:(av f X.env).length=n)(p:c.length=n)(x:(av f X.env).findIdx? (·.1)=C):PGX X A (.Tuple f k g) (jv c):=PG.imp' (Q3 o h s x) λv z U Q u=>by
 obtain⟨i,T,d,j,E,r,e,k⟩:=u
 cases d with
 |tup b=>
  obtain⟨a,y,rfl,q,m⟩:=r.tup;refine⟨a,y,rfl,q.sq,?_,i,T,b,j,E,m,e,k⟩
  have: ∀(c:List Tg) (b:List D) (i:Dn),F4 c b i=I j->b.length=c.length:=by
   intro c
   induction c with
   |nil=>intro b i h;cases b with|nil=>rfl|cons _ _=>cases h
   |cons t c w=>
    intro b i h
    cases b with
    |nil=>cases h
    |cons d b=>obtain⟨l,_,h⟩:=fS h;simp[w b l h]
  rw[m.length,this c b i e,p]
 |_=>cases e
end
abbrev SB:=Nat->Prop
def OwB(B:SB)(T:AP')(c:L2.St)(b:Dn):AP':=λa=>(∃i,¬B i/\OwnI c b i a)\/T a
def OwB.own(h:OwB B T σ δ a):OwnA σ δ a\/T a:=h.imp (λU=>by obtain⟨i,_,d,h1,b⟩:=U;exact ⟨i,d,h1,b⟩) id
structure ItOk(K:gy)(J:It)(ds:List D)(P O:AP')(H1:Hp):Prop where
 go: ∀(i:Nat) d Hi,ds[i]?=I8 d->(∀a o,H1 a=I8 o-> ¬P a->Hi a=I8 o)->J.go i Hi/\ ∀x H',J.yld i Hi x H'->(∀a o,Hi a=I8 o->H' a=I8 o)/\
  ∀O':AP',(∀b,H1 b≠J4->O' b->O b)->(∀b,Hi b=J4-> ¬O' b)->Rep K H' O' d x
 stop: ∀(i:Nat) Hi,Ls ds<=i->(∀a o,H1 a=I8 o-> ¬P a->Hi a=I8 o)->J.stop i Hi
abbrev FIt:=Dn->Option (List D×Dn)
def tI(K:gy)(B:SB)(g:FIt):TI:=λc U R=> ∃e T f b,ER K U T c e/\g e=I (f,b)/\ ∀Q d,Keep c e U b d->ER K d T c b->ItOk K Q f (OwB B T c b) (λa=>OwnA c b a\/T a) d->R Q d
def PIX(X:Cx)(B:SB)(tg iter:gm)(a:FIt):Prop:=PI X tg iter<|tI X.K B a
noncomputable def pK:D->Option (List D)
 | .tup l=>I l
 | .lst l=>I l
 |_=>C
noncomputable def Fd(f:FO):FIt:=λa=>(f a).bind λp=>(res p.2 p.1).bind λd=>(pK d).bind λl=>I (l,p.2)
noncomputable def gw(f:F):FIt:=λδ=>(f δ).bind λp=>match p.1.1 with
 | .lst l=>I (l,p.2)
 | .tup l=>I (l,p.2)
 |_=>C
noncomputable def ig(lo:Int)(n:Nat):List D:=(ai n).map λ(k:Nat)=> .int (lo+k)
noncomputable def uT(f:FO):FIt:=λδ=>(jk [f] δ).bind λp=>match tN p.2 p.1 with
 |some [.int j]=>if -(2^62)<=j/\j<2^62 then I (ig 0 j.toNat,p.2) else C
 |_=>C
def SlB(B:SB)(f:FO):Prop:= ∀b i a,f b=I (.slot i,a)->B i
def Bt:SlB B (fQ f):=λb i a h=>by obtain⟨p,_,h⟩:=fS h;cases h
noncomputable def isL:D->Bool
 | .lst _=>Y
 |_=>J
def SqA(b:Bool)(K:gy)(U:Hp)(P:AP')(a:fV)(c:List V):Prop:=if b=Y then SqLO K U P a c else SqTO K U P a c
def SqA.mono{K U H'}{P P':AP'}(q:SqA b K U P a xs)(k: ∀b o,U b=I o-> ¬P b->H' b=I o)(c: ∀b,P' b->P b):SqA b K H' P' a xs:=by
 cases b with
 |true=>exact SqLO.mono q k λb _=>c b
 |false=>exact SqTO.mono (K:=K) q k λb _=>c b
def SqA.l{K U}(q:SqA Y K U P a xs):SqL K U a xs:=SqLO.sq q
def SqA.t{K U}(q:SqA J K U P a xs):SqT K U a xs:=SqTO.sq (K:=K) q
def zP{K U}(h:pK d=I l)(r:Rep K U O d v): ∃a b,v= .ref a/\SqA (isL d) K U O a b/\RepL K U O l b:=by
 cases d with
 |tup m=>cases h;obtain⟨a,b,rfl,q,c⟩:=r.tup;exact⟨a,b,rfl,q,c⟩
 |lst m=>cases h;obtain⟨a,b,rfl,q,c⟩:=r.lst;exact⟨a,b,rfl,q,c⟩
 |_=>cases h
def Ops.seq{K:gy}{T M:AP'}{h:L2.St}{A c:Dn}{N n:Hp}{os:List Opd}{y:List V}(E:ER K N T h A)(W:Ops K T h A N os y c n M){j:Nat}(h1:os[j]?=I o)(x:y[j]?=I v)(s:res c o=I d)(t:pK d=I l)(L: ∀i,o= .slot i->B i):
  ∃a g,v= .ref a/\SqA (isL d) K n (OwB B T h c) a g/\RepL K n (λa=>OwnA h c a\/T a) l g:=by
 have fin:Rep K n (λa=>OwnA h c a\/T a) d v-> ∃a g,v= .ref a/\SqA (isL d) K n (OwB B T h c) a g/\RepL K n (λa=>OwnA h c a\/T a) l g:=λr=>by obtain⟨a,g,rfl,q,u⟩:=zP t r;exact⟨a,g,rfl,q.mono (λ_ _ e _=>e) λa z=>z.own,u⟩
 cases o with
 |val r=>cases s;exact fin<|W.rep E h1 x
 |slot i=>
  have hk:=W.slt j i _ h1 x
  have hd: ∃f,c[i]?=I (I (d,f)):=by
   unfold res at s;dsimp only at s;split at s<;>cases s
   exact⟨_,by assumption⟩
  obtain⟨f,hd⟩:=hd
  cases f with
  |false=>obtain⟨w,p,U⟩:=W.er.val i _ hd;rw[hk] at p;cases p;exact fin<|Rep.mono (λ_ _ e _=>e) (λb _ z=>z.imp id<|W.tt b) U
  |true=>
   obtain⟨a,p,ok⟩:=W.er.own i _ hd;rw[hk] at p;cases p
   cases d with
   |lst m=>
    cases t;obtain⟨g,e,u⟩:=ok;exact⟨a,g,rfl,.inl ⟨.inl e,λz=>z.elim (λG=>by obtain⟨k,O,Q,g1,g2⟩:=G;exact O<|W.er.inj i k _ _ a hd g1 hk g2▸L i H) λz=>W.er.nT a ⟨i,_,hd,hk⟩<|W.tt a z⟩,RepL.mono (λ_ _ e _=>e) (λb _ z=>z.imp id<|W.tt b) u⟩
   |tup m=>exact ok.elim
   |_=>cases t
section
variable {X:Cx}{B:SB}{tg e:gm}{f:F}{c:FO}{g p:bB}
def PI.imp'(h:PI X tg e t)(k: ∀b T R,i b T R->t b T R):PI X tg e i:=λa s b T R U d=>h a s b T R U<|k b T R d
def PI.or(h:PI X tg e t)(d:PI X tg e j):PI X tg e (λb T R=>t b T R\/j b T R):=λa s b T R U i=>i.elim (h a s b T R U)<|d a s b T R U
noncomputable def ItS(b:Bool)(K:gy)(a:fV):It:=if b=Y then Itl K a else Itt K a
def L3{K:gy}{P O:AP'}{m:Hp}{a:fV}{k:List V}{l:List D}(q:SqA b K m P a k)(r:RepL K m O l k)(v: ∀a,P a->O a):ItOk K (ItS b K a) l P O m:=by
 cases b<;>(
  refine⟨λi d Hi hd j=>?_,λi Hi w j=>?_⟩
  .have h:=SqA.mono q j λ_ z=>z
   first|replace h:=h.l|replace h:=h.t
   obtain⟨x,u,A⟩:=r.get hd;refine⟨⟨k,x,h,u⟩,λy T s=>?_⟩;obtain⟨rfl,s⟩:=s;have:=s k h;rw[u] at this;cases this;exact⟨λ_ _ e=>e,λE h1 U=>Rep.mono (λb o e n=>j b o e λz=>n<|v b z) h1 A⟩
  .exact⟨k,by first|exact(SqA.mono q j λ_ z=>z).l|exact(SqA.mono q j λ_ z=>z).t,by rw[r.length];exact w⟩)
def yJ{K:gy}{P O:AP'}{b:Hp}(lo:Int)(n:Nat):ItOk K (Itr lo n) (ig lo n) P O b:=by
 refine⟨λi d Hi hd j=>?_,λi Hi a j=>?_⟩
 .unfold ig at hd;rw[iW] at hd;obtain⟨k,h1,h⟩:=iq hd;have a:i<n:=by have:=(qc.mp h1).1;simpa using this
  have hk:k=i:=by rw[Jw a] at h1;exact(jn h1).symm
  subst hk;refine⟨a,λy m l=>?_⟩;obtain⟨rfl,rfl⟩:=l;refine⟨λ_ _ e=>e,λo _ _=>?_⟩;rw[<-h];exact Rep.mkInt
 .unfold ig at a;have:n<=i:=by simpa using a
  exact this
def KW(h:PO X e c)(U:SlB B c):PIX X B tg e (Fd c):=PI.imp' (PI.or (NY (tg:=tg) h)<|Q2 h) λA N R O=>by
 obtain⟨x,T,J,G,E,e,k⟩:=O;obtain⟨⟨o,w⟩,h1,e⟩:=fS e;obtain⟨d,M,e⟩:=fS e;obtain⟨l,y,e⟩:=fS e;obtain⟨rfl,rfl⟩:=gA e
 have u: ∀v n,PostO X.K T A x N o w v n-> ∃a s,v= .ref a/\SqA (isL d) X.K n (OwB B T A w) a s/\R (ItS (isL d) X.K a) n:=λv n P=>by have W:=Ops.cons E P<|Ops.nil<|P.er E;obtain⟨a,s,rfl,q,Q⟩:=W.seq E (j:=0) H H M y λi L=>U _ _ _ (L▸h1);exact⟨a,s,rfl,q,k _ n W.keep (W.er.mono (λ_ _ e _=>e) (λb _ z=>W.tt b z) λa z=>W.er.dom a<|W.tt a z) (L3 q Q λa z=>z.own)⟩
 cases d with
 |lst m=>exact .inl ⟨x,T,_,_,E,h1,λv n P=>let⟨a,s,e,q,r⟩:=u v n P;⟨a,e,⟨s,q.l⟩,r⟩⟩
 |tup m=>exact .inr ⟨x,T,_,_,E,h1,λv n P=>let⟨a,s,e,q,r⟩:=u v n P;⟨a,e,⟨s,q.t⟩,r⟩⟩
 |_=>cases y
def NV(h:PX X e f):PIX X B tg e (gw f):=PI.imp' (KW (B:=B) (PX.po h) Bt) λj U R a=>by
 have:gw f=Fd (fQ f):=funext λb=>by
  unfold gw Fd fQ
  cases f b with
  |none=>rfl
  |some p=>obtain⟨⟨d,o⟩,i⟩:=p;cases d<;>rfl
 rwa [this] at a
end
noncomputable def pT(tg:Tg)(fb:FS):List D->FS
 |[],δ=>I<|.nx δ
 |d::ds,δ=>(tg d δ).bind λb=>(fb b).bind λo=>match o with
  | .nx a=>pT tg fb ds a
  | .ct a=>pT tg fb ds a
  | .bk a=>I<|.nx a
  | .rt r a=>I<|.rt r a
noncomputable def rL(a:FIt)(tg:Tg)(fb:FS):FS:=λδ=>(a δ).bind λp=>pT tg fb p.1 p.2
section
variable {X:Cx}{A L:iO}{l:Hp}{g iter:gm}{c:List cb}{j:FIt}{t:Tg}{f:FS}{h:bB}
def NQ(hp:d6 (ah X.prog X.w) X.A X.env X.xe)(hc:X.calm=KE)(hi:PIX X (λ_=>False) g iter j)(hg:PGX X A g t)(G:Cj X A L l c f)(hs: ∀x,au iter X.env x=pure x):
  PSX X A L l (.For g iter c [] h) (rL j t f):=PS.imp' (QY hp hc hi hg G hs) λD M H hw=>by
 obtain⟨δ,T,R,E,fB,e,k⟩:=hw;obtain⟨⟨u,q⟩,h1,e⟩:=fS e;refine⟨δ,T,u,q,E,h1,λJ Y K1 E1 ok=>?_⟩;have V:SK A M δ H M q Y:=K1.sk;refine⟨λi m s C'=>m=Ls u-i/\i<=Ls u/\ ∃p,SK A M q Y s p C'/\ER X.K C' T s p/\pT t f (u.drop i) p=I R,⟨Ls u,by simp,kx _,q,.refl,E1,by simpa using e⟩,?_⟩;rintro i m O H2 ⟨rfl,hle,I',S2,N,e2⟩;have ae: ∀a o,Y a=I o-> ¬OwB (λ_=>False) T M q a->H2 a=I o:=λa o ea n=>S2.kp a o ea λ⟨i,d,z⟩=>n<|.inl ⟨i,id,d,z⟩;by_cases Z:i<Ls u
 .refine .inr ?_;have hd:u[i]?=I u[i]:=gY Z;obtain⟨go,yl⟩:=ok.go i _ H2 hd ae;rw[vL Z] at e2;obtain⟨S,h3,e3⟩:=fS e2;obtain⟨o,h4,W⟩:=fS e3;refine⟨go,λs C'=> ∃p,SK A M q Y s p C'/\ER X.K C' T s p/\pT t f (u.drop<|i+1) p=I R,λs C' ⟨p,q1,q2,q3⟩=>⟨Ls u-(i+1),by omega,rfl,Z,p,q1,q2,q3⟩,λx C' hy=>?_⟩;obtain⟨ext,rep⟩:=yl x C' hy;have dJ:ER X.K C' T O I':=N.mono (λb ob eb _=>ext b ob eb) (λ_ _ z=>z) λa z=>(N.dom a z).up<|ext a;have fJ:SK A M q Y O I' C':=S2.trans (Keep.ext ext).sk;have rx:=rep (λa=>OwnA O I' a\/T a) (λb G z=>z.elim (λz=>(S2.ow b z).elim bj λz=>absurd z G) bv) λb G z=>z.elim (λz=>N.ownDom z G) λz=>(N.dom b z).ne G;refine⟨I',T,u[i],S,dJ,rx,h3,λσ3 S3 E3=>?_⟩;have P:=fJ.trans S3;refine⟨S,T,o,E3,(fB.step V).step P,h4,?_⟩
  cases o with
  |nx y=>exact λB F Q U=>⟨y,P.trans Q,U,W⟩
  |ct y=>exact λB F Q U=>⟨y,P.trans Q,U,W⟩
  |bk y=>cases W;exact λB F Q U=>k B F (V.trans<|P.trans Q) U
  |rt r y=>cases W;exact λv B F Q R4=>k v B F (V.trans<|P.trans Q) R4
 .refine .inl ⟨ok.stop i H2 (by omega) ae,?_⟩;rw[yb<|by omega] at e2;cases e2;exact k O H2 (V.trans S2) N
end
noncomputable def lU(b:FT)(a:FS):Nat->FS
 |0,_=>C
 |n+1,c=>(b c).bind λp=>if p.1=Y then(a p.2).bind λo=>(match o with
   | .nx δ2=>lU b a n δ2
   | .ct δ2=>lU b a n δ2
   | .bk δ2=>I<|.nx δ2
   | .rt r δ2=>I<|.rt r δ2) else I (.nx p.2)
noncomputable def zt(f g:FO):FIt:=λδ=>(jk [f,g] δ).bind λp=>match tN p.2 p.1 with
 |some [.int i,.int j]=>if -(2^62)<=i/\i<2^62/\ -(2^62)<=j/\j<2^62 then I (ig i (j-i).toNat,p.2) else C
 |_=>C
section
variable {X:Cx}{A L:iO}{C:Hp}{B:SB}{t e c a b:gm}{d:List cb}{g:FT}{l:FS}{s u:FO}{f p:bB}
def HB{n:Nat}(hp:d6 (ah X.prog X.w) X.A X.env X.xe)(hc:PTX X c g)(hb:Cj X A L C d l):PSX X A L C (.While c d [] f) (lU g l n):=PS.imp' (KI hp hc hb) λD F H hw=>by
 obtain⟨Y,T,J,E,Z,e,k⟩:=hw;refine⟨λm i I=> ∃h,SK A F Y H i h I/\ER X.K I T i h/\lU g l m h=I8 J,⟨n,Y,.refl,E,e⟩,?_⟩;rintro m M H2 ⟨δ2,S2,E2,e2⟩
 cases m with
 |zero=>cases e2
 |succ m=>
  obtain⟨⟨S,z⟩,h3,N⟩:=fS e2;refine⟨δ2,T,S,z,E2,h3,λR V P=>?_⟩;have O:SK A F Y H M z R:=S2.trans V.sk
  cases S with
  |false=>rw[gD jD] at N;cases N;exact Up<|k M R O P
  |true=>
   rw[gr K3] at N;obtain⟨o,h4,U⟩:=fS N;refine Uo ⟨λi I=> ∃h,SK A F Y H i h I/\ER X.K I T i h/\lU g l m h=I8 J,λi I q=>⟨m,uu _,q⟩,z,T,o,P,Z.step O,h4,?_⟩
   cases o with
   |nx j=>exact λx G y Q=>⟨j,O.trans y,Q,U⟩
   |ct j=>exact λx G y Q=>⟨j,O.trans y,Q,U⟩
   |bk j=>cases U;exact λx G y Q=>k x G (O.trans y) Q
   |rt r j=>cases U;exact λv x G y W=>k v x G (O.trans y) W
def qU{K:gy}{T v:AP'}{E:L2.St}{z m:Dn}{U r:Hp}{os:List Opd}{k:List V}{n:List D}(B:Ops K T E z U os k m r v)(h:tN m os=I n){j:Nat}{i:Int}(hd:n[j]?=I (.int i)):k[j]?=I (.int i):=by
 obtain⟨h1,w⟩:=nA h;obtain⟨o,q,x⟩:=w j _ hd;have y:j<(Ls k):=by have:=(qc.mp q).1;have:=B.len;lia
 have hv:k[j]?=I k[j]:=gY y;have:=gO<|B.view q hv x;rw[hv,this]
def ES(y:Gl X "range")(O:X.mg "range"=J4)(x:PA X [a] (tA X.K [s]))(Q:aa [a] X.env=[(K2,aK a X.env)]):PIX X B t (.Call (.Name "range" p) [a] [] f) (uT s):=PI.imp' (HL y O x Q) λY H R G=>by
 obtain⟨J,T,U,M,E,e,k⟩:=G;obtain⟨⟨os,i⟩,h1,e⟩:=fS e;refine⟨J,T,os,i,E,h1,λn o N B=>?_⟩;dsimp only at e;split at e
 .rename_i j m;obtain⟨⟨q,w⟩,e⟩:=gP e;obtain⟨rfl,rfl⟩:=qj e;have hv:=qU B m (j:=0) K3;obtain⟨I,_⟩:=nA m
  have:n=[.int j]:=by
   have h:=B.len
   cases n with
   |nil=>simp at hv
   |cons v r=>
    cases r with
    |nil=>simp at hv;rw[hv]
    |cons _ _=>simp at I h;lia
  exact⟨j,this,q,w,k _ o B.keep (B.er.mono (λ_ _ e _=>e) (λb _ z=>B.tt b z) λa z=>B.er.dom a<|B.tt a z) (yJ 0 j.toNat)⟩
 .cases e
def EO(O:Gl X "range")(G:X.mg "range"=J4)(I:PA X [a,b] (tA X.K [s,u]))(J:aa [a,b] X.env=[(K2,aK a X.env),(K2,aK b X.env)])(N:aa [b] X.env=[(K2,aK b X.env)]):PIX X B t (.Call (.Name "range" p) [a,b] [] f) (zt s u):=PI.imp' (HK O G I J N) λP H R M=>by
 obtain⟨U,T,F,Y,E,e,k⟩:=M;obtain⟨⟨os,o⟩,h1,e⟩:=fS e;refine⟨U,T,os,o,E,h1,λq v D B=>?_⟩;dsimp only at e;split at e
 .rename_i i j n;obtain⟨w,e⟩:=gP e;obtain⟨rfl,rfl⟩:=qj e;have hv:=qU B n (j:=0) K3;have m:=qU B n (j:=1) K3;obtain⟨Q,_⟩:=nA n
  have:q=[.int i,.int j]:=by
   have h:=B.len
   match q,hv,m with
   |[x,y],hv,m=>simp at hv m;rw[hv,m]
   |x::y::z::r,_,_=>simp at Q h;lia
  exact⟨i,j,this,w,k _ v B.keep (B.er.mono (λ_ _ e _=>e) (λb _ z=>B.tt b z) λa z=>B.er.dom a<|B.tt a z) (yJ i (j-i).toNat)⟩
 .cases e
end
abbrev EvF:=List (D×Bool)->Option ((D×Bool)×Dn)
def spF(K:gy)(e:EvF):Sp:=λd U Q _=> ∃T a r b,ER K U T (d.map I) (a.map I)/\e a=I (r,b)/\ ∀v c,Post K T (d.map I) (a.map I) U r b v c->Q v c
noncomputable def gZ(args:List (D×Bool))(δ:Dn):Dn:=args.zipIdx.map λp=>if p.1.2=Y then(δ[p.2]?).join else I p.1
noncomputable def evF(n np:Nat)(asg:ja)(f:FS):EvF:=λargs=>
 if (Ls args)=np/\np<=n/\(args.zipIdx.all λp=>!(p.1.2&&asg.contains p.2))=Y then
  match f (args.map I++ac (n-np) C) with
  |some (.rt r δ)=>I (r,gZ args δ)
  |some (.nx δ)=>I ((.non,J),gZ args δ)
  |_=>C
 else C
def Lj(a:List (D×Bool))(b:Dn)(i:Nat):(gZ a b)[i]?=a[i]?.map λx=>if x.2=Y then(b[i]?).join else I x:=by
 unfold gZ;rw[iW,Ed]
 cases a[i]? with
 |none=>rfl
 |some x=>simp
def rp(h:x.join=I p):x=I (I p):=by
 cases x with
 |none=>cases h
 |some y=>exact nh I h
section
variable {K:gy}{T:AP'}{A:iO}{k:List V}{f:List (D×Bool)}{H q:Hp}{m:Nat}{l:L2.St}{g:Dn}{r:D×Bool}{v:V}
def Cm{b:Type}{a:List b}{m i:Nat}{y:b}:(a.map I++ac m C)[i]?=I (I y)↔a[i]?=I y:=by
 by_cases h:i<Ls a
 .rw[sd<|by simpa using h,iW];cases a[i]?<;>simp
 .rw[nU<|by simpa using h];constructor
  .intro e;rw[cZ] at e;split at e<;>cases e
  .intro e;exact absurd (qc.mp e).1 h
def rA{b:Type}{a:List b}{i:Nat}{y:b}:(a.map I)[i]?=I (I y)↔a[i]?=I y:=by rw[iW];cases a[i]?<;>simp
def II{i:Nat}{a:fV}:OwnI (k.map I++ac m C) (f.map I++ac m C) i a↔OwnI (k.map I) (f.map I) i a:=by unfold OwnI;simp only[Cm,rA]
def CO:OwnA σ b a↔ ∃i,OwnI σ b i a:=Iff.rfl
def Li:OwnA (k.map I++ac m C) (f.map I++ac m C) a↔OwnA (k.map I) (f.map I) a:=by rw[CO,CO];exact exists_congr λi=>II
def ER.pad(E:ER K H T (k.map I) (f.map I)):ER K H T (k.map I++ac m C) (f.map I++ac m C):=by
 have len:(Ls k)=(Ls f):=by simpa using E.len
 refine⟨by simp[len],λi d h=>?_,λi d h=>?_,λi j d e a h1 o p s=>?_,λa z=>E.nT a<|Li.mp z,E.dom⟩
 .obtain⟨w,c,n⟩:=E.val i d<|rA.mpr<|Cm.mp h;exact⟨w,Cm.mpr<|rA.mp c,Rep.mono (λ_ _ e _=>e) (λb _ z=>z.imp Li.mp id) n⟩
 .obtain⟨w,c,n⟩:=E.own i d<|rA.mpr<|Cm.mp h;exact⟨w,Cm.mpr<|rA.mp c,n.mono (λ_ _ e _=>e) (λb _ z=>z.imp Li.mp id) λ_ e=>e⟩
 .exact E.inj i j d e a (rA.mpr<|Cm.mp h1) (rA.mpr<|Cm.mp o) (rA.mpr<|Cm.mp p) (rA.mpr<|Cm.mp s)
def Gk{J:AP'}(E:ER K H T (k.map I8) (f.map I8))(S:SK A (k.map I8++ac m J4) (f.map I8++ac m J4) H l g q)(hA: ∀(i:Nat) d,f[i]?=I8 (d,KE)-> ¬A i)
  (Q:ER K q J l g)(hT: ∀b,H b≠J4->J b->T b):ER K q J (k.map I8) (gZ f g)/\(∀b,OwnA (k.map I8) (gZ f g) b->OwnA l g b)/\Keep (k.map I8) (f.map I8) H (gZ f g) q:=by
 have len:(Ls k)=(Ls f):=by simpa using E.len
 have s: ∀(i:Nat) d w,f[i]?=I8 (d,KE)->k[i]?=I8 w->l[i]?=I8 (I8 w):=λi d w h1 p=>by rw[S.as i<|hA i d h1];exact Cm.mpr p
 have t: ∀(i:Nat) d b,(gZ f g)[i]?=I8 (I8 (d,b))->(∃e,f[i]?=I8 (e,KE)/\g[i]?=I8 (I8 (d,b)))\/(b=K2/\f[i]?=I8 (d,K2)):=λi d b h=>by
  rw[Lj] at h;obtain⟨⟨e,c⟩,h1,p⟩:=iq h
  cases c with
  |true=>left;exact⟨e,h1,rp<|by simpa using p⟩
  |false=>
   right;have:I8 (e,K2)=I8 (d,b):=by simpa using p
   cases this;exact⟨rfl,h1⟩
 have B: ∀i a,OwnI (k.map I8) (gZ f g) i a->OwnI l g i a/\OwnI (k.map I8) (f.map I8) i a:=λi a a'=>by
  obtain⟨d,h1,p⟩:=a'
  rcases t i d KE h1 with⟨e,u,x⟩|⟨z,_⟩
  .exact⟨⟨d,x,s i e _ u (rA.mp p)⟩,⟨e,rA.mpr u,p⟩⟩
  .cases z
 have G: ∀b,OwnA (k.map I8) (gZ f g) b->OwnA l g b:=λb a'=>by
  obtain⟨i,d,h1,p⟩:=a'
  obtain⟨⟨e,I,L⟩,_⟩:=B i b ⟨d,h1,p⟩;exact⟨i,e,I,L⟩
 have C: ∀b,OwnA (k.map I8) (gZ f g) b->OwnA (k.map I8) (f.map I8) b:=λb a'=>by
  obtain⟨i,d,h1,p⟩:=a'
  obtain⟨_,⟨e,I,L⟩⟩:=B i b ⟨d,h1,p⟩;exact⟨i,e,I,L⟩
 have U: ∀a o,H a=I8 o-> ¬OwnA (k.map I8) (f.map I8) a->q a=I8 o:=λa o e n=>S.kp a o e λz=>n<|Li.mp z;refine⟨⟨?_,λi d h=>?_,λi d h=>?_,λi j d e a h1 p u x=>?_,λa z=>Q.nT a<|G a z,Q.dom⟩,G,⟨U,λi a z=>(B i a z).2,S.dm⟩⟩
 .simp[gZ,len]
 .have M:i<(Ls k):=by
   have:=(qc.mp h).1;simp[gZ] at this
   lia
  have hv:k[i]?=I8 k[i]:=gY M;rcases t i d K2 h with⟨e,u,x⟩|⟨_,u⟩
  .obtain⟨w,y,O⟩:=Q.val i d x;rw[s i e _ u hv] at y;cases y;exact⟨_,rA.mpr hv,Rep.mono (λ_ _ e _=>e) (λb _ z=>z.imp (G b) id) O⟩
  .obtain⟨w,y,O⟩:=E.val i d<|rA.mpr u;exact⟨w,y,Rep.mono (λb o e n=>U b o e λz=>n<|.inl z) (λb F z=>z.imp (C b)<|hT b F) O⟩
 .have M:i<(Ls k):=by
   have:=(qc.mp h).1;simp[gZ] at this
   lia
  have hv:k[i]?=I8 k[i]:=gY M;rcases t i d KE h with⟨e,u,x⟩|⟨z,_⟩
  .obtain⟨w,y,O⟩:=Q.own i d x;rw[s i e _ u hv] at y;have N:k[i]=V.ref w:=by simpa using y
   exact⟨w,by rw[<-N];exact rA.mpr hv,O.mono (λ_ _ e _=>e) (λb _ z=>z.imp (G b) id) λ_ e=>e⟩
  .cases z
 .obtain⟨_,⟨Y,I,L⟩⟩:=B i a ⟨d,h1,u⟩;obtain⟨_,⟨D,P,R⟩⟩:=B j a ⟨e,p,x⟩;exact E.inj i j Y D a I P L R
def oW(E:ER K H T (k.map I) (f.map I))(S:SK A (k.map I++ac m C) (f.map I++ac m C) H l g q)(j: ∀(i:Nat) d,f[i]?=I (d,Y)-> ¬A i)
  (R:RV K T H r l g v q):Post K T (k.map I) (f.map I) H r (gZ f g) v q:=by
 obtain⟨d,b⟩:=r
 cases b with
 |false=>obtain⟨a,s⟩:=R;obtain⟨c,ow,h⟩:=Gk E S j a λ_ _ z=>z;exact⟨h,c,Rep.mono (λ_ _ e _=>e) (λb _ z=>z.imp (ow b) id) s⟩
 |true=>obtain⟨p,rfl,n,a,ok⟩:=R;obtain⟨c,ow,h⟩:=Gk E S j a (λb o z=>z.elim id λz=>by subst z;exact absurd n o);exact⟨h,p,rfl,n,c,ok.mono (λ_ _ e _=>e) (λb _ z=>z.imp (ow b) id) λ_ e=>e⟩
end
section
variable {P:gM}{w:gB}{K:gy}{g:lE}{base:gH}{N:hU}{m:Nat}{b:ja}{fs:FS}{c:List V}{H:Hp}{Q:VK}{E:XK}
def Nf(h:spF K (evF (Ls N) m b fs) c H Q E):(Ls c)=m:=by
 obtain⟨T,a,r,d,E0,e,_⟩:=h;unfold evF at e;split at e
 .rename_i f;have:=E0.len;simp at this;rw[this];exact f.1
 .cases e
def PY(h:spF K (evF (Ls N) m b fs) c H Q E): ∃L:Nat->Prop,(∀i,L i->i<m)/\tS K (λi=>i∈b) L H fs {nx:=λ_ l=>Q .non l,rt:=Q} (L2.pP N c) H:=by
 obtain⟨T,f,r,x,E0,e,u⟩:=h;unfold evF at e;split at e
 .rename_i I;obtain⟨h1,Y,C⟩:=I;have n:(Ls c)=(Ls f):=by simpa using E0.len
  refine⟨λi=> ∃d,f[i]?=I8 (d,KE),λi ⟨d,hd⟩=>by have:=(qc.mp hd).1;lia,?_⟩;have M:L2.pP N c=c.map I8++ac (Ls N-m) J4:=by unfold L2.pP;rw[n,h1]
  have q: ∀(i:Nat) d,f[i]?=I8 (d,KE)-> ¬(i∈b):=λi d hd G=>by
   have J:(f.zipIdx)[i]?=I8 ((d,KE),i):=by rw[Ed,hd];simp
   have:=lO.mp C _ (mM J);simp at this;exact this G
  rw[M]
  have B:FI (λi=>i∈b) (λi=> ∃d,f[i]?=I8 (d,KE)) H (c.map I8++ac (Ls N-m) J4) (f.map I8++ac (Ls N-m) J4) H:=⟨λi a z=>by obtain⟨d,U,_⟩:=II.mp z;exact .inl ⟨d,rA.mp U⟩,λ_ z=>z,λj O ⟨d,hd⟩=>q j d hd O⟩
  cases s:fs (f.map I8++ac (Ls N-m) J4) with
  |none=>rw[s] at e;cases e
  |some o=>
   rw[s] at e;refine⟨_,T,o,E0.pad,B,s,?_⟩
   cases o with
   |rt r1 k=>obtain⟨rfl,rfl⟩:=gA e;exact λv t l p A=>u v l<|oW E0 p q A
   |nx k=>obtain⟨rfl,rfl⟩:=gA e;exact λt l p y=>u .non l<|oW (r:=(.non,K2)) E0 p q ⟨y,Rep.mkNon⟩
   |bk k=>cases e
   |ct k=>cases e
 .cases e
def RQ{x qual:aO}{st:cb}{f:fV}{j:mZ}{e:hU}{k:Nat}(F:Fun K x qual st f j)(S:FnScope N e (gk st))
  (o: ∀(d:gu) (A:gJ) (a:List eT) (s:fY) (H:Hp) (E:XK) (L:iO),(∀i,L i->i<Ls e)->Room k (A.deeper<|cG qual (gk st) s.heap.objs.size f d)->
   Cj (Dx CX0 P w K g base N qual (gk st) f d A a s H E).nox (λi=>i∈b) L H (mV st) fs):FnOk P w K g base CX0 (k+1) f j e (spF K<|evF (Ls N) (Ls e) b fs):=
 F.ok S (λc H Q E h=>Nf h) λd A a s H c Q E n h=>let⟨L,h1,l⟩:=PY h;⟨_,o d A a s H E L h1 n,l⟩
end
noncomputable def xk(a:Dn):Opd->Option (D×Bool)
 | .val r=>I (r.1,J)
 | .slot i=>(a[i]?).join
noncomputable def jy(δ:Dn):List Opd->Option (List<|D×Bool)
 |[]=>I []
 |o::os=>(xk δ o).bind λa=>(jy δ os).bind λl=>I (a::l)
noncomputable def gG:List Opd->List (D×Bool)->List Nat
 | .slot i::os,(_,Y)::as=>i::gG os as
 |_::os,_::as=>gG os as
 |_,_=>[]
noncomputable def wb:List Opd->List (D×Bool)->Dn->Dn->Dn
 | .slot i::os,(_,Y)::as,o::outs,δ=>wb os as outs<|δ.set i o
 |_::os,_::as,_::outs,δ=>wb os as outs δ
 |_,_,_,δ=>δ
noncomputable def gb(a:EvF)(fs:List FO):F:=λδ=>(jk fs δ).bind λp=>(jy p.2 p.1).bind λargs=>if(gG p.1 args).Nodup then(a args).bind λq=>I (q.1,wb p.1 args q.2 p.2) else C
def pF{δ:Dn}: ∀{os:List Opd} {b:List (D×Bool)},jy δ os=I b->Ls b=os.length/\ ∀(j:Nat) a,b[j]?=I a-> ∃o,os[j]?=I o/\xk δ o=I a:=by
 intro m
 induction m with
 |nil=>intro b h;cases h;exact⟨rfl,λj d h=>by simp at h⟩
 |cons o os k=>
  intro b h;unfold jy at h;obtain⟨d,h1,h⟩:=fS h;obtain⟨l,f,h⟩:=fS h;cases h;obtain⟨g,i⟩:=k f;refine⟨by simp[g],λj e c=>?_⟩
  cases j with
  |zero=>simp at c;subst c;exact⟨o,rfl,h1⟩
  |succ j=>obtain⟨n,p,q⟩:=i j e (by simpa using c);exact⟨n,by simpa using p,q⟩
theorem rm: ∀{os:List Opd} {as:List (D×Bool)} {j i:Nat} {d:D},os[j]?=I (.slot i)->as[j]?=I (d,Y)->i∈gG os as
 |[],_,_,_,_,h,_=>by simp at h
 |_::_,[],_,_,_,_,h=>by simp at h
 |o::os,(e,b)::as,0,i,d,h1,a=>by simp at h1 a;obtain⟨rfl,rfl⟩:=a;subst h1;simp[gG]
 |o::os,(e,b)::as,j+1,i,d,h1,a=>by
  have c:=rm (os:=os) (as:=as) (j:=j) (i:=i) (d:=d) (by simpa using h1) (by simpa using a)
  cases o with
  |val r=>simpa[gG] using c
  |slot k=>
   cases b with
   |true=>simp[gG,c]
   |false=>simpa[gG] using c
theorem Ab: ∀{os:List Opd} {a:List (D×Bool)} {i:Nat},i∈gG os a-> ∃(j:Nat) (d:D),os[j]?=I (.slot i)/\a[j]?=I (d,Y)
 |[],_,_,h=>by simp[gG] at h
 |o::_,[],_,h=>by cases o<;>simp[gG] at h
 |o::os,(e,b)::a,i,h=>by
  have c:i∈gG os a-> ∃(j:Nat) (d:D),(o::os)[j]?=I (.slot i)/\((e,b)::a)[j]?=I (d,Y):=λh=>by obtain⟨j,d,h1,f⟩:=Ab h;exact⟨j+1,d,by simpa using h1,by simpa using f⟩
  cases o with
  |val r=>exact c (by simpa[gG] using h)
  |slot k=>
   cases b with
   |true=>
    simp[gG] at h;rcases h with rfl|h
    .exact⟨0,e,rfl,rfl⟩
    .exact c h
   |false=>exact c (by simpa[gG] using h)
theorem Ac: ∀{os:List Opd} {as:List (D×Bool)} {j k i:Nat} {d e:D},(gG os as).Nodup->os[j]?=I (.slot i)->as[j]?=I (d,Y)->os[k]?=I (.slot i)->as[k]?=I (e,Y)->j=k
 |[],_,_,_,_,_,_,_,h,_,_,_=>by simp at h
 |_::_,[],_,_,_,_,_,_,_,h,_,_=>by simp at h
 |o::os,(n,b)::as,j,k,i,d,e,a,h1,c,f,g=>by
  cases j with
  |zero=>
   cases k with
   |zero=>rfl
   |succ k=>simp at h1 c;obtain⟨rfl,rfl⟩:=c;subst h1;have:=rm (os:=os) (as:=as) (j:=k) (by simpa using f) (by simpa using g);simp[gG] at a;exact absurd this a.1
  |succ j=>
   cases k with
   |zero=>simp at f g;obtain⟨rfl,rfl⟩:=g;subst f;have:=rm (os:=os) (as:=as) (j:=j) (by simpa using h1) (by simpa using c);simp[gG] at a;exact absurd this a.1
   |succ k=>
    have l:(gG os as).Nodup:=by
     cases o with
     |val r=>simpa[gG] using a
     |slot m=>
      cases b with
      |true=>simp[gG] at a;exact a.2
      |false=>simpa[gG] using a
    have:=Ac (os:=os) (as:=as) (j:=j) (k:=k) l (by simpa using h1) (by simpa using c) (by simpa using f) (by simpa using g)
    lia
theorem yh: ∀{os:List Opd} {c:List (D×Bool)} {a δ:Dn} {i:Nat},i∉gG os c->(wb os c a δ)[i]?=δ[i]?
 |[],_,_,_,_,_=>by simp[wb]
 |o::_,[],_,_,_,_=>by cases o<;>simp[wb]
 |o::os,(e,b)::c,[],_,_,_=>by cases o<;>cases b<;>simp[wb]
 |o::os,(e,b)::c,x::a,δ,i,h=>by
  cases o with
  |val r=>simp only[wb];exact yh (by simpa[gG] using h)
  |slot k=>
   cases b with
   |true=>simp[gG] at h;rw[wb,yh h.2,sh<|pJ h.1]
   |false=>simp only[wb];exact yh (by simpa[gG] using h)
theorem yi: ∀{os:List Opd} {c:List (D×Bool)} {a δ:Dn},(wb os c a δ).length=Ls δ
 |[],_,_,_=>by simp[wb]
 |o::_,[],_,_=>by cases o<;>simp[wb]
 |o::os,(e,b)::c,[],_=>by cases o<;>cases b<;>simp[wb]
 |o::os,(e,b)::c,x::a,δ=>by
  cases o with
  |val r=>simp only[wb];exact yi
  |slot k=>
   cases b with
   |true=>simp only[wb];rw[yi,ux]
   |false=>simp only[wb];exact yi
theorem FY: ∀{os:List Opd} {c:List (D×Bool)} {a δ:Dn} {i j:Nat} {d:D} {x:Sl},(gG os c).Nodup->os[j]?=I (.slot i)->c[j]?=I (d,Y)->a[j]?=I x->i<Ls δ->(wb os c a δ)[i]?=I x
 |[],_,_,_,_,_,_,_,_,h,_,_,_=>by simp at h
 |o::_,[],_,_,_,_,_,_,_,_,h,_,_=>by simp at h
 |o::os,(e,b)::c,[],_,_,_,_,_,_,_,_,h,_=>by simp at h
 |o::os,(e,b)::c,y::a,δ,i,0,d,x,f,h1,g,l,n=>by simp at h1 g l;obtain⟨rfl,rfl⟩:=g;subst h1;subst l;simp[gG] at f;rw[wb,yh f.1,uy n]
 |o::os,(e,b)::c,y::a,δ,i,j+1,d,x,f,h1,g,l,n=>by
  have p:(gG os c).Nodup:=by
   cases o with
   |val r=>simpa[gG] using f
   |slot m=>
    cases b with
    |true=>simp[gG] at f;exact f.2
    |false=>simpa[gG] using f
  cases o with
  |val r=>simp only[wb];exact FY p (by simpa using h1) (by simpa using g) (by simpa using l) n
  |slot k=>
   cases b with
   |true=>simp only[wb];exact FY p (by simpa using h1) (by simpa using g) (by simpa using l) (by rw[ux];exact n)
   |false=>simp only[wb];exact FY p (by simpa using h1) (by simpa using g) (by simpa using l) n
section
variable {K:gy}{T y:AP'}{m:L2.St}{δ f:Dn}{H s u:Hp}{os:List Opd}{l:List V}{c:List (D×Bool)}{g:Dn}{r:D×Bool}{v:V}
noncomputable def Tc(T:AP')(m:L2.St)(f:Dn)(l:List V)(c:List (D×Bool)):AP':=λa=>T a\/(OwnA m f a/\ ¬OwnA (l.map I) (c.map I) a)
def uN(B:Ops K T m δ H os l f s y)(p:jy f os=I c){j:Nat}{d:D}(h:c[j]?=I (d,Y)): ∃(i:Nat) (a:fV),os[j]?=I (.slot i)/\f[i]?=I (I (d,Y))/\l[j]?=I (.ref a)/\m[i]?=I (I<|.ref a):=by
 obtain⟨w,q⟩:=pF p;obtain⟨o,h1,b⟩:=q j _ h
 cases o with
 |val r=>cases b
 |slot i=>
  have e:f[i]?=I (I (d,Y)):=rp b;have t:j<(Ls l):=by have:=(qc.mp h1).1;have:=B.len;lia
  have hv:l[j]?=I l[j]:=gY t;have k:=B.slt j i _ h1 hv;obtain⟨a,n,_⟩:=B.er.own i d e;rw[k] at n;have:l[j]=V.ref a:=by simpa using n
  exact⟨i,a,h1,e,by rw[hv,this],by rw[k,this]⟩
def C5(B:Ops K T m δ H os l f s y)(n:jy f os=I c){j:Nat}{a:fV}(h:OwnI (l.map I) (c.map I) j a): ∃(i:Nat) (d:D),os[j]?=I (.slot i)/\c[j]?=I (d,Y)/\OwnI m f i a:=by obtain⟨d,h1,k⟩:=h;have e:=rA.mp h1;obtain⟨i,b,o,p,q,t⟩:=uN B n e;have:=rA.mp k;rw[q] at this;cases this;exact⟨i,d,o,e,d,p,t⟩
def GD(B:Ops K T m δ H os l f s y)(k:jy f os=I c)(h:OwnA (l.map I) (c.map I) a):OwnA m f a:=by obtain⟨j,d,h1,b⟩:=h;obtain⟨i,_,_,_,e,n,o⟩:=C5 B k ⟨d,h1,b⟩;exact⟨i,e,n,o⟩
def G4(E:ER K H T m δ)(B:Ops K T m δ H os l f s y)(n:jy f os=I8 c)(nd:(gG os c).Nodup):ER K s (Tc T m f l c) (l.map I8) (c.map I8):=by
 obtain⟨F,Y⟩:=pF n
 have sub: ∀b,(OwnA (l.map I8) (c.map I8) b\/Tc T m f l c b)->OwnA m f b\/T b:=λb z=>by
  rcases z with z|z|z
  .exact .inl (GD B n z)
  .exact .inr z
  .exact .inl z.1
 refine⟨by simp[F,B.len],λj d h=>?_,λj d h=>?_,λj k d e a h1 p x A=>?_,λa z t=>?_,λa z=>?_⟩
 .have h:=rA.mp h;obtain⟨o,h1,p⟩:=Y j _ h;have D:j<(Ls l):=by have:=(qc.mp h1).1;have:=B.len;lia
  have hv:l[j]?=I8 l[j]:=gY D;refine⟨_,rA.mpr hv,?_⟩
  cases o with
  |val q=>
   have:q.1=d:=by cases p;rfl
   subst this;exact Rep.mono (λ_ _ e _=>e) (λb _ z=>sub b z)<|B.rep E h1 hv
  |slot i=>
   have x:f[i]?=I8 (I8 (d,K2)):=rp p;have A:=B.slt j i _ h1 hv;obtain⟨w,G,R⟩:=B.er.val i d x;rw[A] at G;have:l[j]=w:=by simpa using G
   rw[this];exact Rep.mono (λ_ _ e _=>e) (λb _ z=>(sub b z).imp id<|B.tt b) R
 .obtain⟨i,a,Q,C,I,L⟩:=uN B n<|rA.mp h;obtain⟨b,O,U⟩:=B.er.own i d C;rw[L] at O;cases O;exact⟨a,rA.mpr I,U.mono (λ_ _ e _=>e) (λb _ z=>(sub b z).imp id<|B.tt b) λ_ e=>e⟩
 .obtain⟨i,S,Q,C,J,I,L⟩:=C5 B n ⟨d,h1,x⟩;obtain⟨P,V,g1,g2,M,g3,N⟩:=C5 B n ⟨e,p,A⟩;have:=B.er.inj i P J M a I g3 L N;subst this;exact Ac nd Q C g1 g2
 .rcases t with t|t
  .exact B.er.nT a (GD B n z) (B.tt a t)
  .exact t.2 z
 .rcases z with z|z
  .exact B.er.dom a (B.tt a z)
  .exact B.er.ownOw z.1
def G5{T' Td:AP'}(E:ER K H T m δ)(B:Ops K T m δ H os l f s y)(N:jy f os=I c)(nd:(gG os c).Nodup)(kC:Keep (l.map I) (c.map I) s g u)
  (Y:ER K u Td (l.map I) g)(t1: ∀b,Tc T m f l c b->Td b)(t2: ∀b,T' b->Td b)(t3: ∀b,s b≠C->T' b->T b):
  ER K u T' m (wb os c g f)/\(∀b,OwnA m (wb os c g f) b->OwnA (l.map I) g b\/Tc T m f l c b)/\Keep m f s (wb os c g f) u:=by
 obtain⟨hl,hg⟩:=pF N;have ol:(Ls g)=(Ls c):=by have:=Y.len;have:=B.len;simp at*;lia
 have R: ∀(i:Nat) (x:Sl),(wb os c g f)[i]?=I x->(i∉gG os c/\f[i]?=I x)\/ ∃(j:Nat) (d:D),os[j]?=I (.slot i)/\c[j]?=I (d,KE)/\g[j]?=I x:=λi x h=>by
  by_cases C':i∈gG os c
  .right;obtain⟨j,d,h1,p⟩:=Ab C';have hj:j<(Ls g):=by have:=(qc.mp p).1;lia
   have X:g[j]?=I g[j]:=gY hj;have hi:i<(Ls f):=by have:=(qc.mp h).1;rwa [yi] at this
   have:=FY (δ:=f) nd h1 p X hi;rw[h] at this;cases this;exact⟨j,d,h1,p,X⟩
  .left;rw[yh C'] at h;exact⟨C',h⟩
 have L: ∀{i:Nat} {a:fV},i∉gG os c->OwnI m f i a-> ¬OwnA (l.map I) (c.map I) a:=λ{i a} C' ⟨e,q,I'⟩ ⟨j,d,h1,p⟩=>by obtain⟨P,d2,g1,g2,S,g3,g4⟩:=C5 B N ⟨d,h1,p⟩;have:=B.er.inj i P e S a q g3 I' g4;subst this;exact C'<|rm g1 g2
 have U: ∀i a,OwnI m (wb os c g f) i a->OwnI m f i a/\(OwnA (l.map I) g a\/Tc T m f l c a):=λi a a'=>by
  obtain⟨d,h1,p⟩:=a'
  rcases R i _ h1 with⟨C',A⟩|⟨j,e,g1,g2,g3⟩
  .exact⟨⟨d,A,p⟩,.inr<|.inr ⟨⟨i,d,A,p⟩,L C' ⟨d,A,p⟩⟩⟩
  .obtain⟨P,b,q,I',J,O⟩:=uN B N g2;rw[g1] at q;cases q;rw[p] at O;cases O;exact⟨⟨e,I',p⟩,.inl ⟨j,d,g3,rA.mpr J⟩⟩
 have Z: ∀b,OwnA m (wb os c g f) b->OwnA (l.map I) g b\/Tc T m f l c b:=λb ⟨i,d,h1,p⟩=>(U i b ⟨d,h1,p⟩).2
 have F: ∀b,OwnA m (wb os c g f) b->OwnA m f b:=λb a'=>by
  obtain⟨i,d,h1,p⟩:=a'
  obtain⟨⟨e,q,I'⟩,_⟩:=U i b ⟨d,h1,p⟩;exact⟨i,e,q,I'⟩
 have W: ∀a o,s a=I o-> ¬OwnA m f a->u a=I o:=λa o e n=>kC.kp a o e λz=>n<|GD B N z
 have Q: ∀b,(OwnA m (wb os c g f) b\/T' b)->OwnA (l.map I) g b\/Td b:=λb z=>by
  rcases z with z|z
  .exact(Z b z).imp id (t1 b)
  .exact .inr (t2 b z)
 refine⟨⟨by rw[yi];exact B.er.len,λi d h=>?_,λi d h=>?_,λi k d e a h1 p A h4=>?_,λa z t=>?_,λa z=>Y.dom a<|t2 a z⟩,Z,⟨W,λi a z=>(U i a z).1,kC.dm⟩⟩
 .rcases R i _ h with⟨C',A⟩|⟨j,e,g1,g2,g3⟩
  .obtain⟨w,G,M⟩:=B.er.val i d A;exact⟨w,G,Rep.mono (λb o e n=>W b o e λz=>n<|.inl z) (λb V z=>z.imp (F b) λz=>B.tt b<|t3 b V z) M⟩
  .obtain⟨P,b,q,I',J,O⟩:=uN B N g2;rw[g1] at q;cases q;obtain⟨w,G,M⟩:=Y.val j d g3;have:=rA.mp G;rw[J] at this;cases this;exact⟨_,O,Rep.mono (λ_ _ e _=>e) (λb _ z=>Q b z) M⟩
 .rcases R i _ h with⟨C',A⟩|⟨j,e,g1,g2,g3⟩
  .obtain⟨a,G,M⟩:=B.er.own i d A;exact⟨a,G,M.mono (λb o e n=>W b o e λz=>n<|.inl z) (λb V z=>z.imp (F b) λz=>B.tt b<|t3 b V z) λo e=>kC.kp a o e<|L C' ⟨d,A,G⟩⟩
  .obtain⟨P,b,q,I',J,O⟩:=uN B N g2;rw[g1] at q;cases q;obtain⟨a,G,M⟩:=Y.own j d g3;have:=rA.mp G;rw[J] at this;cases this;exact⟨_,O,M.mono (λ_ _ e _=>e) (λb _ z=>Q b z) λ_ e=>e⟩
 .obtain⟨⟨e1,q,I'⟩,_⟩:=U i a ⟨d,h1,A⟩;obtain⟨⟨S,J,O⟩,_⟩:=U k a ⟨e,p,h4⟩;exact B.er.inj i k e1 S a q J I' O
 .exact B.er.nT a (F a z) (B.tt a<|t3 a (B.er.ownDom<|F a z) t)
def vh(E:ER K H T m δ)(B:Ops K T m δ H os l f s y)(k:jy f os=I c)(o:(gG os c).Nodup)(P:Post K (Tc T m f l c) (l.map I) (c.map I) s r g v u):
  Post K T m δ H r (wb os c g f) v u:=by
 obtain⟨d,b⟩:=r
 cases b with
 |false=>
  obtain⟨kC,h,w⟩:=P;obtain⟨i,ow,j⟩:=G5 (T':=T) E B k o kC h (λ_ z=>z) (λ_ z=> .inl z) λ_ _ z=>z;refine⟨B.keep.trans j,i,Rep.mono (λ_ _ e _=>e) (λb _ z=>?_) w⟩;rcases z with z|z
  .exact ow b z
  .exact .inr (.inl z)
 |true=>
  obtain⟨kC,p,rfl,n,h,ok⟩:=P;obtain⟨i,ow,j⟩:=G5 (T':=λa=>T a\/a=p) E B k o kC h (λ_ z=> .inl z) (λb z=>z.elim (λz=> .inl (.inl z)) .inr) (λb t z=>z.elim id λz=>by subst z;exact absurd n t);refine⟨B.keep.trans j,p,rfl,?_,i,ok.mono (λ_ _ e _=>e) (λb _ z=>?_) λ_ e=>e⟩
  .cases q:H p with
   |none=>rfl
   |some x=>exact absurd n<|B.keep.dm p (by rw[q];simp)
  .rcases z with z|z|z
   .exact(ow b z).imp id .inl
   .exact .inr (.inl<|.inl z)
   .exact .inr (.inr z)
end
section
variable {X:Cx}{e:gm}{b:jg}{fs:List FO}{a p:bB}{k:Nat}{f:fV}{g:mZ}{d:hU}{c:EvF}{x:aO}
def Nr(F:FnOk X.prog X.w X.K X.mg X.base CX0 k f g d (spF X.K c))(I:Room k X.A)(z:Gl X x)(C:X.mg x=I8 (.ref f))(hk:ce X.K (.ref f)=KE)(u:Binds X.K g d [])
  (t:PA X (e::b) (tA X.K fs))(G:(x==("__debug__":aO))=K2)(y:aa (e::b) X.env=(K2,aK e X.env)::aa b X.env)(O:(aJ a<|aa b X.env).any (·.1)=K2):
  PX X (.Call (.Name x p) (e::b) [] a) (gb c fs):=PX.imp (N4 F I z C hk u (.nil) T6 t G y O) λN H Q L=>by
 obtain⟨J,T,Y,M,E,e,k⟩:=L;obtain⟨⟨os,j⟩,h1,e⟩:=fS e;obtain⟨h,l,e⟩:=fS e;dsimp only at e;split at e
 .rename_i m;obtain⟨⟨r,i⟩,s,e⟩:=fS e;obtain⟨rfl,rfl⟩:=gA e;refine⟨J,T,os,j,E,h1,λn q U B=>?_⟩;show spF X.K c (n++[]) q Q E0;rw[tu];exact⟨Tc T N j n h,h,r,i,G4 E B l m,s,λv o P=>k v o<|vh E B l m P⟩
 .cases e
end
structure SKd(A:iO)(d:fV)(σ:L2.St)(δ:Dn)(H:Hp)(σ':L2.St)(δ':Dn)(H':Hp):Prop where
 kp: ∀a o,H a=I8 o-> ¬OwnA σ δ a->a≠d->H' a=I8 o
 owi: ∀i a,OwnI σ' δ' i a->OwnI σ δ i a\/H a=J4\/(A i/\ ∃j,A j/\OwnI σ δ j a)
 dm: ∀a,H a≠J4->H' a≠J4
 as: ∀i,¬A i->σ'[i]?=σ[i]?
section
variable {A:iO}{d:fV}{c b f:L2.St}{δ δ1 δ2:Dn}{H g l:Hp}
def SK.skd(k:SK A c δ H b δ1 g):SKd A d c δ H b δ1 g:=⟨λa o e n _=>k.kp a o e n,k.owi,k.dm,k.as⟩
def SKd.ow(k:SKd A d c δ H b δ1 g)(a:fV)(h:OwnA b δ1 a):OwnA c δ a\/H a=C:=by
 obtain⟨i,e,h1,o⟩:=h;rcases k.owi i a ⟨e,h1,o⟩ with⟨e,m,n⟩|z|⟨_,j,_,e,m,n⟩
 .exact .inl ⟨i,e,m,n⟩
 .exact .inr z
 .exact .inl ⟨j,e,m,n⟩
def SKd.trans(x:SKd A d c δ H b δ1 g)(y:SKd A d b δ1 g f δ2 l):SKd A d c δ H f δ2 l where
 kp:=λa o e n p=>y.kp a o (x.kp a o e n p) (λz=>(x.ow a z).elim n λz=>by rw[z] at e;cases e) p
 owi:=λi a z=>(y.owi i a z).elim (x.owi i a) λz=>z.elim (λz=> .inr (.inl (by
  cases h:H a with
  |none=>rfl
  |some o=>exact absurd z<|x.dm a<|by rw[h];simp))) λ⟨m,j,q,z⟩=>(x.owi j a z).elim (λz=> .inr (.inr ⟨m,j,q,z⟩)) λz=>z.elim (λz=> .inr (.inl z)) λ⟨_,k,ak,z⟩=> .inr (.inr ⟨m,k,ak,z⟩)
 dm:=λa z=>y.dm a<|x.dm a z
 as:=λi h=>(y.as i h).trans<|x.as i h
end
noncomputable def Ni(p:(Int->Bool)×Nat)(d:D):(Int->Bool)×Nat:=match d with
 | .int k=>(λa=>p.1 a||decide (a=k),if p.1 k then p.2 else p.2+1)
 |_=>p
noncomputable def Hr(l:List D):(Int->Bool)×Nat:=l.foldl Ni (λ_=>J,0)
def AtD(S:Option Bool)(K:gy)(U:Hp)(O:AP')(d:fV)(a:List D):Prop:=match S with
 |some J=> ∃c,U d=I (.lst c)/\RepL K U O a c
 |some Y=>U d=I (.set (Hr a).1 (Hr a).2)
 |none=> ∃b,OthB K (U d) .set [] a b/\RepL K U O a b
structure BS(S:Option Bool)(K:gy)(d:fV)(T:AP')(σ:L2.St)(δ:Dn)(acc:List D)(H:Hp):Prop where
 er:ER K H T σ δ
 td:T d
 at':AtD S K H (λa=>OwnA σ δ a\/T a) d acc
abbrev FB:=List D->Dn->Option (List D×Dn)
def tBx(S:Option Bool)(K:gy)(A:iO)(d:fV)(f:FB):TB:=λh U N=> ∃e T c g a,BS S K d T h e c U/\f c e=I (g,a)/\ ∀b H',SKd A d h e U b a H'->BS S K d T b a g H'->N b H'
noncomputable def gx(f:F):FB:=λa δ=>(f δ).bind λp=>if (Ls a)<sizeLine then I (a++[p.1.1],p.2) else C
noncomputable def jq(b:Tg)(c:FT)(a:FB):List D->FB
 |[],acc,δ=>I (acc,δ)
 |x::xs,acc,δ=>(b x δ).bind λδ1=>(c δ1).bind λp=>(if p.1=Y then a acc p.2 else I (acc,p.2)).bind λq=>jq b c a xs q.1 q.2
noncomputable def FH(c:FIt)(d:Tg)(e:FT)(b:FB):FB:=λa f=>(c f).bind λp=>jq d e b p.1 a p.2
section
variable {K:gy}{A:iO}{d:fV}{T:AP'}{f r:L2.St}{j s:Dn}{p:List D}{H q:Hp}
def BS.step(b:BS S K d T f j p H)(k:SK A f j H r s q)(t:ER K q T r s):BS S K d T r s p q:=by
 refine⟨t,b.td,?_⟩;have h:=b.at'
 have m: ∀{l:List D} {i:List V},RepL K H (λa=>OwnA f j a\/T a) l i->RepL K q (λa=>OwnA r s a\/T a) l i:=λg=>by
  refine RepL.mono (λb o e n=>k.kp b o e λz=>n<|.inl z) (λc u z=>?_) g;rcases z with z|z
  .exact(k.ow c z).elim bj λz=>absurd z u
  .exact .inr z
 rcases S with _|_|_
 .obtain⟨v,h1,g⟩:=h;exact⟨v,h1.keep λo e=>k.kp d o e λz=>b.er.nT d z b.td,m g⟩
 .obtain⟨i,h1,g⟩:=h;exact⟨i,k.kp d _ h1 λz=>b.er.nT d z b.td,m g⟩
 .exact k.kp d _ h λz=>b.er.nT d z b.td
def GA(hg: ∀v f H Q,tG K A tg v f H Q->g v f H Q)(hi: ∀f H Q,tT K ft f H Q->ti f H Q)(hb: ∀f H N,tBx S K A d fb f H N->tb f H N)
  (b:BS S K d T f j p H)(P O:AP')(ok:ItOk K J' ds P O q)(s1: ∀a o,q a=I o-> ¬P a->H a=I o)(s0: ∀a,q a≠J4->OwnA f j a\/a=d->P a)(s2: ∀a,q a≠J4->(OwnA f j a\/T a)->O a)(s3: ∀a,q a≠J4->H a≠J4)(e:jq tg ft fb ds p j=I (i4,B))
  (k: ∀E t,SKd A d f j H E B t->BS S K d T E B i4 t->N E t):F5 J' g ti tb f H N:=by
 refine⟨λi m l w=>m=Ls ds-i/\i<=Ls ds/\ ∃h G,SKd A d f j H l h w/\BS S K d T l h G w/\jq tg ft fb (ds.drop i) G h=I (i4,B),⟨Ls ds,by simp,kx _,j,p,SK.refl.skd,b,by simpa using e⟩,?_⟩;rintro i m l w ⟨rfl,hle,h,G,Y',I',e2⟩
 have hO: ∀a,q a≠J4->(OwnA l h a\/T a)->O a:=λa W z=>by
  rcases z with z|z
  .exact(Y'.ow a z).elim (λz=>s2 a W<|.inl z) λz=>absurd z<|s3 a W
  .exact s2 a W (.inr z)
 have ae: ∀a o,q a=I o-> ¬P a->w a=I o:=λa o V n=>Y'.kp a o (s1 a o V n) (λz=>n<|s0 a (by rw[V];simp)<|.inl z) λz=>n<|s0 a (by rw[V];simp)<|.inr z;by_cases F:i<Ls ds
 .refine .inr ?_;have hd:ds[i]?=I ds[i]:=gY F;obtain⟨go,yl⟩:=ok.go i _ w hd ae;rw[vL F] at e2;obtain⟨C,h3,e3⟩:=fS e2;obtain⟨⟨c,u⟩,h4,e4⟩:=fS e3;obtain⟨⟨y,M⟩,D,e5⟩:=fS e4;refine⟨go,λx t hy=>?_⟩;obtain⟨ext,rep⟩:=yl x t hy;have dJ:ER K t T l h:=I'.er.mono (λb ob eb _=>ext b ob eb) (λ_ _ z=>z) λa z=>(I'.er.dom a z).up<|ext a;have SX:SK A l h w l h t:=(Keep.ext ext).sk;have R:=I'.step SX dJ;have fJ:SKd A d f j H l h t:=Y'.trans SX.skd;have rx:=rep (λa=>OwnA l h a\/T a) hO λb hb z=>z.elim (λz=>I'.er.ownDom z hb) λz=>(I'.er.dom b z).ne hb;refine hg _ _ _ _ ⟨h,T,ds[i],C,dJ,rx,h3,λU S3 Z=>?_⟩;have B3:=R.step S3 Z;have bT:=fJ.trans S3.skd;refine hi _ _ _ ⟨C,T,c,u,Z,h4,λH4 K4 E4=>?_⟩;have S4:SK A U C t U u H4:=K4.sk;have X:=B3.step S4 E4;have L:=bT.trans S4.skd
  cases c with
  |false=>rw[gD jD] at D;obtain⟨rfl,rfl⟩:=gA D;exact Up ⟨Ls ds-(i+1),by lia,rfl,F,u,G,L,X,e5⟩
  |true=>rw[gr K3] at D;exact Uo<|hb _ _ _ ⟨u,T,G,y,M,X,D,λσ5 H5 S5 B5=>⟨Ls ds-(i+1),by lia,rfl,F,M,y,L.trans S5,B5,e5⟩⟩
 .refine .inl ⟨ok.stop i w (by lia) ae,?_⟩;rw[yb<|by lia] at e2;obtain⟨rfl,rfl⟩:=gA e2;exact k l w Y' I'
end
section
variable {X:Cx}{A:iO}{d:fV}{g:gm}{f:F}
def PB.imp'{code:da Unit}{t c:TB}(h:PB X code t)(k: ∀b T N,c b T N->t b T N):PB X code c:=λa s b T N U e=>h a s b T N U<|k b T N e
def Lg{h:nQ}{J:jt}{p:bB}{depth:Nat}(E:h[depth+1]?=J4)(C:PX X g f):PB X (hW (.ListComp g h J p) depth (.ref d) X.env) (tBx K2 X.K A d<|gx f):=PB.imp' (N7 E C) λq H N I=>by
 obtain⟨w,T,y,U,M,B,e,k⟩:=I;obtain⟨⟨r,c⟩,h1,e⟩:=fS e;obtain⟨O,e⟩:=gP e;obtain⟨rfl,rfl⟩:=qj e;refine⟨w,T,r,c,B.er,h1,λv j P=>?_⟩;obtain⟨s,G⟩:=P.rep B.er;have t:SK A q w H q c j:=P.1.sk;have x:=B.step t s;obtain⟨m,L,u⟩:=x.at';refine⟨m,L,by rw[u.length];exact O,k q _ ?_ ?_⟩
 .have:SKd A d q c j q c (upd j d<|.lst<|m++[v]):=⟨λa o e n Q=>by rw[gR Q];exact e,λi a z=> .inl z,λa z=>by
   by_cases l:a=d
   .subst l;rw[gS];simp
   .rw[gR l];exact z,λ_ _=>rfl⟩
  exact t.skd.trans this
 .have hk: ∀b o,j b=I8 o-> ¬T b->upd j d (.lst<|m++[v]) b=I8 o:=λb o e n=>by rw[gR<|by intro z;subst z;exact n B.td];exact e
  have hd: ∀a,T a->Ow (upd j d (.lst<|m++[v]) a):=λa z=>by
   by_cases l:a=d
   .subst l;rw[gS];trivial
   .rw[gR l];exact s.dom a z
  refine⟨s.mono hk (λ_ _ z=>z) hd,B.td,m++[v],gS,?_⟩;exact RepL.mono (λb o e n=>hk b o e λz=>n<|.inr z) (λ_ _ z=>z)<|u.append<|RepL.one G
def N6{S:Option Bool}{e:gm}{depth:Nat}{c:mJ}{r:FIt}{u:Tg}{s:FT}{q:FB}(M:X.xe=λ_ _=>False)(hc:X.calm=KE)
  (hl:(∃g b l p,e= .ListComp g b l p)\/(∃g b l p,e= .SetComp g b l p))(hg:(b6 e)[depth+1]?=I8 c)(Y:c.is_async=0)(k4: ∀t,(b6 e)[depth+1+1]?=I8 t->t.is_async=0)
  (hs: ∀x,au c.iter X.env x=pure x)(pi:PIX X (λ_=>False) c.target c.iter r)(pg:PGX X A c.target u)(Q:PIf X c.ifs (tT X.K s))(pb:PB X (hW e (depth+1) (.ref d) X.env) (tBx S X.K A d q)):
  PB X (hW e depth (.ref d) X.env) (tBx S X.K A d<|FH r u s q):=PB.imp' (Rf M hc hl hg Y k4 hs pi pg Q pb) λw H N D=>by
 obtain⟨v,T,G,P,F,B,e,k⟩:=D;obtain⟨⟨U,j⟩,h1,e⟩:=fS e;refine⟨v,T,U,j,B.er,h1,λJ I L C ok=>?_⟩;have n:SK A w v H w j I:=L.sk;exact GA (λ_ _ _ _ h=>h) (λ_ _ _ h=>h) (λ_ _ _ h=>h) (B.step n C) _ _ ok (λa o e _=>e) (λa _ z=>z.elim (λa'=>by obtain⟨i,x,z⟩:=a';exact .inl ⟨i,id,x,z⟩) λz=> .inr (z▸B.td)) (λa _ z=>z) (λa z=>z) e λm E O y=>k m E (n.skd.trans O) y
end
noncomputable def gE(caps:ja)(k:Nat)(fi:FIt)(tg:Tg)(ti:FT)(a:FB):F:=λδ=>(fi δ).bind λp=>(jy p.2<|caps.map .slot).bind λargs=>if(gG (caps.map .slot) args).Nodup then(jq tg ti a p.1 []<|args.map I++ac k C).bind λq=>I ((.lst q.1,Y),wb (caps.map .slot) args (gZ args q.2) p.2) else C
noncomputable def EM(a:ja)(k:Nat)(b:L2.St):L2.St:=(a.map λj=>(b[j]?).join)++ac k C
noncomputable def o0(S:Option Bool):HO:=match S with
 |some J=> .lst []
 |some Y=> .set (λ_=>J) 0
 |none=> .stt []
noncomputable def qS(S:Option Bool)(Q:VK):VK:=match S with
 |some J|none=>Q
 |some Y=>λx b=> ∃S n,∃a,x= .ref a/\b a=I (.set S n)/\Q (.int n) b
noncomputable def rS(S:Option Bool)(a:List D):D×Bool:=match S with
 |some J=>(.lst a,Y)
 |none=>(.oth .set [] a,Y)
 |some Y=>(.int (Hr a).2,J)
noncomputable def Fo(S:Option Bool)(b:ja)(k:Nat)(d:FIt)(e:Tg)(ti:FT)(c:FB):F:=λf=>(d f).bind λp=>(jy p.2<|b.map .slot).bind λa=>if(gG (b.map .slot) a).Nodup then(jq e ti c p.1 []<|a.map I++ac k C).bind λq=>I (rS S q.1,wb (b.map .slot) a (gZ a q.2) p.2) else C
def Ao{S:Option Bool}{K:gy}{f:ja}{k:Nat}{fi:FIt}{tg:Tg}{ti:FT}{fb:FB}{p:L2.St}{H:Hp}{Q:VK}(h:tF K (Fo S f k fi tg ti fb) p H Q):
  tI K (λi=>i∉f) fi p H λJ' q=>F6 (o0 S) J' (tG K (λi=>Ls f<=i) tg) (tT K ti) (λd=>tBx S K (λi=>Ls f<=i) d fb) (EM f k) p q (qS S Q):=by
 obtain⟨δ,T,rr,δr,E,e,kq⟩:=h;obtain⟨⟨ds,s⟩,h1,e⟩:=fS e;obtain⟨g,t,e⟩:=fS e;dsimp only at e t;split at e
 case isFalse=>cases e
 rename_i Y;obtain⟨⟨m,δ'⟩,h2,e⟩:=fS e;obtain⟨rfl,rfl⟩:=gA e;refine⟨δ,T,ds,s,E,h1,λJ' q D A ok d hd=>?_⟩;obtain⟨hl,hg⟩:=pF t;have eE:(Ls g)=(Ls f):=by simpa using hl
 let C:List V:=f.map λj=>((p[j]?).join).getD .non
 have there: ∀(i j:Nat),f[i]?=I8 j-> ∃v,p[j]?=I8 (I8 v):=λi j l=>by
  have hi:i<(Ls g):=by have:=(qc.mp l).1;lia
  obtain⟨o,u,q2⟩:=hg i _ (gY hi);rw[iW,l] at u;cases u;have O:=rp q2;generalize g[i]=y at O;obtain⟨x,b⟩:=y
  cases b with
  |false=>obtain⟨v,h,_⟩:=A.val j x O;exact⟨v,h⟩
  |true=>obtain⟨a,h,_⟩:=A.own j x O;exact⟨_,h⟩
 have Z: ∀(i j:Nat),f[i]?=I8 j-> ∃v,C[i]?=I8 v/\p[j]?=I8 (I8 v):=λi j l=>by obtain⟨v,hv⟩:=there i j l;refine⟨v,?_,hv⟩;show(f.map λj=>((p[j]?).join).getD .non)[i]?=I8 v;rw[iW,l];simp[hv]
 have v5:EM f k p=C.map I8++ac k J4:=by
  unfold EM
  congr 1
  apply A8;intro i;show _=((f.map λj=>((p[j]?).join).getD .non).map I8)[i]?;rw[iW,iW,iW]
  cases l:f[i]? with
  |none=>rfl
  |some j=>obtain⟨v,hv⟩:=there i j l;simp[hv]
 have I:Ops K T p s q (f.map Opd.slot) C s q T:=by
  refine⟨by simp[C],.refl,A,λ_ z=>z,λj x v l=>?_,λj x v l=>?_,λj i v l hv=>?_⟩
  .rw[iW] at l;obtain⟨_,_,z⟩:=iq l;cases z
  .rw[iW] at l;obtain⟨_,_,z⟩:=iq l;cases z
  .rw[iW] at l;obtain⟨c,X,z⟩:=iq l;cases z;obtain⟨v',u,q2⟩:=Z j i X;rw[hv] at u;cases u;exact q2
 have L:=G4 A I t Y
 have W: ∀(i:Nat) x,g[i]?=I8 (x,KE)-> ¬(Ls f<=i):=λi x B=>by
  have:=(qc.mp B).1
  lia
 rw[v5];have B:=kG (o:=o0 S) hd
 have nz: ∀a,q a≠J4->upd q d (o0 S) a≠J4:=λa z=>by
  cases U:q a with
  |none=>exact absurd U z
  |some o=>rw[B a o U];simp
 have b0:BS S K d (λa=>Tc T p s C g a\/a=d) (C.map I8++ac k J4) (g.map I8++ac k J4) [] (upd q d<|o0 S):=by
  refine⟨(L.pad).mono (λb o eb _=>B b o eb) (λb hb z=>z.elim id λz=>by subst z;exact absurd hd hb) λa z=>?_,.inr K3,?_⟩
  .rcases z with z|z
   .exact(L.dom a z).up (B a)
   .subst z;rw[gS];rcases S with _|_|_<;>trivial
  .rcases S with _|_|_
   .exact⟨[],⟨rfl,[],gS,.nil⟩,RepL.nil⟩
   .exact⟨[],gS,RepL.nil⟩
   .exact gS
 refine GA (λ_ _ _ _ h=>h) (λ_ _ _ h=>h) (λ_ _ _ h=>h) b0 _ _ ok (λa o N _=>B a o N) (λa R z=>?_) (λa R z=>?_) nz h2 λσ' G M w=>?_
 .rcases z with z|z
  .obtain⟨j,x,g1,g2⟩:=Li.mp z;obtain⟨i,_,u,_,O⟩:=C5 I t ⟨x,g1,g2⟩;refine .inl ⟨i,λn=>n ?_,O⟩;rw[iW] at u;obtain⟨c,X,e⟩:=iq u;cases e;exact mM X
  .subst z;exact absurd hd R
 .rcases z with z|z|z
  .exact .inl (GD I t<|Li.mp z)
  .rcases z with z|z
   .exact .inr z
   .exact .inl z.1
  .subst z;exact absurd hd R
 .have F:SK (λi=>Ls f<=i) (C.map I8++ac k J4) (g.map I8++ac k J4) q σ' δ' G:=
   ⟨λa o N n=>M.kp a o (B a o N) n (by intro z;subst z;rw[N] at hd;cases hd),λi a z=>(M.owi i a z).imp id λz=>z.imp (λz=>by
    cases U:q a with
    |none=>rfl
    |some o=>exact absurd z<|nz a<|by rw[U];simp) id,λa z=>M.dm a<|nz a z,M.as⟩
  rcases S with _|_|_
  .obtain⟨us,hy,ry⟩:=w.at';have P:=oW (r:=(.oth .set [] m,KE)) (v:= .ref d) L F W ⟨d,rfl,hd,w.er,us,hy,RepL.mono (λ_ _ e _=>e) (λb _ z=>z) ry⟩;exact kq (.ref d) G<|(vh A I t Y P).pre D
  .obtain⟨ys,hy,ry⟩:=w.at';have P:=oW (r:=(.lst m,KE)) (v:= .ref d) L F W ⟨d,rfl,hd,w.er,ys,hy,RepL.mono (λ_ _ e _=>e) (λb _ z=>z) ry⟩;exact kq (.ref d) G<|(vh A I t Y P).pre D
  .have P:=oW (r:=(.int (Hr m).2,J)) (v:= .int (Hr m).2) L F W ⟨w.er.mono (λ_ _ e _=>e) (λb _ z=> .inl z) λa z=>w.er.dom a<|.inl z,Rep.mkInt⟩;exact⟨_,_,d,rfl,w.at',kq (.int (Hr m).2) G<|(vh A I t Y P).pre D⟩
def Dz{K:gy}{a:ja}{k:Nat}{c:FIt}{e:Tg}{ti:FT}{b:FB}{f:L2.St}{U:Hp}{Q:VK}(h:tF K (gE a k c e ti b) f U Q):
  J2 (tI K (λi=>i∉a) c) (tG K (λi=>Ls a<=i) e) (tT K ti) (λd=>tBx J K (λi=>Ls a<=i) d b) (EM a k) f U Q:=Ao (S:=J) h
section
variable {X:Cx}{elt:gm}{c:mJ}{ir:nQ}{scope:jt}{pos f7 py:bB}{N':hU}{caps:ja}{k:Nat}{fi:FIt}{tg:Tg}{ti:FT}{fb:FB}{A L:iO}{H0:Hp}
structure CompOk(X:Cx)(N':hU)(scope:jt)(caps:ja)(k:Nat):Prop where
 cell: ∀y∈scope.names,y.2= .cell->scope.names.lookup y.1=I8 .cell
 kind:scope.kind= .function
 names: ∀y∈scope.names,y.2= .local->scope.names.lookup y.1=I8 .local
 free: ∀y∈scope.names,y.2= .free->X.env.scope.names.lookup y.1=I8 .cell\/X.env.scope.names.lookup y.1=I8 .free
 len:(Ls caps)+k=Ls N'
 caps: ∀(i j:Nat) (x:aO),caps[i]?=I8 j->N'[i]?=I8 x->X.N[j]?=I8 x/\scope.names.lookup x=I8 .free
def CompOk.sco(U:CompOk X N' scope caps k):CompScope X N' scope (EM caps k):=by
 refine⟨U.cell,U.kind,U.names,U.free,λd=>by simp[EM,U.len],λd i v x h1 f=>?_⟩;unfold EM at h1;by_cases b:i<Ls caps
 .rw[sd<|by simpa using b,iW,gY b] at h1;obtain⟨g,h⟩:=U.caps i caps[i] x (gY b) f;refine⟨h,caps[i],g,?_⟩;have a:(d[caps[i]]?).join=I v:=by simpa using h1
  cases e:d[caps[i]]? with
  |none=>rw[e] at a;cases a
  |some y=>rw[e] at a;exact nh I a
 .rw[nU<|by simpa using b,cZ] at h1;split at h1<;>cases h1
def NB(T:CompOk X N' scope caps k)(m:X.calm=Y)(l:c.is_async=0)(o: ∀e,ir[0]?=I e->e.is_async=0)
  (n: ∀x,au c.iter X.env x=pure x)(q:PIX X (λi=>i∉caps) c.target c.iter fi)
  (p: ∀(cl:lA) (T:fV) (r:fY) (f:Hp) (j:jz) (a:gU),let b:=X.comp N' scope cl T r f j a
   PGX b (λi=>Ls caps<=i) c.target tg/\PIf b c.ifs (tT X.K ti)/\ ∀d,PB b (hW (.ListComp elt (c::ir) scope pos) 0 (.ref d) b.env)<|tBx J X.K (λi=>Ls caps<=i) d fb):
  PX X (.ListComp elt (c::ir) scope pos) (gE caps k fi tg ti fb):=PX.imp (Lb (g:=tG X.K (λi=>Ls caps<=i) tg) (ti:=tT X.K ti) (tb:=λd=>tBx J X.K (λi=>Ls caps<=i) d fb) T.sco m l o n q p) λs U Q h=>Dz h
def KD{y:aO}{i:Nat}(m:cE (.ListComp elt (c::ir) scope pos) (I<|.Name y py) f7.line X.env=pure Y)
  (C:CompOk X N' scope caps k)(u:X.calm=Y)(t:c.is_async=0)(U: ∀h,ir[0]?=I h->h.is_async=0)
  (z: ∀x,au c.iter X.env x=pure x)(G:PIX X (λi=>i∉caps) c.target c.iter fi)(n:PG X (.Name y py) (Di i))(s:A i)
  (O: ∀(cl:lA) (C:fV) (J:fY) (l:Hp) (o:jz) (a:gU),let b:=X.comp N' scope cl C J l o a
   PGX b (λi=>Ls caps<=i) c.target tg/\PIf b c.ifs (tT X.K ti)/\ ∀d,PB b (hW (.ListComp elt (c::ir) scope pos) 0 (.ref d) b.env)<|tBx K2 X.K (λi=>Ls caps<=i) d fb):
  PSX X A L H0 (.Assign [.Name y py] (.ListComp elt (c::ir) scope pos) f7) (iT i<|gE caps k fi tg ti fb):=PS.imp' (KN (g:=tG X.K (λi=>Ls caps<=i) tg) (ti:=tT X.K ti) (tb:=λd=>tBx K2 X.K (λi=>Ls caps<=i) d fb) m C.sco u t U z G n O) λD N H B=>by
 obtain⟨M,T,Q,E,fi,e,k⟩:=B;obtain⟨⟨r,f⟩,q,e⟩:=fS e;obtain⟨w,rfl⟩:=gP e;refine Dz ⟨M,T,r,f,E,q,λv j P=>?_⟩;obtain⟨h1,p⟩:=yn (A:=A) E P w s;exact k _ j h1 p
end
section
variable {K:gy}{T:AP'}{d:L2.St}{c:Dn}{H:Hp}{i:Nat}{l g:List D}{a:fV}{m:List V}
def OwnI.write{j:Nat}{b:fV}(hd:c[i]?=I (I (.lst l,Y)))(h:OwnI d (c.set i<|I (.lst g,Y)) j b):OwnI d c j b:=by
 obtain⟨e,h1,f⟩:=h;rcases kH h1 with⟨rfl,_,_⟩|⟨_,q⟩
 .exact⟨_,hd,f⟩
 .exact⟨e,q,f⟩
def ER.write(E:ER K H T d c)(hd:c[i]?=I (I (.lst l,Y)))(t:d[i]?=I (I<|.ref a))(r:RepL K H (λb=>OwnA d c b\/T b) g m):
  ER K (upd H a<|.lst m) T d (c.set i<|I (.lst g,Y))/\Keep d c H (c.set i<|I (.lst g,Y)) (upd H a<|.lst m):=by
 have N:i<(Ls c):=(qc.mp hd).1;have v:OwnA d c a:=⟨i,_,hd,t⟩
 have C: ∀b,OwnA d (c.set i<|I (.lst g,Y)) b->OwnA d c b:=λb a'=>by
  obtain⟨j,e,h1,s⟩:=a'
  obtain⟨L,x,y⟩:=OwnI.write hd ⟨e,h1,s⟩;exact⟨j,L,x,y⟩
 have u: ∀b o,H b=I o-> ¬(OwnA d c b\/T b)->upd H a (.lst m) b=I o:=λb o e n=>by rw[gR<|by intro z;subst z;exact n<|.inl v];exact e
 have U: ∀b,H b≠J4->upd H a (.lst m) b≠J4:=λb z=>by
  by_cases B:b=a
  .subst B;rw[gS];simp
  .rw[gR B];exact z
 have sub: ∀b,H b≠J4->(OwnA d (c.set i<|I (.lst g,Y)) b\/T b)->OwnA d c b\/T b:=λb _ z=>z.imp (C b) id;refine⟨⟨by rw[ux];exact E.len,λj e h=>?_,λj e h=>?_,λj k e f b h hk h1 s=>?_,λb z=>E.nT b<|C b z,λb z=>by have ne:b≠a:=λe=>E.nT a v<|e▸z;rw[gR ne];exact E.dom b z⟩,⟨λb o e n=>by rw[gR<|by intro z;subst z;exact n v];exact e,λj b z=>OwnI.write hd z,U⟩⟩
 .rcases kH h with⟨_,_,q⟩|⟨_,q⟩
  .cases q
  .obtain⟨w,p,A⟩:=E.val j e q;exact⟨w,p,Rep.mono u sub A⟩
 .rcases kH h with⟨rfl,_,q⟩|⟨ne,q⟩
  .cases q;exact⟨a,t,m,gS,RepL.mono u sub r⟩
  .obtain⟨b,p,A⟩:=E.own j e q;refine⟨b,p,A.mono u sub λo G=>?_⟩;rw[gR]
   .exact G
   .intro z;subst z;exact ne<|E.inj i j _ _ _ hd q t p
 .obtain⟨O,x,y⟩:=OwnI.write hd ⟨e,h,h1⟩;obtain⟨Q,J,M⟩:=OwnI.write hd ⟨f,hk,s⟩;exact E.inj j k O Q b x J y M
end
noncomputable def jo(i:Nat)(f:F):F:=λδ=>match δ[i]? with
 |some (I (.lst _,Y))=>(f δ).bind λp=>match p.2[i]? with
  |some (I (.lst l,Y))=>if (Ls l)<sizeLine then I ((.non,J),p.2.set i<|I (.lst<|l++[p.1.1],Y)) else C
  |_=>C
 |_=>C
noncomputable def ud(i:Nat)(f:FO):F:=λa=>match a[i]? with
 |some (I (.lst _,Y))=>(f a).bind λp=>match res p.2 p.1,p.2[i]? with
  |some (.int k),I (I (.lst l,Y))=>if -(2^63)<=k/\k<2^63 then(ixN (Ls l) k).bind λj=>(l[j]?).bind λd=>I ((d,J),p.2.set i<|I (.lst<|l.eraseIdx j,Y)) else C
  |_,_=>C
 |_=>C
noncomputable def wj(i:Nat)(f:F)(g:FO):FS:=λa=>(f a).bind λp=>match p.2[i]? with
 |some (I _)=>(g p.2).bind λq=>match res q.2 q.1,q.2[i]? with
  |some (.int k),I (I (.lst l,Y))=>(ixN (Ls l) k).bind λj=>I<|.nx<|q.2.set i<|I (.lst<|l.set j p.1.1,Y)
  |_,_=>C
 |_=>C
section
variable {X:Cx}{e p:gm}{f:F}{s:FO}{q c g m:bB}{i:Nat}{x:aO}{A L:iO}{t:Hp}
theorem RepL.erase{K U}{O:AP'}: ∀{l:List D} {a:List V} (j:Nat),RepL K U O l a->RepL K U O (l.eraseIdx j) (a.eraseIdx j)
 |[],a,j,h=>by rw[RepL] at h;subst h;simp[RepL]
 |d::l,a,0,h=>by rw[RepL] at h;obtain⟨v,r,rfl,h1,b⟩:=h;exact b
 |d::l,a,j+1,h=>by rw[RepL] at h;obtain⟨v,r,rfl,h1,b⟩:=h;exact RepL.cons h1<|RepL.erase j b
def Hz(hv:PO X (.Name x c) (fR i))(N:PX X e f)(i7:b8 (.Name x c) "append" X.env (aK (.Name x c) X.env)=aK (.Name x c) X.env)
  (n8:((aJ m<|aa [e] X.env).all (λx=>!x.1)&&(cw m<|bG [] X.env).all (λx=>x.1.isSome)&&decide ([e].length+([]:List cM).length+(if([]:List cM).isEmpty then 0 else 1)<30))=KE)
  (i6:(g.endLine==m.line)=KE)(z:aa [e] X.env=(K2,aK e X.env)::aa [] X.env)(M:(aJ m<|aa [] X.env).any (·.1)=K2):
  PX X (.Call (.Attribute (.Name x c) "append" g) [e] [] m) (jo i f):=
 PX.imp (Pg Eb PySem.F.slot_list_append PySem.F.type_list_append HU hv (oZ N wo z) i7 n8 i6 z M) λσ H Q U=>by
 obtain⟨h,T,rr,S,E,e,k⟩:=U;unfold jo at e;split at e
 .rename_i l0 u;obtain⟨⟨r,j⟩,h1,e⟩:=fS e;dsimp only at e;split at e
  .rename_i l w;obtain⟨Y,e⟩:=gP e;obtain⟨rfl,rfl⟩:=qj e;refine⟨h,T,.slot i,h,E,by unfold fR;rw[u],λv V P=>?_⟩;obtain⟨O,d,b⟩:=P;obtain⟨a,g1,J,g2,g3⟩:=d.own i _ u;rw[b] at g1;cases g1;refine⟨.inl ⟨rfl,J,SqL.of g2⟩,h,T,r,j,d,h1,λy W o=>?_⟩;obtain⟨n,K⟩:=o.rep d;obtain⟨Z,B,R,D,C⟩:=n.own i _ w;rw[b] at B;cases B;refine⟨_,R,y,rfl,rfl,D,by rw[C.length];exact Y,?_⟩;obtain⟨I,G⟩:=n.write w b<|C.append<|RepL.one K;exact k _ _ (Post.val ((O.trans o.1).trans G) I Rep.mkNon)
  .cases e
 .cases e
def Ku(hv:PO X (.Name x c) (fR i))(he:PO X e s)(i7:b8 (.Name x c) "pop" X.env (aK (.Name x c) X.env)=aK (.Name x c) X.env)
  (n8:((aJ m<|aa [e] X.env).all (λx=>!x.1)&&(cw m<|bG [] X.env).all (λx=>x.1.isSome)&&decide ([e].length+([]:List cM).length+(if([]:List cM).isEmpty then 0 else 1)<30))=KE)
  (i6:(g.endLine==m.line)=KE)(Y:aa [e] X.env=(K2,aK e X.env)::aa [] X.env)(g0:(aJ m<|aa [] X.env).any (·.1)=K2):
  PX X (.Call (.Attribute (.Name x c) "pop" g) [e] [] m) (ud i s):=
 PX.imp (Pg Eb Jv Ju Lz hv (oZ he wo Y) i7 n8 i6 Y g0) λσ H Q hw=>by
 obtain⟨O,T,rr,δ',E,e,k⟩:=hw;unfold ud at e;split at e
 .rename_i l0 M;obtain⟨⟨o,r⟩,h1,e⟩:=fS e;dsimp only at e;split at e
  .rename_i D l hk N;split at e
   case isFalse=>cases e
   rename_i U;obtain⟨j,hj,e⟩:=fS e;obtain⟨d,hd,e⟩:=fS e;obtain⟨rfl,rfl⟩:=gA e;refine⟨O,T,.slot i,O,E,by unfold fR;rw[M],λv H1 P=>?_⟩;obtain⟨W,u,h⟩:=P;obtain⟨a,g1,Z,g2,g3⟩:=u.own i _ M;rw[h] at g1;cases g1;refine⟨.inl ⟨rfl,Z,SqL.of g2⟩,O,T,o,r,u,h1,λy V J=>?_⟩;have B:=Ops.cons u J<|Ops.nil<|J.er u;have vy:=gO<|B.view (j:=0) K3 K3 hk;have G:ER X.K V T σ r:=B.er.mono (λ_ _ e _=>e) (λb _ z=>B.tt b z) λa z=>B.er.dom a<|B.tt a z;obtain⟨a',F,R,q2,I⟩:=G.own i _ N;rw[h] at F;cases F;obtain⟨w,w1,w2⟩:=I.get hd;have hl:=I.length;have eI:ixN R.length D=I8 j:=by rw[hl];exact hj
   obtain⟨s1,s2,s3,s4⟩:=BO eI;obtain⟨S,C⟩:=G.write N h<|RepL.erase j I;refine⟨_,R,D,j,w,rfl,by rw[vy],q2,U.1,U.2,s1,w1,?_⟩;exact k _ _ (Post.val ((W.trans B.keep).trans C) S<|Rep.mono (λb o e n=>C.kp b o e λz=>n<|.inl z) (λb _ z=>z.imp (C.ow b) id) w2)
  .cases e
 .cases e
def HD{h:bB}(hv:PO X (.Name x c) (fR i))(he:PX X e f)(hi:PO X p s)
  (ha: ∀v,bz (.Subscript (.Name x c) p h) X.env v=(do
   let C' <-bt [v] (aK (.Name x c) X.env)
   let O <-bt [v,C'] (aK p X.env)
   cc h
   bt [v,C',O] (eF C' O v)
   g8 [v,C',O] []))
  (hs:ci [.Subscript (.Name x c) p h] e q.line X.env=pure K2)(I:cj [.Subscript (.Name x c) p h] e X.env=pure C)
  (h1:(av [.Subscript (.Name x c) p h] X.env).map (·.2)=[bz (.Subscript (.Name x c) p h) X.env]):
  PSX X A L t (.Assign [.Subscript (.Name x c) p h] e q) (wj i f s):=PS.imp' (EL he (K9 hv hi Kd ha) hs I h1) λD Q H I=>by
 obtain⟨U,T,out,E,fi,e,k⟩:=I;obtain⟨⟨r,d⟩,h1,e⟩:=fS e;dsimp only at e;split at e
 case h_2=>cases e
 rename_i y0 V;obtain⟨⟨o,y⟩,W,e⟩:=fS e;dsimp only at e;split at e
 .rename_i kk l hk J;obtain⟨j,Z,e⟩:=fS e;cases e;refine⟨U,T,r,d,E,h1,λv F n=>⟨d,Tmp T r v,.slot i,d,n.er E,by unfold fR;rw[V],λv2 H2 u=>⟨d,Tmp T r v,o,y,u.er<|n.er E,W,λv3 P P3=>?_⟩⟩⟩;have S:PostO X.K T Q U H (.val r) d v F:=n;have B:=Ops.cons E S<|Ops.cons (n.er E) u<|Ops.cons (u.er<|n.er E) P3<|Ops.nil<|P3.er<|u.er<|n.er E;have G:ER X.K P T Q y:=B.er.mono (λ_ _ e _=>e) (λb _ z=>B.tt b z) λa z=>B.er.dom a<|B.tt a z;have w:Q[i]?=I8 (I8 v2):=u.2.2;obtain⟨a,M,xs,q2,N⟩:=G.own i _ J;rw[w] at M;cases M;have vk:=gO<|B.view (j:=2) K3 K3 hk;have rv:=B.rep E (j:=0) (r:=r) K3 K3;refine⟨a,xs,kk,j,rfl,vk,q2,by rw[N.length];exact Z,?_⟩;obtain⟨Y,R⟩:=G.write J w<|RepL.set rv j N;exact k _ _ (B.keep.trans R).sk Y
 .cases e
end
noncomputable def CF(a:Tg)(f:F):FS:=λδ=>(f δ).bind λp=>(a p.1.1 p.2).bind λδ1=>I<|.nx δ1
section
variable {X:Cx}{A L:iO}{l:Hp}{a b d e:gm}{fs:List F}{f:F}{t:Tg}{c n m pt h:bB}{x y:aO}{i j:Nat}{kt k2}
def NN(C:PX X e f)(U:PGX X A d t)(O:ci [d] e c.line X.env=pure K2)(o:cj [d] e X.env=pure J4)(h1:(av [d] X.env).map (·.2)=[bz d X.env]):
  PSX X A L l (.Assign [d] e c) (CF t f):=PS.imp' (EL C U O o h1) λD N H o=>by
 obtain⟨J,T,Q,E,M,e,k⟩:=o;obtain⟨⟨r,g⟩,h1,e⟩:=fS e;obtain⟨p,B,e⟩:=fS e;cases e;refine⟨J,T,r,g,E,h1,λv w P=>?_⟩;obtain⟨u,G⟩:=P.rep E;exact⟨g,T,r.1,p,u,G,B,λq z s=>k q w (P.1.sk.trans z) s⟩
def NF{id:String}{p:bB}{k:jg}{o:List FO}{g:List D->Option (D×Bool)}{z:aO}(r:jw X (.builtin id) (rDn X.K g))(u:Gl X z)(v:X.mg z=C)(hv:aE z=I (.builtin id))(q:PA X (e::k) (tA X.K o))(w:z≠"__name__")(U:(z==("__debug__":aO))=J)
  (s:aa (e::k) X.env=(J,aK e X.env)::aa k X.env)(B:(aJ c<|aa k X.env).any (·.1)=J):PX X (.Call (.Name z p) (e::k) [] c) (gf g o):=pxn<|CM r u v hv q w U s B
def Nt{id:String}{p:bB}{k:jg}{o:List FO}{g:List D->Option (D×Bool)}{z:aO}(r:jw X (.type id) (rDn X.K g))(u:Gl X z)(v:X.mg z=C)(hv:aE z=I (.type id))(q:PA X (e::k) (tA X.K o))(w:z≠"__name__")(U:(z==("__debug__":aO))=J)
  (s:aa (e::k) X.env=(J,aK e X.env)::aa k X.env)(B:(aJ c<|aa k X.env).any (·.1)=J):PX X (.Call (.Name z p) (e::k) [] c) (gf g o):=pxn<|oK r u v hv q w U s B
end
def R8:aE "abs"=I (.builtin "abs"):=by decide+kernel
noncomputable def Cc(N:hU)(c scope:jt)(b:hU)(a:ja)(k:Nat):Bool:=
 (scope.names.all λy=>y.2 != .cell||scope.names.lookup y.1==I .cell)&&decide (scope.kind= .function)&&(scope.names.all λy=>y.2 != .local||scope.names.lookup y.1==I .local)&&
 (scope.names.all λy=>y.2 != .free||(c.names.lookup y.1==I .cell||c.names.lookup y.1==I .free))&&decide (Ls a+k=Ls b)&&
 ((a.zip b).all λp=>N[p.1]?==I p.2&&scope.names.lookup p.2==I .free)
def MA(m:X.N=N)(p:X.env.scope=sc)(h:Cc N sc scope N' a k=Y):CompOk X N' scope a k:=by
 subst m;subst p;unfold Cc at h;simp only[lL,lO,vK] at h;obtain⟨⟨⟨⟨⟨h1,c⟩,d⟩,f⟩,g⟩,l⟩:=h;refine⟨λy b e=>?_,c,λy b e=>?_,λy b e=>?_,g,λi j x n q=>?_⟩
 .have:=h1 y b;rw[e] at this;simpa using this
 .have:=d y b;rw[e] at this;simpa using this
 .have:=f y b;rw[e] at this;simpa using this
 .have o:(j,x)∈a.zip N':=by
   have:(a.zip N')[i]?=I (j,x):=by rw[Ck];exact⟨n,q⟩
   exact mM this
  have:=l _ o;simpa using this
noncomputable def gK:FT:=λδ=>I (Y,δ)
def KZ{X:Cx}:PIf X [] (tT X.K gK):=λa s d O Q U h=>by obtain⟨f,T,b,c,E,e,k⟩:=h;cases e;exact NX a s d O Q U<|k O .refl E
inductive Ty where
 |int|bool|str|tuple|list|dict
noncomputable def Ty.n:Ty->String
 | .int=>"int"| .bool=>"bool"| .str=>"str"| .tuple=>"tuple"| .list=>"list"| .dict=>"dict"
noncomputable def isT:D->Ty->Bool
 | .bl _,.bool=>Y
 | .bl _,.int=>Y
 | .int _,.int=>Y
 | .str _,.str=>Y
 | .tup _,.tuple=>Y
 | .lst _,.list=>Y
 | .oth .dct _ _,.dict=>Y
 |_,_=>J
noncomputable def tyD:D->String
 | .non=>"NoneType"| .bl _=>"bool"| .int _=>"int"| .str _=>"str"| .tup _=>"tuple"| .lst _=>"list"| .oth .dct _ _=>"dict"| .oth .set _ _=>"set"| .oth _ _ _=>"NoneType"
section
variable {X:Cx}{b:gU}{c:L2.St}{H:Hp}{s:fY}
def Dc(K:gy)(d:D)(t:Ty):c7 K (.type<|tyD d) (.type t.n)=I (isT d t):=by
 cases d with
 |oth k _ _=>cases k<;>cases t<;>with_unfolding_all rfl
 |_=>cases t<;>with_unfolding_all rfl
def Lk(U:Inv X b c H s)(h:OthB X.K (H a) k l i us)(hk:k= .dct\/k= .set:=by first|exact .inl rfl|exact .inr K3):s.TypeIs (.ref a) (tyD<|.oth k l i):=by
 cases k with
 |dct=>
  rcases h with⟨d,e,_⟩|⟨d,e,_⟩
  .obtain⟨_,_,i,_,o,g,j,h1,f,_⟩:=(show ObjOk X.prog X.w H s.heap a (.dK d) from U.hok a _ e)
   exact⟨o,h1,f.1⟩
  .obtain⟨_,_,p,_,o,g,j,h1,f,_⟩:=(show ObjOk X.prog X.w H s.heap a (.dT d) from U.hok a _ e)
   exact⟨o,h1,f.1⟩
 |set=>
  obtain⟨_,m,e,_⟩:=h;obtain⟨g,n,t,h1,_⟩:=(show ObjOk X.prog X.w H s.heap a (.stt m) from U.hok a _ e)
  exact⟨_,h1,rfl⟩
 |exc T=>rcases hk with z|z<;>cases z
 |_=>exact h.elim
def qo{K H}(h:jm K H O (.oth k g f) v): ∃a d,v= .ref a/\OthB K (H a) k g f d/\RepL K H O f d:=by
 rcases h with h|⟨a,rfl,h⟩
 .obtain⟨a,d,e,q,r⟩:=h.oth;exact⟨a,d,e,q.2,r⟩
 .obtain⟨d,e,r⟩:=h;exact⟨a,d,rfl,e,r⟩
end
def UE{K:gy}{U:Nat}(h: ∀n∈["int","bool","str","tuple","list","dict"],c7 K (.ref U) (.type n)=I J)(t:Ty){a b:List D}:c7 K (.ref U) (.type t.n)=I (isT (.oth (.exc U) a b) t):=by
 cases t<;>exact h _ (by simp[Ty.n])
section
variable {X:Cx}{c:gU}{f:L2.St}{H:Hp}{s:fY}
def V3(U:Inv X c f H s)(hd:jm X.K H O d x)(g:RelV x u)(h: ∀m,Q (.bool<|isT d t) {s with toks:=m}):
  af (ah X.prog X.w) A (call (.builtin "isinstance") [u,.type t.n]) Q E s:=by
 cases d with
 |non=>have:=JQ hd;subst this;cases g;exact ur PySem.W.kitx_none U.kIn bA (Dc X.K .non t) (λz=>nomatch z) h
 |bl b=>have:=FZ hd;subst this;cases g;exact ur PySem.W.kitx_bool U.kIn bA (Dc X.K (.bl b) t) (λz=>nomatch z) h
 |int b=>have:=gO hd;subst this;obtain⟨m,rfl⟩:=g;exact ur PySem.W.kitx_int U.kIn bA (Dc X.K (.int b) t) (λz=>nomatch z) h
 |str b=>have:=yj hd;subst this;obtain⟨m,rfl⟩:=g;exact ur PySem.W.kitx_str U.kIn bA (Dc X.K (.str b) t) (λz=>nomatch z) h
 |tup l=>obtain⟨a,y,rfl,q,_⟩:=kJ hd;cases g;obtain⟨j,_,⟨o,h1,i,_⟩,_⟩:=U.tuple q;exact ur PySem.W.kitx_tuple U.kIn ⟨o,h1,i⟩ (Dc X.K (.tup l) t) (λz=>nomatch z) h
 |lst l=>obtain⟨a,y,rfl,q,_⟩:=ji hd;cases g;obtain⟨j,_,⟨o,n,h1,i,_⟩,_⟩:=U.list q;exact ur PySem.W.kitx_list U.kIn ⟨o,h1,i⟩ (Dc X.K (.lst l) t) (λz=>nomatch z) h
 |oth k p r=>
  obtain⟨a,B,rfl,q,_⟩:=qo hd;cases g
  cases k with
  |dct=>exact ur PySem.W.kitx_dict U.kIn (Lk U q) (Dc X.K (.oth .dct p r) t) (λz=>nomatch z) h
  |set=>exact ur PySem.W.kitx_set U.kIn (Lk U q) (Dc X.K (.oth .set p r) t) (λz=>nomatch z) h
  |exc T=>obtain⟨_,o,e,h1,i,v⟩:=q;exact ur (i a) U.kIn (show ObjOk X.prog X.w H s.heap a (.frz o<|.own 0) from U.hok a _ e).1 (UE v t) (λz=>nomatch z) h
  |_=>exact q.elim
end
noncomputable def qI(a:List Ty)(d:D):Option (D×Bool):=I (.bl<|a.any<|isT d,J)
section
variable {X:Cx}{e:gm}{c:FO}{b p a:bB}{z:aO}
def Qw{t:Ty}(L:PO X e c)(J:Gl X "isinstance")(M:X.mg "isinstance"=J4)(y:Gl X z)(f:X.mg z=J4)(Y:aE z=I8 (.type t.n))(N:z≠"__name__")(l3:(z==("__debug__":aO))=K2)(hv:aE "isinstance"=I8 (.builtin "isinstance"))
  (s1:aa [e,.Name z a] X.env=(K2,aK e X.env)::aa [.Name z a] X.env)(s2:aa [.Name z a] X.env=(K2,aK (.Name z a) X.env)::aa [] X.env)(j4:(aJ b<|aa [.Name z a] X.env).any (·.1)=K2):
  PX X (.Call (.Name "isinstance" p) [e,.Name z a] [] b) (iN (qI [t]) c):=by
 have G:jw X (.builtin "isinstance") (λm H Q=> ∃(O:AP') (d:D) (x:V),m=[x,.ty t.n]/\jm X.K H O d x/\Q (.bl<|isT d t) H):=by intro l s S H m us Q I r h;obtain⟨O,d,x,rfl,hd,q⟩:=h;obtain⟨u,w',rfl,F,w⟩:=Cr r;cases w;exact V3 I hd F λtk=>⟨.bl _,H,I.tok _,rfl,q⟩
 refine PX.imp (CM G J M hv (oZ L (oZ (N5 (v:= .ty t.n) y f Y K3 N l3) wo s2) s1) (by decide) (by decide) s1 j4) λS H Q U=>?_;obtain⟨P,T,Z,R,E,e,k⟩:=U;obtain⟨⟨o,g⟩,h1,e⟩:=fS e;obtain⟨x,A,e⟩:=fS e;obtain⟨zz,C,e⟩:=fS e;cases C;obtain⟨rfl,rfl⟩:=gA e;refine⟨P,T,o,g,E,h1,λv W i=>?_⟩;have B:=Ops.cons E i<|Ops.nil<|i.er E;refine⟨_,x,v,rfl,B.view (j:=0) K3 K3 A,?_⟩;have:=(B.done k).bl;simpa using this
end
noncomputable def rJ:List D->Option (List Bool)
 |[]=>I []
 | .bl b::l=>(rJ l).map (b:: ·)
 |_::_=>C
noncomputable def mr:D->Option (D×Bool)
 | .lst l=>(rJ l).map λbs=>(.bl<|bs.all id,J)
 |_=>C
noncomputable def Fg:D->Option (D×Bool)
 | .lst l=>(rJ l).map λbs=>(.bl<|bs.any id,J)
 |_=>C
theorem qN{K U}{O:AP'}: ∀{l:List D} {bs:List Bool} {e:List V} {d:il},rJ l=I bs->RepL K U O l e->Vals e d->LSm.BoolsAre d bs
 |[],bs,e,d,h,r,v=>by
  cases h;rw[RepL] at r;subst r;cases v;exact .nil
 | .bl b::l,bs,e,d,h,r,v=>by
  obtain⟨f,h1,rfl⟩:=iq h;rw[RepL] at r;obtain⟨x,j,rfl,g,i⟩:=r;have:=g.bl;subst this
  cases v with
  |cons a c=>cases a;exact .cons b<|qN h1 i c
 | .non::l,_,_,_,h,_,_=>by cases h
 | .int _::l,_,_,_,h,_,_=>by cases h
 | .str _::l,_,_,_,h,_,_=>by cases h
 | .tup _::l,_,_,_,h,_,_=>by cases h
 | .lst _::l,_,_,_,h,_,_=>by cases h
 | .oth _ _ _::l,_,_,_,h,_,_=>by cases h
section
variable {X:Cx}
def uS{h a:gH}{o:en}(hk: ∀b x,b∉[h.objs.size]->(h.push o).get? b=I x->a.get? b=I x)(b:fV)(x:en)(e:h.get? b=I x):a.get? b=I x:=
 hk b x (λz=>by have:=zf.mp z;subst this;exact absurd (iM e)<|oE _) (iF _ e)
def jP(o:X.calm=Y):jw X (.builtin "all") (rDn X.K<|g1 mr):=lY λj s M N x u Q O d z U y np hd h G=>by
 cases d with
 |lst l=>
  obtain⟨bs,n,rfl⟩:=iq h;obtain⟨p,J,rfl,q,r⟩:=ji hd;cases y;obtain⟨c,v,g,_⟩:=U.list q;have a:=qN n r v;have t:X.A.in1.handled=J4:=U.ok.hd o;have k:p<s.heap.objs.size:=by obtain⟨_,e,_⟩:=g.isList;exact iM e
  refine call_all_walk (yd g.isList ⟨s.heap.objs.size,[s.heap.objs.size,p],[s.heap.objs.size],c.toArray.size,_,_,λi=>(bs[i]?).getD Y,rfl,Walks.list t _ p (hX k) c.toArray,
   ⟨⟨_,iQ _ rfl,rfl,rfl⟩,g.isList.push _⟩,λi w L C B m f=>?_,λE T hk=>?_⟩)
  .obtain⟨b,e,rfl⟩:=a.get i w (by simpa using m);dsimp only at f;rw[e] at f;exact sf f
  .rw[hG,a.length,LSm.range_all];exact⟨.bl _,N,U.kept<|uS hk,rfl,G.bl⟩
 |_=>cases h
def Au(o:X.calm=Y):jw X (.builtin "any") (rDn X.K<|g1 Fg):=lY λj s M N x u Q O d z U y np hd h G=>by
 cases d with
 |lst l=>
  obtain⟨bs,n,rfl⟩:=iq h;obtain⟨p,J,rfl,q,r⟩:=ji hd;cases y;obtain⟨c,v,g,_⟩:=U.list q;have a:=qN n r v;have t:X.A.in1.handled=J4:=U.ok.hd o;have k:p<s.heap.objs.size:=by obtain⟨_,e,_⟩:=g.isList;exact iM e
  refine call_any_walk (yd g.isList ⟨s.heap.objs.size,[s.heap.objs.size,p],[s.heap.objs.size],c.toArray.size,_,_,λi=>(bs[i]?).getD K2,rfl,Walks.list t _ p (hX k) c.toArray,
   ⟨⟨_,iQ _ rfl,rfl,rfl⟩,g.isList.push _⟩,λi w L C B m f=>?_,λE T hk=>?_⟩)
  .obtain⟨b,e,rfl⟩:=a.get i w (by simpa using m);dsimp only at f;rw[e] at f;exact sf f
  .rw[hG,a.length,LSm.range_any];exact⟨.bl _,N,U.kept<|uS hk,rfl,G.bl⟩
 |_=>cases h
noncomputable def Md:=gI λi j=>I<|.int (if j>i then j else i)
noncomputable def Mc:=gI λi j=>I<|.int (if j<i then j else i)
def FA(c:X.calm=Y):jw X (.builtin "max") (rDn X.K<|g2 Md):=MC λa s k T x y h Q O d e z U r np h1 b g G=>by obtain⟨i,j,w,rfl,rfl,f,rfl⟩:=xF g;cases f;exact IB c a s k T [x,y] h Q U r ⟨i,j,by rw[gO h1,gO b],G.int⟩
def Fy(c:X.calm=Y):jw X (.builtin "min") (rDn X.K<|g2 Mc):=MC λa s k T x y h Q O d e z U r np h1 b g G=>by obtain⟨i,j,w,rfl,rfl,f,rfl⟩:=xF g;cases f;exact IA c a s k T [x,y] h Q U r ⟨i,j,by rw[gO h1,gO b],G.int⟩
def yv{lo:Int}{n:Nat}{a:lN}(h:ia (λi v=> ∃t,v= .int (lo+(i:Int)*1) t) a n):Vals ((ai n).map λ(k:Nat)=>V.int<|lo+k) a.toList:=by
 have b: ∀(l:il) (m:Nat),(∀(j:Nat) v,l[j]?=I v-> ∃t,v= .int (lo+((m+j:Nat):Int)) t)->Vals ((cP m<|Ls l).map λ(k:Nat)=>V.int<|lo+k) l:=by
  intro l
  induction l with
  |nil=>intro m _;exact .nil
  |cons v l f=>intro m hv;obtain⟨t,e⟩:=hv 0 v H;refine .cons ⟨t,by simpa using e⟩<|f (m+1) λj w d=>?_;obtain⟨g,c⟩:=hv (j+1) w (by simpa using d);exact⟨g,by rw[c];congr 2;first|done|lia⟩
 have:=b a.toList 0 λj v hv=>by obtain⟨t,e⟩:=h.2 j v (by simpa using hv);exact⟨t,by rw[e];congr 1⟩
 rw[jc,h.1,<-List.range_eq_range'] at this;exact this
def EJ{K U}(lo:Int)(n:Nat):RepL K U O (ig lo n) ((ai n).map λ(k:Nat)=>V.int<|lo+k):=by
 unfold ig
 induction(ai n) with
 |nil=>exact RepL.nil
 |cons k l a=>exact RepL.cons Rep.mkInt a
end
def RgOk(lo a:Int):Prop:= -(2^62)<=lo/\lo<2^62/\ -(2^62)<=a/\a<2^62/\(a-lo).toNat<=2^24
instance(lo hi:Int):Decidable (RgOk lo hi):=by unfold RgOk;infer_instance
noncomputable def rgV(lo a:Int):List V:=(ai (a-lo).toNat).map λ(k:Nat)=>V.int<|lo+k
def RgOk.small{lo a:Int}(h:RgOk lo a):q9 lo a 1=Y:=small_one h.1 h.2.1 h.2.2.1 h.2.2.2.1
def Ga(lo a:Int):d7 lo a 1=((a-lo).toNat:Nat):=by rw[w6];split<;>lia
section
variable {c:gM}{w:gB}{A:gJ}{E:gX}{s:fY}
def Fx{Q:List gu->fY->Prop}{r:fV}{lo n:Int}{t u v:n3}(T:A.handled=C)(x:Do s.heap r lo n 1 t u v)(ok:RgOk lo n)
  (B: ∀(g:gH) k (d:lN),(∀b o,s.heap.get? b=I o->g.get? b=I o)->ia (λi v=> ∃t,v= .int (lo+(i:Int)*1) t) d (n-lo).toNat->Q d.toList {s with heap:=g,toks:=k}):
  af (ah c w) A (eJ<|.ref r) Q E s:=by
 unfold eJ;refine fX<|A7<|pH F.entry_proto_collect ?_;rw[rQ F.plain_proto_collect _];refine fX (m:=hD [])<|lK ?_;refine gn ⟨qi F.plain_list_iadd _,pH F.entry_list_iadd ?_⟩;rw[rQ F.plain_list_iadd _];have z:=iQ s.heap (o:=({cls:= .type "list",data:= .seq ([]:List gu).toArray}:en)) H
 let R:h8->fY->Prop:=λr j=> ∃(g:gH) (k:Nat) (d:lN) (l:Nat),r= .ok (.ret<|.ref s.heap.objs.size)/\j={s with heap:=g,toks:=k}/\(∀b o,s.heap.get? b=I o->g.get? b=I o)/\
  g.get? s.heap.objs.size=I {cls:= .type "list",dict:=C,data:= .seq d l,slots:= #[]}/\ia (λi v=> ∃t,v= .int (lo+(i:Int)*1) t) d (n-lo).toNat
 have fin: ∀{r j},R r j-> ∃v,r= .ok (.ret v)/\af (ah c w) A (match v with
   |Value.ref a=>do
    match(<-load a).data with
     |Data.seq xs _=>pure xs.toList
     |_=>kl "internal:collect"
   |_=>kl "internal:collect") Q E j:=λ{r j} O=>by
  obtain⟨g,k,d,l,rfl,rfl,hk,p,y⟩:=O;exact⟨_,rfl,fX (m:=load s.heap.objs.size)<|vU p<|gn<|B g k d hk y⟩
 refine ni (wpAny_extend_range (A:=A) (R:=R) (s:={s with heap:=s.heap.push {cls:= .type "list",data:= .seq ([]:List gu).toArray}}) T (iF _ x) ok.small (Ga lo n) ok.2.2.2.2 _ _ 0 z λg k U l hk p y=>⟨g,k,U,l,rfl,rfl,λb o e=>hk b o (hX<|iM e)<|iF _ e,p,y⟩) (λf j h=>?_) λe j h=>?_
 .cases f with
  |done f=>obtain⟨v,hv,q⟩:=fin h;cases hv;exact q
  |again l=>exact⟨h.1,se h.2 λr L x=>by obtain⟨v,rfl,q⟩:=fin x;exact q⟩
 .obtain⟨v,hv,_⟩:=fin h;cases hv
def Bm{Q₁:gX}{r:fV}{lo g:Int}{t u v:n3}(p:A.handled=C)(l:Do s.heap r lo g 1 t u v)(ok:RgOk lo g)
  (h: ∀(d:gH) k (a:lN),(∀b o,s.heap.get? b=I o->d.get? b=I o)->ia (λi v=> ∃t,v= .int (lo+(i:Int)*1) t) a (g-lo).toNat->Q₁ (.ref d.objs.size) {s with heap:=d.push {cls:= .type "tuple",data:= .seq a},toks:=k}):
  cJ (ah c w) A (.call (.builtin "tuple.__new__") ⟨[.type "tuple",.ref r],[]⟩) (vl Q₁ E) s:=by
 refine vN ?_;refine fX (m:=dg "tuple.__new__" _)<|tj (F.newCall_tuple_1 _)<|gn ⟨qi F.plain_tuple_new _,pH F.entry_tuple_new ?_⟩;rw[rQ F.plain_tuple_new _];have z:=sub_tuple_self;have j:=init_tuple_lookup;have q:=madeHere_tuple;have y:s.TypeIs (.ref r) "range":=⟨_,l,rfl⟩
 have f:A.in1.handled=C:=p
 wp_walk using ql y,Fx f l ok
 intro d k a hk n;have x:a.size<=sizeLine:=by rw[n.1,jB];have:=ok.2.2.2.2;omega
 refine fX (m:=aY a.toList.toArray) ?_;unfold aY;refine lK ?_ (by show a.toList.toArray.size<=sizeLine;simpa using x);refine gn ?_;have e:a.toList.toArray=a:=by simp
 rw[e];exact h d k a hk n
def zB{Q:gX}{r:fV}{lo g:Int}{t u v:n3}(k:A.handled=C)(m:Do s.heap r lo g 1 t u v)(ok:RgOk lo g)
  (h: ∀(f:gH) j (e:lN),(∀b o,s.heap.get? b=I o->f.get? b=I o)->ia (λi v=> ∃t,v= .int (lo+(i:Int)*1) t) e (g-lo).toNat->Q (.ref f.objs.size) {s with heap:=f.push {cls:= .type "tuple",data:= .seq e},toks:=j}):
  af (ah c w) A (call (.type "tuple") [.ref r]) Q E s:=by
 refine callType_codes (Q₁:=λobj a=>a.TypeIs obj "tuple"/\Q obj a) M0 (F.typeCall_tuple_1 _) Jt
  (Bm k m ok λf j e l n=>⟨⟨_,iQ _ rfl,rfl⟩,h f j e l n⟩) λobj a d=>?_
 exact⟨d.1,Js obj _,object_init_meets M0.init.lookup M0.made (by decide) c w A.in1 _ a ⟨d.1,rfl,d.2⟩⟩
end
section
variable {X:Cx}
def Ar:jw X (.type "range") (λc T Q=> ∃i j,c=[.int i,.int j]/\ ∀r,T r=C->Q (.ref r) (upd T r<|.rng i j)):=by intro a s k T c g Q U r h;obtain⟨i,j,rfl,h⟩:=h;obtain⟨u,f,rfl,⟨t,rfl⟩,⟨d,rfl⟩⟩:=Cr r;exact Ch ⟨.ref _,_,U.laid (o:= .rng i j) (λb o e=>iF _ e) (iD _) ⟨_,_,_,iQ _ rfl⟩,rfl,h _ U.fresh⟩
def zC(j:X.calm=Y):jw X (.type "list") (λg T Q=> ∃r lo b,g=[.ref r]/\T r=I (.rng lo b)/\RgOk lo b/\ ∀l,T l=C->Q (.ref l) (upd T l<|.lst<|rgV lo b)):=by intro f s y T g x Q U i h;obtain⟨r,lo,b,rfl,k,ok,h⟩:=h;obtain⟨u,rfl,n⟩:=oG i;cases n;obtain⟨t,u,v,er⟩:=U.hok r _ k;refine call_list_range (A:=X.A) (U.ok.hd j) er ok.small (Ga lo b) ok.2.2.2.2 λp q d c m e a=>?_;have o:=yv a;refine⟨.ref _,_,U.laid m (iD _) (show ObjOk X.prog X.w _ _ _ (.lst<|rgV lo b) from⟨?_,d.toList,c,o,by simpa using e⟩),rfl,h _ U.fresh⟩;have:=ok.2.2.2.2;simp only[rgV,iJ,iH,jB];omega
def yX(m:X.calm=Y):jw X (.type "tuple") (λj T Q=> ∃r lo d,j=[.ref r]/\T r=I (.rng lo d)/\RgOk lo d/\ ∀l,T l=C->Q (.ref l) (upd T l<|.tup<|rgV lo d)):=by intro f s z T j B Q U k h;obtain⟨r,lo,d,rfl,n,ok,h⟩:=h;obtain⟨u,rfl,q⟩:=oG k;cases q;obtain⟨t,u,v,er⟩:=U.hok r _ n;refine zB (A:=X.A) (U.ok.hd m) er ok λi y c p a=>?_;have x:=yv a;have g:Inv X f z T {s with heap:=i,toks:=y}:=U.kept p;refine⟨.ref _,_,g.laid (λb o e=>iF _ e) (iD _) (show ObjOk X.prog X.w _ _ _ (.tup<|rgV lo d) from⟨?_,c.toList,x,by have:=Be i c;simpa using this⟩),rfl,h _ g.fresh⟩;have:=ok.2.2.2.2;simp only[rgV,iJ,iH,jB];omega
noncomputable def gRg(mk:List D->D)(o:Bool):List D->Option (D×Bool)
 |[.int j]=>if RgOk 0 j then I (mk<|ig 0 j.toNat,o) else C
 |[.int i,.int j]=>if RgOk i j then I (mk<|ig i (j-i).toNat,o) else C
 |_=>C
def Gb{K U}(lo a:Int):RepL K U O (ig lo (a-lo).toNat) (rgV lo a):=EJ lo _
variable {a b:gm}{n m:FO}{p g d f:bB}
def Cu(h:upd U r o l=C):U l=C:=by
 by_cases e:l=r
 .subst e;rw[gS] at h;cases h
 .rwa [gR e] at h
def AA{K:gy}{T q:AP'}{s:L2.St}{r c:Dn}{U o:Hp}{os:List Opd}{l:List V}{e:List D}(B:Ops K T s r U os l c o q)(h:tN c os=I e){is:gh}(hd:e=is.map .int):l=is.map .int:=by
 obtain⟨h1,t⟩:=nA h;apply A8;intro j;by_cases k:j<Ls is
 .rw[qU B h (j:=j) (i:=is[j])<|by rw[hd];simp[k]];simp[k]
 .have u:=B.len;subst hd;simp at h1;rw[fu<|by lia,fu<|by simp;lia]
def Qo{T:String}{z:aO}{mk:List D->D}{o:Bool}(hT:(T="list"/\mk= .lst/\o=KE)\/(T="tuple"/\mk= .tup/\o=K2))(M:X.calm=KE)(N:Gl X z)(U:X.mg z=J4)(hv:aE z=I8 (.type T))(Y:z≠"__name__")(l3:(z==("__debug__":aO))=K2)
  (G:Gl X "range")(t9:X.mg "range"=J4)(J:PA X [a,b] (tA X.K [n,m]))
  (s1:aa [.Call (.Name "range" g) [a,b] [] f] X.env=(K2,aK (.Call (.Name "range" g) [a,b] [] f) X.env)::aa [] X.env)(s2:aa [a,b] X.env=(K2,aK a X.env)::aa [b] X.env)
  (j4:(aJ d<|aa [] X.env).any (·.1)=K2)(O:(aJ f<|aa [b] X.env).any (·.1)=K2):
  PX X (.Call (.Name z p) [.Call (.Name "range" g) [a,b] [] f] [] d) (gf (gRg mk o) [n,m]):=by
 have t: ∀{w c:Dn} {os:List Opd},jk [n,m] w=I8 (os,c)->os.length=2:=λ{w c os} h1=>by unfold jk at h1;obtain⟨p,q1,h1⟩:=fS h1;obtain⟨q,v,h1⟩:=fS h1;unfold jk at v;obtain⟨p3,q3,v⟩:=fS v;obtain⟨q4,F,v⟩:=fS v;unfold jk at F;cases F;obtain⟨rfl,rfl⟩:=gA h1;cases v;rfl
 rcases hT with⟨rfl,rfl,rfl⟩|⟨rfl,rfl,rfl⟩
 .refine PX.imp (oK (zC M) N U hv (oZ (oK Ar G t9 Bh J (by decide) (by decide) s2 O) wo s1) Y l3 s1 j4) λZ H Q C=>?_;obtain⟨w,T,S,L,E,e,k⟩:=C;obtain⟨⟨os,c⟩,h1,e⟩:=fS e;obtain⟨R,y,e⟩:=fS e;obtain⟨W,h,e⟩:=fS e;obtain⟨rfl,rfl⟩:=gA e;refine⟨w,T,os,c,E,h1,λV x P B=>?_⟩;unfold gRg at h;split at h
  .obtain⟨s,_⟩:=nA y;have:=t h1;simp at s;omega
  .rename_i i j;obtain⟨ok,rfl⟩:=gP h;refine⟨i,j,AA B y (is:=[i,j]) K3,λr A=>⟨r,i,j,rfl,gS,ok,λl s=>?_⟩⟩;have I: ∀a u,x a=I8 u->upd (upd x r<|.rng i j) l (.lst<|rgV i j) a=I8 u:=λa u e=>kG s a u<|kG A a u e;exact(B.done k) l _ (Cu s) I ⟨rgV i j,gS,Gb i j⟩
  .cases h
 .refine PX.imp (oK (yX M) N U hv (oZ (oK Ar G t9 Bh J (by decide) (by decide) s2 O) wo s1) Y l3 s1 j4) λZ H Q C=>?_;obtain⟨w,T,S,L,E,e,k⟩:=C;obtain⟨⟨os,c⟩,h1,e⟩:=fS e;obtain⟨R,y,e⟩:=fS e;obtain⟨W,h,e⟩:=fS e;obtain⟨rfl,rfl⟩:=gA e;refine⟨w,T,os,c,E,h1,λV x P B=>?_⟩;unfold gRg at h;split at h
  .obtain⟨s,_⟩:=nA y;have:=t h1;simp at s;omega
  .rename_i i j;obtain⟨ok,rfl⟩:=gP h;refine⟨i,j,AA B y (is:=[i,j]) K3,λr A=>⟨r,i,j,rfl,gS,ok,λl s=>?_⟩⟩;have I: ∀a u,x a=I8 u->upd (upd x r<|.rng i j) l (.tup<|rgV i j) a=I8 u:=λa u e=>kG s a u<|kG A a u e;exact(B.done k) _ _ I (Rep.mkTup ⟨gS,B.np<|nOw<|Cu s⟩<|Gb i j)
  .cases h
end
def Src(h:gH)(a l:fV)(i:Nat)(b:lN):Prop:=(h.IsListIter a l i/\h.IsList l b)\/(h.IsTupleIter a l i/\h.IsTuple l b)
section
variable {prog:gM}{w:gB}{A:gJ}{E:gX}{s:fY}{it l:fV}{i:Nat}{c:lN}
def Src.ne(x:Src h it l i c):l≠it:=by intro e;subst e;rcases x with⟨⟨o,h1,b,a⟩,d,g1,g2,n,g3⟩|⟨⟨o,h1,b,a⟩,d,g1,g2,n,g3⟩<;>(rw[h1] at g1;cases g1;rw[a] at g3;cases g3)
def Src.lt(x:Src h it l i c):it<h.objs.size/\l<h.objs.size:=by rcases x with⟨⟨o,h1,_⟩,a,g1,_⟩|⟨⟨o,h1,_⟩,a,g1,_⟩<;>exact⟨iM h1,iM g1⟩
def Src.keep(x:Src h it l i c)(d: ∀o,h.get? it=I o->h'.get? it=I o)(e: ∀o,h.get? l=I o->h'.get? l=I o):Src h' it l i c:=by
 rcases x with⟨⟨o,h1,r⟩,a,g1,b⟩|⟨⟨o,h1,r⟩,a,g1,b⟩
 .exact .inl ⟨⟨o,d _ h1,r⟩,a,e _ g1,b⟩
 .exact .inr ⟨⟨o,d _ h1,r⟩,a,e _ g1,b⟩
def zM{Q:gX}(d:s.heap.IsTupleIter it l i)(q:s.heap.IsTuple l c)(n: ∀x,c[i]?=I x-> ∀b,b.IsTupleIter it l (i+1)->aH it s.heap b->Q x {s with heap:=b})
  (h:c[i]?=C->A.handled=C/\ ∀b e,dk it s.heap b->(∃o,b.get? e=I o/\o.cls= .type "StopIteration")->E (.ref e) {s with heap:=b}):af (ah prog w) A (aL<|.ref it) Q E s:=by
 obtain⟨o,f,p,hd⟩:=id d;obtain⟨u,k,_,t,r⟩:=q;unfold aL;refine fX<|rZ (name:=bh "__next__") d.typeIs Jr<|nc Jr d.typeIs F.entry_tuple_iterator_next ?_<|F.args_tuple_iterator_next_1 _;refine fX (m:=f3 (.ref it) 0)<|ng f hd (x:= .ref l) H ?_;show af _ _ (if(bJ l==am)=Y then _ else _) _ _ s;rw[gD (by show ¬(bJ l==am)=Y;exact jD)];refine fX (m:=f3 (.ref it) 1)<|ng f hd (x:= .int i 0) H ?_;refine fX (m:=seqItems?<|.ref l)<|ya k r ?_
 cases g:c[i]? with
 |some x=>simp only[oB,g];refine fX<|sZ f hd (by simp)<|gn ⟨x,rfl,gn<|n x g _ ⟨_,rY _ f (A6<|rP hd _),(A5 ..).trans p,?_⟩ (pG ..)⟩;rw[rP hd];simp[cu]
 |none=>
  obtain⟨j,h⟩:=h g;simp only[oB,g];refine fX<|rV<|fX<|sZ f hd (by simp) ?_;refine fX (m:=hF (.type "StopIteration") []) ?_;simp -iota only[hF,kS];refine fX<|lK (fX (m:=cv _ _)<|tj (a:=am) (by first|rfl|(simp -iota only[cv];rfl)) ?_) (by size_fits);refine lK ?_ (by size_fits);simp -iota only[vr];refine fX<|Ea ?_
  first|rw[show A.in1.handled=C from j]|rw[j]
  exact fX<|gn<|D9<|h _ _ (((pG ..).extBut.push _).push _) ⟨_,iQ _ rfl,rfl⟩
def Src.item{x:gu}{Q:gX}(st:Src s.heap it l i c)(h:c[i]?=I x)(j: ∀d,Src d it l (i+1) c->aH it s.heap d->Q x {s with heap:=d}):
  af (ah prog w) A (aL<|.ref it) Q E s:=by
 have ne:=st.ne;rcases st with⟨a,b⟩|⟨a,b⟩
 .exact wpAny_nextOf_list_item a b h λd g f=>j d (.inl ⟨g,b.extBut f.extBut ne⟩) f
 .exact zM a b (λk e d g f=>by rw[h] at e;cases e;exact j d (.inr ⟨g,b.extBut f.extBut ne⟩) f) λe=>by rw[h] at e;cases e
def Src.stop{Q:gX}(g:A.handled=C)(st:Src s.heap it l i c)(h:c[i]?=C)
  (f: ∀d e,dk it s.heap d->(∃o,d.get? e=I o/\o.cls= .type "StopIteration")->E (.ref e) {s with heap:=d}):af (ah prog w) A (aL<|.ref it) Q E s:=by
 rcases st with⟨a,b⟩|⟨a,b⟩
 .exact wpAny_nextOf_list_end g a b h f
 .exact zM a b (λx e=>by rw[h] at e;cases e) λ_=>⟨g,f⟩
def Src.new(a:s.heap.IsList l c\/s.heap.IsTuple l c)(f: ∀d,Src d s.heap.objs.size l 0 c->d.objs.size=s.heap.objs.size+1->(∀b o,s.heap.get? b=I o->d.get? b=I o)->Q (.ref s.heap.objs.size) {s with heap:=d}):
  af (ah prog w) A (cU<|.ref l) Q E s:=by
 rcases a with a|a
 .exact yd a (f _ (.inl ⟨⟨_,iQ _ rfl,rfl,rfl⟩,a.push _⟩) (oA ..) λb o e=>iF _ e)
 .exact Er a (f _ (.inr ⟨⟨_,iQ _ rfl,rfl,rfl⟩,a.push _⟩) (oA ..) λb o e=>iF _ e)
end
section
variable {h:gM}{w:gB}{A:gJ}{E:gX}{s:fY}{e f l:fV}{i:Nat}{c:Int}{j:lN}
def Ip{x z:gu}{Q:gX}(he:dq s.heap e f c z)(st:Src s.heap f l i j)(hx:j[i]?=I8 x)(Y:e≠f)(cH:e≠l)
  (hQ: ∀O,gj O e f (c+1) x s.heap.objs.size->Src O f l (i+1) j->O.get? s.heap.objs.size=I8 {cls:= .type "tuple",data:= .seq #[.int c s.toks,x]}->O.objs.size=s.heap.objs.size+1->
   (∀b o,b≠e->b≠f->s.heap.get? b=I8 o->O.get? b=I8 o)->Q (.ref s.heap.objs.size) {s with heap:=O,toks:=s.toks+1}):
  af (ah h w) A (aQ.«enumerate.__next__» ⟨[.ref e],[]⟩) (λfin s'=> ∃v,fin= .done (.ret v)/\Q v s') E s:=by
 obtain⟨H,g,d,n,os⟩:=s;refine fX (m:=f3 (.ref e) 2)<|ng he K3 (x:= .ref f) K3<|fX<|st.item hx λk L J=>?_;replace J:aH f H k:=J;have W:dq k e f c z:=(J.2 e Y).trans he;refine fX (m:=f3 (.ref e) 3)<|ng (s:=⟨k,g,d,n,os⟩) W K3 (x:=cu c) K3 ?_;refine fX (m:=f3 (.ref e) 4)<|ng (s:=⟨k,g,d,n,os⟩) W K3 (x:= .none) K3 ?_;refine fX (m:=mkInt c)<|wpAny_mkInt (s:=⟨k,g,d,n,os⟩) ?_;refine fX (m:=kA (.ref e) 3<|cu<|c+1)<|rO (s:=⟨k,g,d,n+1,os⟩) W (by simp) λr V G=>?_;replace G:aH e k r:=G;replace V:dq r e f (c+1) z:=V;refine fX (m:=kA (.ref e) 4 .none)<|rO (s:=⟨r,g,d,n+1,os⟩) V (by simp) λa S T=>?_;replace T:aH e r a:=T;replace S:dq a e f (c+1) z:=S;refine fX (m:=kS [.int c n,x])<|A4 (s:=⟨a,g,d,n+1,os⟩) ?_;have I:a.objs.size=H.objs.size:=by rw[T.1,G.1,J.1]
 have U:dq (a.push {cls:= .type "tuple",data:= .seq #[.int c n,x]}) e f (c+1) z:=iF _ S;have Z:e<H.objs.size:=iM he;have B:(a.push {cls:= .type "tuple",data:= .seq #[.int c n,x]}).get? H.objs.size=I8 {cls:= .type "tuple",data:= .seq #[.int c n,x]}:=by rw[<-I];exact iQ _ rfl
 have up: ∀b o,b≠e->b≠f->H.get? b=I8 o->(a.push {cls:= .type "tuple",data:= .seq #[.int c n,x]}).get? b=I8 o:=λb o b1 F q=>iF _ (T.extBut b o b1<|G.extBut b o b1<|J.extBut b o F q);have C:Src (a.push {cls:= .type "tuple",data:= .seq #[.int c n,x]}) f l (i+1) j:=L.keep (λo q=>iF _ (T.extBut _ o Y.symm (G.extBut _ o Y.symm q))) λo q=>iF _ (T.extBut _ o cH.symm (G.extBut _ o cH.symm q));have X:(a.push {cls:= .type "tuple",data:= .seq #[.int c n,x]}).objs.size=H.objs.size+1:=by rw[oA,I]
 rw[I];generalize (a.push {cls:= .type "tuple",data:= .seq #[.int c n,x]})=p at U B up C X;refine fX (m:=be<|.ref e) ?_;unfold be;refine fX<|ng (s:=⟨p,g,d,n+1,os⟩) U K3 (x:= .none) K3<|gn ?_;simp -iota only[jb];refine fX<|rV<|fX<|ng (s:=⟨p,g,d,n+1,os⟩) U K3 (x:=z) K3<|fX<|rO (s:=⟨p,g,d,n+1,os⟩) U (by simp) λt R D=>?_;replace D:aH e p t:=D;replace R:dq t e f (c+1) x:=R;refine fX (m:=bb (.ref e)<|.ref H.objs.size) ?_;unfold bb;refine fX<|rO (s:=⟨t,g,d,n+1,os⟩) R (by simp) λu P N=>?_;replace N:aH e t u:=N;replace P:gj u e f (c+1) x H.objs.size:=P;refine rO (s:=⟨u,g,d,n+1,os⟩) P (by simp) λy K M=>?_;replace M:aH e u y:=M;replace K:gj y e f (c+1) x H.objs.size:=K;have all: ∀b o,b≠e->p.get? b=I8 o->y.get? b=I8 o:=λb o b1 q=>M.extBut b o b1<|N.extBut b o b1<|D.extBut b o b1 q;refine fX<|A0<|gn ⟨_,rfl,hQ y K (C.keep (λo q=>all _ o Y.symm q) λo q=>all _ o cH.symm q) (all _ _ (mN Z) B) ?_ λb o b1 F q=>all b o b1<|up b o b1 F q⟩;rw[M.1,N.1,D.1,X]
def wm{x m:gu}{Q:Cn}(p:dq s.heap e f c m)(st:Src s.heap f l i j)(t:j[i]?=I x)(u:e≠f)(q:e≠l)
  (r: ∀g,gj g e f (c+1) x s.heap.objs.size->Src g f l (i+1) j->g.get? s.heap.objs.size=I {cls:= .type "tuple",data:= .seq #[.int c s.toks,x]}->g.objs.size=s.heap.objs.size+1->
   (∀b o,b≠e->b≠f->s.heap.get? b=I o->g.get? b=I o)->Q (I<|.ref s.heap.objs.size) {s with heap:=g,toks:=s.toks+1}):
  af (ah h w) A (ca<|.ref e) Q E s:=by
 have n:s.TypeIs (.ref e) "enumerate":=⟨_,p,rfl⟩
 unfold ca
 exact fX (uq (rZ (name:=bh "__next__") n AZ (nc AZ n Jq
  (Ip p st t u q λg a b c d k=>gn<|r g a b c d k) (Jp _))))
def xn{d:gu}{Q:Cn}(q:A.handled=C)(k:dq s.heap e f c d)(st:Src s.heap f l i j)(t:j[i]?=C)
  (n: ∀a,dk f s.heap a->Q C {s with heap:=a}):af (ah h w) A (ca<|.ref e) Q E s:=by
 have g:s.TypeIs (.ref e) "enumerate":=⟨_,k,rfl⟩
 unfold ca;refine fX<|uq<|rZ (name:=bh "__next__") g AZ<|nc AZ g Jq ?_<|Jp _;refine fX (m:=f3 (.ref e) 2)<|ng k H (x:= .ref f) H<|fX<|st.stop q t λa x u U=>?_;obtain⟨o,r,p⟩:=U;exact fX<|vJ (T:="StopIteration") (b:=Y) ⟨o,r,p⟩ AY<|gn<|n _ u
end
section
variable {X:Cx}{d:gU}{g:L2.St}{H:Hp}{s:fY}{f:gH}
def zK{t':Nat}{ch:jz}{a:fV}{o:HO}(U:Inv X d g H s)(j: ∀b∈ch,qO X d H b)(k: ∀b u,b∉ch->s.heap.get? b=I u->f.get? b=I u)(p:s.heap.objs.size<=a)(new:ObjOk X.prog X.w (upd H a o) f a o):
  Inv X d g (upd H a o) {s with heap:=f,toks:=t'}:=by
 have L:=U.hok.fresh p;have l: ∀b u,H b=I u->b∉ch:=λb u e z=>by have:=(j b z).1;rw[this] at e;cases e
 have up: ∀b u,H b=I u->upd H a o b=I u:=λb u e=>by rw[gR<|lu e L];exact e
 have N: ∀b u,s.heap.get? b=I u->H b=C->upd H a o b=C:=λb u e n=>by rw[gR λz=>by subst z;exact absurd (iM e)<|wE.mpr p];exact n
 refine U.step (g':=s.gens) (d':=s.drawn) (ch:=ch) (λb i=>?_) (λb u _ _ h e _=>k b u h e) (λb u _ _ h e _=>⟨u.slots,k b u h e⟩) (λb u _ e n=>N b u e n)
  (λb u h e=>⟨u,k b u h e⟩) (λb Q e=>up b _ e) (λb _ _ e=>up b _ e) (λb T e=>⟨#[],by rw[up b _ e];simp⟩) (λm E=>?_) (λb u e=>?_) U.bare
 .obtain⟨_,f1,f2,y,A,B⟩:=j b i;exact⟨y,f1,A,B⟩
 .obtain⟨u,x,t,O,r⟩:=E;exact⟨u,x,t,k _ u (λz=>(j _ z).2.1 K3) O,r⟩
 .by_cases i:b=a
  .subst i;rw[gS] at e;cases e;exact new
  .rw[gR i] at e;refine(U.hok b u e).stay (λc v h q=>k c v ?_ q) (λc q=>up c _ q) (λc Q q=>up c _ q) λc _ _ q=>up c _ q;rcases h with z|z
   .rw[z];exact l b u e
   .exact l c _ z
def zL{t':Nat}{ch:jz}(U:Inv X d g H s)(h: ∀b∈ch,qO X d H b)(k: ∀b u,b∉ch->s.heap.get? b=I u->f.get? b=I u):Inv X d g H {s with heap:=f,toks:=t'}:=by
 have i: ∀b u,H b=I u->b∉ch:=λb u e z=>by have:=(h b z).1;rw[this] at e;cases e
 refine U.step (g':=s.gens) (d':=s.drawn) (ch:=ch) (λb w=>?_) (λb u _ _ a e _=>k b u a e) (λb u _ _ a e _=>⟨u.slots,k b u a e⟩) (λb u _ e n=>n)
  (λb u a e=>⟨u,k b u a e⟩) (λb A e=>e) (λb _ _ e=>e) (λb B e=>⟨#[],by rw[e];simp⟩) (λm x=>?_) (λb u e=>?_) U.bare
 .obtain⟨_,f1,f2,o,p,t⟩:=h b w;exact⟨o,f1,p,t⟩
 .obtain⟨u,l,j,y,r⟩:=x;exact⟨u,l,j,k _ u (λz=>(h _ z).2.1 K3) y,r⟩
 .refine(U.hok b u e).stay (λc v a q=>k c v ?_ q) (λc q=>q) λc A q=>q;rcases a with z|z
  .rw[z];exact i b u e
  .exact i c _ z
end
def SqX(b:Bool)(K:gy)(U:Hp)(l:fV)(a:List V):Prop:=if b=Y then SqL K U l a else SqT K U l a
def ItX(b:Bool)(h:gH)(a l:fV)(i:Nat):Prop:=if b=Y then h.IsListIter a l i else h.IsTupleIter a l i
def ItX.keep(x:ItX b h it l i)(k: ∀o,h.get? it=I o->h'.get? it=I o):ItX b h' it l i:=by
 cases b
 .exact PySem.Heap.IsTupleIter.at (show h.IsTupleIter it l i from x) k
 .exact PySem.Heap.IsListIter.at (show h.IsListIter it l i from x) k
def ItX.obj(x:ItX b h it l i): ∃o,h.get? it=I o/\ ∀v,o.data≠ .cell v:=by
 cases b<;>(obtain⟨o,e,c,d⟩:=x;exact⟨o,e,λv z=>by rw[d] at z;cases z⟩)
section
variable {X:Cx}{d:gU}{e:L2.St}{H:Hp}{s:fY}
def qY(U:Inv X d e H s)(q:SqX b X.K H l xs)(t:ItX b s.heap it l i): ∃a,Vals xs a/\Src s.heap it l i a.toArray:=by
 cases b with
 |true=>obtain⟨a,v,p,_⟩:=U.list q;exact⟨a,v,.inl ⟨t,p.isList⟩⟩
 |false=>obtain⟨a,v,p,_⟩:=U.tuple q;exact⟨a,v,.inr ⟨t,p⟩⟩
def Br(U:Inv X d e H s)(q:SqX b X.K H l xs)(a:SqX b X.K H l c):xs=c:=by
 cases b with
 |true=>exact U.list_inj q a
 |false=>exact U.tuple_inj q a
def Fb(t:ItX b h it l i)(k:Src h it l i xs)(n:Src j it l p xs)(m: ∀o,h.get? l=I o->j.get? l=I o):ItX b j it l p:=by
 cases b with
 |true=>
  rcases n with⟨a,_⟩|⟨a,c⟩
  .exact a
  .rcases k with⟨_,o,h1,f,_⟩|⟨⟨o,h1,f,_⟩,_⟩
   .obtain⟨g,g1,g2,_⟩:=c;rw[m _ h1] at g1;cases g1;rw[f] at g2;injection g2 with g2;exact absurd g2 (by decide)
   .obtain⟨g,g1,g2,_⟩:=t;rw[h1] at g1;cases g1;rw[f] at g2;injection g2 with g2;exact absurd g2 (by decide)
 |false=>
  rcases n with⟨a,c⟩|⟨a,_⟩
  .rcases k with⟨⟨o,h1,f,_⟩,_⟩|⟨_,o,h1,f,_⟩
   .obtain⟨g,g1,g2,_⟩:=t;rw[h1] at g1;cases g1;rw[f] at g2;injection g2 with g2;exact absurd g2 (by decide)
   .obtain⟨g,g1,g2,_⟩:=c;rw[m _ h1] at g1;cases g1;rw[f] at g2;injection g2 with g2;exact absurd g2 (by decide)
  .exact a
end
noncomputable def ItE(b:Bool)(K:gy)(l:fV)(c:Int):It:=⟨λi U=> ∃a x,SqX b K U l a/\a[i]?=I x,
 λi U x d=> ∃(T:fV) (y:V),x= .ref T/\U T=C/\d=upd U T (.tup [.int<|c+i,y])/\ ∀a,SqX b K U l a->a[i]?=I y,λi U=> ∃a,SqX b K U l a/\(Ls a)<=i⟩
def Hj{P:gM}{w:gB}{K:gy}{n:jg}{k1}{pos:bB}(b:Bool)(e j l:fV)(c:Int)(i5:e≠j):
  Turn P w K (.Tuple n k1 pos) (ItE b K l c) [e,j] e (λi h=>(∃d,dq h e j (c+i) d)/\ItX b h j l i) where
 mem:=by simp
 obj:=λi h st a L=>by
  obtain⟨⟨d,g⟩,st⟩:=st;have l6:a=e\/a=j:=by simpa using L
  rcases l6 with rfl|rfl
  .exact⟨_,g,λv z=>by have z':fy _=eu v:=z;cases z'⟩
  .exact st.obj
 keep:=λi h h' st k=>by obtain⟨⟨d,g⟩,st⟩:=st;exact⟨⟨d,k e (by simp) _ g⟩,st.keep λo q=>k j (by simp) o q⟩
 item:=by
  intro X M U J S i m s σ H E I t st N;subst M U J;obtain⟨⟨d,g⟩,st⟩:=st;obtain⟨xs,x,O,Y⟩:=N;obtain⟨D,F,f⟩:=qY I O st;obtain⟨u,hu,ru⟩:=F.get Y
  have G:e≠l:=λz=>by subst z;have V:=(t e<|by simp).1;rcases f with⟨_,o,h1,C',_⟩|⟨_,o,h1,C',_⟩<;>(have Z:s.heap.get? e=_:=g;rw[h1] at Z;cases Z;injection C' with C';exact absurd C'<|by decide)
  refine wm g f (x:=u) (by simpa using hu) i5 G λh' ho y hT hsz kp=>⟨.ref s.heap.objs.size,rfl,?_⟩
  refine wpAny_letOwnedTupleGo_enum ho λB p T=>?_;have r:e<s.heap.objs.size:=iM g
  have R: ∀a o,a∉[e,j]->s.heap.get? a=I8 o->B.get? a=I8 o:=λa o Q q=>by have W:a≠e:=λz=>Q (by simp[z]);have n2:a≠j:=λz=>Q (by simp[z]);exact T.extBut a o W<|kp a o W n2 q
  have bP:B.get? s.heap.objs.size=I8 {cls:= .type "tuple",data:= .seq #[.int (c+i) s.toks,u]}:=T.extBut _ _ (mN r) hT
  have I1:Inv X m σ (upd H s.heap.objs.size<|.tup [.int<|c+i,x]) {s with heap:=B,toks:=s.toks+1}:=
   zK I t R (iD _) (show ObjOk X.prog X.w _ _ _ (.tup [.int<|c+i,x]) from⟨by show 2<=sizeLine;decide,[.int (c+i) s.toks,u],.cons ⟨_,rfl⟩<|.cons ru .nil,_,bP,rfl,0,rfl⟩)
  have A:ItX b B j l (i+1):=by refine Fb st f (y.keep (λo q=>T.extBut _ o i5.symm q) λo q=>T.extBut _ o G.symm q) λo q=>R l o ?_ q;have:=f.ne;simp only[jF,kD,lF,nR];exact⟨G.symm,this⟩
  refine⟨.ref s.heap.objs.size,_,I1,rfl,⟨_,x,rfl,I.fresh,rfl,λys hy=>by rw[Br I hy O];exact Y⟩,⟨⟨u,?_⟩,A⟩,λa L=>?_⟩
  .have e1:c+((i+1:Nat):Int)=c+i+1:=by lia
   show dq B e j (c+((i+1:Nat):Int)) u;rw[e1];exact p
  .have V:=(t a L).1;rw[gR]
   .exact V
   .intro z;have k4:a=e\/a=j:=by simpa using L
    rcases k4 with rfl|rfl
    .exact absurd z (hX r)
    .exact absurd z (hX f.lt.1)
 done:=by intro X M U J S i m s σ H E I t st N;subst M U J;obtain⟨⟨d,g⟩,st⟩:=st;obtain⟨xs,O,Y⟩:=N;obtain⟨D,F,f⟩:=qY I O st;have hl:=F.length;exact xn (I.ok.hd S) g f (by simp;lia) λh' eb=>⟨rfl,zL (t':=s.toks) I t λa o Q q=>eb a o (λz=>Q<|by simp[z]) q⟩
 self:=λ_ _ _ _ _ st h=>by obtain⟨⟨d,g⟩,_⟩:=st;exact o8 g h
def yo{K U}(q:SqA b K U P a xs):SqX b K U a xs:=by
 cases b with
 |true=>exact q.l
 |false=>exact q.t
def H9{K:gy}{P O:AP'}{h:Hp}{a:fV}{g:List V}{l:List D}{b:Bool}{c:Int}(q:SqA b K h P a g)(r:RepL K h O l g)(A: ∀a,P a->O a):
  ItOk K (ItE b K a c) (l.zipIdx.map λp=> .tup [.int<|c+p.2,p.1]) P O h:=by
 have sq: ∀Hi,(∀a o,h a=I o-> ¬P a->Hi a=I o)->SqX b K Hi a g:=λHi f=>yo<|q.mono f λ_ z=>z;refine⟨λi d Hi hd f=>?_,λi Hi M f=>⟨g,sq Hi f,by rw[r.length];simpa using M⟩⟩;rw[iW] at hd;obtain⟨⟨Q,j⟩,h1,u⟩:=iq hd;rw[Ed] at h1;obtain⟨G,v,w⟩:=iq h1;obtain⟨rfl,rfl⟩:=qj w;obtain⟨x,s,N⟩:=r.get v;refine⟨⟨g,x,sq Hi f,s⟩,λy U E=>?_⟩;obtain⟨T,z,rfl,m,rfl,k⟩:=E;have k:=k g<|sq Hi f;rw[s] at k;cases k;have ext:=kG (o:= .tup [.int<|c+i,x]) m;refine⟨ext,λL h1 t=>?_⟩;subst u;refine Rep.mkTup ⟨gS,t T m⟩<|RepL.cons ?_<|RepL.cons (Rep.mono (λb o e n=>ext b o<|f b o e λz=>n<|A b z) (λb B z=>h1 b B z) N) RepL.nil;simp only[vI];exact Rep.mkInt
open AutoSeq1 (wpAny_loadPart')
section
variable {f:gM}{w:gB}{A:gJ}{E:gX}{s:fY}
def RM{T a:String}{self:gu}{rz:il}{kw:List (aO×gu)}(g:nm (.type T) "__init__"=pure (I<|.builtin "object.__init__"))(h:Bind.madeBy (.type T)=pure (I a))(i:(I a !=I "object.__new__")=Y):
  fr (aQ.«object.__init__» ⟨self::rz,kw⟩) (λ_ R s=>s.TypeIs self T/\R (.ok<|.ret .none) s):=by
 refine Meets.of_wp λf w A R s d=>?_;obtain⟨e,c⟩:=d;by_cases b:(!rz.isEmpty||!kw.isEmpty)=Y
 .unfold aQ.«object.__init__»;simp only[b,jb]
  repeat (any_goals (first|assumption|wp_step))
  exact⟨_,rfl,c⟩
 .unfold aQ.«object.__init__»;simp only[b,jh];exact gn ⟨_,rfl,c⟩
def FF{T b:String}{t:aQ}{a:il}{kw:List (aO×gu)}{S:PySem.Spec}{Q:gX}(i:TypeCalled T b "object.__init__")(U:(I b !=I "object.__new__")=Y)(M:x0 T ⟨a,kw⟩=pure ())
  (n:dg b ⟨.type T::a,kw⟩=pure ())(p: ∀obj,fm "object.__init__" ⟨obj::a,kw⟩)(j:k0 vn b=I t)(g:fr (t ⟨.type T::a,kw⟩) S)
  (h:S A.in1 (vl (λobj d=>d.TypeIs obj T/\Q obj d) E) s):af (ah f w) A (call (.type T) a kw) Q E s:=by
 obtain⟨c,J,v⟩:=i.mro;have o:=i.made;have G:=i.sub;refine m9<|vN ?_;show af _ _ (callAny (.type T) _) _ _ _;refine gn ⟨Code.quiet_builtin _ (by decide+kernel),pH F.entry_type_call ?_⟩;rw[fD (Jo T a kw)<|units_type_call_type T a kw];have h1:=i.notType;have O:=i.canCreate
 repeat (any_goals (first|assumption|wp_step))
 refine se (D8 i.plain j<|tj n<|g f w A.in1 _ s h) λr d q=>?_
 cases r with
 |error e=>exact q
 |ok z=>
  cases z with
  |ret obj=>
   obtain⟨u,x⟩:=q;have N:=i.init.lookup;have L:=i.init.bind obj
   repeat (any_goals (first|assumption|wp_step))
   have B:=RM (self:=obj) (rz:=a) (kw:=kw) i.init.lookup i.made U;refine se (D8 i.init.plain Jt<|i.init.check _ _ _ _ _ _ _ _ u (p obj) (B f w A.in1 (vl (λr k=>r= .none/\Q obj k) E) d ⟨u,rfl,x⟩)) λl k m=>?_
   cases l with
   |error e=>exact m
   |ok y=>
    cases y with
    |ret r=>
     obtain⟨rfl,x⟩:=m
     repeat (any_goals (first|assumption|wp_step))
    |_=>exact m.elim
  |_=>exact q.elim
def B9(a b:gu):x0 "enumerate" ⟨[a],[("start",b)]⟩=pure ():=by kernel_rfl
def Dv(a b:gu):dg "enumerate.__new__" ⟨[.type "enumerate",a],[("start",b)]⟩=pure ():=by kernel_rfl
def Ca(o a b:gu):fm "object.__init__" ⟨[o,a],[("start",b)]⟩:=by unfold fm;rw[signature?_of (id:="object.__init__") (n:=['_','_','t','i','n','i','_','_']) (o:=['t','c','e','j','b','o']) (by kernel_rfl) F.owner_object];kernel_rfl
noncomputable def og(a:fV)(c:Int):Obj:={cls:= .type "enumerate",data:= .fields #[.none,.bool J,.ref a,cu c,.none,.none]}
def Io(l:fV)(i:lN):fr (aQ.«enumerate.__new__» ⟨[.type "enumerate",.ref l],[]⟩) (λ_ R s=>(s.heap.IsList l i\/s.heap.IsTuple l i)/\
  ∀e,Src e s.heap.objs.size l 0 i->e.objs.size=s.heap.objs.size+1->(∀b o,s.heap.get? b=I o->e.get? b=I o)->R (.ok<|.ret<|.ref e.objs.size) {s with heap:=e.push (og s.heap.objs.size 0)}):=
 .of_wp λf w A R s h=>by
  obtain⟨k,g,d,n,os⟩:=s;obtain⟨j,h⟩:=h;have m:=wT
  wp_walk
  refine ss λst=>gn ?_;split
  .rename_i c _ _ _ _ _;cases(c==bm "enumerate")<;>(wp_walk using Src.new j;intro e a b c;wp_walk;exact⟨_,rfl,h e a b c⟩)
  .wp_walk using Src.new j
   intro e a b c
   wp_walk
   exact⟨_,rfl,h e a b c⟩
def Im(l:fV)(i:lN)(c:Int)(t:n3)(k:ba c=Y):fr (aQ.«enumerate.__new__» ⟨[.type "enumerate",.ref l],[("start",.int c t)]⟩) (λ_ R s=>(s.heap.IsList l i\/s.heap.IsTuple l i)/\
  ∀e,Src e s.heap.objs.size l 0 i->e.objs.size=s.heap.objs.size+1->(∀b o,s.heap.get? b=I o->e.get? b=I o)->R (.ok<|.ret<|.ref e.objs.size) {s with heap:=e.push (og s.heap.objs.size c)}):=
 .of_wp λf w A R s h=>by
  obtain⟨m,g,d,p,os⟩:=s;obtain⟨j,h⟩:=h;have n:=wT
  wp_walk
  refine ss λst=>gn ?_;split
  .rename_i c _ _ _ _ _;cases(c==bm "enumerate")<;>(wp_walk using Src.new j;intro e a b c;wp_walk;exact⟨_,rfl,h e a b c⟩)
  .wp_walk using Src.new j
   intro e a b c
   wp_walk
   exact⟨_,rfl,h e a b c⟩
def FE(e:s.heap.IsList l xs\/s.heap.IsTuple l xs)
  (h: ∀d,Src d s.heap.objs.size l 0 xs->d.objs.size=s.heap.objs.size+1->(∀b o,s.heap.get? b=I o->d.get? b=I o)->Q (.ref d.objs.size) {s with heap:=d.push (og s.heap.objs.size 0)}):
  af (ah f w) A (call (.type "enumerate") [.ref l]) Q E s:=
 Db F.called_enumerate (by decide) (F.typeCall_enumerate_1 _) (F.newCall_enumerate_1 _) (λobj=>Js obj _) Jn (Io l xs) ⟨e,λd a b c=>⟨⟨_,iQ _ rfl,rfl⟩,h d a b c⟩⟩
def FD(g:s.heap.IsList l xs\/s.heap.IsTuple l xs)(e:ba c=Y)
  (h: ∀d,Src d s.heap.objs.size l 0 xs->d.objs.size=s.heap.objs.size+1->(∀b o,s.heap.get? b=I o->d.get? b=I o)->Q (.ref d.objs.size) {s with heap:=d.push (og s.heap.objs.size c)}):
  af (ah f w) A (call (.type "enumerate") [.ref l] [("start",.int c t)]) Q E s:=
 FF F.called_enumerate (by decide) (B9 _ _) (Dv _ _) (λobj=>Ca obj _ _) Jn (Im l xs c t e) ⟨g,λd a b c=>⟨⟨_,iQ _ rfl,rfl⟩,h d a b c⟩⟩
end
section
variable {X:Cx}{g:gU}{i:L2.St}{H:Hp}{s:fY}{m:jg}{y:Nat}{n:bB}
def GW{R:It->Hp->Prop}{E:gX}{b:Bool}{l:fV}{L:List V}{j:il}{h':gH}{c:Int}(U:Inv X g i H s)(t:SqX b X.K H l L)(k:Src h' s.heap.objs.size l 0 j.toArray)(h:h'.objs.size=s.heap.objs.size+1)
  (B: ∀b o,s.heap.get? b=I o->h'.get? b=I o)(r:R (ItE b X.K l c) H):af (ah X.prog X.w) X.A (cU<|.ref h'.objs.size) (PIE X g i (.Tuple m y n) R) E {s with heap:=h'.push (og s.heap.objs.size c)}:=by
 have q:dq (h'.push<|og s.heap.objs.size c) h'.objs.size s.heap.objs.size c .none:=iQ _ rfl;refine o8 q ?_;have d:Inv X g i H {s with heap:=h'.push (og s.heap.objs.size c)}:=U.kept (t':=s.toks) λb o e=>iF _ (B b o e);have x:h'.objs.size≠s.heap.objs.size:=by rw[h];exact Nat.succ_ne_self _
 refine⟨h'.objs.size,[h'.objs.size,s.heap.objs.size],_,_,H,rfl,d,Hj b h'.objs.size s.heap.objs.size l c x,⟨⟨.none,by simpa using q⟩,?_⟩,λa v=>?_,r⟩
 .have u:=k.keep (h':=h'.push<|og s.heap.objs.size c) (λo e=>iF _ e) (λo e=>iF _ e)
  cases b with
  |true=>
   rcases u with⟨a,_⟩|⟨_,o,h1,f,_⟩
   .exact a
   .obtain⟨_,_,p,_⟩:=d.list t;obtain⟨T,g1,g2,_⟩:=p.isList;rw[h1] at g1;cases g1;rw[f] at g2;injection g2 with g2;exact absurd g2 (by decide)
  |false=>
   rcases u with⟨_,o,h1,f,_⟩|⟨a,_⟩
   .obtain⟨_,_,p,_⟩:=d.tuple t;obtain⟨T,g1,g2,_⟩:=p;rw[h1] at g1;cases g1;rw[f] at g2;injection g2 with g2;exact absurd g2 (by decide)
   .exact a
 .have z:a=h'.objs.size\/a=s.heap.objs.size:=by simpa using v
  rcases z with rfl|rfl
  .exact U.fpOk (by rw[h];exact vP _) (U.hok.fresh<|by rw[h];exact vP _)
  .exact U.fpOk (iD _) (U.hok.fresh<|iD _)
def L7(K:gy)(c:Int)(d:TA):TI:=λi H R=>d i H λe a=> ∃b l f,e=[.ref l]/\SqX b K a l f/\R (ItE b K l c) a
def Bq(U:Inv X g i H s)(q:SqX b X.K H l xs): ∃a,Vals xs a/\(s.heap.IsList l a.toArray\/s.heap.IsTuple l a.toArray):=by
 cases b with
 |true=>obtain⟨a,v,p,_⟩:=U.list q;exact⟨a,v,.inl p.isList⟩
 |false=>obtain⟨a,v,p,_⟩:=U.tuple q;exact⟨a,v,.inr p⟩
def G9:aE "enumerate"=I (.type "enumerate"):=by decide+kernel
def K6{a:gm}{j:TA}{p c:bB}(o:Gl X "enumerate")(t:X.mg "enumerate"=C)(k:PA X [a] j)(v:aa [a] X.env=[(J,aK a X.env)]):PI X (.Tuple m y n) (.Call (.Name "enumerate" p) [a] [] c) (L7 X.K 0 j):=by intro g s i H R U h;refine Call_<|ou U o t G9<|yc (thn (k c g s i H _ U h) λL s1 N=>?_) v K3;obtain⟨O,T,e,A,b,l,Q,hv,f,q⟩:=N;subst hv;obtain⟨u,rfl,B⟩:=oG A;cases B;obtain⟨x,_,r⟩:=Bq e f;exact FE r λE d w z=>GW e f d w z q
def xy{M:gi}{A:gJ}{E:gX}{s:fY}{b:eT}{c:bB}{T:String}{e:gm}{j:List cM}{Q:gX}
  (h:af M A (B1<|aJ c<|aa [e] b) (λv d=>af M A (evalAll ((cw c<|bG j b).map (·.2))) (λo f=>af M A (call (.type T) v (((cw c<|bG j b).filterMap (·.1)).zip o)) Q E f) E d) E s)
  (t:aJ c (aa [e] b)=(J,aK e b)::aJ c (aa [] b))(p:(aJ c<|aa [e] b).any (·.1)=J)(w:(cw c<|bG j b).all (·.1.isSome)=Y)(l:(cw c<|bG j b).any (·.1.isNone)=J):
  af M A (callWith c (.type T) [] (aJ c<|aa [e] b)<|cw c<|bG j b) Q E s:=by
 have q:af M A (evalArgs (.type T) Y (aJ c<|aa [e] b)<|cw c<|bG j b) (λa d=>af M A (call (.type T) ([]++a.pos) a.kw) Q E d) E s:=by rw[t] at h ⊢;exact evalArgs_kwB w h
 unfold callWith;refine fX<|lM<|ni q (λa d k=>fX<|tx ?_) λ_ _ x=>x;simp only[p,l,eY];exact fX<|gn<|fX<|ni k (λr f u=>fX<|lM<|wpAny_point<|gn u) λ_ _ x=>x
def K5{a:gm}{r:TA}{p d U e:bB}{c:Int}{z:Nat}(Q:Gl X "enumerate")(G:X.mg "enumerate"=C)(E:PA X [a] r)(L:ba c=Y)
  (O:aJ d (aa [a] X.env)=(J,aK a X.env)::aJ d (aa [] X.env))(B:(aJ d<|aa [a] X.env).any (·.1)=J):
  PI X (.Tuple m y n) (.Call (.Name "enumerate" p) [a] [⟨I8 "start",.Constant (.int c) z U,e⟩] d) (L7 X.K c r):=by
 intro g s i H R I h;refine vT<|ou I Q G G9<|xy (thn (E d g s i H _ I h) λus s1 a'=>?_) O B K3 K3;obtain⟨vs,j,A,Y',b,l,xs,hv,o,q⟩:=a';subst hv;obtain⟨u,rfl,D⟩:=oG Y';cases D;refine kws_cons<|thn (Lc g s1 i j (λv w=>v= .int c/\w=j) A ⟨rfl,rfl⟩) λv s2 ⟨x,H2,k,rx,J',C'⟩=>kws_nil ?_;subst J';subst C';obtain⟨t,rfl⟩:=rx;obtain⟨N,_,T⟩:=Bq k o;exact FD T L λF f M e=>GW k o f M e q
noncomputable def lT(c:Int)(f:F):FIt:=λδ=>(f δ).bind λp=>match p.1.1 with
 | .tup l=>I (l.zipIdx.map λq=> .tup [.int<|c+q.2,q.1],p.2)
 | .lst l=>I (l.zipIdx.map λq=> .tup [.int<|c+q.2,q.1],p.2)
 |_=>C
def Oa{K:gy}{T:AP'}{i:L2.St}{d c:Dn}{H:Hp}{r:D×Bool}{f:F}{Q:List V->Hp->Prop}(E:ER K H T i d)(h:f d=I (r,c))(k: ∀v l,Keep i d H c l->ER K l T i c->Rep K l (λa=>OwnA i c a\/T a) r.1 v->Q [v] l):tA K [fQ f] i H Q:=by
 refine⟨d,T,[.val r],c,E,?_,λu o w B=>?_⟩
 .show((fQ f d).bind λp=>(jk [] p.2).bind λq=>I (p.1::q.1,q.2))=_;simp only[fQ,h,fe,jk]
 .have t:=B.len;rcases u with _|⟨v,_|⟨_,_⟩⟩<;>try cases t
  exact k v o B.keep (B.er.mono (λ_ _ e _=>e) (λb _ z=>B.tt b z) λa z=>B.er.dom a<|B.tt a z)<|B.rep E (j:=0) K3 K3
def Dw{K:gy}{B:SB}{c:Int}{f:F}{i:L2.St}{H:Hp}{R:It->Hp->Prop}(Q:tI K B (lT c f) i H R):L7 K c (tA K [fQ f]) i H R:=by
 obtain⟨O,T,x,t,E,e,k⟩:=Q;obtain⟨⟨⟨d,o⟩,j⟩,h1,e⟩:=fS e;refine Oa E h1 λv p w u L=>?_
 have h: ∀{l},pK d=I l->I (l.zipIdx.map λq=>D.tup [.int<|c+q.2,q.1],j)=I (x,t)-> ∃b a r,[v]=[V.ref a]/\SqX b K p a r/\R (ItE b K a c) p:=λA e=>by obtain⟨rfl,rfl⟩:=gA e;obtain⟨a,r,rfl,q,U⟩:=zP A L;have q:=q.mono (λ_ _ e _=>e) (P':=OwB B T i j) λa z=>z.own;exact⟨_,a,r,rfl,yo q,k _ p w u (H9 q U λa z=>z.own)⟩
 cases d with
 |tup l=>exact h K3 e
 |lst l=>exact h K3 e
 |_=>cases e
def HJ{B:SB}{a:gm}{f:F}{p b:bB}(d:Gl X "enumerate")(e:X.mg "enumerate"=C)(c:PX X a f)(h:aa [a] X.env=[(J,aK a X.env)])(s0:aa [a] X.env=(J,aK a X.env)::aa [] X.env):
  PIX X B (.Tuple m y n) (.Call (.Name "enumerate" p) [a] [] b) (lT 0 f):=PI.imp' (K6 d e (oM (PX.po c) uF s0) h) λi H R j=>Dw j
def HI{B:SB}{a:gm}{f:F}{p b r q:bB}{c:Int}{z:Nat}(k:Gl X "enumerate")(l:X.mg "enumerate"=C)(e:PX X a f)(h:ba c=Y)(s0:aa [a] X.env=(J,aK a X.env)::aa [] X.env)
  (j:aJ b (aa [a] X.env)=(J,aK a X.env)::aJ b (aa [] X.env))(d:(aJ b<|aa [a] X.env).any (·.1)=J):
  PIX X B (.Tuple m y n) (.Call (.Name "enumerate" p) [a] [⟨I "start",.Constant (.int c) z r,q⟩] b) (lT c f):=PI.imp' (K5 k l (oM (PX.po e) uF s0) h j d) λi H R o=>Dw o
end
section
variable {j:gM}{w:gB}{A:gJ}{E:gX}{s:fY}{z TI TO f d n l:fV}{k:Nat}{i g:lN}{x y a b:gu}
def Px{Q:gX}(D:k7 z TI TO f d n l)(hz:dD s.heap z TI TO .none)(p7:cf s.heap TI (.ref f) (.ref d))(u4:cf s.heap TO a b)(h1:Src s.heap f n k i)(h2:Src s.heap d l k g)
  (hQ: ∀x y,i[k]?=I8 x->g[k]?=I8 y-> ∀G,dD G z TI TO (cu s.heap.objs.size)->cf G TO x y->Src G f n (k+1) i->Src G d l (k+1) g->cf G s.heap.objs.size x y->(∀c o,c≠z->c≠TO->c≠f->c≠d->s.heap.get? c=I8 o->G.get? c=I8 o)->Q (.ref s.heap.objs.size) {s with heap:=G})
  (hE:i[k]?=J4\/g[k]?=J4->A.handled=J4/\ ∀G e,(∀c o,c≠z->c≠TO->c≠f->c≠d->s.heap.get? c=I8 o->G.get? c=I8 o)->(∃o,G.get? e=I8 o/\o.cls= .type "StopIteration")->E (.ref e) {s with heap:=G}):
  af (ah j w) A (aQ.«zip.__next__» ⟨[.ref z],[]⟩) (λfin s'=> ∃v,fin= .done (.ret v)/\Q v s') E s:=by
 have L: ∀{h:gH} {e:fV} {oe:en} {f0:gu},dD h z TI TO f0->h.get? e=I8 oe->oe.cls= .type "StopIteration"->e≠z:=λhzz bC aR q=>by subst q;have R:_=_:=hzz;rw[bC] at R;cases R;injection aR with aR;exact absurd aR (by decide)
 refine fX (m:=f3 (.ref z) 2)<|ng hz K3 (x:= .bool K2) K3<|fX (m:=f3 (.ref z) 3)<|ng hz K3 (x:= .ref TI) K3<|fX<|ya p7 K3<|fX (m:=be<|.ref z) ?_;unfold be;refine fX<|ng hz K3 (x:= .none) K3<|gn ?_;simp -iota only[jb];refine fX<|rV<|fX<|ng hz K3 (x:= .ref TO) K3<|fX<|rO hz (by simp) λH cB K=>?_;replace cB:dD H z TI TO .ellipsis:=cB;refine fX ?_;simp -iota only[ew,List.zipIdx_nil,de,m8];have c1:Src H f n k i:=h1.keep (λo e=>K.extBut _ o D.i1z e) λo e=>K.extBut _ o D.l1z e
 cases hx:i[k]? with
 |none=>obtain⟨hh,hE⟩:=hE<|.inl hx;refine fX<|fX<|AX<|fX (m:=aL<|.ref f)<|c1.stop (s:={s with heap:=H}) hh hx λr e U a'=>?_;obtain⟨oe,bC,aR⟩:=a';have M:dD r z TI TO .ellipsis:=U _ _ D.i1z.symm cB;exact rO (s:={s with heap:=r}) M (by simp) λt _ T=>hE t e (λc o O _ d3 _ q=>T.extBut _ _ O (U _ _ d3 (K.extBut _ _ O q))) ⟨oe,T.extBut _ _ (L M bC aR) bC,aR⟩
 |some x=>
  refine fX<|fX<|AX<|fX (m:=aL<|.ref f)<|c1.item (s:={s with heap:=H}) hx λr V U=>gn ?_;have B:cf r TO a b:=U.extBut _ _ D.TOi1 (K.extBut _ _ D.TOz u4);refine fX<|ya (s:={s with heap:=r}) B K3<|fX<|Jm (s:={s with heap:=r}) B λt bO T=>fX<|A0<|gn ?_;replace bO:cf t TO x b:=bO;have c2:Src t d l k g:=h2.keep (λo e=>T.extBut _ o D.TOi2.symm (U.extBut _ o D.i12.symm (K.extBut _ o D.i2z e))) λo e=>T.extBut _ o D.l2TO (U.extBut _ o D.l2i1 (K.extBut _ o D.l2z e))
  cases hy:g[k]? with
  |none=>obtain⟨hh,hE⟩:=hE<|.inr hy;refine fX<|fX<|AX<|fX (m:=aL<|.ref d)<|c2.stop (s:={s with heap:=t}) hh hy λu e aG a'=>?_;obtain⟨oe,bC,aR⟩:=a';have cA:dD u z TI TO .ellipsis:=aG _ _ D.i2z.symm (T.extBut _ _ D.TOz.symm (U.extBut _ _ D.i1z.symm cB));exact rO (s:={s with heap:=u}) cA (by simp) λp _ F=>hE p e (λc o O d2 d3 d4 q=>F.extBut _ _ O (aG _ _ d4 (T.extBut _ _ d2 (U.extBut _ _ d3 (K.extBut _ _ O q))))) ⟨oe,F.extBut _ _ (L cA bC aR) bC,aR⟩
  |some y=>
   refine fX<|fX<|AX<|fX (m:=aL<|.ref d)<|c2.item (s:={s with heap:=t}) hy λu X aG=>gn ?_;have C:cf u TO x b:=aG.extBut _ _ D.TOi2 bO;refine fX<|ya (s:={s with heap:=u}) C K3<|fX<|Jm (s:={s with heap:=u}) C λp aS F=>fX<|A0<|gn<|gn ?_;replace aS:cf p TO x y:=aS;refine fX<|ya (s:={s with heap:=p}) aS K3<|fX<|A4 (s:={s with heap:=p}) ?_;have hsz:p.objs.size=s.heap.objs.size:=by rw[F.1,aG.1,T.1,U.1,K.1]
   have N:dD p z TI TO .ellipsis:=F.extBut _ _ D.TOz.symm (aG.extBut _ _ D.i2z.symm (T.extBut _ _ D.TOz.symm (U.extBut _ _ D.i1z.symm cB)));have hk₅: ∀c o,c≠z->c≠TO->c≠f->c≠d->s.heap.get? c=I8 o->p.get? c=I8 o:=λc o O d2 d3 d4 e=>F.extBut _ _ d2 (aG.extBut _ _ d4 (T.extBut _ _ d2 (U.extBut _ _ d3 (K.extBut _ _ O e))));have W:Src p f n (k+1) i:=V.keep (λo e=>F.extBut _ o D.TOi1.symm (aG.extBut _ o D.i12 (T.extBut _ o D.TOi1.symm e))) λo e=>F.extBut _ o D.l1TO (aG.extBut _ o D.l1i2 (T.extBut _ o D.l1TO e));have Z:Src p d l (k+1) g:=X.keep (λo e=>F.extBut _ o D.TOi2.symm e) λo e=>F.extBut _ o D.l2TO e;have P:z<p.objs.size:=iM N;refine fX (m:=bb (.ref z)<|.ref p.objs.size) ?_;unfold bb;have hz₆:dD (p.push {cls:= .type "tuple",data:= .seq #[x,y]}) z TI TO .ellipsis:=iF _ N;refine fX<|rO (s:={s with heap:=p.push {cls:= .type "tuple",data:= .seq #[x,y]}}) hz₆ (by simp) λS ej bg=>?_;replace ej:dD S z TI TO (cu p.objs.size):=ej;refine rO (s:={s with heap:=S}) ej (by simp) λI dn Y=>?_;replace dn:dD I z TI TO (cu p.objs.size):=dn;have up: ∀c o,c≠z->p.get? c=I8 o->I.get? c=I8 o:=λc o O e=>Y.extBut _ _ O (bg.extBut _ _ O (iF _ e));have J:cf I p.objs.size x y:=Y.extBut _ _ (mN P) (bg.extBut _ _ (mN P) (iQ _ rfl));rw[hsz] at dn J;refine gn ⟨_,rfl,?_⟩;show Q (.ref p.objs.size) _;rw[hsz];exact hQ x y hx hy I dn (up _ _ D.TOz aS) (W.keep (λo e=>up _ o D.i1z e) λo e=>up _ o D.l1z e) (Z.keep (λo e=>up _ o D.i2z e) λo e=>up _ o D.l2z e) J λc o O d2 d3 d4 e=>up c o O<|hk₅ c o O d2 d3 d4 e
def yw{Q:Cn}(D:k7 z TI TO f d n l)(t:dD s.heap z TI TO .none)(J:cf s.heap TI (.ref f) (.ref d))(M:cf s.heap TO a b)(h1:Src s.heap f n k i)(U:Src s.heap d l k g)
  (L: ∀x y,i[k]?=I x->g[k]?=I y-> ∀h,dD h z TI TO (cu s.heap.objs.size)->cf h TO x y->Src h f n (k+1) i->Src h d l (k+1) g->cf h s.heap.objs.size x y->(∀c o,c≠z->c≠TO->c≠f->c≠d->s.heap.get? c=I o->h.get? c=I o)->Q (I<|.ref s.heap.objs.size) {s with heap:=h})
  (m:i[k]?=J4\/g[k]?=J4->A.handled=J4/\ ∀h,(∀c o,c≠z->c≠TO->c≠f->c≠d->s.heap.get? c=I o->h.get? c=I o)->Q J4 {s with heap:=h}):
  af (ah j w) A (ca<|.ref z) Q E s:=by
 have p:s.TypeIs (.ref z) "zip":=⟨_,t,rfl⟩
 unfold ca
 exact fX (uq (rZ (name:=bh "__next__") p F.slot_zip_next (nc F.slot_zip_next p F.entry_zip_next
  (Px D t J M h1 U (λx y q r h a1 u v B C N=>gn<|L x y q r h a1 u v B C N) λq=>⟨(m q).1,λh e hk ⟨o,G,O⟩=>fX<|vJ (T:="StopIteration") (b:=Y) ⟨o,G,O⟩ AY<|gn<|(m q).2 _ hk⟩) (F.args_zip_next_1 _))))
end
def M3(j c:fV)(l i:lN):fr (aQ.«zip.__new__» ⟨[.type "zip",.ref j,.ref c],[]⟩) (λ_ R s=>(s.heap.IsList j l\/s.heap.IsTuple j l)/\(s.heap.IsList c i\/s.heap.IsTuple c i)/\
  ∀h1 a,Src h1 s.heap.objs.size j 0 l->h1.objs.size=s.heap.objs.size+1->(∀b o,s.heap.get? b=I o->h1.get? b=I o)->Src a h1.objs.size c 0 i->a.objs.size=h1.objs.size+1->(∀b o,h1.get? b=I o->a.get? b=I o)->
   R (.ok<|.ret<|.ref ((a.push {cls:= .type "tuple",data:= .seq #[.ref s.heap.objs.size,.ref h1.objs.size]}).push {cls:= .type "tuple",data:= .seq #[.none,.none]}).objs.size)
    {s with heap:=((a.push {cls:= .type "tuple",data:= .seq #[.ref s.heap.objs.size,.ref h1.objs.size]}).push {cls:= .type "tuple",data:= .seq #[.none,.none]}).push {cls:= .type "zip",data:= .fields #[.none,.bool J,.bool J,.ref a.objs.size,.ref (a.push {cls:= .type "tuple",data:= .seq #[.ref s.heap.objs.size,.ref h1.objs.size]}).objs.size]}}):=
 .of_wp λm w A R s h=>by
  obtain⟨v,g,d,u,os⟩:=s;obtain⟨t,p,h⟩:=h;have x:=sub_zip
  wp_walk using Src.new t
  intro h1 a1 n k
  have f:h1.IsList c i\/h1.IsTuple c i:=by
   rcases p with⟨o,e,r⟩|⟨o,e,r⟩
   .exact .inl ⟨o,k _ _ e,r⟩
   .exact .inr ⟨o,k _ _ e,r⟩
  wp_walk using Src.new (s:=⟨h1,g,d,u,os⟩) f
  intro a b1 q b3
  wp_walk
  exact⟨_,rfl,h h1 a a1 n k b1 q b3⟩
noncomputable def ItZ(b1 c:Bool)(K:gy)(d e:fV):It:=⟨λi U=> ∃a b x y,SqX b1 K U d a/\SqX c K U e b/\a[i]?=I x/\b[i]?=I y,
 λi U x f=> ∃(T:fV) (u v:V),x= .ref T/\U T=C/\f=upd U T (.tup [u,v])/\ ∀a b,SqX b1 K U d a->SqX c K U e b->a[i]?=I u/\b[i]?=I v,
 λi U=> ∃a b,SqX b1 K U d a/\SqX c K U e b/\(Ls a<=i\/(Ls b)<=i)⟩
structure ZA(z TI TO i1 i2:fV):Prop where
 a1:TI≠z
 a2:TO≠z
 a3:i1≠z
 a4:i2≠z
 a5:TI≠TO
 a6:TI≠i1
 a7:TI≠i2
 a8:TO≠i1
 a9:TO≠i2
 a10:i1≠i2
def uB{b:Bool}{K:gy}{T:Hp}{l:fV}{m:List V}{X:Cx}{c:gU}{p:L2.St}{s:fY}(U:Inv X c p T s)(k:X.K=K)(q:SqX b K T l m){h:jz}(i: ∀a∈h,qO X c T a):l∉h:=by
 subst k;intro j;have d:=(i l j).1
 have base: ∀o,X.K.lookup l=I o->False:=λo e=>by
  have g:=U.mod.kin l o e;rcases(i l j).2.2.2.1 with z|z
  .exact U.ok.noex l o g z
  .have:=(U.ok.bs l o g).1;exact absurd (iM this)<|wE.mpr z
 cases b with
 |true=>
  rcases q with(q|⟨o,q⟩)|⟨o,f,n,e,_⟩
  .rw[d] at q;cases q
  .rw[d] at q;cases q
  .exact base o e
 |false=>
  rcases q with(q|⟨o,q⟩)|⟨o,f,n,e,_⟩
  .rw[d] at q;cases q
  .rw[d] at q;cases q
  .exact base o e
def JU{P:gM}{w:gB}{K:gy}{U:jg}{k1}{pos:bB}(b1 b2:Bool)(z TI TO m n G J:fV)(D:ZA z TI TO m n):
  Turn P w K (.Tuple U k1 pos) (ItZ b1 b2 K G J) [z,TI,TO,m,n] z (λi h=>dD h z TI TO .none/\cf h TI (.ref m) (.ref n)/\(∃a b,cf h TO a b)/\ItX b1 h m G i/\ItX b2 h n J i) where
 mem:=by simp
 obj:=λi h st a T=>by
  obtain⟨l,p,⟨u,v,C⟩,s1,B⟩:=st;simp only[jF,kD,lF] at T;rcases T with rfl|rfl|rfl|rfl|rfl
  .exact⟨_,l,λv e=>by have N:fy _=eu v:=e;cases N⟩
  .exact⟨_,p,λv e=>by have N:mA _ _=eu v:=e;cases N⟩
  .exact⟨_,C,λv e=>by have N:mA _ _=eu v:=e;cases N⟩
  .exact s1.obj
  .exact B.obj
 keep:=λi h h' st k=>by obtain⟨l,p,⟨u,v,C⟩,s1,B⟩:=st;exact⟨k z (by simp) _ l,k TI (by simp) _ p,⟨u,v,k TO (by simp) _ C⟩,s1.keep λo q=>k m (by simp) o q,B.keep λo q=>k n (by simp) o q⟩
 item:=by
  intro X hP hw L hc i A s σ H E I t st hg;obtain⟨l,p,⟨a0,b0,C⟩,s1,B⟩:=st;obtain⟨xs,ys,x,y,Q,O,hx,hy⟩:=hg;have d:=uB I L Q t;have f:=uB I L O t;simp only[jF,kD,lF,nR] at d f;subst hP hw L;obtain⟨br,dR,Y⟩:=qY I Q s1;obtain⟨b9,Z,S⟩:=qY I O B;obtain⟨u,hu,ru⟩:=dR.get hx;obtain⟨v,hv,rv⟩:=Z.get hy;have AP:k7 z TI TO m n G J:=⟨D.a1,D.a2,D.a3,D.a4,D.a5,D.a6,D.a7,D.a8,D.a9,D.a10,d.1,d.2.2.1,d.2.2.2.1,d.2.2.2.2,f.1,f.2.2.1,f.2.2.2.1,f.2.2.2.2⟩
  refine yw AP l p C Y S (λx' y' q r h' z' t1 c1 c2 hT V=>?_) λq=>absurd q (by simp[hu,hv]);obtain rfl:u=x':=by simpa[hu] using q
  obtain rfl:v=y':=by simpa[hv] using r
  refine⟨.ref s.heap.objs.size,rfl,?_⟩;refine wpAny_letOwnedTupleGo_zip (s:={s with heap:=h'}) z' λM z'' j=>?_;replace j:aH z h' M:=j
  have W: ∀a o,a∉[z,TI,TO,m,n]->s.heap.get? a=I8 o->M.get? a=I8 o:=λa o g q=>by simp only[jF,kD,lF,nR] at g;exact j.extBut a o g.1<|V a o g.1 g.2.2.1 g.2.2.2.1 g.2.2.2.2 q
  have lt: ∀{c o},s.heap.get? c=I8 o->s.heap.objs.size≠c:=λe=>mN<|iM e;have bP:cf M s.heap.objs.size u v:=j.extBut _ _ (lt l) hT
  have I1:Inv X A σ (upd H s.heap.objs.size<|.tup [x,y]) {s with heap:=M}:=
   zK (t':=s.toks) I t W (iD _) (show ObjOk X.prog X.w _ _ _ (.tup [x,y]) from⟨by show 2<=sizeLine;decide,[u,v],.cons ru<|.cons rv .nil,_,bP,rfl,0,rfl⟩)
  have F:ItX b1 M m G (i+1):=Fb s1 Y (c1.keep (λo q=>j.extBut _ o D.a3 q) λo q=>j.extBut _ o d.1 q) λo q=>W G o (by simp only[jF,kD,lF,nR];exact d) q;have R:ItX b2 M n J (i+1):=Fb B S (c2.keep (λo q=>j.extBut _ o D.a4 q) λo q=>j.extBut _ o f.1 q) λo q=>W J o (by simp only[jF,kD,lF,nR];exact f) q;refine⟨.ref s.heap.objs.size,_,I1,rfl,⟨_,x,y,rfl,I.fresh,rfl,λaT ys' q1 q2=>by rw[Br I q1 Q,Br I q2 O];exact⟨hx,hy⟩⟩,⟨z'',j.extBut _ _ D.a1 (V _ _ D.a1 D.a5 D.a6 D.a7 p),⟨u,v,j.extBut _ _ D.a2 t1⟩,F,R⟩,λa T=>?_⟩;have n0:=(t a T).1;rw[gR]
  .exact n0
  .intro e;simp only[jF,kD,lF] at T;rcases T with rfl|rfl|rfl|rfl|rfl
   .exact lt l e.symm
   .exact lt p e.symm
   .exact lt C e.symm
   .exact absurd e (hX Y.lt.1)
   .exact absurd e (hX S.lt.1)
 done:=by
  intro X hP hw L hc i A s σ H E I t st hg;obtain⟨l,p,⟨a0,b0,C⟩,s1,B⟩:=st;obtain⟨xs,ys,Q,O,hend⟩:=hg;have d:=uB I L Q t;have f:=uB I L O t;simp only[jF,kD,lF,nR] at d f;subst hP hw L;obtain⟨br,dR,Y⟩:=qY I Q s1;obtain⟨b9,Z,S⟩:=qY I O B;have e1:=dR.length;have e2:=Z.length;have AP:k7 z TI TO m n G J:=⟨D.a1,D.a2,D.a3,D.a4,D.a5,D.a6,D.a7,D.a8,D.a9,D.a10,d.1,d.2.2.1,d.2.2.2.1,d.2.2.2.2,f.1,f.2.2.1,f.2.2.2.1,f.2.2.2.2⟩
  refine yw AP l p C Y S (λx y q r=>?_) λ_=>⟨I.ok.hd hc,λh' V=>⟨rfl,zL (t':=s.toks) I t λa o g q=>?_⟩⟩
  .have z1:=(MX.mp q).1;have z2:=(MX.mp r).1;simp at z1 z2;omega
  simp only[jF,kD,lF,nR] at g;exact V a o g.1 g.2.2.1 g.2.2.2.1 g.2.2.2.2 q
 self:=λ_ _ _ _ _ st h=>pw st.1 h
def L0{K:gy}{P O:AP'}{g:Hp}{a1 m:fV}{f h:List V}{s t:List D}{b1 r:Bool}(k:SqA b1 K g P a1 f)(H:RepL K g O s f)(l:SqA r K g P m h)(I:RepL K g O t h)(A: ∀a,P a->O a):
  ItOk K (ItZ b1 r K a1 m) ((s.zip t).map λp=> .tup [p.1,p.2]) P O g:=by
 have sq: ∀{b:Bool} {a:fV} {f:List V},SqA b K g P a f-> ∀Hi,(∀a o,g a=I8 o-> ¬P a->Hi a=I8 o)->SqX b K Hi a f:=λq Hi c=>yo<|q.mono c λ_ z=>z;refine⟨λi d Hi hd c=>?_,λi Hi N c=>⟨f,h,sq k Hi c,sq l Hi c,by rw[H.length,I.length];simp at N;lia⟩⟩;rw[iW] at hd;obtain⟨⟨W,X⟩,h1,G⟩:=iq hd;obtain⟨J,M⟩:=Ck.mp h1;obtain⟨x,C,Y⟩:=H.get J;obtain⟨y,E,F⟩:=I.get M;refine⟨⟨f,h,x,y,sq k Hi c,sq l Hi c,C,E⟩,λv R Q=>?_⟩;obtain⟨T,u,w,rfl,B,rfl,U⟩:=Q;obtain⟨g1,g2⟩:=U f h (sq k Hi c)<|sq l Hi c;rw[C] at g1;cases g1;rw[E] at g2;cases g2;have ext:=kG (o:= .tup [x,y]) B;refine⟨ext,λS h1 L=>?_⟩;subst G;exact Rep.mkTup ⟨gS,L T B⟩<|RepL.cons (Rep.mono (λb o e n=>ext b o<|c b o e λz=>n<|A b z) (λb j z=>h1 b j z) Y)<|RepL.cons (Rep.mono (λb o e n=>ext b o<|c b o e λz=>n<|A b z) (λb j z=>h1 b j z) F) RepL.nil
section
variable {X:Cx}{d:jg}{n:Nat}{r:bB}
def R7:aE "zip"=I (.type "zip"):=by decide+kernel
def V5(K:gy)(f:TA):TI:=λj U R=>f j U λg a=> ∃b1 e b c h i,g=[.ref b,.ref c]/\SqX b1 K a b h/\SqX e K a c i/\R (ItZ b1 e K b c) a
def GK(U:Inv X pins σ T s)(f:SqX b X.K T l xs)(c:Src s.heap it l i g):ItX b s.heap it l i:=by
 cases b with
 |true=>
  rcases c with⟨a,_⟩|⟨_,o,h1,e,_⟩
  .exact a
  .obtain⟨_,_,p,_⟩:=U.list f;obtain⟨h,g1,g2,_⟩:=p.isList;rw[h1] at g1;cases g1;rw[e] at g2;injection g2 with g2;exact absurd g2 (by decide)
 |false=>
  rcases c with⟨_,o,h1,e,_⟩|⟨a,_⟩
  .obtain⟨_,_,p,_⟩:=U.tuple f;obtain⟨h,g1,g2,_⟩:=p;rw[h1] at g1;cases g1;rw[e] at g2;injection g2 with g2;exact absurd g2 (by decide)
  .exact a
def Q1{a b:gm}{J:TA}{p l:bB}(hg:Gl X "zip")(hm:X.mg "zip"=J4)(A:PA X [a,b] J)(hs:aa [a,b] X.env=(K2,aK a X.env)::aa [b] X.env)(j4:(aJ l<|aa [b] X.env).any (·.1)=K2):
  PI X (.Tuple d n r) (.Call (.Name "zip" p) [a,b] [] l) (V5 X.K J):=by
 intro j s0 M N R L h;refine vT<|ou L hg hm R7<|yc (thn (A l j s0 M N _ L h) λus s a'=>?_) hs j4;obtain⟨vs,H',I',r1,b1,Y',T,G,xs,ys,hv,Q,O,q⟩:=a';subst hv;obtain⟨u,v,rfl,ru,rv⟩:=Cr r1;cases ru;cases rv;obtain⟨S,_,P⟩:=Bq I' Q;obtain⟨D,_,U⟩:=Bq I' O;refine Db F.called_zip (by decide) (F.typeCall_zip_2 _ _) (F.newCall_zip_2 _ _) (λobj=>F.args_object_init_3 obj _ _) F.entry_zip_new (M3 T G S.toArray D.toArray) ⟨P,U,λh1 f V k n W i E=>?_⟩;generalize t:({cls:= .type "tuple",data:= .seq #[.ref s.heap.objs.size,.ref h1.objs.size]}:en)=g;generalize w:({cls:= .type "tuple",data:= .seq #[.none,.none]}:en)=o4;have m:(f.push g).objs.size=f.objs.size+1:=oA ..;have z:((f.push g).push o4).objs.size=f.objs.size+2:=by rw[oA,m]
 generalize x:({cls:= .type "zip",data:= .fields #[.none,.bool K2,.bool K2,.ref f.objs.size,.ref (f.push g).objs.size]}:en)=o5;have g5:(((f.push g).push o4).push o5).get? ((f.push g).push o4).objs.size=I o5:=iQ _ (by rw[<-x];rfl);have g4:(((f.push g).push o4).push o5).get? (f.push g).objs.size=I o4:=iF _ (iQ _ (by rw[<-w];rfl));have g3:(((f.push g).push o4).push o5).get? f.objs.size=I g:=iF _ (iF _ (iQ _ (by rw[<-t];rfl)));have y: ∀c o,f.get? c=I o->(((f.push g).push o4).push o5).get? c=I o:=λc o e=>iF _ (iF _ (iF _ e));have C:dD (((f.push g).push o4).push o5) ((f.push g).push o4).objs.size f.objs.size (f.push g).objs.size .none:=by show _=_;rw[g5,<-x]
 have p7:cf (((f.push g).push o4).push o5) f.objs.size (.ref s.heap.objs.size) (.ref h1.objs.size):=by show _=_;rw[g3,<-t]
 have u4:cf (((f.push g).push o4).push o5) (f.push g).objs.size .none .none:=by show _=_;rw[g4,<-w]
 have B:Inv X j M H' {s with heap:=((f.push g).push o4).push o5}:=I'.kept (t':=s.toks) λc o e=>y c o<|E c o<|n c o e;have Z:=V.keep (h':=((f.push g).push o4).push o5) (λo e=>y _ o (E _ o e)) λo e=>y _ o (E _ o e);have d2:=W.keep (h':=((f.push g).push o4).push o5) (λo e=>y _ o e) λo e=>y _ o e;refine⟨⟨_,C,rfl⟩,pw (s:={s with heap:=((f.push g).push o4).push o5}) C ?_⟩;refine⟨((f.push g).push o4).objs.size,[((f.push g).push o4).objs.size,f.objs.size,(f.push g).objs.size,s.heap.objs.size,h1.objs.size],_,_,H',rfl,B,JU b1 Y' _ _ _ _ _ T G ⟨?_,?_,?_,?_,?_,?_,?_,?_,?_,?_⟩,⟨C,p7,⟨_,_,u4⟩,GK B Q Z,GK B O d2⟩,λa A=>?_,q⟩
 .rw[z];exact hX<|Nat.lt_add_of_pos_right (by decide)
 .rw[z,m];exact hX<|uu _
 .rw[z,i,k];exact hX (by
   have:s.heap.objs.size<s.heap.objs.size+1+1+2:=by lia
   exact this)
 .rw[z,i];exact hX (by
   have:h1.objs.size<h1.objs.size+1+2:=by lia
   exact this)
 .rw[m];exact hX<|uu _
 .rw[i,k];exact mN (by
   have:s.heap.objs.size<s.heap.objs.size+1+1:=by lia
   exact this)
 .rw[i];exact mN<|uu _
 .rw[m,i,k];exact mN (by
   have:s.heap.objs.size<s.heap.objs.size+1+1+1:=by lia
   exact this)
 .rw[m,i];exact mN (by
   have:h1.objs.size<h1.objs.size+1+1:=by lia
   exact this)
 .rw[k];exact hX<|uu _
 .have le:s.heap.objs.size<=a:=by
   simp only[jF,kD,lF] at A;rcases A with rfl|rfl|rfl|rfl|rfl
   .rw[z,i,k];have:s.heap.objs.size<=s.heap.objs.size+1+1+2:=by lia
    exact this
   .rw[i,k];have:s.heap.objs.size<=s.heap.objs.size+1+1:=by lia
    exact this
   .rw[m,i,k];have:s.heap.objs.size<=s.heap.objs.size+1+1+1:=by lia
    exact this
   .exact iD _
   .rw[k];exact vP _
  exact I'.fpOk le<|I'.hok.fresh le
noncomputable def Fc(f g:FO):FIt:=λa=>(f a).bind λp=>(g p.2).bind λq=>(res q.2 p.1).bind λx=>(res q.2 q.1).bind λy=>(pK x).bind λl=>(pK y).bind λm=>I ((l.zip m).map λp=> .tup [p.1,p.2],q.2)
noncomputable def qG(f g:F):FIt:=λδ=>(f δ).bind λp=>(g p.2).bind λq=>(pK p.1.1).bind λl=>(pK q.1.1).bind λm=>I ((l.zip m).map λp=> .tup [p.1,p.2],q.2)
def KU{B:SB}{a b:gm}{f g:FO}{p c:bB}(hg:Gl X "zip")(hm:X.mg "zip"=J4)(U:PO X a f)(Y:PO X b g)(I:SlB B f)(L:SlB B g)(w:aa [a,b] X.env=(K2,aK a X.env)::aa [b] X.env)(x8:aa [b] X.env=(K2,aK b X.env)::aa [] X.env)(j4:(aJ c<|aa [b] X.env).any (·.1)=K2):
  PIX X B (.Tuple d n r) (.Call (.Name "zip" p) [a,b] [] c) (Fc f g):=PI.imp' (Q1 hg hm (oM U (oM Y uF x8) w) w j4) λσ H R F=>by
 obtain⟨δ,T,ds,δ',E,e,k⟩:=F;obtain⟨⟨K,δ1⟩,h1,e⟩:=fS e;obtain⟨⟨P,t⟩,h,e⟩:=fS e;obtain⟨x,G,e⟩:=fS e;obtain⟨y,J,e⟩:=fS e;obtain⟨l,M,e⟩:=fS e;obtain⟨m,N,e⟩:=fS e;obtain⟨rfl,rfl⟩:=gA e;dsimp only at h;refine⟨δ,T,[K,P],t,E,?_,λS O T1 W=>?_⟩
 .simp only[jk,h1,h,fe]
 .have D:=W.len;rcases S with _|⟨v,_|⟨u,_|⟨_,_⟩⟩⟩<;>try cases D
  .obtain⟨a1,V,rfl,A,q⟩:=W.seq E (j:=0) K3 K3 G M λi o=>I _ _ _ (o▸h1);obtain⟨Q,Z,rfl,C,s⟩:=W.seq E (j:=1) K3 K3 J N λi o=>L _ _ _ (o▸h);exact⟨_,_,a1,Q,V,Z,rfl,yo A,yo C,k _ O W.keep (W.er.mono (λ_ _ e _=>e) (λb _ z=>W.tt b z) λa z=>W.er.dom a<|W.tt a z) (L0 A q C s λa z=>z.own)⟩
def NU{B:SB}{a b:gm}{f g:F}{p c:bB}(i:Gl X "zip")(j:X.mg "zip"=C)(e:PX X a f)(h:PX X b g)(k:aa [a,b] X.env=(J,aK a X.env)::aa [b] X.env)(o:aa [b] X.env=(J,aK b X.env)::aa [] X.env)(m:(aJ c<|aa [b] X.env).any (·.1)=J):
  PIX X B (.Tuple d n r) (.Call (.Name "zip" p) [a,b] [] c) (qG f g):=PI.imp' (KU (B:=B) i j (PX.po e) (PX.po h) Bt Bt k o m) λs U R l=>by
 have:qG f g=Fc (fQ f) (fQ g):=funext λq=>by
  unfold qG Fc fQ
  cases f q with
  |none=>rfl
  |some p=>simp only[fe];cases g p.2<;>rfl
 rwa [this] at l
end
end PX
namespace TS
def Ask(M:gi)(A:gJ)(G:fY->Prop)(a:Nat->dG)(e:lv)(N:Nat)(lt:Nat->Nat->Bool):Prop:= ∀i j,i<N->j<N-> ∀s,G s-> ∀c,af M A (ww e (a i).1 (a j).1) (λb d=>G d/\b=lt i j) c s
structure Cs where
 M:gi
 A:gJ
 E:gu->fY->Prop
 G:fY->Prop
 it:Nat->dG
 lt:Nat->Nat->Bool
 κ:lv
 N:Nat
 as: ∀i j,lt i j=KE->lt j i=K2
 tr: ∀{i j k},lt j i=K2->lt k j=K2->lt k i=K2
 ask:Ask M A G it κ N lt
section
variable {X:Cs}{α β:Type}{f:α->StateT pV da β}{Q:β->pV->Prop}{st:pV}
def wp(X:Cs){α:Type}(m:StateT pV da α)(Q:α->pV->Prop)(st:pV):Prop:= ∀s,X.G s->af X.M X.A (m.run st) (λr a=>X.G a/\Q r.1 r.2) X.E s
def gg{a:β}(h:Q a st):wp X (pure a) Q st:=λs g=>by rw[D7];exact gn ⟨g,h⟩
def iY{m:StateT pV da α}(h:wp X m (λa c=>wp X (f a) Q c) st):wp X (m>>=f) Q st:=λs g=>by rw[StateT.run_bind];exact fX<|ni (h s g) (λr d b=>b.2 d b.1) λ_ _ e=>e
def FV{m:StateT pV da α}{Q b:α->pV->Prop}(h:wp X m Q st)(i: ∀a c,Q a c->b a c):wp X m b st:=λs g=>ni (h s g) (λr _ d=>⟨d.1,i _ _ d.2⟩) λ_ _ e=>e
def gQ{c:Prop}[Decidable c]{t e:StateT pV da β}(h1:c->wp X t Q st)(a: ¬c->wp X e Q st):wp X (if c then t else e) Q st:=by split<;>simp_all
def nj{f:pV->StateT pV da β}(h:wp X (f st) Q st):wp X (get>>=f) Q st:=iY λs g=>by rw[StateT.run_get];exact gn ⟨g,h⟩
def tE{g:pV->pV}{f:PUnit->StateT pV da β}(h:wp X (f ⟨⟩) Q (g st)):wp X (modify g>>=f) Q st:=iY λs g=>by rw[StateT.run_modify];exact gn ⟨g,h⟩
def FW{m:da α}(h: ∀s,X.G s->af X.M X.A m (λa b=>X.G b/\wp X (f a) Q st) X.E s):wp X (liftM m>>=f) Q st:=iY λs g=>by show af X.M X.A ((StateT.lift m:StateT pV da α).run st) _ X.E s;rw[StateT.run_lift];exact fX<|ni (h s g) (λa b c=>gn c) λ_ _ e=>e
def qP{x:String}{f:Unit->StateT pV da β}(h:wp X (f ()) Q st):wp X (liftM (rule x)>>=f) Q st:=FW λs g=>rV ⟨g,h⟩
def M7{e:Nat}{g:Nat->α->StateT pV da (ForInStep α)}{U:Nat->α->pV->Prop}{T:α->pV->Prop}
  (m: ∀i c st,i<e->U i c st->wp X (g i c) (λr b=>match r with| .done d=>T d b| .yield d=>U (i+1) d b) st)(l: ∀c st,U e c st->T c st):
  ∀(n a:Nat) (c:α) (st:pV),a+n=e->U a c st->wp X (forIn (cP a n 1) c g) T st:=by
 intro p
 induction p with
 |zero=>intro a c st rfl h;exact gg<|l _ _ h
 |succ n o=>
  intro a c st q h;rw[jp,de];refine iY<|FV (m a c st (by lia) h) λr b k=>?_
  cases r with
  |done j=>exact gg k
  |yield j=>exact o _ j b (by lia) k
def kZ{g:Nat->α->StateT pV da (ForInStep α)}(U:Nat->α->pV->Prop)(T:α->pV->Prop){a b:Nat}{c:α}(h:U a c st)
  (l: ∀i c st,i<a+(b-a)->U i c st->wp X (g i c) (λr e=>match r with| .done d=>T d e| .yield d=>U (i+1) d e) st)
  (j: ∀c st,U (a+(b-a)) c st->T c st)(k: ∀c st,T c st->wp X (f c) Q st):wp X (forIn [a:b] c g>>=f) Q st:=by
 refine iY<|FV ?_ k;rw[Std.Legacy.Range.forIn_eq_forIn_range'];exact M7 l j _ _ _ _ (by simp[Std.Legacy.Range.size]) h
noncomputable abbrev ar(X:Cs)(l:ja):Array Keyed:=(l.map X.it).toArray
def kI{l:ja}{i x:Nat}{f:dG->StateT pV da β}(e:l[i]?=I x)(h:wp X (f<|X.it x) Q st):wp X (elem' (ar X l) i>>=f) Q st:=iY (by rw[elem'_eq,show(ar X l)[i]?=I (X.it x) by simp[e]];exact gg h)
def Co{i j:Nat}{f:Option Bool->StateT pV da β}(hk:kindOf st=X.κ)(k:i<X.N)(l:j<X.N)(h: ∀b,X.lt i j=b->wp X (f<|I b) Q st):wp X (lt' (X.it i) (X.it j)>>=f) Q st:=iY (by rw[lt'_eq];refine nj ?_;rw[hk];refine FW λs g=>uq<|ni (X.ask i j k l s g λ_ _=>False) (λb m c=>?_) λe m d=>d.elim;obtain⟨a,rfl⟩:=c;exact⟨a,gg<|h _ rfl⟩)
structure Rp(X:Cs)(q:Array (Nat×Nat×Nat))(L:ja)(st:pV):Prop where
 a:ev st=ar X L
 k:kindOf st=X.κ
 f:eO st=J4
 q:pendingOf st=q
 p:L.Perm (ai X.N)
def Rp.n{q:Array (Nat×Nat×Nat)}{L:ja}(R:Rp X q L st){i x:Nat}(e:L[i]?=I x):x<X.N:=by simpa using R.p.mem_iff.mp<|mM e
def Cp{q:Array (Nat×Nat×Nat)}{L:ja}(R:Rp X q L st){i j x y:Nat}{f:Option Bool->StateT pV da β}(c:L[i]?=I x)(d:L[j]?=I y)(h: ∀b,X.lt x y=b->wp X (f<|I b) Q st):wp X (ltAt' i j>>=f) Q st:=iY (by rw[ltAt'_eq];refine nj ?_;rw[R.a];exact kI c<|kI d<|by rw[<-bind_pure (lt' _ _)];exact Co R.k (R.n c) (R.n d) λb e=>gg<|h b e)
def C1{α:Type}(T A R:List α){d:Nat}(hd:d=(Ls A) / 2):mirror (T++(A++R)).toArray (Ls T) (Ls T+Ls A) d=(T++(A.reverse++R)).toArray:=by
 have hd:d=(Ls T+Ls A-Ls T) / 2:=by lia
 subst hd;apply Array.ext_getElem?;intro k;rw[getElem?_mirror_all<|by simp];simp only[List.getElem?_toArray];by_cases h1:k<Ls T
 .rw[gD<|by lia,sd h1,sd h1]
 .obtain⟨k,rfl⟩:=Nat.exists_eq_add_of_le<|l8 h1;rw[nU (by lia) (l₂:=A.reverse++R),D6];by_cases a:k<Ls A
  .rw[gr<|by lia,nU<|by lia,sd<|by lia,sd<|by simpa using a,List.getElem?_reverse a]
   congr 1;lia
  .rw[gD<|by lia,nU<|by lia,D6,nU<|by lia,nU<|by simpa using a,List.length_reverse]
def DF{α:Type}(R:List α)(x:α): ∀(A T:List α) {i:Nat},i=Ls T+Ls A->bubble (T++(A++x::R)).toArray i (Ls A)=(T++(x::(A++R))).toArray:=by
 intro c
 induction c with
 |nil=>intro T i h;exact H
 |cons a A b=>
  intro T i h;have:=b (T++[a]) (i:=i) (by simp at h ⊢;lia);rw[kY,bubble_succ,show T++(a::A++x::R)=T++[a]++(A++x::R) by simp,this];have e:i-Ls A=Ls T+1:=by simp at h;lia
  rw[e,im];simp[Array.swapIfInBounds]
variable {q:Array (Nat×Nat×Nat)}{T A R:ja}{i j x:Nat}
def JJ{b:zF}{L a:ja}(S:Rp X q L st)(e:b=ar X a)(p:a.Perm L):Rp X q a (setArr st b):=⟨e,S.k,S.f,S.q,p.trans S.p⟩
def Ew{f:Unit->StateT pV da β}(S:Rp X q (T++(A++R)) st)(c:i=Ls T)(e:j=Ls T+Ls A)(h: ∀b,Rp X q (T++(A.reverse++R)) b->wp X (f ()) Q b):wp X (Bn i j>>=f) Q st:=by rw[reverseSlice'_eq];subst c e;refine tE<|h _ (JJ S ?_<|((AW A).append_right R).append_left T);have:=C1 (T.map X.it) (A.map X.it) (R.map X.it) (d:=(Ls T+Ls A-Ls T) / 2) (by simp);simpa[ar,S.a] using this
def PC{f:Unit->StateT pV da β}(S:Rp X q (T++(A++x::R)) st)(c:i=Ls T+Ls A)(d:j=Ls T)(h: ∀b,Rp X q (T++(x::(A++R))) b->wp X (f ()) Q b):wp X (moveDown' i j>>=f) Q st:=by rw[moveDown'_eq];subst c d;refine tE<|h _ (JJ S ?_<|MW.symm.append_left T);have:=DF (R.map X.it) (X.it x) (A.map X.it) (T.map X.it) (i:=Ls T+Ls A) (by simp);simpa[ar,S.a] using this
end
abbrev Cs.le(X:Cs)(i j:Nat):Prop:=X.lt j i=J
section
variable {X:Cs}{o:Type}{Q:o->pV->Prop}{st:pV}{q:Array (Nat×Nat×Nat)}{T A B D R L:ja}{i j x y:Nat}{r:Nat->Nat->Prop}
def ix0(h:i=Ls T+Ls A):(T++(A++x::R))[i]?=I x:=by subst h;simp
def ix1(h:i=Ls T+Ls A+1):(T++(A++x::y::R))[i]?=I y:=by subst h;rw[<-mh,nU<|by simp];simp
def CC(u:D.Pairwise r)(h: ∀z∈D,r z y):(D++[y]).Pairwise r:=sJ.mpr ⟨u,Jl _ _,λa c b d=>zf.mp d▸h a c⟩
def C9(e: ∀{a b c},r a b->r b c->r a c)(u:(D++[x]).Pairwise r)(h:r x y): ∀z∈D++[x],r z y:=λz d=>by
 rcases nO.mp d with d|d
 .exact e ((sJ.mp u).2.2 z d x iX) h
 .rw[zf.mp d];exact h
def JN{g:Nat->Option (Option Nat)×Nat->StateT pV da (ForInStep<|Option (Option Nat)×Nat)}{f:Option (Option Nat)×Nat->StateT pV da o}{lo n m:Nat}
  (p: ∀i n,g i (C,n)=(ltAt' (lo+n) (lo+n-1)>>=λx=>match x with|some b=>if b=Y then pure (.done (C,n)) else pure (.yield (C,n+1))|_=>pure<|.done (I C,n)))
  (S:Rp X q (T++(A++x::R)) st)(v:(Ls T)=lo)(t:n=Ls A+1)(a:m=n+R.length)(u:(A++[x]).Pairwise X.le)
  (h: ∀A x R,Rp X q (T++(A++x::R)) st->m=Ls A+1+R.length->(A++[x]).Pairwise X.le->(∀y l,R=y::l->X.lt y x=Y)->wp X (f (C,Ls A+1)) Q st):wp X (forIn [n:m] (C,n) g>>=f) Q st:=by
 refine kZ (λi c s=>s=st/\c=(C,i)/\ ∃A x R,Rp X q (T++(A++x::R)) st/\i=Ls A+1/\m=i+R.length/\(A++[x]).Pairwise X.le)
  (λc s=>s=st/\ ∃A x R,Rp X q (T++(A++x::R)) st/\c=(C,Ls A+1)/\m=Ls A+1+R.length/\(A++[x]).Pairwise X.le/\ ∀y l,R=y::l->X.lt y x=Y) ⟨rfl,rfl,A,x,R,S,t,a,u⟩ ?_ ?_ ?_
 .rintro i c s d ⟨rfl,rfl,A,x,R,S,rfl,h1,u⟩;rw[p];obtain⟨y,l,rfl⟩:=qh (l:=R) (by lia);refine Cp S (ix1<|by lia) (ix0<|by lia) λb e=>?_
  cases b with
  |true=>exact gg ⟨rfl,A,x,_,S,rfl,h1,u,λ_ _ k=>by cases k;exact e⟩
  |false=>exact gg ⟨rfl,rfl,A++[x],y,l,by simpa using S,by simp,by simp at h1;lia,CC u<|C9 X.tr u e⟩
 .rintro c s ⟨rfl,rfl,A,x,R,S,d,h1,u⟩;exact⟨rfl,A,x,R,S,by rw[d],by lia,u,λy l e=>by subst e;simp at h1;lia⟩
 .rintro c s ⟨rfl,A,x,R,S,rfl,a,u,e⟩;exact h A x R S a u e
def JK{c:Prop}[Decidable c]{k:StateT pV da o}(S:Rp X q (T++(A++R)) st)(e:i=Ls T)(f:j=Ls T+Ls A)(d: ¬c->Ls A=1)(h: ∀b,Rp X q (T++(A.reverse++R)) b->wp X k Q b):wp X (if c then Bn i j>>=λ_=>k else k) Q st:=gQ (λ_=>Ew S e f h) λz=>h _ (by obtain⟨a,rfl⟩:=List.length_eq_one_iff.mp<|d z;exact S)
def dnT(d:(A++B).Pairwise λa b=>X.le b a)(u:B.Pairwise X.le):(A++B.reverse).Pairwise λa b=>X.le b a:=by rw[sJ] at d ⊢;exact⟨d.1,Et.mpr u,λa c b e=>d.2.2 a c b<|j0.mp e⟩
def Cs.rf(X:Cs)(i:Nat):X.le i i:=i0.mpr λh=>ka<|h.symm.trans<|X.as i i h
def OZ{k m:StateT pV da o}(P:pV->Prop)(b:(∀a,P a->wp X k Q a)->wp X m Q st)(hk: ∀a,P a->wp X k Q a):wp X m Q st:=b hk
def JM{lo m:Nat}{Q:Option Nat->pV->Prop}(S:Rp X q (T++x::R) st)(p:(Ls T)=lo)(f:m=1+R.length)(h: ∀A R g,Rp X q (T++(A++R)) g->A≠[]->A.Pairwise X.le->m=Ls A+R.length->Q (I<|Ls A) g):wp X (countRun' lo m) Q st:=by
 have fin: ∀A x R g,Rp X q (T++(A++x::R)) g->m=Ls A+1+R.length->(A++[x]).Pairwise X.le->Q (I<|Ls A+1) g:=λA x R g S f u=>by simpa using h (A++[x]) R g (by simpa using S) (by simp) u (by simpa using f)
 have ge: ∀{a b c},X.le b a->X.le c b->X.le c a:=λh1 t=>X.tr t h1;rw[countRun'_eq];dsimp only;refine JN (λ_ _=>rfl) (A:=[]) S p H f (by simp) λA x R S f u U=>?_;refine gQ (λ_=>gg<|fin A x R _ S f u) λO=>?_;obtain⟨y,l,rfl⟩:=qh (l:=R) (by simp at O;lia);apply OZ λg=>Rp X q (T++((A++[x]).reverse++y::l)) g/\ ∀z∈A++[x],X.le y z
 .intro F;have w:=X.as _ _ (U y l H);refine gQ (λh1=>?_) λh1=>F _ ?_
  .obtain⟨a,A,rfl⟩:=qh (l:=A)<|Nat.lt_of_succ_lt_succ h1;refine Cp S (x:=a) (y:=x) (ix0 (A:=[])<|by simpa using p.symm) (ix0<|by simp;lia) λb e=>?_
   cases b with
   |true=>exact gg<|fin _ x _ _ S f u
   |false=>
    refine Ew (A:=a::A++[x]) (by simpa using S) p.symm (by simp;lia) λg n=>F _ ⟨n,λz k=>X.tr (X.tr w e) ?_⟩;rcases jF.mp k with rfl|k
    .exact X.rf _
    .exact(AD.mp u).1 z k
  .obtain rfl:=xZ (l:=A) (by simpa using h1);exact⟨S,by simpa using w⟩
 .rintro st ⟨S,d⟩;have t:(Ls A)+2<=m:=by simp at f;lia
  dsimp only
  refine qP (kZ (λi c s=> ∃M B x R,c=(C,i,Ls B)/\Rp X q (T++(M++(B++x::R))) s/\i=Ls M+Ls B+1/\m=i+R.length/\(M++(B++[x])).Pairwise (λa b=>X.le b a)/\(B++[x]).Pairwise X.le)
   (λc s=> ∃M B x R,c=(C,Ls M+Ls B+1,Ls B)/\Rp X q (T++(M++(B++x::R))) s/\m=Ls M+Ls B+1+R.length/\(M++(B++[x])).Pairwise (λa b=>X.le b a)/\(B++[x]).Pairwise X.le) ⟨(A++[x]).reverse,[],y,l,rfl,S,by simp,by simp at f ⊢;lia,?_,by simp⟩ ?_ ?_ ?_)
  .exact CC (Et.mpr u) λz k=>d z<|j0.mp k
  .rintro i c s v ⟨M,B,x,R,rfl,S,rfl,f,d,u⟩;obtain⟨y,l,rfl⟩:=qh (l:=R) (by lia);rw[<-mh] at S;refine Cp S (ix1<|by simp;lia) (ix0<|by simp;lia) λb e=>?_
   cases b with
   |true=>refine JK (T:=T++M) (A:=B++[x]) (by simpa using S) (by simp;lia) (by simp;lia) (λz=>by simp at z ⊢;exact z) λg n=>gg ⟨M++(B++[x]).reverse,[],y,l,rfl,by simpa using n,by simp;lia,by simp at f;lia,CC (dnT d u) λz k=>?_,by simp⟩;rw[<-mh] at d;exact C9 (r:=λa b=>X.le b a) ge d (X.as _ _ e) z (by simpa[or_comm] using k)
   |false=>
    refine Cp S (ix0<|by simp;lia) (ix1<|by simp;lia) λb N=>?_
    cases b with
    |true=>exact gg ⟨M,B,x,_,rfl,by simpa using S,f,d,u⟩
    |false=>refine gg ⟨M,B++[x],y,l,by simp,by simpa using S,by simp;lia,by simp at f;lia,?_,CC u<|C9 X.tr u e⟩;rw[<-mh] at d ⊢;rw[<-mh];exact CC d<|C9 (r:=λa b=>X.le b a) ge d N
  .rintro c s ⟨M,B,x,R,rfl,S,v,f,d,u⟩;exact⟨M,B,x,R,by rw[v],S,by lia,d,u⟩
  .rintro c s ⟨M,B,x,R,rfl,S,f,d,u⟩;refine JK (T:=T++M) (A:=B++[x]) (by simpa using S) (by simp;lia) (by simp;lia) (λz=>by simp at z ⊢;exact z) λg n=>?_;refine Ew (T:=T) (A:=M++(B++[x]).reverse) (by simpa using n) p.symm (by simp;lia) λg n=>?_;have u:=Et.mpr<|dnT d u;rcases D5 (M++(B++[x]).reverse).reverse with e|⟨E,G,e⟩
   .simp at e
   .rw[e,D4] at n u;have k:=nh ey e;simp at k;exact JN (λ_ _=>rfl) (A:=E) (x:=G) (R:=R) (by simpa using n) p (by dsimp only;lia) (by dsimp only;lia) u λA x R S f u _=>gg<|fin A x R _ S f u
end
section
variable {X:Cs}{g:Type}{Q:g->pV->Prop}{st:pV}{q:Array (Nat×Nat×Nat)}{T A B D R L:ja}{i j x y:Nat}{p:Nat->Bool}
abbrev Mo(X:Cs)(p:Nat->Bool):Prop:= ∀a b,X.le a b->p b=Y->p a=Y
abbrev Lo(p:Nat->Bool)(A:ja)(a:Nat):Prop:= ∀i,i<a->p (A.getD i 0)=Y
abbrev Hi(p:Nat->Bool)(A:ja)(a:Nat):Prop:= ∀i,a<=i->i<Ls A->p (A.getD i 0)=J
def LA:Mo X λz=>!X.lt x z:=λa b h c=>by simp only[ec] at c ⊢;exact X.tr h c
def Ue:Mo X λz=>X.lt z x:=λa b h c=>by
 cases e:X.lt a x with
 |true=>exact e
 |false=>exact ka<|(X.tr e h).symm.trans c
def upD(u:A.Pairwise X.le)(b:i<=j)(h:j<Ls A):X.le (A.getD i 0) (A.getD j 0):=by
 have a:i<(Ls A):=by lia
 simp only[sY,gY h,gY a,Option.getD_some];rcases Nat.lt_or_eq_of_le b with e|rfl
 .exact MZ.mp u i j a h e
 .exact X.rf _
def C4(u:A.Pairwise X.le)(m:Mo X p)(h:i<Ls A)(e:p (A.getD i 0)=Y):Lo p A (i+1):=λj a=>m _ _ (upD u (by lia) h) e
def Dh(u:A.Pairwise X.le)(m:Mo X p)(e:p (A.getD i 0)=J):Hi p A i:=λj a h=>by
 cases c:p (A.getD j 0) with
 |false=>rfl
 |true=>exact(m _ _ (upD u a h) c).symm.trans e
def GC(h:Lo p A i): ∀z∈A.take i,p z=Y:=λz a=>by obtain⟨k,hk,rfl⟩:=D3 a;have hk:=qb▸hk;have:=h k (by lia);simpa[show k<(Ls A) by lia] using this
def GP(h:Hi p A i): ∀z∈A.drop i,p z=J:=λz a=>by obtain⟨k,hk,rfl⟩:=D3 a;simp at hk;have:=h (i+k) (by lia) (by lia);simpa[show i+k<(Ls A) by lia] using this
def ixD(a:(Ls T)=j)(h:i<Ls A):(T++(A++R))[j+i]?=I (A.getD i 0):=by subst a;rw[nU<|by lia,D6,sd h];simp[h]
def V4(u:A.Pairwise X.le)(h1: ∀z∈A.take i,(!X.lt y z)=Y)(e: ∀z∈A.drop i,(!X.lt y z)=J):(A.take i++y::A.drop i).Pairwise X.le:=by
 rw[<-sV i A,sJ] at u;refine sJ.mpr ⟨u.1,AD.mpr ⟨λz f=>X.as _ _ (by simpa using e z f),u.2.1⟩,λa d b c=>?_⟩;rcases jF.mp c with rfl|c
 .simpa using h1 a d
 .exact u.2.2 a d b c
def PD{lo n k:Nat}{Q:Bool->pV->Prop}(S:Rp X q (T++(A++R)) st)(N:(Ls T)=lo)(E:(Ls A)=k)(O:0<k)(o:n<=k+R.length)(hk:k<=n)(u:A.Pairwise X.le)
  (h: ∀A R w,Rp X q (T++(A++R)) w->Ls A=n->A.Pairwise X.le->Q Y w):wp X (binarySort' lo n k) Q st:=by
 rw[binarySort'_eq,show max k 1=k by lia];dsimp only;refine kZ (λk c s=>c=(C,())/\ ∃A R,Rp X q (T++(A++R)) s/\(Ls A)=k/\A.Pairwise X.le/\n<=k+R.length) (λc s=>c=(C,())/\ ∃A R,Rp X q (T++(A++R)) s/\(Ls A)=n/\A.Pairwise X.le) ⟨rfl,A,R,S,E,u,o⟩ ?_ ?_ ?_
 .rintro k c s m ⟨rfl,A,R,S,rfl,u,o⟩;obtain⟨y,l,rfl⟩:=qh (l:=R) (by lia)
  refine kZ (λi c r=>r=s/\ ∃a b,c=(C,a,b)/\a<=b/\b<=Ls A/\b<=a+(Ls A-i)/\Lo (λz=>!X.lt y z) A a/\Hi (λz=>!X.lt y z) A b)
   (λc r=>r=s/\ ∃a b,c=(C,a,b)/\a<=Ls A/\Lo (λz=>!X.lt y z) A a/\Hi (λz=>!X.lt y z) A a) ⟨rfl,0,Ls A,rfl,by lia,by lia,by lia,λi h=>by lia,λi h U=>by lia⟩ ?_ ?_ ?_
  .rintro i c _ m ⟨rfl,a,b,rfl,h1,t,v,d,f⟩;dsimp only;refine gQ (λe=>gg ⟨rfl,a,b,rfl,by lia,d,(show a=b by lia)▸f⟩) λe=>?_;refine Cp S (ix0<|by lia) (ixD N<|by lia) λc e=>?_
   cases c with
   |true=>exact gg ⟨rfl,a,_,rfl,by lia,by lia,by lia,d,Dh u LA<|by rw[e];rfl⟩
   |false=>exact gg ⟨rfl,_,b,rfl,by lia,by lia,by lia,C4 u LA (by lia)<|by rw[e];rfl,f⟩
  .rintro c _ ⟨rfl,a,b,rfl,h1,t,v,d,f⟩;exact⟨rfl,a,b,rfl,by lia,d,(show a=b by lia)▸f⟩
  .rintro c _ ⟨rfl,a,b,rfl,h1,t,v⟩;refine PC (T:=T++A.take a) (A:=A.drop a) (by rw[mh,<-mh (A.take a),sV];exact S) (by simp;lia) (by simp;lia) λr M=>gg ⟨rfl,A.take a++y::A.drop a,l,by simpa using M,by simp;lia,V4 u (GC t)<|GP v,by simp at o;lia⟩
 .rintro c s ⟨rfl,A,R,S,m,u,o⟩;exact⟨rfl,A,R,S,by lia,u⟩
 .rintro c s ⟨rfl,A,R,S,m,u⟩;exact gg<|h A R s S m u
noncomputable def OE:Bool->dG->Array dG->Nat->Nat->Nat->StateT pV da (Option Nat):=sortPriv%PySem.Builtin.gallop
noncomputable def LC:Array dG->Array dG->StateT pV da (Array dG):=sortPriv%PySem.Builtin.mergeLo
noncomputable def LD:Array dG->Array dG->StateT pV da (Array dG):=sortPriv%PySem.Builtin.mergeHi
noncomputable def Nj:Nat->StateT pV da Unit:=sortPriv%PySem.Builtin.setMinGallop
def SU{k:Nat->Nat->StateT pV da g}{m:StateT pV da g}(P:Nat->Nat->Prop)(c:(∀a b,P a b->wp X (k a b) Q st)->wp X m Q st)(hk: ∀a b,P a b->wp X (k a b) Q st):wp X m Q st:=c hk
noncomputable abbrev gp(X:Cs)(left:Bool)(x z:Nat):Bool:=if left=Y then X.lt z x else !X.lt x z
def Bl{left:Bool}{base:Nat}{f:Option Bool->StateT pV da g}(hk:kindOf st=X.κ)(k: ∀z∈A,z<X.N)(c:x<X.N)(l:(Ls T)=base)(a:i<Ls A)(h: ∀b,gp X left x (A.getD i 0)=b->wp X (f<|I b) Q st):
  wp X ((elem' (ar X<|T++(A++R)) (base+i)>>=λz=>if left=Y then lt' z (X.it x) else lt' (X.it x) z>>=λr=>pure<|eC (λx=>!x) r)>>=f) Q st:=by
 have d:A.getD i 0<X.N:=k _ (by simp[a]);refine iY<|kI (ixD l a) ?_
 cases left with
 |true=>rw[gr H,<-bind_pure (lt' _ _)];exact Co hk d c λb e=>gg<|h b e
 |false=>exact Co hk c d λb e=>gg<|h (!b)<|nh not e
def vX{left:Bool}{base n hint:Nat}{Q:Option Nat->pV->Prop}(hk:kindOf st=X.κ)(t: ∀z∈A,z<X.N)(w:x<X.N)(u:A.Pairwise X.le)(G:L=T++(A++R))(v:(Ls T)=base)(H:(Ls A)=n)(C:hint<n)
  (h: ∀r,r<=n->(∀z∈A.take r,gp X left x z=Y)->(∀z∈A.drop r,gp X left x z=K2)->Q (I r) st):wp X (OE left (X.it x) (ar X L) base n hint) Q st:=by
 subst G
 have m:Mo X (gp X left x):=by
  cases left with
  |true=>exact Ue
  |false=>exact LA
 apply SU λa b=>a<=b/\b<=n/\Lo (gp X left x) A a/\Hi (gp X left x) A b
 .intro F;refine Bl hk t w v (H▸C) λb e=>?_;refine gQ (λz=>?_) λz=>?_
  .subst z
   refine kZ (λi c s=>st=s/\ ∃a b,c=(J4,a,b)/\a<b/\i<b/\hint+a<n/\Lo (gp X left x) A (hint+a+1)) (λc s=>st=s/\ ∃a b,c=(J4,a,b)/\a<b/\hint+a<n/\Lo (gp X left x) A (hint+a+1)/\(n-hint<=b\/Hi (gp X left x) A (hint+b)))
    ⟨rfl,0,1,rfl,by lia,by lia,C,C4 u m (H▸C) e⟩ ?_ ?_ ?_
   .rintro i c _ E ⟨rfl,a,b,rfl,h1,o,l,f⟩;dsimp only;refine gQ (λz=>gg ⟨rfl,a,b,rfl,h1,l,f,.inl z⟩) λz=>Bl hk t w v (by lia) λc e=>?_
    cases c with
    |true=>exact gg ⟨rfl,_,_,rfl,by lia,by lia,by lia,C4 u m (by lia) e⟩
    |false=>exact gg ⟨rfl,a,b,rfl,h1,l,f,.inr<|Dh u m e⟩
   .rintro c _ ⟨rfl,a,b,rfl,h1,o,l,f⟩;exact⟨rfl,a,b,rfl,h1,l,f,.inl<|by lia⟩
   .rintro c _ ⟨rfl,a,b,rfl,h1,l,f,k⟩;dsimp only;generalize U:hint+a+1=c at*;generalize O:hint+min b (n-hint)=d;refine F c d ⟨by lia,by lia,f,λi J M=>?_⟩;rcases k with k|k
    .lia
    .exact k i (by lia) M
  .refine kZ (λi c s=>st=s/\ ∃a b,c=(J4,a,b)/\a<b/\i<b/\a<=hint/\Hi (gp X left x) A (hint-a)) (λc s=>st=s/\ ∃a b,c=(J4,a,b)/\a<b/\a<=hint/\Hi (gp X left x) A (hint-a)/\(hint<b\/Lo (gp X left x) A (hint-b+1)))
    ⟨rfl,0,1,rfl,by lia,by lia,by lia,Dh u m<|by simpa[z] using e⟩ ?_ ?_ ?_
   .rintro i c _ E ⟨rfl,a,b,rfl,h1,o,l,f⟩;dsimp only;refine gQ (λz=>gg ⟨rfl,a,b,rfl,h1,l,f,.inl z⟩) λz=>Bl hk t w v (by lia) λc e=>?_
    cases c with
    |true=>exact gg ⟨rfl,a,b,rfl,h1,l,f,.inr<|C4 u m (by lia) e⟩
    |false=>exact gg ⟨rfl,_,_,rfl,by lia,by lia,by lia,Dh u m e⟩
   .rintro c _ ⟨rfl,a,b,rfl,h1,o,l,f⟩;exact⟨rfl,a,b,rfl,h1,l,f,.inl<|by lia⟩
   .rintro c _ ⟨rfl,a,b,rfl,h1,l,f,k⟩;dsimp only;generalize O:hint-a=d at*;generalize U:hint+1-min b (hint+1)=c;refine F c d ⟨by lia,by lia,λi J=>?_,f⟩;rcases k with k|k
    .lia
    .exact k i (by lia)
 .rintro a b ⟨h1,o,l,f⟩;refine kZ (λi c s=>st=s/\ ∃a b,c=(J4,a,b)/\a<=b/\b<=n/\b<=a+(n-i)/\Lo (gp X left x) A a/\Hi (gp X left x) A b) (λc s=>st=s/\ ∃a,c=(J4,a,a)/\a<=n/\Lo (gp X left x) A a/\Hi (gp X left x) A a) ⟨rfl,a,b,rfl,h1,o,by lia,l,f⟩ ?_ ?_ ?_
  .rintro i c _ E ⟨rfl,a,b,rfl,h1,o,l,f,k⟩;refine gQ (λz=>?_) λz=>Bl hk t w v (by dsimp only at z ⊢;lia) λc e=>?_
   .have:a=b:=by dsimp only at z;lia
    subst this;exact gg ⟨rfl,a,rfl,o,f,k⟩
   .dsimp only at z
    cases c with
    |true=>exact gg ⟨rfl,_,b,rfl,by dsimp only;lia,o,by dsimp only;lia,C4 u m (by dsimp only;lia) e,k⟩
    |false=>exact gg ⟨rfl,a,_,rfl,by dsimp only;lia,by dsimp only;lia,by dsimp only;lia,f,Dh u m e⟩
  .rintro c _ ⟨rfl,a,b,rfl,h1,o,l,f,k⟩;have:a=b:=by lia
   subst this;exact⟨rfl,a,rfl,o,f,k⟩
  .rintro c _ ⟨rfl,a,rfl,o,f,k⟩;exact gg<|h a o (GC f)<|GP k
end
section
variable {X:Cs}{β:Type}{Q:β->pV->Prop}{st:pV}{pq:Array (Nat×Nat×Nat)}{q r L Z a b o k:ja}{i j x y:Nat}{le:Nat->Nat->Prop}{out:zF}
structure MG(le:Nat->Nat->Prop)(Z a b o:ja):Prop where
 s:o.Pairwise le
 c: ∀x∈o,∀y∈a++b,le x y
 p:(o++(a++b)).Perm Z
 ua:a.Pairwise le
 ub:b.Pairwise le
def MG.put(m:MG le Z (k++a) b o)(h: ∀x∈k,∀y∈b,le x y):MG le Z a b (o++k):=by
 have f:=sJ.mp m.ua;refine⟨sJ.mpr ⟨m.s,f.1,λx e y d=>m.c x e y<|by simp[d]⟩,λx e y d=>?_,by simpa using m.p,f.2.1,m.ub⟩;rcases nO.mp e with e|e
 .refine m.c x e y ?_;simp at d ⊢;exact .inr d
 .rcases nO.mp d with d|d
  .exact f.2.2 x e y d
  .exact h x e y d
def Mg(X:Cs)(le:Nat->Nat->Prop)(Z a b:ja)(out:zF):Prop:= ∃o,out=ar X o/\MG le Z a b o
def Rs(X:Cs)(Z:ja)(out:zF):Prop:= ∃o,out=ar X o/\o.Pairwise X.le/\o.Perm Z
def Mg.sw(m:Mg X le Z a b out):Mg X le Z b a out:=by obtain⟨o,e,m⟩:=m;exact⟨o,e,m.s,λx d y f=>m.c x d y<|by simpa[or_comm] using f,(OX.append_left o).trans m.p,m.ub,m.ua⟩
def Mg.put(m:Mg X le Z a b out){a':ja}{c:zF}(e:a=k++a')(h: ∀x∈k,∀y∈b,le x y)(d:c=out++ar X k):Mg X le Z a' b c:=by obtain⟨o,rfl,m⟩:=m;exact⟨o++k,by simpa[ar] using d,(e▸m).put h⟩
def Mg.a1(m:Mg X le Z (q.drop i) b out)(c:i<Ls q)(h: ∀y∈b,le q[i] y):Mg X le Z (q.drop<|i+1) b (out.push<|X.it q[i]):=m.put (k:=[q[i]]) (vL c) (by simpa using h) (by simp[ar])
def Mg.ak(m:Mg X le Z (q.drop i) b out)(h: ∀x∈(q.drop i).take j,∀y∈b,le x y):Mg X le Z (q.drop<|i+j) b (out++(ar X q).extract i (i+j)):=m.put (by rw[<-List.drop_drop,sV]) h (by simp[ar,AV])
def Mg.fin(m:Mg X X.le Z (q.drop i) (r.drop j) out)(h: ∀x∈q.drop i,∀y∈r.drop j,X.le x y):Rs X Z (out++(ar X q).extract i (ar X q).size++(ar X r).extract j (ar X r).size):=by obtain⟨o,e,m⟩:=((m.put (k:=q.drop i) (a':=[]) (by simp) h H).sw).put (k:=r.drop j) (a':=[]) (by simp) (by simp) H;exact⟨o,by rw[<-e];simp[ar,AV,xY],m.s,by simpa using m.p⟩
def Mg.end(m:Mg X X.le Z (q.drop i) (r.drop j) out)(h:(Ls q)<=i\/(Ls r)<=j):Rs X Z (out++(ar X q).extract i (ar X q).size++(ar X r).extract j (ar X r).size):=m.fin λx c y d=>by
 rcases h with h|h
 .rw[yb h] at c;cases c
 .rw[yb h] at d;cases d
def Mg.hd(m:Mg X le Z (q.drop i) b out)(f: ∀{a b c},le a b->le b c->le a c)(e:i<Ls q)(h:le x q[i]): ∀y∈q.drop i,le x y:=λy d=>by
 obtain⟨o,_,m⟩:=m;have:=m.ua;rw[vL e] at this d;rcases jF.mp d with rfl|d
 .exact h
 .exact f h ((AD.mp this).1 y d)
def Bk{f:Unit->StateT pV da β}{n:Nat}(S:Rp X pq L st)(h: ∀c,Rp X pq L c->wp X (f ()) Q c):wp X (Nj n>>=f) Q st:=tE (g:=λs=>SortSt.mk' (kindOf s) (ev s) (pendingOf s) n<|eO s)<|h _ ⟨S.a,S.k,S.f,S.q,S.p⟩
def FX{e:Type}{k:e->Nat->StateT pV da β}{m:StateT pV da β}(P:e->Nat->pV->Prop)(f:(∀c n d,P c n d->wp X (k c n) Q d)->wp X m Q st)(hk: ∀c n d,P c n d->wp X (k c n) Q d):wp X m Q st:=f hk
def JL{k:Nat->StateT pV da β}{m:StateT pV da β}(P:Nat->pV->Prop)(d:(∀n c,P n c->wp X (k n) Q c)->wp X m Q st)(hk: ∀n c,P n c->wp X (k n) Q c):wp X m Q st:=d hk
def SR{Q:Array dG->pV->Prop}(S:Rp X pq L st)(u1:q.Pairwise X.le)(u2:r.Pairwise X.le)(J: ∀z∈q,z<X.N)(M: ∀z∈r,z<X.N)(h1:0<Ls q)(h2:0<Ls r)(hd: ∀y∈q,X.le r[0] y)(top: ∀x∈r,X.le x q[Ls q-1])
  (h: ∀out s,Rp X pq L s->Rs X (q++r) out->Q out s):wp X (LC (ar X q)<|ar X r) Q st:=by
 have sq:(ar X q).size=(Ls q):=by simp
 have sr:(ar X r).size=(Ls r):=by simp
 have D:Mg X X.le (q++r) (q.drop 0) (r.drop 1) #[X.it r[0]]:=Mg.sw<|Mg.a1 (q:=r) (i:=0) (out:= #[]) ⟨[],rfl,.nil,by simp,by simpa using OX,by simpa using u2,by simpa using u1⟩ h2 hd
 have last: ∀{out i j},Mg X X.le (q++r) (q.drop i) (r.drop j) out->i+1=Ls q->Rs X (q++r) (out++(ar X r).extract j (ar X r).size++(ar X q).extract i (ar X q).size):=λ{_ i j} m e=>m.sw.fin λx E y C=>by
  have W:i<(Ls q):=by lia
  rw[vL W,yb<|by lia,zf] at C;have:=top x<|AU E;simpa only[C,<-e,im] using this
 refine qP<|kI (x:=r[0]) (by simp[h2]) ?_;refine gQ (λe=>gg<|h _ _ S (D.end<|.inr<|by simp at e;lia)) λe=>gQ (λv=>gg<|h _ _ S (last D<|by simpa using v)) λv=>nj ?_
 let I:=λ(c:Nat) out d f s=>Rp X pq L s/\Mg X X.le (q++r) (q.drop d) (r.drop f) out/\d+1<Ls q/\f<Ls r/\c<=d+f
 refine kZ (λi c s=> ∃out d f B,c=(J4,out,d,f,B)/\I (i+1) out d f s) (λc s=> ∃out t,c=(I8 out,t)/\Rp X pq L s/\Rs X (q++r) out) ⟨_,0,1,_,rfl,S,D,by simp at v;lia,by simp at e;lia,by lia⟩ ?_ ?_ ?_
 .rintro i c s _ ⟨out,d,f,B,rfl,H'⟩;refine kZ (λj c s=> ∃out d f p u,c=(J4,out,d,f,p,u)/\I (i+1+j) out d f s) (λc s=>(∃out t,c=(I8 out,t)/\Rp X pq L s/\Rs X (q++r) out)\/ ∃out d f p u,c=(J4,out,d,f,p,u)/\I (i+1) out d f s) ⟨_,_,_,_,_,rfl,H'⟩ ?_ ?_ ?_
  .rintro j c s _ ⟨out,d,f,p,u,rfl,S,m,b1,l,b3⟩;dsimp only;refine kI (x:=r[f]) (by simp[l]) (kI (x:=q[d]) (by simp)<|Co S.k (M _ (by simp)) (J _ (by simp)) λb e=>?_)
   cases b with
   |true=>have n:=(m.sw.a1 l<|m.hd X.tr (by lia)<|X.as _ _ e).sw;exact kI (x:=r[f]) (by simp[l])<|gQ (λe=>gg<|.inl ⟨_,_,rfl,S,n.end<|.inr<|by simp at e;lia⟩) λe=>gQ (λ_=>gg<|.inr ⟨_,_,_,_,_,rfl,S,n,b1,by simp at e;lia,by lia⟩) λ_=>gg ⟨_,_,_,_,_,rfl,S,n,b1,by simp at e;lia,by lia⟩
   |false=>have n:=m.a1 (by lia)<|m.sw.hd X.tr l e;exact kI (x:=q[d]) (by simp)<|gQ (λe=>gg<|.inl ⟨_,_,rfl,S,last n<|by simpa using e⟩) λe=>gQ (λ_=>gg<|.inr ⟨_,_,_,_,_,rfl,S,n,by simp at e;lia,l,by lia⟩) λ_=>gg ⟨_,_,_,_,_,rfl,S,n,by simp at e;lia,l,by lia⟩
  .rintro c s ⟨out,d,f,p,u,rfl,S,m,b1,l,b3⟩;exfalso;lia
  .rintro c s (⟨out,t,rfl,U⟩|⟨out,d,f,p,u,rfl,H'⟩)
   .exact gg ⟨out,_,rfl,U⟩
   .refine qP (kZ (λj c s=> ∃out d f B p u,c=(J4,out,d,f,B,p,u)/\I (i+1+j) out d f s) (λc s=>(∃out t,c=(I8 out,t)/\Rp X pq L s/\Rs X (q++r) out)\/ ∃out d f B p u,c=(J4,out,d,f,B,p,u)/\I (i+2) out d f s) ⟨_,_,_,_,_,_,rfl,H'⟩ ?_ ?_ ?_)
    .rintro j c s _ ⟨out,d,f,B,p,u,rfl,S,m,b1,l,b3⟩;dsimp only;apply JL λ_ s=>Rp X pq L s
     .intro F;refine gQ (λ_=>?_) λ_=>?_
      .generalize B-1=g;exact F g s S
      .exact F B s S
     intro g s S;refine Bk S λs S=>kI (x:=r[f]) (by simp[l])<|iY<|vX (T:=q.take d) (A:=q.drop d) (R:=[]) S.k (λz Y=>J z<|AU Y) (M _ (by simp)) (u1.sublist<|D2 _ _) (by simp) (by simp;lia) (by simp) (by simp;lia) λk _ K P=>?_;dsimp only;apply FX λout d s=>Rp X pq L s/\Mg X X.le (q++r) (q.drop d) (r.drop f) out/\d+1<Ls q/\i+1+j<=d+f/\ ∀y∈q.drop d,X.le r[f] y
     .intro F;have mk:=m.ak (j:=k) λx E y C=>m.sw.hd (x:=x) X.tr l (by simpa using K x E) y C;have w: ∀y∈q.drop (d+k),X.le r[f] y:=λy C=>X.as _ _ (by simpa using P y<|by simpa using C);refine gQ (λe=>?_) λe=>?_
      .refine gQ (λG=>gg<|.inl ⟨_,_,rfl,S,last mk<|by simpa using G⟩) λG=>gQ (λv=>gg<|.inl ⟨_,_,rfl,S,mk.end<|.inl<|by simp at v;lia⟩) λv=>?_;generalize out++(ar X q).extract d (d+k)=out at mk ⊢;generalize V:d+k=ic at mk w G v ⊢;exact F out ic s ⟨S,mk,by simp at G v;lia,by lia,w⟩
      .rw[show k=0 by lia] at w;exact F out d s ⟨S,m,b1,b3,w⟩
     rintro out d s ⟨S,m,b1,b3,w⟩;have n:=(m.sw.a1 l w).sw;refine kI (x:=r[f]) (by simp[l])<|gQ (λe=>gg<|.inl ⟨_,_,rfl,S,n.end<|.inr<|by simp at e;lia⟩) λe=>kI (x:=q[d]) (by simp)<|iY<|vX (T:=r.take<|f+1) (A:=r.drop<|f+1) (R:=[]) S.k (λz Y=>M z<|AU Y) (J _ (by simp)) (u2.sublist<|D2 _ _) (by simp) (by simp;lia) (by simp) (by simp at e ⊢;lia) λO _ K P=>?_;dsimp only;apply FX λout f s=>Rp X pq L s/\Mg X X.le (q++r) (q.drop d) (r.drop f) out/\f<Ls r/\i+1+j<d+f/\ ∀y∈r.drop f,X.le q[d] y
     .intro F;have mk:=(n.sw.ak (j:=O) λx E y C=>n.hd X.tr (by lia) (X.as _ _ (K x E)) y C).sw;have w: ∀y∈r.drop (f+1+O),X.le q[d] y:=λy C=>P y (by simpa using C);refine gQ (λ_=>?_) λe3=>?_
      .refine gQ (λv=>gg<|.inl ⟨_,_,rfl,S,mk.end<|.inr<|by simp at v;lia⟩) λv=>?_;generalize out.push (X.it r[f])++(ar X r).extract (f+1) (f+1+O)=out at mk ⊢;generalize V:f+1+O=ic at mk w v ⊢;exact F out ic s ⟨S,mk,by simp at v;lia,by lia,w⟩
      .rw[show O=0 by lia] at w;exact F _ _ s ⟨S,n,by simp at e;lia,by lia,w⟩
     rintro out f s ⟨S,m,l,b3,w⟩;have n:=m.a1 (by lia) w;exact kI (x:=q[d]) (by simp)<|gQ (λe=>gg<|.inl ⟨_,_,rfl,S,last n<|by simpa using e⟩) λe=>gQ (λ_=>gg<|.inr ⟨_,_,_,_,_,_,rfl,S,n,by simp at e;lia,l,by lia⟩) λ_=>gg ⟨_,_,_,_,_,_,rfl,S,n,by simp at e;lia,l,by lia⟩
    .rintro c s ⟨out,d,f,B,p,u,rfl,S,m,b1,l,b3⟩;exfalso;lia
    .rintro c s (⟨out,t,rfl,U⟩|⟨out,d,f,B,p,u,rfl,S,H'⟩)
     .exact gg ⟨out,_,rfl,U⟩
     .exact Bk S λs S=>gg ⟨_,_,_,_,rfl,S,H'⟩
 .rintro c s ⟨out,d,f,B,rfl,S,m,b1,l,b3⟩;exfalso;lia
 .rintro c s ⟨out,t,rfl,S,m⟩;exact gg<|h _ _ S m
end
section
variable {X:Cs}{f:Type}{Q:f->pV->Prop}{st:pV}{d:Array (Nat×Nat×Nat)}{q r L Z a b o k:ja}{i j x y n:Nat}{out:zF}
theorem ss1(n:Nat):n+1-1=n:=rfl
abbrev Cs.ge(X:Cs)(i j:Nat):Prop:=X.le j i
def Mg.h1(m:Mg X X.ge Z (q.take<|n+1).reverse b out)(c:n<Ls q)(h: ∀y∈b,X.le y q[n]):Mg X X.ge Z (q.take n).reverse b (out.push<|X.it q[n]):=m.put (k:=[q[n]]) (by rw[D1];simp[c]) (by simpa using h) (by simp[ar])
def Mg.hk(m:Mg X X.ge Z (q.take n).reverse b out)(c:i<=n)(h: ∀x∈(q.take n).drop i,∀y∈b,X.le y x):Mg X X.ge Z (q.take i).reverse b (out++((ar X q).extract i n).reverse):=m.put (k:=((q.take n).drop i).reverse) (by rw[<-List.reverse_append,<-xX c,<-eR,xX c,sV]) (by simpa using h) (by simp[ar,List.extract_eq_drop_take'])
def Mg.finH(m:Mg X X.ge Z (q.take i).reverse (r.take j).reverse out)(h: ∀x∈q.take i,∀y∈r.take j,X.le x y):Rs X Z ((ar X q).extract 0 i++(ar X r).extract 0 j++out.reverse):=by obtain⟨o,e,m⟩:=(m.sw.put (k:=(r.take j).reverse) (a':=[]) (by simp) (by simpa using λx c y g=>h y g x c) H).sw.put (k:=(q.take i).reverse) (a':=[]) (by simp) (by simp) H;refine⟨o.reverse,?_,Et.mpr m.s,(AW o).trans<|by simpa using m.p⟩;have:=nh Array.reverse e;simpa[ar,AV] using this
def Mg.endH(m:Mg X X.ge Z (q.take i).reverse (r.take j).reverse out)(h:i=0\/j=0):Rs X Z ((ar X q).extract 0 i++(ar X r).extract 0 j++out.reverse):=m.finH λx c y e=>by
 rcases h with rfl|rfl
 .cases c
 .cases e
def Mg.hdH(m:Mg X X.ge Z (q.take<|n+1).reverse b out)(e:n<Ls q)(h:X.le q[n] x): ∀y∈(q.take<|n+1).reverse,X.le y x:=λy c=>by
 obtain⟨o,_,m⟩:=m;have:=m.ua;rw[show(q.take<|n+1).reverse=q[n]::(q.take n).reverse by rw[D1];simp[e]] at this c;rcases jF.mp c with rfl|c
 .exact h
 .exact X.tr ((AD.mp this).1 y c) h
def SV{Q:Array dG->pV->Prop}(S:Rp X d L st)(u1:q.Pairwise X.le)(u2:r.Pairwise X.le)(hq: ∀z∈q,z<X.N)(hr: ∀z∈r,z<X.N)(h1:0<Ls q)(h2:0<Ls r)(hd: ∀y∈q,X.le r[0] y)(top: ∀x∈r,X.le x q[Ls q-1])
  (h: ∀out s,Rp X d L s->Rs X (q++r) out->Q out s):wp X (LD (ar X q)<|ar X r) Q st:=by
 have sq:(ar X q).size=(Ls q):=by simp
 have sr:(ar X r).size=(Ls r):=by simp
 have D:Mg X X.ge (q++r) (q.take<|Ls q-1).reverse (r.take<|Ls r).reverse #[X.it q[Ls q-1]]:=Mg.h1 (out:= #[]) ⟨[],rfl,.nil,by simp,by simpa[ij h1] using(AW q).append (AW r),by simpa[ij h1,Et] using u1,by simpa[Et] using u2⟩ (by lia) (by simpa using top)
 have last: ∀{out i},Mg X X.ge (q++r) (q.take i).reverse (r.take 1).reverse out->Rs X (q++r) ((ar X r).extract 0 1++(ar X q).extract 0 i++out.reverse):=λm=>m.sw.finH λx M y J=>by obtain⟨b,r,rfl⟩:=qh h2;simp at M;subst M;exact hd y<|qg J
 refine qP<|kI (x:=q[Ls q-1]) (by simp[h1]) ?_;rw[sq,sr];refine gQ (λe=>gg<|h _ _ S (D.endH<|.inl<|by simpa using e)) λe=>gQ (λE=>gg<|h _ _ S ?_) λE=>nj ?_
 .have E:(Ls r)=1:=by simpa using E
  rw[E] at D ⊢;exact last D
 let I:=λ(c:Nat) out l u s=>Rp X d L s/\Mg X X.ge (q++r) (q.take l).reverse (r.take u).reverse out/\0<l/\l<=Ls q/\1<u/\u<=Ls r/\c+l+u<=Ls q+Ls r
 refine kZ (λi c s=> ∃l u out C,c=(J4,l,u,out,C)/\I (i+1) out l u s) (λc s=> ∃out t,c=(I8 out,t)/\Rp X d L s/\Rs X (q++r) out) ⟨_,_,_,_,rfl,S,D,by simp at e;lia,by lia,by simp at E;lia,by lia,by lia⟩ ?_ ?_ ?_
 .rintro i c s _ ⟨l,u,out,C,rfl,U⟩;refine kZ (λj c s=> ∃l u out w B,c=(J4,l,u,out,w,B)/\I (i+1+j) out l u s) (λc s=>(∃out t,c=(I8 out,t)/\Rp X d L s/\Rs X (q++r) out)\/ ∃l u out w B,c=(J4,l,u,out,w,B)/\I (i+1) out l u s) ⟨_,_,_,_,_,rfl,U⟩ ?_ ?_ ?_
  .rintro j c s _ ⟨l,u,out,w,B,rfl,S,m,b1,O,b3,b4,b5⟩;obtain⟨n,rfl⟩: ∃n,l=n+1:=⟨l-1,by lia⟩
   obtain⟨p,rfl⟩: ∃n,u=n+1:=⟨u-1,by lia⟩
   dsimp only[ss1];refine kI (x:=r[p]) (by simp)<|kI (x:=q[n]) (by simp)<|Co S.k (hr _ (by simp)) (hq _ (by simp)) λb e=>?_
   cases b with
   |true=>have v:=m.h1 (by lia)<|m.sw.hdH (by lia)<|X.as _ _ e;exact kI (x:=q[n]) (by simp)<|gQ (λe=>gg<|.inl ⟨_,_,rfl,S,v.endH<|.inl<|by simpa using e⟩) λe=>gQ (λ_=>gg<|.inr ⟨_,_,_,_,_,rfl,S,v,by simp at e;lia,by lia,b3,b4,by lia⟩) λ_=>gg ⟨_,_,_,_,_,rfl,S,v,by simp at e;lia,by lia,b3,b4,by lia⟩
   |false=>
    have v:=(m.sw.h1 (by lia)<|m.hdH (by lia) e).sw;refine kI (x:=r[p]) (by simp)<|gQ (λe=>?_) λe=>gQ (λ_=>gg<|.inr ⟨_,_,_,_,_,rfl,S,v,b1,O,by simp at e;lia,by lia,by lia⟩) λ_=>gg ⟨_,_,_,_,_,rfl,S,v,b1,O,by simp at e;lia,by lia,by lia⟩;obtain rfl:p=1:=by simpa using e
    exact gg<|.inl ⟨_,_,rfl,S,last v⟩
  .rintro c s ⟨l,u,out,w,B,rfl,S,m,b1,O,b3,b4,b5⟩;exfalso;lia
  .rintro c s (⟨out,t,rfl,hs⟩|⟨l,u,out,w,B,rfl,U⟩)
   .exact gg ⟨out,_,rfl,hs⟩
   .refine qP (kZ (λj c s=> ∃l u out C w B,c=(J4,l,u,out,C,w,B)/\I (i+1+j) out l u s) (λc s=>(∃out t,c=(I8 out,t)/\Rp X d L s/\Rs X (q++r) out)\/ ∃l u out C w B,c=(J4,l,u,out,C,w,B)/\I (i+2) out l u s) ⟨_,_,_,_,_,_,rfl,U⟩ ?_ ?_ ?_)
    .rintro j c s _ ⟨l,u,out,C,w,B,rfl,S,m,b1,O,b3,b4,b5⟩;obtain⟨p,rfl⟩: ∃n,u=n+1:=⟨u-1,by lia⟩
     dsimp only[ss1];apply JL λ_ s=>Rp X d L s
     .intro F;refine gQ (λ_=>?_) λ_=>?_
      .generalize C-1=g;exact F g s S
      .exact F C s S
     intro g s S;refine Bk S λs S=>kI (x:=r[p]) (by simp)<|iY<|vX (T:=[]) (A:=q.take l) (R:=q.drop l) S.k (λz P=>hq z<|qg P) (hr _ (by simp)) (u1.sublist<|vS _ _) (by simp) K3 (by simp;lia) (by lia) λk hk V W=>?_;dsimp only;apply FX λout l s=>Rp X d L s/\Mg X X.ge (q++r) (q.take l).reverse (r.take<|p+1).reverse out/\0<l/\l<=Ls q/\i+1+j+l+p<Ls q+Ls r/\ ∀y∈q.take l,X.le y r[p]
     .intro F;have mk:=m.hk hk λx M y J=>m.sw.hdH (x:=x) (by lia) (X.as _ _ (by simpa using W x M)) y J;have G: ∀y∈q.take k,X.le y r[p]:=λy J=>by simpa using V y (by rwa [eR,xX hk])
      refine gQ (λe=>?_) λe=>?_
      .refine gQ (λH=>gg<|.inl ⟨_,_,rfl,S,mk.endH<|.inl<|by simpa using H⟩) λH=>?_;generalize out++((ar X q).extract k l).reverse=out at mk ⊢;generalize ea:k=ic at mk G H ⊢;exact F out ic s ⟨S,mk,by simp at H;lia,by lia,by lia,G⟩
      .obtain rfl:k=l:=by lia
       exact F out _ s ⟨S,m,b1,O,by lia,G⟩
     rintro out na' s ⟨S,m,b1,O,b5,G⟩;have v:=(m.sw.h1 (by lia)<|by simpa using G).sw;obtain⟨n,rfl⟩: ∃n,na'=n+1:=⟨na'-1,by lia⟩
     dsimp only[ss1];refine kI (x:=r[p]) (by simp)<|gQ (λe=>?_) λe=>kI (x:=q[n]) (by simp)<|iY<|vX (T:=[]) (A:=r.take p) (R:=r.drop p) S.k (λz P=>hr z<|qg P) (hq _ (by simp)) (u2.sublist<|vS _ _) (by simp) K3 (by simp;lia) (by lia) λY aN V W=>?_
     .obtain rfl:p=1:=by simpa using e
      exact gg<|.inl ⟨_,_,rfl,S,last v⟩
     dsimp only;apply FX λout u s=>Rp X d L s/\Mg X X.ge (q++r) (q.take<|n+1).reverse (r.take u).reverse out/\1<u/\u<=Ls r/\i+1+j+(n+1)+u<Ls q+Ls r/\ ∀y∈r.take u,X.le y q[n]
     .intro F;have mk:=(v.sw.hk aN λx M y J=>v.hdH (x:=x) (by lia) (W x M) y J).sw;have K: ∀y∈r.take Y,X.le y q[n]:=λy J=>X.as _ _ (V y<|by rwa [eR,xX aN]);refine gQ (λ_=>?_) λe3=>?_
      .refine gQ (λH=>?_) λH=>gQ (λE=>gg<|.inl ⟨_,_,rfl,S,mk.endH<|.inr<|by simpa using E⟩) λE=>?_
       .obtain rfl:Y=1:=by simpa using H
        exact gg<|.inl ⟨_,_,rfl,S,last mk⟩
       generalize out.push (X.it r[p])++((ar X r).extract Y p).reverse=out at mk ⊢;generalize ea:Y=ic at mk K H E ⊢;exact F out ic s ⟨S,mk,by simp at H E;lia,by lia,by lia,K⟩
      .obtain rfl:Y=p:=by lia
       exact F _ _ s ⟨S,v,by simp at e;lia,by lia,b5,K⟩
     rintro out u s ⟨S,m,b3,b4,b5,G⟩;have v:=m.h1 (by lia) (by simpa using G);exact kI (x:=q[n]) (by simp)<|gQ (λe=>gg<|.inl ⟨_,_,rfl,S,v.endH<|.inl<|by simpa using e⟩) λe=>gQ (λ_=>gg<|.inr ⟨_,_,_,_,_,_,rfl,S,v,by simp at e;lia,by lia,b3,b4,by lia⟩) λ_=>gg ⟨_,_,_,_,_,_,rfl,S,v,by simp at e;lia,by lia,b3,b4,by lia⟩
    .rintro c s ⟨l,u,out,C,w,B,rfl,S,m,b1,O,b3,b4,b5⟩;exfalso;lia
    .rintro c s (⟨out,t,rfl,hs⟩|⟨l,u,out,C,w,B,rfl,S,U⟩)
     .exact gg ⟨out,_,rfl,hs⟩
     .exact Bk S λs S=>gg ⟨_,_,_,_,rfl,S,U⟩
 .rintro c s ⟨l,u,out,C,rfl,S,m,b1,O,b3,b4,b5⟩;exfalso;lia
 .rintro c s ⟨out,t,rfl,S,m⟩;exact gg<|h _ _ S m
end
section
variable {X:Cs}{t:Type}{Q:t->pV->Prop}{st:pV}{d:Array (Nat×Nat×Nat)}{T A B R L:ja}{i j x y n s:Nat}{o C:List (List Nat)}{r w:List (Nat×Nat×Nat)}
def Mj{c:Type}: ∀(m K T R:List c) (j a:Nat),a+j=Ls T->K.length=Ls m->(m.zipIdx j).foldl (λ(x:Array c) (p:c×Nat)=>x.setIfInBounds (a+p.2) p.1) (T++(K++R)).toArray=(T++(m++R)).toArray:=by
 intro f
 induction f with
 |nil=>intro K T R j a h b;rw[xZ b];rfl
 |cons y m e=>intro K T R j a h b;obtain⟨k,K,rfl⟩:=qh (l:=K) (by simp[b]);rw[ew,pZ];have:=e K (T++[y]) R (j+1) a (by simp;lia) (by simpa using b);simpa[h] using this
def Rn(X:Cs):Nat->List (List Nat)->List (Nat×Nat×Nat)->Prop
 |_,[],[]=>True
 |s,A::o,p::r=>p.1=s/\p.2.1=Ls A/\A≠[]/\A.Pairwise X.le/\Rn X (s+Ls A) o r
 |_,_,_=>False
theorem Rn.cut: ∀{r:List (Nat×Nat×Nat)} {s:Nat} {o:List (List Nat)},Rn X s o (r++w)-> ∃a L2,o=a++L2/\Rn X (s+Ls a.flatten) L2 w/\ ∀M q,Rn X (s+Ls a.flatten) M q->Rn X s (a++M) (r++q)
 |[],s,o,h=>⟨[],o,rfl,h,λ_ _ h=>h⟩
 |p::r,s,[],h=>h.elim
 |p::r,s,A::o,h=>by
  obtain⟨h1,b,c,f,g⟩:=h;obtain⟨a,L2,rfl,k,l⟩:=Rn.cut g;have e:s+(A::a).flatten.length=s+Ls A+(Ls a.flatten):=by simp;lia
  exact⟨A::a,L2,rfl,e▸k,λM q h=>⟨h1,b,c,f,l M q<|e▸h⟩⟩
def Pz{s:pV}{f:PUnit->StateT pV da t}(h:wp X (f ⟨⟩) Q s):wp X (set s>>=f) Q st:=iY λ_ g=>by rw[StateT.run_set];exact gn ⟨g,h⟩
def upA(u:A.Pairwise X.le)(v:B.Pairwise X.le)(h: ∀a∈A,∀b∈B,X.le a b):(A++B).Pairwise X.le:=sJ.mpr ⟨u,v,h⟩
def Pw(a:L=T++(A++R))(b:i=Ls T)(c:j=Ls T+Ls A):(ar X L).extract i j=ar X A:=by subst a b c;simp[ar,AV]
def OY{Q:Bool->pV->Prop}(S:Rp X d (o.flatten++R) st)(hr:Rn X 0 o d.toList)(hi:i+1<d.size)(h: ∀c9 bo fO,Rp X bo (fO.flatten++R) c9->Rn X 0 fO bo.toList->bo.size+1=d.size->Ls fO.flatten=Ls o.flatten->Q KE c9):wp X (mergeAt' i) Q st:=by
 obtain⟨d⟩:=d
 obtain⟨H,⟨D,F,P⟩,⟨sb,K,dc⟩,Y,rfl,rfl⟩: ∃H x y Y,d=H++x::y::Y/\(Ls H)=i:=by have hi:i+1<(Ls d):=hi;exact⟨d.take i,d[i],d[i+1],d.drop<|i+2,by simp,by simp;lia⟩
 obtain⟨L1,L2,rfl,h2,h3⟩:=Rn.cut hr
 obtain⟨A,B,L2,rfl⟩: ∃A B L,L2=A::B::L:=by
  match L2,h2 with
  |A::B::L,_=>exact⟨A,B,L,rfl⟩
  |[A],h=>exact h.2.2.2.2.elim
  |[],h=>exact h.elim
 obtain⟨O,t5,a1,V,hb,cI,b1,W,h4⟩:=h2;dsimp only at O t5 hb cI;obtain⟨κ',a',p',g,f'⟩:=st;have e1:a'=_:=S.a;have e2:p'=_:=S.q;subst e1 e2;rw[show(L1++A::B::L2).flatten++R=L1.flatten++(A++(B++(L2.flatten++R))) by simp] at S ⊢
 have fin: ∀c9 M,Rp X (H++(D,F+K,P)::Y).toArray (L1.flatten++(M++(L2.flatten++R))) c9->M.Perm (A++B)->M.Pairwise X.le->Q KE c9:=λc9 M U em u=>by have em:=em.length_eq;rw[ky,<-t5,<-cI] at em;refine h _ (H++(D,F+K,P)::Y).toArray (L1++M::L2) (by simpa using U) (h3 _ _ ⟨O,em.symm,λe=>a1 ?_,u,by rwa [em,t5,cI,<-vH]⟩) (by simp;lia) (by simp;lia);exact xZ (by rw[e] at em;simp at em;lia)
 have ep: ∀z,((H++(D,F,P)::(sb,K,dc)::Y).toArray.setIfInBounds (Ls H) z).eraseIdxIfInBounds (Ls H+1)=(H++z::Y).toArray:=λz=>by simp[me,List.eraseIdx_append];intro;lia
 clear h h3 h4 hr;generalize L1.flatten=T at*;generalize L2.flatten++R=R at*;have hN: ∀z,z∈A\/z∈B->z<X.N:=λz l=>by simpa using S.p.mem_iff.mp<|oD _ (by rcases l with h|h<;>simp[h])
 obtain⟨y,B',eB⟩:=List.exists_cons_of_ne_nil b1
 have hy: ∀z∈B,X.le y z:=λz l=>by
  rw[eB] at W l;rcases jF.mp l with rfl|l
  .exact X.rf _
  .exact(AD.mp W).1 z l
 refine nj ?_;dsimp only;rw[show(H++(D,F,P)::(sb,K,dc)::Y).toArray[Ls H]?=I (D,F,P) by simp,show(H++(D,F,P)::(sb,K,dc)::Y).toArray[Ls H+1]?=I (sb,K,dc) by simp];dsimp only;rw[ep];refine Pz<|kI (x:=y) (by rw[eB];exact ix0<|by lia)<|iY<|vX S.k (λz h=>hN z<|.inl h) (hN y<|.inr<|by simp[eB]) V K3 (by lia) t5.symm (by have:=JH.mpr a1;lia) λk hk t1 t2=>?_;have S2:Rp X (H++(D,F+K,P)::Y).toArray (T++(A++(B++R))) (SortSt.mk' κ' (ar X<|T++(A++(B++R))) (H++(D,F+K,P)::Y).toArray g f'):=⟨rfl,S.k,S.f,rfl,S.p⟩
 have done:(∀a∈A,X.le a y)->Q KE (SortSt.mk' κ' (ar X<|T++(A++(B++R))) (H++(D,F+K,P)::Y).toArray g f'):=λz=>fin _ (A++B) (by simpa using S2) (.refl _) (upA V W λa O b hb=>X.tr (z a O)<|hy b hb);rw[t5] at hk;obtain⟨v,E,rfl,rfl⟩: ∃v E,A=v++E/\(Ls v)=k:=⟨A.take k,A.drop k,by simp,by simp;lia⟩
 have t1: ∀z∈v,X.le z y:=λz l=>by simpa using t1 z (by simpa using l)
 have t2: ∀z∈E,X.le y z:=λz l=>X.as _ _ (by simpa using t2 z<|by simpa using l);rw[ky] at t5 hb;dsimp only;rcases D5 E with e|⟨A3,x,e⟩
 .subst e;rw[gr<|by simp[t5]];exact gg<|done (by simpa using t1)
 rw[D4] at e;have l1:0<(Ls E):=by simp[e]
 rw[gD<|by simp;lia];refine kI (x:=x) (by rw[e,show T++(v++(A3++[x])++(B++R))=T++((v++A3)++x::(B++R)) by simp];exact ix0 (by have:=nh ey e;simp at this ⊢;lia))<|iY<|vX (T:=T++(v++E)) (R:=R) S.k (λz h=>hN z<|.inr h) (hN x<|.inl<|by simp[e]) W (by rw[<-mh]) (by simp;lia) cI.symm (by have:=JH.mpr b1;lia) λk2 aN t3 t4=>?_;rw[cI] at aN;obtain⟨I',J,rfl,rfl⟩: ∃I' J,B=I'++J/\(Ls I')=k2:=⟨B.take k2,B.drop k2,by simp,by simp;lia⟩
 have v3: ∀z∈I',X.le z x:=λz l=>X.as _ _ (by simpa using t3 z<|by simpa using l);have v4: ∀z∈J,X.le x z:=λz l=>by simpa using t4 z (by simpa using l)
 have lx: ∀a∈v++E,X.le a x:=by rw[e,<-mh] at V ⊢;exact C9 X.tr V<|X.rf x
 cases I' with
 |nil=>exact gg<|done λa O=>X.tr (lx a O)<|v4 y (by simp[show J=y::B' from eB])
 |cons b I'=>
  obtain rfl:b=y:=(pX eB).1;refine gQ (λc=>by simp at c) λ_=>?_;rw[Pw (A:=E) (T:=T++v) (R:=b::I'++J++R) (by simp) (by simp;lia)<|by simp;lia,Pw (A:=b::I') (T:=T++(v++E)) (R:=J++R) (by simp) (by simp;lia)<|by simp;lia]
  have Z: ∀G s,Rp X (H++(D,F+K,P)::Y).toArray (T++(v++E++(b::I'++J++R))) s->Rs X (E++b::I') G->Q (eO s).isNone (setArr s<|G.toList.zipIdx.foldl (λa x=>a.setIfInBounds (D+Ls v+x.2) x.1)<|ev s):=λG s U ho=>by
   obtain⟨M,rfl,u,hp⟩:=ho;rw[U.f,U.a];refine fin _ (v++(M++J)) ⟨?_,U.k,U.f,U.q,Fa ?_ U.p⟩ ?_ ?_
   .have:=Mj (M.map X.it) ((E++b::I').map X.it) ((T++v).map X.it) ((J++R).map X.it) 0 (D+Ls v) (by simp;lia) (by simpa using hp.length_eq.symm);simpa[ar] using this
   .simpa using(((hp.append_right<|J++R).append_left v).append_left T)
   .simpa using((hp.append_right J).append_left v)
   .rw[sJ] at V W;refine upA V.1 (upA u W.2.1 λa O c m=>?_) λa O c m=>?_
    .rcases nO.mp (hp.mem_iff.mp O) with O|O
     .exact X.tr (lx a<|by simp[O]) (v4 c m)
     .exact W.2.2 a O c m
    .have m:c∈E\/c∈b::I'++J:=by
      rcases nO.mp m with m|m
      .rcases nO.mp (hp.mem_iff.mp m) with m|m
       .exact .inl m
       .exact .inr (Bi _ m)
      .exact .inr (oD _ m)
     rcases m with m|m
     .exact V.2.2 a O c m
     .exact X.tr (t1 a O) (hy c m)
  have hd: ∀z∈E,X.le (b::I')[0] z:=t2;have top: ∀z∈b::I',X.le z E[Ls E-1]:=λz l=>by subst e;simpa using v3 z l
  have l2:0<(b::I').length:=by simp
  have h3: ∀z∈E,z<X.N:=λz l=>hN z<|.inl (by simp[l]);have h4: ∀z∈b::I',z<X.N:=λz l=>hN z<|.inr<|Bi _ l;have u1:=(sJ.mp V).2.1;have u2:=(sJ.mp W).1;exact gQ (λc=>iY<|SR S2 u1 u2 h3 h4 l1 l2 hd top λG s U ho=>tE<|nj<|gg<|Z G s U ho) λc=>iY<|SV S2 u1 u2 h3 h4 l1 l2 hd top λG s U ho=>tE<|nj<|gg<|Z G s U ho
end
section
variable {X:Cs}{st:pV}{b:Array (Nat×Nat×Nat)}{A L:ja}
theorem Rn.mod{w:Nat}: ∀{c:List (Nat×Nat×Nat)} {s:Nat} {a:List (List Nat)} (i:Nat),Rn X s a c->Rn X s a (c.modify i λx=>(x.1,x.2.1,w))
 |[],s,a,i,h=>by cases i<;>exact h
 |p::c,s,[],i,h=>h.elim
 |p::c,s,A::a,0,h=>h
 |p::c,s,A::a,i+1,h=>⟨h.1,h.2.1,h.2.2.1,h.2.2.2.1,Rn.mod i h.2.2.2.2⟩
theorem Rn.le: ∀{c:List (Nat×Nat×Nat)} {s:Nat} {a:List (List Nat)},Rn X s a c->Ls c<=Ls a.flatten
 |[],s,a,h=>kx _
 |p::c,s,[],h=>h.elim
 |p::c,s,A::a,h=>by have:=Rn.le h.2.2.2.2;have:=JH.mpr h.2.2.1;simp at*;omega
theorem Rn.push{A:ja}{w:Nat}: ∀{d:List (Nat×Nat×Nat)} {s:Nat} {c:List (List Nat)},Rn X s c d->A≠[]->A.Pairwise X.le->Rn X s (c++[A]) (d++[(s+Ls c.flatten,Ls A,w)])
 |[],s,[],h,a,u=>⟨rfl,rfl,a,u,trivial⟩
 |[],s,A::c,h,a,u=>h.elim
 |p::d,s,[],h,a,u=>h.elim
 |p::d,s,B::c,h,a,u=>⟨h.1,h.2.1,h.2.2.1,h.2.2.2.1,by simpa[vH] using Rn.push (w:=w) h.2.2.2.2 a u⟩
def M6{Q:Unit->pV->Prop}(S:Rp X #[] L st)(h: ∀E b L,Rp X b L E->L.Pairwise X.le->Q () E):wp X sortRuns' Q st:=by
 have I:(ev st).size=X.N:=by rw[S.a];simpa using S.p.length_eq
 have y: ∀{b L st},Rp X b L st->Ls L=X.N:=λS=>by simpa using S.p.length_eq
 rw[sortRuns'_eq];refine nj ?_;rw[I];dsimp only;refine kZ (λi c s=> ∃b,∃g:List (List Nat),∃R,c=(C,Ls g.flatten)/\Rp X b (g.flatten++R) s/\Rn X 0 g b.toList/\i<=Ls g.flatten) (λc s=>c.1=C/\ ∃b g,Rp X b g.flatten s/\Rn X 0 g b.toList) ⟨#[],[],L,rfl,S,trivial,kx _⟩ ?_ ?_ ?_
 .rintro i c s t ⟨b,g,R,rfl,S,d,o⟩;have r:=y S;dsimp only;refine gQ (λe=>?_) λe=>?_
  .obtain rfl:R=[]:=xZ (by simp at r e;omega);exact gg ⟨rfl,b,g,by simpa using S,d⟩
  obtain⟨x,R,rfl⟩:=qh (l:=R) (by simp at r e;omega);refine iY<|JM S K3 (by simp at r ⊢;omega) λA R s S a1 u M=>?_;apply JL λn s=> ∃A R,n=Ls A/\Rp X b (g.flatten++(A++R)) s/\A≠[]/\A.Pairwise X.le
  .intro F;have T:=JH.mpr a1;refine gQ (λe=>?_) λe=>?_
   .refine qP (iY<|PD S K3 K3 T (by simp at r;omega) (by omega) u λA R s S o u=>gQ (λc=>by simp at c) λ_=>?_);generalize J:min (X.N-Ls g.flatten) (minRun' X.N X.N 0)=n at o ⊢;exact F n s ⟨A,R,o.symm,S,by intro z;subst z;simp at o e;omega,u⟩
   .exact F (Ls A) s ⟨A,R,rfl,S,a1,u⟩
  rintro _ s ⟨A,R,rfl,S,a1,u⟩;refine nj ?_;apply OZ λs=> ∃b m,Rp X b (m.flatten++(A++R)) s/\Rn X 0 m b.toList/\(Ls m.flatten)=Ls g.flatten
  .intro F;rw[S.q]
   cases b.back? with
   |none=>exact F s ⟨b,g,S,d,rfl⟩
   |some z=>
    refine kZ (λ_ c s=>c=(C,())/\ ∃b m,Rp X b (m.flatten++(A++R)) s/\Rn X 0 m b.toList/\(Ls m.flatten)=Ls g.flatten) (λc s=>c=(C,())/\ ∃b m,Rp X b (m.flatten++(A++R)) s/\Rn X 0 m b.toList/\(Ls m.flatten)=Ls g.flatten) ⟨rfl,b,g,S,d,rfl⟩ ?_ (λ_ _ h=>h) ?_
    .rintro j c s _ ⟨rfl,b,m,S,d,o⟩;refine nj ?_;rw[S.q]
     cases H:(if b.size>1 then b[b.size-2]? else C) with
     |none=>exact gg ⟨rfl,b,m,S,d,o⟩
     |some z=>
      refine gQ (λ_=>gg ⟨rfl,b,m,S,d,o⟩) λ_=>iY<|OY S d ?_ λs v w S d _ O=>gQ (λc=>by simp at c) λ_=>gg ⟨rfl,v,w,S,d,O.trans o⟩;split at H
      .omega
      .cases H
    .rintro c s ⟨rfl,b,m,S,d,o⟩;exact tE<|F _ ⟨_,m,⟨S.a,S.k,S.f,rfl,S.p⟩,by rw[S.q,Array.toList_modify];exact d.mod _,o⟩
  .rintro s ⟨b,m,S,d,o⟩;refine tE<|gg ⟨_,m++[A],R,?_,⟨by simpa using S.a,S.k,S.f,rfl,by simpa using S.p⟩,?_,?_⟩
   .rw[List.flatten_append,ky,o];simp
   .rw[S.q,dZ,<-o,<-vI (Ls m.flatten)];exact d.push a1 u
   .have:=JH.mpr a1;simp at*;omega
 .rintro c s ⟨b,g,R,rfl,S,d,o⟩;have r:=y S;obtain rfl:R=[]:=xZ (by simp at r o;omega);exact⟨rfl,b,g,by simpa using S,d⟩
 .rintro⟨_,c⟩ s ⟨rfl,b,g,S,d⟩;have r:=y S;have G:=d.le;refine kZ (λi c s=>c=(C,())/\ ∃b g,Rp X b g.flatten s/\Rn X 0 g b.toList/\(b.size<=1\/b.size+i<=X.N)) (λc s=>c=(C,())/\ ∃b g,Rp X b g.flatten s/\Rn X 0 g b.toList/\b.size<=1) ⟨rfl,b,g,S,d,.inr<|by rw[jc] at G;omega⟩ ?_ ?_ ?_
  .rintro i c s _ ⟨rfl,b,g,S,d,t⟩;refine nj ?_;rw[S.q];refine gQ (λe=>gg ⟨rfl,b,g,S,d,e⟩) λe=>iY<|OY (R:=[]) (by simpa using S) d ((λc:Bool=>show(if c=Y then b.size-2-1 else b.size-2)+1<b.size by split<;>omega) _) λs v w S d I _=>gQ (λc=>by simp at c) λ_=>gg ⟨rfl,v,w,by simpa using S,d,.inr<|by omega⟩
  .rintro c s ⟨rfl,b,g,S,d,t⟩;exact⟨rfl,b,g,S,d,by omega⟩
  .rintro c s ⟨rfl,b,g,S,d,t⟩;refine gg<|h s b _ S ?_;obtain⟨C'⟩:=b
   match C',g,d,t with
   |[],[],_,_=>exact .nil
   |[p],[A],d,_=>simpa using d.2.2.2.1
   |p::[],A::B::g,d,_=>exact d.2.2.2.2.elim
   |[],A::g,d,_=>exact d.elim
   |p::C',[],d,_=>exact d.elim
   |p::U::C',g,d,t=>simp at t
end
end TS
namespace PX
open L2 PySem.SeqAt
open PySem.AutoSeq1 (wpAny_loadPart')
open PySem.MeetsSeq PySem.MeetsSeq2 PySem.MeetsSeq3
noncomputable def jr(op:cd)(i j:Int):Bool:=match op with
 | .Lt=>decide (i<j)| .LtE=>decide (i<=j)| .Gt=>decide (i>j)|_=>decide<|i>=j
def oT(op:cd):Prop:=op= .Lt\/op= .LtE\/op= .Gt\/op= .GtE
def OW(op:cd)(A:gJ)(s:fY)(y x:gu)(b:Bool):Prop:= ∀(a:gM) (w:gB) (E:gX) (Q:gX),Q (.bool b) s->af (ah a w) A (richCompare op y x) Q E s
def ze(op:cd)(A:gJ)(s:fY)(fin:Bool):List (gu×gu)->Bool->Prop
 |[],r=>r=fin
 |(y,x)::ir,r=> ∃e,EqAt A s y x e/\(if e=Y then ze op A s fin ir r else OW op A s y x r)
def JV(l b:fV)(a i:lN)(n B:Nat)(q T:Option fV)(E z:wR)(r:Bool):
  fr (aQ.«tuple.__lt__» ⟨[.ref l,.ref b],[]⟩) (λA R s=>s.heap.get? l=I {cls:= .type "tuple",dict:=q,data:= .seq a n,slots:=E}/\s.heap.get? b=I {cls:= .type "tuple",dict:=T,data:= .seq i B,slots:=z}/\
   ze .Lt A.in1 s (jr .Lt a.size i.size) (a.toList.zip i.toList) r/\R (.ok<|.ret<|.bool r) s):=
 .of_wp λf w A R s h=>by
  obtain⟨m,g,d,o,os⟩:=s;obtain⟨v,t,c,h⟩:=h;have f2:=AS
  wp_walk using bD v,bD t,AR _ (λir b k=>b.1=C/\k=⟨m,g,d,o,os⟩/\ze .Lt A.in1 ⟨m,g,d,o,os⟩ (jr .Lt a.size i.size) ir r) _
  case turn=>
   rintro⟨y,x⟩ ir b k ⟨j,rfl,e,u,c⟩;refine fX<|u f w _ _ ?_
   cases e with
   |true=>
    simp only[jb] at c
    wp_walk
    exact⟨rfl,rfl,c⟩
   |false=>
    simp only[jA,jh] at c;have p:=c f w
    wp_walk using p
    exact⟨_,rfl,by simpa using h⟩
  case fin=>
   rintro⟨b1,U⟩ k ⟨j,rfl,c⟩;simp only at j;subst j;have c:r=jr .Lt a.size i.size:=c;rw[c] at h
   wp_walk
   exact⟨_,rfl,by simpa[bn,jr] using h⟩
  case h=>exact⟨rfl,rfl,c⟩
def JW(l b:fV)(a i:lN)(n B:Nat)(q T:Option fV)(E z:wR)(r:Bool):
  fr (aQ.«tuple.__le__» ⟨[.ref l,.ref b],[]⟩) (λA R s=>s.heap.get? l=I {cls:= .type "tuple",dict:=q,data:= .seq a n,slots:=E}/\s.heap.get? b=I {cls:= .type "tuple",dict:=T,data:= .seq i B,slots:=z}/\
   ze .LtE A.in1 s (jr .LtE a.size i.size) (a.toList.zip i.toList) r/\R (.ok<|.ret<|.bool r) s):=
 .of_wp λf w A R s h=>by
  obtain⟨m,g,d,o,os⟩:=s;obtain⟨v,t,c,h⟩:=h;have f2:=AS
  wp_walk using bD v,bD t,AR _ (λir b k=>b.1=C/\k=⟨m,g,d,o,os⟩/\ze .LtE A.in1 ⟨m,g,d,o,os⟩ (jr .LtE a.size i.size) ir r) _
  case turn=>
   rintro⟨y,x⟩ ir b k ⟨j,rfl,e,u,c⟩;refine fX<|u f w _ _ ?_
   cases e with
   |true=>
    simp only[jb] at c
    wp_walk
    exact⟨rfl,rfl,c⟩
   |false=>
    simp only[jA,jh] at c;have p:=c f w
    wp_walk using p
    exact⟨_,rfl,by simpa using h⟩
  case fin=>
   rintro⟨b1,U⟩ k ⟨j,rfl,c⟩;simp only at j;subst j;have c:r=jr .LtE a.size i.size:=c;rw[c] at h
   wp_walk
   exact⟨_,rfl,by simpa[bn,jr] using h⟩
  case h=>exact⟨rfl,rfl,c⟩
def JX(l b:fV)(a i:lN)(n B:Nat)(q T:Option fV)(E z:wR)(r:Bool):
  fr (aQ.«tuple.__gt__» ⟨[.ref l,.ref b],[]⟩) (λA R s=>s.heap.get? l=I {cls:= .type "tuple",dict:=q,data:= .seq a n,slots:=E}/\s.heap.get? b=I {cls:= .type "tuple",dict:=T,data:= .seq i B,slots:=z}/\
   ze .Gt A.in1 s (jr .Gt a.size i.size) (a.toList.zip i.toList) r/\R (.ok<|.ret<|.bool r) s):=
 .of_wp λf w A R s h=>by
  obtain⟨m,g,d,o,os⟩:=s;obtain⟨v,t,c,h⟩:=h;have f2:=AS
  wp_walk using bD v,bD t,AR _ (λir b k=>b.1=C/\k=⟨m,g,d,o,os⟩/\ze .Gt A.in1 ⟨m,g,d,o,os⟩ (jr .Gt a.size i.size) ir r) _
  case turn=>
   rintro⟨y,x⟩ ir b k ⟨j,rfl,e,u,c⟩;refine fX<|u f w _ _ ?_
   cases e with
   |true=>
    simp only[jb] at c
    wp_walk
    exact⟨rfl,rfl,c⟩
   |false=>
    simp only[jA,jh] at c;have p:=c f w
    wp_walk using p
    exact⟨_,rfl,by simpa using h⟩
  case fin=>
   rintro⟨b1,U⟩ k ⟨j,rfl,c⟩;simp only at j;subst j;have c:r=jr .Gt a.size i.size:=c;rw[c] at h
   wp_walk
   exact⟨_,rfl,by simpa[bn,jr] using h⟩
  case h=>exact⟨rfl,rfl,c⟩
def JY(l b:fV)(a i:lN)(n B:Nat)(q T:Option fV)(E z:wR)(r:Bool):
  fr (aQ.«tuple.__ge__» ⟨[.ref l,.ref b],[]⟩) (λA R s=>s.heap.get? l=I {cls:= .type "tuple",dict:=q,data:= .seq a n,slots:=E}/\s.heap.get? b=I {cls:= .type "tuple",dict:=T,data:= .seq i B,slots:=z}/\
   ze .GtE A.in1 s (jr .GtE a.size i.size) (a.toList.zip i.toList) r/\R (.ok<|.ret<|.bool r) s):=
 .of_wp λf w A R s h=>by
  obtain⟨m,g,d,o,os⟩:=s;obtain⟨v,t,c,h⟩:=h;have f2:=AS
  wp_walk using bD v,bD t,AR _ (λir b k=>b.1=C/\k=⟨m,g,d,o,os⟩/\ze .GtE A.in1 ⟨m,g,d,o,os⟩ (jr .GtE a.size i.size) ir r) _
  case turn=>
   rintro⟨y,x⟩ ir b k ⟨j,rfl,e,u,c⟩;refine fX<|u f w _ _ ?_
   cases e with
   |true=>
    simp only[jb] at c
    wp_walk
    exact⟨rfl,rfl,c⟩
   |false=>
    simp only[jA,jh] at c;have p:=c f w
    wp_walk using p
    exact⟨_,rfl,by simpa using h⟩
  case fin=>
   rintro⟨b1,U⟩ k ⟨j,rfl,c⟩;simp only at j;subst j;have c:r=jr .GtE a.size i.size:=c;rw[c] at h
   wp_walk
   exact⟨_,rfl,by simpa[bn,jr] using h⟩
  case h=>exact⟨rfl,rfl,c⟩
section
variable {A:gJ}{s:fY}{l b:fV}{a c:lN}{r:Bool}
def Kk(T:oT op)(B:s.heap.IsTuple l a)(z:s.heap.IsTuple b c)(i:A.units<bc)(j:ze op A.in1 s (jr op a.size c.size) (a.toList.zip c.toList) r):OW op A s (.ref l) (.ref b) r:=λu w E Q h=>by
 obtain⟨⟨y,g,q,p⟩,d,t,n,hd⟩:=id B;obtain⟨⟨U,o,data2,k⟩,e,v,m,f⟩:=id z;simp only at t hd v f;subst t hd v f;rcases T with rfl|rfl|rfl|rfl
 .exact AQ (op:= .Lt) ⟨_,d,rfl⟩ ⟨_,e,rfl⟩ PySem.F.slot_tuple_lt PySem.F.entry_tuple_lt (PySem.F.args_tuple_lt_2 _ _) (JV l b a c n m g o p k r) ⟨d,e,j,show c0 r≠cx/\Q (.bool r) s from⟨(λx=>nomatch x),h⟩⟩ i
 .exact AQ (op:= .LtE) ⟨_,d,rfl⟩ ⟨_,e,rfl⟩ PySem.F.slot_tuple_le PySem.F.entry_tuple_le (PySem.F.args_tuple_le_2 _ _) (JW l b a c n m g o p k r) ⟨d,e,j,show c0 r≠cx/\Q (.bool r) s from⟨(λx=>nomatch x),h⟩⟩ i
 .exact AQ (op:= .Gt) ⟨_,d,rfl⟩ ⟨_,e,rfl⟩ PySem.F.slot_tuple_gt PySem.F.entry_tuple_gt (PySem.F.args_tuple_gt_2 _ _) (JX l b a c n m g o p k r) ⟨d,e,j,show c0 r≠cx/\Q (.bool r) s from⟨(λx=>nomatch x),h⟩⟩ i
 .exact AQ (op:= .GtE) ⟨_,d,rfl⟩ ⟨_,e,rfl⟩ PySem.F.slot_tuple_ge PySem.F.entry_tuple_ge (PySem.F.args_tuple_ge_2 _ _) (JY l b a c n m g o p k r) ⟨d,e,j,show c0 r≠cx/\Q (.bool r) s from⟨(λx=>nomatch x),h⟩⟩ i
end
mutual
noncomputable def lJ(a:cd):D->D->Option Bool
 | .int i,.int j=>I<|jr a i j
 | .tup l,.tup m=>pE a l m
 |_,_=>C
noncomputable def pE(a:cd):List D->List D->Option Bool
 |[],m=>I<|jr a 0<|Ls m
 |x::l,[]=>I<|jr a ((x::l).length) 0
 |x::l,y::m=>if D.eqb x y=Y then pE a l m else lJ a x y
end
def pj(c:cd)(a b k:Int):jr c (a+k) (b+k)=jr c a b:=by
 cases c<;>simp[jr]
section
variable {X:Cx}{c:gU}{f:L2.St}{H:Hp}{s:fY}
def CH(b:oT op):OW op A s (.int i t) (.int j u) (jr op i j):=λa w E Q h=>by
 rcases b with rfl|rfl|rfl|rfl
 .exact(tp h:af (ah a w) A (ap .Lt _ _) Q E s)
 .exact(ts h:af (ah a w) A (ap .LtE _ _) Q E s)
 .exact(tv h:af (ah a w) A (ap .Gt _ _) Q E s)
 .exact(tz h:af (ah a w) A (ap .GtE _ _) Q E s)
def Kl(N:oT op)(I:Inv X c f H s): ∀(n:Nat) (d e:D) (v u:V) (a b:gu) (O B:AP') (A:gJ) (r:Bool),jm X.K H O d v->jm X.K H B e u->RelV v a->RelV u b->d.dep<=n->e.dep<20000->A.units+n<bc->lJ op d e=I8 r->OW op A s a b r:=by
 intro n
 induction n with
 |zero=>
  intro d e v u a b O B A r hd T G J M R hA g
  cases d with
  |int i=>
   cases e with
   |int j=>have:=gO hd;subst this;have:=gO T;subst this;obtain⟨t,rfl⟩:=G;obtain⟨t',rfl⟩:=J;rw[lJ] at g;rw[<-jn g];exact CH N
   |_=>rw[lJ] at g<;>first|cases g|(intros;simp_all)
  |tup l=>rw[D.dep] at M;lia
  |_=>rw[lJ] at g<;>first|cases g|(intros;simp_all)
 |succ n ih=>
  intro d e v u a b O B A r hd T G J M R hA g
  cases d with
  |int i=>
   cases e with
   |int j=>have:=gO hd;subst this;have:=gO T;subst this;obtain⟨t,rfl⟩:=G;obtain⟨t',rfl⟩:=J;rw[lJ] at g;rw[<-jn g];exact CH N
   |_=>rw[lJ] at g<;>first|cases g|(intros;simp_all)
  |tup l=>
   cases e with
   |tup m=>
    rw[lJ] at g;rw[D.dep] at M R;obtain⟨p,E,rfl,q,z⟩:=kJ hd;obtain⟨p2,L,rfl,q2,o⟩:=kJ T;cases G;cases J;obtain⟨h,Q,pl,_⟩:=I.tuple q;obtain⟨w,C,f9,_⟩:=I.tuple q2;have P:A.in1.units=A.units+1:=rfl
    have Y: ∀(l m:List D) (E L:List V) (h w:il) (k:Int),D.depL l+1<=n+1->D.depL m<20000->RepL X.K H O l E->RepL X.K H B m L->Vals E h->Vals L w->pE op l m=I8 r->ze op A.in1 s (jr op (h.length+k)<|w.length+k) (h.zip w) r:=by
     intro l
     induction l with
     |nil=>
      intro m E L h w k Z x9 z o Q C g;rw[RepL] at z;subst z;cases Q;rw[pE] at g;have e1:=o.length;have e2:=C.length;show r=_;rw[pj,<-jn g]
      congr 1
      lia
     |cons x l U=>
      intro m E L h w k Z x9 z o Q C g;rw[RepL] at z;obtain⟨S,xr,rfl,g1,g2⟩:=z
      cases Q with
      |cons a1 a2=>
       cases m with
       |nil=>
        rw[RepL] at o;subst o;cases C;rw[pE] at g;have e1:=g2.length;have e2:=a2.length;rw[gV];show r=_;rw[pj,<-jn g]
        congr 1
        simp only[kY];lia
       |cons y m=>
        rw[RepL] at o;obtain⟨W,yr,rfl,g3,g4⟩:=o
        cases C with
        |cons b1 b2=>
         rw[pE] at g;rw[D.depL] at Z x9;rw[qf];refine⟨D.eqb x y,B8 I n x y S W _ _ O B A.in1 (.inl g1) (.inl g3) a1 b1 (by lia) (by lia) (by rw[P];lia),?_⟩
         cases F:D.eqb x y with
         |true=>
          rw[F,gr K3] at g;rw[gr K3];have:=U m xr yr _ _ (k+1) (by lia) (by lia) g2 g4 a2 b2 g;simp only[kY];have e: ∀a:Nat,(((a+1:Nat):Int)+k)=(a:Int)+(k+1):=λa=>by lia
          rw[e,e];exact this
         |false=>rw[F,gD jD] at g;rw[gD jD];exact ih x y S W _ _ O B A.in1 r (.inl g1) (.inl g3) a1 b1 (by lia) (by lia) (by rw[P];lia) g
    have:=Y l m E L h w 0 (by lia) (by lia) z o Q C g;refine Kk N pl f9 (by lia) ?_;simpa using this
   |_=>rw[lJ] at g<;>first|cases g|(intros;simp_all)
  |_=>rw[lJ] at g<;>first|cases g|(intros;simp_all)
def kQ(a:cd)(d e:D):Option (D×Bool):=if d.dep<=50/\e.dep<=50 then(lJ a d e).map λb=>(.bl b,J) else C
def kO(b:oT op)(l:X.A.units+60<bc):OpR X (ap op) (rD X.K<|kQ op):=by
 intro c s f H x y v u Q U j k h;obtain⟨O,d,e,z,np,h1,g,a,G⟩:=h;unfold kQ at a;split at a
 .rename_i hd;obtain⟨r,i,rfl⟩:=iq a;have:=Kl b U 50 d e x y v u O O X.A r h1 g j k hd.1 (by lia) (by lia) i X.prog X.w X.xe (EP X c f Q) ⟨.bl r,H,U,rfl,G.bl⟩;rcases b with rfl|rfl|rfl|rfl<;>exact this
 .cases a
end
open TS
section
variable {b:gM}{w:gB}{A:gJ}{E:gX}{s:fY}
noncomputable def nV(h:gH)(a:fV)(c:il):Heap:=((h.update a<|ay λ_=> #[]).push<|aZ "tuple" c.toArray 0).push<|aZ "list" #[] 0
noncomputable def L4(a:il)(i:Nat):Keyed:=(a.getD i am,a.getD i am)
def sy{a:fV}{c:il}{n:Nat}{P:te->fY->Prop}{κ:lv}{lt:Nat->Nat->Bool}(t:s.heap.get? a=I8 (aZ "list" c.toArray n))(B:(Ls c)<=sizeLine)(O: ∀i j,lt i j=KE->lt j i=K2)(N: ∀{i j k},lt j i=K2->lt k j=K2->lt k i=K2)
  (hk:2<=Ls c->af (ah b w) A (keyKind' c.toArray) (λg d=>d={s with heap:=nV s.heap a c}/\g=κ) (λ_ _=>False) {s with heap:=nV s.heap a c})
  (ask:2<=Ls c->Ask (ah b w) A (λd=>d={s with heap:=nV s.heap a c}) (L4 c) κ (Ls c) lt)
  (h: ∀p:List Nat,p.Perm (ai<|Ls c)->p.Pairwise (λi j=>lt j i=K2)->P (.done<|.ret .none) {s with heap:=(nV s.heap a c).update a (ay λ_=>(p.map λi=>c.getD i am).toArray)}):
  af (ah b w) A (aQ.«list.sort» ⟨[.ref a],[]⟩) P E s:=by
 rw[list_sort_plain];have U:a<s.heap.objs.size:=iM t;refine fX<|DZ t K3<|fX<|sU t K3 ?_ (by rw[hG];exact B)<|kx _;obtain⟨v,C⟩: ∃v,(s.heap.update a<|ay λ_=>(#[]:Array gu)).get? a=I8 (aZ "list" #[] v):=⟨_,vG t λ_=> #[]⟩
 refine fX<|xS C K3<|fX<|A4 ?_ (by show (Ls c)<=_;exact B);refine fX<|AO ?_<|kx _;refine lM ?_;have r:(nV s.heap a c).get? a=I8 (aZ "list" #[] v):=iF _ (iF _ C);show af (ah b w) A _ P E {s with heap:=nV s.heap a c};dsimp only;by_cases l:c.toArray.size<2
 .rw[gr l,gr l];refine fX<|gn ?_;rw[D7];refine fX<|gn ?_;dsimp only;refine fX<|xS r K3<|fX<|sU r K3 ?_ (kx _) ?_
  .simp only[rW,jA,jh];refine gn ?_;have u:(Ls c)<2:=by simpa using l
   have:=h (ai<|Ls c) (sQ _) (by rw[MZ];intro i j m G Y;simp at m G;lia)
   have e:((c.toArray.zip c.toArray).map (·.2))=((ai<|Ls c).map λi=>c.getD i am).toArray:=by
    apply u3
    .simp
    .intro i h1 T;have m:i<(Ls c):=by simpa using h1
     simp[m]
   rw[e];exact this
  .rw[ms,mo];simp;lia
 .rw[gD l,gD l];have u:2<=(Ls c):=by simpa using l
  refine fX<|ni (hk u) (λg d z=>?_) λ_ _ x=>x.elim;obtain⟨rfl,rfl⟩:=z;refine fX (ni (M6 (X:=⟨_,A,E,λd=>d={s with heap:=nV s.heap a c},L4 c,lt,g,Ls c,O,N,ask u⟩) (L:=ai<|Ls c) ⟨?_,rfl,rfl,rfl,.refl _⟩ (Q:=λ_ q=> ∃p,(ev q).map (·.2)=(p.map λi=>c.getD i am).toArray/\eO q=J4/\p.Perm (ai<|Ls c)/\p.Pairwise λi j=>lt j i=K2) (λq _ p R y=>⟨p,?_,R.f,R.p,y⟩) _ rfl) ?_ λ_ _ e=>e)
  .show c.toArray.zip c.toArray=_;apply u3
   .simp
   .intro i h1 T;have m:i<(Ls c):=by simpa using h1
    simp[L4,m]
  .rw[R.a];simp[L4]
  rintro⟨⟨⟩,q⟩ d ⟨rfl,H,o,J,I,y⟩;dsimp only;have M:(Ls H)=(Ls c):=by simpa using I.length_eq
  refine fX<|xS r K3<|fX<|sU r K3 ?_ (kx _) ?_
  .rw[J];simp only[rW,jA,jh];rw[o];exact gn<|h H I y
  .rw[o,hG,iJ,M];lia
end
mutual
noncomputable def cT:D->D->Ordering
 | .int i,.int j=>if i<j then .lt else if i=j then .eq else .gt
 | .int _,_=> .lt
 | .tup _,.int _=> .gt
 | .tup l,.tup m=>cL l m
 | .tup _,_=> .lt
 |_,.int _=> .gt
 |_,.tup _=> .gt
 |_,_=> .eq
noncomputable def cL:List D->List D->Ordering
 |[],[]=> .eq
 |[],_::_=> .lt
 |_::_,[]=> .gt
 |x::l,y::m=>match cT x y with
  | .lt=> .lt
  | .gt=> .gt
  | .eq=>cL l m
end
mutual
theorem G6: ∀x:D,cT x x= .eq
 | .int i=>by simp[cT]
 | .tup l=>by rw[cT];exact G8 l
 | .non=>by simp[cT]
 | .bl _=>by simp[cT]
 | .str _=>by simp[cT]
 | .lst _=>by simp[cT]
 | .oth _ _ _=>by simp[cT]
theorem G8: ∀l:List D,cL l l= .eq
 |[]=>by simp[cL]
 |x::l=>by rw[cL,G6 x];exact G8 l
end
mutual
theorem xG: ∀x y:D,cT y x=(cT x y).swap
 | .int i,.int j=>by
  rw[cT,cT];by_cases h1:i<j
  .rw[gr h1,gD<|by lia,gD<|by lia];rfl
  .rw[gD h1];by_cases a:i=j
   .rw[gr a,gD<|by lia,gr a.symm];rfl
   .rw[gD a,gr<|by lia];rfl
 | .tup l,.tup m=>by rw[cT,cT];exact G7 l m
 | .int _,.tup _=>by simp[cT]
 | .int _,.non=>by simp[cT]
 | .int _,.bl _=>by simp[cT]
 | .int _,.str _=>by simp[cT]
 | .int _,.lst _=>by simp[cT]
 | .int _,.oth _ _ _=>by simp[cT]
 | .tup _,.int _=>by simp[cT]
 | .tup _,.non=>by simp[cT]
 | .tup _,.bl _=>by simp[cT]
 | .tup _,.str _=>by simp[cT]
 | .tup _,.lst _=>by simp[cT]
 | .tup _,.oth _ _ _=>by simp[cT]
 | .non,y=>by cases y<;>simp[cT]
 | .bl _,y=>by cases y<;>simp[cT]
 | .str _,y=>by cases y<;>simp[cT]
 | .lst _,y=>by cases y<;>simp[cT]
 | .oth _ _ _,y=>by cases y<;>simp[cT]
theorem G7: ∀l m:List D,cL m l=(cL l m).swap
 |[],[]=>by simp[cL]
 |[],_::_=>by simp[cL]
 |_::_,[]=>by simp[cL]
 |x::l,y::m=>by
  rw[cL,cL,xG x y];cases h:cT x y<;>simp[eA]
  exact G7 l m
end
def LM(h1:cT x y≠ .gt)(a:cT y x≠ .gt):cT x y= .eq:=by
 rw[xG x y] at a
 cases h:cT x y with
 |lt=>rw[h] at a;exact absurd H a
 |eq=>rfl
 |gt=>exact absurd h h1
mutual
theorem vp: ∀x y z:D,cT x y≠ .gt->cT y z≠ .gt->cT x z≠ .gt
 | .int i,y,z,h1,d=>by
  cases z with
  |int k=>
   cases y with
   |int j=>
    rw[cT] at h1 d ⊢
    have a:i<=j:=by
     by_cases a:i<j
     .lia
     .rw[gD a] at h1;by_cases b:i=j
      .lia
      .rw[gD b] at h1;exact absurd H h1
    have b:j<=k:=by
     by_cases a:j<k
     .lia
     .rw[gD a] at d;by_cases b:j=k
      .lia
      .rw[gD b] at d;exact absurd H d
    by_cases c:i<k
    .rw[gr c];simp
    .rw[gD c,gr<|by lia];simp
   |_=>simp[cT] at d
  |_=>simp[cT]
 | .tup l,y,z,h1,d=>by
  cases y with
  |int j=>simp[cT] at h1
  |tup m=>
   cases z with
   |int k=>simp[cT] at d
   |tup n=>rw[cT] at h1 d ⊢;exact DD l m n h1 d
   |_=>simp[cT]
  |_=>cases z<;>simp_all [cT]
 | .non,y,z,h1,d=>by cases y<;>cases z<;>simp_all [cT]
 | .bl _,y,z,h1,d=>by cases y<;>cases z<;>simp_all [cT]
 | .str _,y,z,h1,d=>by cases y<;>cases z<;>simp_all [cT]
 | .lst _,y,z,h1,d=>by cases y<;>cases z<;>simp_all [cT]
 | .oth _ _ _,y,z,h1,d=>by cases y<;>cases z<;>simp_all [cT]
 termination_by x y z=>sizeOf x+sizeOf y+sizeOf z
theorem DD: ∀l m n:List D,cL l m≠ .gt->cL m n≠ .gt->cL l n≠ .gt
 |[],m,n,_,_=>by cases n<;>simp[cL]
 |x::l,[],n,h1,_=>by simp[cL] at h1
 |x::l,y::m,[],_,a=>by simp[cL] at a
 |x::l,y::m,z::n,h1,a=>by
  have a1:cT x y≠ .gt:=λh=>by rw[cL,h] at h1;exact h1 H
  have c:cT y z≠ .gt:=λh=>by rw[cL,h] at a;exact a H
  have g:=vp x y z a1 c;rw[cL]
  cases b:cT x z with
  |lt=>simp
  |gt=>exact absurd b g
  |eq=>
   have f:cT z x≠ .gt:=by rw[xG x z,b];simp[eA]
   have d:cT x y= .eq:=LM a1<|vp y z x c f;have e:cT y z= .eq:=LM c<|vp z x y f a1;rw[cL,d] at h1;rw[cL,e] at a;exact DD l m n h1 a
 termination_by l m n=>sizeOf l+sizeOf m+sizeOf n
end
noncomputable def ltT(x y:D):Bool:=cT x y== .lt
def Uh:ltT x y=Y↔cT x y= .lt:=by simp[ltT]
def wz:ltT x y=J↔cT x y≠ .lt:=by simp[ltT]
def Pk:ltT y x=J↔cT x y≠ .gt:=by rw[wz,xG x y];cases cT x y<;>simp[eA]
def UM(x y:D)(h:ltT x y=Y):ltT y x=J:=by rw[Pk,Uh.mp h];simp
def SY(h1:ltT y x=J)(a:ltT z y=J):ltT z x=J:=Pk.mpr<|vp _ _ _ (Pk.mp h1) (Pk.mp a)
mutual
/-- ints,and tuples of such -/
noncomputable def D.pr:D->Bool
 | .int _=>Y
 | .tup l=>D.prL l
 |_=>J
noncomputable def D.prL:List D->Bool
 |[]=>Y
 |x::l=>D.pr x&&D.prL l
end
mutual
theorem Fq: ∀x y:D,D.pr x=Y->D.pr y=Y->D.eqb x y=(cT x y== .eq)
 | .int i,.int j,_,_=>by
  rw[D.eqb,cT];by_cases h:i=j
  .subst h;simp
  .rw[gD h];by_cases a:i<j<;>simp[h,a]
 | .int _,.tup _,_,_=>by simp[D.eqb,cT]
 | .tup _,.int _,_,_=>by simp[D.eqb,cT]
 | .tup l,.tup m,h1,a=>by rw[D.eqb,cT];rw[D.pr] at h1 a;exact GV l m h1 a
 | .non,_,h,_=>by simp[D.pr] at h
 | .bl _,_,h,_=>by simp[D.pr] at h
 | .str _,_,h,_=>by simp[D.pr] at h
 | .lst _,_,h,_=>by simp[D.pr] at h
 | .oth _ _ _,_,h,_=>by simp[D.pr] at h
 |_,.non,_,h=>by simp[D.pr] at h
 |_,.bl _,_,h=>by simp[D.pr] at h
 |_,.str _,_,h=>by simp[D.pr] at h
 |_,.lst _,_,h=>by simp[D.pr] at h
 |_,.oth _ _ _,_,h=>by simp[D.pr] at h
theorem GV: ∀l m:List D,D.prL l=Y->D.prL m=Y->D.eqbL l m=(cL l m== .eq)
 |[],[],_,_=>by simp[D.eqbL,cL]
 |[],_::_,_,_=>by simp[D.eqbL,cL]
 |_::_,[],_,_=>by simp[D.eqbL,cL]
 |x::l,y::m,h1,a=>by rw[D.prL,lL] at h1 a;rw[D.eqbL,cL,Fq x y h1.1 a.1,GV l m h1.2 a.2];cases cT x y<;>simp
end
mutual
theorem yZ: ∀x y:D,D.pr x=Y->D.pr y=Y->cT x y= .eq->x=y
 | .int i,.int j,_,_,h=>by
  rw[cT] at h;by_cases h1:i<j
  .rw[gr h1] at h;cases h
  .rw[gD h1] at h;by_cases c:i=j
   .rw[c]
   .rw[gD c] at h;cases h
 | .tup l,.tup m,a,b,h=>by rw[cT] at h;rw[D.pr] at a b;rw[DE l m a b h]
 | .int _,.tup _,_,_,h=>by simp[cT] at h
 | .tup _,.int _,_,_,h=>by simp[cT] at h
 | .non,_,a,_,_=>by simp[D.pr] at a
 | .bl _,_,a,_,_=>by simp[D.pr] at a
 | .str _,_,a,_,_=>by simp[D.pr] at a
 | .lst _,_,a,_,_=>by simp[D.pr] at a
 | .oth _ _ _,_,a,_,_=>by simp[D.pr] at a
 |_,.non,_,a,_=>by simp[D.pr] at a
 |_,.bl _,_,a,_=>by simp[D.pr] at a
 |_,.str _,_,a,_=>by simp[D.pr] at a
 |_,.lst _,_,a,_=>by simp[D.pr] at a
 |_,.oth _ _ _,_,a,_=>by simp[D.pr] at a
theorem DE: ∀l m:List D,D.prL l=Y->D.prL m=Y->cL l m= .eq->l=m
 |[],[],_,_,_=>rfl
 |[],_::_,_,_,h=>by simp[cL] at h
 |_::_,[],_,_,h=>by simp[cL] at h
 |x::l,y::m,a,b,h=>by
  rw[D.prL,lL] at a b;rw[cL] at h
  cases e:cT x y with
  |eq=>rw[e] at h;rw[yZ x y a.1 b.1 e,DE l m a.2 b.2 h]
  |lt=>rw[e] at h;cases h
  |gt=>rw[e] at h;cases h
end
mutual
theorem Cd: ∀x y:D,D.pr x=Y->D.pr y=Y-> ∀b,lJ .Lt x y=I b->b=ltT x y
 | .int i,.int j,_,_,b,h=>by
  rw[lJ] at h;rw[<-jn h,ltT,cT,jr];by_cases h1:i<j
  .simp[h1]
  .rw[gD h1];by_cases a:i=j<;>simp[h1,a]
 | .int _,.tup _,_,_,b,h=>by simp[lJ] at h
 | .tup _,.int _,_,_,b,h=>by simp[lJ] at h
 | .tup l,.tup m,h1,a,b,h=>by rw[lJ] at h;rw[D.pr] at h1 a;rw[ltT,cT];exact G2 l m h1 a b h
 | .non,_,h,_,_,_=>by simp[D.pr] at h
 | .bl _,_,h,_,_,_=>by simp[D.pr] at h
 | .str _,_,h,_,_,_=>by simp[D.pr] at h
 | .lst _,_,h,_,_,_=>by simp[D.pr] at h
 |_,.non,_,h,_,_=>by simp[D.pr] at h
 |_,.bl _,_,h,_,_=>by simp[D.pr] at h
 |_,.str _,_,h,_,_=>by simp[D.pr] at h
 |_,.lst _,_,h,_,_=>by simp[D.pr] at h
theorem G2: ∀l m:List D,D.prL l=Y->D.prL m=Y-> ∀b,pE .Lt l m=I b->b=(cL l m== .lt)
 |[],[],_,_,b,h=>by rw[pE] at h;rw[<-jn h];simp[jr,cL]
 |[],_::_,_,_,b,h=>by rw[pE] at h;rw[<-jn h];simp[jr,cL]<;>lia
 |_::_,[],_,_,b,h=>by rw[pE] at h;rw[<-jn h];simp[jr,cL]<;>lia
 |x::l,y::m,h1,a,b,h=>by
  rw[D.prL,lL] at h1 a;rw[pE,Fq x y h1.1 a.1] at h;rw[cL]
  cases c:cT x y with
  |eq=>rw[c] at h;simp at h;exact G2 l m h1.2 a.2 b h
  |lt=>rw[c] at h;simp at h;have:=Cd x y h1.1 a.1 b h;rw[this,ltT,c]
  |gt=>rw[c] at h;simp at h;have:=Cd x y h1.1 a.1 b h;rw[this,ltT,c]
end
section
variable {a:Type}(lt:a->a->Bool)
noncomputable def BP(x:a):List a->List a
 |[]=>[x]
 |y::l=>if lt y x=Y then y::BP x l else x::y::l
noncomputable def kd:List a->List a
 |[]=>[]
 |x::l=>BP lt x<|kd l
theorem rq(x:a): ∀l:List a,(BP lt x l).Perm (x::l)
 |[]=>sQ _
 |y::l=>by
  rw[BP];split
  .exact((rq x l).cons y).trans (fH x y l)
  .exact sQ _
theorem iw: ∀l:List a,(kd lt l).Perm l
 |[]=>sQ _
 |x::l=>(rq lt x _).trans<|(iw l).cons x
end
def L5{x:D}: ∀{l:List D},(l.Pairwise λx y=>ltT y x=J)->(BP ltT x l).Pairwise λx y=>ltT y x=J:=by
 intro d
 induction d with
 |nil=>intro _;exact Jl _ _
 |cons y l c=>
  intro h;have h:=AD.mp h;rw[BP]
  cases b:ltT y x with
  |true=>
   refine AD.mpr ⟨λz a=>?_,c h.2⟩;rcases jF.mp ((rq ltT x l).mem_iff.mp a) with rfl|a
   .exact UM _ _ b
   .exact h.1 z a
  |false=>
   refine AD.mpr ⟨λz a=>?_,AD.mpr h⟩;rcases jF.mp a with rfl|a
   .exact b
   .exact SY b (h.1 z a)
theorem mX: ∀l:List D,(kd ltT l).Pairwise λx y=>ltT y x=J
 |[]=>aU
 |x::l=>L5<|mX l
def J6{l m:List D}(h: ∀x∈m,D.pr x=Y)(a:l.Perm m)(c:l.Pairwise λx y=>ltT y x=J):l=kd ltT m:=
 Jk (λx y d e h1 b=>yZ x y (h x<|a.mem_iff.mp d) (h y<|(iw ltT m).mem_iff.mp e)<|LM (Pk.mp h1)<|Pk.mp b) c (mX m) (a.trans (iw ltT m).symm)
def Hm{a:List D}{p:ja}(pr: ∀x∈a,D.pr x=Y)(d:p.Perm (ai<|Ls a))(f:p.Pairwise λi j=>ltT (a.getD j .non) (a.getD i .non)=J):p.map (λi=>a.getD i .non)=kd ltT a:=by
 have e:(ai<|Ls a).map (λi=>a.getD i .non)=a:=by apply A8;intro i;by_cases c:i<Ls a<;>simp[c]
 have b:=d.map λi=>a.getD i .non;rw[e] at b;exact J6 pr b<|lZ.mpr f
noncomputable def ke:D->Option Nat
 | .int _=>I 0
 | .tup (.int _::_)=>I 1
 | .tup (.tup _::_)=>I 2
 |_=>C
noncomputable def GI:Nat->lv
 |0=>wv
 |1=>D0 Y
 |_=>D0 J
structure SortsBy(k:Nat)(l:List D):Prop where
 hd: ∀x∈l,ke x=I8 k
 pr: ∀x∈l,D.pr x=KE
 dp: ∀x∈l,x.dep<=50
 cm: ∀x∈l,∀y∈l,(lJ .Lt x y).isSome=KE
def lQ(l:List D):Bool:=Ls l<=1||match l with
 |[]=>Y
 |x::_=>(ke x).isSome&&(l.all λy=>ke y==ke x&&D.pr y&&decide (y.dep<=50))&&l.all λy=>l.all λz=>(lJ .Lt y z).isSome
def zO(h:lQ l=Y):(Ls l)<=1\/ ∃k,SortsBy k l:=by
 unfold lQ at h;rw[vF] at h;rcases h with h|h
 .left;simpa using h
 .right
  cases l with
  |nil=>exact⟨0,λx a=>absurd a kD,λx a=>absurd a kD,λx a=>absurd a kD,λx a=>absurd a kD⟩
  |cons x m=>simp only[lL,lO,vK] at h;obtain⟨⟨h1,c⟩,d⟩:=h;obtain⟨k,hk⟩:=JI.mp h1;refine⟨k,λy b=>?_,λy b=>(c y b).1.2,λy b=>(c y b).2,λy b z e=>d y b z e⟩;have:=(c y b).1.1;rw[hk] at this;simpa using this
section
variable {X:Cx}{d:gU}{f:L2.St}{H:Hp}{s:fY}
def qV(v:Vals xs a)(b:i<a.length):RelV (xs.getD i .non) (a.getD i am):=by
 have e:=v.length;have h:xs[i]?=I xs[i]:=gY (by omega);obtain⟨w,c,j⟩:=v.get h;have h1:xs.getD i .non=xs[i]:=by simp[show i<xs.length by omega]
 have g:a.getD i am=w:=by rw[gY b] at c;have:=jn c;simp[b,this]
 rw[h1,g];exact j
def rg(r:RepL X.K H O ds xs)(a:i<ds.length):Rep X.K H O (ds.getD i .non) (xs.getD i .non):=by
 have e:=r.length;have hd:ds[i]?=I ds[i]:=gY a;obtain⟨v,b,g⟩:=r.get hd;have h1:ds.getD i .non=ds[i]:=by simp[a]
 have c:xs.getD i .non=v:=by rw[gY<|by lia] at b;have:=jn b;simp[show i<xs.length by lia,this]
 rw[h1,c];exact g
def yH{ds:List D}{i:Nat}(a:i<Ls ds):ds.getD i .non∈ds:=by simp[a]
theorem Dg(I:Inv X d f H s){A:gJ}{b:Bool}{O z:AP'}(U:A.units+60<bc){r:Bool}{Q:FU}(n:Q r s): ∀(l m:List D) (u v:List V) (g o:il) (k:Int) (i:Nat),D.depL l<=50->D.depL m<=50->
  ((b&&i==0)=Y-> ∀x y l' m',l=x::l'->m=y::m'->(∃a,x= .int a)/\ ∃c,y= .int c)->RepL X.K H O l u->RepL X.K H z m v->Vals u g->Vals v o->pE .Lt l m=I8 r->
  ∀fin:Bool,fin=jr .Lt (g.length+k) (o.length+k)->PySem.W.KatLex X.prog X.w A b fin Q (g.zip o) i s
 |[],m,u,v,g,o,k,i,_,_,_,p,q,v1,v2,j,fin,hf=>by
  rw[RepL] at p;subst p;cases v1;rw[pE] at j;have G:=q.length;have J:=v2.length;show Q fin s;rw[hf,pj];rw[<-jn j] at n;have:jr .Lt ((([]:List gu).length:Nat):Int) (o.length:Int)=jr .Lt 0 (m.length:Int):=by congr 1;lia
  rw[this];exact n
 |x::l,[],u,v,g,o,k,i,_,_,_,p,q,v1,v2,j,fin,hf=>by
  rw[RepL] at q;subst q;cases v2;rw[pE] at j;have G:=p.length;have J:=v1.length;rw[gV];show Q fin s;rw[hf,pj];rw[<-jn j] at n;have:jr .Lt (g.length:Int) ((([]:List gu).length:Nat):Int)=jr .Lt (((x::l).length:Nat):Int) 0:=by congr 1;lia
  rw[this];exact n
 |x::l,y::m,u,v,g,o,k,i,w5,x9,Y',p,q,v1,v2,j,fin,hf=>by
  rw[RepL] at p q;obtain⟨C,F,rfl,g1,g2⟩:=p;obtain⟨E,P,rfl,g3,N⟩:=q
  cases v1 with
  |cons a1 L=>
   cases v2 with
   |cons b1 T=>
    rw[pE] at j;rw[D.depL] at w5 x9;rw[qf];refine PySem.W.kat_cons<|B8 I 50 x y C E _ _ O z A (.inl g1) (.inl g3) a1 b1 (by lia) (by lia) (by lia) X.prog X.w _ _ ?_
    cases B:D.eqb x y with
    |true=>
     rw[B,gr K3] at j;refine PySem.W.kat_yes<|Dg I U n l m F P _ _ (k+1) (i+1) (by lia) (by lia) (λh=>by simp at h) g2 N L T j fin ?_;rw[hf];simp only[kY];have e: ∀a:Nat,(((a+1:Nat):Int)+k)=(a:Int)+(k+1):=λa=>by lia
     rw[e,e]
    |false=>
     rw[B,gD jD] at j;refine PySem.W.kat_no ?_
     cases M:(b&&i==0) with
     |true=>obtain⟨⟨a,rfl⟩,c,rfl⟩:=Y' M x y l m K3 K3;have:=g1.int;subst this;have:=g3.int;subst this;obtain⟨t,rfl⟩:=a1;obtain⟨R,rfl⟩:=b1;rw[lJ] at j;rw[<-jn j] at n;exact oneLt_int n
     |false=>exact PySem.W.kat_one _ _ (Kl (.inl K3) I 50 x y C E _ _ O z A r (.inl g1) (.inl g3) a1 b1 (by lia) (by lia) (by lia) j X.prog X.w _ _ n)
def UL(I:Inv X d f H s){O:AP'}{u:List D}{N:List V}{e:il}{A:gJ}(hA:A.units+60<bc)(rr:RepL X.K H O u N)(v:Vals N e){k:Nat}(B:SortsBy k u):
  Ask (ah X.prog X.w) A (λT=>T=s) (L4 e) (GI k) e.length (λi j=>ltT (u.getD i .non)<|u.getD j .non):=by
 intro i j hi hj T p0 E';subst p0;have e1:=rr.length;have e2:=v.length;have J:u.getD i .non∈u:=yH (by lia);have M:u.getD j .non∈u:=yH (by lia);have ri:=rg rr (i:=i) (by lia);have rj:=rg rr (i:=j) (by lia);have vi:=qV v hi;have vj:=qV v hj;obtain⟨b,E⟩:=JI.mp<|B.cm _ J _ M;have j5:=Cd _ _ (B.pr _ J) (B.pr _ M) b E;have r:=B.hd _ J;have g:=B.hd _ M;have di:=B.dp _ J;have dj:=B.dp _ M;show af _ _ (ww (GI k) (e.getD i am)<|e.getD j am) _ _ _;dsimp only;rw[<-j5];generalize u.getD i .non=x at*;generalize u.getD j .non=y at*;generalize N.getD i .non=vx at*;generalize N.getD j .non=vy at*;generalize e.getD i am=a at*;generalize e.getD j am=c at*
 have C: ∀(l m:List D) (G:Bool),x= .tup l->y= .tup m->(G=KE-> ∀x y Z m',l=x::Z->m=y::m'->(∃a,x= .int a)/\ ∃c,y= .int c)->af (ah X.prog X.w) A (ww (D0 G) a c) (λY U=>U=T/\Y=b) E' T:=λl m G P R hh=>by subst P R;obtain⟨p,us,rfl,q,r1⟩:=ri.tup;obtain⟨p2,ws,rfl,q2,r2⟩:=rj.tup;cases vi;cases vj;obtain⟨S,w1,⟨o,ho,hc,n,hd⟩,_⟩:=I.tuple q.sq;obtain⟨L,w2,⟨o2,m5,t6,n2,F⟩,_⟩:=I.tuple q2.sq;rw[lJ] at E;rw[D.dep] at di dj;refine PySem.W.kat_lt ho hd m5 F ?_;have:=Dg I (b:=G) hA (Q:=λY U=>U=T/\Y=b) ⟨rfl,rfl⟩ l m us ws S L 0 0 (by lia) (by lia) (λh=>hh<|by simpa using h) r1 r2 w1 w2 E (decide<|S.toArray.size<L.toArray.size) (by simp[jr]);simpa using this
 match k,r,g with
 |0,r,g=>
  cases x with
  |int ix=>
   cases y with
   |int iy=>have:=ri.int;subst this;have:=rj.int;subst this;obtain⟨t,rfl⟩:=vi;obtain⟨t',rfl⟩:=vj;rw[lJ] at E;rw[<-jn E];show af _ _ (ww wv _ _) _ _ _;rw[keyLt'_oneType];exact oneLt_int ⟨rfl,rfl⟩
   |tup m=>cases m with
    |nil=>simp[ke] at g
    |cons z m=>cases z<;>simp[ke] at g
   |_=>simp[ke] at g
  |tup m=>cases m with
   |nil=>simp[ke] at r
   |cons z m=>cases z<;>simp[ke] at r
  |_=>simp[ke] at r
 |1,r,g=>
  cases x with
  |tup l=>
   cases y with
   |tup m=>
    refine C l m KE K3 K3 λ_ x y Z m' P R=>?_;subst P R;refine⟨?_,?_⟩
    .cases x with
     |int a=>exact⟨a,rfl⟩
     |_=>simp[ke] at r
    .cases y with
     |int a=>exact⟨a,rfl⟩
     |_=>simp[ke] at g
   |_=>simp[ke] at g
  |_=>simp[ke] at r
 |(n+2),r,g=>
  cases x with
  |tup l=>
   cases y with
   |tup m=>exact C l m K2 K3 K3 λh=>absurd h jD
   |_=>simp[ke] at g
  |_=>simp[ke] at r
end
open PySem.W
section
variable {X:Cx}{c:gU}{y:L2.St}{H:Hp}{s:fY}
def Dt(I:Inv X c y H s){O:AP'}{T:gu}(P:D->Prop)(k: ∀x v u,P x->Rep X.K H O x v->RelV v u->Looks (ah X.prog X.w) s.heap (nb u) T): ∀{ds:List D} {b:List V} {a:il},RepL X.K H O ds b->Vals b a->
  (∀d∈ds,∃x l,d= .tup (x::l)/\P x)-> ∃fs,KatTups s.heap a fs/\(Ls fs)=Ls a/\ ∀f∈fs,Looks (ah X.prog X.w) s.heap (nb f) T:=by
 intro B
 induction B with
 |nil=>intro b a r v _;rw[RepL] at r;subst r;cases v;exact⟨[],KatTups.nil,rfl,λf t=>absurd t kD⟩
 |cons d ds A=>
  intro b a r v h;rw[RepL] at r;obtain⟨R,S,rfl,g1,g2⟩:=r
  cases v with
  |cons a1 j=>
   obtain⟨fs,C,E,L⟩:=A g2 j λd hd=>h d<|jd _ hd;obtain⟨x,l,rfl,Q⟩:=h d iX;obtain⟨p,F,rfl,q,i⟩:=g1.tup;cases a1;obtain⟨N,J,⟨o,z,m,n,hd⟩,_⟩:=I.tuple q.sq;rw[RepL] at i;obtain⟨G,W,rfl,g3,Y⟩:=i
   cases J with
   |cons b1 M=>
    rename_i f U;refine⟨f::fs,KatTups.cons z m hd (by simp) C,by simp[E],λg e=>?_⟩;rcases jF.mp e with rfl|e
    .exact k x G _ Q g3 b1
    .exact L g e
def RG(I:Inv X c y H s){O:AP'}{ds:List D}{J:List V}{b:il}{A:gJ}(f:RepL X.K H O ds J)(v:Vals J b){k:Nat}(B:SortsBy k ds)(M:2<=b.length):
  af (ah X.prog X.w) A (keyKind' b.toArray) (λL s'=>s'=s/\L=GI k) (λ_ _=>False) s:=by
 have R:=f.length;have S:=v.length
 match k,B with
 |0,B=>
  refine kas_kind (T:= .type "int") M (λu Y=>?_) K3 K3 ⟨rfl,rfl⟩;obtain⟨i,Q,e⟩:=D3 Y;have G:=rg f (i:=i) (by lia);have E:=qV v Q;have hd:=B.hd _ (yH (ds:=ds) (i:=i)<|by lia);have:b.getD i am=u:=by simp[Q,e]
  rw[this] at E
  cases h:ds.getD i .non with
  |int a=>rw[h] at G;have:=G.int;rw[this] at E;obtain⟨t,rfl⟩:=E;exact Looks.of_pure K3
  |tup l=>
   rw[h] at hd
   cases l with
   |nil=>simp[ke] at hd
   |cons z m=>cases z<;>simp[ke] at hd
  |_=>rw[h] at hd;simp[ke] at hd
 |1,B=>
  obtain⟨fs,f1,f2,g⟩:=Dt I (T:= .type "int") (λx=> ∃a,x= .int a) (λx F u j C r=>by
   obtain⟨a,rfl⟩:=j;have:=C.int;subst this;obtain⟨t,rfl⟩:=r
   exact Looks.of_pure K3) f v λd hd=>by
    have:=B.hd d hd
    cases d with
    |tup l=>
     cases l with
     |nil=>simp[ke] at this
     |cons z m=>
      cases z with
      |int a=>exact⟨_,m,rfl,a,rfl⟩
      |_=>simp[ke] at this
    |_=>simp[ke] at this
  exact kat_kind f1 (by lia) g K3 ⟨rfl,rfl⟩
 |(n+2),B=>
  obtain⟨fs,f1,f2,g⟩:=Dt I (T:= .type "tuple") (λx=> ∃a,x= .tup a) (λx F u j C r=>by
   obtain⟨a,rfl⟩:=j;obtain⟨p,Z,rfl,q,W⟩:=C.tup;cases r;obtain⟨P,w1,⟨o,U,N,n,hd⟩,_⟩:=I.tuple q.sq;have:Looks (ah X.prog X.w) s.heap (nb<|.ref p) o.cls:=(Looks.ld U).andThen .now
   rw[N] at this;exact this) f v λd hd=>by
    have:=B.hd d hd
    cases d with
    |tup l=>
     cases l with
     |nil=>simp[ke] at this
     |cons z m=>
      cases z with
      |tup a=>exact⟨_,m,rfl,a,rfl⟩
      |_=>simp[ke] at this
    |_=>simp[ke] at this
  exact kat_kind f1 (by lia) g K3 ⟨rfl,rfl⟩
def iK(l:List D):Option (D×Bool):=if lQ l=Y/\(Ls l)<=sizeLine then I (.lst<|kd ltT l,Y) else C
def mf(d:D):Option (D×Bool):=(pK d).bind iK
def JR{b:List V}{a:il}(v:Vals b a): ∀(p:ja),(∀i∈p,i<Ls a)->Vals (p.map λi=>b.getD i .non) (p.map λi=>a.getD i am):=by
 intro f
 induction f with
 |nil=>intro _;exact .nil
 |cons i p e=>intro h;exact .cons (qV v<|h i iX)<|e λj d=>h j<|jd _ d
def Kg{O:AP'}{a:List D}{b:List V}(r:RepL X.K H O a b): ∀(p:ja),(∀i∈p,i<Ls a)->RepL X.K H O (p.map λi=>a.getD i .non) (p.map λi=>b.getD i .non):=by
 intro f
 induction f with
 |nil=>intro _;exact RepL.nil
 |cons i p e=>intro h;exact RepL.cons (rg r<|h i iX)<|e λj d=>h j<|jd _ d
def ED{b:List D}{n:Nat}(e:n=Ls b)(h1:(Ls b)<=1){p:ja}(a:p.Perm (ai n)):p.map (λi=>b.getD i .non)=kd ltT b:=by
 subst e
 match b,h1,a with
 |[],_,a=>
  have:p=[]:=by simpa using a.length_eq
  subst this;rfl
 |[d],_,a=>
  have e:(Ls p)=1:=by simpa using a.length_eq
  match p,e,a with
  |[i],_,a=>
   have:i=0:=by have:=a.mem_iff.mp<|zf.mpr K3;simpa using this
   subst this;rfl
def oH(hu:X.A.units+62<bc)(I:Inv X c y H s){O:AP'}{f:List D}{M:List V}{a:il}{x:gu}{Q:VK}{z:D×Bool}(u:RepL X.K H O f M)(v:Vals M a)(hg:iK f=I8 z)(G:Gen X.K H O z Q)
  (hc: ∀(Y:List gu->fY->Prop) (E':gX) (N:gJ),N.handled=X.A.handled->(∀(h':gH) (d:Nat),(∀b o,s.heap.get? b=I8 o->h'.get? b=I8 o)->Y a {s with heap:=h',toks:=d})->af (ah X.prog X.w) N (eJ x) Y E' s):
  af (ah X.prog X.w) X.A (call (.builtin "sorted") [x]) (EP X c y Q) X.xe s:=by
 unfold iK at hg;obtain⟨⟨L,hz⟩,rfl⟩:=gP hg;have r:=u.length;have e2:=v.length;refine Calls.call_function_entry I0 Ec Ev (args_sorted1 _) ?_;unfold aQ.«sorted»;refine fX (m:=checkCount "sorted" 1 1 _)<|gn ?_;refine fX<|hc _ _ _ rfl λh1 d R=>?_;refine fX<|AO ?_ (by lia);have t:(h1.push<|aZ "list" a.toArray 0).get? h1.objs.size=I8 (aZ "list" a.toArray 0):=iQ _ rfl;have C:Inv X c y H {s with heap:=h1,toks:=d}:=I.kept R
 have keep: ∀b o,h1.get? b=I8 o->(nV (h1.push<|aZ "list" a.toArray 0) h1.objs.size a).get? b=I8 o:=λb o l=>by have P:b≠h1.objs.size:=hX<|iM l;refine iF _ (iF _ ?_);rw[DY _ _ _ _ P];exact iF _ l
 have U:Inv X c y H {s with heap:=nV (h1.push<|aZ "list" a.toArray 0) h1.objs.size a,toks:=d}:=C.kept keep;have Z: ∀i∈ai a.length,i<a.length:=λi q=>by simpa using q
 refine fX<|lM<|nc (s:={s with heap:=h1.push<|aZ "list" a.toArray 0,toks:=d}) wn ⟨_,t,rfl⟩ t7 ?body<|args_list_sort _
 case body=>
  have fin: ∀p:List Nat,p.Perm (ai a.length)->p.map (λi=>f.getD i .non)=kd ltT f->EP X c y Q (.ref h1.objs.size) {s with heap:=(nV (h1.push<|aZ "list" a.toArray 0) h1.objs.size a).update h1.objs.size<|ay λ_=>(p.map λi=>a.getD i am).toArray,toks:=d}:=λp e T=>by
   have F: ∀i∈p,i<a.length:=λi q=>by simpa using e.mem_iff.mp q
   have J: ∃n,(nV (h1.push<|aZ "list" a.toArray 0) h1.objs.size a).get? h1.objs.size=I8 (aZ "list" #[] n):=by
    obtain⟨r,S⟩: ∃r,((h1.push<|aZ "list" a.toArray 0).update h1.objs.size<|ay λ_=>(#[]:Array gu)).get? h1.objs.size=I8 (aZ "list" #[] r):=⟨_,vG t λ_=> #[]⟩
    exact⟨r,iF _ (iF _ S)⟩
   obtain⟨n,J⟩:=J;obtain⟨E,W⟩: ∃E,((nV (h1.push<|aZ "list" a.toArray 0) h1.objs.size a).update h1.objs.size<|ay λ_=>(p.map λi=>a.getD i am).toArray).get? h1.objs.size=I8 (aZ "list" (p.map λi=>a.getD i am).toArray E):=⟨_,vG J λ_=>(p.map λi=>a.getD i am).toArray⟩
   have g: ∀b o,h1.get? b=I8 o->((nV (h1.push<|aZ "list" a.toArray 0) h1.objs.size a).update h1.objs.size<|ay λ_=>(p.map λi=>a.getD i am).toArray).get? b=I8 o:=λb o l=>by rw[DY _ _ _ _ (hX<|iM l)];exact keep b o l
   have pl:p.length=a.length:=by simpa using e.length_eq
   refine⟨.ref h1.objs.size,_,C.laid (t':=d) g (iD _) (show ObjOk X.prog X.w _ _ _ (.lst<|p.map λi=>M.getD i .non) from⟨by rw[iJ];lia,_,E,JR v p F,W⟩),rfl,?_⟩;refine G.lst C.fresh ?_;rw[<-T];exact Kg u p λi q=>by have:=F i q;lia
  rcases zO L with hlen|⟨k,B⟩
  .refine sy (κ:=general') (lt:=λ_ _=>K2) (s:={s with heap:=h1.push<|aZ "list" a.toArray 0,toks:=d}) t (by lia) (λ_ _ _=>rfl) (λ_ _=>rfl) (λh=>by lia) (λh=>by lia) λp e _=>⟨_,rfl,gn ⟨_,rfl,fin p e ?_⟩⟩
   exact ED (by lia) hlen e
  .refine sy (κ:=GI k) (lt:=λi j=>ltT (f.getD i .non)<|f.getD j .non) (s:={s with heap:=h1.push<|aZ "list" a.toArray 0,toks:=d}) t (by lia) (λ_ _=>UM _ _) SY (λh=>RG U u v B h) (λ_=>UL (A:=X.A.in1.in1) U (by show X.A.units+1+1+60<bc;lia) u v B) λp e T=>⟨_,rfl,gn ⟨_,rfl,fin p e<|Hm B.pr (by rw[show f.length=a.length by lia];exact e) T⟩⟩
def mW(j:X.A.units+62<bc):jw X (.builtin "sorted") (rDn X.K<|g1 mf):=lY λc s y H x u Q O d z U t np hd a G=>by
 obtain⟨l,g,a⟩:=fS a
 have M:l.length<=sizeLine:=by unfold iK at a;exact(gP a).1.2
 cases d with
 |lst m=>
  cases g;obtain⟨p,J,rfl,q,r⟩:=ji hd;cases t;obtain⟨i,v,T,_⟩:=U.list q;have E:=r.length;have L:=v.length;obtain⟨o,h,f,n,hd⟩:=T.isList;refine oH j U r v a G λN B w _ e=>DX p (.inl K3) h f hd (λb k=>by simpa using e b s.toks k) (by rw[hG];lia)
 |tup m=>
  cases g;obtain⟨p,J,rfl,q,r⟩:=kJ hd;cases t;obtain⟨i,v,⟨o,h,f,n,hd⟩,_⟩:=U.tuple q;have E:=r.length;have L:=v.length;refine oH j U r v a G λN B w _ e=>DX p (.inr K3) h f hd (λb k=>by simpa using e b s.toks k) (by rw[hG];lia)
 |_=>cases g
def ID:aE "sorted"=I (.builtin "sorted"):=by decide+kernel
end
def zD:aE "isinstance"=I (.builtin "isinstance"):=by decide+kernel
structure Tx(mg:lE):Prop where
 n_len:mg "len"=J4
 n_abs:mg "abs"=J4
 n_int:mg "int"=J4
 n_tuple:mg "tuple"=J4
 n_list:mg "list"=J4
 n_range:mg "range"=J4
 n_isinstance:mg "isinstance"=J4
 n_bool:mg "bool"=J4
 n_max:mg "max"=J4
 n_min:mg "min"=J4
 n_all:mg "all"=J4
 n_any:mg "any"=J4
 n_sorted:mg "sorted"=J4
 n_enumerate:mg "enumerate"=J4
 n_zip:mg "zip"=J4
 n_set:mg "set"=J4
def OF{P:gM}{w:gB}{K:gy}{g:lE}{base:gH}{f:fV}{d:mZ}{i:hU}{k:Nat}:FnOk P w K g base CX0 k f d i (spF K λ_=>C) where
 len:=λj U Q E h=>by obtain⟨T,a,r,b,_,e,_⟩:=h;cases e
 run:=λA c s U a l j Q E _ _ _ _ h=>by obtain⟨T,a,r,b,_,e,_⟩:=h;cases e
def Hu{K:gy}{U:Hp}{O:AP'}: ∀a:List Int,RepL K U O (a.map .int) (a.map V.int):=by
 intro c
 induction c with
 |nil=>exact RepL.nil
 |cons n a b=>exact RepL.cons Rep.mkInt<|b
def RF{K:gy}{g:EvF}{U:Hp}{a:fV}{f:gh}(k:SqL K U a (f.map V.int)){o:Bool}{c:Dn}(h:g [(.lst<|f.map .int,J)]=I ((.bl Y,o),c)):spF K g [.ref a] U (λv _=>v= .bl Y) λ_ _ _=>False:=by
 have no: ∀b,¬OwnA [I<|V.ref a] [I (D.lst<|f.map .int,J)] b:=λb T=>by
  obtain⟨i,d,h1,m⟩:=T
  cases i with
  |zero=>simp at h1
  |succ i=>simp at h1
 refine⟨λ_=>False,[(.lst<|f.map .int,J)],_,c,⟨rfl,λi d hd=>?_,λi d hd=>?_,λi j d e b h1=>?_,λb z=>absurd z<|no b,λb z=>z.elim⟩,h,λv l P=>?_⟩
 .cases i with
  |zero=>simp at hd;subst hd;refine⟨_,rfl,Rep.mkLst (a:=a) (xs:=f.map V.int) ?_<|Hu f⟩;exact k.imp (λz=>⟨z,λz=>z.elim (no a) id⟩) id
  |succ i=>simp at hd
 .cases i with
  |zero=>simp at hd
  |succ i=>simp at hd
 .cases i with
  |zero=>simp at h1
  |succ i=>simp at h1
 .cases o with
  |false=>exact P.2.2.bl
  |true=>obtain⟨p,_,_,_,ok⟩:=P.2;exact ok.elim
def js(e a:cd)(b c d:FO):F:=λδ=>(b δ).bind λp=>(c p.2).bind λq=>match res q.2 p.1,res q.2 q.1 with
 |some (.int i),I (.int j)=>if jr e i j=Y then(d q.2).bind λr=>match res r.2 r.1 with
   |some (.int k)=>I ((.bl<|jr a j k,J),r.2)
   |_=>C
  else I ((.bl J,J),q.2)
 |_,_=>C
section
variable {X:Cx}{a b c:gm}{m l g:FO}{n:bB}{f d:cd}
def xD(h:oT f):OpR X (ap f) (rI0 λi j=> .bl (jr f i j)):=by
 rcases h with rfl|rfl|rfl|rfl
 .exact T7
 .exact T8
 .exact T9
 .exact Ua
def Aq(A:tF X.K (js f d m l g) σ H' Q):EB (rI0 λi j=> .bl (jr f i j)) (rI0 λi j=> .bl (jr d i j)) (tO X.K m) (tO X.K l) (tO X.K g) σ H' Q:=by
 obtain⟨M,T,F,N,E,e,k⟩:=A;unfold js at e;obtain⟨⟨x,p⟩,h1,e⟩:=fS e;obtain⟨⟨G,q⟩,y,e⟩:=fS e;refine⟨M,T,x,p,E,h1,λv U h=>⟨p,zE T x v,G,q,h.er E,y,λu Y o=>?_⟩⟩;have B:=Ops.cons E h<|Ops.cons (h.er E) o<|Ops.nil<|o.er<|h.er E;dsimp only at e;split at e
 .rename_i i j C I;have hv:=gO<|B.view (j:=0) H H C;have t:=gO<|B.view (j:=1) H H I;refine⟨i,j,hv,t,jr f i j,rfl,?_⟩;by_cases c:jr f i j=KE
  .rw[gr c] at e ⊢;obtain⟨⟨J,r⟩,z,e⟩:=fS e;dsimp only at e;split at e
   .rename_i O L;obtain⟨rfl,rfl⟩:=gA e;refine⟨q,_,J,r,o.er<|h.er E,z,λw D P3=>?_⟩;have s:=Ops.cons E h<|Ops.cons (h.er E) o<|Ops.cons (o.er<|h.er E) P3<|Ops.nil<|P3.er<|o.er<|h.er E;exact⟨j,O,t,gO<|s.view (j:=2) H H L,(s.done k).bl⟩
   .cases e
  .rw[gD c] at e ⊢;obtain⟨rfl,rfl⟩:=gA e;exact(B.done k).bl
 .cases e
def Kv(k:oT f)(p:oT d)(e:PO X a m)(h:PO X b l)(i:PO X c g)(j:d0 [f,d] [b,c]=J:=by with_unfolding_all rfl):PX X (.Compare a [f,d] [b,c] n) (js f d m l g):=
 PX.imp (Lf (xD k) (xD p) e h i j) λq U Q o=>Aq o
def HA(k:oT f)(p:oT d)(e:PO X a m)(h:PO X b l)(i:PO X c g)(j:d0 [f,d] [b,c]=J:=by with_unfolding_all rfl):PTX X (.Compare a [f,d] [b,c] n) (fT<|js f d m l g):=
 PT.imp' (Ky (xD k) (xD p) e h i j) λq U Q o=>Aq<|JZ o
end
noncomputable def vIs(x:V)(c:Bool):Bool:=match x with
 | .bl b=>b==c
 |_=>J
noncomputable def gIs:D->D->Option (D×Bool)
 | .bl b,.bl c=>I (.bl<|b==c,J)
 |_,.bl _=>I (.bl J,J)
 | .non,.non=>I (.bl Y,J)
 |_,.non=>I (.bl J,J)
 |_,_=>C
def wD:D->D->Option (D×Bool)
 | .bl b,.bl c=>I (.bl (!(b==c)),J)
 |_,.bl _=>I (.bl Y,J)
 | .non,.non=>I (.bl J,J)
 |_,.non=>I (.bl Y,J)
 |_,_=>C
section
variable {X:Cx}
def F0(a:RelV x v)(c:Bool):plainIs v (.bool c)=Y/\(v== .bool c)=vIs x c:=by
 cases x<;>first
  |(cases a;exact⟨rfl,rfl⟩)
  |(obtain⟨t,rfl⟩:=a;exact⟨rfl,rfl⟩)
  |(rename_i b;cases a;refine⟨rfl,?_⟩;cases b<;>cases c<;>rfl)
def Lp:OpR X (ap .Is) (λx y T Q=> ∃c,y= .bl c/\Q (.bl<|vIs x c) T):=by intro a s f T x y v u Q U d e h;obtain⟨c,rfl,q⟩:=h;cases e;obtain⟨h1,b⟩:=F0 d c;exact wpAny_is_plain h1<|B6 U q (by rw[b])
def zS:OpR X (ap .IsNot) (λx y T Q=> ∃c,y= .bl c/\Q (.bl (!vIs x c)) T):=by intro a s f T x y v u Q U d e h;obtain⟨c,rfl,q⟩:=h;cases e;obtain⟨h1,b⟩:=F0 d c;exact wpAny_isNot_plain h1<|B6 U q (by rw[b])
def qp{K U}(h:jm K U O (.bl b) v):v= .bl b:=h.elim (λh=>h.bl) λ⟨_,_,h⟩=>h.elim
def oF{K U}(h:jm K U O .non v):v= .non:=h.elim (λh=>h.non) λ⟨_,_,h⟩=>h.elim
def Cq{K U}(h:jm K U O d v)(f: ∀b,d≠ .bl b)(c:Bool):vIs v c=J:=by
 cases d with
 |bl b=>exact absurd H<|f b
 |non=>rw[oF h];rfl
 |int i=>rw[gO h];rfl
 |str x=>
   rcases h with h|⟨a,_,h⟩
   .rw[h.str];rfl
   .exact h.elim
 |tup l=>
   rcases h with h|⟨a,_,h⟩
   .rw[Rep] at h;obtain⟨a,e,rfl,_⟩:=h;rfl
   .exact h.elim
 |lst l=>
   rcases h with h|⟨a,rfl,h⟩
   .rw[Rep] at h;obtain⟨a,e,rfl,_⟩:=h;rfl
   .rfl
 |oth _ _ _=>
   rcases h with h|⟨a,rfl,h⟩
   .rw[Rep] at h;obtain⟨a,e,rfl,_⟩:=h;rfl
   .rfl
def wV{K U}(h:jm K U O d v)(e:d≠ .non):v≠ .non:=by
 cases d with
 |bl b=>rw[qp h];intro z;cases z
 |non=>exact absurd H e
 |int i=>rw[gO h];intro z;cases z
 |str x=>
   rcases h with h|⟨a,_,h⟩
   .rw[h.str];intro z;cases z
   .exact h.elim
 |tup l=>
   rcases h with h|⟨a,_,h⟩
   .rw[Rep] at h;obtain⟨a,c,rfl,_⟩:=h;intro z;cases z
   .exact h.elim
 |lst l=>
   rcases h with h|⟨a,rfl,h⟩
   .rw[Rep] at h;obtain⟨a,c,rfl,_⟩:=h;intro z;cases z
   .intro z;cases z
 |oth _ _ _=>
   rcases h with h|⟨a,rfl,h⟩
   .rw[Rep] at h;obtain⟨a,c,rfl,_⟩:=h;intro z;cases z
   .intro z;cases z
def Rg:OpR X (ap .Is) (rD X.K gIs):=by
 intro a s l T x y v u Q U j k h;obtain⟨O,d,e,z,np,h1,n,g,G⟩:=h
 cases e with
 |bl c=>
  have i:=qp n;by_cases f: ∃b,d= .bl b
  .obtain⟨b,rfl⟩:=f;cases g;refine Lp a s l T x y v u Q U j k ⟨c,i,?_⟩;rw[qp h1];exact G.bl
  .have o: ∀b,d≠ .bl b:=λb z=>f ⟨b,z⟩;have m:z=(.bl J,J):=by cases d<;>first|exact absurd H (o _)|(cases g;rfl)
   subst m;refine Lp a s l T x y v u Q U j k ⟨c,i,?_⟩;rw[Cq h1 o c];exact G.bl
 |non=>
  have i:=oF n;by_cases f:d= .non
  .subst f;cases g;refine Ln a s l T x y v u Q U j k ⟨i,?_⟩;rw[oF h1];exact G.bl
  .have m:z=(.bl J,J):=by cases d<;>first|exact absurd H f|(cases g;rfl)
   subst m;refine Ln a s l T x y v u Q U j k ⟨i,?_⟩;rw[kF<|wV h1 f];exact G.bl
 |_=>cases d<;>cases g
def zR:OpR X (ap .IsNot) (rD X.K wD):=by
 intro a s l T x y v u Q U j k h;obtain⟨O,d,e,z,np,h1,n,g,G⟩:=h
 cases e with
 |bl c=>
  have i:=qp n;by_cases f: ∃b,d= .bl b
  .obtain⟨b,rfl⟩:=f;cases g;refine zS a s l T x y v u Q U j k ⟨c,i,?_⟩;rw[qp h1];exact G.bl
  .have o: ∀b,d≠ .bl b:=λb z=>f ⟨b,z⟩;have m:z=(.bl Y,J):=by cases d<;>first|exact absurd H (o _)|(cases g;rfl)
   subst m;refine zS a s l T x y v u Q U j k ⟨c,i,?_⟩;rw[Cq h1 o c];exact G.bl
 |non=>
  have i:=oF n;by_cases f:d= .non
  .subst f;cases g;refine Gp a s l T x y v u Q U j k ⟨i,?_⟩;rw[oF h1];exact G.bl
  .have m:z=(.bl Y,J):=by cases d<;>first|exact absurd H f|(cases g;rfl)
   subst m;refine Gp a s l T x y v u Q U j k ⟨i,?_⟩;rw[kF<|wV h1 f];exact G.bl
 |_=>cases d<;>cases g
end
end PX
namespace HT
open L2
section
variable {a:gM}{w:gB}{A:gJ}{E:gX}{s:fY}
def Ff{t d:fV}{b:lN}{i j:gu}{lo e:Option Int}{Q:gX}(c:lw s.heap t b)(f:s.heap.IsSliceOf d i j .none)(o:db i lo)(p:db j e)
  (g:sIx b.size 0 lo=0/\sIx b.size b.size e=b.size)(h:Q (.ref t) s):af (ah a w) A (d1 (.ref t)<|.ref d) Q E s:=by
 obtain⟨os,k,l,q⟩:=id f;have n:s.TypeIs (.ref d) "slice":=⟨os,k,l⟩
 unfold d1
 try with_reducible refine lM ?_
 first|refine fX (gn ?_)|skip
 refine fX<|oC c.typeIs (by decide) ?_
 refine fX (rZ (name:=bh "__getitem__") c.typeIs zg
  (nc zg c.typeIs JC ?_<|n4 _ _))
 show af _ _ (dI (.ref t)>>=_) _ _ s;refine fX<|A1 c ?_;refine fX<|ql n ?_;rw[gr<|by decide];refine fX<|oI f o p ?_;rw[g.1,g.2];show af _ _ (if((((0:Nat):Int)==0&&(1:Int)==1&&(b.size-0)==b.size)=Y) then _ else _) _ _ s;rw[gr<|by simp];refine fX (m:=dM _) ?_;unfold dM;refine fX<|ql c.typeIs ?_;refine gn ?_;rw[gr<|by decide];refine fX<|rV ?_
 first
  |exact fX<|gn ⟨_,rfl,gn h⟩
  |exact gn ⟨_,rfl,gn h⟩
  |exact fX<|gn<|gn ⟨_,rfl,gn h⟩
  |(refine fX ?_;trace_state;done)
end
end HT
namespace PX
open L2 PySem.SeqAt
def An(l:List D)(lo a:Option Int):List D:=(l.drop<|HT.sIx (Ls l) 0 lo).take<|HT.sIx (Ls l) (Ls l) a-HT.sIx (Ls l) 0 lo
def gSl(lo a:Option Int):D->Option (D×Bool)
 | .tup l=>I (.tup<|An l lo a,J)
 | .lst l=>I (.lst<|An l lo a,Y)
 |_=>C
def VV(K:gy):V->Option Int->Option Int->Hp->VK->Prop:=λx lo a U Q=> ∃(O:AP') (d:D) (z:D×Bool),(∀p,¬Ow (U p)-> ¬O p)/\jm K U O d x/\gSl lo a d=I z/\Gen K U O z Q
def RepL.cut{K U}(r:RepL K U O l xs)(lo a:Option Int):RepL K U O (An l lo a) (Dy xs lo a):=by unfold An Dy;rw[r.length];exact(r.drop _).take _
section
variable {X:Cx}
def CD{b:gU}{s:fY}{h:L2.St}{N:Hp}{a:fV}{v e f:gu}{lo c:Option Int}{d:fV}{Q:VK}{O:AP'}{l:List D}{g:List V}(U:Inv X b h N s)(n:RelV (.ref a) v)(j:s.heap.IsSliceOf d e f .none)(k:db e lo)(m:db f c)
  (q:SqL X.K N a g)(r:RepL X.K N O l g)(G:Gen X.K N O (.lst<|An l lo c,Y) Q): ∃T id,nm (.type T) "__getitem__"=pure (I<|.builtin id)/\s.TypeIs v T/\af (ah X.prog X.w) X.A (d1 v<|.ref d) (EP X b h Q) X.xe s:=
 Ng b s h N (.ref a) v e f lo c d Q U n j k m ⟨a,g,rfl,q,λp i=>G.lst i<|r.cut lo c⟩
def Tp:SlR X (VV X.K):=by
 intro f s E T x v B N lo g A Q U n i k m h;obtain⟨O,d,z,np,hd,o,G⟩:=h
 cases d with
 |tup l=>
  cases o;rcases hd with hd|⟨a,_,h⟩
  .obtain⟨a,b,rfl,q,r⟩:=hd.tup;by_cases j:HT.sIx b.length 0 lo=0/\HT.sIx b.length b.length g=b.length
   .cases n;obtain⟨t,y,w,L⟩:=U.tuple q.sq;have c:t.toArray.size=b.length:=by rw[hG];exact y.length.symm
    refine⟨"tuple",_,zg.lookup,w.typeIs,?_⟩;refine HT.Ff w i k m (by rw[c];exact j) ⟨.ref a,T,U,rfl,?_⟩
    have e:An l lo g=l:=by unfold An;rw[<-r.length,j.1,j.2];simp[r.length]
    rw[e] at G;exact G (.ref a) T (λ_ _ e=>e) hd
   .exact P0 f s E T (.ref a) v B N lo g A Q U n i k m ⟨a,b,rfl,q.sq,j,λp u=>G.tup u (np p<|nOw u)<|r.cut lo g⟩
  .exact h.elim
 |lst l=>
  cases o;rcases hd with hd|⟨a,rfl,h⟩
  .obtain⟨a,b,rfl,q,r⟩:=hd.lst;exact CD U n i k m q.sq r G
  .obtain⟨b,e,r⟩:=h;exact CD U n i k m (.inl<|.inl e) r G
 |_=>cases o
end
def mv(a b:FO):F:=λδ=>(a δ).bind λp=>(b p.2).bind λq=>match res q.2 q.1 with
 |some (.int i)=>(res q.2 p.1).bind λx=>(gSl (I i) C x).bind λz=>I (z,q.2)
 |_=>C
def nH(a b:FO):F:=λδ=>(a δ).bind λp=>(b p.2).bind λq=>match res q.2 q.1 with
 |some (.int i)=>(res q.2 p.1).bind λx=>(gSl C (I i) x).bind λz=>I (z,q.2)
 |_=>C
section
variable {X:Cx}{a lo b:gm}{d g h:FO}{c f:bB}
def Nv(s:PO X a d)(t:PO X lo g):PX X (.Subscript a (.Slice (I lo) J4 J4 f) c) (mv d g):=
 PX.imp (CL Tp s (Gf t) Gg) λN H Q y=>by
  obtain⟨L,T,M,O,E,e,k⟩:=y;unfold mv at e;obtain⟨⟨q,l⟩,h1,e⟩:=fS e;obtain⟨⟨U,n⟩,r,e⟩:=fS e;dsimp only at e;split at e
  .rename_i i b;obtain⟨x,A,e⟩:=fS e;obtain⟨z,C,e⟩:=fS e;obtain⟨rfl,rfl⟩:=gA e;refine⟨L,T,q,l,E,h1,λv G m=>⟨l,zE T q v,U,n,m.er E,r,λu J o=>?_⟩⟩;have B:=Ops.cons E m<|Ops.cons (m.er E) o<|Ops.nil<|o.er<|m.er E;exact⟨i,gO<|B.view (j:=1) K3 K3 b,_,x,z,λp w=>B.np w,B.view (j:=0) K3 K3 A,C,B.done k⟩
  .cases e
def Nw(s:PO X a d)(t:PO X b h):PX X (.Subscript a (.Slice J4 (I b) J4 f) c) (nH d h):=
 PX.imp (CL Tp s Gg<|Gf t) λN H Q y=>by
  obtain⟨L,T,M,O,E,e,k⟩:=y;unfold nH at e;obtain⟨⟨q,l⟩,h1,e⟩:=fS e;obtain⟨⟨U,n⟩,r,e⟩:=fS e;dsimp only at e;split at e
  .rename_i i b;obtain⟨x,A,e⟩:=fS e;obtain⟨z,C,e⟩:=fS e;obtain⟨rfl,rfl⟩:=gA e;refine⟨L,T,q,l,E,h1,λv G m=>⟨l,zE T q v,U,n,m.er E,r,λu J o=>?_⟩⟩;have B:=Ops.cons E m<|Ops.cons (m.er E) o<|Ops.nil<|o.er<|m.er E;exact⟨i,gO<|B.view (j:=1) K3 K3 b,_,x,z,λp w=>B.np w,B.view (j:=0) K3 K3 A,C,B.done k⟩
  .cases e
end
end PX
namespace L2
section
variable {X:Cx}
end
end L2
namespace PX
open L2 PySem.SeqAt
section
variable {X:Cx}{A:iO}{d:fV}{a:gm}{f:F}
end
section
variable {X:Cx}{e:gm}{c:mJ}{ir:nQ}{scope:jt}{d a p:bB}{j:hU}{b:ja}{k:Nat}{h:FIt}{g:Tg}{f:FT}{i:FB}
end
end PX
namespace HT
open L2
section
variable {a:gM}{w:gB}{A:gJ}{E:gX}{s:fY}
end
end HT
namespace L2
section
variable {X:Cx}{e st:gm}{c b:TE}{a d:bB}
end
end L2
namespace PX
open L2 PySem.SeqAt
section
variable {X:Cx}{a st:gm}{d fs:FO}{b c:bB}
end
section
variable {b:jg}{a:eT}
end
end PX
namespace TT
noncomputable def S:Nat->Nat
 |0=>0
 |n+1=>5*S n+1
theorem Hf(m:Nat): ∀n:Nat,S (m+n)=5^n*S m+S n
 |0=>by simp[S]
 |n+1=>by rw[<-vH,S,Hf m n,S,uo,sP,<-um,sO 5 (5^n)];lia
theorem yP: ∀n:Nat,∃c,5^n=4*c+1
 |0=>⟨0,rfl⟩
 |n+1=>by obtain⟨c,e⟩:=yP n;exact⟨5*c+1,by rw[uo,e];lia⟩
theorem MU: ∀k:Nat,∃c,S (2^k)=2^k*(2*c+1)
 |0=>⟨0,rfl⟩
 |k+1=>by
  obtain⟨c,e⟩:=MU k;obtain⟨d,f⟩:=yP (2^k)
  have h:S (2^(k+1))=(5^2^k+1)*S (2^k):=by rw[uo,Nat.mul_two,Hf,eD,DW]
  refine⟨2*(d*c)+d+c,?_⟩;rw[h,f,e,uo];have:4*d+1+1=2*(2*d+1):=by lia
  rw[this,um 2,sO (2*d+1),um (2^k),um (2^k),<-um 2 (2^k),sO 2 (2^k),um (2^k) 2]
  congr 2
  rw[eD,sP,DW,vE,um 2 c,AN c 2 d,sO c d]
  lia
def MV(k n:Nat):S (2^k+n)%2^k=S n%2^k:=by obtain⟨c,e⟩:=MU k;rw[Hf,e,AN,m4]
def He: ∀(k e:Nat),e<2^k-> ∃n,n<2^k/\S n%2^k=e:=by
 intro u
 induction u with
 |zero=>intro e h;exact⟨0,by simp,by simp at h;subst h;rfl⟩
 |succ k t=>
  intro e h;have l:0<2^k:=mL k;obtain⟨n,z,s⟩:=t (e%2^k)<|vD _ l;obtain⟨c,m⟩:=MU k;obtain⟨d,o⟩:=yP n
  have b:S (2^k+n)=2^(k+1)*(4*d*c+2*d+c)+2^k+S n:=by
   rw[Hf,m,o,uo,AN,um (2^k) 2]
   have:(4*d+1)*(2*c+1)=2*(4*d*c+2*d+c)+1:=by rw[eD,sP,DW,vE,AN (4*d) 2 c];lia
   rw[this,sP,vE]
  rw[uo] at h b ⊢;generalize 2^k=P at*;have j:=m6 (S n) P;have i:=m6 e P;rw[s] at j;have A:e / P<2:=Nat.div_lt_of_lt_mul (by rw[sO] at h;lia)
  have mk: ∀a q x,a=P*2*q+x->x<P*2->a%(P*2)=x:=λa q x h1 b=>by rw[h1,m4,Nat.mod_eq_of_lt b]
  have y:=vD e l;have v:S n / P=2*(S n / P / 2)+S n / P%2:=by lia
  have g:S n=P*2*(S n / P / 2)+(P*(S n / P%2)+e%P):=by rw[um,<-vH,<-sP,<-v];exact j.symm
  generalize S n / P / 2=q at g;have w:S n / P%2<2:=vD _ (by decide);generalize S n / P%2=r at g w;generalize e / P=f at*;by_cases p:r=f
  .exact⟨n,by lia,mk _ q _ (by rw[g,p,i]) h⟩
  .refine⟨P+n,by lia,mk _ (4*d*c+2*d+c+q+r) _ ?_ h⟩;rw[b,g,sP (P*2) _ r,sP (P*2) _ q];rcases(show r=0\/r=1 by lia) with rfl|rfl
   .have:f=1:=by lia
    subst this;rw[DV,DV];rw[vE] at i;lia
   .have:f=0:=by lia
    subst this;rw[vE,vE];rw[DV] at i;lia
noncomputable def ls(mask:Nat)(h:Int):Nat->Nat×Nat
 |0=>(aF h%(mask+1),aF h)
 |k+1=>cp mask (ls mask h k).1 (ls mask h k).2
def ON(h:Int):aF h<2^64:=by
 unfold aF;have:=DU h (show(0:Int)<2^64 by decide);have:=DT h (show(2^64:Int)≠0 by decide)
 lia
def Gy(mask:Nat)(h:Int): ∀k,(ls mask h k).1<=mask
 |0=>by have:=vD (aF h) (show 0<mask+1 by lia);show _%(mask+1)<=_;lia
 |k+1=>by show(_%(mask+1))<=_;have:=vD ((ls mask h k).1*5+1+(ls mask h k).2 / 32) (show 0<mask+1 by lia);lia
theorem Gx(mask:Nat)(h:Int): ∀k,(ls mask h k).2=aF h / 32^k
 |0=>by simp[ls]
 |k+1=>by show(ls mask h k).2 / 32=_;rw[Gx mask h k,uo,Nat.div_div_eq_div_mul]
def Oq(mask:Nat)(h:Int)(k:Nat)(hk:13<=k):(ls mask h k).2=0:=by rw[Gx];refine Nat.div_eq_of_lt<|mO (ON h) ?_;exact lh (show 2^64<=32^13 by decide)<|xR (by decide) hk
theorem LG(mask:Nat)(h:Int)(m:Nat)(a:(ls mask h 13).1=S m%(mask+1)): ∀n,(ls mask h (13+n)).1=S (m+n)%(mask+1)
 |0=>a
 |n+1=>by show(((ls mask h (13+n)).1*5+1+(ls mask h (13+n)).2 / 32)%(mask+1))=_;rw[Oq mask h _ (by lia),LG mask h m a n,Nat.zero_div,ro,<-vH m n 1,S,ul,Nat.mod_mul_mod,<-ul,sO 5]
def C3(hk:mask+1=2^k)(h:Int)(g:e<=mask): ∃n,n<mask+14/\(ls mask h n).1=e:=by
 have i:=Gy mask h 13;obtain⟨m,c,b⟩:=He k (ls mask h 13).1 (by lia);obtain⟨q,d,eq⟩:=He k e (by lia);rw[<-hk] at b eq c d;have a:=LG mask h m b.symm;by_cases f:m<=q
 .exact⟨13+(q-m),by lia,by rw[a,show m+(q-m)=q by lia];exact eq⟩
 .refine⟨13+(q+(mask+1)-m),by lia,?_⟩;rw[a,show m+(q+(mask+1)-m)=2^k+q by lia,hk,MV,<-hk];exact eq
def EG(mask i:Nat)(h:i<=mask):i<=ax mask i/\ax mask i<=mask/\ax mask i<=i+9:=by unfold ax;split<;>lia
noncomputable def tm(mask:Nat)(h:Int):Nat->Nat
 |0=>0
 |k+1=>tm mask h k+(ax mask (ls mask h k).1-(ls mask h k).1)+1
theorem Pa(mask:Nat)(h:Int): ∀k,tm mask h k<=10*k
 |0=>iD _
 |k+1=>by have:=Pa mask h k;have:=EG mask _ (Gy mask h k);unfold tm;lia
noncomputable def at_(mask:Nat)(h:Int)(k t:Nat):SetTable.Probe:=⟨(ls mask h k).1+t,ax mask (ls mask h k).1-(ls mask h k).1-t,(ls mask h k).1,(ls mask h k).2,C⟩
theorem tQ(mask:Nat)(h:Int): ∀k t,t<=ax mask (ls mask h k).1-(ls mask h k).1->pr mask h (tm mask h k+t)=at_ mask h k t
 |0,0,_=>rfl
 |k+1,0,_=>by have e:=tQ mask h k (ax mask (ls mask h k).1-(ls mask h k).1)<|iD _;show adv mask (pr mask h<|tm mask h k+(ax mask (ls mask h k).1-(ls mask h k).1))=_;rw[e];unfold adv at_;simp only[Nat.sub_self,oE,jh,gt_iff_lt];rfl
 |k,t+1,a=>by
  have e:=tQ mask h k t (by lia);show adv mask (pr mask h<|tm mask h k+t)=_;rw[e];unfold adv at_;rw[gr (show ax mask (ls mask h k).1-(ls mask h k).1-t>0 by lia)];simp only[SetTable.Probe.mk.injEq,and_true,true_and]
  lia
def KR(hk:mask+1=2^k)(h:Int)(a:e<=mask): ∃n,n<10*(mask+14)/\(pr mask h n).j=e:=by obtain⟨r,b,er⟩:=C3 hk h a;have:=Pa mask h r;refine⟨tm mask h r,by lia,?_⟩;have:=tQ mask h r 0<|kx _;rw[ro] at this;rw[this];exact er
theorem KQ(mask:Nat)(h:Int): ∀n,(pr mask h n).dummy=C
 |0=>rfl
 |n+1=>by show(adv mask<|pr mask h n).dummy=C;unfold adv;split<;>exact KQ mask h n
theorem CJ(mask:Nat)(h:Int): ∀n,∃k t,n=tm mask h k+t/\t<=ax mask (ls mask h k).1-(ls mask h k).1
 |0=>⟨0,0,rfl,kx _⟩
 |n+1=>by
  obtain⟨k,t,e,b⟩:=CJ mask h n;by_cases a:t+1<=ax mask (ls mask h k).1-(ls mask h k).1
  .exact⟨k,t+1,by lia,a⟩
  .exact⟨k+1,0,by unfold tm;lia,kx _⟩
def KP(mask:Nat)(h:Int)(n:Nat):(pr mask h n).j<=mask:=by obtain⟨k,t,e,a⟩:=CJ mask h n;rw[e,tQ mask h k t a];have:=EG mask _ (Gy mask h k);show(ls mask h k).1+t<=mask;lia
def By{c:Array Nat}(g:c.toList.Pairwise (· < ·)){i j:Nat}{a b:Nat}(h:i<j)(h1:c[i]?=I a)(d:c[j]?=I b):a<b:=by rw[<-kE] at h1 d;obtain⟨e,rfl⟩:=qc.mp h1;obtain⟨f,rfl⟩:=qc.mp d;exact MZ.mp g i j e f h
def MI{c:Array Nat}(o:c.toList.Pairwise (· < ·))(j:Nat): ∀(d lo b:Nat),lo<=b->b<=c.size->b-lo<=d->
  (∀i a,i<lo->c[i]?=I a->a<j)->(∀i a,b<=i->c[i]?=I a->j<=a)->
  let p:=SetTable.below.go c j d lo b
  p<=c.size/\(∀i a,i<p->c[i]?=I a->a<j)/\(∀i a,p<=i->c[i]?=I a->j<=a):=by
 intro u
 induction u with
 |zero=>
  intro lo b h1 g t h k;have:lo=b:=by lia
  subst this;exact⟨g,h,k⟩
 |succ d q=>
  intro lo b h1 g t h k;unfold SetTable.below.go;by_cases r:lo<b
  .rw[gr r];have n:(lo+b) / 2<c.size:=by lia
   have m:c[(lo+b) / 2]?=I c[(lo+b) / 2]:=pW n;have hd:c.getD ((lo+b) / 2) j=c[(lo+b) / 2]:=by simp[eQ,n]
   dsimp only;rw[hd];by_cases l:c[(lo+b) / 2]<j
   .rw[gr l];refine q ((lo+b) / 2+1) b (by lia) g (by lia) (λi a s f=>?_) k;by_cases e:i=(lo+b) / 2
    .subst e;rw[m] at f;cases f;exact l
    .exact Bb (By o (by lia) f m) l
   .rw[gD l];refine q lo ((lo+b) / 2) (by lia) (by lia) (by lia) h λi a s f=>?_;by_cases e:i=(lo+b) / 2
    .subst e;rw[m] at f;cases f;lia
    .have:=By o (show(lo+b) / 2<i by lia) m f;lia
  .rw[gD r];have:lo=b:=by lia
   subst this;exact⟨g,h,k⟩
def nN{b:Array Nat}(d:b.toList.Pairwise (· < ·))(j:Nat):aj b j<=b.size/\(∀i a,i<aj b j->b[i]?=I a->a<j)/\(∀i a,aj b j<=i->b[i]?=I a->j<=a):=
 MI d j b.size 0 b.size (kx _) (iD _) (by lia) (λi a h=>by lia) (λi a h1 c=>by have:=(MX.mp c).1;lia)
def MJ{a:Array Nat}(c:a.toList.Pairwise (· < ·)){i j:Nat}(h:a[i]?=I j):aj a j=i:=by
 obtain⟨h1,d,e⟩:=nN c j;by_cases g:i<aj a j
 .exact absurd (d i j g h) (oE _)
 .by_cases f:aj a j<i
  .have k:=(MX.mp h).1;have b:a[aj a j]?=I a[aj a j]:=pW (by omega);have:=e _ _ (iD _) b;have:=By c f b h;omega
  .omega
theorem BU(j:Nat):Ix #[] j=J:=rfl
def Ho{t:lz}(a:t.place.toList.Pairwise (· < ·)){i j:Nat}(h:t.place[i]?=I j):t.slot j= .live i:=by unfold hL;dsimp only;rw[MJ a h,h];simp
def EE{t:lz}(hd:t.dummies= #[]){j:Nat}(h:j∉t.place.toList):t.slot j= .empty:=by
 unfold hL;dsimp only
 have:(t.place[aj t.place j]?==I j)=J:=by rw[zh];intro e;rw[<-kE] at e;exact h<|mM e
 rw[this,hd,BU];rfl
def MP(t:lz)(p:c4):t.advance p=adv t.mask p:=by unfold IP adv;split<;>rfl
def KO{k:gh}{t:lz}(ok:TabOk k t)(hashAt:Nat->Int)(h:Int): ∀(a n:Nat),(∃M,n<=M/\M<n+a/\(pr t.mask h M).j∉t.place.toList)->
    ∃m,n<=m/\(∀q,n<=q->q<m-> ∃i,t.place[i]?=I (pr t.mask h q).j/\hashAt i≠h)/\
      (((pr t.mask h m).j∉t.place.toList/\c3 t hashAt h a (pr t.mask h n)=I (.empty (pr t.mask h m).j C))\/
       (∃i,t.place[i]?=I (pr t.mask h m).j/\hashAt i=h/\c3 t hashAt h a (pr t.mask h n)=I (.candidate (pr t.mask h m).j i<|pr t.mask h<|m+1))):=by
  intro o
  induction o with
  |zero=>
    rintro n ⟨M,h1,f,g⟩
    lia
  |succ a l=>
    rintro n ⟨M,h1,f,g⟩;unfold c3;by_cases d:(pr t.mask h n).j∈t.place.toList
    · obtain⟨i,c⟩:=pY d
      rw[kE] at c;rw[Ho ok.ris c];dsimp only;by_cases b:hashAt i=h
      · refine⟨n,iD _,λq h1 f=>by lia,.inr ⟨i,c,b,?_⟩⟩
        rw[gr<|by simpa using b,MP];rfl
      · rw[gD<|by simpa using b,MP]
        have r:M≠n:=λe=>g<|e▸d;obtain⟨m,g1,g2,g3⟩:=l (n+1) ⟨M,by lia,by lia,g⟩;refine⟨m,by lia,λq s p=>?_,g3⟩;by_cases e:q=n
        · subst e;exact⟨i,c,b⟩
        · exact g2 q (by lia) p
    · rw[EE ok.dum d]
      dsimp only;rw[KQ];exact⟨n,iD _,λq h1 f=>by lia,.inl ⟨d,rfl⟩⟩
def C6: ∀(n:Nat) (l:ja),Ls l<=n-> ∃e,e<=n/\e∉l:=by
 intro d
 induction d with
 |zero=>intro l h;exact⟨0,iD _,by cases l with|nil=>simp|cons _ _=>simp at h⟩
 |succ n c=>
  intro l h;by_cases a:n+1∈l
  .obtain⟨e,h1,b⟩:=c (l.erase<|n+1) (by rw[List.length_erase_of_mem a];lia);exact⟨e,by lia,λz=>b<|(DS<|by lia).mpr z⟩
  .exact⟨n+1,iD _,a⟩
def TabOk.free(ok:TabOk f t)(h:Int): ∃M,M<10*(t.mask+14)/\(pr t.mask h M).j∉t.place.toList:=by
 obtain⟨k,_,_,hk⟩:=ok.pow
 have h1:(Ls t.place.toList)<=t.mask:=by have:=ok.len;have:=ok.room;rw[jc];lia
 obtain⟨e,c,d⟩:=C6 t.mask _ h1;obtain⟨n,a,b⟩:=KR hk h c;exact⟨n,a,by rw[b];exact d⟩
def kK{b:Type}(a:Array b)(p:Nat)(x:b):(ao a p x).toList=a.toList.take p++x::a.toList.drop p:=by unfold ao;simp[Array.toList_extract,List.extract];rw[xY<|by simp]
def EH(h:xs.toList.Pairwise (· < ·))(n:j∉xs.toList):(ao xs (aj xs j) j).toList.Pairwise (· < ·):=by
 obtain⟨h1,l,k⟩:=nN h j;rw[kK,sJ];refine⟨h.sublist<|vS _ _,?_,?_⟩
 .rw[AD];refine⟨λa d=>?_,h.sublist<|D2 _ _⟩;obtain⟨i,c⟩:=pY d;rw[dX] at c;have m:=k _ _ (show aj xs j<=aj xs j+i by lia) (by rw[<-kE];exact c);have:a≠j:=λe=>n (e▸mM c)
  lia
 .intro a d b g
  have f:a<j:=by
   obtain⟨i,c⟩:=pY d;rw[List.getElem?_take] at c;split at c
   .rename_i o;exact l i a o (by rw[<-kE];exact c)
   .cases c
  rcases jF.mp g with rfl|g
  .exact f
  .obtain⟨i,c⟩:=pY g;rw[dX] at c;have m:=k _ _ (show aj xs j<=aj xs j+i by lia) (by rw[<-kE];exact c)
   lia
def TabOk.fresh(finger moves:Nat)(led:Bool):TabOk [] (ga finger moves led) where
 pow:=⟨3,by lia,by lia,rfl⟩
 dum:=rfl
 len:=rfl
 room:=by show 5*0<3*7;lia
 ris:= .nil
 bd:=λj h=>by simp[ga] at h
 road:=λi h j h1=>by simp at h1
def TabOk.put(ok:TabOk g t)(A:(pr t.mask h n).j∉t.place.toList)(z: ∀m,m<n->(pr t.mask h m).j∈t.place.toList)(U:5*(Ls g+1)<3*t.mask)(Q:j=(pr t.mask h n).j)(E:p=aj t.place j):
  TabOk (g.take p++h::g.drop p) (t.put j).1/\(t.put j).2=p:=by
 subst Q;subst E
 have v:(t.put (pr t.mask h n).j).1={t with place:=ao t.place (aj t.place (pr t.mask h n).j) (pr t.mask h n).j,dummies:= #[]}:=by unfold i9;dsimp only;rw[ok.dum,BU];rfl
 obtain⟨h1,_,_⟩:=nN ok.ris (pr t.mask h n).j;have T:=ok.len
 have c: ∀x,x∈t.place.toList->x∈(ao t.place (aj t.place (pr t.mask h n).j) (pr t.mask h n).j).toList:=λx a=>by
  rw[kK];rw[<-sV (aj t.place (pr t.mask h n).j) t.place.toList] at a;rcases nO.mp a with a|a
  .exact nO.mpr (.inl a)
  .exact nO.mpr (.inr<|jd _ a)
 refine⟨?_,rfl⟩;rw[v];generalize y:aj t.place (pr t.mask h n).j=P at*;refine⟨ok.pow,rfl,?_,?_,?_,λx a=>?_,λi f k g1 g2=>?_⟩
 .show(ao t.place P (pr t.mask h n).j).size=_;rw[<-jc,kK];simp only[ky,kY,qb,cW,jc];lia
 .show 5*_<3*t.mask;simp only[ky,kY,qb,cW];lia
 .have:=EH ok.ris A;rw[y] at this;exact this
 .have s:x∈(ao t.place P (pr t.mask h n).j).toList:=a;rw[kK] at s;show x<=t.mask;rcases nO.mp s with a|a
  .exact ok.bd x (qg a)
  .rcases jF.mp a with rfl|a
   .exact KP _ _ _
   .exact ok.bd x (AU a)
 .have b:(ao t.place P (pr t.mask h n).j).toList[i]?=I k:=by rw[kE];exact g2
  rw[kK] at b;show ∃u,(pr t.mask f u).j=k/\ ∀m,m<u->(pr t.mask f m).j∈(ao t.place P (pr t.mask h n).j).toList;have w:(t.place.toList.take P).length=P:=by rw[qb,jc];lia
  have l:(g.take P).length=P:=by rw[qb];lia
  by_cases B:i<P
  .rw[sd<|by lia,JD B] at g1 b;rw[kE] at b;obtain⟨q,o,r⟩:=ok.road i f k g1 b;exact⟨q,o,λm e=>c _ (r m e)⟩
  .rw[nU<|by lia,w] at b;rw[nU<|by lia,l] at g1
   cases hd:i-P with
   |zero=>rw[hd] at g1 b;simp at g1 b;subst g1;subst b;exact⟨n,rfl,λm e=>c _ (z m e)⟩
   |succ d=>rw[hd] at g1 b;simp only[e7,dX] at g1 b;rw[kE] at b;obtain⟨q,o,r⟩:=ok.road _ f k g1 b;exact⟨q,o,λm e=>c _ (r m e)⟩
def occ(ow:uk)(j:Nat):Prop:= ∃i,ow.getD j C=I i
def BV{ow:uk}{j:Nat}{d:Option Nat}(h:j<ow.size):ow.getD j d=ow.getD j C:=by simp[eQ,h]
def Ii{mask:Nat}{ow:uk}(U:ow.size=mask+1)(h:Int): ∀(a k:Nat),(∃r,k<=r/\r<k+a/\ ¬occ ow (ls mask h r).1)->(∀m,m<tm mask h k->occ ow (pr mask h m).j)->
  ∃n,bw mask ow a (ls mask h k).1 (ls mask h k).2=I (pr mask h n).j/\ ¬occ ow (pr mask h n).j/\ ∀m,m<n->occ ow (pr mask h m).j:=by
 intro A
 induction A with
 |zero=>
  rintro k ⟨r,h1,v,_⟩ _
  lia
 |succ a z=>
  rintro k ⟨r,h1,v,g⟩ l;unfold bw;have x:=Gy mask h k;have y:=EG mask _ x
  cases c:(ai<|ax mask (ls mask h k).1+1-(ls mask h k).1).find? λt=>(ow.getD ((ls mask h k).1+t)<|I 0).isNone with
  |some t=>
   rw[List.find?_range_eq_some] at c;obtain⟨a1,q,s⟩:=c;rw[xm] at q;have p:t<=ax mask (ls mask h k).1-(ls mask h k).1:=by lia
   have e:=tQ mask h k t p;refine⟨tm mask h k+t,by rw[e];rfl,?_,λm o=>?_⟩
   .rw[e];rintro⟨i,w⟩;rw[BV (by show(ls mask h k).1+t<_;lia)] at a1;have u:ow.getD ((ls mask h k).1+t) C=I i:=w;rw[u] at a1;simp at a1
   .by_cases f:m<tm mask h k
    .exact l m f
    .have b:=tQ mask h k (m-tm mask h k) (by lia);rw[show tm mask h k+(m-tm mask h k)=m by lia] at b;rw[b];have:=s (m-tm mask h k) (by lia);rw[BV (by show(ls mask h k).1+(m-tm mask h k)<_;lia)] at this;show occ ow ((ls mask h k).1+(m-tm mask h k));unfold occ
     cases d:ow.getD ((ls mask h k).1+(m-tm mask h k)) C with
     |none=>rw[d] at this;simp at this
     |some i=>exact⟨i,rfl⟩
  |none=>
   rw[List.find?_range_eq_none] at c
   have all: ∀t,t<=ax mask (ls mask h k).1-(ls mask h k).1->occ ow ((ls mask h k).1+t):=λt p=>by
    have:=c t (by lia);rw[BV<|by lia] at this;unfold occ
    cases d:ow.getD ((ls mask h k).1+t) C with
    |none=>rw[d] at this;simp at this
    |some i=>exact⟨i,rfl⟩
   have B:r≠k:=λe=>g (by subst e;have:=all 0<|kx _;simpa using this)
   have:=z (k+1) ⟨r,by lia,by lia,g⟩ (λm o=>by
    by_cases f:m<tm mask h k
    .exact l m f
    .unfold tm at o;have b:=tQ mask h k (m-tm mask h k) (by lia);rw[show tm mask h k+(m-tm mask h k)=m by lia] at b;rw[b];exact all _ (by lia))
   exact this
def Ds{a e:Type}{f g:a->Option e}: ∀{l:List a},(∀x∈l,f x=g x)->l.filterMap f=l.filterMap g:=by
 intro d
 induction d with
 |nil=>intro _;exact H
 |cons x l c=>intro h;rw[uz,uz,h x iX,c λy b=>h y<|jd _ b]
noncomputable def nE(mask:Nat)(ow:uk):List (Nat×Nat):=(ai<|mask+1).filterMap λj=>(ow.getD j C).map (j,·)
def MY:(j,i)∈nE mask ow↔j<=mask/\ow.getD j C=I i:=by
 unfold nE;simp only[dS,xm,eW,Prod.mk.injEq];constructor
 .rintro⟨a,h1,b,c,rfl,rfl⟩;exact⟨by lia,c⟩
 .rintro⟨h1,c⟩;exact⟨j,by lia,i,c,rfl,rfl⟩
def LK(mask:Nat)(ow:uk):((nE mask ow).map (·.1)).Pairwise (· < ·):=by unfold nE;rw[List.map_filterMap,List.pairwise_filterMap];refine SJ.imp λ{a b} e x c y d=>?_;simp only[Option.mem_def,Option.map_map,eW,bI] at c d;obtain⟨_,_,rfl⟩:=c;obtain⟨_,_,rfl⟩:=d;exact e
def LJ{mask:Nat}{ow:uk}(f:ow.size=mask+1){j k:Nat}(d:j<=mask)(c:ow.getD j C=C):(nE mask<|ow.setIfInBounds j<|I k).Perm ((j,k)::nE mask ow):=by
 have g: ∀i,(ow.setIfInBounds j<|I k).getD i C=if i=j then I k else ow.getD i C:=λi=>by
  simp only[sN,AM];by_cases e:i=j
  .subst e;simp[show i<ow.size by lia]
  .rw[gD λz=>e z.symm,gD e]
 have split:ai (mask+1)=ai j++j::(ai<|mask-j).map (λx=>j+1+x):=by rw[show mask+1=j+(mask-j+1) by lia,List.range_add,c5];simp[rR,vH,rs 1]
 unfold nE;rw[split,Jj,Jj,uz,uz];simp only[g,c,gr H,Option.map_none,ib]
 have a1:(ai j).filterMap (λi=>(if i=j then I k else ow.getD i C).map (i,·))=(ai j).filterMap (λi=>(ow.getD i C).map (i,·)):=
  Ds λi a=>by rw[xm] at a;rw[gD<|by lia]
 have b:((ai<|mask-j).map λx=>j+1+x).filterMap (λi=>(if i=j then I k else ow.getD i C).map (i,·))=((ai<|mask-j).map λx=>j+1+x).filterMap (λi=>(ow.getD i C).map (i,·)):=
  Ds λi a=>by obtain⟨x,_,rfl⟩:=lj.mp a;rw[gD<|by lia]
 rw[a1,b];exact MW
structure LayOk(mask:Nat)(hs:gh)(ow:uk):Prop where
 size:ow.size=mask+1
 perm:((nE mask ow).map (·.2)).Perm (ai<|Ls hs)
 road: ∀j i h,ow.getD j J4=I8 i->hs[i]?=I8 h-> ∃n,(pr mask h n).j=j/\ ∀m,m<n->occ ow (pr mask h m).j
def Gr(h:occ ow x):occ (ow.setIfInBounds j<|I k) x:=by
 obtain⟨i,a⟩:=h;unfold occ;simp only[sN,AM] at a ⊢;by_cases e:j=x
 .subst e;rw[gr H];split
  .exact⟨k,rfl⟩
  .rename_i b;rw[AL<|by lia] at a;simp at a
 .rw[gD e];exact⟨i,a⟩
def LayOk.step{mask k:Nat}(hk:mask+1=2^k){a:gh}{ow:uk}(ok:LayOk mask a ow)(h:Int)(E:(Ls a)<=mask):
  ∃j,bw mask ow (bN mask) (aF h%(mask+1)) (aF h)=I j/\LayOk mask (a++[h]) (ow.setIfInBounds j<|I<|Ls a):=by
 have p:(nE mask ow).length=(Ls a):=by have:=ok.perm.length_eq;simpa using this
 obtain⟨e,o,w⟩:=C6 mask ((nE mask ow).map (·.1)) (by rw[iJ];lia)
 have U: ¬occ ow e:=by rintro⟨i,f⟩;exact w<|lj.mpr ⟨(e,i),MY.mpr ⟨o,f⟩,rfl⟩
 obtain⟨r,y,l⟩:=C3 hk h o;obtain⟨n,f1,f2,t⟩:=Ii ok.size h (bN mask) 0 ⟨r,kx _,by unfold bN;lia,by rw[l];exact U⟩ (λm c=>by simp[tm] at c);have v:=KP mask h n
 have s:ow.getD (pr mask h n).j C=C:=by
  cases x:ow.getD (pr mask h n).j C with
  |none=>rfl
  |some i=>exact absurd ⟨i,x⟩ f2
 refine⟨_,f1,⟨by rw[Array.size_setIfInBounds];exact ok.size,?_,λj i u g1 g2=>?_⟩⟩
 .refine((LJ ok.size v s).map _).trans ?_;rw[iR,ky,rX,List.range_succ];exact(fI _ ok.perm).trans (Ji _ _).symm
 .by_cases b:j=(pr mask h n).j
  .subst b
   have:i=(Ls a):=by simp only[sN,AM,gr H] at g1;rw[gr bA,gr<|by rw[ok.size];lia] at g1;exact(jn g1).symm
   subst this;rw[nU<|iD _] at g2;simp at g2;subst g2;exact⟨n,rfl,λm c=>Gr<|t m c⟩
  .have d:ow.getD j C=I i:=by simp only[sN,AM] at g1 ⊢;rw[gD λz=>b z.symm] at g1;exact g1
   have f:i<(Ls a):=by
    have g:j<=mask:=by
     by_cases q:j<ow.size
     .have:=ok.size;lia
     .rw[sN,AL<|by lia] at d;simp at d
    have:=ok.perm.mem_iff.mp<|lj.mpr ⟨(j,i),MY.mpr ⟨g,d⟩,rfl⟩;exact xm.mp this
   rw[sd f] at g2;obtain⟨q,A,B⟩:=ok.road j i u d g2;exact⟨q,A,λm c=>Gr<|B m c⟩
def LayOk.start(mask:Nat):LayOk mask [] (ez (mask+1) C) where
 size:=by simp
 perm:=by
  have:nE mask (ez (mask+1) C)=[]:=by unfold nE;refine List.filterMap_eq_nil_iff.mpr λj a=>?_;rw[sN,Jh];split<;>rfl
  rw[this];exact sQ _
 road:=λj i h h1=>by rw[sN,Jh] at h1;split at h1<;>cases h1
noncomputable def uO(mask:Nat)(a:Option (Array (Option Nat)×Nat))(h:Int):Option (Array (Option Nat)×Nat):=do
 let(owner,k) <-a
 let j <-bw mask owner (bN mask) (aF h%(mask+1)) (aF h)
 pure (owner.setIfInBounds j<|I k,k+1)
def LO{mask k:Nat}(hk:mask+1=2^k): ∀(l a:gh) (ow:uk),LayOk mask a ow->Ls a+Ls l<=mask+1->
  ∃c,l.foldl (uO mask) (I (ow,Ls a))=I (c,Ls a+Ls l)/\LayOk mask (a++l) c:=by
 intro m
 induction m with
 |nil=>intro a ow ok _;exact⟨ow,rfl,by rw[tu];exact ok⟩
 |cons h l i=>
  intro a ow ok g;rw[kY] at g;obtain⟨j,e,d⟩:=ok.step hk h (by lia);obtain⟨c,f,b⟩:=i (a++[h]) _ d (by rw[ky,rX];lia);refine⟨c,?_,by rw[mh] at b;exact b⟩;rw[pZ]
  have:uO mask (I (ow,Ls a)) h=I (ow.setIfInBounds j<|I<|Ls a,Ls a+1):=by unfold uO;show(bw mask ow (bN mask) (aF h%(mask+1)) (aF h)>>=_)=_;rw[e];rfl
  rw[this];rw[ky,rX] at f;rw[f,kY]
  congr 2;lia
def C8(hk:mask+1=2^k)(a:gh)(c:(Ls a)<=mask): ∃ow,fq mask a.toArray=I ow/\LayOk mask a ow:=by
 obtain⟨ow,e,ok⟩:=LO hk a [] _ (LayOk.start mask) (by simp;lia);refine⟨ow,?_,by simpa using ok⟩;unfold fq;rw[<-Array.foldl_toList];show eC _ (dY (uO mask) _ a)=_;have b:dY (uO mask) (I (ez (mask+1) C,0)) a=I (ow,Ls a):=by simpa using e
 rw[b];rfl
def Ox(hk:mask+1=2^k)(w:3<=k)(o:k<=11)(finger moves:Nat)(led plain:Bool)(d:gh)(E:5*(Ls d)<3*mask):
  ∃t c,hZ mask finger moves led plain d.toArray=I (t,c)/\c.toList.Perm (ai<|Ls d)/\TabOk (c.toList.map λi=>d.getD i 0) t/\t.plain=plain/\t.led=led:=by
 obtain⟨ow,e,ok⟩:=C8 hk d (by lia);refine⟨{mask,place:=((nE mask ow).map (·.1)).toArray,dummies:= #[],finger,led,moves,plain},((nE mask ow).map (·.2)).toArray,?_,by simpa using ok.perm,?_,rfl,rfl⟩
 .unfold hZ;rw[e];rfl
 .have g:(nE mask ow).length=(Ls d):=by have:=ok.perm.length_eq;simpa using this
  refine⟨⟨k,w,o,hk⟩,rfl,by simp,by simp[g];lia,by simpa using LK mask ow,λj z=>?_,λi h j g1 g2=>?_⟩
  .have v:j∈(nE mask ow).map (·.1):=by simpa using z
   obtain⟨⟨a,b⟩,q,rfl⟩:=lj.mp v;exact(MY.mp q).1
  .have s:((nE mask ow).map (·.2)).map (λi=>d.getD i 0)=(((nE mask ow).map (·.2)).toArray).toList.map λi=>d.getD i 0:=by simp
   rw[<-s,iW,iW] at g1;have f:((nE mask ow).map (·.1))[i]?=I j:=by simpa using g2
   rw[iW] at f
   cases l:(nE mask ow)[i]? with
   |none=>rw[l] at f;cases f
   |some p=>
    obtain⟨a,b⟩:=p;rw[l] at g1 f;simp at g1 f;subst f;have q:=MY.mp<|mM l
    have x:b<(Ls d):=by have:=ok.perm.mem_iff.mp<|lj.mpr ⟨(a,b),mM l,rfl⟩;exact xm.mp this
    have y:d[b]?=I h:=by rw[gY x] at g1 ⊢;simpa using g1
    obtain⟨n,B,U⟩:=ok.road a b h q.2 y;refine⟨n,B,λm r=>?_⟩;obtain⟨A,u⟩:=U m r;show(pr mask h m).j∈(((nE mask ow).map (·.1)).toArray).toList;have:(pr mask h m).j∈(nE mask ow).map (·.1):=lj.mpr ⟨(_,A),MY.mpr ⟨KP mask h m,u⟩,rfl⟩;simpa using this
def Bu: ∀n,n<2048-> ∃k,3<=k/\k<=11/\dh n=2^k/\n<2^k:=by
 intro n h
 have step: ∀(f k:Nat),3<=k->k<=11->11<k+f-> ∃b,3<=b/\b<=11/\SetTable.sizeAbove.go n f (2^k)=2^b/\n<2^b:=by
  intro f
  induction f with
  |zero=>intro k h1 c d;lia
  |succ f g=>
   intro k h1 c d;unfold SetTable.sizeAbove.go;by_cases a:2^k<=n
   .rw[gr a,<-uo];have:k≠11:=λe=>by subst e;lia
    exact g (k+1) (by lia) (by lia) (by lia)
   .rw[gD a];exact⟨k,h1,c,rfl,by lia⟩
 exact step 64 3 (by lia) (by lia) (by lia)
open PyProof.Rows PySem.SeqAt
def HF{g:gh}{t:lz}(ok:TabOk g t){hashAt:Nat->Int}{h:Int}{p:c4}{n:Nat}(f:p=pr t.mask h n)(e: ∀m,m<n->(pr t.mask h m).j∈t.place.toList):
    ∃m,n<=m/\m<10*(t.mask+14)/\(∀q,n<=q->q<m-> ∃i,t.place[i]?=I (pr t.mask h q).j/\hashAt i≠h)/\
      (((pr t.mask h m).j∉t.place.toList/\t.probe hashAt h p=I (.empty (pr t.mask h m).j C))\/
       (∃i,t.place[i]?=I (pr t.mask h m).j/\hashAt i=h/\t.probe hashAt h p=I (.candidate (pr t.mask h m).j i<|pr t.mask h<|m+1))):=by
  subst f;obtain⟨M,h1,a⟩:=ok.free h
  have c:n<=M:=by
    by_cases b:M<n
    · exact absurd (e M b) a
    · lia
  obtain⟨m,g1,g2,g3⟩:=KO ok hashAt h (10*bN t.mask) n ⟨M,c,by unfold bN;lia,a⟩
  have k:m<=M:=by
    by_cases b:M<m
    · obtain⟨i,d,_⟩:=g2 M c b
      rw[<-kE] at d;exact absurd (mM d) a
    · lia
  exact⟨m,g1,by lia,g2,g3⟩
section
variable {a:gM}{w:gB}{A:gJ}{E:gX}{s:fY}
def BZ(ok:TabOk b t)(h:(Ls b)=n):t.fits n=Y:=by have:=ok.len;have:=ok.room;unfold h6 h7;rw[ok.dum];simp only[lL,beq_iff_eq,vK];exact⟨by lia,by show _+0<=_;lia⟩
end
noncomputable abbrev jx(es:uj)(n:Nat)(t:lz):Obj:={cls:= .type "set",data:= .set es n t}
section
variable {b:gM}{w:gB}{A:gJ}{E:gX}{s:fY}
def Cw{h:gH}{a:fV}{es es':uj}{n:Nat}{t t':lz}(c:h.get? a=I (jx es n t)):(h.update a<|h9 es' t').get? a=I (jx es' (n+1) t'):=by have:=rY (h9 es' t') c (by rw[putSet_of es' t' H];rfl);rw[putSet_of es' t' H] at this;exact this
def Kn{c:Type}(a:Array c):(ai a.size).filterMap (λi=>a[i]?)=a.toList:=by
 have: ∀(l:List c),(ai<|Ls l).filterMap (λi=>l[i]?)=l:=by
  intro l
  induction l with
  |nil=>rfl
  |cons x l d=>rw[kY,c5,uz];simp only[List.getElem?_cons_zero,g7,rR,e7,d]
 have h:=this a.toList;simpa using h
def OG{a:uj}: ∀(l:ja),(∀i∈l,i<a.size)->(l.filterMap λi=>a[i]?).map (·.1)=l.map λi=>(a.toList.map (·.1)).getD i 0:=by
 intro f
 induction f with
 |nil=>intro _;exact H
 |cons i l e=>
  intro h;have c:=h i iX;rw[uz,pW c];simp only[iR];rw[e λj d=>h j<|jd _ d]
  congr 1
  simp[c]
def qH{c:Type}(a:Array c)(p:Nat)(x:c):(ao a p x).toList.Perm (x::a.toList):=by rw[kK];refine MW.trans ?_;rw[sV]
end
end TT
namespace PX
open L2 PySem.SeqAt TS
section
variable {X:Cx}{a:gU}{b:L2.St}{H:Hp}{s:fY}
end
end PX
namespace TT
open PySem.SeqAt
def yU:k0 vn "set.__iter__"=I aQ.«frozenset.__iter__»:=v6 (id':="frozenset.__iter__") (by kernel_rfl) H (by decide+kernel) (by kernel_rfl)
def mD:Slot "set_iterator" "__next__" "set_iterator.__next__":= .of (owner:="set_iterator") (n:="__next__") (by rw[sK,Jg];kernel_rfl) (by decide+kernel) (by decide+kernel) (by decide+kernel) (by first|exact .inl (by decide+kernel)|exact .inr<|by decide+kernel) (by rw[AK];kernel_rfl)
def uC:Slot "set_iterator" "__iter__" "set_iterator.__iter__":= .of (owner:="set_iterator") (n:="__iter__") (by rw[sK,Jg];kernel_rfl) (by decide+kernel) (by decide+kernel) (by decide+kernel) (by first|exact .inl (by decide+kernel)|exact .inr<|by decide+kernel) (by rw[AK];kernel_rfl)
def sG:k0 vn "set_iterator.__next__"=I aQ.«set_iterator.__next__»:=entryFor_of_fast (by kernel_rfl)
def zA:k0 vn "set_iterator.__iter__"=I aQ.«dict_keyiterator.__iter__»:=v6 (id':="dict_keyiterator.__iter__") (by kernel_rfl) H (by decide+kernel) (by kernel_rfl)
def vw(a:gu):fm "set_iterator.__next__" ⟨[a],[]⟩:=by unfold fm;kernel_rfl
def Cg(a:gu):fm "set_iterator.__iter__" ⟨[a],[]⟩:=by unfold fm;kernel_rfl
theorem pN{a:Type}: ∀(l:List a) {i:Nat} (h:i<Ls l),(l[i]::l.eraseIdx i).Perm l
 |x::l,0,_=>by simp
 |x::l,i+1,h=>by have:=pN l (i:=i) (by simpa using h);simp only[List.getElem_cons_succ,e8];exact(fH x _ _).trans (fI x this)
def BC{d:Type}(next:Nat->Nat): ∀(a k:Nat) (left:List d) (b:Array d),Ls left<=a->(pickOrder.go next a k left b).toList.Perm (b.toList++left):=by
 intro f
 induction f with
 |zero=>intro k left b h;have:left=[]:=M1.mp (by lia);subst this;unfold pickOrder.go;simp
 |succ a e=>
  intro k left b h;unfold pickOrder.go
  cases left with
  |nil=>simp
  |cons y l=>have c:next k%(y::l).length<(y::l).length:=vD _ (by simp);rw[gY c];dsimp only;refine(e (k+1) _ _ (by rw[AJ,gr c];simp at h ⊢;lia)).trans ?_;rw[dZ,mh];refine Jf _ ?_;exact pN _ c
def yy{b:Type}(next:Nat->Nat)(a:Array b):(eS next a).toList.Perm a.toList:=by unfold eS;have:=BC next a.size 0 a.toList #[] (by simp);simpa using this
noncomputable def mC(w:gB)(a:fV)(n:Nat)(b:uj):Array (Int×gu):=if w.params.followText "set-order"=Y then eS (w.params.setOrder a n) b else b
def DH(w:gB)(a:fV)(n:Nat)(b:uj):(mC w a n b).toList.Perm b.toList:=by
 unfold mC;split
 .exact yy _ _
 .exact sQ _
def nk(w:gB)(a:fV)(n:Nat)(b:uj):(mC w a n b).size=b.size:=by rw[<-jc,(DH w a n b).length_eq,jc]
noncomputable def F8(t:lz):Nat->Nat
 |0=>0
 |i+1=>t.place.getD i 0+1
noncomputable def la(w:gB)(t:lz)(i:Nat):Nat:=if w.params.followText "set-order"=Y then 0 else F8 t i
structure SetIs(w:gB)(h:gH)(a:fV)(es:uj)(n:Nat)(t:lz):Prop where
 at_:h.get? a=I8 (jx es n t)
 tab:TabOk (es.toList.map (·.1)) t
 plain:t.plain=KE
 led:t.led=!w.params.followText "set-order"
def SetIter(w:gB)(h:gH)(c a:fV)(t:lz)(b n i:Nat):Prop:= ∃o,h.get? c=I o/\o.cls= .type "set_iterator"/\o.data= .fields #[.int (la w t i) 0,.int i 0,.ref a,.int b 0,.int n 0]
section
variable {prog:gM}{w:gB}{A:gJ}{E:gX}{s:fY}
def SetIs.fits{h a es n t}(S:SetIs w h a es n t):t.fits es.size=Y:=BZ S.tab (by simp)
def FG(c:t.place.toList.Pairwise (· < ·))(j:i<=t.place.size):aj t.place (F8 t i)=i:=by
 cases i with
 |zero=>
  obtain⟨h1,a,_⟩:=nN c 0
  cases g:aj t.place 0 with
  |zero=>exact g
  |succ k=>
   have h:0<t.place.size:=by lia
   have:=a 0 _ (by lia) (pW h)
   lia
 |succ i=>
  have hd:t.place.getD i 0=t.place[i]:=by simp[eQ,show i<t.place.size by lia]
  show aj t.place (t.place.getD i 0+1)=i+1;rw[hd];have e:t.place[i]?=I t.place[i]:=pW (by lia);obtain⟨h1,a,f⟩:=nN c<|t.place[i]+1;by_cases l:aj t.place (t.place[i]+1)<i+1
  .have:=f i _ (by lia) e;lia
  .by_cases b:i+1<aj t.place (t.place[i]+1)
   .have d:t.place[i+1]?=I t.place[i+1]:=pW (by lia);have:=a (i+1) _ b d;have:=By c (uu i) e d
    lia
   .lia
def yq{a:fV}{b:uj}{n:Nat}{t:lz}(S:SetIs w s.heap a b n t){i:Nat}(q:i<=b.size){Q:Option (gu×Nat)->fY->Prop}
  (h1: ∀e,(mC w a n b)[i]?=I e->Q (I (e.2,la w t<|i+1)) s)(h:i=b.size->Q C s):af (ah prog w) A (setNext a (la w t i) i n) Q E s:=by
 have p:=S.tab.len;rw[iJ,jc] at p;unfold setNext;refine fX<|xQ S.at_ H S.fits ?_;dsimp only;unfold fj;refine fX<|fX<|tq<|gn ?_;by_cases c:w.params.followText "set-order"=Y
 .have f:(ah prog w).w.params.followText "set-order"=Y:=c;rw[gr f,gD<|by simp];unfold setWalk fj;refine fX<|fX<|xQ S.at_ H S.fits ?_;dsimp only;refine fX<|fX<|tq<|gn ?_;rw[gr f];refine fX<|tq<|gn<|gn ?_;have g:mC w a n b=eS (w.params.setOrder a n) b:=by unfold mC;rw[gr c]
  have d: ∀k,la w t k=0:=λk=>by unfold la;rw[gr c]
  show Q (((eS (w.params.setOrder a n) b)[i]?).map λe=>(e.2,la w t i)) s;rw[<-g];rw[d] at h1;rw[d]
  cases j:(mC w a n b)[i]? with
  |some e=>exact h1 e j
  |none=>have:=Sr.mp j;rw[nk] at this;exact h (by lia)
 .have f: ¬(ah prog w).w.params.followText "set-order"=Y:=c;rw[gD f];change af _ _ (if(!t.plain&&decide (b.size>1))=Y then _ else _) _ _ _;rw[gD<|by rw[S.plain];simp];have m:t.led=Y:=by rw[S.led];simpa using c
  refine fX ?_;change af _ _ (if(!t.led&&!b.isEmpty)=Y then _ else _) _ _ _;rw[gD<|by rw[m];simp];refine gn ?_;have g:mC w a n b=b:=by unfold mC;rw[gD c]
  have d: ∀k,la w t k=F8 t k:=λk=>by unfold la;rw[gD c]
  have l:aj t.place (la w t i)=i:=by rw[d];exact FG S.tab.ris (by lia)
  rw[l];rw[g] at h1;by_cases o:i<b.size
  .have g1:b[i]?=I b[i]:=pW o;have g2:t.place[i]?=I t.place[i]:=pW (by lia);rw[g1,g2];have:=h1 b[i] g1;rw[d] at this;rw[show F8 t (i+1)=t.place.getD i 0+1 from H] at this;have hd:t.place.getD i 0=t.place[i]:=by simp[eQ,show i<t.place.size by lia]
   rw[hd] at this;exact gn this
  .rw[AL<|by lia];exact gn<|h (by lia)
def SetIs.typeIs{a b n t}(S:SetIs w s.heap a b n t):s.TypeIs (.ref a) "set":=⟨_,S.at_,rfl⟩
def SetIter.typeIs{it a t z n i}(S:SetIter w s.heap it a t z n i):s.TypeIs (.ref it) "set_iterator":=let⟨o,c,b,_⟩:=S;⟨o,c,b⟩
def LZ(S:SetIs w s.heap a d n t) 
  (f: ∀c,SetIter w c s.heap.objs.size a t d.size n 0->(∀b o,s.heap.get? b=I o->c.get? b=I o)->c.objs.size=s.heap.objs.size+1->Q (.ref s.heap.objs.size) {s with heap:=c}):
  af (ah prog w) A (cU<|.ref a) Q E s:=by
 refine DR S.typeIs Je<|nc Je S.typeIs yU ?_<|PySem.F.args_set_iter_1 _;unfold aQ.«frozenset.__iter__» lf kv;simp -iota only[xP,vC,jA,↓reduceIte,uv,sM,rW];unfold dr li;refine fX<|gn ?_;dsimp only;refine fX<|gn ?_;refine fX<|fX<|DQ S.at_ H S.fits<|gn ?_;unfold setDrawn fj;refine fX<|fX<|xQ S.at_ H S.fits ?_;dsimp only;refine fX<|fX<|tq<|gn ?_;refine gn ?_;change af _ _ (if(!w.params.followText "set-order"&&(!t.plain&&decide (d.size>1)))=Y then _ else _) _ _ _;rw[gD<|by rw[S.plain];simp];refine fX<|gn ?_;unfold setEpoch;refine fX<|fX<|xQ S.at_ H S.fits<|gn ?_;refine fX<|lK<|gn ⟨_,rfl,"set_iterator",_,⟨_,iQ _ rfl,rfl⟩,mD.lookup,?_⟩;refine f _ ⟨_,iQ _ rfl,rfl,?_⟩ (λb o e=>iF _ e) (oA _ _);have:la w t 0=0:=by unfold la;split<;>rfl
 rw[this];rfl
def zp{c a:fV}{b:uj}{n:Nat}{t:lz}(S:SetIs w s.heap a b n t){i:Nat}(f:SetIter w s.heap c a t b.size n i)(x:c≠a){e:Int×gu}(h:(mC w a n b)[i]?=I e){Q:Cn}
  (p: ∀d,SetIter w d c a t b.size n (i+1)->aH c s.heap d->Q (I e.2) {s with heap:=d}):af (ah prog w) A (ca<|.ref c) Q E s:=by
 obtain⟨o,g,q,hd⟩:=id f;have r:i<b.size:=by have:=(MX.mp h).1;rw[nk] at this;exact this
 unfold ca;refine fX<|uq<|rZ (name:=bh "__next__") f.typeIs mD<|nc mD f.typeIs sG ?_<|vw _;unfold aQ.«set_iterator.__next__» kv;simp only[xP,vC,jA,↓reduceIte,uv,sM,rW];refine fX<|gn ?_;unfold fieldsOf;simp only[uv];refine fX<|vU g ?_;rw[hd];refine fX<|gn ?_;dsimp only;refine fX<|DQ S.at_ H S.fits ?_;rw[gD<|by simp];have h1:((la w t i:Nat):Int).toNat=la w t i:=oB _;have l:((i:Nat):Int).toNat=i:=oB _;have m:((n:Nat):Int).toNat=n:=oB _;rw[h1,l,m];refine fX (yq S (vV r) (λv k=>?_) λz=>by lia);rw[h] at k;cases k;dsimp only;refine fX<|sZ g hd (by simp) ?_;have j:=rY (e6 λu=>u.setIfInBounds 0<|cu<|la w t<|i+1) g<|A6<|rP hd _;refine fX<|sZ j (rP hd _) (by simp)<|gn ⟨_,rfl,gn<|p _ ?_ ((pG ..).trans (pG ..))⟩;refine⟨_,rY _ j (A6<|rP (rP hd _) _),?_,?_⟩
 .rw[A5,A5];exact q
 .rw[rP<|rP hd _];simp[cu]
def BL(j:A.handled=C)(S:SetIs w s.heap a c n t)(d:SetIter w s.heap it a t c.size n c.size)(q:it≠a) 
  (i: ∀e,dk it s.heap e->Q C {s with heap:=e}):af (ah prog w) A (ca<|.ref it) Q E s:=by
 obtain⟨o,f,p,hd⟩:=id d;unfold ca;refine fX<|uq<|rZ (name:=bh "__next__") d.typeIs mD<|nc mD d.typeIs sG ?_<|vw _;unfold aQ.«set_iterator.__next__» kv;simp only[xP,vC,jA,↓reduceIte,uv,sM,rW];refine fX<|gn ?_;unfold fieldsOf;simp only[uv];refine fX<|vU f ?_;rw[hd];refine fX<|gn ?_;dsimp only;refine fX<|DQ S.at_ H S.fits ?_;rw[gD<|by simp];have h1:((la w t c.size:Nat):Int).toNat=la w t c.size:=oB _;have g:((c.size:Nat):Int).toNat=c.size:=oB _;have h:((n:Nat):Int).toNat=n:=oB _;rw[h1,g,h];refine fX<|yq S (iD _) (λl k=>?_) λ_=>?_
 .have:=(MX.mp k).1;rw[nk] at this;omega
 dsimp only;refine fX<|sZ f hd (by simp) ?_;show af _ _ (hF (.type "StopIteration") []>>=_) _ _ _;refine fX ?_;simp -iota only[hF,kS];refine fX<|lK ?_ (by size_fits);refine fX (m:=cv _ _)<|tj (a:=am) (by first|rfl|(simp -iota only[cv];rfl)) ?_;refine lK ?_ (by size_fits);simp -iota only[vr];refine fX<|Ea ?_;rw[show A.in1.handled=C from j];refine fX<|gn<|D9 ?_;refine fX<|vJ (T:="StopIteration") (b:=Y) ⟨_,iQ _ rfl,rfl⟩ AY ?_;exact gn<|i _ (((pG ..).extBut.push _).push _)
def HZ(b:SetIter w s.heap it a t z n i)(c:Q (.ref it) s):af (ah prog w) A (cU<|.ref it) Q E s:=by refine DR b.typeIs uC<|nc uC b.typeIs zA ?_<|Cg _;unfold aQ.«dict_keyiterator.__iter__» kv;simp -iota only[xP,vC,jA,↓reduceIte,uv,sM,rW];exact fX<|gn<|gn ⟨_,rfl,"set_iterator",_,b.typeIs,mD.lookup,c⟩
def SetIs.stay{a b n t}(S:SetIs w h a b n t)(k: ∀o,h.get? a=I o->c.get? a=I o):SetIs w c a b n t:=⟨k _ S.at_,S.tab,S.plain,S.led⟩
def Hq(p:A.handled=C)(U a:fV)(j:U≠a)(c:uj)(n:Nat)(t:lz):
  Walks prog w A U [U,a] [U] c.size (λi v=> ∃e,(mC w a n c)[i]?=I e/\v=e.2) (λi h=>SetIter w h U a t c.size n i/\SetIs w h a c n t) where
 sub:=λb d=>by simp at d;simp[d]
 frame:=λ_ _ _ st hk=>⟨(by obtain⟨o,h1,m⟩:=st.1;exact⟨o,hk U (by simp) o h1,m⟩),st.2.stay λo e=>hk a (by simp) o e⟩
 item:=λi s Q E q st f=>by
  have r:i<(mC w a n c).size:=by rw[nk];exact q
  have k:(mC w a n c)[i]?=I (mC w a n c)[i]:=pW r;refine zp st.2 st.1 j k λg u l=>?_;exact f _ g s.toks ⟨_,k,rfl⟩ ⟨u,st.2.stay λo e=>l.extBut a o (λh=>j h.symm) e⟩ λb o d e=>l.extBut b o (λh=>d<|by simp[h]) e
 done:=λs Q E st f=>BL p st.2 st.1 j λg x=>f g s.toks λb o d e=>x b o (λh=>d<|by simp[h]) e
 self:=λ_ _ _ _ st f=>HZ st.1 f
def OJ(hh:A.handled=J4)(S:SetIs w s.heap a d n t)(hn:d.size<=sizeLine) 
  (hQ: ∀i tk,(∀b o,s.heap.get? b=I8 o->i.get? b=I8 o)->Q ((mC w a n d).toList.map (·.2)) {s with heap:=i,toks:=tk}):af (ah prog w) A (eJ<|.ref a) Q E s:=by
 have u:a<s.heap.objs.size:=iM S.at_;have r:a≠s.heap.objs.size:=hX u;have J:a≠s.heap.objs.size+1:=hX<|rT u;have v:s.heap.objs.size≠s.heap.objs.size+1:=hX<|uu _;unfold eJ;refine fX<|A7<|pH Jd ?_;rw[rQ Jc _];show af _ A.in1 (hD []>>=λl=>again<|.builtin "list.__iadd__" ⟨[l,.ref a],[]⟩) _ _ s;refine fX<|lK ?_;refine gn ⟨qi AI _,pH Jb ?_⟩;rw[rQ AI _];show af _ A.in1 (bH (.ref s.heap.objs.size) (.ref a)<|.ref s.heap.objs.size) _ _ _;generalize x:({cls:= .type "list",data:= .seq ([]:List gu).toArray}:en)=g;have p:SetIs w (s.heap.push g) a d n t:=S.stay λo e=>iF _ e;unfold bH;refine fX<|ql (T:="set") (s:={s with heap:=s.heap.push g}) p.typeIs ?_;have h1:bR (.ref s.heap.objs.size) (.ref a)=K2:=by simp only[bR,zh];exact r.symm
 have c:(bm "set"==bm "list")=K2:=by decide
 have Z:(bm "set"==bm "tuple")=K2:=by decide
 simp -iota only[h1,c,Z,eY,jA,jh];refine fX<|LZ (s:={s with heap:=s.heap.push g}) p λc H q z2=>?_;have C:(s.heap.push g).objs.size=s.heap.objs.size+1:=oA _ _;have h:SetIs w c a d n t:=p.stay λo e=>q _ _ e;refine fX<|lM ?_;unfold dO;refine fX<|sB (T:="set") (s:={s with heap:=c}) h.typeIs PySem.F.slot_set_len.lookup ?_;generalize y:("set.__len__":String)=id0;dsimp only;rw[show splitId id0=I8 ("set","__len__") from by subst y;decide+kernel];dsimp only;refine fX<|vJ (T:="set") (s:={s with heap:=c}) (b:=KE) h.typeIs (by rw[AK];kernel_rfl) ?_;simp -iota only[vC,jA,jh];change af _ _ (if _=KE then _ else _) _ _ _;rw[gr<|by subst y;decide+kernel];refine fX<|ql (T:="set") (s:={s with heap:=c}) h.typeIs ?_;dsimp only;refine gn ?_;change af _ _ (if _=KE then _ else _) _ _ _;rw[gr<|by decide+kernel];refine fX<|rV ?_;have B:c.get? s.heap.objs.size=I8 g:=q _ _ (iQ _ (by subst x;rfl));subst x;refine fX ?_;show af _ A.in1 (fL s.heap.objs.size (·.push .none)>>=λ_=>fL s.heap.objs.size (·.pop)) _ _ _;refine fX<|AH (s:={s with heap:=c}) B K3 ?_;have z:=rY (ay (·.push am)) B K3;refine AH z K3 ?_;have R:=rY (ay (·.pop)) z K3
 have oth: ∀b o,b≠s.heap.objs.size->c.get? b=I8 o->((c.update s.heap.objs.size (ay (·.push am))).update s.heap.objs.size (ay (·.pop))).get? b=I8 o:=
  λb o f e=>(vR _ _ (pJ f)).trans<|(vR _ _ (pJ f)).trans e
 have W:=(Hq (prog:=prog) (w:=w) (A:=A.in1) (by show A.handled=J4;exact hh) (s.heap.objs.size+1) a J.symm d n t).toS;rw[C] at H;refine gn ⟨qi Ja _,?_⟩;rw[C];refine I9 W hn s.heap.objs.size (by simp -iota only[jF,kD,lF,nR];exact⟨v,r.symm⟩) _ d.size 0 _ _ _ rfl (kx _) ?_ R (ItemsOf.nil _) λL m c' k G l5=>?_
 .refine⟨?_,h.stay λo e=>oth a o r e⟩;obtain⟨o,g1,g2⟩:=H;exact⟨o,oth _ o v.symm g1,g2⟩
 show af _ A (load s.heap.objs.size>>=_) _ _ L;refine fX<|vU G ?_;obtain⟨i,V,Y,U,N⟩:=L;have K:V=s.gens:=k.gens;have D:Y=s.drawn:=k.drawn;have P:N=s.os:=k.os;subst K;subst D;subst P
 have M:m.toList=(mC w a n d).toList.map (·.2):=by
  obtain⟨a1,O⟩:=l5;apply Ee
  .rw[iJ,jc,jc,a1,nk]
  .intro j g1 g2;have X:m[j]?=I8 m.toList[j]:=by rw[<-kE];exact gY g1
   obtain⟨e,I,hv⟩:=O j _ X;rw[hv];rw[iJ,jc] at g2;rw[cY];rw[<-kE,gY<|by rw[jc];exact g2] at I;cases I;rfl
 refine gn ?_;show Q m.toList _;rw[M];refine hQ i U λb o e=>?_;have f:=iM e;exact k.heap b o (by simp -iota only[jF,kD,lF,nR];exact⟨hX f,hX<|rT f⟩)<|oth b o (hX f)<|q _ _ (iF _ e)
end
section
variable {a:gM}{w:gB}{A:gJ}{R:h8->fY->Prop}{I:fV}{d c:jz}{G:Array eK->Array eK->Prop}{n:Nat}{P:Nat->gu->Prop}{St:Nat->fY->Prop}
def JS(W:WalksS a w A.in1 I d c G n P St)(S:fV)(J:S∉d)(s0:fY)(j:Nat->gH->Prop)(stay: ∀i h g,j i h->(∀o,h.get? S=I8 o->g.get? S=I8 o)->j i g)
  (step: ∀i v (f:fY) (Q:FU) (E:gX),i<n->P i v->j i f.heap->IR (S::c) G s0 f->(∀r g L,f.toks<=L->aH S f.heap g->j (i+1) g->Q r {f with heap:=g,toks:=L})->af (ah a w) A.in1 (nw S v) Q E f):
  ∀(k i:Nat) (s:fY),n-i=k->i<=n->St i s->j i s.heap->IR (S::c) G s0 s->(∀f,IR (S::c) G s0 f->j n f.heap->R (.ok<|.ret .none) f)->
   cJ (ah a w) A (.builtin "set.update.loop" ⟨[.ref S,.ref I],[]⟩) R s:=by
 have l:S∉c:=λh=>J<|W.sub _ h;have M: ∀b∈c,b∈S::c:=λb m=>jd _ m;intro k
 induction k with
 |zero=>
  intro i s hk U H y u x;have B:i=n:=by lia
  subst B;refine pH IZ ?_;rw[rQ DP _];show af _ A.in1 (ca (.ref I)>>=_) _ _ s;refine fX<|W.done s _ _ H λf p=>?_;show af _ A.in1 (ret am) _ _ f;exact gn<|x f (Moved.trans W.gtrans u<|p.mono M)<|stay _ _ _ y λo e=>p.heap S o l e
 |succ k Y'=>
  intro i s hk U H y u x;have C:i<n:=by lia
  refine pH IZ ?_;rw[rQ DP _];show af _ A.in1 (ca (.ref I)>>=_) _ _ s;refine fX<|W.item i s _ _ C H λv f N q p=>?_;have T:=Moved.trans W.gtrans u<|p.mono M;show af _ A.in1 (bt [v] (nw S v)>>=_) _ _ f;refine fX<|lM<|step i v f _ _ C N (stay _ _ _ y λo e=>p.heap S o l e) T λr g L t O z=>?_;refine gn ⟨qi DP _,Y' (i+1) _ (by lia) C (W.frame _ f _ _ q t λb m o e=>?_) z (T.then_heap t λb o m e=>?_) x⟩
  .rw[O.2 b λh:b=S=>J<|by rw[<-h];exact m];exact e
  .rw[O.2 b λh:b=S=>m<|by rw[h];exact iX];exact e
end
section
variable {f:gM}{w:gB}{A:gJ}{E:gX}{s:fY}
def Oj(a:gu)(h:Q₁ (.ref s.heap.objs.size) {s with heap:=s.heap.push (jx #[] 0 (.fresh 0 0 (!w.params.followText "set-order")))}):
  cJ (ah f w) A (.call (.builtin "set.__new__") ⟨[.type "set",a],[]⟩) (vl Q₁ E) s:=by
 refine vN ?_;show af _ A.in1 (do dg "set.__new__" ⟨[.type "set",a],[]⟩;again (.builtin "set.__new__" ⟨[.type "set",a],[]⟩)) _ _ s;refine fX<|tj (PySem.F.newCall_set_1 a)<|gn ⟨qi IY _,pH PySem.F.entry_set_new ?_⟩;rw[rQ IY _];unfold aQ.«set.__new__» ln;have c:=sub_set_self;obtain⟨b,g,d,e,os⟩:=s;dsimp only
 wp_walk
 refine tq<|gn ?_;dsimp only;simp only[newObj];refine fX<|Bc<|gn ?_;exact gn h
noncomputable abbrev kn(w:gB):SetTable:= .fresh 0 0 (!w.params.followText "set-order")
def Sx{h:gH}{a:fV}(e:h.get? a=I (jx #[] 0 (kn w))):SetIs w h a #[] 0 (kn w):=⟨e,TabOk.fresh _ _ _,rfl,rfl⟩
set_option maxHeartbeats 8000000 in
def Sy{l:fV}{a:lN}{Q:gX}(hh:A.handled=J4)(p:s.heap.IsList l a\/s.heap.IsTuple l a)(m:Nat->gH->Prop)
  (stay: ∀i h d,m i h->(∀o,h.get? s.heap.objs.size=I8 o->d.get? s.heap.objs.size=I8 o)->m i d)
  (pP: ∀d,d.get? s.heap.objs.size=I8 (jx #[] 0 (kn w))->m 0 d)
  (step: ∀i v (g:fY) (B:gJ) (Q:FU) (E:gX),B.units<=A.units+20->a[i]?=I8 v->m i g.heap->(∀b o,s.heap.get? b=I8 o->g.heap.get? b=I8 o)->g.gens=s.gens->g.drawn=s.drawn->g.os=s.os->
   (∀r d y,g.toks<=y->aH s.heap.objs.size g.heap d->m (i+1) d->Q r {g with heap:=d,toks:=y})->af (ah f w) B (nw s.heap.objs.size v) Q E g)
  (h: ∀(d:gH) (y:Nat),m a.size d->(∀b o,s.heap.get? b=I8 o->d.get? b=I8 o)->Q (.ref s.heap.objs.size) {s with heap:=d,toks:=y}):
  af (ah f w) A (call (.type "set") [.ref l]) Q E s:=by
 obtain⟨c,tl,K⟩:=JG.mro;have M:=JG.made;have n5:=JG.sub;refine m9<|vN ?_;show af _ _ (callAny (.type "set") _) _ _ _;refine gn ⟨Code.quiet_builtin _ (by decide+kernel),pH PySem.F.entry_type_call ?_⟩;rw[fD (Jo "set" [.ref l] []) K3];have h1:=JG.notType;have h2:=JG.canCreate;have hct:=PySem.F.typeCall_set_1<|.ref l
 repeat (any_goals (first|assumption|wp_step))
 refine se (Oj (.ref l) (E:=E) (Q₁:=λobj t=>obj= .ref s.heap.objs.size/\t={s with heap:=s.heap.push (jx #[] 0 (kn w))}) ⟨rfl,rfl⟩) λr t N=>?_
 cases r with
 |error e=>exact N
 |ok fl=>
  cases fl with
  |ret obj=>
   obtain⟨rfl,rfl⟩:=N;have D:(s.heap.push<|jx #[] 0 (kn w)).get? s.heap.objs.size=I8 (jx #[] 0 (kn w)):=iQ _ rfl;have hT:Shared.TypeIs {s with heap:=s.heap.push (jx #[] 0 (kn w))} (.ref s.heap.objs.size) "set":=⟨_,D,rfl⟩
   have hli:=JG.init.lookup;have eZ:=JG.init.bind<|.ref s.heap.objs.size
   repeat (any_goals (first|assumption|wp_step))
   refine se (D8 (R:=vl (λr u=>r= .none/\ ∃d y,u={s with heap:=d,toks:=y}/\m a.size d/\(∀b o,s.heap.get? b=I8 o->d.get? b=I8 o)) E) JG.init.plain PySem.F.entry_set_init<|check_set_init_1 hT ?_) λI u O=>?_
   .obtain⟨c,hc,ol,Y,X,nl,y1⟩: ∃c,(c="list"\/c="tuple")/\ ∃o,s.heap.get? l=I8 o/\o.cls= .type c/\ ∃n,o.data= .seq a n:=p.elim (λh=>⟨_,.inl K3,h⟩) (λh=>⟨_,.inr K3,h⟩)
    obtain⟨V,S,i5⟩:isSubtype (.type c) (.type "set")=pure K2/\isSubtype (.type c) (.type "frozenset")=pure K2/\(bm c==bm "dict")=K2:=by
     rcases hc with rfl|rfl
     .exact⟨PySem.F.sub_list_set,PySem.F.sub_list_frozenset,by decide⟩
     .exact⟨PySem.F.sub_tuple_set,PySem.F.sub_tuple_frozenset,by decide⟩
    obtain⟨Z,x,U,k⟩:=ol;simp only at X y1;subst X;subst y1;have P:(s.heap.push<|jx #[] 0 (kn w)).get? l=I8 {cls:= .type c,dict:=x,data:= .seq a nl,slots:=k}:=iF _ Y;have H:l<s.heap.objs.size:=iM Y;have C:A.in1.in1.in1.handled=J4:=by simp[hh]
    have sz:(s.heap.push<|jx #[] 0 (kn w)).objs.size=s.heap.objs.size+1:=oA _ _;have q:l≠(s.heap.push<|jx #[] 0 (kn w)).objs.size:=by rw[sz];exact hX<|rT H
    have dE:s.heap.objs.size∉[(s.heap.push<|jx #[] 0 (kn w)).objs.size,l]:=by rw[sz];simp only[jF,kD,lF,nR];exact⟨hX<|uu _,mN H⟩
    obtain⟨St,W,o0,h0,T⟩: ∃St,Walks f w A.in1.in1.in1 (s.heap.push<|jx #[] 0 (kn w)).objs.size [(s.heap.push<|jx #[] 0 (kn w)).objs.size,l] [(s.heap.push<|jx #[] 0 (kn w)).objs.size] a.size (λi v=>a[i]?=I8 v) St/\ ∃o0,St 0 ((s.heap.push<|jx #[] 0 (kn w)).push o0)/\
      ∀{A':gJ} {Q:gX} {E},Q (.ref (s.heap.push<|jx #[] 0 (kn w)).objs.size) {s with heap:=(s.heap.push<|jx #[] 0 (kn w)).push o0}->af (ah f w) A' (cU<|.ref l) Q E {s with heap:=s.heap.push (jx #[] 0 (kn w))}:=by
     rcases p with p|p
     .exact⟨_,Walks.list C _ l q a,_,⟨⟨_,iQ _ rfl,rfl,rfl⟩,(p.push _).push _⟩,λh=>yd (p.push _) h⟩
     .exact⟨_,Walks.tuple C _ l q a,_,⟨⟨_,iQ _ rfl,rfl,rfl⟩,(p.push _).push _⟩,λh=>Er (p.push _) h⟩
    unfold aQ.«set.__init__» noKeywords k8;generalize G:cU=PI
    wp_walk
    subst G;refine T ?_;refine fX<|A7 ?_;refine JS W.toS s.heap.objs.size dE _ m stay (λi v g Q' E' hi hP J j hk=>?_) (a.size-0) 0 _ (by lia) (kx _) h0 (pP _ (iF _ D)) (IR.refl λ_=>rfl) ?hR
    .refine step i v g _ Q' E' ?_ hP J (λb o e=>?_) j.gens j.drawn j.os hk
     .show A.units+1+1+1<=A.units+20;lia
     .have z:=iM e;exact j.heap b o (by rw[sz];simp only[jF,kD,lF,nR];exact⟨hX z,hX<|rT z⟩)<|iF _ (iF _ e)
    case hR=>intro g j L;obtain⟨d,g',d',ck,bp⟩:=g;have eg:g'=s.gens:=j.gens;have ed:d'=s.drawn:=j.drawn;have eo:bp=s.os:=j.os;subst eg;subst ed;subst eo;show af _ _ _ _ _ _;refine gn ?_;show af _ _ (ret am) _ _ _;refine gn ⟨rfl,d,ck,rfl,L,λb o e=>?_⟩;have z:=iM e;exact j.heap b o (by rw[sz];simp only[jF,kD,lF,nR];exact⟨hX z,hX<|rT z⟩)<|iF _ (iF _ e)
   .cases I with
    |error e=>exact O
    |ok fA=>
     cases fA with
     |ret r=>
      obtain⟨rfl,d,y,rfl,L,eG⟩:=O
      repeat (any_goals (first|assumption|wp_step))
      exact h _ _ L eG
     |_=>exact O.elim
  |_=>exact N.elim
end
end TT
namespace PX
open L2 PySem.SeqAt TS
def yS(h1:D.pr x=Y)(a:D.pr y=Y):D.eqb x y=Y↔x=y:=by
 rw[Fq x y h1 a];constructor
 .intro h;exact yZ x y h1 a (by simpa using h)
 .rintro rfl;rw[G6];rfl
def pU(a:List D)(d:D):List D:=if a.any (D.eqb · d)=Y then a else a++[d]
def nM(l:List D):List D:=l.foldl pU []
def MQ(a:List D)(d:D):(pU a d).length<=Ls a+1:=by unfold pU;split<;>simp
def ll{d i:Type}(f:d->i){g m:List i}(h:g.Perm m): ∀l:List d,m=l.map f-> ∃c:List d,c.Perm l/\g=c.map f:=by
 induction h with
 |nil=>
  intro l e;have:l=[]:=by simpa using e.symm
  subst this;exact⟨[],.refl _,rfl⟩
 |cons x _ n=>
  intro l e
  cases l with
  |nil=>simp at e
  |cons y l=>simp -iota only[iR,cR] at e;obtain⟨c,p,q⟩:=n l e.2;exact⟨y::c,p.cons y,by rw[q,e.1];rfl⟩
 |swap x y w=>
  intro l e
  cases l with
  |nil=>simp at e
  |cons a l=>
   cases l with
   |nil=>simp at e
   |cons b l=>simp -iota only[iR,cR] at e;exact⟨b::a::l,.swap a b l,by rw[e.1,e.2.1,e.2.2];rfl⟩
 |trans _ _ k j=>intro l e;obtain⟨o,s,u⟩:=j l e;obtain⟨r,t,v⟩:=k o u;exact⟨r,t.trans s,v⟩
def wX{b d:Type}{F:b->d->Prop}{c m:List d}(h:c.Perm m): ∀{z:List b},Paired F z m-> ∃a:List b,Paired F a c/\a.Perm z:=by
 induction h with
 |nil=>intro z p;exact⟨z,p,.refl _⟩
 |cons x _ i=>
  intro z p
  cases p with
  |cons r t=>obtain⟨a,h1,g⟩:=i t;exact⟨_::a,.cons r h1,g.cons _⟩
 |swap x y s=>
  intro z p
  cases p with
  |cons r t=>
   cases t with
   |cons o t=>exact⟨_,.cons o<|.cons r t,.swap _ _ _⟩
 |trans _ _ f e=>intro z p;obtain⟨u,j,l⟩:=e p;obtain⟨q,k,n⟩:=f j;exact⟨q,k,n.trans l⟩
def RepL.zip{K U}{O:AP'}: ∀{l:List D} {b:List V},RepL K U O l b-> ∀p∈l.zip b,Rep K U O p.1 p.2:=by
 intro f
 induction f with
 |nil=>intro b h p a;simp at a
 |cons d l e=>
  intro b h p a;rw[RepL] at h;obtain⟨v,r,rfl,h1,c⟩:=h;rw[qf] at a;rcases jF.mp a with rfl|a
  .exact h1
  .exact e c p a
def RepL.ofZip{K U}{O:AP'}: ∀{l:List (D×V)},(∀p∈l,Rep K U O p.1 p.2)->RepL K U O (l.map (·.1)) (l.map (·.2)):=by
 intro c
 induction c with
 |nil=>intro _;exact RepL.nil
 |cons p l b=>intro h;exact RepL.cons (h p iX)<|b λq a=>h q<|jd _ a
abbrev hv(p:D×V):Int×V:=(D.hash p.1,p.2)
theorem yg: ∀(b:List D) (a:List V),(D.hashL b).zip a=(b.zip a).map hv
 |[],a=>by simp[D.hashL]
 |d::b,[]=>by simp
 |d::b,u::a=>by rw[D.hashL,qf,qf,iR,yg b a]
section
variable {X:Cx}{pins:gU}{σ:L2.St}{H:Hp}{s:fY}
structure SetV(X:Cx)(H:Hp)(O:AP')(h:gH)(a:fV)(vs:List D)(es:uj)(n:Nat)(t:lz)(l:List (D×V)):Prop where
 is:TT.SetIs X.w h a es n t
 perm:(l.map (·.1)).Perm vs
 rep: ∀p∈l,Rep X.K H O p.1 p.2
 par:Paired (λ(z:Int×V) (e:Int×gu)=>z.1=e.1/\RelV z.2 e.2) (l.map hv) es.toList
def SetV.stay{a c b n t l}(S:SetV X H O h a c b n t l)(k: ∀o,h.get? a=I o->d.get? a=I o):SetV X H O d a c b n t l:=⟨S.is.stay k,S.perm,S.rep,S.par⟩
def yz{d c:Type}{F:d->c->Prop}{l:List d}{m:List c}(h:Paired F l m): ∀{i:Nat} {b:c},m[i]?=I b-> ∃a,l[i]?=I a/\F a b:=by
 induction h with
 |nil=>intro i b h;simp at h
 |cons r t f=>
  intro i b h
  cases i with
  |zero=>simp at h;subst h;exact⟨_,rfl,r⟩
  |succ i=>obtain⟨a,h1,e⟩:=f (i:=i) (b:=b) (by simpa using h);exact⟨a,by simpa using h1,e⟩
def EU{a b:Type}{F:a->b->Prop}: ∀{l:List a} {m:List b},Paired F l m->Ls l=(Ls m):=tD
def yA{l:List (Int×V)}{m:List (Int×gu)}(h:Paired (λ(z:Int×V) (e:Int×gu)=>z.1=e.1/\RelV z.2 e.2) l m):l.map (·.1)=m.map (·.1):=by
 induction h with
 |nil=>rfl
 |cons r t a=>rw[iR,iR,r.1,a]
def OthB.setV(U:Inv X pins σ H s)(h:OthB X.K (H a) .set o f us)(r:RepL X.K H O f us): ∃b n t l,SetV X H O s.heap a f b n t l:=by
 obtain⟨_,m,e,p⟩:=h;obtain⟨b,n,t,h1,c,g,i,j⟩:=(show ObjOk X.prog X.w H s.heap a (.stt m) from U.hok a _ e)
 rw[yg] at p;obtain⟨l,d,rfl⟩:=ll hv p _ rfl;refine⟨b,n,t,l,⟨h1,by rw[<-yA c];exact g,i,j⟩,?_,λq k=>r.zip q<|d.mem_iff.mp k,c⟩;have:=d.map (·.1);rw[j1<|by rw[r.length];exact iD _] at this;exact this
def SetV.objOk{b n t l}(S:SetV X H O h a c b n t l):ObjOk X.prog X.w H' h a (.stt<|l.map hv):=
 ⟨b,n,t,S.is.at_,S.par,by rw[yA S.par];exact S.is.tab,S.is.plain,S.is.led⟩
def SetV.lens{b n t l}(S:SetV X H O h a c b n t l):b.size=Ls c/\(Ls l)=(Ls c):=by
 have h1:=EU S.par;have d:=S.perm.length_eq;simp only[iJ,jc] at h1 d
 lia
def SetV.oth{O:AP'}{h:gH}{a:fV}{e:List D}{g n t l}(S:SetV X H O h a e g n t l){K H'}{O':AP'}(k: ∀p∈l,Rep K H' O' p.1 p.2)(i:H' a=I (.stt<|l.map hv)): ∃f,OthB K (H' a) .set [] e f/\RepL K H' O' e f:=by
 obtain⟨b,c,d⟩:=ll (·.1) S.perm.symm l K3;refine⟨b.map (·.2),⟨rfl,l.map hv,i,?_⟩,?_⟩
 .rw[d,yg]
  have:(b.map (·.1)).zip (b.map (·.2))=b:=by
   clear c d
   induction b with
   |nil=>rfl
   |cons x l m=>rw[iR,iR,qf,m]
  rw[this];exact(c.map hv).symm
 .rw[d];exact RepL.ofZip λp j=>k p<|c.mem_iff.mp j
def Fs{l:List D}{i:Nat}{d:D}(h:l[i]?=I d):nM (l.take<|i+1)=pU (nM<|l.take i) d:=by unfold nM;rw[D1,h,List.foldl_append];rfl
def Iq: ∀(l a:List D),(l.foldl pU a).length<=Ls a+(Ls l):=by
 intro c
 induction c with
 |nil=>intro a;simp
 |cons d l b=>intro a;have:=b<|pU a d;have:=MQ a d;simp only[pZ,kY];lia
end
def J9(b:l.Perm m)(a: ∀x∈l,D.pr x=Y):kd ltT l=kd ltT m:=J6 (λx c=>a x<|b.mem_iff.mpr c) ((iw ltT l).trans b)<|mX l
def Hn{k:Nat}{l:List D}(h:SortsBy k l):lQ l=Y:=by
 unfold lQ;rw[vF];right
 cases l with
 |nil=>rfl
 |cons x m=>simp only[lL,lO,vK];refine⟨⟨by rw[h.hd x iX];rfl,λy a=>⟨⟨?_,h.pr y a⟩,h.dp y a⟩⟩,λy a z b=>h.cm y a z b⟩;rw[h.hd x iX,h.hd y a];simp
def CB(b:l.Perm m)(h:lQ m=Y):lQ l=Y:=by
 rcases zO h with c|⟨k,B⟩
 .unfold lQ;rw[vF];left;rw[b.length_eq];simpa using c
 .exact Hn (k:=k) ⟨λx a=>B.hd x<|b.mem_iff.mp a,λx a=>B.pr x<|b.mem_iff.mp a,λx a=>B.dp x<|b.mem_iff.mp a,λx a y d=>B.cm x (b.mem_iff.mp a) y<|b.mem_iff.mp d⟩
section
variable {X:Cx}
end
end PX
namespace L2
section
variable {κ:Type}[DecidableEq κ]
def pO(a:List (κ×V))(k:κ):Option V:=(a.find? λb=>decide<|b.1=k).map (·.2)
def pQ(a:List (κ×V))(k:κ)(v:V):List (κ×V):=
 if(a.any λb=>decide<|b.1=k)=Y then a.map (λb=>if b.1=k then(b.1,v) else b) else a++[(k,v)]
theorem qq{p:κ×V}{r:List (κ×V)}{k:κ}(e:p.1=k):pO (p::r) k=I p.2:=by simp[pO,vB,e]
theorem nq{p:κ×V}{r:List (κ×V)}{k:κ}(e: ¬p.1=k):pO (p::r) k=pO r k:=by simp[pO,vB,e]
theorem Ct(k:κ): ∀a:List (κ×V),(a.any λb=>decide<|b.1=k)=(pO a k).isSome
 |[]=>rfl
 |p::r=>by
  rw[cS];by_cases e:p.1=k
  .simp only[qq e,kh e,Bool.true_or,fE]
  .rw[nq e,kF e,Bool.false_or];exact Ct k r
theorem xf(a:List (κ×V))(k:κ)(v:V):(pQ a k v).length<=Ls a+1:=by
 unfold pQ;split
 .rw[iJ];lia
 .rw[ky,kY,sM];lia
theorem RelO.isSome_eq{o:Option V}{u:Option gu}(r:RelO o u):o.isSome=u.isSome:=by
 cases o with
 |none=>cases u with
  |none=>rfl
  |some _=>exact(show False from r).elim
 |some _=>cases u with
  |none=>exact(show False from r).elim
  |some _=>rfl
theorem KV.val{kvs:List (κ×V)}{d:List (κ×gu)}(r:KV kvs d)(k:κ):RelO (pO kvs k) (e9 d k):=by
 unfold KV at r
 induction r with
 |nil=>exact bA
 | @cons p q i c h t g=>
  obtain⟨h1,f⟩:=h;by_cases e:p.1=k
  .have a:q.1=k:=h1.symm.trans e;have b:e9 (q::c) k=I q.2:=by simp[e9,vB,a]
   rw[qq e,b];exact f
  .have a: ¬q.1=k:=λz=>e<|h1.trans z;have b:e9 (q::c) k=e9 c k:=by simp[e9,vB,a]
   rw[nq e,b];exact g
theorem KV.any{a:List (κ×V)}{c:List (κ×gu)}(r:KV a c)(k:κ):(a.any λb=>decide<|b.1=k)=c.any λb=>decide (b.1=k):=by
 unfold KV at r
 induction r with
 |nil=>rfl
 |cons h t d=>rw[cS,cS,d,h.1]
theorem KV.repl{b:List (κ×V)}{c:List (κ×gu)}(r:KV b c)(k:κ){y:V}{u:gu}(g:RelV y u):
  KV (b.map λa=>if a.1=k then(a.1,y) else a) (c.map λa=>if a.1=k then(a.1,u) else a):=by
 unfold KV at r ⊢
 induction r with
 |nil=>exact .nil
 | @cons p q i j h t f=>
  rw[iR,iR];refine .cons ?_ f;obtain⟨h1,d⟩:=h;by_cases e:p.1=k
  .rw[gr e,gr<|h1.symm.trans e];exact⟨h1,g⟩
  .rw[gD e,gD λz=>e<|h1.trans z];exact⟨h1,d⟩
theorem KV.put{a:List (κ×V)}{b:List (κ×gu)}(r:KV a b)(k:κ){y:V}{u:gu}(c:RelV y u):KV (pQ a k y) (stored b k u):=by
 unfold pQ stored;rw[r.any k];by_cases e:(b.any λd=>decide<|d.1=k)=Y
 .rw[gr e,gr e];exact r.repl k c
 .rw[gD e,gD e];exact Paired.snoc r ⟨rfl,c⟩
theorem KV.length{a:List (κ×V)}{b:List (κ×gu)}(r:KV a b):(Ls a)=(Ls b):=tD r
end
def Ag{P:gM}{w:gB}{k:Key}{u:gu}(r:RelV (kV k) u):(kb P w).is k u=Y:=by
 cases k with
 |inl i=>obtain⟨t,e⟩:=(show ∃t,u=ei i t from r);subst e;exact C0 P w i t
 |inr x=>obtain⟨t,e⟩:=(show ∃t,u=hH x t from r);subst e;exact CZ P w x t
theorem Ah{P:gM}{w:gB}: ∀{a:List Key} {b:il},Vals (a.map kV) b->ItemsAre (kb P w) a b
 |[],_,r=>by rw[uw] at r;cases r;exact .nil
 |k::a,_,r=>by
  rw[iR] at r
  cases r with
  |cons h t=>exact .cons (Ag h)<|Ah t
abbrev KT(U:Hp):List (List Key×V)->List (List Key×fV×gu)->Prop:=Paired λp q=>p.1=q.1/\U q.2.1=I (.tup<|p.1.map kV)/\RelV p.2 q.2.2
def KT.val{U:Hp}{kvs:List (List Key×V)}{d:List (List Key×fV×gu)}(r:KT U kvs d)(k:List Key):RelO (pO kvs k) ((f8 d k).map (·.2)):=by
 induction r with
 |nil=>exact bA
 | @cons p q i c h t g=>
  obtain⟨h1,_,f⟩:=h;by_cases e:p.1=k
  .have a:q.1=k:=h1.symm.trans e;have b:f8 (q::c) k=I q.2:=by simp[f8,vB,a]
   rw[qq e,b];exact f
  .have a: ¬q.1=k:=λz=>e<|h1.trans z;have b:f8 (q::c) k=f8 c k:=by simp[f8,vB,a]
   rw[nq e,b];exact g
def KT.repl{U:Hp}{a:List (List Key×V)}{d:List (List Key×fV×gu)}(r:KT U a d)(k:List Key){y:V}{u:gu}(i:RelV y u):
  KT U (a.map λb=>if b.1=k then(b.1,y) else b) (d.map<|putAt k u):=by
 induction r with
 |nil=>exact .nil
 | @cons p q j l h t g=>
  rw[iR,iR];refine .cons ?_ g;obtain⟨h1,c,f⟩:=h;unfold putAt;by_cases e:p.1=k
  .rw[gr e,gr<|h1.symm.trans e];exact⟨h1,c,i⟩
  .rw[gD e,gD λz=>e<|h1.trans z];exact⟨h1,c,f⟩
def KT.put{U:Hp}{a:List (List Key×V)}{c:List (List Key×fV×gu)}(r:KT U a c)(k:List Key){b:fV}{y:V}{u:gu}(f:U b=I (.tup<|k.map kV))(d:RelV y u):
  KT U (pQ a k y) (storedH c k b u):=by
 have e:(a.any λg=>decide<|g.1=k)=(f8 c k).isSome:=by rw[Ct,(r.val k).isSome_eq,DO]
 unfold pQ storedH;rw[e];by_cases q:(f8 c k).isSome=Y
 .rw[gr q,gr q];exact r.repl k d
 .rw[gD q,gD q];exact Paired.snoc r ⟨rfl,f,d⟩
def KT.keeps{U c:Hp}{a:List (List Key×V)}{d:List (List Key×fV×gu)}(r:KT U a d)(f: ∀b e,U b=I (.tup e)->c b=I (.tup e)):KT c a d:=
 Paired.mapP r λ_ _ z=>⟨z.1,f _ _ z.2.1,z.2.2⟩
section
variable {P:gM}{w:gB}{H:Hp}{h:gH}{a:fV}
def Pc{u:HO}(ok:HOk P w H h)(e:Rd H a u):ObjOk P w H h a u:=e.ok ok
def Mw{b:List (Key×V)}(ok:HOk P w H h)(e:Rd H a (.dK b)):(Ls b)<=sizeLine/\(a==bx)=J/\ ∃c,KV b c/\h.DictOf (kb P w) a c:=
 show ObjOk P w H h a (.dK b) from Pc ok e
def Mx{b:List (Key×V)}(ok:HOk P w H h)(e:H a=I (.dK b)):(Ls b)<=sizeLine/\(a==bx)=J/\ ∃c,KV b c/\h.DictOf (kb P w) a c:=Mw ok<|.inl e
def wA{c:List Key}(ok:HOk P w H h)(e:H a=I (.tup<|c.map kV)):(df<|kb P w).is h c a:=by
 obtain⟨_,b,r,o,h1,d,n,f⟩:=(show ObjOk P w H h a (.tup<|c.map kV) from ok a _ e)
 exact⟨o,b.toArray,n,h1,d,f,by simpa using Ah r⟩
def Mu{b:List (List Key×V)}(ok:HOk P w H h)(e:Rd H a (.dT b)):(Ls b)<=sizeLine/\(a==bx)=J/\
  ∃d,KT H b d/\h.DictOfH (df<|kb P w) a d:=by
 obtain⟨z,y,d,r,o,i,g,h1,j,k,n,s⟩:=(show ObjOk P w H h a (.dT b) from Pc ok e)
 refine⟨z,y,d,r,o,i,g,h1,j,k,n,λx c=>?_,s⟩
 have all: ∀{l:List (List Key×V)} {m:List (List Key×fV×gu)},KT H l m-> ∀x∈m,(df<|kb P w).is h x.1 x.2.1:=by
  intro l m q
  induction q with
  |nil=>intro x c;exact nomatch c
  | @cons p q v A f t u=>
   intro x c;rcases jF.mp c with e|c
   .subst e;exact wA ok (by rw[<-f.1];exact f.2.1)
   .exact u x c
 exact all r x c
def Mv{b:List (List Key×V)}(ok:HOk P w H h)(e:H a=I (.dT b)):(Ls b)<=sizeLine/\(a==bx)=J/\
  ∃c,KT H b c/\h.DictOfH (df<|kb P w) a c:=Mu ok<|.inl e
end
def DGet(U:Hp)(a:fV)(y:V)(r:Option V):Prop:=
 (∃c k,Rd U a (.dK c)/\y=kV k/\r=pO c k)\/ ∃c k b,Rd U a (.dT c)/\y= .ref b/\U b=I (.tup<|k.map kV)/\r=pO c k
def DPut(U:Hp)(a:fV)(y v:V)(c:Hp):Prop:=
 (∃kvs k,U a=I (.dK kvs)/\y=kV k/\(Ls kvs)<sizeLine/\c=upd U a (.dK<|pQ kvs k v))\/
 ∃kvs k b,U a=I (.dT kvs)/\y= .ref b/\U b=I (.tup<|k.map kV)/\(Ls kvs)<sizeLine/\c=upd U a (.dT<|pQ kvs k v)
def DGet.k{U:Hp}{a:fV}{kvs:List (Key×V)}{k:Key}(e:U a=I (.dK kvs)):DGet U a (kV k) (pO kvs k):= .inl ⟨kvs,k,.inl e,rfl,rfl⟩
def DGet.t{U:Hp}{a b:fV}{kvs:List (List Key×V)}{k:List Key}(e:U a=I (.dT kvs))(c:U b=I (.tup<|k.map kV)):DGet U a (.ref b) (pO kvs k):= .inr ⟨kvs,k,b,.inl e,rfl,c,rfl⟩
def DPut.k{U:Hp}{a:fV}{kvs:List (Key×V)}{k:Key}{v:V}(e:U a=I (.dK kvs))(b:(Ls kvs)<sizeLine):DPut U a (kV k) v (upd U a<|.dK<|pQ kvs k v):= .inl ⟨kvs,k,e,rfl,b,rfl⟩
def DPut.t{U:Hp}{a b:fV}{kvs:List (List Key×V)}{k:List Key}{v:V}(e:U a=I (.dT kvs))(c:U b=I (.tup<|k.map kV))(d:(Ls kvs)<sizeLine):
  DPut U a (.ref b) v (upd U a<|.dT<|pQ kvs k v):= .inr ⟨kvs,k,b,e,rfl,c,d,rfl⟩
section
variable {X:Cx}{d:gU}{f:St}{H:Hp}{s:fY}{a:fV}{y v:V}{u r:gu}{o:Option V}{A:gJ}{E:gX}
def Inv.big(U:Inv X d f H s):bx<s.heap.objs.size:=by have h:aq<s.heap.objs.size:=(U.mod.glob.keeps U.bk).lt;exact Bb (by decide) h
def UJ{Q:gX}(x:A.units+1<bc)(U:Inv X d f H s)(g:DGet H a y o)(n:RelV y u)(h: ∀p,Inv X d f H p->Q (.bool o.isSome) p):
  af (ah X.prog X.w) A (ap .In u<|.ref a) Q E s:=by
 rcases g with⟨m,k,e,j,l⟩|⟨m,k,b,e,j,t,l⟩
 .subst j;obtain⟨z,hd,B,c,i⟩:=Mw U.hok e;refine Fk (Ag n) hd i.mapOf ?_;rw[<-(c.val k).isSome_eq,<-l];exact h _ (U.tok _)
 .subst j;cases(show u=bJ b from n);obtain⟨z,hd,T,c,i⟩:=Mu U.hok e;refine wS (xN x) (wA U.hok t) hd i ?_;have q:=(c.val k).isSome_eq;rw[DO] at q;rw[<-q,<-l];exact h _ (U.tok _)
def G0{Q:gX}(x:A.units+1<bc)(U:Inv X d f H s)(g:DGet H a y o)(n:RelV y u)(h: ∀p,Inv X d f H p->Q (.bool (!o.isSome)) p):
  af (ah X.prog X.w) A (ap .NotIn u<|.ref a) Q E s:=by
 rcases g with⟨m,k,e,j,l⟩|⟨m,k,b,e,j,t,l⟩
 .subst j;obtain⟨z,hd,B,c,i⟩:=Mw U.hok e;refine u5 (Ag n) hd i.mapOf ?_;rw[<-(c.val k).isSome_eq,<-l];exact h _ (U.tok _)
 .subst j;cases(show u=bJ b from n);obtain⟨z,hd,T,c,i⟩:=Mu U.hok e;refine rc (xN x) (wA U.hok t) hd i ?_;have q:=(c.val k).isSome_eq;rw[DO] at q;rw[<-q,<-l];exact h _ (U.tok _)
def vf{h':gH}{t':Nat}{c:HO}(U:Inv X d f H s)(j:Mut (H a))(i:aH a s.heap h')(h: ∃q,h'.get? a=I q)(new:ObjOk X.prog X.w (upd H a c) h' a c):
  Inv X d f (upd H a c) {s with heap:=h',toks:=t'}:=
 U.write (x:=a) (e:=a) j (.inl K3) (λb q g z=>(i.2 b g).trans z) h new
def R0{P:gM}{w:gB}{h:Hp}{g:gH}{b:List (Key×V)}{e:List (Key×gu)}(z:(Ls b)<=sizeLine)(hd:(a==bx)=J)(c:KV b e)(i:g.DictOf (kb P w) a e):
  ObjOk P w h g a (.dK b):=⟨z,hd,e,c,i⟩
def wI{O:Hp}{Q:Unit->fY->Prop}(hu:A.units+1<bc)(I:Inv X d f H s)(g:DPut H a y v O)(N:RelV y u)(M:RelV v r)(h: ∀U,Inv X d f O U->Q () U):
  af (ah X.prog X.w) A (eF (.ref a) u r) Q E s:=by
 rcases g with⟨i,k,e,x,l,t⟩|⟨i,k,b,e,x,T,l,t⟩
 .subst x t;obtain⟨z,hd,V,j,p⟩:=Mx I.hok e;have L:V.length<=sizeLine:=by rw[<-j.length];exact z
  have B:(pQ i k v).length<=sizeLine:=by have:=xf i k v;lia
  refine wpAny_setItem_pairs (hsz:=L) (Ag N) p λJ m C=>h _ ?_;have S: ∃q,J.get? a=I8 q:=let⟨q,_,_,n,_⟩:=m;⟨q,n⟩
  exact vf I (by rw[e];exact bA) C S<|R0 B hd (j.put k M) m
 .subst x t;cases(show u=bJ b from N);obtain⟨z,hd,W,j,p⟩:=Mv I.hok e;have L:W.length<=sizeLine:=by rw[<-tD j];exact z
  have B:(pQ i k v).length<=sizeLine:=by have:=xf i k v;lia
  refine wpAny_setItem_heap (hsz:=L) (xN hu) (wA I.hok T) p λJ m C=>h _ ?_;obtain⟨q,D,Y,n,F,K,P,_,R⟩:=m;refine vf I (by rw[e];exact bA) C ⟨q,n⟩ ⟨B,hd,_,(j.put k T M).keeps λc Z G=>?_,q,D,Y,n,F,K,P,R⟩;rw[gR<|Ph G e (λz=>nomatch z)];exact G
end
def My{P:gM}{w:gB}{U:Hp}(h:gH)(a:bx<h.objs.size):ObjOk P w U (h.push {cls:= .type "dict",data:= .dict #[]}) h.objs.size (.dK []):=
 ⟨kx _,zh.mpr<|pJ<|hX a,[],.nil,Heap.DictOf.new h⟩
def PN:TE:=λ_ U Q=> ∀p,U p=C->Q (.ref p) (upd U p<|.dK [])
section
variable {X:Cx}{b:bB}
def Le:PE X (.Dict [] [] b) PN:=λc s d T Q U h=>wpAny_Dict_empty ⟨.ref s.heap.objs.size,_,U.laid (a:=s.heap.objs.size) (o:= .dK []) (t':=s.toks) (λ_ _ q=>iF _ q) (iD _)<|My s.heap U.big,rfl,h _ (U.hok.fresh<|iD _)⟩
end
end L2
namespace PX
open L2 PySem.SeqAt TS
noncomputable def zr:D->Option Key
 | .int i=>I<|.inl i
 | .str x=>I<|.inr x
 |_=>C
noncomputable def De:List D->Option (List Key)
 |[]=>I []
 |d::l=>(zr d).bind λk=>(De l).map (k:: ·)
noncomputable def BN:D->Option (List Key)
 | .tup l=>De l
 |_=>C
def oS(h:zr d=I k):d=iU k:=by
 cases d<;>simp[zr] at h<;>subst h<;>rfl
def LW: ∀{l:List D} {a:List Key},De l=I a->l=a.map iU:=by
 intro e
 induction e with
 |nil=>intro a h;cases h;rfl
 |cons d l c=>intro a h;rw[De] at h;obtain⟨k,h1,h⟩:=fS h;obtain⟨m,b,rfl⟩:=iq h;rw[oS h1,c b];rfl
def uP(h:BN d=I a):d= .tup (a.map iU):=by
 cases d with
 |tup l=>rw[LW (show De l=I a from h)]
 |_=>cases h
def vd(a b:Key):D.eqb (iU a) (iU b)=decide (a=b):=by
 cases a with
 |inl i=>cases b with
  |inl j=>simp only[iU,D.eqb,LU]
  |inr y=>simp only[iU,D.eqb,LS]
 |inr x=>cases b with
  |inl j=>simp only[iU,D.eqb,LR]
  |inr y=>simp only[iU,D.eqb,LQ];rfl
theorem rG: ∀a b:List Key,D.eqbL (a.map iU) (b.map iU)=decide (a=b)
 |[],[]=>by simp[D.eqbL]
 |[],_::_=>by simp[D.eqbL]
 |_::_,[]=>by simp[D.eqbL]
 |x::a,y::b=>by simp only[iR];rw[D.eqbL,vd,rG a b];simp only[cR,mm]
def lD:List D->List D->D->Option D
 |a::b,v::c,k=>if D.eqb a k=Y then I v else lD b c k
 |_,_,_=>C
def si:List D->List D->D->D->List D
 |b::c,v::a,k,w=>(if D.eqb b k=Y then w else v)::si c a k w
 |_,a,_,_=>a
def rM(a b:List D)(k w:D):List D×List D:=if a.any (D.eqb · k)=Y then(a,si a b k w) else(a++[k],b++[w])
noncomputable def uR(a:List D)(k:D):Bool:=((zr k).isSome&&a.all λx=>(zr x).isSome)||((BN k).isSome&&a.all λx=>(BN x).isSome)
section
variable {K:gy}{H:Hp}{O:AP'}
def CG(h:Rep K H O (iU k) v):v=kV k:=by
 cases k with
 |inl i=>exact Rep.int h
 |inr x=>exact Rep.str h
def Hv: ∀{b:List Key} {a:List V},RepL K H O (b.map iU) a->a=b.map kV:=by
 intro e
 induction e with
 |nil=>intro a h;rw[uw,RepL] at h;exact h
 |cons k b d=>intro a h;rw[iR,RepL] at h;obtain⟨v,r,rfl,h1,c⟩:=h;rw[CG h1,d c];rfl
def qT(hk:zr d=I k)(h:jm K H O d v):v=kV k:=by
 rw[oS hk] at h;rcases h with h|⟨a,rfl,h⟩
 .exact CG h
 .cases k<;>exact h.elim
def qR(hk:BN d=I c)(h:jm K H O d v): ∃b,v= .ref b/\H b=I (.tup<|c.map kV):=by
 rw[uP hk] at h;rcases h with h|⟨a,rfl,h⟩
 .obtain⟨b,e,rfl,q,r⟩:=h.tup;rw[Hv r] at q;exact⟨b,rfl,q.1⟩
 .exact h.elim
theorem LI{k:Key}: ∀{a:List (Key×V)} {b:List D},RepL K H O b (a.map (·.2))->(∀d,lD (a.map λp=>iU p.1) b (iU k)=I d-> ∃v,pO a k=I v/\Rep K H O d v)/\(lD (a.map λp=>iU p.1) b (iU k)=C->pO a k=C)
 |[],b,_=>⟨λd h=>by cases b<;>simp[lD] at h,λ_=>rfl⟩
 |(c,v)::a,[],h=>by rw[iR,RepL] at h;cases h
 |(c,v)::a,m::b,h=>by
  rw[iR,RepL] at h;obtain⟨w,r,e,h1,f⟩:=h;obtain⟨rfl,rfl⟩:=pX e;obtain⟨j,l⟩:=LI (k:=k) f;simp only[iR,lD,vd];by_cases hk:c=k
  .simp only[hk,decide_true,jb];exact⟨λd h=>by cases h;exact⟨v,qq (p:=(k,v)) K3,h1⟩,λh=>by cases h⟩
  .simp only[hk,decide_false,jA,jh];refine⟨λd h=>?_,λh=>?_⟩
   .obtain⟨u,g,i⟩:=j d h;exact⟨u,by rw[nq (p:=(c,v)) hk];exact g,i⟩
   .rw[nq (p:=(c,v)) hk];exact l h
theorem LH{k:List Key}: ∀{a:List (List Key×V)} {b:List D},RepL K H O b (a.map (·.2))->(∀d,lD (a.map λp=> .tup (p.1.map iU)) b (.tup<|k.map iU)=I d-> ∃v,pO a k=I v/\Rep K H O d v)/\(lD (a.map λp=> .tup (p.1.map iU)) b (.tup<|k.map iU)=C->pO a k=C)
 |[],b,_=>⟨λd h=>by cases b<;>simp[lD] at h,λ_=>rfl⟩
 |(c,v)::a,[],h=>by rw[iR,RepL] at h;cases h
 |(c,v)::a,m::b,h=>by
  rw[iR,RepL] at h;obtain⟨w,r,e,h1,f⟩:=h;obtain⟨rfl,rfl⟩:=pX e;obtain⟨j,l⟩:=LH (k:=k) f;simp only[iR,lD,D.eqb,rG];by_cases hk:c=k
  .simp only[hk,decide_true,jb];exact⟨λd h=>by cases h;exact⟨v,qq (p:=(k,v)) K3,h1⟩,λh=>by cases h⟩
  .simp only[hk,decide_false,jA,jh];refine⟨λd h=>?_,λh=>?_⟩
   .obtain⟨u,g,i⟩:=j d h;exact⟨u,by rw[nq (p:=(c,v)) hk];exact g,i⟩
   .rw[nq (p:=(c,v)) hk];exact l h
end
section
variable {P:gM}{w:gB}{H H':Hp}{h:gH}{a:fV}
def Pq(x:ObjOk P w H h a (.dT [])):ObjOk P w H' h a (.dK []):=by
 obtain⟨z,y,k,r,o,b,c,h1,d,f,g,j⟩:=x;cases r
 have:b= #[]:=by
  have:b.toList=[]:=by simpa using g
  exact SH.mp this
 subst this;refine⟨z,y,[],.nil,o,#[],c,h1,d,f,?_,?_,lC⟩
 .first|exact λe i=>by simp at i|(intro;simp)
 .first|exact .nil|trivial|simp[Pairs]
def Pr(x:ObjOk P w H h a (.dK [])):ObjOk P w H' h a (.dT []):=by
 obtain⟨z,y,n,r,o,c,d,h1,f,g,k,b,m⟩:=x;cases r
 have:c= #[]:=by
  have j:(Ls c.toList)=0:=by
   first
    |simpa using (Ls b)
    |simpa using(tD b)
    |(
      cases i:c.toList with
      |nil=>rfl
      |cons e l=>rw[i] at b;cases b)
  exact SH.mp<|M1.mp j
 subst this;exact⟨z,y,[],.nil,o,#[],d,h1,f,g,rfl,lC⟩
end
section
variable {X:Cx}{f:gU}{g:L2.St}{H:Hp}{s:fY}
def Ie{A:gJ}{E:gX}(U:Inv X f g H s){H':Hp}{a:fV}{k:Key}{u:gu}{Q:gX}(x:ObjOk X.prog X.w H' s.heap a (.dK []))(e:RelV (kV k) u)(b:Bool)(h: ∀i,Inv X f g H i->Q (.bool b) i):
  af (ah X.prog X.w) A (ap (if b=Y then .NotIn else .In) u<|.ref a) Q E s:=by
 obtain⟨z,hd,j,c,d⟩:=x;cases c
 cases b with
 |false=>exact Fk (Ag e) hd d.mapOf<|h _ (U.tok _)
 |true=>exact u5 (Ag e) hd d.mapOf<|h _ (U.tok _)
def Ic{A:gJ}{E:gX}(i:A.units+1<bc)(U:Inv X f g H s){H':Hp}{a b:fV}{k:List Key}{Q:gX}(x:ObjOk X.prog X.w H' s.heap a (.dT []))(e:H b=I (.tup<|k.map kV))(c:Bool)(h: ∀j,Inv X f g H j->Q (.bool c) j):
  af (ah X.prog X.w) A (ap (if c=Y then .NotIn else .In) (.ref b)<|.ref a) Q E s:=by
 obtain⟨z,hd,v,r,o,m,l,h1,n,p,q,t⟩:=x;cases r;have d:s.heap.DictOfH (df<|kb X.prog X.w) a []:=⟨o,m,l,h1,n,p,q,(λx (u:x∈[])=>by simp at u),t⟩
 cases c with
 |false=>exact wS (xN i) (wA U.hok e) hd d<|h _ (U.tok _)
 |true=>exact rc (xN i) (wA U.hok e) hd d<|h _ (U.tok _)
def uQ(h:uR d k=Y):(∃e,zr k=I e/\ ∀x∈d,∃c,zr x=I c)\/(∃i,BN k=I i/\ ∀x∈d,∃c,BN x=I c):=by
 unfold uR at h;rw[vF,lL,lL,lO,lO] at h;rcases h with⟨h1,a⟩|⟨h1,a⟩
 .exact .inl ⟨_,(JI.mp h1).choose_spec,λx b=>JI.mp<|a x b⟩
 .exact .inr ⟨_,(JI.mp h1).choose_spec,λx b=>JI.mp<|a x b⟩
def F3{a:List Key}{c:Key}(h:zr (.tup<|a.map iU)=I c):False:=by cases h
def Df(h:BN (iU k)=I c):False:=by cases k<;>cases h
def UG(z:A.units+1<bc)(I:Inv X f g H s)(q:OthB X.K (H a) .dct ks n us)(r:RepL X.K H O n us)(hk:uR ks k=KE)(T:jm X.K H O k y)(o:RelV y u)(l:Bool)
  (h: ∀j,Inv X f g H j->Q (.bool<|xor l (lD ks n k).isSome) j):af (ah X.prog X.w) A (ap (if l=KE then .NotIn else .In) u<|.ref a) Q E s:=by
 have nil: ∀n:List D,lD [] n k=C:=λn=>by cases n<;>rfl
 rcases q with⟨i,e,rfl,rfl⟩|⟨i,e,rfl,rfl⟩
 .rcases uQ hk with⟨B,h1,_⟩|⟨C',h1,M⟩
  .have:=qT h1 T;subst this;have G:=oS h1;subst G;obtain⟨F,P⟩:=LI (k:=B) r
   have Y:(pO i B).isSome=(lD (i.map λp=>iU p.1) n<|iU B).isSome:=by
    cases x:lD (i.map λp=>iU p.1) n (iU B) with
    |none=>rw[P x];rfl
    |some d=>obtain⟨v,N,_⟩:=F d x;rw[N];rfl
   rw[<-Y] at h
   cases l with
   |false=>exact UJ z I (DGet.k e) o λj m=>by simpa using h j m
   |true=>exact G0 z I (DGet.k e) o λj m=>by simpa using h j m
  .have J:i=[]:=by
    cases i with
    |nil=>rfl
    |cons p i=>obtain⟨c,U⟩:=M (iU p.1) (by simp);exact(Df U).elim
   subst J;obtain⟨b,rfl,L⟩:=qR h1 T;cases o;rw[uw,nil] at h;exact Ic z I (Pr (H':=H)<|I.hok a _ e) L l λj m=>by simpa using h j m
 .rcases uQ hk with⟨B,h1,M⟩|⟨C',h1,_⟩
  .have J:i=[]:=by
    cases i with
    |nil=>rfl
    |cons p i=>obtain⟨c,U⟩:=M (.tup<|p.1.map iU) (by simp);exact(F3 U).elim
   subst J;have:=qT h1 T;subst this;rw[uw,nil] at h;exact Ie I (Pq (H':=H)<|I.hok a _ e) o l λj m=>by simpa using h j m
  .obtain⟨b,rfl,L⟩:=qR h1 T;have G:=uP h1;subst G;obtain⟨F,P⟩:=LH (k:=C') r
   have Y:(pO i C').isSome=(lD (i.map λp=> .tup (p.1.map iU)) n<|.tup<|C'.map iU).isSome:=by
    cases x:lD (i.map λp=> .tup (p.1.map iU)) n (.tup<|C'.map iU) with
    |none=>rw[P x];rfl
    |some d=>obtain⟨v,N,_⟩:=F d x;rw[N];rfl
   rw[<-Y] at h
   cases l with
   |false=>exact UJ z I (DGet.t e L) o λj m=>by simpa using h j m
   |true=>exact G0 z I (DGet.t e L) o λj m=>by simpa using h j m
end
section
variable {X:Cx}
noncomputable def Mq:F:=λa=>I ((.oth .dct [] [],Y),a)
def NA{a:bB}:PX X (.Dict [] [] a) Mq:=PX.imp Le λh U Q c=>by obtain⟨g,T,f,d,E,e,k⟩:=c;cases e;intro p b;have B:=Ops.nil E;exact(B.done k) p _ b (kG b) ⟨[],.inl ⟨[],gS,rfl,rfl⟩,RepL.nil⟩
end
section
variable {K:gy}{T:AP'}{d:L2.St}{c:Dn}{H:Hp}{i:Nat}{g d':D}{a:fV}{o:HO}
def OwnI.writeG{j:Nat}{b:fV}(hd:c[i]?=I (I (g,Y)))(h:OwnI d (c.set i<|I (d',Y)) j b):OwnI d c j b:=by
 obtain⟨e,h1,f⟩:=h;rcases kH h1 with⟨rfl,_,_⟩|⟨_,q⟩
 .exact⟨_,hd,f⟩
 .exact⟨e,q,f⟩
def ER.writeG(E:ER K H T d c)(hd:c[i]?=I (I (g,Y)))(p:d[i]?=I (I<|.ref a))(r:OwnOk K (upd H a o) (λb=>OwnA d c b\/T b) d' a):
  ER K (upd H a o) T d (c.set i<|I (d',Y))/\Keep d c H (c.set i<|I (d',Y)) (upd H a o):=by
 have M:i<(Ls c):=(qc.mp hd).1;have s:OwnA d c a:=⟨i,_,hd,p⟩
 have B: ∀b,OwnA d (c.set i<|I (d',Y)) b->OwnA d c b:=λb a'=>by
  obtain⟨j,e,h1,m⟩:=a'
  obtain⟨U,t,v⟩:=OwnI.writeG hd ⟨e,h1,m⟩;exact⟨j,U,t,v⟩
 have A: ∀b u,H b=I u-> ¬(OwnA d c b\/T b)->upd H a o b=I u:=λb u e n=>by rw[gR<|by intro z;subst z;exact n<|.inl s];exact e
 have N: ∀b,H b≠C->upd H a o b≠C:=λb z=>by
  by_cases y:b=a
  .subst y;rw[gS];simp
  .rw[gR y];exact z
 have sub: ∀b,(OwnA d (c.set i<|I (d',Y)) b\/T b)->OwnA d c b\/T b:=λb z=>z.imp (B b) id;refine⟨⟨by rw[ux];exact E.len,λj e h=>?_,λj e h=>?_,λj k e f b h hk h1 m=>?_,λb z=>E.nT b<|B b z,λb z=>by have ne:b≠a:=λe=>E.nT a s<|e▸z;rw[gR ne];exact E.dom b z⟩,⟨λb u e n=>by rw[gR<|by intro z;subst z;exact n s];exact e,λj b z=>OwnI.writeG hd z,N⟩⟩
 .rcases kH h with⟨_,_,q⟩|⟨_,q⟩
  .cases q
  .obtain⟨w,l,x⟩:=E.val j e q;exact⟨w,l,Rep.mono A (λb _ z=>sub b z) x⟩
 .rcases kH h with⟨rfl,_,q⟩|⟨ne,q⟩
  .cases q;exact⟨a,p,r.mono (λ_ _ e _=>e) (λb _ z=>sub b z) λ_ e=>e⟩
  .obtain⟨b,l,x⟩:=E.own j e q;refine⟨b,l,x.mono A (λb _ z=>sub b z) λu Q=>?_⟩;rw[gR]
   .exact Q
   .intro z;subst z;exact ne<|E.inj i j _ _ _ hd q p l
 .obtain⟨L,t,v⟩:=OwnI.writeG hd ⟨e,h,h1⟩;obtain⟨O,G,J⟩:=OwnI.writeG hd ⟨f,hk,m⟩;exact E.inj j k L O b t G v J
end
section
variable {X:Cx}{c:gU}{d:L2.St}{H:Hp}{s:fY}{a:fV}
def Qb(U:Inv X c d H s)(e:H a=I (.dT [])):Inv X c d (upd H a<|.dK []) s:=by have:=vf (t':=s.toks) (h':=s.heap) U (by rw[e];exact bA) (Ba a s.heap) (by obtain⟨z,y,g,r,o,f,b,h1,_⟩:=(show ObjOk X.prog X.w H s.heap a (.dT []) from U.hok a _ e);exact⟨o,h1⟩)<|Pq (H':=upd H a<|.dK [])<|U.hok a _ e;exact this
def Qa(U:Inv X c d H s)(e:H a=I (.dK [])):Inv X c d (upd H a<|.dT []) s:=by have:=vf (t':=s.toks) (h':=s.heap) U (by rw[e];exact bA) (Ba a s.heap) (by obtain⟨z,y,g,r,o,f,b,h1,_⟩:=(show ObjOk X.prog X.w H s.heap a (.dK []) from U.hok a _ e);exact⟨o,h1⟩)<|Pr (H':=upd H a<|.dT [])<|U.hok a _ e;exact this
def TK:OV:=λo i v H Q=> ∃a,o= .ref a/\((∃e,DPut H a i v e/\Q e)\/(∃f,H a=I (.dT [])/\i=kV f/\Q (upd H a<|.dK [(f,v)]))\/
 (∃g b,H a=I (.dK [])/\i= .ref b/\H b=I (.tup<|g.map kV)/\Q (upd H a<|.dT [(g,v)])))
def Ke(j:X.A.units+1<bc):So X TK:=by
 intro c s d H o i v E T u Q U x l m h;obtain⟨a,rfl,h⟩:=h;cases x;rcases h with⟨r,g,q⟩|⟨y,e,rfl,q⟩|⟨B,b,e,rfl,n,q⟩
 .exact wI j U g l m λp f=>⟨r,f,q⟩
 .refine wI j (Qb U e) (DPut.k (k:=y) (v:=v) gS<|by rw[jB];decide) l m λp f=>⟨_,f,?_⟩
  rw[F1];exact q
 .have w:b≠a:=Ph n e (λz=>nomatch z);refine wI j (Qa U e) (DPut.t (k:=B) (v:=v) (b:=b) gS (by rw[gR w];exact n)<|by rw[jB];decide) l m λp f=>⟨_,f,?_⟩
  rw[F1];exact q
end
section
variable {K:gy}{H:Hp}{O:AP'}
theorem Kj{k:Key}{w:D}{v:V}(d:Rep K H O w v): ∀{a:List (Key×V)} {b:List D},RepL K H O b (a.map (·.2))->RepL K H O (si (a.map λp=>iU p.1) b (iU k) w) ((a.map λc=>if c.1=k then(c.1,v) else c).map (·.2))
 |[],b,h=>by cases b<;>simpa[si] using h
 |(f,u)::a,[],h=>by rw[iR,RepL] at h;cases h
 |(f,u)::a,i::b,h=>by
  rw[iR,RepL] at h;obtain⟨x,r,e,h1,g⟩:=h;obtain⟨rfl,rfl⟩:=pX e;simp only[iR,si,vd];refine RepL.cons ?_<|Kj d g;by_cases hk:f=k
  .simp only[hk,decide_true,jb];exact d
  .simp only[hk,decide_false,jA,jh];exact h1
theorem Ki{k:List Key}{w:D}{v:V}(d:Rep K H O w v): ∀{a:List (List Key×V)} {b:List D},RepL K H O b (a.map (·.2))->RepL K H O (si (a.map λp=> .tup (p.1.map iU)) b (.tup<|k.map iU) w) ((a.map λc=>if c.1=k then(c.1,v) else c).map (·.2))
 |[],b,h=>by cases b<;>simpa[si] using h
 |(f,u)::a,[],h=>by rw[iR,RepL] at h;cases h
 |(f,u)::a,i::b,h=>by
  rw[iR,RepL] at h;obtain⟨x,r,e,h1,g⟩:=h;obtain⟨rfl,rfl⟩:=pX e;simp only[iR,si,D.eqb,rG];refine RepL.cons ?_<|Ki d g;by_cases hk:f=k
  .simp only[hk,decide_true,jb];exact d
  .simp only[hk,decide_false,jA,jh];exact h1
def Pe(a:Rep K H O w v)(h:RepL K H O b (kvs.map (·.2))):
  (rM (kvs.map λp=>iU p.1) b (iU k) w).1=(pQ kvs k v).map (λp=>iU p.1)/\RepL K H O (rM (kvs.map λp=>iU p.1) b (iU k) w).2 ((pQ kvs k v).map (·.2)):=by
 have c:(kvs.map λp=>iU p.1).any (D.eqb · (iU k))=kvs.any λd=>decide (d.1=k):=by rw[vM];congr 1;funext p;exact vd _ _
 unfold rM pQ;rw[c];split
 .refine⟨?_,Kj a h⟩;rw[jI];apply qe;intro p _;simp only[bI];split<;>rfl
 .exact⟨by simp,by rw[lB];exact h.append<|RepL.one a⟩
def Pd{k:List Key}{w:D}{v:V}(b:Rep K H O w v){kvs:List (List Key×V)}{a:List D}(h:RepL K H O a (kvs.map (·.2))):
  (rM (kvs.map λp=> .tup (p.1.map iU)) a (.tup<|k.map iU) w).1=(pQ kvs k v).map (λp=> .tup (p.1.map iU))/\RepL K H O (rM (kvs.map λp=> .tup (p.1.map iU)) a (.tup<|k.map iU) w).2 ((pQ kvs k v).map (·.2)):=by
 have c:(kvs.map λp=>D.tup<|p.1.map iU).any (D.eqb · (.tup<|k.map iU))=kvs.any λd=>decide (d.1=k):=by rw[vM];congr 1;funext p;simp only[bI,D.eqb,rG]
 unfold rM pQ;rw[c];split
 .refine⟨?_,Ki b h⟩;rw[jI];apply qe;intro p _;simp only[bI];split<;>rfl
 .exact⟨by simp,by rw[lB];exact h.append<|RepL.one b⟩
end
def wW(i:Nat)(f:F)(g:FO):FS:=λc=>(f c).bind λp=>match p.2[i]? with
 |some (I _)=>(g p.2).bind λq=>match res q.2 q.1,q.2[i]? with
  |some k,I (I (.oth .dct a b,Y))=>if uR a k=Y/\(Ls a)<10000 then I (.nx<|q.2.set i<|I (.oth .dct (rM a b k p.1.1).1 (rM a b k p.1.1).2,Y)) else C
  |_,_=>C
 |_=>C
section
variable {X:Cx}{e d:gm}{f:F}{l:FO}{h g m s:bB}{i:Nat}{x:aO}{A L:iO}{q:Hp}
def KC{Q:bB}(hu:X.A.units+1<bc)(hv:PO X (.Name x g) (fR i))(he:PX X e f)(hi:PO X d l)
  (ha: ∀v,bz (.Subscript (.Name x g) d Q) X.env v=(do
   let ov <-bt [v] (aK (.Name x g) X.env)
   let iv <-bt [v,ov] (aK d X.env)
   cc Q
   bt [v,ov,iv] (eF ov iv v)
   g8 [v,ov,iv] []))
  (hs:ci [.Subscript (.Name x g) d Q] e h.line X.env=pure K2)(hw:cj [.Subscript (.Name x g) d Q] e X.env=pure J4)
  (h1:(av [.Subscript (.Name x g) d Q] X.env).map (·.2)=[bz (.Subscript (.Name x g) d Q) X.env]):
  PSX X A L q (.Assign [.Subscript (.Name x g) d Q] e h) (wW i f l):=PS.imp' (EL he (K9 hv hi (Ke hu) ha) hs hw h1) λD U H hw=>by
 obtain⟨δ,T,out,E,fi,e,k⟩:=hw;obtain⟨⟨r,w⟩,h1,e⟩:=fS e;dsimp only at e;split at e
 case h_2=>cases e
 rename_i y0 h0;obtain⟨⟨o,y⟩,h2,e⟩:=fS e;dsimp only at e;split at e
 .rename_i S V W hk h3;obtain⟨⟨R,C⟩,e⟩:=gP e;cases e;refine⟨δ,T,r,w,E,h1,λv H1 Y=>⟨w,Tmp T r v,.slot i,w,Y.er E,by unfold fR;rw[h0],λv2 H2 P=>⟨w,Tmp T r v,o,y,P.er<|Y.er E,h2,λv3 F P3=>?_⟩⟩⟩;have fK:PostO X.K T U δ H (.val r) w v H1:=Y;have B:=Ops.cons E fK<|Ops.cons (Y.er E) P<|Ops.cons (P.er<|Y.er E) P3<|Ops.nil<|P3.er<|P.er<|Y.er E;have E3:ER X.K F T U y:=B.er.mono (λ_ _ e _=>e) (λb _ z=>B.tt b z) λa z=>B.er.dom a<|B.tt a z;have J:U[i]?=I8 (I8 v2):=P.2.2;obtain⟨a,q1,us,q2,q3⟩:=E3.own i _ h3;rw[J] at q1;cases q1;have vk:=B.view (j:=2) K3 K3 hk;have rv:=B.rep E (j:=0) (r:=r) K3 K3;have oa:OwnA U y a:=⟨i,_,h3,J⟩
  have kp: ∀(I:HO) b u,F b=I8 u-> ¬(OwnA U y b\/T b)->upd F a I b=I8 u:=λI b u e n=>by rw[gR<|by intro z;subst z;exact n<|.inl oa];exact e
  have ks10:10000<sizeLine:=by rw[jB];decide
  have fin: ∀I Z,OthB X.K (I8 I) .dct (rM V W S r.1).1 (rM V W S r.1).2 Z->RepL X.K F (λa=>OwnA U y a\/T a) (rM V W S r.1).2 Z->D.nx U (upd F a I):=λI Z g1 g2=>by obtain⟨E4,K4⟩:=E3.writeG (o:=I) (d':= .oth .dct (rM V W S r.1).1 (rM V W S r.1).2) h3 J ⟨Z,by rw[gS];exact g1,RepL.mono (kp I) (λ_ _ z=>z) g2⟩;exact k _ _ (B.keep.trans K4).sk E4
  refine⟨a,rfl,?_⟩;rcases q2 with⟨kvs,eH,rfl,rfl⟩|⟨kvs,eH,rfl,rfl⟩
  .rw[iJ] at C;rcases uQ R with⟨κ,g1,_⟩|⟨τ,g1,g2⟩
   .have G:=qT g1 vk;have O:=oS g1;subst O;obtain⟨M,N⟩:=Pe (k:=κ) rv q3;refine .inl ⟨_,by rw[G];exact DPut.k eH<|by lia,fin _ _ (.inl ⟨_,rfl,M,rfl⟩) N⟩
   .have bL:kvs=[]:=by
     cases kvs with
     |nil=>rfl
     |cons p kvs=>obtain⟨c,hc⟩:=g2 (iU p.1) (by simp);exact(Df hc).elim
    subst bL;obtain⟨b,G,eb⟩:=qR g1 vk;have O:=uP g1;subst O;obtain⟨M,N⟩:=Pd (k:=τ) (kvs:=[]) rv q3;exact .inr<|.inr ⟨τ,b,eH,G,eb,fin _ _ (.inr ⟨[(τ,v)],rfl,M,rfl⟩) N⟩
  .rw[iJ] at C;rcases uQ R with⟨κ,g1,g2⟩|⟨τ,g1,_⟩
   .have bL:kvs=[]:=by
     cases kvs with
     |nil=>rfl
     |cons p kvs=>obtain⟨c,hc⟩:=g2 (.tup<|p.1.map iU) (by simp);exact(F3 hc).elim
    subst bL;have G:=qT g1 vk;have O:=oS g1;subst O;obtain⟨M,N⟩:=Pe (k:=κ) (kvs:=[]) rv q3;exact .inr<|.inl ⟨κ,eH,G,fin _ _ (.inl ⟨[(κ,v)],rfl,M,rfl⟩) N⟩
   .obtain⟨b,G,eb⟩:=qR g1 vk;have O:=uP g1;subst O;obtain⟨M,N⟩:=Pd (k:=τ) rv q3;refine .inl ⟨_,by rw[G];exact DPut.t eH eb<|by lia,fin _ _ (.inr ⟨_,rfl,M,rfl⟩) N⟩
 .cases e
end
end PX
namespace TT
open PySem.SeqAt
structure DRaw(h:gH)(d:fV)(es:Array cQ)(ep:Nat):Prop where
 at_: ∃o,h.get? d=I8 o/\o.ExactDict/\o.data= .dict es ep
def DRaw.stay{d b a}(x:DRaw h d b a)(k: ∀o,h.get? d=I o->c.get? d=I o):DRaw c d b a:=let⟨o,h1,r⟩:=x.at_;⟨o,k _ h1,r⟩
section
variable {prog:gM}{w:gB}{A:gJ}{E:gX}{s:fY}
def DRaw.typeIs{d b a}(x:DRaw s.heap d b a):s.TypeIs (.ref d) "dict":=let⟨o,h1,r,_⟩:=x.at_;⟨o,h1,r.1⟩
def GL(hd:(d==bx)=J)(c:DRaw s.heap d g f)
  (h:Q (.ref s.heap.objs.size) {s with heap:=s.heap.push {cls:= .type "dict_keyiterator",data:= .fields #[.ref d,.int 0 0,.int g.size 0,.int f 0]}}):af (ah prog w) A (cU<|.ref d) Q E s:=by
 have b:=c.typeIs;obtain⟨o,e,i,a⟩:=c.at_;refine DR b IW<|nc IW b PySem.F.entry_dict_iter ?_<|PySem.F.args_dict_iter_1 _;unfold aQ.«dict.__iter__»;refine fX ?_;unfold Builtin.Dict.dictSlotNone;refine fX<|wpAny_notOrdered_dict b ?_;change af _ _ (pure<|bJ d) _ _ s;refine gn ?_;change af _ _ (Builtin.Dict.showsAll d>>=_) _ _ s;unfold Builtin.Dict.showsAll;rw[gD<|by rw[hd];exact jD];refine fX<|gn ?_;refine fX<|DN e a ?_;refine fX<|DM e a ?_;refine fX<|lK<|gn ⟨_,rfl,"dict_keyiterator",_,⟨_,iQ _ rfl,rfl⟩,zH.lookup,?_⟩;simpa[cu] using h
def yG{b d:fV}{i f:Nat}{c:Array cQ}{e:cQ}{Q:Cn}(a:s.heap.IsKeyIter b d i c.size f)(q:DRaw s.heap d c f)(r:c[i]?=I e)
  (n: ∀g,g.IsKeyIter b d (i+1) c.size f->aH b s.heap g->Q (I e.key) {s with heap:=g}):af (ah prog w) A (ca<|.ref b) Q E s:=by
 obtain⟨o,h,p,hd⟩:=id a;obtain⟨t,j,u,k⟩:=q.at_;unfold ca;refine fX<|uq<|rZ (name:=bh "__next__") a.typeIs zH<|nc zH a.typeIs IV ?_<|IU _;refine fX<|gn ?_;refine fX ?_;refine fX ?_;refine fX<|AG a.typeIs<|gn ?_;refine fX<|u9 h hd ?_;have m:Builtin.Dict_items.ownsTuple "dict_keyiterator"=J:=by decide
 simp only[m,jA,jh];change af _ _ (if(bJ d==am)=Y then _ else _) _ _ s;rw[gD (show ¬((bJ d==am)=Y) from jD)];refine fX<|gn ?_;refine fX<|DN j k ?_;rw[gD<|by simp];refine fX<|gn ?_;refine fX<|DM j k ?_;rw[gD<|by simp];refine gn ?_;simp only[show ¬((i:Int)<0) from by lia,jh,oB,r];refine fX ?_;refine fX<|AG a.typeIs<|gn ?_;refine fX<|IT a.typeIs ?_;change af _ _ (kA (.ref b) 1 (cu<|(i:Int)+1)>>=_) _ _ s;refine fX<|sZ h hd (by simp) ?_
 have l:(s.heap.update b (e6 (·.setIfInBounds 1 (cu<|(i:Int)+1)))).IsKeyIter b d (i+1) c.size f:=
  ⟨_,rY _ h (A6<|rP hd _),(A5 ..).trans p,by rw[rP hd];simp[cu]⟩
 refine fX<|lM ?_;refine fX (IT (s:={s with heap:=s.heap.update b (e6 (·.setIfInBounds 1 (cu<|(i:Int)+1)))}) l.typeIs ?_);change af _ _ (pure e.key) _ _ _;exact gn<|gn ⟨_,rfl,gn<|n _ l (pG ..)⟩
def zq(n:A.handled=C)(c:s.heap.IsKeyIter it d e.size e.size k)(p:DRaw s.heap d e k)
  (l: ∀h,dk it s.heap h->Q C {s with heap:=h}):af (ah prog w) A (ca<|.ref it) Q E s:=by
 obtain⟨o,i,q,hd⟩:=id c;obtain⟨r,f,t,g⟩:=p.at_;unfold ca;refine fX<|uq<|rZ (name:=bh "__next__") c.typeIs zH<|nc zH c.typeIs IV ?_<|IU _;refine fX<|gn ?_;refine fX ?_;refine fX ?_;refine fX<|AG c.typeIs<|gn ?_;refine fX<|u9 i hd ?_;have j:Builtin.Dict_items.ownsTuple "dict_keyiterator"=J:=by decide
 simp only[j,jA,jh];change af _ _ (if(bJ d==am)=Y then _ else _) _ _ s;rw[gD (show ¬((bJ d==am)=Y) from jD)];refine fX<|gn ?_;refine fX<|DN f g ?_;rw[gD<|by simp];refine fX<|gn ?_;refine fX<|DM f g ?_;rw[gD<|by simp];refine gn ?_;simp only[show ¬((e.size:Int)<0) from by lia,jh,oB,AL<|iD e.size];refine fX ?_;refine fX<|AG c.typeIs<|gn ?_;change af _ _ (kA (.ref it) 0 .none>>=_) _ _ s;refine fX<|sZ i hd (by simp) ?_;change af _ _ (hF (.type "StopIteration") []>>=_) _ _ _;refine fX ?_;simp -iota only[hF,kS];refine fX<|lK ?_ (by size_fits);refine fX (m:=cv _ _)<|tj (a:=am) (by first|rfl|(simp -iota only[cv];rfl)) ?_;refine lK ?_ (by size_fits);simp -iota only[vr];refine fX<|Ea ?_;rw[show A.in1.handled=C from n];refine fX<|gn<|D9 ?_;refine fX<|vJ (T:="StopIteration") (b:=Y) ⟨_,iQ _ rfl,rfl⟩ AY ?_;exact gn<|l _ (((pG ..).extBut.push _).push _)
def DJ(m:A.handled=C)(U d:fV)(p:U≠d)(a:Array cQ)(j:Nat):Walks prog w A U [U,d] [U] a.size (λi v=> ∃e,a[i]?=I e/\v=e.key) (λi h=>h.IsKeyIter U d i a.size j/\DRaw h d a j) where
 sub:=λb c=>by simp at c;simp[c]
 frame:=λ_ _ _ st hk=>⟨st.1.at λo e=>hk U (by simp) o e,st.2.stay λo e=>hk d (by simp) o e⟩
 item:=λi s Q E n st f=>by have k:a[i]?=I a[i]:=pW n;refine yG st.1 st.2 k λg q l=>?_;exact f _ g s.toks ⟨_,k,rfl⟩ ⟨q,st.2.stay λo e=>l.extBut d o (λh=>p h.symm) e⟩ λb o c e=>l.extBut b o (λh=>c<|by simp[h]) e
 done:=λs Q E st f=>zq m st.1 st.2 λg r=>f g s.toks λb o c e=>r b o (λh=>c<|by simp[h]) e
 self:=λ_ _ _ _ st f=>wpAny_pyIter_keyiter st.1 f
def MB(hd:(a==bx)=K2)(hh:A.handled=J4)(S:DRaw s.heap a d n)(hn:d.size<=sizeLine) 
  (hQ: ∀i tk,(∀b o,s.heap.get? b=I8 o->i.get? b=I8 o)->Q (d.toList.map (·.key)) {s with heap:=i,toks:=tk}):af (ah prog w) A (eJ<|.ref a) Q E s:=by
 have u:a<s.heap.objs.size:=let⟨_,h1,_⟩:=S.at_;iM h1;have t:a≠s.heap.objs.size:=hX u;have J:a≠s.heap.objs.size+1:=hX<|rT u;have v:s.heap.objs.size≠s.heap.objs.size+1:=hX<|uu _;unfold eJ;refine fX<|A7<|pH Jd ?_;rw[rQ Jc _];show af _ A.in1 (hD []>>=λl=>again<|.builtin "list.__iadd__" ⟨[l,.ref a],[]⟩) _ _ s;refine fX<|lK ?_;refine gn ⟨qi AI _,pH Jb ?_⟩;rw[rQ AI _];show af _ A.in1 (bH (.ref s.heap.objs.size) (.ref a)<|.ref s.heap.objs.size) _ _ _;generalize x:({cls:= .type "list",data:= .seq ([]:List gu).toArray}:en)=f;have p:DRaw (s.heap.push f) a d n:=S.stay λo e=>iF _ e;unfold bH;refine fX<|ql (T:="dict") (s:={s with heap:=s.heap.push f}) p.typeIs ?_;have h1:bR (.ref s.heap.objs.size) (.ref a)=K2:=by simp only[bR,zh];exact t.symm
 have c:(bm "dict"==bm "list")=K2:=by decide
 have Z:(bm "dict"==bm "tuple")=K2:=by decide
 simp -iota only[h1,c,Z,eY,jA,jh];refine fX<|GL (s:={s with heap:=s.heap.push f}) hd p ?_;obtain⟨c,q⟩: ∃c,c=(s.heap.push f).push {cls:= .type "dict_keyiterator",data:= .fields #[.ref a,.int 0 0,.int d.size 0,.int n 0]}:=⟨_,rfl⟩
 have H:c.IsKeyIter (s.heap.push f).objs.size a 0 d.size n:=by rw[q];exact⟨_,iQ _ rfl,rfl,rfl⟩
 have r: ∀b o,(s.heap.push f).get? b=I8 o->c.get? b=I8 o:=λb o e=>by rw[q];exact iF _ e
 rw[<-q];have C:(s.heap.push f).objs.size=s.heap.objs.size+1:=oA _ _;have h:DRaw c a d n:=p.stay λo e=>r _ _ e;refine fX<|lM ?_;unfold dO;refine fX<|sB (T:="dict") (s:={s with heap:=c}) h.typeIs PySem.F.slot_dict_len.lookup ?_;generalize y:("dict.__len__":String)=id0;dsimp only;rw[show splitId id0=I8 ("dict","__len__") from by subst y;decide+kernel];dsimp only;refine fX<|vJ (T:="dict") (s:={s with heap:=c}) (b:=KE) h.typeIs (by rw[AK];kernel_rfl) ?_;simp -iota only[vC,jA,jh];change af _ _ (if _=KE then _ else _) _ _ _;rw[gr<|by subst y;decide+kernel];refine fX<|ql (T:="dict") (s:={s with heap:=c}) h.typeIs ?_;dsimp only;refine gn ?_;change af _ _ (if _=KE then _ else _) _ _ _;rw[gr<|by decide+kernel];refine fX<|rV ?_;have B:c.get? s.heap.objs.size=I8 f:=r _ _ (iQ _ (by subst x;rfl));subst x;refine fX ?_;show af _ A.in1 (fL s.heap.objs.size (·.push .none)>>=λ_=>fL s.heap.objs.size (·.pop)) _ _ _;refine fX<|AH (s:={s with heap:=c}) B K3 ?_;have z:=rY (ay (·.push am)) B K3;refine AH z K3 ?_;have R:=rY (ay (·.pop)) z K3
 have oth: ∀b o,b≠s.heap.objs.size->c.get? b=I8 o->((c.update s.heap.objs.size (ay (·.push am))).update s.heap.objs.size (ay (·.pop))).get? b=I8 o:=
  λb o g e=>(vR _ _ (pJ g)).trans<|(vR _ _ (pJ g)).trans e
 have W:=(DJ (prog:=prog) (w:=w) (A:=A.in1) (by show A.handled=J4;exact hh) (s.heap.objs.size+1) a J.symm d n).toS;rw[C] at H;refine gn ⟨qi Ja _,?_⟩;rw[C];refine I9 W hn s.heap.objs.size (by simp -iota only[jF,kD,lF,nR];exact⟨v,t.symm⟩) _ d.size 0 _ _ _ rfl (kx _) ?_ R (ItemsOf.nil _) λL m c' k G l5=>?_
 .refine⟨?_,h.stay λo e=>oth a o t e⟩;obtain⟨o,g1,g2⟩:=H;exact⟨o,oth _ o v.symm g1,g2⟩
 show af _ A (load s.heap.objs.size>>=_) _ _ L;refine fX<|vU G ?_;obtain⟨i,V,Y,U,N⟩:=L;have K:V=s.gens:=k.gens;have D:Y=s.drawn:=k.drawn;have P:N=s.os:=k.os;subst K;subst D;subst P
 have M:m.toList=d.toList.map (·.key):=by
  obtain⟨a1,O⟩:=l5;apply Ee
  .rw[iJ,jc,jc,a1]
  .intro j g1 g2;have X:m[j]?=I8 m.toList[j]:=by rw[<-kE];exact gY g1
   obtain⟨e,I,hv⟩:=O j _ X;rw[hv];rw[iJ,jc] at g2;rw[cY];rw[<-kE,gY<|by rw[jc];exact g2] at I;cases I;rfl
 refine gn ?_;show Q m.toList _;rw[M];refine hQ i U λb o e=>?_;have g:=iM e;exact k.heap b o (by simp -iota only[jF,kD,lF,nR];exact⟨hX g,hX<|rT g⟩)<|oth b o (hX g)<|r _ _ (iF _ e)
end
end TT
namespace PX
open L2 PySem.SeqAt TS
section
variable {X:Cx}
def zJ{P:gM}{w:gB}{e:List cQ}{f:List (Key×gu)}{a:List (Key×V)}(h:Pairs (kb P w) e f)(q:KV a f):Vals (a.map λp=>kV p.1) (e.map (·.key)):=by
 induction h generalizing a with
 |nil=>cases q;exact .nil
 |cons h1 j t g=>
  obtain _|⟨r,q⟩:=q;refine .cons ?_<|g q;dsimp only;rw[r.1];rcases jG (show yI _ _=Y from h1) with⟨i,d,b,c⟩|⟨x,d,b,c⟩
  .rw[b,c];exact⟨d,rfl⟩
  .rw[b,c];exact⟨d,rfl⟩
theorem wk{K:gy}{U:Hp}{O:AP'}: ∀(a:List (Key×V)),RepL K U O (a.map λp=>iU p.1)<|a.map λp=>kV p.1
 |[]=>RepL.nil
 |(k,v)::a=>by
  refine RepL.cons ?_<|wk a
  cases k with
  |inl i=>exact Rep.mkInt
  |inr x=>exact Rep.mkStr
def Nz(a:Gl X x)(b:X.mg x=I (.int i t))(hd:(x==("__debug__":aO))=J):PX X (.Name x pos) (fC<|.int i):=PX.imp (Gj (v:= .int i) a b ⟨t,rfl⟩ hd) λf U Q h=>by obtain⟨d,T,r,c,E,e,k⟩:=h;cases e;exact k _ _ (Post.val .refl E Rep.mkInt)
def Ny(a:Gl X x)(b:X.mg x=I (.str i t))(hd:(x==("__debug__":aO))=J):PX X (.Name x pos) (fC<|.str i):=PX.imp (Gj (v:= .str i) a b ⟨t,rfl⟩ hd) λf U Q h=>by obtain⟨d,T,r,c,E,e,k⟩:=h;cases e;exact k _ _ (Post.val .refl E Rep.mkStr)
noncomputable def EF:FS:=λ_=>C
def HC{A L:iO}{b:Hp}{st:cb}:PSX X A L b st EF:=λa s g Q D U h=>by obtain⟨f,T,c,E,d,e,k⟩:=h;cases e
end
section
variable {X:Cx}{e:gm}{f:F}{b d a c:bB}{i:Nat}{x:aO}
end
structure PXs(X:Cx)(es:jg)(fs:List F):Prop where
 pa:PA X es (tA X.K<|fs.map fQ)
section
variable {X:Cx}{e:gm}{a:jg}{f:F}{fs:List F}{b:bB}
def Nq:PXs X [] []:=⟨uF⟩
def Ks(h:PX X e f)(c:PXs X a fs)(d:aa (e::a) X.env=(J,aK e X.env)::aa a X.env):PXs X (e::a) (f::fs):=⟨oM (PX.po h) c.pa d⟩
def Nx(h:PXs X a fs):PX X (.List a b) (jL fs):=Qv h.pa
def Nu{x1}(h:PXs X a fs):PX X (.Tuple a x1 b) (iP fs):=Ql h.pa
def KY{c:FT}(h:PTX X e c):PIf X [e] (tT X.K c):=NW h
def QE{c:FT}(h:PWX X e c):PTX X e c:=PW.pt h
end
structure QX(X:Cx)(e:gm)(f:F):Prop where
 h:PX X e f
structure QO(X:Cx)(e:gm)(f:FO):Prop where
 h:PX.PO X e f
structure QA(X:Cx)(es:jg)(fs:List FO):Prop where
 h:PA X es (tA X.K fs)
structure QL(X:Cx)(es:jg)(fs:List F):Prop where
 h:PXs X es fs
structure QT(X:Cx)(e:gm)(f:FT):Prop where
 h:PTX X e f
structure QW(X:Cx)(e:gm)(f:FT):Prop where
 h:PWX X e f
structure QG(X:Cx)(A:iO)(e:gm)(t:Tg):Prop where
 h:PGX X A e t
structure QI(X:Cx)(B:SB)(tg e:gm)(f:FIt):Prop where
 h:PIX X B tg e f
structure QF(X:Cx)(es:jg)(f:FT):Prop where
 h:PIf X es (tT X.K f)
structure QB(X:Cx)(A:iO)(d:fV)(e:gm)(n:Nat)(f:FB):Prop where
 h:PB X (hW e n (.ref d) X.env) (tBx K2 X.K A d f)
structure QS(X:Cx)(A L:iO)(H0:Hp)(st:cb)(f:FS):Prop where
 h:PSX X A L H0 st f
structure QQ(X:Cx)(A L:iO)(H0:Hp)(st:List cb)(f:FS):Prop where
 h:Cj X A L H0 st f
structure QC(X:Cx)(v:gu)(g:List D->Option (D×Bool)):Prop where
 h:jw X v (rDn X.K g)
structure QP(X:Cx)(o:wU)(g:D->D->Option (D×Bool)):Prop where
 h:OpR X o (rD X.K g)
abbrev SE(X:Cx)(e:gm)(a:jg):Prop:=aa (e::a) X.env=(J,aK e X.env)::aa a X.env
abbrev BA(X:Cx)(p:bB)(a:jg):Prop:=(aJ p<|aa a X.env).any (·.1)=J
abbrev DB(x:aO):Prop:=(x==("__debug__":aO))=J
abbrev un(A:gJ)(n:Nat):Prop:=A.units+n<bc
structure ZZ where
 P:gM
 w:gB
 K:gy
 mg:aO->Option gu
 base:gH
def Oz(Z:ZZ)(k:Nat)(x:aO)(b:hU)(c:EvF):Prop:= ∃f a,FnOk Z.P Z.w Z.K Z.mg Z.base CX0 k f a b (spF Z.K c)/\Z.mg x=I (.ref f)/\ce Z.K (.ref f)=Y/\Binds Z.K a b []
def Oz.up{Z:ZZ}{k j:Nat}{x:aO}{d:hU}{c:EvF}(o:Oz Z k x d c)(h:k<=j:=by decide):Oz Z j x d c:=let⟨f,e,a,b⟩:=o;⟨f,e,a.mono h,b⟩
noncomputable abbrev zX(X:Cx):ZZ:=⟨X.prog,X.w,X.K,X.mg,X.base⟩
noncomputable def btT:List (aO×gu):=[("len",.builtin "len"),("abs",.builtin "abs"),("int",.type "int"),("tuple",.type "tuple"),("list",.type "list"),("bool",.type "bool"),("max",.builtin "max"),("min",.builtin "min"),("all",.builtin "all"),("any",.builtin "any"),("sorted",.builtin "sorted"),("set",.type "set")]
def btA{c:lE}(T:Tx c): ∀p∈btT,c p.1=C/\aE p.1=I p.2:=by
 have h: ∀p∈btT,aE p.1=I p.2:=by decide+kernel
 intro p b;refine⟨?_,h p b⟩;have a:p∈btT:=b;unfold btT at a;simp only[jF,kD,lF] at a;rcases a with rfl|rfl|rfl|rfl|rfl|rfl|rfl|rfl|rfl|rfl|rfl|rfl
 .exact T.n_len
 .exact T.n_abs
 .exact T.n_int
 .exact T.n_tuple
 .exact T.n_list
 .exact T.n_bool
 .exact T.n_max
 .exact T.n_min
 .exact T.n_all
 .exact T.n_any
 .exact T.n_sorted
 .exact T.n_set
theorem E9{z:aO}{v:gu}: ∀{l:List (aO×gu)},l.lookup z=I v->(z,v)∈l
 |[],h=>by cases h
 |(y,u)::l,h=>by
  rw[nS] at h;split at h
  .rename_i q;cases h;rw[qa q];exact .head _
  .exact .tail _ (E9 h)
def btM{a:lE}{z:aO}{v:gu}(T:Tx a)(h:btT.lookup z=I v):a z=C:=(btA T _ (E9 h)).1
def btN{z:aO}{v:gu}(h:btT.lookup z=I v):aE z=I v:=(show ∀p∈btT,aE p.1=I p.2 from by decide+kernel) _ (E9 h)
section
variable {X:Cx}{x z:aO}{e a b c st lo H:gm}{m:jg}{q s Y fo fl fh:FO}{f g:F}{y U:FT}{p Q p3 l r I:bB}{A L:iO}{B:SB}{E:Hp}{fs:List FO}{M:List F}{i j k:Nat}{J:gm}{S:cb}{G Ts:List cb}{u v:FS}
def xV(h1:X.N[i]?=I8 x:=by rfl)(d:Vis X.env.scope x:=by first|exact bj rfl|exact bv (bj K3)|exact bv<|bv K3)(h:DB x:=by decide)(n:(x==("__classdict__":aO))=K2:=by decide):QO X (.Name x l) (fR i):=⟨Q0 h1 d h n⟩
def xW(h1:X.N[i]?=I8 x:=by rfl)(d:Vis X.env.scope x:=by first|exact bj rfl|exact bv (bj K3)|exact bv<|bv K3)(h:DB x:=by decide)(n:(x==("__classdict__":aO))=K2:=by decide):QX X (.Name x l) (gF i):=⟨Qk h1 d h n⟩
def xO(h:QX X e f):QO X e (fQ f):=⟨PX.po h.h⟩
def x1{j}:QX X (.Constant .none j l) (fC .non):=⟨Qt⟩
def x2{i j}:QX X (.Constant (.bool i) j l) (fC<|.bl i):=⟨TU⟩
def x3{i j}:QX X (.Constant (.int i) j l) (fC<|.int i):=⟨Qx⟩
def x4{i j}:QX X (.Constant (.str i) j l) (fC<|.str i):=⟨Qm⟩
def x5{i:Int}(h: ∃t,X.mg x=I8 (.int i t))(g:Gl X x:=by rfl)(d:DB x:=by decide):QX X (.Name x l) (fC<|.int i):=let⟨_,h⟩:=h;⟨Nz g h d⟩
def x6{i:aO}(h: ∃t,X.mg x=I8 (.str i t))(g:Gl X x:=by rfl)(d:DB x:=by decide):QX X (.Name x l) (fC<|.str i):=let⟨_,h⟩:=h;⟨Ny g h d⟩
def x7:QX X (.Dict [] [] l) Mq:=⟨NA⟩
def ju{d:Operator}{g:D->D->Option (D×Bool)}(o:QP X (aP d) g)(n:QO X a q)(t:QO X b s):QX X (.BinOp a d b l) (fU g q s):=⟨Qz o.h n.h t.h⟩
def rK(d:QO X a q):QX X (.UnaryOp .USub a l) (iN jW q):=⟨Qu d.h⟩
def SQ(d:QX X a f):QX X (.UnaryOp .Not a l) (Mp f):=⟨Qs d.h⟩
def nP{d:cd}{g:D->D->Option (D×Bool)}(o:QP X (ap d) g)(n:QO X a q)(t:QO X b s)(w:b7 d b=K2:=by first|exact Lx _|with_unfolding_all rfl):QX X (.Compare a [d] [b] l) (fU g q s):=⟨Qy o.h n.h t.h w⟩
def tCmp{d:cd}{g:D->D->Option (D×Bool)}(o:QP X (ap d) g)(n:QO X a q)(t:QO X b s)(w:b7 d b=K2:=by first|exact Lx _|with_unfolding_all rfl):QT X (.Compare a [d] [b] l) (fT<|fU g q s):=⟨NL o.h n.h t.h w⟩
def xCh{n d:cd}(o:QO X a q)(t:QO X b s)(w:QO X c Y)(O:oT n:=by first|exact .inl rfl|exact .inr (.inl K3)|exact .inr (.inr<|.inl K3)|exact .inr<|.inr<|.inr K3)(T:oT d:=by first|exact .inl rfl|exact .inr (.inl K3)|exact .inr (.inr<|.inl K3)|exact .inr<|.inr<|.inr K3)(N:d0 [n,d] [b,c]=K2:=by with_unfolding_all rfl):QX X (.Compare a [n,d] [b,c] l) (js n d q s Y):=⟨Kv O T o.h t.h w.h N⟩
def tCh{n d:cd}(o:QO X a q)(t:QO X b s)(w:QO X c Y)(O:oT n:=by first|exact .inl rfl|exact .inr (.inl K3)|exact .inr (.inr<|.inl K3)|exact .inr<|.inr<|.inr K3)(T:oT d:=by first|exact .inl rfl|exact .inr (.inl K3)|exact .inr (.inr<|.inl K3)|exact .inr<|.inr<|.inr K3)(N:d0 [n,d] [b,c]=K2:=by with_unfolding_all rfl):QT X (.Compare a [n,d] [b,c] l) (fT<|js n d q s Y):=⟨HA O T o.h t.h w.h N⟩
def xBo{op}(d:QX X a f):QX X (.BoolOp op [a] l) f:=⟨ND d.h⟩
def vW(d:QX X a f)(n:QX X (.BoolOp .And (b::m) l) g):QX X (.BoolOp .And (a::b::m) l) (oy f g):=⟨QD d.h n.h⟩
def xOr(d:QX X a f)(n:QX X (.BoolOp .Or (b::m) l) g):QX X (.BoolOp .Or (a::b::m) l) (fOr f g):=⟨TN d.h n.h⟩
def Na(d:QT X a y)(n:QW X (.BoolOp .And (b::m) l) U):QW X (.BoolOp .And (a::b::m) l) (mx y U):=⟨NH d.h n.h⟩
def wOr(d:QT X a y)(n:QW X (.BoolOp .Or (b::m) l) U):QW X (.BoolOp .Or (a::b::m) l) (ly y U):=⟨QH d.h n.h⟩
def JP(d:QT X a y):QW X (.BoolOp .And [a] l) y:=⟨Kw d.h⟩
def zi(d:QT X a y):QW X (.BoolOp .Or [a] l) y:=⟨NG d.h⟩
def tW{op}(h:QW X (.BoolOp op m l) y):QT X (.BoolOp op m l) y:=⟨QE h.h⟩
def tNot(d:QT X a y):QT X (.UnaryOp .Not a l) (hJ y):=⟨NK d.h⟩
def ml(h:QX X e f)(n: ∀d,isTrue e X.env d=(do let v <-d;cc e.pos;bt [v] (truthy v)):=by intro _;rfl):QT X e (fT f):=⟨NJ h.h n⟩
def xIf(o:QT X c y)(d:QX X a f)(n:QX X b g):QX X (.IfExp c a b l) (fIf y f g):=⟨TR o.h d.h n.h⟩
def xIx(d:QO X a q)(n:QO X b s)(o:Ci b:=by exact λ_ _=>rfl):QX X (.Subscript a b l) (fU gIx q s):=⟨TQ d.h n.h o⟩
def M5(d:QO X a q)(n:QO X lo fl):QX X (.Subscript a (.Slice (I8 lo) C C Q) l) (mv q fl):=⟨Nv d.h n.h⟩
def Py(d:QO X a q)(n:QO X H fh):QX X (.Subscript a (.Slice C (I8 H) C Q) l) (nH q fh):=⟨Nw d.h n.h⟩
def xL0:QL X [] []:=⟨Nq⟩
def xL(d:QX X e f)(n:QL X m M)(o:SE X e m:=by rfl):QL X (e::m) (f::M):=⟨Ks d.h n.h o⟩
def xA0:QA X [] []:=⟨uF⟩
def xA(d:QO X e q)(n:QA X m fs)(o:SE X e m:=by rfl):QA X (e::m) (q::fs):=⟨oM d.h n.h o⟩
def lP{k}(h:QL X m M):QX X (.Tuple m k l) (iP M):=⟨Nu h.h⟩
def mS(h:QL X m M):QX X (.List m l) (jL M):=⟨Nx h.h⟩
def xB{id:String}{g:List D->Option (D×Bool)}(T:Tx X.mg)(hv:btT.lookup z=I8 (.builtin id))(n:QC X (.builtin id) g)(d:QA X (e::m) fs)(t:Gl X z:=by rfl)(w:z≠"__name__":=by decide)(O:DB z:=by decide)(o:SE X e m:=by rfl)(N:BA X l m:=by rfl):QX X (.Call (.Name z p) (e::m) [] l) (gf g fs):=⟨NF n.h t (btM T hv) (btN hv) d.h w O o N⟩
def xT{id:String}{g:List D->Option (D×Bool)}(T:Tx X.mg)(hv:btT.lookup z=I8 (.type id))(n:QC X (.type id) g)(d:QA X (e::m) fs)(t:Gl X z:=by rfl)(w:z≠"__name__":=by decide)(O:DB z:=by decide)(o:SE X e m:=by rfl)(N:BA X l m:=by rfl):QX X (.Call (.Name z p) (e::m) [] l) (gf g fs):=⟨Nt n.h t (btM T hv) (btN hv) d.h w O o N⟩
def xI{t:Ty}(T:Tx X.mg)(d:btT.lookup z=I8 (.type t.n))(w:QO X e q)(C:Gl X "isinstance":=by rfl)(o:Gl X z:=by rfl)(O:z≠"__name__":=by decide)(l3:DB z:=by decide)
  (s1:SE X e [.Name z Q]:=by rfl)(s2:SE X (.Name z Q) []:=by rfl)(N:BA X l [.Name z Q]:=by rfl):
  QX X (.Call (.Name "isinstance" p) [e,.Name z Q] [] l) (iN (qI [t]) q):=⟨Qw w.h C T.n_isinstance o (btM T d) (btN d) O l3 zD s1 s2 N⟩
def xU{k:Nat}{ps:hU}{d:EvF}(O:Oz (zX X) k x ps d)(T:Room k X.A)(o:QA X (e::m) fs)(w:Gl X x:=by rfl)(l3:DB x:=by decide)
  (t:SE X e m:=by rfl)(N:BA X l m:=by rfl):QX X (.Call (.Name x p) (e::m) [] l) (gb d fs):=
 let⟨_,_,ok,C',D,n⟩:=O;⟨Nr ok T w C' D n o.h l3 t N⟩
def SN{T:String}{mk:List D->D}{o:Bool}(d:Tx X.mg)(hv:btT.lookup z=I8 (.type T))(C:QA X [a,b] [q,s])(w:(T="list"/\mk= .lst/\o=KE)\/(T="tuple"/\mk= .tup/\o=K2):=by first|exact .inl ⟨rfl,rfl,rfl⟩|exact .inr ⟨rfl,rfl,rfl⟩)(O:X.calm=KE:=by rfl)(N:Gl X z:=by rfl)(hn:z≠"__name__":=by decide)(l3:DB z:=by decide)(t:Gl X "range":=by rfl)
  (s1:SE X (.Call (.Name "range" Q) [a,b] [] p3) []:=by rfl)(s2:SE X a [b]:=by rfl)
  (j4:BA X l []:=by rfl)(n:BA X p3 [b]:=by rfl):
  QX X (.Call (.Name z p) [.Call (.Name "range" Q) [a,b] [] p3] [] l) (gf (gRg mk o) [q,s]):=⟨Qo w O N (btM d hv) (btN hv) hn l3 t d.n_range C.h s1 s2 j4 n⟩
def Eu(hv:QO X (.Name x r) (fR i))(n:QX X e f)(w:b8 (.Name x r) "append" X.env (aK (.Name x r) X.env)=aK (.Name x r) X.env:=by rfl)
  (T:((aJ l<|aa [e] X.env).all (λx=>!x.1)&&(cw l<|bG [] X.env).all (λx=>x.1.isSome)&&decide ([e].length+([]:List cM).length+(if([]:List cM).isEmpty then 0 else 1)<30))=KE:=by rfl)
  (t:(I.endLine==l.line)=KE:=by rfl)(o:SE X e []:=by rfl)(d:BA X l []:=by rfl):QX X (.Call (.Attribute (.Name x r) "append" I) [e] [] l) (jo i f):=⟨Hz hv.h n.h w T t o d⟩
def U9(hv:QO X (.Name x r) (fR i))(n:QO X e fo)(w:b8 (.Name x r) "pop" X.env (aK (.Name x r) X.env)=aK (.Name x r) X.env:=by rfl)
  (T:((aJ l<|aa [e] X.env).all (λx=>!x.1)&&(cw l<|bG [] X.env).all (λx=>x.1.isSome)&&decide ([e].length+([]:List cM).length+(if([]:List cM).isEmpty then 0 else 1)<30))=KE:=by rfl)
  (t:(I.endLine==l.line)=KE:=by rfl)(o:SE X e []:=by rfl)(d:BA X l []:=by rfl):QX X (.Call (.Attribute (.Name x r) "pop" I) [e] [] l) (ud i fo):=⟨Ku hv.h n.h w T t o d⟩
def iR1(T:Tx X.mg)(d:QA X [a] [q])(n:Gl X "range":=by rfl)(o:aa [a] X.env=[(K2,aK a X.env)]:=by rfl):QI X B J (.Call (.Name "range" p) [a] [] l) (uT q):=⟨ES n T.n_range d.h o⟩
def iR2(T:Tx X.mg)(d:QA X [a,b] [q,s])(n:Gl X "range":=by rfl)(o:aa [a,b] X.env=[(K2,aK a X.env),(K2,aK b X.env)]:=by rfl)(t:aa [b] X.env=[(K2,aK b X.env)]:=by rfl):QI X B J (.Call (.Name "range" p) [a,b] [] l) (zt q s):=⟨EO n T.n_range d.h o t⟩
def iZ{d:jg}{O:Nat}{N:bB}(T:Tx X.mg)(n:QX X a f)(o:QX X b g)(t:Gl X "zip":=by rfl)(w:SE X a [b]:=by rfl)(x8:SE X b []:=by rfl)(C:BA X l [b]:=by rfl):
  QI X B (.Tuple d O N) (.Call (.Name "zip" p) [a,b] [] l) (qG f g):=⟨NU t T.n_zip n.h o.h w x8 C⟩
def iE{d:jg}{w:Nat}{O:bB}(T:Tx X.mg)(n:QX X a f)(o:Gl X "enumerate":=by rfl)(t:aa [a] X.env=[(K2,aK a X.env)]:=by rfl)(s0:SE X a []:=by rfl):QI X B (.Tuple d w O) (.Call (.Name "enumerate" p) [a] [] l) (lT 0 f):=⟨HJ o T.n_enumerate n.h t s0⟩
def iS(h:QX X e f):QI X B J e (gw f):=⟨NV h.h⟩
def gN(d:X.N.Nodup)(H:X.N[i]?=I8 x:=by rfl)(o:Loc X.env.scope x:=by first|exact bj rfl|exact bv K3)(n:X.fn x=KE\/X.env.scope.names.lookup x=I8 .local:=by first|exact bj rfl|exact bv K3)(h:A i:=by decide):QG X A (.Name x l) (fW i):=⟨K7 d H o n h⟩
def gT{d n:Tg}{k:Nat}(h1:QG X A a d)(o:QG X A b n)(t:X.calm=KE:=by rfl)(O:(av [a,b] X.env).map (·.2)=bz a X.env::(av [b] X.env).map (·.2):=by rfl)(T:(av [b] X.env).map (·.2)=bz b X.env::(av [] X.env).map (·.2):=by rfl)
  (w:(av [a,b] X.env).length=2:=by rfl)(N:(av [a,b] X.env).findIdx? (·.1)=C:=by rfl):QG X A (.Tuple [a,b] k l) (jv [d,n]):=⟨Gh t (oJ h1.h (oJ o.h CK T) O) w K3 N⟩
def f0:QF X [] gK:=⟨KZ⟩
def f1(h:QT X e y):QF X [e] y:=⟨KY h.h⟩
def bE{o:nQ}{T:jt}{d:fV}{n:Nat}(t:QX X e f)(w:o[n+1]?=C:=by rfl):QB X A d (.ListComp e o T p) n (gx f):=⟨Lg w t.h⟩
def bF{o:nQ}{C:jt}{d:fV}{n:Nat}{c:mJ}{w:FIt}{O:Tg}{s:FB}(hg:o[n+1]?=I8 c)(pi:QI X (λ_=>False) c.target c.iter w)(pg:QG X A c.target O)(T:QF X c.ifs y)(pb:QB X A d (.ListComp e o C p) (n+1) s)(N:X.xe=λ_ _=>False:=by rfl)(hc:X.calm=KE:=by rfl)
  (ha:c.is_async=0:=by rfl)(k4: ∀t,o[n+1+1]?=I8 t->t.is_async=0:=by intro t h;cases h;try rfl)(hs: ∀x,au c.iter X.env x=pure x:=by intro _;rfl):QB X A d (.ListComp e o C p) n (FH w O y s):=⟨N6 N hc (bj ⟨_,_,_,_,rfl⟩) hg ha k4 hs pi.h pg.h T.h pb.h⟩
def cOk{N P:hU}{n scope:jt}{N':hU}{d:ja}(S:FnScope N P n)(h:Cc N n scope N' d k=KE:=by decide+kernel)(o:X.N=N:=by rfl)(t:X.env.scope=n:=by rfl):CompOk X N' scope d k:=MA o t h
def xC{c:mJ}{ir:nQ}{T:gm}{scope:jt}{fi:FIt}{tt:Tg}{ti:FT}{s:FB}{o:ja}{N':hU}(C:CompOk X N' scope o k)(nd:N'.Nodup)(pi:QI X (λi=>i∉o) c.target c.iter fi)
  (o7: ∀(cl:lA) (C:fV) (O:fY) (t:Hp) (w:jz) (n:gU),(X.comp N' scope cl C O t w n).N.Nodup->
   QG (X.comp N' scope cl C O t w n) (λi=>Ls o<=i) c.target tt/\QF (X.comp N' scope cl C O t w n) c.ifs ti/\ ∀d,QB (X.comp N' scope cl C O t w n) (λi=>Ls o<=i) d (.ListComp T (c::ir) scope l) 0 s)
  (hc:X.calm=KE:=by rfl)(ha:c.is_async=0:=by rfl)(k4: ∀g',ir[0]?=I8 g'->g'.is_async=0:=by intro g' h;cases h;try rfl)(hs: ∀x,au c.iter X.env x=pure x:=by intro _;rfl):QX X (.ListComp T (c::ir) scope l) (gE o k fi tt ti s):=⟨NB C hc ha k4 hs pi.h λcl C O t w n=>let⟨a,b,c⟩:=o7 cl C O t w n nd;⟨a.h,b.h,λd=>(c d).h⟩⟩
def sC{c:mJ}{ir:nQ}{t:gm}{scope:jt}{fi:FIt}{tt:Tg}{ti:FT}{s:FB}{o:ja}{N':hU}{py f7:bB}(hN:X.N.Nodup)(C:CompOk X N' scope o k)(nd:N'.Nodup)(pi:QI X (λi=>i∉o) c.target c.iter fi)
  (o7: ∀(cl:lA) (C:fV) (T:fY) (w:Hp) (O:jz) (n:gU),(X.comp N' scope cl C T w O n).N.Nodup->
   QG (X.comp N' scope cl C T w O n) (λi=>Ls o<=i) c.target tt/\QF (X.comp N' scope cl C T w O n) c.ifs ti/\ ∀d,QB (X.comp N' scope cl C T w O n) (λi=>Ls o<=i) d (.ListComp t (c::ir) scope l) 0 s)
  (cC:cE (.ListComp t (c::ir) scope l) (I8<|.Name x py) f7.line X.env=pure KE:=by rfl)(H:X.N[i]?=I8 x:=by rfl)(hx:X.env.scope.names.lookup x=I8 .local:=by rfl)(hf:X.fn x=KE:=by rfl)(hA:A i:=by decide)
  (hc:X.calm=KE:=by rfl)(ha:c.is_async=0:=by rfl)(k4: ∀g',ir[0]?=I8 g'->g'.is_async=0:=by intro g' h;cases h;try rfl)(hs: ∀x,au c.iter X.env x=pure x:=by intro _;rfl):QS X A L E (.Assign [.Name x py] (.ListComp t (c::ir) scope l) f7) (iT i<|gE o k fi tt ti s):=⟨KD cC C hc ha k4 hs pi.h (Gi hN H (bj hx)<|bj hf) hA λcl C T w O n=>let⟨a,b,c⟩:=o7 cl C T w O n nd;⟨a.h,b.h,λd=>(c d).h⟩⟩
def s0:QQ X A L E [] gq:=⟨KG⟩
def s1(h:QS X A L E S u)(d:QQ X A L E G v):QQ X A L E (S::G) (fZ u v):=⟨HE h.h d.h⟩
def sX:QS X A L E S EF:=⟨HC⟩
def sR(h:QX X e f):QS X A L E (.Return (I8 e) l) (ip f):=⟨NP h.h⟩
def sRN:QS X A L E (.Return C l) zQ:=⟨Kz⟩
def sRV(o: ¬L i)(h1:X.N[i]?=I8 x:=by rfl)(d:Vis X.env.scope x:=by first|exact bj rfl|exact bv (bj K3)|exact bv<|bv K3)(h:DB x:=by decide)(n:(x==("__classdict__":aO))=K2:=by decide):QS X A L E (.Return (I8<|.Name x p) l) (ma i):=⟨EK h1 d h n o⟩
def sE(h:QX X e f)(d:cE e C l.line X.env=pure K2:=by rfl):QS X A L E (.Expr e l) (jZ f):=⟨KA h.h d⟩
def sI(o:QT X c y)(d:QQ X A L E G u)(n:QQ X A L E Ts v):QS X A L E (.If c G Ts l) (sIf y u v):=⟨QU o.h d.h n.h⟩
def sW{n:Nat}(o:QT X c y)(d:QQ X A L E G u)(t:d6 (ah X.prog X.w) X.A X.env X.xe:=by exact PassesOwn.never):QS X A L E (.While c G [] l) (lU y u n):=⟨HB t o.h d.h⟩
def sF{d:FIt}{t:Tg}(H:QI X (λ_=>False) J e d)(N:QG X A J t)(n:QQ X A L E G u)(O:d6 (ah X.prog X.w) X.A X.env X.xe:=by exact PassesOwn.never)(o:X.calm=KE:=by rfl)(T: ∀x,au e X.env x=pure x:=by intro _;rfl):QS X A L E (.For J e G [] l) (rL d t u):=⟨NQ O o H.h N.h n.h T⟩
def sS(d:X.N.Nodup)(o:QX X e f)(H:X.N[i]?=I8 x:=by rfl)(T:Loc X.env.scope x:=by first|exact bj rfl|exact bv K3)(t:X.fn x=KE\/X.env.scope.names.lookup x=I8 .local:=by first|exact bj rfl|exact bv K3)(n:A i:=by decide)(w:cE e (I8<|.Name x p) l.line X.env=pure K2:=by rfl):QS X A L E (.Assign [.Name x p] e l) (iT i f):=⟨NO d H T o.h w t n⟩
def sT{t:Tg}{pt:bB}(d:QX X e f)(n:QG X A (.Tuple m k pt) t)(o:ci [.Tuple m k pt] e l.line X.env=pure K2:=by rfl)(w:cj [.Tuple m k pt] e X.env=pure C:=by rfl)(h1:(av [.Tuple m k pt] X.env).map (·.2)=[bz (.Tuple m k pt) X.env]:=by rfl):QS X A L E (.Assign [.Tuple m k pt] e l) (CF t f):=⟨NN d.h n.h o w h1⟩
def sIx{d:bB}(hv:QO X (.Name x r) (fR i))(w:QX X e f)(H:QO X a fo)
  (t: ∀v,bz (.Subscript (.Name x r) a d) X.env v=(do
   let n <-bt [v] (aK (.Name x r) X.env)
   let o <-bt [v,n] (aK a X.env)
   cc d
   bt [v,n,o] (eF n o v)
   g8 [v,n,o] []):=by intro _;rfl)
  (T:ci [.Subscript (.Name x r) a d] e l.line X.env=pure K2:=by rfl)(O:cj [.Subscript (.Name x r) a d] e X.env=pure C:=by rfl)
  (h1:(av [.Subscript (.Name x r) a d] X.env).map (·.2)=[bz (.Subscript (.Name x r) a d) X.env]:=by rfl):QS X A L E (.Assign [.Subscript (.Name x r) a d] e l) (wj i f fo):=⟨HD hv.h w.h H.h t T O h1⟩
def sDP{d:bB}(O:un X.A 1)(hv:QO X (.Name x r) (fR i))(w:QX X e f)(H:QO X a fo)
  (t: ∀v,bz (.Subscript (.Name x r) a d) X.env v=(do
   let n <-bt [v] (aK (.Name x r) X.env)
   let o <-bt [v,n] (aK a X.env)
   cc d
   bt [v,n,o] (eF n o v)
   g8 [v,n,o] []):=by intro _;rfl)
  (N:ci [.Subscript (.Name x r) a d] e l.line X.env=pure K2:=by rfl)(T:cj [.Subscript (.Name x r) a d] e X.env=pure C:=by rfl)
  (h1:(av [.Subscript (.Name x r) a d] X.env).map (·.2)=[bz (.Subscript (.Name x r) a d) X.env]:=by rfl):QS X A L E (.Assign [.Subscript (.Name x r) a d] e l) (wW i f fo):=⟨KC O hv.h w.h H.h t N T h1⟩
end
def Fz(K:gy)(b:lE)(x:aO)(st:cb):Prop:= ∃f a,b x=I (.ref f)/\Fun K x x st f a
def fz{K:gy}{h:gH}{e:lE}{x:aO}{st:cb}{f:fV}{j:gu}{m i:Option fV}{g:wR}{kV b n d ct:gu}(X:K.In h)(G:h.Ns aq e)(a:aM K aq x=I (I<|.ref f))
  (l:K.lookup f=I ⟨j,m,.func<|bV x x (rH st) (mV st) (gk st) .none kV b n i d ct,g⟩)(c:c8 K d x=Y)(k:ce K (.ref f)=Y):Fz K e x st:=⟨f,_,i3 X G a,RS l c k⟩
def BdA(x:aO)(st:cb)(c:hU):Prop:= ∀(kV a f:gu) (d:Option fV) (e ct:gu) (b:il),Ls b=Ls c->wf (bV x x (rH st) (mV st) (gk st) .none kV a f d e ct) ⟨b,[]⟩=pure (c.zip b)
def scM{N P:hU}{a:jt}(h1:a.kind= .function:=by rfl)(b:a.isCoroutine=J:=by rfl)(c:a.isGenerator=J:=by rfl)(d:N.Nodup:=by decide+kernel)(e:N.take P.length=P:=by rfl)(f: ∀x∈P,a.names.lookup x=I .local\/a.names.lookup x=I .cell:=by decide+kernel)(g: ∀y∈a.names,y.2≠ .free:=by decide+kernel):FnScope N P a:=⟨h1,b,c,d,e,f,g⟩
def Bd(Z:ZZ)(k:Nat)(x:aO)(st:cb)(N d:hU)(c:ja)(fs:FS):Prop:= ∀(f:fV) (b:gu) (A:gJ) (a:List eT) (s:fY) (U:Hp) (E:XK) (L:iO),(∀i,L i->i<Ls d)->Room k (A.deeper<|cG x (gk st) s.heap.objs.size f b)->
 un (A.deeper<|cG x (gk st) s.heap.objs.size f b) 60->un (A.deeper<|cG x (gk st) s.heap.objs.size f b) 1->un (A.deeper<|cG x (gk st) s.heap.objs.size f b) 62->un (A.deeper<|cG x (gk st) s.heap.objs.size f b) 90->N.Nodup->
 QQ (Dx CX0 Z.P Z.w Z.K Z.mg Z.base N x (gk st) f b A a s U E).nox (λi=>i∈c) L U (mV st) fs
def fnB{Z:ZZ}{k:Nat}{x:aO}{st:cb}{N b:hU}{asg:ja}{fs:FS}{f:fV}{c:mZ}(F:Fun Z.K x x st f c)(S:FnScope N b (gk st))(i:Bd Z k x st N b asg fs):FnOk Z.P Z.w Z.K Z.mg Z.base CX0 (k+1) f c b (spF Z.K<|evF (Ls N) (Ls b) asg fs):=
 RQ F S λe A a s U E L g d=>by have:=d.un;exact(i f e A a s U E L g d (by unfold un;omega) (by unfold un;omega) (by unfold un;omega) (by unfold un;omega) S.nd).h
def ozB{Z:ZZ}{k:Nat}{x:aO}{st:cb}{N c:hU}{asg:ja}{fs:FS}(a:Fz Z.K Z.mg x st)(S:FnScope N c (gk st))(b:BdA x st c)(e:Bd Z k x st N c asg fs):Oz Z (k+1) x c (evF (Ls N) (Ls c) asg fs):=
 let⟨f,d,m,F⟩:=a;⟨f,d,fnB F S e,m,F.kp,F.binds b⟩
def us0{P:List gu->Prop}(h:P []): ∀b:List gu,Ls b=0->P b:=λb e=>by cases b with|nil=>exact h|cons a l=>cases e
def us1{P:List gu->Prop}{n:Nat}(h: ∀a,∀b:List gu,Ls b=n->P (a::b)): ∀b:List gu,Ls b=n+1->P b:=λb e=>by cases b with|nil=>cases e|cons a l=>exact h a l<|Nat.succ.inj e
def oz0{Z:ZZ}{x:aO}{st:cb}{c:hU}(a:Fz Z.K Z.mg x st)(b:BdA x st c):Oz Z 0 x c (λ_=>C):=
 let⟨f,d,m,F⟩:=a;⟨f,d,OF,m,F.kp,F.binds b⟩
def fzL{K:gy}{h:lE}{x y:aO}{st:cb}{g:fV}(a:Fz K h x st)(k:h x=I (.ref g))(b:BdA x st [y]): ∃c,Fun K x x st g c/\ ∀(s:fY) (v:gu),eM s c ⟨[v],[]⟩ [(y,v)]:=by obtain⟨f,c,m,F⟩:=a;have e:=k.symm.trans m;cases e;obtain⟨o,p,kV,d,l,i,j,ct,n,e,_⟩:=F.ex;exact⟨c,F,λs v=>by subst e;exact .of_eq<|b kV d l i j ct [v] H⟩
def mgI{K:gy}{h:gH}{b:lE}{x:aO}{i:Int}{t:n3}(X:K.In h)(G:h.Ns aq b)(a:aM K aq x=I (I<|.int i t)): ∃t,b x=I (.int i t):=⟨t,i3 X G a⟩
def txK{K:gy}{h:gH}{g:lE}(X:K.In h)(G:h.Ns aq g)(i:aM K aq "len"=I C)(j:aM K aq "abs"=I C)(k:aM K aq "int"=I C)(l:aM K aq "tuple"=I C)(m:aM K aq "list"=I C)(n:aM K aq "range"=I C)(o:aM K aq "isinstance"=I C)(p:aM K aq "bool"=I C)(q:aM K aq "max"=I C)(r:aM K aq "min"=I C)(a:aM K aq "all"=I C)(b:aM K aq "any"=I C)(c:aM K aq "sorted"=I C)(d:aM K aq "enumerate"=I C)(e:aM K aq "zip"=I C)(f:aM K aq "set"=I C):Tx g:=⟨mK X G i,mK X G j,mK X G k,mK X G l,mK X G m,mK X G n,mK X G o,mK X G p,mK X G q,mK X G r,mK X G a,mK X G b,mK X G c,mK X G d,mK X G e,mK X G f⟩
def walkG{l:eh}{q:gM}{c:hU}{t:(aO->Option gu)->gH->Prop}{m:gB->gH->Prop}{d:DefRec}{K:wl->gy}{LV:Nat}{x:aO}{j:EvF}(hk:Room LV d5)(U:l.most=I 63)(v:d.params.defaults=[])(A: ∀(w:gB) (h:gH),m w h->(K w.params).In h)
  (F: ∀(w:gB) (g:lE) (p:fV) (h:gH),(K w.params).In h->h.Ns aq g->g d.name=I (.ref p)-> ∃r:mZ,(∀(s:fY) (u:gu),eM s r ⟨[u],[]⟩ [(x,u)])/\ ∀base:gH,(K w.params).In base->base.Ns aq g->FnOk l.prog w (K w.params) g base CX0 LV p r [x] (spF (K w.params) j))
  (M: ∀i:List Int,Ls i<=63-> ∃o b,j [(.lst<|i.map .int,J)]=I ((.bl Y,o),b)):i8 q c t m l.row.toRowW d [] (λf E=>fG f E):=
 L2.SW (n:=63) (k:=LV) (x:=x) (CX:=λ_=>CX0) (sp:=λw=>spF (K w.params) j) U (by decide) v hk A F (λ_ _ a i B _ y=>by obtain⟨o,b,e⟩:=M i B;exact RF y e) λ_ _ _ _ _ z=>z
noncomputable abbrev abI(i:Int):Int:=if i<0 then -i else i
section
variable {d:gM}{w:gB}{A:gJ}{E:gX}{s:fY}
def J8{a:fV}{f:il}{r:gh}{n:Nat}{P:te->fY->Prop}(N:s.heap.get? a=I8 (aZ "list" f.toArray n))(hi:dt f r)(h64:f.length<64)
  (h: ∀g y J' c,(∀b o,b≠a->s.heap.get? b=I8 o->g.get? b=I8 o)->g.get? a=I8 (aZ "list" J' c)->KskOut J (r.map abI) f J'.toList->P (.done<|.ret .none) {s with heap:=g,toks:=y}):
  af (ah d w) A (ksk_tree a (.builtin "abs") J) P E s:=by
 have ha:a<s.heap.objs.size:=iM N;have X:=hi.length;have T: ∀k,k<=f.length->k<=sizeLine:=λk hk=>by rw[jB];omega
 unfold ksk_tree;refine fX<|DZ N K3<|fX<|sU N K3 ?_ (T _ (by simp))<|kx _;obtain⟨C,l7⟩: ∃C,(s.heap.update a<|ay λ_=>(#[]:Array gu)).get? a=I8 (aZ "list" #[] C):=⟨_,vG N λ_=> #[]⟩
 refine fX<|xS l7 K3<|fX<|A4 ?_<|T _ (by simp);refine fX<|AO ?_<|kx _;refine lM ?_
 let h1:=nV s.heap a f
 let m:Addr:=((s.heap.update a<|ay λ_=>(#[]:Array gu)).push<|aZ "tuple" f.toArray 0).objs.size
 have hk:m=s.heap.objs.size+1:=by show _=_;simp -iota only[m];rw[size_push',Heap.size_update]
 have L:a≠m:=by rw[hk];exact hX<|rT ha
 have V: ∀b o,b≠a->s.heap.get? b=I8 o->h1.get? b=I8 o:=λb o z e=>iF _ (iF _ (by rw[DY _ _ _ _ z];exact e));have K:h1.get? a=I8 (aZ "list" #[] C):=iF _ (iF _ l7);have cK:h1.get? m=I8 (aZ "list" #[] 0):=iQ _ rfl;show af (ah d w) A (ksk_rest a (.builtin "abs") J f.toArray C<|.ref m) P E {s with heap:=h1};unfold ksk_rest;refine fX<|rV ?_;rw[List.forIn_toArray];refine fX<|ksk_fold (λi Y=> ∃g y l e,Y={s with heap:=g,toks:=y}/\(∀b o,b≠m->h1.get? b=I8 o->g.get? b=I8 o)/\g.get? m=I8 (aZ "list" l e)/\dt l.toList ((r.map abI).take i)) f 0 _ ⟨h1,s.toks,#[],0,rfl,λ_ _ _ e=>e,cK,.nil⟩ (λj x Y hx F=>?_) λY F=>?_
 .obtain⟨g,y,l,e,rfl,U,G,p⟩:=F;have W:j<f.length:=(qc.mp hx).1;obtain⟨t,Z⟩:=hi.get j r[j]<|gY (by omega);rw[hx] at Z;cases Z
  have q:l.size<=f.length:=by have:=p.length;rw[jc,qb] at this;omega
  refine fX<|uq<|EQ λu dP=>?_;dsimp only;have s1:=pG g m (ay (·.push (.int (abI r[j]) u)));refine fX<|sU (s:={s with heap:=g,toks:=dP}) G K3 ?_ (T _ q)<|lh (re (Array.size_push ..)) (by rw[jB];omega);refine gn ⟨rfl,_,_,l.push<|.int (abI r[j]) u,_,rfl,λb o z e=>(s1.2 b z).trans<|U b o z e,vG G _,?_⟩;rw[vI,List.take_add_one,iW,gY (show j<r.length by omega),dZ];rw[vI] at p;exact p.append<|.cons _ _ .nil
 .obtain⟨g,y,l,e,rfl,U,G,p⟩:=F;have p:dt l.toList (r.map abI):=by rwa [vI,xY<|by simp;omega] at p
  have q:l.size=f.length:=by have:=p.length;rw[jc,iJ] at this;omega
  have M:(l.zip f.toArray).size=f.length:=by rw[mo,q,hG,Nat.min_self]
  refine fX<|DZ (s:={s with heap:=g,toks:=y}) G K3 ?_
  have v: ∀st:pV,(ev st).Perm (l.zip f.toArray)->SortedTo (ev st) (ev st).size->eO st=J4->af (ah d w) A (ksk_tail a J C (.ref m) st) P E {s with heap:=g,toks:=y}:=λst O S R=>by
   have s1:=pG g m<|ay λ_=>(#[]:Array gu);have D:(g.update m<|ay λ_=>(#[]:Array gu)).get? a=I8 (aZ "list" #[] C):=(s1.2 a L).trans<|U a _ L K;have s2:=pG (g.update m<|ay λ_=>(#[]:Array gu)) a (ay λ_=>(ev st).map (·.2));unfold ksk_tail;simp -iota only[jA,jh];refine fX<|sU (s:={s with heap:=g,toks:=y}) G K3 ?_ (T _ (by omega))<|kx _;refine fX (A0 (fX (xS D K3 (fX (sU D K3 ?_ (kx _) (Nat.le_succ_of_le (show((ev st).map (·.2)).size<=sizeLine from T _ (by rw[ms,O.size_eq,M];exact iD _))))))));rw[R];simp -iota only[rW,jA,jh];refine gn<|h _ _ _ _ (λb o z e=>?_) (vG D _) (ksk_out (b:=J) p O S);have I:b≠m:=by rw[hk];exact hX<|rT<|iM e
   exact(s2.2 b z).trans ((s1.2 b I).trans<|U b o I<|V b o z e)
  unfold ksk_end;simp -iota only[jA,jh];by_cases H:f.toArray.size<2
  .rw[gr H,gr H];refine fX<|gn ?_;rw[D7];refine fX<|gn<|v _ (Array.Perm.refl _) (λi j n6 W=>?_) rfl;have bZ:j<(l.zip f.toArray).size:=W;rw[M] at bZ;rw[hG] at H;have:i=j:=by omega
   subst this;exact u0 _
  .rw[gD H,gD H];rw[hG] at H;rw[ksk_kind p<|by rw[q];omega];refine fX (gn ?_)
   refine fX (ni (wpS_sortRuns (a₀:=l.zip f.toArray) (st:=SortSt.mk' wv (l.zip f.toArray) #[] 7 J4) (Q:=λ_ B=>(ev B).Perm (l.zip f.toArray)/\eO B=J4/\SortedTo (ev B) (l.zip f.toArray).size)
    (ksk_intKeys p) ⟨Array.Perm.refl _,rfl,rfl,rfl⟩ (by rw[M];omega) (by rw[M];exact h64) λB a1 a2 a3=>⟨a1,a2,a3⟩) ?_ λ_ _ e=>e)
   rintro⟨⟨⟩,B⟩ Y ⟨rfl,O,R,S⟩;exact v B O (by rw[O.size_eq];exact S) R
end
noncomputable def aD:D->Int
 | .int i=>abI i
 |_=>0
noncomputable def isI:D->Bool
 | .int _=>Y
 |_=>J
noncomputable def ltA(x y:D):Bool:=decide<|aD x<aD y
noncomputable def wC:D->Option (D×Bool)
 | .lst l=>if l.all isI=Y/\(l.map aD).Nodup/\(Ls l)<64 then I (.lst<|kd ltA l,Y) else C
 |_=>C
def L6{x:D}: ∀{l:List D},l.Pairwise (λa b=>aD a<=aD b)->(BP ltA x l).Pairwise λa b=>aD a<=aD b:=by
 intro g
 induction g with
 |nil=>intro _;simp[BP]
 |cons y l f=>
  intro h;obtain⟨h1,e⟩:=AD.mp h;unfold BP;by_cases d:aD y<aD x
  .rw[gr<|by simpa[ltA] using d];refine AD.mpr ⟨λz c=>?_,f e⟩;rcases jF.mp ((rq ltA x l).mem_iff.mp c) with rfl|c
   .omega
   .exact h1 z c
  .rw[gD<|by simpa[ltA] using d];refine AD.mpr ⟨λz c=>?_,h⟩;rcases jF.mp c with rfl|c
   .omega
   .have:=h1 z c;omega
def vY: ∀l:List D,(kd ltA l).Pairwise λa b=>aD a<=aD b:=by
 intro d
 induction d with
 |nil=>exact .nil
 |cons _ l c=>exact L6<|c
theorem Aa: ∀{l:List D},(l.map aD).Nodup-> ∀a∈l,∀b∈l,aD a=aD b->a=b
 |x::l,h,a,d,b,f,e=>by
  rw[iR,Bj] at h;rcases jF.mp d with h1|h1<;>rcases jF.mp f with c|c
  .rw[h1,c]
  .exact absurd (h1▸e▸vA c) h.1
  .exact absurd (c▸e▸vA h1) h.1
  .exact Aa h.2 a h1 b c e
def Ka{l m:List D}(c:m.Perm l)(g:m.Pairwise λa b=>aD a<=aD b)(f:(l.map aD).Nodup):m=kd ltA l:=by refine(c.trans (iw ltA l).symm).eq_of_pairwise (le:=λa b=>aD a<=aD b) (λa b d e x y=>Aa f a (c.mem_iff.mp d) b ((iw ltA l).mem_iff.mp e)<|by omega) g (vY l)
section
variable {X:Cx}{f:gU}{g:L2.St}{H:Hp}{s:fY}
def Vm{O:AP'}: ∀{l:List D} {j:List V} {c:il},l.all isI=Y->RepL X.K H O l j->Vals j c-> ∃e:List Int,l=e.map .int/\dt c e:=by
 intro n
 induction n with
 |nil=>intro j c _ r v;rw[RepL] at r;subst r;cases v;exact⟨[],rfl,.nil⟩
 |cons d l m=>
  intro j c h r v;rw[RepL] at r;obtain⟨x,q,rfl,o,p⟩:=r;rw[dQ,lL] at h
  cases d with
  |int i=>
   cases v with
   |cons a b=>obtain⟨e,rfl,k⟩:=m h.2 p b;rw[gO<|.inl o] at a;obtain⟨t,rfl⟩:=a;exact⟨i::e,rfl,.cons _ _ k⟩
  |_=>exact absurd h.1 (by simp[isI])
theorem SM: ∀{l:List D} {a:gh} {xs:List V} {its:il},l=a.map .int->Ls xs=Ls l->Ls its=Ls l->(a.map abI).zip its=(l.zip<|xs.zip its).map λt=>(aD t.1,t.2.2)
 |[],[],_,_,_,_,_=>by simp
 |d::l,i::a,x::xs,u::its,h,h1,b=>by obtain⟨rfl,c⟩:=pX h;have:=SM (xs:=xs) (its:=its) c (by simpa using h1) (by simpa using b);simp -iota only[iR,qf,this];rfl
def EC{u:gu}{Q:VK}{O:AP'}{d:D}{z:D×Bool}{x:V}(I:Inv X f g H s)(ru:RelV x u)(np: ∀p,¬Ow (H p)-> ¬O p)(hd:jm X.K H O d x)(N:wC d=I8 z)(G:Gen X.K H O z Q):
  af (ah X.prog X.w) X.A (call (.builtin "sorted") [u] [(bh "key",.builtin "abs")]) (EP X f g Q) X.xe s:=by
 cases d with
 |lst l=>
  obtain⟨⟨hI,hn,hz⟩,rfl⟩:=gP N;obtain⟨p,xs,rfl,q,L⟩:=ji hd;cases ru;obtain⟨j,v,pl,_⟩:=I.list q;have e1:=L.length;have e2:=v.length;obtain⟨ns,S,r⟩:=Vm hI L v;have hl:j.length<=sizeLine:=by rw[jB];omega
  obtain⟨o,ho,hc,n,Z⟩:=pl.isList;refine call_function_entry_kw I0 Ec Ev (ksk_s1 _ _) ?_;unfold aQ.«sorted»;refine fX (m:=checkCount "sorted" 1 1 _)<|gn ?_;refine fX<|DX p (.inl K3) ho hc Z (λh1 k1=>?_) (by rw[hG];omega);rw[List.toList_toArray];refine fX<|AO ?_ hl;have J:(h1.push<|aZ "list" j.toArray 0).get? h1.objs.size=I8 (aZ "list" j.toArray 0):=iQ _ rfl;have T:Inv X f g H {s with heap:=h1}:=I.kept k1;refine fX<|lM<|wpAny_call_entry_kw (s:={s with heap:=h1.push (aZ "list" j.toArray 0)}) wn ⟨_,J,rfl⟩ t7 ?body<|ksk_l1 _ _
  case body=>
   show af _ _ (aQ.«list.sort» ⟨[.ref h1.objs.size],[(bh "key",.builtin "abs")]⟩) _ _ _;rw[ksk_t4];refine J8 (s:={s with heap:=h1.push (aZ "list" j.toArray 0)}) J r (by omega) λh' tk E c k2 k3 ko=>⟨_,rfl,gn ⟨_,rfl,?_⟩⟩
   obtain⟨ps,Y,k,F⟩:=ko;rw[SM S (by omega)<|by omega] at Y;obtain⟨a,P,rfl⟩:=ll _ Y _ rfl;rw[jI] at k
   have W: ∀t∈a,Rep X.K H O t.1 t.2.1/\RelV t.2.1 t.2.2:=λt hm=>by obtain⟨i,hi⟩:=pY<|P.mem_iff.mp hm;obtain⟨B,dw⟩:=Ck.mp hi;obtain⟨y,C⟩:=Ck.mp dw;obtain⟨w,R,w2⟩:=v.get y;rw[C] at R;cases R;exact⟨L.views B y,w2⟩
   have M:a.map (·.1)=kd ltA l:=by
    refine Ka ?_ (by rw[lZ] at F ⊢;exact F.imp λh=>by simpa using h) hn;have:=P.map (·.1)
    rwa [j1<|by simp;omega] at this
   have hR: ∀a:List (D×V×gu),(∀t∈a,Rep X.K H O t.1 t.2.1/\RelV t.2.1 t.2.2)->RepL X.K H O (a.map (·.1)) (a.map (·.2.1))/\Vals (a.map (·.2.1)) (a.map (·.2.2)):=λa=>by
    induction a with
    |nil=>exact λ_=>⟨.nil,.nil⟩
    |cons t a ih=>intro h;obtain⟨i1,i2⟩:=ih λx hx=>h x<|jd _ hx;exact⟨.cons (h t iX).1 i1,.cons (h t iX).2 i2⟩
   obtain⟨r1,r2⟩:=hR a W;have keep: ∀b o,h1.get? b=I8 o->h'.get? b=I8 o:=λb o e=>k2 b o (hX<|iM e)<|iF _ e;have U:a.length=l.length:=by have:=nh ey M;rw[(iw ltA l).length_eq,iJ] at this;exact this
   refine⟨.ref h1.objs.size,_,T.laid (t':=tk) keep (iD _) (show ObjOk X.prog X.w _ _ _ (.lst (a.map (·.2.1))) from⟨by rw[iJ,jB];omega,E.toList,c,?_,?_⟩),rfl,?_⟩
   .rw[k];exact r2
   .rw[IS];exact k3
   .refine G.lst T.fresh ?_;rw[<-M];exact r1
 |_=>cases N
def La{a:gm}{i:TA}{p b w v:bB}(c:Gl X "sorted")(r:X.mg "sorted"=C)(j:Gl X "abs")(l:X.mg "abs"=C)(n:PA X [a] i)
  (o:aJ b (aa [a] X.env)=(J,aK a X.env)::aJ b (aa [] X.env))(m:(aJ b<|aa [a] X.env).any (·.1)=J):
  PE X (.Call (.Name "sorted" p) [a] [⟨I "key",.Name "abs" w,v⟩] b) (tCB (rDn X.K<|g1 wC) i):=by
 intro f s g H Q U h;refine vT<|ou U c r ID<|callWith_kw (thn (n b f s g H _ U h) λT s1 ⟨E,B,e,y,t⟩=>kws_cons<|ou e j l R8<|kws_nil ?_) o m K3 K3;obtain⟨O,k,z,np,q,hv,c,G⟩:=t
 match k,c with
 |[d],c=>obtain⟨x,rfl⟩:=Gq q K3;obtain⟨u,rfl,A⟩:=oG y;exact EC e A np (hv 0 d x K3 K3) c G
def Kt{a:gm}{c:FO}{p b n m:bB}(k:Gl X "sorted")(l:X.mg "sorted"=C)(d:Gl X "abs")(e:X.mg "abs"=C)(i:PA X [a] (tA X.K [c]))
  (j:aJ b (aa [a] X.env)=(J,aK a X.env)::aJ b (aa [] X.env))(h:(aJ b<|aa [a] X.env).any (·.1)=J):
  PX X (.Call (.Name "sorted" p) [a] [⟨I "key",.Name "abs" n,m⟩] b) (gf (g1 wC) [c]):=pxn<|La k l d e i j h
end
noncomputable def fPop(i:Nat):F:=λa=>match a[i]? with
 |some (I (.lst l,Y))=>(l[Ls l-1]?).bind λd=>I ((d,J),a.set i<|I (.lst l.dropLast,Y))
 |_=>C
def RepL.dropLast{K U}{O:AP'}{l:List D}{a:List V}(r:RepL K U O l a):RepL K U O l.dropLast a.dropLast:=by rw[IQ,IQ,r.length];exact r.take _
section
variable {X:Cx}{x:aO}{i:Nat}{f c g:bB}
def Qp(hv:PO X (.Name x f) (fR i))(B:b8 (.Name x f) "pop" X.env (aK (.Name x f) X.env)=aK (.Name x f) X.env)(A:(c.endLine==g.line)=Y):
  PX X (.Call (.Attribute (.Name x f) "pop" c) [] [] g) (fPop i):=
 PX.imp (Rb Eb Jv Ju Rz hv B A) λJ N Q y=>by
 obtain⟨r,T,G,L,E,e,k⟩:=y;unfold fPop at e;split at e
 .rename_i l m;obtain⟨d,hd,e⟩:=fS e;obtain⟨rfl,rfl⟩:=gA e;refine⟨r,T,.slot i,r,E,by unfold fR;rw[m],λv O P=>?_⟩;obtain⟨t,p,h⟩:=P;obtain⟨a,g1,q,g2,g3⟩:=p.own i _ m;rw[h] at g1;cases g1;obtain⟨w,M,U⟩:=g3.get hd;have u:=g3.length;obtain⟨s,j⟩:=p.write m h<|RepL.dropLast g3;refine⟨.inl ⟨rfl,q,SqL.of g2⟩,_,q,w,rfl,rfl,g2,by rw[u];exact M,?_⟩;exact k _ _ (Post.val (t.trans j) s<|Rep.mono (λb o e n=>j.kp b o e λz=>n<|.inl z) (λb _ z=>z.imp (j.ow b) id) U)
 .cases e
end
def RO:=gI λi j=>if vz i j then I (.int<|i*2^j.toNat) else C
def RN:=gI λi j=>if 0<=j then I (.int<|i / 2^j.toNat) else C
def Mh:=gI λi j=>I<|.int<|bQ i j
section
variable {X:Cx}
def Oc:OpR X (aP .LShift) (rD X.K RO):=rl Rj
def Ob:OpR X (aP .RShift) (rD X.K RN):=rl Ri
def Od:OpR X (aP .BitAnd) (rD X.K Mh):=CP Rt
variable {a:gm}{e:FO}{p b f g d c:bB}{x:aO}{i:Nat}
def xSA(T:Tx X.mg)(k:QA X [a] [e])(m:Gl X "sorted":=by rfl)(j:Gl X "abs":=by rfl)(l:aJ b (aa [a] X.env)=(J,aK a X.env)::aJ b (aa [] X.env):=by rfl)(n:BA X b [a]:=by rfl):
  QX X (.Call (.Name "sorted" p) [a] [⟨I "key",.Name "abs" f,g⟩] b) (gf (g1 wC) [e]):=⟨Kt m (btM T (z:="sorted") H) j (btM T (z:="abs") H) k.h l n⟩
def SO(hv:QO X (.Name x d) (fR i))(k:b8 (.Name x d) "pop" X.env (aK (.Name x d) X.env)=aK (.Name x d) X.env:=by rfl)(j:(c.endLine==b.line)=Y:=by rfl):
  QX X (.Call (.Attribute (.Name x d) "pop" c) [] [] b) (fPop i):=⟨Qp hv.h k j⟩
end
section
variable {X:Cx}{a:gU}{b:L2.St}{H:Hp}{s:fY}
theorem Ge{K:gy}{O:AP'}: ∀(c:List Key),RepL K H O (c.map iU)<|c.map kV
 |[]=>RepL.nil
 |k::c=>by
  refine RepL.cons ?_<|Ge c
  cases k with
  |inl i=>exact Rep.mkInt
  |inr x=>exact Rep.mkStr
theorem tP{K:gy}{O:AP'}(np: ∀p,¬Ow (H p)-> ¬O p): ∀{c:List (List Key×V)} {d:List (List Key×fV×gu)},L2.KT H c d->RepL K H O (c.map λp=> .tup (p.1.map iU)) (d.map λx=>V.ref x.2.1)
 |_,_,.nil=>RepL.nil
 |_,_,.cons h t=>by refine RepL.cons (Rep.mkTup ⟨h.2.1,np _ λz=>z.nt _ h.2.1⟩<|Ge _)<|tP np t
def yk{P:gM}{w:gB}(c:List (List Key×fV×gu)):Vals (c.map λx=>V.ref x.2.1) ((c.map<|entryOfKey<|df<|kb P w).map (·.key)):=by
 induction c with
 |nil=>exact .nil
 |cons x c d=>exact .cons K3 d
end
def BW(d:D):Option (D×Bool):=match d with
 | .oth .dct a _=>I (.lst a,Y)
 |_=>uW d
def J7{b:gM}{w:gB}{a:fV}{c:Array cQ}{d:Nat}(hd:(a==bx)=J):PySem.W.KdlSrc b w "dict" a a c.size (λi v=> ∃e,c[i]?=I e/\v=e.key) (λh=>TT.DRaw h a c d) where
 type:=λs x=>x.typeIs
 there:=λh x=>let⟨_,h1,_⟩:=x.at_;⟨iM h1,iM h1⟩
 keep:=λh j x k=>x.stay λo e=>k a (.inl H) o e
 notList:=by decide
 notTuple:=by decide
 hint:=λA E s Q x h=>PySem.W.kdl_hint_dict x.typeIs h
 iter:=λA s g x=>by have f:a<s.heap.objs.size:=let⟨_,h1,_⟩:=x.at_;iM h1;exact⟨_,_,λE Q h=>TT.GL hd x h,TT.DJ g s.heap.objs.size a (mN f) c d,⟨⟨_,iQ _ rfl,rfl,rfl⟩,x.stay λo e=>iF _ e⟩⟩
section
variable {X:Cx}{b:gU}{f:L2.St}{H:Hp}{s:fY}
def uM(p:X.A.handled=C)(U:Inv X b f H s){a:fV}{g:Array cQ}{n:Nat}{O:AP'}{k:List D}{j:List V}{Q:VK}(hd:(a==bx)=J)(S:TT.DRaw s.heap a g n)(l:g.size<=sizeLine)
  (x:RepL X.K H O k j)(v:Vals j (g.toList.map (·.key)))(G:Gen X.K H O (.lst k,Y) Q):af (ah X.prog X.w) X.A (call (.type "list") [.ref a]) (EP X b f Q) X.xe s:=by
 refine PySem.W.kdl_call (J7 hd) p S l λz y d c t r m=>?_
 have o:d.toList=g.toList.map (·.key):=by
  apply A8;intro i;rw[kE,iW,kE]
  cases h:d[i]? with
  |some u=>obtain⟨e,h1,rfl⟩:=m.2 i u h;rw[h1];rfl
  |none=>have:=Sr.mp h;rw[Sr.mpr<|by rw[<-m.1];exact this];rfl
 have q:=v.length;refine⟨.ref s.heap.objs.size,_,U.laid (t':=y) t (iD _) (show ObjOk X.prog X.w _ _ _ (.lst j) from⟨by rw[q,iJ,jc];exact l,d.toList,c,by rw[o];exact v,by rw[IS];exact r⟩),rfl,?_⟩;exact G.lst U.fresh x
def FC(M:X.calm=KE):jw X (.type "list") (rDn X.K<|g1 BW):=lY λb s f H x u Q O d z I B np hd t G=>by
 by_cases y: ∃m C,d= .oth .dct m C
 .obtain⟨m,C,rfl⟩:=y;cases(show I8 (D.lst m,KE)=I8 z from t);obtain⟨a,P,rfl,q,r⟩:=qo hd;cases B;have v:X.A.handled=J4:=I.ok.hd M;rcases q with⟨h,e,rfl,rfl⟩|⟨h,e,rfl,rfl⟩
  .obtain⟨U,i,N,c,o,n,T,h1,g,k,l,p,J⟩:=Mx I.hok e;have E:=zJ p c;have w:=E.length;simp only[iJ,jc] at w;exact uM v I i ⟨o,h1,g,k⟩ (by lia) (wk h) E G
  .obtain⟨U,i,L,c,o,n,T,h1,g,k,l,p,J⟩:=Mv I.hok e;have w:=tD c;have F:n.size=L.length:=ta l;exact uM v I i ⟨o,h1,g,k⟩ (by lia) (tP np c) (by rw[l];exact yk L) G
 .have:BW d=uW d:=by
   unfold BW;split
   .exact absurd ⟨_,_,rfl⟩ y
   .rfl
  exact yY b s f H [x] [u] Q I (.cons B .nil) ⟨O,[d],z,np,rfl,λj Y R h1 g=>by
   cases j with
   |zero=>cases h1;cases g;exact hd
   |succ j=>simp at h1,by show uW d=I8 z;rw[<-this];exact t,G⟩
end
def Dj(d e:D):Option (D×Bool):=match d,e with
 | .lst l,.int k=>if 0<=k/\k<1000/\(Ls l)*k.toNat<=sizeLine then I (.lst (ac k.toNat l).flatten,Y) else C
 |_,_=>nF d e
theorem RepL.rep{K U}{O:AP'}{l:List D}{a:List V}(r:RepL K U O l a): ∀n:Nat,RepL K U O (ac n l).flatten (ac n a).flatten
 |0=>RepL.nil
 |n+1=>by rw[qk,qk,vQ,vQ];exact r.append<|RepL.rep r n
section
variable {X:Cx}
def Lm:OpR X (aP .Mult) (rD X.K Dj):=by
 intro i s σ H x y v u Q I Y j h;obtain⟨O,d,e,z,np,h1,C,E,G⟩:=h;by_cases L: ∃l k,d= .lst l/\e= .int k
 .obtain⟨l,k,rfl,rfl⟩:=L;obtain⟨⟨W,cK,J⟩,rfl⟩:=gP (show(if 0<=k/\k<1000/\l.length*k.toNat<=sizeLine then I8 (D.lst (ac k.toNat l).flatten,KE) else J4)=I8 z from E);obtain⟨p,xs,rfl,q,r⟩:=ji h1;cases Y;rw[gO C] at j;obtain⟨t,rfl⟩:=j;obtain⟨b,N,pl,_⟩:=I.list q;obtain⟨⟨S,A,w,P⟩,n,e,M,_,o⟩:=pl;simp only at M o;subst M o;have B:=r.length;have V:=N.length;have g:b.toArray.size*k.toNat<=sizeLine:=by rw[hG,<-V,B];exact J
  have f: ¬b.toArray.size*k.toNat>(2^63-1) / 8:=by
   have:(sizeLine:Nat)<=(2^63-1) / 8:=by decide
   lia
  have R: ¬(!th k)=KE:=by rw[vv (by lia)<|by lia];exact jD
  have c: ¬cz (b.toArray.size*k.toNat)=KE:=by rw[Lw g];exact jD
  have Z:dY (λx1 x2=>x1++x2) #[] (ac (if b.toArray.isEmpty=KE then 0 else k.toNat) b.toArray)=(ac k.toNat b).flatten.toArray:=by
   have f0: ∀m:Nat,dY (λx1 x2=>x1++x2) #[] (ac m b.toArray)=(ac m b).flatten.toArray:=λm=>by
    have:=Ak b m []
    rwa [dd] at this
   rw[f0]
   cases b with
   |nil=>simp
   |cons a r'=>rw[gD<|by simp]
  refine wpAny_binaryOp_repeat_ref (T:="list") (U:="int") (by decide) ⟨_,e,rfl⟩ (λs'=>nn s' k t) noFill_list_mul F.fills_int_mul F.slot_int_rmul repeat_list F.slot_int_index.lookup
   (vO F.slot_int_rmul (nn s k t) F.entry_int_rmul (F.args_int_rmul_2 _ _) (lm_int_rmul_list_any k t p b.toArray n A P)
    ⟨e,rfl,⟨_,e,rfl⟩,vO F.slot_list_mul ⟨_,e,rfl⟩ F.entry_list_mul (F.args_list_mul_2 _ _) (lm_list_mul_any p b.toArray n A P k t R f c) ⟨e,?_⟩⟩)
  rw[Z];exact⟨.ref _,_,I.lnew (t':=s.toks) (N.rep k.toNat)<|by rw[Ou,sO,B];exact J,rfl,G.lst I.fresh<|r.rep k.toNat⟩
 .have:Dj d e=nF d e:=by
   unfold Dj;split
   .exact absurd ⟨_,_,rfl,rfl⟩ L
   .rfl
  exact md i s σ H x y v u Q I Y j ⟨O,d,e,z,np,h1,C,by rw[<-this];exact E,G⟩
end
section
variable {a:gM}{w:gB}{A:gJ}{E:gX}{I:fV}{c b:jz}{n:Nat}{P:Nat->gu->Prop}{St:Nat->gH->Prop}
end
section
variable {X:Cx}{A:iO}{a:bB}{c:jg}{b:List Tg}
end
section
variable {X:Cx}{A:iO}{a b:gm}{d:bB}
variable {e l:gm}{f:F}{x z:aO}{p m g j:bB}{i k:Nat}{L:iO}{o:Hp}
def iE1{B:SB}{q:jg}{w:Nat}{y:bB}{c:Int}{n:Nat}(T:Tx X.mg)(r:QX X a f)(s:ba c=Y:=by decide)(u:Gl X "enumerate":=by rfl)(s0:SE X a []:=by rfl)
  (t:aJ d (aa [a] X.env)=(J,aK a X.env)::aJ d (aa [] X.env):=by rfl)(v:(aJ d<|aa [a] X.env).any (·.1)=J:=by rfl):
  QI X B (.Tuple q w y) (.Call (.Name "enumerate" p) [a] [⟨I "start",.Constant (.int c) n g,j⟩] d) (lT c f):=⟨HI u T.n_enumerate r.h s s0 t v⟩
end
def uV(d:D):Option (D×Bool):=match d with
 | .oth .dct a _=>iK a
 |_=>C
def rC(d e:D):Option (D×Bool):=match e with
 | .oth .dct a b=>if uR a d=Y then I (.bl (!(lD a b d).isSome),J) else C
 |_=>C
section
variable {X:Cx}{b:gU}{c:L2.St}{H:Hp}{s:fY}
def EW(o:X.A.units+62<bc):OpR X (ap .NotIn) (rD X.K rC):=by
 intro b s c H x y v u Q U m n h;obtain⟨O,d,e,z,np,h1,l,f,G⟩:=h;by_cases j: ∃g i,e= .oth .dct g i
 .obtain⟨g,i,rfl⟩:=j;obtain⟨hk,rfl⟩:=gP (show(if uR g d=Y then I (D.bl (!(lD g i d).isSome),J) else C)=I z from f);obtain⟨a,t,rfl,q,r⟩:=qo l;cases n;exact UG (by lia) U q r hk h1 m Y λp k=>⟨.bl _,H,k,by simp[L2.RelV],G.bl⟩
 .unfold rC at f;split at f
  .exact absurd ⟨_,_,rfl⟩ j
  .cases f
def Cf(hc:X.calm=KE)(J:X.A.units+62<bc):jw X (.builtin "sorted") (rDn X.K<|g1 uV):=lY λb s c H x u Q O d z I W np hd h G=>by
 by_cases T: ∃v N,d= .oth .dct v N
 .obtain⟨v,N,rfl⟩:=T;have M:iK v=I8 z:=h;obtain⟨a,us,rfl,q,r⟩:=qo hd;cases W;have E:X.A.handled=J4:=I.ok.hd hc;rcases q with⟨g,e,rfl,rfl⟩|⟨g,e,rfl,rfl⟩
  .obtain⟨zl,i,Z,f,o,B,S,h1,m,n,p,C,V⟩:=Mx I.hok e;have U:=zJ C f;have L:=U.length;simp only[iJ,jc] at L;exact oH J I (wk (O:=O) g) U M G λR F D j t=>TT.MB i (by rw[j];exact E) ⟨o,h1,m,n⟩ (by lia) λl y k=>t l y k
  .obtain⟨zl,i,Y,f,o,B,S,h1,m,n,p,C,V⟩:=Mv I.hok e;have L:=tD f;have hz:B.size=Y.length:=ta p;refine oH J I (tP np f) (yk (P:=X.prog) (w:=X.w) Y) M G λR F D j t=>TT.MB i (by rw[j];exact E) ⟨o,h1,m,n⟩ (by lia) λl y k=>?_;rw[p];exact t l y k
 .unfold uV at h;split at h
  .exact absurd ⟨_,_,rfl⟩ T
  .cases h
end
end PX
namespace TT
open PySem.SeqAt
section
variable {a:gM}{w:gB}{A:gJ}{R:h8->fY->Prop}{I:fV}{c b:jz}{G:Array eK->Array eK->Prop}{n:Nat}{P:Nat->gu->Prop}{St:Nat->fY->Prop}
end
end TT
namespace PX
open L2 PySem.SeqAt TS
section
variable {a:gM}{w:gB}{A:gJ}{E:gX}{s:fY}
end
end PX
namespace TT
open PySem.SeqAt
section
variable {a:gM}{w:gB}{A:gJ}{E:gX}{s:fY}
end
end TT
namespace PX
open L2 PySem.SeqAt
section
variable {X:Cx}
variable {a:gm}{c:FO}{p b:bB}
end
open PySem.Builtin.Str
section
variable {X:Cx}
end
section
variable {X:Cx}{o e a:gm}{k l:FO}{b v:aO}{d p c i h g f:bB}{j:Nat}
end
section
variable {K:gy}{T:AP'}{b:L2.St}{c:Dn}{H:Hp}{A:iO}{i j:Nat}{d:D}{a:fV}
end
section
variable {X:Cx}{A L:iO}{g:Hp}{d e f:bB}{i j:Nat}{x y:aO}
def gT3{a b c:gm}{l m n:Tg}{k:Nat}(h1:QG X A a l)(o:QG X A b m)(p:QG X A c n)(q:X.calm=Y:=by rfl)(t:(av [a,b,c] X.env).map (·.2)=bz a X.env::(av [b,c] X.env).map (·.2):=by rfl)(u:(av [b,c] X.env).map (·.2)=bz b X.env::(av [c] X.env).map (·.2):=by rfl)(v:(av [c] X.env).map (·.2)=bz c X.env::(av [] X.env).map (·.2):=by rfl)
  (r:(av [a,b,c] X.env).length=3:=by rfl)(s:(av [a,b,c] X.env).findIdx? (·.1)=C:=by rfl):QG X A (.Tuple [a,b,c] k d) (jv [l,m,n]):=⟨Gh q (oJ h1.h (oJ o.h (oJ p.h CK v) u) t) r H s⟩
end
end PX
namespace TT
open PySem.SeqAt
def Ij{c:gh}{t:lz}(ok:TabOk c t)(h:Int): ∃m,(pr t.mask h m).j∉t.place.toList/\(∀q,q<m->(pr t.mask h q).j∈t.place.toList)/\t.freeSlot h=I ((pr t.mask h m).j,J):=by
 obtain⟨m,_,_,d,e⟩:=HF ok (p:=t.probeStart h) (n:=0) (h:=h) (hashAt:=λ_=>h+1) H (λq b=>by lia);rcases e with⟨a1,a2⟩|⟨i,_,a2,_⟩
 .refine⟨m,a1,λq b=>?_,?_⟩
  .obtain⟨i,a,_⟩:=d q (kx _) b;rw[<-kE] at a;exact mM a
  .unfold IN;rw[a2];rfl
 .lia
def Hw{es:uj}(t:lz)(s:5<=es.size)(u:es.size<=500): ∃t' es',relayAll t es (el es.size)=(es',t',J)/\es'.toList.Perm es.toList/\TabOk (es'.toList.map (·.1)) t'/\t'.plain=t.plain/\t'.led=t.led:=by
 have n:el es.size=es.size*4:=by unfold el;rw[gD<|by lia]
 obtain⟨k,q,c,r,lk⟩:=Bu (es.size*4) (by lia);have p:dh (es.size*4)-1+1=2^k:=by have:=mL k;lia
 obtain⟨t',a,g,b,h,j,l⟩:=Ox p q c t.finger (t.movedTo<|dh (es.size*4)-1) t.led t.plain (es.toList.map (·.1)) (by rw[iJ,jc];lia);rw[iJ,jc] at b
 have er:t.relaid (es.map (·.1)) (es.size*4)=I (t',a):=by unfold Gc;rw[<-g,<-Array.toList_map]
 have f: ∀i∈a.toList,i<es.size:=λi o=>xm.mp<|b.mem_iff.mp o;have d:(a.filterMap (es[·]?)).toList=a.toList.filterMap (λi=>es[i]?):=by simp
 have perm:(a.filterMap (es[·]?)).toList.Perm es.toList:=by rw[d];refine(b.filterMap _).trans ?_;rw[Kn]
 have e:TabOk ((a.filterMap (es[·]?)).toList.map (·.1)) t':=by rw[d,OG _ f];exact h
 refine⟨t',a.filterMap (es[·]?),?_,perm,e,j,l⟩;unfold relayAll;rw[n,er];have h1:coversAll a es.size=Y:=by unfold coversAll;exact List.isPerm_iff.mpr b
 have m:t'.fits (a.filterMap (es[·]?)).size=Y:=BZ e (by rw[iJ,jc]);dsimp only;rw[h1,m];rfl
section
variable {b:gM}{w:gB}{A:gJ}{E:gX}{s:fY}
def SA{a:fV}{es:uj}{n:Nat}{t:lz}{k:Int}{x:gu}(u:(cn b w).is k x=KE)(cF:x.scannable=KE)(J:plainKind x=KE)(H:s.heap.get? a=I8 (jx es n t))(d:TabOk (es.toList.map (·.1)) t)(j4:t.plain=KE)(hz:es.size+1<=500)
  (dB:ElemsOf (cn b w) es.toList){Q:FU}
  (y:(∃e∈es.toList,(cn b w).is k e.2=KE)->Q K2 s)
  (Y:(∀e∈es.toList,(cn b w).is k e.2=K2)-> ∀T es' n' t',aH a s.heap T->T.get? a=I8 (jx es' n' t')->es'.toList.Perm (((cn b w).hash k,x)::es.toList)->TabOk (es'.toList.map (·.1)) t'->t'.plain=KE->t'.led=t.led->Q KE {s with heap:=T}):
  af (ah b w) A (B2 a x<|(cn b w).hash k) Q E s:=by
 have P:t.fits es.size=KE:=BZ d (by simp);have hb:es.size<scanBound:=by show es.size<4096;lia
 unfold B2 setAddHashedIn;refine lM<|fX<|xQ H K3 P ?_;dsimp only;rw[byScan_of cF hb dB];simp only[↓reduceIte];unfold setAddByScan;refine fX ?_;refine fX<|rV ?_;refine fX<|wpAny_setScan_of u H K3 P dB ?_
 cases R:List.findIdx? (λe=>(cn b w).is k e.2) es.toList with
 |some j=>dsimp only;obtain⟨hj,G,_⟩:=SF.mp R;exact gn<|gn<|y ⟨es.toList[j],xM hj,G⟩
 |none=>
  dsimp only;have X: ∀e∈es.toList,(cn b w).is k e.2=K2:=λe he=>by simpa using SD.mp R e he
  generalize hh:(cn b w).hash k=h at Y ⊢;obtain⟨m,h1,h2,eL⟩:=Ij d h
  have r:(t.put (pr t.mask h m).j).1={t with place:=ao t.place (aj t.place (pr t.mask h m).j) (pr t.mask h m).j,dummies:= #[]}:=by unfold i9;dsimp only;rw[d.dum,BU];rfl
  have Z:(t.put (pr t.mask h m).j).2=aj t.place (pr t.mask h m).j:=rfl;have O:(t.put (pr t.mask h m).j).1.plain=KE:=by rw[r];exact j4
  have q:(ao es (t.put (pr t.mask h m).j).2 (h,x)).size=es.size+1:=by rw[<-jc,(qH es _ _).length_eq,kY,jc]
  have f:(Ls es.toList)=es.size:=jc;have o:=d.len;rw[iJ,f] at o
  have l:(t.put (pr t.mask h m).j).1.place.size=es.size+1:=by rw[r];show(ao t.place _ _).size=_;rw[<-jc,(qH t.place _ _).length_eq,kY,jc,o]
  have L:(t.put (pr t.mask h m).j).1.fill=es.size+1:=by unfold h7;rw[l,r];rfl
  have I:(t.put (pr t.mask h m).j).1.mask=t.mask:=by rw[r]
  have i:(t.put (pr t.mask h m).j).1.led=t.led:=by rw[r]
  have p:=d.room;rw[iJ,f] at p
  have m7:7<=t.mask:=by
   obtain⟨k,k3,_,ek⟩:=d.pow;have:2^3<=2^k:=xR (by decide) k3
   lia
  have F:(t.put (pr t.mask h m).j).1.fits (ao es (t.put (pr t.mask h m).j).2 (h,x)).size=KE:=by unfold h6;rw[l,q,L,I];simp only[BEq.rfl,n7,vK];lia
  have v:layNew t es h x=(ao es (t.put (pr t.mask h m).j).2 (h,x),(t.put (pr t.mask h m).j).1,K2,K2):=by unfold layNew;rw[eL];show(ao es (t.put (pr t.mask h m).j).2 (h,x),(t.put (pr t.mask h m).j).1.orStandIn (ao es (t.put (pr t.mask h m).j).2 (h,x)).size,K2,!(t.put (pr t.mask h m).j).1.fits (ao es (t.put (pr t.mask h m).j).2 (h,x)).size)=_;rw[F];unfold Go;rw[F];rfl
  rw[v];generalize g:ao es (t.put (pr t.mask h m).j).2 (h,x)=dF at*;generalize N:(t.put (pr t.mask h m).j).1=t1 at*;dsimp only;refine fX<|gn ?_;rw[gr O,hashByValue_scannable 8 cF,J];refine fX<|gn ?_;simp only[↓reduceIte];refine fX<|on H K3 ?_ (by rw[q,jB];lia);have U:=Cw (es':=dF) (t':=t1) H;have C:=pG s.heap a<|h9 dF t1;have V:dF.toList.Perm ((h,x)::es.toList):=by rw[<-g];exact qH es _ _
  by_cases c:t1.tooFull=KE
  .rw[c];simp only[Bool.not_false,Bool.and_self,↓reduceIte]
   have K:3*t.mask<=5*(es.size+1):=by unfold fx at c;rw[L,I] at c;have:=of_decide_eq_true c;lia
   obtain⟨t',es',r1,W,r3,r4,r5⟩:=Hw (es:=dF) t1 (by rw[q];lia) (by rw[q];lia);rw[r1];dsimp only;refine fX<|gn ?_;have D:es'.size=es.size+1:=by rw[<-jc,W.length_eq,jc,q]
   refine fX<|on U K3 ?_ (by rw[D,jB];lia);exact gn<|gn<|Y X _ es' _ t' (C.trans<|pG _ a _) (Cw U) (W.trans V) r3 (by rw[r4];exact O) (by rw[r5];exact i)
  .have B:t1.tooFull=K2:=by simpa using c
   rw[B];simp only[Bool.and_false,jA,↓reduceIte]
   have M:5*(es.size+1)<3*t.mask:=by
    unfold fx at c;rw[L,I] at c;have: ¬(es.size+1)*5>=t.mask*3:=λz=>c<|kh z
    lia
   obtain⟨S,p2⟩:=d.put h1 h2 (by rw[iJ,f];exact M) K3 K3;refine gn<|gn<|Y X _ _ _ _ C U V ?_ O i;rw[N] at S;rw[<-g,kK,lB,iR,AF,List.map_drop,Z];exact S
end
end TT
namespace PX
open L2 PySem.SeqAt TS
def okI:D->Bool
 | .int _=>Y
 |_=>J
def uJ(h:okI d=Y): ∃k,d= .int k:=by cases d<;>first|exact⟨_,rfl⟩|cases h
def Lu(h:okI d=Y):D.pr d=Y:=by obtain⟨k,rfl⟩:=uJ h;rw[D.pr]
def OS{a:List D}(h1:a.all okI=Y)(b:okI d=Y):(pU a d).all okI=Y:=by
 unfold pU;split
 .exact h1
 .rw[mj,h1];simp[b]
def Iu: ∀(l a:List D),l.all okI=Y->a.all okI=Y->(l.foldl pU a).all okI=Y:=by
 intro e
 induction e with
 |nil=>intro a _ h;exact h
 |cons d l c=>intro a h1 b;rw[dQ,lL] at h1;exact c _ h1.2 (OS b h1.1)
section
variable {X:Cx}{c:gU}{f:L2.St}{H:Hp}{s:fY}
def SetV.ints{a:fV}{j:List D}{u n t l}(S:SetV X H O h a j u n t l)(q:j.all okI=Y): ∀(i:Nat) (e:Int×gu),u[i]?=I e-> ∃k r,e=(pc k,.int k r)/\ .int k∈j:=λi e x=>by
 obtain⟨z,h1,m,d⟩:=yz S.par (i:=i) (b:=e) (by rw[kE];exact x);rw[iW] at h1
 cases o:l[i]? with
 |none=>rw[o] at h1;cases h1
 |some p=>rw[o] at h1;cases h1;have v:=mM o;have g:p.1∈j:=S.perm.mem_iff.mp<|vA v;obtain⟨k,hk⟩:=uJ<|lO.mp q _ g;have w:=S.rep p v;rw[hk] at w;have:=w.int;rw[this] at d;obtain⟨r,d⟩:=d;obtain⟨y,A⟩:=e;dsimp only at m d;subst d;rw[hk,D.hash] at m;exact⟨k,r,by rw[m],hk▸g⟩
def SetV.elems{a:fV}{g:List D}{d n t l}(S:SetV X H O h a g d n t l)(b:g.all okI=Y):ElemsOf (cn X.prog X.w) d.toList:=λe j=>by obtain⟨i,m⟩:=pY j;obtain⟨k,o,rfl,_⟩:=S.ints b i e (by rw[<-kE];exact m);exact⟨⟨k,xK _ _ k o,rfl⟩,rfl⟩
def SetV.there{a:fV}{u:List D}{d n t l}(S:SetV X H O h a u d n t l)(q:u.all okI=Y)(k:Int):(∃e∈d.toList,(cn X.prog X.w).is k e.2=Y)↔ .int k∈u:=by
 constructor
 .rintro⟨e,g,hk⟩;obtain⟨i,m⟩:=pY g;obtain⟨y,r,rfl,o⟩:=S.ints q i e (by rw[<-kE];exact m);rw[(cn X.prog X.w).inj _ k y hk (xK _ _ y r)];exact o
 .intro o;obtain⟨p,v,e⟩:=lj.mp<|S.perm.mem_iff.mpr o;obtain⟨i,m⟩:=pY v
  have A:i<d.size:=by
   have:=(qc.mp m).1;have:=S.lens
   lia
  have g:d[i]?=I d[i]:=pW A;obtain⟨z,h1,B,j⟩:=yz S.par (i:=i) (b:=d[i]) (by rw[kE];exact g);rw[iW,m] at h1;cases h1;have x:=S.rep p v;rw[e] at x;rw[x.int] at j;obtain⟨r,j⟩:=j;refine⟨d[i],by rw[<-kE] at g;exact mM g,?_⟩;rw[j];exact xK _ _ k r
def any_int{d:List D}(a:d.all okI=Y)(k:Int):d.any (D.eqb · (.int k))=Y↔ .int k∈d:=by
 rw[j9];constructor
 .rintro⟨x,b,e⟩;rw[(yS (Lu<|lO.mp a x b)<|by rw[D.pr]).mp e] at b;exact b
 .intro h;exact⟨_,h,(yS (by rw[D.pr])<|by rw[D.pr]).mpr K3⟩
def SetV.addI(S:SetV X H O s.heap a d x n t l)(b:d.all okI=KE)(hz:(Ls d)<500)
  (h: ∀r i B g u t' q,s.toks<=B->aH a s.heap i->SetV X H O i a (pU d<|.int k) g u t' q->Q r {s with heap:=i,toks:=B}):af (ah X.prog X.w) A (nw a<|.int k m) Q E s:=by
 obtain⟨F,Y⟩:=S.lens;unfold nw;refine lM<|fX<|(cn X.prog X.w).pyHash (k:=k) (xK _ _ _ _) ?_;refine TT.SA (s:={s with toks:=s.toks+1}) (xK _ _ k m) K3 K3 S.is.at_ S.is.tab S.is.plain (by lia) (S.elems b) (λJ=>?_) λU i g u t' g1 g2 g3 I L T=>?_
 .have:pU d (.int k)=d:=by unfold pU;rw[gr<|(any_int b k).mpr<|(S.there b k).mp J]
  exact h K2 s.heap (s.toks+1) x n t l (vP _) (Ba a s.heap) (by rw[this];exact S)
 .have C: ¬d.any (D.eqb · (.int k))=KE:=λz=>by obtain⟨e,G,hk⟩:=(S.there b k).mpr<|(any_int b k).mp z;rw[U e G] at hk;cases hk
  have j:pU d (.int k)=d++[.int k]:=by unfold pU;rw[gD C]
  have v:Paired (λ(z:Int×V) (e:Int×gu)=>z.1=e.1/\RelV z.2 e.2) (((D.int k,V.int k)::l).map hv) ((pc k,ei k m)::x.toList):= .cons ⟨by show D.hash _=_;rw[D.hash],⟨m,rfl⟩⟩ S.par;obtain⟨K,M,N⟩:=wX g3 v;obtain⟨q,y,rfl⟩:=ll hv N _ rfl;refine h KE i (s.toks+1) g u t' q (vP _) g1 ⟨⟨g2,I,L,T.trans S.is.led⟩,?_,λp o=>?_,M⟩
  .rw[j];refine(y.map (·.1)).trans ?_;rw[iR];exact(S.perm.cons<|D.int k).trans (Ji (D.int k) d).symm
  .rcases jF.mp (y.mem_iff.mp o) with rfl|o
   .exact Rep.mkInt
   .exact S.rep p o
def GQ:D->Option (D×Bool)
 | .lst l| .tup l=>if l.all okI=Y/\(Ls l)<500 then I (.oth .set []<|nM l,Y) else C
 |_=>C
def Iy(hc:X.calm=KE):jw X (.type "set") (rDn X.K<|g1 GQ):=lY λc s f H x u Q O d z I ru np hd j G=>by
 obtain⟨l,p,g,a,rfl,r,v,N,j⟩: ∃l p g a,x= .ref p/\RepL X.K H O l g/\Vals g a/\(s.heap.IsList p a.toArray\/s.heap.IsTuple p a.toArray)/\(if l.all okI=KE/\l.length<500 then I8 (D.oth .set []<|nM l,KE) else C)=I8 z:=by
  cases d with
  |lst l=>obtain⟨p,g,rfl,q,r⟩:=ji hd;obtain⟨a,v,N,_⟩:=I.list q;exact⟨l,p,g,a,rfl,r,v,.inl N.isList,j⟩
  |tup l=>obtain⟨p,g,rfl,q,r⟩:=kJ hd;obtain⟨a,v,N,_⟩:=I.tuple q;exact⟨l,p,g,a,rfl,r,v,.inr N,j⟩
  |_=>cases j
 obtain⟨⟨y,hz⟩,rfl⟩:=gP j;cases ru;have e1:=r.length;have e2:=v.length;have hh:X.A.handled=C:=I.ok.hd hc;have U:=I.fresh
 have P: ∀i,(l.take i).all okI=KE:=λi=>by rw[lO] at y ⊢;exact λx hx=>y x<|qg hx
 refine TT.Sy hh N (λi h=> ∃E n t C',SetV X H O h s.heap.objs.size (nM<|l.take i) E n t C') (λi h h' ⟨E,n,t,C',S⟩ k=>⟨E,n,t,C',S.stay k⟩)
  (λh' e=>⟨#[],0,_,[],⟨TT.Sx e,by simp[nM],λp R=>by simp at R,.nil⟩⟩) (λi w s' B Q' E' hB hi F hk j J aB L=>?_) (λh' tk F hk=>?_)
 .obtain⟨E,n,t,C',S⟩:=F
  have hil:i<a.length:=by have:=(MX.mp hi).1;simpa using this
  have hw:a[i]?=I8 w:=by simpa using hi
  have M:g[i]?=I8 g[i]:=gY (by omega);have eX:l[i]?=I8 l[i]:=gY (by omega);obtain⟨w',w1,w2⟩:=v.get M;rw[hw] at w1;cases w1;have m:Rep X.K H O l[i] g[i]:=r.views eX M;obtain⟨k,T⟩:=uJ (lO.mp y _ (xM (h:=by omega)):okI l[i]=KE);rw[T] at m;rw[m.int] at w2;obtain⟨cX,rfl⟩:=w2;obtain⟨h1,g1,dr1,Z,os1⟩:=s';dsimp only at hk j J aB L S;subst j;subst J;subst aB;refine SetV.addI (s:={s with heap:=h1,toks:=Z}) S (Iu _ _ (P i) rfl) ?_ λrr h2 dP Y n' t' W a1 a2 a3=>?_
  .have:=Iq (l.take i) [];rw[qb] at this;unfold nM;simp only[sM] at this;omega
  .rw[<-T,<-Fs eX] at a3;exact L rr h2 dP a1 a2 ⟨Y,n',t',W,a3⟩
 .obtain⟨E,n,t,C',S⟩:=F;have V:a.toArray.size=l.length:=by simp;omega
  rw[V,List.take_length] at S;refine⟨.ref s.heap.objs.size,upd H s.heap.objs.size<|.stt<|C'.map hv,I.laid hk (iD _) S.objOk,rfl,?_⟩;refine G s.heap.objs.size _ U (kG U) ?_;exact S.oth (λp R=>Rep.mono (λb o e _=>kG U b o e) (λb hb z=>z.elim id λz=>absurd (z▸U) hb)<|S.rep p R) gS
end
def mq(d:D):Option (D×Bool):=match d with
 | .oth .set [] a=>if a.all okI=Y then iK a else C
 |_=>C
section
variable {X:Cx}
def vg(Y:X.calm=KE)(hu:X.A.units+62<bc):jw X (.builtin "sorted") (rDn X.K<|g1 mq):=lY λC s σ H x u Q O d z I R np hd h G=>by
 obtain⟨c,rfl⟩: ∃c,d= .oth .set [] c:=by
  by_cases y: ∃c,d= .oth .set [] c
  .exact y
  .change mq d=I8 z at h;unfold mq at h;split at h
   .exact absurd ⟨_,rfl⟩ y
   .cases h
 obtain⟨f,e⟩:c.all okI=KE/\iK c=I8 z:=by
  have e:(if c.all okI=KE then iK c else J4)=I8 z:=h;split at e
  .rename_i f;exact⟨f,e⟩
  .cases e
 obtain⟨a,us,rfl,q,r⟩:=qo hd;cases R;obtain⟨i,n,t,l,S⟩:=q.setV I r;obtain⟨L,aX⟩:=S.lens;have wp:=TT.DH X.w a n i;obtain⟨z',j,B⟩:=wX wp S.par;obtain⟨b,v,rfl⟩:=ll hv B _ rfl;have E:RepL X.K H O (b.map (·.1)) (b.map (·.2)):=RepL.ofZip λp F=>S.rep p<|v.mem_iff.mp F
 have W:Vals (b.map (·.2)) ((TT.mC X.w a n i).toList.map (·.2)):=by
  clear B v E wp;generalize (TT.mC X.w a n i).toList=m at j;revert j;generalize g:b.map hv=zz;intro j
  induction j generalizing b with
  |nil=>
    have:b=[]:=by simpa using g
    subst this;exact .nil
  |cons r t ih=>
   cases b with
   |nil=>simp at g
   |cons p b=>simp only[iR,cR] at g;rw[iR,iR];refine .cons ?_<|ih b g.2;have:=r.2;rw[<-g.1] at this;exact this
 have o:(b.map (·.1)).Perm c:=(v.map (·.1)).trans S.perm
 have J:iK (b.map (·.1))=I8 z:=by unfold iK at e ⊢;obtain⟨⟨h1,N⟩,rfl⟩:=gP e;rw[gr ⟨CB o h1,by rw[o.length_eq];exact N⟩,J9 o λx P=>Lu<|lO.mp f x<|o.mem_iff.mp P]
 have D:X.A.handled=J4:=I.ok.hd Y
 have g:i.size<=sizeLine:=by unfold iK at e;rw[L];exact(gP e).1.2
 exact oH hu I E W J G λQ' E' Z T U=>TT.OJ (by rw[T];exact D) S.is g λM V k=>U M V k
end
def Ib:D->Int
 | .int k=>k
 |_=>0
def ot(l:gh):Int:=l.foldl min<|l.headD 0
def Mb:D->Option (D×Bool)
 | .lst l=>if l.all okI=Y/\l≠[] then I (.int<|ot<|l.map Ib,J) else C
 |_=>C
def Fn: ∀(l:gh) (a:Int),l.foldl min a<=a/\ ∀x∈l,l.foldl min a<=x:=by
 intro l
 induction l with
 |nil=>intro a;exact⟨u0 _,λx b=>by simp at b⟩
 |cons y l d=>
  intro a;obtain⟨h1,c⟩:=d<|min a y;have:=Int.min_le_left a y;have:=Int.min_le_right a y;refine⟨by rw[pZ];lia,λx b=>?_⟩;rw[pZ];rcases jF.mp b with rfl|b
  .lia
  .exact c x b
def Dr: ∀(l:gh) (a:Int),l.foldl min a=a\/l.foldl min a∈l:=by
 intro l
 induction l with
 |nil=>intro a;exact .inl H
 |cons y l b=>
  intro a;rw[pZ];rcases b (min a y) with h|h
  .rw[h];rcases Int.le_total a y with z|z
   .exact .inl (Int.min_eq_left z)
   .rw[Int.min_eq_right z];exact .inr iX
  .exact .inr (jd _ h)
def xg{l:gh}(h:l≠[]):ot l∈l/\ ∀x∈l,ot l<=x:=by
 unfold ot
 cases l with
 |nil=>exact absurd H h
 |cons y l=>
  refine⟨?_,(Fn (y::l) y).2⟩;rcases Dr (y::l) y with z|z
  .rw[show(y::l).headD 0=y from H,z];exact iX
  .exact z
def C7{l:gh}{m:Int}(h1:m∈l)(a: ∀x∈l,m<=x):ot l=m:=by obtain⟨g1,g2⟩:=xg (l:=l)<|List.ne_nil_of_mem h1;exact Int.le_antisymm (g2 m h1)<|a _ g1
section
variable {X:Cx}
def OD{K U}{O:AP'}: ∀{l:List D} {e:List V} {c:il},l.all okI=Y->RepL K U O l e->Vals e c-> ∃f:List (Int×n3),c=f.map (λp=> .int p.1 p.2)/\f.map (·.1)=l.map Ib:=by
 intro l
 induction l with
 |nil=>intro e c _ r v;rw[RepL] at r;subst r;cases v;exact⟨[],rfl,rfl⟩
 |cons d l j=>
  intro e c h r v;rw[dQ,lL] at h;rw[RepL] at r;obtain⟨x,o,rfl,m,n⟩:=r
  cases v with
  |cons a b=>obtain⟨k,rfl⟩:=uJ h.1;rw[m.int] at a;obtain⟨t,rfl⟩:=a;obtain⟨f,g,i⟩:=j h.2 n b;exact⟨(k,t)::f,by rw[g];rfl,by rw[iR,iR,i];rfl⟩
def Iz(o:X.calm=KE):jw X (.builtin "min") (rDn X.K<|g1 Mb):=lY λm s F H x u Q O d z I J np hd h G=>by
 cases d with
 |lst l=>
  obtain⟨⟨f,C⟩,rfl⟩:=gP (show(if l.all okI=KE/\l≠[] then I8 (D.int<|ot<|l.map Ib,K2) else J4)=I8 z from h);obtain⟨p,Y,rfl,q,r⟩:=ji hd;cases J;obtain⟨E,v,T,_⟩:=I.list q;obtain⟨a,rfl,c⟩:=OD f r v;have w:X.A.handled=J4:=I.ok.hd o
  have y:s.heap.IsList p (vu a.toArray):=by
   have:(a.map λp=>ei p.1 p.2).toArray=vu a.toArray:=by simp[vu]
   rw[<-this];exact T.isList
  have g:0<a.toArray.size:=by
   cases a with
   |nil=>rw[uw] at c;cases l with
    |nil=>exact absurd K3 C
    |cons _ _=>simp at c
   |cons _ _=>simp
  refine min_intList w y g λv M U hv hk=>?_;obtain⟨t,rfl⟩:=intItems_at hv;obtain⟨h1,n⟩:=argBest_lt (fM a.toArray)<|a.toArray.size-1
  have e:ot (l.map Ib)=fM a.toArray (argBest (λi j=>decide<|fM a.toArray i<fM a.toArray j)<|a.toArray.size-1):=by
   rw[<-c]
   have k: ∀j,j<Ls a->fM a.toArray j=(a.map (·.1))[j]!/\(a.map (·.1))[j]?=I8 (fM a.toArray j):=λj b=>by
    have:(a.map (·.1))[j]?=I8 (fM a.toArray j):=by rw[iW,gY b];simp[fM,b]
    exact⟨by rw[List.getElem!_eq_getElem?_getD,this];rfl,this⟩
   have N:a.toArray.size=(Ls a):=by simp
   refine C7 ?_ λx B=>?_
   .exact mM (k _ (by omega)).2
   .obtain⟨j,b⟩:=pY B;have L:j<(Ls a):=by have:=(qc.mp b).1;simpa using this
    rw[(k j L).2] at b;have:=n j (by omega);cases b;exact this
  exact⟨.int _,H,I.kept hk,⟨t,by rw[e]⟩,G.int⟩
 |_=>cases h
end
end PX
namespace TT
def Sv{a:gM}{w:gB}{A:gJ}{E:gX}{s:fY}{Q:gX}(h:Q (.ref s.heap.objs.size) {s with heap:=s.heap.push (jx #[] 0 (kn w))}):af (ah a w) A (newSet<|.type "set") Q E s:=by
 unfold newSet fj;obtain⟨b,g,d,c,os⟩:=s;dsimp only;refine fX<|fX<|tq<|gn ?_;dsimp only;simp only[newObj]
 first
  |exact fX<|Bc<|gn h
  |exact fX<|gn<|fX<|Bc<|gn h
end TT
namespace L2
def N0{X:Cx}{e:gm}{c:mJ}{ir:nQ}{scope:jt}{f:bB}{u:hU}{pre:St->St}{L:TI}{g:TG}{ti:TT}{tb:fV->TB}
  (S:CompScope X u scope pre)(hc:X.calm=KE)(ha:c.is_async=0)(k4: ∀B,ir[0]?=I8 B->B.is_async=0)
  (hs: ∀x,au c.iter X.env x=pure x)(pi:PI X c.target c.iter L)
  (o7: ∀(cl:lA) (C:fV) (E:fY) (p:Hp) (z:jz) (a:gU),let j:=X.comp u scope cl C E p z a
   PG j c.target g/\PIf j c.ifs ti/\ ∀d,PB j (hW (.SetComp e (c::ir) scope f) 0 (.ref d) j.env)<|tb d):
  PE X (.SetComp e (c::ir) scope f) (λi H' Q=>L i H' λJ' O=>F6 (.stt []) J' g ti tb pre i O Q):=by
 intro a s i H' Q I h;obtain⟨n,y,l,U⟩:=c;obtain rfl:U=0:=ha;obtain⟨cl,Z,l4,W⟩:=uh X.env scope λx V K=>I.ok.has x.1<|S.free x V K;rw[arm_eval_SetComp];show af _ X.A (fF _ scope X.env _ (newSet<|.type "set") J (aK y X.env)) _ _ s;refine Ef (use:=J4) (g:=⟨n,y,l,0⟩) (gs:=ir) H hs Z S.kind S.names<|thn (pi a s i H' _ I h) λv s1 h1=>thn h1 λbW s2 F=>?_;obtain⟨it,z,tn,J',H2,rfl,r,T,u6,f2,R⟩:=F;refine TT.Sv ?_;refine wJ (RR:=λk C=>v8 (ah X.prog X.w) X.A X.xe J4 (EP X a i Q) k C) (.inr ⟨_,_,_,_,rfl⟩) H S hc H k4 o7 l4 W r T u6 f2 (r.laid (t':=s2.toks) (o:= .stt []) (λb ob q=>iF _ q) (iD _) ⟨#[],0,_,iQ _ rfl,.nil,TT.TabOk.fresh _ _ _,rfl,rfl⟩) R λd Y E p G σ' s4 M D t q=>?_;obtain⟨m,P,_⟩:=id t.loc;exact⟨m,P,λh' N=>⟨.ref d,G,yV M D t N,rfl,q⟩⟩
end L2
namespace PX
open L2 PySem.SeqAt
def wM(f:F):FB:=λa b=>(f b).bind λp=>if a.all okI=Y/\okI p.1.1=Y/\(Ls a)<500 then I (pU a p.1.1,p.2) else C
def Mn(a:ja)(k:Nat)(c:FIt)(d:Tg)(ti:FT)(b:FB):F:=Fo C a k c d ti b
section
variable {X:Cx}{A:iO}{d:fV}{q:gm}{f:F}
def HM{g:nQ}{sc:jt}{p:bB}{depth:Nat}(hn:g[depth+1]?=J4)(he:PX X q f):PB X (hW (.SetComp q g sc p) depth (.ref d) X.env) (tBx J4 X.K A d<|wM f):=by
 intro x s m H N I hw;obtain⟨J,T,Z,i4,δ',B,e,k⟩:=hw;obtain⟨⟨r,c⟩,h1,e⟩:=fS e;obtain⟨⟨o1,D,o3⟩,e⟩:=gP e;obtain⟨rfl,rfl⟩:=qj e
 have e1:hW (.SetComp q g sc p) depth (.ref d) X.env=(do let v <-aK q X.env;cc q.pos;let _ <-call (.builtin "set.add") [.ref d,v]):=by unfold hW;simp -iota only[clausesOf.eq_def];rw[hn]
 rw[e1];refine fX<|thn (he x s m H (λy h=>Post X.K T m J H r c y h) I ⟨J,T,r,c,B.er,h1,λv h P=>P⟩) λu s1 a'=>?_;obtain⟨y,h,M,ru,P⟩:=a';obtain⟨L,Q⟩:=P.rep B.er;have U:SK A m J H m c h:=P.1.sk;have V:=B.step U L;obtain⟨j,E⟩:=uJ D;dsimp only at E D Q;rw[E] at Q;rw[Q.int] at ru;obtain⟨t0,rfl⟩:=ru;obtain⟨us,R,q3⟩:=V.at';obtain⟨es,n,t,l,S⟩:=OthB.setV M R q3;refine fX<|tx<|fX ?_;refine nc PySem.F.slot_set_add ⟨_,S.is.at_,rfl⟩ PySem.F.entry_set_add ?_<|PySem.F.args_set_add_2 _ _;unfold aQ.«set.add» lm;simp only[xP,uv];unfold dr;refine fX<|gn ?_
 try dsimp only
 refine fX<|gn ?_
 try dsimp only
 refine fX<|SetV.addI S o1 o3 λb h' tk es' n' t' O ht W C=>?_;show af _ _ (ret am) _ _ _;have G:T d:=B.td;have kp: ∀(Y:HO) b u,h b=I8 u-> ¬(OwnA m c b\/T b)->upd h d Y b=I8 u:=λY b u e n=>by rw[gR<|by intro z;subst z;exact n<|.inr G];exact e
 obtain⟨bU,z1,z2⟩:=C.oth (K:=X.K) (H':=upd h d<|.stt<|O.map hv) (O':=λa=>OwnA m c a\/T a) (λp hp=>Rep.mono (kp _) (λ_ _ z=>z)<|C.rep p hp) gS;refine gn ⟨_,rfl,gn ⟨m,upd h d<|.stt<|O.map hv,?_,k m _ ?_ ?_⟩⟩
 .obtain⟨us2,zs2,g4,_⟩:=R;exact vf (t':=tk) M (by rw[g4];exact bA) W ⟨_,C.is.at_⟩ C.objOk
 .have:SKd A d m c h m c (upd h d<|.stt<|O.map hv):=⟨λa o e n nd=>by rw[gR nd];exact e,λi a z=> .inl z,λa z=>by
   by_cases w:a=d
   .subst w;rw[gS];simp
   .rw[gR w];exact z,λ_ _=>rfl⟩
  exact U.skd.trans this
 .refine⟨L.mono (λb o e n=>by rw[gR<|by intro z;subst z;exact n G];exact e) (λ_ _ z=>z) λa z=>?_,G,bU,?_,?_⟩
  .by_cases w:a=d
   .subst w;rw[gS];trivial
   .rw[gR w];exact L.dom a z
  .rw[E];exact z1
  .rw[E];exact z2
variable {c:mJ}{ir:nQ}{scope:jt}{w:bB}{G:hU}{m:ja}{k:Nat}{O:FIt}{E:Tg}{ti:FT}{L:FB}
def Qn(T:CompOk X G scope m k)(o:X.calm=Y)(n:c.is_async=0)(r: ∀e,ir[0]?=I e->e.is_async=0)
  (p: ∀x,au c.iter X.env x=pure x)(t:PIX X (λi=>i∉m) c.target c.iter O)
  (s: ∀(cl:lA) (T:fV) (u:fY) (j:Hp) (l:jz) (a:gU),let b:=X.comp G scope cl T u j l a
   PGX b (λi=>Ls m<=i) c.target E/\PIf b c.ifs (tT X.K ti)/\ ∀d,PB b (hW (.SetComp q (c::ir) scope w) 0 (.ref d) b.env)<|tBx C X.K (λi=>Ls m<=i) d L):
  PX X (.SetComp q (c::ir) scope w) (Mn m k O E ti L):=PX.imp (N0 (g:=tG X.K (λi=>Ls m<=i) E) (ti:=tT X.K ti) (tb:=λd=>tBx C X.K (λi=>Ls m<=i) d L) T.sco o n r p t s) λv U Q h=>Ao (S:=C) h
end
def U8{X:Cx}{n:gm}{f:F}{k:Nat}{o:bB}{c:mJ}{scope:jt}{p:FIt}{r:Tg}{q:FT}{g:ja}{N':hU}(U:CompOk X N' scope g k)(v:N'.Nodup)(y:QI X (λi=>i∉g) c.target c.iter p)
  (w: ∀(cl:lA) (U:fV) (m:fY) (j:Hp) (l:jz) (e:gU),(X.comp N' scope cl U m j l e).N.Nodup->
   QG (X.comp N' scope cl U m j l e) (λi=>Ls g<=i) c.target r/\QF (X.comp N' scope cl U m j l e) c.ifs q/\QX (X.comp N' scope cl U m j l e) n f)
  (t:X.calm=Y:=by rfl)(s:c.is_async=0:=by rfl)(u: ∀x,au c.iter X.env x=pure x:=by intro _;rfl):
  QX X (.SetComp n [c] scope o) (Mn g k p r q<|wM f):=
 ⟨Qn U t s (by intro z h;cases h) u y.h λcl U m j l e=>let⟨a,b,c⟩:=w cl U m j l e v;⟨a.h,b.h,λd=>HM H c.h⟩⟩
def ozD{Z:ZZ}{k:Nat}{x:aO}{st:cb}{N d:hU}{c:ja}{fs:FS}(a:Fz Z.K Z.mg x st)(S:FnScope N d (gk st))(e:Bd Z k x st N d c fs)(b:BdA x st d:=by intro _ _ _ _ _ _;repeat' (first|exact us0 rfl|refine us1 λ_=>?_)):Oz Z (k+1) x d (evF (Ls N) (Ls d) c fs):=ozB a S b e
end PX
set_option backward.eqns.nonrecursive true
namespace PV
open L2 PX
noncomputable abbrev UP:Nat:=100000
abbrev RD:Nat:=6
def xh:FS:=fZ (ip<|oy (iN (qI [.int])<|fR 0)<|Mp<|iN (qI [.bool])<|fR 0) gq
def my:EvF:=evF 1 1 [] xh
def pv:FS:=fZ (ip<|oy (gb my [fR 0])<|js .LtE .LtE (fR 1) (fR 0)<|fR 2) gq
def kU:EvF:=evF 3 3 [] pv
def yN:FS:=fZ (ip<|gb kU [fR 1,fQ<|fC<|.int 1,fR 0]) gq
def pD:EvF:=evF 2 2 [] yN
def tZ:FS:=fZ (ip<|oy (gb my [fR 1])<|gb pD [fR 0,fQ<|gf (g1 ox) [fR 1]]) gq
def lW:EvF:=evF 2 2 [] tZ
def nG:FS:=fZ (sIf (fT<|fU (kQ .Lt) (fR 1)<|fQ<|gf (g1 kz) [fR 0]) (fZ (ip<|fU gIx (fR 0)<|fR 1) gq) gq)<|fZ (ip<|fC<|.int 0) gq
def kM:EvF:=evF 2 2 [] nG
def pk:FS:=fZ (iT 2<|gb kM [fR 0,fR 1])<|fZ (sIf (fT<|fU (kQ .GtE) (fR 2)<|fQ<|fU Ih (fQ<|fC<|.int 10)<|fQ<|fC<|.int 18) (fZ (ip<|jL [fU gSub (fR 2)<|fQ<|fU Ih (fQ<|fC<|.int 10)<|fQ<|fC<|.int 18,fC<|.bl Y]) gq) gq)<|fZ (ip<|jL [fU zu (fR 2)<|fQ<|fC<|.int 2147483647,fC<|.bl J]) gq
def kR:EvF:=evF 3 2 [2] pk
def qJ:FS:=fZ (sIf (fT<|fU gIx (fR 0)<|fQ<|fC<|.int 1) (fZ (iT 2<|fU zu (fQ<|fU gIx (fR 0)<|fQ<|fC<|.int 0)<|fR 1)<|fZ (wj 0 (fU Mf (fQ<|fU gIx (fR 0)<|fQ<|fC<|.int 0)<|fR 1)<|fQ<|fC<|.int 0)<|fZ (ma 2) gq) gq)<|fZ (wj 0 (fU zu (fQ<|fU jX (fQ<|fU nF (fQ<|fU gIx (fR 0)<|fQ<|fC<|.int 0)<|fQ<|fC<|.int 48271)<|fQ<|fC<|.int 29)<|fQ<|fC<|.int 2147483647)<|fQ<|fC<|.int 0)<|fZ (iT 3<|fU zu (fQ<|fU jX (fQ<|fU jX (fQ<|fU nF (fQ<|fU gIx (fR 0)<|fQ<|fC<|.int 0)<|fQ<|fU gIx (fR 0)<|fQ<|fC<|.int 0)<|fQ<|fU nF (fQ<|fC<|.int 39373)<|fQ<|fU gIx (fR 0)<|fQ<|fC<|.int 0)<|fQ<|fC<|.int 7)<|fQ<|fC<|.int 2147483629)<|fZ (iT 3<|fU zu (fQ<|fU jX (fQ<|fU nF (fR 3)<|fR 3)<|fQ<|fU nF (fQ<|fC<|.int 16807)<|fR 3)<|fQ<|fC<|.int 2147483587)<|fZ (ip<|fU zu (fQ<|fU Mf (fR 3)<|fQ<|fC<|.int 8)<|fR 1) gq
def gz:EvF:=evF 4 2 [2,3] qJ
def yL:FS:=fZ (iT 2<|gf (gRg .lst Y) [fQ<|fC<|.int 1,fQ<|fU jX (fR 1)<|fQ<|fC<|.int 1])<|fZ (iT 3<|jL [])<|fZ (rL (uT<|fR 1) (fW 4)<|fZ (jZ<|jo 3<|fU nF (fQ<|ud 2<|fQ<|gb gz [fR 0,fQ<|gf (g1 kz) [fR 2]])<|fQ<|fU gIx (fQ<|jL [fC<|.int 1,iN jW<|fQ<|fC<|.int 1])<|fQ<|gb gz [fR 0,fQ<|fC<|.int 2]) gq)<|fZ (ip<|gf (g1 km) [fR 3]) gq
def nJ:EvF:=evF 5 2 [2,3,4] yL
def mR:FS:=fZ (ip<|fU nF (fQ<|fU gIx (fR 0)<|fQ<|fU gSub (fQ<|gf (g1 ox) [fR 1])<|fQ<|fC<|.int 1)<|fQ<|fU gIx (fQ<|jL [fC<|.int 1,iN jW<|fQ<|fC<|.int 1])<|fQ<|gf (g1 Dk) [fQ<|fU (kQ .Lt) (fR 1)<|fQ<|fC<|.int 0]) gq
def ie:EvF:=evF 2 2 [] mR
def oU:FS:=fZ (ip<|oy (iN (qI [.int])<|fR 0)<|Mp<|iN (qI [.bool])<|fR 0) gq
def hC:EvF:=evF 1 1 [] oU
def uX:FS:=fZ (sIf (ly (hJ<|fT<|iN (qI [.tuple])<|fR 1)<|hJ<|fT<|gf (g1 mr) [fQ<|gE [] 1 (gw<|gF 1) (fW 0) gK<|gx<|gb hC [fR 0]]) (fZ (ip<|fC<|.bl J) gq) gq)<|fZ (ip<|fU gEq (fQ<|gf (g1 mf) [fQ<|gE [] 1 (gw<|gF 1) (fW 0) gK<|gx<|gf (g1 ox) [fR 0]])<|fQ<|gf (gRg .lst Y) [fQ<|fC<|.int 1,fQ<|fU jX (fR 0)<|fQ<|fC<|.int 1]) gq
def nZ:EvF:=evF 2 2 [] uX
def BX:FS:=fZ (ip<|gf (g1 mr) [fQ<|gE [] 2 (qG (gF 0)<|mv (fR 0)<|fQ<|fC<|.int 1) (jv [fW 0,fW 1]) gK<|gx<|fU (kQ .Lt) (fR 0)<|fR 1]) gq
def pB:EvF:=evF 1 1 [] BX
def BY:FS:=fZ (sIf (ly (hJ<|fT<|iN (qI [.tuple])<|fR 1)<|hJ<|fT<|js .LtE .LtE (fQ<|fC<|.int 1) (fQ<|gf (g1 kz) [fR 1])<|fQ<|fC<|.int 5) (fZ (ip<|fC<|.bl J) gq) gq)<|fZ (sIf (hJ<|fT<|gf (g1 mr) [fQ<|gE [0] 1 (gw<|gF 1) (fW 1) gK<|gx<|gb lW [fR 0,fR 1]]) (fZ (ip<|fC<|.bl J) gq) gq)<|fZ (ip<|gb pB [fQ<|gE [] 1 (gw<|gF 1) (fW 0) gK<|gx<|gf (g1 ox) [fR 0]]) gq
def lH:EvF:=evF 2 2 [] BY
def Aj:FS:=fZ (ip<|gb kU [fR 0,fQ<|fC<|.int 0,fQ<|fC<|.int 1]) gq
def oV:EvF:=evF 1 1 [] Aj
def uZ:FS:=fZ (ip<|oy (iN (qI [.tuple])<|fR 1)<|oy (fU gEq (fQ<|gf (g1 kz) [fR 1])<|fR 0)<|gf (g1 mr) [fQ<|gE [] 1 (gw<|gF 1) (fW 0) gK<|gx<|gb oV [fR 0]]) gq
def lI:EvF:=evF 2 2 [] uZ
def Dq:FS:=fZ (ip<|fU gEq (fQ<|fU gIx (fR 0)<|fQ<|fU gSub (fQ<|gf (g1 ox) [fR 1])<|fQ<|fC<|.int 1)<|fQ<|fIf (fT<|fU (kQ .Gt) (fR 1)<|fQ<|fC<|.int 0) (fC<|.int 1)<|fC<|.int 0) gq
def vc:EvF:=evF 2 2 [] Dq
def xx:FS:=fZ (ip<|gf (g1 Fg) [fQ<|gE [0] 1 (gw<|gF 1) (fW 1) gK<|gx<|gb vc [fR 0,fR 1]]) gq
def jM:EvF:=evF 2 2 [] xx
def Mi:FS:=fZ (CF (jv [fW 2,fW 3])<|gF 0)<|fZ (ip<|oy (gb lI [fR 2,fR 1])<|gf (g1 mr) [fQ<|gE [1] 1 (gw<|gF 3) (fW 1) gK<|gx<|gb jM [fR 0,fR 1]]) gq
def vb:EvF:=evF 4 2 [2,3] Mi
def yO:FS:=fZ (iT 1<|jL [iP []])<|fZ (rL (uT<|fR 0) (fW 2)<|fZ (iT 1<|gE [] 2 (gw<|gF 1) (fW 0) gK<|FH (gw<|iP [fC<|.int 0,fC<|.int 1]) (fW 1) gK<|gx<|fU jX (fR 0)<|fQ<|iP [gF 1]) gq)<|fZ (ma 1) gq
def kN:EvF:=evF 3 1 [1,2] yO
def Fl:FS:=fZ (ip<|gE [0] 1 (gw<|gb kN [fQ<|fU gIx (fR 0)<|fQ<|fC<|.int 0]) (fW 1) (fT<|gb vb [fR 0,fR 1])<|gx<|gF 1) gq
def nL:EvF:=evF 1 1 [] Fl
def uY:FS:=fZ (iT 2<|gE [0] 1 (zt (fQ<|fC<|.int 1)<|fQ<|fU jX (fR 1)<|fQ<|fC<|.int 1) (fW 1) (fT<|fU gEq (fQ<|gb gz [fR 0,fQ<|fC<|.int 2])<|fQ<|fC<|.int 0)<|gx<|fU nF (fR 1)<|fQ<|fU gIx (fQ<|jL [fC<|.int 1,iN jW<|fQ<|fC<|.int 1])<|fQ<|gb gz [fR 0,fQ<|fC<|.int 2])<|fZ (sIf (fT<|fU gEq (fR 2)<|fQ<|jL []) (fZ (iT 2<|jL [fU nF (fQ<|fU jX (fQ<|fC<|.int 1)<|fQ<|gb gz [fR 0,fR 1])<|fQ<|fU gIx (fQ<|jL [fC<|.int 1,iN jW<|fQ<|fC<|.int 1])<|fQ<|gb gz [fR 0,fQ<|fC<|.int 2]]) gq) gq)<|fZ (ip<|gf (g1 km) [fR 2]) gq
def ik:EvF:=evF 3 2 [2] uY
def pR:FS:=fZ (iT 2<|gE [1] 1 (gw<|gF 0) (fW 1) gK<|gx<|iP [gf (g1 ox) [fQ<|gb ie [fR 0,fR 1]],gb ie [fR 0,fR 1]])<|fZ (ip<|gf (g1 km) [fQ<|gE [] 2 (gw<|gf (g1 mf) [fR 2]) (jv [fW 0,fW 1]) gK<|gx<|gF 1]) gq
def iA:EvF:=evF 3 2 [2] pR
def wG:FS:=fZ (sIf (fT<|fU gEq (fR 1)<|fQ<|fC<|.int 0) (fZ (ip<|iP [fC<|.int 0,iP []]) gq) gq)<|fZ (iT 2<|fU gIx (fQ<|jL [fC<|.int 3,fC<|.int 5,fC<|.int 12])<|fQ<|gb gz [fR 0,fQ<|fC<|.int 3])<|fZ (iT 3 Mq)<|fZ (rL (uT<|fQ<|gb gz [fR 0,fQ<|fU jX (fR 2)<|fQ<|fC<|.int 1]) (fW 4)<|fZ (wW 3 (fC<|.bl Y)<|fQ<|gb ik [fR 0,fR 1]) gq)<|fZ (iT 5<|gb nJ [fR 0,fR 1])<|fZ (iT 6<|fU Dj (fQ<|gf (g1 BW) [fR 3])<|fQ<|fU gIx (fQ<|jL [fC<|.int 1,fC<|.int 0])<|fQ<|gb gz [fR 0,fQ<|fC<|.int 2])<|fZ (lU (fT<|fU gNe (fR 6)<|fQ<|jL []) (fZ (iT 7<|gb iA [fQ<|fPop 6,fR 5])<|fZ (sIf (fT<|fU rC (fR 7)<|fR 3) (fZ (wW 3 (fC<|.bl Y)<|fR 7)<|fZ (jZ<|jo 6<|gF 7) gq) gq) gq) UP)<|fZ (ip<|iP [gF 1,gf (g1 km) [fQ<|nH (fQ<|gf (g1 uV) [fR 3])<|fQ<|fC<|.int 30]]) gq
def kT:EvF:=evF 8 2 [2,3,4,5,6,7] wG
def Dp:FS:=fZ (ip<|gE [0] 1 (uT<|fQ<|fU RO (fQ<|fC<|.int 1)<|fR 0) (fW 1) gK<|gx<|gf (g1 km) [fQ<|gE [1,0] 1 (uT<|fR 0) (fW 2) gK<|gx<|fU Mh (fQ<|fU RN (fR 0)<|fQ<|fU gSub (fQ<|fU gSub (fR 1)<|fQ<|fC (.int 1))<|fR 2)<|fQ<|fC<|.int 1]) gq
def kj:EvF:=evF 1 1 [] Dp
def uc:FS:=fZ (ip<|gE [1] 1 (gw<|gb nL [fR 0]) (fW 1) (hJ<|fT<|gb jM [fR 1,fR 0])<|gx<|gF 1) gq
def ku:EvF:=evF 2 2 [] uc
def xv:FS:=fZ (ip<|fOr (fU gEq (fR 1)<|fQ<|iP [])<|gb lH [fR 0,fR 1]) gq
def lq:EvF:=evF 2 2 [] xv
def RT:FS:=fZ (ip<|gf (g1 km) [fQ<|gf (g1 wC) [fQ<|gf (g1 mq) [fQ<|Mn [2] 1 (gw<|fU jX (fR 0)<|fR 1) (fW 1) (fT<|fU gNe (fQ<|gf (g1 ox) [(fR 1)])<|fR 0)<|wM<|gF 1]]]) gq
def yQ:EvF:=evF 3 3 [] RT
def Fj:FS:=fZ (sIf (hJ<|fT<|gb lq [fQ<|fU gIx (fR 0)<|fQ<|fC<|.int 0,fR 1]) (fZ EF gq) gq)<|fZ (ip<|fU gEq (fQ<|gb ku [fR 0,fR 1])<|fQ<|jL []) gq
def nK:EvF:=evF 2 2 [] Fj
def wH:FS:=fZ (rL (lT 0<|gF 0) (jv [fW 2,fW 3])<|fZ (sIf (fT<|gf (g1 mr) [fQ<|gE [1] 1 (gw<|gF 3) (fW 1) gK<|gx<|fU gIn (fQ<|iN jW<|fR 1)<|fR 0]) (fZ (ma 2) gq) gq) gq)<|fZ (ip<|fC .non) gq
def kW:EvF:=evF 4 2 [2,3] wH
def mU(a:EvF):FS:=fZ (CF (jv [fW 3,fW 4])<|gF 0)<|fZ (iT 5<|gb kW [fR 4,fR 1])<|fZ (sIf (fT<|fU wD (fR 5)<|fQ<|fC .non) (fZ (jZ<|jo 2<|iP [fU gIx (fR 4)<|fR 5,iP [fC<|.str "given",gF 5]])<|fZ zQ gq) gq)<|fZ (iT 6<|gf (g1 Mb) [fQ<|gE [1] 1 (zt (fQ<|fC<|.int 1)<|fQ<|fU jX (fR 3)<|fQ<|fC<|.int 1) (fW 1) (mx (fT<|fU kL (fR 1)<|fR 0)<|fT<|fU kL (fQ<|iN jW<|fR 1)<|fR 0)<|gx<|gF 1])<|fZ (jZ<|gb a [fR 0,fQ<|fU jX (fR 1)<|fQ<|iP [iN jW<|fR 6],fR 2])<|fZ (iT 7<|fU gSub (fQ<|gf (g1 kz) [fR 2])<|fQ<|fC<|.int 1)<|fZ (sIf (fT<|fU kL (fR 6)<|fQ<|fU gIx (fQ<|fU gIx (fR 2)<|fR 7)<|fQ<|fC<|.int 0) (fZ zQ gq) gq)<|fZ (jZ<|gb a [fR 0,fQ<|fU jX (fR 1)<|fQ<|iP [gF 6],fR 2])<|fZ (iT 8<|fU gSub (fQ<|gf (g1 kz) [fR 2])<|fQ<|fC<|.int 1)<|fZ (sIf (fT<|fU gIn (fQ<|iN jW<|fR 6)<|fQ<|fU gIx (fQ (fU gIx (fR 2) (fR 8))) (fQ (fC (.int 0)))) (fZ (jZ<|jo 2<|iP [gb yQ [fQ<|fU gIx (fQ (fU gIx (fR 2) (fR 7))) (fQ (fC (.int 0))),fQ<|fU gIx (fQ (fU gIx (fR 2) (fR 8))) (fQ (fC (.int 0))),fR 6],iP [fC<|.str "met",gF 7,gF 8,gF 6]]) gq) gq) gq
def jf:Nat->EvF
 |0=>λ_=>C
 |m+1=>evF 9 3 [3,4,5,6,7,8]<|mU<|jf m
def Dm:FS:=fZ (sIf (hJ<|fT<|gb nK [fR 0,fR 1]) (fZ (ip<|fC .non) gq) gq)<|fZ (iT 2<|jL [])<|fZ (jZ<|gb (jf RD) [fR 0,fQ<|gf (g1 km) [fQ<|gE [] 1 (gw<|gF 1) (fW 0) gK<|gx<|iN jW<|fR 0],fR 2])<|fZ (sIf (fT<|fU gNe (fQ<|fU gIx (fQ<|fU gIx (fR 2)<|fQ<|iN jW<|fQ<|fC<|.int 1)<|fQ<|fC<|.int 0)<|fR 1) (fZ (jZ<|jo 2<|iP [gF 1,iP [fC<|.str "wide",fU gSub (fQ<|gf (g1 kz) [fR 2])<|fQ<|fC<|.int 1]]) gq) gq)<|fZ (ip<|gf (g1 km) [fR 2]) gq
def ki:EvF:=evF 3 2 [2] Dm
def Fi:FS:=fZ (ip<|iP [fU gIx (fR 0)<|fQ<|fC<|.int 0,gf (g1 km) [fQ<|gf (g1 mf) [fQ<|gE [1] 1 (gw<|fU gIx (fR 0)<|fQ<|fC<|.int 1) (fW 1) gK<|gx<|gb iA [(fR 1),(fR 0)]]]]) gq
def yR:EvF:=evF 2 2 [] Fi
def zv:FS:=fZ (ip<|gf (g1 Fg) [fQ<|gE [0] 1 (gw<|gF 1) (fW 1) gK<|gx<|fU gEq (fQ<|fU gIx (fR 0)<|fQ<|fU gSub (fQ<|gf (g1 ox) [fR 1])<|fQ<|fC<|.int 1)<|fQ<|gf (g1 Dk) [fQ<|fU (kQ .Gt) (fR 1)<|fQ<|fC<|.int 0]]) gq
def jH:EvF:=evF 2 2 [] zv
def tY:FS:=fZ (iT 1<|jL [])<|fZ (rL (gw<|gb kj [fQ<|fU gIx (fR 0)<|fQ<|fC<|.int 0]) (fW 2)<|fZ (sIf (fT<|gf (g1 mr) [fQ<|gE [2] 1 (gw<|fU gIx (fR 0)<|fQ<|fC<|.int 1) (fW 1) gK<|gx<|gb jH [fR 0,fR 1]]) (fZ (jZ<|jo 1<|gF 2) gq) gq) gq)<|fZ (ma 1) gq
def kr:EvF:=evF 3 1 [1,2] tY
def qK:FS:=fZ (sIf (ly (hJ<|fT<|iN (qI [.tuple])<|fR 1)<|hJ<|fT<|gf (g1 mr) [fQ<|gE [0] 1 (gw<|gF 1) (fW 1) gK<|gx<|oy (gb hC [fR 1])<|js .LtE .LtE (fQ<|fC<|.int 1) (fQ<|gf (g1 ox) [fR 1])<|fR 0]) (fZ (ip<|fC<|.bl J) gq) gq)<|fZ (ip<|gf (g1 mr) [fQ<|gE [] 2 (qG (gF 1)<|mv (fR 1)<|fQ<|fC<|.int 1) (jv [fW 0,fW 1]) gK<|gx<|fU (kQ .Lt) (fQ<|gf (g1 ox) [fR 0])<|fQ<|gf (g1 ox) [fR 1]]) gq
def jT:EvF:=evF 2 2 [] qK
def zw:FS:=fZ (sIf (ly (hJ<|fT<|iN (qI [.tuple])<|fR 3)<|ly (fT<|fU (kQ .Lt) (fQ<|gf (g1 kz) [fR 3])<|fQ<|fC<|.int 2)<|fT<|fU kL (fQ<|fU gIx (fR 3)<|fQ<|fC<|.int 0)<|fQ<|iP [fC<|.str "given",fC<|.str "met",fC<|.str "led",fC<|.str "wide"]) (fZ (ip<|fC<|.bl J) gq) gq)<|fZ (sIf (mx (fT<|fU gEq (fQ<|fU gIx (fR 3)<|fQ<|fC<|.int 0)<|fQ<|fC<|.str "met")<|mx (fT<|fU gEq (fQ<|gf (g1 kz) [fR 3])<|fQ<|fC<|.int 4)<|fT<|gf (g1 mr) [fQ<|gE [] 1 (gw<|mv (fR 3)<|fQ<|fC<|.int 1) (fW 0) gK<|gx<|gb hC [fR 0]]) (fZ (CF (jv [fW 4,fW 5,fW 6])<|mv (fR 3)<|fQ<|fC<|.int 1)<|fZ (sIf (ly (hJ<|fT<|js .LtE .Lt (fQ<|fC<|.int 0) (fR 4)<|fQ<|gf (g1 kz) [fR 1])<|ly (hJ<|fT<|js .LtE .Lt (fQ<|fC<|.int 0) (fR 5)<|fQ<|gf (g1 kz) [fR 1])<|hJ<|fT<|js .LtE .LtE (fQ<|fC<|.int 1) (fR 6)<|fQ<|fU gIx (fR 0)<|fQ<|fC<|.int 0) (fZ (ip<|fC<|.bl J) gq) gq)<|fZ (iT 7<|gf (g1 mq) [fQ<|gf (g1 GQ) [fQ<|fU jX (fQ<|gE [6] 1 (gw<|fU gIx (fR 1)<|fR 4) (fW 1) (fT<|fU gNe (fR 1)<|fR 0)<|gx<|gF 1)<|fQ<|gE [6] 1 (gw<|fU gIx (fR 1)<|fR 5) (fW 1) (fT<|fU gNe (fR 1)<|fQ<|iN jW<|fR 0)<|gx<|gF 1]])<|fZ (ip<|oy (fU gIn (fR 6)<|fQ<|fU gIx (fR 1)<|fR 4)<|oy (fU gIn (fQ<|iN jW<|fR 6)<|fQ<|fU gIx (fR 1)<|fR 5)<|fU gEq (fR 7)<|fQ<|gf (g1 mf) [fR 2]) gq) gq)<|fZ (sIf (ly (fT<|fU gEq (fQ<|fU gIx (fR 3)<|fQ<|fC<|.int 0)<|fQ<|fC<|.str "met")<|ly (hJ<|fT<|gb hC [fQ<|fU gIx (fR 3)<|fQ<|fC<|.int 1])<|ly (fT<|fU (kQ .Lt) (fQ<|fU gIx (fR 3)<|fQ<|fC<|.int 1)<|fQ<|fC<|.int 0)<|fT<|fU gNe (fQ<|gf (g1 kz) [fR 3])<|fQ<|fU jX (fQ<|fC<|.int 2)<|fQ<|gf (g1 Dk) [fQ<|fU gEq (fQ<|fU gIx (fR 3) (fQ (fC (.int 0))))<|fQ (fC (.str "led"))]) (fZ (ip<|fC<|.bl J) gq) gq)<|fZ (sIf (fT<|fU gEq (fQ<|fU gIx (fR 3)<|fQ<|fC<|.int 0)<|fQ<|fC<|.str "given") (fZ (ip<|oy (fU (kQ .Lt) (fQ<|fU gIx (fR 3)<|fQ<|fC<|.int 1)<|fQ<|gf (g1 kz) [fQ<|fU gIx (fR 0)<|fQ<|fC<|.int 1])<|fU gEq (fQ<|fU gIx (fQ<|fU gIx (fR 0)<|fQ<|fC<|.int 1)<|fQ<|fU gIx (fR 3)<|fQ<|fC<|.int 1)<|fR 2) gq) gq)<|fZ (sIf (fT<|fU (kQ .GtE) (fQ<|fU gIx (fR 3)<|fQ<|fC<|.int 1)<|fQ<|gf (g1 kz) [fR 1]) (fZ (ip<|fC<|.bl J) gq) gq)<|fZ (sIf (fT<|fU gEq (fQ<|fU gIx (fR 3)<|fQ<|fC<|.int 0)<|fQ<|fC<|.str "wide") (fZ (ip<|fU gEq (fQ<|gE [2] 1 (gw<|fU gIx (fR 1)<|fQ<|fU gIx (fR 3)<|fQ<|fC (.int 1)) (fW 1) (fT<|fU kL (fR 1)<|fR 0)<|gx<|gF 1)<|fQ<|jL []) gq) gq)<|fZ (iT 8<|fU gIx (fR 3)<|fQ<|fC<|.int 2)<|fZ (sIf (ly (hJ<|fT<|gb nZ [fQ<|fU gIx (fR 0)<|fQ<|fC (.int 0),fR 8])<|fT<|fU gNe (fQ<|gb yR [fR 0,fR 8])<|fR 0) (fZ (ip<|fC<|.bl J) gq) gq)<|fZ (ip<|fU gEq (fQ<|gb iA [fQ<|fU gIx (fR 1)<|fQ (fU gIx (fR 3) (fQ (fC (.int 1)))),fR 8])<|fR 2) gq
def jY:EvF:=evF 9 4 [4,5,6,7,8] zw
def xw:FS:=fZ (sIf (ly (hJ<|fT<|iN (qI [.tuple])<|fR 1)<|hJ<|fT<|js .LtE .LtE (fQ<|fC<|.int 1) (fQ<|gf (g1 kz) [fR 1])<|fQ<|fC<|.int 200) (fZ (ip<|fC<|.bl J) gq) gq)<|fZ (iT 2<|jL [])<|fZ (rL (gw<|gF 1) (fW 3)<|fZ (sIf (ly (hJ<|fT<|iN (qI [.tuple])<|fR 3)<|ly (fT<|fU gNe (fQ<|gf (g1 kz) [fR 3])<|fQ<|fC<|.int 2)<|hJ<|fT<|gb jT [fQ<|fU gIx (fR 0)<|fQ<|fC<|.int 0,fQ<|fU gIx (fR 3)<|fQ<|fC<|.int 0]) (fZ (ip<|fC<|.bl J) gq) gq)<|fZ (sIf (hJ<|fT<|gb jY [fR 0,fR 2,fQ<|fU gIx (fR 3)<|fQ<|fC<|.int 0,fQ<|fU gIx (fR 3)<|fQ<|fC<|.int 1]) (fZ (ip<|fC<|.bl J) gq) gq)<|fZ (jZ<|jo 2<|fU gIx (fR 3)<|fQ<|fC<|.int 0) gq)<|fZ (ip<|fC<|.bl Y) gq
def lr:EvF:=evF 4 2 [2,3] xw
def wF:FS:=fZ (iT 3<|gb ki [fR 0,fR 2])<|fZ (sIf (hJ<|fT<|gf (g1 mr) [fQ<|gE [2] 1 (gw<|gF 1) (fW 1) gK<|gx<|gb jH [fR 1,fR 0]]) (fZ (ip<|fU gIs (fR 3)<|fQ<|fC .non) gq) gq)<|fZ (ip<|oy (gb lr [fR 0,fR 3])<|oy (fU gEq (fQ<|fU gIx (fQ<|fU gIx (fR 3)<|fQ<|iN jW<|fQ<|fC<|.int 1)<|fQ<|fC<|.int 0)<|fR 2)<|fU gEq (fQ<|gb ki [fR 0,fR 2])<|fR 3) gq
def gW:EvF:=evF 4 3 [3] wF
def yM:FS:=fZ (sIf (ly (fT<|fU wD (fQ<|gb ki [fQ<|iP [fC<|.int 0,iP []],fQ<|iP []])<|fQ<|fC .non)<|hJ<|fT<|gb gW [fQ<|iP [fC<|.int 1,iP [iP [(iN jW<|fQ<|fC<|.int 1)],iP [(fC<|.int 1)]]],fQ<|jL [],fQ<|iP []]) (fZ (ip<|fC<|.bl J) gq) gq)<|fZ (rL (uT<|fQ<|gf (g2 Md) [fQ<|fC<|.int 1,fQ<|gf (g2 Mc) [fQ<|gf (g1 kz) [fR 0],fQ<|fC<|.int 5]]) (fW 1)<|fZ (iT 2<|gb kR [fR 0,fR 1])<|fZ (iT 3<|gb kT [fR 2,fQ<|fU gIx (fQ<|jL [gb gz [fR 2,fQ<|fC<|.int 6],fC<|.int 3,fC<|.int 4,fC<|.int 5])<|fQ<|gb gz [fR 2,fQ<|fC<|.int 4]])<|fZ (iT 4<|gb kr [fR 3])<|fZ (iT 5<|fU jX (fQ<|jL [iP []])<|fQ<|gf (g1 uW) [fQ<|nH (fQ<|fU gIx (fR 3)<|fQ<|fC (.int 1))<|fQ<|fC<|.int 2])<|fZ (sIf (fT<|fU (kQ .Gt) (fQ<|fU gIx (fR 3)<|fQ<|fC<|.int 0)<|fQ<|fC<|.int 0) (fZ (iT 5<|fU jX (fR 5)<|fQ<|gE [2,3] 1 (uT<|fQ<|fC<|.int 4) (fW 2) gK<|gx<|gb ik [fR 0,fQ<|fU gIx (fR 1) (fQ (fC (.int 0)))]) gq) gq)<|fZ (sIf (hJ<|fT<|gf (g1 mr) [fQ<|gE [3,4] 1 (gw<|gF 5) (fW 2) gK<|gx<|gb gW [fR 0,fR 1,fR 2]]) (fZ (ip<|fC<|.bl J) gq) gq)<|fZ (sIf (mx (fT<|fU gNe (fR 4)<|fQ<|jL [])<|fT<|fU (kQ .Gt) (fQ<|fU gIx (fR 3)<|fQ (fC (.int 0)))<|fQ<|fC (.int 0)) (fZ (iT 6<|fU gIx (fR 4)<|fQ<|gb gz [fR 2,fQ<|gf (g1 kz) [fR 4]])<|fZ (iT 7<|gf (g1 km) [fQ<|gE [] 2 (lT 1<|gF 6) (jv [fW 0,fW 1]) gK<|gx (fU gIx (fQ (jL [gF 0,iN jW (fR 0)])) (fR 1))])<|fZ (sIf (hJ<|fT<|gb gW [fR 3,fR 4,fR 7]) (fZ (ip<|fC<|.bl J) gq) gq) gq) gq)<|fZ (rL (gw<|nH (fQ<|gb kj [fQ<|fU gIx (fR 3) (fQ (fC (.int 0)))])<|fQ<|fC (.int 2)) (fW 8)<|fZ (iT 7<|gf (g1 km) [fQ<|gE [] 2 (lT 1 (gF 8)) (jv [fW 0,fW 1]) gK (gx (fU gIx (fQ (jL [gF 0,iN jW (fR 0)])) (fR 1)))])<|fZ (sIf (hJ<|fT (gb gW [fR 3,fR 4,fR 7])) (fZ (ip<|fC (.bl J)) gq) gq) gq) gq)<|fZ (ip<|fC<|.bl Y) gq
def sA:EvF:=evF 9 1 [1,2,3,4,5,6,7,8] yM
end PV
namespace K63
open L2 PX PV
noncomputable def top(i:Nat):Stmt:=PySem.Challenge.pw_twinriddles_k63_papers_told.main.body.getD i<|.Pass ⟨0,0,0,0⟩
section
variable {Z:ZZ}{k:Nat}
noncomputable abbrev tM:Stmt:=top 5
abbrev tX(Z:ZZ)(k:Nat):Prop:=Oz Z k "is_whole" ["thing"] my
def CU(a:Fz Z.K Z.mg "is_whole" tM)(T:Tx Z.mg):tX Z (k+1):=by have S:FnScope ["thing"] ["thing"] (gk tM):=scM;refine ozD a S λf c A b s U E L d e g i h j l=>?_;exact(s1 (sR<|vW (xI T H xV)<|xBo<|SQ<|xI T H xV) s0)
noncomputable abbrev qy:Stmt:=top 6
abbrev qF(Z:ZZ)(k:Nat):Prop:=Oz Z k "is_number" ["thing","least","most"] kU
def BI(a:Fz Z.K Z.mg "is_number" qy)(T:Tx Z.mg)(d:tX Z k):qF Z (k+1):=by have S:FnScope ["thing","least","most"] ["thing","least","most"] (gk qy):=scM;refine ozD a S λf e A b s U E L g c h j i l m=>?_;exact(s1 (sR<|vW (xU d c<|xA xV xA0)<|xBo<|xCh xV xV xV) s0)
noncomputable abbrev yu:Stmt:=top 7
abbrev CV(Z:ZZ)(k:Nat):Prop:=Oz Z k "is_bit" ["thing"] oV
def HQ(a:Fz Z.K Z.mg "is_bit" yu)(T:Tx Z.mg)(d:qF Z k):CV Z (k+1):=by have S:FnScope ["thing"] ["thing"] (gk yu):=scM;refine ozD a S λf e A b s U E L g c h j i l m=>?_;exact(s1 (sR<|xU d c<|xA xV<|xA (xO x3)<|xA (xO x3) xA0) s0)
noncomputable abbrev wc:Stmt:=top 8
abbrev zV(Z:ZZ)(k:Nat):Prop:=Oz Z k "is_name" ["names","thing"] pD
def E5(a:Fz Z.K Z.mg "is_name" wc)(T:Tx Z.mg)(d:qF Z k):zV Z (k+1):=by have S:FnScope ["names","thing"] ["names","thing"] (gk wc):=scM;refine ozD a S λf e A b s U E L g c h j i l m=>?_;exact(s1 (sR<|xU d c<|xA xV<|xA (xO x3)<|xA xV xA0) s0)
noncomputable abbrev wa:Stmt:=top 9
abbrev zU(Z:ZZ)(k:Nat):Prop:=Oz Z k "is_sign" ["names","thing"] lW
def EZ(a:Fz Z.K Z.mg "is_sign" wa)(T:Tx Z.mg)(e:tX Z k)(b:zV Z k):zU Z (k+1):=by have S:FnScope ["names","thing"] ["names","thing"] (gk wa):=scM;refine ozD a S λf g A c s U E L h d i l j m n=>?_;exact(s1 (sR<|vW (xU e d<|xA xV xA0)<|xBo<|xU b d<|xA xV<|xA (xO<|xB T H ⟨kf⟩<|xA xV xA0) xA0) s0)
noncomputable abbrev qx:Stmt:=top 10
abbrev xa(Z:ZZ)(k:Nat):Prop:=Oz Z k "is_rising" ["things"] pB
def BH(a:Fz Z.K Z.mg "is_rising" qx)(T:Tx Z.mg):xa Z (k+1):=by have S:FnScope ["things"] ["things"] (gk qx):=scM;refine ozD a S λf e A c s U E L g h d j i l b=>?_;exact(s1 (sR<|xB T H ⟨jP H⟩<|xA (xO<|by exact xC (N':=["one","other"]) (cOk S) (by decide+kernel) (iZ T xW<|M5 xV<|xO x3) λ_ _ _ _ _ _ b=>⟨gT (gN b)<|gN b,f0,λ_=>bE<|nP ⟨kO (.inl H) d⟩ xV xV⟩) xA0) s0)
noncomputable abbrev qz:Stmt:=top 11
abbrev xb(Z:ZZ)(k:Nat):Prop:=Oz Z k "is_clause" ["names","thing"] lH
def BJ(a:Fz Z.K Z.mg "is_clause" qz)(T:Tx Z.mg)(h: ∃t,Z.mg "MOST_SIGNS"=I (.int 5 t))(c:zU Z k)(b:xa Z k):xb Z (k+1):=by have S:FnScope ["names","thing"] ["names","thing"] (gk qz):=scM;refine ozD a S λf i A e s U E L j g l n m o d=>?_;exact(s1 (sI (tW<|wOr (tNot<|ml<|xI T H xV)<|zi<|tNot<|tCh (xO x3) (xO<|xB T H ⟨iB⟩<|xA xV xA0)<|xO<|x5 h) (s1 (sR x2) s0) s0)<|s1 (sI (tNot<|ml<|xB T H ⟨jP H⟩<|xA (xO<|by exact xC (N':=["names","sign"]) (cOk S) (by decide+kernel) (iS xW) λ_ _ _ _ _ _ d=>⟨gN d,f0,λ_=>bE<|xU c g<|xA xV<|xA xV xA0⟩) xA0) (s1 (sR x2) s0) s0)<|s1 (sR<|xU b g<|xA (xO<|by exact xC (N':=["sign"]) (cOk S) (by decide+kernel) (iS xW) λ_ _ _ _ _ _ d=>⟨gN d,f0,λ_=>bE<|xB T H ⟨kf⟩<|xA xV xA0⟩) xA0) s0)
noncomputable abbrev qA:Stmt:=top 12
abbrev xc(Z:ZZ)(k:Nat):Prop:=Oz Z k "is_answer" ["names","thing"] lI
def BK(a:Fz Z.K Z.mg "is_answer" qA)(T:Tx Z.mg)(b:CV Z k):xc Z (k+1):=by have S:FnScope ["names","thing"] ["names","thing"] (gk qA):=scM;refine ozD a S λf h A c s U E L i e g l j m d=>?_;exact(s1 (sR<|vW (xI T H xV)<|vW (nP ⟨jU g⟩ (xO<|xB T H ⟨iB⟩<|xA xV xA0) xV)<|xBo<|xB T H ⟨jP H⟩<|xA (xO<|by exact xC (N':=["bit"]) (cOk S) (by decide+kernel) (iS xW) λ_ _ _ _ _ _ d=>⟨gN d,f0,λ_=>bE<|xU b e<|xA xV xA0⟩) xA0) s0)
noncomputable abbrev Bx:Stmt:=top 13
abbrev Gu(Z:ZZ)(k:Nat):Prop:=Oz Z k "is_so" ["answer","sign"] vc
def Lr(a:Fz Z.K Z.mg "is_so" Bx)(T:Tx Z.mg):Gu Z (k+1):=by have S:FnScope ["answer","sign"] ["answer","sign"] (gk Bx):=scM;refine ozD a S λf d A b s U E L e g c i h j l=>?_;exact(s1 (sR<|nP ⟨jU c⟩ (xO<|xIx xV<|xO<|ju ⟨mT⟩ (xO<|xB T H ⟨kf⟩<|xA xV xA0)<|xO x3)<|xO<|xIf (tCmp ⟨kO (.inr<|.inr<|.inl H) c⟩ xV<|xO x3) x3 x3) s0)
noncomputable abbrev ny:Stmt:=top 14
abbrev nD(Z:ZZ)(k:Nat):Prop:=Oz Z k "keeps_clause" ["answer","clause"] jM
def xt(a:Fz Z.K Z.mg "keeps_clause" ny)(T:Tx Z.mg)(b:Gu Z k):nD Z (k+1):=by have S:FnScope ["answer","clause"] ["answer","clause"] (gk ny):=scM;refine ozD a S λf g A c s U E L h e i l j m d=>?_;exact(s1 (sR<|xB T H ⟨Au H⟩<|xA (xO<|by exact xC (N':=["answer","sign"]) (cOk S) (by decide+kernel) (iS xW) λ_ _ _ _ _ _ d=>⟨gN d,f0,λ_=>bE<|xU b e<|xA xV<|xA xV xA0⟩) xA0) s0)
noncomputable abbrev Bw:Stmt:=top 15
abbrev Gs(Z:ZZ)(k:Nat):Prop:=Oz Z k "keeps" ["riddle","thing"] vb
def Lq(a:Fz Z.K Z.mg "keeps" Bw)(T:Tx Z.mg)(b:xc Z k)(g:nD Z k):Gs Z (k+1):=by have S:FnScope ["riddle","thing","names","clauses"] ["riddle","thing"] (gk Bw):=scM;refine ozD a S λf h A d s U E L i e j m l n c=>?_;exact(s1 (sT xW<|gT (gN c)<|gN c)<|s1 (sR<|vW (xU b e<|xA xV<|xA xV xA0)<|xBo<|xB T H ⟨jP H⟩<|xA (xO<|by exact xC (N':=["thing","clause"]) (cOk S) (by decide+kernel) (iS xW) λ_ _ _ _ _ _ c=>⟨gN c,f0,λ_=>bE<|xU g e<|xA xV<|xA xV xA0⟩) xA0) s0)
noncomputable abbrev oo:Stmt:=top 16
abbrev sx(Z:ZZ)(k:Nat):Prop:=Oz Z k "all_answers" ["names"] kN
def yE(a:Fz Z.K Z.mg "all_answers" oo)(T:Tx Z.mg):sx Z (k+1):=by have S:FnScope ["names","begun","place"] ["names"] (gk oo):=scM;refine ozD a S λf e A c s U E L d g i l j m b=>?_;exact(s1 (sS b<|mS<|xL (lP xL0) xL0)<|s1 (sF (iR1 T<|xA xV xA0) (gN b)<|s1 (sC (N':=["begin","bit"]) b (cOk S) (by decide+kernel) (iS xW) λ_ _ _ _ _ _ b=>⟨gN b,f0,λ_=>bF H (iS<|lP<|xL x3<|xL x3 xL0) (gN b) f0<|bE<|ju ⟨jK⟩ xV<|xO<|lP<|xL xW xL0⟩) s0)<|s1 (sRV λh=>absurd (d _ h)<|by decide) s0)
noncomputable abbrev wg:Stmt:=top 17
abbrev zY(Z:ZZ)(k:Nat):Prop:=Oz Z k "answers" ["riddle"] nL
def E7(a:Fz Z.K Z.mg "answers" wg)(T:Tx Z.mg)(b:sx Z k)(c:Gs Z k):zY Z (k+1):=by have S:FnScope ["riddle"] ["riddle"] (gk wg):=scM;refine ozD a S λf h A d s U E L i e j m l n g=>?_;exact(s1 (sR<|by exact xC (N':=["riddle","answer"]) (cOk S) (by decide+kernel) (iS<|xU b e<|xA (xO<|xIx xV<|xO x3) xA0) λ_ _ _ _ _ _ g=>⟨gN g,f1<|ml<|xU c e<|xA xV<|xA xV xA0,λ_=>bE xW⟩) s0)
noncomputable abbrev lG:Stmt:=top 18
abbrev nY(Z:ZZ)(k:Nat):Prop:=Oz Z k "answers_against" ["riddle","clause"] ku
def tR(a:Fz Z.K Z.mg "answers_against" lG)(T:Tx Z.mg)(b:zY Z k)(g:nD Z k):nY Z (k+1):=by have S:FnScope ["riddle","clause"] ["riddle","clause"] (gk lG):=scM;refine ozD a S λf h A c s U E L i d j m l n e=>?_;exact(s1 (sR<|by exact xC (N':=["clause","answer"]) (cOk S) (by decide+kernel) (iS<|xU b d<|xA xV xA0) λ_ _ _ _ _ _ e=>⟨gN e,f1<|tNot<|ml<|xU g d<|xA xV<|xA xV xA0,λ_=>bE xW⟩) s0)
abbrev nr:Stmt:=top 20
abbrev qC(Z:ZZ)(k:Nat):Prop:=Oz Z k "may_be_shown" ["names","thing"] lq
def xo(a:Fz Z.K Z.mg "may_be_shown" nr)(T:Tx Z.mg)(b:xb Z k):qC Z (k+1):=by have S:FnScope ["names","thing"] ["names","thing"] (gk nr):=scM;refine ozD a S λf g A c s U E L h d e j i l m=>?_;exact(s1 (sR<|xOr (nP ⟨jU e⟩ xV<|xO<|lP xL0)<|xBo<|xU b d<|xA xV<|xA xV xA0) s0)
abbrev Kf:Stmt:=top 21
abbrev Lv(Z:ZZ)(k:Nat):Prop:=Oz Z k "met" ["one","other","name"] yQ
def Rw(a:Fz Z.K Z.mg "met" Kf)(T:Tx Z.mg):Lv Z (k+1):=by have S:FnScope ["one","other","name"] ["one","other","name"] (gk Kf):=scM;refine ozD a S λf g A b s U E L h i d j e l c=>?_;exact(s1 (sR<|xT T H ⟨jl⟩<|xA (xO<|xSA T<|xA (xO<|xB T H ⟨vg H e⟩<|xA (xO<|by exact U8 (N':=["name","sign"]) (cOk S) (by decide+kernel) (iS<|ju ⟨jK⟩ xV xV) λ_ _ _ _ _ _ c=>⟨gN c,f1<|tCmp ⟨pd d⟩ (xO<|xB T H ⟨kf⟩<|xA xV xA0) xV,xW⟩) xA0) xA0) xA0) s0)
abbrev we:Stmt:=top 22
abbrev zW(Z:ZZ)(k:Nat):Prop:=Oz Z k "follows" ["riddle","clause"] nK
def E6(a:Fz Z.K Z.mg "follows" we)(T:Tx Z.mg)(c:qC Z k)(b:nY Z k):zW Z (k+1):=by have S:FnScope ["riddle","clause"] ["riddle","clause"] (gk we):=scM;refine ozD a S λf h A d s U E L i e g l j m n=>?_;exact(s1 (sI (tNot<|ml<|xU c e<|xA (xO<|xIx xV<|xO x3)<|xA xV xA0) (s1 sX s0) s0)<|s1 (sR<|nP ⟨jU g⟩ (xO<|xU b e<|xA xV<|xA xV xA0)<|xO<|mS xL0) s0)
abbrev mG:Stmt:=top 23
abbrev mH(Z:ZZ)(k:Nat):Prop:=Oz Z k "first_against" ["clauses","so"] kW
def wu(a:Fz Z.K Z.mg "first_against" mG)(T:Tx Z.mg):mH Z (k+1):=by have S:FnScope ["clauses","so","at","clause"] ["clauses","so"] (gk mG):=scM;refine ozD a S λf g A c s U E L d i e l j m b=>?_;exact(s1 (sF (iE T xW) (gT (gN b)<|gN b)<|s1 (sI (ml<|xB T H ⟨jP H⟩<|xA (xO<|by exact xC (N':=["so","sign"]) (cOk S) (by decide+kernel) (iS xW) λ_ _ _ _ _ _ b=>⟨gN b,f0,λ_=>bE<|nP ⟨BD e⟩ (xO<|rK xV) xV⟩) xA0) (s1 (sRV λh=>absurd (d _ h)<|by decide) s0) s0) s0)<|s1 (sR x1) s0)
abbrev mn:Stmt:=top 24
abbrev CW(Z:ZZ)(k:Nat):Prop:=Oz Z k "add_steps" ["riddle","so","steps"] (jf RD)
def vq:BdA "add_steps" mn ["riddle","so","steps"]:=λ_ _ _ _ _ _=>us1 λ_=>us1 λ_=>us1 λ_=>us0 H
def zk{e:EvF}(a:Fz Z.K Z.mg "add_steps" mn)(T:Tx Z.mg)(i:mH Z k)(j:Lv Z k)(h:Oz Z k "add_steps" ["riddle","so","steps"] e):Oz Z (k+1) "add_steps" ["riddle","so","steps"] (evF 9 3 [3,4,5,6,7,8]<|mU e):=by have S:FnScope ["riddle","so","steps","names","clauses","at","name","one","other"] ["riddle","so","steps"] (gk mn):=scM;refine ozB (asg:=[3,4,5,6,7,8]) (fs:=mU e) a S vq λf l A g s U E L m c d o n p b=>?_;exact(s1 (sT xW<|gT (gN b)<|gN b)<|s1 (sS b<|xU i c<|xA xV<|xA xV xA0)<|s1 (sI (tCmp ⟨zR⟩ xV<|xO x1) (s1 (sE<|Eu xV<|lP<|xL (xIx xV xV)<|xL (lP<|xL x4<|xL xW xL0) xL0)<|s1 sRN s0) s0)<|s1 (sS b<|xB T H ⟨Iz H⟩<|xA (xO<|by exact xC (N':=["so","free"]) (cOk S) (by decide+kernel) (iR2 T<|xA (xO x3)<|xA (xO<|ju ⟨jK⟩ xV<|xO x3) xA0) λ_ _ _ _ _ _ b=>⟨gN b,f1<|tW<|Na (tCmp ⟨oN d⟩ xV xV)<|JP<|tCmp ⟨oN d⟩ (xO<|rK xV) xV,λ_=>bE xW⟩) xA0)<|s1 (sE<|xU h c<|xA xV<|xA (xO<|ju ⟨jK⟩ xV<|xO<|lP<|xL (rK xV) xL0)<|xA xV xA0)<|s1 (sS b<|ju ⟨mT⟩ (xO<|xB T H ⟨iB⟩<|xA xV xA0)<|xO x3)<|s1 (sI (tCmp ⟨oN d⟩ xV<|xO<|xIx (xO<|xIx xV xV)<|xO x3) (s1 sRN s0) s0)<|s1 (sE<|xU h c<|xA xV<|xA (xO<|ju ⟨jK⟩ xV<|xO (lP (xL xW xL0)))<|xA xV xA0)<|s1 (sS b<|ju ⟨mT⟩ (xO<|xB T H ⟨iB⟩<|xA xV xA0)<|xO x3)<|s1 (sI (tCmp ⟨BD d⟩ (xO<|rK xV)<|xO<|xIx (xO<|xIx xV xV)<|xO x3) (s1 (sE<|Eu xV<|lP<|xL (xU j c (xA (xO (xIx (xO (xIx xV xV)) (xO x3))) (xA (xO (xIx (xO (xIx xV xV)) (xO x3))) (xA xV xA0)))) (xL (lP (xL x4 (xL xW (xL xW (xL xW xL0))))) xL0)) s0) s0) s0)
theorem uI(a:Fz Z.K Z.mg "add_steps" mn)(T:Tx Z.mg)(b:mH Z k)(c:Lv Z k): ∀m,Oz Z (k+m) "add_steps" ["riddle","so","steps"] (jf m)
 |0=>(oz0 a vq).up (by omega)
 |m+1=>zk a T (b.up<|l9 k m) (c.up<|l9 k m)<|uI a T b c m
abbrev tJ:Stmt:=top 25
abbrev tU(Z:ZZ)(k:Nat):Prop:=Oz Z k "paper_of" ["riddle","clause"] ki
def CQ(a:Fz Z.K Z.mg "paper_of" tJ)(T:Tx Z.mg)(b:zW Z k)(h:CW Z k):tU Z (k+1):=by have S:FnScope ["riddle","clause","steps"] ["riddle","clause"] (gk tJ):=scM;refine ozD a S λf i A d s U E L j e g m l n c=>?_;exact(s1 (sI (tNot<|ml<|xU b e<|xA xV<|xA xV xA0) (s1 (sR x1) s0) s0)<|s1 (sS c<|mS xL0)<|s1 (sE<|xU h e<|xA xV<|xA (xO<|xT T H ⟨jl⟩<|xA (xO<|by exact xC (N':=["sign"]) (cOk S) (by decide+kernel) (iS xW) λ_ _ _ _ _ _ c=>⟨gN c,f0,λ_=>bE<|rK xV⟩) xA0)<|xA xV xA0)<|s1 (sI (tCmp ⟨pd g⟩ (xO<|xIx (xO<|xIx xV<|xO<|rK<|xO x3)<|xO x3) xV) (s1 (sE<|Eu xV<|lP<|xL xW<|xL (lP<|xL x4<|xL (ju ⟨mT⟩ (xO<|xB T H ⟨iB⟩<|xA xV xA0)<|xO x3) xL0) xL0) s0) s0)<|s1 (sR<|xT T H ⟨jl⟩<|xA xV xA0) s0)
noncomputable abbrev oj:Stmt:=top 27
abbrev su(Z:ZZ)(k:Nat):Prop:=Oz Z k "_law_cell_at" ["_law_script","_law_k"] kM
def yC(a:Fz Z.K Z.mg "_law_cell_at" oj)(T:Tx Z.mg):su Z (k+1):=by have S:FnScope ["_law_script","_law_k"] ["_law_script","_law_k"] (gk oj):=scM;refine ozD a S λf d A b s U E L e g c i h j l=>?_;exact(s1 (sI (tCmp ⟨kO (.inl H) c⟩ xV<|xO<|xB T H ⟨iB⟩<|xA xV xA0) (s1 (sR<|xIx xV xV) s0) s0)<|s1 (sR x3) s0)
noncomputable abbrev qv:Stmt:=top 28
abbrev wY(Z:ZZ)(k:Nat):Prop:=Oz Z k "_law_state" ["_law_script","_law_k"] kR
def BF(a:Fz Z.K Z.mg "_law_state" qv)(T:Tx Z.mg)(b:su Z k):wY Z (k+1):=by have S:FnScope ["_law_script","_law_k","_law_cell"] ["_law_script","_law_k"] (gk qv):=scM;refine ozD a S λf h A c s U E L i d e l j m g=>?_;exact(s1 (sS g<|xU b d<|xA xV<|xA xV xA0)<|s1 (sI (tCmp ⟨kO (.inr<|.inr<|.inr H) e⟩ xV<|xO<|ju ⟨Gm⟩ (xO x3)<|xO x3) (s1 (sR<|mS<|xL (ju ⟨mT⟩ xV<|xO<|ju ⟨Gm⟩ (xO x3)<|xO x3)<|xL x2 xL0) s0) s0)<|s1 (sR<|mS<|xL (ju ⟨rk⟩ xV<|xO x3)<|xL x2 xL0) s0)
noncomputable abbrev tK:Stmt:=top 29
abbrev nC(Z:ZZ)(k:Nat):Prop:=Oz Z k "_law_take" ["_law_state_here","_law_many"] gz
def CS(a:Fz Z.K Z.mg "_law_take" tK)(T:Tx Z.mg):nC Z (k+1):=by have S:FnScope ["_law_state_here","_law_many","_law_found","_law_mixed"] ["_law_state_here","_law_many"] (gk tK):=scM;refine ozD a S λf e A c s U E L d g i l j m b=>?_;exact(s1 (sI (ml<|xIx xV<|xO x3) (s1 (sS b<|ju ⟨rk⟩ (xO<|xIx xV<|xO x3) xV)<|s1 (sIx xV (ju ⟨Gn⟩ (xO<|xIx xV<|xO x3) xV)<|xO x3)<|s1 (sRV λh=>absurd (d _ h)<|by decide) s0) s0)<|s1 (sIx xV (ju ⟨rk⟩ (xO<|ju ⟨jK⟩ (xO<|ju ⟨md⟩ (xO<|xIx xV<|xO x3)<|xO x3)<|xO x3)<|xO x3)<|xO x3)<|s1 (sS b<|ju ⟨rk⟩ (xO<|ju ⟨jK⟩ (xO<|ju ⟨jK⟩ (xO<|ju ⟨md⟩ (xO<|xIx xV<|xO x3)<|xO<|xIx xV<|xO x3)<|xO<|ju ⟨md⟩ (xO x3)<|xO<|xIx xV<|xO x3)<|xO x3)<|xO x3)<|s1 (sS b<|ju ⟨rk⟩ (xO<|ju ⟨jK⟩ (xO<|ju ⟨md⟩ xV xV)<|xO<|ju ⟨md⟩ (xO x3) xV)<|xO x3)<|s1 (sR<|ju ⟨rk⟩ (xO<|ju ⟨Gn⟩ xV<|xO x3) xV) s0)
noncomputable abbrev oi:Stmt:=top 30
abbrev sm(Z:ZZ)(k:Nat):Prop:=Oz Z k "_law_turning" ["_law_state_here","_law_names"] nJ
def yB(a:Fz Z.K Z.mg "_law_turning" oi)(T:Tx Z.mg)(d:nC Z k):sm Z (k+1):=by have S:FnScope ["_law_state_here","_law_names","_law_rest","_law_found","_law_turn"] ["_law_state_here","_law_names"] (gk oi):=scM;refine ozD a S λf g A c s U E L h e i l j m b=>?_;exact(s1 (sS b<|SN T H<|xA (xO x3)<|xA (xO<|ju ⟨jK⟩ xV<|xO x3) xA0)<|s1 (sS b<|mS xL0)<|s1 (sF (iR1 T<|xA xV xA0) (gN b)<|s1 (sE<|Eu xV<|ju ⟨md⟩ (xO<|U9 xV<|xO<|xU d e<|xA xV<|xA (xO<|xB T H ⟨iB⟩<|xA xV xA0) xA0)<|xO<|xIx (xO<|mS<|xL x3<|xL (rK<|xO x3) xL0)<|xO<|xU d e<|xA xV<|xA (xO x3) xA0) s0)<|s1 (sR<|xT T H ⟨jl⟩<|xA xV xA0) s0)
noncomputable abbrev nu:Stmt:=top 31
abbrev qD(Z:ZZ)(k:Nat):Prop:=Oz Z k "_law_led_sign" ["_law_turning_here","_law_sign"] ie
def xp(a:Fz Z.K Z.mg "_law_led_sign" nu)(T:Tx Z.mg):qD Z (k+1):=by have S:FnScope ["_law_turning_here","_law_sign"] ["_law_turning_here","_law_sign"] (gk nu):=scM;refine ozD a S λf d A b s U E L e g c i h j l=>?_;exact(s1 (sR<|ju ⟨md⟩ (xO<|xIx xV<|xO<|ju ⟨mT⟩ (xO<|xB T H ⟨kf⟩<|xA xV xA0)<|xO x3)<|xO<|xIx (xO<|mS<|xL x3<|xL (rK<|xO x3) xL0)<|xO<|xT T H ⟨wL⟩<|xA (xO<|nP ⟨kO (.inl H) c⟩ xV<|xO x3) xA0) s0)
noncomputable abbrev oY:Stmt:=top 32
abbrev pe(Z:ZZ)(k:Nat):Prop:=Oz Z k "_law_clause" ["_law_state_here","_law_names"] ik
def zo(a:Fz Z.K Z.mg "_law_clause" oY)(T:Tx Z.mg)(b:nC Z k):pe Z (k+1):=by have S:FnScope ["_law_state_here","_law_names","_law_signs"] ["_law_state_here","_law_names"] (gk oY):=scM;refine ozD a S λf h A e s U E L i c g l j m d=>?_;exact(s1 (sC (N':=["_law_state_here","_law_name"]) d (cOk S) (by decide+kernel) (iR2 T<|xA (xO x3)<|xA (xO<|ju ⟨jK⟩ xV<|xO x3) xA0) λ_ _ _ _ _ _ d=>⟨gN d,f1<|tCmp ⟨jU g⟩ (xO<|xU b c<|xA xV<|xA (xO x3) xA0)<|xO x3,λ_=>bE<|ju ⟨md⟩ xV<|xO<|xIx (xO<|mS<|xL x3<|xL (rK<|xO x3) xL0)<|xO<|xU b c<|xA xV<|xA (xO x3) xA0⟩)<|s1 (sI (tCmp ⟨jU g⟩ xV<|xO<|mS xL0) (s1 (sS d<|mS<|xL (ju ⟨md⟩ (xO<|ju ⟨jK⟩ (xO x3)<|xO<|xU b c<|xA xV<|xA xV xA0)<|xO<|xIx (xO<|mS<|xL x3<|xL (rK<|xO x3) xL0)<|xO<|xU b c<|xA xV<|xA (xO x3) xA0) xL0) s0) s0)<|s1 (sR<|xT T H ⟨jl⟩<|xA xV xA0) s0)
noncomputable abbrev lR:Stmt:=top 33
abbrev kP(Z:ZZ)(k:Nat):Prop:=Oz Z k "_law_led_clause" ["_law_clause_here","_law_turning_here"] iA
def uG(a:Fz Z.K Z.mg "_law_led_clause" lR)(T:Tx Z.mg)(b:qD Z k):kP Z (k+1):=by have S:FnScope ["_law_clause_here","_law_turning_here","_law_row"] ["_law_clause_here","_law_turning_here"] (gk lR):=scM;refine ozD a S λf h A d s U E L i e j l g m c=>?_;exact(s1 (sC (N':=["_law_turning_here","_law_sign"]) c (cOk S) (by decide+kernel) (iS xW) λ_ _ _ _ _ _ c=>⟨gN c,f0,λ_=>bE<|lP<|xL (xB T H ⟨kf⟩<|xA (xO<|xU b e<|xA xV<|xA xV xA0) xA0)<|xL (xU b e<|xA xV<|xA xV xA0) xL0⟩)<|s1 (sR<|xT T H ⟨jl⟩<|xA (xO<|by exact xC (N':=["_law_name","_law_sign"]) (cOk S) (by decide+kernel) (iS<|xB T H ⟨mW g⟩<|xA xV xA0) λ_ _ _ _ _ _ c=>⟨gT (gN c)<|gN c,f0,λ_=>bE xW⟩) xA0) s0)
abbrev vZ:Stmt:=top 34
abbrev zT(Z:ZZ)(k:Nat):Prop:=Oz Z k "_law_led" ["_law_riddle","_law_turning_here"] yR
def EY(a:Fz Z.K Z.mg "_law_led" vZ)(T:Tx Z.mg)(d:kP Z k):zT Z (k+1):=by have S:FnScope ["_law_riddle","_law_turning_here"] ["_law_riddle","_law_turning_here"] (gk vZ):=scM;refine ozD a S λf h A b s U E L i e j l g m c=>?_;exact(s1 (sR<|lP<|xL (xIx xV<|xO x3)<|xL (xT T H ⟨jl⟩<|xA (xO<|xB T H ⟨mW g⟩<|xA (xO<|by exact xC (N':=["_law_turning_here","_law_clause_here"]) (cOk S) (by decide+kernel) (iS<|xIx xV<|xO x3) λ_ _ _ _ _ _ c=>⟨gN c,f0,λ_=>bE<|xU d e<|xA xV<|xA xV xA0⟩) xA0) xA0) xL0) s0)
abbrev mE:Stmt:=top 35
abbrev pL(Z:ZZ)(k:Nat):Prop:=Oz Z k "_law_riddle_of" ["_law_state_here","_law_names"] kT
def wq(a:Fz Z.K Z.mg "_law_riddle_of" mE)(T:Tx Z.mg)(e:nC Z k)(m:pe Z k)(b:sm Z k)(l:kP Z k):pL Z (k+1):=by have S:FnScope ["_law_state_here","_law_names","_law_most","_law_some","_law_turn","_law_turning_here","_law_fresh","_law_clause_here"] ["_law_state_here","_law_names"] (gk mE):=scM;refine ozD a S λf n A g s U E L o c h j i p d=>?_;exact(s1 (sI (tCmp ⟨jU h⟩ xV<|xO x3) (s1 (sR<|lP<|xL x3<|xL (lP xL0) xL0) s0) s0)<|s1 (sS d<|xIx (xO<|mS<|xL x3<|xL x3<|xL x3 xL0)<|xO<|xU e c<|xA xV<|xA (xO x3) xA0)<|s1 (sS d x7)<|s1 (sF (iR1 T<|xA (xO<|xU e c<|xA xV<|xA (xO<|ju ⟨jK⟩ xV<|xO x3) xA0) xA0) (gN d)<|s1 (sDP j xV x2<|xO<|xU m c<|xA xV<|xA xV xA0) s0)<|s1 (sS d<|xU b c<|xA xV<|xA xV xA0)<|s1 (sS d<|ju ⟨Lm⟩ (xO<|xT T H ⟨FC H⟩<|xA xV xA0)<|xO<|xIx (xO<|mS<|xL x3<|xL x3 xL0)<|xO<|xU e c<|xA xV<|xA (xO x3) xA0)<|s1 (sW (tCmp ⟨pd h⟩ xV<|xO<|mS xL0)<|s1 (sS d<|xU l c<|xA (xO<|SO xV)<|xA xV xA0)<|s1 (sI (tCmp ⟨EW i⟩ xV xV) (s1 (sDP j xV x2 xV)<|s1 (sE<|Eu xV xW) s0) s0) s0)<|s1 (sR<|lP<|xL xW<|xL (xT T H ⟨jl⟩<|xA (xO<|Py (xO (xB T H ⟨Cf H i⟩ (xA xV xA0))) (xO x3)) xA0) xL0) s0)
abbrev tL:Stmt:=top 36
abbrev tV(Z:ZZ)(k:Nat):Prop:=Oz Z k "_law_bits" ["_law_names"] kj
def CT(a:Fz Z.K Z.mg "_law_bits" tL)(T:Tx Z.mg):tV Z (k+1):=by have S:FnScope ["_law_names"] ["_law_names"] (gk tL):=scM;refine ozD a S λf d A c s U E L e g h j i l b=>?_;exact(s1 (sR<|by exact xC (N':=["_law_names","_law_number"]) (cOk S) (by decide+kernel) (iR1 T<|xA (xO<|ju ⟨Oc⟩ (xO x3) xV) xA0) λ_ _ _ _ _ _ b=>⟨gN b,f0,λ_=>bE<|xT T H ⟨jl⟩<|xA (xO<|by exact xC (N':=["_law_number","_law_names","_law_k"]) (MA H H<|by with_unfolding_all rfl) (by decide+kernel) (iR1 T<|xA xV xA0) λ_ _ _ _ _ _ b=>⟨gN b,f0,λ_=>bE<|ju ⟨Od⟩ (xO<|ju ⟨Ob⟩ xV<|xO<|ju ⟨mT⟩ (xO<|ju ⟨mT⟩ xV<|xO x3) xV)<|xO x3⟩) xA0⟩) s0)
noncomputable abbrev yt:Stmt:=top 37
abbrev yF(Z:ZZ)(k:Nat):Prop:=Oz Z k "_law_so" ["_law_answer","_law_clause_here"] jH
def HP(a:Fz Z.K Z.mg "_law_so" yt)(T:Tx Z.mg):yF Z (k+1):=by have S:FnScope ["_law_answer","_law_clause_here"] ["_law_answer","_law_clause_here"] (gk yt):=scM;refine ozD a S λf e A b s U E L g h c j i l d=>?_;exact(s1 (sR<|xB T H ⟨Au H⟩<|xA (xO<|by exact xC (N':=["_law_answer","_law_sign"]) (cOk S) (by decide+kernel) (iS xW) λ_ _ _ _ _ _ d=>⟨gN d,f0,λ_=>bE<|nP ⟨jU c⟩ (xO<|xIx xV<|xO<|ju ⟨mT⟩ (xO<|xB T H ⟨kf⟩<|xA xV xA0)<|xO x3)<|xO<|xT T H ⟨wL⟩<|xA (xO<|nP ⟨kO (.inr<|.inr<|.inl H) c⟩ xV<|xO x3) xA0⟩) xA0) s0)
noncomputable abbrev om:Stmt:=top 38
abbrev sv(Z:ZZ)(k:Nat):Prop:=Oz Z k "_law_answers" ["_law_riddle"] kr
def yD(a:Fz Z.K Z.mg "_law_answers" om)(T:Tx Z.mg)(g:tV Z k)(i:yF Z k):sv Z (k+1):=by have S:FnScope ["_law_riddle","_law_found","_law_answer"] ["_law_riddle"] (gk om):=scM;refine ozD a S λf j A c s U E L e d l n m o b=>?_;exact(s1 (sS b<|mS xL0)<|s1 (sF (iS<|xU g d<|xA (xO<|xIx xV<|xO x3) xA0) (gN b)<|s1 (sI (ml<|xB T H ⟨jP H⟩<|xA (xO<|by exact xC (N':=["_law_answer","_law_clause_here"]) (cOk S) (by decide+kernel) (iS<|xIx xV<|xO x3) λ_ _ _ _ _ _ b=>⟨gN b,f0,λ_=>bE<|xU i d<|xA xV<|xA xV xA0⟩) xA0) (s1 (sE<|Eu xV xW) s0) s0) s0)<|s1 (sRV λh=>absurd (e _ h)<|by decide) s0)
noncomputable abbrev qu:Stmt:=top 39
abbrev nX(Z:ZZ)(k:Nat):Prop:=Oz Z k "_law_whole" ["_law_thing"] hC
def BE(a:Fz Z.K Z.mg "_law_whole" qu)(T:Tx Z.mg):nX Z (k+1):=by have S:FnScope ["_law_thing"] ["_law_thing"] (gk qu):=scM;refine ozD a S λf c A b s U E L d e g i h j l=>?_;exact(s1 (sR<|vW (xI T H xV)<|xBo<|SQ<|xI T H xV) s0)
noncomputable abbrev lS:Stmt:=top 40
abbrev oO(Z:ZZ)(k:Nat):Prop:=Oz Z k "_law_is_turning" ["_law_names","_law_thing"] nZ
def uH(a:Fz Z.K Z.mg "_law_is_turning" lS)(T:Tx Z.mg)(d:nX Z k):oO Z (k+1):=by have S:FnScope ["_law_names","_law_thing"] ["_law_names","_law_thing"] (gk lS):=scM;refine ozD a S λf i A c s U E L j e g l h m b=>?_;exact(s1 (sI (tW<|wOr (tNot<|ml<|xI T H xV)<|zi<|tNot<|ml<|xB T H ⟨jP H⟩<|xA (xO<|by exact xC (N':=["_law_sign"]) (cOk S) (by decide+kernel) (iS xW) λ_ _ _ _ _ _ b=>⟨gN b,f0,λ_=>bE<|xU d e<|xA xV xA0⟩) xA0) (s1 (sR x2) s0) s0)<|s1 (sR<|nP ⟨jU g⟩ (xO<|xB T H ⟨mW h⟩<|xA (xO<|by exact xC (N':=["_law_sign"]) (cOk S) (by decide+kernel) (iS xW) λ_ _ _ _ _ _ b=>⟨gN b,f0,λ_=>bE<|xB T H ⟨kf⟩<|xA xV xA0⟩) xA0)<|xO<|SN T H<|xA (xO x3)<|xA (xO<|ju ⟨jK⟩ xV<|xO x3) xA0) s0)
noncomputable abbrev mF:Stmt:=top 41
abbrev pM(Z:ZZ)(k:Nat):Prop:=Oz Z k "_law_is_clause" ["_law_names","_law_thing"] jT
def wt(a:Fz Z.K Z.mg "_law_is_clause" mF)(T:Tx Z.mg)(d:nX Z k):pM Z (k+1):=by have S:FnScope ["_law_names","_law_thing"] ["_law_names","_law_thing"] (gk mF):=scM;refine ozD a S λf h A c s U E L i e g l j m b=>?_;exact(s1 (sI (tW<|wOr (tNot<|ml<|xI T H xV)<|zi<|tNot<|ml<|xB T H ⟨jP H⟩<|xA (xO<|by exact xC (N':=["_law_names","_law_sign"]) (cOk S) (by decide+kernel) (iS xW) λ_ _ _ _ _ _ b=>⟨gN b,f0,λ_=>bE<|vW (xU d e<|xA xV xA0)<|xBo<|xCh (xO x3) (xO<|xB T H ⟨kf⟩<|xA xV xA0) xV⟩) xA0) (s1 (sR x2) s0) s0)<|s1 (sR<|xB T H ⟨jP H⟩<|xA (xO<|by exact xC (N':=["_law_one","_law_other"]) (cOk S) (by decide+kernel) (iZ T xW<|M5 xV<|xO x3) λ_ _ _ _ _ _ b=>⟨gT (gN b)<|gN b,f0,λ_=>bE<|nP ⟨kO (.inl H) g⟩ (xO<|xB T H ⟨kf⟩<|xA xV xA0)<|xO<|xB T H ⟨kf⟩<|xA xV xA0⟩) xA0) s0)
abbrev oX:Stmt:=top 42
abbrev uK(Z:ZZ)(k:Nat):Prop:=Oz Z k "_law_is_why" ["_law_riddle","_law_ahead","_law_clause_here","_law_why"] jY
def zm(a:Fz Z.K Z.mg "_law_is_why" oX)(T:Tx Z.mg)(i:nX Z k)(b:oO Z k)(d:zT Z k)(l:kP Z k):uK Z (k+1):=by have S:FnScope ["_law_riddle","_law_ahead","_law_clause_here","_law_why","_law_i","_law_j","_law_name","_law_both","_law_turning_here"] ["_law_riddle","_law_ahead","_law_clause_here","_law_why"] (gk oX):=scM;refine ozD a S λf m A h s U E L n g c o j p e=>?_;exact(s1 (sI (tW<|wOr (tNot<|ml<|xI T H xV)<|wOr (tCmp ⟨kO (.inl H) c⟩ (xO<|xB T H ⟨iB⟩<|xA xV xA0)<|xO x3)<|zi<|tCmp ⟨oN c⟩ (xO<|xIx xV<|xO x3)<|xO<|lP<|xL x4<|xL x4<|xL x4<|xL x4 xL0) (s1 (sR x2) s0) s0)<|s1 (sI (tW<|Na (tCmp ⟨jU c⟩ (xO<|xIx xV<|xO x3)<|xO x4)<|Na (tCmp ⟨jU c⟩ (xO<|xB T H ⟨iB⟩<|xA xV xA0)<|xO x3)<|JP<|ml<|xB T H ⟨jP H⟩<|xA (xO<|by exact xC (N':=["_law_number"]) (cOk S) (by decide+kernel) (iS<|M5 xV<|xO x3) λ_ _ _ _ _ _ e=>⟨gN e,f0,λ_=>bE<|xU i g<|xA xV xA0⟩) xA0) (s1 (sT (M5 xV<|xO x3)<|gT3 (gN e) (gN e)<|gN e)<|s1 (sI (tW<|wOr (tNot<|tCh (xO x3) xV<|xO<|xB T H ⟨iB⟩<|xA xV xA0)<|wOr (tNot<|tCh (xO x3) xV<|xO<|xB T H ⟨iB⟩<|xA xV xA0)<|zi<|tNot<|tCh (xO x3) xV<|xO<|xIx xV<|xO x3) (s1 (sR x2) s0) s0)<|s1 (sS e<|xB T H ⟨vg H j⟩<|xA (xO<|xT T H ⟨Iy H⟩<|xA (xO<|ju ⟨jK⟩ (xO<|by exact xC (N':=["_law_name","_law_sign"]) (cOk S) (by decide+kernel) (iS<|xIx xV xV) λ_ _ _ _ _ _ e=>⟨gN e,f1<|tCmp ⟨pd c⟩ xV xV,λ_=>bE xW⟩)<|xO<|by exact xC (N':=["_law_name","_law_sign"]) (cOk S) (by decide+kernel) (iS<|xIx xV xV) λ_ _ _ _ _ _ e=>⟨gN e,f1<|tCmp ⟨pd c⟩ xV<|xO (rK xV),λ_=>bE xW⟩) xA0) xA0)<|s1 (sR<|vW (nP ⟨BD c⟩ xV<|xO<|xIx xV xV)<|vW (nP ⟨BD c⟩ (xO<|rK xV)<|xO<|xIx xV xV)<|xBo<|nP ⟨jU c⟩ xV<|xO<|xB T H ⟨mW j⟩<|xA xV xA0) s0) s0)<|s1 (sI (tW<|wOr (tCmp ⟨jU c⟩ (xO<|xIx xV<|xO x3)<|xO x4)<|wOr (tNot<|ml<|xU i g<|xA (xO<|xIx xV<|xO x3) xA0)<|wOr (tCmp ⟨kO (.inl H) c⟩ (xO<|xIx xV<|xO x3)<|xO x3)<|zi<|tCmp ⟨pd c⟩ (xO<|xB T H ⟨iB⟩<|xA xV xA0)<|xO<|ju ⟨jK⟩ (xO x3)<|xO<|xT T H ⟨wL⟩<|xA (xO (nP ⟨jU c⟩ (xO (xIx xV (xO x3))) (xO x4))) xA0) (s1 (sR x2) s0) s0)<|s1 (sI (tCmp ⟨jU c⟩ (xO<|xIx xV<|xO x3)<|xO x4) (s1 (sR<|vW (nP ⟨kO (.inl H) c⟩ (xO<|xIx xV<|xO x3)<|xO<|xB T H ⟨iB⟩<|xA (xO<|xIx xV<|xO x3) xA0)<|xBo<|nP ⟨jU c⟩ (xO<|xIx (xO<|xIx xV<|xO x3)<|xO<|xIx xV<|xO x3) xV) s0) s0)<|s1 (sI (tCmp ⟨kO (.inr<|.inr<|.inr H) c⟩ (xO<|xIx xV<|xO x3)<|xO<|xB T H ⟨iB⟩<|xA xV xA0) (s1 (sR x2) s0) s0)<|s1 (sI (tCmp ⟨jU c⟩ (xO<|xIx xV<|xO x3)<|xO x4) (s1 (sR<|nP ⟨jU c⟩ (xO<|by exact xC (N':=["_law_clause_here","_law_sign"]) (cOk S) (by decide+kernel) (iS<|xIx xV<|xO<|xIx xV<|xO x3) λ_ _ _ _ _ _ e=>⟨gN e,f1<|tCmp ⟨oN c⟩ xV xV,λ_=>bE xW⟩)<|xO<|mS xL0) s0) s0)<|s1 (sS e<|xIx xV<|xO x3)<|s1 (sI (tW<|wOr (tNot<|ml<|xU b g<|xA (xO<|xIx xV (xO x3))<|xA xV xA0)<|zi<|tCmp ⟨pd c⟩ (xO<|xU d g<|xA xV (xA xV xA0)) xV) (s1 (sR x2) s0) s0)<|s1 (sR<|nP ⟨jU c⟩ (xO<|xU l g<|xA (xO<|xIx xV (xO (xIx xV (xO x3))))<|xA xV xA0) xV) s0)
abbrev nv:Stmt:=top 43
abbrev qE(Z:ZZ)(k:Nat):Prop:=Oz Z k "_law_is_paper" ["_law_riddle","_law_thing"] lr
def xq(a:Fz Z.K Z.mg "_law_is_paper" nv)(T:Tx Z.mg)(b:pM Z k)(c:uK Z k):qE Z (k+1):=by have S:FnScope ["_law_riddle","_law_thing","_law_ahead","_law_step"] ["_law_riddle","_law_thing"] (gk nv):=scM;refine ozD a S λf i A d s U E L j e h m l n g=>?_;exact(s1 (sI (tW<|wOr (tNot<|ml<|xI T H xV)<|zi<|tNot<|tCh (xO x3) (xO<|xB T H ⟨iB⟩<|xA xV xA0)<|xO x3) (s1 (sR x2) s0) s0)<|s1 (sS g<|mS xL0)<|s1 (sF (iS xW) (gN g)<|s1 (sI (tW<|wOr (tNot<|ml<|xI T H xV)<|wOr (tCmp ⟨pd h⟩ (xO<|xB T H ⟨iB⟩<|xA xV xA0)<|xO x3)<|zi<|tNot<|ml<|xU b e<|xA (xO<|xIx xV<|xO x3)<|xA (xO<|xIx xV (xO x3)) xA0) (s1 (sR x2) s0) s0)<|s1 (sI (tNot<|ml<|xU c e<|xA xV<|xA xV<|xA (xO<|xIx xV<|xO x3)<|xA (xO<|xIx xV<|xO x3) xA0) (s1 (sR x2) s0) s0)<|s1 (sE<|Eu xV<|xIx xV<|xO x3) s0)<|s1 (sR x2) s0)
abbrev qw:Stmt:=top 44
abbrev wZ(Z:ZZ)(k:Nat):Prop:=Oz Z k "_law_right" ["_law_riddle","_law_there","_law_clause_here"] gW
def BG(a:Fz Z.K Z.mg "_law_right" qw)(T:Tx Z.mg)(h:tU Z k)(i:yF Z k)(b:qE Z k):wZ Z (k+1):=by have S:FnScope ["_law_riddle","_law_there","_law_clause_here","_law_found"] ["_law_riddle","_law_there","_law_clause_here"] (gk qw):=scM;refine ozD a S λf j A e s U E L l c g n m o d=>?_;exact(s1 (sS d<|xU h c<|xA xV<|xA xV xA0)<|s1 (sI (tNot<|ml<|xB T H ⟨jP H⟩<|xA (xO<|by exact xC (N':=["_law_clause_here","_law_answer"]) (cOk S) (by decide+kernel) (iS xW) λ_ _ _ _ _ _ d=>⟨gN d,f0,λ_=>bE<|xU i c<|xA xV<|xA xV xA0⟩) xA0) (s1 (sR<|nP ⟨Rg⟩ xV<|xO x1) s0) s0)<|s1 (sR<|vW (xU b c<|xA xV<|xA xV xA0)<|vW (nP ⟨jU g⟩ (xO<|xIx (xO<|xIx xV<|xO<|rK<|xO x3)<|xO x3) xV)<|xBo<|nP ⟨jU g⟩ (xO<|xU h c<|xA xV<|xA xV xA0) xV) s0)
noncomputable abbrev F9:Stmt:=top 45
def Se:BdA "law" F9 ["_law_script"]:=λ_ _ _ _ _ _=>us1 λ_=>us0 H
def Rx{f:fV}{l:mZ}(F:Fun Z.K "law" "law" F9 f l)(T:Tx Z.mg)(m:tU Z k)(g:wZ Z k)(d:wY Z k)(h:nC Z k)(a:pL Z k)(b:sv Z k)(n:pe Z k)(o:tV Z k):FnOk Z.P Z.w Z.K Z.mg Z.base CX0 (k+1) f l ["_law_script"] (spF Z.K sA):=by have S:FnScope ["_law_script","_law_k","_law_state_here","_law_riddle","_law_there","_law_clauses","_law_barred","_law_clause_here","_law_answer"] ["_law_script"] (gk F9):=scM;refine fnB (asg:=[1,2,3,4,5,6,7,8]) (fs:=yM) F S λf p A j s U E L q e i t r u c=>?_;exact(s1 (sI (tW<|wOr (tCmp ⟨zR⟩ (xO<|xU m e<|xA (xO<|lP<|xL x3<|xL (lP xL0) xL0)<|xA (xO<|lP xL0) xA0)<|xO x1)<|zi<|tNot<|ml<|xU g e<|xA (xO<|lP<|xL x3<|xL (lP<|xL (lP<|xL (rK<|xO x3) xL0)<|xL (lP<|xL x3 xL0) xL0) xL0)<|xA (xO<|mS xL0)<|xA (xO<|lP xL0) xA0) (s1 (sR x2) s0) s0)<|s1 (sF (iR1 T<|xA (xO<|xB T H ⟨FA H⟩<|xA (xO x3)<|xA (xO<|xB T H ⟨Fy H⟩<|xA (xO<|xB T H ⟨iB⟩<|xA xV xA0)<|xA (xO x3) xA0) xA0) xA0) (gN c)<|s1 (sS c<|xU d e<|xA xV<|xA xV xA0)<|s1 (sS c<|xU a e<|xA xV<|xA (xO<|xIx (xO<|mS<|xL (xU h e<|xA xV<|xA (xO x3) xA0)<|xL x3<|xL x3<|xL x3 xL0)<|xO<|xU h e<|xA xV<|xA (xO x3) xA0) xA0)<|s1 (sS c<|xU b e<|xA xV xA0)<|s1 (sS c<|ju ⟨jK⟩ (xO<|mS<|xL (lP xL0) xL0)<|xO<|xT T H ⟨yY⟩<|xA (xO<|Py (xO<|xIx xV<|xO x3)<|xO x3) xA0)<|s1 (sI (tCmp ⟨kO (.inr<|.inr<|.inl H) i⟩ (xO<|xIx xV<|xO x3)<|xO x3) (s1 (sS c<|ju ⟨jK⟩ xV<|xO<|by exact xC (N':=["_law_state_here","_law_riddle","_law_turn"]) (cOk S) (by decide+kernel) (iR1 T<|xA (xO x3) xA0) λ_ _ _ _ _ _ c=>⟨gN c,f0,λ_=>bE<|xU n e<|xA xV<|xA (xO (xIx xV (xO x3))) xA0⟩) s0) s0)<|s1 (sI (tNot<|ml<|xB T H ⟨jP H⟩<|xA (xO<|by exact xC (N':=["_law_riddle","_law_there","_law_clause_here"]) (cOk S) (by decide+kernel) (iS xW) λ_ _ _ _ _ _ c=>⟨gN c,f0,λ_=>bE<|xU g e (xA xV (xA xV (xA xV xA0)))⟩) xA0) (s1 (sR x2) s0) s0)<|s1 (sI (tW<|Na (tCmp ⟨pd i⟩ xV<|xO<|mS xL0)<|JP<|tCmp ⟨kO (.inr<|.inr (.inl H)) i⟩ (xO<|xIx xV (xO x3))<|xO x3) (s1 (sS c<|xIx xV<|xO<|xU h e<|xA xV (xA (xO (xB T H ⟨iB⟩ (xA xV xA0))) xA0))<|s1 (sS c<|xT T H ⟨jl⟩<|xA (xO<|by exact xC (N':=["_law_name","_law_bit"]) (cOk S) (by decide+kernel) (iE1 T xW) λ_ _ _ _ _ _ c=>⟨gT (gN c) (gN c),f0,λ_=>bE (xIx (xO (mS (xL xW (xL (rK xV) xL0)))) xV)⟩) xA0)<|s1 (sI (tNot<|ml<|xU g e (xA xV (xA xV (xA xV xA0)))) (s1 (sR x2) s0) s0) s0) s0)<|s1 (sF (iS<|Py (xO<|xU o e<|xA (xO (xIx xV (xO x3))) xA0)<|xO x3) (gN c)<|s1 (sS c<|xT T H ⟨jl⟩<|xA (xO (by exact xC (N':=["_law_name","_law_bit"]) (cOk S) (by decide+kernel) (iE1 T xW) λ_ _ _ _ _ _ c=>⟨gT (gN c) (gN c),f0,λ_=>bE (xIx (xO (mS (xL xW (xL (rK xV) xL0)))) xV)⟩)) xA0)<|s1 (sI (tNot<|ml (xU g e (xA xV (xA xV (xA xV xA0))))) (s1 (sR x2) s0) s0) s0) s0)<|s1 (sR x2) s0)
end
def all_mk{l:eh}{w:gB}{K:gy}{a:lE}{fa:fV}(eP:a "law"=I8 (.ref fa))(T:Tx a)
  (a0:Fz K a "is_whole" tM)
  (a1:Fz K a "is_number" qy)
  (a2:Fz K a "is_bit" yu)
  (a3:Fz K a "is_name" wc)
  (a4:Fz K a "is_sign" wa)
  (a5:Fz K a "is_rising" qx)
  (a6:Fz K a "is_clause" qz)
  (a7:Fz K a "is_answer" qA)
  (a8:Fz K a "is_so" Bx)
  (a9:Fz K a "keeps_clause" ny)
  (G:Fz K a "keeps" Bw)
  (J:Fz K a "all_answers" oo)
  (M:Fz K a "answers" wg)
  (N:Fz K a "answers_against" lG)
  (U:Fz K a "may_be_shown" nr)
  (Y:Fz K a "met" Kf)
  (a16:Fz K a "follows" we)
  (a17:Fz K a "first_against" mG)
  (a18:Fz K a "add_steps" mn)
  (a19:Fz K a "paper_of" tJ)
  (a20:Fz K a "_law_cell_at" oj)
  (a21:Fz K a "_law_state" qv)
  (a22:Fz K a "_law_take" tK)
  (a23:Fz K a "_law_turning" oi)
  (a24:Fz K a "_law_led_sign" nu)
  (a25:Fz K a "_law_clause" oY)
  (a26:Fz K a "_law_led_clause" lR)
  (a27:Fz K a "_law_led" vZ)
  (a28:Fz K a "_law_riddle_of" mE)
  (a29:Fz K a "_law_bits" tL)
  (a30:Fz K a "_law_so" yt)
  (a31:Fz K a "_law_answers" om)
  (a32:Fz K a "_law_whole" qu)
  (a33:Fz K a "_law_is_turning" lS)
  (a34:Fz K a "_law_is_clause" mF)
  (a35:Fz K a "_law_is_why" oX)
  (a36:Fz K a "_law_is_paper" nv)
  (a37:Fz K a "_law_right" qw)
  (a38:Fz K a "law" F9)
  (j8: ∃t,a "MOST_SIGNS"=I8 (.int 5 t))
  : ∃g:mZ,(∀(s:fY) (v:gu),eM s g ⟨[v],[]⟩ [("_law_script",v)])/\ ∀base:gH,K.In base->base.Ns aq a->FnOk l.prog w K a base CX0 12 fa g ["_law_script"] (spF K sA):=by
 obtain⟨g,F,hb⟩:=fzL a38 eP Se;refine⟨g,hb,λbase KB _=>?_⟩
 let z:ZZ:=⟨l.prog,w,K,a,base⟩
 have R:=CU (Z:=z) (k:=0) a0 T;have S:=BI (Z:=z) (k:=1) a1 T R.up;have X:=HQ (Z:=z) (k:=2) a2 T S.up;have O3:=E5 (Z:=z) (k:=2) a3 T S.up;have O4:=EZ (Z:=z) (k:=3) a4 T R.up O3.up;have O5:=BH (Z:=z) (k:=0) a5 T;have O6:=BJ (Z:=z) (k:=4) a6 T j8 O4.up O5.up;have O7:=BK (Z:=z) (k:=3) a7 T X.up;have O8:=Lr (Z:=z) (k:=0) a8 T;have V:=xt (Z:=z) (k:=1) a9 T O8.up;have h:=Lq (Z:=z) (k:=4) G T O7.up V.up;have i:=yE (Z:=z) (k:=0) J T;have j:=E7 (Z:=z) (k:=5) M T i.up h.up;have m:=tR (Z:=z) (k:=6) N T j.up V.up;have n:=xo (Z:=z) (k:=5) U T O6.up;have o:=Rw (Z:=z) (k:=0) Y T;have p:=E6 (Z:=z) (k:=7) a16 T n.up m.up;have q:=wu (Z:=z) (k:=0) a17 T;have r:=uI (Z:=z) (k:=1) a18 T q.up o.up RD;have b:=CQ (Z:=z) (k:=9) a19 T p.up r.up;have u:=yC (Z:=z) (k:=0) a20 T;have x:=BF (Z:=z) (k:=1) a21 T u.up;have f:=CS (Z:=z) (k:=0) a22 T;have y:=yB (Z:=z) (k:=1) a23 T f.up;have A:=xp (Z:=z) (k:=0) a24 T;have c:=zo (Z:=z) (k:=1) a25 T f.up;have P:=uG (Z:=z) (k:=1) a26 T A.up;have B:=EY (Z:=z) (k:=2) a27 T P.up;have C:=wq (Z:=z) (k:=2) a28 T f.up c.up y.up P.up;have d:=CT (Z:=z) (k:=0) a29 T;have e:=HP (Z:=z) (k:=0) a30 T;have E:=yD (Z:=z) (k:=1) a31 T d.up e.up;have D:=BE (Z:=z) (k:=0) a32 T;have H:=uH (Z:=z) (k:=1) a33 T D.up;have I:=wt (Z:=z) (k:=1) a34 T D.up;have L:=zm (Z:=z) (k:=3) a35 T D.up H.up B.up P.up;have O:=xq (Z:=z) (k:=4) a36 T I.up L.up;have Q:=BG (Z:=z) (k:=10) a37 T b.up e.up O.up;exact Rx (Z:=z) (k:=11) F T b.up Q.up x.up f.up C.up E.up c.up d.up
end K63
namespace PV
open L2 PX
@[simp] theorem VQ(d:D)(δ:Dn):fC d δ=I ((d,J),δ):=rfl
@[simp] theorem Qf(f:F)(δ:Dn):fQ f δ=(f δ).bind λp=>I (.val p.1,p.2):=rfl
@[simp] theorem U2(x:D×Bool)(a:Dn):fR 0 (I x::a)=I (.slot 0,I x::a):=rfl
@[simp] theorem U1(a:Sl)(x:D×Bool)(b:Dn):fR 1 (a::I x::b)=I (.slot 1,a::I x::b):=rfl
@[simp] theorem U0(a b:Sl)(x:D×Bool)(c:Dn):fR 2 (a::b::I x::c)=I (.slot 2,a::b::I x::c):=rfl
@[simp] theorem UZ(a b c:Sl)(x:D×Bool)(d:Dn):fR 3 (a::b::c::I x::d)=I (.slot 3,a::b::c::I x::d):=rfl
@[simp] theorem UY(a b c d:Sl)(x:D×Bool)(e:Dn):fR 4 (a::b::c::d::I x::e)=I (.slot 4,a::b::c::d::I x::e):=rfl
@[simp] theorem UX(a b c d e:Sl)(x:D×Bool)(f:Dn):fR 5 (a::b::c::d::e::I x::f)=I (.slot 5,a::b::c::d::e::I x::f):=rfl
@[simp] theorem UW(a b c d e f:Sl)(x:D×Bool)(g:Dn):fR 6 (a::b::c::d::e::f::I x::g)=I (.slot 6,a::b::c::d::e::f::I x::g):=rfl
@[simp] theorem UU(a b c d e f g:Sl)(x:D×Bool)(h:Dn):fR 7 (a::b::c::d::e::f::g::I x::h)=I (.slot 7,a::b::c::d::e::f::g::I x::h):=rfl
@[simp] theorem UT(a b c d e f g h:Sl)(x:D×Bool)(i:Dn):fR 8 (a::b::c::d::e::f::g::h::I x::i)=I (.slot 8,a::b::c::d::e::f::g::h::I x::i):=rfl
@[simp] theorem Qd(δ:Dn)(r:D×Bool):res δ (.val r)=I r.1:=rfl
@[simp] theorem VE(x:D×Bool)(a:Dn):res (I x::a) (.slot 0)=I x.1:=rfl
@[simp] theorem VD(a:Sl)(x:D×Bool)(b:Dn):res (a::I x::b) (.slot 1)=I x.1:=rfl
@[simp] theorem VC(a b:Sl)(x:D×Bool)(c:Dn):res (a::b::I x::c) (.slot 2)=I x.1:=rfl
@[simp] theorem VB(a b c:Sl)(x:D×Bool)(d:Dn):res (a::b::c::I x::d) (.slot 3)=I x.1:=rfl
@[simp] theorem VA(a b c d:Sl)(x:D×Bool)(e:Dn):res (a::b::c::d::I x::e) (.slot 4)=I x.1:=rfl
@[simp] theorem Vz(a b c d e:Sl)(x:D×Bool)(f:Dn):res (a::b::c::d::e::I x::f) (.slot 5)=I x.1:=rfl
@[simp] theorem Vy(a b c d e f:Sl)(x:D×Bool)(g:Dn):res (a::b::c::d::e::f::I x::g) (.slot 6)=I x.1:=rfl
@[simp] theorem Vx(a b c d e f g:Sl)(x:D×Bool)(h:Dn):res (a::b::c::d::e::f::g::I x::h) (.slot 7)=I x.1:=rfl
@[simp] theorem Vw(a b c d e f g h:Sl)(x:D×Bool)(i:Dn):res (a::b::c::d::e::f::g::h::I x::i) (.slot 8)=I x.1:=rfl
@[simp] theorem Qi(g:D->Option (D×Bool))(a:FO)(b:Dn):iN g a b=(a b).bind λp=>(res p.2 p.1).bind λx=>(g x).bind λz=>I (z,p.2):=rfl
@[simp] theorem VN(g:D->D->Option (D×Bool))(a b:FO)(c:Dn):fU g a b c=(a c).bind λp=>(b p.2).bind λq=>(res q.2 p.1).bind λx=>(res q.2 q.1).bind λy=>(g x y).bind λz=>I (z,q.2):=rfl
@[simp] theorem Tz(a:Dn):jk [] a=I ([],a):=rfl
@[simp] theorem U6(f:FO)(fs:List FO)(a:Dn):jk (f::fs) a=(f a).bind λp=>(jk fs p.2).bind λq=>I (p.1::q.1,q.2):=rfl
@[simp] theorem Nl(a:Dn):tN a []=I []:=rfl
@[simp] theorem Qe(a:Dn)(o:Opd)(os:List Opd):tN a (o::os)=(res a o).bind λd=>(tN a os).bind λl=>I (d::l):=rfl
@[simp] theorem U5(g:List D->Option (D×Bool))(fs:List FO)(a:Dn):gf g fs a=(jk fs a).bind λp=>(tN p.2 p.1).bind λb=>(g b).bind λz=>I (z,p.2):=rfl
@[simp] theorem UR:oh []=I []:=rfl
@[simp] theorem Vn(r:D×Bool)(os:List Opd):oh (.val r::os)=(oh os).map (r.1:: ·):=rfl
@[simp] theorem Qh(fs:List F)(b:Dn):iP fs b=(jk (fs.map fQ) b).bind λp=>(oh p.1).bind λa=>if (Ls a)<=sizeLine then I ((.tup a,J),p.2) else C:=rfl
@[simp] theorem VP(fs:List F)(b:Dn):jL fs b=(jk (fs.map fQ) b).bind λp=>(oh p.1).bind λa=>if (Ls a)<=sizeLine then I ((.lst a,Y),p.2) else C:=rfl
@[simp] theorem Wt(b o:Bool)(a:Dn):asB ((.bl b,o),a)=I (b,a):=rfl
@[simp] theorem Wx(f:F)(a:Dn):fT f a=(f a).bind asB:=rfl
@[simp] theorem U7(f g:FT)(a:Dn):mx f g a=(f a).bind λp=>if p.1=Y then g p.2 else I (J,p.2):=rfl
@[simp] theorem VM(f g:FT)(a:Dn):ly f g a=(f a).bind λp=>if p.1=Y then I (Y,p.2) else g p.2:=rfl
@[simp] theorem U4(f:FT)(a:Dn):hJ f a=(f a).bind λp=>I (!p.1,p.2):=rfl
@[simp] theorem Kq(f g:F)(a:Dn):oy f g a=(f a).bind λp=>(asB p).bind λq=>if q.1=Y then g q.2 else I ((.bl J,J),q.2):=rfl
@[simp] theorem Wq(f g:F)(a:Dn):fOr f g a=(f a).bind λp=>(asB p).bind λq=>if q.1=Y then I ((.bl Y,J),q.2) else g q.2:=rfl
@[simp] theorem VO(f:F)(a:Dn):Mp f a=(f a).bind λp=>(asB p).bind λq=>I ((.bl (!q.1),J),q.2):=rfl
@[simp] theorem Wr(t:FT)(f g:F)(a:Dn):fIf t f g a=(t a).bind λp=>if p.1=Y then f p.2 else g p.2:=rfl
@[simp] theorem Vu(a:Dn):gq a=I (.nx a):=rfl
noncomputable def nxt(g:FS):Out->Option Out
 | .nx a=>g a
 |o=>I o
@[simp] theorem VG(g:FS)(a:Dn):nxt g (.nx a)=g a:=rfl
@[simp] theorem VF(g:FS)(r:D×Bool)(a:Dn):nxt g (.rt r a)=I (.rt r a):=rfl
@[simp] theorem Vs(f g:FS)(a:Dn):fZ f g a=(f a).bind (nxt g):=by
 unfold fZ
 cases f a with
 |none=>rfl
 |some o=>cases o<;>rfl
@[simp] theorem US(f:F)(a:Dn):jZ f a=(f a).bind λp=>I (.nx p.2):=rfl
@[simp] theorem Vt(f:F)(a:Dn):ip f a=(f a).bind λp=>I (.rt p.1 p.2):=rfl
@[simp] theorem Wj(t:FT)(f g:FS)(a:Dn):sIf t f g a=(t a).bind λp=>if p.1=Y then f p.2 else g p.2:=rfl
@[simp] theorem Vr(i:Nat)(f:F)(a:Dn):iT i f a=(f a).bind λp=>if i<(Ls p.2) then I (.nx<|p.2.set i<|I p.1) else C:=rfl
@[simp] theorem Vq(b:Tg)(f:F)(c:Dn):CF b f c=(f c).bind λp=>(b p.1.1 p.2).bind λa=>I (.nx a):=rfl
@[simp] theorem Ww(g:D->Option (D×Bool))(d:D):g1 g [d]=g d:=rfl
@[simp] theorem Wv(g:D->D->Option (D×Bool))(d e:D):g2 g [d,e]=g d e:=rfl
@[simp] theorem TF(i j:Int):jX (.int i) (.int j)=I (.int<|i+j,J):=rfl
@[simp] theorem Ko(i j:Int):PX.gSub (.int i) (.int j)=I (.int<|i-j,J):=rfl
@[simp] theorem Wk(i:Int):jW (.int i)=I (.int (-i),J):=rfl
@[simp] theorem TH(i:Int):ox (.int i)=I (.int (if i<0 then -i else i),J):=rfl
@[simp] theorem Kp(l:List D):kz (.tup l)=I (.int<|Ls l,J):=rfl
@[simp] theorem BB(l:List D):kz (.lst l)=I (.int<|Ls l,J):=rfl
@[simp] theorem Vp(l:List D):km (.lst l)=I (.tup l,J):=rfl
@[simp] theorem Vo(l:List D):km (.tup l)=I (.tup l,J):=rfl
@[simp] theorem VH(l:List D):uW (.tup l)=I (.lst l,Y):=rfl
@[simp] theorem VI(l:List D):uW (.lst l)=I (.lst l,Y):=rfl
@[simp] theorem Qg(b:Bool):Dk (.bl b)=I (.int (if b then 1 else 0),J):=rfl
@[simp] theorem VJ(b:Int):Dk (.int b)=I (.int b,J):=rfl
@[simp] theorem Wn(i j:Int):Md (.int i) (.int j)=I (.int (if j>i then j else i),J):=rfl
@[simp] theorem Wm(i j:Int):Mc (.int i) (.int j)=I (.int (if j<i then j else i),J):=rfl
@[simp] theorem Wo(a:List Ty)(d:D):qI a d=I (.bl<|a.any<|isT d,J):=rfl
@[simp] theorem Kr(i j:Int):gEq (.int i) (.int j)=I (.bl<|i==j,J):=by unfold gEq;rw[gr<|by simp[D.dep]];simp[D.eqb]
@[simp] theorem Tv(i j:Int):gNe (.int i) (.int j)=I (.bl (!(i==j)),J):=by unfold gNe;rw[gr<|by simp[D.dep]];simp[D.eqb]
@[simp] theorem Ws(i j:Bool):gEq (.bl i) (.bl j)=I (.bl<|i==j,J):=by unfold gEq;rw[gr<|by simp[D.dep]];simp[D.eqb]
@[simp] theorem Wl(i j:Bool):gNe (.bl i) (.bl j)=I (.bl (!(i==j)),J):=by unfold gNe;rw[gr<|by simp[D.dep]];simp[D.eqb]
@[simp] theorem Nm(i j:Int):kQ .Lt (.int i) (.int j)=I (.bl<|decide<|i<j,J):=by simp[kQ,lJ,jr,D.dep]
@[simp] theorem Wu(i j:Int):kQ .LtE (.int i) (.int j)=I (.bl<|decide<|i<=j,J):=by simp[kQ,lJ,jr,D.dep]
@[simp] theorem Tw(i j:Int):kQ .Gt (.int i) (.int j)=I (.bl<|decide<|i>j,J):=by simp[kQ,lJ,jr,D.dep]
@[simp] theorem VL(i j:Int):kQ .GtE (.int i) (.int j)=I (.bl<|decide<|i>=j,J):=by simp[kQ,lJ,jr,D.dep]
@[simp] theorem Nn(f:F)(δ:Dn):gw f δ=(f δ).bind λp=>match p.1.1 with| .lst l=>I (l,p.2)| .tup l=>I (l,p.2)|_=>C:=rfl
@[simp] theorem Vv(b:FIt)(c:Tg)(a:FS)(d:Dn):rL b c a d=(b d).bind λp=>pT c a p.1 p.2:=rfl
@[simp] theorem uE(a:Dn):gK a=I (Y,a):=rfl
@[simp] theorem rh(f:F)(a:List D)(b:Dn):gx f a b=(f b).bind λp=>if (Ls a)<sizeLine then I (a++[p.1.1],p.2) else C:=rfl
def rd(h:n<=10000):n<=sizeLine:=by rw[jB];lia
def qZ(h:n<=10000):n<sizeLine:=by rw[jB];lia
noncomputable abbrev enc(t:gh):D×Bool:=(.tup<|t.map .int,J)
noncomputable abbrev ii(n:Int):Sl:=I (.int n,J)
noncomputable abbrev eN(t:gh):Sl:=I<|enc t
noncomputable abbrev pI(n:Int):D×Bool:=(.int n,J)
noncomputable abbrev pS(a:Int)(b:Bool):D×Bool:=(.lst [.int a,.bl b],Y)
def nd1(i:Nat):([i]:List Nat).Nodup:=by simp
noncomputable abbrev stt(a:Int)(b:Bool):Sl:=I (.lst [.int a,.bl b],Y)
noncomputable abbrev lsi(l:gh):Sl:=I (.lst<|l.map .int,Y)
@[simp] theorem U3(b:EvF)(fs:List FO)(c:Dn):gb b fs c=(jk fs c).bind λp=>(jy p.2 p.1).bind λa=>if(gG p.1 a).Nodup then(b a).bind λq=>I (q.1,wb p.1 a q.2 p.2) else C:=rfl
@[simp] theorem Hy(a:Dn):jy a []=I []:=rfl
@[simp] theorem TC(b:Dn)(o:Opd)(os:List Opd):jy b (o::os)=(xk b o).bind λa=>(jy b os).bind λl=>I (a::l):=rfl
@[simp] theorem VR(a:Dn)(r:D×Bool):xk a (.val r)=I (r.1,J):=rfl
@[simp] theorem VS(a:Dn)(i:Nat):xk a (.slot i)=(a[i]?).join:=rfl
def qW(a:Int)(b:Bool)(m:Int)(c:0<m)(d:m<1073741824):
  ∃v e,0<=v/\v<m/\gz [pS a b,pI m]=I ((.int v,J),[I (.lst [.int e,.bl b],Y),ii m]):=by
 cases b
 .have h1: ∀x:Int, -18446744073709551616<x%2147483647/\x%2147483647<18446744073709551616:=λx=>by lia
  have f: ∀x:Int, -18446744073709551616<x%2147483629/\x%2147483629<18446744073709551616:=λx=>by lia
  simp only[gz,qJ];simp[evF,gIx,atI,ixN,zu,gI,Mf,nF,Ih,wj,ma,gZ,gG,wb,IH,vz,CMul,c,d,h1,f];exact⟨DT _ (by lia),DU _ c⟩
 .simp only[gz,qJ];simp[evF,gIx,atI,ixN,zu,gI,Mf,nF,Ih,wj,ma,gZ,gG,wb,IH,vz,CMul,c,d];exact⟨DT _ (by lia),DU _ c⟩
theorem xH(x y:Int):(x==y)=decide (x=y):=rfl
def mw{g:List D->Option (D×Bool)}{fs:List FO}{δ a:Dn}{os:List Opd}{ds:List D}{z:D×Bool}(h1:jk fs δ=I (os,a))(b:tN a os=I ds)(c:g ds=I z):gf g fs δ=I (z,a):=by unfold gf;rw[h1];simp only[iI];rw[b];simp only[iI];rw[c];rfl
def iG(h1:(Ls args)=np/\np<=n/\(args.zipIdx.all λp=>!(p.1.2&&asg.contains p.2))=Y)(a:f (args.map I++ac (n-np) C)=I (.rt r δ)):evF n np asg f args=I (r,gZ args δ):=by unfold evF;rw[gr h1,a]
def gc(h:f δ=I (.nx δ1)):fZ f g δ=g δ1:=by unfold fZ;rw[h];rfl
def gL{r}(h:f δ=I (.rt r δ1)):fZ f g δ=I (.rt r δ1):=by unfold fZ;rw[h];rfl
def je{r}(h:f δ=I (r,δ1)):ip f δ=I (.rt r δ1):=by unfold ip;rw[h];rfl
def iL{r}(h:f δ=I (r,δ1))(a:i<Ls δ1):iT i f δ=I (.nx<|δ1.set i<|I r):=by unfold iT;rw[h];simp only[iI];rw[gr a]
def iC(h:f δ=I ((.bl b,o),δ1)):fT f δ=I (b,δ1):=by unfold fT;rw[h];rfl
def gC{r}(h:f δ=I (r,δ1)):fQ f δ=I (.val r,δ1):=by unfold fQ;rw[h];rfl
def jQ(h1:a δ=I (o1,δ1))(c:b δ1=I (o2,δ2))(d:res δ2 o1=I x)(e:res δ2 o2=I y)(f:g x y=I z):fU g a b δ=I (z,δ2):=by unfold fU;rw[h1];simp only[iI];rw[c];simp only[iI];rw[d,e];simp only[iI];rw[f];rfl
def iu{b:EvF}{fs:List FO}{δ δ1:Dn}{os:List Opd}{args:List (D×Bool)}{r:D×Bool}{a:Dn}(h1:jk fs δ=I (os,δ1))(c:jy δ1 os=I args)(d:(gG os args).Nodup)(e:b args=I (r,a)):gb b fs δ=I (r,wb os args a δ1):=by unfold gb;rw[h1];simp only[iI];rw[c];simp only[iI];rw[gr d,e];rfl
def lb(h:f δ=I (J,δ1)):ly f g δ=g δ1:=by unfold ly;rw[h];rfl
def jS(h:f δ=I (b,δ1)):hJ f δ=I (!b,δ1):=by unfold hJ;rw[h];rfl
def jJ(h:t δ=I (J,δ1)):sIf t f g δ=g δ1:=by unfold sIf;rw[h];rfl
def mP(h:t δ=I (Y,δ1)):sIf t f g δ=f δ1:=by unfold sIf;rw[h];rfl
def mI{a b:FO}{δ δ1 δ2:Dn}{o1 o2:Opd}(h1:a δ=I (o1,δ1))(c:b δ1=I (o2,δ2)):jk [a,b] δ=I ([o1,o2],δ2):=by simp only[jk];rw[h1];simp only[iI];rw[c];rfl
def pz{a:FO}{δ δ1:Dn}{o1:Opd}(h1:a δ=I (o1,δ1)):jk [a] δ=I ([o1],δ1):=by simp only[jk];rw[h1];rfl
def nW(h:fi δ=I (ds,δ1)):rL fi tg fb δ=pT tg fb ds δ1:=by unfold rL;rw[h];rfl
def lV{os}(h1:b δ=I (o1,δ1))(c:jk fs δ1=I (os,a)):jk (b::fs) δ=I (o1::os,a):=by simp only[jk];rw[h1];simp only[iI];rw[c];rfl
def GU{fs:List F}{δ δ1:Dn}{os:List Opd}{ds:List D}(h1:jk (fs.map fQ) δ=I (os,δ1))(a:oh os=I ds)(b:(Ls ds)<=sizeLine):jL fs δ=I ((.lst ds,Y),δ1):=by unfold jL;rw[h1];simp only[iI];rw[a];simp only[iI];rw[gr b]
def OL(a:gh)(k:Nat): ∃c,kM [(.lst<|a.map .int,J),pI k]=I ((.int c,J),[I (.lst<|a.map .int,J),ii k]):=by
 by_cases hk:k<Ls a
 .refine⟨a[k],?_⟩;simp[kM,nG,evF,gIx,atI,ixN,gZ,hk]
 .refine⟨0,?_⟩;simp[kM,nG,evF,gZ,hk]
def Pf:Ih (.int 10) (.int 18)=ii 1000000000000000000:=by
 have:vz 10 18:=by unfold vz;decide+kernel
 show((if vz 10 18 then I (D.int (10^(18:Int).toNat)) else C).map λz=>(z,J))=_;rw[gr this];rfl
def J3(d:gh)(k:Nat): ∃a b,kR [(.lst<|d.map .int,J),pI k]=I ((.lst [.int a,.bl b],Y),[I (.lst<|d.map .int,J),ii k]):=by
 obtain⟨c,e⟩:=OL d k;by_cases h:c>=1000000000000000000
 .refine⟨c-1000000000000000000,Y,?_⟩;simp[kR,pk,evF,e,gG,wb,Pf,h,jB,gZ]
 .refine⟨c%2147483647,J,?_⟩;simp[kR,pk,evF,e,gG,wb,Pf,h,jB,gZ,zu,gI]
noncomputable def st(n:Nat):List Int:=(ai n).map λ(k:Nat)=>(1+(k:Int))
def PU(n:Nat):(st n).map D.int=ig 1 n:=by simp[st,ig]
noncomputable def sj:Nat->List Int->List Int->List (List Int)
 |0,_,f=>[f]
 |k+1,r,f=>(ai<|Ls r).flatMap λv=>sj k (r.eraseIdx v) (f++[r.getD v 0*1])++sj k (r.eraseIdx v) (f++[r.getD v 0* -1])
theorem Al(f:Int->D): ∀(l:gh) (k:Nat),(l.map f).eraseIdx k=(l.eraseIdx k).map f
 |[],k=>by simp
 |x::l,0=>by simp
 |x::l,k+1=>by simp[Al f l k]
def Il{i:Nat}{f:FO}{a δ1:Dn}{o:Opd}{n l:List D}{k:Int}{j:Nat}{d:D}(b:a[i]?=I (I (.lst n,Y)))(h1:f a=I (o,δ1))(c:res δ1 o=I (.int k))(e:δ1[i]?=I (I (.lst l,Y)))(g: -(2^63)<=k/\k<2^63)(h:ixN (Ls l) k=I j)(m:l[j]?=I d):
  ud i f a=I ((d,J),δ1.set i<|I (.lst<|l.eraseIdx j,Y)):=by
 unfold ud;rw[b];simp only[];rw[h1];simp only[iI];rw[c,e];simp only[];rw[gr g,h];simp only[iI];rw[m];rfl
def uf{i:Nat}{f:F}{δ a:Dn}{r:D×Bool}{l0 l:List D}(b:δ[i]?=I (I (.lst l0,Y)))(h1:f δ=I (r,a))(c:a[i]?=I (I (.lst l,Y)))(d:(Ls l)<sizeLine):
  jo i f δ=I ((.non,J),a.set i<|I (.lst<|l++[r.1],Y)):=by
 unfold jo;rw[b];simp only[];rw[h1];simp only[iI];rw[c];simp only[];rw[gr d]
def qB{r}(h:f δ=I (r,δ1)):jZ f δ=I (.nx δ1):=by unfold jZ;rw[h];rfl
noncomputable abbrev fPop:F:=ud 2<|fQ<|gb gz [fR 0,fQ<|gf (g1 kz) [fR 2]]
abbrev UC:F:=fU gIx (fQ<|jL [fC<|.int 1,iN jW<|fQ<|fC<|.int 1])<|fQ<|gb gz [fR 0,fQ<|fC<|.int 2]
abbrev fbT:FS:=fZ (jZ<|jo 3<|fU nF (fQ fPop)<|fQ UC) gq
def QZ(a:Int)(b:Bool)(n:Sl)(r f:gh)(x:Sl)(i:0<Ls r)(l:(Ls r)<=5): ∃v c,v<Ls r/\fPop [stt a b,n,lsi r,lsi f,x]=I ((.int<|r.getD v 0,J),[stt c b,n,lsi<|r.eraseIdx v,lsi f,x]):=by
 obtain⟨v,c,d,hv,e⟩:=qW a b (Ls r) (by lia) (by lia);have g:v.toNat<(Ls r):=by lia
 refine⟨v.toNat,c,g,?_⟩;have h:(lsi (r.eraseIdx v.toNat):Sl)=I (.lst<|(r.map D.int).eraseIdx v.toNat,Y):=by rw[Al]
 rw[h];refine Il (k:=v) (δ1:=[stt c b,n,lsi r,lsi f,x]) H (gC (r:=(.int v,J))<|iu (δ1:=[stt a b,n,lsi r,lsi f,x]) (os:=[.slot 0,.val (.int<|Ls r,J)]) (args:=[pS a b,pI<|Ls r]) ?_ H (show([0]:List Nat).Nodup from by decide) e) H H ⟨by lia,by lia⟩ (j:=v.toNat) ?_ ?_
 .show I ([Opd.slot 0,Opd.val (D.int ((r.map D.int).length:Nat),J)],_)=_;rw[iJ]
 .unfold ixN;rw[gr d,gr<|by simpa using hv]
 .simp[g]
def P4(a:Int)(b:Bool)(n y z x:Sl): ∃s c,(s=1\/s= -1)/\UC [stt a b,n,y,z,x]=I ((.int s,J),[stt c b,n,y,z,x]):=by obtain⟨v,c,f,hv,e⟩:=qW a b 2 (by lia) (by lia);have d: ∀δ:Dn,jL [fC<|.int 1,iN jW<|fQ<|fC<|.int 1] δ=I ((.lst [.int 1,.int (-1)],Y),δ):=λδ=>rfl;refine⟨if v=0 then 1 else -1,c,by split<;>simp,?_⟩;refine jQ (δ1:=[stt a b,n,y,z,x]) (gC<|d _) (gC (δ1:=[stt c b,n,y,z,x])<|iu (δ1:=[stt a b,n,y,z,x]) (os:=[.slot 0,.val (.int 2,J)]) (args:=[pS a b,pI 2]) H H (show([0]:List Nat).Nodup from by decide) e) H H ?_;rcases(show v=0\/v=1 by lia) with rfl|rfl<;>rfl
def RW(a:Int)(b:Bool)(n:Sl)(r f:gh)(x:Sl)(j:0<Ls r)(k:(Ls r)<=5)(m:(Ls f)<=5): ∃v s c,v<Ls r/\(s=1\/s= -1)/\fbT [stt a b,n,lsi r,lsi f,x]=I (.nx [stt c b,n,lsi<|r.eraseIdx v,lsi<|f++[r.getD v 0*s],x]):=by
 obtain⟨v,a1,hv,e⟩:=QZ a b n r f x j k;obtain⟨s,d,q,g⟩:=P4 a1 b n (lsi<|r.eraseIdx v) (lsi f) x;refine⟨v,s,d,hv,q,?_⟩
 have p:nF (.int<|r.getD v 0) (.int s)=ii (r.getD v 0*s):=by have:CMul (r.getD v 0) s:= .inr (by lia);show((if CMul (r.getD v 0) s then I (D.int<|r.getD v 0*s) else C).map λz=>(z,J))=_;rw[gr this];rfl
 have o:(f.map D.int).length<sizeLine:=by rw[iJ];exact Nat.lt_of_le_of_lt m (by decide)
 have h:=uf (i:=3) (δ:=[stt a b,n,lsi r,lsi f,x]) (l0:=f.map .int) H (jQ (gC e) (gC g) H H p) (l:=f.map .int) H o;refine(gc<|qB h).trans ?_;simp[gq,lsi]
def Ux(b:Bool)(n:Sl): ∀(c:List D) (a:Int) (r f:gh) (x:Sl),Ls c=Ls r->Ls f+Ls r<=5->
  ∃g t i j,t∈sj (Ls c) r f/\pT (fW 4) fbT c [stt a b,n,lsi r,lsi f,x]=I (.nx [stt g b,n,lsi i,lsi t,j]):=by
 intro p
 induction p with
 |nil=>intro a r f x _ _;exact⟨a,f,r,x,by simp[sj],rfl⟩
 |cons d c o=>
  intro a r f x h q;simp only[kY] at h;obtain⟨v,s,a1,hv,m,e⟩:=RW a b n r f (I (d,J)) (by lia) (by lia) (by lia);obtain⟨g,t,i,j,k,l⟩:=o a1 (r.eraseIdx v) (f++[r.getD v 0*s]) (I (d,J)) (by rw[AJ,gr hv];lia) (by rw[AJ,gr hv,ky];simp only[kY,sM];lia);refine⟨g,t,i,j,?_,?_⟩
  .simp only[kY,sj,cV,nO,xm];refine⟨v,hv,?_⟩;rcases m with rfl|rfl
   .exact .inl k
   .exact .inr k
  .unfold pT;rw[show fW 4 d [stt a b,n,lsi r,lsi f,x]=I [stt a b,n,lsi r,lsi f,I (d,J)] from H];simp only[iI];rw[e];simp only[iI];exact l
def P9(n:Nat)(b:n<=5):gRg .lst Y [.int 1,.int<|(n:Int)+1]=I (.lst<|(st n).map .int,Y):=by
 have:n=0\/n=1\/n=2\/n=3\/n=4\/n=5:=by lia
 have h1:RgOk 1 ((n:Int)+1):=by rcases this with rfl|rfl|rfl|rfl|rfl|rfl<;>decide+kernel
 have a:((n:Int)+1-1).toNat=n:=by lia
 show(if RgOk 1 ((n:Int)+1) then I (D.lst<|ig 1 ((n:Int)+1-1).toNat,Y) else C)=_;rw[gr h1,a,<-PU]
def ph{f:FO}{δ δ1:Dn}{o:Opd}{n:Nat}(h1:f δ=I (o,δ1))(a:res δ1 o=I (.int n))(e:n<=63):uT f δ=I (ig 0 n,δ1):=by
 have d:(-(2^62)<=(n:Int)/\(n:Int)<2^62):=⟨by lia,by lia⟩
 have b:jk [f] δ=I ([o],δ1):=by simp[jk,h1]
 have c:tN δ1 [o]=I [.int n]:=by simp[tN,a]
 unfold uT;rw[b];simp only[iI];rw[c];simp only[];rw[gr d];rfl
def Ey(a:Int)(b:Bool)(n:Nat)(f:n<=5): ∃d t,t∈sj n (st n) []/\nJ [pS a b,pI n]=I (enc t,[stt d b,ii n]):=by
 have c:(ig 0 n).length=n:=by simp[ig]
 have h:(st n).length=n:=by simp[st]
 obtain⟨d,t,j,k,g,e⟩:=Ux b (ii n) (ig 0 n) a (st n) [] C (by rw[c,h]) (by rw[h];simpa using f);rw[c] at g;refine⟨d,t,g,?_⟩;refine iG (δ:=[stt d b,ii n,lsi j,lsi t,k]) ⟨rfl,by decide,rfl⟩ ?_;refine(gc (δ1:=[stt a b,ii n,lsi<|st n,C,C])<|iL (i:=2) (δ1:=[stt a b,ii n,C,C,C]) (mw (os:=[.val (.int 1,J),.val (.int<|(n:Int)+1,J)]) H H<|P9 n f) (show 2<5 by decide)).trans ?_;refine(gc (δ1:=[stt a b,ii n,lsi<|st n,lsi [],C]) H).trans ?_;refine(gc<|(nW<|ph (o:= .slot 1) H H<|by lia).trans e).trans ?_;exact gL<|je<|mw (os:=[.slot 3]) H H H
def ve: ∀t:List Int,D.depL (t.map .int)=0:=by
 intro b
 induction b with
 |nil=>simp[D.depL]
 |cons s t a=>simp[D.depL,D.dep,a]
theorem yT: ∀a b:List Int,D.eqbL (a.map .int) (b.map .int)=decide (a=b)
 |[],[]=>by simp[D.eqbL]
 |[],_::_=>by simp[D.eqbL]
 |_::_,[]=>by simp[D.eqbL]
 |x::a,y::b=>by simp[D.eqbL,D.eqb,yT a b,mm,xH]
@[simp] theorem Ai(a b:gh):gEq (.lst<|a.map .int) (.lst<|b.map .int)=I (.bl<|decide<|a=b,J):=by unfold gEq;rw[gr<|by simp[D.dep,ve]];simp[D.eqb,yT]
def Om: ∀(l m:gh),l.Nodup->(∀x∈l,x∈m)->Ls m<=Ls l->l.Perm m:=by
 intro k
 induction k with
 |nil=>intro m _ _ h;have:m=[]:=M1.mp (by simpa using h);subst this;exact sQ _
 |cons x l j=>
  intro m a c h;rw[Bj] at a;have g:=c x iX;have b:=IM g;refine((j (m.erase x) a.2 (λy d=>?_) ?_).cons x).trans b.symm
  .have f:=c y<|jd _ d;have i:y≠x:=λe=>a.1<|e▸d;exact(DS i).mpr f
  .have:=b.length_eq;simp only[kY] at this h
   lia
def J5:x∈st n↔1<=x/\x<=n:=by
 simp only[st,lj,xm];constructor
 .rintro⟨k,h,rfl⟩;lia
 .rintro⟨h1,a⟩;exact⟨(x-1).toNat,by lia,by lia⟩
def Tj(n:Nat):(st n).Pairwise (· < ·):=by simp only[st];rw[lZ];exact SJ.imp λh=>by lia
def Tn(n:Nat):(st n).Nodup:=(Tj n).imp λh=>by lia
def Q4{n:Nat}{l:gh}:l.Perm (st n)↔(Ls l)=n/\(∀x∈l,1<=x/\x<=n)/\l.Nodup:=by
 constructor
 .intro h;refine⟨by rw[h.length_eq];simp[st],λx a=>J5.mp<|h.mem_iff.mp a,h.symm.nodup<|Tn n⟩
 .rintro⟨h1,b,c⟩;exact Om l (st n) c (λx a=>J5.mpr<|b x a) (by simp[st,h1])
def IC(h1:ltT (.int i) (.int j)=J)(c:ltT (.int j) (.int i)=J):i=j:=by
 rw[wz] at h1 c;simp only[cT] at h1 c;by_cases a:i<j
 .simp[a] at h1
 .by_cases b:j<i
  .simp[b] at c
  .lia
def uU{l:gh}{m:List D}(h:m.Perm (l.map D.int)): ∃k:List Int,m=k.map .int:=by
 refine⟨m.map λd=>match d with|D.int i=>i|_=>0,?_⟩;rw[jI]
 symm
 rw[qe (g:=id),qd];intro d hd;obtain⟨i,_,rfl⟩:=lj.mp<|h.mem_iff.mp hd;rfl
def qt(l:gh):lQ (l.map .int)=Y:=by
 unfold lQ
 cases l with
 |nil=>rfl
 |cons x l=>rw[vF];right;simp only[iR];simp[ke,D.pr,D.dep,lJ]
def Bo(pre:Dn)(x:Sl)(d:D):fW (Ls pre) d (pre++[x])=I (pre++[I (d,J)]):=by unfold fW;rw[gr<|by simp];simp[me]
def R9(f:F)(g:D->D)(pre:Dn): ∀(l a:List D) (x:Sl),(∀d∈l,∃o,f (pre++[I (d,J)])=I ((g d,o),pre++[I (d,J)]))->Ls a+Ls l<=sizeLine->
  ∃b,jq (fW<|Ls pre) gK (gx f) l a (pre++[x])=I (a++l.map g,pre++[b]):=by
 intro n
 induction n with
 |nil=>intro a x _ _;exact⟨x,by simp[jq]⟩
 |cons d l m=>
  intro a x h c;obtain⟨o,hd⟩:=h d iX;obtain⟨b,e⟩:=m (a++[g d]) (I (d,J)) (λi j=>h i<|jd _ j) (by simp at c ⊢;lia);refine⟨b,?_⟩;have k:(Ls a)<sizeLine:=by simp at c;lia
  rw[jq,Bo];simp only[iI,uE,jb,rh];rw[hd];simp only[iI];rw[gr k];simp only[iI];rw[e];simp
def Av(p:D->Bool): ∀l:List D,rJ (l.map λd=> .bl (p d))=I (l.map p):=by
 intro b
 induction b with
 |nil=>exact H
 |cons d l a=>simp[rJ,a]
def xl(p:D->Bool)(l:List D):mr (.lst<|l.map λd=> .bl (p d))=I (.bl<|l.all p,J):=by simp[mr,Av,tf,rR]
def MN(p:D->Bool)(l:List D):Fg (.lst<|l.map λd=> .bl (p d))=I (.bl<|l.any p,J):=by simp[Fg,Av,vM,rR]
noncomputable def ab(s:Int):Int:=if s<0 then -s else s
noncomputable def wh:D->Bool
 | .int _=>Y
 |_=>J
noncomputable def sg(n:Int):D->Bool
 | .int s=>decide (1<=ab s)&&decide (ab s<=n)
 |_=>J
noncomputable def iOf:D->Int
 | .int s=>s
 |_=>0
def uA(d:D):my [(d,J)]=I ((.bl<|wh d,J),[I (d,J)]):=by
 cases d<;>simp[my,xh,evF,gZ,wh,isT]
def wy(d:D):hC [(d,J)]=I ((.bl<|wh d,J),[I (d,J)]):=by
 cases d<;>simp[hC,oU,evF,gZ,wh,isT]
def zZ(d:D)(lo a:Int):kU [(d,J),(.int lo,J),(.int a,J)]=I ((.bl (match d with| .int s=>decide (lo<=s)&&decide (s<=a)|_=>J),J),[I (d,J),I (.int lo,J),I (.int a,J)]):=by
 cases d with
 |int s=>by_cases h:lo<=s<;>simp[kU,pv,evF,gZ,uA,wh,gG,wb,js,jr,h]
 |_=>simp[kU,pv,evF,gZ,uA,wh,gG,wb]
def Gv(d:D)(n:Int):pD [(.int n,J),(d,J)]=I ((.bl (match d with| .int s=>decide (1<=s)&&decide (s<=n)|_=>J),J),[I (.int n,J),I (d,J)]):=by simp[pD,yN,evF,gZ,zZ,gG,wb]
def Nh(n:Int)(d:D):lW [pI n,(d,J)]=I ((.bl<|sg n d,J),[ii n,I (d,J)]):=by
 cases d with
 |int s=>simp[lW,tZ,evF,gZ,uA,Gv,wh,gG,wb,sg,ab];rfl
 |_=>simp[lW,tZ,evF,gZ,uA,Gv,wh,gG,wb,sg,ab]
def OkD(d:D):Prop:= ∀l,d= .tup l->Ls l<=60
def ixl(a:0<=v)(h:v<L.length):gIx (.lst L) (.int v)=I (L.getD v.toNat .non,J):=by
 have h1:v.toNat<L.length:=by lia
 simp[gIx,atI,ixN,a,h,h1]
def ixt(a:0<=v)(h:v<L.length):gIx (.tup L) (.int v)=I (L.getD v.toNat .non,J):=by
 have h1:v.toNat<L.length:=by lia
 simp[gIx,atI,ixN,a,h,h1]
def ixi{t:gh}{v:Int}(a:0<=v)(h:v<Ls t):gIx (.tup<|t.map .int) (.int v)=ii (t.getD v.toNat 0):=by
 have h1:v.toNat<(Ls t):=by lia
 simp[gIx,atI,ixN,a,h,h1]
def V1{t:gh}{v:Int}(a:0<=v)(h:v<Ls t):gIx (.lst<|t.map .int) (.int v)=ii (t.getD v.toNat 0):=by
 have h1:v.toNat<(Ls t):=by lia
 simp[gIx,atI,ixN,a,h,h1]
def Sk(h1:(Ls l)<=1000)(a:(Ls m)<=1000):jX (.tup l) (.tup m)=I (.tup<|l++m,J):=by simp only[jX];rw[gr<|by rw[jB];lia]
def Sm(h1:(Ls l)<=1000)(a:(Ls m)<=1000):jX (.lst l) (.lst m)=I (.lst<|l++m,Y):=by simp only[jX];rw[gr<|by rw[jB];lia]
def qX(a:Int)(b:Bool)(m:Int)(i:0<m)(j:m<1073741824): ∃v c,0<=v/\v<m/\ ∀(d:FO) (δ:Dn) (o:Opd),d (stt a b::δ)=I (o,stt a b::δ)->xk (stt a b::δ) o=ii m->gb gz [fR 0,d] (stt a b::δ)=I ((.int v,J),stt c b::δ):=by
 obtain⟨v,c,f,h1,e⟩:=qW a b m i j;refine⟨v,c,f,h1,λd δ o g h=>?_⟩;refine(iu (os:=[.slot 0,o]) (args:=[pS a b,pI m]) (mI H g) ?_ ?_ e).trans ?_
 .simp[h]
 .cases o<;>simp[gG]
 .cases o<;>simp[wb]
noncomputable def led(u:gh)(s:Int):Int:=if 0<s then u.getD (s-1).toNat 0 else -(u.getD (-s-1).toNat 0)
def Ud(x:Int):nF (.int x) (.int 1)=ii x:=by have:CMul x 1:= .inr (by lia);show((if CMul x 1 then I (D.int<|x*1) else C).map λz=>(z,J))=_;rw[gr this,ye];rfl
def Uc(x:Int):nF (.int x) (.int (-1))=ii (-x):=by have:CMul x (-1):= .inr (by lia);show((if CMul x (-1) then I (D.int<|x*(-1)) else C).map λz=>(z,J))=_;rw[gr this,ut,ye];rfl
theorem pm0:gIx (.lst [.int 1,.int (-1)]) (.int 0)=ii 1:=rfl
theorem pm1:gIx (.lst [.int 1,.int (-1)]) (.int 1)=ii (-1):=rfl
def Ot(u:gh)(s:Int)(b:s≠0)(h1: -((Ls u):Int)<=s)(c:s<=Ls u):
  ie [enc u,pI s]=I ((.int<|led u s,J),[eN u,ii s]):=by
 simp only[ie,mR];by_cases h:0<s
 .have:=ixi (t:=u) (v:=s-1) (by lia) (by lia);have a: ¬s<0:=by lia
  simp only[evF];simp[h,a,led,this,gZ,jB,pm0,Ud]
 .have:=ixi (t:=u) (v:= -s-1) (by lia) (by lia);have a:s<0:=by lia
  simp only[evF];simp[h,a,led,this,gZ,jB,pm1,Uc]
def ym(a:Int)(b:Bool)(m:Int)(l:0<m)(n:m<1073741824): ∃v g,0<=v/\v<m/\ ∀(h:FO) (c d:Sl) (f:Dn) (o:Opd),h (c::d::stt a b::f)=I (o,c::d::stt a b::f)->xk (c::d::stt a b::f) o=ii m->gb gz [fR 2,h] (c::d::stt a b::f)=I ((.int v,J),c::d::stt g b::f):=by
 obtain⟨v,g,i,h1,e⟩:=qW a b m l n;refine⟨v,g,i,h1,λh c d f o j k=>?_⟩;refine(iu (os:=[.slot 2,o]) (args:=[pS a b,pI m]) (mI H j) ?_ ?_ e).trans ?_
 .simp[k]
 .cases o<;>simp[gG]
 .cases o<;>simp[wb]
def ClOk(n:Nat)(c:gh):Prop:=c≠[]/\(c.map ab).Pairwise (· < ·)/\ ∀s∈c,1<=ab s/\ab s<=n
def CA(j:Int)(c:gh):Prop:=(c.map ab).Pairwise (· < ·)/\ ∀s∈c,1<=ab s/\ab s<j
def FP(h:0<=i):ab i=i:=by unfold ab;rw[gD<|by lia]
def FQ(h:0<=i):ab (-i)=i:=by unfold ab;split<;>lia
def CA.snoc{j s:Int}{c:gh}(h:CA j c)(h1:ab s=j)(e:1<=j):CA (j+1) (c++[s]):=by
 refine⟨?_,λx a=>?_⟩
 .rw[lB,sJ];refine⟨h.1,by simp,λx a y b=>?_⟩;obtain⟨z,d,rfl⟩:=lj.mp a;simp at b;subst b;have:=h.2 z d;lia
 .rcases nO.mp a with a|a
  .have:=h.2 x a;lia
  .simp at a;subst a;lia
def CA.up(h:CA j c):CA (j+1) c:=⟨h.1,λx a=>by have:=h.2 x a;lia⟩
def ue{i:Nat}{f:F}{δ δ1:Dn}{r:D×Bool}{l0 l:List D}(a:δ[i]?=I (I (.lst l0,Y)))(h1:f δ=I (r,δ1))(b:δ1[i]?=I (I (.lst l,Y)))(c:(Ls l)<=10000):
  fZ (jZ<|jo i f) gq δ=I (.nx<|δ1.set i<|I (.lst<|l++[r.1],Y)):=
 (gc<|qB<|uf a h1 b<|qZ c).trans rfl
def GN(h1:f δ=I (o1,δ1))(a:g δ1=I (o2,δ2))(b:res δ2 o1=I (.int i))(c:res δ2 o2=I (.int j))(d:0<=i/\i<=1000)(e:0<=j/\j<=1000):zt f g δ=I (ig i (j-i).toNat,δ2):=by unfold zt;rw[mI h1 a];simp only[iI,Qe,Nl,b,c];rw[gr ⟨by lia,by lia,by lia,by lia⟩]
def wB(h:f δ=I ((.lst l,o),δ1)):gw f δ=I (l,δ1):=by unfold gw;rw[h];rfl
def Ly{b:Type}[BEq b][LawfulBEq b]: ∀(l m:List b),l.Nodup->(∀x∈l,x∈m)->Ls l<=(Ls m):=by
 intro n
 induction n with
 |nil=>intro m _ _;exact kx _
 |cons x l k=>
  intro m a c;rw[Bj] at a;have i:=c x iX;have h:=IM i
  have:=k (m.erase x) a.2 (λy d=>by have f:=c y<|jd _ d;have j:y≠x:=λe=>a.1<|e▸d;exact(DS j).mpr f)
  have g:=h.length_eq;simp only[kY] at g ⊢
  lia
def Kx{l:gh}(h:l.Pairwise (· < ·)):l.Nodup:=h.imp λh=>by lia
def ClOk.len{n:Nat}{c:gh}(h:ClOk n c):(Ls c)<=n:=by
 have:=Ly (c.map ab) (st n) (Kx h.2.1) (λx b=>by obtain⟨s,a,rfl⟩:=lj.mp b;exact J5.mpr<|h.2.2 s a)
 simpa[st] using this
def TOk(n:Nat)(t:gh):Prop:=Ls t=n/\ ∀x∈t,1<=ab x/\ab x<=n
def kX(i:Int):ab (-i)=ab i:=by unfold ab;split<;>split<;>lia
def rB{l:gh}{k:Nat}(h:k<Ls l):l.getD k 0∈l:=by rw[sY,gY h];exact xM h
def RE{n:Nat}{t:gh}(b:TOk n t){s:Int}(h1:1<=ab s)(a:ab s<=n):1<=ab (led t s)/\ab (led t s)<=n:=by
 unfold led;unfold ab at h1 a;have c:=b.1;split
 .rename_i h;rw[gD<|by omega] at h1 a;exact b.2 _ (rB<|by omega)
 .rename_i h;rw[kX];split at h1
  .rw[gr<|by assumption] at a;exact b.2 _ (rB<|by omega)
  .omega
noncomputable abbrev cD(c:gh):D:= .tup (c.map .int)
def qM(c:gh):D.dep (cD c)=1:=by simp[D.dep,ve]
def OH: ∀a:List (List Int),D.depL (a.map cD)<=1:=by
 intro d
 induction d with
 |nil=>simp[D.depL]
 |cons c a b=>have:=b;simp only[iR,D.depL,qM];lia
def B7(a b:gh):D.eqb (cD a) (cD b)=decide (a=b):=by simp[D.eqb,yT]
def Sg(c:gh): ∀a:List (List Int),(a.map cD).any (λd=>D.eqb d<|cD c)=decide (c∈a):=by
 intro f
 induction f with
 |nil=>simp
 |cons x a b=>
  simp only[iR,cS,b,B7,jF];by_cases h:x=c
  .simp[h]
  .have: ¬c=x:=λe=>h e.symm;simp[h,this]
noncomputable def zc:Nat->List (List Int)
 |0=>[[]]
 |k+1=>zc k++((zc k).map λc=>c++[(k:Int)+1])++((zc k).map λc=>c++[-((k:Int)+1)])
def MO: ∀(k:Nat) (c:gh),(c.map ab).Pairwise (· < ·)->(∀s∈c,1<=ab s/\ab s<=k)->c∈zc k:=by
 intro j
 induction j with
 |zero=>
  intro c _ h
  cases c with
  |nil=>simp[zc]
  |cons s c=>have:=h s iX;lia
 |succ k f=>
  intro c b h;simp only[zc,nO,lj];by_cases d:c=[]
  .subst d;exact .inl<|.inl<|f [] (by simp) (by simp)
  .have hd:=DL d;generalize c.dropLast=i at hd;generalize c.getLast d=s at hd;subst hd;rw[lB,sJ] at b;have l:=h s (by simp);have g: ∀x∈i,1<=ab x/\ab x<ab s:=λx a=>⟨(h x<|by simp[a]).1,b.2.2 (ab x) (vA a) (ab s)<|by simp⟩
   by_cases q:ab s<=k
   .refine .inl (.inl<|f _ ?_ λx a=>?_)
    .rw[lB,sJ];exact b
    .rcases nO.mp a with a|a
     .have:=g x a;lia
     .simp at a;subst a;lia
   .have e:ab s=(k:Int)+1:=by lia
    have hk:=f i b.1 λx a=>by have:=g x a;lia
    unfold ab at e;split at e
    .exact .inr ⟨i,hk,by rw[show s= -((k:Int)+1) by lia]⟩
    .exact .inl (.inr ⟨i,hk,by rw[show s=((k:Int)+1) by lia]⟩)
def IG: ∀(k:Nat) (n:Nat),n<=k->(zc n).length<=(zc k).length:=by
 intro b
 induction b with
 |zero=>intro n h;rw[show n=0 by lia];exact iD _
 |succ k a=>
  intro n h;by_cases e:n=k+1
  .subst e;exact iD _
  .have:=a n (by lia);simp only[zc,ky,iJ];lia
def CsOk(n:Nat)(cs:iz):Prop:=cs.Nodup/\ ∀c∈cs,ClOk n c
def CsOk.len(b:n<=5)(h:CsOk n cs):(Ls cs)<=243:=by
 have h1:=Ly cs (zc n) h.1 λc a=>MO n c (h.2 c a).2.1 (h.2 c a).2.2;have d:=IG 5 n b;have e:(zc 5).length=243:=by decide
 lia
def CsOk.snoc{n:Nat}{b:iz}{c:gh}(h:CsOk n b)(f:ClOk n c)(g:c∉b):CsOk n (b++[c]):=by
 refine⟨?_,λx a=>?_⟩
 .rw[io];exact⟨h.1,by simp,λx a y d e=>by simp at d;subst d;subst e;exact g a⟩
 .rcases nO.mp a with a|a
  .exact h.2 x a
  .simp at a;subst a;exact f
noncomputable abbrev lsC(cs:iz):Sl:=I (.lst<|cs.map cD,Y)
noncomputable def wO(a:iz)(c:gh):List (List Int):=if c∈a then a else a++[c]
def KS: ∀l:List Int,D.prL (l.map .int)=Y:=by
 intro b
 induction b with
 |nil=>simp[D.prL]
 |cons x l a=>simp[D.prL,D.pr,a]
theorem Ap(c:cd): ∀a b:List Int,(pE c (a.map .int)<|b.map .int).isSome=Y
 |[],b=>by simp[pE]
 |x::a,[]=>by simp[pE]
 |x::a,y::b=>by
  simp only[iR,pE];split
  .exact Ap c a b
  .simp[lJ]
def zN(cs:iz)(h: ∀c∈cs,c≠[]):lQ (cs.map cD)=Y:=by
 have hk: ∀c:List Int,c≠[]->ke (cD c)=I 1:=λc g=>by
  cases c with
  |nil=>exact absurd H g
  |cons=>rfl
 unfold lQ
 cases cs with
 |nil=>rfl
 |cons c cs=>
  rw[vF];right;simp only[iR];rw[lL,lL,hk c<|h c iX];refine⟨⟨rfl,?_⟩,?_⟩
  .rw[lO];intro d hd;rw[<-iR (f:=cD)] at hd;obtain⟨x,b,rfl⟩:=lj.mp hd;rw[hk x<|h x b,qM];simp[D.pr,KS]
  .rw[lO];intro d hd;rw[lO];intro e a;rw[<-iR (f:=cD)] at hd a;obtain⟨x,b,rfl⟩:=lj.mp hd;obtain⟨y,i,rfl⟩:=lj.mp a;simp only[lJ];exact Ap _ _ _
noncomputable def unC:D->List Int
 | .tup l=>l.map iOf
 |_=>[]
def qr(c:gh):unC (cD c)=c:=by simp only[unC,jI];rw[qe (g:=id),qd];intro x _;rfl
def Fw(h:m.Perm (cs.map cD)): ∃a:List (List Int),m=a.map cD/\a.Perm cs:=by
 refine⟨m.map unC,?_,?_⟩
 .rw[jI]
  symm
  rw[qe (g:=id),qd];intro d hd;obtain⟨c,_,rfl⟩:=lj.mp<|h.mem_iff.mp hd;simp only[bI,qr];rfl
 .have:=h.map unC;rw[jI] at this;rw[show d8 (unC∘cD) cs=d8 id cs from qe λc _=>qr c,qd] at this;exact this
def SrtC(c:iz):Prop:=c.Pairwise λa b=>ltT (cD b) (cD a)=J
def SrtC.take(h:SrtC a)(m:Nat):SrtC (a.take m):=r0 (vS m a) h
def CsOk.take(h:CsOk n a)(m:Nat):CsOk n (a.take m):=⟨List.Nodup.sublist (vS m a) h.1,λc b=>h.2 c<|qg b⟩
def wQ(n:Nat)(ks:iz):Prop:=n<=5/\CsOk n ks/\SrtC ks/\(Ls ks)<=30
noncomputable abbrev rD'(n:Nat)(ks:iz):D:= .tup [.int n,.tup<|ks.map cD]
noncomputable abbrev rS(n:Nat)(ks:iz):Sl:=I (rD' n ks,J)
noncomputable abbrev frz(a:List D):Dn:=a.map λd=>I (d,J)
theorem oQ: ∀(os:List Opd) (a:List D),gG os (a.map λd=>(d,J))=[]
 |[],_=>by simp[gG]
 |_::_,[]=>by simp[gG]
 |o::os,d::a=>by cases o<;>simp[gG,oQ os a]
theorem zI: ∀(os:List Opd) (b:List D) (a c:Dn),wb os (b.map λd=>(d,J)) a c=c
 |[],_,_,_=>by simp[wb]
 |_::_,[],_,_=>by simp[wb]
 |_::_,_::_,[],_=>by simp[wb]
 |o::os,d::b,x::xs,c=>by cases o<;>simp[wb,zI os b xs]
def Wc{f:F}{ti:FT}{g:D->D}{p:D->Bool}{pre:Dn}: ∀(l a:List D) (x:Sl),(∀d∈l,ti (pre++[I (d,J)])=I (p d,pre++[I (d,J)])/\(p d=Y-> ∃o,f (pre++[I (d,J)])=I ((g d,o),pre++[I (d,J)])))->Ls a+Ls l<=sizeLine->
  ∃b,jq (fW<|Ls pre) ti (gx f) l a (pre++[x])=I (a++(l.filter p).map g,pre++[b]):=by
 intro r
 induction r with
 |nil=>intro a x _ _;exact⟨x,by simp[jq]⟩
 |cons d l m=>
  intro a x h j;obtain⟨h1,n⟩:=h d iX;have q:(Ls a)<sizeLine:=by simp at j;lia
  rw[jq,Bo];simp only[iI];rw[h1]
  cases k:p d with
  |false=>obtain⟨b,e⟩:=m a (I (d,J)) (λc i=>h c<|jd _ i) (by simp at j ⊢;lia);exact⟨b,by simp[e,k]⟩
  |true=>obtain⟨o,hd⟩:=n k;obtain⟨b,e⟩:=m (a++[g d]) (I (d,J)) (λc i=>h c<|jd _ i) (by simp at j ⊢;lia);refine⟨b,?_⟩;simp only[iI,jb,rh];rw[hd];simp only[iI];rw[gr q];simp only[iI];rw[e];simp[k]
def wK{caps:ja}{fi:FIt}{f:F}{ti:FT}{δ δ1:Dn}{l args:List D}(g:D->D)(p:D->Bool)(h1:fi δ=I (l,δ1))(a:jy δ1 (caps.map .slot)=I (args.map λd=>(d,J)))(b:(Ls args)=Ls caps)
  (h: ∀d∈l,ti (frz args++[I (d,J)])=I (p d,frz args++[I (d,J)])/\(p d=Y-> ∃o,f (frz args++[I (d,J)])=I ((g d,o),frz args++[I (d,J)])))(c:(Ls l)<=10000):
  gE caps 1 fi (fW<|Ls caps) ti (gx f) δ=I ((.lst<|(l.filter p).map g,Y),δ1):=by
 obtain⟨i,e⟩:=Wc (f:=f) (ti:=ti) (g:=g) (p:=p) (pre:=frz args) l [] C h (by rw[jB];simp;lia);unfold gE;rw[h1];simp only[iI];rw[a];simp only[iI,oQ,lC,jb,jI,zI];rw[show fW (Ls caps)=fW (frz args).length from by rw[iJ,b]];rw[show((args.map<|I∘λd=>(d,J))++ac 1 C:Dn)=frz args++[C] from H,e];simp
def ug{caps:ja}{fi:FIt}{f:F}{δ δ1:Dn}{l args:List D}(g:D->D)(h1:fi δ=I (l,δ1))(a:jy δ1 (caps.map .slot)=I (args.map λd=>(d,J)))(b:(Ls args)=Ls caps)
  (h: ∀d∈l,∃o,f (frz args++[I (d,J)])=I ((g d,o),frz args++[I (d,J)]))(c:(Ls l)<=10000):
  gE caps 1 fi (fW<|Ls caps) gK (gx f) δ=I ((.lst<|l.map g,Y),δ1):=by
 rw[wK g (λ_=>Y) h1 a b (λd hd=>⟨rfl,λ_=>h d hd⟩) c,List.filter_eq_self.mpr λ_ _=>rfl]
def mz{caps:ja}{fi:FIt}{f:F}{δ δ1:Dn}{l args:List D}(p:D->Bool)(h1:fi δ=I (l,δ1))(a:jy δ1 (caps.map .slot)=I (args.map λd=>(d,J)))(b:(Ls args)=Ls caps)
  (h: ∀d∈l,∃o,f (frz args++[I (d,J)])=I ((.bl<|p d,o),frz args++[I (d,J)]))(c:(Ls l)<=10000):
  gf (g1 mr) [fQ<|gE caps 1 fi (fW<|Ls caps) gK<|gx f] δ=I ((.bl<|l.all p,J),δ1):=
 mw (pz<|gC<|ug (λd=> .bl (p d)) h1 a b h c) rfl (xl p l)
def DA{caps:ja}{fi:FIt}{f:F}{δ a:Dn}{l args:List D}(p:D->Bool)(h1:fi δ=I (l,a))(b:jy a (caps.map .slot)=I (args.map λd=>(d,J)))(c:(Ls args)=Ls caps)
  (h: ∀d∈l,∃o,f (frz args++[I (d,J)])=I ((.bl<|p d,o),frz args++[I (d,J)]))(e:(Ls l)<=10000):
  gf (g1 Fg) [fQ<|gE caps 1 fi (fW<|Ls caps) gK<|gx f] δ=I ((.bl<|l.any p,J),a):=
 mw (pz<|gC<|ug (λd=> .bl (p d)) h1 b c h e) rfl (MN p l)
def Wd{f:F}{c:FIt}{g:D->D->D}{m:List D}(r: ∀d y,c [I (d,J),y]=I (m,[I (d,J),y])): ∀(l a:List D) (x y:Sl),(∀d∈l,∀e∈m,∃o,f [I (d,J),I (e,J)]=I ((g d e,o),[I (d,J),I (e,J)]))->Ls a+(Ls l)*(Ls m)<=sizeLine->
  ∃v b,jq (fW 0) gK (FH c (fW 1) gK<|gx f) l a [x,y]=I (a++l.flatMap λd=>m.map<|g d,[v,b]):=by
 intro u
 induction u with
 |nil=>intro a x y _ _;exact⟨x,y,by simp[jq]⟩
 |cons d l t=>
  intro a x y h s;have A:(Ls a)+Ls m+(Ls l)*(Ls m)<=sizeLine:=by simp[eD] at s;omega
  obtain⟨b,j⟩:=R9 f (g d) [I (d,J)] m a y (λe q=>h d iX e q) (by omega);obtain⟨x2,w,k⟩:=t (a++m.map (g d)) (I (d,J)) b (λi n=>h i<|jd _ n) (by simp;omega);refine⟨x2,w,?_⟩;rw[jq];rw[show fW 0 d [x,y]=I [I (d,J),y] from H];simp only[iI,uE,jb];unfold FH;rw[r];simp only[iI];rw[show jq (fW 1) gK (gx f) m a [I (d,J),y]=_ from j];simp only[iI];rw[show jq (fW 0) gK (λa z=>(c z).bind λp=>jq (fW 1) gK (gx f) p.1 a p.2) l (a++m.map (g d)) ([I (d,J)]++[b])=_ from k];simp
def R5{fi fi2:FIt}{f:F}{δ δ1:Dn}{l m:List D}(g:D->D->D)(h1:fi δ=I (l,δ1))(a: ∀d y,fi2 [I (d,J),y]=I (m,[I (d,J),y]))(h: ∀d∈l,∀e∈m,∃o,f [I (d,J),I (e,J)]=I ((g d e,o),[I (d,J),I (e,J)]))(b:(Ls l)*(Ls m)<=10000):
  gE [] 2 fi (fW 0) gK (FH fi2 (fW 1) gK<|gx f) δ=I ((.lst<|l.flatMap λd=>m.map<|g d,Y),δ1):=by
 obtain⟨c,i,e⟩:=Wd (f:=f) (g:=g) a l [] C C h (by rw[jB];simp;lia);unfold gE;rw[h1];simp only[iI,uw,Hy,gG,lC,jb,dd,qk,List.replicate_zero];rw[e];simp[wb]
def rE{tg:Tg}{fb:FS}(U:List D->Dn->Prop)(step: ∀d ds δ,U (d::ds) δ-> ∃δ1 b,tg d δ=I δ1/\fb δ1=I (.nx b)/\U ds b): ∀(ds:List D) (δ:Dn),U ds δ-> ∃a,U [] a/\pT tg fb ds δ=I (.nx a):=by
 intro j
 induction j with
 |nil=>intro δ h;exact⟨δ,h,rfl⟩
 |cons d ds i=>intro δ h;obtain⟨δ1,b,h1,c,e⟩:=step d ds δ h;obtain⟨a,f,g⟩:=i b e;refine⟨a,f,?_⟩;unfold pT;rw[h1];simp only[iI];rw[c];exact g
theorem za{tg:Tg}{f:F}(U:List D->List D->Dn->Prop)(step: ∀d e a δ,U (d::e) a δ-> ∃δ1 r o c,tg d δ=I δ1/\f δ1=I ((r,o),c)/\(Ls a)<=10000/\U e (a++[r]) c): ∀(e a:List D) (δ:Dn),U e a δ-> ∃g b,U [] g b/\jq tg gK (gx f) e a δ=I (g,b)
 |[],a,δ,h=>⟨a,δ,h,rfl⟩
 |d::e,a,δ,h=>by obtain⟨δ1,r,o,c,h1,i,m,j⟩:=step d e a δ h;obtain⟨g,b,k,l⟩:=za U step e _ c j;refine⟨g,b,k,?_⟩;unfold jq;rw[h1];simp only[iI,uE,jb,rh];rw[i];simp only[iI];rw[gr<|qZ m];exact l
def nI{caps:ja}{k:Nat}{fi:FIt}{tg:Tg}{d:FT}{c:FB}{δ δ1 b:Dn}{l a:List D}{args:List (D×Bool)}(h1:fi δ=I (l,δ1))(e:jy δ1 (caps.map .slot)=I args)(f:(gG (caps.map .slot) args).Nodup)(g:jq tg d c l [] (args.map I++ac k C)=I (a,b)):
  gE caps k fi tg d c δ=I ((.lst a,Y),wb (caps.map .slot) args (gZ args b) δ1):=by
 unfold gE;rw[h1];simp only[iI];rw[e];simp only[iI];rw[gr f,g];rfl
def ddI(l:gh):List Int:=l.foldl (λa k=>if k∈a then a else a++[k]) []
def nB(l:gh):(l.map D.int).all okI=Y:=by rw[lO];intro x a;obtain⟨k,_,rfl⟩:=lj.mp a;rfl
def DG(a:gh)(k:Int):pU (a.map D.int) (.int k)=(if k∈a then a else a++[k]).map D.int:=by
 unfold pU
 have:(a.map D.int).any (D.eqb · (.int k))=Y↔k∈a:=by
  rw[any_int (nB a) k,lj];constructor
  .rintro⟨j,b,e⟩;cases e;exact b
  .exact λh=>⟨k,h,rfl⟩
 by_cases h:k∈a
 .rw[gr<|this.mpr h,gr h]
 .rw[gD λz=>h<|this.mp z,gD h,lB];rfl
def Ir(l:gh):nM (l.map D.int)=(ddI l).map D.int:=by
 unfold nM ddI
 have: ∀(l a:gh),(l.map D.int).foldl pU (a.map D.int)=(l.foldl (λa k=>if k∈a then a else a++[k]) a).map D.int:=by
  intro l
  induction l with
  |nil=>intro a;rfl
  |cons k l b=>intro a;rw[iR,pZ,pZ,DG,b]
 exact this l []
def Fu: ∀(l c:gh),c.Nodup->(l.foldl (λc k=>if k∈c then c else c++[k]) c).Nodup/\(∀x,x∈l.foldl (λc k=>if k∈c then c else c++[k]) c↔x∈c\/x∈l)/\(l.foldl (λc k=>if k∈c then c else c++[k]) c).length<=Ls c+(Ls l):=by
 intro l
 induction l with
 |nil=>intro c h;exact⟨h,λx=>by simp,by simp⟩
 |cons k l i=>
  intro c h;rw[pZ];by_cases hk:k∈c
  .rw[gr hk];obtain⟨h1,d,f⟩:=i c h;refine⟨h1,λx=>?_,by simp at f ⊢;lia⟩;rw[d x,jF];constructor
   .rintro(z|z)
    .exact .inl z
    .exact .inr (.inr z)
   .rintro(z|rfl|z)
    .exact .inl z
    .exact .inl hk
    .exact .inr z
  .rw[gD hk];obtain⟨h1,d,f⟩:=i (c++[k])<|io.mpr ⟨h,by simp,λa j b g e=>hk<|by simp at g;subst g;subst e;exact j⟩;refine⟨h1,λx=>?_,by simp at f ⊢;lia⟩;rw[d x,nO,zf,jF];constructor
   .rintro((z|z)|z)
    .exact .inl z
    .exact .inr (.inl z)
    .exact .inr (.inr z)
   .rintro(z|z|z)
    .exact .inl (.inl z)
    .exact .inl (.inr z)
    .exact .inr z
def Ft(l:gh):(ddI l).Nodup:=(Fu l [] lC).1
def Gw{l:gh}{x:Int}:x∈ddI l↔x∈l:=by have:=(Fu l [] lC).2.1 x;unfold ddI;simpa using this
def GZ(l:gh):(ddI l).length<=(Ls l):=by unfold ddI;simpa using(Fu l [] lC).2.2
def Wb{ti:FT}{p:Int->Bool}{pre:Dn}: ∀(l a:gh) (x:Sl),(∀k∈l,ti (pre++[I (.int k,J)])=I (p k,pre++[I (.int k,J)]))->Ls a+Ls l<500->
  ∃c,jq (fW<|Ls pre) ti (wM<|gF<|Ls pre) (l.map .int) (a.map .int) (pre++[x])=I (((l.filter p).foldl (λa k=>if k∈a then a else a++[k]) a).map .int,pre++[c]):=by
 intro l
 induction l with
 |nil=>intro a x _ _;exact⟨x,by simp[jq]⟩
 |cons k l j=>
  intro a x h g;have h1:=h k iX;rw[iR,jq,Bo];simp only[iI];rw[h1]
  cases i:p k with
  |false=>obtain⟨c,e⟩:=j a (I (.int k,J)) (λd f=>h d<|jd _ f) (by simp at g ⊢;lia);exact⟨c,by simp[e,i]⟩
  |true=>
   have b:(if k∈a then a else a++[k]).length+Ls l<500:=by
    rw[kY] at g;split
    .lia
    .rw[ky,rX];lia
   obtain⟨c,e⟩:=j (if k∈a then a else a++[k]) (I (.int k,J)) (λd f=>h d<|jd _ f) b;refine⟨c,?_⟩;simp only[iI,jb,wM]
   have hv:gF (Ls pre) (pre++[I (.int k,J)])=I ((.int k,J),pre++[I (.int k,J)]):=by unfold gF;simp
   rw[hv];simp only[iI];rw[gr ⟨nB a,rfl,by simp at g ⊢;lia⟩];simp only[iI];rw[DG,e,List.filter_cons_of_pos i,pZ]
def R3{a:ja}{c:FIt}{ti:FT}{δ b:Dn}{l:gh}{args:List D}(p:Int->Bool)(h1:c δ=I (l.map .int,b))(f:jy b (a.map .slot)=I (args.map λd=>(d,J)))(g:(Ls args)=Ls a)
  (h: ∀k∈l,ti (frz args++[I (.int k,J)])=I (p k,frz args++[I (.int k,J)]))(i:(Ls l)<500):
  Mn a 1 c (fW<|Ls a) ti (wM<|gF<|Ls a) δ=I ((.oth .set []<|(ddI<|l.filter p).map .int,Y),b):=by
 obtain⟨j,e⟩:=Wb (ti:=ti) (p:=p) (pre:=frz args) l [] C h (by simpa using i);unfold Mn Fo;rw[h1];simp only[iI];rw[f];simp only[iI,oQ,lC,jb,jI,zI];rw[show (Ls a)=(frz args).length from by rw[iJ,g]];rw[show((args.map<|I∘λd=>(d,J))++ac 1 C:Dn)=frz args++[C] from H];rw[uw] at e;rw[e];rfl
noncomputable def MH:D->Bool
 | .int i=>decide (0<=i)&&decide (i<=1)
 |_=>J
def Sb(d:D):oV [(d,J)]=I ((.bl<|MH d,J),[I (d,J)]):=by
 cases d<;>simp[oV,Aj,evF,gZ,zZ,gG,wb,MH]
noncomputable def isA(n:Nat):D->Bool
 | .tup l=>decide (Ls l=n)&&l.all MH
 |_=>J
def pA(h:f δ=I ((.bl Y,o),δ1)):oy f g δ=g δ1:=by rw[Kq,h];rfl
def Mr(h:f δ=I ((.bl J,o),δ1)):oy f g δ=I ((.bl J,J),δ1):=by rw[Kq,h];rfl
def IF(n:Nat)(d:D)(hd:OkD d):lI [pI n,(d,J)]=I ((.bl<|isA n d,J),[ii n,I (d,J)]):=by
 cases d with
 |tup l=>
  have c:=mz (caps:=[]) (fi:=gw<|gF 1) (f:=gb oV [fR 0]) (δ:=[ii n,I (.tup l,J)]) (l:=l) (args:=[]) MH H H H (λd _=>⟨J,by simp[Sb,gG,wb]⟩) (by have:=hd l H;lia)
  have e:fU gEq (fQ<|gf (g1 kz) [fR 1]) (fR 0) [ii n,I (.tup l,J)]=I ((.bl<|decide<|Ls l=n,J),[ii n,I (.tup l,J)]):=by simp[xH,Int.natCast_inj]
  refine iG (δ:=[ii n,I (.tup l,J)]) ⟨rfl,by decide,rfl⟩<|gL<|je<|(pA H).trans ?_;rw[isA];by_cases h:(Ls l)=n
  .rw[kh h] at e ⊢;exact(pA e).trans c
  .rw[kF h] at e ⊢;exact Mr e
 |_=>simp[lI,uZ,evF,gZ,isT,isA]
noncomputable def Bv:D->List D
 | .tup l=>l
 | .lst l=>l
 |_=>[]
noncomputable def soB(t:gh)(s:Int):Bool:=t.getD ((ab s).toNat-1) 0==(if s>0 then 1 else 0)
def Um(t:gh)(s:Int)(h:1<=ab s/\ab s<=Ls t):gIx (.tup<|t.map .int) (.int<|ab s-1)=ii (t.getD ((ab s).toNat-1) 0):=by
 have h1:0<=ab s-1:=by lia
 have b:ab s-1<((t.map D.int).length:Int):=by simp;lia
 have c:(ab s-1).toNat=(ab s).toNat-1:=by lia
 have d:(ab s).toNat-1<(Ls t):=by lia
 have a:ixN (t.map D.int).length (ab s-1)=I ((ab s).toNat-1):=by unfold ixN;rw[gr h1,gr b,c]
 rw[iJ] at a;simp[gIx,atI,a,d]
def To(t:gh)(s:Int)(h:1<=ab s/\ab s<=Ls t):vc [enc t,pI s]=I ((.bl<|soB t s,J),[eN t,ii s]):=by have:=Um t s h;unfold ab at this;by_cases a:s>0<;>simp[vc,Dq,evF,gZ,this,a,soB,ab]
noncomputable def kC(t c:gh):Bool:=c.any<|soB t
def any_int(p:Int->Bool)(c:gh):(c.map D.int).any (λd=>p<|iOf d)=c.any p:=by simp[vM,rR,iOf]
def Uj(n:Nat)(i:n<=5)(t c:gh)(j:(Ls t)=n)(e:ClOk n c)(a:EvF)(g: ∀s,1<=ab s/\ab s<=Ls t->a [enc t,pI s]=I ((.bl<|soB t s,J),[eN t,ii s])):
  evF 2 2 [] (fZ (ip<|gf (g1 Fg) [fQ<|gE [0] 1 (gw<|gF 1) (fW 1) gK<|gx<|gb a [fR 0,fR 1]]) gq) [enc t,enc c]=I ((.bl<|kC t c,J),[eN t,eN c]):=by
 have b:=DA (caps:=[0]) (fi:=gw<|gF 1) (f:=gb a [fR 0,fR 1]) (δ:=[eN t,eN c]) (l:=c.map .int) (args:=[cD t]) (λd=>soB t<|iOf d) H H H (λd hd=>⟨J,by obtain⟨s,h,rfl⟩:=lj.mp hd;have:=e.2.2 s h;simp[g s<|by lia,gG,wb,iOf]⟩) (by have:=ClOk.len e;simp;lia)
 rw[any_int] at b;exact iG ⟨rfl,by decide,rfl⟩<|gL<|je b
def LY{n:Nat}(b:n<=5){t c:gh}(d:(Ls t)=n)(a:ClOk n c):jM [enc t,enc c]=I ((.bl<|kC t c,J),[eN t,eN c]):=Uj n b t c d a _ λs h=>To t s h
noncomputable def kB(n:Nat)(a:iz)(d:D):Bool:=isA n d&&a.all (kC<|(Bv d).map iOf)
def OB(h:isA n d=Y): ∃t:List Int,d=cD t/\(Ls t)=n:=by
 cases d with
 |tup l=>
  rw[isA,lL,vK,lO] at h;refine⟨l.map iOf,?_,by simp[h.1]⟩;rw[cD,jI]
  congr 1
  rw[qe (g:=id),qd];intro x a;have:=h.2 x a;cases x<;>simp[MH,iOf] at this ⊢
 |_=>cases h
def OQ{n:Nat}(k:n<=5){a:iz}(hk: ∀c∈a,ClOk n c)(j:(Ls a)<=30){t:gh}(m:(Ls t)=n){b:EvF}(e: ∀c,ClOk n c->b [enc t,enc c]=I ((.bl<|kC t c,J),[eN t,eN c])){fi:FIt}{δ:Dn}{i:Nat}(h:δ[i]?=I (eN t))(h1:fi δ=I (a.map cD,δ)):
  gf (g1 mr) [fQ<|gE [i] 1 fi (fW 1) gK<|gx<|gb b [fR 0,fR 1]] δ=I ((.bl<|a.all<|kC t,J),δ):=by
 have:=mz (caps:=[i]) (fi:=fi) (f:=gb b [fR 0,fR 1]) (δ:=δ) (l:=a.map cD) (args:=[cD t]) (λd=>kC t<|(Bv d).map iOf) h1 (by simp[h]) H (λd hd=>⟨J,by obtain⟨c,g,rfl⟩:=lj.mp hd;simp[e c<|hk c g,gG,wb,Bv,rR,iOf]⟩) (by simp;lia)
 refine this.trans ?_;simp[tf,rR,Bv,iOf]
def LX{n:Nat}{a:iz}(h:wQ n a)(d:D)(hd:OkD d):vb [(rD' n a,J),(d,J)]=I ((.bl<|kB n a d,J),[rS n a,I (d,J)]):=by
 let δ:Dn:=[rS n a,I (d,J),ii n,I (.tup<|a.map cD,J)]
 have e:gb lI [fR 2,fR 1] δ=I ((.bl<|isA n d,J),δ):=iu (os:=[.slot 2,.slot 1]) (args:=[pI n,(d,J)]) H H lC<|IF n d hd;refine iG (δ:=δ) ⟨rfl,by decide,rfl⟩<|(gc (δ1:=δ) H).trans<|gL<|je ?_;rw[kB]
 cases b:isA n d with
 |false=>rw[b] at e;exact Mr e
 |true=>rw[b] at e;refine(pA e).trans ?_;obtain⟨t,rfl,f⟩:=OB b;refine(OQ h.1 h.2.1.2 h.2.2.2 f (λc g=>LY h.1 f g) (i:=1) H H).trans ?_;simp[Bv,rR,iOf]
noncomputable def kg:Nat->List (List Int)
 |0=>[[]]
 |n+1=>(kg n).flatMap λt=>[t++[0],t++[1]]
theorem wN: ∀n:Nat,(kg n).length=2^n
 |0=>rfl
 |n+1=>by
  rw[kg,List.length_flatMap,uo,<-wN n];generalize kg n=L
  induction L with
  |nil=>rfl
  |cons t L a=>simp at a ⊢;lia
def mB: ∀{n:Nat} {t:gh},t∈kg n->Ls t=n/\ ∀x∈t,x=0\/x=1:=by
  intro e
  induction e with
  |zero=>intro t h;simp[kg] at h;simp[h]
  |succ n d=>
    intro t h;rw[kg,cV] at h;obtain⟨u,c,h⟩:=h;obtain⟨h1,b⟩:=d c;simp only[jF,kD,lF] at h
    rcases h with rfl|rfl<;>
      (refine⟨by simp[h1],λx a=>?_⟩
       rcases nO.mp a with a|a
       · exact b x a
       · simp at a;simp[a])
def zd{n:Nat}(a:n<=5):(kg n).length<=32:=by rw[wN];exact xR (n:=2) (by decide) a
noncomputable abbrev OO:List D:=[.int 0,.int 1]
noncomputable def MS(d e:D):D:= .tup (Bv d++[e])
def MR(L:iz):(L.map cD).flatMap (λd=>OO.map<|MS d)=(L.flatMap λt=>[t++[0],t++[1]]).map cD:=by simp[List.flatMap_map,List.map_flatMap,MS,Bv,cD]
def OT(t:gh)(a:(Ls t)<=100)(e:D):fU jX (fR 0) (fQ<|iP [gF 1]) [I (cD t,J),I (e,J)]=I ((MS (cD t) e,J),[I (cD t,J),I (e,J)]):=by
 have:=jB;have h:(Ls t)<=16777215:=by lia
 simp[gF,this,jX,MS,Bv,h]
def Iv(δ:Dn):gw (iP [fC<|.int 0,fC<|.int 1]) δ=I (OO,δ):=by simp[jB]
def HG{n:Nat}(a:n<=5):2^n<=32:=xR (n:=2) (by decide) a
abbrev fbA:FS:=fZ (iT 1<|gE [] 2 (gw<|gF 1) (fW 0) gK<|FH (gw<|iP [fC<|.int 0,fC<|.int 1]) (fW 1) gK<|gx<|fU jX (fR 0)<|fQ<|iP [gF 1]) gq
def zb{n:Nat}(k:n<=5):kN [pI n]=I ((.lst<|(kg n).map cD,Y),[ii n]):=by
 let z:Sl:=ii n
 obtain⟨i,⟨j,x,a,rfl⟩,e⟩:=rE (tg:=fW 2) (fb:=fbA) (λb δ=> ∃j x,j+Ls b=n/\δ=[z,I (.lst<|(kg j).map cD,Y),x]) (λd b δ g=>by
  obtain⟨j,x,a,e⟩:=g;subst e
  have c:=R5 (fi:=gw<|gF 1) (fi2:=gw<|iP [fC<|.int 0,fC<|.int 1]) (f:=fU jX (fR 0)<|fQ<|iP [gF 1]) (δ:=[z,I (.lst<|(kg j).map cD,Y),I (d,J)]) (δ1:=[z,I (.lst<|(kg j).map cD,J),I (d,J)]) (l:=(kg j).map cD) (m:=OO) MS H (λd y=>Iv _) (λd hd e _=>by obtain⟨t,h,rfl⟩:=lj.mp hd;exact⟨J,OT t (by have:=(mB h).1;simp at a;lia) e⟩) (by have:=zd (n:=j) (by lia);simp;lia)
  rw[MR] at c;exact⟨_,_,rfl,(gc<|iL c (show 1<3 by decide)).trans H,j+1,_,by simp at a;lia,rfl⟩) (ig 0 n) [z,I (.lst<|(kg 0).map cD,Y),C] ⟨0,C,by simp[ig],rfl⟩
 have:j=n:=by simpa using a
 subst this;exact iG (δ:=[z,C,x]) ⟨rfl,by decide,rfl⟩<|(gc (δ1:=[z,I (.lst<|(kg 0).map cD,Y),C]) H).trans<|(gc<|(nW<|ph (o:= .slot 0) H H<|by lia).trans e).trans<|gL H
noncomputable def jj(n:Nat)(ks:iz):List (List Int):=(kg n).filter λt=>ks.all<|kC t
def OC{n:Nat}{t:gh}(h:t∈kg n):isA n (cD t)=Y:=by obtain⟨h1,a⟩:=mB h;simp only[isA,iJ,h1,decide_true,n7,tf,lO,bI];intro x b;rcases a x b with rfl|rfl<;>rfl
def RI{n:Nat}{a:iz}{t:gh}(h:t∈kg n):kB n a (cD t)=a.all (kC t):=by rw[kB,OC h];simp[Bv,rR,iOf]
def Ub{t:gh}(h:(Ls t)<=60):OkD (cD t):=λl e=>by cases e;simpa using h
def Ik(p:D->Bool)(L:iz):((L.map cD).filter p).map (λd=>d)=(L.filter λt=>p<|cD t).map cD:=by rw[xJ,AE];rfl
def FK{n:Nat}{a:iz}(h:wQ n a):nL [(rD' n a,J)]=I ((.lst<|(jj n a).map cD,Y),[rS n a]):=by
 have h1:gw (gb kN [fQ<|fU gIx (fR 0)<|fQ<|fC<|.int 0]) [rS n a]=I ((kg n).map cD,[rS n a]):=
  wB (iu (os:=[.val (.int n,J)]) (args:=[pI n]) H H lC<|zb h.1)
 have c:=wK (caps:=[0]) (fi:=gw<|gb kN [fQ<|fU gIx (fR 0)<|fQ<|fC<|.int 0]) (f:=gF 1) (ti:=fT<|gb vb [fR 0,fR 1]) (δ:=[rS n a]) (l:=(kg n).map cD) (args:=[rD' n a]) (λd=>d) (kB n a) h1 H H (λd hd=>by obtain⟨t,b,rfl⟩:=lj.mp hd;have:=(mB b).1;have e:=h.1;exact⟨iC<|iu (os:=[.slot 0,.slot 1]) (args:=[(rD' n a,J),(cD t,J)]) H H lC<|LX h _ (Ub<|by lia),λ_=>⟨J,rfl⟩⟩) (by have:=zd h.1;simp;lia)
 rw[Ik,List.filter_congr λt b=>RI b] at c;exact iG ⟨rfl,by decide,rfl⟩<|gL<|je c
def UN(x:Int)(c:gh):(c.map D.int).any (λd=>D.eqb d<|.int x)=c.contains x:=by
 induction c with
 |nil=>rfl
 |cons y c a=>rw[iR,cS,a,List.contains_cons];simp[D.eqb,xH,eq_comm]
def xE(x:Int)(c:gh):kL (.int x) (cD c)=I (.bl (!c.contains x),J):=by
 have:inD (.int x) (cD c)=I (c.contains x):=by show(if D.depL (c.map .int)<=50/\(D.int x).dep<=50 then I ((c.map D.int).any λd=>D.eqb d<|.int x) else C)=_;rw[gr ⟨by rw[ve];lia,by simp[D.dep]⟩,UN]
 unfold kL;rw[this];rfl
theorem yf{a:Type}{R:a->a->Prop}: ∀{l:List a},l.Pairwise R-> ∀p∈l.zip l.tail,R p.1 p.2
 |[],_,p,h=>by simp at h
 |[_],_,p,h=>by simp at h
 |x::y::l,c,p,h=>by
  simp only[List.tail_cons,qf] at h;obtain⟨h1,b⟩:=AD.mp c;rcases jF.mp h with rfl|h
  .exact h1 y iX
  .exact yf b p h
def G1(l:List D):PX.An l (I 1) C=l.tail:=by
 unfold PX.An;rw[show(I (1:Int))=I ((1:Nat):Int) from H,HT.Su,HT.P6]
 cases l with
 |nil=>rfl
 |cons x l=>rw[show min 1 (x::l).length=1 from by simp];simp
def Nk(l:List D)(d:D)(hd:d= .lst l\/d= .tup l)(h: ∀p∈l.zip l.tail,kQ .Lt p.1 p.2=I (.bl Y,J))(x:(Ls l)<=1000):pB [(d,J)]=I ((.bl Y,J),[I (d,J)]):=by
 have t:qG (gF 0) (mv (fR 0)<|fQ<|fC<|.int 1) [I (d,J)]=I ((l.zip l.tail).map λp=> .tup [p.1,p.2],[I (d,J)]):=by
  rcases hd with rfl|rfl
  .have:mv (fR 0) (fQ<|fC<|.int 1) [I (.lst l,J)]=I ((.lst l.tail,Y),[I (.lst l,J)]):=by rw[<-G1 l];rfl
   simp[qG,gF,this,pK]
  .have:mv (fR 0) (fQ<|fC<|.int 1) [I (.tup l,J)]=I ((.tup l.tail,J),[I (.tup l,J)]):=by rw[<-G1 l];rfl
   simp[qG,gF,this,pK]
 have j:(l.zip l.tail).length<=1000:=by rw[mi];lia
 obtain⟨a,w,⟨b,c,u,v,h1,g,i,n,rfl⟩,e⟩:=za (tg:=jv [fW 0,fW 1]) (f:=fU (kQ .Lt) (fR 0)<|fR 1) (λm a δ=> ∃(b:List (D×D)) (c:List D) (u v:Sl),m=b.map (λp=> .tup [p.1,p.2])/\(∀p∈b,kQ .Lt p.1 p.2=I (.bl Y,J))/\a=c.map (λ_=> .bl Y)/\(Ls a)+Ls b<=1000/\δ=[u,v]) (λd m a δ r=>by
  obtain⟨b,c,u,v,h1,g,i,n,o⟩:=r;subst o
  cases b with
  |nil=>cases h1
  |cons p b=>obtain⟨rfl,rfl⟩:=pX h1;exact⟨[I (p.1,J),I (p.2,J)],.bl Y,J,[I (p.1,J),I (p.2,J)],rfl,jQ (o1:= .slot 0) (o2:= .slot 1) H H H H<|g p iX,by lia,b,c++[.non],_,_,rfl,λq s=>g q<|jd _ s,by simp[i],by simp at n ⊢;lia,rfl⟩) ((l.zip l.tail).map λp=> .tup [p.1,p.2]) [] [C,C] ⟨l.zip l.tail,[],C,C,rfl,h,rfl,by simpa using j,rfl⟩
 refine iG (δ:=[I (d,J)]) ⟨rfl,by decide,rfl⟩<|gL<|je<|mw (pz<|gC<|nI (caps:=[]) (k:=2) (args:=[]) t H lC e) H ?_;subst i;refine(xl (λ_=>Y) c).trans ?_;simp
def RL{n:Nat}(u:n<=5){c:gh}(h:ClOk n c):lH [pI n,enc c]=I ((.bl Y,J),[ii n,eN c]):=by
 have t:=ClOk.len h;have h1:1<=(Ls c):=JH.mpr h.1;have o:(1:Int)<=(Ls c):=by lia
 have q:((Ls c):Int)<=5:=by lia
 have j:(ly (hJ<|fT<|iN (qI [.tuple])<|fR 1)<|hJ<|fT<|js .LtE .LtE (fQ<|fC<|.int 1) (fQ<|gf (g1 kz) [fR 1])<|fQ<|fC<|.int 5) [ii n,eN c]=I (J,[ii n,eN c]):=by simp[isT,js,jr,o,q]
 have e:=mz (caps:=[0]) (fi:=gw<|gF 1) (f:=gb lW [fR 0,fR 1]) (δ:=[ii n,eN c]) (δ1:=[ii n,eN c]) (l:=c.map .int) (args:=[.int n]) (λ_=>Y) H H H (λd hd=>⟨J,by obtain⟨s,i,rfl⟩:=lj.mp hd;have:=h.2.2 s i;refine(iu (δ1:=[ii n,ii s]) (os:=[.slot 0,.slot 1]) (args:=[pI n,pI s]) H H lC<|Nh n<|.int s).trans ?_;rw[sg,kh this.1,kh this.2];rfl⟩) (by simp;lia)
 rw[show(c.map D.int).all (λ_=>Y)=Y by simp] at e
 have g:=ug (caps:=[]) (fi:=gw<|gF 1) (f:=gf (g1 ox) [fR 0]) (δ:=[ii n,eN c]) (δ1:=[ii n,eN c]) (l:=c.map .int) (args:=[]) (λd=> .int (ab<|iOf d)) H H H (λd hd=>⟨J,by obtain⟨s,i,rfl⟩:=lj.mp hd;rfl⟩) (by simp;lia)
 rw[show(c.map D.int).map (λd=>D.int<|ab<|iOf d)=(c.map ab).map D.int by rw[jI,jI];rfl] at g
 have r:=Nk ((c.map ab).map .int) (.lst<|(c.map ab).map .int) (.inl H) (λp m=>by have:=yf (R:=λa b:D=>kQ .Lt a b=I (.bl Y,J)) (l:=(c.map ab).map .int) (lZ.mpr<|h.2.1.imp λ{a b} k=>by rw[Nm,kh k]) p m;exact this) (by simp;lia)
 refine iG (δ:=[ii n,eN c]) ⟨rfl,by decide,rfl⟩<|(gc<|(jJ j).trans H).trans<|(gc<|(jJ<|jS<|iC e).trans H).trans ?_;exact gL<|je<|iu (δ1:=[ii n,eN c]) (args:=[(.lst<|(c.map ab).map .int,J)]) (pz<|gC g) H lC r
def Dl{d:D}(h:d.dep<=50):gEq d d=I (.bl Y,J):=by unfold gEq;rw[gr ⟨h,h⟩,D.eqb_refl]
def GY(L:iz):(D.lst<|L.map cD).dep<=50:=by have:=OH L;rw[D.dep];lia
def Fv(l:List D)(v:Nat):PX.An l C (I (v:Int))=l.take v:=by
 unfold PX.An;rw[HT.P6,HT.Su,List.drop_zero,Nat.sub_zero];by_cases h:v<=Ls l
 .rw[xX h]
 .rw[Nat.min_eq_right<|by omega,xY<|iD _,xY<|by omega]
def TT(n:Nat)(t:gh):Prop:=(t.map ab).Perm<|st n
def SG(n:Nat)(s:Int):Prop:=1<=ab s/\ab s<=n
def TT.len{n:Nat}{t:gh}(h:TT n t):(Ls t)=n:=by simpa using(Q4.mp h).1
def TT.sg{n:Nat}{t:gh}(h:TT n t){x:Int}(a:x∈t):SG n x:=(Q4.mp h).2.1 _ (vA a)
def TT.tok{n:Nat}{t:gh}(h:TT n t):TOk n t:=⟨h.len,λx a=>h.sg a⟩
def Tq{n:Nat}{s:Int}(h:SG n s):s≠0:=by rintro rfl;have:=h.1;simp[ab] at this
def P5{n:Nat}{s:Int}(h:SG n s):SG n (-s):=by unfold SG;rw[kX];exact h
def uD{n:Nat}{s:Int}(h:SG n s): ∃k:Nat,k<n/\(s=(k:Int)+1\/s= -((k:Int)+1)):=by
 have:=h;unfold SG ab at this;split at this
 .exact⟨(-s-1).toNat,by omega,.inr<|by omega⟩
 .exact⟨(s-1).toNat,by omega,.inl<|by omega⟩
def rn(t:gh)(k:Nat):led t ((k:Int)+1)=t.getD k 0:=by unfold led;rw[gr<|by lia,show((k:Int)+1-1).toNat=k by lia]
def oR(t:gh)(k:Nat):led t (-((k:Int)+1))= -t.getD k 0:=by unfold led;rw[gD<|by lia,show(- -((k:Int)+1)-1).toNat=k by lia]
def Ov{n:Nat}(t:gh){s:Int}(h:SG n s):led t (-s)= -led t s:=by
 obtain⟨k,_,rfl|rfl⟩:=uD h
 .rw[rn,oR]
 .rw[sL,rn,oR,sL]
def TT.led{n:Nat}{t:gh}(h:TT n t){s:Int}(a:SG n s):SG n (led t s):=RE h.tok a.1 a.2
def GF{n:Nat}{t:gh}(h:TT n t){s r:Int}(g:SG n s)(f:SG n r)(e:PV.led t s=PV.led t r):s=r:=by
 have k:=(Q4.mp h).2.2
 have c: ∀{i j:Nat},i<n->j<n->ab (t.getD i 0)=ab (t.getD j 0)->i=j:=λ{i j} a b e=>by
  have l:=h.len
  have:=(j3 (xs:=t.map ab) (i:=i) (j:=j) (h₀:=by simpa[l] using a) (h₁:=by simpa[l] using b) k).mp (by simp only[cY];simpa[sY,l,a,b] using e)
  exact this
 have d: ∀{i:Nat},i<n->t.getD i 0≠0:=λ{i} a=>Tq<|h.sg<|rB (by rw[h.len];exact a);obtain⟨i,a,rfl|rfl⟩:=uD g<;>obtain⟨j,b,rfl|rfl⟩:=uD f
 .rw[rn,rn] at e;rw[c a b<|by rw[e]]
 .rw[rn,oR] at e;have:=c a b (by rw[e,kX]);subst this;exact absurd (show t.getD i 0=0 by lia)<|d a
 .rw[rn,oR] at e;have:=c a b (by rw[<-e,kX]);subst this;exact absurd (show t.getD i 0=0 by lia)<|d a
 .rw[oR,oR] at e;rw[c a b<|by rw[show t.getD i 0=t.getD j 0 by lia]]
def Bp(n:Nat):(st n).length=n:=by simp[st]
def EV: ∀(k:Nat) (r f t:gh),Ls r=k->(∀x∈r,0<=x)->t∈sj k r f->(t.map ab).Perm (f.map ab++r):=by
 intro m
 induction m with
 |zero=>intro r f t d _ h;simp[sj] at h;subst h;rw[M1.mp d];simp
 |succ k i=>
  intro r f t d b h;simp only[sj,cV,nO,xm] at h;obtain⟨v,hv,h⟩:=h;have c:(r.eraseIdx v).length=k:=by rw[AJ,gr hv];lia
  have g: ∀x∈r.eraseIdx v,0<=x:=λx a=>b x<|List.mem_of_mem_eraseIdx a;have a:=b _ (rB hv)
  have fin: ∀y:Int,ab y=r.getD v 0->(d8 ab (f++[y])++r.eraseIdx v).Perm (f.map ab++r):=λy l=>by
   rw[lB,mh];refine Jf _ ?_;simp only[iR,uw,j6,dd,l];have e:r.getD v 0=r[v]:=by simp[sY,hv]
   rw[e];rw[List.eraseIdx_eq_take_drop_succ];have j:r=r.take v++r[v]::r.drop (v+1):=by rw[<-vL hv,sV]
   conv=>rhs;rw[j]
   exact MW.symm
  rcases h with h|h
  .exact(i _ _ t c g h).trans (fin _ (by rw[ye];exact FP a))
  .exact(i _ _ t c g h).trans (fin _ (by rw[ut,ye];exact FQ a))
def Nc{n:Nat}{t:gh}(h:t∈sj n (st n) []):TT n t:=by have:=EV n (st n) [] t (Bp n) (λx a=>by have:=J5.mp a;lia) h;unfold TT;simpa using this
noncomputable def lc(t c:gh):List Int:=(kd ltA<|(c.map<|led t).map D.int).map iOf
def LCs(t c d:gh):Prop:=d.Perm (c.map<|led t)/\(d.map ab).Pairwise (· < ·)
def yK{m:List D}{l:gh}(h:m.Perm (l.map D.int)):m=(m.map iOf).map D.int/\(m.map iOf).Perm l:=by
 obtain⟨k,rfl⟩:=uU h;have e:(k.map D.int).map iOf=k:=by rw[jI];exact qd k
 rw[e];refine⟨rfl,?_⟩;have:=h.map iOf
 rwa [e,jI,show d8 (iOf∘D.int) l=l from qd l] at this
def AB{n:Nat}{t c:gh}(g:TT n t)(h1:(c.map ab).Nodup)(f: ∀s∈c,SG n s):((c.map<|led t).map ab).Nodup:=by
 rw[jI,c6,lZ];rw[c6,lZ] at h1;refine h1.imp_of_mem λ{a b} j k i e=>i ?_;have e:ab (led t a)=ab (led t b):=e;have h:=f a j;have d:=f b k;by_cases q:led t a=led t b
 .rw[GF g h d q]
 .have:led t a=led t (-b):=by rw[Ov t d];unfold ab at e;split at e<;>split at e<;>lia
  rw[GF g h (P5 d) this,kX]
def GH{n:Nat}{t c:gh}(j:TT n t)(g:ClOk n c):LCs t c (lc t c)/\(kd ltA<|(c.map<|led t).map D.int)=(lc t c).map D.int:=by
 obtain⟨e,i⟩:=yK<|iw ltA<|(c.map<|led t).map D.int;refine⟨⟨i,?_⟩,e⟩;have k:=AB j (Kx g.2.1) λs d=>g.2.2 s d;have f:((lc t c).map ab).Nodup:=(i.map ab).symm.nodup k;have d:=vY<|(c.map<|led t).map D.int;rw[e,lZ] at d;rw[lZ];rw[c6,lZ] at f;refine(d.and f).imp λ{a b} h=>?_;have h1:ab a<=ab b:=h.1;have l:ab a≠ab b:=h.2
 lia
def LCs.uniq{n:Nat}{t c d e:gh}(h1:LCs t c d)(f:LCs t c e):d=e:=by have g:=h1.2;have h:=f.2;rw[lZ] at g h;refine(h1.1.trans f.1.symm).eq_of_pairwise (le:=λa b=>ab a<ab b) (λa b _ _ x y=>absurd x<|by lia) g h
def LCs.cl{n:Nat}{t c d:gh}(h:LCs t c d)(f:TT n t)(a:ClOk n c):ClOk n d:=by
 refine⟨λe=>a.1 ?_,h.2,λs b=>?_⟩
 .have:=h.1.length_eq;rw[e] at this;simp at this;exact M1.mp this.symm
 .obtain⟨x,g,rfl⟩:=lj.mp<|h.1.mem_iff.mp b;exact f.led<|a.2.2 x g
def Ui{n:Nat}{t c:gh}(b:TT n t)(a:ClOk n c):ClOk n (lc t c):=(GH b a).1.cl b a
def UQ(n:Nat)(a:gh):Prop:=Ls a=n/\ ∀x∈a,x=0\/x=1
def Sz: ∀{n:Nat} {a:gh},a∈kg n↔UQ n a:=λ{n a}=>by
 constructor
 .exact λh=>mB h
 .intro h
  induction n generalizing a with
  |zero=>rw[M1.mp h.1];simp[kg]
  |succ n f=>
   have b:a≠[]:=λe=>by have:=h.1;rw[e] at this;simp at this
   have e:=DL b;have c:=h.2 _ (j2 b);have:=f (a:=a.dropLast) ⟨by rw[Eh,h.1];rfl,λx d=>h.2 x<|IL _ d⟩;simp only[kg,cV];refine⟨a.dropLast,this,?_⟩;rcases c with z|z
   .rw[z] at e;rw[e];simp
   .rw[z] at e;rw[e];simp
def RJ(b:FO)(a:Dn)(d:D):Prop:= ∃o,b a=I (o,a)/\res a o=I d
def FJ(a:FO)(δ:Dn)(d:D):Prop:= ∃o,a δ=I (o,δ)/\res δ o=I d/\xk δ o=I (d,J)
def FJ.r{fo:FO}{δ:Dn}{d:D}(h:FJ fo δ d):RJ fo δ d:=let⟨o,a,b,_⟩:=h;⟨o,a,b⟩
def jV{i:Nat}{δ:Dn}{d:D}(h:δ[i]?=I (I (d,J))):FJ (fR i) δ d:=⟨.slot i,by unfold fR;rw[h],by unfold res;simp[h],by simp[h]⟩
def jR{i:Nat}{δ:Dn}{d:D}{b:Bool}(h:δ[i]?=I (I (d,b))):RJ (fR i) δ d:=⟨.slot i,by unfold fR;rw[h],by unfold res;simp[h]⟩
def jE{f:F}{δ:Dn}{d:D}{b:Bool}(h:f δ=I ((d,b),δ)):FJ (fQ f) δ d:=⟨.val (d,b),gC h,rfl,rfl⟩
def jU1{c:EvF}{e:FO}{δ:Dn}{a:D}{r:D×Bool}{b:Dn}(h:c [(a,J)]=I (r,b))(g:FJ e δ a):gb c [e] δ=I (r,δ):=by obtain⟨o,h1,_,f⟩:=g;refine(iu (pz h1) (args:=[a].map λd=>(d,J)) (by simp[f]) (by rw[oQ];exact lC) h).trans ?_;rw[zI]
def jU2{e:EvF}{f fb:FO}{δ:Dn}{a b:D}{r:D×Bool}{c:Dn}(h:e [(a,J),(b,J)]=I (r,c))(i:FJ f δ a)(j:FJ fb δ b):gb e [f,fb] δ=I (r,δ):=by obtain⟨o,h1,_,g⟩:=i;obtain⟨m,k,_,l⟩:=j;refine(iu (mI h1 k) (args:=[a,b].map λd=>(d,J)) (by simp[g,l]) (by rw[oQ];exact lC) h).trans ?_;rw[zI]
def jO{g:D->D->Option (D×Bool)}{fa fb:FO}{δ:Dn}{a b:D}{r:D×Bool}(h:g a b=I r)(d:RJ fa δ a)(e:RJ fb δ b):fU g fa fb δ=I (r,δ):=by obtain⟨o,h1,c⟩:=d;obtain⟨j,f,i⟩:=e;exact jQ h1 f c i h
def jN{g:D->Option (D×Bool)}{b:FO}{δ:Dn}{a:D}{r:D×Bool}(h:g a=I r)(d:RJ b δ a):iN g b δ=I (r,δ):=by obtain⟨o,h1,c⟩:=d;rw[Qi,h1];simp only[iI];rw[c];simp only[iI];rw[h];rfl
def jC{g:D->Option (D×Bool)}{fa:FO}{δ:Dn}{a:D}{r:D×Bool}(h:g a=I r)(c:RJ fa δ a):gf (g1 g) [fa] δ=I (r,δ):=by obtain⟨o,h1,b⟩:=c;exact mw (ds:=[a]) (pz h1) (by simp[b]) h
def Ht{f:F}{np:Nat}{args:List (D×Bool)}{r:D×Bool}{δ:Dn}(h1:(Ls args)=np/\np<=np/\(args.zipIdx.all λp=>!(p.1.2&&([]:List Nat).contains p.2))=Y)(a:f (args.map I++ac (np-np) C)=I (r,δ)):evF np np [] (fZ (ip f) gq) args=I (r,gZ args δ):=
 iG h1 (gL<|je a)
def Tr{n:Nat}{s:Int}(h:SG n s):s≠0/\ -(n:Int)<=s/\s<=n:=by obtain⟨k,hk,rfl|rfl⟩:=uD h<;>lia
def LF(f:Int->Int)(l:gh):(l.map D.int).map (λd=>D.int<|f<|iOf d)=(l.map f).map D.int:=by rw[jI,jI];rfl
def Iw{caps:ja}{a:FIt}{f:F}{δ δ1:Dn}{l:gh}{args:List D}(g:Int->Int)(h1:a δ=I (l.map D.int,δ1))(b:jy δ1 (caps.map .slot)=I (args.map λd=>(d,J)))(c:(Ls args)=Ls caps)
  (h: ∀x∈l,∃o,f (frz args++[ii x])=I ((.int<|g x,o),frz args++[ii x]))(e:(Ls l)<=10000):
  gE caps 1 a (fW<|Ls caps) gK (gx f) δ=I ((.lst<|(l.map g).map D.int,Y),δ1):=by
 rw[ug (λd=> .int (g<|iOf d)) h1 b c (λd hd=>by obtain⟨x,i,rfl⟩:=lj.mp hd;exact h x i)<|by simpa using e,LF]
def RP(a b:gh):gNe (cD a) (cD b)=I (.bl (!decide (a=b)),J):=by unfold gNe;rw[gr<|by rw[qM,qM];decide,B7]
def Me(a b:gh):gEq (cD a) (cD b)=I (.bl<|decide<|a=b,J):=by unfold gEq;rw[gr<|by rw[qM,qM];decide,B7]
def M8{c:FT}{b:FS}{k:Nat}{d a δ2:Dn}(h:c d=I (Y,a))(e:b a=I (.nx δ2)):lU c b (k+1) d=lU c b k δ2:=by rw[lU,h];simp only[iI,jb];rw[e];rfl
def M9{b:FT}{d:FS}{k:Nat}{c a:Dn}(h:b c=I (J,a)):lU b d (k+1) c=I (.nx a):=by rw[lU,h];rfl
def F7{cs:iz}(h:lQ (cs.map cD)=Y)(b:(Ls cs)<=10000): ∃a:List (List Int),a.Perm cs/\SrtC a/\iK (cs.map cD)=I (.lst<|a.map cD,Y):=by
 obtain⟨a,e,c⟩:=Fw<|iw ltT<|cs.map cD;refine⟨a,c,?_,?_⟩
 .have:=mX<|cs.map cD;rw[e,lZ] at this;exact this
 .unfold iK;rw[gr ⟨h,by rw[iJ];exact rd b⟩,e]
def xi{f g:F}{δ:Dn}{a b:D×Bool}(h1:f δ=I (a,δ))(c:g δ=I (b,δ)):iP [f,g] δ=I ((.tup [a.1,b.1],J),δ):=by rw[Qh,show[f,g].map fQ=[fQ f,fQ g] from H,mI (gC h1)<|gC c];simp[jB]
theorem MF: ∀(l:iz) (a:List D) (x y:Sl),(∀p∈l,∃i j,p=[i,j])->Ls a+Ls l<=1000-> ∃b c,jq (jv [fW 0,fW 1]) gK (gx<|gF 1) (l.map cD) a [x,y]=I (a++l.map λp=>D.int<|p.getD 1 0,[b,c])
 |[],a,x,y,_,_=>⟨x,y,by simp[jq]⟩
 |p::l,a,x,y,h,d=>by obtain⟨i,j,rfl⟩:=h p iX;obtain⟨b,c,e⟩:=MF l (a++[.int j]) (ii i) (ii j) (λq f=>h q<|jd _ f) (by simp at d ⊢;lia);refine⟨b,c,?_⟩;rw[iR,jq];rw[show jv [fW 0,fW 1] (cD [i,j]) [x,y]=I [ii i,ii j] from H];simp only[iI,uE,jb,rh];rw[show gF 1 [ii i,ii j]=I ((.int j,J),[ii i,ii j]) from H];simp only[iI];rw[gr<|qZ<|by simp at d;lia];simp only[iI];rw[e];simp
def OM{a s b r:Int}(h:ltT (cD [b,r]) (cD [a,s])=J):a<=b:=by
 rw[wz] at h;by_cases q:b<a
 .exact absurd (by simp[cT,cL,q]) h
 .lia
def RC{n:Nat}(M:n<=5){t c:gh}(o:TT n t)(k:ClOk n c): ∃O,iA [enc c,enc t]=I (enc<|lc t c,[eN c,O])/\O=eN t:=by
 have J:=k.len
 let pr:Int->List Int:=λs=>[ab<|led t s,led t s]
 obtain⟨f,m,E,e⟩:=F7 (cs:=c.map pr) (zN _ λx N=>by obtain⟨y,_,rfl⟩:=lj.mp N;simp[pr]) (by simp;lia)
 have z:gE [1] 1 (gw<|gF 0) (fW 1) gK (gx<|iP [gf (g1 ox) [fQ<|gb ie [fR 0,fR 1]],gb ie [fR 0,fR 1]]) [eN c,eN t,J4]=I ((.lst<|(c.map pr).map cD,Y),[eN c,eN t,J4]):=by
  refine(ug (caps:=[1]) (args:=[cD t]) (l:=c.map D.int) (δ1:=[eN c,eN t,J4]) (λd=>cD<|pr<|iOf d) H H H (λd hd=>?_)<|by simp;lia).trans ?_
  rotate_left
  .rw[jI,jI];rfl
  .obtain⟨x,N,rfl⟩:=lj.mp hd;obtain⟨a1,b1,z⟩:=Tr<|k.2.2 x N;have j:gb ie [fR 0,fR 1] (frz [cD t]++[ii x])=I ((.int<|led t x,K2),frz [cD t]++[ii x]):=jU2 (Ot t x a1 (by rw[o.len];exact b1)<|by rw[o.len];exact z) (jV H)<|jV H;exact⟨K2,xi (jC (TH _) (jE j).r) j⟩
 have A: ∀v:Sl,∃u w,jq (jv [fW 0,fW 1]) gK (gx<|gF 1) (f.map cD) [] [J4,J4]=I (f.map λp=>D.int<|p.getD 1 0,[u,w]):=λv=>by
  obtain⟨u,w,e⟩:=MF f [] J4 J4 (λp C=>by obtain⟨y,_,rfl⟩:=lj.mp<|m.mem_iff.mp C;exact⟨_,_,rfl⟩) (by rw[m.length_eq];simp;lia)
  exact⟨u,w,by simpa using e⟩
 obtain⟨u,w,A⟩:=A J4
 have B:(f.map λp=>p.getD 1 0)=lc t c:=by
  have j:(f.map λp=>p.getD 1 0).Perm (c.map<|led t):=by
   have:=m.map λp=>p.getD 1 0
   rwa [jI] at this
  have g: ∀p∈f,p=[ab<|p.getD 1 0,p.getD 1 0]:=λp C=>by obtain⟨y,_,rfl⟩:=lj.mp<|m.mem_iff.mp C;rfl
  refine LCs.uniq (n:=n) (t:=t) (c:=c) ⟨j,?_⟩ (GH o k).1;have L:((f.map λp=>p.getD 1 0).map ab).Nodup:=(j.map ab).symm.nodup<|AB o (Kx k.2.1) λs E=>k.2.2 s E;rw[jI,lZ];rw[jI,c6,lZ] at L;refine(sa E L).imp_of_mem λ{p q} h1 T h=>?_;have U:=h.1;rw[g p h1,g q T] at U;have:=OM U;have G:=h.2;simp only[bI] at G ⊢
  lia
 refine⟨_,?_,rfl⟩;refine iG (δ:=[eN c,eN t,I (.lst<|(c.map pr).map cD,Y)]) ⟨rfl,by decide,rfl⟩ ?_;refine(gc<|iL (i:=2) z (show 2<3 by decide)).trans (gL<|je<|jC (a:= .lst ((lc t c).map D.int)) H (jE (b:=Y) ?_).r);rw[nI (l:=f.map cD) (δ1:=[eN c,eN t,I (.lst<|(c.map pr).map cD,Y)]) (args:=[]) (fi:=gw<|gf (g1 mf) [fR 2]) ?_ H (by simp[gG]) A]
 .have Q:(f.map λp=>D.int<|p.getD 1 0)=(lc t c).map D.int:=by rw[<-B,jI];rfl
  rw[Q];rfl
 .rw[Nn,jC (show mf (.lst<|(c.map pr).map cD)=I (.lst<|f.map cD,Y) from e)<|jR H];rfl
def wx(one a:gh)(j:Int):List Int:=ddI<|(one++a).filter λk=>!(ab k==j)
def uL(one a:gh)(j:Int):List Int:=(kd ltT<|(wx one a j).map D.int).map iOf
def oq(one a:gh)(j:Int):List Int:=(kd ltA<|(uL one a j).map D.int).map iOf
def mY(one a:gh)(j:Int):kd ltT ((wx one a j).map D.int)=(uL one a j).map D.int/\(uL one a j).Perm (wx one a j):=yK<|iw ltT _
def oP(one a:gh)(j:Int):kd ltA ((uL one a j).map D.int)=(oq one a j).map D.int/\(oq one a j).Perm (uL one a j):=yK<|iw ltA _
def DI{one a:gh}{j x:Int}:x∈oq one a j↔(x∈one\/x∈a)/\ab x≠j:=by rw[(oP one a j).2.mem_iff,(mY one a j).2.mem_iff];unfold wx;rw[Gw,zG,nO];simp
def Oo(one a:gh)(j:Int):(oq one a j).Nodup:=((oP one a j).2.trans (mY one a j).2).nodup_iff.mpr<|Ft _
def LB(one a:gh)(j:Int):(wx one a j).length<=Ls one+(Ls a):=by
 unfold wx;have h1:=GZ<|(one++a).filter λk=>!(ab k==j);have b:=rN (λk=>!(ab k==j))<|one++a;rw[ky] at b
 lia
def Ma(i j:Int):gNe (.int i) (.int j)=I (.bl (!decide (i=j)),J):=by unfold gNe;rw[gr<|by simp[D.dep]];simp[D.eqb];rfl
def RA{one c:gh}{j:Int}(h1:(Ls one)<=5)(p:(Ls c)<=5)(f:((wx one c j).map ab).Nodup):yQ [enc one,enc c,(.int j,J)]=I (enc<|oq one c j,[eN one,eN c,ii j]):=by
 have g:=LB one c j
 have a1:mq (.oth .set []<|(wx one c j).map D.int)=I (.lst<|(uL one c j).map D.int,Y):=by show(if((wx one c j).map D.int).all okI=Y then iK ((wx one c j).map D.int) else C)=_;rw[gr<|nB _];unfold iK;rw[gr ⟨qt _,by rw[jB,iJ];lia⟩,(mY one c j).1]
 have h:wC (.lst<|(uL one c j).map D.int)=I (.lst<|(oq one c j).map D.int,Y):=by
  show(if((uL one c j).map D.int).all isI=Y/\(((uL one c j).map D.int).map aD).Nodup/\((uL one c j).map D.int).length<64 then I (D.lst<|kd ltA<|(uL one c j).map D.int,Y) else C)=_
  have i:((uL one c j).map D.int).all isI=Y:=by rw[lO];intro d hd;obtain⟨x,_,rfl⟩:=lj.mp hd;rfl
  have n:(((uL one c j).map D.int).map aD).Nodup:=by rw[jI];exact((mY one c j).2.map ab).nodup_iff.mpr f
  rw[gr ⟨i,n,by have:=(mY one c j).2.length_eq;simp;lia⟩,(oP one c j).1]
 refine Ht ⟨rfl,by decide,rfl⟩<|jC (a:= .lst ((oq one c j).map D.int)) H (jE (b:=Y)<|jC h (jE (b:=Y)<|jC a1 (jE (b:=Y)<|R3 (l:=one++c) (args:=[.int j]) (λk=>!(ab k==j)) ?_ H H (λk hk=>?_)<|by simp;lia).r).r).r
 .have e:=jO (fa:=fR 0) (fb:=fR 1) (δ:=[eN one,eN c,ii j]) (Sk (l:=one.map D.int) (m:=c.map D.int) (by rw[iJ];lia)<|by rw[iJ];lia) (jV H).r (jV H).r;show gw (fU jX (fR 0)<|fR 1) [eN one,eN c,ii j]=_;unfold gw;rw[e,lB];rfl
 .have e:fT (fU gNe (fQ<|gf (g1 ox) [fR 1])<|fR 0) [ii j,ii k]=I (!decide (ab k=j),[ii j,ii k]):=iC (o:=J)<|jO (Ma (ab k) j) (jE (b:=J)<|jC (a:= .int k) H (jV H).r).r (jV H).r;show fT (fU gNe (fQ<|gf (g1 ox) [fR 1])<|fR 0) [ii j,ii k]=I (!(ab k==j),[ii j,ii k]);rw[e];rfl
def GO(x:Int)(c:gh):gIn (.int x) (cD c)=I (.bl<|c.contains x,J):=by
 have h:(c.map D.int).any (λd=>D.eqb d<|.int x)=c.contains x:=by
  rw[DK,PX.any_int (nB c) x,List.contains_iff_mem,lj];constructor
  .rintro⟨j,a,e⟩;cases e;exact a
  .exact λh=>⟨x,h,rfl⟩
 have:inD (.int x) (cD c)=I (c.contains x):=by show(if D.depL (c.map .int)<=50/\(D.int x).dep<=50 then I ((c.map D.int).any λd=>D.eqb d<|.int x) else C)=_;rw[gr ⟨by rw[ve];lia,by simp[D.dep]⟩,h]
 unfold gIn;rw[this];rfl
def agn(so c:gh):Bool:=c.all λs=>so.contains (-s)
abbrev fAg:F:=gf (g1 mr) [fQ<|gE [1] 1 (gw<|gF 3) (fW 1) gK<|gx<|fU gIn (fQ<|iN jW<|fR 1)<|fR 0]
def Si{so c:gh}{a x:Sl}(g:(Ls c)<=5):fT fAg [a,eN so,x,eN c]=I (agn so c,[a,eN so,x,eN c]):=by
 have e:=mz (caps:=[1]) (fi:=gw<|gF 3) (f:=fU gIn (fQ<|iN jW<|fR 1)<|fR 0) (δ:=[a,eN so,x,eN c]) (l:=c.map D.int) (args:=[cD so]) (λd=>so.contains (-(iOf d))) H H H (λd hd=>by obtain⟨s,_,rfl⟩:=lj.mp hd;exact⟨J,jO (GO (-s) so) (jE (b:=J)<|jN (a:= .int s) H (jV H).r).r (jV H).r⟩) (by simp;lia)
 refine(iC (o:=J) e).trans ?_;unfold agn;rw[tf];rfl
abbrev zy:FS:=fZ (sIf (fT fAg) (fZ (ma 2) gq) gq) gq
abbrev eN2(i:Nat)(l:iz):List D:=((l.map cD).zipIdx i).map λq=> .tup [.int (0+(q.2:Int)),q.1]
def Wa{so:gh}{a:Sl}: ∀(l:iz) (i:Nat) (x y:Sl),(∀c∈l,Ls c<=5)->
  match l.findIdx? (agn so) with
  |some m=> ∃d,pT (jv [fW 2,fW 3]) zy (eN2 i l) [a,eN so,x,y]=I (.rt (.int ((i+m:Nat):Int),J) [a,eN so,ii ((i+m:Nat):Int),d])
  |none=> ∃k d,pT (jv [fW 2,fW 3]) zy (eN2 i l) [a,eN so,x,y]=I (.nx [a,eN so,k,d]):=by
 intro l
 induction l with
 |nil=>intro i x y _;exact⟨x,y,rfl⟩
 |cons c l u=>
  intro i x y h;have t:(0+(i:Int))=i:=by lia
  have v:jv [fW 2,fW 3] (.tup [.int (0+(i:Int)),cD c]) [a,eN so,x,y]=I [a,eN so,ii (i:Int),eN c]:=by rw[t];rfl
  have e:=Si (so:=so) (c:=c) (a:=a) (x:=ii (i:Int))<|h c iX
  have f:pT (jv [fW 2,fW 3]) zy (eN2 i (c::l)) [a,eN so,x,y]=(zy [a,eN so,ii (i:Int),eN c]).bind λo=>match o with
    | .nx b=>pT (jv [fW 2,fW 3]) zy (eN2 (i+1) l) b
    | .ct b=>pT (jv [fW 2,fW 3]) zy (eN2 (i+1) l) b
    | .bk b=>I<|.nx b
    | .rt r b=>I (.rt r b):=by
   show(jv [fW 2,fW 3] (.tup [.int (0+(i:Int)),cD c]) [a,eN so,x,y]).bind _=_;rw[v];rfl
  rw[List.findIdx?_cons]
  cases n:agn so c with
  |true=>rw[n] at e;have j:zy [a,eN so,ii (i:Int),eN c]=I (.rt (.int (i:Int),J) [a,eN so,ii (i:Int),eN c]):=gL<|(mP e).trans H;rw[j] at f;exact⟨eN c,f⟩
  |false=>
   rw[n] at e;have j:zy [a,eN so,ii (i:Int),eN c]=I (.nx [a,eN so,ii (i:Int),eN c]):=(gc<|(jJ e).trans H).trans H;rw[j] at f;have g:=u (i+1) (ii (i:Int)) (eN c) λs q=>h s<|jd _ q
   cases p:l.findIdx? (agn so) with
   |none=>rw[p] at g;obtain⟨k,d,g⟩:=g;exact⟨k,d,f.trans g⟩
   |some m=>rw[p] at g;obtain⟨d,g⟩:=g;refine⟨d,f.trans ?_⟩;rw[show i+(m+1)=i+1+m by lia];exact g
def Fh(so:gh)(a:iz):D:=match a.findIdx? (agn so) with
 |some m=> .int m
 |none=> .non
def Ml{b:iz}{so:gh}(h: ∀c∈b,Ls c<=5):kW [(.tup<|b.map cD,J),enc so]=I ((Fh so b,J),[I (.tup<|b.map cD,J),eN so]):=by
 have g:=Wa (so:=so) (a:=I (.tup<|b.map cD,J)) b 0 C C h;have f0:rL (lT 0<|gF 0) (jv [fW 2,fW 3]) zy [I (.tup<|b.map cD,J),eN so,C,C]=pT (jv [fW 2,fW 3]) zy (eN2 0 b) [I (.tup<|b.map cD,J),eN so,C,C]:=nW H;unfold Fh
 cases e:b.findIdx? (agn so) with
 |some m=>rw[e] at g;obtain⟨d,g⟩:=g;rw[vI] at g;exact iG (δ:=[I (.tup<|b.map cD,J),eN so,ii (m:Int),d]) ⟨rfl,by decide,rfl⟩<|gL<|f0.trans g
 |none=>rw[e] at g;obtain⟨f,d,g⟩:=g;exact iG (δ:=[I (.tup<|b.map cD,J),eN so,f,d]) ⟨rfl,by decide,rfl⟩<|(gc<|f0.trans g).trans<|gL H
def RH{n:Nat}(b:n<=5){t c:gh}(d:(Ls t)=n)(a:c=[]\/ClOk n c):jM [enc t,enc c]=I ((.bl<|kC t c,J),[eN t,eN c]):=by
 rcases a with rfl|a
 .rfl
 .exact LY b d a
def agL(n:Nat)(a:iz)(c:gh):List (List Int):=(jj n a).filter λt=>!kC t c
def Af{n:Nat}{a:iz}{t:gh}(h:t∈jj n a):(Ls t)=n:=(mB (zG.mp (show t∈(kg n).filter _ from h)).1).1
def FL{n:Nat}{a:iz}{c:gh}(h:wQ n a)(b:c=[]\/ClOk n c)(g:(jj n a).length<=10000):ku [(rD' n a,J),enc c]=I ((.lst<|(agL n a c).map cD,Y),[rS n a,eN c]):=by
 have h1:gw (gb nL [fR 0]) [rS n a,eN c]=I ((jj n a).map cD,[rS n a,eN c]):=by unfold gw;rw[jU1 (FK h)<|jV H];rfl
 have e:=wK (caps:=[1]) (fi:=gw<|gb nL [fR 0]) (f:=gF 1) (ti:=hJ<|fT<|gb jM [fR 1,fR 0]) (δ:=[rS n a,eN c]) (l:=(jj n a).map cD) (args:=[cD c]) (λd=>d) (λd=>!kC (unC d) c) h1 H H (λd hd=>by obtain⟨t,i,rfl⟩:=lj.mp hd;refine⟨?_,λ_=>⟨J,rfl⟩⟩;rw[qr];exact jS<|iC<|jU2 (RH h.1 (Af i) b) (jV H)<|jV H) (by simpa using g)
 have r:(((jj n a).map cD).filter λd=>!kC (unC d) c).map (λd=>d)=(agL n a c).map cD:=by rw[xJ,AE];unfold agL;rw[show((λd=>!kC (unC d) c)∘cD)=λt=>!kC t c from funext λt=>by simp[qr]]
 rw[r] at e;exact Ht ⟨rfl,by decide,rfl⟩ e
def Kb{n:Nat}(g:n<=5){c:gh}(a:c=[]\/ClOk n c):lq [pI n,enc c]=I ((.bl Y,J),[ii n,eN c]):=by
 rcases a with rfl|a
 .refine Ht (δ:=[ii n,eN []]) ⟨rfl,by decide,rfl⟩ ?_;rfl
 .refine Ht (δ:=[ii n,eN c]) ⟨rfl,by decide,rfl⟩ ?_
  have e:fU gEq (fR 1) (fQ<|iP []) [ii n,eN c]=I ((.bl J,J),[ii n,eN c]):=by refine jO ?_ (jV H).r (jE (b:=J) (d:=cD []) H).r;rw[Me,kF a.1]
  have f:gb lH [fR 0,fR 1] [ii n,eN c]=I ((.bl Y,J),[ii n,eN c]):=jU2 (RL g a) (jV H)<|jV H;show fOr (fU gEq (fR 1)<|fQ<|iP []) (gb lH [fR 0,fR 1]) [ii n,eN c]=_;unfold fOr;rw[e];exact f
def GS(fs:iz):gEq (.lst<|fs.map cD) (.lst [])=I (.bl<|decide<|fs=[],J):=by unfold gEq;rw[gr ⟨GY fs,by decide⟩];cases fs<;>simp[D.eqb,D.eqbL]
def Fm{n:Nat}{a:iz}{c:gh}(h:wQ n a)(d:c=[]\/ClOk n c)(g:(jj n a).length<=10000):nK [(rD' n a,J),enc c]=I ((.bl<|decide<|agL n a c=[],J),[rS n a,eN c]):=by have e:hJ (fT<|gb lq [fQ<|fU gIx (fR 0)<|fQ<|fC<|.int 0,fR 1]) [rS n a,eN c]=I (J,[rS n a,eN c]):=jS<|iC<|jU2 (Kb h.1 d) (jE (b:=J) H)<|jV H;have f:fU gEq (fQ<|gb ku [fR 0,fR 1]) (fQ<|jL []) [rS n a,eN c]=I ((.bl<|decide<|agL n a c=[],J),[rS n a,eN c]):=jO (GS _) (jE (b:=Y)<|jU2 (FL h d g) (jV H)<|jV H).r (jE (b:=Y) H).r;exact iG (δ:=[rS n a,eN c]) ⟨rfl,by decide,rfl⟩<|(gc (δ1:=[rS n a,eN c])<|(jJ e).trans H).trans<|gL<|je f
inductive Wy where
 |gv(m:Nat)
 |mt(i j:Nat)(v:Int)
 |wd(i:Nat)
def wyD:Wy->D
 | .gv m=> .tup [.str "given",.int m]
 | .mt i j v=> .tup [.str "met",.int i,.int j,.int v]
 | .wd i=> .tup [.str "wide",.int i]
abbrev Stp:=List Int×Wy
abbrev sD(s:Stp):D:= .tup [cD s.1,wyD s.2]
abbrev lsS(S:List Stp):Sl:=I (.lst<|S.map sD,Y)
def Cl0(n:Nat)(c:gh):Prop:=(c.map ab).Pairwise (· < ·)/\ ∀s∈c,1<=ab s/\ab s<=n
def OU(n:Nat)(d A:iz)(c:gh):Wy->Prop
 | .gv m=>d[m]?=I c
 | .mt i j v=> ∃a b,A[i]?=I a/\A[j]?=I b/\v∈a/\ -v∈b/\1<=v/\v<=n/\Cl0 n a/\Cl0 n b/\c=oq a b v
 | .wd i=> ∃a,A[i]?=I a/\ ∀s∈a,s∈c
def Gd(n:Nat)(ks:iz)(S:List Stp):Prop:= ∀P s R,S=P++s::R->Cl0 n s.1/\OU n ks (P.map (·.1)) s.1 s.2
def Gd.snoc{n:Nat}{ks:iz}{S:List Stp}{s:Stp}(h:Gd n ks S)(h1:Cl0 n s.1)(b:OU n ks (S.map (·.1)) s.1 s.2):Gd n ks (S++[s]):=by
 intro P c R e;rcases D5 R with rfl|⟨R',x,rfl⟩
 .obtain⟨rfl,a⟩:=j7 e H;cases a;exact⟨h1,b⟩
 .rw[D4,<-j6,<-mh] at e;obtain⟨rfl,_⟩:=j7 e H;exact h P c R' H
def Gd.last{n:Nat}{ks:iz}{S:List Stp}{s:Stp}(h:Gd n ks (S++[s])):Cl0 n s.1:=(h S s [] H).1
def Cl0.len{n:Nat}{c:gh}(h:Cl0 n c):(Ls c)<=n:=by
 by_cases e:c=[]
 .rw[e];exact kx _
 .exact ClOk.len (n:=n) ⟨e,h⟩
def SoOk(n:Nat)(so:gh):Prop:= ∀s∈so,(1<=ab s/\ab s<=n)/\ -s∉so
def frL(n:Nat)(so:gh):List Int:=(st n).filter λv=>!so.contains v&&!so.contains (-v)
def RU{n:Nat}{so:gh}{v:Int}:v∈frL n so↔(1<=v/\v<=n)/\v∉so/\ -v∉so:=by unfold frL;rw[zG,J5];simp
def SoOk.add{n:Nat}{so:gh}(h:SoOk n so){v w:Int}(hv:v∈frL n so)(a:w=v\/w= -v):SoOk n (so++[w]):=by
 obtain⟨h1,f,c⟩:=RU.mp hv
 have e:ab w=v:=by unfold ab;rcases a with rfl|rfl<;>split<;>lia
 have a1:w∉so:=by rcases a with rfl|rfl<;>assumption
 have b: -w∉so:=by
  rcases a with rfl|rfl
  .exact c
  .rwa [sL]
 intro s d;rcases nO.mp d with z|z
 .refine⟨(h s z).1,λq=>?_⟩;rcases nO.mp q with q|q
  .exact(h s z).2 q
  .have:=zf.mp q;rw[<-this,sL] at b;exact b z
 .cases zf.mp z;refine⟨by lia,λq=>?_⟩;rcases nO.mp q with q|q
  .exact b q
  .have:=zf.mp q;rcases a with rfl|rfl<;>lia
def Pm{n:Nat}{so:gh}{v w:Int}(hv:v∈frL n so)(a:w=v\/w= -v):(frL n<|so++[w]).length<(frL n so).length:=by
 have e:frL n (so++[w])=(frL n so).filter λx=>!([w].contains x)&&!([w].contains (-x)):=by
  unfold frL;rw[List.filter_filter];refine nh (λp=>(st n).filter p)<|funext λx=>?_
  have c: ∀y:Int,(so++[w]).contains y=(so.contains y||[w].contains y):=λy=>by rw[DK];simp
  rw[c,c];cases so.contains x<;>cases so.contains (-x)<;>cases[w].contains x<;>cases[w].contains (-x)<;>rfl
 rw[e];refine List.length_filter_lt_length_iff_exists.mpr ⟨v,hv,?_⟩;rcases a with rfl|rfl<;>simp
def Uw{n:Nat}{ks:iz}{so:gh}(hk: ∀c∈ks,ClOk n c)(p:SoOk n so)(w: ∀t∈kg n,so.all (soB t)=Y->ks.all (kC t)=J)(k: ∀c∈ks,agn so c=J):frL n so≠[]:=by
 intro e
 let t:List Int:=(st n).map λv=>if so.contains v=Y then 1 else 0
 have r:t∈kg n:=by
  refine Sz.mpr ⟨by rw[iJ,Bp],λx u=>?_⟩;obtain⟨v,_,rfl⟩:=lj.mp u;split
  .exact .inr H
  .exact .inl H
 have a: ∀s,1<=ab s/\ab s<=n->s∈so\/ -s∈so:=λs h=>by
  by_cases h1:s∈so
  .exact .inl h1
  by_cases b: -s∈so
  .exact .inr b
  have:ab s∈frL n so:=RU.mpr ⟨h,by unfold ab;split<;>assumption,by
   unfold ab;split
   .rwa [sL]
   .assumption⟩
  rw[e] at this;cases this
 have i: ∀s,s∈so->soB t s=Y:=λs h=>by
  obtain⟨h1,b⟩:=p s h;have m:(ab s).toNat-1<n:=by lia
  have g:t.getD ((ab s).toNat-1) 0=if so.contains (ab s)=Y then 1 else 0:=by
   have:t[(ab s).toNat-1]?=I (if so.contains (ab s)=Y then 1 else 0):=by show(d8 _ (d8 _ (ai n)))[_]?=_;rw[iW,iW,Jw m];simp only[ib];rw[show(1+(((ab s).toNat-1:Nat):Int))=ab s by lia]
   rw[sY,this];rfl
  unfold soB;rw[g];unfold ab at*;by_cases q:s<0
  .rw[gr q] at*;have:so.contains (-s)=J:=by simpa using b
   rw[this,gD (show ¬s>0 by lia)];rfl
  .rw[gD q] at*;have:so.contains s=Y:=by simpa using h
   rw[this,gr (show s>0 by lia)];rfl
 have h1:=w t r<|lO.mpr λs h=>i s h;obtain⟨c,f,l⟩:=iV.mp h1;obtain⟨s,d,o⟩:=iV.mp<|k c f;have j: -s∉so:=by simpa using o
 have:=(a s<|(hk c f).2.2 s d).resolve_right j;exact l<|j9.mpr ⟨s,d,i s this⟩
def RB{n:Nat}{so a b:gh}{v:Int}(c:SoOk n so)(o:Cl0 n a)(p:Cl0 n b)(h1: ∀s∈a,s=v\/ -s∈so)(k: ∀s∈b,s= -v\/ -s∈so)(hv:1<=v):((wx a b v).map ab).Nodup/\Cl0 n (oq a b v)/\ ∀s∈oq a b v, -s∈so:=by
 have g: ∀s,(s∈a\/s∈b)->ab s≠v-> -s∈so:=λs h q=>by
  have u:ab v=v:=by unfold ab;split<;>lia
  have w:ab (-v)=v:=by unfold ab;split<;>lia
  rcases h with h|h
  .rcases h1 s h with rfl|z
   .exact absurd u q
   .exact z
  .rcases k s h with rfl|z
   .exact absurd w q
   .exact z
 have i:=(oP a b v).2.trans (mY a b v).2
 have l:((wx a b v).map ab).Nodup:=by
  have m:(wx a b v).Nodup:=Ft _;rw[c6,lZ];refine r9 (λ{x y} d f r e=>r ?_) m;have d:=DI.mp<|i.mem_iff.mpr d;have f:=DI.mp<|i.mem_iff.mpr f;have s1:=g x d.1 d.2;have t:=g y f.1 f.2;by_cases q:x=y
  .exact q
  .have: -x=y:=by unfold ab at e;split at e<;>split at e<;>lia
   exact absurd s1 (by rw[this];have:=(c _ t).2;rwa [sL] at this)
 refine⟨l,⟨?_,λs h=>?_⟩,λs h=>g s (DI.mp h).1 (DI.mp h).2⟩
 .have j:((oq a b v).map ab).Nodup:=(i.map ab).symm.nodup l;have c:=vY<|(uL a b v).map D.int;rw[(oP a b v).1,lZ] at c;rw[lZ];rw[c6,lZ] at j;refine(c.and j).imp λ{a b} h=>?_;have h1:ab a<=ab b:=h.1;have k:ab a≠ab b:=h.2
  lia
 .rcases(DI.mp h).1 with z|z
  .exact o.2 s z
  .exact p.2 s z
def Mt{n np:Nat}{b:ja}{f:FS}{a:List (D×Bool)}{δ:Dn}(h1:(Ls a)=np/\np<=n/\(a.zipIdx.all λp=>!(p.1.2&&b.contains p.2))=Y)(c:f (a.map I++ac (n-np) C)=I (.nx δ)):evF n np b f a=I ((.non,J),gZ a δ):=by unfold evF;rw[gr h1,c]
def ixT{l:List D}{m:Nat}{d:D}(h:l[m]?=I d):gIx (.tup l) (.int m)=I (d,J):=by have:=(qc.mp h).1;rw[ixt (by lia)<|by lia,sY,oB,h];rfl
def ixL{l:List D}{m:Nat}{d:D}(h:l[m]?=I d):gIx (.lst l) (.int m)=I (d,J):=by have:=(qc.mp h).1;rw[ixl (by lia)<|by lia,sY,oB,h];rfl
def Uk{f:EvF}{g i j:FO}{δ:Dn}{a b c:D}{r:D×Bool}{e:Dn}(h:f [(a,J),(b,J),(c,J)]=I (r,e))(l:FJ g δ a)(m:FJ i δ b)(n:FJ j δ c):gb f [g,i,j] δ=I (r,δ):=by obtain⟨o,h1,_,k⟩:=l;obtain⟨u,p,_,q⟩:=m;obtain⟨v,s,_,t⟩:=n;refine(iu (lV h1<|mI p s) (args:=[a,b,c].map λd=>(d,J)) (by simp[k,q,t]) (by rw[oQ];exact lC) h).trans ?_;rw[zI]
abbrev dA(n:Nat)(ks:iz)(so:gh)(S:List Stp)(a r4 r5 r6 r7 r8:Sl):Dn:=[rS n ks,eN so,lsS S,a,r4,r5,r6,r7,r8]
abbrev fAt(i:Nat):F:=fU gIx (fQ<|fU gIx (fR 2)<|fR i)<|fQ<|fC<|.int 0
abbrev fLn:F:=fU PX.gSub (fQ<|gf (g1 kz) [fR 2])<|fQ<|fC<|.int 1
section
variable {n:Nat}{ks:iz}{so:gh}{S:List Stp}{c r4 r5 r6 r7 r8:Sl}{δ:Dn}
def LL{s:Stp}(h:δ[2]?=I (lsS<|S++[s])):fLn δ=I ((.int S.length,J),δ):=by have e:=jO (δ:=δ) (Ko _ 1) (jE (b:=J)<|jC (BB<|(S++[s]).map sD)<|jR h).r (jE (b:=J) (f:=fC<|.int 1) H).r;rw[iJ,ky,rX,show(((S.length+1:Nat):Int)-1)=S.length by lia] at e;exact e
def Sf{i k:Nat}{s:Stp}(h:δ[2]?=I (lsS S))(a:δ[i]?=I (ii k))(hk:S[k]?=I s):fAt i δ=I (enc s.1,δ):=
 jO rfl (jE (b:=J) (d:=sD s)<|jO (ixL<|by rw[iW,hk];rfl) (jR h) (jV a).r).r (jE H).r
def ME{d:EvF}{b:List Stp}{a:gh}{e:FO}(h:d [(rD' n ks,J),enc a,(.lst<|S.map sD,Y)]=I ((.non,J),[rS n ks,eN a,lsS b]))(f:fU jX (fR 1) e (dA n ks so S c r4 r5 r6 r7 r8)=I (enc a,dA n ks so S c r4 r5 r6 r7 r8)):
  jZ (gb d [fR 0,fQ<|fU jX (fR 1) e,fR 2]) (dA n ks so S c r4 r5 r6 r7 r8)=I (.nx<|dA n ks so b c r4 r5 r6 r7 r8):=
 qB ((iu (os:=[.slot 0,.val<|enc a,.slot 2]) (args:=[(rD' n ks,J),enc a,(.lst<|S.map sD,Y)]) (lV H<|mI (gC f) H) H (by simp[gG]) h).trans H)
def MM{f:F}{s:Stp}(a:δ[2]?=I (lsS S))(h:f δ=I ((sD s,J),δ))(b:S.length<=10000):jZ (jo 2 f) δ=I (.nx<|δ.set 2<|lsS<|S++[s]):=by refine qB (r:=(.non,J))<|(uf a h a<|by rw[iJ];exact qZ b).trans ?_;rw[show S.map sD++[(sD s,J).1]=(S++[s]).map sD by rw[lB];rfl]
abbrev fMn:F:=gf (g1 Mb) [fQ<|gE [1] 1 (zt (fQ<|fC<|.int 1)<|fQ<|fU jX (fR 3)<|fQ<|fC<|.int 1) (fW 1) (mx (fT<|fU kL (fR 1)<|fR 0)<|fT<|fU kL (fQ<|iN jW<|fR 1)<|fR 0)<|gx<|gF 1]
def Ug(l:n<=5)(h:frL n so≠[]):fMn (dA n ks so S (ii n) r4 r5 r6 r7 r8)=I ((.int<|ot<|frL n so,J),dA n ks so S (ii n) r4 r5 r6 r7 r8):=by
 have k:zt (fQ<|fC<|.int 1) (fQ<|fU jX (fR 3)<|fQ<|fC<|.int 1) (dA n ks so S (ii n) r4 r5 r6 r7 r8)=I ((st n).map D.int,dA n ks so S (ii n) r4 r5 r6 r7 r8):=by rw[GN (o1:= .val (.int 1,J)) (o2:= .val (.int<|(n:Int)+1,J)) (i:=1) (j:=(n:Int)+1) (δ2:=dA n ks so S (ii n) r4 r5 r6 r7 r8) H H H H (by lia)<|by lia,show((n:Int)+1-1).toNat=n by lia];unfold ig st;rw[jI];rfl
 have e:=wK (caps:=[1]) (f:=gF 1) (ti:=mx (fT<|fU kL (fR 1)<|fR 0)<|fT<|fU kL (fQ<|iN jW<|fR 1)<|fR 0) (args:=[cD so]) (λd=>d) (λd=>!so.contains (iOf d)&&!so.contains (-(iOf d))) k H H (λd hd=>by
  obtain⟨s,_,rfl⟩:=lj.mp hd;refine⟨?_,λ_=>⟨J,rfl⟩⟩;have h1:fT (fU kL (fR 1)<|fR 0) [eN so,ii s]=I (!so.contains s,[eN so,ii s]):=iC<|jO (xE s so) (jV H).r (jV H).r;have g:fT (fU kL (fQ<|iN jW<|fR 1)<|fR 0) [eN so,ii s]=I (!so.contains (-s),[eN so,ii s]):=iC<|jO (xE (-s) so) (jE (b:=J)<|jN (a:= .int s) H (jV H).r).r (jV H).r;show mx _ _ [eN so,ii s]=I (!so.contains s&&!so.contains (-s),[eN so,ii s]);unfold mx;rw[h1];simp only[iI];cases so.contains s
  .exact g
  .rfl) (by rw[iJ,Bp];lia)
 have r:(((st n).map D.int).filter λd=>!so.contains (iOf d)&&!so.contains (-(iOf d))).map (λd=>d)=(frL n so).map D.int:=by rw[xJ,AE];rfl
 rw[r] at e;refine jC ?_ (jE e).r;show(if((frL n so).map D.int).all okI=Y/\(frL n so).map D.int≠[] then I (D.int<|ot<|((frL n so).map D.int).map Ib,J) else C)=_;rw[gr ⟨nB _,by simpa using h⟩,jI,show(Ib∘D.int)=id from H,qd]
end
def Sj{n:Nat}{ks:iz}(h:wQ n ks): ∀(m:Nat) (so:gh) (S:List Stp),SoOk n so->(∀t∈kg n,so.all (soB t)=KE->ks.all (kC t)=K2)->(frL n so).length<m->Gd n ks S->S.length+2^m<=10000->Ls so+m<=100->
  ∃N c w,Gd n ks (S++N++[(c,w)])/\(∀s∈c, -s∈so)/\(Ls N)+2<=2^m/\jf m [(rD' n ks,K2),enc so,(.lst<|S.map sD,KE)]=I8 ((.non,K2),[rS n ks,eN so,lsS<|S++N++[(c,w)]]):=by
 have M:=h.1;have h5: ∀c∈ks,Ls c<=5:=λc V=>lh (h.2.1.2 c V).len M;intro m
 induction m with
 |zero=>intro so S _ _ hf;lia
 |succ m ih=>
  intro so S A v7 hf hg hl hso;have r2:2^(m+1)=2*2^m:=Nat.pow_succ';have p1:1<=2^m:=Nat.one_le_two_pow
  let T:Sl:=I8 (.tup<|ks.map cD,K2)
  have O: ∀g,fZ (CF (jv [fW 3,fW 4])<|gF 0) (fZ (iT 5<|gb kW [fR 4,fR 1]) g) (dA n ks so S J4 J4 J4 J4 J4 J4)=g (dA n ks so S (ii n) T (I8 (Fh so ks,K2)) J4 J4 J4):=λg=>(gc (δ1:=dA n ks so S (ii n) T J4 J4 J4 J4) K3).trans<|gc<|iL (i:=5) (δ1:=dA n ks so S (ii n) T J4 J4 J4 J4) (jU2 (Ml h5) (jV K3)<|jV K3) (show 5<9 by decide)
  have J:([(rD' n ks,K2),enc so,(.lst<|S.map sD,KE)]:List (D×Bool)).length=3/\3<=9/\(([(rD' n ks,K2),enc so,(.lst<|S.map sD,KE)]:List (D×Bool)).zipIdx.all λp=>!(p.1.2&&([3,4,5,6,7,8]:List Nat).contains p.2))=KE:=⟨rfl,by decide,rfl⟩
  cases hk:ks.findIdx? (agn so) with
  |some k=>
   obtain⟨W,ha,_⟩:=SF.mp hk;have F:Fh so ks= .int k:=by unfold Fh;rw[hk]
   rw[F] at O;have V:=h.2.1.2 ks[k]<|xM W;refine⟨[],ks[k],.gv k,?_,λs A=>?_,by simp;lia,?_⟩
   .rw[tu];exact hg.snoc V.2<|gY W
   .simpa using lO.mp ha s A
   .rw[tu];have ix:fU gIx (fR 4) (fR 5) (dA n ks so S (ii n) T (ii k) J4 J4 J4)=I8 (enc ks[k],dA n ks so S (ii n) T (ii k) J4 J4 J4):=jO (ixT<|by rw[iW,gY W];rfl) (jV K3).r (jV K3).r;exact iG (δ:=dA n ks so (S++[(ks[k],.gv k)]) (ii n) T (ii k) J4 J4 J4) J<|(O _).trans<|gL<|(mP (t:=fT<|fU wD (fR 5)<|fQ<|fC .non) (δ1:=dA n ks so S (ii n) T (ii k) J4 J4 J4) K3).trans<|(gc<|MM (S:=S) (s:=(ks[k],.gv k)) K3 (xi ix<|xi (f:=fC<|.str "given") (g:=gF 5) (a:=(.str "given",K2)) (b:=pI k) K3 K3)<|by lia).trans<|gL (f:=zQ) (r:=(.non,K2)) K3
  |none=>
   have fg: ∀c∈ks,agn so c=K2:=SD.mp hk;have F:Fh so ks= .non:=by unfold Fh;rw[hk]
   rw[F] at O;have dy:=Uw h.2.1.2 A v7 fg;obtain⟨hv,_⟩:=xg dy;generalize hV:ot (frL n so)=v at hv;obtain⟨Z,v2,v3⟩:=RU.mp hv;have sub: ∀w,∀t∈kg n,(so++[w]).all (soB t)=KE->ks.all (kC t)=K2:=λw t ht q=>v7 t ht (by rw[mj,lL] at q;exact q.1);obtain⟨C,e,E,g1,Q,l1,P⟩:=ih (so++[-v]) S (A.add hv<|.inr K3) (sub _) (by have:=Pm hv<|.inr K3;lia) hg (by lia) (by rw[ky,rX];lia)
   let u:=S++C++[(e,E)]
   have hS1:(Ls u)=S.length+Ls C+1:=by simp[u];lia
   let o:=(S++C).length
   let x:Sl:=I8 (.non,K2)
   have z1: ∀g,fZ (jZ<|gb (jf m) [fR 0,fQ<|fU jX (fR 1)<|fQ<|iP [iN jW<|fR 6],fR 2]) (fZ (iT 7 fLn) g) (dA n ks so S (ii n) T x (ii v) J4 J4)=g (dA n ks so u (ii n) T x (ii v) (ii o) J4):=λg=>by refine(gc<|ME P ?_).trans (gc<|iL (i:=7) (LL (S:=S++C) (s:=(e,E)) K3) (show 7<9 by decide));rw[jO (Sk (l:=so.map D.int) (m:=[.int (-v)]) (by rw[iJ];lia)<|by simp) (jV K3).r (jE (b:=K2) K3).r];rw[show so.map D.int++[.int (-v)]=(so++[-v]).map D.int by rw[lB];rfl]
   have L:fT (fU kL (fR 6)<|fQ<|fAt 7) (dA n ks so u (ii n) T x (ii v) (ii o) J4)=I8 (!e.contains v,dA n ks so u (ii n) T x (ii v) (ii o) J4):=iC<|jO (xE v e) (jV K3).r (jE<|Sf (S:=u) (k:=o) (s:=(e,E)) K3 K3 IK).r
   have e2: ∀g,fZ (sIf (fT<|fU wD (fR 5)<|fQ<|fC .non) (fZ (jZ<|jo 2<|iP [fU gIx (fR 4)<|fR 5,iP [fC<|.str "given",gF 5]])<|fZ zQ gq) gq) (fZ (iT 6 fMn) g) (dA n ks so S (ii n) T x J4 J4 J4)=g (dA n ks so S (ii n) T x (ii v) J4 J4):=λg=>(gc<|(jJ (δ1:=dA n ks so S (ii n) T x J4 J4 J4) K3).trans K3).trans<|gc<|iL (i:=6) (δ1:=dA n ks so S (ii n) T x J4 J4 J4) (by have:=Ug (so:=so) (S:=S) (ks:=ks) (r4:=T) (r5:=x) (r6:=J4) (r7:=J4) (r8:=J4) M dy;rw[hV] at this;exact this) (show 6<9 by decide)
   have aw: ∀{c:gh} {w:Int},(∀s∈c, -s∈so++[w])-> ∀s∈c,s= -w\/ -s∈so:=λhq s A=>by
    rcases nO.mp (hq s A) with z|z
    .exact .inr z
    .have:=zf.mp z;exact .inl (by lia)
   have Q:=aw Q;rw[sL] at Q;by_cases G:v∈e
   .have L:=L.trans (by rw[show e.contains v=KE by simpa using G];rfl:_=I8 (K2,dA n ks so u (ii n) T x (ii v) (ii o) J4));obtain⟨H,j,I,g2,U,l2,R⟩:=ih (so++[v]) u (A.add hv<|.inl K3) (sub _) (by have:=Pm hv<|.inl K3;lia) g1 (by lia) (by rw[ky,rX];lia);have U:=aw U
    let y:=u++H++[(j,I)]
    have hS2:(Ls y)=Ls u+Ls H+1:=by simp[y];lia
    let B:=(u++H).length
    have z2: ∀g,fZ (jZ<|gb (jf m) [fR 0,fQ<|fU jX (fR 1)<|fQ<|iP [gF 6],fR 2]) (fZ (iT 8 fLn) g) (dA n ks so u (ii n) T x (ii v) (ii o) J4)=g (dA n ks so y (ii n) T x (ii v) (ii o)<|ii B):=λg=>by refine(gc<|ME R ?_).trans (gc<|iL (i:=8) (LL (S:=u++H) (s:=(j,I)) K3) (show 8<9 by decide));rw[jO (Sk (l:=so.map D.int) (m:=[.int v]) (by rw[iJ];lia)<|by simp) (jV K3).r (jE (b:=K2) K3).r];rw[show so.map D.int++[.int v]=(so++[v]).map D.int by rw[lB];rfl]
    let d:Dn:=dA n ks so y (ii n) T x (ii v) (ii o)<|ii B
    have cK:y[o]?=I8 (e,E):=by show(S++C++[(e,E)]++H++[(j,I)])[o]?=_;rw[mh,mh,nU<|iD _];simp[o]
    have aN:y[B]?=I8 (j,I):=IK;have a1:fAt 7 d=I8 (enc e,d):=Sf (S:=y) K3 K3 cK;have a2:fAt 8 d=I8 (enc j,d):=Sf (S:=y) K3 K3 aN;have t2:fT (fU gIn (fQ<|iN jW<|fR 6)<|fQ<|fAt 8) d=I8 (j.contains (-v),d):=iC<|jO (GO (-v) j) (jE (b:=K2)<|jN (a:= .int v) K3 (jV K3).r).r (jE a2).r
    have run:mU (jf m) (dA n ks so S J4 J4 J4 J4 J4 J4)=fZ (sIf (fT<|fU gIn (fQ<|iN jW<|fR 6)<|fQ<|fAt 8) (fZ (jZ<|jo 2<|iP [gb yQ [fQ<|fAt 7,fQ<|fAt 8,fR 6],iP [fC<|.str "met",gF 7,gF 8,gF 6]]) gq) gq) gq d:=
     (O _).trans ((e2 _).trans<|(z1 _).trans<|(gc<|(jJ L).trans K3).trans<|z2 _)
    by_cases Y: -v∈j
    .have K:=g1.last;have X:=g2.last;obtain⟨m1,m2,m3⟩:=RB A K X Q U Z.1;refine⟨C++[(e,E)]++H++[(j,I)],oq e j v,Wy.mt o B v,?_,m3,by simp;lia,?_⟩
     .have:=g2.snoc (s:=(oq e j v,Wy.mt o B v)) m2 ⟨e,j,by rw[iW];exact nh (eC (·.1)) cK,by rw[iW];exact nh (eC (·.1)) aN,G,Y,Z.1,Z.2,K,X,rfl⟩;simpa[y,u] using this
     .have em:gb yQ [fQ<|fAt 7,fQ<|fAt 8,fR 6] d=I8 (enc<|oq e j v,d):=Uk (RA (lh K.len M) (lh X.len M) m1) (jE a1) (jE a2) (jV K3)
      have et:iP [fC<|.str "met",gF 7,gF 8,gF 6] d=I8 ((wyD<|Wy.mt o B v,K2),d):=by show(if 4<=sizeLine then I8 ((wyD<|Wy.mt o B v,K2),d) else J4)=_;rw[gr<|rd<|by decide]
      refine(Mt (δ:=dA n ks so (y++[(oq e j v,Wy.mt o B v)]) (ii n) T x (ii v) (ii o)<|ii B) J<|run.trans<|(gc<|(mP<|t2.trans<|by rw[show j.contains (-v)=KE by simpa using Y]).trans<|(gc<|MM (S:=y) (s:=(oq e j v,Wy.mt o B v)) K3 (xi em et)<|by lia).trans K3).trans K3).trans ?_;rw[show S++(C++[(e,E)]++H++[(j,I)])++[(oq e j v,Wy.mt o B v)]=y++[(oq e j v,Wy.mt o B v)] by simp[y,u]];rfl
    .refine⟨C++[(e,E)]++H,j,I,?_,λs A=>(U s A).resolve_left λz=>Y<|z▸A,by simp;lia,?_⟩
     .have:=g2;simpa[u] using this
     .refine(Mt (δ:=d) J<|run.trans<|(gc<|(jJ<|t2.trans<|by rw[show j.contains (-v)=K2 by simpa using Y]).trans K3).trans K3).trans ?_;rw[show S++(C++[(e,E)]++H)++[(j,I)]=y by simp[y,u]];rfl
   .have L:=L.trans (by rw[show e.contains v=K2 by simpa using G];rfl:_=I8 (KE,dA n ks so u (ii n) T x (ii v) (ii o) J4));refine⟨C,e,E,g1,λs A=>(Q s A).resolve_left λz=>G<|z▸A,by lia,?_⟩;exact iG (δ:=dA n ks so u (ii n) T x (ii v) (ii o) J4) J<|(O _).trans<|(e2 _).trans<|(z1 _).trans<|gL<|(mP L).trans<|gL K3
def ixM{l:List D}{d:D}:gIx (.lst<|l++[d]) (.int (-1))=I (d,J):=by
 have e:ixN (l++[d]).length (-1)=I (Ls l):=by
  unfold ixN;rw[ky,rX,gD<|by decide,gr<|by lia]
  congr 1;lia
 show(atI (l++[d]) (-1)).map _=_;unfold atI;rw[e];simp
def V2{l:List D}{d:D}:gIx (.tup<|l++[d]) (.int (-1))=I (d,J):=ixM
def PZ{t:gh}{s:Int}(h:1<=ab s)(a:soB t (-s)=Y):soB t s=J:=by
 have e:ab (-s)=ab s:=kX s;unfold soB at*;rw[e] at a;have:=qa a;rw[this];unfold ab at h;by_cases q:s>0
 .rw[gr q,gD (show ¬ -s>0 by lia)];rfl
 .rw[gD q,gr (show -s>0 by split at h<;>lia)];rfl
def MT{c:gh}(h:(c.map ab).Pairwise (· < ·)){x y:Int}(b:x∈c)(g:y∈c)(e:ab x=ab y):x=y:=by
 rw[lZ] at h
 induction h with
 |nil=>cases b
 |cons a _ i=>
  rcases jF.mp b with rfl|d<;>rcases jF.mp g with rfl|f
  .rfl
  .have:=a _ f;lia
  .have:=a _ d;lia
  .exact i d f
def Ry{n:Nat}{c:gh}(h:Cl0 n c):SoOk n (c.map (- ·)):=by intro s b;obtain⟨x,a,rfl⟩:=lj.mp b;have h1:=h.2 x a;refine⟨by rw[kX];exact h1,λq=>?_⟩;obtain⟨y,d,e⟩:=lj.mp q;have f:=MT h.1 d a (by rw[show y= -x by lia,kX]);unfold ab at h1;split at h1<;>lia
abbrev cl0(n:Nat)(c:gh)(h:Cl0 n c):c=[]\/ClOk n c:=by
 by_cases e:c=[]
 .exact .inl e
 .exact .inr ⟨e,h⟩
section
variable {n:Nat}{j:iz}{c:gh}(h:wQ n j)(k:Cl0 n c)
include h k
theorem Pn:hJ (fT<|gb nK [fR 0,fR 1]) [rS n j,eN c,C]=I (!decide (agL n j c=[]),[rS n j,eN c,C]):=
 jS (iC (jU2 (Fm h (cl0 n c k) (by
  have h1:(jj n j).length<=(kg n).length:=rN _ _;have a:=wN n;have b:2^n<=2^5:=xR (by decide) h.1
  lia)) (jV H)<|jV H))
theorem CN(a:agL n j c≠[]):ki [(rD' n j,J),enc c]=I ((.non,J),[rS n j,eN c]):=
 iG (δ:=[rS n j,eN c,C]) ⟨rfl,by decide,rfl⟩ (gL<|(mP<|(Pn h k).trans<|by rw[kF a];rfl).trans<|gL H)
theorem Lh(u:agL n j c=[]): ∃S w,Gd n j (S++[(c,w)])/\S.length<=64/\ki [(rD' n j,J),enc c]=I ((.tup<|(S++[(c,w)]).map sD,J),[rS n j,eN c]):=by
 have T:=h.1;have E:=k.len
 obtain⟨N,d,w,g,q,v,p⟩:=Sj h RD (c.map (- ·)) [] (Ry k) (λt B o=>by
  refine i0.mpr λhk=>?_;have:t∉agL n j c:=by rw[u];simp
  refine this<|zG.mpr ⟨zG.mpr ⟨B,hk⟩,?_⟩;rw[ec];refine List.any_eq_false.mpr λs y=>?_;rw[PZ (k.2 s y).1<|lO.mp o (-s)<|vA y]
  decide) (by
   have:(frL n (c.map (- ·))).length<=(st n).length:=rN _ _;rw[Bp] at this;show _<6
   lia) (λP s R e=>by simp at e) (by decide) (by rw[iJ];show _+6<=100;lia)
 rw[dd] at g p;have v:(Ls N)+2<=64:=v
 have sub: ∀s∈d,s∈c:=λs o=>by
  obtain⟨x,U,e⟩:=lj.mp<|q s o
  rwa [show s=x by lia]
 let m:=N++[(d,w)]
 have A:gE [] 1 (gw<|gF 1) (fW 0) gK (gx<|iN jW<|fR 0) [rS n j,eN c,lsS []]=I ((.lst ((c.map (- ·)).map D.int),Y),[rS n j,eN c,lsS []]):=Iw (caps:=[]) (args:=[]) (l:=c) (- ·) H H H (λx _=>⟨J,jN (a:= .int x) H (jV H).r⟩) (by lia)
 have Q:jZ (gb (jf RD) [fR 0,fQ<|gf (g1 km) [fQ<|gE [] 1 (gw<|gF 1) (fW 0) gK<|gx<|iN jW<|fR 0],fR 2]) [rS n j,eN c,lsS []]=I (.nx [rS n j,eN c,lsS m]):=
  qB ((iu (os:=[.slot 0,.val (enc (c.map (- ·))),.slot 2]) (args:=[(rD' n j,J),enc (c.map (- ·)),(.lst [],Y)]) (lV H (mI (gC (jC (a:= .lst ((c.map (- ·)).map D.int)) H (jE A).r)) H)) H (by simp[gG]) p).trans H)
 have z:fT (fU gNe (fQ<|fU gIx (fQ<|fU gIx (fR 2)<|fQ<|iN jW<|fQ<|fC<|.int 1)<|fQ<|fC<|.int 0)<|fR 1) [rS n j,eN c,lsS m]=I (!decide (d=c),[rS n j,eN c,lsS m]):=by refine iC<|jO (RP d c) (jE (b:=J)<|jO (a:=sD (d,w)) H (jE (b:=J)<|jO ?_ (jR H) (jE (b:=J)<|jN (a:= .int 1) H (jE H).r).r).r (jE H).r).r (jV H).r;show gIx (.lst<|(N++[(d,w)]).map sD) (.int (-1))=_;rw[lB];exact ixM
 have pre: ∀g,fZ (sIf (hJ<|fT<|gb nK [fR 0,fR 1]) (fZ (ip<|fC .non) gq) gq) (fZ (iT 2<|jL [])<|fZ (jZ<|gb (jf RD) [fR 0,fQ<|gf (g1 km) [fQ<|gE [] 1 (gw<|gF 1) (fW 0) gK<|gx<|iN jW<|fR 0],fR 2]) g) [rS n j,eN c,C]=g [rS n j,eN c,lsS m]:=λg=>(gc<|(jJ<|(Pn h k).trans<|by rw[kh u];rfl).trans H).trans<|(gc (δ1:=[rS n j,eN c,lsS []]) H).trans<|gc Q
 by_cases hd:d=c
 .subst hd;exact⟨N,w,g,by lia,iG (δ:=[rS n j,eN d,lsS m]) ⟨rfl,by decide,rfl⟩<|(pre _).trans<|(gc<|(jJ<|z.trans<|by rw[kh H];rfl).trans H).trans<|gL<|je<|jC H<|jR (i:=2) H⟩
 .refine⟨m,.wd<|Ls N,g.snoc k ⟨d,by rw[iW];simp,sub⟩,by simp[m];lia,iG (δ:=[rS n j,eN c,lsS<|m++[(c,.wd<|Ls N)]]) ⟨rfl,by decide,rfl⟩<|(pre _).trans<|(gc<|(mP<|z.trans<|by rw[kF hd];rfl).trans<|(gc<|MM (S:=m) (s:=(c,.wd<|Ls N)) H (xi (f:=gF 1) (a:=enc c) H<|xi (f:=fC<|.str "wide") (a:=(.str "wide",J)) H<|LL (S:=N) (s:=(d,w)) H)<|by simp[m];lia).trans H).trans<|gL<|je<|jC H<|jR (i:=2) H⟩
end
def M4{f:F}{fi:FIt}{δ:Dn}{a:List (D×D)}(s:fi δ=I (a.map λp=> .tup [p.1,p.2],δ))(h: ∀p∈a,f [I (p.1,J),I (p.2,J)]=I ((.bl Y,J),[I (p.1,J),I (p.2,J)]))(o:(Ls a)<=1000):
  gf (g1 mr) [fQ<|gE [] 2 fi (jv [fW 0,fW 1]) gK<|gx f] δ=I ((.bl Y,J),δ):=by
 obtain⟨b,t,⟨a,c,u,v,h1,g,i,l,rfl⟩,e⟩:=za (tg:=jv [fW 0,fW 1]) (f:=f) (λj b δ=> ∃(a:List (D×D)) (c:List D) (u v:Sl),j=a.map (λp=> .tup [p.1,p.2])/\(∀p∈a,f [I (p.1,J),I (p.2,J)]=I ((.bl Y,J),[I (p.1,J),I (p.2,J)]))/\b=c.map (λ_=> .bl Y)/\(Ls b)+Ls a<=1000/\δ=[u,v]) (λd j b δ n=>by
  obtain⟨a,c,u,v,h1,g,i,l,m⟩:=n;subst m
  cases a with
  |nil=>cases h1
  |cons p a=>obtain⟨rfl,rfl⟩:=pX h1;exact⟨[I (p.1,J),I (p.2,J)],.bl Y,J,[I (p.1,J),I (p.2,J)],rfl,g p iX,by lia,a,c++[.non],_,_,rfl,λq r=>g q<|jd _ r,by simp[i],by simp at l ⊢;lia,rfl⟩) (a.map λp=> .tup [p.1,p.2]) [] [C,C] ⟨a,[],C,C,rfl,h,rfl,by simpa using o,rfl⟩
 refine mw (pz<|gC<|nI (caps:=[]) (k:=2) (args:=[]) s H lC e) H ?_;subst i;refine(xl (λ_=>Y) c).trans ?_;simp
def LN{n:Nat}(z:n<=5){c:gh}(h:Cl0 n c):jT [pI n,enc c]=I ((.bl Y,J),[ii n,eN c]):=by
 have y:=h.len
 let δ:Dn:=[ii n,eN c]
 have k:=mz (caps:=[0]) (fi:=gw<|gF 1) (f:=oy (gb hC [fR 1])<|js .LtE .LtE (fQ<|fC<|.int 1) (fQ<|gf (g1 ox) [fR 1])<|fR 0) (δ:=δ) (δ1:=δ) (l:=c.map .int) (args:=[.int n]) (λ_=>Y) H H H (λd hd=>⟨J,by
  obtain⟨s,w,rfl⟩:=lj.mp hd;have g:=h.2 s w;refine(pA<|jU1 (wy<|.int s)<|jV H).trans ?_;have e:ab s=if s<0 then -s else s:=rfl
  rw[e] at g;simp[js,jr,g.1,g.2]⟩) (by simp;lia)
 rw[show(c.map D.int).all (λ_=>Y)=Y by simp] at k
 have x:qG (gF 1) (mv (fR 1)<|fQ<|fC<|.int 1) δ=I (((c.map D.int).zip (c.map D.int).tail).map λp=> .tup [p.1,p.2],δ):=by
  have:mv (fR 1) (fQ<|fC<|.int 1) δ=I ((.tup (c.map D.int).tail,J),δ):=by rw[<-G1 (c.map D.int)];rfl
  unfold qG;rw[show gF 1 δ=I (enc c,δ) from H];simp[this,pK]
 have o:=M4 (f:=fU (kQ .Lt) (fQ<|gf (g1 ox) [fR 0])<|fQ<|gf (g1 ox) [fR 1]) x (λp v=>by have:=yf (R:=λa b:D=> ∃i j:Int,a= .int i/\b= .int j/\ab i<ab j) (l:=c.map D.int) (lZ.mpr<|(lZ.mp h.1).imp λ{a b} m=>⟨a,b,rfl,rfl,m⟩) p v;obtain⟨i,j,t,u,q⟩:=this;rw[t,u];refine(jO (Nm (ab i)<|ab j) (jE (b:=J)<|jC (a:= .int i) H (jV H).r).r (jE (b:=J)<|jC (a:= .int j) H (jV H).r).r).trans ?_;rw[kh q]) (by rw[mi];simp;lia)
 exact iG (δ:=δ) ⟨rfl,by decide,rfl⟩<|(gc<|(jJ<|(lb (δ1:=δ) H).trans<|jS<|iC k).trans H).trans<|gL<|je o
section
variable {n:Nat}{e A:iz}{c:gh}
abbrev dW(n:Nat)(e A:iz)(c:gh)(w:Wy)(a b d f:Sl):Dn:=[rS n e,lsC A,eN c,I (wyD w,J),a,b,d,f,C]
abbrev fW0:F:=fU gIx (fR 3)<|fQ<|fC<|.int 0
abbrev fW1:F:=fU gIx (fR 3)<|fQ<|fC<|.int 1
abbrev fB1:FT:=ly (hJ<|fT<|iN (qI [.tuple])<|fR 3)<|ly (fT<|fU (kQ .Lt) (fQ<|gf (g1 kz) [fR 3])<|fQ<|fC<|.int 2)<|fT<|fU kL (fQ fW0)<|fQ<|iP [fC<|.str "given",fC<|.str "met",fC<|.str "led",fC<|.str "wide"]
abbrev fB2:FT:=mx (fT<|fU gEq (fQ fW0)<|fQ<|fC<|.str "met")<|mx (fT<|fU gEq (fQ<|gf (g1 kz) [fR 3])<|fQ<|fC<|.int 4)<|fT<|gf (g1 mr) [fQ<|gE [] 1 (gw<|mv (fR 3)<|fQ<|fC<|.int 1) (fW 0) gK<|gx<|gb hC [fR 0]]
abbrev fB3:FT:=ly (fT<|fU gEq (fQ fW0)<|fQ<|fC<|.str "met")<|ly (hJ<|fT<|gb hC [fQ fW1])<|ly (fT<|fU (kQ .Lt) (fQ fW1)<|fQ<|fC<|.int 0)<|fT<|fU gNe (fQ<|gf (g1 kz) [fR 3])<|fQ<|fU jX (fQ<|fC<|.int 2)<|fQ<|gf (g1 Dk) [fQ<|fU gEq (fQ fW0)<|fQ<|fC<|.str "led"]
def PR{a:Dn}:iP [fC<|.str "given",fC<|.str "met",fC<|.str "led",fC<|.str "wide"] a=I ((.tup [.str "given",.str "met",.str "led",.str "wide"],J),a):=by show(if 4<=sizeLine then I ((D.tup [.str "given",.str "met",.str "led",.str "wide"],J),a) else C)=_;rw[gr<|rd<|by decide]
def b1(w:Wy)(d f g h:Sl):fB1 (dW n e A c w d f g h)=I (J,dW n e A c w d f g h):=by
 cases w with
 |gv m=>exact(lb (δ1:=dW n e A c _ d f g h) H).trans<|(lb (δ1:=dW n e A c _ d f g h) H).trans<|iC (o:=J)<|jO (a:= .str "given") H (jE (b:=J)<|jO H (jV H).r (jE H).r).r (jE PR).r
 |mt i j v=>exact(lb (δ1:=dW n e A c _ d f g h) H).trans<|(lb (δ1:=dW n e A c _ d f g h) H).trans<|iC (o:=J)<|jO (a:= .str "met") H (jE (b:=J)<|jO H (jV H).r (jE H).r).r (jE PR).r
 |wd m=>exact(lb (δ1:=dW n e A c _ d f g h) H).trans<|(lb (δ1:=dW n e A c _ d f g h) H).trans<|iC (o:=J)<|jO (a:= .str "wide") H (jE (b:=J)<|jO H (jV H).r (jE H).r).r (jE PR).r
abbrev fBm:FS:=fZ (CF (jv [fW 4,fW 5,fW 6])<|mv (fR 3)<|fQ<|fC<|.int 1)<|fZ (sIf (ly (hJ<|fT<|js .LtE .Lt (fQ<|fC<|.int 0) (fR 4)<|fQ<|gf (g1 kz) [fR 1])<|ly (hJ<|fT<|js .LtE .Lt (fQ<|fC<|.int 0) (fR 5)<|fQ<|gf (g1 kz) [fR 1])<|hJ<|fT<|js .LtE .LtE (fQ<|fC<|.int 1) (fR 6)<|fQ<|fU gIx (fR 0)<|fQ<|fC<|.int 0) (fZ (ip<|fC<|.bl J) gq) gq)<|fZ (iT 7<|gf (g1 mq) [fQ<|gf (g1 GQ) [fQ<|fU jX (fQ<|gE [6] 1 (gw<|fU gIx (fR 1)<|fR 4) (fW 1) (fT<|fU gNe (fR 1)<|fR 0)<|gx<|gF 1)<|fQ<|gE [6] 1 (gw<|fU gIx (fR 1)<|fR 5) (fW 1) (fT<|fU gNe (fR 1)<|fQ<|iN jW<|fR 0)<|gx<|gF 1]])<|fZ (ip<|oy (fU gIn (fR 6)<|fQ<|fU gIx (fR 1)<|fR 4)<|oy (fU gIn (fQ<|iN jW<|fR 6)<|fQ<|fU gIx (fR 1)<|fR 5)<|fU gEq (fR 7)<|fQ<|gf (g1 mf) [fR 2]) gq
abbrev rF:FS:=fZ (ip<|fC<|.bl J) gq
def b3{w:Wy}{z:aO}{m:Nat}(p:wyD w= .tup [.str z,.int m])(h1:gEq (.str z) (.str "met")=I (.bl J,J))(l:gEq (.str z) (.str "led")=I (.bl J,J))(d f g i:Sl):fB3 (dW n e A c w d f g i)=I (J,dW n e A c w d f g i):=by unfold dW;rw[p];have j: ∀δ:Dn,δ[3]?=I (I (.tup [.str z,.int m],J))->FJ (fQ fW0) δ (.str z):=λδ h=>jE (b:=J)<|jO H (jV h).r (jE H).r;have k: ∀δ:Dn,δ[3]?=I (I (.tup [.str z,.int m],J))->FJ (fQ fW1) δ (.int m):=λδ h=>jE (b:=J)<|jO H (jV h).r (jE H).r;refine(lb<|iC<|jO h1 (j _ rfl).r (jE H).r).trans ((lb<|jS<|iC<|jU1 (wy<|.int m)<|k _ rfl).trans<|(lb<|(iC<|jO (Nm _ _) (k _ rfl).r (jE H).r).trans<|by rw[kF (show ¬(m:Int)<0 by lia)]).trans<|iC (o:=J)<|jO (a:= .int 2) (b:= .int 2) H (jE (b:=J)<|jC H (jV H).r).r (jE (b:=J)<|jO (b:= .int 0) H (jE H).r (jE (b:=J)<|jC (a:= .bl J) H (jE<|jO l (j _ rfl).r (jE H).r).r).r).r)
def PJ{m:Nat}(h:e[m]?=I c):jY [(rD' n e,J),(.lst<|A.map cD,Y),enc c,(wyD<|.gv m,J)]=I ((.bl Y,J),[rS n e,lsC A,eN c,I (wyD<|.gv m,J)]):=by
 let δ:=dW n e A c (.gv m) C C C C
 have i:=(qc.mp h).1;have d:FJ (fQ fW1) δ (.int m):=jE (b:=J)<|jO H (jV H).r (jE H).r;have a:fU gIx (fR 0) (fQ<|fC<|.int 1) δ=I ((.tup<|e.map cD,J),δ):=jO H (jV H).r (jE H).r
 have f:fU (kQ .Lt) (fQ fW1) (fQ<|gf (g1 kz) [fQ<|fU gIx (fR 0)<|fQ<|fC<|.int 1]) δ=I ((.bl Y,J),δ):=by refine(jO (Nm _ _) d.r (jE (b:=J)<|jC (Kp _) (jE a).r).r).trans ?_;rw[iJ,kh<|by lia]
 have g:fU gEq (fQ<|fU gIx (fQ<|fU gIx (fR 0)<|fQ<|fC<|.int 1)<|fQ fW1) (fR 2) δ=I ((.bl Y,J),δ):=by refine(jO (Me c c) (jE (b:=J)<|jO (ixT<|by rw[iW,h];rfl) (jE a).r d.r).r (jV H).r).trans ?_;rw[kh H]
 exact iG (δ:=δ) ⟨rfl,by decide,rfl⟩<|(gc<|(jJ<|b1 _ C C C C).trans H).trans<|(gc<|(jJ (t:=fB2) (δ1:=δ) H).trans H).trans<|(gc<|(jJ<|b3 H H H C C C C).trans H).trans<|gL<|(mP (t:=fT<|fU gEq (fQ fW0)<|fQ<|fC<|.str "given") (δ1:=δ) H).trans<|gL<|je<|(pA f).trans g
def PF{m:Nat}{a:gh}(h:A[m]?=I a)(q:(Ls a)<=5)(o: ∀s∈a,s∈c):jY [(rD' n e,J),(.lst<|A.map cD,Y),enc c,(wyD<|.wd m,J)]=I ((.bl Y,J),[rS n e,lsC A,eN c,I (wyD<|.wd m,J)]):=by
 let δ:=dW n e A c (.wd m) C C C C
 have u:=(qc.mp h).1;have i:FJ (fQ fW1) δ (.int m):=jE (b:=J)<|jO H (jV H).r (jE H).r
 have j:fT (fU (kQ .GtE) (fQ fW1)<|fQ<|gf (g1 kz) [fR 1]) δ=I (J,δ):=by refine(iC<|jO (VL _ _) i.r (jE (b:=J)<|jC (BB<|A.map cD)<|jR H).r).trans ?_;rw[iJ,kF<|by lia]
 have k:gw (fU gIx (fR 1)<|fQ fW1) δ=I (a.map D.int,δ):=by unfold gw;rw[jO (ixL (l:=A.map cD)<|by rw[iW,h];rfl) (jR H) i.r];rfl
 have g:=wK (caps:=[2]) (f:=gF 1) (ti:=fT<|fU kL (fR 1)<|fR 0) (args:=[cD c]) (λd=>d) (λd=>!c.contains (iOf d)) k H H (λd hd=>by obtain⟨s,_,rfl⟩:=lj.mp hd;exact⟨iC<|jO (xE s c) (jV H).r (jV H).r,λ_=>⟨J,rfl⟩⟩) (by simp;lia)
 have r:((a.map D.int).filter λd=>!c.contains (iOf d)).map (λd=>d)=[]:=by rw[xJ,IJ];intro d hd;obtain⟨s,p,rfl⟩:=lj.mp hd;simpa[iOf] using o s p
 rw[r] at g;exact iG (δ:=δ) ⟨rfl,by decide,rfl⟩<|(gc<|(jJ<|b1 _ C C C C).trans H).trans<|(gc<|(jJ (t:=fB2) (δ1:=δ) H).trans H).trans<|(gc<|(jJ<|b3 H H H C C C C).trans H).trans<|(gc<|(jJ (t:=fT<|fU gEq (fQ fW0)<|fQ<|fC<|.str "given") (δ1:=δ) H).trans H).trans<|(gc<|(jJ j).trans H).trans<|gL<|(mP (t:=fT<|fU gEq (fQ fW0)<|fQ<|fC<|.str "wide") (δ1:=δ) H).trans<|gL<|je<|jO (GS []) (jE g).r (jE (b:=Y) H).r
end
def Hl{l m:gh}(h:l.Perm m):kd ltT (l.map D.int)=kd ltT (m.map D.int):=by refine Jk (λx y b c h1 a=>?_) (mX _) (mX _)<|(iw ltT _).trans<|(h.map _).trans (iw ltT _).symm;obtain⟨i,_,rfl⟩:=lj.mp<|(iw ltT<|l.map D.int).mem_iff.mp b;obtain⟨j,_,rfl⟩:=lj.mp<|(iw ltT<|m.map D.int).mem_iff.mp c;rw[IC a h1]
def Mk{c:gh}{v:Int}(h:(c.map ab).Pairwise (· < ·))(hv:v∈c){x:Int}:(x∈c/\x≠v)↔(x∈c/\ab x≠ab v):=
 ⟨λ⟨a,b⟩=>⟨a,λe=>b<|MT h a hv e⟩,λ⟨a,b⟩=>⟨a,λe=>b<|by rw[e]⟩⟩
def Ce{op op':cd}{a fb c:FO}{δ:Dn}{i j k:Int}(l:RJ a δ (.int i))(m:RJ fb δ (.int j))(n:RJ c δ (.int k))(h1:jr op i j=Y)(h:jr op' j k=Y):hJ (fT<|js op op' a fb c) δ=I (J,δ):=by obtain⟨o,a1,d⟩:=l;obtain⟨p,b1,e⟩:=m;obtain⟨q,f,g⟩:=n;refine jS (b:=Y)<|iC (o:=J) ?_;unfold js;rw[a1];simp only[iI];rw[b1];simp only[iI];rw[d,e];simp only[];rw[gr h1,f];simp only[iI];rw[g];simp only[];rw[h]
section
variable {n:Nat}{g A:iz}
def Uz{δ:Dn}{i k:Nat}{a:gh}{v u:Int}{fo:FO}(c:δ[1]?=I (lsC A))(hv:δ[6]?=I (ii v))(m:δ[i]?=I (ii k))(h:A[k]?=I a)(o:(Ls a)<=5)(j: ∀s,FJ fo [ii v,ii s]<|.int u):
  gE [6] 1 (gw<|fU gIx (fR 1)<|fR i) (fW 1) (fT<|fU gNe (fR 1) fo) (gx<|gF 1) δ=I ((.lst<|(a.filter λs=>!(s==u)).map D.int,Y),δ):=by
 have e:gw (fU gIx (fR 1)<|fR i) δ=I (a.map D.int,δ):=by unfold gw;rw[jO (ixL (l:=A.map cD)<|by rw[iW,h];rfl) (jR c) (jV m).r];rfl
 have b:=wK (caps:=[6]) (f:=gF 1) (ti:=fT<|fU gNe (fR 1) fo) (args:=[.int v]) (λd=>d) (λd=>!(iOf d==u)) e (by simp[hv]) H (λd hd=>by obtain⟨s,_,rfl⟩:=lj.mp hd;exact⟨iC<|jO (Tv s u) (jV H).r (j s).r,λ_=>⟨J,rfl⟩⟩) (by simp;lia)
 refine b.trans ?_;rw[xJ,AE];rfl
def PH{i j:Nat}{v:Int}{a b:gh}(w:A[i]?=I8 a)(y:A[j]?=I8 b)(m:v∈a)(o: -v∈b)(B:1<=v)(Q:v<=n)(E:Cl0 n a)(H:Cl0 n b)(hn:n<=5):
  jY [(rD' n g,K2),(.lst<|A.map cD,KE),enc<|oq a b v,(wyD<|.mt i j v,K2)]=I8 ((.bl KE,K2),[rS n g,lsC A,eN<|oq a b v,I8 (wyD<|.mt i j v,K2)]):=by
 have l1:=E.len;have l2:=H.len;have J:=(qc.mp w).1;have M:=(qc.mp y).1
 let c:=oq a b v
 let F:=a.filter (λs=>!(s==v))++b.filter (λs=>!(s== -v))
 have Z:F.length<=10:=by have h1:=rN (λs=>!(s==v)) a;have X:=rN (λs=>!(s== -v)) b;simp only[F,ky];lia
 have O:ab v=v:=by unfold ab;split<;>lia
 have W:ab (-v)=v:=by rw[kX,O]
 have I:(ddI F).Perm c:=by refine(List.perm_ext_iff_of_nodup (Ft _)<|Oo a b v).mpr λx=>?_;have f1:=Mk (x:=x) E.1 m;have f2:=Mk (x:=x) H.1 o;rw[O] at f1;rw[W] at f2;rw[Gw,DI,nO,zG,zG];simp only[ec,zh];rw[f1,f2];exact⟨λz=>z.elim (λq=>⟨.inl q.1,q.2⟩) λq=>⟨.inr q.1,q.2⟩,λ⟨p,q⟩=>p.elim (λz=> .inl ⟨z,q⟩) λz=> .inr ⟨z,q⟩⟩
 have lc:=I.length_eq;have ld:=GZ F
 let f:Dn:=dW n g A c (.mt i j v) J4 J4 J4 J4
 let δ1:Dn:=dW n g A c (.mt i j v) (ii i) (ii j) (ii v) J4
 let S:Sl:=I8 (.lst<|kd ltT<|(ddI F).map D.int,KE)
 let h:Dn:=dW n g A c (.mt i j v) (ii i) (ii j) (ii v) S
 have L: ∀x4 x5 x6 x7,mv (fR 3) (fQ<|fC<|.int 1) (dW n g A c (.mt i j v) x4 x5 x6 x7)=I8 ((.tup [.int i,.int j,.int v],K2),dW n g A c (.mt i j v) x4 x5 x6 x7):=λx4 x5 x6 x7=>by have:=G1 [.str "met",.int i,.int j,.int v];rw[show([.int i,.int j,.int v]:List D)=[D.str "met",.int i,.int j,.int v].tail from K3,<-this];rfl
 have V:fB2 f=I8 (KE,f):=by
  have e:gf (g1 mr) [fQ<|gE [] 1 (gw<|mv (fR 3)<|fQ<|fC<|.int 1) (fW 0) gK<|gx<|gb hC [fR 0]] f=I8 ((.bl KE,K2),f):=by refine(mz (caps:=[]) (l:=[.int i,.int j,.int v]) (args:=[]) wh (by unfold gw;rw[L];rfl) K3 K3 (λd _=>⟨K2,jU1 (wy d)<|jV K3⟩)<|by simp).trans rfl
  show(fT (fU gEq (fQ fW0)<|fQ<|fC<|.str "met") f).bind _=_;rw[show fT (fU gEq (fQ fW0)<|fQ<|fC<|.str "met") f=I8 (KE,f) from K3];show(fT (fU gEq (fQ<|gf (g1 kz) [fR 3])<|fQ<|fC<|.int 4) f).bind _=_;rw[show fT (fU gEq (fQ<|gf (g1 kz) [fR 3])<|fQ<|fC<|.int 4) f=I8 (KE,f) from K3];exact iC e
 have C: ∀{k:Nat} {p:Nat},k<Ls A->δ1[p]?=I8 (ii k)->hJ (fT<|js .LtE .Lt (fQ<|fC<|.int 0) (fR p)<|fQ<|gf (g1 kz) [fR 1]) δ1=I8 (K2,δ1):=λ{k p} hk G=>Ce (jE K3).r (jV G).r (jE (b:=K2)<|jC (BB<|A.map cD)<|jR K3).r (kh (by lia:(0:Int)<=k))<|kh (by rw[iJ];lia)
 have t:hJ (fT<|js .LtE .LtE (fQ<|fC<|.int 1) (fR 6)<|fQ<|fU gIx (fR 0)<|fQ<|fC<|.int 0) δ1=I8 (K2,δ1):=
  Ce (jE K3).r (jV K3).r (jE (b:=K2) (d:= .int n)<|jO K3 (jV K3).r (jE K3).r).r (kh B) (kh Q)
 have N:=Uz (δ:=δ1) (A:=A) (i:=4) (fo:=fR 0) (u:=v) K3 K3 K3 w (by lia) λs=>jV K3;have U:=Uz (δ:=δ1) (A:=A) (i:=5) (fo:=fQ<|iN jW<|fR 0) (u:= -v) K3 K3 K3 y (by lia) λs=>jE (b:=K2)<|jN (a:= .int v) K3 (jV K3).r
 have s1:GQ (.lst<|F.map D.int)=I8 (.oth .set []<|(ddI F).map D.int,KE):=by show(if(F.map D.int).all okI=KE/\(F.map D.int).length<500 then I8 (D.oth .set []<|nM<|F.map D.int,KE) else J4)=_;rw[gr ⟨nB _,by rw[iJ];lia⟩,Ir]
 have K:mq (.oth .set []<|(ddI F).map D.int)=I8 (.lst<|kd ltT<|(ddI F).map D.int,KE):=by show(if((ddI F).map D.int).all okI=KE then iK ((ddI F).map D.int) else J4)=_;rw[gr<|nB _];unfold iK;rw[gr ⟨qt _,by rw[jB,iJ];lia⟩]
 have Y:fU jX (fQ<|gE [6] 1 (gw<|fU gIx (fR 1)<|fR 4) (fW 1) (fT<|fU gNe (fR 1)<|fR 0)<|gx<|gF 1) (fQ<|gE [6] 1 (gw<|fU gIx (fR 1)<|fR 5) (fW 1) (fT<|fU gNe (fR 1)<|fQ<|iN jW<|fR 0)<|gx<|gF 1) δ1=I8 ((.lst<|F.map D.int,KE),δ1):=by refine(jO (Sm (by rw[iJ];have:=rN (λs=>!(s==v)) a;lia) (by rw[iJ];have:=rN (λs=>!(s== -v)) b;lia)) (jE N).r (jE U).r).trans ?_;rw[<-lB]
 have P:mf (cD c)=I8 (.lst<|kd ltT<|(ddI F).map D.int,KE):=by rw[Hl I];show iK (c.map D.int)=_;unfold iK;rw[gr ⟨qt _,by rw[jB,iJ];lia⟩]
 have R:fU gEq (fR 7) (fQ<|gf (g1 mf) [fR 2]) h=I8 ((.bl KE,K2),h):=by obtain⟨k,e⟩:=uU<|iw ltT<|(ddI F).map D.int;refine(jO (a:= .lst (kd ltT<|(ddI F).map D.int)) ?_ (jR K3) (jE<|jC P (jV K3).r).r);rw[e,Ai,kh K3]
 have g1:fU gIn (fR 6) (fQ<|fU gIx (fR 1)<|fR 4) h=I8 ((.bl KE,K2),h):=by refine(jO (GO v a) (jV K3).r (jE (b:=K2)<|jO (ixL (l:=A.map cD)<|by rw[iW,w];rfl) (jR K3) (jV K3).r).r).trans ?_;rw[show a.contains v=KE by simpa using m]
 have g2:fU gIn (fQ<|iN jW<|fR 6) (fQ<|fU gIx (fR 1)<|fR 5) h=I8 ((.bl KE,K2),h):=by refine(jO (GO (-v) b) (jE (b:=K2)<|jN (a:= .int v) K3 (jV K3).r).r (jE (b:=K2)<|jO (ixL (l:=A.map cD)<|by rw[iW,y];rfl) (jR K3) (jV K3).r).r).trans ?_;rw[show b.contains (-v)=KE by simpa using o]
 have T:fBm f=I8 (.rt (.bl KE,K2) h):=by refine(gc (δ1:=δ1) ?_).trans ((gc<|(jJ<|(lb<|C J K3).trans<|(lb<|C M K3).trans t).trans K3).trans<|(gc<|iL (i:=7) (jC K (jE<|jC s1 (jE Y).r).r) (show 7<9 by decide)).trans<|gL<|je<|(pA g1).trans<|(pA g2).trans R);show(mv (fR 3) (fQ<|fC<|.int 1) f).bind _=_;rw[L];rfl
 exact iG (δ:=h) ⟨rfl,by decide,rfl⟩<|(gc<|(jJ<|b1 _ J4 J4 J4 J4).trans K3).trans<|gL<|(mP V).trans T
end
abbrev fsg:F:=fU gIx (fQ<|jL [fC<|.int 1,iN jW<|fQ<|fC<|.int 1])<|fQ<|gb gz [fR 0,fQ<|fC<|.int 2]
def Kc(a:Int)(b:Bool): ∃(s c:Int),(s=1\/s= -1)/\ ∀δ:Dn,fsg (stt a b::δ)=I ((.int s,J),stt c b::δ):=by obtain⟨v,c,d,f,e⟩:=qX a b 2 (by lia) (by lia);refine⟨if v=0 then 1 else -1,c,by split<;>simp,λδ=>?_⟩;refine jQ (o1:= .val (.lst [.int 1,.int (-1)],Y)) (δ1:=stt a b::δ) H (gC<|e _ δ _ rfl rfl) H H ?_;rcases(show v=0\/v=1 by lia) with rfl|rfl<;>rfl
def Pj{x s:Int}(h:s=1\/s= -1): ∃y,(y=x\/y= -x)/\nF (.int x) (.int s)=ii y:=by
 rcases h with rfl|rfl
 .exact⟨x,.inl H,Ud x⟩
 .exact⟨-x,.inr H,Uc x⟩
abbrev tiC:FT:=fT<|fU gEq (fQ<|gb gz [fR 0,fQ<|fC<|.int 2])<|fQ<|fC<|.int 0
theorem Pt(b:Bool): ∀(m j:Nat) (a:Int) (c:gh) (x:Sl),1<=j->CA j c->Ls c+m<=10-> ∃f d i,CA (j+m:Nat) d/\(Ls d)<=10/\jq (fW 1) tiC (gx<|fU nF (fR 1)<|fQ fsg) ((cP j m).map λ(k:Nat)=>D.int (k:Int)) (c.map .int) [stt a b,x]=I (d.map .int,[stt f b,i])
 |0,j,a,c,x,_,l,t=>⟨a,c,x,by simpa using l,by lia,rfl⟩
 |m+1,j,a,c,x,E,l,t=>by
  obtain⟨v,a1,T,U,n⟩:=qX a b 2 (by lia) (by lia)
  have Q:tiC [stt a b,ii j]=I (v==0,[stt a1 b,ii j]):=
   iC (o:=J) (jQ (o1:= .val (.int v,J)) (δ1:=[stt a1 b,ii j]) (o2:= .val (.int 0,J)) (gC<|n _ [ii j] _ rfl rfl) H H H<|Kr _ _)
  rw[jp,iR]
  have st: ∀(g:Int) (h:gh),CA (j+1:Nat) h->Ls h+m<=10->(if(v==0)=Y then gx (fU nF (fR 1)<|fQ fsg) (c.map .int) [stt a1 b,ii j] else I (c.map .int,[stt a1 b,ii j]))=I (h.map .int,[stt g b,ii j])->
    ∃f d i,CA (j+(m+1):Nat) d/\(Ls d)<=10/\jq (fW 1) tiC (gx<|fU nF (fR 1)<|fQ fsg) (D.int j::(cP (j+1) m).map λ(k:Nat)=>D.int (k:Int)) (c.map .int) [stt a b,x]=I (d.map .int,[stt f b,i]):=λg h h1 r e=>by
   obtain⟨f,d,i,z,A,B⟩:=Pt b m (j+1) g h (ii j) (by lia) h1 r;refine⟨f,d,i,by rw[show j+(m+1)=j+1+m by lia];exact z,A,?_⟩;rw[jq,show fW 1 (.int j) [stt a b,x]=I [stt a b,ii j] from H];simp only[iI];rw[Q];simp only[iI];rw[e];exact B
  by_cases hv:v=0
  .obtain⟨s,g,u,p⟩:=Kc a1 b;obtain⟨y,w,q⟩:=Pj (x:=j) u;refine st g (c++[y]) (by have:=l.snoc (s:=y) (by rcases w with rfl|rfl;exact FP (by lia);exact FQ<|by lia) (by lia);simpa using this) (by simp;lia) ?_;rw[hv,gr (show((0:Int)==0)=Y from H),rh,jQ (o1:= .slot 1) (δ1:=[stt a1 b,ii j]) H (gC<|p [ii j]) H H q];simp only[iI];rw[gr<|qZ<|by simp;lia];simp
  .refine st a1 c (by simpa using l.up) (by lia) ?_;rw[gD<|by simpa using hv]
def Hx(n:Nat):ig 1 n=(cP 1 n).map λ(k:Nat)=>D.int (k:Int):=by unfold ig;rw[List.range'_eq_map_range,jI];exact qe λk _=>by simp
def yW(a:Int)(b:Bool)(n:Nat)(h1:1<=n)(E:n<=5): ∃t c,ClOk n c/\ik [pS a b,pI n]=I (enc c,[stt t b,ii n]):=by
 obtain⟨a1,c,x,p,T,u⟩:=Pt b n 1 a [] C (by lia) ⟨by simp,by simp⟩ (by simp;lia)
 have Q:zt (fQ<|fC<|.int 1) (fQ<|fU jX (fR 1)<|fQ<|fC<|.int 1) [stt a b,ii n,C]=I ((cP 1 n).map λ(k:Nat)=>D.int (k:Int),[stt a b,ii n,C]):=by rw[GN (o1:= .val (.int 1,J)) (o2:= .val (.int<|(n:Int)+1,J)) (i:=1) (j:=(n:Int)+1) H H H H (by lia)<|by lia,show((n:Int)+1-1).toNat=n by lia,Hx]
 have pre: ∀g,fZ (iT 2<|gE [0] 1 (zt (fQ<|fC<|.int 1)<|fQ<|fU jX (fR 1)<|fQ<|fC<|.int 1) (fW 1) tiC<|gx<|fU nF (fR 1)<|fQ fsg) g [stt a b,ii n,C]=g [stt a1 b,ii n,lsi c]:=λg=>gc<|iL (i:=2) (δ1:=[stt a1 b,ii n,C]) ((nI (caps:=[0]) (args:=[pS a b]) Q H (nd1 0) u).trans H) (show 2<3 by decide)
 have f:fT (fU gEq (fR 2)<|fQ<|jL []) [stt a1 b,ii n,lsi c]=I (decide<|c=[],[stt a1 b,ii n,lsi c]):=
  iC (o:=J) (jQ (o1:= .slot 2) (o2:= .val (.lst [],Y)) (δ2:=[stt a1 b,ii n,lsi c]) H (gC<|by simp[jB]) H H<|Ai c [])
 by_cases e:c=[]
 .obtain⟨i,m,U,L,v⟩:=qX a1 b n (by lia) (by lia);obtain⟨s,d,l,w⟩:=Kc m b;obtain⟨y,B,A⟩:=Pj (x:=1+i) l;have h:ab y=1+i:=by rcases B with rfl|rfl;exact FP (by lia);exact FQ (by lia)
  refine⟨d,[y],⟨by simp,by simp,λz q=>by simp at q;subst q;rw[h];lia⟩,?_⟩;refine iG (δ:=[stt d b,ii n,lsi [y]]) ⟨rfl,by decide,rfl⟩<|(pre _).trans ?_;rw[e] at f;rw[e];refine(gc<|(mP f).trans<|(gc (δ1:=[stt d b,ii n,lsi [y]])<|iL (i:=2) (δ1:=[stt d b,ii n,lsi []]) (r:=(.lst [.int y],Y)) ?_ (show 2<3 by decide)).trans H).trans (gL<|je<|jC (a:= .lst [.int y]) H<|jR H);refine GU (os:=[.val (.int y,J)]) (pz<|gC<|jQ (o1:= .val (.int (1+i),J)) (δ1:=[stt m b,ii n,lsi []]) (gC<|jQ (o1:= .val (.int 1,J)) (δ1:=[stt a1 b,ii n,lsi []]) H (gC<|v _ [ii n,lsi []] (.slot 1) rfl rfl) H H<|TF _ _) (gC<|w [ii n,lsi []]) H H A) H<|rd (by simp)
 .refine⟨a1,c,⟨e,p.1,λs l=>by have:=p.2 s l;lia⟩,?_⟩;refine iG (δ:=[stt a1 b,ii n,lsi c]) ⟨rfl,by decide,rfl⟩<|(pre _).trans ?_;rw[kF e] at f;exact(gc<|(jJ f).trans H).trans (gL<|je<|jC (a:= .lst (c.map D.int)) H<|jR H)
noncomputable def dC(cs:iz):D:= .oth .dct (cs.map cD) (cs.map λ_=> .bl Y)
theorem Ae: ∀l:List Int,(De<|l.map .int).isSome=Y
 |[]=>rfl
 |x::l=>by
  have:=Ae l;simp only[iR,De,zr]
  cases h:De (l.map D.int) with
  |none=>rw[h] at this;cases this
  |some k=>rfl
def GJ(c:gh):(BN<|cD c).isSome=Y:=Ae c
def Oy(a:iz):((a.map cD).all λk=>(BN k).isSome)=Y:=by rw[lO];intro d hd;obtain⟨c,_,rfl⟩:=lj.mp hd;exact GJ c
def Dd(a:iz)(c:gh):uR (a.map cD) (cD c)=Y:=by unfold uR;rw[GJ,Oy];simp
theorem Kh(c:gh): ∀a:List (List Int),si (a.map cD) (a.map λ_=> .bl Y) (cD c) (.bl Y)=a.map λ_=> .bl Y
 |[]=>rfl
 |x::a=>by simp[si,Kh c a]
def QM(a:iz)(c:gh):D.oth .dct (rM (a.map cD) (a.map λ_=> .bl Y) (cD c)<|.bl Y).1 (rM (a.map cD) (a.map λ_=> .bl Y) (cD c)<|.bl Y).2=dC (wO a c):=by
 unfold rM wO dC;rw[Sg];by_cases h:c∈a
 .rw[gr<|by simpa using h,gr h,Kh]
 .rw[gD<|by simpa using h,gD h];simp
theorem GB(c:gh): ∀a:List (List Int),(lD (a.map cD) (a.map λ_=> .bl Y)<|cD c).isSome=decide (c∈a)
 |[]=>rfl
 |x::a=>by
  simp only[iR,lD,B7];by_cases h:x=c
  .simp[h]
  .have: ¬c=x:=λe=>h e.symm;simp[h,this,GB c a]
def HS(c:gh)(cs:iz):rC (cD c) (dC cs)=I (.bl (!decide (c∈cs)),J):=by show(if uR (cs.map cD) (cD c)=Y then I (D.bl (!(lD (cs.map cD) (cs.map λ_=>D.bl Y)<|cD c).isSome),J) else C)=_;rw[gr<|Dd cs c,GB]
def CsOk.add{n:Nat}{a:iz}{c:gh}(h:CsOk n a)(b:ClOk n c):CsOk n (wO a c):=by
 unfold wO;split
 .exact h
 .exact h.snoc b (by assumption)
def GX{i:Nat}{f:F}{g:FO}{a δ1 δ2:Dn}{o:Opd}{x:D×Bool}{b:Bool}{cs:iz}{c:gh}(h1:f a=I ((.bl Y,b),δ1))(d:δ1[i]?=I (I x))(e:g δ1=I (o,δ2))(h:res δ2 o=I (cD c))(j:δ2[i]?=I (I (dC cs,Y)))(k:(Ls cs)<10000):wW i f g a=I (.nx<|δ2.set i<|I (dC<|wO cs c,Y)):=by unfold wW;rw[h1];simp only[iI];rw[d];simp only[];rw[e];simp only[iI];rw[h,j];unfold dC;simp only[];rw[gr ⟨Dd cs c,by simpa using k⟩,QM];rfl
abbrev fbD:FS:=fZ (wW 3 (fC<|.bl Y)<|fQ<|gb ik [fR 0,fR 1]) gq
def RZ(a:Int)(b:Bool){n:Nat}(h1:1<=n)(j:n<=5){d:iz}(k:CsOk n d)(f g:Sl): ∃h l,CsOk n l/\fbD [stt a b,ii n,f,I (dC d,Y),g,C,C,C]=I (.nx [stt h b,ii n,f,I (dC l,Y),g,C,C,C]):=by
 obtain⟨h,c,o,e⟩:=yW a b n h1 j;refine⟨h,wO d c,k.add o,(gc (δ1:=[stt h b,ii n,f,I (dC<|wO d c,Y),g,C,C,C]) ?_).trans H⟩
 have m:fQ (gb ik [fR 0,fR 1]) [stt a b,ii n,f,I (dC d,Y),g,C,C,C]=I (.val<|enc c,[stt h b,ii n,f,I (dC d,Y),g,C,C,C]):=
  gC (iu (δ1:=[stt a b,ii n,f,I (dC d,Y),g,C,C,C]) (os:=[.slot 0,.slot 1]) (args:=[pS a b,pI n]) H H (nd1 0) e)
 exact GX (i:=3) (b:=J) H H m H H (by have:=k.len j;lia)
def V9(b:Bool){n:Nat}(h1:1<=n)(q:n<=5)(f:Sl)(l:List D)(a:Int)(cs:iz)(c:Sl)(o:CsOk n cs): ∃i g m,CsOk n g/\pT (fW 4) fbD l [stt a b,ii n,f,I (dC cs,Y),c,C,C,C]=I (.nx [stt i b,ii n,f,I (dC g,Y),m,C,C,C]):=by
 obtain⟨s,⟨i,g,m,k,rfl⟩,e⟩:=rE (fb:=fbD) (tg:=fW 4) (λ_ δ=> ∃a cs c,CsOk n cs/\δ=[stt a b,ii n,f,I (dC cs,Y),c,C,C,C]) (λd l δ h=>by obtain⟨a,cs,c,o,rfl⟩:=h;obtain⟨a1,j,r,p⟩:=RZ a b h1 q o f<|I (d,J);exact⟨_,_,rfl,p,a1,j,_,r,rfl⟩) l _ ⟨a,cs,c,o,rfl⟩
 exact⟨i,g,m,k,e⟩
abbrev ftF:FT:=fT<|fU gNe (fR 6)<|fQ<|jL []
abbrev fbF:FS:=fZ (iT 7<|gb iA [fQ<|PX.fPop 6,fR 5])<|fZ (sIf (fT<|fU rC (fR 7)<|fR 3) (fZ (wW 3 (fC<|.bl Y)<|fR 7)<|fZ (jZ<|jo 6<|gF 7) gq) gq) gq
def GR(fs:iz):gNe (.lst<|fs.map cD) (.lst [])=I (.bl (!decide (fs=[])),J):=by unfold gNe;rw[gr ⟨GY fs,by decide⟩];cases fs<;>simp[D.eqb,D.eqbL]
def RY{n:Nat}(m:n<=5){t:gh}(q:TT n t){cs fs:iz}{c:gh}(p:CsOk n cs)(v:(Ls fs)<=1000)(s:ClOk n c)(a d f g j:Sl):
  fbF [a,d,f,I (dC cs,Y),g,eN t,lsC<|fs++[c],j]=I (.nx [a,d,f,I (dC<|wO cs<|lc t c,Y),g,eN t,lsC (if lc t c∈cs then fs else fs++[lc t c]),eN<|lc t c]):=by
 obtain⟨_,e,rfl⟩:=RC m q s
 have u:fQ (PX.fPop 6) [a,d,f,I (dC cs,Y),g,eN t,lsC<|fs++[c],j]=I (.val<|enc c,[a,d,f,I (dC cs,Y),g,eN t,lsC fs,j]):=by refine gC ?_;unfold PX.fPop;simp[lsC]
 refine(gc (δ1:=[a,d,f,I (dC cs,Y),g,eN t,lsC fs,eN<|lc t c])<|iL (i:=7) (δ1:=[a,d,f,I (dC cs,Y),g,eN t,lsC fs,j]) (iu (δ1:=[a,d,f,I (dC cs,Y),g,eN t,lsC fs,j]) (os:=[.val<|enc c,.slot 5]) (args:=[enc c,enc t]) (mI u H) H (by simp[gG]) e) (show 7<8 by decide)).trans ?_
 have k:fT (fU rC (fR 7)<|fR 3) [a,d,f,I (dC cs,Y),g,eN t,lsC fs,eN<|lc t c]=I (!decide (lc t c∈cs),[a,d,f,I (dC cs,Y),g,eN t,lsC fs,eN<|lc t c]):=
  iC (jO (HS _ _) (jV H).r<|jR H)
 by_cases h:lc t c∈cs
 .rw[kh h] at k;refine(gc<|(jJ k).trans H).trans ?_;rw[gr h,show wO cs (lc t c)=cs from gr h];rfl
 .rw[kF h] at k;refine(gc (δ1:=[a,d,f,I (dC<|wO cs<|lc t c,Y),g,eN t,lsC<|fs++[lc t c],eN<|lc t c])<|(mP k).trans<|(gc (δ1:=[a,d,f,I (dC<|wO cs<|lc t c,Y),g,eN t,lsC fs,eN<|lc t c]) ?_).trans<|(ue (i:=6) (l0:=fs.map cD) (l:=fs.map cD) (r:=enc<|lc t c) (δ1:=[a,d,f,I (dC<|wO cs<|lc t c,Y),g,eN t,lsC fs,eN<|lc t c]) H H H<|by simp;lia).trans ?_).trans ?_
  .exact GX (i:=3) (b:=J) (o:= .slot 7) (cs:=cs) (δ1:=[a,d,f,I (dC cs,Y),g,eN t,lsC fs,eN<|lc t c]) (δ2:=[a,d,f,I (dC cs,Y),g,eN t,lsC fs,eN<|lc t c]) H H H H H (by have:=p.len m;lia)
  .simp[lsC]
  .rw[gD h];rfl
theorem JO{n:Nat}(v:n<=5){t:gh}(w:TT n t)(d f g i:Sl): ∀(a:Nat) (cs fs:iz) (j:Sl),CsOk n cs->(∀c∈fs,ClOk n c)->Ls fs<=500->2*(243-Ls cs)+Ls fs<a-> ∃p s r,CsOk n p/\lU ftF fbF a [d,f,g,I (dC cs,Y),i,eN t,lsC fs,j]=I (.nx [d,f,g,I (dC p,Y),i,eN t,s,r])
 |0,_,_,_,_,_,_,h=>by lia
 |a+1,cs,fs,j,u,hf,U,h=>by
  have l:ftF [d,f,g,I (dC cs,Y),i,eN t,lsC fs,j]=I (!decide (fs=[]),[d,f,g,I (dC cs,Y),i,eN t,lsC fs,j]):=
   iC (o:=J) (jQ (o1:= .slot 6) (o2:= .val (.lst [],Y)) (δ2:=[d,f,g,I (dC cs,Y),i,eN t,lsC fs,j]) H (gC<|by simp[jB]) H H<|GR fs)
  by_cases b:fs=[]
  .rw[kh b] at l;exact⟨cs,_,j,u,M9 l⟩
  .rw[kF b] at l;have e:=DL b;have y:(Ls fs.dropLast)+1=(Ls fs):=by rw[Eh];have:=JH.mpr b;lia
   have A:=hf _ (j2 b);have b1:=RY v w u (fs:=fs.dropLast) (by lia) A d f g i j;rw[e] at b1;have x:=Ui w A;have B:=u.add x;have m:=B.len v
   obtain⟨p,s,r,T,E⟩:=JO v w d f g i a _ (if lc t (fs.getLast b)∈cs then fs.dropLast else fs.dropLast++[lc t<|fs.getLast b]) (eN<|lc t<|fs.getLast b) B (λc k=>by
    have dl: ∀c∈fs.dropLast,ClOk n c:=λc k=>hf c<|IL _ k;split at k
    .exact dl c k
    .rcases nO.mp k with z|z
     .exact dl c z
     .cases zf.mp z;exact x) (by split<;>simp<;>lia) (by
    unfold wO at m ⊢;split
    .rename_i q;simp only[q,jb] at m ⊢;lia
    .rename_i q;simp only[q,jh] at m ⊢;simp at m ⊢;lia)
   exact⟨p,s,r,T,(M8 l b1).trans E⟩
def VZ(cs:iz)(a:(Ls cs)<=243){k:Int}(h:k=0\/k=1): ∃fs:List (List Int),(∀c∈fs,c∈cs)/\(Ls fs)<=243/\Dj (.lst<|cs.map cD) (.int k)=I (.lst<|fs.map cD,Y):=by
 have b:=rd (n:=243) (by decide);rcases h with rfl|rfl
 .refine⟨[],by simp,by simp,?_⟩;show(if(0:Int)<=0/\(0:Int)<1000/\(cs.map cD).length*0<=sizeLine then I (D.lst (ac 0<|cs.map cD).flatten,Y) else C)=_;rw[gr ⟨by decide,by decide,by simp⟩];rfl
 .refine⟨cs,λ_ h=>h,a,?_⟩;show(if(0:Int)<=1/\(1:Int)<1000/\(cs.map cD).length*1<=sizeLine then I (D.lst (ac 1<|cs.map cD).flatten,Y) else C)=_;rw[gr ⟨by decide,by decide,by simp;exact lh a b⟩];simp
def EI(a:Int)(b:Bool)(n:Nat)(f:n<=5): ∃I' d,wQ n d/\kT [pS a b,pI n]=I ((rD' n d,K2),[stt I' b,ii n]):=by
 have E: ∀δ:Dn,fT (fU gEq (fR 1)<|fQ<|fC<|.int 0) (stt a b::ii n::δ)=I (decide<|(n:Int)=0,stt a b::ii n::δ):=λδ=>iC (o:=K2)<|jO ((Kr _ _).trans<|by rw[xH]) (jV K3).r (jE K3).r
 by_cases S:n=0
 .subst S;refine⟨a,[],⟨by lia,⟨by simp,by simp⟩,aU,by simp⟩,?_⟩;refine iG (δ:=[stt a b,ii (0:Nat),J4,J4,J4,J4,J4,J4]) ⟨rfl,by decide,rfl⟩<|gL<|(mP<|E _).trans<|gL<|je ?_;exact xi (a:=(.int 0,K2)) (b:=(.tup [],K2)) K3 (by simp)
 .have V:1<=n:=by lia
  obtain⟨u,a1,W,X,Q⟩:=qX a b 3 (by lia) (by lia)
  let p:List Int:=[3,5,12]
  let m:=p.getD u.toNat 0
  have hm:0<m/\m<=12:=by rcases(show u=0\/u=1\/u=2 by lia) with rfl|rfl|rfl<;>decide
  obtain⟨q,B,q0,q1,T⟩:=qX a1 b (m+1) (by lia) (by lia);obtain⟨s,rfl⟩: ∃s:Nat,q=s:=⟨q.toNat,by lia⟩
  obtain⟨w,cs,e,x,G⟩:=V9 b V f (ii m) (ig 0 s) B [] J4 ⟨by simp,by simp⟩;obtain⟨g,t,A,J⟩:=Ey w b n f;have A:=Nc A;obtain⟨v,j,v0,v1,M⟩:=qX g b 2 (by lia) (by lia);have Z:=x.len f;obtain⟨fs,F,P,N⟩:=VZ cs Z (k:=if v=0 then 1 else 0) (by split<;>simp);obtain⟨y,L,O,l,U⟩:=JO f A (stt j b) (ii n) (ii m) e UP cs fs J4 x (λc h=>x.2 c<|F c h) (by lia) (by show _<100000;lia);have z:=l.len f;obtain⟨d,C,R,Y⟩:=F7 (cs:=y) (zN _ λc K=>(l.2 c K).1) (by lia);have hk:CsOk n d:=⟨C.symm.nodup l.1,λc h=>l.2 c<|C.mem_iff.mp h⟩
  refine⟨j,d.take 30,⟨f,hk.take 30,R.take 30,by rw[qb];lia⟩,?_⟩;refine iG (δ:=[stt j b,ii n,ii m,I (dC y,KE),e,eN t,L,O]) ⟨rfl,by decide,rfl⟩ ?_;have H:=E [J4,J4,J4,J4,J4,J4];rw[kF (show ¬(n:Int)=0 by lia)] at H;refine(gc<|(jJ H).trans K3).trans ?_;refine(gc<|iL (i:=2) (δ1:=[stt a1 b,ii n,J4,J4,J4,J4,J4,J4]) (jQ (o1:= .val (.lst<|p.map .int,KE)) (o2:= .val (.int u,K2)) (gC (δ1:=[stt a b,ii n,J4,J4,J4,J4,J4,J4])<|by simp[p,jB]) (gC<|Q _ [ii n,J4,J4,J4,J4,J4,J4] _ rfl rfl) K3 K3<|V1 W<|by simpa[p] using X) (show 2<8 by decide)).trans ?_;refine(gc (δ1:=[stt a1 b,ii n,ii m,I (dC [],KE),J4,J4,J4,J4]) K3).trans ?_;refine(gc<|(nW<|ph (o:= .val (.int s,K2)) (δ1:=[stt B b,ii n,ii m,I (dC [],KE),J4,J4,J4,J4]) (gC<|T _ [ii n,ii m,I (dC [],KE),J4,J4,J4,J4] (.val (.int<|m+1,K2)) rfl rfl) K3<|by lia).trans G).trans ?_;refine(gc<|iL (i:=5) (δ1:=[stt g b,ii n,ii m,I (dC cs,KE),e,J4,J4,J4]) (iu (δ1:=[stt w b,ii n,ii m,I (dC cs,KE),e,J4,J4,J4]) (os:=[.slot 0,.slot 1]) (args:=[pS w b,pI n]) K3 K3 (nd1 0) J) (show 5<8 by decide)).trans ?_;refine(gc<|iL (i:=6) (δ1:=[stt j b,ii n,ii m,I (dC cs,KE),e,eN t,J4,J4]) (jQ (o1:= .val (.lst<|cs.map cD,KE)) (o2:= .val (.int (if v=0 then 1 else 0),K2)) (δ1:=[stt g b,ii n,ii m,I (dC cs,KE),e,eN t,J4,J4]) K3 (gC<|jQ (o1:= .val (.lst [.int 1,.int 0],KE)) (δ1:=[stt g b,ii n,ii m,I (dC cs,KE),e,eN t,J4,J4]) K3 (gC<|M _ [ii n,ii m,I (dC cs,KE),e,eN t,J4,J4] _ rfl rfl) K3 K3 ?_) K3 K3 N) (show 6<8 by decide)).trans ?_
  .rcases(show v=0\/v=1 by lia) with rfl|rfl<;>rfl
  refine(gc U).trans (gL<|je<|xi (a:=(.int n,K2)) (b:=(.tup<|(d.take 30).map cD,K2)) K3<|jC (a:= .lst ((d.take 30).map cD)) K3 (jE (b:=KE) ?_).r);have D:uV (dC y)=I (.lst<|d.map cD,KE):=Y;unfold nH;rw[gC<|jC D<|jR K3];simp only[iI,Qf,VQ,Qd];rw[show gSl J4 (I 30) (.lst<|d.map cD)=I (.lst<|PX.An (d.map cD) J4<|I ((30:Nat):Int),KE) from K3,Fv,AF];rfl
def Pu(n:Nat):List (List Int):=(ai (2^n)).map λ(k:Nat)=>(ai n).map λ(j:Nat)=>bQ ((k:Int) / 2^(n-1-j)) 1
def IE: ∀n:Nat,n<6->Pu n=kg n:=by decide+kernel
def Ha{n:Nat}(f:n<=5):kj [pI n]=I ((.lst<|(kg n).map cD,Y),[ii n]):=by
 have p: ∀k:Nat,k<=5->RO (.int 1) (.int k)=ii (2^k:Nat):=by
  intro k hk;have:k=0\/k=1\/k=2\/k=3\/k=4\/k=5:=by lia
  have i:vz 1 (k:Int):=by rcases this with rfl|rfl|rfl|rfl|rfl|rfl<;>(unfold vz;decide+kernel)
  show((if vz 1 (k:Int) then I (D.int (1*2^(k:Int).toNat)) else C).map λz=>(z,J))=_;rw[gr i];simp
 have h:=HG f;have g: ∀(m:Nat),ig 0 m=(ai m).map λ(k:Nat)=>D.int (k:Int):=λm=>by unfold ig;simp
 have c: ∀k:Nat,gf (g1 km) [fQ<|gE [1,0] 1 (uT<|fR 0) (fW 2) gK<|gx<|fU Mh (fQ<|fU RN (fR 0)<|fQ<|fU gSub (fQ<|fU gSub (fR 1)<|fQ<|fC<|.int 1)<|fR 2)<|fQ<|fC<|.int 1] (frz [.int n]++[ii k])=I ((cD<|(ai n).map λ(j:Nat)=>bQ ((k:Int) / 2^(n-1-j)) 1,J),frz [.int n]++[ii k]):=λk=>by
  refine jC (a:= .lst (((ai n).map λ(j:Nat)=>bQ ((k:Int) / 2^(n-1-j)) 1).map D.int)) H (jE (b:=Y) ?_).r;refine(ug (caps:=[1,0]) (args:=[.int k,.int n]) (l:=(ai n).map λ(j:Nat)=>D.int (j:Int)) (δ1:=frz [.int n]++[ii k]) (λd=> .int (bQ ((k:Int) / 2^(n-1-(iOf d).toNat)) 1)) ?_ H H (λd hd=>?_)<|by simp;lia).trans ?_
  .rw[ph (n:=n) (o:= .slot 0) H H<|by lia,g]
  .obtain⟨j,e,rfl⟩:=lj.mp hd;have e:=xm.mp e;refine⟨J,jO (a:= .int ((k:Int) / 2^(n-1-j))) H (jE (b:=J)<|jO ?_ (jV (d:= .int k) H).r (jE (b:=J)<|jO (Ko _ _) (jE (b:=J)<|jO (Ko _ _) (jV (d:= .int n) H).r (jE H).r).r (jV (d:= .int j) H).r).r).r (jE H).r⟩;show((if(0:Int)<=(n:Int)-1-j then I (D.int<|(k:Int) / 2^((n:Int)-1-j).toNat) else C).map λz=>(z,J))=_;rw[gr<|by lia,show((n:Int)-1-j).toNat=n-1-j by lia];rfl
  .rw[jI,jI];rfl
 refine Ht (δ:=[ii n]) ⟨rfl,by decide,rfl⟩<|(ug (caps:=[0]) (args:=[.int n]) (l:=(ai (2^n)).map λ(k:Nat)=>D.int (k:Int)) (δ1:=[ii n]) (λd=>cD<|(ai n).map λ(j:Nat)=>bQ (iOf d / 2^(n-1-j)) 1) ?_ H H (λd hd=>?_)<|by simp;lia).trans ?_
 .refine(ph (n:=2^n) (o:= .val (.int (2^n:Nat),J)) (gC<|jO (p n f) (jE H).r (jV H).r) H<|by lia).trans ?_;rw[g];rfl
 .obtain⟨k,_,rfl⟩:=lj.mp hd;exact⟨J,c k⟩
 .rw[<-IE n (by lia),Pu,jI,jI];rfl
def UH(c:gh):(cD c).dep<=50:=by rw[qM];decide
def no{t:FT}{f:FS}{δ:Dn}(g:FS)(h:t δ=I (J,δ)):fZ (sIf t f gq) g δ=g δ:=gc<|(jJ h).trans H
section
variable {n:Nat}{u:iz}{c:gh}
def PK{A:iz}{w:Wy}(e:n<=5)(h:OU n u A c w)(q: ∀a∈A,Cl0 n a):jY [(rD' n u,J),(.lst<|A.map cD,Y),enc c,(wyD w,J)]=I ((.bl Y,J),[rS n u,lsC A,eN c,I (wyD w,J)]):=by
 cases w with
 |gv m=>exact PJ h
 |mt i j v=>obtain⟨a,b,h1,d,f,g,k,l,o,p,rfl⟩:=h;exact PH h1 d f g k l o p e
 |wd m=>obtain⟨a,h1,d⟩:=h;exact PF h1 (lh (q a<|mM h1).len e) d
abbrev fbP:FS:=fZ (sIf (ly (hJ<|fT<|iN (qI [.tuple])<|fR 3)<|ly (fT<|fU gNe (fQ<|gf (g1 kz) [fR 3])<|fQ<|fC<|.int 2)<|hJ<|fT<|gb jT [fQ<|fU gIx (fR 0)<|fQ<|fC<|.int 0,fQ<|fU gIx (fR 3)<|fQ<|fC<|.int 0]) (fZ (ip<|fC<|.bl J) gq) gq)<|fZ (sIf (hJ<|fT<|gb jY [fR 0,fR 2,fQ<|fU gIx (fR 3)<|fQ<|fC<|.int 0,fQ<|fU gIx (fR 3)<|fQ<|fC<|.int 1]) (fZ (ip<|fC<|.bl J) gq) gq)<|fZ (jZ<|jo 2<|fU gIx (fR 3)<|fQ<|fC<|.int 0) gq
def RX{A:iz}{w:Wy}{T:Sl}(d:n<=5)(f:Cl0 n c)(h:OU n u A c w)(e: ∀a∈A,Cl0 n a)(j:(Ls A)<=1000):fbP [rS n u,T,lsC A,I (sD (c,w),J)]=I (.nx [rS n u,T,lsC<|A++[c],I (sD (c,w),J)]):=by
 let δ:Dn:=[rS n u,T,lsC A,I (sD (c,w),J)]
 have g:FJ (fQ<|fU gIx (fR 0)<|fQ<|fC<|.int 0) δ (.int n):=jE (b:=J)<|jO H (jV H).r (jE H).r;have s0:fU gIx (fR 3) (fQ<|fC<|.int 0) δ=I (enc c,δ):=jO H (jV H).r (jE H).r;have s1:fU gIx (fR 3) (fQ<|fC<|.int 1) δ=I ((wyD w,J),δ):=jO H (jV H).r (jE H).r;refine(no (δ:=δ) _ ((lb (δ1:=δ) H).trans<|(lb (δ1:=δ) H).trans<|jS (b:=Y)<|iC<|jU2 (LN d f) g<|jE s0)).trans ?_;refine(no (δ:=δ) _ (jS (b:=Y)<|iC (o:=J)<|(iu (os:=[.slot 0,.slot 2,.val<|enc c,.val (wyD w,J)]) (args:=[(rD' n u,J),(.lst<|A.map cD,Y),enc c,(wyD w,J)]) (lV H<|lV H<|mI (gC s0)<|gC s1) H (by simp[gG])<|PK d h e).trans H)).trans ?_;refine(ue (i:=2) (l0:=A.map cD) (l:=A.map cD) (r:=enc c) (δ1:=δ) H s0 H<|by rw[iJ];lia).trans ?_;rw[show A.map cD++[(enc c).1]=(A++[c]).map cD by rw[lB];rfl];rfl
def HV{S:List Stp}(w:n<=5)(g:Gd n u S)(h1:1<=S.length)(m:S.length<=200):lr [(rD' n u,J),(.tup<|S.map sD,J)]=I ((.bl Y,J),[rS n u,I (.tup<|S.map sD,J)]):=by
 let T:Sl:=I (.tup<|S.map sD,J)
 obtain⟨_,⟨P,R,x,e,f,h,rfl⟩,t⟩:=rE (tg:=fW 3) (fb:=fbP) (λl δ=> ∃P R x,S=P++R/\l=R.map sD/\(∀s∈P,Cl0 n s.1)/\δ=[rS n u,T,lsC (P.map (·.1)),x]) (λd l δ U=>by
  obtain⟨P,R,x,e,f,h,p⟩:=U
  subst p
  cases R with
  |nil=>cases f
  |cons s R=>
   obtain⟨rfl,rfl⟩:=pX f;obtain⟨o,y⟩:=g P s R e;refine⟨_,_,rfl,RX (T:=T) w o y (λa v=>?_)<|by rw[e] at m;simp at m ⊢;lia,P++[s],R,_,by simp[e],rfl,λq j=>?_,by rw[lB];rfl⟩
   .obtain⟨q,j,rfl⟩:=lj.mp v;exact h q j
   .rcases nO.mp j with z|z
    .exact h q z
    .cases zf.mp z;exact o) (S.map sD) [rS n u,T,lsC [],C] ⟨[],S,C,rfl,rfl,by simp,rfl⟩
 refine iG (δ:=[rS n u,T,lsC (P.map (·.1)),x]) ⟨rfl,by decide,rfl⟩<|(no (δ:=[rS n u,T,C,C]) _ ((lb (δ1:=[rS n u,T,C,C]) H).trans<|Ce (op:= .LtE) (op':= .LtE) (i:=1) (k:=200) (jE (b:=J) H).r (jE (b:=J)<|jC (Kp<|S.map sD) (jV H).r).r (jE (b:=J) H).r (kh<|by rw[iJ];lia)<|kh<|by rw[iJ];lia)).trans ?_;exact(gc (δ1:=[rS n u,T,lsC [],C]) H).trans ((gc<|(nW H).trans t).trans<|gL H)
def C2{t:gh}(i:(Ls t)=n)(j:n<=5)(g:Cl0 n c):jH [enc t,enc c]=I ((.bl<|kC t c,J),[eN t,eN c]):=by
 have e:=DA (caps:=[0]) (fi:=gw<|gF 1) (f:=fU gEq (fQ<|fU gIx (fR 0)<|fQ<|fU PX.gSub (fQ<|gf (g1 ox) [fR 1])<|fQ<|fC<|.int 1)<|fQ<|gf (g1 Dk) [fQ<|fU (kQ .Gt) (fR 1)<|fQ<|fC<|.int 0]) (δ:=[eN t,eN c]) (l:=c.map D.int) (args:=[cD t]) (λd=>soB t<|iOf d) H H H (λd hd=>by
  obtain⟨s,h,rfl⟩:=lj.mp hd;have k:=g.2 s h;refine⟨J,?_⟩;refine(jO (Kr _ _) (jE (b:=J)<|jO (Um t s<|by rw[i];exact k) (jV H).r (jE (b:=J)<|jO (a:= .int (ab s)) H (jE (b:=J)<|jC (a:= .int s) H (jV H).r).r (jE H).r).r).r (jE (b:=J)<|jC (Qg _) (jE<|jO (Tw s 0) (jV H).r (jE H).r).r).r).trans ?_;unfold soB iOf;by_cases q:s>0
  .rw[kh q,gr q];rfl
  .rw[kF q,gD q];rfl) (by have:=g.len;simp;lia)
 rw[any_int] at e;exact Ht ⟨rfl,by decide,rfl⟩ e
abbrev UA:FS:=fZ (sIf (fT<|gf (g1 mr) [fQ<|gE [2] 1 (gw<|fU gIx (fR 0)<|fQ<|fC<|.int 1) (fW 1) gK<|gx<|gb jH [fR 0,fR 1]]) (fZ (jZ<|jo 1<|gF 2) gq) gq) gq
def HW(h:wQ n u):kr [(rD' n u,J)]=I ((.lst<|(jj n u).map cD,Y),[rS n u]):=by
 have k:=h.1
 let p:List Int->Bool:=λt=>u.all<|kC t
 have m:(kg n).length<=32:=zd k
 obtain⟨_,⟨P,R,x,a,g,rfl⟩,s⟩:=rE (tg:=fW 2) (fb:=UA) (λl δ=> ∃P R x,P++R=kg n/\l=R.map cD/\δ=[rS n u,lsC<|P.filter p,x]) (λd l δ U=>by
  obtain⟨P,R,x,a,g,q⟩:=U
  subst q
  cases R with
  |nil=>cases g
  |cons t R=>
   obtain⟨rfl,rfl⟩:=pX g;have y:=(mB (n:=n) (t:=t)<|by rw[<-a];simp).1
   let δ:Dn:=[rS n u,lsC<|P.filter p,eN t]
   have e:=mz (caps:=[2]) (fi:=gw<|fU gIx (fR 0)<|fQ<|fC<|.int 1) (f:=gb jH [fR 0,fR 1]) (δ:=δ) (δ1:=δ) (l:=u.map cD) (args:=[cD t]) (λd=>kC t<|unC d) H H H (λd hd=>by obtain⟨c,w,rfl⟩:=lj.mp hd;rw[qr];exact⟨J,jU2 (C2 y k (h.2.1.2 c w).2) (jV H)<|jV H⟩) (by have:=h.2.2.2;simp;lia)
   rw[show(u.map cD).all (λd=>kC t<|unC d)=p t by rw[tf];congr 1;funext c;simp only[bI,qr]] at e;refine⟨_,[rS n u,lsC<|(P++[t]).filter p,eN t],rfl,?_,P++[t],R,eN t,by simp[<-a],rfl,rfl⟩
   cases j:p t with
   |false=>rw[j] at e;rw[g6,show[t].filter p=[] by simp[j],tu];exact(no (δ:=δ) _ (iC e)).trans H
   |true=>
    rw[j] at e
    refine(gc ((mP<|iC e).trans (ue (i:=1) (l0:=(P.filter p).map cD) (l:=(P.filter p).map cD) (r:=enc t) (δ1:=δ) H H H (by
     rw[iJ];have:=rN p P;rw[<-a,ky] at m
     lia)))).trans ?_
    rw[g6,show[t].filter p=[t] by simp[j]];show I (Out.nx [rS n u,I (.lst<|(P.filter p).map cD++[cD t],Y),eN t])=_;rw[show(P.filter p).map cD++[cD t]=(P.filter p++[t]).map cD by rw[lB];rfl]) ((kg n).map cD) [rS n u,lsC [],C] ⟨[],kg n,C,rfl,rfl,rfl⟩
 have v:R=[]:=by simpa using g.symm
 subst v;rw[tu] at a;subst a;refine iG (δ:=[rS n u,C,x]) ⟨rfl,by decide,rfl⟩<|(gc (δ1:=[rS n u,lsC [],C]) H).trans<|(gc<|(nW (δ1:=[rS n u,lsC [],C])<|wB (o:=Y)<|jU1 (Ha k)<|jE (b:=J)<|jO H (jV H).r (jE H).r).trans s).trans<|gL H
def UI(S:List Stp):(D.tup<|S.map sD).dep<=50:=by
 have:D.depL (S.map sD)<=2:=by
  induction S with
  |nil=>simp[D.depL]
  |cons s S b=>
   have h1:(cD s.1).dep<=1:=by rw[qM];decide
   have a:(wyD s.2).dep<=1:=by cases s.2<;>simp[wyD,D.dep,D.depL]
   rw[iR,D.depL,D.dep,D.depL,D.depL,D.depL];omega
 rw[D.dep];omega
def Bz(h:wQ n u)(k:Cl0 n c)(b:Bool):gW [(rD' n u,J),(.lst<|(jj n u).map cD,b),enc c]=I ((.bl Y,J),[rS n u,I (.lst<|(jj n u).map cD,J),eN c]):=by
 have m:=h.1
 let K (b:Bool):Sl:=I (.lst<|(jj n u).map cD,b)
 have p: ∀x,gZ [(rD' n u,J),(.lst<|(jj n u).map cD,b),enc c] [rS n u,K J,eN c,x]=[rS n u,K J,eN c]:=λx=>by cases b<;>rfl
 have y:(jj n u).length<=10000:=lh (rN _ _)<|lh (zd m) (by decide)
 have o: ∀x,hJ (fT<|gf (g1 mr) [fQ<|gE [2] 1 (gw<|gF 1) (fW 1) gK<|gx<|gb jH [fR 1,fR 0]]) [rS n u,K b,eN c,x]=I (!decide (agL n u c=[]),[rS n u,K J,eN c,x]):=λx=>by
  have e:=mz (caps:=[2]) (fi:=gw<|gF 1) (f:=gb jH [fR 1,fR 0]) (δ:=[rS n u,K b,eN c,x]) (δ1:=[rS n u,K J,eN c,x]) (l:=(jj n u).map cD) (args:=[cD c]) (λd=>kC (unC d) c) H H H (λd hd=>by obtain⟨t,z,rfl⟩:=lj.mp hd;rw[qr];exact⟨J,jU2 (C2 (Af z) m k) (jV H)<|jV H⟩) (by rw[iJ];exact y)
  refine(jS<|iC e).trans ?_
  congr 3
  rw[DK,tf,decide_eq_true_iff];unfold agL;rw[IJ,lO];simp[qr]
 by_cases j:agL n u c=[]
 .obtain⟨S,w,g,l,e⟩:=Lh h k j
  let T:Sl:=I (.tup<|(S++[(c,w)]).map sD,J)
  let δ:Dn:=[rS n u,K J,eN c,T]
  have q:gb lr [fR 0,fR 3] δ=I ((.bl Y,J),δ):=jU2 (HV m g (by simp)<|by simp;lia) (jV H)<|jV H
  have s:fU gEq (fQ<|fU gIx (fQ<|fU gIx (fR 3)<|fQ<|iN jW<|fQ<|fC<|.int 1)<|fQ<|fC<|.int 0) (fR 2) δ=I ((.bl Y,J),δ):=by refine(jO (Dl<|UH c) (jE (b:=J)<|jO (a:=sD (c,w)) H (jE (b:=J)<|jO (a:= .tup ((S++[(c,w)]).map sD)) ?_ (jV H).r (jE (b:=J)<|jN (a:= .int 1) H (jE H).r).r).r (jE H).r).r (jV H).r);rw[lB];exact V2
  have v:fU gEq (fQ<|gb ki [fR 0,fR 2]) (fR 3) δ=I ((.bl Y,J),δ):=jO (Dl<|UI _) (jE<|jU2 e (jV H)<|jV H).r (jV H).r;rw[<-p T];refine iG (δ:=δ) ⟨rfl,by decide,by cases b<;>rfl⟩<|(gc<|iL (i:=3) (δ1:=[rS n u,K b,eN c,C]) (jU2 e (jV H)<|jV H) (show 3<4 by decide)).trans<|(gc<|(jJ<|(o T).trans<|by rw[kh j];rfl).trans H).trans<|gL<|je<|(pA q).trans<|(pA s).trans v
 .rw[<-p (I (.non,J))];exact iG (δ:=[rS n u,K J,eN c,I (.non,J)]) ⟨rfl,by decide,by cases b<;>rfl⟩<|(gc<|iL (i:=3) (δ1:=[rS n u,K b,eN c,C]) (jU2 (CN h k j) (jV H)<|jV H) (show 3<4 by decide)).trans<|gL<|(mP<|(o _).trans<|by rw[kF j];rfl).trans<|gL H
end
def bar:Nat->List Int->List Int
 |_,[]=>[]
 |k,b::t=>(if b=0 then(1+k:Int) else -(1+k))::bar (k+1) t
def Hb: ∀(t:gh) (k:Nat),∀s∈bar k t,(k:Int)<ab s/\ab s<=k+(Ls t):=by
 intro t
 induction t with
 |nil=>intro k s a;cases a
 |cons b t c=>
  intro k s a;rw[kY];rcases jF.mp a with rfl|z
  .unfold ab;split<;>split<;>lia
  .have:=c (k+1) s z;lia
def ML(t:gh):Cl0 (Ls t) (bar 0 t):=by
 refine⟨?_,λs a=>by have:=Hb t 0 s a;lia⟩
 have: ∀(t:gh) (k:Nat),((bar k t).map ab).Pairwise (· < ·):=by
  intro t
  induction t with
  |nil=>intro k;exact aU
  |cons b t e=>
   intro k;refine AD.mpr ⟨λx d=>?_,e<|k+1⟩;obtain⟨s,a,rfl⟩:=lj.mp d;have:=Hb t (k+1) s a;have c:ab (if b=0 then(1+k:Int) else -(1+k))=1+k:=by unfold ab;split<;>split<;>lia
   rw[c];lia
 exact this t 0
abbrev fbr:F:=fU gIx (fQ<|jL [gF 0,iN jW<|fR 0])<|fR 1
def Sa: ∀(t:gh) (k:Nat) (c:List D) (u v:Sl),(∀x∈t,x=0\/x=1)->Ls c+Ls t<=100-> ∃d f,jq (jv [fW 0,fW 1]) gK (gx fbr) (((t.map D.int).zipIdx k).map λq=> .tup [.int (1+q.2),q.1]) c [u,v]=I (c++(bar k t).map D.int,[d,f]):=by
 intro t
 induction t with
 |nil=>intro k c u v _ _;exact⟨u,v,by simp[jq,bar]⟩
 |cons b t j=>
  intro k c u v h g;rw[kY] at g;obtain⟨d,f,e⟩:=j (k+1) (c++[.int (if b=0 then(1+k:Int) else -(1+k))]) (ii (1+k)) (ii b) (λx i=>h x<|jd _ i) (by simp;lia);refine⟨d,f,?_⟩
  have f1:fbr [ii (1+k),ii b]=I ((.int (if b=0 then(1+k:Int) else -(1+k)),J),[ii (1+k),ii b]):=by refine jO (a:= .lst [.int (1+k),.int (-(1+k))]) (b:= .int b) ?_ (jE (b:=Y) H).r (jV H).r;rcases h b iX with rfl|rfl<;>rfl
  rw[iR,ew,iR,jq];rw[show jv [fW 0,fW 1] (.tup [.int (1+((.int b,k):D×Nat).2),((.int b,k):D×Nat).1]) [u,v]=I [ii (1+k),ii b] from H];simp only[iI,uE,jb,rh];rw[f1];simp only[iI];rw[gr<|qZ<|by lia];simp only[iI];rw[e,bar];simp
def MK{c:Dn}{i:Nat}{t:gh}(h:gF i c=I (enc t,c))(f: ∀x∈t,x=0\/x=1)(g:(Ls t)<=5):gf (g1 km) [fQ<|gE [] 2 (lT 1<|gF i) (jv [fW 0,fW 1]) gK<|gx fbr] c=I (enc<|bar 0 t,c):=by
 obtain⟨u,v,e⟩:=Sa t 0 [] C C f (by simp;lia)
 have d:lT 1 (gF i) c=I (((t.map D.int).zipIdx 0).map λq=> .tup [.int (1+q.2),q.1],c):=by unfold lT;rw[h];rfl
 exact jC (a:= .lst ((bar 0 t).map D.int)) H (jE (b:=Y)<|(nI (caps:=[]) (k:=2) (args:=[]) d H lC e).trans H).r
abbrev UB:F:=fU gIx (fQ<|jL [gb gz [fR 2,fQ<|fC<|.int 6],fC<|.int 3,fC<|.int 4,fC<|.int 5])<|fQ<|gb gz [fR 2,fQ<|fC<|.int 4]
section
variable {n:Nat}{ks:iz}(h:wQ n ks){z0 z1 r6 r7 r8:Sl}
abbrev dL(z0 z1:Sl)(a:Int)(b:Bool)(n:Nat)(ks:iz)(o:Bool)(c r6 r7 r8:Sl):Dn:=[z0,z1,stt a b,rS n ks,I (.lst<|(jj n ks).map cD,o),c,r6,r7,r8]
abbrev fTl:FT:=hJ<|fT<|gb gW [fR 3,fR 4,fR 7]
include h
theorem S0{c:gh}(e:Cl0 n c){a:Int}{b o:Bool}{d:Sl}:fTl (dL z0 z1 a b n ks o d r6 (eN c) r8)=I (J,dL z0 z1 a b n ks J d r6 (eN c) r8):=by
 refine jS (b:=Y)<|iC (o:=J)<|(iu (os:=[.slot 3,.slot 4,.slot 7]) (args:=[(rD' n ks,J),(.lst<|(jj n ks).map cD,o),enc c]) H H ?_<|Bz h e o).trans ?_
 .cases o<;>simp[gG]
 .cases o<;>rfl
theorem R6(w:1<=n)(a:Int)(b:Bool)(o:Bool)(m:Sl): ∃(g:Int) (L:iz),Ls L=4/\(∀c∈L,Cl0 n c)/\gE [2,3] 1 (uT<|fQ<|fC<|.int 4) (fW 2) gK (gx<|gb ik [fR 0,fQ<|fU gIx (fR 1)<|fQ<|fC<|.int 0]) (dL z0 z1 a b n ks o m r6 r7 r8)=I ((.lst<|L.map cD,Y),dL z0 z1 g b n ks o m r6 r7 r8):=by
 obtain⟨i,A,⟨g,L,x,h1,l,j,rfl⟩,e⟩:=za (tg:=fW 2) (f:=gb ik [fR 0,fQ<|fU gIx (fR 1)<|fQ<|fC<|.int 0]) (λs i t=> ∃(g:Int) (L:iz) (x:Sl),i=L.map cD/\(∀c∈L,Cl0 n c)/\(Ls L)+Ls s=4/\t=[stt g b,rS n ks,x]) (λd s i t U=>by
  obtain⟨g,L,x,h1,l,j,u⟩:=U
  subst u;subst h1;obtain⟨p,c,v,e⟩:=yW g b n w h.1;refine⟨[stt g b,rS n ks,I (d,J)],cD c,J,[stt p b,rS n ks,I (d,J)],rfl,(iu (δ1:=[stt g b,rS n ks,I (d,J)]) (os:=[.slot 0,.val (.int n,J)]) (args:=[pS g b,pI n]) (mI H<|gC<|jO H (jV H).r (jE H).r) H (nd1 0) e).trans H,by simp at j ⊢;lia,p,L++[c],I (d,J),by rw[lB];rfl,λq y=>?_,by simp at j ⊢;lia,rfl⟩;rcases nO.mp y with z|z
  .exact l q z
  .cases zf.mp z;exact v.2) (ig 0 4) [] [stt a b,rS n ks,C] ⟨a,[],C,rfl,by simp,rfl,rfl⟩
 subst h1;refine⟨g,L,by simpa using j,l,(nI (caps:=[2,3]) (k:=1) (args:=[pS a b,(rD' n ks,J)]) (δ1:=dL z0 z1 a b n ks o m r6 r7 r8) (ph (n:=4) (o:= .val (.int 4,J)) H H<|by decide) H (by simp[gG]) e).trans H⟩
theorem UO{L:iz}(y: ∀c∈L,Cl0 n c)(z:(Ls L)<=100)(a:Int)(b o p:Bool): ∃g,hJ (fT<|gf (g1 mr) [fQ<|gE [3,4] 1 (gw<|gF 5) (fW 2) gK<|gx<|gb gW [fR 0,fR 1,fR 2]]) (dL z0 z1 a b n ks o (I (.lst<|L.map cD,p)) r6 r7 r8)=I (J,dL z0 z1 a b n ks g (I (.lst<|L.map cD,J)) r6 r7 r8):=by
 let K (o:Bool):Sl:=I (.lst<|(jj n ks).map cD,o)
 obtain⟨i,B,⟨j,m,g,x,h1,r,s,t,rfl⟩,e⟩:=za (tg:=fW 2) (f:=gb gW [fR 0,fR 1,fR 2]) (λds i v=> ∃(j:iz) (m:List D) (g:Bool) (x:Sl),ds=j.map cD/\(∀c∈j,Cl0 n c)/\i=m.map (λ_=> .bl Y)/\(Ls i)+Ls j<=100/\v=[rS n ks,K g,x]) (λd ds i v U=>by
  obtain⟨j,m,g,x,h1,r,s,t,w⟩:=U
  subst w
  cases j with
  |nil=>cases h1
  |cons c j=>
   obtain⟨rfl,rfl⟩:=pX h1;refine⟨[rS n ks,K g,eN c],.bl Y,J,[rS n ks,K J,eN c],rfl,?_,by lia,j,m++[.non],J,eN c,rfl,λq A=>r q<|jd _ A,by simp[s],by simp at t ⊢;lia,rfl⟩;refine(iu (δ1:=[rS n ks,K g,eN c]) (os:=[.slot 0,.slot 1,.slot 2]) (args:=[(rD' n ks,J),(.lst<|(jj n ks).map cD,g),enc c]) H H ?_<|Bz h (r c iX) g).trans ?_
   .cases g<;>simp[gG]
   .cases g<;>rfl) (L.map cD) [] [rS n ks,K o,C] ⟨L,[],o,C,rfl,y,rfl,by simpa using z,rfl⟩
 have u:gf (g1 mr) [fQ<|gE [3,4] 1 (gw<|gF 5) (fW 2) gK<|gx<|gb gW [fR 0,fR 1,fR 2]] (dL z0 z1 a b n ks o (I (.lst<|L.map cD,p)) r6 r7 r8)=I ((.bl Y,J),wb ([3,4].map .slot) [(rD' n ks,J),(.lst<|(jj n ks).map cD,o)] (gZ [(rD' n ks,J),(.lst<|(jj n ks).map cD,o)] [rS n ks,K g,x])<|dL z0 z1 a b n ks o (I (.lst<|L.map cD,J)) r6 r7 r8):=by
  refine mw (pz<|gC<|nI (caps:=[3,4]) (k:=1) (args:=[(rD' n ks,J),(.lst<|(jj n ks).map cD,o)]) (δ1:=dL z0 z1 a b n ks o (I (.lst<|L.map cD,J)) r6 r7 r8) (l:=L.map cD) H H ?_ e) H ?_
  .cases o<;>simp[gG]
  .subst s;refine(xl (λ_=>Y) m).trans ?_;simp
 cases o with
 |true=>exact⟨g,jS (b:=Y)<|iC u⟩
 |false=>exact⟨J,jS (b:=Y)<|iC u⟩
end
abbrev fBr(i:Nat):F:=gf (g1 km) [fQ<|gE [] 2 (lT 1<|gF i) (jv [fW 0,fW 1]) gK<|gx fbr]
abbrev fGt:FT:=fT<|fU (kQ .Gt) (fQ<|fU gIx (fR 3)<|fQ<|fC<|.int 0)<|fQ<|fC<|.int 0
abbrev fI5:FS:=sIf fGt (fZ (iT 5<|fU jX (fR 5)<|fQ<|gE [2,3] 1 (uT<|fQ<|fC<|.int 4) (fW 2) gK<|gx<|gb ik [fR 0,fQ<|fU gIx (fR 1)<|fQ<|fC<|.int 0]) gq) gq
abbrev fI7:FS:=sIf (mx (fT<|fU gNe (fR 4)<|fQ<|jL []) fGt) (fZ (iT 6<|fU gIx (fR 4)<|fQ<|gb gz [fR 2,fQ<|gf (g1 kz) [fR 4]])<|fZ (iT 7<|fBr 6)<|fZ (sIf fTl rF gq) gq) gq
abbrev fb8:FS:=fZ (iT 7<|fBr 8)<|fZ (sIf fTl rF gq) gq
abbrev Pp:FS:=fZ (iT 2<|gb kR [fR 0,fR 1])<|fZ (iT 3<|gb kT [fR 2,fQ UB])<|fZ (iT 4<|gb kr [fR 3])<|fZ (iT 5<|fU jX (fQ<|jL [iP []])<|fQ<|gf (g1 uW) [fQ<|nH (fQ<|fU gIx (fR 3)<|fQ<|fC<|.int 1)<|fQ<|fC<|.int 2])<|fZ fI5<|fZ (sIf (hJ<|fT<|gf (g1 mr) [fQ<|gE [3,4] 1 (gw<|gF 5) (fW 2) gK<|gx<|gb gW [fR 0,fR 1,fR 2]]) rF gq)<|fZ fI7<|fZ (rL (gw<|nH (fQ<|gb kj [fQ<|fU gIx (fR 3)<|fQ<|fC (.int 0)])<|fQ<|fC<|.int 2) (fW 8) fb8) gq
section
variable {n:Nat}{ks:iz}(h:wQ n ks){z0 z1:Sl}
theorem Pl(a:Int)(b o:Bool)(c r6 r7 r8:Sl):fGt (dL z0 z1 a b n ks o c r6 r7 r8)=I (decide (0<n),dL z0 z1 a b n ks o c r6 r7 r8):=by
 refine(iC<|jO (Tw (n:Int) 0) (jE (b:=J)<|jO H (jV H).r (jE H).r).r (jE H).r).trans ?_
 congr 3
 simp
include h
theorem Uu(a:Int)(b o:Bool){L:iz}(j: ∀c∈L,Cl0 n c)(q:(Ls L)<=3)(r6 r7 r8:Sl): ∃(d:Int) (f:iz),(∀c∈f,Cl0 n c)/\(Ls f)<=7/\fI5 (dL z0 z1 a b n ks o (lsC L) r6 r7 r8)=I (.nx<|dL z0 z1 d b n ks o (lsC f) r6 r7 r8):=by
 have t:=Pl (n:=n) (ks:=ks) (z0:=z0) (z1:=z1) a b o (lsC L) r6 r7 r8;by_cases g:0<n
 .obtain⟨d,M,r,p,e⟩:=R6 h (z0:=z0) (z1:=z1) (r6:=r6) (r7:=r7) (r8:=r8) g a b o<|lsC L;refine⟨d,L++M,λc k=>(nO.mp k).elim (j c)<|p c,by simp;lia,(mP<|t.trans<|by rw[kh g]).trans<|(gc<|iL (i:=5) (δ1:=dL z0 z1 d b n ks o (lsC L) r6 r7 r8) (jQ (o1:= .slot 5) H (gC e) H H<|Sm (l:=L.map cD) (m:=M.map cD) (by simp;lia)<|by simp;lia) (show 5<9 by decide)).trans ?_⟩;rw[<-lB];rfl
 .exact⟨a,L,j,by lia,(jJ<|t.trans<|by rw[kF g]).trans H⟩
theorem Ut(a:Int)(b o:Bool)(c r6 r7 r8:Sl): ∃(g:Int) (w:Bool) (y z:Sl),fI7 (dL z0 z1 a b n ks o c r6 r7 r8)=I (.nx<|dL z0 z1 g b n ks w c y z r8):=by
 let d:=dL z0 z1 a b n ks o c r6 r7 r8
 have A:(jj n ks).length<=32:=lh (rN _ _)<|zd h.1;have m:fT (fU gNe (fR 4)<|fQ<|jL []) d=I (!decide (jj n ks=[]),d):=iC<|jO (GR _) (jR H) (jE (b:=Y) H).r;by_cases j:jj n ks=[]
 .exact⟨a,o,r6,r7,(jJ (δ1:=d)<|by unfold mx;rw[m,kh j];rfl).trans H⟩
 have x:=Pl (n:=n) (ks:=ks) (z0:=z0) (z1:=z1) a b o c r6 r7 r8
 have p:mx (fT<|fU gNe (fR 4)<|fQ<|jL []) fGt d=I (decide (0<n),d):=by unfold mx;rw[m,kF j];exact x
 by_cases l:0<n
 .have B:0<(jj n ks).length:=JH.mpr j;obtain⟨v,g,U,E,e⟩:=ym a b (jj n ks).length (by lia) (by lia);have hv:v.toNat<(jj n ks).length:=by lia
  let t:=(jj n ks)[v.toNat]
  have k:=mB (zG.mp (show t∈(kg n).filter _ from xM hv)).1
  let f:=dL z0 z1 g b n ks o c (eN t) r7 r8
  have q:fU gIx (fR 4) (fQ<|gb gz [fR 2,fQ<|gf (g1 kz) [fR 4]]) d=I (enc t,dL z0 z1 g b n ks o c r6 r7 r8):=by refine jQ (o1:= .slot 4) (o2:= .val (.int v,J)) (δ1:=d) H (gC<|e _ z0 z1 [rS n ks,I (.lst<|(jj n ks).map cD,o),c,r6,r7,r8] (.val (.int (jj n ks).length,J)) (gC<|(jC (BB<|(jj n ks).map cD)<|jR H).trans<|by rw[iJ]) rfl) H H ?_;rw[show v=((v.toNat:Nat):Int) by lia];exact ixL (by rw[iW,gY hv];rfl)
  have s:fBr 6 f=I (enc<|bar 0 t,f):=MK H k.2 (by rw[k.1];exact h.1);have u:Cl0 n (bar 0 t):=by have:=ML t;rwa [k.1] at this
  exact⟨g,J,eN t,eN<|bar 0 t,(mP<|p.trans<|by rw[kh l]).trans<|(gc (δ1:=f)<|iL (i:=6) q (show 6<9 by decide)).trans<|(gc<|iL (i:=7) s (show 7<9 by decide)).trans<|(gc<|(jJ<|S0 h u).trans H).trans H⟩
 .exact⟨a,o,r6,r7,(jJ<|p.trans<|by rw[kF l]).trans H⟩
theorem UD(a:Int)(b o:Bool)(k r6 r7 r8:Sl): ∃(f:Bool) (g m:Sl),rL (gw<|nH (fQ<|gb kj [fQ<|fU gIx (fR 3)<|fQ<|fC<|.int 0])<|fQ<|fC<|.int 2) (fW 8) fb8 (dL z0 z1 a b n ks o k r6 r7 r8)=I (.nx<|dL z0 z1 a b n ks f k r6 g m):=by
 let c:=dL z0 z1 a b n ks o k r6 r7 r8
 have w:gw (nH (fQ<|gb kj [fQ<|fU gIx (fR 3)<|fQ<|fC<|.int 0])<|fQ<|fC<|.int 2) c=I (((kg n).take 2).map cD,c):=by
  have e:=jU1 (Ha h.1) (jE (b:=J) (jO H (jV H).r (jE H).r):FJ (fQ<|fU gIx (fR 3)<|fQ<|fC<|.int 0) c (.int n))
  have y:nH (fQ<|gb kj [fQ<|fU gIx (fR 3)<|fQ<|fC<|.int 0]) (fQ<|fC<|.int 2) c=I ((.lst<|((kg n).take 2).map cD,Y),c):=by rw[AF,<-Fv ((kg n).map cD) 2];unfold nH;rw[gC e];rfl
  exact wB y
 obtain⟨_,⟨f,g,m,_,rfl⟩,s⟩:=rE (tg:=fW 8) (fb:=fb8) (λl c=> ∃f g m,(∀d∈l,∃t∈kg n,d=cD t)/\c=dL z0 z1 a b n ks f k r6 g m) (λd l c U=>by
  obtain⟨f,g,m,h1,u⟩:=U
  subst u;obtain⟨t,j,rfl⟩:=h1 d iX;have j:=mB j;have v:Cl0 n (bar 0 t):=by have:=ML t;rwa [j.1] at this
  have p:fBr 8 (dL z0 z1 a b n ks f k r6 g<|eN t)=I (enc<|bar 0 t,dL z0 z1 a b n ks f k r6 g<|eN t):=MK H j.2 (by rw[j.1];exact h.1)
  exact⟨_,_,rfl,(gc<|iL (i:=7) p (show 7<9 by decide)).trans<|(gc<|(jJ<|S0 h v).trans H).trans H,J,_,_,λq x=>h1 q<|jd _ x,rfl⟩) (((kg n).take 2).map cD) c ⟨o,r7,r8,λd hd=>by obtain⟨t,j,rfl⟩:=lj.mp hd;exact⟨t,qg j,rfl⟩,rfl⟩
 exact⟨f,g,m,(nW w).trans s⟩
end
def Mm(u:gh)(k:Nat)(E j g h e f d:Sl): ∃I' O Q T G J' N,Pp [I (.lst<|u.map .int,J),ii k,E,j,g,h,e,f,d]=I (.nx [I (.lst<|u.map .int,J),ii k,I',O,Q,T,G,J',N]):=by
 let z0:Sl:=I (.lst<|u.map .int,J)
 obtain⟨a,b,U⟩:=J3 u k;obtain⟨v,a1,v0,v1,Y⟩:=ym a b 6 (by lia) (by lia);obtain⟨w,s,w0,w1,D⟩:=ym a1 b 4 (by lia) (by lia);obtain⟨n,C⟩: ∃n:Nat,(if w=0 then v else w+2)=n:=⟨(if w=0 then v else w+2).toNat,by split<;>lia⟩
 have hn:n<=5:=by split at C<;>lia
 obtain⟨t,o,p,F⟩:=EI s b n hn
 let δ:Int->Sl->Sl->Dn:=λa x y=>[z0,ii k,stt a b,x,y,h,e,f,d]
 have hx:UB (δ a j g)=I ((.int n,J),δ s j g):=by refine jQ (o1:= .val (.lst [.int v,.int 3,.int 4,.int 5],KE)) (o2:= .val (.int w,J)) (δ1:=δ a1 j g) (gC<|GU (os:=[.val (.int v,J),.val (.int 3,J),.val (.int 4,J),.val (.int 5,J)]) (ds:=[.int v,.int 3,.int 4,.int 5]) (lV (gC<|Y _ z0 (ii k) [j,g,h,e,f,d] (.val (.int 6,J)) rfl rfl) K3) K3<|rd (by show 4<=10000;decide)) (gC<|D _ z0 (ii k) [j,g,h,e,f,d] (.val (.int 4,J)) rfl rfl) K3 K3 (z:=(.int n,J)) ?_;rw[<-C];rcases(show w=0\/w=1\/w=2\/w=3 by lia) with rfl|rfl|rfl|rfl<;>rfl
 let q:=dL z0 (ii k) t b n o KE
 let L:=[]::o.take 2
 have W: ∀c∈L,Cl0 n c:=λc X=>by
  rcases jF.mp X with rfl|z
  .exact⟨aU,by simp⟩
  .exact(p.2.1.2 c<|qg z).2
 have Z:(Ls L)<=3:=by simp[L];lia
 have K:fU jX (fQ<|jL [iP []]) (fQ<|gf (g1 uW) [fQ<|nH (fQ<|fU gIx (fR 3)<|fQ<|fC<|.int 1)<|fQ<|fC<|.int 2]) (q h e f d)=I ((.lst<|L.map cD,KE),q h e f d):=by
  have sl:nH (fQ<|fU gIx (fR 3)<|fQ<|fC<|.int 1) (fQ<|fC<|.int 2) (q h e f d)=I ((.tup<|(o.take 2).map cD,J),q h e f d):=by rw[AF,<-Fv (o.map cD) 2];rfl
  exact jO (Sm (l:=[cD []]) (m:=(o.take 2).map cD) (by simp)<|by simp;lia) (jE (b:=KE) K3).r (jE (b:=KE)<|jC (a:= .tup ((o.take 2).map cD)) K3 (jE sl).r).r
 obtain⟨A,M,m1,m2,P⟩:=Uu p (z0:=z0) (z1:=ii k) t b KE W Z e f d;obtain⟨o1,R⟩:=UO p (z0:=z0) (z1:=ii k) (r6:=e) (r7:=f) (r8:=d) m1 (by lia) A b KE KE;obtain⟨B,o2,H,y7,S⟩:=Ut p (z0:=z0) (z1:=ii k) A b o1 (I (.lst<|M.map cD,J)) e f d;obtain⟨o3,u7,u8,V⟩:=UD p (z0:=z0) (z1:=ii k) B b o2 (I (.lst<|M.map cD,J)) H y7 d;refine⟨stt B b,rS n o,I (.lst<|(jj n o).map cD,o3),I (.lst<|M.map cD,J),H,u7,u8,(gc<|iL (i:=2) (δ1:=[z0,ii k,E,j,g,h,e,f,d]) (jU2 U (jV K3)<|jV K3) (show 2<9 by decide)).trans ?_⟩;refine(gc<|iL (i:=3) (δ1:=δ t j g) ((iu (δ1:=δ s j g) (os:=[.slot 2,.val (.int n,J)]) (args:=[pS s b,pI n]) (mI K3<|gC hx) K3 (nd1 2) F).trans K3) (show 3<9 by decide)).trans ?_;refine(gc (δ1:=q h e f d)<|iL (i:=4) (δ1:=δ t (rS n o) g) (jU1 (HW p)<|jV K3) (show 4<9 by decide)).trans ?_;refine(gc<|iL (i:=5) K (show 5<9 by decide)).trans ?_;exact(gc P).trans ((gc<|(jJ R).trans K3).trans<|(gc S).trans<|(gc V).trans K3)
abbrev δ63(a:Sl):Dn:=[a,C,C,C,C,C,C,C,C]
def Tu:wQ 0 []:=⟨by decide,⟨lC,by simp⟩,aU,by decide⟩
def Tt:wQ 1 [[-1],[1]]:=⟨by decide,⟨by decide,λc a=>by
 rcases jF.mp a with rfl|z
 .exact⟨by decide,by decide,by decide⟩
 .cases zf.mp z;exact⟨by decide,by decide,by decide⟩⟩,by unfold SrtC;decide,by decide⟩
def t63(d:Sl):ly (fT<|fU wD (fQ<|gb ki [fQ<|iP [fC<|.int 0,iP []],fQ<|iP []])<|fQ<|fC .non) (hJ<|fT<|gb gW [fQ<|iP [fC<|.int 1,iP [iP [iN jW<|fQ<|fC<|.int 1],iP [fC<|.int 1]]],fQ<|jL [],fQ<|iP []]) (δ63 d)=I (J,δ63 d):=by
 have f:Cl0 0 []:=⟨aU,by simp⟩
 have h1:Cl0 1 []:=⟨aU,by simp⟩
 have e:=CN Tu f (by decide);have c:=Bz Tt h1 J;rw[show jj 1 [[-1],[1]]=[] by decide] at c;exact(lb<|iC (o:=J)<|jO (a:= .non) H (jE<|jU2 e (jE (b:=J) H)<|jE (b:=J) H).r (jE H).r).trans (jS (b:=Y)<|iC<|Uk c (jE (b:=J) H) (jE (b:=Y) H)<|jE (b:=J) H)
def Sw(a:gh)(y:(Ls a)<=63): ∃o n,sA [(.lst<|a.map .int,J)]=I ((.bl Y,o),n):=by
 let b:Sl:=I (.lst<|a.map .int,J)
 let N:Nat:=if 1<min (Ls a) 5 then min (Ls a) 5 else 1
 obtain⟨_,⟨p,c,f,g,i,j,l,m,_,rfl⟩,e⟩:=rE (tg:=fW 1) (fb:=Pp) (λds δ=> ∃p c f g i j l m,(∀d∈ds,∃k:Nat,d= .int k)/\δ=[b,p,c,f,g,i,j,l,m]) (λd ds δ U=>by
  obtain⟨p,c,f,g,i,j,l,m,h1,h⟩:=U
  subst h;obtain⟨k,rfl⟩:=h1 d iX;obtain⟨g2,g3,s,t,u,v,w,e⟩:=Mm a k c f g i j l m
  exact⟨_,_,rfl,e,_,_,_,_,_,_,_,_,λx r=>h1 x<|jd _ r,rfl⟩) (ig 0 N) (δ63 b) ⟨C,C,C,C,C,C,C,C,λd hd=>by obtain⟨k,_,rfl⟩:=lj.mp hd;exact⟨k,by simp⟩,rfl⟩
 refine⟨J,_,iG (δ:=[b,p,c,f,g,i,j,l,m]) ⟨rfl,by decide,rfl⟩ ?_⟩;refine(no (δ:=δ63 b) _ (t63 b)).trans ?_;refine(gc<|(nW (ds:=ig 0 N) (δ1:=δ63 b) ?_).trans e).trans (gL H);refine ph (o:= .val (.int N,J)) (gC ?_) H (by simp only[N];split<;>lia)
 have q:(N:Int)=if(if(5:Int)<(Ls a) then 5 else((Ls a):Int))>1 then(if(5:Int)<(Ls a) then 5 else((Ls a):Int)) else 1:=by simp only[N];split<;>split<;>split<;>lia
 rw[q];simp[b,δ63]
end PV
def K63.main(b:gh)(c:(Ls b)<=63): ∃o a,PV.sA [(.lst<|b.map .int,J)]=I ((.bl Y,o),a):=PV.Sw b c
structure PySem.W.Fast:Prop where(tw4197785868718626072 tw1783745682303934540 tw13643796813021745597 tw12441941995441397370 tw14629066609598487011 tw9673811500845207249 tw6581723863833965164 tw13210087535460353637 tw7394778358263632635 tw5272497015456458621 tw11283327651809641671 tw14705300600381813581 tw4360493636315133875 tw2499036508207201709 tw193671049743536120 tw8890577353956555606 tw12318589942794577110 tw13537114631984947479 tw9399833643389114123 tw3406835714537341453 tw17668604642721972604 tw17566226409417474902 tw6284039568619881704 tw15909648665152960824 tw14039078413703048705 tw7097078621636294439 tw12996919134409988188 tw18247346214481757952 tw2254210199599289504 tw14736638122640158259 tw7686564989428908353 tw1927790216382896892 tw3733977735017191105 tw7143850075869860299 tw9899105903515694987 tw654043328607244494 tw16962004932596494255 tw6598039681732071469 tw9686611068373868940 tw6333878308374302804 tw15697308409667886230 tw13107466858601909324 tw7577924455538013851 tw9372230777995744327 tw10726522599761557504 tw784055819923233394 tw17072845941486514893 tw304269310727185134 tw3370574263391041538 tw1547976162649309864 tw3514896042285379501 tw8085844807948226731 tw17273662553556367830 tw9191875118426766381 tw16850406628754822970 tw4850774330016827616 tw12310532868550154369 tw12644577780535896036 tw3449396593519406253 tw3643598164007098402 tw9008877532143799117 tw1808875979952638339 tw7233322817813020036 tw4243298549402838062 tw14619250953704873099 tw8378212512620344176 tw645479098810484048 tw12602225362748115120 tw10073539858270872417 tw5966042593271420249 tw14849471072621760668 tw9268532089384798245 tw4444559242480574601 tw11977197990784066631 tw16165678103420075372 tw14466177276336546070 tw7533084846651140219 tw319784000804078006 tw4534337759784857765 tw278295610138381745 tw10064793635246665782 tw2867082212701926966 tw935069344260739030 tw16221136423737438070 tw2224086887161801567 tw3191982167998328388 tw4762078027885210775 tw18151982359455677000 tw5357629215189815053 tw654597780870568038 tw17917343968336942455 tw5272962191409696296 tw8753992827801048148 tw12911737302139894723 tw7861467530692950888 tw5607956427770921925 tw14957138042036697068 tw14455773907809504938 tw4901279343053727454 tw11005469172340047131 tw17084735297594586461 tw2056059949088881329 tw11655037086356986987 tw14664386545491313653 tw13845922617444779301 tw10351003508684940801 tw8312293061185862346 tw13819802699363776618 tw8583799749703408393 tw8279172935715331024 tw17197705378040101532 tw3059608567607943186 tw9036813530071378564 tw2320427262060943138 tw6523993245495818715 tw6619332389880510839 tw14866979398816116784 tw5589710545320176287 tw1706744699825926356 tw6669018988257887540 tw14214602230485976696 tw1311038136804478255 tw7741340899788095101 tw2074131437548828548 tw14171295721838239596 tw12991530291219631549 tw7387504660433533787 tw5677001155484832086 tw17179530948175866179 tw10572700578645621866 tw8747848750916427877 tw405039197843343239 tw9709046302008485297 tw9879905835253262752 tw3492674274528951564 tw17933743783299354820 tw9952783442674320461 tw12413533662201797818 tw10085678406892453126 tw3232079094680821269 tw8845574521447830122 tw3921901155515530802 tw14812220093344792501 tw6458824266340309463 tw6815111899612507839 tw7215836916276224464 tw3225071770272930495 tw15347329025472268111 tw5033240848387121325 tw12942012702140071475 tw12716434349366509219 tw8102626206522613485 tw15524301838063125256 tw4220962697335281248 tw18137167259110167733 tw3720115480044624757 tw17360278454685027802 tw12859004826089024680 tw6017051221122452191 tw296488171515211346 tw14690901104229839268 tw16999265735435135214 tw5691349260095613144 tw17507879176002380804 tw6386925147545351960 tw2839878108470924386 tw1195432169093348004 tw17082465311900577499 tw16610748778514353993 tw9979072824672320221 tw8373886173366508110 tw2595496010751488878:True)
open PySem PySem.W PyProof.Rows PX
set_option maxRecDepth 100000 in
set_option maxHeartbeats 0 in
theorem PySem.Challenge.cw_twinriddles_k63_papers_told_holds : PySem.Challenge.rw_twinriddles_k63_papers_told.Holds := by
  w_on; o_law; k_head; (case hw => w_witness2)
  k_fill
  refine walkG (l:=Challenge.rw_twinriddles_k63_papers_told) (LV:=12) (x:="_law_script") ⟨rfl,by decide,by decide,rfl⟩ rfl rfl (fun w h Y=>kIn_of Y) ?F K63.main
  case F =>
   intro w mg fa h KX G hmg
   refine' K63.all_mk hmg (txK KX G ?_ ?_ ?_ ?_ ?_ ?_ ?_ ?_ ?_ ?_ ?_ ?_ ?_ ?_ ?_ ?_) ?_ ?_ ?_ ?_ ?_ ?_ ?_ ?_ ?_ ?_ ?_ ?_ ?_ ?_ ?_ ?_ ?_ ?_ ?_ ?_ ?_ ?_ ?_ ?_ ?_ ?_ ?_ ?_ ?_ ?_ ?_ ?_ ?_ ?_ ?_ ?_ ?_ ?_ ?_ (mgI KX G ?_)<;>try first|refine' fz KX G ?_ ?_ ?_ ?_<;>try k_is|k_is|kernel_rfl
